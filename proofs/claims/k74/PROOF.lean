import PyProof.Rows.All
import Wide.All
import OpenK.AllK
import Wide.FinOn
import Lean
import PyProof.EqAt
import PyProof.EqKinds
import PyProof.TupleCall
import PyProof.NeData
import PyProof.AttrMissHeap
import PyProof.FactsAll.enumerate_1
import KE.KDictOf
import PyProof.EnumMake
import PyProof.Rows.SumAny
import PyProof.Rows.StrJoin2
import PyProof.Rows.CountFlat
import PyProof.Rows.FoldWordsD
import PyProof.Rows.SeqMore2
import PyProof.Rows.MinMaxN
import PyProof.Rows.StrInSeq3
import PyProof.Rows.ReprR
import PyProof.StrLawsRepr
import PyProof.StrOps2
import PyProof.Rows.SeqMore
import PyProof.DictItems
import KE.KPairComp
import PySem.Challenge.RW_pointways_k74_whole_times_by_ways
set_option genSizeOfSpec false
noncomputable section
set_option Elab.async false
set_option linter.all false
set_option maxRecDepth 100000
namespace L2
open PySem PySem.Spec PyProof.Rows
abbrev Key:=Sum Int Str
def keyIs:Key→Value→Bool
  | .inl k,v=>Value.isInt k v
  | .inr x,v=>Value.isStrOf x v
def keyH (w:World):Key→Int
  | .inl k=>hashInt k
  | .inr x=>hashStr w x
theorem keyIs_shape:∀{k:Key} {v:Value},keyIs k v=true→(∃i t,k=Sum.inl i∧v=Value.int i t)∨(∃x t,k=Sum.inr x∧v=Value.str x t)
  | .inl i,v,h=>by
    obtain ⟨t,e⟩:=Value.isInt_shape (k:=i) (v:=v) h
    exact .inl ⟨i,t,rfl,e⟩
  | .inr x,v,h=>by
    obtain ⟨t,e⟩:=Value.isStrOf_shape (x:=x) (v:=v) h
    exact .inr ⟨x,t,rfl,e⟩
theorem keyIs_int (i:Int) (t:Tok):keyIs (.inl i) (.int i t)=true:=by simp [keyIs,Value.isInt]
theorem keyIs_str (x:Str) (t:Tok):keyIs (.inr x) (.str x t)=true:=by simp [keyIs,Value.isStrOf]
theorem key_ll (a b:Int):decide ((Sum.inl a:Key)=Sum.inl b)=(a == b):=by
  by_cases e:a=b
  ·subst e;simp
  · have h:¬(Sum.inl a:Key)=Sum.inl b:=fun q=>e (Sum.inl.inj q)
    rw [decide_eq_false h]
    exact (beq_eq_false_iff_ne.mpr e).symm
theorem key_rr (a b:Str):decide ((Sum.inr a:Key)=Sum.inr b)=decide (a=b):=by
  by_cases e:a=b
  ·subst e;simp
  · have h:¬(Sum.inr a:Key)=Sum.inr b:=fun q=>e (Sum.inr.inj q)
    rw [decide_eq_false h,decide_eq_false e]
theorem key_lr (a:Int) (b:Str):decide ((Sum.inl a:Key)=Sum.inr b)=false:=decide_eq_false (fun q=>nomatch q)
theorem key_rl (a:Str) (b:Int):decide ((Sum.inr a:Key)=Sum.inl b)=false:=decide_eq_false (fun q=>nomatch q)
def mixKind (prog:Program) (w:World):PySem.KeyKind prog w Key where
  is:=keyIs
  hash:=keyH w
  inj:=fun v a b ha hb=>by
    rcases keyIs_shape ha with ⟨i,t,rfl,rfl⟩ | ⟨x,t,rfl,rfl⟩
    · rcases keyIs_shape hb with ⟨j,u,rfl,e⟩ | ⟨y,u,rfl,e⟩
      ·injection e with e1 _;rw [e1]
      ·exact nomatch e
    · rcases keyIs_shape hb with ⟨j,u,rfl,e⟩ | ⟨y,u,rfl,e⟩
      ·exact nomatch e
      ·injection e with e1 _;rw [e1]
  byValue:=fun k v h=>by
    rcases keyIs_shape h with ⟨i,t,rfl,rfl⟩ | ⟨x,t,rfl,rfl⟩ <;> rfl
  pyHash:=fun hv h=>by
    rcases keyIs_shape hv with ⟨i,t,rfl,rfl⟩ | ⟨x,t,rfl,rfl⟩
    ·exact wpAny_pyHash_int h
    ·exact wpAny_pyHash_str h
  eqBool:=fun hu hv h=>by
    rcases keyIs_shape hu with ⟨i,t,rfl,rfl⟩ | ⟨x,t,rfl,rfl⟩
    · rcases keyIs_shape hv with ⟨j,u,rfl,rfl⟩ | ⟨y,u,rfl,rfl⟩
      ·rw [key_ll] at h;exact wpAny_eqBool_int h
      ·rw [key_lr] at h;exact SeqAt.EqAt.int_str i t y u _ _ _ _ h
    · rcases keyIs_shape hv with ⟨j,u,rfl,rfl⟩ | ⟨y,u,rfl,rfl⟩
      ·rw [key_rl] at h;exact SeqAt.EqAt.str_int x t j u _ _ _ _ h
      ·rw [key_rr] at h;exact wpAny_eqBool_str h
  «strs»:=fun k x t v h=>by
    rcases keyIs_shape h with ⟨i,u,rfl,e⟩ | ⟨y,u,rfl,e⟩
    ·exact nomatch e
    · injection e with e1 _
      subst e1
      cases v <;> rfl
theorem mixKind_int (prog:Program) (w:World) (i:Int) (t:Tok):(mixKind prog w).is (.inl i) (.int i t)=true:=keyIs_int i t
theorem mixKind_str (prog:Program) (w:World) (x:Str) (t:Tok):(mixKind prog w).is (.inr x) (.str x t)=true:=keyIs_str x t
inductive V where
  | non | bl (b:Bool) | int (i:Int) | str (x:Str) | byt (b:Array UInt8) | flt (b:UInt64) | ref (a:Addr) | ty (n:String)
  deriving DecidableEq
def RelV:V→Value→Prop
  | .non,u=>u=Value.none
  | .bl b,u=>u=Value.bool b
  | .int i,u=>∃t,u=Value.int i t
  | .str x,u=>∃t,u=Value.str x t
  | .byt b,u=>∃t,u=Value.bytes b t
  | .flt b,u=>∃t,u=Value.float b t
  | .ref a,u=>u=Value.ref a
  | .ty n,u=>u=Value.type n
abbrev Vals:List V→List Value→Prop:=Paired RelV
theorem Vals.length {xs:List V} {us:List Value} (r:Vals xs us):xs.length=us.length:=Paired.length r
theorem Vals.get:∀{xs:List V} {us:List Value} {i:Nat} {x:V},Vals xs us→xs[i]? = some x→∃u,us[i]? = some u∧RelV x u
  | _,_,_,_,.nil,e=>by simp at e
  | _,_,0,_,.cons r _,e=>by simp at e;subst e;exact ⟨_,rfl,r⟩
  | _,_,i+1,x,.cons _ t,e=>by
    obtain ⟨u,h1,h2⟩:=Vals.get (i:=i) (x:=x) t (by simpa using e)
    exact ⟨u,by simpa using h1,h2⟩
theorem Vals.set {x:V} {u:Value} (r:RelV x u):∀{xs:List V} {us:List Value} (i:Nat),Vals xs us→Vals (xs.set i x) (us.set i u)
  | _,_,_,.nil=>.nil
  | _,_,0,.cons _ t=>.cons r t
  | _,_,i+1,.cons q t=>.cons q (Vals.set r i t)
theorem Vals.append:∀{xs ys:List V} {us ws:List Value},Vals xs us→Vals ys ws→Vals (xs++ys) (us++ws)
  | _,_,_,_,.nil,s=>s
  | _,_,_,_,.cons r t,s=>.cons r (Vals.append t s)
theorem Vals.take:∀{xs:List V} {us:List Value} (n:Nat),Vals xs us→Vals (xs.take n) (us.take n)
  | _,_,0,_=>.nil
  | _,_,_+1,.nil=>.nil
  | _,_,n+1,.cons r t=>.cons r (Vals.take n t)
theorem Vals.drop:∀{xs:List V} {us:List Value} (n:Nat),Vals xs us→Vals (xs.drop n) (us.drop n)
  | _,_,0,r=>r
  | _,_,_+1,.nil=>.nil
  | _,_,n+1,.cons _ t=>Vals.drop n t
def RelO:Option V→Option Value→Prop
  | some v,some u=>RelV v u
  | none,none=>True
  | _,_=>False
def KV {κ:Type}:List (κ×V)→List (κ×Value)→Prop:=Paired fun (p:κ×V) (q:κ×Value)=>p.1=q.1∧RelV p.2 q.2
def kV:Key→V
  | .inl i=>.int i
  | .inr x=>.str x
inductive HO where
  | lst (xs:List V)
  | tup (xs:List V)
  | dK (kvs:List (Key×V)) | dT (kvs:List (List Key×V))
  | set (S:Int→Bool) (n:Nat)
  | ins (C dx:Addr) (fs:List (Str×V))
  | own (x:Addr)
  | xd (fs:List (Str×V))
  | met (f x:Addr)
  | rng (lo hi:Int)
  | frz (o:Obj) (u:HO)
  | tbl (ps:Array Value)
  | ext (φ:Heap→Prop)
abbrev Hp:=Addr→Option HO
def upd (H:Hp) (a:Addr) (o:HO):Hp:=fun b=>if b=a then some o else H b
theorem upd_same {H:Hp} {a:Addr} {o:HO}:upd H a o a=some o:=by unfold upd;rw [if_pos rfl]
theorem upd_ne {H:Hp} {a b:Addr} {o:HO} (h:b≠a):upd H a o b=H b:=by unfold upd;rw [if_neg h]
theorem ne_of {H:Hp} {a b:Addr} {o u:HO} (h:H a=some o) (h':H b=some u) (d:o≠u):a≠b:=by
  intro e;subst e;rw [h] at h';exact d (Option.some.inj h')
theorem ne_of_none {H:Hp} {a b:Addr} {o:HO} (h:H a=some o) (h':H b=none):a≠b:=by
  intro e;subst e;rw [h] at h';cases h'
section
variable (P:Program) (w:World)
def ObjOk (H:Hp) (h:Heap) (a:Addr):HO→Prop
  | .lst xs=>xs.length≤sizeLine∧∃(its:List Value) (n:Nat),Vals xs its∧h.get? a=some {cls:=.type "list",data:=.seq its.toArray n}
  | .tup xs=>xs.length≤sizeLine∧∃its:List Value,Vals xs its∧IsTup h a its.toArray
  | .dK kvs=>kvs.length≤sizeLine∧(a == sysModules)=false∧∃vs,KV kvs vs∧h.DictOf (mixKind P w) a vs
  | .dT kvs=>kvs.length≤sizeLine∧(a == sysModules)=false∧∃xs:List (List Key×Addr×Value),
      Paired (fun (p:List Key×V) (q:List Key×Addr×Value)=>p.1=q.1∧H q.2.1=some (.tup (p.1.map kV))∧RelV p.2 q.2.2) kvs xs∧
      ∃o es ep,h.get? a=some o∧o.ExactDict∧o.data = .dict es ep∧es.toList=xs.map (entryOfKey (tupleKind (mixKind P w)))∧(xs.map (·.1)).Nodup
  | .set S n=>h.SetOf (intKind P w) a S n
  | .ins C dx fs=>H dx=some (.own a)∧fs.length≤1000∧dx≠a∧h.get? a=some (PySem.W.instObj C dx)∧
      ∃mA,h.Ns1 dx mA∧(∀f,RelO (fs.lookup f) (mA f))∧PySem.Within mA (fs.map (·.1))
  | .own _=>∃o,h.get? a=some o
  | .xd fs=>∃mA,h.Ns1 a mA∧∀f,RelO (fs.lookup f) (mA f)
  | .rng lo hi=>∃t u v,h.get? a=some {cls:=.type "range",data:=.fields #[.int lo t,.int hi u,.int 1 v]}
  | .frz o u=>h.get? a=some o∧ObjOk H h a u
  | .tbl ps=>h.get? a=some {cls:=.none,data:=.fields ps}
  | .met f x=>h.get? a=some (PySem.W.methodObj (.ref f) (.ref x))
  | .ext φ=>φ h∧(∃o,h.get? a=some o)∧∀h1 h2:Heap,φ h1→(∀o,h1.get? a=some o→h2.get? a=some o)→φ h2
def HOk (H:Hp) (h:Heap):Prop:=∀a o,H a=some o→ObjOk P w H h a o
end
section
variable {P:Program} {w:World} {H H':Hp} {h h':Heap} {a:Addr} {o:HO}
theorem ObjOk.lt (x:ObjOk P w H h a o):a<h.objs.size:=by
  cases o with
  | lst xs=>obtain ⟨_,_,_,_,e⟩:=x;exact Heap.lt_size e
  | tup xs=>obtain ⟨_,_,_,p⟩:=x;exact p.lt
  | dK kvs=>obtain ⟨_,_,_,_,o,_,_,e,_⟩:=x;exact Heap.lt_size e
  | dT kvs=>obtain ⟨_,_,_,_,o,_,_,e,_⟩:=x;exact Heap.lt_size e
  | set S n=>obtain ⟨o,_,_,_,e,_⟩:=x;exact Heap.lt_size e
  | ins C dx fs=>obtain ⟨_,_,_,e,_⟩:=x;exact Heap.lt_size e
  | own y=>obtain ⟨_,e⟩:=x;exact Heap.lt_size e
  | xd fs=>obtain ⟨_,⟨_,_,_,e,_⟩,_⟩:=x;exact Heap.lt_size e
  | rng lo hi=>obtain ⟨_,_,_,e⟩:=x;exact Heap.lt_size e
  | frz ob u=>obtain ⟨e,_⟩:=x;exact Heap.lt_size e
  | tbl ps=>exact Heap.lt_size (show h.get? a=some _ from x)
  | met f y=>exact Heap.lt_size (show h.get? a=some _ from x)
  | ext φ=>obtain ⟨_,⟨_,e⟩,_⟩:=x;exact Heap.lt_size e
theorem Paired.mapP {α β:Type} {F G:α→β→Prop}:∀{l₁:List α} {l₂:List β},Paired F l₁ l₂→(∀a b,F a b→G a b)→Paired G l₁ l₂
  | _,_,.nil,_=>.nil
  | _,_,.cons r t,f=>.cons (f _ _ r) (Paired.mapP t f)
theorem ObjOk.stay (x:ObjOk P w H h a o) (k:∀b u,(b=a∨H b=some (.own a))→h.get? b=some u→h'.get? b=some u)
    (ho:∀b,H b=some (.own a)→H' b=some (.own a)) (ht:∀b xs,H b=some (.tup xs)→H' b=some (.tup xs)):ObjOk P w H' h' a o:=by
  induction o with
  | lst xs=>obtain ⟨z,its,n,r,e⟩:=x;exact ⟨z,its,n,r,k _ _ (.inl rfl) e⟩
  | tup xs=>obtain ⟨z,its,r,ob,e,c⟩:=x;exact ⟨z,its,r,ob,k _ _ (.inl rfl) e,c⟩
  | dK kvs=>obtain ⟨z,y,vs,r,ob,es,ep,e,c⟩:=x;exact ⟨z,y,vs,r,ob,es,ep,k _ _ (.inl rfl) e,c⟩
  | dT kvs=>
    obtain ⟨z,y,xs,r,ob,es,ep,e,c⟩:=x
    exact ⟨z,y,xs,Paired.mapP r fun p q z=>⟨z.1,ht _ _ z.2.1,z.2.2⟩,ob,es,ep,k _ _ (.inl rfl) e,c⟩
  | set S n=>obtain ⟨ob,es,ep,t,e,c⟩:=x;exact ⟨ob,es,ep,t,k _ _ (.inl rfl) e,c⟩
  | ins C dx fs=>
    obtain ⟨d,z,ne,e,mA,⟨od,es,ep,e2,c⟩,r⟩:=x
    exact ⟨ho _ d,z,ne,k _ _ (.inl rfl) e,mA,⟨od,es,ep,k _ _ (.inr d) e2,c⟩,r⟩
  | own y=>obtain ⟨ob,e⟩:=x;exact ⟨ob,k _ _ (.inl rfl) e⟩
  | xd fs=>obtain ⟨mA,⟨od,es,ep,e,c⟩,r⟩:=x;exact ⟨mA,⟨od,es,ep,k _ _ (.inl rfl) e,c⟩,r⟩
  | rng lo hi=>obtain ⟨t,u,v,e⟩:=x;exact ⟨t,u,v,k _ _ (.inl rfl) e⟩
  | frz ob u ih=>obtain ⟨e,q⟩:=x;exact ⟨k _ _ (.inl rfl) e,ih q⟩
  | tbl ps=>
    have e:h.get? a=some {cls:=.none,data:=.fields ps}:=x
    show h'.get? a=some {cls:=.none,data:=.fields ps}
    exact k a _ (.inl rfl) e
  | met f y=>
    have e:h.get? a=some (PySem.W.methodObj (.ref f) (.ref y)):=x
    show h'.get? a=some (PySem.W.methodObj (.ref f) (.ref y))
    exact k a _ (.inl rfl) e
  | ext φ=>obtain ⟨p,⟨o,e⟩,st⟩:=x;exact ⟨st _ _ p fun o q=>k _ _ (.inl rfl) q,⟨o,k _ _ (.inl rfl) e⟩,st⟩
theorem HOk.lt (x:HOk P w H h) (e:H a=some o):a<h.objs.size:=(x a o e).lt
theorem HOk.fresh (x:HOk P w H h) (e:h.objs.size≤a):H a=none:=by
  cases q:H a with
  | none=>rfl
  | some u=>exact absurd (Nat.lt_of_lt_of_le (x.lt q) e) (Nat.lt_irrefl _)
theorem HOk.kept (x:HOk P w H h) (k:∀b u,h.get? b=some u→h'.get? b=some u):HOk P w H h':=fun a o e=>
  (x a o e).stay (fun b u _ q=>k b u q) (fun _ q=>q) fun _ _ q=>q
theorem HOk.laid (x:HOk P w H h) (k:∀b u,h.get? b=some u→h'.get? b=some u) (hp:h.objs.size≤a) (new:ObjOk P w (upd H a o) h' a o):HOk P w (upd H a o) h':=fun b u e=>by
  have hn:=x.fresh hp
  by_cases hb:b=a
  ·subst hb;rw [upd_same] at e;cases e;exact new
  · rw [upd_ne hb] at e
    exact (x b u e).stay (fun c v _ q=>k c v q) (fun c q=>by rw [upd_ne (ne_of_none q hn)];exact q) fun c xs q=>by rw [upd_ne (ne_of_none q hn)];exact q
end
def Rd (H:Hp) (a:Addr) (u:HO):Prop:=H a=some u∨∃o,H a=some (.frz o u)
theorem Rd.ok {P:Program} {w:World} {H:Hp} {h:Heap} {a:Addr} {u:HO} (r:Rd H a u) (x:HOk P w H h):ObjOk P w H h a u:=by
  rcases r with r | ⟨o,r⟩
  ·exact x a u r
  · obtain ⟨_,q⟩:=x a _ r
    exact q
def Mut:Option HO→Prop
  | some (.lst _)=>True
  | some (.dK _)=>True
  | some (.dT _)=>True
  | some (.set _ _)=>True
  | some (.ins _ _ _)=>True
  | some (.ext _)=>True
  | _=>False
section
variable {P:Program} {w:World} {H:Hp} {h h':Heap} {x e:Addr} {o':HO}
theorem HOk.write (ok:HOk P w H h) (mu:Mut (H x)) (he:e=x∨H e=some (.own x)) (k:∀b u,b≠e→h.get? b=some u→h'.get? b=some u) (heo:∃u,h'.get? e=some u)
    (new:ObjOk P w (upd H x o') h' x o'):HOk P w (upd H x o') h':=fun b u q=>by
  have nown:∀c y,H c=some (.own y)→c≠x:=fun c y r z=>by subst z;rw [r] at mu;exact mu
  have ntup:∀c xs,H c=some (.tup xs)→c≠x:=fun c xs r z=>by subst z;rw [r] at mu;exact mu
  by_cases hb:b=x
  ·subst hb;rw [upd_same] at q;cases q;exact new
  · rw [upd_ne hb] at q
    by_cases hbe:b=e
    · have q':H b=some (.own x):=by
        rcases he with z | z
        ·exact absurd (hbe.trans z) hb
        ·rw [hbe];exact z
      rw [q] at q';cases q'
      obtain ⟨v,hv⟩:=heo
      exact ⟨v,by rw [hbe];exact hv⟩
    · refine (ok b u q).stay (fun c v hc r=>k c v ?_ r) (fun c r=>by rw [upd_ne (nown c b r)];exact r) fun c xs r=>by rw [upd_ne (ntup c xs r)];exact r
      rcases hc with rfl | hc
      ·exact hbe
      · rintro rfl
        rcases he with z | z
        ·exact nown c b hc z
        ·rw [hc] at z;cases z;exact hb rfl
end
structure Un (fs ex:List Addr) (H H':Hp) (h h':Heap):Prop where
  keep:∀b o,h.get? b=some o→H b=none→b∉fs→b∉ex→h'.get? b=some o
  slot:∀b o,h.get? b=some o→H b=none→b∈fs→b∉ex→∃sl,h'.get? b=some {o with slots:=sl}
  free:∀b o,h.get? b=some o→H b=none→b∉ex→H' b=none
  there:∀b o,h.get? b=some o→b∉ex→∃o',h'.get? b=some o'
  tups:∀b xs,H b=some (.tup xs)→H' b=some (.tup xs)
  frzs:∀b o u,H b=some (.frz o u)→H' b=some (.frz o u)
  tbls:∀b ps,H b=some (.tbl ps)→∃more,H' b=some (.tbl (ps++more))
section
variable {fs fs' ex ex':List Addr} {H H1 H2:Hp} {h h1 h2 h':Heap} {a x e:Addr} {o:HO}
theorem Un.any (u:Un fs ex H H1 h h1) {b:Addr} {ob:Obj} (q:h.get? b=some ob) (n:H b=none) (hx:b∉ex):∃sl,h1.get? b=some {ob with slots:=sl}:=by
  by_cases hb:b∈fs
  ·exact u.slot b ob q n hb hx
  ·exact ⟨ob.slots,u.keep b ob q n hb hx⟩
theorem Un.kept (k:∀b u,h.get? b=some u→h'.get? b=some u):Un fs ex H H h h':=
  ⟨fun b ob q _ _ _=>k b ob q,fun b ob q _ _ _=>⟨ob.slots,k b ob q⟩,fun _ _ _ n _=>n,fun b ob q _=>⟨ob,k b ob q⟩,fun _ _ q=>q,fun _ _ _ q=>q,fun _ ps q=>⟨#[],by rw [q];simp⟩⟩
theorem Un.refl:Un fs ex H H h h:=Un.kept fun _ _ q=>q
theorem Un.laid (k:∀b u,h.get? b=some u→h'.get? b=some u) (hp:h.objs.size≤a) (hn:H a=none):Un fs ex H (upd H a o) h h' where
  keep:=fun b u q _ _ _=>k b u q
  slot:=fun b u q _ _ _=>⟨u.slots,k b u q⟩
  free:=fun b u q n _=>by rw [upd_ne (Nat.ne_of_lt (Nat.lt_of_lt_of_le (Heap.lt_size q) hp))];exact n
  there:=fun b u q _=>⟨u,k b u q⟩
  tups:=fun b xs q=>by rw [upd_ne (ne_of_none q hn)];exact q
  frzs:=fun b u xs q=>by rw [upd_ne (ne_of_none q hn)];exact q
  tbls:=fun b ps q=>⟨#[],by rw [upd_ne (ne_of_none q hn),q];simp⟩
theorem Un.write (mu:Mut (H x)) (he:e=x∨H e=some (.own x)) (k:∀b u,b≠e→h.get? b=some u→h'.get? b=some u) (heo:∃u,h'.get? e=some u):Un fs ex H (upd H x o) h h':=by
  have hx:∀b,H b=none→b≠x:=fun b n z=>by subst z;rw [n] at mu;exact mu
  have hb:∀b,H b=none→b≠e:=fun b n z=>by
    subst z
    rcases he with r | r
    ·exact hx b n r
    ·rw [n] at r;cases r
  have hm:∀b u,H b=some u→¬Mut (some u)→b≠x:=fun b u q nm z=>by subst z;rw [q] at mu;exact nm mu
  refine ⟨fun b u q n _ _=>k b u (hb b n) q,fun b u q n _ _=>⟨u.slots,k b u (hb b n) q⟩,fun b u q n _=>by rw [upd_ne (hx b n)];exact n,fun b u q _=>?_,
    fun b xs q=>by rw [upd_ne (hm b _ q fun z=>z)];exact q,fun b u xs q=>by rw [upd_ne (hm b _ q fun z=>z)];exact q,fun b ps q=>⟨#[],by rw [upd_ne (hm b _ q fun z=>z),q];simp⟩⟩
  by_cases hbe:b=e
  ·subst hbe;exact heo
  ·exact ⟨u,k b u hbe q⟩
end
def trk (h:Heap) (H:Hp):List Addr:=(List.range h.objs.size).filter fun a=>(H a).isSome
def hidT (h:Heap) (H:Hp):Heap:=PySem.W.hideAll h (trk h H)
theorem hidT_size (h:Heap) (H:Hp):(hidT h H).objs.size=h.objs.size:=PySem.W.hideAll_size _ _
theorem hidT_get {h:Heap} {H:Hp} {b:Addr} {o:Obj} (e:h.get? b=some o) (n:H b=none):(hidT h H).get? b=some o:=
  PySem.W.hideAll_get _ e fun hm=>by
    have q:(H b).isSome=true:=(List.mem_filter.mp hm).2
    rw [n] at q;simp at q
theorem of_hidT {h:Heap} {H:Hp} {b:Addr} {o:Obj} (e:(hidT h H).get? b=some o):h.get? b=some o∧H b=none:=by
  have e':h.get? b=some o:=PySem.W.of_hideAll (trk h H) e
  refine ⟨e',?_⟩
  cases q:H b with
  | none=>rfl
  | some x=>
    have hm:b∈trk h H:=List.mem_filter.mpr ⟨List.mem_range.mpr (Heap.lt_size e'),by simp [q]⟩
    have z:(hidT h H).get? b=none:=PySem.W.hideAll_none (trk h H) hm
    rw [z] at e;cases e
def allNews (g h:Heap) (L:Addr):List (Addr×Obj):=(List.range h.objs.size).filterMap fun a=>if a=L∨(g.get? a).isSome=true then none else (h.get? a).map fun o=>(a,o)
def rest (g h:Heap) (L d:Addr):List (Addr×Obj):=(allNews g h L).filter fun p=>decide (p.1≠d)
structure Mod (K:PySem.W.Frag) (mg:Str→Option Value) (base:Heap):Prop where
  kin:K.In base
  glob:base.Ns mainGlobals mg
  blt:∃mb,base.Ns builtinsNs mb∧∀x:Str,x≠ "__name__" →mb x=bootBuiltins x
  nolimit:base.NoLimit
set_option genInjectivity false in
structure Cx where
  prog:Program
  w:World
  K:PySem.W.Frag
  mg:Str→Option Value
  base:Heap
  A:Around
  N:List Str
  s₀:Shared
  H₀:Hp
  env:Env
  outer:List Env
  stack:List Env
  ex:List Addr
  fn:Str→Bool
  calm:Bool
  pn:List (Addr×Obj)
  xe:Value→Shared→Prop
def frs (l:List Env):List Addr:=l.filterMap (·.frame)
abbrev Cx.fs (X:Cx):List Addr:=frs X.outer
def Vis (sc:Scope) (x:Str):Prop:=sc.names.lookup x=some .local∨sc.names.lookup x=some .cell∨sc.names.lookup x=some .free
def Loc (sc:Scope) (x:Str):Prop:=sc.names.lookup x=some .local∨sc.names.lookup x=some .cell
def Look (env:Env) (h:Heap) (m:Str→Option Value) (x:Str) (u:Value):Prop:=
  (env.kindOf x=some .local∧m x=some u)∨((env.kindOf x=some .cell∨env.kindOf x=some .free)∧∃c,env.cells.lookup x=some c∧h.IsCell c (some u))
structure Cx.Ok (X:Cx):Prop where
  mod:Mod X.K X.mg X.base
  kind:X.env.scope.kind = .function
  glob:X.env.globals=mainGlobals
  blt:X.env.builtins=builtinsNs
  above:X.s₀.heap.objs.size≤X.env.locals
  inj:∀x y c,X.env.cells.lookup x=some c→X.env.cells.lookup y=some c→x=y
  has:∀x,(X.env.kindOf x=some .cell∨X.env.kindOf x=some .free)→∃c,X.env.cells.lookup x=some c
  cab:∀x c,X.fn x=true→X.env.cells.lookup x=some c→X.s₀.heap.objs.size≤c
  hd:X.calm=true→X.A.handled=none
  frames:X.A.frames=some X.stack
  stk:X.stack=X.outer∨(X.stack=X.env::X.outer∧X.env.frame=some X.env.locals)
  exf:∀b∈X.ex,b≠X.env.locals∧∀x c,X.env.cells.lookup x=some c→c≠b
  bs:∀b o,X.base.get? b=some o→X.s₀.heap.get? b=some o∧X.H₀ b=none
  bsz:X.base.objs.size≤X.s₀.heap.objs.size
  noex:∀b o,X.base.get? b=some o→b∉X.ex
  exfs:∀b∈X.ex,b∉X.fs
  funs:X.s₀.heap.FunFrames X.base X.outer
  frf:∀b∈X.fs,X.H₀ b=none
structure Inv (X:Cx) (pins:List (Addr×Obj)) (σ:List (Option V)) (H:Hp) (s:Shared):Prop where
  ok:X.Ok
  os:s.os=X.s₀.os
  bare:AllBare s.gens
  base:Un X.fs X.ex X.H₀ H X.s₀.heap s.heap
  loc:∃m,s.heap.Ns X.env.locals m∧∀(i:Nat) (x:Str) (v:V),X.N[i]? = some x→σ[i]? = some (some v)→Vis X.env.scope x→∃u,RelV v u∧Look X.env s.heap m x u
  cell:∀x c,X.env.cells.lookup x=some c→∃v,s.heap.IsCell c v
  free:H X.env.locals=none
  freeC:∀x c,X.env.cells.lookup x=some c→H c=none
  pin:∀p∈X.pn++pins,s.heap.get? p.1=some p.2∧H p.1=none∧p.1≠X.env.locals∧p.1∉X.fs∧∀v,p.2.data≠.cell v
  hok:HOk X.prog X.w H s.heap
  len:σ.length=X.N.length
section
variable {X:Cx} {pins:List (Addr×Obj)} {σ:List (Option V)} {H H':Hp} {s:Shared} {h':Heap}
theorem Cx.Ok.nofr (ok:X.Ok) {b:Addr} {o:Obj} (e:X.base.get? b=some o):b∉X.fs:=fun hb=>by
  have:=(ok.funs.mem hb).1
  rw [e] at this;cases this
theorem Inv.bs (I:Inv X pins σ H s):∀b o,X.base.get? b=some o→s.heap.get? b=some o∧H b=none:=fun b o e=>
  ⟨I.base.keep b o (I.ok.bs b o e).1 (I.ok.bs b o e).2 (I.ok.nofr e) (I.ok.noex b o e),I.base.free b o (I.ok.bs b o e).1 (I.ok.bs b o e).2 (I.ok.noex b o e)⟩
theorem Inv.bk (I:Inv X pins σ H s):∀b o,X.base.get? b=some o→s.heap.get? b=some o:=fun b o e=>(I.bs b o e).1
theorem Inv.mod (I:Inv X pins σ H s):Mod X.K X.mg X.base:=I.ok.mod
theorem Inv.kIn (I:Inv X pins σ H s):X.K.In s.heap:=I.ok.mod.kin.keeps I.bk
theorem Inv.lt (I:Inv X pins σ H s):X.env.locals<s.heap.objs.size:=let ⟨_,hn,_⟩:=I.loc;hn.lt
theorem Inv.sz (I:Inv X pins σ H s):X.s₀.heap.objs.size≤s.heap.objs.size:=Nat.le_trans I.ok.above (Nat.le_of_lt I.lt)
theorem Inv.nofs (I:Inv X pins σ H s) {a:Addr} (h:s.heap.objs.size≤a):a∉X.fs:=fun hb=>by
  obtain ⟨_,o,ho,_⟩:=I.ok.funs.mem hb
  exact absurd (Nat.lt_of_lt_of_le (Heap.lt_size ho) (Nat.le_trans I.sz h)) (Nat.lt_irrefl _)
theorem Inv.cne (I:Inv X pins σ H s):∀x c,X.env.cells.lookup x=some c→c≠X.env.locals:=fun x c e z=>by
  obtain ⟨v,o,ho,hd⟩:=I.cell x c e
  obtain ⟨m,⟨o',es,ep,ho',hd',_⟩,_⟩:=I.loc
  rw [z,ho'] at ho;cases ho;rw [hd'] at hd;cases hd
theorem Inv.funs (I:Inv X pins σ H s):s.heap.FunFrames X.base X.outer:=by
  have all:∀(l:List Env),(∀b∈frs l,b∈X.fs)→X.s₀.heap.FunFrames X.base l→s.heap.FunFrames X.base l:=by
    intro l
    induction l with
    | nil=>intro _ _;trivial
    | cons env r ih=>
      intro hs hl
      obtain ⟨hk,⟨L,o,hf,hn,ho,hd⟩,hr⟩:=hl
      have hL:L∈X.fs:=hs L (by unfold frs;rw [List.filterMap_cons,hf];exact List.mem_cons_self)
      obtain ⟨sl,e⟩:=I.base.slot L o ho (I.ok.frf L hL) hL fun z=>I.ok.exfs L z hL
      exact ⟨hk,⟨L,_,hf,hn,e,hd⟩,ih (fun b hb=>hs b (by unfold frs;rw [List.filterMap_cons,hf];exact List.mem_cons_of_mem _ hb)) hr⟩
  exact all X.outer (fun _ hb=>hb) I.ok.funs
theorem Inv.stack (I:Inv X pins σ H s):s.heap.FunFrames X.base X.stack:=by
  rcases I.ok.stk with e | ⟨e,hf⟩
  ·rw [e];exact I.funs
  · rw [e]
    obtain ⟨m,hn,_⟩:=I.loc
    refine .cons (by rw [I.ok.kind];decide) hf hn ?_ I.funs
    exact Heap.get?_none_of_le (Nat.le_trans I.ok.bsz I.ok.above)
theorem Inv.stkSub (I:Inv X pins σ H s):∀b∈frs X.stack,b∈X.env.locals::X.fs:=fun b hb=>by
  rcases I.ok.stk with e | ⟨e,hf⟩
  ·rw [e] at hb;exact List.mem_cons_of_mem _ hb
  · rw [e] at hb
    unfold frs at hb
    rw [List.filterMap_cons,hf] at hb
    exact hb
theorem Inv.stkFree (I:Inv X pins σ H s):∀b∈frs X.stack,H b=none:=fun b hb=>by
  rcases List.mem_cons.mp (I.stkSub b hb) with e | hb
  ·rw [e];exact I.free
  · obtain ⟨_,o,ho,_⟩:=I.ok.funs.mem hb
    exact I.base.free b o ho (I.ok.frf b hb) fun z=>I.ok.exfs b z hb
theorem Inv.step {g':Array GenState} {t':Nat} {d':Drawn} {ch:List Addr} (I:Inv X pins σ H s)
    (hch:∀b∈ch,(b∈X.ex∨X.s₀.heap.objs.size≤b)∧b≠X.env.locals∧(∀x c,X.env.cells.lookup x=some c→c≠b)∧∀p∈X.pn++pins,p.1≠b)
    (keep:∀b o,b≠X.env.locals→b∉X.fs→b∉ch→s.heap.get? b=some o→H b=none→h'.get? b=some o)
    (slot:∀b o,b≠X.env.locals→b∈X.fs→b∉ch→s.heap.get? b=some o→H b=none→∃sl,h'.get? b=some {o with slots:=sl}) (free:∀b o,b∉ch→s.heap.get? b=some o→H b=none→H' b=none)
    (there:∀b o,b∉ch→s.heap.get? b=some o→∃o',h'.get? b=some o')
    (tups:∀b xs,H b=some (.tup xs)→H' b=some (.tup xs)) (frzs:∀b o u,H b=some (.frz o u)→H' b=some (.frz o u)) (tbls:∀b ps,H b=some (.tbl ps)→∃more,H' b=some (.tbl (ps++more)))
    (ns:∀m,s.heap.Ns X.env.locals m→h'.Ns X.env.locals m) (hok:HOk X.prog X.w H' h') (hg:AllBare g') :
    Inv X pins σ H' {s with heap:=h',gens:=g',drawn:=d',toks:=t'}:=by
  have neL:∀b o,X.s₀.heap.get? b=some o→b≠X.env.locals:=fun b o e=>Nat.ne_of_lt (Nat.lt_of_lt_of_le (Heap.lt_size e) I.ok.above)
  have neC:∀b o,X.s₀.heap.get? b=some o→b∉X.ex→b∉ch:=fun b o e hx hb=>by
    rcases (hch b hb).1 with z | z
    ·exact hx z
    ·exact absurd (Nat.lt_of_lt_of_le (Heap.lt_size e) z) (Nat.lt_irrefl _)
  have cellK:∀x c,X.env.cells.lookup x=some c→∀v,s.heap.IsCell c v→h'.IsCell c v:=fun x c e v ⟨o,ho,hd⟩=>by
    have nch:c∉ch:=fun z=>(hch c z).2.2.1 x c e rfl
    by_cases hc:c∈X.fs
    · obtain ⟨sl,q⟩:=slot c o (I.cne x c e) hc nch ho (I.freeC x c e)
      exact ⟨_,q,hd⟩
    ·exact ⟨o,keep c o (I.cne x c e) hc nch ho (I.freeC x c e),hd⟩
  refine ⟨I.ok,I.os,hg,⟨fun b o e n hb hx=>?_,fun b o e n hb hx=>?_,fun b o e n hx=>?_,fun b o e hx=>?_,fun b xs e=>tups b xs (I.base.tups b xs e),fun b o xs e=>frzs b o xs (I.base.frzs b o xs e),fun b ps e=>?_⟩,?_,fun x c e=>?_,?_,fun x c e=>?_,fun p hp=>?_,hok,I.len⟩
  ·exact keep b o (neL b o e) hb (neC b o e hx) (I.base.keep b o e n hb hx) (I.base.free b o e n hx)
  · obtain ⟨sl,e1⟩:=I.base.slot b o e n hb hx
    obtain ⟨sl',e2⟩:=slot b _ (neL b o e) hb (neC b o e hx) e1 (I.base.free b o e n hx)
    exact ⟨sl',e2⟩
  · obtain ⟨o',e1⟩:=I.base.there b o e hx
    exact free b o' (neC b o e hx) e1 (I.base.free b o e n hx)
  · obtain ⟨o',e1⟩:=I.base.there b o e hx
    exact there b o' (neC b o e hx) e1
  · obtain ⟨m1,e1⟩:=I.base.tbls b ps e
    obtain ⟨m2,e2⟩:=tbls b _ e1
    exact ⟨m1++m2,by rw [e2,Array.append_assoc]⟩
  · obtain ⟨m,hn,hl⟩:=I.loc
    refine ⟨m,ns m hn,fun i x v e1 e2 e3=>?_⟩
    obtain ⟨u,r,l⟩:=hl i x v e1 e2 e3
    refine ⟨u,r,?_⟩
    rcases l with l | ⟨k,c,e,z⟩
    ·exact .inl l
    ·exact .inr ⟨k,c,e,cellK x c e _ z⟩
  · obtain ⟨v,z⟩:=I.cell x c e
    exact ⟨v,cellK x c e v z⟩
  · obtain ⟨m,⟨o,_,_,ho,_⟩,_⟩:=I.loc
    exact free _ o (fun z=>(hch _ z).2.1 rfl) ho I.free
  · obtain ⟨v,o,ho,hd⟩:=I.cell x c e
    exact free c o (fun z=>(hch c z).2.2.1 x c e rfl) ho (I.freeC x c e)
  · obtain ⟨e,n,ne,nf,d⟩:=I.pin p hp
    have nch:p.1∉ch:=fun z=>(hch p.1 z).2.2.2 p hp rfl
    exact ⟨keep p.1 p.2 ne nf nch e n,free p.1 p.2 nch e n,ne,nf,d⟩
theorem Inv.un {t':Nat} (I:Inv X pins σ H s) (u:Un X.fs [] H H' s.heap h') (hok:HOk X.prog X.w H' h'):Inv X pins σ H' {s with heap:=h',toks:=t'}:=by
  obtain ⟨m,⟨o,es,ep,ho,r⟩,_⟩:=id I.loc
  obtain ⟨sl,hL⟩:=u.any ho I.free (by simp)
  exact I.step (g':=s.gens) (d':=s.drawn) (ch:=[]) (fun _ z=>nomatch z) (fun b o _ hb _ e n=>u.keep b o e n hb (by simp)) (fun b o _ hb _ e n=>u.slot b o e n hb (by simp)) (fun b o _ e n=>u.free b o e n (by simp)) (fun b o _ e=>u.there b o e (by simp)) u.tups u.frzs u.tbls (fun m' hm=>by
    obtain ⟨o',es',ep',ho',r'⟩:=hm
    rw [ho] at ho';cases ho'
    exact ⟨_,es',ep',hL,r'⟩) hok I.bare
theorem Inv.call {g':Array GenState} {t':Nat} {d':Drawn} {ch:List Addr} (I:Inv X pins σ H s) (u:Un (frs X.stack) ch H H' s.heap h') (hok:HOk X.prog X.w H' h') (hg:AllBare g')
    (hch:∀b∈ch,(b∈X.ex∨X.s₀.heap.objs.size≤b)∧b≠X.env.locals∧(∀x c,X.env.cells.lookup x=some c→c≠b)∧∀p∈X.pn++pins,p.1≠b) :
    Inv X pins σ H' {s with heap:=h',gens:=g',drawn:=d',toks:=t'}:=by
  obtain ⟨m,⟨o,es,ep,ho,r⟩,_⟩:=id I.loc
  obtain ⟨sl,hL⟩:=u.any ho I.free fun z=>(hch _ z).2.1 rfl
  exact I.step (ch:=ch) hch (fun b o hL hb hc e n=>u.keep b o e n (fun z=>(List.mem_cons.mp (I.stkSub b z)).elim hL hb) hc) (fun b o _ _ hc e n=>u.any e n hc) (fun b o hc e n=>u.free b o e n hc) (fun b o hc e=>u.there b o e hc) u.tups u.frzs u.tbls (fun m' hm=>by
    obtain ⟨o',es',ep',ho',r'⟩:=hm
    rw [ho] at ho';cases ho'
    exact ⟨_,es',ep',hL,r'⟩) hok hg
theorem Inv.turned {t':Nat} {it:Addr} (I:Inv X pins σ H s) (k:∀b o,b≠it→s.heap.get? b=some o→h'.get? b=some o) (hn:H it=none) (hL:it≠X.env.locals)
    (h1:it∈X.ex∨X.s₀.heap.objs.size≤it) (h2:∀x c,X.env.cells.lookup x=some c→c≠it) (h3:∀p∈X.pn++pins,p.1≠it):Inv X pins σ H {s with heap:=h',toks:=t'}:=by
  have nit:∀b u,H b=some u→b≠it:=fun b u e z=>by rw [z,hn] at e;cases e
  refine I.step (g':=s.gens) (d':=s.drawn) (ch:=[it]) (fun b hb=>?_) (fun b o _ _ hc e _=>k b o (fun z=>hc (by simp [z])) e) (fun b o _ _ hc e _=>⟨o.slots,k b o (fun z=>hc (by simp [z])) e⟩) (fun _ _ _ _ n=>n)
    (fun b o hc e=>⟨o,k b o (fun z=>hc (by simp [z])) e⟩) (fun _ _ e=>e) (fun _ _ _ e=>e) (fun b ps e=>⟨#[],by rw [e];simp⟩) (fun m hm=>?_) (fun b u e=>?_) I.bare
  · have e:b=it:=by simpa using hb
    subst e
    exact ⟨h1,hL,h2,h3⟩
  · obtain ⟨o,es,ep,ho,r⟩:=hm
    exact ⟨o,es,ep,k _ o (Ne.symm hL) ho,r⟩
  · refine (I.hok b u e).stay (fun c v hc q=>k c v ?_ q) (fun _ q=>q) fun _ _ q=>q
    rcases hc with z | z
    ·rw [z];exact nit b u e
    ·exact nit c _ z
theorem Inv.tok (I:Inv X pins σ H s) (t:Nat):Inv X pins σ H {s with toks:=t}:=I.un (h':=s.heap) (t':=t) Un.refl I.hok
theorem Inv.kept {t':Nat} (I:Inv X pins σ H s) (k:∀b u,s.heap.get? b=some u→h'.get? b=some u):Inv X pins σ H {s with heap:=h',toks:=t'}:=I.un (Un.kept k) (I.hok.kept k)
theorem Inv.laid {a:Addr} {o:HO} {t':Nat} (I:Inv X pins σ H s) (k:∀b u,s.heap.get? b=some u→h'.get? b=some u) (hp:s.heap.objs.size≤a) (new:ObjOk X.prog X.w (upd H a o) h' a o) :
    Inv X pins σ (upd H a o) {s with heap:=h',toks:=t'}:=I.un (Un.laid k hp (I.hok.fresh hp)) (I.hok.laid k hp new)
theorem Inv.write {x e:Addr} {o:HO} {t':Nat} (I:Inv X pins σ H s) (mu:Mut (H x)) (he:e=x∨H e=some (.own x)) (k:∀b u,b≠e→s.heap.get? b=some u→h'.get? b=some u) (heo:∃u,h'.get? e=some u)
    (new:ObjOk X.prog X.w (upd H x o) h' x o):Inv X pins σ (upd H x o) {s with heap:=h',toks:=t'}:=I.un (Un.write mu he k heo) (I.hok.write mu he k heo new)
theorem Inv.pins_of {pins':List (Addr×Obj)} (I:Inv X pins σ H s) (h:∀p∈pins',s.heap.get? p.1=some p.2∧H p.1=none∧p.1≠X.env.locals∧p.1∉X.fs∧∀v,p.2.data≠.cell v):Inv X pins' σ H s:=
  ⟨I.ok,I.os,I.bare,I.base,I.loc,I.cell,I.free,I.freeC,fun p hp=>(List.mem_append.mp hp).elim (fun z=>I.pin p (List.mem_append_left _ z)) (h p),I.hok,I.len⟩
theorem nodup_ix {N:List Str} (hN:N.Nodup) {i j:Nat} {x:Str} (a:N[i]? = some x) (b:N[j]? = some x):i=j:=by
  obtain ⟨h1,e1⟩:=List.getElem?_eq_some_iff.mp a
  obtain ⟨h2,e2⟩:=List.getElem?_eq_some_iff.mp b
  exact (List.getElem_inj hN).mp (e1.trans e2.symm)
theorem store_ok2 {M:Model} {A:Around} {E:Value→Shared→Prop} {i:Nat} {x:Str} {v:V} {u:Value} {Q:Unit→Shared→Prop} (I:Inv X pins σ H s) (hN:X.N.Nodup) (hi:X.N[i]? = some x) (hx:Loc X.env.scope x) (r:RelV v u)
    (h:∀s',Inv X pins (σ.set i (some v)) H s'→(∃a,Heap.SameBut a s.heap s'.heap∧(a=X.env.locals∨X.env.cells.lookup x=some a))→Q () s') (hf:X.fn x=true∨X.env.scope.names.lookup x=some .local:=by first | exact .inl rfl | exact .inr rfl | assumption):wpAny M A (storeName X.env x u) Q E s:=by
  obtain ⟨m,hn,hl⟩:=id I.loc
  have hcls:(X.env.scope.kind == .class || (X.env.scope.kind == .module && X.env.locals != X.env.globals))=false:=by rw [I.ok.kind];rfl
  have hiσ:i<σ.length:=by rw [I.len];exact (List.getElem?_eq_some_iff.mp hi).1
  have cne:=I.cne
  have tracked:∀{a:Addr} {h':Heap},(∃o,s.heap.get? a=some o∧H a=none)→Heap.SameBut a s.heap h'→HOk X.prog X.w H h':=fun {a h'} ha hs b ob e=>by
    obtain ⟨_,_,hfree⟩:=ha
    refine (I.hok b ob e).stay (fun c w' hc q=>(hs.2 c ?_).trans q) (fun _ q=>q) fun _ _ q=>q
    rintro rfl
    rcases hc with rfl | hc
    ·rw [hfree] at e;cases e
    ·rw [hfree] at hc;cases hc
  rcases hx with hk | hk
  · refine wpAny_storeName_local hk hn (fun h' hn' hs=>?_) hcls
    obtain ⟨oL,_,_,hoL,_⟩:=id hn
    refine h _ ⟨I.ok,I.os,I.bare,⟨fun b o e n hb hx=>?_,fun b o e n hb hx=>?_,I.base.free,fun b o e hx=>?_,I.base.tups,I.base.frzs,I.base.tbls⟩,⟨_,hn',fun j y v' e1 e2 e3=>?_⟩,fun y c e=>?_,I.free,I.freeC,fun p hp=>?_,tracked ⟨oL,hoL,I.free⟩ hs,by simpa using I.len⟩ ⟨_,hs,.inl rfl⟩
    ·exact (hs.2 b (Nat.ne_of_lt (Nat.lt_of_lt_of_le (Heap.lt_size e) I.ok.above))).trans (I.base.keep b o e n hb hx)
    · obtain ⟨sl,e1⟩:=I.base.slot b o e n hb hx
      exact ⟨sl,(hs.2 b (Nat.ne_of_lt (Nat.lt_of_lt_of_le (Heap.lt_size e) I.ok.above))).trans e1⟩
    · obtain ⟨o',e1⟩:=I.base.there b o e hx
      exact ⟨o',(hs.2 b (Nat.ne_of_lt (Nat.lt_of_lt_of_le (Heap.lt_size e) I.ok.above))).trans e1⟩
    · by_cases hj:j=i
      · subst hj
        rw [hi] at e1;cases e1
        rw [List.getElem?_set_self hiσ] at e2
        cases e2
        exact ⟨u,r,.inl ⟨hk,by simp⟩⟩
      · rw [List.getElem?_set_ne (Ne.symm hj)] at e2
        obtain ⟨u',r',q⟩:=hl j y v' e1 e2 e3
        refine ⟨u',r',?_⟩
        rcases q with ⟨k,e⟩ | ⟨k,c,e,z⟩
        · refine .inl ⟨k,?_⟩
          have:y≠x:=fun e=>hj (nodup_ix hN e1 (e▸hi))
          simp [this,e]
        ·exact .inr ⟨k,c,e,z.sameBut hs (cne y c e)⟩
    · obtain ⟨w',z⟩:=I.cell y c e
      exact ⟨w',z.sameBut hs (cne y c e)⟩
    · obtain ⟨e,n,ne,nf,d⟩:=I.pin p hp
      exact ⟨(hs.2 p.1 ne).trans e,n,ne,nf,d⟩
  · have hfn:X.fn x=true:=by
      rcases hf with z | z
      ·exact z
      ·rw [z] at hk;cases hk
    obtain ⟨c,hc⟩:=I.ok.has x (.inl hk)
    obtain ⟨w',z⟩:=I.cell x c hc
    refine wpAny_storeName_cell I.ok.kind hk hc z (fun h' hc' hs=>?_)
    obtain ⟨oc,hoc,hocd⟩:=id z
    refine h {s with heap:=h'} ⟨I.ok,I.os,I.bare,⟨fun b o e n hb hx=>?_,fun b o e n hb hx=>?_,I.base.free,fun b o e hx=>?_,I.base.tups,I.base.frzs,I.base.tbls⟩,⟨m,hn.sameBut hs (Ne.symm (cne x c hc)),fun j y v' e1 e2 e3=>?_⟩,fun y c' e=>?_,I.free,I.freeC,fun p hp=>?_,tracked ⟨oc,hoc,I.freeC x c hc⟩ hs,by simpa using I.len⟩ ⟨c,hs,.inr hc⟩
    ·exact (hs.2 b (Nat.ne_of_lt (Nat.lt_of_lt_of_le (Heap.lt_size e) (I.ok.cab x c hfn hc)))).trans (I.base.keep b o e n hb hx)
    · obtain ⟨sl,e1⟩:=I.base.slot b o e n hb hx
      exact ⟨sl,(hs.2 b (Nat.ne_of_lt (Nat.lt_of_lt_of_le (Heap.lt_size e) (I.ok.cab x c hfn hc)))).trans e1⟩
    · obtain ⟨o',e1⟩:=I.base.there b o e hx
      exact ⟨o',(hs.2 b (Nat.ne_of_lt (Nat.lt_of_lt_of_le (Heap.lt_size e) (I.ok.cab x c hfn hc)))).trans e1⟩
    · by_cases hj:j=i
      · subst hj
        rw [hi] at e1;cases e1
        rw [List.getElem?_set_self hiσ] at e2
        cases e2
        exact ⟨u,r,.inr ⟨.inl hk,c,hc,hc'⟩⟩
      · rw [List.getElem?_set_ne (Ne.symm hj)] at e2
        obtain ⟨u',r',q⟩:=hl j y v' e1 e2 e3
        refine ⟨u',r',?_⟩
        rcases q with q | ⟨k,c',e,z'⟩
        ·exact .inl q
        · refine .inr ⟨k,c',e,z'.sameBut hs ?_⟩
          rintro rfl
          exact hj (nodup_ix hN e1 (I.ok.inj _ _ _ e hc▸hi))
    · by_cases hcc:c'=c
      ·subst hcc;exact ⟨_,hc'⟩
      · obtain ⟨w2,z2⟩:=I.cell y c' e
        exact ⟨w2,z2.sameBut hs hcc⟩
    · obtain ⟨e,n,ne,nf,d⟩:=I.pin p hp
      refine ⟨(hs.2 p.1 ?_).trans e,n,ne,nf,d⟩
      intro q
      rw [q,hoc] at e
      have q':oc=p.2:=Option.some.inj e
      exact d w' (by rw [← q'];exact hocd)
theorem store_ok {M:Model} {A:Around} {E:Value→Shared→Prop} {i:Nat} {x:Str} {v:V} {u:Value} {Q:Unit→Shared→Prop} (I:Inv X pins σ H s) (hN:X.N.Nodup) (hi:X.N[i]? = some x) (hx:Loc X.env.scope x) (r:RelV v u)
    (h:∀s',Inv X pins (σ.set i (some v)) H s'→Q () s') (hf:X.fn x=true∨X.env.scope.names.lookup x=some .local:=by first | exact .inl rfl | exact .inr rfl | assumption):wpAny M A (storeName X.env x u) Q E s:=
  store_ok2 I hN hi hx r (fun s' I' _=>h s' I') hf
theorem Inv.call' {s':Shared} {ch:List Addr} (I:Inv X pins σ H s) (ho:s'.os=s.os) (u:Un (frs X.stack) ch H H' s.heap s'.heap) (hok:HOk X.prog X.w H' s'.heap) (hg:AllBare s'.gens)
    (hch:∀b∈ch,(b∈X.ex∨X.s₀.heap.objs.size≤b)∧b≠X.env.locals∧(∀x c,X.env.cells.lookup x=some c→c≠b)∧∀p∈X.pn++pins,p.1≠b):Inv X pins σ H' s':=by
  obtain ⟨h',g',d',t',o'⟩:=s'
  have e:o'=s.os:=ho
  subst e
  exact I.call (g':=g') (t':=t') (d':=d') u hok hg hch
end
abbrev XK:=Value→Option Addr→Hp→Prop
abbrev St:=List (Option V)
abbrev VK:=V→Hp→Prop
abbrev TE:=St→Hp→VK→Prop
abbrev TT:=St→Hp→(Bool→Hp→Prop)→Prop
abbrev TA:=St→Hp→(List V→Hp→Prop)→Prop
structure Ends where
  nx:St→Hp→Prop
  rt:VK
  bk:St→Hp→Prop:=fun _ _=>False
  ct:St→Hp→Prop:=fun _ _=>False
abbrev TS:=Ends→St→Hp→Prop
def EP (X:Cx) (pins:List (Addr×Obj)) (σ:St) (Q:VK) (u:Value) (s':Shared):Prop:=∃v H',Inv X pins σ H' s'∧RelV v u∧Q v H'
def TP (X:Cx) (pins:List (Addr×Obj)) (σ:St) (Q:Bool→Hp→Prop) (b:Bool) (s':Shared):Prop:=∃H',Inv X pins σ H' s'∧Q b H'
def AP (X:Cx) (pins:List (Addr×Obj)) (σ:St) (Q:List V→Hp→Prop) (us:List Value) (s':Shared):Prop:=∃vs H',Inv X pins σ H' s'∧Vals vs us∧Q vs H'
def SP (X:Cx) (pins:List (Addr×Obj)) (D:Ends) (f:Flow) (s':Shared):Prop:=
  match f with
  | .next=>∃σ' H',Inv X pins σ' H' s'∧D.nx σ' H'
  | .brk=>∃σ' H',Inv X pins σ' H' s'∧D.bk σ' H'
  | .cont=>∃σ' H',Inv X pins σ' H' s'∧D.ct σ' H'
  | .ret u=>∃v σ' H',Inv X pins σ' H' s'∧RelV v u∧D.rt v H'
def PE (X:Cx) (e:Expr) (t:TE):Prop:=
  ∀(pins:List (Addr×Obj)) (s:Shared) (σ:St) (H:Hp) (Q:VK),Inv X pins σ H s→t σ H Q→wpAny (model X.prog X.w) X.A (eval e X.env) (EP X pins σ Q) X.xe s
def PT (X:Cx) (e:Expr) (t:TT):Prop:=
  ∀(pins:List (Addr×Obj)) (s:Shared) (σ:St) (H:Hp) (Q:Bool→Hp→Prop),Inv X pins σ H s→t σ H Q→wpAny (model X.prog X.w) X.A (isTrue e X.env (eval e X.env)) (TP X pins σ Q) X.xe s
def PW (X:Cx) (e:Expr) (t:TT):Prop:=
  ∀(whole:Sem Value) (pins:List (Addr×Obj)) (s:Shared) (σ:St) (H:Hp) (Q:Bool→Hp→Prop),Inv X pins σ H s→t σ H Q→wpAny (model X.prog X.w) X.A (isTrue e X.env whole) (TP X pins σ Q) X.xe s
theorem PW.pt {X:Cx} {e:Expr} {t:TT} (h:PW X e t):PT X e t:=h _
def PA (X:Cx) (es:List Expr) (t:TA):Prop:=
  ∀(pos:Pos) (pins:List (Addr×Obj)) (s:Shared) (σ:St) (H:Hp) (Q:List V→Hp→Prop),Inv X pins σ H s→t σ H Q→wpAny (model X.prog X.w) X.A (spliced (backTo pos (starEach es X.env))) (AP X pins σ Q) X.xe s
def PS (X:Cx) (st:Stmt) (t:TS):Prop:=
  ∀(pins:List (Addr×Obj)) (s:Shared) (σ:St) (H:Hp) (D:Ends),Inv X pins σ H s→t D σ H→wpAny (model X.prog X.w) X.A (exec st X.env) (SP X pins D) X.xe s
def PSs (X:Cx) (st:List Stmt) (t:TS):Prop:=
  ∀(pins:List (Addr×Obj)) (s:Shared) (σ:St) (H:Hp) (D:Ends),Inv X pins σ H s→t D σ H→wpAny (model X.prog X.w) X.A (execs st X.env) (SP X pins D) X.xe s
theorem thn {α:Type} {t:Sem α} {Q Q':α→Shared→Prop} {M:Model} {A:Around} {E:Value→Shared→Prop} {s:Shared} (h:wpAny M A t Q E s) (hQ:∀a s,Q a s→Q' a s):wpAny M A t Q' E s:=wpAny_mono h hQ fun _ _ x=>x
section
variable {X:Cx}
def tVar (i:Nat):TE:=fun σ H Q=>∃v,σ[i]? = some (some v)∧Q v H
def tC (v:V):TE:=fun _ H Q=>Q v H
theorem pe_var {i:Nat} {x:Str} {pos:Pos} (hN:X.N[i]? = some x) (hv:Vis X.env.scope x) (hd:(x == ("__debug__" : Str))=false:=by decide) (hcd:(x == ("__classdict__" : Str))=false:=by decide):PE X (.Name x pos) (tVar i):=by
  intro pins s σ H Q I h
  obtain ⟨v,e,h⟩:=h
  obtain ⟨m,hn,hl⟩:=I.loc
  obtain ⟨u,r,l⟩:=hl i x v hN e hv
  have fin:EP X pins σ Q u s:=⟨v,H,I,r,h⟩
  rcases l with ⟨hk,hm⟩ | ⟨hk,c,hc,hcell⟩
  ·exact wpAny_Name (wpAny_loadName_local I.ok.kind hk hn hm fin) hd
  · rcases hk with hk | hk
    ·exact wpAny_Name (wpAny_loadName_cell I.ok.kind hk hc hcell fin) hd
    ·exact wpAny_Name (wpAny_loadName_free I.ok.kind hk hc hcell fin hcd) hd
theorem pe_int {i j pos}:PE X (.Constant (.int i) j pos) (tC (.int i)):=fun _ _ _ H _ I h=>wpAny_Constant_int ⟨.int i,H,I.tok _,⟨_,rfl⟩,h⟩
theorem pe_bl {b j pos}:PE X (.Constant (.bool b) j pos) (tC (.bl b)):=fun _ _ _ H _ I h=>Constant_bool ⟨.bl b,H,I,rfl,h⟩
theorem pe_non {j pos}:PE X (.Constant .none j pos) (tC .non):=fun _ _ _ H _ I h=>Constant_none ⟨.non,H,I,rfl,h⟩
theorem pe_str {x j pos}:PE X (.Constant (.str x) j pos) (tC (.str x)):=fun _ _ _ H _ I h=>Calls.Constant_str ⟨.str x,H,I.tok _,⟨_,rfl⟩,h⟩
def Gl (X:Cx) (x:Str):Prop:=X.env.kindOf x=some .globalImplicit
theorem ld_glob {E:Value→Shared→Prop} {pins:List (Addr×Obj)} {s:Shared} {σ:St} {H:Hp} {x:Str} {u:Value} {pos:Pos} {Q:Value→Shared→Prop} (I:Inv X pins σ H s) (hg:Gl X x) (hm:X.mg x=some u) (h:Q u s)
    (hd:(x == ("__debug__" : Str))=false:=by decide):wpAny (model X.prog X.w) X.A (eval (.Name x pos) X.env) Q E s:=
  Calls.Name_function_global I.ok.kind hg (Calls.loadGlobal_global (by rw [I.ok.glob];exact I.mod.glob.keeps I.bk) hm h) hd
theorem ld_blt {E:Value→Shared→Prop} {pins:List (Addr×Obj)} {s:Shared} {σ:St} {H:Hp} {x:Str} {u:Value} {pos:Pos} {Q:Value→Shared→Prop} (I:Inv X pins σ H s) (hg:Gl X x) (hm:X.mg x=none) (hv:bootBuiltins x=some u) (h:Q u s)
    (hn:x≠ "__name__" :=by decide) (hd:(x == ("__debug__" : Str))=false:=by decide):wpAny (model X.prog X.w) X.A (eval (.Name x pos) X.env) Q E s:=by
  obtain ⟨mb,h1,h2⟩:=I.mod.blt
  exact Calls.Name_function_global I.ok.kind hg (Calls.loadGlobal_builtin (by rw [I.ok.glob];exact I.mod.glob.keeps I.bk) hm (by rw [I.ok.blt];exact h1.keeps I.bk) ((h2 x hn).trans hv) h) hd
theorem pe_glob {x:Str} {v:V} {u:Value} {pos:Pos} (hg:Gl X x) (hm:X.mg x=some u) (r:RelV v u) (hd:(x == ("__debug__" : Str))=false:=by decide):PE X (.Name x pos) (tC v):=
  fun _ _ _ H _ I h=>ld_glob I hg hm ⟨v,H,I,r,h⟩ hd
theorem pe_bltn {x:Str} {v:V} {u:Value} {pos:Pos} (hg:Gl X x) (hm:X.mg x=none) (hv:bootBuiltins x=some u) (r:RelV v u) (hn:x≠ "__name__" :=by decide) (hd:(x == ("__debug__" : Str))=false:=by decide):PE X (.Name x pos) (tC v):=
  fun _ _ _ H _ I h=>ld_blt I hg hm hv ⟨v,H,I,r,h⟩ hn hd
variable {a b:Expr} {ta tb:TE} {pos:Pos}
def PC (X:Cx) (op:CmpOp) (a b:Expr) (t:TE):Prop:=
  ∀(pins:List (Addr×Obj)) (s:Shared) (σ:St) (H:Hp) (Q:VK),Inv X pins σ H s→t σ H Q→
    wpAny (model X.prog X.w) X.A (eval a X.env) (fun v s₁=>wpAny (model X.prog X.w) X.A (eval b X.env) (fun u s₂=>wpAny (model X.prog X.w) X.A (compareOp op v u) (EP X pins σ Q) X.xe s₂) X.xe s₁) X.xe s
theorem nobehind (b:Expr) {op:CmpOp} (h:op≠.In) (h2:op≠.NotIn):behindInMarks op b=false:=by
  have e1:(op == CmpOp.In)=false:=by cases op <;> first | rfl | exact absurd rfl h
  have e2:(op == CmpOp.NotIn)=false:=by cases op <;> first | rfl | exact absurd rfl h2
  cases b <;> simp [behindInMarks,e1,e2]
def tB (t:TE):TT:=fun σ H Q=>t σ H fun x H1=>∃c,x = .bl c∧Q c H1
theorem pt_cmp {op:CmpOp} {t:TE} (h:PC X op a b t) (h1:behindInMarks op b=false:=by first | exact nobehind _ (by decide) (by decide) | rfl):PT X (.Compare a [op] [b] pos) (tB t):=by
  intro pins s σ H Q I hw
  refine wpAny_isTrue_Compare1 (thn (h pins s σ H _ I hw) fun v s1 h1=>thn h1 fun u s2 h2=>thn h2 fun c s3 zz=>?_) h1
  obtain ⟨x,H1,I1,r1,q1⟩:=zz
  obtain ⟨d,rfl,q⟩:=q1
  cases r1
  exact wpAny_truthy_bool ⟨H1,I1,q⟩
theorem pt_val {e:Expr} {t:TE} (h:PE X e t) (he:∀whole,isTrue e X.env whole=(do let v ← whole;standAt e.pos;holding [v] (truthy v)):=by intro _;rfl):PT X e (tB t):=by
  intro pins s σ H Q I hw
  refine isTrue_plain (thn (h pins s σ H _ I hw) fun v s1 zz=>?_) (he _)
  obtain ⟨x,H1,I1,r1,q1⟩:=zz
  obtain ⟨d,rfl,q⟩:=q1
  cases r1
  exact wpAny_truthy_bool ⟨H1,I1,q⟩
variable {tA tB':TT} {rest:List Expr}
def tAnd (t u:TT):TT:=fun σ H Q=>t σ H fun c H1=>if c=true then u σ H1 Q else Q false H1
def tOr (t u:TT):TT:=fun σ H Q=>t σ H fun c H1=>if c=true then Q true H1 else u σ H1 Q
def tNot (t:TT):TT:=fun σ H Q=>t σ H fun c H1=>Q (!c) H1
theorem pw_and1 (ha:PT X a tA):PW X (.BoolOp .And [a] pos) tA:=by
  intro wh pins s σ H Q I h
  refine isTrue_and (thn (ha pins s σ H Q I h) fun c s1 e=>?_)
  cases c with
  | true=>exact isTrue_and_nil e
  | false=>exact e
theorem pw_or1 (ha:PT X a tA):PW X (.BoolOp .Or [a] pos) tA:=by
  intro wh pins s σ H Q I h
  refine isTrue_or (thn (ha pins s σ H Q I h) fun c s1 e=>?_)
  cases c with
  | false=>exact isTrue_or_nil e
  | true=>exact e
theorem pw_and (ha:PT X a tA) (hb:PW X (.BoolOp .And (b::rest) pos) tB'):PW X (.BoolOp .And (a::b::rest) pos) (tAnd tA tB'):=by
  intro wh pins s σ H Q I h
  refine isTrue_and (thn (ha pins s σ H _ I h) fun c s1 zz=>?_)
  obtain ⟨H1,I1,q1⟩:=zz
  cases c with
  | true=>exact hb wh pins s1 σ H1 Q I1 q1
  | false=>exact ⟨H1,I1,q1⟩
theorem pw_or (ha:PT X a tA) (hb:PW X (.BoolOp .Or (b::rest) pos) tB'):PW X (.BoolOp .Or (a::b::rest) pos) (tOr tA tB'):=by
  intro wh pins s σ H Q I h
  refine isTrue_or (thn (ha pins s σ H _ I h) fun c s1 zz=>?_)
  obtain ⟨H1,I1,q1⟩:=zz
  cases c with
  | true=>exact ⟨H1,I1,q1⟩
  | false=>exact hb wh pins s1 σ H1 Q I1 q1
theorem pt_not (ha:PT X a tA):PT X (.UnaryOp .Not a pos) (tNot tA):=by
  intro pins s σ H Q I h
  exact isTrue_not (ha pins s σ H (fun c H1=>Q (!c) H1) I h)
def tAndV (ta tb:TE):TE:=fun σ H Q=>ta σ H fun x H1=>∃c,x = .bl c∧if c=true then tb σ H1 Q else Q (.bl false) H1
def tNotV (ta:TE):TE:=fun σ H Q=>ta σ H fun x H1=>∃c,x = .bl c∧Q (.bl (!c)) H1
theorem pe_one {op} {t:TE} (h:PE X a t):PE X (.BoolOp op [a] pos) t:=fun pins s σ H Q I hw=>BoolOp_one (h pins s σ H Q I hw)
theorem pe_and (ha:PE X a ta) (hb:PE X (.BoolOp .And (b::rest) pos) tb):PE X (.BoolOp .And (a::b::rest) pos) (tAndV ta tb):=by
  intro pins s σ H Q I h
  refine BoolOp_and (thn (ha pins s σ H _ I h) fun v s1 zz=>?_)
  obtain ⟨x,H1,I1,r1,q1⟩:=zz
  obtain ⟨c,rfl,q1⟩:=q1
  cases r1
  refine wpAny_truthy_bool ?_
  cases c with
  | true=>exact hb pins s1 σ H1 Q I1 q1
  | false=>exact ⟨.bl false,H1,I1,rfl,q1⟩
theorem pe_not (ha:PE X a ta):PE X (.UnaryOp .Not a pos) (tNotV ta):=by
  intro pins s σ H Q I h
  refine UnaryOp_ (thn (ha pins s σ H _ I h) fun v s1 zz=>?_)
  obtain ⟨x,H1,I1,r1,q1⟩:=zz
  obtain ⟨c,rfl,q1⟩:=q1
  cases r1
  exact not_of (wpAny_truthy_bool ⟨.bl (!c),H1,I1,rfl,q1⟩)
def tIf (t:TT) (ta tb:TE):TE:=fun σ H Q=>t σ H fun c H1=>if c=true then ta σ H1 Q else tb σ H1 Q
theorem pe_ifExp {c:Expr} (hc:PT X c tA) (ha:PE X a ta) (hb:PE X b tb):PE X (.IfExp c a b pos) (tIf tA ta tb):=by
  intro pins s σ H Q I h
  refine wpAny_IfExp (thn (hc pins s σ H _ I h) fun d s1 zz=>?_)
  obtain ⟨H1,I1,q1⟩:=zz
  cases d with
  | true=>exact ha pins s1 σ H1 Q I1 q1
  | false=>exact hb pins s1 σ H1 Q I1 q1
end
def SqL (K:PySem.W.Frag) (H:Hp) (a:Addr) (xs:List V):Prop:=
  Rd H a (.lst xs)∨
    ∃(o:Obj) (its:Array Value) (n:Nat),K.lookup a=some o∧o.cls = .type "list" ∧o.dict=none∧o.data = .seq its n∧its.size≤sizeLine∧Vals xs its.toList
def SqT (K:PySem.W.Frag) (H:Hp) (a:Addr) (xs:List V):Prop:=
  Rd H a (.tup xs)∨
    ∃(o:Obj) (its:Array Value) (n:Nat),K.lookup a=some o∧o.cls = .type "tuple" ∧o.data = .seq its n∧its.size≤sizeLine∧Vals xs its.toList
def absV:Value→Option V
  | .none=>some .non
  | .bool b=>some (.bl b)
  | .int i _=>some (.int i)
  | .str x _=>some (.str x)
  | .bytes b _=>some (.byt b)
  | .float b _=>some (.flt b)
  | .ref a=>some (.ref a)
  | .type n=>some (.ty n)
  | _=>none
theorem RelV.abs {x:V} {u:Value} (r:RelV x u):absV u=some x:=by
  cases x with
  | non=>cases r;rfl
  | bl _=>cases r;rfl
  | int _=>obtain ⟨t,rfl⟩:=r;rfl
  | str _=>obtain ⟨t,rfl⟩:=r;rfl
  | byt _=>obtain ⟨t,rfl⟩:=r;rfl
  | flt _=>obtain ⟨t,rfl⟩:=r;rfl
  | ref _=>cases r;rfl
  | ty _=>cases r;rfl
theorem RelV.inj {x y:V} {u:Value} (r:RelV x u) (q:RelV y u):x=y:=Option.some.inj (r.abs.symm.trans q.abs)
theorem Vals.inj:∀{xs ys:List V} {us:List Value},Vals xs us→Vals ys us→xs=ys
  | _,_,_,.nil,.nil=>rfl
  | _,_,_,.cons r t,.cons r' t'=>by rw [r.inj r',Vals.inj t t']
section
variable {X:Cx} {pins:List (Addr×Obj)} {σ:St} {H:Hp} {s:Shared} {a:Addr} {xs ys:List V}
theorem SqL.of {K:PySem.W.Frag} (h:H a=some (.lst xs)):SqL K H a xs:=.inl (.inl h)
theorem SqT.of {K:PySem.W.Frag} (h:H a=some (.tup xs)):SqT K H a xs:=.inl (.inl h)
theorem Inv.list (I:Inv X pins σ H s) (h:SqL X.K H a xs):∃its:List Value,Vals xs its∧PlainL s.heap a its.toArray∧xs.length≤sizeLine:=by
  rcases h with h | ⟨o,its,n,hk,hc,hd,hs,hz,r⟩
  · obtain ⟨z,its,n,r,e⟩:=h.ok I.hok
    exact ⟨its,r,⟨_,n,e,rfl,rfl,rfl⟩,z⟩
  · refine ⟨its.toList,r,⟨o,n,I.kIn a o hk,hc,hd,by simpa using hs⟩,?_⟩
    have e:=r.length
    simp only [Array.length_toList] at e
    omega
theorem Inv.tuple (I:Inv X pins σ H s) (h:SqT X.K H a xs):∃its:List Value,Vals xs its∧IsTup s.heap a its.toArray∧xs.length≤sizeLine:=by
  rcases h with h | ⟨o,its,n,hk,hc,hs,hz,r⟩
  · obtain ⟨z,its,r,p⟩:=h.ok I.hok
    exact ⟨its,r,p,z⟩
  · refine ⟨its.toList,r,⟨o,I.kIn a o hk,hc,n,by simpa using hs⟩,?_⟩
    have e:=r.length
    simp only [Array.length_toList] at e
    omega
theorem Inv.list_inj (I:Inv X pins σ H s) (h:SqL X.K H a xs) (h':SqL X.K H a ys):xs=ys:=by
  obtain ⟨its,r,⟨o,n,e,_,_,d⟩,_⟩:=I.list h
  obtain ⟨its',r',⟨o',n',e',_,_,d'⟩,_⟩:=I.list h'
  rw [e] at e';cases e'
  rw [d] at d'
  injection d' with d1 _
  have:its=its':=by simpa using congrArg Array.toList d1
  subst this
  exact r.inj r'
theorem Inv.tuple_inj (I:Inv X pins σ H s) (h:SqT X.K H a xs) (h':SqT X.K H a ys):xs=ys:=by
  obtain ⟨its,r,⟨o,e,_,n,d⟩,_⟩:=I.tuple h
  obtain ⟨its',r',⟨o',e',_,n',d'⟩,_⟩:=I.tuple h'
  rw [e] at e';cases e'
  rw [d] at d'
  injection d' with d1 _
  have:its=its':=by simpa using congrArg Array.toList d1
  subst this
  exact r.inj r'
end
abbrev Cx.wish (X:Cx) (E:Value→Shared→Prop):Cx:={X with xe:=E}
abbrev Cx.nox (X:Cx):Cx:=X.wish fun _ _=>False
theorem Cx.Ok.wish {X:Cx} (ok:X.Ok) (E:Value→Shared→Prop):(X.wish E).Ok:=
  ⟨ok.mod,ok.kind,ok.glob,ok.blt,ok.above,ok.inj,ok.has,ok.cab,ok.hd,ok.frames,ok.stk,ok.exf,ok.bs,ok.bsz,ok.noex,ok.exfs,ok.funs,ok.frf⟩
theorem Cx.Ok.unwish {X:Cx} {E:Value→Shared→Prop} (ok:(X.wish E).Ok):X.Ok:=
  ⟨ok.mod,ok.kind,ok.glob,ok.blt,ok.above,ok.inj,ok.has,ok.cab,ok.hd,ok.frames,ok.stk,ok.exf,ok.bs,ok.bsz,ok.noex,ok.exfs,ok.funs,ok.frf⟩
section
variable {X:Cx} {pins:List (Addr×Obj)} {σ:St} {H:Hp} {s:Shared} {E:Value→Shared→Prop}
theorem Inv.wish (I:Inv X pins σ H s) (E:Value→Shared→Prop):Inv (X.wish E) pins σ H s:=⟨I.ok.wish E,I.os,I.bare,I.base,I.loc,I.cell,I.free,I.freeC,I.pin,I.hok,I.len⟩
theorem Inv.unwish (I:Inv (X.wish E) pins σ H s):Inv X pins σ H s:=⟨I.ok.unwish,I.os,I.bare,I.base,I.loc,I.cell,I.free,I.freeC,I.pin,I.hok,I.len⟩
theorem SP.unwish {D:Ends} {f:Flow} {s':Shared} (h:SP (X.wish E) pins D f s'):SP X pins D f s':=by
  cases f with
  | next=>obtain ⟨σ',H',I,q⟩:=h;exact ⟨σ',H',I.unwish,q⟩
  | brk=>obtain ⟨σ',H',I,q⟩:=h;exact ⟨σ',H',I.unwish,q⟩
  | cont=>obtain ⟨σ',H',I,q⟩:=h;exact ⟨σ',H',I.unwish,q⟩
  | ret u=>obtain ⟨v,σ',H',I,r,q⟩:=h;exact ⟨v,σ',H',I.unwish,r,q⟩
theorem PSs.nox {st:List Stmt} {t:TS} (h:PSs X.nox st t):PSs X st t:=fun pins s σ H D I hw=>
  wpAny_mono (h pins s σ H D (I.wish _) hw) (fun _ _ q=>q.unwish) fun _ _ z=>False.elim z
end
section
variable {X:Cx} {st:Stmt} {rest:List Stmt} {t u:TS} {e:Expr} {te:TE} {pos:Pos}
def tNext:TS:=fun D σ H=>D.nx σ H
def tSeq (t u:TS):TS:=fun D σ H=>t {D with nx:=u D} σ H
theorem pss_nil:PSs X [] tNext:=fun _ _ σ H _ I h=>wpAny_execs_nil ⟨σ,H,I,h⟩
theorem pss_cons (h1:PS X st t) (h2:PSs X rest u):PSs X (st::rest) (tSeq t u):=by
  intro pins s σ H D I h
  refine wpAny_execs_cons (thn (h1 pins s σ H {D with nx:=u D} I h) fun f s1 q=>?_)
  cases f with
  | next=>
    obtain ⟨σ',H',I',q⟩:=q
    exact h2 pins s1 σ' H' D I' q
  | ret v=>exact q
  | brk=>exact q
  | cont=>exact q
theorem pss_one (h1:PS X st t):PSs X [st] t:=by
  intro pins s σ H D I h
  refine wpAny_execs_cons (thn (h1 pins s σ H D I h) fun f s1 q=>?_)
  cases f with
  | next=>exact wpAny_execs_nil q
  | ret v=>exact q
  | brk=>exact q
  | cont=>exact q
theorem Inv.quiet {pins:List (Addr×Obj)} {σ:St} {H:Hp} {s:Shared} (I:Inv X pins σ H s):interactive X.env=false:=by simp [interactive,I.ok.kind]
def tDrop (te:TE):TS:=fun D σ H=>te σ H fun _ H1=>D.nx σ H1
theorem ps_expr (he:PE X e te) (hs:swapsWith e none pos.line X.env=pure false:=by rfl):PS X (.Expr e pos) (tDrop te):=by
  intro pins s σ H D I h
  refine wpAny_Expr_any (thn (he pins s σ H _ I h) fun v s1 zz=>?_) I.quiet hs
  obtain ⟨x,H1,I1,r1,q1⟩:=zz
  exact ⟨σ,H1,I1,q1⟩
def tRet (te:TE):TS:=fun D σ H=>te σ H D.rt
theorem ps_ret (he:PE X e te):PS X (.Return (some e) pos) (tRet te):=by
  intro pins s σ H D I h
  refine wpAny_Return_some (thn (he pins s σ H _ I h) fun v s1 zz=>?_)
  obtain ⟨x,H1,I1,r1,q1⟩:=zz
  exact ⟨x,σ,H1,I1,r1,q1⟩
def tIfS (c:TT) (t u:TS):TS:=fun D σ H=>c σ H fun b H1=>if b=true then t D σ H1 else u D σ H1
theorem ps_if {c:Expr} {a b:List Stmt} {tc:TT} (hc:PT X c tc) (ha:PSs X a t) (hb:PSs X b u):PS X (.If c a b pos) (tIfS tc t u):=by
  intro pins s σ H D I h
  refine wpAny_If (thn (hc pins s σ H _ I h) fun d s1 zz=>?_)
  obtain ⟨H1,I1,q1⟩:=zz
  cases d with
  | true=>exact ha pins s1 σ H1 D I1 q1
  | false=>exact hb pins s1 σ H1 D I1 q1
def tNever:TS:=fun _ _ _=>False
theorem ps_never:PS X st tNever:=fun _ _ _ _ _ _ h=>h.elim
end
abbrev TG:=V→St→Hp→(St→Hp→Prop)→Prop
abbrev TGs:=List V→St→Hp→(St→Hp→Prop)→Prop
def PG (X:Cx) (target:Expr) (t:TG):Prop:=
  ∀(pins:List (Addr×Obj)) (s:Shared) (σ:St) (H:Hp) (v:V) (u:Value) (Q:St→Hp→Prop),Inv X pins σ H s→RelV v u→t v σ H Q→
    wpAny (model X.prog X.w) X.A (assign target X.env u) (fun _ s'=>∃σ' H',Inv X pins σ' H' s'∧Q σ' H') X.xe s
def PGs (X:Cx) (ts:List Expr) (t:TGs):Prop:=
  ∀(pins:List (Addr×Obj)) (s:Shared) (σ:St) (H:Hp) (vs:List V) (us:List Value) (Q:St→Hp→Prop),Inv X pins σ H s→Vals vs us→t vs σ H Q→
    wpAny (model X.prog X.w) X.A (assignInOrder ((assignEach ts X.env).map (·.2)) us) (fun _ s'=>∃σ' H',Inv X pins σ' H' s'∧Q σ' H') X.xe s
abbrev TSet:=V→V→V→Hp→(Hp→Prop)→Prop
def PSet (X:Cx) (t:TSet):Prop:=
  ∀(pins:List (Addr×Obj)) (s:Shared) (σ:St) (H:Hp) (o i v:V) (ov iv u:Value) (Q:Hp→Prop),Inv X pins σ H s→RelV o ov→RelV i iv→RelV v u→t o i v H Q→
    wpAny (model X.prog X.w) X.A (setItem ov iv u) (fun _ s'=>∃H',Inv X pins σ H' s'∧Q H') X.xe s
abbrev TIp:=V→V→Hp→VK→Prop
def PIp (X:Cx) (op:Operator) (t:TIp):Prop:=
  ∀(pins:List (Addr×Obj)) (s:Shared) (σ:St) (H:Hp) (x y:V) (v u:Value) (Q:VK),Inv X pins σ H s→RelV x v→RelV y u→t x y H Q→
    wpAny (model X.prog X.w) X.A (inplaceOp op v u) (EP X pins σ Q) X.xe s
section
variable {X:Cx} {pos:Pos}
def gName (i:Nat):TG:=fun v σ H Q=>Q (σ.set i (some v)) H
theorem pg_name {i:Nat} {x:Str} (hN:X.N.Nodup) (hi:X.N[i]? = some x) (hx:Loc X.env.scope x) (hf:X.fn x=true∨X.env.scope.names.lookup x=some .local:=by first | exact .inl rfl | exact .inr rfl | assumption):PG X (.Name x pos) (gName i):=by
  intro pins s σ H v u Q I r h
  exact wpAny_assign_Name (store_ok I hN hi hx r (fun s' I'=>⟨_,H,I',h⟩) hf)
def gNil:TGs:=fun vs σ H Q=>vs=[]∧Q σ H
def gCons (t:TG) (u:TGs):TGs:=fun vs σ H Q=>∃v r,vs=v::r∧t v σ H fun σ' H'=>u r σ' H' Q
theorem pgs_nil:PGs X [] gNil:=by
  intro pins s σ H vs us Q I r h
  obtain ⟨e,h⟩:=h
  subst e
  cases r
  exact assignInOrder_nil ⟨σ,H,I,h⟩
theorem pgs_cons {e:Expr} {es:List Expr} {t:TG} {u:TGs} (h1:PG X e t) (h2:PGs X es u)
    (hs:(assignEach (e::es) X.env).map (·.2)=assign e X.env::(assignEach es X.env).map (·.2):=by rfl):PGs X (e::es) (gCons t u):=by
  intro pins s σ H vs us Q I r h
  obtain ⟨v,vr,e1,h⟩:=h
  subst e1
  cases r with
  | cons r rr=>
    rw [hs]
    refine assignInOrder_cons (thn (h1 pins s σ H _ _ _ I r h) fun _ s1 zz=>?_)
    obtain ⟨σ1,H1,I1,q1⟩:=zz
    exact h2 pins s1 σ1 H1 _ _ Q I1 rr q1
def gTup (K:PySem.W.Frag) (n:Nat) (t:TGs):TG:=fun v σ H Q=>∃a xs,v = .ref a∧SqT K H a xs∧xs.length=n∧t xs σ H Q
theorem pg_tup {es:List Expr} {k:Nat} {t:TGs} {n:Nat} (hc:X.calm=true) (h:PGs X es t)
    (hn:(assignEach es X.env).length=n:=by rfl) (hst:(assignEach es X.env).findIdx? (·.1)=none:=by rfl):PG X (.Tuple es k pos) (gTup X.K n t):=by
  intro pins s σ H v u Q I r hw
  obtain ⟨a,xs,e1,hq,hl,hw⟩:=hw
  subst e1
  cases r
  obtain ⟨its,rv,ht,hz⟩:=I.tuple hq
  refine assign_Tuple_tuple (I.ok.hd hc) ht (by simp [hn,← hl,rv.length]) hst fun h' hx=>?_
  have I1:Inv X pins σ H {s with heap:=h'}:=I.kept (t':=s.toks) fun b o e=>hx b o (Nat.ne_of_lt (Heap.lt_size e)) e
  exact h pins _ σ H xs _ Q I1 (by simpa using rv) hw
def gSub (to ti:TE) (t:TSet):TG:=fun v σ H Q=>to σ H fun o H1=>ti σ H1 fun i H2=>t o i v H2 fun H3=>Q σ H3
theorem pg_sub {o i:Expr} {to ti:TE} {t:TSet} (ho:PE X o to) (hi:PE X i ti) (hs:PSet X t)
    (ha:∀v,assign (.Subscript o i pos) X.env v=(do
      let ov ← holding [v] (eval o X.env)
      let iv ← holding [v,ov] (eval i X.env)
      standAt pos
      holding [v,ov,iv] (setItem ov iv v)
      release [v,ov,iv] []):=by intro _;rfl):PG X (.Subscript o i pos) (gSub to ti t):=by
  intro pins s σ H v u Q I r h
  rw [ha]
  refine wpAny_bind (wpAny_holding (thn (ho pins s σ H _ I h) fun ov s1 zz=>?_))
  obtain ⟨x,H1,I1,r1,q1⟩:=zz
  refine wpAny_bind (wpAny_holding (thn (hi pins s1 σ H1 _ I1 q1) fun iv s2 zz=>?_))
  obtain ⟨y,H2,I2,r2,q2⟩:=zz
  refine wpAny_bind (wpAny_standAt (wpAny_bind (wpAny_holding (thn (hs pins s2 σ H2 x y v ov iv u _ I2 r1 r2 r q2) fun _ s3 zz=>?_))))
  obtain ⟨H3,I3,q3⟩:=zz
  exact wpAny_release ⟨σ,H3,I3,q3⟩
def tAsg (te:TE) (g:TG):TS:=fun D σ H=>te σ H fun x H1=>g x σ H1 D.nx
theorem ps_asg {tg e:Expr} {te:TE} {g:TG} (he:PE X e te) (hg:PG X tg g) (hs:swapsWithSole [tg] e pos.line X.env=pure false:=by rfl) (hw:swappedStores [tg] e X.env=pure none:=by rfl)
    (h1:(assignEach [tg] X.env).map (·.2)=[assign tg X.env]:=by rfl):PS X (.Assign [tg] e pos) (tAsg te g):=by
  intro pins s σ H D I h
  refine wpAny_Assign_stores (thn (he pins s σ H _ I h) fun v s1 zz=>?_) hs hw
  obtain ⟨x,H1,I1,r1,q1⟩:=zz
  rw [h1]
  exact thn (hg pins s1 σ H1 x v _ I1 r1 q1) fun _ s2 q=>q
theorem ps_set {i:Nat} {x:Str} {e:Expr} {te:TE} {pos':Pos} (hN:X.N.Nodup) (hi:X.N[i]? = some x) (hx:Loc X.env.scope x) (he:PE X e te) (hs:swapsWith e (some (.Name x pos')) pos.line X.env=pure false:=by rfl) (hf:X.fn x=true∨X.env.scope.names.lookup x=some .local:=by first | exact .inl rfl | exact .inr rfl | assumption) :
    PS X (.Assign [.Name x pos'] e pos) (tAsg te (gName i)):=by
  intro pins s σ H D I h
  refine wpAny_Assign_Name (thn (he pins s σ H _ I h) fun v s1 zz=>?_) hs
  obtain ⟨y,H1,I1,r1,q1⟩:=zz
  exact store_ok I1 hN hi hx r1 (fun s2 I2=>⟨_,H1,I2,q1⟩) hf
def tAug (i:Nat) (te:TE) (ti:TIp):TS:=fun D σ H=>∃x,σ[i]? = some (some x)∧te σ H fun y H1=>ti x y H1 fun z H2=>D.nx (σ.set i (some z)) H2
theorem ps_aug {i:Nat} {x:Str} {e:Expr} {te:TE} {op:Operator} {ti:TIp} {pos':Pos} (hN:X.N.Nodup) (hi:X.N[i]? = some x) (hx:Loc X.env.scope x) (he:PE X e te) (ho:PIp X op ti) (hf:X.fn x=true∨X.env.scope.names.lookup x=some .local:=by first | exact .inl rfl | exact .inr rfl | assumption) :
    PS X (.AugAssign (.Name x pos') op e pos) (tAug i te ti):=by
  intro pins s σ H D I h
  obtain ⟨v,e1,h⟩:=h
  obtain ⟨m,hn,hl⟩:=I.loc
  have vis:Vis X.env.scope x:=by rcases hx with k | k;exact .inl k;exact .inr (.inl k)
  obtain ⟨u,r,l⟩:=hl i x v hi e1 vis
  refine wpAny_AugAssign_Name ?_
  have go:wpAny (model X.prog X.w) X.A (eval e X.env) (fun w s₂=>wpAny (model X.prog X.w) X.A (inplaceOp op u w) (fun r s₃=>wpAny (model X.prog X.w) X.A (storeName X.env x r) (fun _=>SP X pins D .next) X.xe s₃) X.xe s₂) X.xe s:=by
    refine thn (he pins s σ H _ I h) fun w s1 zz=>?_
    obtain ⟨y,H1,I1,r1,q1⟩:=zz
    refine thn (ho pins s1 σ H1 v y u w _ I1 r r1 q1) fun z s2 zz=>?_
    obtain ⟨zv,H2,I2,r2,q2⟩:=zz
    exact store_ok I2 hN hi hx r2 (fun s3 I3=>⟨_,H2,I3,q2⟩) hf
  rcases l with ⟨hk,hm⟩ | ⟨hk,c,hc,hcell⟩
  ·exact wpAny_loadName_local I.ok.kind hk hn hm go
  · rcases hk with hk | hk
    ·exact wpAny_loadName_cell I.ok.kind hk hc hcell go
    · rcases hx with k | k
      · have:X.env.scope.names.lookup x=some .free:=hk
        rw [k] at this;cases this
      · have:X.env.scope.names.lookup x=some .free:=hk
        rw [k] at this;cases this
def ipI (f:Int→Int→Int):TIp:=fun x y H Q=>∃i j,x = .int i∧y = .int j∧Q (.int (f i j)) H
theorem ip_add:PIp X .Add (ipI fun i j=>i+j):=by
  intro pins s σ H x y v u Q I r1 r2 h
  obtain ⟨i,j,e1,e2,q⟩:=h
  subst e1;subst e2
  obtain ⟨t,rfl⟩:=r1
  obtain ⟨t',rfl⟩:=r2
  exact iadd_int ⟨.int _,H,I.tok _,⟨_,rfl⟩,q⟩
end
section
variable {X:Cx} {pos:Pos}
def tWhile (c:TT) (tb:TS):TS:=fun D σ H=>∃W:Nat→St→Hp→Prop,(∃m,W m σ H)∧∀m σ H,W m σ H→
  c σ H fun b H1=>if b=true then ∃N:St→Hp→Prop,(∀σ' H',N σ' H'→∃m',m'<m∧W m' σ' H')∧tb {D with nx:=N,ct:=N,bk:=D.nx} σ H1 else D.nx σ H1
theorem ps_while {c:Expr} {body:List Stmt} {tc:TT} {tb:TS} (hp:PassesOwn (model X.prog X.w) X.A X.env X.xe) (hc:PT X c tc) (hb:PSs X body tb):PS X (.While c body [] pos) (tWhile tc tb):=by
  intro pins s σ H D I h
  obtain ⟨W,⟨m0,w0⟩,turn⟩:=h
  refine wpAny_While (codeAny_whileLoop (fun n s'=>∃σ' H',Inv X pins σ' H' s'∧W n σ' H') ?_ m0 ⟨σ,H,I,w0⟩)
  rintro n s1 ⟨σ1,H1,I1,w1⟩
  refine wpAny_passesOwn hp (thn (hc pins s1 σ1 H1 _ I1 (turn n σ1 H1 w1)) fun b s2 zz=>?_)
  obtain ⟨H2,I2,q2⟩:=zz
  cases b with
  | true=>
    obtain ⟨N,hN,q2⟩:=q2
    rw [if_pos rfl]
    refine wpAny_passesOwn hp (thn (hb pins s2 σ1 H2 _ I2 q2) fun f s3 q3=>?_)
    cases f with
    | next=>
      obtain ⟨σ3,H3,I3,n3⟩:=q3
      obtain ⟨m',hm,w3⟩:=hN σ3 H3 n3
      exact ⟨m',hm,σ3,H3,I3,w3⟩
    | cont=>
      obtain ⟨σ3,H3,I3,n3⟩:=q3
      obtain ⟨m',hm,w3⟩:=hN σ3 H3 n3
      exact ⟨m',hm,σ3,H3,I3,w3⟩
    | brk=>exact q3
    | ret v=>exact q3
  | false=>
    rw [if_neg Bool.false_ne_true]
    exact wpAny_execs_nil ⟨σ1,H2,I2,q2⟩
end
structure It where
  go:Nat→Hp→Prop
  yld:Nat→Hp→V→Hp→Prop
  stop:Nat→Hp→Prop
def FpOk (X:Cx) (pins:List (Addr×Obj)) (H:Hp) (b:Addr):Prop:=
  H b=none∧b≠X.env.locals∧b∉X.fs∧(b∈X.ex∨X.s₀.heap.objs.size≤b)∧(∀x c,X.env.cells.lookup x=some c→c≠b)∧∀p∈X.pn++pins,p.1≠b
theorem Inv.fpOk {X:Cx} {pins:List (Addr×Obj)} {σ:St} {H H':Hp} {s:Shared} {b:Addr} (I:Inv X pins σ H s) (hb:s.heap.objs.size≤b) (hn:H' b=none):FpOk X pins H' b:=by
  refine ⟨hn,Nat.ne_of_gt (Nat.lt_of_lt_of_le I.lt hb),I.nofs hb,.inr (Nat.le_trans I.sz hb),fun x c e z=>?_,fun p hp z=>?_⟩
  · obtain ⟨v,q⟩:=I.cell x c e
    exact absurd (Nat.lt_of_lt_of_le q.lt (by rw [z];exact hb)) (Nat.lt_irrefl _)
  ·exact absurd (Nat.lt_of_lt_of_le (Heap.lt_size (I.pin p hp).1) (by rw [z];exact hb)) (Nat.lt_irrefl _)
structure Turn (P:Program) (w:World) (K:PySem.W.Frag) (tg:Expr) (J:It) (fp:List Addr) (it:Addr) (tn:Nat→Heap→Prop):Prop where
  mem:it∈fp
  obj:∀i h,tn i h→∀b∈fp,∃o,h.get? b=some o∧∀v,o.data≠.cell v
  keep:∀i h h',tn i h→(∀b∈fp,∀o,h.get? b=some o→h'.get? b=some o)→tn i h'
  item:∀(X:Cx),X.prog=P→X.w=w→X.K=K→X.calm=true→∀(i:Nat) (pins:List (Addr×Obj)) (s:Shared) (σ:St) (H:Hp) (E:Value→Shared→Prop),Inv X pins σ H s→(∀b∈fp,FpOk X pins H b)→tn i s.heap→J.go i H→
    wpAny (model P w) X.A (pyNext (.ref it)) (fun r s1=>∃u,r=some u∧
      wpAny (model P w) X.A (letOwnedTupleGo tg (.ref it) u) (fun _ s2=>∃x H',Inv X pins σ H' s2∧RelV x u∧J.yld i H x H'∧tn (i+1) s2.heap∧∀b∈fp,H' b=none) E s1) E s
  done:∀(X:Cx),X.prog=P→X.w=w→X.K=K→X.calm=true→∀(i:Nat) (pins:List (Addr×Obj)) (s:Shared) (σ:St) (H:Hp) (E:Value→Shared→Prop),Inv X pins σ H s→(∀b∈fp,FpOk X pins H b)→tn i s.heap→J.stop i H→
    wpAny (model P w) X.A (pyNext (.ref it)) (fun r s1=>r=none∧Inv X pins σ H s1) E s
  self:∀(A:Around) (i:Nat) (s:Shared) (Q:Value→Shared→Prop) (E:Value→Shared→Prop),tn i s.heap→Q (.ref it) s→wpAny (model P w) A (pyIter (.ref it)) Q E s
abbrev TI:=St→Hp→(It→Hp→Prop)→Prop
def PIE (X:Cx) (pins:List (Addr×Obj)) (σ:St) (tg:Expr) (R:It→Hp→Prop) (itv:Value) (s2:Shared):Prop:=
  ∃(it:Addr) (fp:List Addr) (tn:Nat→Heap→Prop) (J:It) (H':Hp),itv = .ref it∧Inv X pins σ H' s2∧Turn X.prog X.w X.K tg J fp it tn∧tn 0 s2.heap∧(∀b∈fp,FpOk X pins H' b)∧R J H'
def PI (X:Cx) (tg iter:Expr) (wi:TI):Prop:=
  ∀(pins:List (Addr×Obj)) (s:Shared) (σ:St) (H:Hp) (R:It→Hp→Prop),Inv X pins σ H s→wi σ H R→
    wpAny (model X.prog X.w) X.A (eval iter X.env) (fun v s1=>wpAny (model X.prog X.w) X.A (pyIter v) (PIE X pins σ tg R) X.xe s1) X.xe s
theorem go_of {M:Model} {A:Around} {E:Value→Shared→Prop} {s:Shared} {tg:Expr} {it:Addr} {u:Value} {o:Obj} {n:String} {vs:Array Value} {Q:Unit→Shared→Prop} (ho:s.heap.get? it=some o) (hc:o.cls = .type n) (hd:o.data = .fields vs)
    (hn : ["enumerate", "zip", "dict_itemiterator", "dict_reverseitemiterator", "odict_iterator", "itertools.zip_longest", "itertools.pairwise"].contains n=false) (hQ:Q () s):wpAny M A (letOwnedTupleGo tg (.ref it) u) Q E s:=by
  unfold letOwnedTupleGo
  cases tg <;> first
    | exact wpAny_pure hQ
    | (cases u <;> first
        | exact wpAny_pure hQ
        | (refine wpAny_bind (wpAny_load ho ?_)
           rw [hc,hd]
           show wpAny M A (if (["enumerate", "zip", "dict_itemiterator", "dict_reverseitemiterator", "odict_iterator", "itertools.zip_longest", "itertools.pairwise"].contains n && vs[0]? == some (rawInt _))=true then _ else _) Q E s
           rw [if_neg (by intro h;rw [hn,Bool.false_and] at h;cases h)]
           exact wpAny_pure hQ))
def Itl (K:PySem.W.Frag) (a:Addr):It:=
  ⟨fun i H=>∃xs x,SqL K H a xs∧xs[i]? = some x,fun i H x H'=>H'=H∧∀xs,SqL K H a xs→xs[i]? = some x,fun i H=>∃xs,SqL K H a xs∧xs.length≤i⟩
def Itt (K:PySem.W.Frag) (a:Addr):It:=
  ⟨fun i H=>∃xs x,SqT K H a xs∧xs[i]? = some x,fun i H x H'=>H'=H∧∀xs,SqT K H a xs→xs[i]? = some x,fun i H=>∃xs,SqT K H a xs∧xs.length≤i⟩
def Itr (lo:Int) (n:Nat):It:=⟨fun i _=>i<n,fun i H x H'=>H'=H∧x = .int (lo+i),fun i _=>n≤i⟩
theorem turn_list {P:Program} {w:World} {K:PySem.W.Frag} {tg:Expr} (a it:Addr):Turn P w K tg (Itl K a) [it] it (fun i h=>h.IsListIter it a i) where
  mem:=by simp
  obj:=fun i h st b hb=>by
    have e:b=it:=by simpa using hb
    subst e
    obtain ⟨o,e,c,d⟩:=st
    exact ⟨o,e,fun v z=>by rw [d] at z;cases z⟩
  keep:=fun i h h' st k=>st.at fun o e=>k it (by simp) o e
  item:=by
    intro X hP hw hK hc i pins s σ H E I hf st hg
    subst hP hw hK
    obtain ⟨xs,x,hq,hx⟩:=hg
    obtain ⟨its,rv,p,hz⟩:=I.list hq
    obtain ⟨u,hu,ru⟩:=rv.get hx
    obtain ⟨f0,f1,f2,f3,f4,f5⟩:=hf it (by simp)
    refine wpAny_pyNext_list_item st p.isList (x:=u) (by simpa using hu) fun h' st' sb=>?_
    have I1:Inv X pins σ H {s with heap:=h'}:=I.turned (t':=s.toks) (fun b o hb e=>(sb.2 b hb).trans e) f0 f1 f3 f4 f5
    obtain ⟨o,e,c,d⟩:=id st'
    exact ⟨u,rfl,go_of (s:={s with heap:=h'}) e c d (by decide) ⟨x,H,I1,ru,⟨rfl,fun ys hy=>by rw [I.list_inj hy hq];exact hx⟩,st',fun b hb=>(hf b hb).1⟩⟩
  done:=by
    intro X hP hw hK hc i pins s σ H E I hf st hg
    subst hP hw hK
    obtain ⟨xs,hq,hx⟩:=hg
    obtain ⟨its,rv,p,hz⟩:=I.list hq
    obtain ⟨f0,f1,f2,f3,f4,f5⟩:=hf it (by simp)
    have hl:=rv.length
    exact wpAny_pyNext_list_end (I.ok.hd hc) st p.isList (by simp;omega) fun h' eb=>⟨rfl,I.turned (t':=s.toks) (fun b o hb e=>eb b o hb e) f0 f1 f3 f4 f5⟩
  self:=fun _ _ _ _ _ st h=>wpAny_pyIter_listiter st h
theorem turn_tuple {P:Program} {w:World} {K:PySem.W.Frag} {tg:Expr} (a it:Addr):Turn P w K tg (Itt K a) [it] it (fun i h=>h.IsTupleIter it a i) where
  mem:=by simp
  obj:=fun i h st b hb=>by
    have e:b=it:=by simpa using hb
    subst e
    obtain ⟨o,e,c,d⟩:=st
    exact ⟨o,e,fun v z=>by rw [d] at z;cases z⟩
  keep:=fun i h h' st k=>st.at fun o e=>k it (by simp) o e
  item:=by
    intro X hP hw hK hc i pins s σ H E I hf st hg
    subst hP hw hK
    obtain ⟨xs,x,hq,hx⟩:=hg
    obtain ⟨its,rv,p,hz⟩:=I.tuple hq
    obtain ⟨u,hu,ru⟩:=rv.get hx
    obtain ⟨f0,f1,f2,f3,f4,f5⟩:=hf it (by simp)
    refine wpAny_pyNext_tuple_item st (show s.heap.IsTuple a its.toArray from p) (x:=u) (by simpa using hu) fun h' st' sb=>?_
    have I1:Inv X pins σ H {s with heap:=h'}:=I.turned (t':=s.toks) (fun b o hb e=>(sb.2 b hb).trans e) f0 f1 f3 f4 f5
    obtain ⟨o,e,c,d⟩:=id st'
    exact ⟨u,rfl,go_of (s:={s with heap:=h'}) e c d (by decide) ⟨x,H,I1,ru,⟨rfl,fun ys hy=>by rw [I.tuple_inj hy hq];exact hx⟩,st',fun b hb=>(hf b hb).1⟩⟩
  done:=by
    intro X hP hw hK hc i pins s σ H E I hf st hg
    subst hP hw hK
    obtain ⟨xs,hq,hx⟩:=hg
    obtain ⟨its,rv,p,hz⟩:=I.tuple hq
    obtain ⟨f0,f1,f2,f3,f4,f5⟩:=hf it (by simp)
    have hl:=rv.length
    exact wpAny_pyNext_tuple_end (I.ok.hd hc) st (show s.heap.IsTuple a its.toArray from p) (by simp;omega) fun h' eb=>⟨rfl,I.turned (t':=s.toks) (fun b o hb e=>eb b o hb e) f0 f1 f3 f4 f5⟩
  self:=fun _ _ _ _ _ st h=>wpAny_pyIter_tupleiter st h
theorem turn_range {P:Program} {w:World} {K:PySem.W.Frag} {tg:Expr} (it:Addr) (lo:Int) (n:Nat):Turn P w K tg (Itr lo n) [it] it (fun i h=>IsRangeIter h it (lo+(i:Nat) * 1) ((n:Int) - (i:Nat)) 1) where
  mem:=by simp
  obj:=fun i h st b hb=>by
    have e:b=it:=by simpa using hb
    subst e
    exact ⟨_,st,fun v z=>by
      have z':Data.fields _=Data.cell v:=z
      cases z'⟩
  keep:=fun i h h' st k=>k it (by simp) _ st
  item:=by
    intro X hP hw hK hc i pins s σ H E I hf st hg
    subst hP hw hK
    obtain ⟨f0,f1,f2,f3,f4,f5⟩:=hf it (by simp)
    have W:=Walks.range (prog:=X.prog) (w:=X.w) (I.ok.hd hc) it lo 1 n
    refine W.item i s _ _ hg st fun v h' tk hv st' kk=>?_
    obtain ⟨t,rfl⟩:=hv
    have I1:Inv X pins σ H {s with heap:=h',toks:=tk}:=I.turned (fun b o hb e=>kk b o (by simpa using hb) e) f0 f1 f3 f4 f5
    refine ⟨_,rfl,go_of (s:={s with heap:=h',toks:=tk}) (n:= "range_iterator") st' rfl rfl (by decide) ⟨.int (lo+i),H,I1,⟨t,?_⟩,⟨rfl,rfl⟩,st',fun b hb=>(hf b hb).1⟩⟩
    rw [Int.mul_one]
  done:=by
    intro X hP hw hK hc i pins s σ H E I hf st hg
    subst hP hw hK
    obtain ⟨f0,f1,f2,f3,f4,f5⟩:=hf it (by simp)
    exact wpAny_pyNext_range_end (I.ok.hd hc) st (by have:n≤i:=hg;omega) fun h' eb=>⟨rfl,I.turned (t':=s.toks) (fun b o hb e=>eb b o hb e) f0 f1 f3 f4 f5⟩
  self:=fun _ _ _ _ _ st h=>wpAny_pyIter_rangeiter st h
section
variable {X:Cx} {tg:Expr}
def iList (K:PySem.W.Frag) (tl:TE):TI:=fun σ H R=>tl σ H fun x H1=>∃a,x = .ref a∧(∃xs,SqL K H1 a xs)∧R (Itl K a) H1
theorem pi_list {l:Expr} {tl:TE} (hl:PE X l tl):PI X tg l (iList X.K tl):=by
  intro pins s σ H R I h
  refine thn (hl pins s σ H _ I h) fun v s1 zz=>?_
  obtain ⟨x,H1,I1,r1,q1⟩:=zz
  obtain ⟨a,e,⟨xs,hq⟩,q⟩:=q1
  subst e
  cases r1
  obtain ⟨its,rv,p,hz⟩:=I1.list hq
  refine wpAny_pyIter_list p.isList ?_
  refine ⟨s1.heap.objs.size,[s1.heap.objs.size],_,_,H1,rfl,I1.kept (t':=s1.toks) fun b o e=>Heap.get?_push_of_some _ e,turn_list a _,⟨_,Heap.get?_push_size _ rfl,rfl,rfl⟩,fun b hb=>?_,q⟩
  have e:b=s1.heap.objs.size:=by simpa using hb
  subst e
  exact I1.fpOk (Nat.le_refl _) (I1.hok.fresh (Nat.le_refl _))
theorem range_it {pins:List (Addr×Obj)} {σ:St} {H:Hp} {s:Shared} {R:It→Hp→Prop} {E:Value→Shared→Prop} {lo hi:Int} {t u v:Tok} {tk:Nat} (I:Inv X pins σ H s) (h1 : -(2 ^ 62)≤lo) (h2:lo<2 ^ 62) (h3 : -(2 ^ 62)≤hi) (h4:hi<2 ^ 62)
    (q:R (Itr lo (hi - lo).toNat) H):wpAny (model X.prog X.w) X.A (pyIter (.ref s.heap.objs.size)) (PIE X pins σ tg R) E {s with heap:=s.heap.push {cls:=.type "range",data:=.fields #[.int lo t,.int hi u,.int 1 v]},toks:=tk}:=by
  refine wpAny_pyIter_range (IsRange.new ..) (small_one h1 h2 h3 h4) ?_
  have I1:Inv X pins σ H {s with heap:=s.heap.push {cls:=.type "range",data:=.fields #[.int lo t,.int hi u,.int 1 v]},toks:=tk}:=I.kept fun b o e=>Heap.get?_push_of_some _ e
  refine ⟨(s.heap.push {cls:=.type "range",data:=.fields #[.int lo t,.int hi u,.int 1 v]}).objs.size,[(s.heap.push {cls:=.type "range",data:=.fields #[.int lo t,.int hi u,.int 1 v]}).objs.size],_,_,H,rfl,
    I1.kept (t':=tk) fun b o e=>Heap.get?_push_of_some _ e,turn_range _ lo (hi - lo).toNat,?_,fun b hb=>?_,q⟩
  · have e1:lo+((0:Nat):Int) * 1=lo:=by simp
    have e2:(((hi - lo).toNat:Nat):Int) - ((0:Nat):Int)=Builtin.Range.rangeSize lo hi 1:=by rw [rangeSize_one];split <;> omega
    show IsRangeIter _ _ (lo+((0:Nat):Int) * 1) ((((hi - lo).toNat:Nat):Int) - ((0:Nat):Int)) 1
    rw [e1,e2]
    exact Heap.get?_push_size _ rfl
  · have e:b=(s.heap.push {cls:=.type "range",data:=.fields #[.int lo t,.int hi u,.int 1 v]}).objs.size:=by simpa using hb
    subst e
    exact I1.fpOk (Nat.le_refl _) (I1.hok.fresh (Nat.le_refl _))
def iRng1 (ta:TA):TI:=fun σ H R=>ta σ H fun vs H1=>∃j:Int,vs=[.int j]∧-(2 ^ 62)≤j∧j<2 ^ 62∧R (Itr 0 j.toNat) H1
def iRng2 (ta:TA):TI:=fun σ H R=>ta σ H fun vs H1=>∃i j:Int,vs=[.int i,.int j]∧(-(2 ^ 62)≤i∧i<2 ^ 62∧-(2 ^ 62)≤j∧j<2 ^ 62)∧R (Itr i (j - i).toNat) H1
theorem pi_range1 {a:Expr} {ta:TA} {p pos:Pos} (hg:Gl X "range") (hm:X.mg "range" = none) (ha:PA X [a] ta) (hs:starEach [a] X.env=[(false,eval a X.env)]:=by rfl):PI X tg (.Call (.Name "range" p) [a] [] pos) (iRng1 ta):=by
  intro pins s σ H R I h
  refine Call_ (ld_blt I hg hm boot_range (PyProof.Rows.callWith_type1 (thn (ha pos pins s σ H _ I h) fun us s1 zz=>?_) hs rfl))
  obtain ⟨vs,H1,I1,r1,q1⟩:=zz
  obtain ⟨j,e,q1,q2,q⟩:=q1
  subst e
  cases r1 with
  | cons r rr=>
    cases rr
    obtain ⟨t,rfl⟩:=r
    exact call_range_1 (range_it I1 (by omega) (by omega) q1 q2 (by simpa using q))
theorem pi_range2 {a b:Expr} {ta:TA} {p pos:Pos} (hg:Gl X "range") (hm:X.mg "range" = none) (ha:PA X [a,b] ta) (hs:starEach [a,b] X.env=[(false,eval a X.env),(false,eval b X.env)]:=by rfl) (hs2:starEach [b] X.env=[(false,eval b X.env)]:=by rfl) :
    PI X tg (.Call (.Name "range" p) [a,b] [] pos) (iRng2 ta):=by
  intro pins s σ H R I h
  refine Call_ (ld_blt I hg hm boot_range (PyProof.Rows.callWith_type1 (thn (ha pos pins s σ H _ I h) fun us s1 zz=>?_) (by rw [hs,hs2]) (by rw [hs2];rfl)))
  obtain ⟨vs,H1,I1,r1,q1⟩:=zz
  obtain ⟨i,j,e,⟨q1,q2,q3,q4⟩,q⟩:=q1
  subst e
  cases r1 with
  | cons r rr=>
    cases rr with
    | cons r' rr=>
      cases rr
      obtain ⟨t,rfl⟩:=r
      obtain ⟨t',rfl⟩:=r'
      exact call_range_2 (range_it I1 q1 q2 q3 q4 q)
def tFor (wi:TI) (g:TG) (tb:TS):TS:=fun D σ H=>wi σ H fun J H1=>∃W:Nat→Nat→St→Hp→Prop,(∃m,W 0 m σ H1)∧∀i m σ H,W i m σ H→
  (J.stop i H∧D.nx σ H)∨(J.go i H∧∃N:St→Hp→Prop,(∀σ' H',N σ' H'→∃m',m'<m∧W (i+1) m' σ' H')∧∀x H',J.yld i H x H'→g x σ H' fun σ2 H2=>tb {D with nx:=N,ct:=N,bk:=D.nx} σ2 H2)
def pinsAt (fp:List Addr) (h:Heap):List (Addr×Obj):=fp.filterMap fun b=>(h.get? b).map fun o=>(b,o)
theorem mem_pinsAt {fp:List Addr} {h:Heap} {b:Addr} {o:Obj} (hb:b∈fp) (e:h.get? b=some o):(b,o)∈pinsAt fp h:=List.mem_filterMap.mpr ⟨b,hb,by rw [e];rfl⟩
theorem of_pinsAt {fp:List Addr} {h:Heap} {p:Addr×Obj} (hp:p∈pinsAt fp h):p.1∈fp∧h.get? p.1=some p.2:=by
  obtain ⟨b,hb,e⟩:=List.mem_filterMap.mp hp
  cases q:h.get? b with
  | none=>rw [q] at e;cases e
  | some o=>
    rw [q] at e
    have e':(b,o)=p:=Option.some.inj e
    subst e'
    exact ⟨hb,q⟩
theorem Inv.pinned {pins:List (Addr×Obj)} {σ:St} {H:Hp} {s:Shared} {fp:List Addr} (I:Inv X pins σ H s) (hf:∀b∈fp,FpOk X pins H b) (ho:∀b∈fp,∃o,s.heap.get? b=some o∧∀v,o.data≠.cell v):Inv X (pins++pinsAt fp s.heap) σ H s:=
  I.pins_of fun p hp=>(List.mem_append.mp hp).elim (fun z=>I.pin p (List.mem_append_right _ z)) fun z=>by
    obtain ⟨hb,e⟩:=of_pinsAt z
    obtain ⟨f0,f1,f2,_⟩:=hf p.1 hb
    obtain ⟨o,e',d⟩:=ho p.1 hb
    rw [e] at e';cases e'
    exact ⟨e,f0,f1,f2,d⟩
theorem Inv.unpinned {pins pl:List (Addr×Obj)} {σ:St} {H:Hp} {s:Shared} (I:Inv X (pins++pl) σ H s):Inv X pins σ H s:=I.pins_of fun p hp=>I.pin p (List.mem_append_right _ (List.mem_append_left _ hp))
theorem ps_for {iter:Expr} {body:List Stmt} {wi:TI} {g:TG} {tb:TS} {pos:Pos} (hp:PassesOwn (model X.prog X.w) X.A X.env X.xe) (hc:X.calm=true) (hi:PI X tg iter wi) (hg:PG X tg g) (hb:PSs X body tb)
    (hs:∀x,foldedSetIterable iter X.env x=pure x:=by intro _;rfl):PS X (.For tg iter body [] pos) (tFor wi g tb):=by
  intro pins s σ H D I h
  refine wpAny_For (thn (hi pins s σ H _ I h) fun v s1 h1=>thn h1 fun itv s2 h2=>?_) hs
  obtain ⟨it,fp,tn,J,H2,e,I2,T,st2,f2,W,⟨m0,w0⟩,turn⟩:=h2
  subst e
  have stat:∀{H':Hp},(∀b∈fp,H' b=none)→∀b∈fp,FpOk X pins H' b:=fun hn b hb=>⟨hn b hb,(f2 b hb).2⟩
  refine codeAny_forLoop_any (fun n s'=>∃i σ' H',Inv X pins σ' H' s'∧tn i s'.heap∧(∀b∈fp,H' b=none)∧W i n σ' H') ?_ m0 ⟨0,σ,H2,I2,st2,fun b hb=>(f2 b hb).1,w0⟩
  rintro n s3 ⟨i,σ3,H3,I3,st3,fr3,w3⟩
  rcases turn i n σ3 H3 w3 with ⟨stop,qn⟩ | ⟨go,N,hN,step⟩
  · refine wpAny_passesOwn hp (thn (T.done X rfl rfl rfl hc i pins s3 σ3 H3 X.xe I3 (stat fr3) st3 stop) fun r s4 zz=>?_)
    obtain ⟨hr,I4⟩:=zz
    subst hr
    exact wpAny_execs_nil ⟨σ3,H3,I4,qn⟩
  · refine wpAny_passesOwn hp (thn (T.item X rfl rfl rfl hc i pins s3 σ3 H3 X.xe I3 (stat fr3) st3 go) fun r s4 zz=>?_)
    obtain ⟨u,hr,h4⟩:=zz
    subst hr
    refine wpAny_passesOwn hp (thn h4 fun _ s5 zz=>?_)
    obtain ⟨x,H5,I5,r5,y5,st5,fr5⟩:=zz
    have I5':=I5.pinned (stat fr5) (T.obj _ _ st5)
    refine wpAny_passesOwn hp (thn (hg _ s5 σ3 H5 x u _ I5' r5 (step x H5 y5)) fun _ s6 zz=>?_)
    obtain ⟨σ6,H6,I6,q6⟩:=zz
    refine wpAny_passesOwn hp (thn (hb _ s6 σ6 H6 _ I6 q6) fun f s7 q7=>?_)
    have again:∀{σ7:St} {H7:Hp},Inv X (pins++pinsAt fp s5.heap) σ7 H7 s7→N σ7 H7→∃m,m<n∧∃i σ' H',Inv X pins σ' H' s7∧tn i s7.heap∧(∀b∈fp,H' b=none)∧W i m σ' H':=fun {σ7 H7} I7 n7=>by
      obtain ⟨m',hm,w7⟩:=hN σ7 H7 n7
      refine ⟨m',hm,i+1,σ7,H7,I7.unpinned,T.keep _ _ _ st5 fun b hb o e=>(I7.pin (b,o) (List.mem_append_right _ (List.mem_append_right _ (mem_pinsAt hb e)))).1,fun b hb=>?_,w7⟩
      obtain ⟨o,e,d⟩:=T.obj _ _ st5 b hb
      exact (I7.pin (b,o) (List.mem_append_right _ (List.mem_append_right _ (mem_pinsAt hb e)))).2.1
    cases f with
    | next=>obtain ⟨σ7,H7,I7,n7⟩:=q7;exact again I7 n7
    | cont=>obtain ⟨σ7,H7,I7,n7⟩:=q7;exact again I7 n7
    | brk=>obtain ⟨σ7,H7,I7,q7⟩:=q7;exact ⟨σ7,H7,I7.unpinned,q7⟩
    | ret v=>obtain ⟨x7,σ7,H7,I7,r7,q7⟩:=q7;exact ⟨x7,σ7,H7,I7.unpinned,r7,q7⟩
end
theorem for_list {K:PySem.W.Frag} {a:Addr} {xs:List V} {g:TG} {tb:TS} {D:Ends} {σ:St} {H:Hp} (Pv:Nat→St→Hp→Prop) (h0:Pv 0 σ H) (hl:∀i σ H,i≤xs.length→Pv i σ H→SqL K H a xs)
    (hs:∀i x σ H,xs[i]? = some x→Pv i σ H→g x σ H fun σ2 H2=>tb {D with nx:=Pv (i+1),ct:=Pv (i+1),bk:=D.nx} σ2 H2) (hd:∀σ H,Pv xs.length σ H→D.nx σ H) :
    ∃W:Nat→Nat→St→Hp→Prop,(∃m,W 0 m σ H)∧∀i m σ H,W i m σ H→
      ((Itl K a).stop i H∧D.nx σ H)∨((Itl K a).go i H∧∃N:St→Hp→Prop,(∀σ' H',N σ' H'→∃m',m'<m∧W (i+1) m' σ' H')∧∀x H',(Itl K a).yld i H x H'→g x σ H' fun σ2 H2=>tb {D with nx:=N,ct:=N,bk:=D.nx} σ2 H2):=by
  refine ⟨fun i m σ H=>m=xs.length - i∧i≤xs.length∧Pv i σ H,⟨xs.length,by simp,Nat.zero_le _,h0⟩,?_⟩
  rintro i m σ H ⟨rfl,hi,p⟩
  have q:=hl i σ H hi p
  by_cases hlt:i<xs.length
  · refine .inr ⟨⟨xs,xs[i],q,by simp [hlt]⟩,Pv (i+1),fun σ' H' p'=>⟨xs.length - (i+1),by omega,rfl,hlt,p'⟩,fun x H' y=>?_⟩
    obtain ⟨e,y⟩:=y
    subst e
    exact hs i x σ _ (y xs q) p
  · have e:i=xs.length:=by omega
    subst e
    exact .inl ⟨⟨xs,q,Nat.le_refl _⟩,hd σ H p⟩
theorem for_range {lo:Int} {n:Nat} {g:TG} {tb:TS} {D:Ends} {σ:St} {H:Hp} (Pv:Nat→St→Hp→Prop) (h0:Pv 0 σ H)
    (hs:∀i σ H,i<n→Pv i σ H→g (.int (lo+i)) σ H fun σ2 H2=>tb {D with nx:=Pv (i+1),ct:=Pv (i+1),bk:=D.nx} σ2 H2) (hd:∀σ H,Pv n σ H→D.nx σ H) :
    ∃W:Nat→Nat→St→Hp→Prop,(∃m,W 0 m σ H)∧∀i m σ H,W i m σ H→
      ((Itr lo n).stop i H∧D.nx σ H)∨((Itr lo n).go i H∧∃N:St→Hp→Prop,(∀σ' H',N σ' H'→∃m',m'<m∧W (i+1) m' σ' H')∧∀x H',(Itr lo n).yld i H x H'→g x σ H' fun σ2 H2=>tb {D with nx:=N,ct:=N,bk:=D.nx} σ2 H2):=by
  refine ⟨fun i m σ H=>m=n - i∧i≤n∧Pv i σ H,⟨n,by simp,Nat.zero_le _,h0⟩,?_⟩
  rintro i m σ H ⟨rfl,hi,p⟩
  by_cases hlt:i<n
  · refine .inr ⟨hlt,Pv (i+1),fun σ' H' p'=>⟨n - (i+1),by omega,rfl,hlt,p'⟩,fun x H' y=>?_⟩
    obtain ⟨e,y⟩:=y
    subst e y
    exact hs i σ _ hlt p
  · have e:i=n:=by omega
    subst e
    exact .inl ⟨Nat.le_refl _,hd σ H p⟩
theorem while_by {c:TT} {tb:TS} {D:Ends} {σ:St} {H:Hp} (Pv:St→Hp→Prop) (μ:St→Hp→Nat) (h0:Pv σ H)
    (hs:∀σ H,Pv σ H→c σ H fun b H1=>if b=true then tb {D with nx:=fun σ' H'=>Pv σ' H'∧μ σ' H'<μ σ H,ct:=fun σ' H'=>Pv σ' H'∧μ σ' H'<μ σ H,bk:=D.nx} σ H1 else D.nx σ H1)
    (mono:∀σ H Q Q',(∀b H1,Q b H1→Q' b H1)→c σ H Q→c σ H Q'):tWhile c tb D σ H:=by
  refine ⟨fun m σ H=>m=μ σ H∧Pv σ H,⟨_,rfl,h0⟩,?_⟩
  rintro m σ H ⟨rfl,p⟩
  refine mono σ H _ _ (fun b H1 q=>?_) (hs σ H p)
  cases b with
  | true=>exact ⟨_,fun σ' H' ⟨p',l⟩=>⟨_,l,rfl,p'⟩,q⟩
  | false=>exact q
abbrev R2:=V→V→Hp→VK→Prop
def OpR (X:Cx) (f:Value→Value→Sem Value) (r:R2):Prop:=
  ∀(pins:List (Addr×Obj)) (s:Shared) (σ:St) (H:Hp) (x y:V) (v u:Value) (Q:VK),Inv X pins σ H s→RelV x v→RelV y u→r x y H Q→
    wpAny (model X.prog X.w) X.A (f v u) (EP X pins σ Q) X.xe s
def UnR (X:Cx) (f:Value→Sem Value) (r:V→Hp→VK→Prop):Prop:=
  ∀(pins:List (Addr×Obj)) (s:Shared) (σ:St) (H:Hp) (x:V) (v:Value) (Q:VK),Inv X pins σ H s→RelV x v→r x H Q→
    wpAny (model X.prog X.w) X.A (f v) (EP X pins σ Q) X.xe s
def CallR (X:Cx) (f:Value) (r:List V→Hp→VK→Prop):Prop:=
  ∀(pins:List (Addr×Obj)) (s:Shared) (σ:St) (H:Hp) (xs:List V) (us:List Value) (Q:VK),Inv X pins σ H s→Vals xs us→r xs H Q→
    wpAny (model X.prog X.w) X.A (call f us) (EP X pins σ Q) X.xe s
def tOp (r:R2) (ta tb:TE):TE:=fun σ H Q=>ta σ H fun x H1=>tb σ H1 fun y H2=>r x y H2 Q
def tUn (r:V→Hp→VK→Prop) (ta:TE):TE:=fun σ H Q=>ta σ H fun x H1=>r x H1 Q
def rI (C:Int→Int→Prop) (g:Int→Int→V):R2:=fun x y H Q=>∃i j,x = .int i∧y = .int j∧C i j∧Q (g i j) H
def rI0 (g:Int→Int→V):R2:=fun x y H Q=>∃i j,x = .int i∧y = .int j∧Q (g i j) H
def rU (g:Int→V):V→Hp→VK→Prop:=fun x H Q=>∃i,x = .int i∧Q (g i) H
section
variable {X:Cx} {a b c:Expr} {ta tb tc:TE} {pos:Pos}
theorem binT (ha:PE X a ta) (hb:PE X b tb) {pins:List (Addr×Obj)} {s:Shared} {σ:St} {H:Hp} {R:V→V→Hp→Prop} (I:Inv X pins σ H s)
    (h:ta σ H fun x H1=>tb σ H1 fun y H2=>R x y H2) {Q:Value→Shared→Prop} {f:Value→Value→Sem Value}
    (hf:∀v u s2 x y H2,Inv X pins σ H2 s2→RelV x v→RelV y u→R x y H2→wpAny (model X.prog X.w) X.A (f v u) Q X.xe s2) :
    wpAny (model X.prog X.w) X.A (eval a X.env) (fun v s₁=>wpAny (model X.prog X.w) X.A (eval b X.env) (fun u s₂=>wpAny (model X.prog X.w) X.A (f v u) Q X.xe s₂) X.xe s₁) X.xe s:=by
  refine thn (ha pins s σ H _ I h) fun v s1 zz=>?_
  obtain ⟨x,H1,I1,r1,q1⟩:=zz
  refine thn (hb pins s1 σ H1 _ I1 q1) fun u s2 zz=>?_
  obtain ⟨y,H2,I2,r2,q2⟩:=zz
  exact hf v u s2 x y H2 I2 r1 r2 q2
theorem pe_op {op:Operator} {r:R2} (ho:OpR X (binaryOp op) r) (ha:PE X a ta) (hb:PE X b tb):PE X (.BinOp a op b pos) (tOp r ta tb):=by
  intro pins s σ H Q I h
  exact wpAny_BinOp (binT ha hb I h fun v u s2 x y H2 I2 rx ry q=>ho pins s2 σ H2 x y v u Q I2 rx ry q)
theorem pe_un {op:UnaryOp} {r:V→Hp→VK→Prop} (ho:UnR X (unaryOp op) r) (ha:PE X a ta):PE X (.UnaryOp op a pos) (tUn r ta):=by
  intro pins s σ H Q I h
  refine UnaryOp_ (thn (ha pins s σ H _ I h) fun v s1 zz=>?_)
  obtain ⟨x,H1,I1,r1,q1⟩:=zz
  exact ho pins s1 σ H1 x v Q I1 r1 q1
theorem opI {f:Value→Value→Sem Value} {C:Int→Int→Prop} {g:Int→Int→Int}
    (rule:∀(i j:Int) (t u:Tok) (s:Shared) (Q:Value→Shared→Prop) (E:Value→Shared→Prop),C i j→Q (.int (g i j) s.toks) {s with toks:=s.toks+1}→wpAny (model X.prog X.w) X.A (f (.int i t) (.int j u)) Q E s) :
    OpR X f (rI C fun i j=>.int (g i j)):=by
  intro pins s σ H x y v u Q I rx ry h
  obtain ⟨i,j,rfl,rfl,hc,q⟩:=h
  obtain ⟨t,rfl⟩:=rx
  obtain ⟨t',rfl⟩:=ry
  exact rule i j t t' s _ _ hc ⟨.int (g i j),H,I.tok _,⟨_,rfl⟩,q⟩
theorem opI0 {f:Value→Value→Sem Value} {g:Int→Int→Int}
    (rule:∀(i j:Int) (t u:Tok) (s:Shared) (Q:Value→Shared→Prop) (E:Value→Shared→Prop),Q (.int (g i j) s.toks) {s with toks:=s.toks+1}→wpAny (model X.prog X.w) X.A (f (.int i t) (.int j u)) Q E s) :
    OpR X f (rI0 fun i j=>.int (g i j)):=by
  intro pins s σ H x y v u Q I rx ry h
  obtain ⟨i,j,rfl,rfl,q⟩:=h
  obtain ⟨t,rfl⟩:=rx
  obtain ⟨t',rfl⟩:=ry
  exact rule i j t t' s _ _ ⟨.int (g i j),H,I.tok _,⟨_,rfl⟩,q⟩
theorem opB0 {f:Value→Value→Sem Value} {g:Int→Int→Bool}
    (rule:∀(i j:Int) (t u:Tok) (s:Shared) (Q:Value→Shared→Prop) (E:Value→Shared→Prop),Q (.bool (g i j)) s→wpAny (model X.prog X.w) X.A (f (.int i t) (.int j u)) Q E s) :
    OpR X f (rI0 fun i j=>.bl (g i j)):=by
  intro pins s σ H x y v u Q I rx ry h
  obtain ⟨i,j,rfl,rfl,q⟩:=h
  obtain ⟨t,rfl⟩:=rx
  obtain ⟨t',rfl⟩:=ry
  exact rule i j t t' s _ _ ⟨.bl (g i j),H,I,rfl,q⟩
@[simp] def CDiv (i j:Int):Prop:=0<j∧j<1073741824
@[simp] def CPow (i j:Int):Prop:=0≤j∧j≤1000000∧i.natAbs<2 ^ 64
@[simp] def CMul (i j:Int):Prop:=(-(2 ^ 64)<i∧i<2 ^ 64)∨(-(2 ^ 64)<j∧j<2 ^ 64)
theorem CMul.ok {i j:Int} (h:CMul i j):IntMulOk i j:=by
  rcases h with ⟨h1,h2⟩ | ⟨h1,h2⟩
  ·exact .of_left (intBits_le_64 h1 h2)
  ·exact .of_right (intBits_le_64 h1 h2)
theorem op_add:OpR X (binaryOp .Add) (rI0 fun i j=>.int (i+j)):=opI0 fun _ _ _ _ _ _ _ q=>add_int q
theorem op_sub:OpR X (binaryOp .Sub) (rI0 fun i j=>.int (i - j)):=opI0 fun _ _ _ _ _ _ _ q=>sub_int q
theorem op_mul:OpR X (binaryOp .Mult) (rI CMul fun i j=>.int (i * j)):=opI fun _ _ _ _ _ _ _ hc q=>mul_int q hc.ok
theorem op_fdiv:OpR X (binaryOp .FloorDiv) (rI CDiv fun i j=>.int (i / j)):=opI fun i j _ _ _ _ _ hc q=>by
  have h1:(0:Int)<j:=hc.1
  have h2:j<1073741824:=hc.2
  exact floordiv_int (by omega) (by rw [Int.fdiv_eq_ediv_of_nonneg i (by omega)];exact q) (.inl (PyProof.noPylong_small (by omega)))
theorem op_mod:OpR X (binaryOp .Mod) (rI (fun _ j=>0<j) fun i j=>.int (i % j)):=opI fun i j _ _ _ _ _ hc q=>by
  have h1:(0:Int)<j:=hc
  exact mod_int' (by omega) (by rw [Int.fmod_eq_emod_of_nonneg i (by omega)];exact q)
theorem op_pow:OpR X (binaryOp .Pow) (rI CPow fun i j=>.int (i ^ j.toNat)):=opI fun _ _ _ _ _ _ _ hc q=>pow_int_small hc.1 hc.2.1 hc.2.2 q
theorem unI {f:Value→Sem Value} {g:Int→Int}
    (rule:∀(i:Int) (t:Tok) (s:Shared) (Q:Value→Shared→Prop) (E:Value→Shared→Prop),Q (.int (g i) s.toks) {s with toks:=s.toks+1}→wpAny (model X.prog X.w) X.A (f (.int i t)) Q E s) :
    UnR X f (rU fun i=>.int (g i)):=by
  intro pins s σ H x v Q I rx h
  obtain ⟨i,rfl,q⟩:=h
  obtain ⟨t,rfl⟩:=rx
  exact rule i t s _ _ ⟨.int (g i),H,I.tok _,⟨_,rfl⟩,q⟩
theorem un_neg:UnR X (unaryOp .USub) (rU fun i=>.int (-i)):=unI fun _ _ _ _ _ q=>neg_int q
end
def scal:V→V→Bool
  | .non,.non=>true | .non,.int _=>true | .int _,.non=>true | .non,.bl _=>true | .bl _,.non=>true | .non,.str _=>true | .str _,.non=>true
  | .int _,.int _=>true | .bl _,.bl _=>true | .str _,.str _=>true | .byt _,.byt _=>true
  | .int _,.str _=>true | .str _,.int _=>true | .bl _,.str _=>true | .str _,.bl _=>true
  | _,_=>false
def rEq:R2:=fun x y H Q=>scal x y=true∧Q (.bl (decide (x=y))) H
def rNe:R2:=fun x y H Q=>scal x y=true∧Q (.bl (!decide (x=y))) H
theorem dec_int {i j:Int}:decide (V.int i=V.int j)=(i == j):=by
  rw [Bool.eq_iff_iff]
  simp
theorem dec_bl {i j:Bool}:decide (V.bl i=V.bl j)=(i == j):=by
  rw [Bool.eq_iff_iff]
  simp
theorem dec_str {i j:Str}:decide (V.str i=V.str j)=(i == j):=by
  rw [Bool.eq_iff_iff]
  simp
theorem dec_byt {i j:Array UInt8}:decide (V.byt i=V.byt j)=(i.toList == j.toList):=by
  rw [Bool.eq_iff_iff]
  cases i
  cases j
  simp
section
variable {X:Cx} {a b c:Expr} {ta tb tc:TE} {pos:Pos}
theorem fin_bl {pins:List (Addr×Obj)} {σ:St} {H:Hp} {s:Shared} {Q:VK} {k k':Bool} (I:Inv X pins σ H s) (q:Q (.bl k) H) (e:k=k'):EP X pins σ Q (.bool k') s:=by
  subst e
  exact ⟨.bl k,H,I,rfl,q⟩
theorem op_eq:OpR X (compareOp .Eq) rEq:=by
  intro pins s σ H x y v u Q I rx ry h
  obtain ⟨hs,q⟩:=h
  cases x with
  | non=>
    cases rx
    cases y with
    | non=>cases ry;exact PySem.EqNone.eq_none_none (fin_bl I q (by simp))
    | bl j=>cases ry;exact PySem.EqNone.eq_none_bool (fin_bl I q (by simp))
    | int j=>obtain ⟨t',rfl⟩:=ry;exact PySem.EqNone.eq_none_int (fin_bl I q (by simp))
    | str j=>obtain ⟨t',rfl⟩:=ry;exact PySem.EqNone.eq_none_str (fin_bl I q (by simp))
    | _=>exact absurd (show false=true from hs) Bool.false_ne_true
  | bl i=>
    cases rx
    cases y with
    | non=>cases ry;exact PySem.EqNone.eq_bool_none (fin_bl I q (by simp))
    | bl j=>cases ry;exact eq_bool (fin_bl I q dec_bl)
    | str j=>obtain ⟨t',rfl⟩:=ry;exact PySem.EqMixed.eq_bool_str (fin_bl I q (by simp))
    | _=>exact absurd (show false=true from hs) Bool.false_ne_true
  | int i=>
    obtain ⟨t,rfl⟩:=rx
    cases y with
    | non=>cases ry;exact PySem.EqNone.eq_int_none (fin_bl I q (by simp))
    | int j=>obtain ⟨t',rfl⟩:=ry;exact eq_int (fin_bl I q dec_int)
    | str j=>obtain ⟨t',rfl⟩:=ry;exact PySem.EqMixed.eq_int_str (fin_bl I q (by simp))
    | _=>exact absurd (show false=true from hs) Bool.false_ne_true
  | str i=>
    obtain ⟨t,rfl⟩:=rx
    cases y with
    | non=>cases ry;exact PySem.EqNone.eq_str_none (fin_bl I q (by simp))
    | bl j=>cases ry;exact PySem.EqMixed.eq_str_bool (fin_bl I q (by simp))
    | int j=>obtain ⟨t',rfl⟩:=ry;exact PySem.EqMixed.eq_str_int (fin_bl I q (by simp))
    | str j=>obtain ⟨t',rfl⟩:=ry;exact eq_str (fin_bl I q dec_str)
    | _=>exact absurd (show false=true from hs) Bool.false_ne_true
  | byt i=>
    obtain ⟨t,rfl⟩:=rx
    cases y with
    | byt j=>obtain ⟨t',rfl⟩:=ry;exact PySem.W.eq_bytes (fin_bl I q dec_byt)
    | _=>exact absurd (show false=true from hs) Bool.false_ne_true
  | _=>cases y <;> exact absurd (show false=true from hs) Bool.false_ne_true
theorem op_ne:OpR X (compareOp .NotEq) rNe:=by
  intro pins s σ H x y v u Q I rx ry h
  obtain ⟨hs,q⟩:=h
  cases x with
  | non=>
    cases rx
    cases y with
    | non=>cases ry;exact PySem.EqNone.ne_none_none (fin_bl I q (by simp))
    | bl j=>cases ry;exact PySem.EqNone.ne_none_bool (fin_bl I q (by simp))
    | int j=>obtain ⟨t',rfl⟩:=ry;exact PySem.EqNone.ne_none_int (fin_bl I q (by simp))
    | str j=>obtain ⟨t',rfl⟩:=ry;exact PySem.EqNone.ne_none_str (fin_bl I q (by simp))
    | _=>exact absurd (show false=true from hs) Bool.false_ne_true
  | bl i=>
    cases rx
    cases y with
    | non=>cases ry;exact PySem.EqNone.ne_bool_none (fin_bl I q (by simp))
    | bl j=>cases ry;exact ne_bool (fin_bl I q (congrArg not dec_bl))
    | str j=>obtain ⟨t',rfl⟩:=ry;exact PySem.EqMixed.ne_bool_str (fin_bl I q (by simp))
    | _=>exact absurd (show false=true from hs) Bool.false_ne_true
  | int i=>
    obtain ⟨t,rfl⟩:=rx
    cases y with
    | non=>cases ry;exact PySem.EqNone.ne_int_none (fin_bl I q (by simp))
    | int j=>obtain ⟨t',rfl⟩:=ry;exact ne_int (fin_bl I q (congrArg not dec_int))
    | str j=>obtain ⟨t',rfl⟩:=ry;exact PySem.EqMixed.ne_int_str (fin_bl I q (by simp))
    | _=>exact absurd (show false=true from hs) Bool.false_ne_true
  | str i=>
    obtain ⟨t,rfl⟩:=rx
    cases y with
    | non=>cases ry;exact PySem.EqNone.ne_str_none (fin_bl I q (by simp))
    | bl j=>cases ry;exact PySem.EqMixed.ne_str_bool (fin_bl I q (by simp))
    | int j=>obtain ⟨t',rfl⟩:=ry;exact PySem.EqMixed.ne_str_int (fin_bl I q (by simp))
    | str j=>obtain ⟨t',rfl⟩:=ry;exact ne_str (fin_bl I q (congrArg not dec_str))
    | _=>exact absurd (show false=true from hs) Bool.false_ne_true
  | byt i=>
    obtain ⟨t,rfl⟩:=rx
    cases y with
    | byt j=>obtain ⟨t',rfl⟩:=ry;exact PySem.W.ne_bytes (fin_bl I q (congrArg not dec_byt))
    | _=>exact absurd (show false=true from hs) Bool.false_ne_true
  | _=>cases y <;> exact absurd (show false=true from hs) Bool.false_ne_true
theorem op_lt:OpR X (compareOp .Lt) (rI0 fun i j=>.bl (decide (i<j))):=opB0 fun _ _ _ _ _ _ _ q=>lt_int q
theorem op_le:OpR X (compareOp .LtE) (rI0 fun i j=>.bl (decide (i≤j))):=opB0 fun _ _ _ _ _ _ _ q=>le_int q
theorem op_gt:OpR X (compareOp .Gt) (rI0 fun i j=>.bl (decide (j<i))):=opB0 fun _ _ _ _ _ _ _ q=>gt_int q
theorem op_in_str:OpR X (compareOp .In) (fun x y H Q=>∃i j,x = .str i∧y = .str j∧Q (.bl (!(Builtin.Str.occurrences j i 0 j.length 1).isEmpty)) H):=by
  intro pins s σ H x y v u Q I rx ry h
  obtain ⟨i,j,rfl,rfl,q⟩:=h
  obtain ⟨t,rfl⟩:=rx
  obtain ⟨t',rfl⟩:=ry
  exact in_str (fin_bl I q rfl)
theorem op_notN:OpR X (compareOp .IsNot) (fun x y H Q=>y = .non∧Q (.bl (!decide (x = .non))) H):=by
  intro pins s σ H x y v u Q I rx ry h
  obtain ⟨rfl,q⟩:=h
  cases ry
  refine isnot_none_gen (fin_bl I q ?_)
  cases x <;> first
    | (cases rx;rfl)
    | (obtain ⟨t,rfl⟩:=rx;rfl)
theorem OpR.or {f:Value→Value→Sem Value} {r r':R2} (h:OpR X f r) (h':OpR X f r'):OpR X f (fun x y H Q=>r x y H Q∨r' x y H Q):=by
  intro pins s σ H x y v u Q I rx ry q
  rcases q with q | q
  ·exact h pins s σ H x y v u Q I rx ry q
  ·exact h' pins s σ H x y v u Q I rx ry q
theorem nomark (b:Expr) {op:CmpOp} (h:op≠.In:=by decide) (h2:op≠.NotIn:=by decide):behindInMarks op b=false:=by
  have e1:(op == CmpOp.In)=false:=by cases op <;> first | rfl | exact absurd rfl h
  have e2:(op == CmpOp.NotIn)=false:=by cases op <;> first | rfl | exact absurd rfl h2
  cases b <;> simp [behindInMarks,e1,e2]
theorem pe_cmpR {op:CmpOp} {r:R2} (ho:OpR X (compareOp op) r) (ha:PE X a ta) (hb:PE X b tb) (hm:behindInMarks op b=false):PE X (.Compare a [op] [b] pos) (tOp r ta tb):=by
  intro pins s σ H Q I h
  exact wpAny_Compare1 (binT ha hb I h fun v u s2 x y H2 I2 rx ry q=>ho pins s2 σ H2 x y v u Q I2 rx ry q) hm
def tTest (t:TE):TT:=fun σ H Q=>t σ H fun x H'=>∃k,x = .bl k∧Q k H'
theorem pt_cmpR {op:CmpOp} {r:R2} (ho:OpR X (compareOp op) r) (ha:PE X a ta) (hb:PE X b tb) (hm:behindInMarks op b=false):PT X (.Compare a [op] [b] pos) (tTest (tOp r ta tb)):=by
  intro pins s σ H Q I h
  refine wpAny_isTrue_Compare1 (thn (ha pins s σ H _ I h) fun v s1 ⟨x,H1,I1,r1,q1⟩=>thn (hb pins s1 σ H1 _ I1 q1) fun u s2 ⟨y,H2,I2,r2,q2⟩=>
    thn (ho pins s2 σ H2 x y v u _ I2 r1 r2 q2) fun c s3 ⟨z,H3,I3,r3,k,e,q3⟩=>?_) hm
  subst e
  cases r3
  exact wpAny_truthy_bool ⟨H3,I3,q3⟩
def tChain (r r':R2) (ta tb tc:TE):TE:=fun σ H Q=>ta σ H fun x H1=>tb σ H1 fun y H2=>r x y H2 fun z H3=>∃k,z = .bl k∧
  (if k=true then tc σ H3 fun w' H4=>r' y w' H4 Q else Q (.bl false) H3)
theorem pe_chain {op op':CmpOp} {r r':R2} (ho:OpR X (compareOp op) r) (ho':OpR X (compareOp op') r') (ha:PE X a ta) (hb:PE X b tb) (hc:PE X c tc)
    (hm:lastMarks [op,op'] [b,c]=false:=by with_unfolding_all rfl):PE X (.Compare a [op,op'] [b,c] pos) (tChain r r' ta tb tc):=by
  intro pins s σ H Q I h
  refine Compare_chain (thn (ha pins s σ H _ I h) fun v s1 ⟨x,H1,I1,r1,q1⟩=>chain_link (thn (hb pins s1 σ H1 _ I1 q1) fun u s2 ⟨y,H2,I2,r2,q2⟩=>
    thn (ho pins s2 σ H2 x y v u _ I2 r1 r2 q2) fun d s3 ⟨z,H3,I3,r3,k,e,q3⟩=>?_)) hm
  subst e
  cases r3
  refine wpAny_truthy_bool ?_
  cases k with
  | false=>exact ite_ff ⟨.bl false,H3,I3,rfl,q3⟩
  | true=>exact ite_tt (chain_last (thn (hc pins s3 σ H3 _ I3 q3) fun w' s4 ⟨z',H4,I4,r4,q4⟩=>ho' pins s4 σ H4 y z' u w' Q I4 r2 r4 q4))
theorem pt_chain {op op':CmpOp} {r r':R2} (ho:OpR X (compareOp op) r) (ho':OpR X (compareOp op') r') (ha:PE X a ta) (hb:PE X b tb) (hc:PE X c tc)
    (hm:lastMarks [op,op'] [b,c]=false:=by with_unfolding_all rfl):PT X (.Compare a [op,op'] [b,c] pos) (tTest (tChain r r' ta tb tc)):=by
  intro pins s σ H Q I h
  refine isTrue_chain (thn (ha pins s σ H _ I h) fun v s1 ⟨x,H1,I1,r1,q1⟩=>test_link (thn (hb pins s1 σ H1 _ I1 q1) fun u s2 ⟨y,H2,I2,r2,q2⟩=>
    thn (ho pins s2 σ H2 x y v u _ I2 r1 r2 q2) fun d s3 ⟨z,H3,I3,r3,k,e,q3⟩=>?_)) hm
  subst e
  cases r3
  refine wpAny_truthy_bool ?_
  cases k with
  | false=>
    obtain ⟨k',e',q'⟩:=q3
    cases e'
    exact ite_ff ⟨H3,I3,q'⟩
  | true=>
    refine ite_tt (test_last (thn (hc pins s3 σ H3 _ I3 q3) fun w' s4 ⟨z',H4,I4,r4,q4⟩=>thn (ho' pins s4 σ H4 y z' u w' _ I4 r2 r4 q4) fun d' s5 ⟨z2,H5,I5,r5,k2,e2,q5⟩=>?_))
    subst e2
    cases r5
    exact wpAny_truthy_bool ⟨H5,I5,q5⟩
theorem line63:(sizeLine:Nat)<2 ^ 63:=by rw [sizeLine_eq];decide
theorem op_add_str:OpR X (binaryOp .Add) (fun x y H Q=>∃i j,x = .str i∧y = .str j∧i.length+j.length≤sizeLine∧Q (.str (i++j)) H):=by
  intro pins s σ H x y v u Q I rx ry h
  obtain ⟨i,j,rfl,rfl,hz,q⟩:=h
  obtain ⟨t,rfl⟩:=rx
  obtain ⟨t',rfl⟩:=ry
  exact add_str (fun t' tk=>⟨.str (i++j),H,I.tok _,⟨_,rfl⟩,q⟩) hz
theorem vals1 {x:V} {us:List Value} (r:Vals [x] us):∃u,us=[u]∧RelV x u:=by
  cases r with
  | cons r1 r2=>cases r2;exact ⟨_,rfl,r1⟩
theorem vals2 {x y:V} {us:List Value} (r:Vals [x,y] us):∃u w',us=[u,w']∧RelV x u∧RelV y w':=by
  cases r with
  | cons r1 r2=>
    cases r2 with
    | cons r3 r4=>cases r4;exact ⟨_,_,rfl,r1,r3⟩
theorem call_abs:CallR X (.builtin "abs") (fun xs H Q=>∃i,xs=[.int i]∧Q (.int (if i<0 then -i else i)) H):=by
  intro pins s σ H xs us Q I r h
  obtain ⟨i,rfl,q⟩:=h
  obtain ⟨u,rfl,t,rfl⟩:=vals1 r
  exact call_abs_int fun u tk=>⟨.int (if i<0 then -i else i),H,I.tok _,⟨_,rfl⟩,q⟩
theorem call_max2 (hc:X.calm=true):CallR X (.builtin "max") (fun xs H Q=>∃i j,xs=[.int i,.int j]∧Q (.int (if j > i then j else i)) H):=by
  intro pins s σ H xs us Q I r h
  obtain ⟨i,j,rfl,q⟩:=h
  obtain ⟨u,w',rfl,⟨t,rfl⟩,⟨t',rfl⟩⟩:=vals2 r
  refine max_two_ints (I.ok.hd hc) fun h' tk k=>⟨_,H,I.kept k,?_,q⟩
  by_cases hj:j > i
  ·rw [if_pos hj,if_pos hj];exact ⟨_,rfl⟩
  ·rw [if_neg hj,if_neg hj];exact ⟨_,rfl⟩
theorem call_min2 (hc:X.calm=true):CallR X (.builtin "min") (fun xs H Q=>∃i j,xs=[.int i,.int j]∧Q (.int (if j<i then j else i)) H):=by
  intro pins s σ H xs us Q I r h
  obtain ⟨i,j,rfl,q⟩:=h
  obtain ⟨u,w',rfl,⟨t,rfl⟩,⟨t',rfl⟩⟩:=vals2 r
  refine min_two_ints (I.ok.hd hc) fun h' tk k=>⟨_,H,I.kept k,?_,q⟩
  by_cases hj:j<i
  ·rw [if_pos hj,if_pos hj];exact ⟨_,rfl⟩
  ·rw [if_neg hj,if_neg hj];exact ⟨_,rfl⟩
theorem call_int1:CallR X (.type "int") (fun xs H Q=>(∃i,xs=[.int i]∧Q (.int i) H)∨∃k,xs=[.bl k]∧Q (.int (if k then 1 else 0)) H):=by
  intro pins s σ H xs us Q I r h
  rcases h with ⟨i,rfl,q⟩ | ⟨k,rfl,q⟩
  · obtain ⟨u,rfl,t,rfl⟩:=vals1 r
    exact call_int_int ⟨.int i,H,I,⟨_,rfl⟩,q⟩
  · obtain ⟨u,rfl,r1⟩:=vals1 r
    cases r1
    exact call_int_bool ⟨.int (if k then 1 else 0),H,I.tok _,⟨_,rfl⟩,q⟩
theorem call_divmod:CallR X (.builtin "divmod") (fun xs H Q=>∃i j,xs=[.int i,.int j]∧CDiv i j∧∀p,H p=none→Q (.ref p) (upd H p (.tup [.int (i / j),.int (i % j)]))):=by
  intro pins s σ H xs us Q I r h
  obtain ⟨i,j,rfl,⟨h1,h2⟩,q⟩:=h
  obtain ⟨u,w',rfl,⟨t,rfl⟩,⟨t',rfl⟩⟩:=vals2 r
  refine divmod_int (by omega) ?_ (.inl (PyProof.noPylong_small (by omega)))
  rw [Int.fdiv_eq_ediv_of_nonneg i (by omega),Int.fmod_eq_emod_of_nonneg i (by omega)]
  have hn:H s.heap.objs.size=none:=I.hok.fresh (Nat.le_refl _)
  refine ⟨.ref s.heap.objs.size,_,?_,rfl,q _ hn⟩
  refine I.laid (fun b o e=>Heap.get?_push_of_some _ e) (Nat.le_refl _) ⟨by simp only [List.length_cons,List.length_nil];rw [sizeLine_eq];decide,[.int (i / j) s.toks,.int (i % j) (s.toks+1)],.cons ⟨_,rfl⟩ (.cons ⟨_,rfl⟩ .nil),?_⟩
  exact ⟨_,Heap.get?_push_size s.heap rfl,rfl,0,rfl⟩
end
structure ObjM (h:Heap) (x dx C:Addr) (mA:Str→Option Value):Prop where
  obj:h.get? x=some (PySem.W.instObj C dx)
  ns:h.Ns1 dx mA
  ne:dx≠x
theorem lookIn_ns {h:Heap} {dx:Addr} {mA:Str→Option Value} (n:h.Ns1 dx mA):∃od,h.get? dx=some od∧∀name,PySem.W.lookIn name od=some (mA name):=by
  obtain ⟨o,es,ep,ho,hd,hk,_,hm⟩:=n
  refine ⟨o,ho,fun name=>?_⟩
  have e:=hm name
  unfold nsFind findBy at e
  rw [← Array.find?_toList] at e
  unfold PySem.W.lookIn
  rw [hd]
  dsimp only
  split
  · rename_i y q
    rw [q] at e
    exact congrArg some e
  · rename_i q
    rw [q] at e
    have a:es.toList.any (·.refKey)=false:=by
      rw [List.any_eq_false]
      intro y hy
      obtain ⟨z,t,hkey⟩:=hk y (Array.mem_toList_iff.mp hy)
      simp [DictEntry.refKey,hkey]
    have a':¬es.toList.any (·.refKey)=true:=by rw [a];exact Bool.false_ne_true
    rw [if_neg a']
    exact congrArg some e
theorem ObjM.look {h:Heap} {x dx C:Addr} {mA:Str→Option Value} (I:ObjM h x dx C mA):∃od,PySem.W.InstAt h x (PySem.W.instObj C dx) C (some od)∧∀name,PySem.W.lookIn name od=some (mA name):=
  let ⟨od,ho,hl⟩:=lookIn_ns I.ns
  ⟨od,⟨I.obj,rfl,rfl,ho⟩,hl⟩
section
variable {prog:Program} {w:World} {A:Around} {E:Value→Shared→Prop} {s:Shared} {K:PySem.W.Frag} {x dx C f:Addr} {mA:Str→Option Value} {name:Str} {v:Value}
theorem get_map {expr:Bool} {Q:Value→Shared→Prop} (X:K.In s.heap) (I:ObjM s.heap x dx C mA) (hg:PySem.W.plainGet K C name=true) (hh:PySem.W.hasDictIn K C=true)
    (ha:PySem.W.findIn K (.ref C) name=some none) (hv:mA name=some v) (hv':PySem.W.handedIn v=true) (h:Q v {s with toks:=s.toks+1}) :
    wpAny (model prog w) A (getAttr (.ref x) name expr) Q E s:=by
  obtain ⟨od,J,hl⟩:=I.look
  exact PySem.W.get_value X J (PySem.W.plainGet_of hg).1 (PySem.W.findObj_own hh ha rfl (by rw [hl,hv])) hv' h
theorem get_meth {pl:Sem Bool} {Q:Value×List Value→Shared→Prop} (X:K.In s.heap) (I:ObjM s.heap x dx C mA) (hg:PySem.W.plainGet K C name=true)
    (hf:PySem.W.findIn K (.ref C) name=some (some (.ref f))) (ht:PySem.W.isFn K (.ref f)=true) (hv:mA name=none) (h:Q (.ref f,[.ref x]) s) :
    wpAny (model prog w) A (getMethod (.ref x) name pl) Q E s:=by
  obtain ⟨od,J,hl⟩:=I.look
  exact PySem.W.method_fn X J (PySem.W.plainGet_of hg).1 (PySem.W.plainGet_of hg).2 hf (beq_iff_eq.mp ht) (by show (PySem.W.lookIn name od).map (·.isSome)=some false;rw [hl,hv];rfl) h
theorem set_map {ns:List Str} {Q:Unit→Shared→Prop} (X:K.In s.heap) (I:ObjM s.heap x dx C mA)
    (hs:PySem.W.findIn K (.ref C) "__setattr__" = some (some (.builtin "object.__setattr__"))) (hp:PySem.W.plainOver K C=true) (ht:PySem.W.takerIn K C name=some none) (hh:PySem.W.hasDictIn K C=true)
    (hw:PySem.Within mA ns) (hsz:ns.length≤sizeLine)
    (h:∀h',ObjM h' x dx C (fun y=>if y=name then some v else mA y)→Heap.SameBut dx s.heap h'→Q () {s with heap:=h',toks:=s.toks+2}) :
    wpAny (model prog w) A (setAttr (.ref x) name v) Q E s:=by
  obtain ⟨od,J,hl⟩:=I.look
  refine PySem.W.set_plain X J hs (PySem.W.osa_open (s:={s with toks:=s.toks+1}) (r:=none) X J hp ht fun b=>?_)
  obtain ⟨cd,hc,hd'⟩:=PySem.W.any_some hh
  have hx:s.heap.get? x=some ⟨.ref C,some dx,.plain,#[]⟩:=I.obj
  refine wpAny_bind (wpAny_pure (wpAny_bind (wpAny_bind (wpAny_loadPart hx (wpAny_bind (PySem.W.Looks.here (s:={s with toks:=s.toks+1}) (PySem.W.looks_clsIn X hc) ?_))))))
  rw [hd']
  refine wpAny_pure (a:=some dx) (wpAny_bind (wpAny_pure (wpAny_bind ?_)))
  refine wpAny_nsSet1 (s:={s with toks:=s.toks+1}) I.ns fun h' hn2 hs2=>?_
  obtain ⟨oD,esD,epD,hoD,hdD,hcD⟩:=hn2.count (PySem.Within.cons name v hw)
  refine wpAny_bind (wpAny_lookBehind hoD (by rw [hdD];exact pastItsLine_dict (Nat.le_trans hcD (by rw [List.length_cons];omega))) ?_)
  exact wpAny_pure (h _ ⟨(hs2.2 _ (Ne.symm I.ne)).trans I.obj,hn2,I.ne⟩ hs2)
theorem make_map {R:Result→Shared→Prop} {vs:List Value} {kw:List (Str×Value)} (X:K.In s.heap) (hm:PySem.W.makesIn K C=true)
    (hi:PySem.W.findIn K (.ref C) "__init__" = some (some (.ref f))) (hf:PySem.W.typeIn K (.ref f)=some (.type "function"))
    (h:codeAny (model prog w) (A.under (.builtin "type.__call__" ⟨.ref C::vs,kw⟩)) (.call (.ref f) ⟨.ref (s.heap.objs.size+1)::vs,kw⟩) (PySem.W.InitBack (s.heap.objs.size+1) R)
      {s with heap:=(s.heap.push PySem.W.emptyDict).push (PySem.W.instObj C s.heap.objs.size)}) :
    codeAny (model prog w) A (.call (.ref C) ⟨vs,kw⟩) R s:=by
  obtain ⟨hh,g,d,t,os⟩:=s
  exact PySem.W.make_core (PySem.W.makes_of X hm) (PySem.W.looks_findIn X hi) (fun self=>PySem.W.bind_fn X self hf) (.inl rfl) h
end
def putF (f:Str) (v:V):List (Str×V)→List (Str×V)
  | []=>[(f,v)]
  | (g,x)::r=>if g=f then (g,v)::r else (g,x)::putF f v r
theorem lookup_putF (f g:Str) (v:V):∀fs:List (Str×V),(putF f v fs).lookup g=if g=f then some v else fs.lookup g
  | []=>by
    show List.lookup g [(f,v)]=_
    by_cases h:g=f
    · have hb:(g == f)=true:=beq_iff_eq.mpr h
      simp only [List.lookup,hb,if_pos h]
    · have hb:(g == f)=false:=beq_eq_false_iff_ne.mpr h
      simp only [List.lookup,hb,if_neg h]
  | (k,x)::r=>by
    have ih:=lookup_putF f g v r
    rw [show putF f v ((k,x)::r)=(if k=f then (k,v)::r else (k,x)::putF f v r) from rfl]
    by_cases hk:k=f
    · rw [if_pos hk]
      by_cases h:g=k
      · have hb:(g == k)=true:=beq_iff_eq.mpr h
        simp only [List.lookup,hb,if_pos (h.trans hk)]
      · have hb:(g == k)=false:=beq_eq_false_iff_ne.mpr h
        simp only [List.lookup,hb,if_neg (fun e:g=f=>h (e.trans hk.symm))]
    · rw [if_neg hk]
      by_cases h:g=k
      · have hb:(g == k)=true:=beq_iff_eq.mpr h
        simp only [List.lookup,hb,if_neg (fun e:g=f=>hk (h.symm.trans e))]
      · have hb:(g == k)=false:=beq_eq_false_iff_ne.mpr h
        simp only [List.lookup,hb]
        exact ih
theorem keys_putF (f:Str) (v:V):∀fs:List (Str×V),f∈(putF f v fs).map (·.1)∧∀g,g∈fs.map (·.1)→g∈(putF f v fs).map (·.1)
  | []=>⟨by simp [putF],fun g h=>by simp at h⟩
  | (k,x)::r=>by
    obtain ⟨i1,i2⟩:=keys_putF f v r
    rw [show putF f v ((k,x)::r)=(if k=f then (k,v)::r else (k,x)::putF f v r) from rfl]
    by_cases hk:k=f
    · rw [if_pos hk]
      subst hk
      exact ⟨by simp,fun g h=>by simpa using h⟩
    · rw [if_neg hk]
      refine ⟨?_,fun g h=>?_⟩
      · rw [List.map_cons]
        exact List.mem_cons_of_mem _ i1
      · rw [List.map_cons] at h ⊢
        rcases List.mem_cons.mp h with e | e
        ·exact List.mem_cons.mpr (.inl e)
        ·exact List.mem_cons_of_mem _ (i2 g e)
theorem length_putF (f:Str) (v:V):∀fs:List (Str×V),(putF f v fs).length≤fs.length+1
  | []=>by simp [putF]
  | (k,x)::r=>by
    have ih:=length_putF f v r
    rw [show putF f v ((k,x)::r)=(if k=f then (k,v)::r else (k,x)::putF f v r) from rfl]
    by_cases hk:k=f
    ·rw [if_pos hk,List.length_cons,List.length_cons];omega
    ·rw [if_neg hk,List.length_cons,List.length_cons];omega
theorem RelO.some_of {v:V} {o:Option Value} (r:RelO (some v) o):∃u,o=some u∧RelV v u:=by
  cases o with
  | none=>exact (show False from r).elim
  | some u=>exact ⟨u,rfl,r⟩
theorem RelO.none_of {o:Option Value} (r:RelO none o):o=none:=by
  cases o with
  | none=>rfl
  | some u=>exact (show False from r).elim
theorem handed_of {v:V} {u:Value} (r:RelV v u):PySem.W.handedIn u=true:=by
  cases v with
  | non=>cases (show u=Value.none from r);rfl
  | bl b=>cases (show u=Value.bool b from r);rfl
  | int i=>obtain ⟨t,e⟩:=(show ∃t,u=Value.int i t from r);cases e;rfl
  | str x=>obtain ⟨t,e⟩:=(show ∃t,u=Value.str x t from r);cases e;rfl
  | byt b=>obtain ⟨t,e⟩:=(show ∃t,u=Value.bytes b t from r);cases e;rfl
  | flt b=>obtain ⟨t,e⟩:=(show ∃t,u=Value.float b t from r);cases e;rfl
  | ref a=>cases (show u=Value.ref a from r);rfl
  | ty n=>cases (show u=Value.type n from r);rfl
section
variable {P:Program} {w:World} {H H':Hp} {h h':Heap} {a C dx:Addr} {fs fs':List (Str×V)}
theorem ins_get (hok:HOk P w H h) (e:H a=some (.ins C dx fs)):∃mA,ObjM h a dx C mA∧(∀f,RelO (fs.lookup f) (mA f))∧PySem.Within mA (fs.map (·.1))∧fs.length≤1000∧H dx=some (.own a):=by
  obtain ⟨d,z,ne,ob,mA,n,r,q⟩:=(show ObjOk P w H h a (.ins C dx fs) from hok a _ e)
  exact ⟨mA,⟨ob,n,ne⟩,r,q,z,d⟩
end
structure Cls (K:PySem.W.Frag) (C:Addr):Prop where
  pg:PySem.W.plainGet K C Str.empty=true
  hd:PySem.W.hasDictIn K C=true
  po:PySem.W.plainOver K C=true
  sa:PySem.W.findIn K (.ref C) "__setattr__" = some (some (.builtin "object.__setattr__"))
theorem Cls.get {K:PySem.W.Frag} {C:Addr} (c:Cls K C) (f:Str):PySem.W.plainGet K C f=true:=c.pg
def NoAttr (K:PySem.W.Frag) (C:Addr) (f:Str):Prop:=PySem.W.findIn K (.ref C) f=some none
theorem NoAttr.taker {K:PySem.W.Frag} {C:Addr} {f:Str} (n:NoAttr K C f):PySem.W.takerIn K C f=some none:=by
  unfold PySem.W.takerIn
  rw [show PySem.W.findIn K (.ref C) f=some none from n]
  rfl
structure Meth (K:PySem.W.Frag) (C:Addr) (m:Str) (f:Addr):Prop where
  at_:PySem.W.findIn K (.ref C) m=some (some (.ref f))
  fn:PySem.W.isFn K (.ref f)=true
  kp:PySem.W.keepIn K (.ref f)=true
section
variable {X:Cx} {pins:List (Addr×Obj)} {σ:St} {H:Hp} {s:Shared} {a C dx:Addr} {fs:List (Str×V)} {f:Str} {v:V} {A:Around} {E:Value→Shared→Prop}
theorem getattr_ok {b:Bool} {Q:Value→Shared→Prop} (I:Inv X pins σ H s) (e:H a=some (.ins C dx fs)) (c:Cls X.K C) (n:NoAttr X.K C f) (l:fs.lookup f=some v)
    (h:∀u s',Inv X pins σ H s'→RelV v u→Q u s'):wpAny (model X.prog X.w) A (getAttr (.ref a) f b) Q E s:=by
  obtain ⟨mA,O,r,_,_,_⟩:=ins_get I.hok e
  obtain ⟨u,hu,ru⟩:=RelO.some_of (v:=v) (o:=mA f) (by rw [← l];exact r f)
  exact get_map I.kIn O (c.get f) c.hd n hu (handed_of ru) (h u _ (I.tok _) ru)
theorem getmeth_ok {m:Str} {g:Addr} {pl:Sem Bool} {Q:Value×List Value→Shared→Prop} (I:Inv X pins σ H s) (e:H a=some (.ins C dx fs)) (c:Cls X.K C) (k:Meth X.K C m g) (l:fs.lookup m=none)
    (h:Q (.ref g,[.ref a]) s):wpAny (model X.prog X.w) A (getMethod (.ref a) m pl) Q E s:=by
  obtain ⟨mA,O,r,_,_,_⟩:=ins_get I.hok e
  have hn:mA m=none:=RelO.none_of (by rw [← l];exact r m)
  exact get_meth I.kIn O (c.get m) k.at_ k.fn hn h
theorem setattr_ok {y:V} {u:Value} {Q:Unit→Shared→Prop} (I:Inv X pins σ H s) (e:H a=some (.ins C dx fs)) (c:Cls X.K C) (n:NoAttr X.K C f) (hl:fs.length<1000) (ry:RelV y u)
    (h:∀s',Inv X pins σ (upd H a (.ins C dx (putF f y fs))) s'→Q () s'):wpAny (model X.prog X.w) A (setAttr (.ref a) f u) Q E s:=by
  obtain ⟨mA,O,r,wi,_,ho⟩:=ins_get I.hok e
  have hz:(fs.map (·.1)).length≤sizeLine:=by rw [List.length_map,sizeLine_eq];omega
  refine set_map I.kIn O c.sa c.po n.taker c.hd wi hz fun h' O' sb=>h _ ?_
  have hd:∃o,h'.get? dx=some o:=let ⟨o,_,_,e',_⟩:=O'.ns;⟨o,e'⟩
  refine I.write (x:=a) (e:=dx) (by rw [e];exact True.intro) (.inr ho) (fun b q hb z=>(sb.2 b hb).trans z) hd ?_
  refine ⟨by rw [upd_ne O.ne];exact ho,?_,O.ne,O'.obj,_,O'.ns,fun g=>?_,fun g hg=>?_⟩
  ·have:=length_putF f y fs;omega
  · show RelO ((putF f y fs).lookup g) (if g=f then some u else mA g)
    rw [lookup_putF]
    by_cases q:g=f
    ·rw [if_pos q,if_pos q];exact ry
    ·rw [if_neg q,if_neg q];exact r g
  · by_cases q:g=f
    ·rw [q];exact (keys_putF f y fs).1
    · refine (keys_putF f y fs).2 g (wi g fun z=>hg ?_)
      show (if g=f then some u else mA g)=none
      rw [if_neg q];exact z
theorem Inv.made (I:Inv X pins σ H s):Inv X pins σ (upd (upd H s.heap.objs.size (.own (s.heap.objs.size+1))) (s.heap.objs.size+1) (.ins C s.heap.objs.size []))
    {s with heap:=(s.heap.push PySem.W.emptyDict).push (PySem.W.instObj C s.heap.objs.size)}:=by
  have e1:(s.heap.push PySem.W.emptyDict).get? s.heap.objs.size=some PySem.W.emptyDict:=Heap.get?_push_size s.heap rfl
  have e2:((s.heap.push PySem.W.emptyDict).push (PySem.W.instObj C s.heap.objs.size)).get? (s.heap.objs.size+1)=some (PySem.W.instObj C s.heap.objs.size):=by
    have:=Heap.get?_push_size (s.heap.push PySem.W.emptyDict) (o:=PySem.W.instObj C s.heap.objs.size) rfl
    rwa [Heap.size_push] at this
  have e3:(s.heap.push PySem.W.emptyDict).Ns s.heap.objs.size (fun _=>none):=⟨PySem.W.emptyDict,#[],_,e1,rfl,(fun e he=>absurd he (by simp)),fun _=>rfl⟩
  have I1:=I.laid (a:=s.heap.objs.size) (o:=.own (s.heap.objs.size+1)) (h':=s.heap.push PySem.W.emptyDict) (t':=s.toks) (fun b u q=>Heap.get?_push_of_some _ q) (Nat.le_refl _) ⟨_,e1⟩
  refine I1.laid (a:=s.heap.objs.size+1) (o:=.ins C s.heap.objs.size []) (t':=s.toks) (fun b u q=>Heap.get?_push_of_some _ q) (Nat.le_of_eq (Heap.size_push _ _)) ?_
  have ne:s.heap.objs.size≠s.heap.objs.size+1:=Nat.ne_of_lt (Nat.lt_succ_self _)
  refine ⟨by rw [upd_ne ne,upd_same],Nat.zero_le _,ne,e2,fun _=>none,(Heap.Ns1.of_empty e3).at fun o q=>Heap.get?_push_of_some _ q,fun _=>True.intro,fun y hy=>absurd rfl hy⟩
theorem attr_of {prog:Program} {w:World} {env:Env} {e:Expr} {f:Str} {pos:Pos} {s:Shared} {Q:Value→Shared→Prop} (hb:attributeBase e f env (eval e env)=eval e env)
    (h:wpAny (model prog w) A (eval e env) (fun o s₁=>wpAny (model prog w) A (getAttr o f true) Q E s₁) E s):wpAny (model prog w) A (eval (.Attribute e f pos) env) Q E s:=
  Attribute_any_ h (by rw [arm_eval_Attribute,hb])
end
def tFld (K:PySem.W.Frag) (ta:TE) (f:Str):TE:=fun σ H Q=>ta σ H fun x H1=>∃a C dx fs v,x = .ref a∧H1 a=some (.ins C dx fs)∧Cls K C∧NoAttr K C f∧fs.lookup f=some v∧Q v H1
def sFld (K:PySem.W.Frag) (ta tv:TE) (f:Str):TS:=fun D σ H=>tv σ H fun y H1=>ta σ H1 fun x H2=>∃a C dx fs,x = .ref a∧H2 a=some (.ins C dx fs)∧Cls K C∧NoAttr K C f∧fs.length<1000∧
  D.nx σ (upd H2 a (.ins C dx (putF f y fs)))
section
variable {X:Cx} {o e value:Expr} {f:Str} {pos pos' tpos:Pos} {ta tv:TE}
theorem pe_fld (he:PE X e ta) (hb:attributeBase e f X.env (eval e X.env)=eval e X.env):PE X (.Attribute e f pos) (tFld X.K ta f):=by
  intro pins s σ H Q I h
  refine attr_of hb (thn (he pins s σ H _ I h) fun u s1 zz=>?_)
  obtain ⟨x,H1,I1,rx,a,C,dx,fs,v,ex,ea,c,n,l,q⟩:=zz
  subst ex
  obtain rfl:u=Value.ref a:=rx
  exact getattr_ok I1 ea c n l fun u' s2 I2 ru=>⟨v,H1,I2,ru,q⟩
theorem ps_fld (ha:PE X o ta) (hv:PE X value tv) (hs:swapsWith value (some (.Attribute o f pos')) pos.line X.env=pure false):PS X (.Assign [.Attribute o f pos'] value pos) (sFld X.K ta tv f):=by
  intro pins s σ H D I h
  refine plainObj_wpAny_Assign_Attribute (thn (hv pins s σ H _ I h) fun u s1 ⟨y,H1,I1,ry,q⟩=>thn (ha pins s1 σ H1 _ I1 q) fun ov s2 ⟨x,H2,I2,rx,a,C,dx,fs,ex,ea,c,n,l,q2⟩=>?_) hs
  subst ex
  obtain rfl:ov=Value.ref a:=rx
  exact setattr_ok I2 ea c n l ry fun s3 I3=>⟨σ,_,I3,q2⟩
end
section
variable {X:Cx} {pins:List (Addr×Obj)} {σ:St} {H:Hp} {s:Shared} {A:Around} {E:Value→Shared→Prop} {Q:Value→Shared→Prop} {c:Value} {b:Bool}
inductive TyOf (K:PySem.W.Frag) (H:Hp):V→Value→Prop where
  | non:TyOf K H .non (.type "NoneType")
  | bl (x:Bool):TyOf K H (.bl x) (.type "bool")
  | int (i:Int):TyOf K H (.int i) (.type "int")
  | str (x:Str):TyOf K H (.str x) (.type "str")
  | flt (x:UInt64):TyOf K H (.flt x) (.type "float")
  | lst {a:Addr} {xs:List V} (e:H a=some (.lst xs)):TyOf K H (.ref a) (.type "list")
  | frz {a:Addr} {o:Obj} {xs:List V} (e:H a=some (.frz o (.lst xs))):TyOf K H (.ref a) (.type "list")
  | tup {a:Addr} {xs:List V} (e:H a=some (.tup xs)):TyOf K H (.ref a) (.type "tuple")
  | dK {a:Addr} {kvs:List (Key×V)} (e:H a=some (.dK kvs)):TyOf K H (.ref a) (.type "dict")
  | dT {a:Addr} {kvs:List (List Key×V)} (e:H a=some (.dT kvs)):TyOf K H (.ref a) (.type "dict")
  | ins {a C dx:Addr} {fs:List (Str×V)} (e:H a=some (.ins C dx fs)) (cl:Cls K C) (ha:PySem.W.findIn K (.ref C) "__class__" = some (some (.builtin "object.__class__")))
      (hn:PySem.W.specialIn K (.builtin "object.__class__") "__get__" = some (some (.builtin "getset_descriptor.__get__"))) (htk:PySem.W.takesIn K (.builtin "object.__class__")=some true)
      (hm:PySem.W.mroIn K C (.type "object")=some true):TyOf K H (.ref a) (.ref C)
theorem isinst_ok {x:V} {u t:Value} (I:Inv X pins σ H s) (rx:RelV x u) (ty:TyOf X.K H x t) (e:PySem.W.kitOne X.K t c=some b) (h:∀tk,Q (.bool b) {s with toks:=tk}) :
    wpAny (model X.prog X.w) A (call (.builtin "isinstance") [u,c]) Q E s:=by
  cases ty with
  | non=>cases (show u=Value.none from rx);exact PySem.W.kia_one PySem.W.kitx_none I.kIn True.intro e (fun z=>nomatch z) h
  | bl y=>cases (show u=Value.bool y from rx);exact PySem.W.kia_one PySem.W.kitx_bool I.kIn True.intro e (fun z=>nomatch z) h
  | int i=>obtain ⟨t,q⟩:=(show ∃t,u=Value.int i t from rx);cases q;exact PySem.W.kia_one PySem.W.kitx_int I.kIn True.intro e (fun z=>nomatch z) h
  | str y=>obtain ⟨t,q⟩:=(show ∃t,u=Value.str y t from rx);cases q;exact PySem.W.kia_one PySem.W.kitx_str I.kIn True.intro e (fun z=>nomatch z) h
  | flt y=>obtain ⟨t,q⟩:=(show ∃t,u=Value.float y t from rx);cases q;exact PySem.W.kia_one PySem.W.kitx_float I.kIn True.intro e (fun z=>nomatch z) h
  | @lst a xs ea=>
    cases (show u=Value.ref a from rx)
    obtain ⟨_,_,n,_,h1⟩:=(show ObjOk X.prog X.w H s.heap a (.lst xs) from I.hok a _ ea)
    exact PySem.W.kia_one PySem.W.kitx_list I.kIn ⟨_,h1,rfl⟩ e (fun z=>nomatch z) h
  | @frz a ob xs ea=>
    cases (show u=Value.ref a from rx)
    obtain ⟨_,_,_,n,_,h1⟩:=(show ObjOk X.prog X.w H s.heap a (.frz ob (.lst xs)) from I.hok a _ ea)
    exact PySem.W.kia_one PySem.W.kitx_list I.kIn ⟨_,h1,rfl⟩ e (fun z=>nomatch z) h
  | @tup a xs ea=>
    cases (show u=Value.ref a from rx)
    obtain ⟨_,_,_,p⟩:=(show ObjOk X.prog X.w H s.heap a (.tup xs) from I.hok a _ ea)
    obtain ⟨o,h1,h2,_⟩:=p
    exact PySem.W.kia_one PySem.W.kitx_tuple I.kIn ⟨o,h1,h2⟩ e (fun z=>nomatch z) h
  | @dK a kvs ea=>
    cases (show u=Value.ref a from rx)
    obtain ⟨_,_,vs,_,p⟩:=(show ObjOk X.prog X.w H s.heap a (.dK kvs) from I.hok a _ ea)
    obtain ⟨o,es,ep,h1,h2,_⟩:=p
    exact PySem.W.kia_one PySem.W.kitx_dict I.kIn ⟨o,h1,h2.1⟩ e (fun z=>nomatch z) h
  | @dT a kvs ea=>
    cases (show u=Value.ref a from rx)
    obtain ⟨_,_,xs,_,o,es,ep,h1,h2,_⟩:=(show ObjOk X.prog X.w H s.heap a (.dT kvs) from I.hok a _ ea)
    exact PySem.W.kia_one PySem.W.kitx_dict I.kIn ⟨o,h1,h2.1⟩ e (fun z=>nomatch z) h
  | @ins a C dx fs ea cl ha hn htk hm=>
    cases (show u=Value.ref a from rx)
    obtain ⟨mA,O,_⟩:=ins_get I.hok ea
    obtain ⟨od,J,_⟩:=O.look
    exact PySem.W.kia_one (PySem.W.kitx_own (cl.get _) cl.hd ha hn htk hm) I.kIn J e (fun z=>nomatch z) h
end
structure Room (k:Nat) (A:Around):Prop where
  hd:A.handled=none
  dp:A.depth+3 * k+5<recursionLimit
  un:A.units+16 * k+200<cLine
  gd:A.guards=some []
theorem Room.mono {j k:Nat} {A:Around} (r:Room k A) (h:j≤k):Room j A:=⟨r.hd,by have:=r.dp;omega,by have:=r.un;omega,r.gd⟩
theorem Room.deeper {k:Nat} {A:Around} (r:Room (k+1) A) (env:Env):Room k (A.deeper env):=
  ⟨r.hd,by have:=r.dp;show A.depth+1+3 * k+5<_;omega,by have:=r.un;show A.units+3+16 * k+200<_;omega,r.gd⟩
theorem Room.in1 {k:Nat} {A:Around} (r:Room (k+1) A):Room k A.in1:=
  ⟨r.hd,by have:=r.dp;show A.depth+3 * k+5<_;omega,by have:=r.un;show A.units+1+16 * k+200<_;omega,r.gd⟩
theorem make_depth {A:Around} {C:Addr} {us:List Value} {kw:List (Str×Value)}:(A.under (.builtin "type.__call__" ⟨.ref C::us,kw⟩)).depth=A.depth+1:=by
  first | rfl | simp [Around.under,Code.weight,Code.isCreation,Code.isGuard,Code.isCaller,Code.frames,Code.isFrame,guardIds]
theorem make_units {A:Around} {C:Addr} {us:List Value} {kw:List (Str×Value)}:(A.under (.builtin "type.__call__" ⟨.ref C::us,kw⟩)).units=A.units+1:=by
  first | rfl | simp [Around.under,Code.cUnits,Code.frames,Code.isFrame]
theorem make_guards {A:Around} {C:Addr} {us:List Value} {kw:List (Str×Value)}:(A.under (.builtin "type.__call__" ⟨.ref C::us,kw⟩)).guards=A.guards:=by
  first | rfl | simp [Around.under,Code.isGuard,guardIds]
theorem Room.make {k:Nat} {A:Around} (r:Room (k+1) A) (C:Addr) (us:List Value) (kw:List (Str×Value)):Room k (A.under (.builtin "type.__call__" ⟨.ref C::us,kw⟩)):=
  ⟨r.hd,by have:=r.dp;rw [make_depth];omega,by have:=r.un;rw [make_units];omega,by rw [make_guards];exact r.gd⟩
theorem Room.depth {k:Nat} {A:Around} (r:Room k A):A.depth<recursionLimit:=by have:=r.dp;omega
theorem Room.units {k:Nat} {A:Around} (r:Room k A):A.units+64<cLine:=by have:=r.un;omega
def tNil:TA:=fun _ H Q=>Q [] H
def tCons (ta:TE) (tr:TA):TA:=fun σ H Q=>ta σ H fun x H1=>tr σ H1 fun xs H2=>Q (x::xs) H2
section
variable {X:Cx} {e:Expr} {es:List Expr} {te:TE} {t:TA} {pos:Pos}
theorem pa_nil:PA X [] tNil:=fun _ _ _ _ H Q I h=>Calls.spliced_nil ⟨[],H,I,.nil,h⟩
theorem pa_cons (ha:PE X e te) (hr:PA X es t) (hs:starEach (e::es) X.env=(false,eval e X.env)::starEach es X.env:=by rfl):PA X (e::es) (tCons te t):=by
  intro pos pins s σ H Q I h
  rw [hs]
  show wpAny _ _ (spliced ((false,eval e X.env)::backTo pos (starEach es X.env))) _ _ s
  refine Calls.spliced_cons (thn (ha pins s σ H _ I h) fun u s1 zz=>?_)
  obtain ⟨x,H1,I1,r1,q1⟩:=zz
  refine thn (hr pos pins s1 σ H1 _ I1 q1) fun us s2 zz=>?_
  obtain ⟨xs,H2,I2,r2,q2⟩:=zz
  exact ⟨x::xs,H2,I2,.cons r1 r2,q2⟩
def tTup (t:TA):TE:=fun σ H Q=>t σ H fun xs H1=>xs.length≤sizeLine∧∀p,H1 p=none→Q (.ref p) (upd H1 p (.tup xs))
def tLst (t:TA):TE:=fun σ H Q=>t σ H fun xs H1=>xs.length≤sizeLine∧∀p,H1 p=none→Q (.ref p) (upd H1 p (.lst xs))
theorem pe_tup {x1} (h:PA X es t):PE X (.Tuple es x1 pos) (tTup t):=by
  intro pins s σ H Q I hq
  refine wpAny_Tuple_spliced (thn (h pos pins s σ H _ I hq) fun us s1 zz=>?_)
  obtain ⟨xs,H1,I1,r,z,q⟩:=zz
  refine ⟨by rw [← r.length];exact z,?_⟩
  have hf:H1 s1.heap.objs.size=none:=I1.hok.fresh (Nat.le_refl _)
  refine ⟨.ref s1.heap.objs.size,upd H1 s1.heap.objs.size (.tup xs),I1.laid (t':=s1.toks) (fun b u e=>Heap.get?_push_of_some _ e) (Nat.le_refl _) ?_,rfl,q _ hf⟩
  exact ⟨z,us,r,⟨_,Heap.get?_push_size _ rfl,rfl,_,rfl⟩⟩
theorem pe_lst (h:PA X es t):PE X (.List es pos) (tLst t):=by
  intro pins s σ H Q I hq
  refine wpAny_List_spliced (thn (h pos pins s σ H _ I hq) fun us s1 zz=>?_)
  obtain ⟨xs,H1,I1,r,z,q⟩:=zz
  refine ⟨by rw [← r.length];exact z,?_⟩
  have hf:H1 s1.heap.objs.size=none:=I1.hok.fresh (Nat.le_refl _)
  refine ⟨.ref s1.heap.objs.size,upd H1 s1.heap.objs.size (.lst xs),I1.laid (t':=s1.toks) (fun b u e=>Heap.get?_push_of_some _ e) (Nat.le_refl _) ?_,rfl,q _ hf⟩
  exact ⟨z,us,0,r,Heap.get?_push_size _ rfl⟩
end
abbrev Sp:=List V→Hp→VK→XK→Prop
abbrev CXT:=List Env→Hp→Shared→XK→Value→Shared→Prop
structure Env0 (P:Program) (w:World) (K:PySem.W.Frag) (mg:Str→Option Value) (base:Heap) (A:Around) (outer:List Env) (s:Shared) (H:Hp):Prop where
  frames:A.frames=some outer
  mod:Mod K mg base
  bs:∀b o,base.get? b=some o→s.heap.get? b=some o∧H b=none
  bsz:base.objs.size≤s.heap.objs.size
  funs:s.heap.FunFrames base outer
  frf:∀b∈frs outer,H b=none
  hok:HOk P w H s.heap
  bare:AllBare s.gens
def CE (outer:List Env) (P:Program) (w:World) (H:Hp) (s:Shared) (Q:VK) (u:Value) (s':Shared):Prop:=
  ∃v H',s'.os=s.os∧AllBare s'.gens∧Un (frs outer) [] H H' s.heap s'.heap∧HOk P w H' s'.heap∧RelV v u∧Q v H'
def CR (CX:CXT) (outer:List Env) (P:Program) (w:World) (H:Hp) (s:Shared) (Q:VK) (E:XK) (r:Result) (s':Shared):Prop:=
  match r with
  | .ok (.ret u)=>CE outer P w H s Q u s'
  | .ok _=>False
  | .error e=>CX outer H s E e s'
structure FnOk (P:Program) (w:World) (K:PySem.W.Frag) (mg:Str→Option Value) (base:Heap) (CX:CXT) (k:Nat) (f:Addr) (fd:FuncData) (ps:List Str) (sp:Sp):Prop where
  len:∀vs H Q E,sp vs H Q E→vs.length=ps.length
  run:∀(A:Around) (outer:List Env) (s:Shared) (H:Hp) (args:Args) (us:List Value) (vs:List V) (Q:VK) (E:XK),Room k A→Env0 P w K mg base A outer s H→BindsTo s fd args (ps.zip us)→Vals vs us→sp vs H Q E→
    codeAny (model P w) A (.call (.ref f) args) (CR CX outer P w H s Q E) s
theorem Env0.make {P:Program} {w:World} {K:PySem.W.Frag} {mg:Str→Option Value} {base:Heap} {A:Around} {outer:List Env} {s:Shared} {H:Hp} (e:Env0 P w K mg base A outer s H) (C:Addr) (us:List Value) (kw:List (Str×Value)) :
    Env0 P w K mg base (A.under (.builtin "type.__call__" ⟨.ref C::us,kw⟩)) outer s H:=⟨by first | exact e.frames | (simpa [Around.under,Code.envs,Code.isFrame,pushEnvs] using e.frames),e.mod,e.bs,e.bsz,e.funs,e.frf,e.hok,e.bare⟩
theorem Env0.in1 {P:Program} {w:World} {K:PySem.W.Frag} {mg:Str→Option Value} {base:Heap} {A:Around} {outer:List Env} {s:Shared} {H:Hp} (e:Env0 P w K mg base A outer s H) :
    Env0 P w K mg base A.in1 outer s H:=⟨e.frames,e.mod,e.bs,e.bsz,e.funs,e.frf,e.hok,e.bare⟩
section
variable {X:Cx} {pins:List (Addr×Obj)} {σ:St} {H:Hp} {s s':Shared}
theorem Inv.env0 (I:Inv X pins σ H s):Env0 X.prog X.w X.K X.mg X.base X.A X.stack s H:=
  ⟨I.ok.frames,I.ok.mod,I.bs,Nat.le_trans I.ok.bsz I.sz,I.stack,I.stkFree,I.hok,I.bare⟩
theorem Inv.after {Q:VK} {u:Value} (I:Inv X pins σ H s) (h:CE X.stack X.prog X.w H s Q u s'):EP X pins σ Q u s':=by
  obtain ⟨v,H',os,bare,un,hok,r,q⟩:=h
  obtain ⟨hh,g,d,t,os'⟩:=s'
  obtain rfl:os'=s.os:=os
  exact ⟨v,H',I.call (h':=hh) (g':=g) (d':=d) (t':=t) (ch:=[]) un hok bare (fun b z=>absurd z (by simp)),r,q⟩
end
def tCall (sp:Sp) (dvs:List V) (E:XK) (t:TA):TE:=fun σ H Q=>t σ H fun vs H1=>sp (vs++dvs) H1 Q E
def tMeth (C:Addr) (m:Str) (sp:Sp) (dvs:List V) (E:XK) (ta:TE) (t:TA):TE:=fun σ H Q=>ta σ H fun x H1=>∃a dx fs,x = .ref a∧H1 a=some (.ins C dx fs)∧fs.lookup m=none∧
  t σ H1 fun vs H2=>sp (x::(vs++dvs)) H2 Q E
def tMake (C:Addr) (sp:Sp) (dvs:List V) (E:XK) (t:TA):TE:=fun σ H Q=>t σ H fun vs H1=>∀x dx,H1 x=none→H1 dx=none→dx≠x→
  sp (.ref x::(vs++dvs)) (upd (upd H1 dx (.own x)) x (.ins C dx [])) (fun v H2=>v = .non∧Q (.ref x) H2) E
def Binds (K:PySem.W.Frag) (fd:FuncData) (ps:List Str) (ds:List Value):Prop:=
  ∀(s:Shared) (us:List Value),K.In s.heap→(us++ds).length=ps.length→BindsTo s fd ⟨us,[]⟩ (ps.zip (us++ds))
theorem Binds.all {K:PySem.W.Frag} {fd:FuncData} {ps:List Str} (h:∀us:List Value,us.length=ps.length→bindArgs fd ⟨us,[]⟩=pure (ps.zip us)):Binds K fd ps []:=fun s us _ hl=>by
  rw [List.append_nil] at hl ⊢
  exact .of_eq (h us hl)
def Passes (CX:CXT) (X:Cx) (E:XK):Prop:=∀(pins:List (Addr×Obj)) (σ:St) (H:Hp) (s:Shared) (e:Value) (s':Shared),Inv X pins σ H s→CX X.stack H s E e s'→X.xe e s'
section
variable {X:Cx} {CX:CXT} {k:Nat} {f C:Addr} {fd:FuncData} {ps:List Str} {sp:Sp} {dvs:List V} {ds:List Value} {E:XK} {x m:Str} {p pos apos:Pos} {e o:Expr} {es:List Expr} {ta:TE} {t:TA}
theorem run_fn {pins:List (Addr×Obj)} {σ:St} {H:Hp} {s:Shared} {Q:VK} {us:List Value} {vs:List V} (F:FnOk X.prog X.w X.K X.mg X.base CX k f fd ps sp) (hr:Room k X.A) (hb:Binds X.K fd ps ds) (hd:Vals dvs ds) (hx:Passes CX X E)
    (I:Inv X pins σ H s) (r:Vals vs us) (h:sp (vs++dvs) H Q E):wpAny (model X.prog X.w) X.A (call (.ref f) us) (EP X pins σ Q) X.xe s:=by
  have r2:Vals (vs++dvs) (us++ds):=r.append hd
  have hl:(us++ds).length=ps.length:=by rw [← r2.length];exact F.len _ _ _ _ h
  refine wpAny_call (codeAny_mono (F.run X.A X.stack s H ⟨us,[]⟩ (us++ds) (vs++dvs) Q E hr I.env0 (hb s us I.kIn hl) r2 h) fun r s' hq=>?_)
  cases r with
  | error e=>exact hx pins σ H s e s' I hq
  | ok fl=>
    cases fl with
    | ret u=>exact I.after hq
    | next=>exact False.elim hq
    | brk=>exact False.elim hq
    | cont=>exact False.elim hq
theorem pe_call (F:FnOk X.prog X.w X.K X.mg X.base CX k f fd ps sp) (hr:Room k X.A) (hg:Gl X x) (hm:X.mg x=some (.ref f)) (hk:PySem.W.keepIn X.K (.ref f)=true) (hb:Binds X.K fd ps ds) (hd:Vals dvs ds) (hx:Passes CX X E)
    (ha:PA X (e::es) t) (hdb:(x == ("__debug__" : Str))=false:=by decide) (he:starEach (e::es) X.env=(false,eval e X.env)::starEach es X.env:=by rfl) (hpl:(backTo pos (starEach es X.env)).any (·.1)=false:=by rfl) :
    PE X (.Call (.Name x p) (e::es) [] pos) (tCall sp dvs E t):=by
  intro pins s σ H Q I h
  refine wpAny_Call_Name_kw (ld_glob I hg hm ?_ hdb)
  refine PySem.W.callWith_K (h₀:=X.base) I.ok.mod.kin hk (thn (ha pos pins s σ H _ I h) fun us s1 zz=>?_) he hpl
  obtain ⟨vs,H1,I1,r,q⟩:=zz
  refine ⟨I1.kIn,?_⟩
  exact run_fn F hr hb hd hx I1 r q
theorem pe_meth0 {pl:Sem Bool} (he:PE X o ta) (c:Cls X.K C) (hm:Meth X.K C m f) (F:FnOk X.prog X.w X.K X.mg X.base CX k f fd ps sp) (hr:Room k X.A) (hb:Binds X.K fd ps ds) (hd:Vals dvs ds) (hx:Passes CX X E)
    (ht:eval (.Call (.Attribute o m apos) [] [] pos) X.env=(do
      let ov ← eval o X.env
      standAt apos.atName
      let (f,first) ← holding [ov] (getMethod ov m pl)
      callWith pos f first (backTo pos (starEach [] X.env)) (backToKw pos (keywordEach [] X.env))):=by rfl) :
    PE X (.Call (.Attribute o m apos) [] [] pos) (tMeth C m sp dvs E ta tNil):=by
  intro pins s σ H Q I h
  refine PySem.W.methodCall_KW (pl:=pl) (thn (he pins s σ H _ I h) fun u s1 zz=>?_) ht
  obtain ⟨x,H1,I1,rx,a,dx,fs,ex,ea,l,q⟩:=zz
  subst ex
  obtain rfl:u=Value.ref a:=rx
  refine getmeth_ok I1 ea c hm l ?_
  exact PySem.W.callWith_K0 (first:=[.ref a]) I1.kIn hm.kp (run_fn (us:=[.ref a]) (vs:=[.ref a]) F hr hb hd hx I1 (.cons rfl .nil) q)
structure Mk (K:PySem.W.Frag) (C f:Addr):Prop where
  makes:PySem.W.makesIn K C=true
  init:PySem.W.findIn K (.ref C) "__init__" = some (some (.ref f))
  fn:PySem.W.isFn K (.ref f)=true
  kp:PySem.W.keepIn K (.ref C)=true
theorem run_make {pins:List (Addr×Obj)} {σ:St} {H:Hp} {s:Shared} {Q:VK} {us:List Value} {vs:List V} (M:Mk X.K C f) (F:FnOk X.prog X.w X.K X.mg X.base CX k f fd ps sp) (hr:Room (k+1) X.A) (hb:Binds X.K fd ps ds) (hd:Vals dvs ds)
    (hx:Passes CX X E) (I:Inv X pins σ H s) (r:Vals vs us)
    (h:∀x dx,H x=none→H dx=none→dx≠x→sp (.ref x::(vs++dvs)) (upd (upd H dx (.own x)) x (.ins C dx [])) (fun v H2=>v = .non∧Q (.ref x) H2) E) :
    wpAny (model X.prog X.w) X.A (call (.ref C) us) (EP X pins σ Q) X.xe s:=by
  have hq:=h (s.heap.objs.size+1) s.heap.objs.size (I.hok.fresh (Nat.le_succ _)) (I.hok.fresh (Nat.le_refl _)) (Nat.ne_of_lt (Nat.lt_succ_self _))
  have I2:=Inv.made (C:=C) I
  have r2:Vals (V.ref (s.heap.objs.size+1)::(vs++dvs)) (Value.ref (s.heap.objs.size+1)::(us++ds)):=.cons rfl (r.append hd)
  have hl:(Value.ref (s.heap.objs.size+1)::us++ds).length=ps.length:=by
    have e:=r2.length
    rw [F.len _ _ _ _ hq] at e
    exact e.symm
  refine wpAny_call (make_map (f:=f) I.kIn M.makes M.init (beq_iff_eq.mp M.fn) (codeAny_mono (F.run _ X.stack _ _ ⟨Value.ref (s.heap.objs.size+1)::us,[]⟩ (Value.ref (s.heap.objs.size+1)::(us++ds)) _ _ E (hr.make C us [])
    (I2.env0.make C us []) (hb _ (Value.ref (s.heap.objs.size+1)::us) I2.kIn hl) r2 hq) fun r s' hq'=>?_))
  cases r with
  | error e=>exact hx pins σ _ _ e s' I2 hq'
  | ok fl=>
    cases fl with
    | ret u=>
      obtain ⟨v,H',I3,rv,ev,q3⟩:=I2.after hq'
      subst ev
      exact ⟨rv,⟨V.ref (s.heap.objs.size+1),H',I3,rfl,q3⟩⟩
    | next=>exact False.elim hq'
    | brk=>exact False.elim hq'
    | cont=>exact False.elim hq'
theorem pe_make (M:Mk X.K C f) (F:FnOk X.prog X.w X.K X.mg X.base CX k f fd ps sp) (hr:Room (k+1) X.A) (hg:Gl X x) (hm:X.mg x=some (.ref C)) (hb:Binds X.K fd ps ds) (hd:Vals dvs ds) (hx:Passes CX X E)
    (ha:PA X (e::es) t) (hdb:(x == ("__debug__" : Str))=false:=by decide) (he:starEach (e::es) X.env=(false,eval e X.env)::starEach es X.env:=by rfl) (hpl:(backTo pos (starEach es X.env)).any (·.1)=false:=by rfl) :
    PE X (.Call (.Name x p) (e::es) [] pos) (tMake C sp dvs E t):=by
  intro pins s σ H Q I h
  refine wpAny_Call_Name_kw (ld_glob I hg hm ?_ hdb)
  refine PySem.W.callWith_K (h₀:=X.base) I.ok.mod.kin M.kp (thn (ha pos pins s σ H _ I h) fun us s1 zz=>?_) he hpl
  obtain ⟨vs,H1,I1,r,q⟩:=zz
  refine ⟨I1.kIn,?_⟩
  exact run_make M F hr hb hd hx I1 r q
end
structure FnScope (N P:List Str) (sc:Scope):Prop where
  kind:sc.kind = .function
  co:sc.isCoroutine=false
  gen:sc.isGenerator=false
  nd:N.Nodup
  pre:N.take P.length=P
  par:∀x∈P,sc.names.lookup x=some .local∨sc.names.lookup x=some .cell
  nofree:∀y∈sc.names,y.2≠.free
theorem bindL_out {kindOf:Str→Option NameKind} {x:Str}:∀{binds:List (Str×Value)} {m:Str→Option Value},(∀v,(x,v)∉binds)→bindL kindOf binds m x=m x
  | [],_,_=>rfl
  | (n,v)::r,m,h=>by
    unfold bindL
    rw [bindL_out fun w hw=>h w (List.mem_cons_of_mem _ hw)]
    split
    · have:x≠n:=by rintro rfl;exact h v List.mem_cons_self
      simp [this]
    ·rfl
theorem bindC_out {kindOf:Str→Option NameKind} {x:Str}:∀{binds:List (Str×Value)} {m:Str→Option Value},(∀v,(x,v)∉binds)→bindC kindOf binds m x=m x
  | [],_,_=>rfl
  | (n,v)::r,m,h=>by
    unfold bindC
    rw [bindC_out fun w hw=>h w (List.mem_cons_of_mem _ hw)]
    split
    ·rfl
    · have:x≠n:=by rintro rfl;exact h v List.mem_cons_self
      simp [this]
theorem bindL_get {kindOf:Str→Option NameKind} {x:Str} {v:Value}:∀{P:List Str} {vs:List Value} {i:Nat} {m:Str→Option Value},P.Nodup→P[i]? = some x→vs[i]? = some v→kindOf x=some .local→
    bindL kindOf (P.zip vs) m x=some v
  | [],_,_,_,_,h,_,_=>by simp at h
  | _::_,[],_,_,_,_,h,_=>by simp at h
  | p::P,w::vs,0,m,nd,h1,h2,hk=>by
    simp at h1 h2;subst h1;subst h2
    show bindL kindOf ((p,w)::P.zip vs) m p=_
    unfold bindL
    rw [bindL_out fun v hv=>(List.nodup_cons.mp nd).1 (List.of_mem_zip hv).1,if_pos hk]
    simp
  | p::P,w::vs,i+1,m,nd,h1,h2,hk=>by
    show bindL kindOf ((p,w)::P.zip vs) m x=_
    unfold bindL
    exact bindL_get (i:=i) (List.nodup_cons.mp nd).2 (by simpa using h1) (by simpa using h2) hk
theorem bindC_get {kindOf:Str→Option NameKind} {x:Str} {v:Value}:∀{P:List Str} {vs:List Value} {i:Nat} {m:Str→Option Value},P.Nodup→P[i]? = some x→vs[i]? = some v→kindOf x≠some .local→
    bindC kindOf (P.zip vs) m x=some v
  | [],_,_,_,_,h,_,_=>by simp at h
  | _::_,[],_,_,_,_,h,_=>by simp at h
  | p::P,w::vs,0,m,nd,h1,h2,hk=>by
    simp at h1 h2;subst h1;subst h2
    show bindC kindOf ((p,w)::P.zip vs) m p=_
    unfold bindC
    rw [bindC_out fun v hv=>(List.nodup_cons.mp nd).1 (List.of_mem_zip hv).1,if_neg hk]
    simp
  | p::P,w::vs,i+1,m,nd,h1,h2,hk=>by
    show bindC kindOf ((p,w)::P.zip vs) m x=_
    unfold bindC
    exact bindC_get (i:=i) (List.nodup_cons.mp nd).2 (by simpa using h1) (by simpa using h2) hk
def start (N:List Str) (vs:List V):St:=vs.map some++List.replicate (N.length - vs.length) none
def cxOf (CX:CXT) (P:Program) (w:World) (K:PySem.W.Frag) (mg:Str→Option Value) (base:Heap) (N:List Str) (qual:Str) (scope:Scope) (f:Addr) (cd:Value) (A:Around) (outer:List Env) (s:Shared) (H:Hp) (E:XK):Cx where
  prog:=P
  w:=w
  K:=K
  mg:=mg
  base:=base
  A:=A.deeper (envOfC qual scope s.heap.objs.size f cd)
  N:=N
  s₀:=s
  H₀:=H
  env:=envOfC qual scope s.heap.objs.size f cd
  outer:=outer
  stack:=envOfC qual scope s.heap.objs.size f cd::outer
  ex:=[]
  calm:=true
  fn:=fun _=>true
  pn:=[]
  xe:=fun e s'=>wpAny (model P w) (A.deeper (envOfC qual scope s.heap.objs.size f cd)) (leaving (envOfC qual scope s.heap.objs.size f cd) e) (fun _ s''=>CX outer H s E e s'') (fun e' s''=>CX outer H s E e' s'') s'
theorem cell_has {sc:Scope} {n:Nat} {x:Str} (h:sc.names.lookup x=some .cell):∃c,(cellsFrom n sc.names []).lookup x=some c:=by
  have q:=PySem.W.cellsFrom_some sc.names n [] (.inl h)
  exact Option.isSome_iff_exists.mp q
theorem inv_start {CX:CXT} {P:Program} {w:World} {K:PySem.W.Frag} {mg:Str→Option Value} {base:Heap} {N ps:List Str} {qual:Str} {scope:Scope} {f:Addr} {cd:Value} {A:Around} {outer:List Env} {s s1:Shared} {H:Hp} {E:XK} {us:List Value} {vs:List V}
    (S:FnScope N ps scope) (hd:A.handled=none) (e0:Env0 P w K mg base A outer s H) (hl:vs.length=ps.length) (r:Vals vs us)
    (x:InCallC s s.heap.objs.size (bindL (envOfC qual scope s.heap.objs.size f cd).kindOf (ps.zip us) fun _=>none) (cellsFrom (s.heap.objs.size+1) scope.names []) (bindC (envOfC qual scope s.heap.objs.size f cd).kindOf (ps.zip us) fun _=>none) s1) :
    Inv (cxOf CX P w K mg base N qual scope f cd A outer s H E) [] (start N vs) H s1:=by
  have hpl:ps.length≤N.length:=by have:=congrArg List.length S.pre;rw [List.length_take] at this;omega
  obtain ⟨h1,tk,rfl,hk⟩:=x.done
  have noA:∀b:Addr,b∉(cxOf CX P w K mg base N qual scope f cd A outer s H E).ex:=fun b z=>absurd (show b∈([]:List Addr) from z) (by simp)
  refine ⟨⟨e0.mod,S.kind,rfl,rfl,Nat.le_refl _,fun y z c h1 h2=>?_,fun y hy=>?_,fun y c _ h=>?_,fun _=>hd,Around.frames_deeper e0.frames,.inr ⟨rfl,rfl⟩,fun b z=>absurd z (noA b),e0.bs,e0.bsz,fun b _ _=>noA b,fun b z=>absurd z (noA b),e0.funs,e0.frf⟩,
    rfl,e0.bare,Un.kept hk,⟨_,x.toInCall.ns,fun i y v h1 h2 h3=>?_⟩,fun y c h=>⟨_,x.cell y c h⟩,e0.hok.fresh (Nat.le_refl _),fun y c h=>?_,fun p hp=>absurd (show p∈([]:List (Addr×Obj)) from hp) (by simp),e0.hok.kept hk,?_⟩
  ·exact name_of_addr x.apart (PySem.mem_of_lookup h1) (PySem.mem_of_lookup h2)
  · have hy:scope.names.lookup y=some .cell∨scope.names.lookup y=some .free:=hy
    rcases hy with hy | hy
    ·exact cell_has hy
    ·exact absurd rfl (S.nofree _ (PySem.mem_of_lookup hy))
  ·exact Nat.le_of_lt (x.above y c (PySem.mem_of_lookup h))
  · have hi:i<vs.length:=by
      unfold start at h2
      by_cases hi:i<vs.length
      ·exact hi
      · rw [List.getElem?_append_right (by simpa using hi)] at h2
        rw [List.getElem?_replicate] at h2
        split at h2 <;> cases h2
    have ha:vs[i]? = some v:=by
      unfold start at h2
      rw [List.getElem?_append_left (by simpa using hi),List.getElem?_map] at h2
      cases e:vs[i]? with
      | none=>rw [e] at h2;cases h2
      | some a=>rw [e] at h2;cases h2;rfl
    obtain ⟨u,hu,rv⟩:=r.get ha
    have hp:ps[i]? = some y:=by
      rw [← S.pre,List.getElem?_take_of_lt (by omega)];exact h1
    have ndP:ps.Nodup:=by rw [← S.pre];exact S.nd.sublist (List.take_sublist _ _)
    refine ⟨u,rv,?_⟩
    rcases S.par y (List.mem_of_getElem? hp) with k | k
    ·exact .inl ⟨k,bindL_get ndP hp hu k⟩
    · obtain ⟨c,e⟩:=cell_has (n:=s.heap.objs.size+1) k
      refine .inr ⟨.inl k,c,e,?_⟩
      have q:=x.cell y c e
      rw [bindC_get ndP hp hu (by show scope.names.lookup y≠_;rw [k];decide)] at q
      exact q
  ·exact e0.hok.fresh (Nat.le_of_lt (x.above y c (PySem.mem_of_lookup h)))
  · unfold start
    show _=N.length
    rw [List.length_append,List.length_map,List.length_replicate]
    omega
theorem fn_of {CX:CXT} {P:Program} {w:World} {K:PySem.W.Frag} {mg:Str→Option Value} {base:Heap} {k:Nat} {f:Addr} {name qual:Str} {params:Arguments} {body:List Stmt} {scope:Scope} {dV kV doc pm cdv ct oc:Value} {an od:Option Addr}
    {osl:Array (Option Value)} {N ps:List Str} {sp:Sp} (lk:K.lookup f=some ⟨oc,od,.func (PySem.W.fnOf name qual params body scope dV kV doc pm an cdv ct),osl⟩) (hcd:PySem.W.codeIn K cdv qual=true) (S:FnScope N ps scope)
    (len:∀vs H Q E,sp vs H Q E→vs.length=ps.length)
    (hbody:∀(A:Around) (outer:List Env) (s:Shared) (H:Hp) (vs:List V) (Q:VK) (E:XK),Room k (A.deeper (envOfC qual scope s.heap.objs.size f cdv))→sp vs H Q E→
      ∃t,PSs (cxOf CX P w K mg base N qual scope f cdv A outer s H E) body t∧t {nx:=fun _ H'=>Q .non H',rt:=Q} (start N vs) H) :
    FnOk P w K mg base CX (k+1) f (PySem.W.fnOf name qual params body scope dV kV doc pm an cdv ct) ps sp:=by
  refine ⟨len,fun A outer s H args us vs Q E hr e0 hb r hsp=>?_⟩
  have hl:=len _ _ _ _ hsp
  have KX:K.In s.heap:=e0.mod.kin.keeps fun b o e=>(e0.bs b o e).1
  have lim:s.heap.NoLimit:=e0.mod.nolimit.keeps fun b o e=>(e0.bs b o e).1
  have hkind:∀y∈ps.zip us,scope.names.lookup y.1=some .local∨(scope.names.lookup y.1=some .cell∧((cellsFrom (s.heap.objs.size+1) scope.names []).lookup y.1).isSome=true):=fun ⟨n,v⟩ hy=>by
    rcases S.par n (List.of_mem_zip hy).1 with q | q
    ·exact .inl q
    ·exact .inr ⟨q,PySem.W.cellsFrom_some _ _ _ (.inl q)⟩
  refine codeAny_call_function hr.depth (KX _ _ lk) rfl S.co S.gen rfl (PySem.W.codeRec_of KX hcd) (hb _ _ _ _ ?_)
  refine wpAny_newFunctionEnv_cells S.kind hkind fun env he s1 x=>?_
  subst he
  refine ⟨lim.keeps x.toInCall.keep,codeAny_func ?_⟩
  obtain ⟨t,ht,hq⟩:=hbody A outer s H vs Q E (hr.deeper _) hsp
  have I:Inv (cxOf CX P w K mg base N qual scope f cdv A outer s H E) [] (start N vs) H s1:=inv_start S hr.hd e0 hl r x
  refine wpAny_mono (ht [] s1 (start N vs) H _ I hq) (fun fl s' hs=>?_) fun e s' hs=>hs
  have fin:∀{σ':St} {H':Hp} {v:V} {u:Value},Inv (cxOf CX P w K mg base N qual scope f cdv A outer s H E) [] σ' H' s'→RelV v u→Q v H'→CE outer P w H s Q u s':=
    fun {σ' H' v u} J rv q=>⟨v,H',J.os,J.bare,J.base,J.hok,rv,q⟩
  cases fl with
  | ret u=>
    obtain ⟨v,σ',H',J,rv,q⟩:=hs
    exact fin J rv q
  | next=>
    obtain ⟨σ',H',J,q⟩:=hs
    exact fin (v:=V.non) (u:=Value.none) J rfl q
  | brk=>
    obtain ⟨_,_,_,q⟩:=hs
    exact False.elim q
  | cont=>
    obtain ⟨_,_,_,q⟩:=hs
    exact False.elim q
section
variable {X:Cx} {x:Str} {p pos:Pos} {e:Expr} {es:List Expr} {t:TA} {id T:String} {r:List V→Hp→VK→Prop}
def tCB (r:List V→Hp→VK→Prop) (t:TA):TE:=fun σ H Q=>t σ H fun vs H1=>r vs H1 Q
theorem pe_callB (hc:CallR X (.builtin id) r) (hg:Gl X x) (hm:X.mg x=none) (hv:bootBuiltins x=some (.builtin id)) (ha:PA X (e::es) t) (hn:x≠ "__name__" :=by decide) (hdb:(x == ("__debug__" : Str))=false:=by decide)
    (he:starEach (e::es) X.env=(false,eval e X.env)::starEach es X.env:=by rfl) (hpl:(backTo pos (starEach es X.env)).any (·.1)=false:=by rfl):PE X (.Call (.Name x p) (e::es) [] pos) (tCB r t):=by
  intro pins s σ H Q I h
  refine wpAny_Call_Name_kw (ld_blt I hg hm hv ?_ hn hdb)
  refine PyProof.Rows.callWith_builtin1 (thn (ha pos pins s σ H _ I h) fun us s1 zz=>?_) he hpl
  obtain ⟨vs,H1,I1,r1,q1⟩:=zz
  exact hc pins s1 σ H1 vs us Q I1 r1 q1
theorem pe_callTy (hc:CallR X (.type T) r) (hg:Gl X x) (hm:X.mg x=none) (hv:bootBuiltins x=some (.type T)) (ha:PA X (e::es) t) (hn:x≠ "__name__" :=by decide) (hdb:(x == ("__debug__" : Str))=false:=by decide)
    (he:starEach (e::es) X.env=(false,eval e X.env)::starEach es X.env:=by rfl) (hpl:(backTo pos (starEach es X.env)).any (·.1)=false:=by rfl):PE X (.Call (.Name x p) (e::es) [] pos) (tCB r t):=by
  intro pins s σ H Q I h
  refine wpAny_Call_Name_kw (ld_blt I hg hm hv ?_ hn hdb)
  refine PyProof.Rows.callWith_type1 (thn (ha pos pins s σ H _ I h) fun us s1 zz=>?_) he hpl
  obtain ⟨vs,H1,I1,r1,q1⟩:=zz
  exact hc pins s1 σ H1 vs us Q I1 r1 q1
end
end L2
namespace HT
open PySem PyProof.Rows
section
variable {prog:Program} {w:World} {A:Around} {E:Value→Shared→Prop} {s:Shared}
def sIx (n d:Nat):Option Int→Nat
  | none=>d
  | some v=>if v<0 then (v+(n:Int)).toNat else min v.toNat n
end
end HT
namespace L2
open PySem PySem.Spec PyProof.Rows
abbrev TO:=St→Hp→(Option Int→Hp→Prop)→Prop
def PO (X:Cx) (e:Option Expr) (t:TO):Prop:=
  ∀(pins:List (Addr×Obj)) (s:Shared) (σ:St) (H:Hp) (Q:Option Int→Hp→Prop),Inv X pins σ H s→t σ H Q→
    wpAny (model X.prog X.w) X.A (evalPart e X.env) (fun u s'=>∃o H',Inv X pins σ H' s'∧IsPart u o∧Q o H') X.xe s
def tNoPart:TO:=fun _ H Q=>Q none H
def tPart (t:TE):TO:=fun σ H Q=>t σ H fun x H1=>∃i,x = .int i∧Q (some i) H1
section
variable {X:Cx} {e:Expr} {te:TE} {lo hi:Option Expr} {tl th:TO} {pos p2:Pos}
theorem po_none:PO X none tNoPart:=by
  intro pins s σ H Q I h
  rw [evalPart_none]
  exact wpAny_pure ⟨none,H,I,.none,h⟩
theorem po_some (h:PE X e te):PO X (some e) (tPart te):=by
  intro pins s σ H Q I hw
  rw [evalPart_some]
  refine thn (h pins s σ H _ I hw) fun u s1 zz=>?_
  obtain ⟨x,H1,I1,r1,q1⟩:=zz
  obtain ⟨i,rfl,q⟩:=q1
  obtain ⟨t,rfl⟩:=r1
  exact ⟨some i,H1,I1,.int i t,q⟩
def SlR (X:Cx) (r:V→Option Int→Option Int→Hp→VK→Prop):Prop:=
  ∀(pins:List (Addr×Obj)) (s:Shared) (σ:St) (H:Hp) (x:V) (v vl vu:Value) (lo hi:Option Int) (sl:Addr) (Q:VK),Inv X pins σ H s→RelV x v→s.heap.IsSliceOf sl vl vu .none→IsPart vl lo→IsPart vu hi→r x lo hi H Q→
    ∃T id,typeLookup (.type T) "__getitem__" = pure (some (.builtin id))∧s.TypeIs v T∧wpAny (model X.prog X.w) X.A (getItem v (.ref sl)) (EP X pins σ Q) X.xe s
def tSl (r:V→Option Int→Option Int→Hp→VK→Prop) (te:TE) (tl th:TO):TE:=fun σ H Q=>te σ H fun x H1=>tl σ H1 fun l H2=>th σ H2 fun u H3=>r x l u H3 Q
theorem pe_slice {r:V→Option Int→Option Int→Hp→VK→Prop} (hr:SlR X r) (he:PE X e te) (hl:PO X lo tl) (hu:PO X hi th):PE X (.Subscript e (.Slice lo hi none p2) pos) (tSl r te tl th):=by
  intro pins s σ H Q I h
  refine Subscript_ (thn (he pins s σ H _ I h) fun v s1 zz=>?_)
  obtain ⟨x,H1,I1,r1,q1⟩:=zz
  refine wpAny_Slice (thn (hl pins s1 σ H1 _ I1 q1) fun vl s2 ⟨l,H2,I2,pl,q2⟩=>thn (hu pins s2 σ H2 _ I2 q2) fun vu s3 ⟨u,H3,I3,pu,q3⟩=>?_)
  rw [evalPart_none]
  refine wpAny_pure ?_
  have I4:Inv X pins σ H3 {s3 with heap:=s3.heap.push {cls:=.type "slice",data:=.fields #[vl,vu,.none]}}:=I3.kept (t':=s3.toks) fun b ob q=>Heap.get?_push_of_some _ q
  obtain ⟨T,id,hT,ht,hg⟩:=hr pins {s3 with heap:=s3.heap.push {cls:=.type "slice",data:=.fields #[vl,vu,.none]}} σ H3 x v vl vu l u s3.heap.objs.size Q I4 r1 (Heap.IsSliceOf.new ..) pl pu q3
  show wpAny (model X.prog X.w) X.A (subscriptTail e (.Slice lo hi none p2) v (.ref s3.heap.objs.size)) (EP X pins σ Q) X.xe {s3 with heap:=s3.heap.push {cls:=.type "slice",data:=.fields #[vl,vu,.none]}}
  exact tail_any (ops:=[.ref s3.heap.objs.size,v]) ht hT hg (by with_unfolding_all rfl)
def cutV (xs:List V) (lo hi:Option Int):List V:=(xs.drop (HT.sIx xs.length 0 lo)).take (HT.sIx xs.length xs.length hi - HT.sIx xs.length 0 lo)
theorem cutV_length (xs:List V) (lo hi:Option Int):(cutV xs lo hi).length≤xs.length:=by
  unfold cutV
  rw [List.length_take,List.length_drop]
  omega
end
def ixN (n:Nat) (i:Int):Option Nat:=if 0≤i then (if i<n then some i.toNat else none) else if -(n:Int)≤i then some (i+n).toNat else none
def atI {α:Type} (xs:List α) (i:Int):Option α:=(ixN xs.length i).bind fun j=>xs[j]?
theorem ixN_seq {n:Nat} {i:Int} {j:Nat} (h:ixN n i=some j):seqIndex? i n=some j∧j<n∧-(n:Int)≤i∧i<n:=by
  unfold ixN at h
  by_cases h0:0≤i
  · rw [if_pos h0] at h
    by_cases h1:i<n
    · rw [if_pos h1] at h
      have e:i.toNat=j:=Option.some.inj h
      exact ⟨by rw [seqIndex_of h0 h1,e],by omega,by omega,h1⟩
    ·rw [if_neg h1] at h;cases h
  · rw [if_neg h0] at h
    by_cases h1 : -(n:Int)≤i
    · rw [if_pos h1] at h
      have e:(i+n).toNat=j:=Option.some.inj h
      exact ⟨by rw [seqIndex_neg (by omega) h1,e],by omega,h1,by omega⟩
    ·rw [if_neg h1] at h;cases h
theorem atI_get {α:Type} {xs:List α} {i:Int} {v:α} (h:atI xs i=some v):∃j,seqIndex? i xs.length=some j∧xs[j]? = some v∧j<xs.length∧-(xs.length:Int)≤i∧i<xs.length:=by
  unfold atI at h
  cases e:ixN xs.length i with
  | none=>rw [e] at h;cases h
  | some j=>
    rw [e] at h
    obtain ⟨h1,h2,h3,h4⟩:=ixN_seq e
    exact ⟨j,h1,h,h2,h3,h4⟩
theorem atI_nat {α:Type} {xs:List α} {j:Nat} {v:α} (h:xs[j]? = some v):atI xs (j:Int)=some v:=by
  have hj:j<xs.length:=(List.getElem?_eq_some_iff.mp h).1
  have e:ixN xs.length (j:Int)=some j:=by
    unfold ixN
    rw [if_pos (by omega),if_pos (by omega)];simp
  unfold atI;rw [e];exact h
def PlainIx (b:Expr):Prop:=∀o i,subscripted b false o i=operate [o,i] (getItem o i)
def IxR (X:Cx) (r:R2):Prop:=
  ∀(value slice:Expr) (pins:List (Addr×Obj)) (s:Shared) (σ:St) (H:Hp) (x y:V) (v u:Value) (Q:VK),Inv X pins σ H s→RelV x v→RelV y u→r x y H Q→
    subscripted slice false v u=operate [v,u] (getItem v u)→wpAny (model X.prog X.w) X.A (subscriptTail value slice v u) (EP X pins σ Q) X.xe s
def MtR (X:Cx) (id:String) (r:V→List V→Hp→VK→Prop):Prop:=
  ∀(pins:List (Addr×Obj)) (s:Shared) (σ:St) (H:Hp) (x:V) (xs:List V) (v:Value) (us:List Value) (Q:VK),Inv X pins σ H s→RelV x v→Vals xs us→r x xs H Q→
    wpAny (model X.prog X.w) X.A (call (.builtin id) (v::us)) (EP X pins σ Q) X.xe s
section
variable {X:Cx} {a b:Expr} {ta tb:TE} {pos:Pos}
theorem pe_ix {r:R2} (hr:IxR X r) (ha:PE X a ta) (hb:PE X b tb) (hs:PlainIx b):PE X (.Subscript a b pos) (tOp r ta tb):=by
  intro pins s σ H Q I h
  exact Subscript_ (binT ha hb I h fun v u s2 x y H2 I2 rx ry q=>hr a b pins s2 σ H2 x y v u Q I2 rx ry q (hs _ _))
def rIxL (K:PySem.W.Frag):R2:=fun x y H Q=>∃p xs i v,x = .ref p∧y = .int i∧SqL K H p xs∧atI xs i=some v∧Q v H
def rIxT (K:PySem.W.Frag):R2:=fun x y H Q=>∃p xs i v,x = .ref p∧y = .int i∧SqT K H p xs∧atI xs i=some v∧Q v H
def rIxS:R2:=fun x y H Q=>∃z i c,x = .str z∧y = .int i∧z.length≤sizeLine∧atI z.cps.toList i=some c∧Q (.str ⟨#[c]⟩) H
theorem ix_list:IxR X (rIxL X.K):=by
  intro value slice pins s σ H x y v u Q I rx ry h hs
  obtain ⟨p,xs,i,z,rfl,rfl,hq,he,q⟩:=h
  cases rx
  obtain ⟨t,rfl⟩:=ry
  obtain ⟨its,r,pl,hz⟩:=I.list hq
  obtain ⟨j,h1,h2,h3,h4,h5⟩:=atI_get he
  obtain ⟨w,ew,rw'⟩:=r.get h2
  have hl:=r.length
  have hn:=line63
  have fin:EP X pins σ Q w s:=⟨z,H,I,rw',q⟩
  by_cases h0:0≤i
  · have hj:i.toNat=j:=by
      rw [seqIndex_of h0 h5] at h1
      exact Option.some.inj h1
    exact item_listR pl.isList h0 (by omega) (by rw [hj];simpa using ew) fin hs
  · have hj:(i+(its.toArray.size:Int)).toNat=j:=by
      rw [seqIndex_neg (by omega) h4] at h1
      rw [List.size_toArray,← hl]
      exact Option.some.inj h1
    exact subscriptTail_builtinR (x:=w) pl.isList.typeIs slot_list_getitem.lookup
      (wpAny_getItem_list_neg (Q:=fun r s'=>r=w∧EP X pins σ Q r s') pl.isList (by omega) (by rw [List.size_toArray] <;> omega) (by omega) (by rw [hj];simpa using ew) ⟨rfl,fin⟩) hs
theorem ix_tup:IxR X (rIxT X.K):=by
  intro value slice pins s σ H x y v u Q I rx ry h hs
  obtain ⟨p,xs,i,z,rfl,rfl,hq,he,q⟩:=h
  cases rx
  obtain ⟨t,rfl⟩:=ry
  obtain ⟨its,r,pl,hz⟩:=I.tuple hq
  obtain ⟨j,h1,h2,h3,h4,h5⟩:=atI_get he
  obtain ⟨w,ew,rw'⟩:=r.get h2
  have hl:=r.length
  have hn:=line63
  have fin:EP X pins σ Q w s:=⟨z,H,I,rw',q⟩
  exact subscriptTail_builtinR (x:=w) pl.typeIs slot_tuple_getitem.lookup
    (getItem_tuple (j:=j) (Q:=fun r s'=>r=w∧EP X pins σ Q r s') pl (by omega) (by omega) (by rw [List.size_toArray,← hl];exact h1) (by simpa using ew) ⟨rfl,fin⟩) hs
theorem ix_str:IxR X rIxS:=by
  intro value slice pins s σ H x y v u Q I rx ry h hs
  obtain ⟨z,i,c,rfl,rfl,hz,he,q⟩:=h
  obtain ⟨t,rfl⟩:=rx
  obtain ⟨t',rfl⟩:=ry
  obtain ⟨j,h1,h2,h3,h4,h5⟩:=atI_get he
  have hl:z.cps.toList.length=z.length:=by simp [Str.length]
  rw [hl] at h1 h4 h5
  have hn:=line63
  exact tail_any (typeIs_str s z t) slot_str_getitem.lookup (getItem_str (c:=c) (by
    have e1:decide (i < -(2 ^ 63:Int))=false:=decide_eq_false (by omega)
    have e2:decide (i≥2 ^ 63)=false:=decide_eq_false (by omega)
    rw [e1,e2,Bool.or_false]) (by rw [h1];simpa using h2) ⟨.str ⟨#[c]⟩,H,I.tok _,⟨_,rfl⟩,q⟩) hs
theorem mapSeq_set (its:List Value) (n j:Nat) (u:Value):Obj.mapSeq (·.setIfInBounds j u) {cls:=.type "list",data:=.seq its.toArray n}={cls:=.type "list",data:=.seq (its.set j u).toArray n}:=by
  simp [Obj.mapSeq]
theorem Inv.lst {pins:List (Addr×Obj)} {σ:St} {H:Hp} {s:Shared} {p:Addr} {xs:List V} (I:Inv X pins σ H s) (h:H p=some (.lst xs)) :
    ∃(its:List Value) (n:Nat),Vals xs its∧s.heap.get? p=some {cls:=.type "list",data:=.seq its.toArray n}∧xs.length≤sizeLine:=by
  obtain ⟨z,its,n,r,e⟩:=I.hok p _ h
  exact ⟨its,n,r,e,z⟩
theorem Inv.lstUpd {pins:List (Addr×Obj)} {σ:St} {H:Hp} {s:Shared} {p:Addr} {xs ys:List V} {its its':List Value} {n n':Nat} {f:Obj→Obj} (I:Inv X pins σ H s) (h:H p=some (.lst xs))
    (ho:s.heap.get? p=some {cls:=.type "list",data:=.seq its.toArray n}) (hf:f {cls:=.type "list",data:=.seq its.toArray n}={cls:=.type "list",data:=.seq its'.toArray n'}) (r:Vals ys its') (hz:ys.length≤sizeLine) (t:Nat) :
    Inv X pins σ (upd H p (.lst ys)) {s with heap:=s.heap.update p f,toks:=t}:=by
  have e:(s.heap.update p f).get? p=some {cls:=.type "list",data:=.seq its'.toArray n'}:=by
    rw [Heap.get?_update_self f ho (by rw [hf] <;> rfl),hf]
  refine I.write (x:=p) (e:=p) (by rw [h];trivial) (.inl rfl) (fun b u hb q=>(Heap.get?_update_other _ _ (Ne.symm hb)).trans q) ⟨_,e⟩ ?_
  exact ⟨hz,its',n',r,e⟩
def rSetL:V→V→V→Hp→(Hp→Prop)→Prop:=fun o i v H Q=>∃p xs k j,o = .ref p∧i = .int k∧H p=some (.lst xs)∧ixN xs.length k=some j∧Q (upd H p (.lst (xs.set j v)))
theorem set_list:PSet X rSetL:=by
  intro pins s σ H o i v ov iv u Q I ro ri rv h
  obtain ⟨p,xs,k,j,rfl,rfl,hp,hj,q⟩:=h
  cases ro
  obtain ⟨t,rfl⟩:=ri
  obtain ⟨its,n,r,ho,hz⟩:=I.lst hp
  obtain ⟨h1,h2,h3,h4⟩:=ixN_seq hj
  have hl:=r.length
  have hn:=line63
  have I':Inv X pins σ (upd H p (.lst (xs.set j v))) {s with heap:=s.heap.update p (Obj.mapSeq (·.setIfInBounds j u))}:=
    I.lstUpd hp ho (mapSeq_set its n j u) (r.set rv j) (by rw [List.length_set];exact hz) s.toks
  by_cases h0:0≤k
  · have hk:k.toNat=j:=by
      rw [seqIndex_of h0 h4] at h1
      exact Option.some.inj h1
    exact PySem.W.ki_setAt ho h0 (by omega) (by rw [List.size_toArray,← hl];exact h4) (by rw [hk];exact ⟨_,I',q⟩)
  · have hk:(k+(its.toArray.size:Int)).toNat=j:=by
      rw [seqIndex_neg (by omega) h3] at h1
      rw [List.size_toArray,← hl]
      exact Option.some.inj h1
    exact PySem.W.ki_setBack ho (by omega) (by rw [List.size_toArray,← hl];exact h3) (by omega) (by rw [hk];exact ⟨_,I',q⟩)
theorem slice_bounds (lo hi:Option Int) (n:Nat):(sliceBounds lo hi none n).1=((HT.sIx n 0 lo:Nat):Int)∧(sliceBounds lo hi none n).2.1=((HT.sIx n n hi:Nat):Int)∧(sliceBounds lo hi none n).2.2=1:=by
  refine ⟨?_,?_,rfl⟩
  · cases lo with
    | none=>simp [sliceBounds,HT.sIx]
    | some i=>
      simp only [sliceBounds,HT.sIx,Option.getD_none,show (1:Int) > 0 by decide,if_true]
      by_cases h:i<0
      ·simp only [h,if_true] <;> omega
      ·simp only [h,if_false] <;> omega
  · cases hi with
    | none=>simp [sliceBounds,HT.sIx]
    | some i=>
      simp only [sliceBounds,HT.sIx,Option.getD_none,show (1:Int) > 0 by decide,if_true]
      by_cases h:i<0
      ·simp only [h,if_true] <;> omega
      ·simp only [h,if_false] <;> omega
theorem slicePick_cut (its:List Value) (lo hi:Option Int):slicePick its.toArray lo hi none=((its.drop (HT.sIx its.length 0 lo)).take (HT.sIx its.length its.length hi - HT.sIx its.length 0 lo)).toArray:=by
  obtain ⟨h1,h2,h3⟩:=slice_bounds lo hi its.toArray.size
  unfold slicePick
  rw [h1,h2,h3]
  simp only [sliceRange_one,pick_run,List.size_toArray] <;> rfl
def rSlL (K:PySem.W.Frag):V→Option Int→Option Int→Hp→VK→Prop:=fun x lo hi H Q=>∃a xs,x = .ref a∧SqL K H a xs∧∀p,H p=none→Q (.ref p) (upd H p (.lst (cutV xs lo hi)))
theorem sl_list:SlR X (rSlL X.K):=by
  intro pins s σ H x v vl vu lo hi sl Q I rx hs pl pu h
  obtain ⟨a,xs,rfl,hx,q⟩:=h
  cases rx
  obtain ⟨its,r,ht,hz⟩:=I.list hx
  have hlen:=r.length
  refine ⟨"list",_,slot_list_getitem.lookup,ht.isList.typeIs,?_⟩
  refine wpAny_getItem_list_slice ht.isList hs pl pu .none (by simp) ?_ (by rw [List.size_toArray] <;> omega)
  rw [slicePick_cut,← hlen]
  refine ⟨.ref s.heap.objs.size,_,I.laid (t':=s.toks) (o:=.lst (cutV xs lo hi)) (fun b ob q=>Heap.get?_push_of_some _ q) (Nat.le_refl _) ?_,rfl,q _ (I.hok.fresh (Nat.le_refl _))⟩
  exact ⟨Nat.le_trans (cutV_length xs lo hi) hz,_,0,(r.drop (HT.sIx xs.length 0 lo)).take (HT.sIx xs.length xs.length hi - HT.sIx xs.length 0 lo),Heap.get?_push_size _ rfl⟩
def flatV:V→Bool
  | .non=>true
  | .bl _=>true
  | .int _=>true
  | .str _=>true
  | _=>false
def eqV:V→V→Bool
  | .non,.non=>true
  | .bl a,.bl b=>a == b
  | .bl a,.int b=>(if a then 1 else 0) == b
  | .int a,.bl b=>a == (if b then 1 else 0)
  | .int a,.int b=>a == b
  | .str a,.str b=>a == b
  | _,_=>false
theorem eqAt_V {A:Around} {s:Shared} {y x:V} {u v:Value} (ry:RelV y u) (rx:RelV x v) (fy:flatV y=true) (fx:flatV x=true):SeqAt.EqAt A s u v (eqV y x):=by
  cases y with
  | non=>
    cases ry
    cases x with
    | non=>cases rx;exact SeqAt.EqAt.same _
    | bl b=>cases rx;exact SeqAt.EqAt.none_bool b
    | int b=>obtain ⟨t,rfl⟩:=rx;exact SeqAt.EqAt.none_int b t
    | str b=>obtain ⟨t,rfl⟩:=rx;exact SeqAt.EqAt.none_str b t
    | _=>exact absurd (show false=true from fx) Bool.false_ne_true
  | bl a=>
    cases ry
    cases x with
    | non=>cases rx;exact SeqAt.EqAt.bool_none a
    | bl b=>cases rx;exact SeqAt.EqAt.bool_bool a b
    | int b=>obtain ⟨t,rfl⟩:=rx;exact SeqAt.EqAt.bool_int a b t
    | str b=>obtain ⟨t,rfl⟩:=rx;exact SeqAt.EqAt.bool_str a b t
    | _=>exact absurd (show false=true from fx) Bool.false_ne_true
  | int a=>
    obtain ⟨t',rfl⟩:=ry
    cases x with
    | non=>cases rx;exact SeqAt.EqAt.int_none a t'
    | bl b=>cases rx;exact SeqAt.EqAt.int_bool a t' b
    | int b=>obtain ⟨t,rfl⟩:=rx;exact SeqAt.EqAt.int_int a t' b t
    | str b=>obtain ⟨t,rfl⟩:=rx;exact SeqAt.EqAt.int_str a t' b t
    | _=>exact absurd (show false=true from fx) Bool.false_ne_true
  | str a=>
    obtain ⟨t',rfl⟩:=ry
    cases x with
    | non=>cases rx;exact SeqAt.EqAt.str_none a t'
    | bl b=>cases rx;exact SeqAt.EqAt.str_bool a t' b
    | int b=>obtain ⟨t,rfl⟩:=rx;exact SeqAt.EqAt.str_int a t' b t
    | str b=>obtain ⟨t,rfl⟩:=rx;exact SeqAt.EqAt.str_str a t' b t
    | _=>exact absurd (show false=true from fx) Bool.false_ne_true
  | _=>exact absurd (show false=true from fy) Bool.false_ne_true
def eqU (x:V) (u:Value):Bool:=match u with
  | .none=>eqV .non x
  | .bool b=>eqV (.bl b) x
  | .int i _=>eqV (.int i) x
  | .str z _=>eqV (.str z) x
  | _=>false
theorem eqU_of {x y:V} {u:Value} (r:RelV y u) (f:flatV y=true):eqU x u=eqV y x:=by
  cases y with
  | non=>cases r;rfl
  | bl b=>cases r;rfl
  | int i=>obtain ⟨t,rfl⟩:=r;rfl
  | str z=>obtain ⟨t,rfl⟩:=r;rfl
  | _=>exact absurd (show false=true from f) Bool.false_ne_true
theorem any_eqU {x:V}:∀{xs:List V} {us:List Value},Vals xs us→xs.all flatV=true→us.any (eqU x)=xs.any fun y=>eqV y x
  | _,_,.nil,_=>rfl
  | y::xs,u::us,.cons r t,f=>by
    rw [List.all_cons,Bool.and_eq_true] at f
    rw [List.any_cons,List.any_cons,eqU_of r f.1,any_eqU t f.2]
theorem mem_eqAt {A:Around} {s:Shared} {x:V} {v:Value} (rx:RelV x v) (fx:flatV x=true):∀{xs:List V} {us:List Value},Vals xs us→xs.all flatV=true→∀u∈us,SeqAt.EqAt A s u v (eqU x u)
  | _,_,.nil,_=>fun u hu=>by cases hu
  | y::xs,u::us,.cons r t,f=>fun u' hu=>by
    rw [List.all_cons,Bool.and_eq_true] at f
    rcases List.mem_cons.mp hu with rfl | hu
    ·rw [eqU_of r f.1];exact eqAt_V r rx f.1 fx
    ·exact mem_eqAt rx fx t f.2 u' hu
def inV (x:V) (xs:List V):Bool:=xs.any fun y=>eqV y x
def rIn (K:PySem.W.Frag) (neg:Bool):R2:=fun x y H Q=>∃p xs,y = .ref p∧(SqL K H p xs∨SqT K H p xs)∧flatV x=true∧xs.all flatV=true∧Q (.bl (if neg then !inV x xs else inV x xs)) H
theorem op_in_seq:OpR X (compareOp .In) (rIn X.K false):=by
  intro pins s σ H x y v u Q I rx ry h
  obtain ⟨p,xs,rfl,hq,fx,fs,q⟩:=h
  cases ry
  rcases hq with hq | hq
  · obtain ⟨its,r,pl,hz⟩:=I.list hq
    refine SeqAt.in_listAt (eqU x) pl.isList (fun w hw=>mem_eqAt rx fx r fs w (by simpa using hw)) ⟨.bl _,H,I,rfl,?_⟩
    rw [show its.toArray.any (eqU x)=its.any (eqU x) by simp,any_eqU r fs]
    exact q
  · obtain ⟨its,r,pl,hz⟩:=I.tuple hq
    refine SeqAt.in_tupleAt (eqU x) pl (fun w hw=>mem_eqAt rx fx r fs w (by simpa using hw)) ⟨.bl _,H,I,rfl,?_⟩
    rw [show its.toArray.any (eqU x)=its.any (eqU x) by simp,any_eqU r fs]
    exact q
theorem op_notIn_seq:OpR X (compareOp .NotIn) (rIn X.K true):=by
  intro pins s σ H x y v u Q I rx ry h
  obtain ⟨p,xs,rfl,hq,fx,fs,q⟩:=h
  cases ry
  rcases hq with hq | hq
  · obtain ⟨its,r,pl,hz⟩:=I.list hq
    refine SeqAt.notIn_listAt (eqU x) pl.isList (fun w hw=>mem_eqAt rx fx r fs w (by simpa using hw)) ⟨.bl _,H,I,rfl,?_⟩
    rw [show its.toArray.any (eqU x)=its.any (eqU x) by simp,any_eqU r fs]
    exact q
  · obtain ⟨its,r,pl,hz⟩:=I.tuple hq
    refine SeqAt.notIn_tupleAt (eqU x) pl (fun w hw=>mem_eqAt rx fx r fs w (by simpa using hw)) ⟨.bl _,H,I,rfl,?_⟩
    rw [show its.toArray.any (eqU x)=its.any (eqU x) by simp,any_eqU r fs]
    exact q
theorem op_notIn_str:OpR X (compareOp .NotIn) (fun x y H Q=>∃i j,x = .str i∧y = .str j∧Q (.bl (!(!(Builtin.Str.occurrences j i 0 j.length 1).isEmpty))) H):=by
  intro pins s σ H x y v u Q I rx ry h
  obtain ⟨i,j,rfl,rfl,q⟩:=h
  obtain ⟨t,rfl⟩:=rx
  obtain ⟨t',rfl⟩:=ry
  exact notIn_str ⟨.bl _,H,I,rfl,q⟩
theorem call_len_seq:CallR X (.builtin "len") (fun xs H Q=>∃p ys,xs=[.ref p]∧(SqL X.K H p ys∨SqT X.K H p ys)∧Q (.int ys.length) H):=by
  intro pins s σ H xs us Q I r h
  obtain ⟨p,ys,rfl,hq,q⟩:=h
  obtain ⟨u,rfl,rx⟩:=vals1 r
  cases rx
  have hn:=line63
  rcases hq with hq | hq
  · obtain ⟨its,r',pl,hz⟩:=I.list hq
    have hlen:=r'.length
    exact Calls.call_len_list pl.isList (by simp only [List.size_toArray] <;> omega) ⟨.int ys.length,H,I.tok _,⟨s.toks+1,by rw [List.size_toArray,hlen]⟩,q⟩
  · obtain ⟨its,r',pl,hz⟩:=I.tuple hq
    have hlen:=r'.length
    exact len_tuple pl (by simp only [List.size_toArray] <;> omega) ⟨.int ys.length,H,I.tok _,⟨s.toks+1,by rw [List.size_toArray,hlen]⟩,q⟩
theorem call_len_str:CallR X (.builtin "len") (fun xs H Q=>∃z,xs=[.str z]∧z.length≤sizeLine∧Q (.int z.length) H):=by
  intro pins s σ H xs us Q I r h
  obtain ⟨z,rfl,hz,q⟩:=h
  obtain ⟨u,rfl,t,rfl⟩:=vals1 r
  have hn:=line63
  exact len_str (by omega) ⟨.int z.length,H,I.tok _,⟨_,rfl⟩,q⟩
theorem call_list_of:CallR X (.type "list") (fun xs H Q=>∃p ys,xs=[.ref p]∧(SqL X.K H p ys∨SqT X.K H p ys)∧∀l,H l=none→Q (.ref l) (upd H l (.lst ys))):=by
  intro pins s σ H xs us Q I r h
  obtain ⟨p,ys,rfl,hq,q⟩:=h
  obtain ⟨u,rfl,rx⟩:=vals1 r
  cases rx
  have fin:∀(its:List Value),Vals ys its→ys.length≤sizeLine→∀(h':Heap) (c':Nat),(∀b o',s.heap.get? b=some o'→h'.get? b=some o')→
      h'.get? s.heap.objs.size=some {cls:=.type "list",dict:=none,data:=.seq its.toArray c',slots:=#[]}→EP X pins σ Q (.ref s.heap.objs.size) {s with heap:=h'}:=fun its r' hz h' c' kp e=>
    ⟨.ref s.heap.objs.size,_,I.laid (t':=s.toks) kp (Nat.le_refl _) (show ObjOk X.prog X.w _ h' _ (.lst ys) from ⟨hz,its,c',r',e⟩),rfl,q _ (I.hok.fresh (Nat.le_refl _))⟩
  rcases hq with hq | hq
  · obtain ⟨its,r',pl,hz⟩:=I.list hq
    have hlen:=r'.length
    obtain ⟨o,ho,hc,n,hd⟩:=pl.isList
    exact call_list_seq p (.inl rfl) ho hc hd (fun h' c' kp e=>fin its r' hz h' c' kp e) (by simp only [List.size_toArray] <;> omega)
  · obtain ⟨its,r',pl,hz⟩:=I.tuple hq
    have hlen:=r'.length
    obtain ⟨o,ho,hc,n,hd⟩:=pl
    exact call_list_seq p (.inr rfl) ho hc hd (fun h' c' kp e=>fin its r' hz h' c' kp e) (by simp only [List.size_toArray] <;> omega)
theorem call_tuple_of:CallR X (.type "tuple") (fun xs H Q=>∃p ys,xs=[.ref p]∧((SqL X.K H p ys∧∀l,H l=none→Q (.ref l) (upd H l (.tup ys)))∨(SqT X.K H p ys∧Q (.ref p) H))):=by
  intro pins s σ H xs us Q I r h
  obtain ⟨p,ys,rfl,h⟩:=h
  obtain ⟨u,rfl,rx⟩:=vals1 r
  cases rx
  rcases h with ⟨hq,q⟩ | ⟨hq,q⟩
  · obtain ⟨its,r',pl,hz⟩:=I.list hq
    have hlen:=r'.length
    refine call_tuple_list pl.isList (fun h' kp=>?_) (by simp only [List.size_toArray] <;> omega)
    have I1:Inv X pins σ H {s with heap:=h'}:=I.kept (t':=s.toks) kp
    have I2:Inv X pins σ (upd H h'.objs.size (.tup ys)) {s with heap:=h'.push {cls:=.type "tuple",data:=.seq its.toArray}}:=
      I1.laid (t':=s.toks) (fun b o e=>Heap.get?_push_of_some _ e) (Nat.le_refl _) (show ObjOk X.prog X.w _ _ _ (.tup ys) from ⟨hz,its,r',IsTup.new _ _⟩)
    exact ⟨.ref h'.objs.size,_,I2,rfl,q _ (I1.hok.fresh (Nat.le_refl _))⟩
  · obtain ⟨its,r',pl,hz⟩:=I.tuple hq
    exact call_tuple_same pl ⟨.ref p,H,I,rfl,q⟩
def tyV (K:PySem.W.Frag) (T:String) (x:V) (H:Hp):Prop:=match x with
  | .str _=>T = "str"
  | .int _=>T = "int"
  | .ref p=>(T = "list" ∧∃xs,SqL K H p xs)∨(T = "tuple" ∧∃o,K.lookup p=some o∧o.cls = .type "tuple" ∧o.dict=none)∨
      (T = "dict" ∧((∃kvs,H p=some (.dK kvs))∨∃kvs,H p=some (.dT kvs)))∨(T = "set" ∧∃S n,H p=some (.set S n))
  | _=>False
theorem tyV_is {pins:List (Addr×Obj)} {σ:St} {H:Hp} {s:Shared} {T:String} {x:V} {v:Value} (I:Inv X pins σ H s) (r:RelV x v) (ty:tyV X.K T x H) :
    s.TypeIs v T∧∀a,v = .ref a→∃ob,s.heap.get? a=some ob∧ob.dict=none:=by
  cases x with
  | str z=>
    obtain ⟨t,rfl⟩:=r
    cases (show T = "str" from ty)
    exact ⟨typeIs_str s z t,fun _ e=>nomatch e⟩
  | int i=>
    obtain ⟨t,rfl⟩:=r
    cases (show T = "int" from ty)
    exact ⟨typeIs_int s i t,fun _ e=>nomatch e⟩
  | ref p=>
    cases r
    rcases ty with ⟨rfl,xs,hq⟩ | ⟨rfl,o,hk,hc,hd⟩ | ⟨rfl,hk⟩ | ⟨rfl,S,n,hk⟩
    · obtain ⟨its,_,pl,_⟩:=I.list hq
      refine ⟨pl.isList.typeIs,fun a e=>?_⟩
      cases e
      obtain ⟨o,n,e,c,hd,_⟩:=pl
      exact ⟨o,e,hd⟩
    · refine ⟨⟨o,I.kIn p o hk,hc⟩,fun a e=>?_⟩
      cases e
      exact ⟨o,I.kIn _ o hk,hd⟩
    · have z:∃o,s.heap.get? p=some o∧o.ExactDict:=by
        rcases hk with ⟨kvs,hk⟩ | ⟨kvs,hk⟩
        · obtain ⟨_,_,_,_,o,_,_,e,ex,_⟩:=I.hok p _ hk
          exact ⟨o,e,ex⟩
        · obtain ⟨_,_,_,_,o,_,_,e,ex,_⟩:=I.hok p _ hk
          exact ⟨o,e,ex⟩
      obtain ⟨o,e,ex⟩:=z
      refine ⟨⟨o,e,ex.1⟩,fun a e2=>?_⟩
      cases e2
      exact ⟨o,e,ex.2.1⟩
    · obtain ⟨o,_,_,_,e,ex,_⟩:=I.hok p _ hk
      refine ⟨⟨o,e,ex.1⟩,fun a e2=>?_⟩
      cases e2
      exact ⟨o,e,ex.2.1⟩
  | _=>exact False.elim ty
def tBM (K:PySem.W.Frag) (T:String) (r:V→List V→Hp→VK→Prop) (to:TE) (t:TA):TE:=fun σ H Q=>to σ H fun x H1=>tyV K T x H1∧t σ H1 fun xs H2=>r x xs H2 Q
variable {o e:Expr} {es:List Expr} {to:TE} {t:TA} {name:Str} {apos cpos:Pos} {T id:String} {r:V→List V→Hp→VK→Prop}
theorem pe_bm (pa:PlainAttrs T) (slot:Slot T name id) (hty:typeOf (.builtin id)=pure (.type "method_descriptor")) (hm:MtR X id r) (ho:PE X o to) (ha:PA X (e::es) t)
    (hbase:attributeBase o name X.env (eval o X.env)=eval o X.env:=by rfl)
    (hfew:((backTo cpos (starEach (e::es) X.env)).all (fun x=>!x.1) && (backToKw cpos (keywordEach [] X.env)).all (fun x=>x.1.isSome)
      && decide ((e::es).length+([]:List Keyword).length+(if ([]:List Keyword).isEmpty then 0 else 1)<30))=true:=by rfl)
    (hline:(apos.endLine == cpos.line)=true:=by rfl) (hs:starEach (e::es) X.env=(false,eval e X.env)::starEach es X.env:=by rfl) (hplain:(backTo cpos (starEach es X.env)).any (·.1)=false:=by rfl) :
    PE X (.Call (.Attribute o name apos) (e::es) [] cpos) (tBM X.K T r to t):=by
  intro pins s σ H Q I h
  refine wpAny_Call_method_late hbase hfew hline rfl (thn (ho pins s σ H _ I h) fun v s1 zz=>?_)
  obtain ⟨x,H1,I1,r1,ty,q1⟩:=zz
  obtain ⟨h1,h2⟩:=tyV_is I1 r1 ty
  refine ⟨T,id,pa,slot,hty,h1,h2,?_⟩
  have hA:=ha cpos pins s1 σ H1 _ I1 q1
  rw [hs] at hA ⊢
  refine Calls.callWith_builtin (by show (false || (backTo cpos (starEach es X.env)).any (·.1))=false;rw [hplain] <;> rfl) (Calls.evalArgs_plain ?_)
  refine thn hA fun us s2 zz=>?_
  obtain ⟨vs,H2,I2,r2,q2⟩:=zz
  exact hm pins s2 σ H2 x vs v us Q I2 r1 r2 q2
end
def MtM (X:Cx) (id:String) (r:V→List V→Hp→VK→Prop):Prop:=
  ∀(pins:List (Addr×Obj)) (s:Shared) (σ:St) (H:Hp) (x:V) (xs:List V) (v:Value) (us:List Value) (Q:VK),Inv X pins σ H s→RelV x v→Vals xs us→r x xs H Q→
    wpAny (model X.prog X.w) X.A (call (.builtin id) (v::us)) (EP X pins σ Q) X.xe s
theorem Vals.one {x:V} {us:List Value} (h:Vals [x] us):∃u,us=[u]∧RelV x u:=vals1 h
theorem Vals.two {x y:V} {us:List Value} (h:Vals [x,y] us):∃u v,us=[u,v]∧RelV x u∧RelV y v:=vals2 h
section
variable {X:Cx} {pins:List (Addr×Obj)} {σ:St} {H:Hp} {s:Shared} {l b:Addr} {xs ys zs:List V}
theorem Inv.lset {its its':List Value} {n:Nat} {f:Array Value→Array Value} {t':Nat} (I:Inv X pins σ H s) (hH:H l=some (.lst xs))
    (e:s.heap.get? l=some {cls:=.type "list",data:=.seq its.toArray n}) (hf:f its.toArray=its'.toArray) (hv:Vals ys its') (hz:ys.length≤sizeLine) :
    Inv X pins σ (upd H l (.lst ys)) {s with heap:=s.heap.update l (Obj.mapSeq f),toks:=t'}:=by
  have q:=PySem.IsL.update e f
  rw [hf] at q
  refine I.write (x:=l) (e:=l) (by rw [hH];exact trivial) (.inl rfl) (fun b' u hb hu=>(Heap.get?_update_other s.heap (Obj.mapSeq f) (Ne.symm hb)).trans hu) ⟨_,q⟩ ?_
  exact ⟨hz,its',_,hv,q⟩
theorem Inv.lnew {its:List Value} {t':Nat} (I:Inv X pins σ H s) (hv:Vals ys its) (hz:ys.length≤sizeLine) :
    Inv X pins σ (upd H s.heap.objs.size (.lst ys)) {s with heap:=s.heap.push {cls:=.type "list",data:=.seq its.toArray},toks:=t'}:=
  I.laid (fun _ _ q=>Heap.get?_push_of_some _ q) (Nat.le_refl _) ⟨hz,its,0,hv,Heap.get?_push_size _ rfl⟩
theorem Inv.fresh (I:Inv X pins σ H s):H s.heap.objs.size=none:=I.hok.fresh (Nat.le_refl _)
theorem Inv.lstM (I:Inv X pins σ H s) (hH:H l=some (.lst xs)):xs.length≤sizeLine∧∃(its:List Value) (n:Nat),Vals xs its∧xs.length=its.length∧s.heap.get? l=some {cls:=.type "list",data:=.seq its.toArray n}:=by
  obtain ⟨z,its,n,r,e⟩:=I.hok l _ hH
  exact ⟨z,its,n,r,r.length,e⟩
end
section
variable {X:Cx}
def rAppend:V→List V→Hp→VK→Prop:=fun x vs H Q=>∃l xs y,x = .ref l∧vs=[y]∧H l=some (.lst xs)∧xs.length<sizeLine∧Q .non (upd H l (.lst (xs++[y])))
theorem mt_append:MtM X "list.append" rAppend:=by
  intro pins s σ H x vs v us Q I rx rv h
  obtain ⟨l,xs,y,rfl,rfl,hH,hz,q⟩:=h
  cases rx
  obtain ⟨u,rfl,ru⟩:=rv.one
  obtain ⟨z,its,n,r,hl,e⟩:=I.lstM hH
  refine call_meets F.slot_list_append ⟨_,e,rfl⟩ F.entry_list_append (F.args_list_append_2 _ _) (PySem.list_append l its.toArray n u (by rw [List.size_toArray];omega)) ⟨e,?_⟩
  refine ⟨.non,_,I.lset (its':=its++[u]) hH e (by simp) (r.append (.cons ru .nil)) ?_,rfl,q⟩
  rw [List.length_append,List.length_singleton]
  omega
def rCat:R2:=fun x y H Q=>∃l b xs zs,x = .ref l∧y = .ref b∧H l=some (.lst xs)∧H b=some (.lst zs)∧xs.length+zs.length≤sizeLine∧∀p,H p=none→Q (.ref p) (upd H p (.lst (xs++zs)))
theorem op_cat:OpR X (binaryOp .Add) rCat:=by
  intro pins s σ H x y v u Q I rx ry h
  obtain ⟨l,b,xs,zs,rfl,rfl,hH,hB,hz,q⟩:=h
  cases rx
  cases ry
  obtain ⟨z,its,n,r,hl,e⟩:=I.lstM hH
  obtain ⟨z2,its2,n2,r2,hl2,e2⟩:=I.lstM hB
  refine PySem.P.add_list e e2 ?_ (by rw [List.size_toArray,List.size_toArray];omega)
  have ea:its.toArray++its2.toArray=(its++its2).toArray:=by simp
  rw [ea]
  exact ⟨.ref _,_,I.lnew (t':=s.toks) (r.append r2) (by rw [List.length_append];omega),rfl,q _ I.fresh⟩
end
end L2
namespace Att
open PySem PySem.W PySem.Calls PyProof.Rows
theorem ints_of_wellAll {P:Params} {h:Heap}:∀(ns:List Int) (vs:List Value),WellAll P h vs (ns.map WData.int)→IntsAre vs ns:=by
  intro ns
  induction ns with
  | nil=>
    intro vs w
    rw [List.map_nil] at w
    cases w
    exact .nil
  | cons n ns ih=>
    intro vs w
    rw [List.map_cons] at w
    cases w with
    | cons a b=>
      cases a
      exact .cons _ _ (ih _ b)
theorem script_of {l:OpenLaw} {n:Nat} (hn:l.most=some n) {P:Params} {h:Heap} {args:List WData} {vals:List Value}
    (hpre:l.row.toRowW.claim.pre args=true) (hwl:WellAll P h vals args) :
    ∃a vs ns,vals=[Value.ref a]∧args=[WData.list (ns.map WData.int)]∧h.get? a=some {cls:=.type "list",data:=.seq vs.toArray}∧IntsAre vs ns∧ns.length≤n:=by
  have hsh:WShape.hasAll [] args [.list .int]=true:=(pre_splitW hpre).1
  have hc:l.pre.holds [] {args:=args}=true:=(pre_splitW hpre).2
  obtain ⟨d,r,rfl,h1,h2⟩:=hasAllW_cons hsh
  obtain rfl:=hasAllW_nil h2
  obtain ⟨xs,rfl,h3⟩:=hasW_list h1
  obtain ⟨ns,rfl⟩:=items_int h3
  have hlen:ns.length≤n:=by
    unfold OpenLaw.pre at hc
    have h4:(WTm.not (.lt (.lit (.int (n:Int))) (.len (.arg 0)))).holds [] {args:=[.list (ns.map .int)]}=true:=by
      have h4:=(holds_andW hc).1
      rw [hn] at h4
      exact h4
    have h5:=condW_of h4 (w_not (w_lt w_lit (w_len_list (w_arg rfl))))
    rw [List.length_map] at h5
    refine Nat.le_of_not_lt fun q=>?_
    have q':(n:Int)<((ns.length:Nat):Int):=by omega
    first
      | (rw [decide_eq_true q'] at h5;exact absurd h5 (by decide))
      | (simp at h5;omega)
  cases hwl with
  | cons w1 w2=>
    cases w2
    cases w1 with
    | list ho hall=>exact ⟨_,_,ns,rfl,rfl,ho,ints_of_wellAll ns _ hall,hlen⟩
theorem post_true (l:OpenLaw) (args:List WData):l.row.toRowW.claim.post args (.bool true) args=true:=
  postW_of (r:=l.row.toRowW) (X:=(true == true))
    (show WShape.has [] (.bool true) .bool=true by first | rfl | decide | simp [WShape.has,WShape.arms,WShape.armsAll])
    (show (WTm.eq .res (.lit (.bool true))).value [] {args:=args,res:=some (.bool true),after:=args}=some (.bool (true == true)) from w_eq_bool (w_res rfl) w_lit) rfl
theorem attach_call {l:OpenLaw} {n:Nat} {q:Program} {loose:List Str} {XP:(Str→Option Value)→Heap→Prop} {YP:World→Heap→Prop} {d:DefRec}
    (hn:l.most=some n) (hdf:d.params.defaults=[])
    (call:∀(w:World) (s₀ s₁:Shared) (mg mb:Str→Option Value) (fa:Addr) (o:Obj) (pm cd doc:Value) (a:Addr) (vs:List Value) (ns:List Int),
      Ground q loose [] XP w s₀ mg mb s₁.heap→YP w s₁.heap→
      s₁.heap.get? fa=some o→o.data = .func (docDef d.name d.params d.body d.scope pm cd doc)→s₁.heap.CodeRec cd d.name→mg d.name=some (.ref fa)→
      s₁.heap.get? a=some {cls:=.type "list",data:=.seq vs.toArray}→IntsAre vs ns→ns.length≤n→s₁.gens = #[]→
      codeAny (model l.prog w) callerA (.call (.ref fa) ⟨[.ref a],[]⟩) (fun r s'=>r = .ok (.ret (.bool true))∧OldK s₁.heap s'.heap∧s'.os=s₁.os∧AllBare s'.gens) s₁) :
    WalkO q loose XP YP l.row.toRowW d [] (fun f vs=>PySem.call f vs):=by
  intro w s₀ s₁ mg mb G Y fa o pm cd doc dV kV ho hd hcd hD hmg hg args vals as hpre hlay hrd hwl hlo
  obtain rfl:dV = .none:=Dflts.none hD hdf
  obtain rfl:kV = .none:=Dflts.noKw hD
  obtain ⟨a,vs,ns,rfl,rfl,hobj,hints,hlen⟩:=script_of hn hpre hwl
  refine enter_call (codeAny_mono (call w s₀ s₁ mg mb fa o pm cd doc a vs ns G Y ho (fd_plain hd) hcd hmg hobj hints hlen hg) fun r s' hq=>?_)
  obtain ⟨rfl,h2,h3,h4⟩:=hq
  exact ⟨.inl ⟨.bool true,.bool true,[],rfl,fun _=>rfl,.bool true,post_true l _,fun _=>⟨List.Pairwise.nil,fun _ hm=>(nomatch hm)⟩⟩,h2,h3,h4⟩
end Att
namespace L2
open PySem PySem.Spec PyProof.Rows
theorem vals_ints:∀{vs:List Value} {ns:List Int},IntsAre vs ns→Vals (ns.map V.int) vs
  | _,_,.nil=>.nil
  | _,_,.cons n t h=>.cons ⟨t,rfl⟩ (vals_ints h)
def inClass (s:Stmt) (j:Nat):Stmt:=match s with
  | .ClassDef _ _ _ body _ _ _ _ _ _ _=>body.getD j (.Pass ⟨0,0,0,0⟩)
  | _=>.Pass ⟨0,0,0,0⟩
def defArgs (s:Stmt):Arguments:=match s with
  | .FunctionDef _ a _ _ _ _ _ _ _ _=>a
  | _=>{posonlyargs:=[],args:=[],vararg:=none,kwonlyargs:=[],kw_defaults:=[],kwarg:=none,defaults:=[]}
def defBody (s:Stmt):List Stmt:=match s with
  | .FunctionDef _ _ b _ _ _ _ _ _ _=>b
  | _=>[]
def defScope (s:Stmt):Scope:=match s with
  | .FunctionDef _ _ _ _ _ _ sc _ _ _=>sc
  | _=>{kind:=.function,names:=[],isGenerator:=false,isCoroutine:=false}
abbrev CX0:CXT:=fun _ _ _ _ _ _=>False
abbrev E0:XK:=fun _ _ _=>False
theorem pass0 {X:Cx}:Passes CX0 X E0:=fun _ _ _ _ _ _ _ h=>h.elim
structure Fun (K:PySem.W.Frag) (x qual:Str) (st:Stmt) (f:Addr) (fd:FuncData):Prop where
  ex:∃(oc:Value) (od:Option Addr) (kV doc pm:Value) (an:Option Addr) (cdv ct:Value) (osl:Array (Option Value)),
    fd=PySem.W.fnOf x qual (defArgs st) (defBody st) (defScope st) .none kV doc pm an cdv ct∧K.lookup f=some ⟨oc,od,.func fd,osl⟩∧PySem.W.codeIn K cdv qual=true
  kp:PySem.W.keepIn K (.ref f)=true
section
variable {P:Program} {w:World} {K:PySem.W.Frag} {mg:Str→Option Value} {base:Heap}
theorem Fun.ok {x qual:Str} {st:Stmt} {f:Addr} {fd:FuncData} {N ps:List Str} {k:Nat} {sp:Sp} (F:Fun K x qual st f fd) (S:FnScope N ps (defScope st)) (len:∀vs H Q E,sp vs H Q E→vs.length=ps.length)
    (hbody:∀(cdv:Value) (A:Around) (outer:List Env) (s:Shared) (H:Hp) (vs:List V) (Q:VK) (E:XK),Room k (A.deeper (envOfC qual (defScope st) s.heap.objs.size f cdv))→sp vs H Q E→
      ∃t,PSs (cxOf CX0 P w K mg base N qual (defScope st) f cdv A outer s H E).nox (defBody st) t∧t {nx:=fun _ H'=>Q .non H',rt:=Q} (start N vs) H):FnOk P w K mg base CX0 (k+1) f fd ps sp:=by
  obtain ⟨oc,od,kV,doc,pm,an,cdv,ct,osl,rfl,lk,hcd⟩:=F.ex
  refine fn_of lk hcd S len fun A outer s H vs Q E hr hsp=>?_
  obtain ⟨t,h,q⟩:=hbody cdv A outer s H vs Q E hr hsp
  exact ⟨t,h.nox,q⟩
theorem Fun.binds {x qual:Str} {st:Stmt} {f:Addr} {fd:FuncData} {ps:List Str} (F:Fun K x qual st f fd)
    (h:∀(kV doc pm:Value) (an:Option Addr) (cdv ct:Value) (us:List Value),us.length=ps.length→bindArgs (PySem.W.fnOf x qual (defArgs st) (defBody st) (defScope st) .none kV doc pm an cdv ct) ⟨us,[]⟩=pure (ps.zip us)):Binds K fd ps []:=by
  obtain ⟨oc,od,kV,doc,pm,an,cdv,ct,osl,rfl,lk,hcd⟩:=F.ex
  exact .all (h kV doc pm an cdv ct)
theorem fun_mk {x qual:Str} {st:Stmt} {f:Addr} {oc:Value} {od an:Option Addr} {osl:Array (Option Value)} {kV doc pm cdv ct:Value} (l:K.lookup f=some ⟨oc,od,.func (PySem.W.fnOf x qual (defArgs st) (defBody st) (defScope st) .none kV doc pm an cdv ct),osl⟩)
    (c:PySem.W.codeIn K cdv qual=true) (k:PySem.W.keepIn K (.ref f)=true):Fun K x qual st f (PySem.W.fnOf x qual (defArgs st) (defBody st) (defScope st) .none kV doc pm an cdv ct):=⟨⟨oc,od,kV,doc,pm,an,cdv,ct,osl,rfl,l,c⟩,k⟩
end
theorem hu_of {A:Around} {k:Nat} (hr:Room k A):A.units+1<cLine:=Nat.lt_of_le_of_lt (Nat.add_le_add_left (by decide:1≤64) _) hr.units
section
variable {X:Cx}
theorem pv (i:Nat) {x:Str} {pos:Pos} (hN:X.N[i]? = some x:=by rfl) (hv:Vis X.env.scope x:=by first | exact Or.inl rfl | exact Or.inr (Or.inl rfl) | exact Or.inr (Or.inr rfl)) (hd:(x == ("__debug__" : Str))=false:=by decide)
    (hcd:(x == ("__classdict__" : Str))=false:=by decide):PE X (.Name x pos) (tVar i):=pe_var hN hv hd hcd
end
def Same (H H':Hp):Prop:=∀b o,H b=some o→H' b=some o
theorem Same.refl (H:Hp):Same H H:=fun _ _ h=>h
theorem Same.trans {H H1 H2:Hp} (a:Same H H1) (b:Same H1 H2):Same H H2:=fun c o h=>b c o (a c o h)
theorem Same.free {H H':Hp} (e:Same H H') {l:Addr} (h:H' l=Option.none):H l=Option.none:=by
  cases q:H l with
  | none=>rfl
  | some o=>
    rw [e l o q] at h
    cases h
def clStep (env:Env) (cs:List (Str×Addr)) (p:Str×NameKind):List (Str×Addr):=if p.2 == .free then (p.1,(env.cells.lookup p.1).getD 0)::cs else cs
def clOf (env:Env) (names:List (Str×NameKind)):List (Str×Addr):=names.foldl (clStep env) []
theorem forIn_foldl {α β:Type} (f:α→β→Sem (ForInStep β)) (g:β→α→β):∀(l:List α) (b:β),(∀x∈l,∀b,f x b=pure (.yield (g b x)))→forIn l b f=pure (l.foldl g b)
  | [],_,_=>rfl
  | x::l,b,h=>by
    rw [List.forIn_cons,h x List.mem_cons_self,pure_bind]
    exact forIn_foldl f g l (g b x) fun y hy=>h y (List.mem_cons_of_mem _ hy)
theorem closureFor_clOf {sc:Scope} {env:Env} (h:∀x,(x,NameKind.free)∈sc.names→∃c,env.cells.lookup x=some c):closureFor sc env=pure (clOf env sc.names):=by
  simp only [closureFor]
  rw [forIn_foldl _ (clStep env) sc.names [] (fun p hp cs=>by
    obtain ⟨n,k⟩:=p
    cases k with
    | free=>
      obtain ⟨c,hc⟩:=h n hp
      simp only [clStep,cellOf,hc,beq_self_eq_true,if_true,Option.getD_some,pure_bind]
    | _=>simp only [clStep];rfl)]
  rfl
theorem clOf_mem {env:Env}:∀(names:List (Str×NameKind)) (acc:List (Str×Addr)) (x:Str) (c:Addr),(∀x,(x,NameKind.free)∈names→∃c,env.cells.lookup x=some c)→(∀x c,(x,c)∈acc→env.cells.lookup x=some c)→
    (x,c)∈names.foldl (clStep env) acc→env.cells.lookup x=some c
  | [],_,x,c,_,h,m=>h x c m
  | (n,k)::r,acc,x,c,hf,h,m=>by
    refine clOf_mem r (clStep env acc (n,k)) x c (fun y hy=>hf y (List.mem_cons_of_mem _ hy)) (fun y d hy=>?_) m
    unfold clStep at hy
    split at hy
    · rename_i hk
      have hk':k = .free:=by simpa using hk
      subst hk'
      obtain ⟨e,he⟩:=hf n List.mem_cons_self
      rcases List.mem_cons.mp hy with z | z
      · cases z
        show env.cells.lookup n=some _
        rw [he];rfl
      ·exact h y d z
    ·exact h y d hy
theorem clOf_some {env:Env} {x:Str}:∀(names:List (Str×NameKind)) (acc:List (Str×Addr)),((x,NameKind.free)∈names∨(acc.lookup x).isSome=true)→((names.foldl (clStep env) acc).lookup x).isSome=true
  | [],_,h=>h.elim (fun z=>nomatch z) id
  | (n,k)::r,acc,h=>by
    refine clOf_some r (clStep env acc (n,k)) ?_
    by_cases hm:(x,NameKind.free)∈r
    ·exact .inl hm
    · refine .inr ?_
      unfold clStep
      rcases h with h | h
      · rcases List.mem_cons.mp h with z | z
        · cases z
          simp [List.lookup_cons]
        ·exact absurd z hm
      · split
        · simp only [List.lookup_cons]
          cases x == n <;> simp [h]
        ·exact h
def cellsC (env:Env) (sc:Scope) (C:Addr):List (Str×Addr):=cellsFrom (C+1) sc.names (clOf env sc.names)
theorem cellsFrom_mem {x:Str}:∀(names:List (Str×NameKind)) (n:Nat) (acc:List (Str×Addr)),(x,NameKind.cell)∈names∨(acc.lookup x).isSome=true→((cellsFrom n names acc).lookup x).isSome=true
  | [],_,_,h=>h.elim (fun z=>nomatch z) id
  | (y,k)::r,n,acc,h=>by
    unfold cellsFrom
    split
    · refine cellsFrom_mem r (n+1) ((y,n)::acc) ?_
      by_cases hm:(x,NameKind.cell)∈r
      ·exact .inl hm
      · refine .inr ?_
        rcases h with h | h
        · rcases List.mem_cons.mp h with z | z
          · cases z
            simp [List.lookup_cons]
          ·exact absurd z hm
        · simp only [List.lookup_cons]
          cases x == y <;> simp [h]
    · rename_i hk
      refine cellsFrom_mem r n acc ?_
      rcases h with h | h
      · rcases List.mem_cons.mp h with z | z
        ·cases z;exact absurd rfl hk
        ·exact .inl z
      ·exact .inr h
theorem cf_mem:∀(names:List (Str×NameKind)) (h:Heap) (acc:List (Str×Addr)) (x:Str) (c:Addr),(x,c)∈cellsFrom h.objs.size names acc→(x,c)∈acc∨(h.objs.size≤c∧(pushCells h names).IsCell c none)
  | [],_,_,_,_,m=>.inl m
  | (n,k)::r,h,acc,x,c,m=>by
    unfold cellsFrom at m
    unfold pushCells
    split at m
    · rename_i hk
      rw [if_pos hk]
      have m':(x,c)∈cellsFrom (h.push {cls:=.type "cell",data:=.cell none}).objs.size r ((n,h.objs.size)::acc):=by rw [Heap.size_push];exact m
      rcases cf_mem r (h.push {cls:=.type "cell",data:=.cell none}) _ x c m' with z | ⟨z1,z2⟩
      · rcases List.mem_cons.mp z with e | e
        · cases e
          exact .inr ⟨Nat.le_refl _,⟨_,pushCells_keeps _ _ _ _ (Heap.get?_push_size _ rfl),rfl⟩⟩
        ·exact .inl e
      · rw [Heap.size_push] at z1
        exact .inr ⟨by omega,z2⟩
    · rename_i hk
      rw [if_neg hk]
      exact cf_mem r h acc x c m
theorem cf_own {n0:Nat} {x:Str}:∀(names:List (Str×NameKind)) (n:Nat) (acc:List (Str×Addr)) (c:Addr),((x,NameKind.cell)∈names∨∀d,acc.lookup x=some d→n0≤d)→n0≤n→(cellsFrom n names acc).lookup x=some c→n0≤c
  | [],_,_,c,h,_,e=>h.elim (fun z=>nomatch z) fun z=>z c e
  | (y,k)::r,n,acc,c,h,hn,e=>by
    unfold cellsFrom at e
    split at e
    · refine cf_own r (n+1) ((y,n)::acc) c ?_ (by omega) e
      by_cases hm:(x,NameKind.cell)∈r
      ·exact .inl hm
      · refine .inr fun d hd=>?_
        by_cases hxy:x=y
        · subst hxy
          have hnd:n=d:=by simpa [List.lookup_cons] using hd
          rw [← hnd]
          exact hn
        · have hb:(x == y)=false:=by simpa using hxy
          simp only [List.lookup_cons,hb] at hd
          rcases h with h | h
          · rcases List.mem_cons.mp h with z | z
            ·cases z;exact absurd rfl hxy
            ·exact absurd z hm
          ·exact h d hd
    · rename_i hk
      refine cf_own r n acc c ?_ hn e
      rcases h with h | h
      · rcases List.mem_cons.mp h with z | z
        ·cases z;exact absurd rfl hk
        ·exact .inl z
      ·exact .inr h
theorem cf_inj:∀(names:List (Str×NameKind)) (n:Nat) (acc:List (Str×Addr)),(∀y d,(y,d)∈acc→d<n)→(∀y z d,(y,d)∈acc→(z,d)∈acc→y=z)→
    ∀y z d,(y,d)∈cellsFrom n names acc→(z,d)∈cellsFrom n names acc→y=z
  | [],_,_,_,h=>h
  | (x,k)::r,n,acc,hl,h=>by
    unfold cellsFrom
    split
    · refine cf_inj r (n+1) ((x,n)::acc) (fun y d hm=>?_) fun y z d h1 h2=>?_
      · rcases List.mem_cons.mp hm with e | e
        ·cases e;exact Nat.lt_succ_self _
        ·exact Nat.lt_succ_of_lt (hl y d e)
      · rcases List.mem_cons.mp h1 with e1 | e1 <;> rcases List.mem_cons.mp h2 with e2 | e2
        ·cases e1;cases e2;rfl
        ·cases e1;exact absurd (hl z n e2) (Nat.lt_irrefl _)
        ·cases e2;exact absurd (hl y n e1) (Nat.lt_irrefl _)
        ·exact h y z d e1 e2
    ·exact cf_inj r n acc hl h
abbrev NoE:Value→Shared→Prop:=fun _ _=>False
theorem compLoop_go {prog:Program} {w:World} {A:Around} {R:Result→Shared→Prop} {s:Shared} {elt target iter:Expr} {ifs:List Expr} {scope:Scope} {pos:Pos} {it acc:Value} {env:Env} (I:Nat→Shared→Prop)
    (turn:∀n s,I n s→wpAny (model prog w) A (pyNext it) (fun r s₁=>match r with
      | none=>R (.ok .next) s₁
      | some v=>wpAny (model prog w) A (letOwnedTupleGo target it v) (fun _ s₂=>wpAny (model prog w) A (assign target env v) (fun _ s₃=>
          wpAny (model prog w) A (forIn ifs true fun c r=>if r=true then do let ok ← isTrue c env (eval c env);pure (ForInStep.yield ok) else pure (ForInStep.yield r)) (fun ok s₄=>
            if ok=true then wpAny (model prog w) A (eval elt env) (fun x s₅=>
              wpAny (model prog w) A (call (.builtin "list.append") [acc,x]) (fun _ s₆=>∃m,m<n∧I m s₆) NoE s₅) NoE s₄
            else ∃m,m<n∧I m s₄) NoE s₃) NoE s₂) NoE s₁) NoE s)
    (n:Nat) (h:I n s):codeAny (model prog w) A (.compLoop (.ListComp elt [⟨target,iter,ifs,0⟩] scope pos) 0 it acc env) R s:=by
  refine codeAny_loop rfl I (fun n s hI=>?_) n h
  show wpAny _ A ((compTurn (.ListComp elt [⟨target,iter,ifs,0⟩] scope pos) 0 it acc env).onRaise (fun x=>do noteFrame x env;theTreesLotGoes x)) _ _ s
  refine wpAny_noted ?_
  rw [compTurn_list]
  refine wpAny_bind (wpAny_standAt (wpAny_bind (wpAny_mono (turn n s hI) (fun r s₁ h₁=>?_) fun _ _ h'=>h'.elim)))
  cases r with
  | none=>exact wpAny_pure h₁
  | some v=>
    refine wpAny_bind (wpAny_mono h₁ (fun _ s₂ h₂=>?_) fun _ _ h'=>h'.elim)
    refine wpAny_bind (wpAny_mono h₂ (fun _ s₃ h₃=>wpAny_bind (wpAny_mono h₃ (fun ok s₄ h₄=>?_) fun _ _ h'=>h'.elim)) fun _ _ h'=>h'.elim)
    cases ok with
    | false=>exact wpAny_pure ⟨rfl,h₄⟩
    | true=>
      exact wpAny_bind (wpAny_bind (wpAny_mono h₄ (fun x s₅ h₅=>wpAny_bind (wpAny_mono h₅ (fun _ s₆ h₆=>wpAny_pure (wpAny_pure ⟨rfl,h₆⟩)) fun _ _ h'=>h'.elim)) fun _ _ h'=>h'.elim))
def cxComp (X:Cx) (sc:Scope) (N:List Str) (C:Addr) (s:Shared) (H:Hp) (fp:List Addr) (pn:List (Addr×Obj)):Cx:=
  {X with env:=compEnvC sc (cellsC X.env sc C) C X.env,N:=N,s₀:=s,H₀:=H,outer:=X.stack,ex:=fp,fn:=fun x=>sc.names.any fun p=>p.1 == x && p.2 == .cell,pn:=pn,xe:=NoE}
theorem relabel_lookup {sc:Scope} {env:Env} (x:Str):(relabel sc env).names.lookup x=(sc.names.lookup x).map fun k=>if (k == NameKind.free && env.scope.kind == .function && env.kindOf x == some .cell)=true then NameKind.cell else k:=by
  unfold relabel
  show List.lookup x (sc.names.map _)=_
  induction sc.names with
  | nil=>rfl
  | cons p r ih=>
    obtain ⟨n,k⟩:=p
    rw [List.map_cons]
    have e1:(if (k == NameKind.free && env.scope.kind == .function && env.kindOf n == some .cell)=true then (n,NameKind.cell) else (n,k))=(n,if (k == NameKind.free && env.scope.kind == .function && env.kindOf n == some .cell)=true then NameKind.cell else k):=by split <;> rfl
    show List.lookup x ((if (k == NameKind.free && env.scope.kind == .function && env.kindOf n == some .cell)=true then (n,NameKind.cell) else (n,k))::_)=_
    rw [e1]
    by_cases hx:x=n
    · subst hx
      simp only [List.lookup_cons,beq_self_eq_true,Option.map_some]
    · have hb:(x == n)=false:=by simpa using hx
      simp only [List.lookup_cons,hb]
      exact ih
structure CompScope (ps sc:Scope) (pN own:List Str) (caps:List Nat) (N:List Str):Prop where
  kind:sc.kind = .function
  uniq:∀p∈sc.names,sc.names.lookup p.1=some p.2
  nd:N.Nodup
  names:N=own++caps.map fun j=>pN.getD j ""
  free:∀p∈sc.names,p.2 = .free→ps.names.lookup p.1=some .cell∨ps.names.lookup p.1=some .free
  capF:∀j∈caps,j<pN.length∧sc.names.lookup (pN.getD j "")=some .free
def stC (own:List Str) (caps:List Nat) (σ:St):St:=own.map (fun _=>none)++caps.map fun j=>(σ[j]?).getD none
section
variable {X:Cx} {pins:List (Addr×Obj)} {σ:St} {H:Hp} {s:Shared} {ps sc:Scope} {own pN:List Str} {caps:List Nat} {N:List Str} {fp:List Addr}
theorem CompScope.cells (S:CompScope ps sc pN own caps N) (hps:X.env.scope=ps) (ok:X.Ok):∀x,(x,NameKind.free)∈sc.names→∃c,X.env.cells.lookup x=some c:=fun x hx=>by
  refine ok.has x ?_
  show X.env.scope.names.lookup x=_∨X.env.scope.names.lookup x=_
  rw [hps]
  exact S.free (x,.free) hx rfl
theorem cellsC_mem (hfr:∀x,(x,NameKind.free)∈sc.names→∃c,X.env.cells.lookup x=some c) {C:Addr} {x:Str} {c:Addr} {h:Heap} (hC:C+1=h.objs.size) (m:(x,c)∈cellsC X.env sc C):X.env.cells.lookup x=some c∨(h.objs.size≤c∧(pushCells h sc.names).IsCell c none):=by
  unfold cellsC at m
  rw [hC] at m
  rcases cf_mem sc.names h _ x c m with z | z
  ·exact .inl (clOf_mem sc.names [] x c hfr (fun _ _ z=>nomatch z) z)
  ·exact .inr z
theorem blockOk (I:Inv X pins σ H s) (hps:X.env.scope=ps) (S:CompScope ps sc pN own caps N) (hf:∀b∈fp,FpOk X pins H b) (ho:∀b∈fp,∃o,s.heap.get? b=some o∧∀v,o.data≠.cell v) :
    (cxComp X sc N s.heap.objs.size s H fp (X.pn++pins)).Ok where
  mod:=I.ok.mod
  kind:=S.kind
  glob:=I.ok.glob
  blt:=I.ok.blt
  above:=Nat.le_refl _
  inj:=fun x y c h1 h2=>by
    have cl:∀y d,(y,d)∈clOf X.env sc.names→X.env.cells.lookup y=some d:=fun y d m=>clOf_mem sc.names [] y d (S.cells hps I.ok) (fun _ _ z=>nomatch z) m
    refine cf_inj sc.names (s.heap.objs.size+1) (clOf X.env sc.names) (fun y d m=>?_) (fun y z d m1 m2=>I.ok.inj y z d (cl y d m1) (cl z d m2)) x y c (PySem.mem_of_lookup h1) (PySem.mem_of_lookup h2)
    obtain ⟨v,q⟩:=I.cell y d (cl y d m)
    exact Nat.lt_succ_of_lt q.lt
  has:=fun x hx=>by
    have hx1:(relabel sc X.env).names.lookup x=some .cell∨(relabel sc X.env).names.lookup x=some .free:=hx
    have hx':(x,NameKind.cell)∈sc.names∨(x,NameKind.free)∈sc.names:=by
      rw [relabel_lookup] at hx1
      cases e:sc.names.lookup x with
      | none=>rw [e] at hx1;simp at hx1
      | some k=>
        rw [e] at hx1
        have hm:=PySem.mem_of_lookup e
        cases k with
        | free=>exact .inr hm
        | cell=>exact .inl hm
        | _=>simp at hx1
    have q:((cellsFrom (s.heap.objs.size+1) sc.names (clOf X.env sc.names)).lookup x).isSome=true:=by
      rcases hx' with z | z
      ·exact cellsFrom_mem sc.names _ _ (.inl z)
      ·exact cellsFrom_mem sc.names _ _ (.inr (clOf_some sc.names [] (.inl z)))
    exact Option.isSome_iff_exists.mp q
  cab:=fun x c hx h=>by
    have hx':(x,NameKind.cell)∈sc.names:=by
      have hx:(sc.names.any fun p=>p.1 == x && p.2 == .cell)=true:=hx
      obtain ⟨⟨a,b⟩,hm,he⟩:=List.any_eq_true.mp hx
      simp at he
      obtain ⟨rfl,rfl⟩:=he
      exact hm
    exact cf_own (n0:=s.heap.objs.size) sc.names (s.heap.objs.size+1) (clOf X.env sc.names) c (.inl hx') (Nat.le_succ _) h
  hd:=I.ok.hd
  frames:=I.ok.frames
  stk:=.inl rfl
  exf:=fun b hb=>by
    obtain ⟨o,e,_⟩:=ho b hb
    refine ⟨Nat.ne_of_lt (Heap.lt_size e),fun x c h z=>?_⟩
    subst z
    rcases cellsC_mem (S.cells hps I.ok) (h:=s.heap.push {cls:=.type "dict",data:=.dict #[]}) (by rw [Heap.size_push]) (PySem.mem_of_lookup h) with q | ⟨q,_⟩
    ·exact (hf c hb).2.2.2.2.1 x c q rfl
    · rw [Heap.size_push] at q
      exact absurd (Nat.lt_of_lt_of_le (Nat.lt_of_lt_of_le (Heap.lt_size e) (Nat.le_succ _)) q) (Nat.lt_irrefl _)
  bs:=I.bs
  bsz:=Nat.le_trans I.ok.bsz I.sz
  noex:=fun b o e hb=>by
    rcases (hf b hb).2.2.2.1 with z | z
    ·exact I.ok.noex b o e z
    ·exact absurd (Nat.lt_of_lt_of_le (Heap.lt_size e) (Nat.le_trans I.ok.bsz z)) (Nat.lt_irrefl _)
  exfs:=fun b hb z=>by
    rcases List.mem_cons.mp (I.stkSub b z) with q | q
    ·exact (hf b hb).2.1 q
    ·exact (hf b hb).2.2.1 q
  funs:=I.stack
  frf:=I.stkFree
def blockAt (sc:Scope) (s:Shared):Shared:={s with heap:=pushCells (s.heap.push {cls:=.type "dict",data:=.dict #[]}) sc.names}
theorem blockInv (I:Inv X pins σ H s) (hps:X.env.scope=ps) (hpN:X.N=pN) (S:CompScope ps sc pN own caps N) (hf:∀b∈fp,FpOk X pins H b) (ho:∀b∈fp,∃o,s.heap.get? b=some o∧∀v,o.data≠.cell v) :
    Inv (cxComp X sc N s.heap.objs.size s H fp (X.pn++pins)) [] (stC own caps σ) H (blockAt sc s):=by
  have hk:∀b o,s.heap.get? b=some o→(blockAt sc s).heap.get? b=some o:=fun b o e=>pushCells_keeps _ _ b o (Heap.get?_push_of_some _ e)
  have hns:(blockAt sc s).heap.Ns s.heap.objs.size fun _=>none:=(Heap.Ns.new s.heap (.type "dict")).keeps (pushCells_keeps _ _)
  have hcl:∀x c,(cellsC X.env sc s.heap.objs.size).lookup x=some c→X.env.cells.lookup x=some c∨(s.heap.objs.size+1≤c∧(blockAt sc s).heap.IsCell c none):=fun x c e=>by
    rcases cellsC_mem (S.cells hps I.ok) (h:=s.heap.push {cls:=.type "dict",data:=.dict #[]}) (by rw [Heap.size_push]) (PySem.mem_of_lookup e) with q | ⟨q,r⟩
    ·exact .inl q
    · rw [Heap.size_push] at q
      exact .inr ⟨q,r⟩
  refine ⟨blockOk I hps S hf ho,rfl,I.bare,Un.kept hk,⟨_,hns,fun i x v e1 e2 e3=>?_⟩,fun x c e=>?_,I.hok.fresh (Nat.le_refl _),fun x c e=>?_,fun p hp=>?_,I.hok.kept hk,?_⟩
  · have e1':N[i]? = some x:=e1
    rw [S.names] at e1'
    unfold stC at e2
    by_cases hi:i<own.length
    · rw [List.getElem?_append_left (by simpa using hi),List.getElem?_map] at e2
      cases q:own[i]? with
      | none=>rw [q] at e2;cases e2
      | some y=>rw [q] at e2;cases e2
    · rw [List.getElem?_append_right (by omega),List.getElem?_map] at e1'
      rw [List.getElem?_append_right (by simp;omega),List.getElem?_map] at e2
      simp only [List.length_map] at e2
      cases q:caps[i - own.length]? with
      | none=>rw [q] at e2;cases e2
      | some j=>
        rw [q] at e1' e2
        have e1'':pN.getD j "" = x:=Option.some.inj e1'
        have e2':(σ[j]?).getD none=some v:=Option.some.inj e2
        have hj:σ[j]? = some (some v):=by
          cases z:σ[j]? with
          | none=>rw [z] at e2';cases e2'
          | some o=>rw [z] at e2';exact congrArg some e2'
        obtain ⟨hlt,hfree⟩:=S.capF j (List.mem_of_getElem? q)
        rw [e1''] at hfree
        have hNj:X.N[j]? = some x:=by
          rw [hpN,← e1'']
          simp [List.getD,List.getElem?_eq_getElem hlt]
        have hps':=S.free (x,.free) (PySem.mem_of_lookup hfree) rfl
        have vis:Vis X.env.scope x:=by rw [hps];exact .inr hps'
        obtain ⟨m,hn,hl⟩:=I.loc
        obtain ⟨u,r,l⟩:=hl j x v hNj hj vis
        refine ⟨u,r,.inr ?_⟩
        have hkind:(relabel sc X.env).names.lookup x=some .cell∨(relabel sc X.env).names.lookup x=some .free:=by
          rw [relabel_lookup,hfree]
          show some (if _ then _ else _)=_∨some (if _ then _ else _)=_
          split
          ·exact .inl rfl
          ·exact .inr rfl
        refine ⟨hkind,?_⟩
        have hcell:X.env.kindOf x=some .cell∨X.env.kindOf x=some .free:=by
          show X.env.scope.names.lookup x=_∨X.env.scope.names.lookup x=_
          rw [hps];exact hps'
        rcases l with ⟨hloc,_⟩ | ⟨_,c,hc,hcv⟩
        ·rcases hcell with z | z <;> (rw [hloc] at z;cases z)
        · have q2:((cellsC X.env sc s.heap.objs.size).lookup x).isSome=true:=cellsFrom_mem sc.names _ _ (.inr (clOf_some sc.names [] (.inl (PySem.mem_of_lookup hfree))))
          obtain ⟨d,hd⟩:=Option.isSome_iff_exists.mp q2
          refine ⟨d,hd,?_⟩
          rcases hcl x d hd with z | ⟨z,_⟩
          · rw [hc] at z;cases z
            exact hcv.keeps hk
          ·
            exfalso
            have hnc:(x,NameKind.cell)∉sc.names:=fun hm=>by
              have:=S.uniq _ hm
              rw [hfree] at this;cases this
            have hmem:=PySem.mem_of_lookup hd
            have hcl2:∀(names:List (Str×NameKind)) (n:Nat) (acc:List (Str×Addr)),(x,NameKind.cell)∉names→(cellsFrom n names acc).lookup x=acc.lookup x:=by
              intro names
              induction names with
              | nil=>intro _ _ _;rfl
              | cons p r ih=>
                intro n acc hm
                obtain ⟨y,k⟩:=p
                unfold cellsFrom
                split
                · rename_i hkk
                  have hkk':k = .cell:=by simpa using hkk
                  subst hkk'
                  rw [ih _ _ fun z=>hm (List.mem_cons_of_mem _ z)]
                  have hxy:(x == y)=false:=by
                    cases hb:x == y with
                    | false=>rfl
                    | true=>exact absurd (by rw [beq_iff_eq.mp hb];exact List.mem_cons_self) hm
                  simp only [List.lookup_cons,hxy]
                ·exact ih _ _ fun z=>hm (List.mem_cons_of_mem _ z)
            have e5:(clOf X.env sc.names).lookup x=some d:=(hcl2 sc.names _ _ hnc).symm.trans hd
            have e6:=clOf_mem sc.names [] x d (S.cells hps I.ok) (fun _ _ z=>nomatch z) (PySem.mem_of_lookup e5)
            rw [hc] at e6;cases e6
            exact absurd (Nat.lt_of_lt_of_le (Nat.lt_of_lt_of_le hcv.lt (Nat.le_succ _)) z) (Nat.lt_irrefl _)
  · rcases hcl x c e with z | ⟨_,z⟩
    · obtain ⟨v,q⟩:=I.cell x c z
      exact ⟨v,q.keeps hk⟩
    ·exact ⟨_,z⟩
  · rcases hcl x c e with z | ⟨z,_⟩
    ·exact I.freeC x c z
    ·exact I.hok.fresh (by omega)
  · rw [List.append_nil] at hp
    obtain ⟨e,n,ne,nf,d⟩:=I.pin p hp
    refine ⟨hk _ _ e,n,Nat.ne_of_lt (Heap.lt_size e),fun z=>?_,d⟩
    rcases List.mem_cons.mp (I.stkSub p.1 z) with q | q
    ·exact ne q
    ·exact nf q
  · show (stC own caps σ).length=N.length
    rw [S.names]
    simp [stC]
theorem blockBack (I:Inv X pins σ H s) (hf:∀b∈fp,FpOk X pins H b) {C:Addr} {pn:List (Addr×Obj)} {pins':List (Addr×Obj)} {σ':St} {H':Hp} {s':Shared} (I':Inv (cxComp X sc N C s H fp pn) pins' σ' H' s'):Inv X pins σ H' s':=
  I.call' (ch:=fp) I'.os I'.base I'.hok I'.bare fun b hb=>⟨(hf b hb).2.2.2.1,(hf b hb).2.1,(hf b hb).2.2.2.2.1,(hf b hb).2.2.2.2.2⟩
end
def PTs (X:Cx) (ifs:List Expr) (t:TT):Prop:=
  ∀(pins:List (Addr×Obj)) (s:Shared) (σ:St) (H:Hp) (Q:Bool→Hp→Prop),Inv X pins σ H s→t σ H Q→
    wpAny (model X.prog X.w) X.A (forIn ifs true fun c r=>if r=true then do let ok ← isTrue c X.env (eval c X.env);pure (ForInStep.yield ok) else pure (ForInStep.yield r)) (TP X pins σ Q) X.xe s
def tYes:TT:=fun _ H Q=>Q true H
theorem pts_nil {X:Cx}:PTs X [] tYes:=fun _ _ _ H _ I h=>wpAny_tests_nil ⟨H,I,h⟩
theorem pts_one {X:Cx} {c:Expr} {t:TT} (h:PT X c t):PTs X [c] t:=fun pins s σ H Q I hw=>wpAny_tests_one (h pins s σ H Q I hw)
def tCompAt (own:List Str) (caps:List Nat) (J:It) (g:TG) (tt:TT) (te:TE) (D:Addr) (σ:St) (H:Hp) (Q:Hp→Prop):Prop:=
  ∃W:Nat→Nat→St→Hp→Prop,(∃m,W 0 m (stC own caps σ) H)∧∀i m σ' H',W i m σ' H'→
    (J.stop i H'∧Q H')∨(J.go i H'∧∃N:St→Hp→Prop,(∀σ2 H2,N σ2 H2→∃m',m'<m∧W (i+1) m' σ2 H2)∧∀x H2,J.yld i H' x H2→g x σ' H2 fun σ2 H3=>tt σ2 H3 fun b H4=>
      if b=true then te σ2 H4 fun y H5=>∃ys,H5 D=some (.lst ys)∧ys.length<sizeLine∧N σ2 (upd H5 D (.lst (ys++[y]))) else N σ2 H4)
def tComp (own:List Str) (caps:List Nat) (wi:TI) (g:TG) (tt:TT) (te:TE):TE:=fun σ H Q=>wi σ H fun J H1=>∀D,H1 D=none→tCompAt own caps J g tt te D σ (upd H1 D (.lst [])) (Q (.ref D))
theorem newEnv_block {M:Model} {A:Around} {E:Value→Shared→Prop} {s:Shared} {sc:Scope} {g:Addr} {cl:List (Str×Addr)} {qual:Str} {env:Env} {Q:Env→Shared→Prop}
    (h:Q (newEnv sc s.heap.objs.size g (cellsFrom (s.heap.objs.size+1) sc.names cl) qual none .none (some env) builtinsNs) (blockAt sc s)):wpAny M A (newFunctionEnv sc g cl [] qual none .none (some env)) Q E s:=by
  simp only [newFunctionEnv,Option.isSome_some,if_true]
  refine wpAny_bind (wpAny_alloc ?_)
  refine wpAny_bind (wpAny_layCells _ (fun name kind cells=>by cases hkc:kind == NameKind.cell <;> simp [hkc]) _ _ _ _ ?_)
  rw [show ({s with heap:=s.heap.push {cls:=.type "dict",data:=.dict #[]}}:Shared).heap.objs.size=s.heap.objs.size+1 from Heap.size_push ..]
  rw [List.forIn_nil]
  exact wpAny_bind (wpAny_pure (wpAny_pure h))
def BlockEnd (X:Cx) (pins:List (Addr×Obj)) (σ:St) (Q:Hp→Prop) (C:Addr) (r:Result) (s':Shared):Prop:=
  ∃H',r = .ok .next∧Inv X pins σ H' s'∧(∃m,s'.heap.Ns C m)∧FpOk X pins H' C∧Q H'
section
variable {X:Cx} {ps sc:Scope} {own pN:List Str} {caps:List Nat} {N:List Str}
theorem comp_block {pins:List (Addr×Obj)} {σ:St} {H:Hp} {s:Shared} {E:Value→Shared→Prop} {elt tg iter:Expr} {ifs:List Expr} {pos:Pos} {J:It} {fp:List Addr} {it D:Addr} {tn:Nat→Heap→Prop} {g:TG} {tt:TT} {te:TE} {Q:Hp→Prop}
    (I:Inv X pins σ H s) (hps:X.env.scope=ps) (hpN:X.N=pN) (S:CompScope ps sc pN own caps N) (T:Turn X.prog X.w X.K tg J fp it tn) (st:tn 0 s.heap) (hf:∀b∈fp,FpOk X pins H b) (hc:X.calm=true)
    (hg:∀C s H fp pn,PG (cxComp X sc N C s H fp pn) tg g) (ht:∀C s H fp pn,PTs (cxComp X sc N C s H fp pn) ifs tt) (he:∀C s H fp pn,PE (cxComp X sc N C s H fp pn) elt te)
    (h:tCompAt own caps J g tt te D σ H Q) :
    wpAny (model X.prog X.w) X.A (newFunctionEnv sc X.env.globals (clOf X.env sc.names) [] X.env.qual none .none (some X.env)) (fun cenv s4=>
      codeAny (model X.prog X.w) X.A (.compStart (.ListComp elt [⟨tg,iter,ifs,0⟩] sc pos) 0 (.ref it) (.ref D) {cenv with scope:=relabel sc X.env}) (BlockEnd X pins σ Q cenv.locals) s4) E s:=by
  obtain ⟨W,⟨m0,w0⟩,turn⟩:=h
  refine newEnv_block ?_
  have ho:=T.obj 0 _ st
  have I0:=blockInv I hps hpN S hf ho
  have ok':=blockOk I hps S hf ho
  have hk:∀b o,s.heap.get? b=some o→(blockAt sc s).heap.get? b=some o:=fun b o e=>pushCells_keeps _ _ b o (Heap.get?_push_of_some _ e)
  have st0:tn 0 (blockAt sc s).heap:=T.keep 0 _ _ st fun b _ o e=>hk b o e
  have stat:∀{H':Hp},(∀b∈fp,H' b=none)→∀b∈fp,FpOk (cxComp X sc N s.heap.objs.size s H fp (X.pn++pins)) [] H' b:=fun hn b hb=>
    ⟨hn b hb,(ok'.exf b hb).1,ok'.exfs b hb,.inl hb,(ok'.exf b hb).2,fun p hp=>(hf b hb).2.2.2.2.2 p (by rw [List.append_nil] at hp;exact hp)⟩
  have loop:codeAny (model X.prog X.w) X.A (.compLoop (.ListComp elt [⟨tg,iter,ifs,0⟩] sc pos) 0 (.ref it) (.ref D) (cxComp X sc N s.heap.objs.size s H fp (X.pn++pins)).env) (BlockEnd X pins σ Q s.heap.objs.size) (blockAt sc s):=by
    refine compLoop_go (fun n s'=>∃i σ' H',Inv (cxComp X sc N s.heap.objs.size s H fp (X.pn++pins)) [] σ' H' s'∧tn i s'.heap∧(∀b∈fp,H' b=none)∧W i n σ' H') ?_ m0 ⟨0,_,H,I0,st0,fun b hb=>(hf b hb).1,w0⟩
    rintro n s3 ⟨i,σ3,H3,I3,st3,fr3,w3⟩
    rcases turn i n σ3 H3 w3 with ⟨stop,qn⟩ | ⟨go,N',hN,step⟩
    · refine thn (T.done (cxComp X sc N s.heap.objs.size s H fp (X.pn++pins)) rfl rfl rfl hc i [] s3 σ3 H3 NoE I3 (stat fr3) st3 stop) fun r s4 zz=>?_
      obtain ⟨hr,I4⟩:=zz
      subst hr
      obtain ⟨m,hn,_⟩:=I4.loc
      exact ⟨H3,rfl,blockBack I hf I4,⟨m,hn⟩,I.fpOk (Nat.le_refl _) I4.free,qn⟩
    · refine thn (T.item (cxComp X sc N s.heap.objs.size s H fp (X.pn++pins)) rfl rfl rfl hc i [] s3 σ3 H3 NoE I3 (stat fr3) st3 go) fun r s4 zz=>?_
      obtain ⟨u,hr,h4⟩:=zz
      subst hr
      refine thn h4 fun _ s5 zz=>?_
      obtain ⟨x,H5,I5,r5,y5,st5,fr5⟩:=zz
      have I5':=I5.pinned (stat fr5) (T.obj _ _ st5)
      refine thn (hg _ _ _ _ _ _ s5 σ3 H5 x u _ I5' r5 (step x H5 y5)) fun _ s6 zz=>?_
      obtain ⟨σ6,H6,I6,q6⟩:=zz
      refine thn (ht _ _ _ _ _ _ s6 σ6 H6 _ I6 q6) fun b s7 zz=>?_
      obtain ⟨H7,I7,q7⟩:=zz
      have again:∀{σ8:St} {H8:Hp} {s8:Shared},Inv (cxComp X sc N s.heap.objs.size s H fp (X.pn++pins)) ([]++pinsAt fp s5.heap) σ8 H8 s8→N' σ8 H8→
          ∃m,m<n∧∃i σ' H',Inv (cxComp X sc N s.heap.objs.size s H fp (X.pn++pins)) [] σ' H' s8∧tn i s8.heap∧(∀b∈fp,H' b=none)∧W i m σ' H':=fun {σ8 H8 s8} I8 n8=>by
        obtain ⟨m',hm,w8⟩:=hN σ8 H8 n8
        refine ⟨m',hm,i+1,σ8,H8,I8.unpinned,T.keep _ _ _ st5 fun b hb o e=>(I8.pin (b,o) (List.mem_append_right _ (List.mem_append_right _ (mem_pinsAt hb e)))).1,fun b hb=>?_,w8⟩
        obtain ⟨o,e,d⟩:=T.obj _ _ st5 b hb
        exact (I8.pin (b,o) (List.mem_append_right _ (List.mem_append_right _ (mem_pinsAt hb e)))).2.1
      cases b with
      | false=>
        rw [if_neg Bool.false_ne_true] at q7 ⊢
        exact again I7 q7
      | true=>
        rw [if_pos rfl] at q7 ⊢
        refine thn (he _ _ _ _ _ _ s7 σ6 H7 _ I7 q7) fun v s8 zz=>?_
        obtain ⟨y,H8,I8,r8,ys,hD,hz,n8⟩:=zz
        refine thn (mt_append (X:=cxComp X sc N s.heap.objs.size s H fp (X.pn++pins)) _ s8 σ6 H8 (.ref D) [y] (.ref D) [v] (fun _ H9=>N' σ6 H9) I8 rfl (.cons r8 .nil) ⟨D,ys,y,rfl,rfl,hD,hz,n8⟩) fun _ s9 zz=>?_
        obtain ⟨_,H9,I9,_,n9⟩:=zz
        exact again I9 n9
  exact codeAny_compStart_list loop (T.self X.A 0 _ _ _ st0 loop)
variable {elt tg iter:Expr} {ifs:List Expr} {pos:Pos} {wi:TI} {g:TG} {tt:TT} {te:TE}
theorem CompScope.locs (S:CompScope ps sc pN own caps N):∀x∈sc.names,x.2 = .local→sc.names.lookup x.1=some .local:=fun x hx e=>by rw [← e];exact S.uniq x hx
theorem pe_comp (hps:X.env.scope=ps) (hpN:X.N=pN) (S:CompScope ps sc pN own caps N) (hc:X.calm=true) (hi:PI X tg iter wi)
    (hg:∀C s H fp pn,PG (cxComp X sc N C s H fp pn) tg g) (ht:∀C s H fp pn,PTs (cxComp X sc N C s H fp pn) ifs tt) (he:∀C s H fp pn,PE (cxComp X sc N C s H fp pn) elt te)
    (hs:∀x,foldedSetIterable iter X.env x=pure x:=by intro _;rfl):PE X (.ListComp elt [⟨tg,iter,ifs,0⟩] sc pos) (tComp own caps wi g tt te):=by
  intro pins s σ H Q I h
  rw [eval_ListComp]
  refine wpAny_comprehension_free (use:=none) rfl hs (closureFor_clOf (S.cells hps I.ok)) S.kind S.locs (thn (hi pins s σ H _ I h) fun v s1 h1=>thn h1 fun itv s2 h2=>?_)
  obtain ⟨it,fp,tn,J,H2,e,I2,T,st2,f2,q⟩:=h2
  subst e
  have fr:H2 s2.heap.objs.size=none:=I2.fresh
  refine wpAny_newObj_type ?_
  have I3:Inv X pins σ (upd H2 s2.heap.objs.size (.lst [])) {s2 with heap:=s2.heap.push {cls:=.type "list",data:=.seq ([]:List Value).toArray},toks:=s2.toks}:=I2.lnew (its:=[]) (ys:=[]) .nil (Nat.zero_le _)
  have f3:∀b∈fp,FpOk X pins (upd H2 s2.heap.objs.size (.lst [])) b:=fun b hb=>by
    obtain ⟨o,e,_⟩:=T.obj 0 _ st2 b hb
    exact ⟨by rw [upd_ne (Nat.ne_of_lt (Heap.lt_size e))];exact (f2 b hb).1,(f2 b hb).2⟩
  refine thn (comp_block (iter:=iter) (pos:=pos) I3 hps hpN S T (T.keep 0 _ _ st2 fun b _ o e=>Heap.get?_push_of_some _ e) f3 hc hg ht he (q _ fr)) fun cenv s4 h4=>?_
  refine codeAny_mono h4 fun r s5 ⟨H5,hr,I5,⟨m,hn⟩,f5,q5⟩=>?_
  subst hr
  refine ⟨m,hn,fun h' hs'=>?_⟩
  have I6:Inv X pins σ H5 {s5 with heap:=h',toks:=s5.toks}:=I5.turned (it:=cenv.locals) (fun b o hb e=>(hs'.2 b hb).trans e) f5.1 f5.2.1 f5.2.2.2.1 f5.2.2.2.2.1 f5.2.2.2.2.2
  exact ⟨.ref s2.heap.objs.size,H5,I6,rfl,q5⟩
theorem ps_setComp {i:Nat} {y:Str} {py spos:Pos} (hN:X.N.Nodup) (hy:X.N[i]? = some y) (hl:X.env.scope.names.lookup y=some .local) (hps:X.env.scope=ps) (hpN:X.N=pN) (S:CompScope ps sc pN own caps N) (hc:X.calm=true) (hi:PI X tg iter wi)
    (hg:∀C s H fp pn,PG (cxComp X sc N C s H fp pn) tg g) (ht:∀C s H fp pn,PTs (cxComp X sc N C s H fp pn) ifs tt) (he:∀C s H fp pn,PE (cxComp X sc N C s H fp pn) elt te)
    (hsw:swapsWith (.ListComp elt [⟨tg,iter,ifs,0⟩] sc pos) (some (.Name y py)) spos.line X.env=pure true:=by rfl)
    (hs:∀x,foldedSetIterable iter X.env x=pure x:=by intro _;rfl):PS X (.Assign [.Name y py] (.ListComp elt [⟨tg,iter,ifs,0⟩] sc pos) spos) (tAsg (tComp own caps wi g tt te) (gName i)):=by
  intro pins s σ H D0 I h
  rw [exec_Assign_Name_used _ _ _ _ hsw]
  refine wpAny_bind (wpAny_standAt (wpAny_bind ?_))
  show wpAny _ X.A (do let _ ← comprehension (.ListComp elt [⟨tg,iter,ifs,0⟩] sc pos) sc X.env _ (newList []) false (eval iter X.env) (some (assign (.Name y py) X.env))) _ _ s
  refine wpAny_bind (wpAny_mono (wpAny_comprehension_free (use:=some (assign (.Name y py) X.env)) (Q:=fun _ s'=>SP X pins D0 .next s') rfl hs (closureFor_clOf (S.cells hps I.ok)) S.kind S.locs
    (thn (hi pins s σ H _ I h) fun v s1 h1=>thn h1 fun itv s2 h2=>?_)) (fun _ s' hq=>wpAny_pure (wpAny_pure hq)) fun _ _ e=>e)
  obtain ⟨it,fp,tn,J,H2,e,I2,T,st2,f2,q⟩:=h2
  subst e
  have fr:H2 s2.heap.objs.size=none:=I2.fresh
  refine wpAny_newObj_type ?_
  have I3:Inv X pins σ (upd H2 s2.heap.objs.size (.lst [])) {s2 with heap:=s2.heap.push {cls:=.type "list",data:=.seq ([]:List Value).toArray},toks:=s2.toks}:=I2.lnew (its:=[]) (ys:=[]) .nil (Nat.zero_le _)
  have f3:∀b∈fp,FpOk X pins (upd H2 s2.heap.objs.size (.lst [])) b:=fun b hb=>by
    obtain ⟨o,e,_⟩:=T.obj 0 _ st2 b hb
    exact ⟨by rw [upd_ne (Nat.ne_of_lt (Heap.lt_size e))];exact (f2 b hb).1,(f2 b hb).2⟩
  refine thn (comp_block (iter:=iter) (pos:=pos) I3 hps hpN S T (T.keep 0 _ _ st2 fun b _ o e=>Heap.get?_push_of_some _ e) f3 hc hg ht he (q _ fr)) fun cenv s4 h4=>?_
  refine codeAny_mono h4 fun r s5 ⟨H5,hr,I5,⟨m,hn⟩,f5,q5⟩=>?_
  subst hr
  show wpAny _ X.A (assign (.Name y py) X.env (.ref s2.heap.objs.size)) _ _ _
  refine wpAny_assign_Name (store_ok2 I5 hN hy (.inl hl) (v:=.ref s2.heap.objs.size) rfl (fun s6 I6 hsb=>?_) (.inr hl))
  obtain ⟨a,sb,ha⟩:=hsb
  have hne:cenv.locals≠a:=by
    rcases ha with z | z
    ·rw [z];exact f5.2.1
    ·exact fun e=>f5.2.2.2.2.1 y a z e.symm
  refine ⟨m,hn.sameBut sb hne,fun h' hs'=>?_⟩
  have I7:Inv X pins (σ.set i (some (.ref s2.heap.objs.size))) H5 {s6 with heap:=h',toks:=s6.toks}:=I6.turned (it:=cenv.locals) (fun b o hb e=>(hs'.2 b hb).trans e) f5.1 f5.2.1 f5.2.2.2.1 f5.2.2.2.2.1 f5.2.2.2.2.2
  exact ⟨_,H5,I7,q5⟩
end
section
variable {X:Cx} {pins:List (Addr×Obj)} {σ:St} {H:Hp} {s:Shared} {h':Heap}
theorem Inv.turnedL {t':Nat} {ch:List Addr} (I:Inv X pins σ H s) (k:∀b o,b∉ch→s.heap.get? b=some o→h'.get? b=some o) (hf:∀b∈ch,FpOk X pins H b):Inv X pins σ H {s with heap:=h',toks:=t'}:=by
  refine I.step (g':=s.gens) (d':=s.drawn) (ch:=ch) (fun b hb=>⟨(hf b hb).2.2.2.1,(hf b hb).2.1,(hf b hb).2.2.2.2.1,(hf b hb).2.2.2.2.2⟩) (fun b o _ _ hc e _=>k b o hc e) (fun b o _ _ hc e _=>⟨o.slots,k b o hc e⟩) (fun _ _ _ _ n=>n)
    (fun b o hc e=>⟨o,k b o hc e⟩) (fun _ _ e=>e) (fun _ _ _ e=>e) (fun b ps e=>⟨#[],by rw [e];simp⟩) (fun m hm=>?_) (fun b u e=>?_) I.bare
  · obtain ⟨o,es,ep,ho,r⟩:=hm
    exact ⟨o,es,ep,k _ o (fun z=>(hf _ z).2.1 rfl) ho,r⟩
  · refine (I.hok b u e).stay (fun c v hc q=>k c v (fun z=>?_) q) (fun _ q=>q) fun _ _ q=>q
    have hn:=(hf c z).1
    rcases hc with y | y
    ·rw [y,e] at hn;cases hn
    ·rw [y] at hn;cases hn
end
def Its (x:Str):It:=⟨fun i _=>i<x.cps.size,fun i H v H'=>H'=H∧∃c,x.cps[i]? = some c∧v = .str ⟨#[c]⟩,fun i _=>x.cps.size≤i⟩
theorem turn_str {P:Program} {w:World} {K:PySem.W.Frag} {tg:Expr} (x:Str) (t:Tok) (it:Addr):Turn P w K tg (Its x) [it] it (fun i h=>h.IsStrIter it (strIterType x) x t i) where
  mem:=by simp
  obj:=fun i h st b hb=>by
    have e:b=it:=by simpa using hb
    subst e
    obtain ⟨o,e,c,d⟩:=st
    exact ⟨o,e,fun v z=>by rw [d] at z;cases z⟩
  keep:=fun i h h' st k=>by
    obtain ⟨o,e,c,d⟩:=st
    exact ⟨o,k it (by simp) o e,c,d⟩
  item:=by
    intro X hP hw hK hc i pins s σ H E I hf st hg
    subst hP hw hK
    obtain ⟨f0,f1,f2,f3,f4,f5⟩:=hf it (by simp)
    have hx:x.cps[i]? = some (x.cps[i]'hg):=Array.getElem?_eq_getElem hg
    have fin:∀h',h'.IsStrIter it (strIterType x) x t (i+1)→Heap.SameBut it s.heap h'→∃u,(some (Value.str ⟨#[x.cps[i]'hg]⟩ s.toks))=some u∧
        wpAny (model X.prog X.w) X.A (letOwnedTupleGo tg (.ref it) u) (fun _ s2=>∃y H',Inv X pins σ H' s2∧RelV y u∧(Its x).yld i H y H'∧s2.heap.IsStrIter it (strIterType x) x t (i+1)∧∀b∈[it],H' b=none) E {s with heap:=h',toks:=s.toks+1}:=fun h' st' sb=>by
      have I1:Inv X pins σ H {s with heap:=h',toks:=s.toks+1}:=I.turned (fun b o hb e=>(sb.2 b hb).trans e) f0 f1 f3 f4 f5
      refine ⟨_,rfl,?_⟩
      have res:∃y H',Inv X pins σ H' {s with heap:=h',toks:=s.toks+1}∧RelV y (Value.str ⟨#[x.cps[i]'hg]⟩ s.toks)∧(Its x).yld i H y H'∧h'.IsStrIter it (strIterType x) x t (i+1)∧∀b∈[it],H' b=none:=
        ⟨.str ⟨#[x.cps[i]'hg]⟩,H,I1,⟨_,rfl⟩,⟨rfl,_,hx,rfl⟩,st',fun b hb=>(hf b hb).1⟩
      unfold letOwnedTupleGo
      cases tg <;> exact wpAny_pure res
    by_cases ha:x.cps.all (· < 128)=true
    · have ey:strIterType x = "str_ascii_iterator" :=by unfold strIterType;rw [if_pos ha]
      rw [ey] at st
      exact wpAny_pyNext_ascii_item st hx fun h' st' sb=>fin h' (by rw [ey];exact st') sb
    · have ey:strIterType x = "str_iterator" :=by unfold strIterType;rw [if_neg ha]
      rw [ey] at st
      exact wpAny_pyNext_wide_item st hx fun h' st' sb=>fin h' (by rw [ey];exact st') sb
  done:=by
    intro X hP hw hK hc i pins s σ H E I hf st hg
    subst hP hw hK
    obtain ⟨f0,f1,f2,f3,f4,f5⟩:=hf it (by simp)
    have hx:x.cps[i]? = none:=Array.getElem?_eq_none hg
    by_cases ha:x.cps.all (· < 128)=true
    · have ey:strIterType x = "str_ascii_iterator" :=by unfold strIterType;rw [if_pos ha]
      rw [ey] at st
      exact wpAny_pyNext_ascii_end (I.ok.hd hc) st hx fun h' eb=>⟨rfl,I.turned (t':=s.toks) (fun b o hb e=>eb b o hb e) f0 f1 f3 f4 f5⟩
    · have ey:strIterType x = "str_iterator" :=by unfold strIterType;rw [if_neg ha]
      rw [ey] at st
      exact wpAny_pyNext_wide_end (I.ok.hd hc) st hx fun h' eb=>⟨rfl,I.turned (t':=s.toks) (fun b o hb e=>eb b o hb e) f0 f1 f3 f4 f5⟩
  self:=fun A i s Q E st h=>by
    by_cases ha:x.cps.all (· < 128)=true
    · have ey:strIterType x = "str_ascii_iterator" :=by unfold strIterType;rw [if_pos ha]
      rw [ey] at st
      exact wpAny_pyIter_striter_ascii st h
    · have ey:strIterType x = "str_iterator" :=by unfold strIterType;rw [if_neg ha]
      rw [ey] at st
      exact wpAny_pyIter_striter_wide st h
section
variable {X:Cx} {tg:Expr}
def iStr (tl:TE):TI:=fun σ H R=>tl σ H fun x H1=>∃z,x = .str z∧R (Its z) H1
theorem pi_str {l:Expr} {tl:TE} (hl:PE X l tl):PI X tg l (iStr tl):=by
  intro pins s σ H R I h
  refine thn (hl pins s σ H _ I h) fun v s1 zz=>?_
  obtain ⟨x,H1,I1,r1,q1⟩:=zz
  obtain ⟨z,e,q⟩:=q1
  subst e
  obtain ⟨t,rfl⟩:=r1
  refine wpAny_pyIter_strU ?_
  refine ⟨s1.heap.objs.size,[s1.heap.objs.size],_,_,H1,rfl,I1.kept (t':=s1.toks) fun b o e=>Heap.get?_push_of_some _ e,turn_str z t _,⟨_,Heap.get?_push_size _ rfl,rfl,rfl⟩,fun b hb=>?_,q⟩
  have e:b=s1.heap.objs.size:=by simpa using hb
  subst e
  exact I1.fpOk (Nat.le_refl _) (I1.hok.fresh (Nat.le_refl _))
end
def Itz (K:PySem.W.Frag) (a b:Addr):It:=
  ⟨fun i H=>∃xs ys x y,SqL K H a xs∧SqL K H b ys∧xs[i]? = some x∧ys[i]? = some y,
   fun i H v H'=>∃t x y,v = .ref t∧H t=none∧H'=upd H t (.tup [x,y])∧(∀xs,SqL K H a xs→xs[i]? = some x)∧∀ys,SqL K H b ys→ys[i]? = some y,
   fun i H=>∃xs ys,SqL K H a xs∧SqL K H b ys∧(xs.length≤i∨ys.length≤i)⟩
structure ZipSt (z TI TO i1 i2 a b:Addr) (i:Nat) (h:Heap):Prop where
  hz:IsZip h z TI TO .none
  hI:IsPair h TI (.ref i1) (.ref i2)
  hO:∃p q,IsPair h TO p q
  h1:h.IsListIter i1 a i
  h2:h.IsListIter i2 b i
theorem ne_ty {h:Heap} {a b:Addr} {o u:Obj} {T U:String} (ha:h.get? a=some o) (hb:h.get? b=some u) (ca:o.cls = .type T) (cb:u.cls = .type U) (hne:T≠U):a≠b:=fun e=>by
  subst e
  rw [ha] at hb
  cases hb
  rw [ca] at cb
  injection cb with e2
  exact hne e2
theorem turn_zip {P:Program} {w:World} {K:PySem.W.Frag} {es:List Expr} {k:Nat} {pos:Pos} {z TI TO i1 i2 a b:Addr} (n12:i1≠i2) (nT:TI≠TO) :
    Turn P w K (.Tuple es k pos) (Itz K a b) [z,TI,TO,i1,i2] z (ZipSt z TI TO i1 i2 a b) where
  mem:=by simp
  obj:=fun i h st c hc=>by
    simp only [List.mem_cons,List.not_mem_nil,or_false] at hc
    rcases hc with rfl | rfl | rfl | rfl | rfl
    ·exact ⟨_,st.hz,fun v e=>nomatch e⟩
    ·exact ⟨_,st.hI,fun v e=>nomatch e⟩
    · obtain ⟨p,q,e⟩:=st.hO
      exact ⟨_,e,fun v e=>nomatch e⟩
    · obtain ⟨o,e,_,d⟩:=st.h1
      exact ⟨o,e,fun v y=>by rw [d] at y;cases y⟩
    · obtain ⟨o,e,_,d⟩:=st.h2
      exact ⟨o,e,fun v y=>by rw [d] at y;cases y⟩
  keep:=fun i h h' st kk=>by
    obtain ⟨p,q,e⟩:=st.hO
    exact ⟨kk z (by simp) _ st.hz,kk TI (by simp) _ st.hI,⟨p,q,kk TO (by simp) _ e⟩,st.h1.at fun o e=>kk i1 (by simp) o e,st.h2.at fun o e=>kk i2 (by simp) o e⟩
  item:=by
    intro X hP hw hK hc i pins s σ H E I hf st hg
    subst hP hw hK
    obtain ⟨xs,ys,x,y,qa,qb,hx,hy⟩:=hg
    obtain ⟨its,rv,pl,hz1⟩:=I.list qa
    obtain ⟨its',rv',pl',hz2⟩:=I.list qb
    obtain ⟨u,hu,ru⟩:=rv.get hx
    obtain ⟨u',hu',ru'⟩:=rv'.get hy
    obtain ⟨p,q,hTO⟩:=st.hO
    obtain ⟨oa,ea,ca,_⟩:=id pl.isList
    obtain ⟨ob,eb,cb,_⟩:=id pl'.isList
    obtain ⟨o1,e1,c1,_⟩:=id st.h1
    obtain ⟨o2,e2,c2,_⟩:=id st.h2
    have D:ZipApart z TI TO i1 i2 a b:=
      ⟨ne_ty st.hI st.hz rfl rfl (by decide),ne_ty hTO st.hz rfl rfl (by decide),ne_ty e1 st.hz c1 rfl (by decide),ne_ty e2 st.hz c2 rfl (by decide),nT,ne_ty st.hI e1 rfl c1 (by decide),ne_ty st.hI e2 rfl c2 (by decide),
        ne_ty hTO e1 rfl c1 (by decide),ne_ty hTO e2 rfl c2 (by decide),n12,ne_ty ea st.hz ca rfl (by decide),ne_ty ea hTO ca rfl (by decide),ne_ty ea e1 ca c1 (by decide),ne_ty ea e2 ca c2 (by decide),
        ne_ty eb st.hz cb rfl (by decide),ne_ty eb hTO cb rfl (by decide),ne_ty eb e1 cb c1 (by decide),ne_ty eb e2 cb c2 (by decide)⟩
    refine wpAny_pyNext_zip_item D st.hz st.hI hTO st.h1 st.h2 pl.isList pl'.isList (x:=u) (y:=u') (by simpa using hu) (by simpa using hu') fun h' a1 a2 a3 a4 a5 a6 kk=>?_
    refine ⟨_,rfl,wpAny_letOwnedTupleGo_zip a1 fun h2 b1 sb=>?_⟩
    have lt:∀{c o},s.heap.get? c=some o→s.heap.objs.size≠c:=fun e=>Nat.ne_of_gt (Heap.lt_size e)
    have hn:H s.heap.objs.size=none:=I.hok.fresh (Nat.le_refl _)
    have kk2:∀c o,c∉[z,TI,TO,i1,i2]→s.heap.get? c=some o→h2.get? c=some o:=fun c o hc e=>by
      simp only [List.mem_cons,List.not_mem_nil,or_false,not_or] at hc
      exact (sb.2 c hc.1).trans (kk c o hc.1 hc.2.2.1 hc.2.2.2.1 hc.2.2.2.2 e)
    have I1:Inv X pins σ H {s with heap:=h2,toks:=s.toks}:=I.turnedL kk2 hf
    have hpair:IsPair h2 s.heap.objs.size u u':=sb.extBut _ _ (lt st.hz) a5
    have I2:Inv X pins σ (upd H s.heap.objs.size (.tup [x,y])) {s with heap:=h2,toks:=s.toks}:=by
      have hfr:H s.heap.objs.size=none:=hn
      refine ⟨I1.ok,I1.os,I1.bare,⟨I1.base.keep,I1.base.slot,fun c o e n hx=>?_,I1.base.there,fun c zs e=>?_,fun c o v e=>?_,fun c qs e=>?_⟩,I1.loc,I1.cell,?_,fun v c e=>?_,fun v hv=>?_,?_,I1.len⟩
      · rw [upd_ne (fun e'=>?_)]
        ·exact I1.base.free c o e n hx
        ·exact absurd (Nat.lt_of_lt_of_le (Heap.lt_size e) I.sz) (by rw [e'];exact Nat.lt_irrefl _)
      · have e':=I1.base.tups c zs e
        rw [upd_ne (ne_of_none e' hfr)];exact e'
      · have e':=I1.base.frzs c o v e
        rw [upd_ne (ne_of_none e' hfr)];exact e'
      · obtain ⟨m,e'⟩:=I1.base.tbls c qs e
        exact ⟨m,by rw [upd_ne (ne_of_none e' hfr)];exact e'⟩
      ·rw [upd_ne (Nat.ne_of_lt I.lt)];exact I1.free
      · obtain ⟨w',qc⟩:=I.cell v c e
        rw [upd_ne (Nat.ne_of_lt qc.lt)];exact I1.freeC v c e
      · obtain ⟨f1,f2,f3⟩:=I1.pin v hv
        refine ⟨f1,?_,f3⟩
        rw [upd_ne (Nat.ne_of_lt (Heap.lt_size (I.pin v hv).1))];exact f2
      · intro c v e
        by_cases hcs:c=s.heap.objs.size
        · subst hcs
          rw [upd_same] at e
          cases e
          exact ⟨by show 2≤sizeLine;rw [sizeLine_eq];decide,[u,u'],.cons ru (.cons ru' .nil),⟨_,hpair,rfl,0,rfl⟩⟩
        · rw [upd_ne hcs] at e
          refine (I1.hok c v e).stay (fun _ _ _ qq=>qq) (fun d qd=>?_) fun d zs qd=>?_
          ·rw [upd_ne (ne_of_none qd hfr)];exact qd
          ·rw [upd_ne (ne_of_none qd hfr)];exact qd
    refine ⟨.ref s.heap.objs.size,_,I2,rfl,⟨s.heap.objs.size,x,y,rfl,hn,rfl,fun xs' q'=>by rw [I.list_inj q' qa];exact hx,fun ys' q'=>by rw [I.list_inj q' qb];exact hy⟩,?_,fun c hcm=>?_⟩
    ·exact ⟨b1,sb.extBut _ _ D.TIz (kk _ _ D.TIz D.TITO D.TIi1 D.TIi2 st.hI),⟨_,_,sb.extBut _ _ D.TOz a2⟩,a3.extBut sb.extBut D.i1z,a4.extBut sb.extBut D.i2z⟩
    · have hne:c≠s.heap.objs.size:=by
        simp only [List.mem_cons,List.not_mem_nil,or_false] at hcm
        rcases hcm with rfl | rfl | rfl | rfl | rfl
        ·exact (lt st.hz).symm
        ·exact (lt st.hI).symm
        ·exact (lt hTO).symm
        ·exact (lt e1).symm
        ·exact (lt e2).symm
      rw [upd_ne hne]
      exact (hf c hcm).1
  done:=by
    intro X hP hw hK hc i pins s σ H E I hf st hg
    subst hP hw hK
    obtain ⟨xs,ys,qa,qb,hl⟩:=hg
    obtain ⟨its,rv,pl,hz1⟩:=I.list qa
    obtain ⟨its',rv',pl',hz2⟩:=I.list qb
    obtain ⟨p,q,hTO⟩:=st.hO
    obtain ⟨oa,ea,ca,_⟩:=id pl.isList
    obtain ⟨ob,eb,cb,_⟩:=id pl'.isList
    obtain ⟨o1,e1,c1,_⟩:=id st.h1
    obtain ⟨o2,e2,c2,_⟩:=id st.h2
    have D:ZipApart z TI TO i1 i2 a b:=
      ⟨ne_ty st.hI st.hz rfl rfl (by decide),ne_ty hTO st.hz rfl rfl (by decide),ne_ty e1 st.hz c1 rfl (by decide),ne_ty e2 st.hz c2 rfl (by decide),nT,ne_ty st.hI e1 rfl c1 (by decide),ne_ty st.hI e2 rfl c2 (by decide),
        ne_ty hTO e1 rfl c1 (by decide),ne_ty hTO e2 rfl c2 (by decide),n12,ne_ty ea st.hz ca rfl (by decide),ne_ty ea hTO ca rfl (by decide),ne_ty ea e1 ca c1 (by decide),ne_ty ea e2 ca c2 (by decide),
        ne_ty eb st.hz cb rfl (by decide),ne_ty eb hTO cb rfl (by decide),ne_ty eb e1 cb c1 (by decide),ne_ty eb e2 cb c2 (by decide)⟩
    have l1:=rv.length
    have l2:=rv'.length
    refine wpAny_pyNext_zip_end (I.ok.hd hc) D st.hz st.hI hTO st.h1 st.h2 pl.isList pl'.isList ?_ fun h' kk=>⟨rfl,I.turnedL (t':=s.toks) (fun c o hcm e=>?_) hf⟩
    · rcases hl with hl | hl
      ·exact .inl (by simp;omega)
      ·exact .inr (by simp;omega)
    · simp only [List.mem_cons,List.not_mem_nil,or_false,not_or] at hcm
      exact kk c o hcm.1 hcm.2.2.1 hcm.2.2.2.1 hcm.2.2.2.2 e
  self:=fun _ _ _ _ _ st h=>wpAny_pyIter_zip st.hz h
section
variable {X:Cx}
def iZip (K:PySem.W.Frag) (t:TA):TI:=fun σ H R=>t σ H fun vs H1=>∃a b xs ys,vs=[.ref a,.ref b]∧SqL K H1 a xs∧SqL K H1 b ys∧R (Itz K a b) H1
theorem boot_zip:bootBuiltins "zip" = some (.type "zip"):=by decide +kernel
theorem pi_zip {es:List Expr} {k:Nat} {pos':Pos} {a b:Expr} {ta:TA} {p pos:Pos} (hg:Gl X "zip") (hm:X.mg "zip" = none) (ha:PA X [a,b] ta)
    (hs:starEach [a,b] X.env=[(false,eval a X.env),(false,eval b X.env)]:=by rfl) (hs2:starEach [b] X.env=[(false,eval b X.env)]:=by rfl) :
    PI X (.Tuple es k pos') (.Call (.Name "zip" p) [a,b] [] pos) (iZip X.K ta):=by
  intro pins s σ H R I h
  refine Call_ (ld_blt I hg hm boot_zip (PyProof.Rows.callWith_type1 (thn (ha pos pins s σ H _ I h) fun us s1 zz=>?_) (by rw [hs,hs2]) (by rw [hs2];rfl)))
  obtain ⟨vs,H1,I1,r1,q1⟩:=zz
  obtain ⟨l1,l2,xs,ys,e,qa,qb,q⟩:=q1
  subst e
  obtain ⟨u,v,rfl,r,r'⟩:=r1.two
  obtain rfl:u=Value.ref l1:=r
  obtain rfl:v=Value.ref l2:=r'
  obtain ⟨its,rv,pl,hz1⟩:=I1.list qa
  obtain ⟨its',rv',pl',hz2⟩:=I1.list qb
  refine call_zip_2 pl.isList pl'.isList fun h' b1 b2 b3 b4 b5 b6 kk=>?_
  refine wpAny_pyIter_zip (s:={s1 with heap:=h'}) b1 ?_
  have I2:Inv X pins σ H1 {s1 with heap:=h'}:=I1.kept (t':=s1.toks) kk
  refine ⟨s1.heap.objs.size+4,[s1.heap.objs.size+4,s1.heap.objs.size+2,s1.heap.objs.size+3,s1.heap.objs.size,s1.heap.objs.size+1],_,_,H1,rfl,I2,turn_zip (Nat.ne_of_lt (Nat.lt_succ_self _)) (Nat.ne_of_lt (Nat.lt_succ_self (s1.heap.objs.size+2))),⟨b1,b2,⟨_,_,b3⟩,b4,b5⟩,fun c hc=>?_,q⟩
  have hle:s1.heap.objs.size≤c:=by
    simp only [List.mem_cons,List.not_mem_nil,or_false] at hc
    rcases hc with rfl | rfl | rfl | rfl | rfl <;> first | exact Nat.le_add_right _ _ | exact Nat.le_refl _
  exact I1.fpOk hle (I1.hok.fresh hle)
end
section
variable {X:Cx} {pins:List (Addr×Obj)} {σ:St} {H:Hp} {s:Shared}
theorem TyOf.kit {x:V} {u t:Value} (I:Inv X pins σ H s) (rx:RelV x u) (ty:TyOf X.K H x t):∃Φ,PySem.W.KitX X.K u t Φ∧Φ s.heap∧u≠.builtin "__main__.__loader__#opaque" :=by
  cases ty with
  | non=>cases (show u=Value.none from rx);exact ⟨_,PySem.W.kitx_none,True.intro,fun z=>nomatch z⟩
  | bl y=>cases (show u=Value.bool y from rx);exact ⟨_,PySem.W.kitx_bool,True.intro,fun z=>nomatch z⟩
  | int i=>obtain ⟨t,q⟩:=(show ∃t,u=Value.int i t from rx);cases q;exact ⟨_,PySem.W.kitx_int,True.intro,fun z=>nomatch z⟩
  | str y=>obtain ⟨t,q⟩:=(show ∃t,u=Value.str y t from rx);cases q;exact ⟨_,PySem.W.kitx_str,True.intro,fun z=>nomatch z⟩
  | flt y=>obtain ⟨t,q⟩:=(show ∃t,u=Value.float y t from rx);cases q;exact ⟨_,PySem.W.kitx_float,True.intro,fun z=>nomatch z⟩
  | @lst a xs ea=>
    cases (show u=Value.ref a from rx)
    obtain ⟨_,_,n,_,h1⟩:=(show ObjOk X.prog X.w H s.heap a (.lst xs) from I.hok a _ ea)
    exact ⟨_,PySem.W.kitx_list,⟨_,h1,rfl⟩,fun z=>nomatch z⟩
  | @frz a ob xs ea=>
    cases (show u=Value.ref a from rx)
    obtain ⟨_,_,_,n,_,h1⟩:=(show ObjOk X.prog X.w H s.heap a (.frz ob (.lst xs)) from I.hok a _ ea)
    exact ⟨_,PySem.W.kitx_list,⟨_,h1,rfl⟩,fun z=>nomatch z⟩
  | @tup a xs ea=>
    cases (show u=Value.ref a from rx)
    obtain ⟨_,_,_,p⟩:=(show ObjOk X.prog X.w H s.heap a (.tup xs) from I.hok a _ ea)
    obtain ⟨o,h1,h2,_⟩:=p
    exact ⟨_,PySem.W.kitx_tuple,⟨o,h1,h2⟩,fun z=>nomatch z⟩
  | @dK a kvs ea=>
    cases (show u=Value.ref a from rx)
    obtain ⟨_,_,vs,_,p⟩:=(show ObjOk X.prog X.w H s.heap a (.dK kvs) from I.hok a _ ea)
    obtain ⟨o,es,ep,h1,h2,_⟩:=p
    exact ⟨_,PySem.W.kitx_dict,⟨o,h1,h2.1⟩,fun z=>nomatch z⟩
  | @dT a kvs ea=>
    cases (show u=Value.ref a from rx)
    obtain ⟨_,_,xs,_,o,es,ep,h1,h2,_⟩:=(show ObjOk X.prog X.w H s.heap a (.dT kvs) from I.hok a _ ea)
    exact ⟨_,PySem.W.kitx_dict,⟨o,h1,h2.1⟩,fun z=>nomatch z⟩
  | @ins a C dx fs ea cl ha hn htk hm=>
    cases (show u=Value.ref a from rx)
    obtain ⟨mA,O,_⟩:=ins_get I.hok ea
    obtain ⟨od,J,_⟩:=O.look
    exact ⟨_,PySem.W.kitx_own (cl.get _) cl.hd ha hn htk hm,J,fun z=>nomatch z⟩
theorem call_isiT:CallR X (.builtin "isinstance") (fun xs H Q=>∃x n t b,xs=[x,.ty n]∧TyOf X.K H x t∧PySem.W.kitOne X.K t (.type n)=some b∧Q (.bl b) H):=by
  intro pins s σ H xs us Q I r h
  obtain ⟨x,n,t,b,rfl,ty,e,q⟩:=h
  obtain ⟨u,v,rfl,rx,rc⟩:=r.two
  obtain rfl:v=Value.type n:=rc
  exact isinst_ok I rx ty e fun tk=>⟨.bl b,H,I.tok tk,rfl,q⟩
theorem call_isi2:CallR X (.builtin "isinstance") (fun xs H Q=>∃x p m n t b,xs=[x,.ref p]∧H p=some (.tup [.ty m,.ty n])∧TyOf X.K H x t∧PySem.W.kitAny X.K t [.type m,.type n]=some b∧Q (.bl b) H):=by
  intro pins s σ H xs us Q I r h
  obtain ⟨x,p,m,n,t,b,rfl,hp,ty,e,q⟩:=h
  obtain ⟨u,v,rfl,rx,rc⟩:=r.two
  obtain rfl:v=Value.ref p:=rc
  obtain ⟨Φ,Z,hΦ,hne⟩:=ty.kit I rx
  obtain ⟨_,its,rv,o,e1,e2,k,e3⟩:=(show ObjOk X.prog X.w H s.heap p (.tup [.ty m,.ty n]) from I.hok p _ hp)
  obtain ⟨u1,u2,rfl,r1,r2⟩:=rv.two
  obtain rfl:u1=Value.type m:=r1
  obtain rfl:u2=Value.type n:=r2
  obtain ⟨c,dd,dt,sl⟩:=o
  replace e2:c = .type "tuple" :=e2
  replace e3:dt = .seq [Value.type m,Value.type n].toArray k:=e3
  subst e2 e3
  exact PySem.W.kia_tup Z I.kIn hΦ e1 e hne fun tk=>⟨.bl b,H,I.tok tk,rfl,q⟩
theorem boot_isinstance:bootBuiltins "isinstance" = some (.builtin "isinstance"):=by decide +kernel
theorem boot_str:bootBuiltins "str" = some (.type "str"):=by decide +kernel
theorem boot_list:bootBuiltins "list" = some (.type "list"):=by decide +kernel
theorem boot_tuple:bootBuiltins "tuple" = some (.type "tuple"):=by decide +kernel
theorem boot_intT:bootBuiltins "int" = some (.type "int"):=by decide +kernel
theorem boot_boolT:bootBuiltins "bool" = some (.type "bool"):=by decide +kernel
theorem boot_dictT:bootBuiltins "dict" = some (.type "dict"):=by decide +kernel
theorem boot_setT:bootBuiltins "set" = some (.type "set"):=by decide +kernel
end
mutual
def Is (K:PySem.W.Frag) (H:Hp):PyData→V→Prop
  | .none,v=>v = .non
  | .bool b,v=>v = .bl b
  | .int i,v=>v = .int i
  | .str x,v=>v = .str x
  | .list ds,v=>∃a xs,v = .ref a∧SqL K H a xs∧IsAll K H ds xs
  | .tuple ds,v=>∃a xs,v = .ref a∧SqT K H a xs∧IsAll K H ds xs
  | .dict _,_=>False
def IsAll (K:PySem.W.Frag) (H:Hp):List PyData→List V→Prop
  | [],vs=>vs=[]
  | d::ds,vs=>∃v r,vs=v::r∧Is K H d v∧IsAll K H ds r
end
section
variable {X:Cx} {pins:List (Addr×Obj)} {σ:St} {H:Hp} {s:Shared}
mutual
theorem Is.reads (I:Inv X pins σ H s):∀(d:PyData) (v:V) (u:Value),Is X.K H d v→RelV v u→∃as,Reads s.heap u d as
  | .none,v,u,h,r=>by
    simp only [Is] at h;subst h;cases r;exact ⟨_,.none⟩
  | .bool b,v,u,h,r=>by
    simp only [Is] at h;subst h;cases r;exact ⟨_,.bool b⟩
  | .int i,v,u,h,r=>by
    simp only [Is] at h;subst h;obtain ⟨t,rfl⟩:=r;exact ⟨_,.int i t⟩
  | .str x,v,u,h,r=>by
    simp only [Is] at h;subst h;obtain ⟨t,rfl⟩:=r;exact ⟨_,.str x t⟩
  | .list ds,v,u,h,r=>by
    simp only [Is] at h
    obtain ⟨a,xs,rfl,hq,hs⟩:=h
    cases r
    obtain ⟨its,rv,pl,hz⟩:=I.list hq
    obtain ⟨o,e,c,n,dt⟩:=pl.isList
    obtain ⟨as,ra⟩:=IsAll.reads I ds xs its hs rv
    exact ⟨_,.list e c dt (by simpa using ra)⟩
  | .tuple ds,v,u,h,r=>by
    simp only [Is] at h
    obtain ⟨a,xs,rfl,hq,hs⟩:=h
    cases r
    obtain ⟨its,rv,pl,hz⟩:=I.tuple hq
    obtain ⟨o,e,c,n,dt⟩:=pl
    obtain ⟨as,ra⟩:=IsAll.reads I ds xs its hs rv
    exact ⟨_,.tuple e c dt (by simpa using ra)⟩
  | .dict _,v,u,h,r=>by
    simp only [Is] at h
theorem IsAll.reads (I:Inv X pins σ H s):∀(ds:List PyData) (vs:List V) (us:List Value),IsAll X.K H ds vs→Vals vs us→∃as,ReadsAll s.heap us ds as
  | [],vs,us,h,r=>by
    simp only [IsAll] at h;subst h;cases r;exact ⟨_,.nil⟩
  | d::ds,vs,us,h,r=>by
    simp only [IsAll] at h
    obtain ⟨v,vr,rfl,h1,h2⟩:=h
    cases r with
    | cons r1 r2=>
      obtain ⟨as,ra⟩:=Is.reads I d v _ h1 r1
      obtain ⟨bs,rb⟩:=IsAll.reads I ds vr _ h2 r2
      exact ⟨_,.cons ra rb⟩
end
theorem op_neD:OpR X (compareOp .NotEq) (fun x y H Q=>∃d e,Is X.K H d x∧Is X.K H e y∧d.canLay0=true∧e.canLay0=true∧X.A.units+min d.depth e.depth<cLine∧Q (.bl (!PyData.eqv d e)) H):=by
  intro pins s σ H x y v u Q I rx ry h
  obtain ⟨d,e,hx,hy,h1,h2,hu,q⟩:=h
  obtain ⟨as,ra⟩:=hx.reads I d x v rx
  obtain ⟨bs,rb⟩:=hy.reads I e y u ry
  exact SeqAt.compareNe_reads ra rb h1 h2 hu ⟨.bl _,H,I,rfl,q⟩
end
section
variable {X:Cx}
def rInsert:V→List V→Hp→VK→Prop:=fun x vs H Q=>∃l xs i y,x = .ref l∧vs=[.int i,y]∧H l=some (.lst xs)∧0≤i∧i≤xs.length∧xs.length<sizeLine∧Q .non (upd H l (.lst (xs.take i.toNat++y::xs.drop i.toNat)))
theorem Vals.ins {y:V} {u:Value} (ru:RelV y u):∀{xs:List V} {us:List Value} (i:Nat),Vals xs us→Vals (xs.take i++y::xs.drop i) (us.take i++u::us.drop i):=fun i r=>(r.take i).append (.cons ru (r.drop i))
theorem mt_insert:MtM X "list.insert" rInsert:=by
  intro pins s σ H x vs v us Q I rx rv h
  obtain ⟨l,xs,i,y,rfl,rfl,hH,h0,hi,hz,q⟩:=h
  cases rx
  obtain ⟨u1,u,rfl,⟨t,rfl⟩,ru⟩:=rv.two
  obtain ⟨z,its,n,r,hl,e⟩:=I.lstM hH
  have hn:=line63
  have hfit:¬(!Builtin.List.listFitsIndex i)=true:=by
    unfold Builtin.List.listFitsIndex
    simp
    omega
  refine call_meets F.slot_list_insert ⟨_,e,rfl⟩ F.entry_list_insert (F.args_list_insert_3 _ _ _) (PySem.AutoListH.list_insert_list_int_val_1 l its.toArray n i t u hfit (by rw [List.size_toArray];omega)) ⟨e,?_⟩
  refine ⟨.non,_,I.lset (its':=its.take i.toNat++u::its.drop i.toNat) hH e ?_ (r.ins ru i.toNat) ?_,rfl,q⟩
  · have hm:min i.toNat its.length=i.toNat:=by omega
    simp only [List.size_toArray]
    rw [if_neg (by omega),hm]
    apply Array.toList_inj.mp
    simp
    exact List.take_of_length_le (by simp)
  · simp
    omega
end
section
variable {X:Cx}
def blAll:List V→List Bool→Prop
  | [],bs=>bs=[]
  | x::xs,bs=>∃b r,bs=b::r∧x = .bl b∧blAll xs r
theorem blAll.get:∀{xs:List V} {bs:List Bool} {its:List Value},blAll xs bs→Vals xs its→xs.length=bs.length∧∀(i:Nat) (v:Value),its[i]? = some v→v = .bool (bs.getD i false)
  | [],bs,its,h,r=>by
    cases h;cases r
    exact ⟨rfl,fun i v e=>by simp at e⟩
  | x::xs,bs,its,h,r=>by
    obtain ⟨b,br,rfl,rfl,h⟩:=h
    cases r with
    | cons r1 r2=>
      obtain ⟨h1,h2⟩:=blAll.get h r2
      refine ⟨by simp [h1],fun i v e=>?_⟩
      cases i with
      | zero=>
        simp at e
        subst e
        exact r1
      | succ i=>
        simp at e
        simpa using h2 i v e
theorem range_all (bs:List Bool):(List.range bs.length).all (fun i=>bs.getD i false)=bs.all id:=by
  rw [Bool.eq_iff_iff,List.all_eq_true,List.all_eq_true]
  constructor
  · intro h b hb
    obtain ⟨i,hi,rfl⟩:=List.mem_iff_getElem.mp hb
    have:=h i (List.mem_range.mpr hi)
    simpa [List.getD,hi] using this
  · intro h i hi
    have hi':=List.mem_range.mp hi
    have:=h bs[i] (List.getElem_mem hi')
    simpa [List.getD,hi'] using this
theorem call_allB (hc:X.calm=true):CallR X (.builtin "all") (fun xs H Q=>∃a ys bs,xs=[.ref a]∧H a=some (.lst ys)∧blAll ys bs∧Q (.bl (bs.all id)) H):=by
  intro pins s σ H xs us Q I r h
  obtain ⟨a,ys,bs,rfl,ha,hb,q⟩:=h
  obtain ⟨u,rfl,ru⟩:=r.one
  obtain rfl:u=Value.ref a:=ru
  obtain ⟨z,its,n,rv,hl,e⟩:=I.lstM ha
  obtain ⟨h1,h2⟩:=hb.get rv
  have hL:s.heap.IsList a its.toArray:=⟨_,e,rfl,n,rfl⟩
  refine call_all_walk ?_
  refine wpAny_pyIter_list hL ?_
  have hne:a≠s.heap.objs.size:=Nat.ne_of_lt (Heap.lt_size e)
  have hL2:(s.heap.push {cls:=.type "list_iterator",data:=.fields #[.ref a,.int 0 0]}).IsList a its.toArray:=⟨_,Heap.get?_push_of_some _ e,rfl,n,rfl⟩
  refine ⟨s.heap.objs.size,_,_,_,_,_,fun i=>bs.getD i false,rfl,Walks.list (by exact I.ok.hd hc) s.heap.objs.size a hne its.toArray,⟨⟨_,Heap.get?_push_size _ rfl,rfl,rfl⟩,hL2⟩,fun i v s' Q' E' hP hQ=>?_,fun h' tk kk=>?_⟩
  · obtain rfl:=h2 i v (by simpa using hP)
    exact wpAny_truthy_bool hQ
  · have e2:(List.range its.toArray.size).all (fun i=>bs.getD i false)=bs.all id:=by
      rw [List.size_toArray,← hl,h1];exact range_all bs
    rw [e2]
    refine ⟨.bl _,H,?_,rfl,q⟩
    exact I.kept (h':=h') (t':=tk) fun b o eb=>kk b o (by simp;exact Nat.ne_of_lt (Heap.lt_size eb)) (Heap.get?_push_of_some _ eb)
end
def memK (l:List Key) (k:Key):Bool:=l.any fun x=>decide (x=k)
theorem memK_iff {l:List Key} {k:Key}:memK l k=true↔k∈l:=by
  unfold memK
  rw [List.any_eq_true]
  constructor
  · rintro ⟨x,hx,e⟩
    have e':=of_decide_eq_true e
    subst e'
    exact hx
  · intro h
    exact ⟨k,h,decide_eq_true rfl⟩
theorem memK_app (l:List Key) (x k:Key):memK (l++[x]) k=(memK l k || decide (k=x)):=by
  unfold memK
  rw [List.any_append]
  simp only [List.any_cons,List.any_nil,Bool.or_false]
  congr 1
  exact decide_eq_decide.mpr ⟨fun e=>e.symm,fun e=>e.symm⟩
def uqStep (acc:List Key) (k:Key):List Key:=if memK acc k=true then acc else acc++[k]
def uqN (val:Nat→Key) (i:Nat):List Key:=((List.range i).map val).foldl uqStep []
theorem uqN_succ (val:Nat→Key) (i:Nat):uqN val (i+1)=uqStep (uqN val i) (val i):=by
  unfold uqN
  rw [List.range_succ,List.map_append,List.foldl_append]
  rfl
theorem uqN_le (val:Nat→Key):∀i,(uqN val i).length≤i
  | 0=>Nat.le_refl _
  | i+1=>by
    rw [uqN_succ]
    have ih:=uqN_le val i
    unfold uqStep
    split
    ·omega
    ·rw [List.length_append,List.length_singleton];omega
theorem uq_all (val:Nat→Key):∀n,(∀i j,i<n→j<n→val i=val j→i=j)→(uqN val n).length=n∧∀k,k∈uqN val n→∃i,i<n∧val i=k
  | 0,_=>⟨rfl,fun k h=>by simp [uqN] at h⟩
  | n+1,h=>by
    obtain ⟨h1,h2⟩:=uq_all val n fun i j hi hj=>h i j (by omega) (by omega)
    have hnot:¬memK (uqN val n) (val n)=true:=fun hm=>by
      obtain ⟨i,hi,e⟩:=h2 _ (memK_iff.mp hm)
      have:=h i n (by omega) (by omega) e
      omega
    rw [uqN_succ]
    unfold uqStep
    rw [if_neg hnot]
    refine ⟨by simp [h1],fun k hk=>?_⟩
    rcases List.mem_append.mp hk with z | z
    · obtain ⟨i,hi,e⟩:=h2 k z
      exact ⟨i,by omega,e⟩
    ·exact ⟨n,by omega,(List.mem_singleton.mp z).symm⟩
theorem scan_of {k:Key} {v:Value} (h:keyIs k v=true):v.scannable=true:=by
  rcases keyIs_shape h with ⟨i,t,rfl,rfl⟩ | ⟨x,t,rfl,rfl⟩ <;> rfl
theorem setOf_congr {P:Program} {w:World} {h:Heap} {a:Addr} {S S':Key→Bool} {n n':Nat} (x:h.SetOf (mixKind P w) a S n) (e:∀k,S k=S' k) (en:n=n'):h.SetOf (mixKind P w) a S' n':=by
  have:S=S':=funext e
  subst this
  subst en
  exact x
abbrev SetIs (P:Program) (w:World) (h:Heap) (a:Addr) (l:List Key):Prop:=h.SetOf (mixKind P w) a (memK l) l.length
theorem SetIs.at {P:Program} {w:World} {h h':Heap} {a:Addr} {l:List Key} (x:SetIs P w h a l) (k:∀o,h.get? a=some o→h'.get? a=some o):SetIs P w h' a l:=by
  obtain ⟨o,es,ep,t,e,r⟩:=x
  exact ⟨o,es,ep,t,k o e,r⟩
theorem fresh_set {P:Program} {w:World} {h:Heap} {a:Addr} {led:Bool} (e:h.get? a=some {cls:=.type "set",dict:=none,data:=.set #[] 0 (.fresh 0 0 led)}):SetIs P w h a []:=
  ⟨_,#[],0,.fresh 0 0 led,e,⟨rfl,rfl,rfl⟩,rfl,(fun x hx=>by simp at hx),(fun k=>by simp [memK]),(by unfold scanBound;decide),(by cases led <;> rfl),rfl⟩
section
variable {P:Program} {w:World} {A:Around} {R:Result→Shared→Prop} {I:Addr} {fp wr:List Addr} {n:Nat} {PP:Nat→Value→Prop} {St:Nat→Heap→Prop}
theorem set_loop (W:Walks P w A.in1 I fp wr n PP St) (S:Addr) (hSf:S∉fp) (val:Nat→Key) (hval:∀i v,PP i v→keyIs (val i) v=true) (hb:n+1<scanBound) :
    ∀(k i:Nat) (s:Shared),n - i=k→i≤n→St i s.heap→SetIs P w s.heap S (uqN val i)→
      (∀h' tk,(∀b o,b≠S→b∉wr→s.heap.get? b=some o→h'.get? b=some o)→SetIs P w h' S (uqN val n)→R (.ok (.ret .none)) {s with heap:=h',toks:=tk})→
      codeAny (model P w) A (.builtin "set.update.loop" ⟨[.ref S,.ref I],[]⟩) R s:=by
  have hSw:S∉wr:=fun h=>hSf (W.sub _ h)
  intro k
  induction k with
  | zero=>
    intro i s hk hi hst hS hR
    obtain rfl:i=n:=by omega
    refine codeAny_builtin PyProof.Rows.F.entry_set_update_loop ?_
    rw [Around.under_plainId PyProof.Rows.F.plain_set_update_loop _]
    show wpAny _ A.in1 (pyNext (.ref I) >>= _) _ _ s
    refine wpAny_bind (W.done s _ _ hst fun h' tk hm=>?_)
    exact wpAny_pure (hR h' tk (fun b o _ hb e=>hm b o hb e) (hS.at fun o e=>hm S o hSw e))
  | succ k ih=>
    intro i s hk hi hst hS hR
    have hlt:i<n:=by omega
    refine codeAny_builtin PyProof.Rows.F.entry_set_update_loop ?_
    rw [Around.under_plainId PyProof.Rows.F.plain_set_update_loop _]
    show wpAny _ A.in1 (pyNext (.ref I) >>= _) _ _ s
    refine wpAny_bind (W.item i s _ _ hlt hst fun v h' tk hP hst' hm=>?_)
    have hkey:(mixKind P w).is (val i) v=true:=hval i v hP
    have hS':SetIs P w h' S (uqN val i):=hS.at fun o e=>hm S o hSw e
    show wpAny _ A.in1 (holding [v] (setAdd S v) >>= _) _ _ _
    refine wpAny_bind (wpAny_holding ?_)
    unfold setAdd
    refine wpAny_holding (wpAny_bind ((mixKind P w).pyHash (k:=val i) hkey ?_))
    have hroom:(uqN val i).length+1<scanBound:=by have:=uqN_le val i;omega
    refine wpAny_setAddHashed_of (knd:=mixKind P w) (s:={s with heap:=h',toks:=tk+1}) hkey (scan_of (hval i v hP)) hS' hroom fun h2 hsb hS2=>?_
    have hSi:SetIs P w h2 S (uqN val (i+1)):=by
      refine setOf_congr hS2 (fun k'=>?_) ?_
      · rw [uqN_succ]
        unfold uqStep
        split
        · rename_i hm1
          by_cases e:k'=val i
          ·rw [e,hm1];rfl
          ·rw [decide_eq_false e,Bool.or_false]
        ·exact (memK_app _ _ _).symm
      · rw [uqN_succ]
        unfold uqStep
        split
        ·rfl
        ·rw [List.length_append,List.length_singleton]
    refine wpAny_pure ⟨plainId_quiet PyProof.Rows.F.plain_set_update_loop _,ih (i+1) _ (by omega) hlt (W.frame _ h' _ hst' fun b hb o e=>?_) hSi fun h3 tk3 hm3 hS3=>?_⟩
    ·exact (hsb.2 b (fun z:b=S=>hSf (by rw [← z];exact hb))).trans e
    · refine hR h3 tk3 (fun b o hbS hbw e=>hm3 b o hbS hbw ?_) hS3
      exact (hsb.2 b hbS).trans (hm b o hbw e)
end
theorem sub_list_set':isSubtype (.type "list") (.type "set")=pure false:=by rw [isSubtype_type];kernel_rfl
theorem sub_list_frozen':isSubtype (.type "list") (.type "frozenset")=pure false:=by rw [isSubtype_type];kernel_rfl
set_option maxHeartbeats 4000000 in
theorem set_of_list {P:Program} {w:World} {A:Around} {E:Value→Shared→Prop} {s:Shared} {l:Addr} {its:Array Value} {val:Nat→Key} {Q:Value→Shared→Prop}
    (hh:A.handled=none) (hl:s.heap.IsList l its) (hval:∀i v,its[i]? = some v→keyIs (val i) v=true) (hb:its.size+1<scanBound)
    (h:∀(g:Heap) (tk:Nat),SetIs P w g s.heap.objs.size (uqN val its.size)→(∀b o,s.heap.get? b=some o→g.get? b=some o)→Q (.ref s.heap.objs.size) {s with heap:=g,toks:=tk}) :
    wpAny (model P w) A (call (.type "set") [.ref l]) Q E s:=by
  obtain ⟨c,tl,hmro⟩:=PySem.F.called_set.mro
  have q1:=PySem.F.called_set.made
  have q2:=PySem.F.called_set.sub
  refine wpAny_call (codeAny_of_tree ?_)
  show wpAny _ _ (callAny (.type "set") _) _ _ s
  refine wpAny_pure ⟨Code.quiet_builtin _ (by decide +kernel),codeAny_builtin PySem.F.entry_type_call ?_⟩
  rw [Around.under_plain (weight_type_call_type "set" [.ref l] []) rfl]
  have q3:=PySem.F.called_set.notType
  have q4:=PySem.F.called_set.canCreate
  have q5:=PySem.F.typeCall_set_1 (.ref l)
  repeat (any_goals (first | assumption | wp_step))
  refine codeAny_mono (code_set_new_1 (.ref l) (E:=E) (Q₁:=fun ob s1=>∃led:Bool,ob = .ref s.heap.objs.size∧s1={s with heap:=s.heap.push {cls:=.type "set",dict:=none,data:=.set #[] 0 (.fresh 0 0 led)}}) fun led=>⟨led,rfl,rfl⟩) fun r s1 hr=>?_
  cases r with
  | error e=>exact hr
  | ok fl=>
    cases fl with
    | ret ob=>
      obtain ⟨led,rfl,rfl⟩:=hr
      have new:(s.heap.push {cls:=.type "set",dict:=none,data:=.set #[] 0 (.fresh 0 0 led)}).get? s.heap.objs.size=some {cls:=.type "set",dict:=none,data:=.set #[] 0 (.fresh 0 0 led)}:=Heap.get?_push_size _ rfl
      have ty:Shared.TypeIs {s with heap:=s.heap.push {cls:=.type "set",dict:=none,data:=.set #[] 0 (.fresh 0 0 led)}} (.ref s.heap.objs.size) "set" :=⟨_,new,rfl⟩
      have q6:=PySem.F.called_set.init.lookup
      have q7:=PySem.F.called_set.init.bind (.ref s.heap.objs.size)
      repeat (any_goals (first | assumption | wp_step))
      refine codeAny_mono (codeAny_call_builtin (R:=wants (fun r s2=>r = .none∧∃g tk,s2={s with heap:=g,toks:=tk}∧SetIs P w g s.heap.objs.size (uqN val its.size)∧(∀b o,s.heap.get? b=some o→g.get? b=some o)) E)
        PySem.F.called_set.init.plain PySem.F.entry_set_init (check_set_init_1 ty ?_)) fun r2 s2 hr2=>?_
      · obtain ⟨ol,ho,hcl,nl,hdl⟩:=hl
        obtain ⟨oc,od,odt,osl⟩:=ol
        simp only at hcl hdl
        subst hcl;subst hdl
        have ho2:(s.heap.push {cls:=.type "set",dict:=none,data:=.set #[] 0 (.fresh 0 0 led)}).get? l=some {cls:=.type "list",dict:=od,data:=.seq its nl,slots:=osl}:=Heap.get?_push_of_some _ ho
        have q8:=sub_list_set'
        have q9:=sub_list_frozen'
        have q10:(Value.type "list" == Value.type "dict")=false:=by decide
        have hl1:(s.heap.push {cls:=.type "set",dict:=none,data:=.set #[] 0 (.fresh 0 0 led)}).IsList l its:=⟨_,ho2,rfl,nl,rfl⟩
        unfold Builtin.«set.__init__» noKeywords Builtin.Frozenset.updateFrom
        generalize hPI:pyIter=PI
        wp_walk
        subst hPI
        refine wpAny_pyIter_list hl1 ?_
        refine wpAny_bind (wpAny_runValue ?_)
        have lt1:l<s.heap.objs.size:=Heap.lt_size ho
        have hh3:A.in1.in1.in1.handled=none:=by simp [hh]
        have ne1:l≠(s.heap.push {cls:=.type "set",dict:=none,data:=.set #[] 0 (.fresh 0 0 led)}).objs.size:=by
          rw [Heap.size_push]
          exact Nat.ne_of_lt (Nat.lt_succ_of_lt lt1)
        have nf:s.heap.objs.size∉[(s.heap.push {cls:=.type "set",dict:=none,data:=.set #[] 0 (.fresh 0 0 led)}).objs.size,l]:=by
          rw [Heap.size_push]
          simp only [List.mem_cons,List.mem_singleton,List.not_mem_nil,or_false,not_or]
          exact ⟨Nat.ne_of_lt (Nat.lt_succ_self _),Nat.ne_of_gt lt1⟩
        refine set_loop (Walks.list hh3 _ l ne1 its) s.heap.objs.size nf val hval hb (its.size - 0) 0 _ (by omega) (Nat.zero_le _) ⟨⟨_,Heap.get?_push_size _ rfl,rfl,rfl⟩,hl1.push _⟩ ?hS0 ?hR
        case hS0=>
          have hget:((s.heap.push {cls:=.type "set",dict:=none,data:=.set #[] 0 (.fresh 0 0 led)}).push {cls:=.type "list_iterator",data:=.fields #[.ref l,.int 0 0]}).get? s.heap.objs.size
              = some {cls:=.type "set",dict:=none,data:=.set #[] 0 (.fresh 0 0 led)}:=Heap.get?_push_of_some _ new
          exact fresh_set hget
        case hR=>
          intro g tk hm hS
          show wpAny _ _ _ _ _ _
          refine wpAny_pure ?_
          show wpAny _ _ (ret Value.none) _ _ _
          refine wpAny_pure ⟨rfl,g,tk,rfl,hS,fun b o e=>?_⟩
          have lb:b<s.heap.objs.size:=Heap.lt_size e
          refine hm b o (Nat.ne_of_lt lb) ?_ (Heap.get?_push_of_some _ (Heap.get?_push_of_some _ e))
          simp only [List.mem_cons,List.not_mem_nil,or_false]
          rw [Heap.size_push]
          exact Nat.ne_of_lt (Nat.lt_succ_of_lt lb)
      · cases r2 with
        | error e=>exact hr2
        | ok fl2=>
          cases fl2 with
          | ret r=>
            obtain ⟨rfl,g,tk,rfl,hS,hk⟩:=hr2
            repeat (any_goals (first | assumption | wp_step))
            exact h _ _ hS hk
          | _=>exact hr2.elim
    | _=>exact hr.elim
theorem sub_tuple_set':isSubtype (.type "tuple") (.type "set")=pure false:=by rw [isSubtype_type];kernel_rfl
theorem sub_tuple_frozen':isSubtype (.type "tuple") (.type "frozenset")=pure false:=by rw [isSubtype_type];kernel_rfl
set_option maxHeartbeats 4000000 in
theorem set_of_tuple {P:Program} {w:World} {A:Around} {E:Value→Shared→Prop} {s:Shared} {l:Addr} {its:Array Value} {val:Nat→Key} {Q:Value→Shared→Prop}
    (hh:A.handled=none) (hl:s.heap.IsTuple l its) (hval:∀i v,its[i]? = some v→keyIs (val i) v=true) (hb:its.size+1<scanBound)
    (h:∀(g:Heap) (tk:Nat),SetIs P w g s.heap.objs.size (uqN val its.size)→(∀b o,s.heap.get? b=some o→g.get? b=some o)→Q (.ref s.heap.objs.size) {s with heap:=g,toks:=tk}) :
    wpAny (model P w) A (call (.type "set") [.ref l]) Q E s:=by
  obtain ⟨c,tl,hmro⟩:=PySem.F.called_set.mro
  have q1:=PySem.F.called_set.made
  have q2:=PySem.F.called_set.sub
  refine wpAny_call (codeAny_of_tree ?_)
  show wpAny _ _ (callAny (.type "set") _) _ _ s
  refine wpAny_pure ⟨Code.quiet_builtin _ (by decide +kernel),codeAny_builtin PySem.F.entry_type_call ?_⟩
  rw [Around.under_plain (weight_type_call_type "set" [.ref l] []) rfl]
  have q3:=PySem.F.called_set.notType
  have q4:=PySem.F.called_set.canCreate
  have q5:=PySem.F.typeCall_set_1 (.ref l)
  repeat (any_goals (first | assumption | wp_step))
  refine codeAny_mono (code_set_new_1 (.ref l) (E:=E) (Q₁:=fun ob s1=>∃led:Bool,ob = .ref s.heap.objs.size∧s1={s with heap:=s.heap.push {cls:=.type "set",dict:=none,data:=.set #[] 0 (.fresh 0 0 led)}}) fun led=>⟨led,rfl,rfl⟩) fun r s1 hr=>?_
  cases r with
  | error e=>exact hr
  | ok fl=>
    cases fl with
    | ret ob=>
      obtain ⟨led,rfl,rfl⟩:=hr
      have new:(s.heap.push {cls:=.type "set",dict:=none,data:=.set #[] 0 (.fresh 0 0 led)}).get? s.heap.objs.size=some {cls:=.type "set",dict:=none,data:=.set #[] 0 (.fresh 0 0 led)}:=Heap.get?_push_size _ rfl
      have ty:Shared.TypeIs {s with heap:=s.heap.push {cls:=.type "set",dict:=none,data:=.set #[] 0 (.fresh 0 0 led)}} (.ref s.heap.objs.size) "set" :=⟨_,new,rfl⟩
      have q6:=PySem.F.called_set.init.lookup
      have q7:=PySem.F.called_set.init.bind (.ref s.heap.objs.size)
      repeat (any_goals (first | assumption | wp_step))
      refine codeAny_mono (codeAny_call_builtin (R:=wants (fun r s2=>r = .none∧∃g tk,s2={s with heap:=g,toks:=tk}∧SetIs P w g s.heap.objs.size (uqN val its.size)∧(∀b o,s.heap.get? b=some o→g.get? b=some o)) E)
        PySem.F.called_set.init.plain PySem.F.entry_set_init (check_set_init_1 ty ?_)) fun r2 s2 hr2=>?_
      · obtain ⟨ol,ho,hcl,nl,hdl⟩:=hl
        obtain ⟨oc,od,odt,osl⟩:=ol
        simp only at hcl hdl
        subst hcl;subst hdl
        have ho2:(s.heap.push {cls:=.type "set",dict:=none,data:=.set #[] 0 (.fresh 0 0 led)}).get? l=some {cls:=.type "tuple",dict:=od,data:=.seq its nl,slots:=osl}:=Heap.get?_push_of_some _ ho
        have q8:=sub_tuple_set'
        have q9:=sub_tuple_frozen'
        have q10:(Value.type "tuple" == Value.type "dict")=false:=by decide
        have hl1:(s.heap.push {cls:=.type "set",dict:=none,data:=.set #[] 0 (.fresh 0 0 led)}).IsTuple l its:=⟨_,ho2,rfl,nl,rfl⟩
        unfold Builtin.«set.__init__» noKeywords Builtin.Frozenset.updateFrom
        generalize hPI:pyIter=PI
        wp_walk
        subst hPI
        refine wpAny_pyIter_tuple hl1 ?_
        refine wpAny_bind (wpAny_runValue ?_)
        have lt1:l<s.heap.objs.size:=Heap.lt_size ho
        have hh3:A.in1.in1.in1.handled=none:=by simp [hh]
        have ne1:l≠(s.heap.push {cls:=.type "set",dict:=none,data:=.set #[] 0 (.fresh 0 0 led)}).objs.size:=by
          rw [Heap.size_push]
          exact Nat.ne_of_lt (Nat.lt_succ_of_lt lt1)
        have nf:s.heap.objs.size∉[(s.heap.push {cls:=.type "set",dict:=none,data:=.set #[] 0 (.fresh 0 0 led)}).objs.size,l]:=by
          rw [Heap.size_push]
          simp only [List.mem_cons,List.mem_singleton,List.not_mem_nil,or_false,not_or]
          exact ⟨Nat.ne_of_lt (Nat.lt_succ_self _),Nat.ne_of_gt lt1⟩
        refine set_loop (Walks.tuple hh3 _ l ne1 its) s.heap.objs.size nf val hval hb (its.size - 0) 0 _ (by omega) (Nat.zero_le _) ⟨⟨_,Heap.get?_push_size _ rfl,rfl,rfl⟩,⟨_,Heap.get?_push_of_some _ ho2,rfl,nl,rfl⟩⟩ ?hS0 ?hR
        case hS0=>
          have hget:((s.heap.push {cls:=.type "set",dict:=none,data:=.set #[] 0 (.fresh 0 0 led)}).push {cls:=.type "tuple_iterator",data:=.fields #[.ref l,.int 0 0]}).get? s.heap.objs.size
              = some {cls:=.type "set",dict:=none,data:=.set #[] 0 (.fresh 0 0 led)}:=Heap.get?_push_of_some _ new
          exact fresh_set hget
        case hR=>
          intro g tk hm hS
          show wpAny _ _ _ _ _ _
          refine wpAny_pure ?_
          show wpAny _ _ (ret Value.none) _ _ _
          refine wpAny_pure ⟨rfl,g,tk,rfl,hS,fun b o e=>?_⟩
          have lb:b<s.heap.objs.size:=Heap.lt_size e
          refine hm b o (Nat.ne_of_lt lb) ?_ (Heap.get?_push_of_some _ (Heap.get?_push_of_some _ e))
          simp only [List.mem_cons,List.not_mem_nil,or_false]
          rw [Heap.size_push]
          exact Nat.ne_of_lt (Nat.lt_succ_of_lt lb)
      · cases r2 with
        | error e=>exact hr2
        | ok fl2=>
          cases fl2 with
          | ret r=>
            obtain ⟨rfl,g,tk,rfl,hS,hk⟩:=hr2
            repeat (any_goals (first | assumption | wp_step))
            exact h _ _ hS hk
          | _=>exact hr2.elim
    | _=>exact hr.elim
def setO (P:Program) (w:World) (a:Addr) (l:List Key):HO:=.ext fun h=>SetIs P w h a l
section
variable {X:Cx}
def keysOf:List V→List Key
  | []=>[]
  | .int i::r=>.inl i::keysOf r
  | .str x::r=>.inr x::keysOf r
  | _::r=>keysOf r
def isKey:V→Bool
  | .int _=>true
  | .str _=>true
  | _=>false
theorem keys_at:∀{xs:List V} {its:List Value},xs.all isKey=true→Vals xs its→(keysOf xs).length=its.length∧∀(i:Nat) (v:Value),its[i]? = some v→keyIs ((keysOf xs).getD i (.inl 0)) v=true
  | [],_,_,.nil=>⟨rfl,fun i v e=>by simp at e⟩
  | x::xs,u::us,h,.cons r1 r2=>by
    rw [List.all_cons,Bool.and_eq_true] at h
    obtain ⟨h1,h2⟩:=keys_at h.2 r2
    cases x with
    | int i=>
      obtain ⟨t,rfl⟩:=r1
      refine ⟨by simp [keysOf,h1],fun j v e=>?_⟩
      cases j with
      | zero=>simp at e;subst e;exact keyIs_int i t
      | succ j=>simp at e;simpa [keysOf] using h2 j v e
    | str z=>
      obtain ⟨t,rfl⟩:=r1
      refine ⟨by simp [keysOf,h1],fun j v e=>?_⟩
      cases j with
      | zero=>simp at e;subst e;exact keyIs_str z t
      | succ j=>simp at e;simpa [keysOf] using h2 j v e
    | _=>exact absurd (show false=true from h.1) Bool.false_ne_true
theorem call_setK (hc:X.calm=true):CallR X (.type "set") (fun xs H Q=>∃a ys,xs=[.ref a]∧(SqL X.K H a ys∨SqT X.K H a ys)∧ys.all isKey=true∧ys.length+1<scanBound∧
    ∀p,H p=none→Q (.ref p) (upd H p (setO X.prog X.w p (uqN (fun i=>(keysOf ys).getD i (.inl 0)) ys.length)))):=by
  intro pins s σ H xs us Q I r h
  obtain ⟨a,ys,rfl,hq,hk,hb,q⟩:=h
  obtain ⟨u,rfl,ru⟩:=r.one
  obtain rfl:u=Value.ref a:=ru
  have fin:∀(g:Heap) (tk:Nat),SetIs X.prog X.w g s.heap.objs.size (uqN (fun i=>(keysOf ys).getD i (.inl 0)) ys.length)→(∀b o,s.heap.get? b=some o→g.get? b=some o)→EP X pins σ Q (.ref s.heap.objs.size) {s with heap:=g,toks:=tk}:=fun g tk hS kk=>by
    have hn:H s.heap.objs.size=none:=I.hok.fresh (Nat.le_refl _)
    refine ⟨.ref s.heap.objs.size,_,I.laid (o:=setO X.prog X.w s.heap.objs.size (uqN (fun i=>(keysOf ys).getD i (.inl 0)) ys.length)) (fun b o e=>kk b o e) (Nat.le_refl _) ⟨hS,?_,fun h1 h2 p k=>p.at k⟩,rfl,q _ hn⟩
    obtain ⟨o,_,_,_,e,_⟩:=hS
    exact ⟨o,e⟩
  rcases hq with hq | hq
  · obtain ⟨its,rv,pl,hz⟩:=I.list hq
    obtain ⟨h1,h2⟩:=keys_at hk rv
    have hl:=rv.length
    refine set_of_list (val:=fun i=>(keysOf ys).getD i (.inl 0)) (I.ok.hd hc) pl.isList (fun i v e=>h2 i v (by simpa using e)) (by rw [List.size_toArray];omega) fun g tk hS kk=>fin g tk ?_ kk
    have ez:its.toArray.size=ys.length:=by rw [List.size_toArray,hl]
    rw [ez] at hS
    exact hS
  · obtain ⟨its,rv,pl,hz⟩:=I.tuple hq
    obtain ⟨h1,h2⟩:=keys_at hk rv
    have hl:=rv.length
    refine set_of_tuple (val:=fun i=>(keysOf ys).getD i (.inl 0)) (I.ok.hd hc) (show s.heap.IsTuple a its.toArray from pl) (fun i v e=>h2 i v (by simpa using e)) (by rw [List.size_toArray];omega) fun g tk hS kk=>fin g tk ?_ kk
    have ez:its.toArray.size=ys.length:=by rw [List.size_toArray,hl]
    rw [ez] at hS
    exact hS
theorem call_lenS:CallR X (.builtin "len") (fun xs H Q=>∃a l,xs=[.ref a]∧H a=some (setO X.prog X.w a l)∧Q (.int l.length) H):=by
  intro pins s σ H xs us Q I r h
  obtain ⟨a,l,rfl,ha,q⟩:=h
  obtain ⟨u,rfl,ru⟩:=r.one
  obtain rfl:u=Value.ref a:=ru
  obtain ⟨⟨o,es,ep,t,e,ex,hd,_,_,hsz,hf,hn⟩,_⟩:=(show ObjOk X.prog X.w H s.heap a (setO X.prog X.w a l) from I.hok a _ ha)
  refine call_len_set e ex hd hf (by unfold scanBound at hsz;omega) ⟨.int l.length,H,I.tok _,⟨_,by rw [hn]⟩,q⟩
end
section
variable {X:Cx}
def rAddS:R2:=fun x y H Q=>∃i j,x = .str i∧y = .str j∧i.length+j.length≤sizeLine∧Q (.str (i++j)) H
def rInS:R2:=fun x y H Q=>∃i j,x = .str i∧y = .str j∧Q (.bl (!(Builtin.Str.occurrences j i 0 j.length 1).isEmpty)) H
def rNotInS:R2:=fun x y H Q=>∃i j,x = .str i∧y = .str j∧Q (.bl (!(!(Builtin.Str.occurrences j i 0 j.length 1).isEmpty))) H
def rInA (K:PySem.W.Frag):R2:=fun x y H Q=>rIn K false x y H Q∨rInS x y H Q
def rNotInA (K:PySem.W.Frag):R2:=fun x y H Q=>rIn K true x y H Q∨rNotInS x y H Q
theorem opA_in:OpR X (compareOp .In) (rInA X.K):=op_in_seq.or op_in_str
theorem opA_notin:OpR X (compareOp .NotIn) (rNotInA X.K):=op_notIn_seq.or op_notIn_str
def rIxQ (K:PySem.W.Frag):R2:=fun x y H Q=>∃p xs i v,x = .ref p∧y = .int i∧(SqL K H p xs∨SqT K H p xs)∧atI xs i=some v∧Q v H
theorem ixQ:IxR X (rIxQ X.K):=by
  intro value slice pins s σ H x y v u Q I rx ry h hs
  obtain ⟨p,xs,i,z,e1,e2,hq | hq,e3,q⟩:=h
  ·exact ix_list value slice pins s σ H x y v u Q I rx ry ⟨p,xs,i,z,e1,e2,hq,e3,q⟩ hs
  ·exact ix_tup value slice pins s σ H x y v u Q I rx ry ⟨p,xs,i,z,e1,e2,hq,e3,q⟩ hs
def rLenQ (K:PySem.W.Frag):List V→Hp→VK→Prop:=fun xs H Q=>∃p ys,xs=[.ref p]∧(SqL K H p ys∨SqT K H p ys)∧Q (.int ys.length) H
def rLenT:List V→Hp→VK→Prop:=fun xs H Q=>∃z,xs=[.str z]∧z.length≤sizeLine∧Q (.int z.length) H
variable {K:PySem.W.Frag}
theorem ixQk (hK:X.K=K):IxR X (rIxQ K):=by subst hK;exact ixQ
theorem inK (hK:X.K=K):OpR X (compareOp .In) (rInA K):=by subst hK;exact opA_in
theorem notinK (hK:X.K=K):OpR X (compareOp .NotIn) (rNotInA K):=by subst hK;exact opA_notin
theorem lenQk (hK:X.K=K):CallR X (.builtin "len") (rLenQ K):=by subst hK;exact call_len_seq
theorem lenTk:CallR X (.builtin "len") rLenT:=call_len_str
def rListOf (K:PySem.W.Frag):List V→Hp→VK→Prop:=fun xs H Q=>∃p ys,xs=[.ref p]∧(SqL K H p ys∨SqT K H p ys)∧∀l,H l=none→Q (.ref l) (upd H l (.lst ys))
theorem listOfk (hK:X.K=K):CallR X (.type "list") (rListOf K):=by subst hK;exact call_list_of
def rIsiT (K:PySem.W.Frag):List V→Hp→VK→Prop:=fun xs H Q=>∃x n t b,xs=[x,.ty n]∧TyOf K H x t∧PySem.W.kitOne K t (.type n)=some b∧Q (.bl b) H
theorem isiTk (hK:X.K=K):CallR X (.builtin "isinstance") (rIsiT K):=by subst hK;exact call_isiT
def rIsi2 (K:PySem.W.Frag):List V→Hp→VK→Prop:=fun xs H Q=>∃x p m n t b,xs=[x,.ref p]∧H p=some (.tup [.ty m,.ty n])∧TyOf K H x t∧PySem.W.kitAny K t [.type m,.type n]=some b∧Q (.bl b) H
theorem isi2k (hK:X.K=K):CallR X (.builtin "isinstance") (rIsi2 K):=by subst hK;exact call_isi2
theorem pg_tupk (hK:X.K=K) {es:List Expr} {k:Nat} {pos:Pos} {t:TGs} {n:Nat} (hc:X.calm=true) (h:PGs X es t)
    (hn:(assignEach es X.env).length=n:=by rfl) (hst:(assignEach es X.env).findIdx? (·.1)=none:=by rfl):PG X (.Tuple es k pos) (gTup K n t):=by subst hK;exact pg_tup hc h hn hst
theorem pi_listk (hK:X.K=K) {tg l:Expr} {tl:TE} (hl:PE X l tl):PI X tg l (iList K tl):=by subst hK;exact pi_list hl
theorem pe_fldk (hK:X.K=K) {e:Expr} {ta:TE} {f:Str} {pos:Pos} (he:PE X e ta) (hb:attributeBase e f X.env (eval e X.env)=eval e X.env):PE X (.Attribute e f pos) (tFld K ta f):=by subst hK;exact pe_fld he hb
theorem pe_bmk (hK:X.K=K) {o e:Expr} {es:List Expr} {to:TE} {t:TA} {name:Str} {apos cpos:Pos} {T id:String} {r:V→List V→Hp→VK→Prop} (pa:PlainAttrs T) (slot:Slot T name id) (hty:typeOf (.builtin id)=pure (.type "method_descriptor")) (hm:MtR X id r) (ho:PE X o to) (ha:PA X (e::es) t)
    (hbase:attributeBase o name X.env (eval o X.env)=eval o X.env:=by rfl)
    (hfew:((backTo cpos (starEach (e::es) X.env)).all (fun x=>!x.1) && (backToKw cpos (keywordEach [] X.env)).all (fun x=>x.1.isSome)
      && decide ((e::es).length+([]:List Keyword).length+(if ([]:List Keyword).isEmpty then 0 else 1)<30))=true:=by rfl)
    (hline:(apos.endLine == cpos.line)=true:=by rfl) (hs:starEach (e::es) X.env=(false,eval e X.env)::starEach es X.env:=by rfl) (hplain:(backTo cpos (starEach es X.env)).any (·.1)=false:=by rfl) :
    PE X (.Call (.Attribute o name apos) (e::es) [] cpos) (tBM K T r to t):=by subst hK;exact pe_bm pa slot hty hm ho ha hbase hfew hline hs hplain
theorem boot_all':bootBuiltins "all" = some (.builtin "all"):=by decide +kernel
theorem boot_max:bootBuiltins "max" = some (.builtin "max"):=by decide +kernel
theorem boot_min:bootBuiltins "min" = some (.builtin "min"):=by decide +kernel
theorem boot_abs:bootBuiltins "abs" = some (.builtin "abs"):=by decide +kernel
theorem boot_divmod:bootBuiltins "divmod" = some (.builtin "divmod"):=by decide +kernel
end
structure Nm (mg:Str→Option Value):Prop where
  len:mg "len" = none
  max:mg "max" = none
  min:mg "min" = none
  abs:mg "abs" = none
  divmod:mg "divmod" = none
  range:mg "range" = none
  zip:mg "zip" = none
  list:mg "list" = none
  tuple:mg "tuple" = none
  int:mg "int" = none
  str:mg "str" = none
  set:mg "set" = none
  all:mg "all" = none
  isinstance:mg "isinstance" = none
section
variable {K:PySem.W.Frag} {own:List Str} {caps:List Nat} {g:TG} {tt:TT} {te:TE} {D:Addr} {σ:St} {H:Hp} {Q:Hp→Prop}
abbrev CTurn (g:TG) (tt:TT) (te:TE) (D:Addr) (N:St→Hp→Prop) (x:V) (σ:St) (H:Hp):Prop:=
  g x σ H fun σ2 H3=>tt σ2 H3 fun b H4=>if b=true then te σ2 H4 fun y H5=>∃ys,H5 D=some (.lst ys)∧ys.length<sizeLine∧N σ2 (upd H5 D (.lst (ys++[y]))) else N σ2 H4
theorem comp_list {l:Addr} {xs:List V} (Pv:Nat→St→Hp→Prop) (h0:Pv 0 (stC own caps σ) H) (hl:∀i σ H,i≤xs.length→Pv i σ H→SqL K H l xs)
    (hs:∀i x σ H,xs[i]? = some x→Pv i σ H→CTurn g tt te D (Pv (i+1)) x σ H) (hd:∀σ H,Pv xs.length σ H→Q H):tCompAt own caps (Itl K l) g tt te D σ H Q:=by
  refine ⟨fun i m σ H=>m=xs.length - i∧i≤xs.length∧Pv i σ H,⟨xs.length,by simp,Nat.zero_le _,h0⟩,?_⟩
  rintro i m σ H ⟨rfl,hi,p⟩
  have q:=hl i σ H hi p
  by_cases hlt:i<xs.length
  · refine .inr ⟨⟨xs,xs[i],q,by simp [hlt]⟩,Pv (i+1),fun σ' H' p'=>⟨xs.length - (i+1),by omega,rfl,hlt,p'⟩,fun x H' y=>?_⟩
    obtain ⟨e,y⟩:=y
    subst e
    exact hs i x σ _ (y xs q) p
  · have e:i=xs.length:=by omega
    subst e
    exact .inl ⟨⟨xs,q,Nat.le_refl _⟩,hd σ H p⟩
theorem comp_tup {l:Addr} {xs:List V} (Pv:Nat→St→Hp→Prop) (h0:Pv 0 (stC own caps σ) H) (hl:∀i σ H,i≤xs.length→Pv i σ H→SqT K H l xs)
    (hs:∀i x σ H,xs[i]? = some x→Pv i σ H→CTurn g tt te D (Pv (i+1)) x σ H) (hd:∀σ H,Pv xs.length σ H→Q H):tCompAt own caps (Itt K l) g tt te D σ H Q:=by
  refine ⟨fun i m σ H=>m=xs.length - i∧i≤xs.length∧Pv i σ H,⟨xs.length,by simp,Nat.zero_le _,h0⟩,?_⟩
  rintro i m σ H ⟨rfl,hi,p⟩
  have q:=hl i σ H hi p
  by_cases hlt:i<xs.length
  · refine .inr ⟨⟨xs,xs[i],q,by simp [hlt]⟩,Pv (i+1),fun σ' H' p'=>⟨xs.length - (i+1),by omega,rfl,hlt,p'⟩,fun x H' y=>?_⟩
    obtain ⟨e,y⟩:=y
    subst e
    exact hs i x σ _ (y xs q) p
  · have e:i=xs.length:=by omega
    subst e
    exact .inl ⟨⟨xs,q,Nat.le_refl _⟩,hd σ H p⟩
theorem comp_range {lo:Int} {n:Nat} (Pv:Nat→St→Hp→Prop) (h0:Pv 0 (stC own caps σ) H)
    (hs:∀i σ H,i<n→Pv i σ H→CTurn g tt te D (Pv (i+1)) (.int (lo+i)) σ H) (hd:∀σ H,Pv n σ H→Q H):tCompAt own caps (Itr lo n) g tt te D σ H Q:=by
  refine ⟨fun i m σ H=>m=n - i∧i≤n∧Pv i σ H,⟨n,by simp,Nat.zero_le _,h0⟩,?_⟩
  rintro i m σ H ⟨rfl,hi,p⟩
  by_cases hlt:i<n
  · refine .inr ⟨hlt,Pv (i+1),fun σ' H' p'=>⟨n - (i+1),by omega,rfl,hlt,p'⟩,fun x H' y=>?_⟩
    obtain ⟨e,y⟩:=y
    subst e y
    exact hs i σ _ hlt p
  · have e:i=n:=by omega
    subst e
    exact .inl ⟨Nat.le_refl _,hd σ H p⟩
theorem comp_str {z:Str} (Pv:Nat→St→Hp→Prop) (h0:Pv 0 (stC own caps σ) H)
    (hs:∀i c σ H,z.cps[i]? = some c→Pv i σ H→CTurn g tt te D (Pv (i+1)) (.str ⟨#[c]⟩) σ H) (hd:∀σ H,Pv z.cps.size σ H→Q H):tCompAt own caps (Its z) g tt te D σ H Q:=by
  refine ⟨fun i m σ H=>m=z.cps.size - i∧i≤z.cps.size∧Pv i σ H,⟨z.cps.size,by simp,Nat.zero_le _,h0⟩,?_⟩
  rintro i m σ H ⟨rfl,hi,p⟩
  by_cases hlt:i<z.cps.size
  · refine .inr ⟨hlt,Pv (i+1),fun σ' H' p'=>⟨z.cps.size - (i+1),by omega,rfl,hlt,p'⟩,fun x H' y=>?_⟩
    obtain ⟨e,c,hc,rfl⟩:=y
    subst e
    exact hs i c σ _ hc p
  · have e:i=z.cps.size:=by omega
    subst e
    exact .inl ⟨Nat.le_refl _,hd σ H p⟩
theorem comp_zip {l1 l2:Addr} {xs ys:List V} (Pv:Nat→St→Hp→Prop) (h0:Pv 0 (stC own caps σ) H) (he:xs.length=ys.length) (hl:∀i σ H,i≤xs.length→Pv i σ H→SqL K H l1 xs∧SqL K H l2 ys)
    (hs:∀i x y t σ H,xs[i]? = some x→ys[i]? = some y→H t=none→Pv i σ H→CTurn g tt te D (Pv (i+1)) (.ref t) σ (upd H t (.tup [x,y]))) (hd:∀σ H,Pv xs.length σ H→Q H):tCompAt own caps (Itz K l1 l2) g tt te D σ H Q:=by
  refine ⟨fun i m σ H=>m=xs.length - i∧i≤xs.length∧Pv i σ H,⟨xs.length,by simp,Nat.zero_le _,h0⟩,?_⟩
  rintro i m σ H ⟨rfl,hi,p⟩
  obtain ⟨q1,q2⟩:=hl i σ H hi p
  by_cases hlt:i<xs.length
  · have hlt2:i<ys.length:=by omega
    refine .inr ⟨⟨xs,ys,xs[i],ys[i],q1,q2,by simp [hlt],by simp [hlt2]⟩,Pv (i+1),fun σ' H' p'=>⟨xs.length - (i+1),by omega,rfl,hlt,p'⟩,fun x H' y=>?_⟩
    obtain ⟨t,u,v,rfl,ht,rfl,e1,e2⟩:=y
    exact hs i u v t σ H (e1 xs q1) (e2 ys q2) ht p
  · have e:i=xs.length:=by omega
    subst e
    exact .inl ⟨⟨xs,ys,q1,q2,.inl (Nat.le_refl _)⟩,hd σ H p⟩
end
def SqB (b:Bool) (K:PySem.W.Frag) (H:Hp) (p:Addr) (xs:List V):Prop:=match b with | true=>SqL K H p xs | false=>SqT K H p xs
def Itq (b:Bool) (K:PySem.W.Frag) (p:Addr):It:=match b with | true=>Itl K p | false=>Itt K p
def iSeq (K:PySem.W.Frag) (tl:TE):TI:=fun σ H R=>tl σ H fun x H1=>∃b p,x = .ref p∧(∃xs,SqB b K H1 p xs)∧R (Itq b K p) H1
theorem pi_seqk {X:Cx} {K:PySem.W.Frag} (hK:X.K=K) {tg l:Expr} {tl:TE} (hl:PE X l tl):PI X tg l (iSeq K tl):=by
  intro pins s σ H R I h
  refine thn (hl pins s σ H _ I h) fun v s1 zz=>?_
  obtain ⟨x,H1,I1,r1,q1⟩:=zz
  obtain ⟨b,p,e,hq,q⟩:=q1
  subst e
  subst hK
  cases b with
  | true=>
    cases r1
    obtain ⟨xs,hq⟩:=hq
    obtain ⟨its,rv,pl,hz⟩:=I1.list hq
    refine wpAny_pyIter_list pl.isList ?_
    refine ⟨s1.heap.objs.size,[s1.heap.objs.size],_,_,H1,rfl,I1.kept (t':=s1.toks) fun b o e=>Heap.get?_push_of_some _ e,turn_list p _,⟨_,Heap.get?_push_size _ rfl,rfl,rfl⟩,fun b hb=>?_,q⟩
    have e:b=s1.heap.objs.size:=by simpa using hb
    subst e
    exact I1.fpOk (Nat.le_refl _) (I1.hok.fresh (Nat.le_refl _))
  | false=>
    cases r1
    obtain ⟨xs,hq⟩:=hq
    obtain ⟨its,rv,pl,hz⟩:=I1.tuple hq
    refine wpAny_pyIter_tuple (show s1.heap.IsTuple p its.toArray from pl) ?_
    refine ⟨s1.heap.objs.size,[s1.heap.objs.size],_,_,H1,rfl,I1.kept (t':=s1.toks) fun b o e=>Heap.get?_push_of_some _ e,turn_tuple p _,⟨_,Heap.get?_push_size _ rfl,rfl,rfl⟩,fun b hb=>?_,q⟩
    have e:b=s1.heap.objs.size:=by simpa using hb
    subst e
    exact I1.fpOk (Nat.le_refl _) (I1.hok.fresh (Nat.le_refl _))
section
variable {K:PySem.W.Frag} {own:List Str} {caps:List Nat} {g:TG} {tt:TT} {te:TE} {D:Addr} {σ:St} {H:Hp} {Q:Hp→Prop}
theorem comp_seq {b:Bool} {l:Addr} {xs:List V} (Pv:Nat→St→Hp→Prop) (h0:Pv 0 (stC own caps σ) H) (hl:∀i σ H,i≤xs.length→Pv i σ H→SqB b K H l xs)
    (hs:∀i x σ H,xs[i]? = some x→Pv i σ H→CTurn g tt te D (Pv (i+1)) x σ H) (hd:∀σ H,Pv xs.length σ H→Q H):tCompAt own caps (Itq b K l) g tt te D σ H Q:=by
  cases b with
  | true=>exact comp_list Pv h0 hl hs hd
  | false=>exact comp_tup Pv h0 hl hs hd
end
theorem same_upd {H:Hp} {p:Addr} {o:HO} (h:H p=none):Same H (upd H p o):=fun b u e=>by rw [upd_ne (ne_of_none e h)];exact e
theorem same_upd2 {H H':Hp} {p:Addr} {o:HO} (s:Same H H') (h:H p=none):Same H (upd H' p o):=fun b u e=>by rw [upd_ne (ne_of_none e h)];exact s b u e
def Sq (H:Hp) (p:Addr) (xs:List V):Prop:=H p=some (.lst xs)∨H p=some (.tup xs)
theorem Sq.q {K:PySem.W.Frag} {H:Hp} {p:Addr} {xs:List V} (h:Sq H p xs):SqL K H p xs∨SqT K H p xs:=h.elim (fun e=>.inl (SqL.of e)) fun e=>.inr (SqT.of e)
theorem Sq.b {H:Hp} {p:Addr} {xs:List V} (h:Sq H p xs):∃b,∀K H',Same H H'→SqB b K H' p xs:=h.elim (fun e=>⟨true,fun _ _ s=>SqL.of (s _ _ e)⟩) fun e=>⟨false,fun _ _ s=>SqT.of (s _ _ e)⟩
theorem Sq.same {H H':Hp} {p:Addr} {xs:List V} (h:Sq H p xs) (s:Same H H'):Sq H' p xs:=h.elim (fun e=>.inl (s _ _ e)) fun e=>.inr (s _ _ e)
theorem Sq.ty {K:PySem.W.Frag} {H:Hp} {p:Addr} {xs:List V} (h:Sq H p xs):TyOf K H (.ref p) (.type "list")∨TyOf K H (.ref p) (.type "tuple"):=h.elim (fun e=>.inl (.lst e)) fun e=>.inr (.tup e)
theorem blAll_map {α:Type} (f:α→Bool):∀l:List α,blAll (l.map fun c=>.bl (f c)) (l.map f)
  | []=>rfl
  | c::l=>⟨f c,l.map f,rfl,rfl,blAll_map f l⟩
theorem all_map_id {α:Type} (f:α→Bool) (l:List α):(l.map f).all id=l.all f:=by
  rw [List.all_map]
  rfl
theorem take_one {α:Type} {l:List α} {i:Nat} {x:α} (h:l[i]? = some x):l.take (i+1)=l.take i++[x]:=by
  rw [List.take_succ,h]
  rfl
def rTupleS:List V→Hp→VK→Prop:=fun xs H Q=>∃p ys,xs=[.ref p]∧Sq H p ys∧∀l H',H' l=some (.tup ys)→Same H H'→Q (.ref l) H'
theorem tupleOfS {X:Cx}:CallR X (.type "tuple") rTupleS:=by
  intro pins s σ H xs us Q I r h
  obtain ⟨p,ys,rfl,hq,q⟩:=h
  refine call_tuple_of pins s σ H _ us Q I r ⟨p,ys,rfl,?_⟩
  rcases hq with e | e
  ·exact .inl ⟨SqL.of e,fun l hl=>q l _ upd_same (same_upd hl)⟩
  ·exact .inr ⟨SqT.of e,q p H e (Same.refl H)⟩
def tForAt (J:It) (g:TG) (tb:TS):TS:=fun D σ H=>∃W:Nat→Nat→St→Hp→Prop,(∃m,W 0 m σ H)∧∀i m σ H,W i m σ H→
      (J.stop i H∧D.nx σ H)∨(J.go i H∧∃N:St→Hp→Prop,(∀σ' H',N σ' H'→∃m',m'<m∧W (i+1) m' σ' H')∧∀x H',J.yld i H x H'→g x σ H' fun σ2 H2=>tb {D with nx:=N,ct:=N,bk:=D.nx} σ2 H2)
theorem upd_old {H:Hp} {b p:Addr} {o u:HO} (h:H b=some o) (n:H p=none):upd H p u b=some o:=by rw [upd_ne (ne_of_none h n)];exact h
theorem upd_oth {H:Hp} {b p:Addr} {o o' u:HO} (h:H b=some o) (n:H p=some o') (d:o≠o'):upd H p u b=some o:=by
  rw [upd_ne (fun e=>d (by subst e;rw [h] at n;exact Option.some.inj n))];exact h
theorem fresh_of {H H':Hp} {b:Addr} (s:Same H H') (h:H' b=none):H b=none:=by
  cases e:H b with
  | none=>rfl
  | some o=>rw [s b o e] at h;cases h
def But (p:Addr) (H H':Hp):Prop:=∀b o,b≠p→H b=some o→H' b=some o
theorem But.refl (p:Addr) (H:Hp):But p H H:=fun _ _ _ e=>e
theorem But.trans {p:Addr} {H H1 H2:Hp} (x:But p H H1) (y:But p H1 H2):But p H H2:=fun b o hb e=>y b o hb (x b o hb e)
theorem But.new {p q:Addr} {H H':Hp} {u:HO} (x:But p H H') (h:H q=none):But p H (upd H' q u):=fun b o hb e=>by
  rw [upd_ne (ne_of_none e h)]
  exact x b o hb e
theorem But.of {p:Addr} {H H':Hp} (x:Same H H'):But p H H':=fun b o _ e=>x b o e
theorem But.same {p:Addr} {H H1 H2:Hp} (x:But p H H1) (y:Same H1 H2):But p H H2:=fun b o hb e=>y b o (x b o hb e)
theorem But.none {p b:Addr} {H H':Hp} {u:HO} (x:But p H H') (hp:H' p=some u) (h:H' b = .none):H b = .none:=by
  cases e:H b with
  | none=>rfl
  | some o=>
    have hb:b≠p:=fun z=>by subst z;rw [hp] at h;cases h
    rw [x b o hb e] at h
    cases h
theorem atI_int {α:Type} {xs:List α} {i:Int} (h0:0≤i) (h1:i<xs.length):∃v,xs[i.toNat]? = some v∧atI xs i=some v:=by
  obtain ⟨j,rfl⟩:∃j:Nat,i=j:=⟨i.toNat,by omega⟩
  have hj:j<xs.length:=by omega
  exact ⟨xs[j],by simp [hj],atI_nat (by simp [hj])⟩
theorem mod_ne {d e n:Int} (h0:0≤d) (h1:d<n) (h2:0≤e) (h3:e<n - 1):0≤(d+1+e) % n∧(d+1+e) % n<n∧(d+1+e) % n≠d:=by
  refine ⟨Int.emod_nonneg _ (by omega),Int.emod_lt_of_pos _ (by omega),?_⟩
  by_cases h:d+1+e<n
  ·rw [Int.emod_eq_of_lt (by omega) h];omega
  · have z:d+1+e=(d+1+e - n)+n * 1:=by omega
    rw [z,Int.add_mul_emod_self_left,Int.emod_eq_of_lt (by omega) (by omega)];omega
theorem str_at {xs:List Str} {i:Nat} {x:V} (h:(xs.map V.str)[i]? = some x):∃z,xs[i]? = some z∧x = .str z:=by
  rw [List.getElem?_map] at h
  cases e:xs[i]? with
  | none=>rw [e] at h;cases h
  | some z=>rw [e] at h;exact ⟨z,rfl,(Option.some.inj h).symm⟩
theorem nodup_at {α:Type} {xs:List α} (h:xs.Nodup) {i j:Nat} {x:α} (hi:xs[i]? = some x) (hj:xs[j]? = some x):i=j:=by
  obtain ⟨h1,e1⟩:=List.getElem?_eq_some_iff.mp hi
  obtain ⟨h2,e2⟩:=List.getElem?_eq_some_iff.mp hj
  exact (List.getElem_inj h).mp (e1.trans e2.symm)
def isL (c:Nat):Bool:=!(Builtin.Str.occurrences ("abcdefghijklmnopqrstuvwxyz" : Str) ⟨#[c]⟩ 0 ("abcdefghijklmnopqrstuvwxyz" : Str).length 1).isEmpty
def nameB (x:Str):Bool:=decide (1≤x.length) && decide (x.length≤4) && x.cps.toList.all isL
theorem isL_of:∀n<26,isL (97+n)=true:=by decide +kernel
theorem letters_at:∀n:Nat,n<26→atI (Str.ofString "abcdefghijklmnopqrstuvwxyz").cps.toList (n:Int)=some (97+n):=by decide +kernel
theorem letters_len:(Str.ofString "abcdefghijklmnopqrstuvwxyz").length≤sizeLine:=by decide +kernel
theorem letters_int {i:Int} (h0:0≤i) (h1:i<26):∃n:Nat,i=n∧n<26∧atI (Str.ofString "abcdefghijklmnopqrstuvwxyz").cps.toList i=some (97+n):=
  ⟨i.toNat,by omega,by omega,by
    obtain ⟨n,rfl⟩:∃n:Nat,i=n:=⟨i.toNat,by omega⟩
    exact letters_at n (by omega)⟩
structure WordOf (c:Nat) (k:Nat) (x:Str):Prop where
  len:x.length=k
  fst:x.cps[0]? = some c
  all:x.cps.toList.all isL=true
theorem WordOf.one {n:Nat} (h:n<26):WordOf (97+n) 1 ⟨#[97+n]⟩:=⟨rfl,rfl,by simp [isL_of n h]⟩
theorem WordOf.name {c k:Nat} {x:Str} (h:WordOf c k x) (h1:1≤k) (h4:k≤4):nameB x=true:=by
  unfold nameB
  rw [h.len,h.all]
  simp
  omega
section
variable {κ:Type} [DecidableEq κ]
def valV (kvs:List (κ×V)) (k:κ):Option V:=(kvs.find? fun kv=>decide (kv.1=k)).map (·.2)
def putK (kvs:List (κ×V)) (k:κ) (v:V):List (κ×V):=
  if (kvs.any fun kv=>decide (kv.1=k))=true then kvs.map (fun kv=>if kv.1=k then (kv.1,v) else kv) else kvs++[(k,v)]
theorem valV_pos {p:κ×V} {r:List (κ×V)} {k:κ} (e:p.1=k):valV (p::r) k=some p.2:=by simp [valV,List.find?_cons,e]
theorem valV_neg {p:κ×V} {r:List (κ×V)} {k:κ} (e:¬p.1=k):valV (p::r) k=valV r k:=by simp [valV,List.find?_cons,e]
theorem valV_any (k:κ):∀kvs:List (κ×V),(kvs.any fun kv=>decide (kv.1=k))=(valV kvs k).isSome
  | []=>rfl
  | p::r=>by
    rw [List.any_cons]
    by_cases e:p.1=k
    ·simp only [valV_pos e,decide_eq_true e,Bool.true_or,Option.isSome_some]
    ·rw [valV_neg e,decide_eq_false e,Bool.false_or];exact valV_any k r
theorem length_putK (kvs:List (κ×V)) (k:κ) (v:V):(putK kvs k v).length≤kvs.length+1:=by
  unfold putK
  split
  ·rw [List.length_map];omega
  ·rw [List.length_append,List.length_cons,List.length_nil];omega
theorem putK_new {kvs:List (κ×V)} {k:κ} (v:V) (h:valV kvs k=none):putK kvs k v=kvs++[(k,v)]:=by
  unfold putK
  rw [valV_any,h]
  exact if_neg (by decide)
theorem RelO.isSome_eq {o:Option V} {u:Option Value} (r:RelO o u):o.isSome=u.isSome:=by
  cases o with
  | none=>cases u with
    | none=>rfl
    | some _=>exact (show False from r).elim
  | some _=>cases u with
    | none=>exact (show False from r).elim
    | some _=>rfl
theorem RelO.getD {o:Option V} {u:Option Value} {d:V} {d':Value} (r:RelO o u) (rd:RelV d d'):RelV (o.getD d) (u.getD d'):=by
  cases o with
  | none=>cases u with
    | none=>exact rd
    | some _=>exact (show False from r).elim
  | some _=>cases u with
    | none=>exact (show False from r).elim
    | some _=>exact r
theorem KV.val {kvs:List (κ×V)} {vs:List (κ×Value)} (r:KV kvs vs) (k:κ):RelO (valV kvs k) (valueAt vs k):=by
  unfold KV at r
  induction r with
  | nil=>exact True.intro
  | @cons p q ps qs h t ih=>
    obtain ⟨h1,h2⟩:=h
    by_cases e:p.1=k
    · have e':q.1=k:=h1.symm.trans e
      have b:valueAt (q::qs) k=some q.2:=by simp [valueAt,List.find?_cons,e']
      rw [valV_pos e,b];exact h2
    · have e':¬q.1=k:=fun z=>e (h1.trans z)
      have b:valueAt (q::qs) k=valueAt qs k:=by simp [valueAt,List.find?_cons,e']
      rw [valV_neg e,b];exact ih
theorem KV.any {kvs:List (κ×V)} {vs:List (κ×Value)} (r:KV kvs vs) (k:κ):(kvs.any fun kv=>decide (kv.1=k))=vs.any fun kv=>decide (kv.1=k):=by
  unfold KV at r
  induction r with
  | nil=>rfl
  | cons h t ih=>rw [List.any_cons,List.any_cons,ih,h.1]
theorem KV.repl {kvs:List (κ×V)} {vs:List (κ×Value)} (r:KV kvs vs) (k:κ) {y:V} {u:Value} (ry:RelV y u) :
    KV (kvs.map fun kv=>if kv.1=k then (kv.1,y) else kv) (vs.map fun kv=>if kv.1=k then (kv.1,u) else kv):=by
  unfold KV at r ⊢
  induction r with
  | nil=>exact .nil
  | @cons p q ps qs h t ih=>
    rw [List.map_cons,List.map_cons]
    refine .cons ?_ ih
    obtain ⟨h1,h2⟩:=h
    by_cases e:p.1=k
    ·rw [if_pos e,if_pos (h1.symm.trans e)];exact ⟨h1,ry⟩
    ·rw [if_neg e,if_neg (fun z=>e (h1.trans z))];exact ⟨h1,h2⟩
theorem KV.put {kvs:List (κ×V)} {vs:List (κ×Value)} (r:KV kvs vs) (k:κ) {y:V} {u:Value} (ry:RelV y u):KV (putK kvs k y) (stored vs k u):=by
  unfold putK stored
  rw [r.any k]
  by_cases e:(vs.any fun kv=>decide (kv.1=k))=true
  ·rw [if_pos e,if_pos e];exact r.repl k ry
  ·rw [if_neg e,if_neg e];exact Paired.snoc r ⟨rfl,ry⟩
theorem KV.length {kvs:List (κ×V)} {vs:List (κ×Value)} (r:KV kvs vs):kvs.length=vs.length:=Paired.length r
end
theorem kV_is {P:Program} {w:World} {k:Key} {u:Value} (r:RelV (kV k) u):(mixKind P w).is k u=true:=by
  cases k with
  | inl i=>obtain ⟨t,e⟩:=(show ∃t,u=Value.int i t from r);subst e;exact mixKind_int P w i t
  | inr x=>obtain ⟨t,e⟩:=(show ∃t,u=Value.str x t from r);subst e;exact mixKind_str P w x t
theorem items_are {P:Program} {w:World}:∀{ks:List Key} {us:List Value},Vals (ks.map kV) us→ItemsAre (mixKind P w) ks us
  | [],_,r=>by rw [List.map_nil] at r;cases r;exact .nil
  | k::ks,_,r=>by
    rw [List.map_cons] at r
    cases r with
    | cons h t=>exact .cons (kV_is h) (items_are t)
abbrev KT (H:Hp):List (List Key×V)→List (List Key×Addr×Value)→Prop:=Paired fun p q=>p.1=q.1∧H q.2.1=some (.tup (p.1.map kV))∧RelV p.2 q.2.2
theorem KT.val {H:Hp} {kvs:List (List Key×V)} {xs:List (List Key×Addr×Value)} (r:KT H kvs xs) (k:List Key):RelO (valV kvs k) ((atKey xs k).map (·.2)):=by
  induction r with
  | nil=>exact True.intro
  | @cons p q ps qs h t ih=>
    obtain ⟨h1,_,h2⟩:=h
    by_cases e:p.1=k
    · have e':q.1=k:=h1.symm.trans e
      have b:atKey (q::qs) k=some q.2:=by simp [atKey,List.find?_cons,e']
      rw [valV_pos e,b];exact h2
    · have e':¬q.1=k:=fun z=>e (h1.trans z)
      have b:atKey (q::qs) k=atKey qs k:=by simp [atKey,List.find?_cons,e']
      rw [valV_neg e,b];exact ih
theorem KT.repl {H:Hp} {kvs:List (List Key×V)} {xs:List (List Key×Addr×Value)} (r:KT H kvs xs) (k:List Key) {y:V} {u:Value} (ry:RelV y u) :
    KT H (kvs.map fun kv=>if kv.1=k then (kv.1,y) else kv) (xs.map (putAt k u)):=by
  induction r with
  | nil=>exact .nil
  | @cons p q ps qs h t ih=>
    rw [List.map_cons,List.map_cons]
    refine .cons ?_ ih
    obtain ⟨h1,h2,h3⟩:=h
    unfold putAt
    by_cases e:p.1=k
    ·rw [if_pos e,if_pos (h1.symm.trans e)];exact ⟨h1,h2,ry⟩
    ·rw [if_neg e,if_neg (fun z=>e (h1.trans z))];exact ⟨h1,h2,h3⟩
theorem KT.put {H:Hp} {kvs:List (List Key×V)} {xs:List (List Key×Addr×Value)} (r:KT H kvs xs) (k:List Key) {b:Addr} {y:V} {u:Value} (hb:H b=some (.tup (k.map kV))) (ry:RelV y u) :
    KT H (putK kvs k y) (storedH xs k b u):=by
  have e:(kvs.any fun kv=>decide (kv.1=k))=(atKey xs k).isSome:=by
    rw [valV_any,(r.val k).isSome_eq,Option.isSome_map]
  unfold putK storedH
  rw [e]
  by_cases q:(atKey xs k).isSome=true
  ·rw [if_pos q,if_pos q];exact r.repl k ry
  ·rw [if_neg q,if_neg q];exact Paired.snoc r ⟨rfl,hb,ry⟩
theorem KT.keeps {H H':Hp} {kvs:List (List Key×V)} {xs:List (List Key×Addr×Value)} (r:KT H kvs xs) (ht:∀b ys,H b=some (.tup ys)→H' b=some (.tup ys)):KT H' kvs xs:=
  Paired.mapP r fun _ _ z=>⟨z.1,ht _ _ z.2.1,z.2.2⟩
section
variable {P:Program} {w:World} {H:Hp} {h:Heap} {a:Addr}
theorem rd_of {u:HO} (ok:HOk P w H h) (e:Rd H a u):ObjOk P w H h a u:=e.ok ok
theorem dk_rd {kvs:List (Key×V)} (ok:HOk P w H h) (e:Rd H a (.dK kvs)):kvs.length≤sizeLine∧(a == sysModules)=false∧∃vs,KV kvs vs∧h.DictOf (mixKind P w) a vs:=
  show ObjOk P w H h a (.dK kvs) from rd_of ok e
theorem dk_of {kvs:List (Key×V)} (ok:HOk P w H h) (e:H a=some (.dK kvs)):kvs.length≤sizeLine∧(a == sysModules)=false∧∃vs,KV kvs vs∧h.DictOf (mixKind P w) a vs:=dk_rd ok (.inl e)
theorem key_of {ks:List Key} (ok:HOk P w H h) (e:H a=some (.tup (ks.map kV))):(tupleKind (mixKind P w)).is h ks a:=by
  obtain ⟨_,its,r,o,h1,h2,n,h3⟩:=(show ObjOk P w H h a (.tup (ks.map kV)) from ok a _ e)
  exact ⟨o,its.toArray,n,h1,h2,h3,by simpa using items_are r⟩
theorem dt_rd {kvs:List (List Key×V)} (ok:HOk P w H h) (e:Rd H a (.dT kvs)):kvs.length≤sizeLine∧(a == sysModules)=false∧
    ∃xs,KT H kvs xs∧h.DictOfH (tupleKind (mixKind P w)) a xs:=by
  obtain ⟨z,y,xs,r,o,es,ep,h1,h2,h3,h4,h5⟩:=(show ObjOk P w H h a (.dT kvs) from rd_of ok e)
  refine ⟨z,y,xs,r,o,es,ep,h1,h2,h3,h4,fun x hx=>?_,h5⟩
  have all:∀{l:List (List Key×V)} {m:List (List Key×Addr×Value)},KT H l m→∀x∈m,(tupleKind (mixKind P w)).is h x.1 x.2.1:=by
    intro l m q
    induction q with
    | nil=>intro x hx;exact nomatch hx
    | @cons p q ps qs hq t ih=>
      intro x hx
      rcases List.mem_cons.mp hx with e | hx
      · subst e
        exact key_of ok (by rw [← hq.1];exact hq.2.1)
      ·exact ih x hx
  exact all r x hx
theorem dt_of {kvs:List (List Key×V)} (ok:HOk P w H h) (e:H a=some (.dT kvs)):kvs.length≤sizeLine∧(a == sysModules)=false∧
    ∃xs,KT H kvs xs∧h.DictOfH (tupleKind (mixKind P w)) a xs:=dt_rd ok (.inl e)
end
def DGet (H:Hp) (a:Addr) (y:V) (r:Option V):Prop:=
  (∃kvs k,Rd H a (.dK kvs)∧y=kV k∧r=valV kvs k)∨∃kvs k b,Rd H a (.dT kvs)∧y = .ref b∧H b=some (.tup (k.map kV))∧r=valV kvs k
def DPut (H:Hp) (a:Addr) (y v:V) (H':Hp):Prop:=
  (∃kvs k,H a=some (.dK kvs)∧y=kV k∧kvs.length<sizeLine∧H'=upd H a (.dK (putK kvs k v)))∨
  ∃kvs k b,H a=some (.dT kvs)∧y = .ref b∧H b=some (.tup (k.map kV))∧kvs.length<sizeLine∧H'=upd H a (.dT (putK kvs k v))
theorem DGet.k {H:Hp} {a:Addr} {kvs:List (Key×V)} {k:Key} (e:H a=some (.dK kvs)):DGet H a (kV k) (valV kvs k):=.inl ⟨kvs,k,.inl e,rfl,rfl⟩
theorem DPut.k {H:Hp} {a:Addr} {kvs:List (Key×V)} {k:Key} {v:V} (e:H a=some (.dK kvs)) (hl:kvs.length<sizeLine):DPut H a (kV k) v (upd H a (.dK (putK kvs k v))):=.inl ⟨kvs,k,e,rfl,hl,rfl⟩
section
variable {X:Cx} {pins:List (Addr×Obj)} {σ:St} {H:Hp} {s:Shared} {a:Addr} {y v:V} {u r:Value} {o:Option V} {A:Around} {E:Value→Shared→Prop}
theorem Inv.big (I:Inv X pins σ H s):sysModules<s.heap.objs.size:=by
  have h:mainGlobals<s.heap.objs.size:=(I.mod.glob.keeps I.bk).lt
  exact Nat.lt_trans (by decide) h
theorem d_getItem {Q:Value→Shared→Prop} (hu:A.units+1<cLine) (I:Inv X pins σ H s) (g:DGet H a y (some v)) (ry:RelV y u) (h:∀w' s',Inv X pins σ H s'→RelV v w'→Q w' s') :
    wpAny (model X.prog X.w) A (getItem (.ref a) u) Q E s:=by
  rcases g with ⟨kvs,k,e,ey,l⟩ | ⟨kvs,k,b,e,ey,eb,l⟩
  · subst ey
    obtain ⟨z,hd,vs,rel,dd⟩:=dk_rd I.hok e
    obtain ⟨w',hw,rw'⟩:=RelO.some_of (v:=v) (o:=valueAt vs k) (by rw [l];exact rel.val k)
    exact wpAny_getItem_of (kV_is ry) dd.mapOf hw (h w' _ (I.tok _) rw')
  · subst ey
    cases (show u=Value.ref b from ry)
    obtain ⟨z,hd,xs,rel,dd⟩:=dt_rd I.hok e
    obtain ⟨w',hw,rw'⟩:=RelO.some_of (v:=v) (o:=(atKey xs k).map (·.2)) (by rw [l];exact rel.val k)
    obtain ⟨p,hp,hp2⟩:=Option.map_eq_some_iff.mp hw
    refine wpAny_getItem_heap (tupleKind_room_in1 hu) (key_of I.hok eb) dd hp ?_
    rw [hp2]
    exact h w' _ (I.tok _) rw'
theorem d_in {Q:Value→Shared→Prop} (hu:A.units+1<cLine) (I:Inv X pins σ H s) (g:DGet H a y o) (ry:RelV y u) (h:∀s',Inv X pins σ H s'→Q (.bool o.isSome) s') :
    wpAny (model X.prog X.w) A (compareOp .In u (.ref a)) Q E s:=by
  rcases g with ⟨kvs,k,e,ey,l⟩ | ⟨kvs,k,b,e,ey,eb,l⟩
  · subst ey
    obtain ⟨z,hd,vs,rel,dd⟩:=dk_rd I.hok e
    refine wpAny_in_of (kV_is ry) hd dd.mapOf ?_
    rw [← (rel.val k).isSome_eq,← l]
    exact h _ (I.tok _)
  · subst ey
    cases (show u=Value.ref b from ry)
    obtain ⟨z,hd,xs,rel,dd⟩:=dt_rd I.hok e
    refine wpAny_in_heap (tupleKind_room_in1 hu) (key_of I.hok eb) hd dd ?_
    have q:=(rel.val k).isSome_eq
    rw [Option.isSome_map] at q
    rw [← q,← l]
    exact h _ (I.tok _)
theorem d_notIn {Q:Value→Shared→Prop} (hu:A.units+1<cLine) (I:Inv X pins σ H s) (g:DGet H a y o) (ry:RelV y u) (h:∀s',Inv X pins σ H s'→Q (.bool (!o.isSome)) s') :
    wpAny (model X.prog X.w) A (compareOp .NotIn u (.ref a)) Q E s:=by
  rcases g with ⟨kvs,k,e,ey,l⟩ | ⟨kvs,k,b,e,ey,eb,l⟩
  · subst ey
    obtain ⟨z,hd,vs,rel,dd⟩:=dk_rd I.hok e
    refine wpAny_notIn_of (kV_is ry) hd dd.mapOf ?_
    rw [← (rel.val k).isSome_eq,← l]
    exact h _ (I.tok _)
  · subst ey
    cases (show u=Value.ref b from ry)
    obtain ⟨z,hd,xs,rel,dd⟩:=dt_rd I.hok e
    refine wpAny_notIn_heap (tupleKind_room_in1 hu) (key_of I.hok eb) hd dd ?_
    have q:=(rel.val k).isSome_eq
    rw [Option.isSome_map] at q
    rw [← q,← l]
    exact h _ (I.tok _)
theorem d_write {h':Heap} {t':Nat} {ob:HO} (I:Inv X pins σ H s) (mu:Mut (H a)) (hs:Heap.SameBut a s.heap h') (he:∃q,h'.get? a=some q) (new:ObjOk X.prog X.w (upd H a ob) h' a ob) :
    Inv X pins σ (upd H a ob) {s with heap:=h',toks:=t'}:=
  I.write (x:=a) (e:=a) mu (.inl rfl) (fun b q hb z=>(hs.2 b hb).trans z) he new
theorem dk_new {P:Program} {w:World} {H':Hp} {h':Heap} {kvs:List (Key×V)} {vs:List (Key×Value)} (z:kvs.length≤sizeLine) (hd:(a == sysModules)=false) (rel:KV kvs vs) (dd:h'.DictOf (mixKind P w) a vs) :
    ObjOk P w H' h' a (.dK kvs):=⟨z,hd,vs,rel,dd⟩
theorem d_setItem {H':Hp} {Q:Unit→Shared→Prop} (hu:A.units+1<cLine) (I:Inv X pins σ H s) (g:DPut H a y v H') (ry:RelV y u) (rv:RelV v r) (h:∀s',Inv X pins σ H' s'→Q () s') :
    wpAny (model X.prog X.w) A (setItem (.ref a) u r) Q E s:=by
  rcases g with ⟨kvs,k,e,ey,l,eH⟩ | ⟨kvs,k,b,e,ey,eb,l,eH⟩
  · subst ey eH
    obtain ⟨z,hd,vs,rel,dd⟩:=dk_of I.hok e
    have hz:vs.length≤sizeLine:=by rw [← rel.length];exact z
    have hl:(putK kvs k v).length≤sizeLine:=by have:=length_putK kvs k v;omega
    refine wpAny_setItem_pairs (hsz:=hz) (kV_is ry) dd fun h' dd' hs=>h _ ?_
    have he:∃q,h'.get? a=some q:=let ⟨q,_,_,hq,_⟩:=dd';⟨q,hq⟩
    exact d_write I (by rw [e];exact True.intro) hs he (dk_new hl hd (rel.put k rv) dd')
  · subst ey eH
    cases (show u=Value.ref b from ry)
    obtain ⟨z,hd,xs,rel,dd⟩:=dt_of I.hok e
    have hz:xs.length≤sizeLine:=by rw [← Paired.length rel];exact z
    have hl:(putK kvs k v).length≤sizeLine:=by have:=length_putK kvs k v;omega
    refine wpAny_setItem_heap (hsz:=hz) (tupleKind_room_in1 hu) (key_of I.hok eb) dd fun h' dd' hs=>h _ ?_
    obtain ⟨q,es,ep,hq,h2,h3,h4,_,h5⟩:=dd'
    refine d_write I (by rw [e];exact True.intro) hs ⟨q,hq⟩ ⟨hl,hd,_,(rel.put k eb rv).keeps fun c ys ec=>?_,q,es,ep,hq,h2,h3,h4,h5⟩
    rw [upd_ne (ne_of ec e (fun z=>nomatch z))]
    exact ec
end
def NoSl (i:Expr):Prop:=∀ov iv,subscripted i false ov iv=operate [ov,iv] (getItem ov iv)
theorem subD_of {prog:Program} {w:World} {A:Around} {E:Value→Shared→Prop} {s:Shared} {env:Env} {value slice:Expr} {pos:Pos} {T id:String} {Q:Value→Shared→Prop}
    (hl:typeLookup (.type T) "__getitem__" = pure (some (.builtin id))) (hs:NoSl slice)
    (h:wpAny (model prog w) A (eval value env) (fun o s₁=>wpAny (model prog w) A (eval slice env) (fun i s₂=>s₂.TypeIs o T∧wpAny (model prog w) A (getItem o i) Q E s₂) E s₁) E s) :
    wpAny (model prog w) A (eval (.Subscript value slice pos) env) Q E s:=by
  refine Subscript_ (wpAny_mono h (fun o s₁ h₁=>wpAny_mono h₁ (fun i s₂ h₂=>?_) fun _ _ x=>x) fun _ _ x=>x)
  obtain ⟨hT,h₂⟩:=h₂
  unfold subscriptTail
  refine wpAny_bind ?_
  rw [getitemInPython_of_ne hT.not_modules]
  refine wpAny_bind (wpAny_specialOf hT hl ?_)
  have fin:wpAny (model prog w) A (subscripted slice false o i) (fun r s₃=>wpAny (model prog w) A (letTemporaryGo value o r >>= fun _=>pure r) Q E s₃) E s₂:=by
    rw [hs o i]
    exact wpAny_operating (wpAny_mono h₂ (fun r s₃ h₃=>wpAny_bind (wpAny_letTemporaryGo (wpAny_pure h₃))) fun _ _ x=>x)
  first
    | exact wpAny_pure (wpAny_bind fin)
    | exact wpAny_bind (wpAny_pure (wpAny_bind fin))
    | exact wpAny_bind fin
theorem dict_typeIs {X:Cx} {pins:List (Addr×Obj)} {σ:St} {H:Hp} {s:Shared} {a:Addr} {y:V} {o:Option V} (I:Inv X pins σ H s) (g:DGet H a y o):s.TypeIs (.ref a) "dict" :=by
  rcases g with ⟨kvs,k,e,_,_⟩ | ⟨kvs,k,b,e,_,_,_⟩
  · obtain ⟨_,_,vs,_,dd⟩:=dk_rd I.hok e
    exact dd.typeIs
  · obtain ⟨_,_,xs,_,dd⟩:=dt_rd I.hok e
    exact dd.typeIs
def tDGet (td ty:TE):TE:=fun σ H Q=>td σ H fun x H1=>ty σ H1 fun y H2=>∃a v,x = .ref a∧DGet H2 a y (some v)∧Q v H2
def tDIn (ty td:TE):TE:=fun σ H Q=>ty σ H fun y H1=>td σ H1 fun x H2=>∃a o,x = .ref a∧DGet H2 a y o∧Q (.bl o.isSome) H2
def tDNotIn (ty td:TE):TE:=fun σ H Q=>ty σ H fun y H1=>td σ H1 fun x H2=>∃a o,x = .ref a∧DGet H2 a y o∧Q (.bl (!o.isSome)) H2
def sDPut (td ty tv:TE):TS:=fun D σ H=>tv σ H fun v H1=>td σ H1 fun x H2=>ty σ H2 fun y H3=>∃a H4,x = .ref a∧DPut H3 a y v H4∧D.nx σ H4
section
variable {X:Cx} {o i e value:Expr} {pos pos' tpos:Pos} {td ty tv:TE}
theorem pe_dget (hu:X.A.units+1<cLine) (ho:PE X o td) (hi:PE X i ty) (hs:NoSl i):PE X (.Subscript o i pos) (tDGet td ty):=by
  intro pins s σ H Q I h
  refine subD_of PySem.F.slot_dict_getitem.lookup hs (thn (ho pins s σ H _ I h) fun u s1 ⟨x,H1,I1,rx,q1⟩=>thn (hi pins s1 σ H1 _ I1 q1) fun iv s2 ⟨y,H2,I2,ry,a,v,ex,g,q2⟩=>?_)
  subst ex
  obtain rfl:u=Value.ref a:=rx
  exact ⟨dict_typeIs I2 g,d_getItem hu I2 g ry fun w' s3 I3 rw'=>⟨v,H2,I3,rw',q2⟩⟩
theorem pc_din (hu:X.A.units+1<cLine) (hi:PE X i ty) (ho:PE X o td):PC X .In i o (tDIn ty td):=by
  intro pins s σ H Q I h
  refine thn (hi pins s σ H _ I h) fun iv s1 ⟨y,H1,I1,ry,q1⟩=>thn (ho pins s1 σ H1 _ I1 q1) fun u s2 ⟨x,H2,I2,rx,a,ov,ex,g,q2⟩=>?_
  subst ex
  obtain rfl:u=Value.ref a:=rx
  exact d_in hu I2 g ry fun s3 I3=>⟨.bl ov.isSome,H2,I3,rfl,q2⟩
theorem pc_dnotin (hu:X.A.units+1<cLine) (hi:PE X i ty) (ho:PE X o td):PC X .NotIn i o (tDNotIn ty td):=by
  intro pins s σ H Q I h
  refine thn (hi pins s σ H _ I h) fun iv s1 ⟨y,H1,I1,ry,q1⟩=>thn (ho pins s1 σ H1 _ I1 q1) fun u s2 ⟨x,H2,I2,rx,a,ov,ex,g,q2⟩=>?_
  subst ex
  obtain rfl:u=Value.ref a:=rx
  exact d_notIn hu I2 g ry fun s3 I3=>⟨.bl (!ov.isSome),H2,I3,rfl,q2⟩
theorem ps_dput (hu:X.A.units+1<cLine) (ho:PE X o td) (hi:PE X i ty) (hv:PE X value tv) (hs:swapsWith value (some (.Subscript o i pos')) pos.line X.env=pure false) :
    PS X (.Assign [.Subscript o i pos'] value pos) (sDPut td ty tv):=by
  intro pins s σ H D I h
  refine wpAny_Assign_Subscript (thn (hv pins s σ H _ I h) fun r s1 ⟨v,H1,I1,rv,q1⟩=>thn (ho pins s1 σ H1 _ I1 q1) fun u s2 ⟨x,H2,I2,rx,q2⟩=>thn (hi pins s2 σ H2 _ I2 q2) fun iv s3 ⟨y,H3,I3,ry,a,H4,ex,g,q3⟩=>?_) hs
  subst ex
  obtain rfl:u=Value.ref a:=rx
  exact d_setItem hu I3 g ry rv fun s4 I4=>⟨σ,H4,I4,q3⟩
end
theorem dk_empty {P:Program} {w:World} {H:Hp} (h:Heap) (hb:sysModules<h.objs.size):ObjOk P w H (h.push {cls:=.type "dict",data:=.dict #[]}) h.objs.size (.dK []):=
  ⟨Nat.zero_le _,beq_eq_false_iff_ne.mpr (Ne.symm (Nat.ne_of_lt hb)),[],.nil,Heap.DictOf.new h⟩
def tPairs:List (TE×TE)→St→Hp→(List (V×V)→Hp→Prop)→Prop
  | [],_,H,Q=>Q [] H
  | (tk,tv)::r,σ,H,Q=>tk σ H fun x H1=>tv σ H1 fun y H2=>tPairs r σ H2 fun ps H3=>Q ((x,y)::ps) H3
abbrev VV:List (V×V)→List (Value×Value)→Prop:=Paired fun p q=>RelV p.1 q.1∧RelV p.2 q.2
def PPs (X:Cx) (pos:Pos) (keys:List (Option Expr)) (values:List Expr) (trs:List (TE×TE)):Prop:=
  ∀(pins:List (Addr×Obj)) (s:Shared) (σ:St) (H:Hp) (Q:List (V×V)→Hp→Prop),Inv X pins σ H s→tPairs trs σ H Q→
    wpAny (model X.prog X.w) X.A (evalPairs (pairTrees keys values X.env pos)) (fun vs s'=>∃ps H',Inv X pins σ H' s'∧VV ps vs∧Q ps H') X.xe s
theorem pps_nil {X:Cx} {pos:Pos}:PPs X pos [] [] []:=fun pins s σ H Q I h=>pairTrees_nil_walk ⟨[],H,I,.nil,h⟩
theorem pps_cons {X:Cx} {pos:Pos} {k v:Expr} {ks:List (Option Expr)} {vs:List Expr} {tk tv:TE} {trs:List (TE×TE)} (hk:PE X k tk) (hv:PE X v tv) (hr:PPs X pos ks vs trs) :
    PPs X pos (some k::ks) (v::vs) ((tk,tv)::trs):=fun pins s σ H Q I h=>
  pairTrees_cons_walk (thn (hk pins s σ H _ I h) fun u s1 ⟨x,H1,I1,rx,q1⟩=>thn (hv pins s1 σ H1 _ I1 q1) fun w2 s2 ⟨y,H2,I2,ry,q2⟩=>
    thn (hr pins s2 σ H2 _ I2 q2) fun ws s3 ⟨ps,H3,I3,rel,q3⟩=>⟨(x,y)::ps,H3,I3,.cons ⟨rx,ry⟩ rel,q3⟩)
def mergeK (kvs more:List (Key×V)):List (Key×V):=more.foldl (fun acc kv=>putK acc kv.1 kv.2) kvs
theorem KV.merge:∀{more:List (Key×V)} {rs:List (Key×Value)} {kvs:List (Key×V)} {vs:List (Key×Value)},KV more rs→KV kvs vs→KV (mergeK kvs more) (merged vs rs):=by
  intro more rs kvs vs r
  unfold KV at r
  induction r generalizing kvs vs with
  | nil=>intro q;exact q
  | @cons p q ps qs h t ih=>
    intro r0
    have e:KV (putK kvs p.1 p.2) (stored vs q.1 q.2):=by
      have:=r0.put p.1 h.2
      rw [← h.1];exact this
    exact ih e
theorem length_mergeK:∀(more kvs:List (Key×V)),(mergeK kvs more).length≤kvs.length+more.length
  | [],kvs=>by show kvs.length≤kvs.length+0;omega
  | p::r,kvs=>by
    have h1:=length_mergeK r (putK kvs p.1 p.2)
    have h2:=length_putK kvs p.1 p.2
    show (mergeK (putK kvs p.1 p.2) r).length≤_
    rw [List.length_cons];omega
theorem carries_of {P:Program} {w:World}:∀{kvs:List (Key×V)} {ws:List (Value×Value)},VV (kvs.map fun kv=>(kV kv.1,kv.2)) ws→∃rs,Carries (mixKind P w) ws rs∧KV kvs rs
  | [],_,r=>by rw [List.map_nil] at r;cases r;exact ⟨[],True.intro,.nil⟩
  | p::kvs,_,r=>by
    rw [List.map_cons] at r
    cases r with
    | @cons a b as bs h t=>
      obtain ⟨rs,c,q⟩:=carries_of (P:=P) (w:=w) t
      obtain ⟨b1,b2⟩:=b
      exact ⟨(p.1,b2)::rs,⟨kV_is h.1,rfl,c⟩,.cons ⟨rfl,h.2⟩ q⟩
def tDisp (trs:List (TE×TE)):TE:=fun σ H Q=>∀p,H p=none→tPairs trs σ (upd H p (.dK [])) fun ps H2=>H2 p=some (.dK [])∧∃kvs:List (Key×V),ps=kvs.map (fun kv=>(kV kv.1,kv.2))∧kvs.length≤15∧Q (.ref p) (upd H2 p (.dK (mergeK [] kvs)))
theorem pe_disp {X:Cx} {pos:Pos} {keys:List (Option Expr)} {values:List Expr} {trs:List (TE×TE)} (h:PPs X pos keys values trs) (hall:keys.all (·.isSome)=true) (hl:keys.length=values.length) (h0:keys≠[])
    (h15:keys.length≤15):PE X (.Dict keys values pos) (tDisp trs):=by
  intro pins s σ H Q I q
  have hn:=I.hok.fresh (Nat.le_refl s.heap.objs.size)
  have I1:=I.laid (a:=s.heap.objs.size) (o:=.dK []) (h':=s.heap.push {cls:=.type "dict",data:=.dict #[]}) (t':=s.toks) (fun _ _ q=>Heap.get?_push_of_some _ q) (Nat.le_refl _) (dk_empty s.heap I.big)
  refine wpAny_Dict_walk (knd:=mixKind X.prog X.w) hall hl h0 h15 (thn (h pins _ σ _ _ I1 (q _ hn)) fun ws s2 zz=>?_)
  obtain ⟨ps,H2,I2,rel,e,kvs,ep,lk,q2⟩:=zz
  subst ep
  obtain ⟨rs,c,rk⟩:=carries_of (P:=X.prog) (w:=X.w) rel
  obtain ⟨z,hd,vs0,r0,dd⟩:=dk_of I2.hok e
  cases r0
  refine ⟨rs,c,dd,fun h' dd' hs=>⟨.ref s.heap.objs.size,_,?_,rfl,q2⟩⟩
  have hz:(mergeK [] kvs).length≤sizeLine:=by
    have h1:=length_mergeK kvs []
    rw [List.length_nil] at h1
    rw [sizeLine_eq];omega
  have he:∃q,h'.get? s.heap.objs.size=some q:=let ⟨q,_,_,hq,_⟩:=dd';⟨q,hq⟩
  exact d_write I2 (by rw [e];exact True.intro) hs he (dk_new hz hd (rk.merge .nil) dd')
structure M1 (X:Cx) (o:Expr) (m:Str) (apos:Pos) (e:Expr) (cpos:Pos):Prop where
  base:attributeBase o m X.env (eval o X.env)=eval o X.env
  few:((backTo cpos (starEach [e] X.env)).all (fun x=>!x.1) && (backToKw cpos (keywordEach [] X.env)).all (fun x=>x.1.isSome)
    && decide (([e]:List Expr).length+([]:List Keyword).length+(if ([]:List Keyword).isEmpty then 0 else 1)<30))=true
  line:(apos.endLine == cpos.line)=true
  trees:backTo cpos (starEach [e] X.env)=[(false,eval e X.env)]
structure M2 (X:Cx) (o:Expr) (m:Str) (apos:Pos) (e f:Expr) (cpos:Pos):Prop where
  base:attributeBase o m X.env (eval o X.env)=eval o X.env
  few:((backTo cpos (starEach [e,f] X.env)).all (fun x=>!x.1) && (backToKw cpos (keywordEach [] X.env)).all (fun x=>x.1.isSome)
    && decide (([e,f]:List Expr).length+([]:List Keyword).length+(if ([]:List Keyword).isEmpty then 0 else 1)<30))=true
  line:(apos.endLine == cpos.line)=true
  trees:backTo cpos (starEach [e,f] X.env)=[(false,eval e X.env),(false,eval f X.env)]
def IsD (H:Hp) (a:Addr):Prop:=(∃kvs,Rd H a (.dK kvs))∨∃kvs,Rd H a (.dT kvs)
theorem isD_at {X:Cx} {pins:List (Addr×Obj)} {σ:St} {H:Hp} {s:Shared} {a:Addr} (I:Inv X pins σ H s) (d:IsD H a) :
    s.TypeIs (.ref a) "dict" ∧(∀b,Value.ref a = .ref b→∃ob,s.heap.get? b=some ob∧ob.dict=none)∧(a == sysModules)=false:=by
  rcases d with ⟨kvs,e⟩ | ⟨kvs,e⟩
  · obtain ⟨_,hd,vs,_,dd⟩:=dk_rd I.hok e
    refine ⟨dd.typeIs,fun b q=>?_,hd⟩
    cases q
    obtain ⟨ob,_,_,h1,h2,_⟩:=dd
    exact ⟨ob,h1,h2.2.1⟩
  · obtain ⟨_,hd,xs,_,dd⟩:=dt_rd I.hok e
    refine ⟨dd.typeIs,fun b q=>?_,hd⟩
    cases q
    obtain ⟨ob,_,_,h1,h2,_⟩:=dd
    exact ⟨ob,h1,h2.2.1⟩
section
variable {X:Cx} {pins:List (Addr×Obj)} {σ:St} {H:Hp} {s:Shared} {a:Addr} {y d:V} {u r:Value} {o:Option V} {A:Around} {E:Value→Shared→Prop}
theorem d_get1 {Q:Value→Shared→Prop} (hu:A.units+1<cLine) (I:Inv X pins σ H s) (g:DGet H a y o) (ry:RelV y u) (h:∀w' s',Inv X pins σ H s'→RelV (o.getD .non) w'→Q w' s') :
    wpAny (model X.prog X.w) A (call (.builtin "dict.get") [.ref a,u]) Q E s:=by
  rcases g with ⟨kvs,k,e,ey,l⟩ | ⟨kvs,k,b,e,ey,eb,l⟩
  · subst ey
    obtain ⟨z,hd,vs,rel,dd⟩:=dk_rd I.hok e
    refine call_meetsIn PySem.F.slot_dict_get dd.typeIs PySem.F.entry_dict_get (PySem.F.args_dict_get_2 _ _) (meets_dict_get (mixKind X.prog X.w) a (kV_is ry) hd) ⟨_,dd.mapOf,h _ _ (I.tok _) ?_⟩
    rw [l]
    exact (rel.val k).getD rfl
  · subst ey
    cases (show u=Value.ref b from ry)
    obtain ⟨z,hd,xs,rel,dd⟩:=dt_rd I.hok e
    refine call_meetsIn PySem.F.slot_dict_get dd.typeIs PySem.F.entry_dict_get (PySem.F.args_dict_get_2 _ _) (meetsH_dict_get (tupleKind (mixKind X.prog X.w)) a b hd) ⟨tupleKind_room_in1 hu,k,xs,key_of I.hok eb,dd,h _ _ (I.tok _) ?_⟩
    rw [l]
    exact (rel.val k).getD rfl
theorem d_get2 {Q:Value→Shared→Prop} (hu:A.units+1<cLine) (I:Inv X pins σ H s) (g:DGet H a y o) (ry:RelV y u) (rd:RelV d r) (h:∀w' s',Inv X pins σ H s'→RelV (o.getD d) w'→Q w' s') :
    wpAny (model X.prog X.w) A (call (.builtin "dict.get") [.ref a,u,r]) Q E s:=by
  rcases g with ⟨kvs,k,e,ey,l⟩ | ⟨kvs,k,b,e,ey,eb,l⟩
  · subst ey
    obtain ⟨z,hd,vs,rel,dd⟩:=dk_rd I.hok e
    refine call_meetsIn PySem.F.slot_dict_get dd.typeIs PySem.F.entry_dict_get (PySem.F.args_dict_get_3 _ _ _) (meets_dict_get_default (mixKind X.prog X.w) a (kV_is ry) hd r) ⟨_,dd.mapOf,h _ _ (I.tok _) ?_⟩
    rw [l]
    exact (rel.val k).getD rd
  · subst ey
    cases (show u=Value.ref b from ry)
    obtain ⟨z,hd,xs,rel,dd⟩:=dt_rd I.hok e
    refine call_meetsIn PySem.F.slot_dict_get dd.typeIs PySem.F.entry_dict_get (PySem.F.args_dict_get_3 _ _ _) (meetsH_dict_get_default (tupleKind (mixKind X.prog X.w)) a b hd r) ⟨tupleKind_room_in1 hu,k,xs,key_of I.hok eb,dd,h _ _ (I.tok _) ?_⟩
    rw [l]
    exact (rel.val k).getD rd
end
def tDGet1 (td ty:TE):TE:=fun σ H Q=>td σ H fun x H1=>∃a,x = .ref a∧IsD H1 a∧ty σ H1 fun y H2=>∃o,DGet H2 a y o∧Q (o.getD .non) H2
def tDGet2 (td ty tx:TE):TE:=fun σ H Q=>td σ H fun x H1=>∃a,x = .ref a∧IsD H1 a∧ty σ H1 fun y H2=>tx σ H2 fun z H3=>∃o,DGet H3 a y o∧Q (o.getD z) H3
section
variable {X:Cx} {o e f:Expr} {apos cpos:Pos} {td ty tx:TE}
theorem pe_dget1 (hu:X.A.units+1<cLine) (ho:PE X o td) (he:PE X e ty) (m:M1 X o "get" apos e cpos):PE X (.Call (.Attribute o "get" apos) [e] [] cpos) (tDGet1 td ty):=by
  intro pins s σ H Q I h
  refine wpAny_Call_method m.base m.few m.line PySem.F.plainAttrs_dict PySem.F.slot_dict_get PySem.F.type_dict_get (thn (ho pins s σ H _ I h) fun u s1 zz=>?_)
  obtain ⟨x,H1,I1,rx,a,ex,d,q1⟩:=zz
  subst ex
  obtain rfl:u=Value.ref a:=rx
  obtain ⟨t1,t2,_⟩:=isD_at I1 d
  refine ⟨t1,t2,?_⟩
  rw [m.trees]
  refine Calls.callWith_builtin rfl (Calls.evalArgs_plain (Calls.spliced_cons (thn (he pins s1 σ H1 _ I1 q1) fun iv s2 zz=>?_)))
  obtain ⟨y,H2,I2,ry,ov,g,q2⟩:=zz
  refine Calls.spliced_nil ?_
  exact d_get1 hu I2 g ry fun w' s3 I3 rw'=>⟨_,H2,I3,rw',q2⟩
theorem pe_dget2 (hu:X.A.units+1<cLine) (ho:PE X o td) (he:PE X e ty) (hf:PE X f tx) (m:M2 X o "get" apos e f cpos):PE X (.Call (.Attribute o "get" apos) [e,f] [] cpos) (tDGet2 td ty tx):=by
  intro pins s σ H Q I h
  refine wpAny_Call_method m.base m.few m.line PySem.F.plainAttrs_dict PySem.F.slot_dict_get PySem.F.type_dict_get (thn (ho pins s σ H _ I h) fun u s1 zz=>?_)
  obtain ⟨x,H1,I1,rx,a,ex,d,q1⟩:=zz
  subst ex
  obtain rfl:u=Value.ref a:=rx
  obtain ⟨t1,t2,_⟩:=isD_at I1 d
  refine ⟨t1,t2,?_⟩
  rw [m.trees]
  refine Calls.callWith_builtin rfl (Calls.evalArgs_plain (Calls.spliced_cons (thn (he pins s1 σ H1 _ I1 q1) fun iv s2 ⟨y,H2,I2,ry,q2⟩=>
    Calls.spliced_cons (thn (hf pins s2 σ H2 _ I2 q2) fun fv s3 ⟨z,H3,I3,rz,ov,g,q3⟩=>Calls.spliced_nil ?_))))
  exact d_get2 hu I3 g ry rz fun w' s4 I4 rw'=>⟨_,H3,I4,rw',q3⟩
end
structure Nm2 (mg:Str→Option Value):Prop where
  enumerate:mg "enumerate" = none
  any:mg "any" = none
  dict:mg "dict" = none
  sorted:mg "sorted" = none
  repr:mg "repr" = none
  bool:mg "bool" = none
theorem Inv.pairNew {X:Cx} {pins:List (Addr×Obj)} {σ:St} {H:Hp} {s:Shared} {h2:Heap} {t':Nat} {x y:V} {u u':Value} (I:Inv X pins σ H s) (I1:Inv X pins σ H {s with heap:=h2,toks:=t'}) (ru:RelV x u) (ru':RelV y u')
    (hpair:h2.get? s.heap.objs.size=some {cls:=.type "tuple",data:=.seq #[u,u']}):Inv X pins σ (upd H s.heap.objs.size (.tup [x,y])) {s with heap:=h2,toks:=t'}:=by
  have hfr:H s.heap.objs.size=none:=I.hok.fresh (Nat.le_refl _)
  refine ⟨I1.ok,I1.os,I1.bare,⟨I1.base.keep,I1.base.slot,fun c o e n hx=>?_,I1.base.there,fun c zs e=>?_,fun c o v e=>?_,fun c qs e=>?_⟩,I1.loc,I1.cell,?_,fun v c e=>?_,fun v hv=>?_,?_,I1.len⟩
  · rw [upd_ne (fun e'=>?_)]
    ·exact I1.base.free c o e n hx
    ·exact absurd (Nat.lt_of_lt_of_le (Heap.lt_size e) I.sz) (by rw [e'];exact Nat.lt_irrefl _)
  · have e':=I1.base.tups c zs e
    rw [upd_ne (ne_of_none e' hfr)];exact e'
  · have e':=I1.base.frzs c o v e
    rw [upd_ne (ne_of_none e' hfr)];exact e'
  · obtain ⟨m,e'⟩:=I1.base.tbls c qs e
    exact ⟨m,by rw [upd_ne (ne_of_none e' hfr)];exact e'⟩
  ·rw [upd_ne (Nat.ne_of_lt I.lt)];exact I1.free
  · obtain ⟨w',qc⟩:=I.cell v c e
    rw [upd_ne (Nat.ne_of_lt qc.lt)];exact I1.freeC v c e
  · obtain ⟨f1,f2,f3⟩:=I1.pin v hv
    refine ⟨f1,?_,f3⟩
    rw [upd_ne (Nat.ne_of_lt (Heap.lt_size (I.pin v hv).1))];exact f2
  · intro c v e
    by_cases hcs:c=s.heap.objs.size
    · subst hcs
      rw [upd_same] at e
      cases e
      exact ⟨by show 2≤sizeLine;rw [sizeLine_eq];decide,[u,u'],.cons ru (.cons ru' .nil),⟨_,hpair,rfl,0,rfl⟩⟩
    · rw [upd_ne hcs] at e
      refine (I1.hok c v e).stay (fun _ _ _ qq=>qq) (fun d qd=>?_) fun d zs qd=>?_
      ·rw [upd_ne (ne_of_none qd hfr)];exact qd
      ·rw [upd_ne (ne_of_none qd hfr)];exact qd
def Ite (K:PySem.W.Frag) (a:Addr):It:=
  ⟨fun i H=>∃xs x,SqL K H a xs∧xs[i]? = some x,
   fun i H v H'=>∃t x,v = .ref t∧H t=none∧H'=upd H t (.tup [.int i,x])∧∀xs,SqL K H a xs→xs[i]? = some x,
   fun i H=>∃xs,SqL K H a xs∧xs.length≤i⟩
structure EnumSt (e it a:Addr) (i:Nat) (h:Heap):Prop where
  he:∃old,IsEnum h e it i old
  hi:h.IsListIter it a i
theorem turn_enum {P:Program} {w:World} {K:PySem.W.Frag} {es:List Expr} {k:Nat} {pos:Pos} {e it a:Addr} (nei:e≠it) :
    Turn P w K (.Tuple es k pos) (Ite K a) [e,it] e (EnumSt e it a) where
  mem:=by simp
  obj:=fun i h st c hc=>by
    simp only [List.mem_cons,List.not_mem_nil,or_false] at hc
    rcases hc with rfl | rfl
    · obtain ⟨old,q⟩:=st.he
      exact ⟨_,q,fun v e=>nomatch e⟩
    · obtain ⟨o,e,_,d⟩:=st.hi
      exact ⟨o,e,fun v y=>by rw [d] at y;cases y⟩
  keep:=fun i h h' st kk=>by
    obtain ⟨old,q⟩:=st.he
    exact ⟨⟨old,kk e (by simp) _ q⟩,st.hi.at fun o z=>kk it (by simp) o z⟩
  item:=by
    intro X hP hw hK hc i pins s σ H E I hf st hg
    subst hP hw hK
    obtain ⟨xs,x,qa,hx⟩:=hg
    obtain ⟨its,rv,pl,hz1⟩:=I.list qa
    obtain ⟨u,hu,ru⟩:=rv.get hx
    obtain ⟨old,hE⟩:=st.he
    obtain ⟨o1,e1,c1,_⟩:=id st.hi
    refine wpAny_pyNext_enum_item hE st.hi pl.isList (x:=u) (by simpa using hu) nei fun h' a1 a2 a3 a4 kk=>?_
    refine ⟨_,rfl,wpAny_letOwnedTupleGo_enum a1 fun h2 b1 sb=>?_⟩
    have lt:∀{c o},s.heap.get? c=some o→s.heap.objs.size≠c:=fun e=>Nat.ne_of_gt (Heap.lt_size e)
    have hn:H s.heap.objs.size=none:=I.hok.fresh (Nat.le_refl _)
    have kk2:∀c o,c∉[e,it]→s.heap.get? c=some o→h2.get? c=some o:=fun c o hc z=>by
      simp only [List.mem_cons,List.not_mem_nil,or_false,not_or] at hc
      exact (sb.2 c hc.1).trans (kk c o hc.1 hc.2 z)
    have I1:Inv X pins σ H {s with heap:=h2,toks:=s.toks+1}:=I.turnedL kk2 hf
    have hpair:=sb.extBut _ _ (lt hE) a3
    have I2:Inv X pins σ (upd H s.heap.objs.size (.tup [.int i,x])) {s with heap:=h2,toks:=s.toks+1}:=I.pairNew I1 ⟨_,rfl⟩ ru hpair
    refine ⟨.ref s.heap.objs.size,_,I2,rfl,⟨s.heap.objs.size,x,rfl,hn,rfl,fun xs' q'=>by rw [I.list_inj q' qa];exact hx⟩,?_,fun c hcm=>?_⟩
    ·exact ⟨⟨_,b1⟩,a2.extBut sb.extBut nei.symm⟩
    · have hne:c≠s.heap.objs.size:=by
        simp only [List.mem_cons,List.not_mem_nil,or_false] at hcm
        rcases hcm with rfl | rfl
        ·exact (lt hE).symm
        ·exact (lt e1).symm
      rw [upd_ne hne]
      exact (hf c hcm).1
  done:=by
    intro X hP hw hK hc i pins s σ H E I hf st hg
    subst hP hw hK
    obtain ⟨xs,qa,hl⟩:=hg
    obtain ⟨its,rv,pl,hz1⟩:=I.list qa
    obtain ⟨old,hE⟩:=st.he
    have l1:=rv.length
    refine wpAny_pyNext_enum_end (I.ok.hd hc) hE st.hi pl.isList (by simp;omega) fun h' kk=>⟨rfl,I.turnedL (t':=s.toks) (fun c o hcm z=>?_) hf⟩
    simp only [List.mem_cons,List.not_mem_nil,or_false,not_or] at hcm
    exact kk c o hcm.2 z
  self:=fun _ _ _ _ _ st h=>by
    obtain ⟨old,q⟩:=st.he
    exact wpAny_pyIter_enum q h
section
variable {X:Cx} {K:PySem.W.Frag}
def iEnum (K:PySem.W.Frag) (t:TA):TI:=fun σ H R=>t σ H fun vs H1=>∃a xs,vs=[.ref a]∧SqL K H1 a xs∧R (Ite K a) H1
theorem boot_enum:bootBuiltins "enumerate" = some (.type "enumerate"):=by decide +kernel
theorem pi_enum (hK:X.K=K) {es:List Expr} {k:Nat} {pos':Pos} {a:Expr} {ta:TA} {p pos:Pos} (hg:Gl X "enumerate") (hm:X.mg "enumerate" = none) (ha:PA X [a] ta)
    (hs:starEach [a] X.env=[(false,eval a X.env)]:=by rfl) :
    PI X (.Tuple es k pos') (.Call (.Name "enumerate" p) [a] [] pos) (iEnum K ta):=by
  subst hK
  intro pins s σ H R I h
  refine Call_ (ld_blt I hg hm boot_enum (PyProof.Rows.callWith_type1 (thn (ha pos pins s σ H _ I h) fun us s1 zz=>?_) (by rw [hs];rfl) (by rfl)))
  obtain ⟨vs,H1,I1,r1,q1⟩:=zz
  obtain ⟨l1,xs,e,qa,q⟩:=q1
  subst e
  obtain ⟨u,rfl,r⟩:=vals1 r1
  obtain rfl:u=Value.ref l1:=r
  obtain ⟨its,rv,pl,hz1⟩:=I1.list qa
  refine call_enumerate_list pl.isList fun h' b1 b2 b3 kk=>?_
  refine wpAny_pyIter_enum (s:={s1 with heap:=h'}) b1 ?_
  have I2:Inv X pins σ H1 {s1 with heap:=h'}:=I1.kept (t':=s1.toks) kk
  refine ⟨s1.heap.objs.size+1,[s1.heap.objs.size+1,s1.heap.objs.size],_,_,H1,rfl,I2,turn_enum (Nat.succ_ne_self _),⟨⟨_,b1⟩,b2⟩,fun c hc=>?_,q⟩
  have hle:s1.heap.objs.size≤c:=by
    simp only [List.mem_cons,List.not_mem_nil,or_false] at hc
    rcases hc with rfl | rfl <;> first | exact Nat.le_add_right _ _ | exact Nat.le_refl _
  exact I1.fpOk hle (I1.hok.fresh hle)
end
section
variable {X:Cx} {K:PySem.W.Frag} {tg:Expr}
theorem pi_zipk (hK:X.K=K) {es:List Expr} {k:Nat} {pos':Pos} {a b:Expr} {ta:TA} {p pos:Pos} (hg:Gl X "zip") (hm:X.mg "zip" = none) (ha:PA X [a,b] ta)
    (hs:starEach [a,b] X.env=[(false,eval a X.env),(false,eval b X.env)]:=by rfl) (hs2:starEach [b] X.env=[(false,eval b X.env)]:=by rfl) :
    PI X (.Tuple es k pos') (.Call (.Name "zip" p) [a,b] [] pos) (iZip K ta):=by subst hK;exact pi_zip hg hm ha hs hs2
theorem ps_fldk (hK:X.K=K) {o value:Expr} {ta tv:TE} {f:Str} {pos pos':Pos} (ha:PE X o ta) (hv:PE X value tv) (hs:swapsWith value (some (.Attribute o f pos')) pos.line X.env=pure false):PS X (.Assign [.Attribute o f pos'] value pos) (sFld K ta tv f):=by subst hK;exact ps_fld ha hv hs
end
@[simp ↓] theorem tVar_w (i:Nat) σ H Q:tVar i σ H Q=(∃v,σ[i]? = some (some v)∧Q v H):=rfl
@[simp ↓] theorem tC_w (v:V) z0 H Q:tC v z0 H Q=(Q v H):=rfl
@[simp ↓] theorem tB_w (t:TE) σ H Q:tB t σ H Q=(t σ H fun x H1=>∃c,x = .bl c∧Q c H1):=rfl
@[simp ↓] theorem tNot_w (t:TT) σ H Q:tNot t σ H Q=(t σ H fun c H1=>Q (!c) H1):=rfl
@[simp ↓] theorem tNotV_w (ta:TE) σ H Q:tNotV ta σ H Q=(ta σ H fun x H1=>∃c,x = .bl c∧Q (.bl (!c)) H1):=rfl
@[simp ↓] theorem tNext_w D σ H:tNext  D σ H=(D.nx σ H):=rfl
@[simp ↓] theorem tSeq_w (t u:TS) D σ H:tSeq t u D σ H=(t {D with nx:=u D} σ H):=rfl
@[simp ↓] theorem tDrop_w (te:TE) D σ H:tDrop te D σ H=(te σ H fun _ H1=>D.nx σ H1):=rfl
@[simp ↓] theorem tRet_w (te:TE) D σ H:tRet te D σ H=(te σ H D.rt):=rfl
@[simp ↓] theorem tNever_w z0 z1 z2:tNever  z0 z1 z2=(False):=rfl
@[simp ↓] theorem gName_w (i:Nat) v σ H Q:gName i v σ H Q=(Q (σ.set i (some v)) H):=rfl
@[simp ↓] theorem gNil_w vs σ H Q:gNil  vs σ H Q=(vs=[]∧Q σ H):=rfl
@[simp ↓] theorem gCons_w (t:TG) (u:TGs) vs σ H Q:gCons t u vs σ H Q=(∃v r,vs=v::r∧t v σ H fun σ' H'=>u r σ' H' Q):=rfl
@[simp ↓] theorem gTup_w (K:PySem.W.Frag) (n:Nat) (t:TGs) v σ H Q:gTup K n t v σ H Q=(∃a xs,v = .ref a∧SqT K H a xs∧xs.length=n∧t xs σ H Q):=rfl
@[simp ↓] theorem gSub_w (to ti:TE) (t:TSet) v σ H Q:gSub to ti t v σ H Q=(to σ H fun o H1=>ti σ H1 fun i H2=>t o i v H2 fun H3=>Q σ H3):=rfl
@[simp ↓] theorem tAsg_w (te:TE) (g:TG) D σ H:tAsg te g D σ H=(te σ H fun x H1=>g x σ H1 D.nx):=rfl
@[simp ↓] theorem tAug_w (i:Nat) (te:TE) (ti:TIp) D σ H:tAug i te ti D σ H=(∃x,σ[i]? = some (some x)∧te σ H fun y H1=>ti x y H1 fun z H2=>D.nx (σ.set i (some z)) H2):=rfl
@[simp ↓] theorem ipI_w (f:Int→Int→Int) x y H Q:ipI f x y H Q=(∃i j,x = .int i∧y = .int j∧Q (.int (f i j)) H):=rfl
@[simp ↓] theorem iList_w (K:PySem.W.Frag) (tl:TE) σ H R:iList K tl σ H R=(tl σ H fun x H1=>∃a,x = .ref a∧(∃xs,SqL K H1 a xs)∧R (Itl K a) H1):=rfl
@[simp ↓] theorem iRng1_w (ta:TA) σ H R:iRng1 ta σ H R=(ta σ H fun vs H1=>∃j:Int,vs=[.int j]∧-(2 ^ 62)≤j∧j<2 ^ 62∧R (Itr 0 j.toNat) H1):=rfl
@[simp ↓] theorem iRng2_w (ta:TA) σ H R:iRng2 ta σ H R=(ta σ H fun vs H1=>∃i j:Int,vs=[.int i,.int j]∧(-(2 ^ 62)≤i∧i<2 ^ 62∧-(2 ^ 62)≤j∧j<2 ^ 62)∧R (Itr i (j - i).toNat) H1):=rfl
@[simp ↓] theorem tOp_w (r:R2) (ta tb:TE) σ H Q:tOp r ta tb σ H Q=(ta σ H fun x H1=>tb σ H1 fun y H2=>r x y H2 Q):=rfl
@[simp ↓] theorem tUn_w (r:V→Hp→VK→Prop) (ta:TE) σ H Q:tUn r ta σ H Q=(ta σ H fun x H1=>r x H1 Q):=rfl
@[simp ↓] theorem rI_w (C:Int→Int→Prop) (g:Int→Int→V) x y H Q:rI C g x y H Q=(∃i j,x = .int i∧y = .int j∧C i j∧Q (g i j) H):=rfl
@[simp ↓] theorem rI0_w (g:Int→Int→V) x y H Q:rI0 g x y H Q=(∃i j,x = .int i∧y = .int j∧Q (g i j) H):=rfl
@[simp ↓] theorem rU_w (g:Int→V) x H Q:rU g x H Q=(∃i,x = .int i∧Q (g i) H):=rfl
@[simp ↓] theorem rEq_w x y H Q:rEq  x y H Q=(scal x y=true∧Q (.bl (decide (x=y))) H):=rfl
@[simp ↓] theorem rNe_w x y H Q:rNe  x y H Q=(scal x y=true∧Q (.bl (!decide (x=y))) H):=rfl
@[simp ↓] theorem tTest_w (t:TE) σ H Q:tTest t σ H Q=(t σ H fun x H'=>∃k,x = .bl k∧Q k H'):=rfl
@[simp ↓] theorem tFld_w (K:PySem.W.Frag) (ta:TE) (f:Str) σ H Q:tFld K ta f σ H Q=(ta σ H fun x H1=>∃a C dx fs v,x = .ref a∧H1 a=some (.ins C dx fs)∧Cls K C∧NoAttr K C f∧fs.lookup f=some v∧Q v H1):=rfl
@[simp ↓] theorem sFld_w (K:PySem.W.Frag) (ta tv:TE) (f:Str) D σ H:sFld K ta tv f D σ H=(tv σ H fun y H1=>ta σ H1 fun x H2=>∃a C dx fs,x = .ref a∧H2 a=some (.ins C dx fs)∧Cls K C∧NoAttr K C f∧fs.length<1000∧D.nx σ (upd H2 a (.ins C dx (putF f y fs)))):=rfl
@[simp ↓] theorem tNil_w z0 H Q:tNil  z0 H Q=(Q [] H):=rfl
@[simp ↓] theorem tCons_w (ta:TE) (tr:TA) σ H Q:tCons ta tr σ H Q=(ta σ H fun x H1=>tr σ H1 fun xs H2=>Q (x::xs) H2):=rfl
@[simp ↓] theorem tTup_w (t:TA) σ H Q:tTup t σ H Q=(t σ H fun xs H1=>xs.length≤sizeLine∧∀p,H1 p=none→Q (.ref p) (upd H1 p (.tup xs))):=rfl
@[simp ↓] theorem tLst_w (t:TA) σ H Q:tLst t σ H Q=(t σ H fun xs H1=>xs.length≤sizeLine∧∀p,H1 p=none→Q (.ref p) (upd H1 p (.lst xs))):=rfl
@[simp ↓] theorem tCB_w (r:List V→Hp→VK→Prop) (t:TA) σ H Q:tCB r t σ H Q=(t σ H fun vs H1=>r vs H1 Q):=rfl
@[simp ↓] theorem tNoPart_w z0 H Q:tNoPart  z0 H Q=(Q none H):=rfl
@[simp ↓] theorem tPart_w (t:TE) σ H Q:tPart t σ H Q=(t σ H fun x H1=>∃i,x = .int i∧Q (some i) H1):=rfl
@[simp ↓] theorem tSl_w (r:V→Option Int→Option Int→Hp→VK→Prop) (te:TE) (tl th:TO) σ H Q:tSl r te tl th σ H Q=(te σ H fun x H1=>tl σ H1 fun l H2=>th σ H2 fun u H3=>r x l u H3 Q):=rfl
@[simp ↓] theorem rIxL_w (K:PySem.W.Frag) x y H Q:rIxL K x y H Q=(∃p xs i v,x = .ref p∧y = .int i∧SqL K H p xs∧atI xs i=some v∧Q v H):=rfl
@[simp ↓] theorem rIxT_w (K:PySem.W.Frag) x y H Q:rIxT K x y H Q=(∃p xs i v,x = .ref p∧y = .int i∧SqT K H p xs∧atI xs i=some v∧Q v H):=rfl
@[simp ↓] theorem rIxS_w x y H Q:rIxS  x y H Q=(∃z i c,x = .str z∧y = .int i∧z.length≤sizeLine∧atI z.cps.toList i=some c∧Q (.str ⟨#[c]⟩) H):=rfl
@[simp ↓] theorem rSetL_w o i v H Q:rSetL  o i v H Q=(∃p xs k j,o = .ref p∧i = .int k∧H p=some (.lst xs)∧ixN xs.length k=some j∧Q (upd H p (.lst (xs.set j v)))):=rfl
@[simp ↓] theorem rSlL_w (K:PySem.W.Frag) x lo hi H Q:rSlL K x lo hi H Q=(∃a xs,x = .ref a∧SqL K H a xs∧∀p,H p=none→Q (.ref p) (upd H p (.lst (cutV xs lo hi)))):=rfl
@[simp ↓] theorem rIn_w (K:PySem.W.Frag) (neg:Bool) x y H Q:rIn K neg x y H Q=(∃p xs,y = .ref p∧(SqL K H p xs∨SqT K H p xs)∧flatV x=true∧xs.all flatV=true∧Q (.bl (if neg then !inV x xs else inV x xs)) H):=rfl
@[simp ↓] theorem tBM_w (K:PySem.W.Frag) (T:String) (r:V→List V→Hp→VK→Prop) (to:TE) (t:TA) σ H Q:tBM K T r to t σ H Q=(to σ H fun x H1=>tyV K T x H1∧t σ H1 fun xs H2=>r x xs H2 Q):=rfl
@[simp ↓] theorem rAppend_w x vs H Q:rAppend  x vs H Q=(∃l xs y,x = .ref l∧vs=[y]∧H l=some (.lst xs)∧xs.length<sizeLine∧Q .non (upd H l (.lst (xs++[y])))):=rfl
@[simp ↓] theorem rCat_w x y H Q:rCat  x y H Q=(∃l b xs zs,x = .ref l∧y = .ref b∧H l=some (.lst xs)∧H b=some (.lst zs)∧xs.length+zs.length≤sizeLine∧∀p,H p=none→Q (.ref p) (upd H p (.lst (xs++zs)))):=rfl
@[simp ↓] theorem tYes_w z0 H Q:tYes  z0 H Q=(Q true H):=rfl
@[simp ↓] theorem iStr_w (tl:TE) σ H R:iStr tl σ H R=(tl σ H fun x H1=>∃z,x = .str z∧R (Its z) H1):=rfl
@[simp ↓] theorem iZip_w (K:PySem.W.Frag) (t:TA) σ H R:iZip K t σ H R=(t σ H fun vs H1=>∃a b xs ys,vs=[.ref a,.ref b]∧SqL K H1 a xs∧SqL K H1 b ys∧R (Itz K a b) H1):=rfl
@[simp ↓] theorem rInsert_w x vs H Q:rInsert  x vs H Q=(∃l xs i y,x = .ref l∧vs=[.int i,y]∧H l=some (.lst xs)∧0≤i∧i≤xs.length∧xs.length<sizeLine∧Q .non (upd H l (.lst (xs.take i.toNat++y::xs.drop i.toNat)))):=rfl
@[simp ↓] theorem rAddS_w x y H Q:rAddS  x y H Q=(∃i j,x = .str i∧y = .str j∧i.length+j.length≤sizeLine∧Q (.str (i++j)) H):=rfl
@[simp ↓] theorem rInS_w x y H Q:rInS  x y H Q=(∃i j,x = .str i∧y = .str j∧Q (.bl (!(Builtin.Str.occurrences j i 0 j.length 1).isEmpty)) H):=rfl
@[simp ↓] theorem rNotInS_w x y H Q:rNotInS  x y H Q=(∃i j,x = .str i∧y = .str j∧Q (.bl (!(!(Builtin.Str.occurrences j i 0 j.length 1).isEmpty))) H):=rfl
@[simp ↓] theorem rInA_w (K:PySem.W.Frag) x y H Q:rInA K x y H Q=(rIn K false x y H Q∨rInS x y H Q):=rfl
@[simp ↓] theorem rNotInA_w (K:PySem.W.Frag) x y H Q:rNotInA K x y H Q=(rIn K true x y H Q∨rNotInS x y H Q):=rfl
@[simp ↓] theorem rIxQ_w (K:PySem.W.Frag) x y H Q:rIxQ K x y H Q=(∃p xs i v,x = .ref p∧y = .int i∧(SqL K H p xs∨SqT K H p xs)∧atI xs i=some v∧Q v H):=rfl
@[simp ↓] theorem rLenQ_w (K:PySem.W.Frag) xs H Q:rLenQ K xs H Q=(∃p ys,xs=[.ref p]∧(SqL K H p ys∨SqT K H p ys)∧Q (.int ys.length) H):=rfl
@[simp ↓] theorem rLenT_w xs H Q:rLenT  xs H Q=(∃z,xs=[.str z]∧z.length≤sizeLine∧Q (.int z.length) H):=rfl
@[simp ↓] theorem rListOf_w (K:PySem.W.Frag) xs H Q:rListOf K xs H Q=(∃p ys,xs=[.ref p]∧(SqL K H p ys∨SqT K H p ys)∧∀l,H l=none→Q (.ref l) (upd H l (.lst ys))):=rfl
@[simp ↓] theorem rIsiT_w (K:PySem.W.Frag) xs H Q:rIsiT K xs H Q=(∃x n t b,xs=[x,.ty n]∧TyOf K H x t∧PySem.W.kitOne K t (.type n)=some b∧Q (.bl b) H):=rfl
@[simp ↓] theorem rIsi2_w (K:PySem.W.Frag) xs H Q:rIsi2 K xs H Q=(∃x p m n t b,xs=[x,.ref p]∧H p=some (.tup [.ty m,.ty n])∧TyOf K H x t∧PySem.W.kitAny K t [.type m,.type n]=some b∧Q (.bl b) H):=rfl
@[simp ↓] theorem iSeq_w (K:PySem.W.Frag) (tl:TE) σ H R:iSeq K tl σ H R=(tl σ H fun x H1=>∃b p,x = .ref p∧(∃xs,SqB b K H1 p xs)∧R (Itq b K p) H1):=rfl
@[simp ↓] theorem rTupleS_w xs H Q:rTupleS  xs H Q=(∃p ys,xs=[.ref p]∧Sq H p ys∧∀l H',H' l=some (.tup ys)→Same H H'→Q (.ref l) H'):=rfl
structure DepQ (Q:VK) where
  n:Nat
structure DepF (g:TG) (tb:TS) (D:Ends) where
  n:Nat
structure DepW (c:TT) (tb:TS) (D:Ends) where
  n:Nat
structure DepC (g:TG) (tt:TT) (te:TE) (Q:Hp→Prop) where
  n:Nat
structure DepB (A B:Prop) where
  n:Nat
def tSp (sp:Sp) (vs:List V) (H:Hp) (Q:VK) (d:DepQ Q) (E:XK):Prop:=sp vs H Q E
def tFr (J:It) (g:TG) (tb:TS) (D:Ends) (d:DepF g tb D) (σ:St) (H:Hp):Prop:=tForAt J g tb D σ H
def tWh (c:TT) (tb:TS) (D:Ends) (d:DepW c tb D) (σ:St) (H:Hp):Prop:=tWhile c tb D σ H
def tCm (own:List Str) (caps:List Nat) (J:It) (g:TG) (tt:TT) (te:TE) (Q:Hp→Prop) (d:DepC g tt te Q) (D:Addr) (σ:St) (H:Hp):Prop:=tCompAt own caps J g tt te D σ H Q
def tBr (b:Bool) (A B:Prop) (d:DepB A B):Prop:=if b=true then A else B
@[simp] theorem tBr_t (A B:Prop) (d:DepB A B):tBr true A B d=A:=rfl
@[simp] theorem tBr_f (A B:Prop) (d:DepB A B):tBr false A B d=B:=rfl
theorem tBr.of {b:Bool} {A B:Prop} {d:DepB A B} (h1:b=true→A) (h2:b=false→B):tBr b A B d:=by
  cases b with
  | true=>exact h1 rfl
  | false=>exact h2 rfl
theorem tBr.pos {b:Bool} {A B:Prop} {d:DepB A B} (h:b=true) (h1:A):tBr b A B d:=by subst h;exact h1
theorem tBr.neg {b:Bool} {A B:Prop} {d:DepB A B} (h:b=false) (h1:B):tBr b A B d:=by subst h;exact h1
@[simp ↓] theorem tCall_w (sp:Sp) (dvs:List V) (E:XK) (t:TA) (σ:St) (H:Hp) (Q:VK):tCall sp dvs E t σ H Q=t σ H fun vs H1=>tSp sp (vs++dvs) H1 Q ⟨0⟩ E:=rfl
@[simp ↓] theorem tMeth_w (C:Addr) (m:Str) (sp:Sp) (dvs:List V) (E:XK) (ta:TE) (t:TA) (σ:St) (H:Hp) (Q:VK):tMeth C m sp dvs E ta t σ H Q=ta σ H fun x H1=>∃a dx fs,x = .ref a∧H1 a=some (.ins C dx fs)∧fs.lookup m=none∧t σ H1 fun vs H2=>tSp sp (x::(vs++dvs)) H2 Q ⟨0⟩ E:=rfl
@[simp ↓] theorem tMake_w (C:Addr) (sp:Sp) (dvs:List V) (E:XK) (t:TA) (σ:St) (H:Hp) (Q:VK):tMake C sp dvs E t σ H Q=t σ H fun vs H1=>∀x dx,H1 x=none→H1 dx=none→dx≠x→
  tSp sp (.ref x::(vs++dvs)) (upd (upd H1 dx (.own x)) x (.ins C dx [])) (fun v H2=>v = .non∧Q (.ref x) H2) ⟨0⟩ E:=rfl
@[simp ↓] theorem tFor_w (wi:TI) (g:TG) (tb:TS) (D:Ends) (σ:St) (H:Hp):tFor wi g tb D σ H=wi σ H fun J H1=>tFr J g tb D ⟨0⟩ σ H1:=rfl
@[simp ↓] theorem tWhile_w (c:TT) (tb:TS) (D:Ends) (σ:St) (H:Hp):tWhile c tb D σ H=tWh c tb D ⟨0⟩ σ H:=rfl
@[simp ↓] theorem tComp_w (own:List Str) (caps:List Nat) (wi:TI) (g:TG) (tt:TT) (te:TE) (σ:St) (H:Hp) (Q:VK):tComp own caps wi g tt te σ H Q=wi σ H fun J H1=>∀D,H1 D=none→tCm own caps J g tt te (Q (.ref D)) ⟨0⟩ D σ (upd H1 D (.lst [])):=rfl
@[simp ↓] theorem tIfS_w (c:TT) (t u:TS) (D:Ends) (σ:St) (H:Hp):tIfS c t u D σ H=c σ H fun b H1=>tBr b (t D σ H1) (u D σ H1) ⟨0⟩:=rfl
@[simp ↓] theorem tIf_w (c:TT) (t u:TE) (σ:St) (H:Hp) (Q:VK):tIf c t u σ H Q=c σ H fun b H1=>tBr b (t σ H1 Q) (u σ H1 Q) ⟨0⟩:=rfl
@[simp ↓] theorem tAnd_w (t u:TT) (σ:St) (H:Hp) (Q:Bool→Hp→Prop):tAnd t u σ H Q=t σ H fun c H1=>tBr c (u σ H1 Q) (Q false H1) ⟨0⟩:=rfl
@[simp ↓] theorem tOr_w (t u:TT) (σ:St) (H:Hp) (Q:Bool→Hp→Prop):tOr t u σ H Q=t σ H fun c H1=>tBr c (Q true H1) (u σ H1 Q) ⟨0⟩:=rfl
@[simp ↓] theorem tAndV_w (ta tb:TE) (σ:St) (H:Hp) (Q:VK):tAndV ta tb σ H Q=ta σ H fun x H1=>∃c,x = .bl c∧tBr c (tb σ H1 Q) (Q (.bl false) H1) ⟨0⟩:=rfl
@[simp ↓] theorem tChain_w (r r':R2) (ta tb tc:TE) (σ:St) (H:Hp) (Q:VK):tChain r r' ta tb tc σ H Q=ta σ H fun x H1=>tb σ H1 fun y H2=>r x y H2 fun z H3=>∃k,z = .bl k∧tBr k (tc σ H3 fun z H4=>r' y z H4 Q) (Q (.bl false) H3) ⟨0⟩:=rfl
def tTurn (g:TG) (tt:TT) (te:TE) (D:Addr) (N:St→Hp→Prop) (x:V) (σ:St) (H:Hp):Prop:=
  g x σ H fun σ2 H3=>tt σ2 H3 fun b H4=>tBr b (te σ2 H4 fun y H5=>∃ys,H5 D=some (.lst ys)∧ys.length<sizeLine∧N σ2 (upd H5 D (.lst (ys++[y])))) (N σ2 H4) ⟨0⟩
@[simp ↓] theorem tTurn_w (g:TG) (tt:TT) (te:TE) (D:Addr) (N:St→Hp→Prop) (x:V) (σ:St) (H:Hp):tTurn g tt te D N x σ H =
  (g x σ H fun σ2 H3=>tt σ2 H3 fun b H4=>tBr b (te σ2 H4 fun y H5=>∃ys,H5 D=some (.lst ys)∧ys.length<sizeLine∧N σ2 (upd H5 D (.lst (ys++[y])))) (N σ2 H4) ⟨0⟩):=rfl
@[simp ↓] theorem ex_par {α:Type} (a b:α) (R:α→α→Prop):(∃v w,[a,b]=[v,w]∧R v w)=R a b:=by
  refine propext ⟨?_,fun h=>⟨a,b,rfl,h⟩⟩
  rintro ⟨_,_,e,h⟩
  cases e
  exact h
@[simp] theorem ex_and2 {α β:Type} (a:α) (b:β) (R:α→β→Prop):(∃v w,(a=v∧b=w)∧R v w)=R a b:=by
  refine propext ⟨?_,fun h=>⟨a,b,⟨rfl,rfl⟩,h⟩⟩
  rintro ⟨_,_,⟨rfl,rfl⟩,h⟩
  exact h
@[simp] theorem sz0:(0≤sizeLine)=True:=eq_true (by decide)
@[simp] theorem sz1:(1≤sizeLine)=True:=eq_true (by decide)
@[simp] theorem sz2:(2≤sizeLine)=True:=eq_true (by decide)
@[simp] theorem sz3:(3≤sizeLine)=True:=eq_true (by decide)
@[simp] theorem sz4:(4≤sizeLine)=True:=eq_true (by decide)
@[simp] theorem sz5:(5≤sizeLine)=True:=eq_true (by decide)
@[simp] theorem sz6:(6≤sizeLine)=True:=eq_true (by decide)
@[simp] theorem sz7:(7≤sizeLine)=True:=eq_true (by decide)
@[simp] theorem sz8:(8≤sizeLine)=True:=eq_true (by decide)
@[simp] theorem sz9:(9≤sizeLine)=True:=eq_true (by decide)
@[simp] theorem sz10:(10≤sizeLine)=True:=eq_true (by decide)
@[simp] theorem sz11:(11≤sizeLine)=True:=eq_true (by decide)
@[simp] theorem sz12:(12≤sizeLine)=True:=eq_true (by decide)
@[simp] theorem sz13:(13≤sizeLine)=True:=eq_true (by decide)
@[simp] theorem sz14:(14≤sizeLine)=True:=eq_true (by decide)
@[simp] theorem sz15:(15≤sizeLine)=True:=eq_true (by decide)
@[simp] theorem sz16:(16≤sizeLine)=True:=eq_true (by decide)
@[simp] theorem sz17:(17≤sizeLine)=True:=eq_true (by decide)
@[simp] theorem sz18:(18≤sizeLine)=True:=eq_true (by decide)
@[simp] theorem sz19:(19≤sizeLine)=True:=eq_true (by decide)
@[simp] theorem sz20:(20≤sizeLine)=True:=eq_true (by decide)
@[simp] theorem scal_ii (i j:Int):scal (.int i) (.int j)=true:=rfl
@[simp] theorem scal_ss (i j:Str):scal (.str i) (.str j)=true:=rfl
@[simp] theorem scal_bb (i j:Bool):scal (.bl i) (.bl j)=true:=rfl
@[simp] theorem scal_is (i:Int) (j:Str):scal (.int i) (.str j)=true:=rfl
@[simp] theorem scal_si (i:Int) (j:Str):scal (.str j) (.int i)=true:=rfl
@[simp] theorem tyV_list (K:PySem.W.Frag) (p:Addr) (H:Hp):tyV K "list" (.ref p) H=(∃xs,SqL K H p xs):=by simp [tyV]
@[simp] theorem tyV_str (K:PySem.W.Frag) (p:Str) (H:Hp):tyV K "str" (.str p) H=True:=by simp [tyV]
section
variable {K:PySem.W.Frag} {l:Addr} {xs:List V} {g:TG} {tb:TS} {D:Ends} {d:DepF g tb D} {σ:St} {H:Hp}
theorem frL (xs:List V) (Pv:Nat→St→Hp→Prop) (h0:Pv 0 σ H) (hl:∀i σ H,i≤xs.length→Pv i σ H→SqL K H l xs)
    (hs:∀i x σ H,xs[i]? = some x→Pv i σ H→g x σ H fun σ2 H2=>tb {D with nx:=Pv (i+1),ct:=Pv (i+1),bk:=D.nx} σ2 H2) (hd:∀σ H,Pv xs.length σ H→D.nx σ H):tFr (Itl K l) g tb D d σ H:=for_list Pv h0 hl hs hd
theorem frR {lo:Int} {n:Nat} (Pv:Nat→St→Hp→Prop) (h0:Pv 0 σ H)
    (hs:∀i σ H,i<n→Pv i σ H→g (.int (lo+i)) σ H fun σ2 H2=>tb {D with nx:=Pv (i+1),ct:=Pv (i+1),bk:=D.nx} σ2 H2) (hd:∀σ H,Pv n σ H→D.nx σ H):tFr (Itr lo n) g tb D d σ H:=for_range Pv h0 hs hd
end
section
variable {K:PySem.W.Frag} {own:List Str} {caps:List Nat} {g:TG} {tt:TT} {te:TE} {D l l1 l2:Addr} {σ:St} {H:Hp} {Q:Hp→Prop} {d:DepC g tt te Q}
theorem cmL (xs:List V) (Pv:Nat→St→Hp→Prop) (h0:Pv 0 (stC own caps σ) H) (hl:∀i σ H,i≤xs.length→Pv i σ H→SqL K H l xs)
    (hs:∀i x σ H,xs[i]? = some x→Pv i σ H→tTurn g tt te D (Pv (i+1)) x σ H) (hd:∀σ H,Pv xs.length σ H→Q H):tCm own caps (Itl K l) g tt te Q d D σ H:=comp_list Pv h0 hl hs hd
theorem cmQ {b:Bool} (xs:List V) (Pv:Nat→St→Hp→Prop) (h0:Pv 0 (stC own caps σ) H) (hl:∀i σ H,i≤xs.length→Pv i σ H→SqB b K H l xs)
    (hs:∀i x σ H,xs[i]? = some x→Pv i σ H→tTurn g tt te D (Pv (i+1)) x σ H) (hd:∀σ H,Pv xs.length σ H→Q H):tCm own caps (Itq b K l) g tt te Q d D σ H:=comp_seq Pv h0 hl hs hd
theorem cmR {lo:Int} {n:Nat} (Pv:Nat→St→Hp→Prop) (h0:Pv 0 (stC own caps σ) H)
    (hs:∀i σ H,i<n→Pv i σ H→tTurn g tt te D (Pv (i+1)) (.int (lo+i)) σ H) (hd:∀σ H,Pv n σ H→Q H):tCm own caps (Itr lo n) g tt te Q d D σ H:=comp_range Pv h0 hs hd
theorem cmS {z:Str} (Pv:Nat→St→Hp→Prop) (h0:Pv 0 (stC own caps σ) H)
    (hs:∀i c σ H,z.cps[i]? = some c→Pv i σ H→tTurn g tt te D (Pv (i+1)) (.str ⟨#[c]⟩) σ H) (hd:∀σ H,Pv z.cps.size σ H→Q H):tCm own caps (Its z) g tt te Q d D σ H:=comp_str Pv h0 hs hd
theorem cmZ (xs ys:List V) (Pv:Nat→St→Hp→Prop) (h0:Pv 0 (stC own caps σ) H) (he:xs.length=ys.length) (hl:∀i σ H,i≤xs.length→Pv i σ H→SqL K H l1 xs∧SqL K H l2 ys)
    (hs:∀i x y t σ H,xs[i]? = some x→ys[i]? = some y→H t=none→Pv i σ H→tTurn g tt te D (Pv (i+1)) (.ref t) σ (upd H t (.tup [x,y]))) (hd:∀σ H,Pv xs.length σ H→Q H):tCm own caps (Itz K l1 l2) g tt te Q d D σ H:=comp_zip Pv h0 he hl hs hd
end
theorem tBr_join {c:Bool} {t u:TS} {D:Ends} {σ:St} {H:Hp} {d:DepB (t D σ H) (u D σ H)} (R:St→Hp→Prop) (hc:∀σ H,R σ H→D.nx σ H)
    (h:∀N:St→Hp→Prop,(∀σ H,R σ H→N σ H)→tBr c (t {D with nx:=N} σ H) (u {D with nx:=N} σ H) ⟨0⟩):tBr c (t D σ H) (u D σ H) d:=h D.nx hc
theorem perm_map_inv {α β:Type} {f:α→β} {ys zs:List β} (h:ys.Perm zs):∀l:List α,zs=l.map f→∃l':List α,l'.Perm l∧ys=l'.map f:=by
  induction h with
  | nil=>
    intro l e
    cases l with
    | nil=>exact ⟨[],.nil,rfl⟩
    | cons a l=>cases e
  | cons x _ ih=>
    intro l e
    cases l with
    | nil=>cases e
    | cons a l=>
      simp only [List.map_cons,List.cons.injEq] at e
      obtain ⟨l',p,e'⟩:=ih l e.2
      exact ⟨a::l',p.cons a,by rw [e',e.1,List.map_cons]⟩
  | swap x y _=>
    intro l e
    match l,e with
    | a::b::l,e=>
      simp only [List.map_cons,List.cons.injEq] at e
      exact ⟨b::a::l,.swap ..,by rw [e.1,e.2.1,e.2.2];rfl⟩
  | trans _ _ ih1 ih2=>
    intro l e
    obtain ⟨l',p,e'⟩:=ih2 l e
    obtain ⟨l2,p2,e2⟩:=ih1 l' e'
    exact ⟨l2,p2.trans p,e2⟩
theorem atI_prev {α:Type} {xs:List α} {k:Nat} (h2:2≤xs.length) (hk:k<xs.length):∃j x,j≠k∧xs[j]? = some x∧atI xs ((k:Int) - 1)=some x:=by
  cases k with
  | zero=>
    have hj:xs.length - 1<xs.length:=by omega
    refine ⟨xs.length - 1,xs[xs.length - 1],by omega,by simp [hj],?_⟩
    unfold atI ixN
    rw [if_neg (by omega),if_pos (by omega)]
    have e:(((0:Nat):Int) - 1+xs.length).toNat=xs.length - 1:=by omega
    show xs[(((0:Nat):Int) - 1+xs.length).toNat]? = _
    rw [e]
    simp [hj]
  | succ k=>
    have hj:k<xs.length:=by omega
    have e:((k+1:Nat):Int) - 1=(k:Int):=by omega
    rw [e]
    exact ⟨k,xs[k],by omega,by simp [hj],atI_nat (by simp [hj])⟩
end L2
namespace L2
open PySem
theorem kit_list_int (K:W.Frag):W.kitOne K (.type "list") (.type "int")=some false:=by simp [W.kitOne];rfl
theorem kit_list_bool (K:W.Frag):W.kitOne K (.type "list") (.type "bool")=some false:=by simp [W.kitOne];rfl
theorem kit_tuple_int (K:W.Frag):W.kitOne K (.type "tuple") (.type "int")=some false:=by simp [W.kitOne];rfl
theorem kit_tuple_bool (K:W.Frag):W.kitOne K (.type "tuple") (.type "bool")=some false:=by simp [W.kitOne];rfl
theorem kit_str_str (K:W.Frag):W.kitOne K (.type "str") (.type "str")=some true:=by simp [W.kitOne]
theorem kit_str_int (K:W.Frag):W.kitOne K (.type "str") (.type "int")=some false:=by simp [W.kitOne];rfl
theorem kit_str_bool (K:W.Frag):W.kitOne K (.type "str") (.type "bool")=some false:=by simp [W.kitOne];rfl
theorem kit_int_int (K:W.Frag):W.kitOne K (.type "int") (.type "int")=some true:=by simp [W.kitOne]
theorem kit_int_bool (K:W.Frag):W.kitOne K (.type "int") (.type "bool")=some false:=by simp [W.kitOne];rfl
theorem kit_bool_int (K:W.Frag):W.kitOne K (.type "bool") (.type "int")=some true:=by simp [W.kitOne];rfl
theorem kit_bool_bool (K:W.Frag):W.kitOne K (.type "bool") (.type "bool")=some true:=by simp [W.kitOne]
theorem kit_dict_int (K:W.Frag):W.kitOne K (.type "dict") (.type "int")=some false:=by simp [W.kitOne];rfl
theorem kit_dict_bool (K:W.Frag):W.kitOne K (.type "dict") (.type "bool")=some false:=by simp [W.kitOne];rfl
theorem kit_NoneType_int (K:W.Frag):W.kitOne K (.type "NoneType") (.type "int")=some false:=by simp [W.kitOne];rfl
theorem kit_NoneType_bool (K:W.Frag):W.kitOne K (.type "NoneType") (.type "bool")=some false:=by simp [W.kitOne];rfl
end L2
namespace L2
open PySem PySem.Spec PyProof.Rows
section
variable {X:Cx} {K:PySem.W.Frag}
def rNeD (K:PySem.W.Frag):R2:=fun x y H Q=>∃d e,Is K H d x∧Is K H e y∧d.canLay0=true∧e.canLay0=true∧d.depth≤64∧Q (.bl (!PyData.eqv d e)) H
theorem opNeDk (hK:X.K=K) (hu:X.A.units+64<cLine):OpR X (compareOp .NotEq) (rNeD K):=by
  subst hK
  intro pins s σ H x y v u Q I rx ry h
  obtain ⟨d,e,h1,h2,h3,h4,h5,q⟩:=h
  exact op_neD pins s σ H x y v u Q I rx ry ⟨d,e,h1,h2,h3,h4,by omega,q⟩
@[simp ↓] theorem rNeD_w (K:PySem.W.Frag) (x y:V) (H:Hp) (Q:VK):rNeD K x y H Q=∃d e,Is K H d x∧Is K H e y∧d.canLay0=true∧e.canLay0=true∧d.depth≤64∧Q (.bl (!PyData.eqv d e)) H:=rfl
end
@[simp ↓] theorem tDGet_w (td ty:TE) (σ:St) (H:Hp) (Q:VK):tDGet td ty σ H Q=(td σ H fun x H1=>ty σ H1 fun y H2=>∃a v,x = .ref a∧DGet H2 a y (some v)∧Q v H2):=rfl
@[simp ↓] theorem tDIn_w (ty td:TE) (σ:St) (H:Hp) (Q:VK):tDIn ty td σ H Q=(ty σ H fun y H1=>td σ H1 fun x H2=>∃a o,x = .ref a∧DGet H2 a y o∧Q (.bl o.isSome) H2):=rfl
@[simp ↓] theorem tDNotIn_w (ty td:TE) (σ:St) (H:Hp) (Q:VK):tDNotIn ty td σ H Q=(ty σ H fun y H1=>td σ H1 fun x H2=>∃a o,x = .ref a∧DGet H2 a y o∧Q (.bl (!o.isSome)) H2):=rfl
@[simp ↓] theorem sDPut_w (td ty tv:TE) (D:Ends) (σ:St) (H:Hp):sDPut td ty tv D σ H=(tv σ H fun v H1=>td σ H1 fun x H2=>ty σ H2 fun y H3=>∃a H4,x = .ref a∧DPut H3 a y v H4∧D.nx σ H4):=rfl
@[simp ↓] theorem tDisp_w (trs:List (TE×TE)) (σ:St) (H:Hp) (Q:VK):tDisp trs σ H Q=(∀p,H p=none→tPairs trs σ (upd H p (.dK [])) fun ps H2=>H2 p=some (.dK [])∧∃kvs:List (Key×V),ps=kvs.map (fun kv=>(kV kv.1,kv.2))∧kvs.length≤15∧Q (.ref p) (upd H2 p (.dK (mergeK [] kvs)))):=rfl
@[simp ↓] theorem tPairs_n (σ:St) (H:Hp) (Q:List (V×V)→Hp→Prop):tPairs [] σ H Q=Q [] H:=rfl
@[simp ↓] theorem tPairs_c (tk tv:TE) (r:List (TE×TE)) (σ:St) (H:Hp) (Q:List (V×V)→Hp→Prop):tPairs ((tk,tv)::r) σ H Q=(tk σ H fun x H1=>tv σ H1 fun y H2=>tPairs r σ H2 fun ps H3=>Q ((x,y)::ps) H3):=rfl
@[simp ↓] theorem tDGet1_w (td ty:TE) (σ:St) (H:Hp) (Q:VK):tDGet1 td ty σ H Q=(td σ H fun x H1=>∃a,x = .ref a∧IsD H1 a∧ty σ H1 fun y H2=>∃o,DGet H2 a y o∧Q (o.getD .non) H2):=rfl
@[simp ↓] theorem tDGet2_w (td ty tx:TE) (σ:St) (H:Hp) (Q:VK):tDGet2 td ty tx σ H Q=(td σ H fun x H1=>∃a,x = .ref a∧IsD H1 a∧ty σ H1 fun y H2=>tx σ H2 fun z H3=>∃o,DGet H3 a y o∧Q (o.getD z) H3):=rfl
@[simp ↓] theorem iEnum_w (K:PySem.W.Frag) (t:TA) (σ:St) (H:Hp) (R:It→Hp→Prop):iEnum K t σ H R=(t σ H fun vs H1=>∃a xs,vs=[.ref a]∧SqL K H1 a xs∧R (Ite K a) H1):=rfl
theorem getI {H:Hp} {a:Addr} {kvs:List (Key×V)} (i:Int) (e:H a=some (.dK kvs)):DGet H a (.int i) (valV kvs (Sum.inl i)):=DGet.k (k:=Sum.inl i) e
theorem getS {H:Hp} {a:Addr} {kvs:List (Key×V)} (x:Str) (e:H a=some (.dK kvs)):DGet H a (.str x) (valV kvs (Sum.inr x)):=DGet.k (k:=Sum.inr x) e
theorem putS {H:Hp} {a:Addr} {kvs:List (Key×V)} {v:V} (x:Str) (e:H a=some (.dK kvs)) (hl:kvs.length<sizeLine):DPut H a (.str x) v (upd H a (.dK (putK kvs (Sum.inr x) v))):=DPut.k (k:=Sum.inr x) e hl
theorem isD {H:Hp} {a:Addr} {kvs:List (Key×V)} (e:H a=some (.dK kvs)):IsD H a:=.inl ⟨kvs,.inl e⟩
section
variable {K:PySem.W.Frag} {l:Addr} {g:TG} {tb:TS} {D:Ends} {d:DepF g tb D} {σ:St} {H:Hp}
theorem frE (xs:List V) (Pv:Nat→St→Hp→Prop) (h0:Pv 0 σ H) (hl:∀i σ H,i≤xs.length→Pv i σ H→SqL K H l xs)
    (hs:∀i x t σ H,xs[i]? = some x→H t=none→Pv i σ H→g (.ref t) σ (upd H t (.tup [.int i,x])) fun σ2 H2=>tb {D with nx:=Pv (i+1),ct:=Pv (i+1),bk:=D.nx} σ2 H2) (hd:∀σ H,Pv xs.length σ H→D.nx σ H):tFr (Ite K l) g tb D d σ H:=by
  refine ⟨fun i m σ H=>m=xs.length - i∧i≤xs.length∧Pv i σ H,⟨xs.length,by simp,Nat.zero_le _,h0⟩,?_⟩
  rintro i m σ H ⟨rfl,hi,p⟩
  have q:=hl i σ H hi p
  by_cases hlt:i<xs.length
  · refine .inr ⟨⟨xs,xs[i],q,by simp [hlt]⟩,Pv (i+1),fun σ' H' p'=>⟨xs.length - (i+1),by omega,rfl,hlt,p'⟩,fun x H' y=>?_⟩
    obtain ⟨t,u,rfl,ht,rfl,e⟩:=y
    exact hs i u t σ H (e xs q) ht p
  · have e:i=xs.length:=by omega
    subst e
    exact .inl ⟨⟨xs,q,Nat.le_refl _⟩,hd σ H p⟩
end
section
variable {K:PySem.W.Frag} {own:List Str} {caps:List Nat} {g:TG} {tt:TT} {te:TE} {D l:Addr} {σ:St} {H:Hp} {Q:Hp→Prop} {d:DepC g tt te Q}
theorem cmE (xs:List V) (Pv:Nat→St→Hp→Prop) (h0:Pv 0 (stC own caps σ) H) (hl:∀i σ H,i≤xs.length→Pv i σ H→SqL K H l xs)
    (hs:∀i x t σ H,xs[i]? = some x→H t=none→Pv i σ H→tTurn g tt te D (Pv (i+1)) (.ref t) σ (upd H t (.tup [.int i,x]))) (hd:∀σ H,Pv xs.length σ H→Q H):tCm own caps (Ite K l) g tt te Q d D σ H:=by
  refine ⟨fun i m σ H=>m=xs.length - i∧i≤xs.length∧Pv i σ H,⟨xs.length,by simp,Nat.zero_le _,h0⟩,?_⟩
  rintro i m σ H ⟨rfl,hi,p⟩
  have q:=hl i σ H hi p
  by_cases hlt:i<xs.length
  · refine .inr ⟨⟨xs,xs[i],q,by simp [hlt]⟩,Pv (i+1),fun σ' H' p'=>⟨xs.length - (i+1),by omega,rfl,hlt,p'⟩,fun x H' y=>?_⟩
    obtain ⟨t,u,rfl,ht,rfl,e⟩:=y
    exact hs i u t σ H (e xs q) ht p
  · have e:i=xs.length:=by omega
    subst e
    exact .inl ⟨⟨xs,q,Nat.le_refl _⟩,hd σ H p⟩
end
section
variable {c:TT} {tb:TS} {D:Ends} {d:DepW c tb D} {σ:St} {H:Hp}
theorem whB (Pv:St→Hp→Prop) (μ:St→Hp→Nat) (h0:Pv σ H)
    (hs:∀σ H,Pv σ H→c σ H fun b H1=>tBr b (tb {D with nx:=fun σ' H'=>Pv σ' H'∧μ σ' H'<μ σ H,ct:=fun σ' H'=>Pv σ' H'∧μ σ' H'<μ σ H,bk:=D.nx} σ H1) (D.nx σ H1) ⟨0⟩)
    (mono:∀σ H Q Q',(∀b H1,Q b H1→Q' b H1)→c σ H Q→c σ H Q'):tWh c tb D d σ H:=while_by Pv μ h0 hs mono
end
end L2
namespace L2
open PySem
inductive RT {α:Type} (R:α→α→Prop):α→α→Prop where
  | refl (a:α):RT R a a
  | tail {a b c:α}:RT R a b→R b c→RT R a c
abbrev Stp:=Nat×Str×Str
def Along (S:List Stp) (a b:Str):Prop:=∃n,(n,a,b)∈S
def stepOf (fx:Nat→Option Int) (e:Str×Str) (k:Nat):List Stp:=
  (if (fx k).getD 0=0 then [(k,e.1,e.2)] else [])++(if (fx k).getD 1=1 then [(k,e.2,e.1)] else [])
def stepsOf (fx:Nat→Option Int):List (Str×Str)→Nat→List Stp
  | [],_=>[]
  | e::r,k=>stepOf fx e k++stepsOf fx r (k+1)
theorem stepsOf_append (fx:Nat→Option Int):∀(l m:List (Str×Str)) (k:Nat),stepsOf fx (l++m) k=stepsOf fx l k++stepsOf fx m (k+l.length)
  | [],m,k=>by simp [stepsOf]
  | e::l,m,k=>by
    simp only [List.cons_append,stepsOf,stepsOf_append fx l m (k+1),List.append_assoc,List.length_cons]
    rw [show k+1+l.length=k+(l.length+1) by omega]
theorem stepsOf_take (fx:Nat→Option Int) {ps:List (Str×Str)} {i:Nat} {e:Str×Str} (h:ps[i]? = some e):stepsOf fx (ps.take (i+1)) 0=stepsOf fx (ps.take i) 0++stepOf fx e i:=by
  have hi:i<ps.length:=(List.getElem?_eq_some_iff.mp h).1
  rw [take_one h,stepsOf_append,List.length_take,Nat.min_eq_left (Nat.le_of_lt hi),Nat.zero_add]
  simp [stepsOf]
end L2
namespace L2
open PySem PySem.Spec PyProof.Rows
def AllAt {β:Type} (R:Hp→V→β→Prop) (H:Hp) (vs:List V) (bs:List β):Prop:=vs.length=bs.length∧∀(i:Nat) v b,vs[i]? = some v→bs[i]? = some b→R H v b
section
variable {β:Type} {R:Hp→V→β→Prop} {H H':Hp} {vs:List V} {bs:List β}
theorem AllAt.nil:AllAt R H [] []:=⟨rfl,fun i v b h=>by simp at h⟩
theorem AllAt.keep (h:AllAt R H vs bs) (k:∀v b,R H v b→R H' v b):AllAt R H' vs bs:=⟨h.1,fun i v b h1 h2=>k v b (h.2 i v b h1 h2)⟩
theorem AllAt.at (h:AllAt R H vs bs) {i:Nat} {v:V} (hv:vs[i]? = some v):∃b,bs[i]? = some b∧R H v b:=by
  have hi:i<bs.length:=by rw [← h.1];exact (List.getElem?_eq_some_iff.mp hv).1
  exact ⟨bs[i],by simp [hi],h.2 i v _ hv (by simp [hi])⟩
theorem AllAt.snoc {v:V} {b:β} (h:AllAt R H vs bs) (hv:R H v b):AllAt R H (vs++[v]) (bs++[b]):=by
  refine ⟨by simp [h.1],fun i u d h1 h2=>?_⟩
  by_cases hi:i<vs.length
  · rw [List.getElem?_append_left hi] at h1
    rw [List.getElem?_append_left (by rw [← h.1];exact hi)] at h2
    exact h.2 i u d h1 h2
  · rw [List.getElem?_append_right (by omega)] at h1
    rw [List.getElem?_append_right (by rw [← h.1];omega),← h.1] at h2
    cases hk:i - vs.length with
    | zero=>
      rw [hk] at h1 h2
      cases h1
      cases h2
      exact hv
    | succ j=>
      rw [hk] at h1
      simp at h1
end
def StepR (H:Hp) (v:V) (s:Stp):Prop:=∃t,v = .ref t∧H t=some (.tup [.int s.1,.str s.2.1,.str s.2.2])
abbrev StepsAt:=AllAt StepR
def TupKeep (H H':Hp):Prop:=∀b xs,H b=some (.tup xs)→H' b=some (.tup xs)
theorem TupKeep.of {H H':Hp} (s:Same H H'):TupKeep H H':=fun b xs e=>s b _ e
theorem TupKeep.set {H:Hp} {p:Addr} {o u:HO} (h:H p=some o) (hn:∀xs,o≠.tup xs):TupKeep H (upd H p u):=fun b xs e=>by
  rw [upd_ne (fun z=>by subst z;rw [h] at e;exact hn xs (Option.some.inj e))]
  exact e
theorem StepR.keep {H H':Hp} (k:TupKeep H H'):∀v s,StepR H v s→StepR H' v s:=fun v s ⟨t,e,h⟩=>⟨t,e,k _ _ h⟩
theorem StepsAt.keep {H H':Hp} {vs:List V} {S:List Stp} (h:StepsAt H vs S) (k:TupKeep H H'):StepsAt H' vs S:=AllAt.keep h (StepR.keep k)
def FixAt (H:Hp) (d:Addr) (fx:Nat→Option Int):Prop:=∃kvs,H d=some (.dK kvs)∧∀k:Nat,valV kvs (Sum.inl (k:Int))=(fx k).map V.int
theorem getD_int (o:Option Int) (x:Int):(o.map V.int).getD (.int x) = .int (o.getD x):=by cases o <;> rfl
end L2
namespace L2
open PySem
inductive PathV (S:List Stp) (a:Str):List Nat→List Str→Str→Prop where
  | nil:PathV S a [] [a] a
  | snoc {w:List Nat} {vs:List Str} {b c:Str} {n:Nat}:PathV S a w vs b→(n,b,c)∈S→PathV S a (w++[n]) (vs++[c]) c
theorem PathV.reach {S:List Stp} {a:Str} {w:List Nat} {vs:List Str} {b:Str} (h:PathV S a w vs b):RT (Along S) a b:=by
  induction h with
  | nil=>exact .refl _
  | snoc _ q ih=>exact .tail ih ⟨_,q⟩
inductive Walk (S:List Stp) (a:Str):Nat→Str→Prop where
  | nil:Walk S a 0 a
  | snoc {k:Nat} {b c:Str} {n:Nat}:Walk S a k b→(n,b,c)∈S→Walk S a (k+1) c
theorem Walk.of {S:List Stp} {a b:Str} (h:RT (Along S) a b):∃k,Walk S a k b:=by
  induction h with
  | refl=>exact ⟨0,.nil⟩
  | tail _ q ih=>
    obtain ⟨k,hk⟩:=ih
    obtain ⟨n,hn⟩:=q
    exact ⟨k+1,.snoc hk hn⟩
abbrev BR:=List (Str×List Nat)
structure Bfs (S:List Stp) (a:Str) (at_:Nat) (R:BR):Prop where
  st:R[0]? = some (a,[])
  nd:(R.map (·.1)).Nodup
  pth:∀y w,(y,w)∈R→∃vs,PathV S a w vs y∧vs.Nodup∧∀v∈vs,v∈R.map (·.1)
  cl:∀(i:Nat) y w,i<at_→R[i]? = some (y,w)→∀n c,(n,y,c)∈S→∃w',(c,w')∈R∧w'.length≤w.length+1
  mono:∀(i j:Nat) y w z u,i≤j→R[i]? = some (y,w)→R[j]? = some (z,u)→w.length≤u.length
  bd:∀(y:Str) (w:List Nat) z u,R[at_]? = some (y,w)→(z,u)∈R→u.length≤w.length+1
structure BfsMid (S T:List Stp) (a:Str) (at_:Nat) (h:Str) (wh:List Nat) (R:BR):Prop where
  bf:Bfs S a at_ R
  hr:R[at_]? = some (h,wh)
  md:∀n c,(n,h,c)∈T→∃w',(c,w')∈R∧w'.length≤wh.length+1
theorem Bfs.begin (S:List Stp) (a:Str):Bfs S a 0 [(a,[])]:=by
  refine ⟨rfl,by simp,?_,by intro i y w h;omega,?_,?_⟩
  · intro y w h
    simp at h
    obtain ⟨rfl,rfl⟩:=h
    exact ⟨[y],.nil,by simp,by simp⟩
  · intro i j y w z u hij h1 h2
    have hi:i=0:=by have:=(List.getElem?_eq_some_iff.mp h1).1;simp at this;omega
    have hj:j=0:=by have:=(List.getElem?_eq_some_iff.mp h2).1;simp at this;omega
    subst hi hj
    rw [h1] at h2
    cases h2
    exact Nat.le_refl _
  · intro y w z u h1 h2
    simp at h1 h2
    rw [h2.2,← h1.2]
    simp
theorem BfsMid.enter {S:List Stp} {a:Str} {at_:Nat} {h:Str} {wh:List Nat} {R:BR} (b:Bfs S a at_ R) (hr:R[at_]? = some (h,wh)):BfsMid S [] a at_ h wh R:=⟨b,hr,by simp⟩
theorem BfsMid.skip {S T:List Stp} {a:Str} {at_:Nat} {h:Str} {wh:List Nat} {R:BR} (b:BfsMid S T a at_ h wh R) {s:Stp} (hs:s.2.1=h→s.2.2∈R.map (·.1)):BfsMid S (T++[s]) a at_ h wh R:=by
  refine ⟨b.bf,b.hr,fun n c hm=>?_⟩
  rcases List.mem_append.mp hm with q | q
  ·exact b.md n c q
  · simp at q
    subst q
    obtain ⟨⟨c',w'⟩,hw,e⟩:=List.mem_map.mp (hs rfl)
    simp only at e
    subst e
    exact ⟨w',hw,b.bf.bd _ _ _ _ b.hr hw⟩
theorem BfsMid.add {S T:List Stp} {a:Str} {at_:Nat} {h:Str} {wh:List Nat} {R:BR} (b:BfsMid S T a at_ h wh R) {n:Nat} {c:Str} (hS:(n,h,c)∈S) (hc:¬c∈R.map (·.1)):BfsMid S (T++[(n,h,c)]) a at_ h wh (R++[(c,wh++[n])]):=by
  obtain ⟨⟨st,nd,pth,cl,mono,bd⟩,hr,md⟩:=b
  have hat:at_<R.length:=(List.getElem?_eq_some_iff.mp hr).1
  have ml:∀{i:Nat} {x},i<R.length→(R++[(c,wh++[n])])[i]? = some x→R[i]? = some x:=fun hi e=>by rwa [List.getElem?_append_left hi] at e
  have last:∀{i:Nat} {x},¬i<R.length→(R++[(c,wh++[n])])[i]? = some x→x=(c,wh++[n]):=fun hi e=>by
    rw [List.getElem?_append_right (by omega)] at e
    cases hk:_ - R.length with
    | zero=>rw [hk] at e;simp at e;exact e.symm
    | succ k=>rw [hk] at e;simp at e
  refine ⟨⟨?_,?_,?_,?_,?_,?_⟩,?_,?_⟩
  ·rw [List.getElem?_append_left (by omega)];exact st
  · rw [List.map_append,List.nodup_append]
    refine ⟨nd,by simp,?_⟩
    intro x hx y hy e
    simp at hy
    subst hy
    exact hc (e▸hx)
  · intro y w hy
    rcases List.mem_append.mp hy with q | q
    · obtain ⟨vs,h1,h2,h3⟩:=pth y w q
      exact ⟨vs,h1,h2,fun v hv=>by rw [List.map_append];exact List.mem_append_left _ (h3 v hv)⟩
    · simp at q
      obtain ⟨rfl,rfl⟩:=q
      obtain ⟨vs,h1,h2,h3⟩:=pth h wh (List.mem_of_getElem? hr)
      refine ⟨vs++[y],.snoc h1 hS,?_,?_⟩
      · rw [List.nodup_append]
        refine ⟨h2,by simp,?_⟩
        intro x hx z hz e
        simp at hz
        subst hz
        exact hc (e▸h3 x hx)
      · intro v hv
        rw [List.map_append]
        rcases List.mem_append.mp hv with q | q
        ·exact List.mem_append_left _ (h3 v q)
        · simp at q
          subst q
          simp
  · intro i y w hi e m c' hm
    obtain ⟨w',q1,q2⟩:=cl i y w hi (ml (by omega) e) m c' hm
    exact ⟨w',List.mem_append_left _ q1,q2⟩
  · intro i j y w z u hij h1 h2
    by_cases hj:j<R.length
    ·exact mono i j y w z u hij (ml (by omega) h1) (ml hj h2)
    · have e2:=last hj h2
      cases e2
      by_cases hi:i<R.length
      · have:=bd h wh y w hr (List.mem_of_getElem? (ml hi h1))
        simp
        exact this
      · have e1:=last hi h1
        cases e1
        exact Nat.le_refl _
  · intro y w z u h1 h2
    have h1':=ml hat h1
    rw [hr] at h1'
    cases h1'
    rcases List.mem_append.mp h2 with q | q
    ·exact bd _ _ z u hr q
    · simp at q
      rw [q.2]
      simp
  ·rw [List.getElem?_append_left hat];exact hr
  · intro m c' hm
    rcases List.mem_append.mp hm with q | q
    · obtain ⟨w',q1,q2⟩:=md m c' q
      exact ⟨w',List.mem_append_left _ q1,q2⟩
    · simp at q
      obtain ⟨rfl,rfl⟩:=q
      exact ⟨wh++[m],by simp,by simp⟩
theorem BfsMid.leave {S:List Stp} {a:Str} {at_:Nat} {h:Str} {wh:List Nat} {R:BR} (b:BfsMid S S a at_ h wh R):Bfs S a (at_+1) R:=by
  obtain ⟨⟨st,nd,pth,cl,mono,bd⟩,hr,md⟩:=b
  refine ⟨st,nd,pth,?_,mono,?_⟩
  · intro i y w hi e n c hm
    by_cases hia:i=at_
    · subst hia
      rw [hr] at e
      cases e
      exact md n c hm
    ·exact cl i y w (by omega) e n c hm
  · intro y w z u h1 h2
    have q1:=bd h wh z u hr h2
    have q2:=mono at_ (at_+1) h wh y w (by omega) hr h1
    omega
theorem Bfs.all {S:List Stp} {a:Str} {R:BR} (b:Bfs S a R.length R) {k:Nat} {y:Str} (h:Walk S a k y):∃w,(y,w)∈R∧w.length≤k:=by
  induction h with
  | nil=>exact ⟨[],List.mem_of_getElem? b.st,Nat.le_refl _⟩
  | @snoc k b' c n _ q ih=>
    obtain ⟨w,h1,h2⟩:=ih
    obtain ⟨i,hi⟩:=List.mem_iff_getElem?.mp h1
    obtain ⟨w',h3,h4⟩:=b.cl i b' w (List.getElem?_eq_some_iff.mp hi).1 hi n c q
    exact ⟨w',h3,by omega⟩
theorem Bfs.iff {S:List Stp} {a:Str} {R:BR} (b:Bfs S a R.length R) (y:Str):y∈R.map (·.1)↔RT (Along S) a y:=by
  constructor
  · intro h
    obtain ⟨⟨z,w⟩,h1,e⟩:=List.mem_map.mp h
    simp only at e
    subst e
    obtain ⟨vs,p,_⟩:=b.pth z w h1
    exact p.reach
  · intro h
    obtain ⟨k,hk⟩:=Walk.of h
    obtain ⟨w,h1,_⟩:=b.all hk
    exact List.mem_map.mpr ⟨(y,w),h1,rfl⟩
theorem Bfs.sub {S:List Stp} {a:Str} {i:Nat} {R:BR} (b:Bfs S a i R) {xs:List Str} (ha:a∈xs) (hS:∀s∈S,s.2.2∈xs):∀y∈R.map (·.1),y∈xs:=by
  intro y h
  obtain ⟨⟨z,w⟩,h1,e⟩:=List.mem_map.mp h
  simp only at e
  subst e
  obtain ⟨vs,p,_⟩:=b.pth z w h1
  cases p with
  | nil=>exact ha
  | snoc _ q=>exact hS _ q
theorem nodup_len {α:Type} [DecidableEq α]:∀{l xs:List α},l.Nodup→(∀y∈l,y∈xs)→l.length≤xs.length
  | [],_,_,_=>Nat.zero_le _
  | y::l,xs,hn,hs=>by
    obtain ⟨h1,h2⟩:=List.nodup_cons.mp hn
    have hy:y∈xs:=hs y List.mem_cons_self
    have:=nodup_len (l:=l) (xs:=xs.erase y) h2 fun z hz=>(List.mem_erase_of_ne (fun (e:z=y)=>h1 (e▸hz))).mpr (hs z (List.mem_cons_of_mem _ hz))
    rw [List.length_erase_of_mem hy] at this
    have h0:0<xs.length:=List.length_pos_of_mem hy
    simp only [List.length_cons]
    omega
theorem PathV.len {S:List Stp} {a:Str} {w:List Nat} {vs:List Str} {b:Str} (h:PathV S a w vs b):vs.length=w.length+1:=by
  induction h with
  | nil=>rfl
  | snoc _ _ ih=>simp [ih]
theorem Bfs.wlen {S:List Stp} {a:Str} {i:Nat} {R:BR} (b:Bfs S a i R) {y:Str} {w:List Nat} (h:(y,w)∈R):w.length<R.length:=by
  obtain ⟨vs,p,nd,sub⟩:=b.pth y w h
  have h1:=nodup_len nd sub
  have h2:=p.len
  simp at h1
  omega
def WayR (H:Hp) (kv:Key×V) (yw:Str×List Nat):Prop:=kv.1=Sum.inr yw.1∧∃p,kv.2 = .ref p∧H p=some (.lst (yw.2.map fun n:Nat=>V.int n))
structure WaysAt (H:Hp) (kvs:List (Key×V)) (R:BR):Prop where
  len:kvs.length=R.length
  ok:∀(i:Nat) kv yw,kvs[i]? = some kv→R[i]? = some yw→WayR H kv yw
theorem WaysAt.keep {H H':Hp} {kvs:List (Key×V)} {R:BR} (h:WaysAt H kvs R) (k:∀(p:Addr) (w:List Nat),H p=some (.lst (w.map fun n:Nat=>V.int n))→H' p=some (.lst (w.map fun n:Nat=>V.int n))):WaysAt H' kvs R:=
  ⟨h.len,fun i kv yw h1 h2=>by
    obtain ⟨e,p,e2,q⟩:=h.ok i kv yw h1 h2
    exact ⟨e,p,e2,k _ _ q⟩⟩
theorem WaysAt.none {H:Hp} {kvs:List (Key×V)} {R:BR} (h:WaysAt H kvs R) {y:Str} (hy:¬y∈R.map (·.1)):valV kvs (Sum.inr y)=Option.none:=by
  unfold valV
  rw [List.find?_eq_none.mpr]
  ·rfl
  · intro kv hk
    obtain ⟨i,hi⟩:=List.mem_iff_getElem?.mp hk
    have hl:i<R.length:=by rw [← h.len];exact (List.getElem?_eq_some_iff.mp hi).1
    obtain ⟨e,_⟩:=h.ok i kv R[i] hi (by simp [hl])
    simp only [decide_eq_true_eq]
    intro z
    rw [e] at z
    cases z
    exact hy (List.mem_map.mpr ⟨R[i],List.getElem_mem hl,rfl⟩)
theorem WaysAt.some {H:Hp} {kvs:List (Key×V)} {R:BR} (h:WaysAt H kvs R) (nd:(R.map (·.1)).Nodup) {y:Str} {w:List Nat} (hy:(y,w)∈R):∃p,valV kvs (Sum.inr y)=Option.some (.ref p)∧H p=Option.some (.lst (w.map fun n:Nat=>V.int n)):=by
  obtain ⟨i,hi⟩:=List.mem_iff_getElem?.mp hy
  have hl:i<kvs.length:=by rw [h.len];exact (List.getElem?_eq_some_iff.mp hi).1
  have hk:kvs[i]? = Option.some kvs[i]:=by simp [hl]
  unfold valV
  have hf:∃kv,kvs.find? (fun kv=>decide (kv.1=Sum.inr y))=Option.some kv:=by
    cases e:kvs.find? (fun kv=>decide (kv.1=Sum.inr y)) with
    | some kv=>exact ⟨kv,rfl⟩
    | none=>
      have:=List.find?_eq_none.mp e kvs[i] (List.getElem_mem hl)
      obtain ⟨e1,_⟩:=h.ok i _ _ hk hi
      simp [e1] at this
  obtain ⟨kv,hkv⟩:=hf
  rw [hkv]
  have hm:=List.mem_of_find?_eq_some hkv
  have hp:=List.find?_some hkv
  simp only [decide_eq_true_eq] at hp
  obtain ⟨j,hj⟩:=List.mem_iff_getElem?.mp hm
  have hlj:j<R.length:=by rw [← h.len];exact (List.getElem?_eq_some_iff.mp hj).1
  obtain ⟨e1,p,e2,e3⟩:=h.ok j kv R[j] hj (by simp [hlj])
  rw [hp] at e1
  have ey:R[j].1=y:=(Sum.inr.inj e1).symm
  have ej:j=i:=nodup_at nd (x:=y) (by rw [List.getElem?_map,show R[j]? = Option.some R[j] by simp [hlj]];simp [ey]) (by rw [List.getElem?_map,hi];rfl)
  subst ej
  have:R[j]=(y,w):=by
    have:=hi
    simp [hlj] at this
    exact this
  rw [this] at e3
  exact ⟨p,by simp [e2],e3⟩
theorem WaysAt.has {H:Hp} {kvs:List (Key×V)} {R:BR} (h:WaysAt H kvs R) (nd:(R.map (·.1)).Nodup) (y:Str):(valV kvs (Sum.inr y)).isSome=decide (y∈R.map (·.1)):=by
  by_cases hy:y∈R.map (·.1)
  · obtain ⟨⟨z,w⟩,h1,e⟩:=List.mem_map.mp hy
    simp only at e
    subst e
    obtain ⟨p,e,_⟩:=h.some nd h1
    rw [e,decide_eq_true hy]
    rfl
  · rw [h.none hy,decide_eq_false hy]
    rfl
theorem WaysAt.hasN {H:Hp} {kvs:List (Key×V)} {R:BR} (h:WaysAt H kvs R) (nd:(R.map (·.1)).Nodup) (y:Str):(valV kvs (Sum.inr y)).isNone = !decide (y∈R.map (·.1)):=by
  rw [← h.has nd y]
  cases valV kvs (Sum.inr y) <;> rfl
theorem WaysAt.snoc {H:Hp} {kvs:List (Key×V)} {R:BR} {y:Str} {w:List Nat} {p:Addr} (h:WaysAt H kvs R) (hp:H p=Option.some (.lst (w.map fun n:Nat=>V.int n))):WaysAt H (kvs++[(Sum.inr y,.ref p)]) (R++[(y,w)]):=by
  refine ⟨by simp [h.len],fun i kv yw h1 h2=>?_⟩
  by_cases hi:i<kvs.length
  · rw [List.getElem?_append_left hi] at h1
    rw [List.getElem?_append_left (by rw [← h.len];exact hi)] at h2
    exact h.ok i kv yw h1 h2
  · rw [List.getElem?_append_right (by omega)] at h1
    rw [List.getElem?_append_right (by rw [← h.len];omega),← h.len] at h2
    cases hk:i - kvs.length with
    | zero=>
      rw [hk] at h1 h2
      cases h1
      cases h2
      exact ⟨rfl,p,rfl,hp⟩
    | succ j=>
      rw [hk] at h1
      simp at h1
def muAt (i:Nat) (σ:St):Nat:=match σ[i]? with | some (some (V.int n))=>(10 - n).toNat | _=>0
theorem inV_str_iff (x:Str) (xs:List Str):inV (.str x) (xs.map V.str)=decide (x∈xs):=by
  unfold inV
  rw [List.any_map,Bool.eq_iff_iff,List.any_eq_true,decide_eq_true_eq]
  constructor
  · rintro ⟨y,hy,e⟩
    simp [eqV] at e
    exact e▸hy
  · intro h
    exact ⟨x,h,by simp [eqV]⟩
theorem flat_strs (xs:List Str):(xs.map V.str).all flatV=true:=by
  rw [List.all_map,List.all_eq_true]
  intro x _
  rfl
open Classical in
def fnd (S:List Stp) (xs:List Str) (x:Str):List Str:=xs.filter fun y=>decide (RT (Along S) x y)
theorem mem_fnd {S:List Stp} {xs:List Str} {x y:Str}:y∈fnd S xs x↔y∈xs∧RT (Along S) x y:=by
  unfold fnd
  simp
theorem fnd_len {S:List Stp} {xs:List Str} {x:Str}:(fnd S xs x).length≤xs.length:=List.length_filter_le _ _
theorem fnd_take {S:List Stp} {xs:List Str} {x y:Str} {i:Nat} (h:xs[i]? = some y) (b:Bool) (hb:b=true↔RT (Along S) x y):fnd S (xs.take (i+1)) x=fnd S (xs.take i) x++if b=true then [y] else []:=by
  unfold fnd
  rw [take_one h,List.filter_append]
  congr 1
  by_cases hr:RT (Along S) x y
  · rw [if_pos (hb.mpr hr)]
    simp [hr]
  · rw [if_neg fun z=>hr (hb.mp z)]
    simp [hr]
end L2
namespace L2
open PySem PySem.Spec PyProof.Rows
@[simp] theorem scal_in (i:Int):scal (.int i) .non=true:=rfl
@[simp] theorem scal_ni (i:Int):scal .non (.int i)=true:=rfl
@[simp] theorem scal_sn (i:Str):scal (.str i) .non=true:=rfl
end L2
namespace L2
open PySem
end L2
set_option maxHeartbeats 4000000
namespace L2
open PySem PySem.Spec PyProof.Rows
section
variable {prog:Program} {w:World} {A:Around} {E:Value→Shared→Prop} {s:Shared}
theorem wp_alive {a:Addr} {Q:Option Obj→Shared→Prop} (h:Q (s.heap.get? a) s):wpAny (model prog w) A (loadIfAlive a) Q E s:=fun Γ p _=>by
  show Sem.wp _ _ (Sem.loadIfAlive a Sem.pure) _ _ _ _
  rw [Sem.wp_loadIfAlive]
  exact h
def SrcSt (b:Bool) (it l:Addr) (items:Array Value) (i:Nat) (h:Heap):Prop:=match b with
  | true=>h.IsListIter it l i∧h.IsList l items
  | false=>h.IsTupleIter it l i∧h.IsTuple l items
theorem src_ne {b:Bool} {it l:Addr} {items:Array Value} {i:Nat} {h:Heap} (st:SrcSt b it l items i h):l≠it:=by
  cases b with
  | true=>
    obtain ⟨⟨o,e,c,_⟩,⟨u,e',c',_⟩⟩:=st
    exact ne_ty e' e c' c (by decide)
  | false=>
    obtain ⟨⟨o,e,c,_⟩,⟨u,e',c',_⟩⟩:=st
    exact ne_ty e' e c' c (by decide)
theorem src_it {b:Bool} {it l:Addr} {items:Array Value} {i:Nat} {h:Heap} (st:SrcSt b it l items i h):∃o T,h.get? it=some o∧o.cls = .type T∧T≠ "enumerate" :=by
  cases b with
  | true=>obtain ⟨⟨o,e,c,_⟩,_⟩:=st;exact ⟨o,_,e,c,by decide⟩
  | false=>obtain ⟨⟨o,e,c,_⟩,_⟩:=st;exact ⟨o,_,e,c,by decide⟩
theorem src_l {b:Bool} {it l:Addr} {items:Array Value} {i:Nat} {h:Heap} (st:SrcSt b it l items i h):∃o T,h.get? l=some o∧o.cls = .type T∧T≠ "enumerate" :=by
  cases b with
  | true=>obtain ⟨_,⟨o,e,c,_⟩⟩:=st;exact ⟨o,_,e,c,by decide⟩
  | false=>obtain ⟨_,⟨o,e,c,_⟩⟩:=st;exact ⟨o,_,e,c,by decide⟩
theorem src_keep {b:Bool} {it l:Addr} {items:Array Value} {i:Nat} {h h':Heap} (st:SrcSt b it l items i h) (k1:∀o,h.get? it=some o→h'.get? it=some o) (k2:∀o,h.get? l=some o→h'.get? l=some o):SrcSt b it l items i h':=by
  cases b with
  | true=>obtain ⟨⟨o,e,c⟩,⟨u,e',c'⟩⟩:=st;exact ⟨⟨o,k1 _ e,c⟩,⟨u,k2 _ e',c'⟩⟩
  | false=>obtain ⟨⟨o,e,c⟩,⟨u,e',c'⟩⟩:=st;exact ⟨⟨o,k1 _ e,c⟩,⟨u,k2 _ e',c'⟩⟩
theorem src_item {b:Bool} {it l:Addr} {items:Array Value} {i:Nat} {x:Value} {Q:Value→Shared→Prop} (st:SrcSt b it l items i s.heap) (hx:items[i]? = some x)
    (hQ:∀h',SrcSt b it l items (i+1) h'→Heap.SameBut it s.heap h'→Q x {s with heap:=h'}):wpAny (model prog w) A (Builtin.SmallTypes.nextOf (.ref it)) Q E s:=by
  have ne:=src_ne st
  cases b with
  | true=>
    obtain ⟨h1,h2⟩:=st
    refine wpAny_nextOf_list_item h1 h2 hx fun h' a1 a2=>hQ h' ⟨a1,?_⟩ a2
    obtain ⟨u,e',c'⟩:=h2
    exact ⟨u,(a2.2 _ ne).trans e',c'⟩
  | false=>
    obtain ⟨h1,h2⟩:=st
    obtain ⟨o,ho,hc,hd⟩:=id h1
    obtain ⟨ol,hol,hcl,nl,hdl⟩:=id h2
    unfold Builtin.SmallTypes.nextOf
    refine wpAny_bind (wpAny_callSpecial?_slot (name:=Str.ofString "__next__") h1.typeIs F.slot_tuple_iterator_next (wpAny_call_entry F.slot_tuple_iterator_next h1.typeIs F.entry_tuple_iterator_next ?_ (F.args_tuple_iterator_next_1 _)))
    show wpAny (model prog w) _ (field (.ref it) 0 >>= _) _ _ s
    refine wpAny_bind (wpAny_field ho hd (x:=.ref l) rfl ?_)
    show wpAny (model prog w) _ (if (Value.ref l == Value.none)=true then _ else _) _ _ s
    rw [if_neg (fun z=>by cases z)]
    show wpAny (model prog w) _ (field (.ref it) 1 >>= _) _ _ s
    refine wpAny_bind (wpAny_field ho hd (x:=.int i 0) rfl ?_)
    show wpAny (model prog w) _ (seqItems? (.ref l) >>= _) _ _ s
    refine wpAny_bind (wpAny_seqItems hol hdl ?_)
    simp only [Int.toNat_natCast,hx]
    refine wpAny_bind (wpAny_setField ho hd (by simp) (wpAny_pure ⟨x,rfl,wpAny_pure (hQ _ ⟨?_,?_⟩ (Heap.SameBut.update ..))⟩))
    ·exact ⟨_,Heap.get?_update_self _ ho (Obj.isFreed_of_fields (Obj.data_mapFields hd _)),(Obj.cls_mapFields ..).trans hc,by rw [Obj.data_mapFields hd];simp [rawInt]⟩
    ·exact ⟨ol,((Heap.SameBut.update ..).2 _ ne).trans hol,hcl,nl,hdl⟩
theorem src_done {b:Bool} {it l:Addr} {items:Array Value} {i:Nat} {Q:Value→Shared→Prop} (hh:A.handled=none) (st:SrcSt b it l items i s.heap) (hx:items[i]? = none)
    (hE:∀h' e,Heap.ExtBut it s.heap h'→(∃o,h'.get? e=some o∧o.cls = .type "StopIteration")→E (.ref e) {s with heap:=h'}):wpAny (model prog w) A (Builtin.SmallTypes.nextOf (.ref it)) Q E s:=by
  cases b with
  | true=>exact wpAny_nextOf_list_end hh st.1 st.2 hx hE
  | false=>
    obtain ⟨h1,h2⟩:=st
    obtain ⟨o,ho,hc,hd⟩:=id h1
    obtain ⟨ol,hol,hcl,nl,hdl⟩:=id h2
    unfold Builtin.SmallTypes.nextOf
    refine wpAny_bind (wpAny_callSpecial?_slot (name:=Str.ofString "__next__") h1.typeIs F.slot_tuple_iterator_next (wpAny_call_entry F.slot_tuple_iterator_next h1.typeIs F.entry_tuple_iterator_next ?_ (F.args_tuple_iterator_next_1 _)))
    show wpAny (model prog w) _ (field (.ref it) 0 >>= _) _ _ s
    refine wpAny_bind (wpAny_field ho hd (x:=.ref l) rfl ?_)
    show wpAny (model prog w) _ (if (Value.ref l == Value.none)=true then _ else _) _ _ s
    rw [if_neg (fun z=>by cases z)]
    show wpAny (model prog w) _ (field (.ref it) 1 >>= _) _ _ s
    refine wpAny_bind (wpAny_field ho hd (x:=.int i 0) rfl ?_)
    show wpAny (model prog w) _ (seqItems? (.ref l) >>= _) _ _ s
    refine wpAny_bind (wpAny_seqItems hol hdl ?_)
    simp only [Int.toNat_natCast,hx]
    refine wpAny_bind (wpAny_rule (wpAny_bind (wpAny_setField ho hd (by simp) ?_)))
    show wpAny (model prog w) _ (newExc (.type "StopIteration") [] >>= _) _ _ _
    refine wpAny_bind ?_
    simp only [newExc,newTuple]
    refine wpAny_bind (wpAny_newObj_type ?_ (by size_fits))
    refine wpAny_bind (m:=firstArgMember _ _) (wpAny_of_eq (a:=Value.none) (by first | rfl | (simp only [firstArgMember];rfl)) ?_)
    refine wpAny_newObj_type ?_ (by size_fits)
    simp only [raiseNew]
    refine wpAny_bind (wpAny_handled ?_)
    first | rw [show A.in1.handled=none from hh] | rw [hh]
    refine wpAny_bind (wpAny_pure (wpAny_throw ?_))
    exact hE _ _ (((Heap.SameBut.update ..).extBut.push _).push _) ⟨_,Heap.get?_push_size _ rfl,rfl⟩
def IsEnumG (h:Heap) (e it:Addr) (i:Int):Prop:=∃f0 f1 old,h.get? e=some {cls:=.type "enumerate",dict:=none,data:=.fields #[f0,f1,.ref it,rawInt i,.none,old],slots:=#[]}∧(f0 = .none∨∃a:Int,f0=rawInt a)
theorem own_out {e it r:Addr} {i:Int} {x f0 f1 old:Value} {Q:PySem.Fin→Shared→Prop} (he:s.heap.get? e=some {cls:=.type "enumerate",dict:=none,data:=.fields #[f0,f1,.ref it,rawInt i,.none,old],slots:=#[]}) (hf:f0 = .none∨∃a:Int,f0=rawInt a)
    (hQ:∀h',IsEnumG h' e it i→Heap.SameBut e s.heap h'→Q (.done (.ret (.ref r))) {s with heap:=h'}) :
    wpAny (model prog w) A (Builtin.SmallTypes.ownedTupleIsFree (.ref e) >>= fun b=>if b=true then (rule "enumerate.__next__.owned-tuple-again" >>= fun _=>field (.ref e) 5 >>= fun o=>setField (.ref e) 5 x >>= fun _=>Builtin.SmallTypes.ownedTupleHandOut (.ref e) (.ref r) >>= fun _=>letGo [o] [.ref r] >>= fun _=>ret (.ref r)) else ret (.ref r)) Q E s:=by
  have out:wpAny (model prog w) A (rule "enumerate.__next__.owned-tuple-again" >>= fun _=>field (.ref e) 5 >>= fun o=>setField (.ref e) 5 x >>= fun _=>Builtin.SmallTypes.ownedTupleHandOut (.ref e) (.ref r) >>= fun _=>letGo [o] [.ref r] >>= fun _=>ret (.ref r)) Q E s:=by
    refine wpAny_bind (wpAny_rule ?_)
    refine wpAny_bind (wpAny_field he rfl (x:=old) rfl ?_)
    refine wpAny_bind (wpAny_setField_rec he (by simp) fun h5 he5 hs5=>?_)
    refine wpAny_bind ?_
    unfold Builtin.SmallTypes.ownedTupleHandOut
    refine wpAny_bind (wpAny_setField_rec he5 (by simp) fun h6 he6 hs6=>?_)
    refine wpAny_setField_rec he6 (by simp) fun h7 he7 hs7=>?_
    refine wpAny_bind (wpAny_letGo (wpAny_pure (hQ h7 ⟨rawInt r,.bool false,x,he7,.inr ⟨_,rfl⟩⟩ ?_)))
    exact ⟨hs7.1.trans (hs6.1.trans hs5.1),fun c hc=>(hs7.2 c hc).trans ((hs6.2 c hc).trans (hs5.2 c hc))⟩
  refine wpAny_bind ?_
  unfold Builtin.SmallTypes.ownedTupleIsFree
  refine wpAny_bind (wpAny_field he rfl (x:=f0) rfl ?_)
  rcases hf with rfl | ⟨a,rfl⟩
  ·exact wpAny_pure out
  · show wpAny (model prog w) A (loadIfAlive a.toNat >>= _) _ _ s
    refine wpAny_bind (wp_alive ?_)
    cases hl:s.heap.get? a.toNat with
    | none=>exact wpAny_pure out
    | some ob=>
      show wpAny (model prog w) A (field (.ref e) 1 >>= _) _ _ s
      refine wpAny_bind (wpAny_field he rfl (x:=f1) rfl ?_)
      by_cases hb:(f1 != .bool true)=true
      · rw [if_pos hb]
        refine wpAny_bind (wpAny_setField_rec he (by simp) fun h5 he5 hs5=>?_)
        exact wpAny_pure (wpAny_pure (hQ h5 ⟨rawInt a,.bool true,old,he5,.inr ⟨_,rfl⟩⟩ hs5))
      · rw [if_neg hb]
        exact wpAny_pure (wpAny_pure (hQ s.heap ⟨rawInt a,f1,old,he,.inr ⟨_,rfl⟩⟩ ⟨rfl,fun _ _=>rfl⟩))
theorem enumG_item {b:Bool} {e it l:Addr} {i:Nat} {items:Array Value} {x:Value} {Q:Option Value→Shared→Prop}
    (he:IsEnumG s.heap e it i) (st:SrcSt b it l items i s.heap) (hx:items[i]? = some x)
    (hQ:∀h',IsEnumG h' e it ((i:Int)+1)→SrcSt b it l items (i+1) h'→h'.get? s.heap.objs.size=some {cls:=.type "tuple",data:=.seq #[.int i s.toks,x]}→
      (∀c o,c≠e→c≠it→s.heap.get? c=some o→h'.get? c=some o)→Q (some (.ref s.heap.objs.size)) {s with heap:=h',toks:=s.toks+1}) :
    wpAny (model prog w) A (pyNext (.ref e)) Q E s:=by
  obtain ⟨f0,f1,old,he,hf⟩:=he
  obtain ⟨oi,Ti,hoi,hci,hTi⟩:=src_it st
  obtain ⟨ol,Tl,hol,hcl,hTl⟩:=src_l st
  have hne:it≠e:=ne_ty hoi he hci rfl hTi
  have hnl:l≠e:=ne_ty hol he hcl rfl hTl
  have hT:s.TypeIs (.ref e) "enumerate" :=⟨_,he,rfl⟩
  unfold pyNext
  refine wpAny_bind (wpAny_attempt (wpAny_callSpecial?_slot (name:=Str.ofString "__next__") hT F.slot_enumerate_next (wpAny_call_entry F.slot_enumerate_next hT F.entry_enumerate_next ?_ (F.args_enumerate_next_1 _))))
  obtain ⟨hp,g,d,tk,os⟩:=s
  show wpAny (model prog w) _ (field (.ref e) 2 >>= _) _ _ _
  refine wpAny_bind (wpAny_field he rfl (x:=.ref it) rfl ?_)
  refine wpAny_bind (src_item st hx fun h1 st1 hs1=>?_)
  replace hs1:Heap.SameBut it hp h1:=hs1
  have he1:=(hs1.2 e hne.symm).trans he
  show wpAny (model prog w) _ (field (.ref e) 3 >>= _) _ _ ⟨h1,g,d,tk,os⟩
  refine wpAny_bind (wpAny_field he1 rfl (x:=rawInt i) rfl ?_)
  show wpAny (model prog w) _ (field (.ref e) 4 >>= _) _ _ ⟨h1,g,d,tk,os⟩
  refine wpAny_bind (wpAny_field he1 rfl (x:=.none) rfl ?_)
  show wpAny (model prog w) _ (mkInt i >>= _) _ _ ⟨h1,g,d,tk,os⟩
  refine wpAny_bind (wpAny_mkInt ?_)
  show wpAny (model prog w) _ (setField (.ref e) 3 (rawInt ((i:Int)+1)) >>= _) _ _ ⟨h1,g,d,tk+1,os⟩
  refine wpAny_bind (wpAny_setField_rec he1 (by simp) fun h2 he2 hs2=>?_)
  replace hs2:Heap.SameBut e h1 h2:=hs2
  show wpAny (model prog w) _ (setField (.ref e) 4 .none >>= _) _ _ ⟨h2,g,d,tk+1,os⟩
  refine wpAny_bind (wpAny_setField_rec he2 (by simp) fun h3 he3 hs3=>?_)
  replace hs3:Heap.SameBut e h2 h3:=hs3
  show wpAny (model prog w) _ (newTuple [.int i tk,x] >>= _) _ _ ⟨h3,g,d,tk+1,os⟩
  refine wpAny_bind (wpAny_newTuple ?_)
  have hsz:h3.objs.size=hp.objs.size:=by rw [hs3.1,hs2.1,hs1.1]
  have hel:e<hp.objs.size:=Heap.lt_size he
  have he4:(h3.push {cls:=.type "tuple",data:=.seq #[.int i tk,x]}).get? e=some {cls:=.type "enumerate",dict:=none,data:=.fields #[f0,f1,.ref it,rawInt ((i:Int)+1),.none,old],slots:=#[]}:=Heap.get?_push_of_some _ he3
  have ht4:(h3.push {cls:=.type "tuple",data:=.seq #[.int i tk,x]}).get? hp.objs.size=some {cls:=.type "tuple",data:=.seq #[.int i tk,x]}:=by rw [← hsz];exact Heap.get?_push_size _ rfl
  have hk4:∀c o,c≠e→c≠it→hp.get? c=some o→(h3.push {cls:=.type "tuple",data:=.seq #[.int i tk,x]}).get? c=some o:=fun c o h1 h2 h3=>Heap.get?_push_of_some _ (hs3.extBut c o h1 (hs2.extBut c o h1 (hs1.extBut c o h2 h3)))
  have st4:SrcSt b it l items (i+1) (h3.push {cls:=.type "tuple",data:=.seq #[.int i tk,x]}):=src_keep st1 (fun o z=>Heap.get?_push_of_some _ (hs3.extBut _ _ hne (hs2.extBut _ _ hne z))) (fun o z=>Heap.get?_push_of_some _ (hs3.extBut _ _ hnl (hs2.extBut _ _ hnl z)))
  refine own_out (s:=⟨h3.push {cls:=.type "tuple",data:=.seq #[.int i tk,x]},g,d,tk+1,os⟩) he4 hf fun h5 hE5 hs5=>⟨_,rfl,wpAny_pure ?_⟩
  rw [show (Shared.mk h3 g d (tk+1) os).heap.objs.size=hp.objs.size from hsz]
  refine hQ h5 hE5 (src_keep st4 (fun o z=>(hs5.2 _ hne).trans z) (fun o z=>(hs5.2 _ hnl).trans z)) ((hs5.2 _ (Nat.ne_of_gt hel)).trans ht4) fun c o h1 h2 h3=>(hs5.2 c h1).trans (hk4 c o h1 h2 h3)
end
end L2
namespace PySem
open Sem (wp)
theorem my_enum_getattr_none:typeLookup (.type "enumerate") "__getattr__" = pure none:=by rw [typeLookup_type,builtinLookup_eq_fast];kernel_rfl
theorem my_enum_keys_none:typeLookup (.type "enumerate") "keys" = pure none:=by rw [typeLookup_type,builtinLookup_eq_fast];kernel_rfl
theorem my_entry_enum_getattribute:entryFor table "enumerate.__getattribute__" = some Builtin.«object.__getattribute__»:=
  entryFor_alias (id':= "object.__getattribute__") (by kernel_rfl) (by decide +kernel) (by decide +kernel) (by kernel_rfl)
theorem my_miss_enum (a:Addr) (xs:Array Value) (sl:Array (Option Value)) (name:Str) (u:Tok) (hmiss:typeLookup (.type "enumerate") name=pure none) (hname:(["__module__", "__name__", "__qualname__", "__doc__", "__annotations__"]:List Str).contains name=false) (hsz:name.length+100≤sizeLine:=by size_fits) :
    Meets (Builtin.«object.__getattribute__» ⟨[.ref a,.str name u],[]⟩) (fun A R s=>s.heap.get? a=some {cls:=.type "enumerate",dict:=none,data:=.fields xs,slots:=sl}∧raisesAttr (.ref a) name A R s):=
  Meets.of_wp fun prog w A R s hs=>by
    obtain ⟨hp,g,d,tk,os⟩:=s
    obtain ⟨hx,hs⟩:=hs
    have hT:(⟨hp,g,d,tk,os⟩:Shared).TypeIs (.ref a) "enumerate" :=⟨_,hx,rfl⟩
    unfold Builtin.«object.__getattribute__»
    repeat (any_goals (first | assumption | wp_step))
    simp only [hname,Bool.false_eq_true,if_false]
    repeat (any_goals (first | assumption | wp_step))
    exact wpAny_raiseAttrError hs.1 hs.2 (attrMsg_fits (by decide +kernel) hsz)
theorem my_keys_miss {prog:Program} {w:World} {A:Around} {E:Value→Shared→Prop} {s:Shared} {a:Addr} {xs:Array Value} {Q:Option Value→Shared→Prop}
    (hx:s.heap.get? a=some {cls:=.type "enumerate",dict:=none,data:=.fields xs,slots:=#[]}) (hA:A.handled=none)
    (h:∀h' tk,(∀b o,s.heap.get? b=some o→h'.get? b=some o)→Q none {s with heap:=h',toks:=tk}) :
    wpAny (model prog w) A (getAttr? (.ref a) "keys") Q E s:=by
  obtain ⟨hp,g,d,tk,os⟩:=s
  have hT:∀tk',(⟨hp,g,d,tk',os⟩:Shared).TypeIs (.ref a) "enumerate" :=fun _=>⟨_,hx,rfl⟩
  have f1:=sub_AttributeError
  have f3:=F.slot_enumerate_getattribute.lookup
  have f4:=F.slot_enumerate_getattribute.bind (.ref a)
  have f5:=my_enum_getattr_none
  have hname:(["__module__", "__name__", "__qualname__", "__doc__", "__annotations__"]:List Str).contains "keys" = false:=by decide
  unfold getAttr? getAttrBy? getAttrBy
  repeat (any_goals (first | assumption | exact hT _ | ((with_reducible show wpAny _ _ (call (Value.builtin "enumerate.__getattribute__") _ _) _ _ _);refine call_meets F.slot_enumerate_getattribute (hT _) my_entry_enum_getattribute (F.args_enumerate_getattribute_2 _ _) (my_miss_enum a xs #[] "keys" _ my_enum_keys_none hname) ⟨hx,hA,fun h' tk' e hx'=>?_⟩) | wp_step))
  obtain ⟨t',u',he⟩:=hx'.there
  show wpAny _ _ (getattributeRaised _ _ _ _ _ _ _) _ _ _
  unfold getattributeRaised
  repeat (any_goals (first | assumption | wp_step))
  exact h _ _ hx'.of.keeps
end PySem
namespace PySem
open Sem (wp)
open AutoSeq1 (wpAny_loadPart')
theorem my_enumerate_newT (l:Addr) (items:Array Value) (n:Nat) (dct:Option Addr) (sl:Array (Option Value)) :
    Meets (Builtin.«enumerate.__new__» ⟨[.type "enumerate",.ref l],[]⟩) (fun _ R s=>s.heap.get? l=some {cls:=.type "tuple",dict:=dct,data:=.seq items n,slots:=sl}∧
      R (.ok (.ret (.ref (s.heap.push {cls:=.type "tuple_iterator",data:=.fields #[.ref l,.int 0 0]}).objs.size)))
        {s with heap:=(s.heap.push {cls:=.type "tuple_iterator",data:=.fields #[.ref l,.int 0 0]}).push {cls:=.type "enumerate",data:=.fields #[.none,.bool false,.ref s.heap.objs.size,rawInt 0,.none,.none]}}):=
  .of_wp fun prog w A R s h=>by
    obtain ⟨hp,g,d,tk,os⟩:=s;obtain ⟨hl,h⟩:=h
    have hsub:=sub_enumerate
    have hL:Heap.IsTuple (Shared.heap ⟨hp,g,d,tk,os⟩) l items:=⟨_,hl,rfl,n,rfl⟩
    wp_walk using wpAny_loadPart' hl
    refine wpAny_stack_any fun st=>wpAny_pure ?_
    split
    · rename_i c _ _ _ _ _
      cases (c == Value.type "enumerate")
      · wp_walk using wpAny_loadPart' hl,wpAny_pyIter_tuple hL
        exact ⟨_,rfl,h⟩
      · wp_walk using wpAny_loadPart' hl,wpAny_pyIter_tuple hL
        exact ⟨_,rfl,h⟩
    · wp_walk using wpAny_loadPart' hl,wpAny_pyIter_tuple hL
      exact ⟨_,rfl,h⟩
section
variable {prog:Program} {w:World} {A:Around} {E:Value→Shared→Prop} {s:Shared}
theorem my_call_enumerate {b:Bool} {l:Addr} {items:Array Value} {Q:Value→Shared→Prop} (hL:match b with | true=>s.heap.IsList l items | false=>s.heap.IsTuple l items)
    (h:∀h',L2.IsEnumG h' (s.heap.objs.size+1) s.heap.objs.size 0→L2.SrcSt b s.heap.objs.size l items 0 h'→h'.objs.size=s.heap.objs.size+2→
      (∀b o,s.heap.get? b=some o→h'.get? b=some o)→Q (.ref (s.heap.objs.size+1)) {s with heap:=h'}) :
    wpAny (model prog w) A (call (.type "enumerate") [.ref l]) Q E s:=by
  cases b with
  | true=>
    exact call_enumerate_list hL fun h' b1 b2 b3 kk=>h h' ⟨_,_,_,b1,.inl rfl⟩ ⟨b2,hL.at fun o z=>kk _ _ z⟩ b3 kk
  | false=>
    obtain ⟨⟨c,dct,dt,sl⟩,hl,hc,n,hd⟩:=id hL
    replace hc:c = .type "tuple" :=hc
    replace hd:dt = .seq items n:=hd
    subst hc hd
    refine callType_new F.called_enumerate (by decide) (F.typeCall_enumerate_1 _) (F.newCall_enumerate_1 _) (fun obj=>F.args_object_init_2 obj _) F.entry_enumerate_new
      (my_enumerate_newT l items n dct sl) ⟨hl,?_⟩
    have hz:(s.heap.push {cls:=.type "tuple_iterator",data:=.fields #[.ref l,.int 0 0]}).objs.size=s.heap.objs.size+1:=Heap.size_push ..
    show _∧_
    rw [hz]
    have he:L2.IsEnumG ((s.heap.push {cls:=.type "tuple_iterator",data:=.fields #[.ref l,.int 0 0]}).push
        {cls:=.type "enumerate",data:=.fields #[.none,.bool false,.ref s.heap.objs.size,rawInt 0,.none,.none]}) (s.heap.objs.size+1) s.heap.objs.size 0:=by
      have:=Heap.get?_push_size (s.heap.push {cls:=.type "tuple_iterator",data:=.fields #[.ref l,.int 0 0]})
        (o:={cls:=.type "enumerate",data:=.fields #[.none,.bool false,.ref s.heap.objs.size,rawInt 0,.none,.none]}) rfl
      rw [hz] at this;exact ⟨_,_,_,this,.inl rfl⟩
    obtain ⟨_,_,_,he',_⟩:=id he
    have kk:∀b o,s.heap.get? b=some o→((s.heap.push {cls:=.type "tuple_iterator",data:=.fields #[.ref l,.int 0 0]}).push
        {cls:=.type "enumerate",data:=.fields #[.none,.bool false,.ref s.heap.objs.size,rawInt 0,.none,.none]}).get? b=some o:=fun b o x=>Heap.get?_push_of_some _ (Heap.get?_push_of_some _ x)
    refine ⟨⟨_,he',rfl⟩,h _ he ⟨⟨_,Heap.get?_push_of_some _ (Heap.get?_push_size _ rfl),rfl,rfl⟩,⟨_,kk _ _ hl,rfl,n,rfl⟩⟩ (by rw [Heap.size_push,hz]) kk⟩
end
end PySem
namespace L2
open PySem PySem.Spec PyProof.Rows
section
variable {prog:Program} {w:World} {A:Around} {E:Value→Shared→Prop} {s:Shared}
theorem enumG_done {b:Bool} {e it l:Addr} {i:Nat} {items:Array Value} {Q:Option Value→Shared→Prop} (hh:A.handled=none)
    (he:IsEnumG s.heap e it i) (st:SrcSt b it l items i s.heap) (hx:items[i]? = none)
    (hQ:∀h',Heap.ExtBut it s.heap h'→Q none {s with heap:=h'}):wpAny (model prog w) A (pyNext (.ref e)) Q E s:=by
  obtain ⟨f0,f1,old,he,hf⟩:=he
  have hT:s.TypeIs (.ref e) "enumerate" :=⟨_,he,rfl⟩
  unfold pyNext
  refine wpAny_bind (wpAny_attempt (wpAny_callSpecial?_slot (name:=Str.ofString "__next__") hT F.slot_enumerate_next
    (wpAny_call_entry F.slot_enumerate_next hT F.entry_enumerate_next ?_ (F.args_enumerate_next_1 _))))
  show wpAny _ _ (field (.ref e) 2 >>= _) _ _ _
  refine wpAny_bind (wpAny_field he rfl (x:=.ref it) rfl ?_)
  refine wpAny_bind (src_done hh st hx fun h' x he' hx'=>?_)
  obtain ⟨o,ho,hc⟩:=hx'
  refine wpAny_bind (wpAny_isInstance (T:= "StopIteration") (b:=true) ⟨o,ho,hc⟩ isSubtype_stop ?_)
  exact wpAny_pure (hQ _ he')
end
theorem my_entry_upd:entryFor table "dict.update.loop" = some Builtin.«dict.update.loop»:=entryFor_of_fast (by kernel_rfl)
theorem my_plain_upd:plainId "dict.update.loop" = true:=by decide +kernel
def nums {α:Type}:Nat→List α→List (Key×α)
  | _,[]=>[]
  | n,x::xs=>(Sum.inl (n:Int),x)::nums (n+1) xs
theorem nums_len {α:Type}:∀(n:Nat) (xs:List α),(nums n xs).length=xs.length
  | _,[]=>rfl
  | n,x::xs=>by rw [nums,List.length_cons,List.length_cons,nums_len]
theorem nums_app {α:Type}:∀(n:Nat) (xs:List α) (y:α),nums n (xs++[y])=nums n xs++[(Sum.inl ((n+xs.length:Nat):Int),y)]
  | n,[],y=>rfl
  | n,x::xs,y=>by
    rw [List.cons_append,nums,nums_app (n+1) xs y,nums,List.cons_append,List.length_cons,Nat.add_right_comm,Nat.add_assoc]
theorem nums_key {α:Type}:∀(n:Nat) (xs:List α) (m:Nat),(nums n xs).any (fun kv=>decide (kv.1=(Sum.inl (m:Int):Key)))=true→n≤m∧m<n+xs.length
  | n,[],m,h=>by simp [nums] at h
  | n,x::xs,m,h=>by
    rw [nums,List.any_cons,Bool.or_eq_true] at h
    rcases h with h | h
    · have h1:=of_decide_eq_true h
      injection h1 with h1
      have h2:n=m:=by omega
      subst h2
      simp
    · have:=nums_key (n+1) xs m h
      rw [List.length_cons];omega
theorem nums_kv:∀{ys:List V} {its:List Value} (n:Nat),Vals ys its→KV (nums n ys) (nums n its):=by
  intro ys its n r
  induction r generalizing n with
  | nil=>exact .nil
  | cons h t ih=>exact .cons ⟨rfl,h⟩ (ih (n+1))
section
variable {P:Program} {w:World} {A:Around} {R:Result→Shared→Prop} {b:Bool} {e it l D:Addr} {its:List Value}
theorem de_loop (hh:A.handled=none) (h1:D≠e) (h2:D≠it) (h3:D≠l) (hs:its.length≤sizeLine) :
    ∀(k i:Nat) (s:Shared),its.length - i=k→i≤its.length→IsEnumG s.heap e it i→SrcSt b it l its.toArray i s.heap→s.heap.DictOf (mixKind P w) D (nums 0 (its.take i))→
      (∀h' tk,(∀c o,c≠D→c≠e→c≠it→s.heap.get? c=some o→h'.get? c=some o)→h'.DictOf (mixKind P w) D (nums 0 its)→R (.ok (.ret .none)) {s with heap:=h',toks:=tk})→
      codeAny (model P w) A (.builtin "dict.update.loop" ⟨[.ref D,.ref e,rawInt i,.none],[]⟩) R s:=by
  intro k
  induction k with
  | zero=>
    intro i s hk hi hE hst hD hR
    obtain rfl:i=its.length:=by omega
    refine codeAny_builtin my_entry_upd ?_
    rw [Around.under_plainId my_plain_upd _]
    show wpAny _ A.in1 (pyNext (.ref e) >>= _) _ _ s
    refine wpAny_bind (enumG_done (A:=A.in1) hh hE hst (by simp) fun h' hm=>?_)
    refine wpAny_bind (wpAny_pure ?_)
    refine wpAny_pure (hR h' s.toks (fun c o c1 c2 c3 z=>hm c o c3 z) ?_)
    rw [List.take_length] at hD
    exact hD.extBut hm h2
  | succ k ih=>
    intro i s hk hi hE hst hD hR
    have hlt:i<its.length:=by omega
    refine codeAny_builtin my_entry_upd ?_
    rw [Around.under_plainId my_plain_upd _]
    show wpAny _ A.in1 (pyNext (.ref e) >>= _) _ _ s
    refine wpAny_bind (enumG_item hE hst (x:=its[i]) (by simp [hlt]) fun h' hE' hst' ht hm=>?_)
    have hT:(Shared.mk h' s.gens s.drawn (s.toks+1) s.os).TypeIs (.ref s.heap.objs.size) "tuple" :=⟨_,ht,rfl⟩
    show wpAny _ A.in1 (holding _ _ >>= _) _ _ _
    refine wpAny_bind (wpAny_holding ?_)
    refine wpAny_bind (wpAny_tryCatch ?_)
    unfold Builtin.Dict.pairItems
    refine wpAny_bind (wpAny_typeOf hT ?_)
    rw [if_pos (by decide)]
    refine wpAny_bind (wpAny_seqItems ht rfl ?_)
    refine wpAny_pure ?_
    show wpAny _ A.in1 (holding _ (dictSet D (.int i s.toks) its[i])) _ _ _
    refine wpAny_holding ?_
    have hD':h'.DictOf (mixKind P w) D (nums 0 (its.take i)):=by
      obtain ⟨o,es,ep,ho,r⟩:=hD
      exact ⟨o,es,ep,hm D o h1 h2 ho,r⟩
    refine wpAny_dictSet_pairs (knd:=mixKind P w) (k:=Sum.inl (i:Int)) (s:=Shared.mk h' s.gens s.drawn (s.toks+1) s.os) (mixKind_int P w i s.toks) hD' (fun h2' hD2 hsb=>?_) (by rw [nums_len,List.length_take];omega)
    have ei:(i:Int)+1=((i+1:Nat):Int):=by omega
    have est:stored (nums 0 (its.take i)) (Sum.inl (i:Int)) its[i]=nums 0 (its.take (i+1)):=by
      unfold stored
      rw [if_neg (fun z=>?_)]
      ·rw [List.take_succ_eq_append_getElem hlt,nums_app,List.length_take,Nat.min_eq_left (by omega),Nat.zero_add]
      · have:=nums_key _ _ _ z
        rw [List.length_take] at this
        omega
    rw [est] at hD2
    rw [ei] at hE'
    refine wpAny_pure ⟨plainId_quiet my_plain_upd _,?_⟩
    show codeAny _ A (.builtin "dict.update.loop" ⟨[.ref D,.ref e,rawInt ((i:Int)+1),.none],[]⟩) _ _
    rw [ei]
    refine ih (i+1) _ (by omega) hlt ?_ (src_keep hst' (fun o z=>(hsb.2 _ h2.symm).trans z) (fun o z=>(hsb.2 _ h3.symm).trans z)) hD2 fun h3' tk hm3 hD3=>?_
    · obtain ⟨f0,f1,old,q,hf⟩:=hE'
      exact ⟨f0,f1,old,(hsb.2 _ h1.symm).trans q,hf⟩
    ·exact hR h3' tk (fun c o c1 c2 c3 z=>hm3 c o c1 c2 c3 ((hsb.2 c c1).trans (hm c o c2 c3 z))) hD3
end
section
variable {P:Program} {w:World} {A:Around} {E:Value→Shared→Prop} {s:Shared} {b:Bool} {e it l:Addr} {its:List Value}
theorem my_iter_enum {Q:Value→Shared→Prop} (hT:s.TypeIs (.ref e) "enumerate") (h:Q (.ref e) s):wpAny (model P w) A (pyIter (.ref e)) Q E s:=by
  refine wpAny_pyIter_slot hT F.slot_enumerate_iter (wpAny_call_entry F.slot_enumerate_iter hT F.entry_enumerate_iter ?_ (F.args_enumerate_iter_1 _))
  show wpAny _ _ (ret (.ref e)) _ _ s
  exact wpAny_pure ⟨_,rfl, "enumerate",_,hT,F.slot_enumerate_next.lookup,h⟩
theorem de_call {Q:Value→Shared→Prop} (hh:A.handled=none) (hE:IsEnumG s.heap e it 0) (hst:SrcSt b it l its.toArray 0 s.heap) (hs:its.length≤sizeLine)
    (h:∀h' tk,(∀c o,c≠e→c≠it→s.heap.get? c=some o→h'.get? c=some o)→h'.DictOf (mixKind P w) s.heap.objs.size (nums 0 its)→Q (.ref s.heap.objs.size) {s with heap:=h',toks:=tk}) :
    wpAny (model P w) A (call (.type "dict") [.ref e]) Q E s:=by
  obtain ⟨f0,f1,old,he,hf⟩:=hE
  obtain ⟨oi,Ti,hoi,hci,hTi⟩:=src_it hst
  obtain ⟨ol,Tl,hol,hcl,hTl⟩:=src_l hst
  refine callType_codes (Q₁:=fun obj s₁=>obj = .ref s.heap.objs.size∧s₁={s with heap:=s.heap.push {cls:=.type "dict",data:=.dict #[]}}) F.kt_called_dict (F.kt_typeCall_dict_1 _) F.entry_dict_init (kt_code_dict_new _ ⟨rfl,rfl⟩) ?_
  rintro obj s₁ ⟨rfl,rfl⟩
  have hnew:(s.heap.push {cls:=.type "dict",data:=.dict #[]}).DictOf (mixKind P w) s.heap.objs.size []:=Heap.DictOf.new s.heap
  have kp:∀c o,s.heap.get? c=some o→(s.heap.push {cls:=.type "dict",data:=.dict #[]}).get? c=some o:=fun c o z=>Heap.get?_push_of_some _ z
  have ne:∀{c o},s.heap.get? c=some o→s.heap.objs.size≠c:=fun z=>Nat.ne_of_gt (Heap.lt_size z)
  have hT:(Shared.mk (s.heap.push {cls:=.type "dict",data:=.dict #[]}) s.gens s.drawn s.toks s.os).TypeIs (.ref e) "enumerate" :=⟨_,kp _ _ he,rfl⟩
  refine ⟨hnew.typeIs,F.args_dict_init_2 _ _,?_⟩
  unfold Builtin.«dict.__init__»
  refine wpAny_bind ?_
  unfold Builtin.Dict.selfAndRest
  refine wpAny_bind (wpAny_notOrdered_dict hnew.typeIs ?_)
  show wpAny _ _ (pure (s.heap.objs.size,[Value.ref e])) _ _ _
  refine wpAny_pure ?_
  show wpAny _ _ (Builtin.Dict.updateFrom "dict.__init__" s.heap.objs.size (.ref e) [] .none) _ _ _
  unfold Builtin.Dict.updateFrom
  refine wpAny_bind (wpAny_typeOf hT ?_)
  rw [if_pos (by decide)]
  show wpAny (model P w) A.in1.in1 (getAttr? (.ref e) "keys" >>= _) _ _ _
  refine wpAny_bind (my_keys_miss (A:=A.in1.in1) (kp _ _ he) hh fun h1 tk1 k1=>?_)
  have he1:=k1 _ _ (kp _ _ he)
  have hT1:(Shared.mk h1 s.gens s.drawn tk1 s.os).TypeIs (.ref e) "enumerate" :=⟨_,he1,rfl⟩
  simp only [Option.isNone_none,if_true]
  refine wpAny_bind (wpAny_rule ?_)
  refine wpAny_bind (my_iter_enum (s:=Shared.mk h1 s.gens s.drawn tk1 s.os) hT1 ?_)
  refine wpAny_pure ⟨plainId_quiet my_plain_upd _,?_⟩
  have hD1:h1.DictOf (mixKind P w) s.heap.objs.size []:=by
    obtain ⟨o,es,ep,ho,r⟩:=hnew
    exact ⟨o,es,ep,k1 _ o ho,r⟩
  refine de_loop (A:=A.in1) (b:=b) (l:=l) (it:=it) hh (ne he) (ne hoi) (ne hol) hs its.length 0 _ (by omega) (Nat.zero_le _) ⟨f0,f1,old,he1,hf⟩ (src_keep hst (fun o z=>k1 _ _ (kp _ _ z)) (fun o z=>k1 _ _ (kp _ _ z))) (by simpa [nums] using hD1) fun h' tk hm hD=>⟨rfl,h h' tk (fun c o c1 c2 z=>hm c o (ne z).symm c1 c2 (k1 _ _ (kp _ _ z))) hD⟩
end
section
variable {X:Cx} {K:PySem.W.Frag}
def tDE (K:PySem.W.Frag) (t:TA):TE:=fun σ H Q=>t σ H fun vs H1=>∃a xs,vs=[.ref a]∧(SqL K H1 a xs∨SqT K H1 a xs)∧∀p,H1 p=none→Q (.ref p) (upd H1 p (.dK (nums 0 xs)))
@[simp ↓] theorem tDE_w (K:PySem.W.Frag) (t:TA) σ H Q:tDE K t σ H Q=(t σ H fun vs H1=>∃a xs,vs=[.ref a]∧(SqL K H1 a xs∨SqT K H1 a xs)∧∀p,H1 p=none→Q (.ref p) (upd H1 p (.dK (nums 0 xs)))):=rfl
theorem pe_dictEnum (hK:X.K=K) (hc:X.calm=true) {a:Expr} {ta:TA} {p p2 pos pos2:Pos} (hg1:Gl X "dict") (hm1:X.mg "dict" = none) (hg2:Gl X "enumerate") (hm2:X.mg "enumerate" = none) (ha:PA X [a] ta)
    (hs:starEach [a] X.env=[(false,eval a X.env)]:=by rfl)
    (hs1:starEach [.Call (.Name "enumerate" p2) [a] [] pos2] X.env=[(false,eval (.Call (.Name "enumerate" p2) [a] [] pos2) X.env)]:=by rfl) :
    PE X (.Call (.Name "dict" p) [.Call (.Name "enumerate" p2) [a] [] pos2] [] pos) (tDE K ta):=by
  subst hK
  intro pins s σ H Q I h
  refine wpAny_Call_Name_kw (ld_blt I hg1 hm1 boot_dictT ?_ (by decide) (by decide))
  refine PyProof.Rows.callWith_type1 ?_ (by rw [hs1];rfl) (by rfl)
  rw [hs1]
  show wpAny _ _ (spliced ((false,eval (.Call (.Name "enumerate" p2) [a] [] pos2) X.env)::[])) _ _ s
  refine Calls.spliced_cons ?_
  refine wpAny_Call_Name_kw (ld_blt I hg2 hm2 boot_enum ?_ (by decide) (by decide))
  refine PyProof.Rows.callWith_type1 (thn (ha pos2 pins s σ H _ I h) fun us s1 zz=>?_) (by rw [hs];rfl) (by rfl)
  obtain ⟨vs,H1,I1,r1,q1⟩:=zz
  obtain ⟨l1,xs,rfl,qa,q⟩:=q1
  obtain ⟨u,rfl,r⟩:=vals1 r1
  obtain rfl:u=Value.ref l1:=r
  have go:∃(b:Bool) (its:List Value),Vals xs its∧its.length≤sizeLine∧(match b with | true=>s1.heap.IsList l1 its.toArray | false=>s1.heap.IsTuple l1 its.toArray):=by
    rcases qa with qa | qa
    · obtain ⟨its,rv,pl,hz⟩:=I1.list qa
      exact ⟨true,its,rv,by rw [← rv.length];exact hz,pl.isList⟩
    · obtain ⟨its,rv,pl,hz⟩:=I1.tuple qa
      exact ⟨false,its,rv,by rw [← rv.length];exact hz,pl⟩
  obtain ⟨b,its,rv,hz,hL⟩:=go
  refine my_call_enumerate (b:=b) hL fun h' b1 b2 b3 kk=>?_
  refine Calls.spliced_nil ?_
  refine de_call (s:={s1 with heap:=h'}) (b:=b) (I1.ok.hd hc) b1 b2 hz fun h2 tk km hD=>?_
  have kk2:∀c o,s1.heap.get? c=some o→h2.get? c=some o:=fun c o z=>km c o (Nat.ne_of_lt (Nat.lt_succ_of_lt (Heap.lt_size z))) (Nat.ne_of_lt (Heap.lt_size z)) (kk c o z)
  have hle:s1.heap.objs.size≤h'.objs.size:=by rw [b3];omega
  have hf:H1 h'.objs.size=none:=I1.hok.fresh hle
  refine ⟨.ref h'.objs.size,_,I1.laid (o:=.dK (nums 0 xs)) (t':=tk) kk2 hle ?_,rfl,q _ hf⟩
  refine (show ObjOk _ _ _ _ _ (.dK (nums 0 xs)) from ⟨by rw [nums_len,rv.length];exact hz,?_,nums 0 its,nums_kv 0 rv,hD⟩)
  have h1:=I1.big
  have h2:sysModules<h'.objs.size:=Nat.lt_of_lt_of_le h1 hle
  exact beq_eq_false_iff_ne.mpr (Nat.ne_of_gt h2)
end
structure Nm3 (mg:Str→Option Value):Prop where
  sum:mg "sum" = none
theorem strs_are:∀{ys:List Str} {us:List Value},Vals (ys.map V.str) us→StrsAre us ys
  | [],_,r=>by rw [List.map_nil] at r;cases r;exact .nil
  | y::ys,_,r=>by
    rw [List.map_cons] at r
    cases r with
    | cons h t=>
      obtain ⟨k,rfl⟩:=h
      exact .cons y k (strs_are t)
theorem ints_are:∀{ns:List Int} {us:List Value},Vals (ns.map V.int) us→∃l:List (Int×Tok),us.toArray=intItems l.toArray∧l.map (·.1)=ns
  | [],_,r=>by rw [List.map_nil] at r;cases r;exact ⟨[],by simp [intItems],rfl⟩
  | y::ys,_,r=>by
    rw [List.map_cons] at r
    cases r with
    | @cons _ _ _ us h t=>
      obtain ⟨k,rfl⟩:=h
      obtain ⟨l,h1,h2⟩:=ints_are t
      refine ⟨(y,k)::l,?_,by rw [List.map_cons,h2]⟩
      have:us=l.map fun p=>Value.int p.1 p.2:=by simpa [intItems] using congrArg Array.toList h1
      rw [this]
      simp [intItems]
section
variable {X:Cx} {K:PySem.W.Frag}
def rJoin:V→List V→Hp→VK→Prop:=fun x xs H Q=>∃(sep:Str) (l:Addr) (ys:List Str),x = .str sep∧xs=[.ref l]∧H l=some (.lst (ys.map V.str))∧(ys.map (·.length)).sum+ys.length * sep.length≤16777216∧Q (.str (Txt.join sep ys)) H
@[simp ↓] theorem rJoin_w x xs H Q:rJoin x xs H Q=(∃(sep:Str) (l:Addr) (ys:List Str),x = .str sep∧xs=[.ref l]∧H l=some (.lst (ys.map V.str))∧(ys.map (·.length)).sum+ys.length * sep.length≤16777216∧Q (.str (Txt.join sep ys)) H):=rfl
theorem mt_join:MtR X "str.join" rJoin:=by
  intro pins s σ H x xs v us Q I rx rs q
  obtain ⟨sep,l,ys,rfl,rfl,hl,hz,q⟩:=q
  obtain ⟨u,rfl,ru⟩:=rs.one
  obtain rfl:u=Value.ref l:=ru
  obtain ⟨t,rfl⟩:=rx
  obtain ⟨its,rv,pl,hz1⟩:=I.list (SqL.of hl)
  exact join_list pl.isList (by simpa using strs_are rv) hz fun t' k=>⟨.str _,H,I.tok _,⟨t',rfl⟩,q⟩
theorem slLk (hK:X.K=K):SlR X (rSlL K):=by subst hK;exact sl_list
@[simp ↓] theorem rSlL_w' (K:PySem.W.Frag) x lo hi H Q:rSlL K x lo hi H Q=(∃a xs,x = .ref a∧SqL K H a xs∧∀p,H p=none→Q (.ref p) (upd H p (.lst (cutV xs lo hi)))):=rfl
theorem glue_fold:∀(xs:List Str) (a:Array Nat),(xs.foldl (fun acc p=>acc++(Str.ofString "").cps++p.cps) a).toList=a.toList++xs.flatMap (·.cps.toList)
  | [],a=>by simp
  | x::xs,a=>by
    rw [List.foldl_cons,glue_fold xs]
    rw [show (Str.ofString "").cps = #[] from rfl,Array.append_empty]
    simp
theorem glue_list (ys:List Str):(Txt.join (Str.ofString "") ys).cps.toList=ys.flatMap (·.cps.toList):=by
  cases ys with
  | nil=>rfl
  | cons x xs=>
    show (List.foldl _ x.cps xs).toList=_
    exact (glue_fold xs x.cps).trans (by simp)
theorem one_letters:∀(ys:List Str),(∀y∈ys,∃n,n<26∧y=⟨#[97+n]⟩)→(ys.flatMap (·.cps.toList)).length=ys.length∧(ys.flatMap (·.cps.toList)).all isL=true∧(ys.map (·.length)).sum=ys.length
  | [],_=>by simp
  | y::ys,h=>by
    obtain ⟨n,hn,rfl⟩:=h y (List.mem_cons_self ..)
    obtain ⟨h1,h2,h3⟩:=one_letters ys fun z hz=>h z (List.mem_cons_of_mem _ hz)
    refine ⟨by simp only [List.flatMap_cons,List.length_append,List.length_cons,h1];simp;omega,by rw [List.flatMap_cons,List.all_append,h2];simp [isL_of n hn],?_⟩
    rw [List.map_cons,List.sum_cons,h3,List.length_cons]
    show 1+_=_
    omega
theorem WordOf.glue {c k:Nat} {x:Str} (h:WordOf c k x) (hk:0<k) {ys:List Str} (hy:∀y∈ys,∃n,n<26∧y=⟨#[97+n]⟩):WordOf c (k+ys.length) (x++Txt.join (Str.ofString "") ys):=by
  obtain ⟨h1,h2,h3⟩:=h
  obtain ⟨y1,y2,_⟩:=one_letters ys hy
  have e:=glue_list ys
  have hs:x.cps.size=k:=h1
  refine ⟨?_,?_,?_⟩
  · show (x.cps++(Txt.join (Str.ofString "") ys).cps).size=_
    rw [Array.size_append,hs,← Array.length_toList,e,y1]
  · show (x.cps++(Txt.join (Str.ofString "") ys).cps)[0]? = _
    rw [Array.getElem?_append_left (by omega)]
    exact h2
  · show (x.cps++(Txt.join (Str.ofString "") ys).cps).toList.all isL=true
    rw [Array.toList_append,List.all_append,h3,e,y2]
    rfl
end
def dInts (ns:List Int):List PyData:=ns.map PyData.int
theorem is_ints {K:PySem.W.Frag} {H:Hp}:∀ns:List Int,IsAll K H (dInts ns) (ns.map V.int)
  | []=>rfl
  | n::ns=>⟨_,_,rfl,rfl,is_ints ns⟩
theorem lay_ints:∀ns:List Int,PyData.canLayAll0 (dInts ns)=true
  | []=>by simp [dInts,PyData.canLayAll0]
  | x::xs=>by
    have:=lay_ints xs
    simp [dInts] at this
    simp [dInts,PyData.canLayAll0,PyData.canLay0,this]
theorem dep_ints:∀xs:List Int,PyData.depthAll (dInts xs)≤1
  | []=>by simp [dInts,PyData.depthAll]
  | x::xs=>by
    have:=dep_ints xs
    simp [dInts] at this
    simp [dInts,PyData.depthAll,PyData.depth,this]
def endO (n:Int) (e:Str×Str):Str:=if n=0 then e.1 else e.2
def endG (n:Int) (e:Str×Str):Str:=if n=0 then e.2 else e.1
def ledL:List Int→List (Str×Str)→Nat→List Stp
  | n::ns,e::ps,k=>(k,endO n e,endG n e)::ledL ns ps (k+1)
  | _,_,_=>[]
theorem led_eq (fx:Nat→Option Int):∀(ps:List (Str×Str)) (ns:List Int) (k:Nat),(∀i,fx (k+i)=ns[i]?)→ns.length=ps.length→(∀n∈ns,0≤n∧n≤1)→stepsOf fx ps k=ledL ns ps k
  | [],ns,k,_,hl,_=>by
    have:ns=[]:=List.length_eq_zero_iff.mp hl
    subst this
    rfl
  | e::ps,[],k,_,hl,_=>by simp at hl
  | e::ps,n::ns,k,hf,hl,h01=>by
    have h0:=hf 0
    rw [Nat.add_zero] at h0
    have hn:=h01 n List.mem_cons_self
    have ih:=led_eq fx ps ns (k+1) (fun i=>by rw [show k+1+i=k+(i+1) by omega,hf (i+1)];simp) (by simpa using hl) fun m hm=>h01 m (List.mem_cons_of_mem _ hm)
    rw [stepsOf,ledL,ih]
    unfold stepOf endO endG
    rw [h0]
    have:n=0∨n=1:=by omega
    rcases this with rfl | rfl <;> simp
def goalL:List Int→List (Str×Str)→List Str
  | n::ns,e::ps=>endG n e::goalL ns ps
  | _,_=>[]
def intoN (c:List Str):List Int→List (Str×Str)→Nat
  | n::ns,e::ps=>(if ¬endO n e∈c∧endG n e∈c then 1 else 0)+intoN c ns ps
  | _,_=>0
def innerN (c:List Str) (ps:List (Str×Str)):Nat:=(ps.filter fun e=>decide (e.1∈c) && decide (e.2∈c)).length
theorem goal_eq:∀(ns:List Int) (ps:List (Str×Str)) (k:Nat),(ledL ns ps k).map (·.2.2)=goalL ns ps
  | [],_,_=>by simp [ledL,goalL]
  | n::ns,[],_=>by simp [ledL,goalL]
  | n::ns,e::ps,k=>by rw [ledL,goalL,List.map_cons,goal_eq ns ps]
theorem into_eq (c:List Str):∀(ns:List Int) (ps:List (Str×Str)) (k:Nat),((ledL ns ps k).filter fun st=>decide (¬st.2.1∈c∧st.2.2∈c)).length=intoN c ns ps
  | [],_,_=>by simp [ledL,intoN]
  | n::ns,[],_=>by simp [ledL,intoN]
  | n::ns,e::ps,k=>by
    rw [ledL,intoN,List.filter_cons,← into_eq c ns ps (k+1)]
    by_cases h:¬endO n e∈c∧endG n e∈c
    ·rw [if_pos h,if_pos (decide_eq_true h),List.length_cons];omega
    ·rw [if_neg h,if_neg (by rw [decide_eq_false h];simp)];omega
theorem goal_in:∀(ns:List Int) (ps:List (Str×Str)) (c:List Str),ns.length=ps.length→((goalL ns ps).filter fun x=>decide (x∈c)).length=innerN c ps+intoN c ns ps
  | [],[],c,_=>by simp [goalL,innerN,intoN]
  | [],e::ps,c,h=>by simp at h
  | n::ns,[],c,h=>by simp at h
  | n::ns,e::ps,c,h=>by
    have ih:=goal_in ns ps c (by simpa using h)
    unfold innerN at ih ⊢
    rw [goalL,intoN,List.filter_cons,List.filter_cons]
    unfold endG endO
    by_cases h1:e.1∈c <;> by_cases h2:e.2∈c <;> by_cases hn:n=0 <;> simp [h1,h2,hn] <;> omega
theorem isStrOf_at (k:Str):∀{vs:List Value} {ys:List Str},StrsAre vs ys→∀(j:Nat) (h1:j<vs.length) (h2:j<ys.length),isStrOf k vs[j]=(ys[j] == k)
  | _,_,.cons n t _,0,_,_=>rfl
  | _,_,.cons n t r,j+1,h1,h2=>isStrOf_at k r j (Nat.lt_of_succ_lt_succ h1) (Nat.lt_of_succ_lt_succ h2)
theorem idx_before {k:Str}:∀{ys:List Str} {j:Nat},j<ys.idxOf k→∀(h2:j<ys.length),(ys[j] == k)=false
  | n::r,0,h,_=>by
    by_cases e:n=k
    ·subst e;simp at h
    ·simpa using e
  | n::r,j+1,h,h2=>by
    by_cases e:n=k
    ·subst e;simp at h
    · have hb:(n == k)=false:=by simpa using e
      have h':j<r.idxOf k:=by
        rw [List.idxOf_cons,hb] at h
        exact Nat.lt_of_succ_lt_succ h
      exact idx_before h' (Nat.lt_of_succ_lt_succ h2)
theorem strs_len:∀{vs:List Value} {ys:List Str},StrsAre vs ys→vs.length=ys.length
  | _,_,.nil=>rfl
  | _,_,.cons _ _ r=>congrArg (· + 1) (strs_len r)
section
variable {X:Cx} {K:PySem.W.Frag}
def rIndex (K:PySem.W.Frag):V→List V→Hp→VK→Prop:=fun x xs H Q=>∃(l:Addr) (ys:List Str) (k:Str),x = .ref l∧xs=[.str k]∧SqL K H l (ys.map V.str)∧k∈ys∧Q (.int (ys.idxOf k:Nat)) H
@[simp ↓] theorem rIndex_w (K:PySem.W.Frag) x xs H Q:rIndex K x xs H Q=(∃(l:Addr) (ys:List Str) (k:Str),x = .ref l∧xs=[.str k]∧SqL K H l (ys.map V.str)∧k∈ys∧Q (.int (ys.idxOf k:Nat)) H):=rfl
theorem mt_index (hK:X.K=K):MtR X "list.index" (rIndex K):=by
  subst hK
  intro pins s σ H x xs v us Q I rx rs q
  obtain ⟨l,ys,k,rfl,rfl,hl,hk,q⟩:=q
  obtain ⟨u,rfl,ru⟩:=rs.one
  obtain ⟨t,rfl⟩:=ru
  obtain rfl:v=Value.ref l:=rx
  obtain ⟨its,rv,pl,hz1⟩:=I.list hl
  have hi:=strs_are rv
  obtain ⟨⟨cls,dd,data,sl⟩,ho,hc,n,hd⟩:=pl.isList
  simp only at hc hd
  subst hc hd
  have hlen:=strs_len hi
  have hj:ys.idxOf k<ys.length:=List.idxOf_lt_length_iff.mpr hk
  have hz2:ys.length≤sizeLine:=by simpa using hz1
  have hs:sizeLine=2 ^ 24:=rfl
  refine call_meets PySem.F.slot_list_index ⟨_,ho,rfl⟩ PySem.F.entry_list_index (PySem.F.args_list_index_2 _ _)
    (SeqAt.list_indexAt l its.toArray n dd sl (.str k t) (isStrOf k) (ys.idxOf k) (by simpa [hlen] using hj) (by omega) ?_ ?_) ⟨ho,fun y hy=>(eq_isStrOf k t hi y (by simpa using hy)).at _ _,⟨.int _,H,I.tok _,⟨_,rfl⟩,q⟩⟩
  · show isStrOf k its[ys.idxOf k]=true
    rw [isStrOf_at k hi _ (by omega) hj]
    simpa using List.getElem_idxOf hj
  · intro j hjs hlt
    show isStrOf k its[j]=false
    rw [isStrOf_at k hi j (by simpa using hjs) (by omega)]
    exact idx_before hlt _
def rMinL (K:PySem.W.Frag):List V→Hp→VK→Prop:=fun xs H Q=>∃(l:Addr) (ns:List Int),xs=[.ref l]∧SqL K H l (ns.map V.int)∧ns≠[]∧∀m,m∈ns→(∀x∈ns,m≤x)→Q (.int m) H
@[simp ↓] theorem rMinL_w (K:PySem.W.Frag) xs H Q:rMinL K xs H Q=(∃(l:Addr) (ns:List Int),xs=[.ref l]∧SqL K H l (ns.map V.int)∧ns≠[]∧∀m,m∈ns→(∀x∈ns,m≤x)→Q (.int m) H):=rfl
theorem call_minL (hK:X.K=K) (hc:X.calm=true):CallR X (.builtin "min") (rMinL K):=by
  subst hK
  intro pins s σ H xs us Q I r h
  obtain ⟨l,ns,rfl,hl,hne,q⟩:=h
  obtain ⟨u,rfl,ru⟩:=r.one
  obtain rfl:u=Value.ref l:=ru
  obtain ⟨its,rv,pl,hz1⟩:=I.list hl
  obtain ⟨ls,e1,e2⟩:=ints_are rv
  have hL:=pl.isList
  rw [e1] at hL
  have hsz:0<ls.toArray.size:=by
    cases ls with
    | nil=>exact absurd e2.symm hne
    | cons _ _=>simp
  refine min_intList (I.ok.hd hc) hL hsz fun v h' tk hv hk=>?_
  obtain ⟨t,rfl⟩:=intItems_at hv
  obtain ⟨h1,h2⟩:=argBest_lt (numAt ls.toArray) (ls.toArray.size - 1)
  refine ⟨.int _,H,I.kept (t':=tk) hk,⟨t,rfl⟩,q _ ?_ fun a ha=>?_⟩
  ·rw [← e2,numAt_eq];exact PySem.getD_mem (by rw [List.length_map,Array.length_toList];show _<ls.toArray.size;omega)
  · rw [← e2] at ha
    obtain ⟨j,hj,rfl⟩:=PySem.mem_getD ha
    rw [List.length_map] at hj
    rw [show (ls.map (·.1)).getD j 0=numAt ls.toArray j from (numAt_eq _ _).symm];exact h2 j (by simp;omega)
end
def isInt (x:V) (R:Int→Prop):Prop:=match x with | .int i=>R i | _=>False
def isStr (x:V) (R:Str→Prop):Prop:=match x with | .str i=>R i | _=>False
def isBl (x:V) (R:Bool→Prop):Prop:=match x with | .bl i=>R i | _=>False
def isRef (x:V) (R:Addr→Prop):Prop:=match x with | .ref i=>R i | _=>False
def isTy (x:V) (R:String→Prop):Prop:=match x with | .ty n=>R n | _=>False
def ar0 (xs:List V) (R:Prop):Prop:=match xs with | []=>R | _=>False
def ar1 (xs:List V) (R:V→Prop):Prop:=match xs with | [x]=>R x | _=>False
def ar2 (xs:List V) (R:V→V→Prop):Prop:=match xs with | [x,y]=>R x y | _=>False
def arH (xs:List V) (R:V→List V→Prop):Prop:=match xs with | x::r=>R x r | []=>False
def getSt:St→Nat→(V→Prop)→Prop
  | [],_,_=>False
  | o::_,0,R=>match o with | some v=>R v | none=>False
  | _::σ,n+1,R=>getSt σ n R
@[simp ↓] theorem isInt_c (i:Int) R:isInt (.int i) R=R i:=rfl
@[simp ↓] theorem isStr_c (i:Str) R:isStr (.str i) R=R i:=rfl
@[simp ↓] theorem isBl_c (i:Bool) R:isBl (.bl i) R=R i:=rfl
@[simp ↓] theorem isRef_c (i:Addr) R:isRef (.ref i) R=R i:=rfl
@[simp ↓] theorem isTy_c (i:String) R:isTy (.ty i) R=R i:=rfl
@[simp ↓] theorem ar0_c R:ar0 [] R=R:=rfl
@[simp ↓] theorem ar1_c x R:ar1 [x] R=R x:=rfl
@[simp ↓] theorem ar2_c x y R:ar2 [x,y] R=R x y:=rfl
@[simp ↓] theorem arH_c x r R:arH (x::r) R=R x r:=rfl
@[simp ↓] theorem getSt_z v σ R:getSt (some v::σ) 0 R=R v:=rfl
@[simp ↓] theorem getSt_s o σ n R:getSt (o::σ) (n+1) R=getSt σ n R:=rfl
theorem isInt.out {x:V} {R} (h:isInt x R):∃i,x = .int i∧R i:=by cases x <;> first | exact ⟨_,rfl,h⟩ | exact h.elim
theorem isStr.out {x:V} {R} (h:isStr x R):∃i,x = .str i∧R i:=by cases x <;> first | exact ⟨_,rfl,h⟩ | exact h.elim
theorem isBl.out {x:V} {R} (h:isBl x R):∃i,x = .bl i∧R i:=by cases x <;> first | exact ⟨_,rfl,h⟩ | exact h.elim
theorem isRef.out {x:V} {R} (h:isRef x R):∃i,x = .ref i∧R i:=by cases x <;> first | exact ⟨_,rfl,h⟩ | exact h.elim
theorem isTy.out {x:V} {R} (h:isTy x R):∃i,x = .ty i∧R i:=by cases x <;> first | exact ⟨_,rfl,h⟩ | exact h.elim
theorem ar0.out {xs:List V} {R} (h:ar0 xs R):xs=[]∧R:=by cases xs <;> first | exact ⟨rfl,h⟩ | exact h.elim
theorem ar1.out {xs:List V} {R} (h:ar1 xs R):∃x,xs=[x]∧R x:=by
  match xs,h with
  | [x],h=>exact ⟨x,rfl,h⟩
theorem ar2.out {xs:List V} {R} (h:ar2 xs R):∃x y,xs=[x,y]∧R x y:=by
  match xs,h with
  | [x,y],h=>exact ⟨x,y,rfl,h⟩
theorem arH.out {xs:List V} {R} (h:arH xs R):∃x r,xs=x::r∧R x r:=by cases xs <;> first | exact ⟨_,_,rfl,h⟩ | exact h.elim
theorem getSt.out:∀{σ:St} {i:Nat} {R},getSt σ i R→∃v,σ[i]? = some (some v)∧R v
  | [],_,_,h=>h.elim
  | some v::_,0,_,h=>⟨v,rfl,h⟩
  | none::_,0,_,h=>h.elim
  | _::σ,n+1,R,h=>by
    obtain ⟨v,e,q⟩:=getSt.out (σ:=σ) (i:=n) h
    exact ⟨v,by simpa using e,q⟩
section
variable {X:Cx}
theorem PE.mono {e:Expr} {t t':TE} (o:PE X e t) (h:∀{σ H Q},t' σ H Q→t σ H Q):PE X e t':=fun pins s σ H Q I q=>o pins s σ H Q I (h q)
theorem PS.mono {e:Stmt} {t t':TS} (o:PS X e t) (h:∀{D σ H},t' D σ H→t D σ H):PS X e t':=fun pins s σ H D I q=>o pins s σ H D I (h q)
theorem PGs.mono {e:List Expr} {t t':TGs} (o:PGs X e t) (h:∀{v σ H Q},t' v σ H Q→t v σ H Q):PGs X e t':=fun pins s σ H v u Q I r q=>o pins s σ H v u Q I r (h q)
theorem OpR.mono {f:Value→Value→Sem Value} {r r':R2} (o:OpR X f r) (h:∀{x y H Q},r' x y H Q→r x y H Q):OpR X f r':=fun pins s σ H x y v u Q I rx ry q=>o pins s σ H x y v u Q I rx ry (h q)
theorem UnR.mono {f:Value→Sem Value} {r r':V→Hp→VK→Prop} (o:UnR X f r) (h:∀{x H Q},r' x H Q→r x H Q):UnR X f r':=fun pins s σ H x v Q I rx q=>o pins s σ H x v Q I rx (h q)
theorem CallR.mono {f:Value} {r r':List V→Hp→VK→Prop} (o:CallR X f r) (h:∀{x H Q},r' x H Q→r x H Q):CallR X f r':=fun pins s σ H x v Q I rx q=>o pins s σ H x v Q I rx (h q)
theorem MtR.mono {f:String} {r r':V→List V→Hp→VK→Prop} (o:MtR X f r) (h:∀{x y H Q},r' x y H Q→r x y H Q):MtR X f r':=fun pins s σ H x y v u Q I rx ry q=>o pins s σ H x y v u Q I rx ry (h q)
theorem IxR.mono {r r':R2} (o:IxR X r) (h:∀{x y H Q},r' x y H Q→r x y H Q):IxR X r':=fun a b pins s σ H x y v u Q I rx ry q z=>o a b pins s σ H x y v u Q I rx ry (h q) z
theorem SlR.mono {r r':V→Option Int→Option Int→Hp→VK→Prop} (o:SlR X r) (h:∀{x lo hi H Q},r' x lo hi H Q→r x lo hi H Q):SlR X r':=fun pins s σ H x v vl vu lo hi sl Q I rx z1 z2 z3 q=>o pins s σ H x v vl vu lo hi sl Q I rx z1 z2 z3 (h q)
theorem PIp.mono {op:Operator} {r r':TIp} (o:PIp X op r) (h:∀{x y H Q},r' x y H Q→r x y H Q):PIp X op r':=fun pins s σ H x y v u Q I rx ry q=>o pins s σ H x y v u Q I rx ry (h q)
theorem PSet.mono {r r':TSet} (o:PSet X r) (h:∀{x y z H Q},r' x y z H Q→r x y z H Q):PSet X r':=fun pins s σ H o' i v ov iv u Q I a b c q=>o pins s σ H o' i v ov iv u Q I a b c (h q)
end
def fVar (i:Nat):TE:=fun σ H Q=>getSt σ i fun v=>Q v H
@[simp ↓] theorem fVar_w (i:Nat) σ H Q:fVar i σ H Q=getSt σ i (fun v=>Q v H):=rfl
theorem fVar_t {i:Nat} {σ H Q} (h:fVar i σ H Q):tVar i σ H Q:=getSt.out h
def startL:List Str→List V→St
  | _::N,v::vs=>some v::startL N vs
  | _::N,[]=>none::startL N []
  | [],_=>[]
@[simp ↓] theorem startL_cc n N v vs:startL (n::N) (v::vs)=some v::startL N vs:=rfl
@[simp ↓] theorem startL_cn n N:startL (n::N) []=none::startL N []:=rfl
@[simp ↓] theorem startL_n vs:startL [] vs=[]:=by cases vs <;> rfl
theorem startL_eq:∀(N:List Str) (vs:List V),vs.length≤N.length→startL N vs=start N vs
  | [],[],_=>rfl
  | [],_::_,h=>by simp at h
  | n::N,[],_=>by
    rw [startL,startL_eq N [] (by simp)]
    simp [start,List.replicate_succ]
  | n::N,v::vs,h=>by
    rw [startL,startL_eq N vs (by simpa using h)]
    simp [start]
def fI0 (g:Int→Int→V):R2:=fun x y H Q=>isInt x fun i=>isInt y fun j=>Q (g i j) H
def fI (C:Int→Int→Prop) (g:Int→Int→V):R2:=fun x y H Q=>isInt x fun i=>isInt y fun j=>C i j∧Q (g i j) H
def fU (g:Int→V):V→Hp→VK→Prop:=fun x H Q=>isInt x fun i=>Q (g i) H
@[simp ↓] theorem fI0_w g x y H Q:fI0 g x y H Q=(isInt x fun i=>isInt y fun j=>Q (g i j) H):=rfl
@[simp ↓] theorem fI_w C g x y H Q:fI C g x y H Q=(isInt x fun i=>isInt y fun j=>C i j∧Q (g i j) H):=rfl
@[simp ↓] theorem fU_w g x H Q:fU g x H Q=(isInt x fun i=>Q (g i) H):=rfl
theorem fI0_t {g:Int→Int→V} {x y H Q} (h:fI0 g x y H Q):rI0 g x y H Q:=by
  obtain ⟨i,rfl,h1⟩:=isInt.out h;obtain ⟨j,rfl,h2⟩:=isInt.out h1
  exact ⟨i,j,rfl,rfl,h2⟩
theorem fI_t {C} {g:Int→Int→V} {x y H Q} (h:fI C g x y H Q):rI C g x y H Q:=by
  obtain ⟨i,rfl,h1⟩:=isInt.out h;obtain ⟨j,rfl,h2⟩:=isInt.out h1
  exact ⟨i,j,rfl,rfl,h2⟩
theorem fU_t {g:Int→V} {x H Q} (h:fU g x H Q):rU g x H Q:=by
  obtain ⟨i,rfl,h⟩:=isInt.out h
  exact ⟨i,rfl,h⟩
def fEq:R2:=fun x y H Q=>match x,y with
  | .int i,.int j=>Q (.bl (decide (i=j))) H
  | .str i,.str j=>Q (.bl (decide (i=j))) H
  | .bl i,.bl j=>Q (.bl (decide (i=j))) H
  | x,y=>scal x y=true∧Q (.bl (decide (x=y))) H
def fNe:R2:=fun x y H Q=>match x,y with
  | .int i,.int j=>∃k,decide (i=j) = !k∧Q (.bl k) H
  | .str i,.str j=>∃k,decide (i=j) = !k∧Q (.bl k) H
  | .bl i,.bl j=>∃k,decide (i=j) = !k∧Q (.bl k) H
  | x,y=>scal x y=true∧∃k,decide (x=y) = !k∧Q (.bl k) H
@[simp ↓] theorem fEq_i i j H Q:fEq (.int i) (.int j) H Q=Q (.bl (decide (i=j))) H:=rfl
@[simp ↓] theorem fEq_s i j H Q:fEq (.str i) (.str j) H Q=Q (.bl (decide (i=j))) H:=rfl
@[simp ↓] theorem fEq_b i j H Q:fEq (.bl i) (.bl j) H Q=Q (.bl (decide (i=j))) H:=rfl
@[simp ↓] theorem fNe_i i j H Q:fNe (.int i) (.int j) H Q=∃k,decide (i=j) = !k∧Q (.bl k) H:=rfl
@[simp ↓] theorem fNe_s i j H Q:fNe (.str i) (.str j) H Q=∃k,decide (i=j) = !k∧Q (.bl k) H:=rfl
@[simp ↓] theorem fNe_b i j H Q:fNe (.bl i) (.bl j) H Q=∃k,decide (i=j) = !k∧Q (.bl k) H:=rfl
theorem ne_out {b:Bool} {R:Bool→Prop} (h:∃k,b = !k∧R k):R (!b):=by
  obtain ⟨k,e,q⟩:=h
  rw [e,Bool.not_not]
  exact q
theorem fEq_t {x y H Q} (h:fEq x y H Q):rEq x y H Q:=by
  unfold fEq at h
  split at h
  ·exact ⟨rfl,by simpa using h⟩
  ·exact ⟨rfl,by simpa using h⟩
  ·exact ⟨rfl,by simpa using h⟩
  ·exact h
theorem fNe_t {x y H Q} (h:fNe x y H Q):rNe x y H Q:=by
  unfold fNe at h
  split at h
  ·exact ⟨rfl,by simpa using ne_out (R:=fun k=>Q (.bl k) H) h⟩
  ·exact ⟨rfl,by simpa using ne_out (R:=fun k=>Q (.bl k) H) h⟩
  ·exact ⟨rfl,by simpa using ne_out (R:=fun k=>Q (.bl k) H) h⟩
  ·exact ⟨h.1,ne_out (R:=fun k=>Q (.bl k) H) h.2⟩
def fAddS:R2:=fun x y H Q=>isStr x fun i=>isStr y fun j=>i.length+j.length≤sizeLine∧Q (.str (i++j)) H
@[simp ↓] theorem fAddS_w x y H Q:fAddS x y H Q=(isStr x fun i=>isStr y fun j=>i.length+j.length≤sizeLine∧Q (.str (i++j)) H):=rfl
theorem fAddS_t {x y H Q} (h:fAddS x y H Q):rAddS x y H Q:=by
  obtain ⟨i,rfl,h1⟩:=isStr.out h;obtain ⟨j,rfl,h2⟩:=isStr.out h1
  exact ⟨i,j,rfl,rfl,h2⟩
def fCat:R2:=fun x y H Q=>isRef x fun l=>isRef y fun b=>∃xs,H l=some (.lst xs)∧∃zs,H b=some (.lst zs)∧xs.length+zs.length≤sizeLine∧∀p,H p=none→Q (.ref p) (upd H p (.lst (xs++zs)))
@[simp ↓] theorem fCat_w x y H Q:fCat x y H Q=(isRef x fun l=>isRef y fun b=>∃xs,H l=some (.lst xs)∧∃zs,H b=some (.lst zs)∧xs.length+zs.length≤sizeLine∧∀p,H p=none→Q (.ref p) (upd H p (.lst (xs++zs)))):=rfl
theorem fCat_t {x y H Q} (h:fCat x y H Q):rCat x y H Q:=by
  obtain ⟨i,rfl,h0⟩:=isRef.out h;obtain ⟨j,rfl,xs,h1,zs,h2,h3⟩:=isRef.out h0
  exact ⟨i,j,xs,zs,rfl,rfl,h1,h2,h3⟩
def fTest (t:TE):TT:=fun σ H Q=>t σ H fun x H'=>isBl x fun k=>Q k H'
@[simp ↓] theorem fTest_w (t:TE) σ H Q:fTest t σ H Q=(t σ H fun x H'=>isBl x fun k=>Q k H'):=rfl
def fNotV (ta:TE):TE:=fun σ H Q=>ta σ H fun x H1=>isBl x fun c=>Q (.bl (!c)) H1
@[simp ↓] theorem fNotV_w (ta:TE) σ H Q:fNotV ta σ H Q=(ta σ H fun x H1=>isBl x fun c=>Q (.bl (!c)) H1):=rfl
def fAndV (ta tb:TE):TE:=fun σ H Q=>ta σ H fun x H1=>isBl x fun c=>tBr c (tb σ H1 Q) (Q (.bl false) H1) ⟨0⟩
@[simp ↓] theorem fAndV_w (ta tb:TE) σ H Q:fAndV ta tb σ H Q=(ta σ H fun x H1=>isBl x fun c=>tBr c (tb σ H1 Q) (Q (.bl false) H1) ⟨0⟩):=rfl
def fChain (r r':R2) (ta tb tc:TE):TE:=fun σ H Q=>ta σ H fun x H1=>tb σ H1 fun y H2=>r x y H2 fun z H3=>isBl z fun k=>tBr k (tc σ H3 fun w' H4=>r' y w' H4 Q) (Q (.bl false) H3) ⟨0⟩
@[simp ↓] theorem fChain_w (r r':R2) (ta tb tc:TE) σ H Q:fChain r r' ta tb tc σ H Q=(ta σ H fun x H1=>tb σ H1 fun y H2=>r x y H2 fun z H3=>isBl z fun k=>tBr k (tc σ H3 fun w' H4=>r' y w' H4 Q) (Q (.bl false) H3) ⟨0⟩):=rfl
section
variable {X:Cx} {K:PySem.W.Frag} {a b c:Expr} {ta tb tc:TE} {tA:TT} {pos:Pos}
theorem fpv (i:Nat) {x:Str} {pos:Pos} (hN:X.N[i]? = some x:=by rfl) (hv:Vis X.env.scope x:=by first | exact Or.inl rfl | exact Or.inr (Or.inl rfl) | exact Or.inr (Or.inr rfl)) (hd:(x == ("__debug__" : Str))=false:=by decide)
    (hcd:(x == ("__classdict__" : Str))=false:=by decide):PE X (.Name x pos) (fVar i):=(pe_var hN hv hd hcd).mono fVar_t
theorem fop_add:OpR X (binaryOp .Add) (fI0 fun i j=>.int (i+j)):=op_add.mono fI0_t
theorem fop_sub:OpR X (binaryOp .Sub) (fI0 fun i j=>.int (i - j)):=op_sub.mono fI0_t
theorem fop_lt:OpR X (compareOp .Lt) (fI0 fun i j=>.bl (decide (i<j))):=op_lt.mono fI0_t
theorem fop_le:OpR X (compareOp .LtE) (fI0 fun i j=>.bl (decide (i≤j))):=op_le.mono fI0_t
theorem fop_gt:OpR X (compareOp .Gt) (fI0 fun i j=>.bl (decide (j<i))):=op_gt.mono fI0_t
theorem fop_eq:OpR X (compareOp .Eq) fEq:=op_eq.mono fEq_t
theorem fop_ne:OpR X (compareOp .NotEq) fNe:=op_ne.mono fNe_t
theorem fop_add_str:OpR X (binaryOp .Add) fAddS:=op_add_str.mono fAddS_t
theorem fop_cat:OpR X (binaryOp .Add) fCat:=op_cat.mono fCat_t
theorem fun_neg:UnR X (unaryOp .USub) (fU fun i=>.int (-i)):=un_neg.mono fU_t
theorem isBl_ex (x:V) (R:Bool→Prop):isBl x R=(∃k,x = .bl k∧R k):=propext ⟨isBl.out,fun ⟨k,e,q⟩=>by subst e;exact q⟩
theorem isInt_ex (x:V) (R:Int→Prop):isInt x R=(∃k,x = .int k∧R k):=propext ⟨isInt.out,fun ⟨k,e,q⟩=>by subst e;exact q⟩
theorem isRef_ex (x:V) (R:Addr→Prop):isRef x R=(∃k,x = .ref k∧R k):=propext ⟨isRef.out,fun ⟨k,e,q⟩=>by subst e;exact q⟩
theorem isStr_ex (x:V) (R:Str→Prop):isStr x R=(∃k,x = .str k∧R k):=propext ⟨isStr.out,fun ⟨k,e,q⟩=>by subst e;exact q⟩
theorem arH_ex (x:List V) (R:V→List V→Prop):arH x R=(∃k j,x=k::j∧R k j):=propext ⟨arH.out,fun ⟨k,j,e,q⟩=>by subst e;exact q⟩
theorem fTest_eq (t:TE):fTest t=tTest t:=by
  funext σ H Q
  exact congrArg (t σ H) (funext fun x=>funext fun H'=>isBl_ex _ _)
theorem fB_eq (t:TE):fTest t=tB t:=by
  funext σ H Q
  exact congrArg (t σ H) (funext fun x=>funext fun H'=>isBl_ex _ _)
theorem fNotV_eq (t:TE):fNotV t=tNotV t:=by
  funext σ H Q
  exact congrArg (t σ H) (funext fun x=>funext fun H'=>isBl_ex _ _)
theorem fAndV_eq (t u:TE):fAndV t u=tAndV t u:=by
  funext σ H Q
  exact congrArg (t σ H) (funext fun x=>funext fun H'=>isBl_ex _ _)
theorem fChain_eq (r r':R2) (ta tb tc:TE):fChain r r' ta tb tc=tChain r r' ta tb tc:=by
  funext σ H Q
  exact congrArg (ta σ H) (funext fun x=>funext fun H1=>congrArg (tb σ H1) (funext fun y=>funext fun H2=>congrArg (r x y H2) (funext fun z=>funext fun H3=>isBl_ex _ _)))
theorem fpt_cmpR {op:CmpOp} {r:R2} (ho:OpR X (compareOp op) r) (ha:PE X a ta) (hb:PE X b tb) (hm:behindInMarks op b=false):PT X (.Compare a [op] [b] pos) (fTest (tOp r ta tb)):=fTest_eq _▸pt_cmpR ho ha hb hm
theorem fpt_cmp {op:CmpOp} {t:TE} (h:PC X op a b t) (h1:behindInMarks op b=false:=by first | exact nobehind _ (by decide) (by decide) | rfl):PT X (.Compare a [op] [b] pos) (fTest t):=fB_eq _▸pt_cmp h h1
theorem fpt_val {e:Expr} {t:TE} (h:PE X e t) (he:∀whole,isTrue e X.env whole=(do let v ← whole;standAt e.pos;holding [v] (truthy v)):=by intro _;rfl):PT X e (fTest t):=fB_eq _▸pt_val h he
theorem fpe_chain {op op':CmpOp} {r r':R2} (ho:OpR X (compareOp op) r) (ho':OpR X (compareOp op') r') (ha:PE X a ta) (hb:PE X b tb) (hc:PE X c tc)
    (hm:lastMarks [op,op'] [b,c]=false:=by with_unfolding_all rfl):PE X (.Compare a [op,op'] [b,c] pos) (fChain r r' ta tb tc):=fChain_eq _ _ _ _ _▸pe_chain ho ho' ha hb hc hm
theorem fpt_chain {op op':CmpOp} {r r':R2} (ho:OpR X (compareOp op) r) (ho':OpR X (compareOp op') r') (ha:PE X a ta) (hb:PE X b tb) (hc:PE X c tc)
    (hm:lastMarks [op,op'] [b,c]=false:=by with_unfolding_all rfl):PT X (.Compare a [op,op'] [b,c] pos) (fTest (fChain r r' ta tb tc)):=by
  rw [fTest_eq,fChain_eq]
  exact pt_chain ho ho' ha hb hc hm
theorem fpe_not (ha:PE X a ta):PE X (.UnaryOp .Not a pos) (fNotV ta):=fNotV_eq _▸pe_not ha
theorem fpe_and {rest:List Expr} (ha:PE X a ta) (hb:PE X (.BoolOp .And (b::rest) pos) tb):PE X (.BoolOp .And (a::b::rest) pos) (fAndV ta tb):=fAndV_eq _ _▸pe_and ha hb
end
def fIxQ (K:PySem.W.Frag):R2:=fun x y H Q=>isRef x fun p=>isInt y fun i=>∃xs,(SqL K H p xs∨SqT K H p xs)∧∃v,atI xs i=some v∧Q v H
@[simp ↓] theorem fIxQ_w (K:PySem.W.Frag) x y H Q:fIxQ K x y H Q=(isRef x fun p=>isInt y fun i=>∃xs,(SqL K H p xs∨SqT K H p xs)∧∃v,atI xs i=some v∧Q v H):=rfl
theorem fIxQ_t {K:PySem.W.Frag} {x y H Q} (h:fIxQ K x y H Q):rIxQ K x y H Q:=by
  obtain ⟨p,rfl,h1⟩:=isRef.out h
  obtain ⟨i,rfl,xs,h2,v,h3,h4⟩:=isInt.out h1
  exact ⟨p,xs,i,v,rfl,rfl,h2,h3,h4⟩
def fIxS  : R2:=fun x y H Q=>isStr x fun z=>isInt y fun i=>z.length≤sizeLine∧∃c,atI z.cps.toList i=some c∧Q (.str ⟨#[c]⟩) H
@[simp ↓] theorem fIxS_w  x y H Q:fIxS x y H Q=(isStr x fun z=>isInt y fun i=>z.length≤sizeLine∧∃c,atI z.cps.toList i=some c∧Q (.str ⟨#[c]⟩) H):=rfl
theorem fIxS_t  {x y H Q} (h:fIxS x y H Q):rIxS x y H Q:=by
  obtain ⟨z,rfl,h1⟩:=isStr.out h
  obtain ⟨i,rfl,h2,c,h3,h4⟩:=isInt.out h1
  exact ⟨z,i,c,rfl,rfl,h2,h3,h4⟩
def fLenQ (K:PySem.W.Frag):List V→Hp→VK→Prop:=fun xs H Q=>ar1 xs fun x=>isRef x fun p=>∃ys,(SqL K H p ys∨SqT K H p ys)∧Q (.int ys.length) H
@[simp ↓] theorem fLenQ_w (K:PySem.W.Frag) xs H Q:fLenQ K xs H Q=(ar1 xs fun x=>isRef x fun p=>∃ys,(SqL K H p ys∨SqT K H p ys)∧Q (.int ys.length) H):=rfl
theorem fLenQ_t {K:PySem.W.Frag} {xs H Q} (h:fLenQ K xs H Q):rLenQ K xs H Q:=by
  obtain ⟨x,rfl,h1⟩:=ar1.out h
  obtain ⟨p,rfl,ys,h2,h3⟩:=isRef.out h1
  exact ⟨p,ys,rfl,h2,h3⟩
def fLenT  : List V→Hp→VK→Prop:=fun xs H Q=>ar1 xs fun x=>isStr x fun z=>z.length≤sizeLine∧Q (.int z.length) H
@[simp ↓] theorem fLenT_w  xs H Q:fLenT xs H Q=(ar1 xs fun x=>isStr x fun z=>z.length≤sizeLine∧Q (.int z.length) H):=rfl
theorem fLenT_t  {xs H Q} (h:fLenT xs H Q):rLenT xs H Q:=by
  obtain ⟨x,rfl,h1⟩:=ar1.out h
  obtain ⟨p,rfl,h2⟩:=isStr.out h1
  exact ⟨p,rfl,h2⟩
def fListOf (K:PySem.W.Frag):List V→Hp→VK→Prop:=fun xs H Q=>ar1 xs fun x=>isRef x fun p=>∃ys,(SqL K H p ys∨SqT K H p ys)∧∀l,H l=none→Q (.ref l) (upd H l (.lst ys))
@[simp ↓] theorem fListOf_w (K:PySem.W.Frag) xs H Q:fListOf K xs H Q=(ar1 xs fun x=>isRef x fun p=>∃ys,(SqL K H p ys∨SqT K H p ys)∧∀l,H l=none→Q (.ref l) (upd H l (.lst ys))):=rfl
theorem fListOf_t {K:PySem.W.Frag} {xs H Q} (h:fListOf K xs H Q):rListOf K xs H Q:=by
  obtain ⟨x,rfl,h1⟩:=ar1.out h
  obtain ⟨p,rfl,ys,h2,h3⟩:=isRef.out h1
  exact ⟨p,ys,rfl,h2,h3⟩
def fTupleS  : List V→Hp→VK→Prop:=fun xs H Q=>ar1 xs fun x=>isRef x fun p=>∃ys,Sq H p ys∧∀l H',H' l=some (.tup ys)→Same H H'→Q (.ref l) H'
@[simp ↓] theorem fTupleS_w  xs H Q:fTupleS xs H Q=(ar1 xs fun x=>isRef x fun p=>∃ys,Sq H p ys∧∀l H',H' l=some (.tup ys)→Same H H'→Q (.ref l) H'):=rfl
theorem fTupleS_t  {xs H Q} (h:fTupleS xs H Q):rTupleS xs H Q:=by
  obtain ⟨x,rfl,h1⟩:=ar1.out h
  obtain ⟨p,rfl,ys,h2,h3⟩:=isRef.out h1
  exact ⟨p,ys,rfl,h2,h3⟩
def fIsiT (K:PySem.W.Frag):List V→Hp→VK→Prop:=fun xs H Q=>ar2 xs fun x y=>isTy y fun n=>∃t,TyOf K H x t∧∃b,PySem.W.kitOne K t (.type n)=some b∧Q (.bl b) H
@[simp ↓] theorem fIsiT_w (K:PySem.W.Frag) xs H Q:fIsiT K xs H Q=(ar2 xs fun x y=>isTy y fun n=>∃t,TyOf K H x t∧∃b,PySem.W.kitOne K t (.type n)=some b∧Q (.bl b) H):=rfl
theorem fIsiT_t {K:PySem.W.Frag} {xs H Q} (h:fIsiT K xs H Q):rIsiT K xs H Q:=by
  obtain ⟨x,y,rfl,h1⟩:=ar2.out h
  obtain ⟨n,rfl,t,h2,b,h3,h4⟩:=isTy.out h1
  exact ⟨x,n,t,b,rfl,h2,h3,h4⟩
def fIsi2 (K:PySem.W.Frag):List V→Hp→VK→Prop:=fun xs H Q=>ar2 xs fun x y=>isRef y fun p=>∃m n,H p=some (.tup [.ty m,.ty n])∧∃t,TyOf K H x t∧∃b,PySem.W.kitAny K t [.type m,.type n]=some b∧Q (.bl b) H
@[simp ↓] theorem fIsi2_w (K:PySem.W.Frag) xs H Q:fIsi2 K xs H Q=(ar2 xs fun x y=>isRef y fun p=>∃m n,H p=some (.tup [.ty m,.ty n])∧∃t,TyOf K H x t∧∃b,PySem.W.kitAny K t [.type m,.type n]=some b∧Q (.bl b) H):=rfl
theorem fIsi2_t {K:PySem.W.Frag} {xs H Q} (h:fIsi2 K xs H Q):rIsi2 K xs H Q:=by
  obtain ⟨x,y,rfl,h1⟩:=ar2.out h
  obtain ⟨p,rfl,m,n,h0,t,h2,b,h3,h4⟩:=isRef.out h1
  exact ⟨x,p,m,n,t,b,rfl,h0,h2,h3,h4⟩
def fIn (K:PySem.W.Frag):R2:=fun x y H Q=>isRef y fun p=>∃xs,(SqL K H p xs∨SqT K H p xs)∧flatV x=true∧(∀z∈xs,flatV z=true)∧Q (.bl (inV x xs)) H
@[simp ↓] theorem fIn_w (K:PySem.W.Frag) x y H Q:fIn K x y H Q=(isRef y fun p=>∃xs,(SqL K H p xs∨SqT K H p xs)∧flatV x=true∧(∀z∈xs,flatV z=true)∧Q (.bl (inV x xs)) H):=rfl
theorem fIn_t {K:PySem.W.Frag} {x y H Q} (h:fIn K x y H Q):rInA K x y H Q:=by
  obtain ⟨p,rfl,xs,h1,h2,h3,h4⟩:=isRef.out h
  exact .inl ⟨p,xs,rfl,h1,h2,List.all_eq_true.mpr h3,h4⟩
def fNotIn (K:PySem.W.Frag):R2:=fun x y H Q=>isRef y fun p=>∃xs,(SqL K H p xs∨SqT K H p xs)∧flatV x=true∧(∀z∈xs,flatV z=true)∧∃k,inV x xs = !k∧Q (.bl k) H
@[simp ↓] theorem fNotIn_w (K:PySem.W.Frag) x y H Q:fNotIn K x y H Q=(isRef y fun p=>∃xs,(SqL K H p xs∨SqT K H p xs)∧flatV x=true∧(∀z∈xs,flatV z=true)∧∃k,inV x xs = !k∧Q (.bl k) H):=rfl
theorem fNotIn_t {K:PySem.W.Frag} {x y H Q} (h:fNotIn K x y H Q):rNotInA K x y H Q:=by
  obtain ⟨p,rfl,xs,h1,h2,h3,h4⟩:=isRef.out h
  exact .inl ⟨p,xs,rfl,h1,h2,List.all_eq_true.mpr h3,ne_out (R:=fun k=>Q (.bl k) H) h4⟩
def fInS (K:PySem.W.Frag):R2:=fun x y H Q=>isStr x fun i=>isStr y fun j=>Q (.bl (!(Builtin.Str.occurrences j i 0 j.length 1).isEmpty)) H
@[simp ↓] theorem fInS_w (K:PySem.W.Frag) x y H Q:fInS K x y H Q=(isStr x fun i=>isStr y fun j=>Q (.bl (!(Builtin.Str.occurrences j i 0 j.length 1).isEmpty)) H):=rfl
theorem fInS_t {K:PySem.W.Frag} {x y H Q} (h:fInS K x y H Q):rInA K x y H Q:=by
  obtain ⟨i,rfl,h1⟩:=isStr.out h
  obtain ⟨j,rfl,h2⟩:=isStr.out h1
  exact .inr ⟨i,j,rfl,rfl,h2⟩
def fAppend  : V→List V→Hp→VK→Prop:=fun x vs H Q=>isRef x fun l=>ar1 vs fun y=>∃xs,H l=some (.lst xs)∧xs.length<sizeLine∧Q .non (upd H l (.lst (xs++[y])))
@[simp ↓] theorem fAppend_w  x vs H Q:fAppend x vs H Q=(isRef x fun l=>ar1 vs fun y=>∃xs,H l=some (.lst xs)∧xs.length<sizeLine∧Q .non (upd H l (.lst (xs++[y])))):=rfl
theorem fAppend_t  {x vs H Q} (h:fAppend x vs H Q):rAppend x vs H Q:=by
  obtain ⟨l,rfl,h1⟩:=isRef.out h
  obtain ⟨y,rfl,xs,h2,h3⟩:=ar1.out h1
  exact ⟨l,xs,y,rfl,rfl,h2,h3⟩
def fInsert  : V→List V→Hp→VK→Prop:=fun x vs H Q=>isRef x fun l=>ar2 vs fun j y=>isInt j fun i=>∃xs,H l=some (.lst xs)∧0≤i∧i≤xs.length∧xs.length<sizeLine∧Q .non (upd H l (.lst (xs.take i.toNat++y::xs.drop i.toNat)))
@[simp ↓] theorem fInsert_w  x vs H Q:fInsert x vs H Q=(isRef x fun l=>ar2 vs fun j y=>isInt j fun i=>∃xs,H l=some (.lst xs)∧0≤i∧i≤xs.length∧xs.length<sizeLine∧Q .non (upd H l (.lst (xs.take i.toNat++y::xs.drop i.toNat)))):=rfl
theorem fInsert_t  {x vs H Q} (h:fInsert x vs H Q):rInsert x vs H Q:=by
  obtain ⟨l,rfl,h1⟩:=isRef.out h
  obtain ⟨j,y,rfl,h2⟩:=ar2.out h1
  obtain ⟨i,rfl,xs,h3⟩:=isInt.out h2
  exact ⟨l,xs,i,y,rfl,rfl,h3⟩
def fJoin  : V→List V→Hp→VK→Prop:=fun x vs H Q=>isStr x fun sep=>ar1 vs fun y=>isRef y fun l=>∃ys:List Str,H l=some (.lst (ys.map V.str))∧(ys.map (·.length)).sum+ys.length * sep.length≤16777216∧Q (.str (Txt.join sep ys)) H
@[simp ↓] theorem fJoin_w  x vs H Q:fJoin x vs H Q=(isStr x fun sep=>ar1 vs fun y=>isRef y fun l=>∃ys:List Str,H l=some (.lst (ys.map V.str))∧(ys.map (·.length)).sum+ys.length * sep.length≤16777216∧Q (.str (Txt.join sep ys)) H):=rfl
theorem fJoin_t  {x vs H Q} (h:fJoin x vs H Q):rJoin x vs H Q:=by
  obtain ⟨sep,rfl,h1⟩:=isStr.out h
  obtain ⟨y,rfl,h2⟩:=ar1.out h1
  obtain ⟨l,rfl,ys,h3⟩:=isRef.out h2
  exact ⟨sep,l,ys,rfl,rfl,h3⟩
def fIndex (K:PySem.W.Frag):V→List V→Hp→VK→Prop:=fun x vs H Q=>isRef x fun l=>ar1 vs fun y=>isStr y fun k=>∃ys:List Str,SqL K H l (ys.map V.str)∧k∈ys∧Q (.int (ys.idxOf k:Nat)) H
@[simp ↓] theorem fIndex_w (K:PySem.W.Frag) x vs H Q:fIndex K x vs H Q=(isRef x fun l=>ar1 vs fun y=>isStr y fun k=>∃ys:List Str,SqL K H l (ys.map V.str)∧k∈ys∧Q (.int (ys.idxOf k:Nat)) H):=rfl
theorem fIndex_t {K:PySem.W.Frag} {x vs H Q} (h:fIndex K x vs H Q):rIndex K x vs H Q:=by
  obtain ⟨l,rfl,h1⟩:=isRef.out h
  obtain ⟨y,rfl,h2⟩:=ar1.out h1
  obtain ⟨k,rfl,ys,h3⟩:=isStr.out h2
  exact ⟨l,ys,k,rfl,rfl,h3⟩
def fMinL (K:PySem.W.Frag):List V→Hp→VK→Prop:=fun xs H Q=>ar1 xs fun x=>isRef x fun l=>∃ns:List Int,SqL K H l (ns.map V.int)∧ns≠[]∧∀m,m∈ns→(∀x∈ns,m≤x)→Q (.int m) H
@[simp ↓] theorem fMinL_w (K:PySem.W.Frag) xs H Q:fMinL K xs H Q=(ar1 xs fun x=>isRef x fun l=>∃ns:List Int,SqL K H l (ns.map V.int)∧ns≠[]∧∀m,m∈ns→(∀x∈ns,m≤x)→Q (.int m) H):=rfl
theorem fMinL_t {K:PySem.W.Frag} {xs H Q} (h:fMinL K xs H Q):rMinL K xs H Q:=by
  obtain ⟨x,rfl,h1⟩:=ar1.out h
  obtain ⟨l,rfl,ns,h2⟩:=isRef.out h1
  exact ⟨l,ns,rfl,h2⟩
def fNeD (K:PySem.W.Frag):R2:=fun x y H Q=>∃d,Is K H d x∧∃e,Is K H e y∧d.canLay0=true∧e.canLay0=true∧d.depth≤64∧∃k,PyData.eqv d e = !k∧Q (.bl k) H
@[simp ↓] theorem fNeD_w (K:PySem.W.Frag) x y H Q:fNeD K x y H Q=(∃d,Is K H d x∧∃e,Is K H e y∧d.canLay0=true∧e.canLay0=true∧d.depth≤64∧∃k,PyData.eqv d e = !k∧Q (.bl k) H):=rfl
theorem fNeD_t {K:PySem.W.Frag} {x y H Q} (h:fNeD K x y H Q):rNeD K x y H Q:=by
  obtain ⟨d,h1,e,h2,h3,h4,h5,h6⟩:=h
  exact ⟨d,e,h1,h2,h3,h4,h5,ne_out (R:=fun k=>Q (.bl k) H) h6⟩
def fAbs  : List V→Hp→VK→Prop:=fun xs H Q=>ar1 xs fun x=>isInt x fun i=>Q (.int (if i<0 then -i else i)) H
@[simp ↓] theorem fAbs_w  xs H Q:fAbs xs H Q=(ar1 xs fun x=>isInt x fun i=>Q (.int (if i<0 then -i else i)) H):=rfl
theorem fAbs_t  {xs H Q} (h:fAbs xs H Q):(fun xs H Q=>∃i,xs=[.int i]∧Q (.int (if i<0 then -i else i)) H:List V→Hp→VK→Prop) xs H Q:=by
  obtain ⟨x,rfl,h1⟩:=ar1.out h
  obtain ⟨i,rfl,h2⟩:=isInt.out h1
  exact ⟨i,rfl,h2⟩
def fMax2  : List V→Hp→VK→Prop:=fun xs H Q=>ar2 xs fun x y=>isInt x fun i=>isInt y fun j=>Q (.int (if j > i then j else i)) H
@[simp ↓] theorem fMax2_w  xs H Q:fMax2 xs H Q=(ar2 xs fun x y=>isInt x fun i=>isInt y fun j=>Q (.int (if j > i then j else i)) H):=rfl
theorem fMax2_t  {xs H Q} (h:fMax2 xs H Q):(fun xs H Q=>∃i j,xs=[.int i,.int j]∧Q (.int (if j > i then j else i)) H:List V→Hp→VK→Prop) xs H Q:=by
  obtain ⟨x,y,rfl,h1⟩:=ar2.out h
  obtain ⟨i,rfl,h2⟩:=isInt.out h1
  obtain ⟨j,rfl,h3⟩:=isInt.out h2
  exact ⟨i,j,rfl,h3⟩
def fMin2  : List V→Hp→VK→Prop:=fun xs H Q=>ar2 xs fun x y=>isInt x fun i=>isInt y fun j=>Q (.int (if j<i then j else i)) H
@[simp ↓] theorem fMin2_w  xs H Q:fMin2 xs H Q=(ar2 xs fun x y=>isInt x fun i=>isInt y fun j=>Q (.int (if j<i then j else i)) H):=rfl
theorem fMin2_t  {xs H Q} (h:fMin2 xs H Q):(fun xs H Q=>∃i j,xs=[.int i,.int j]∧Q (.int (if j<i then j else i)) H:List V→Hp→VK→Prop) xs H Q:=by
  obtain ⟨x,y,rfl,h1⟩:=ar2.out h
  obtain ⟨i,rfl,h2⟩:=isInt.out h1
  obtain ⟨j,rfl,h3⟩:=isInt.out h2
  exact ⟨i,j,rfl,h3⟩
def fDivmod  : List V→Hp→VK→Prop:=fun xs H Q=>ar2 xs fun x y=>isInt x fun i=>isInt y fun j=>CDiv i j∧∀p,H p=none→Q (.ref p) (upd H p (.tup [.int (i / j),.int (i % j)]))
@[simp ↓] theorem fDivmod_w  xs H Q:fDivmod xs H Q=(ar2 xs fun x y=>isInt x fun i=>isInt y fun j=>CDiv i j∧∀p,H p=none→Q (.ref p) (upd H p (.tup [.int (i / j),.int (i % j)]))):=rfl
theorem fDivmod_t  {xs H Q} (h:fDivmod xs H Q):(fun xs H Q=>∃i j,xs=[.int i,.int j]∧CDiv i j∧∀p,H p=none→Q (.ref p) (upd H p (.tup [.int (i / j),.int (i % j)])):List V→Hp→VK→Prop) xs H Q:=by
  obtain ⟨x,y,rfl,h1⟩:=ar2.out h
  obtain ⟨i,rfl,h2⟩:=isInt.out h1
  obtain ⟨j,rfl,h3⟩:=isInt.out h2
  exact ⟨i,j,rfl,h3⟩
def fAll  : List V→Hp→VK→Prop:=fun xs H Q=>ar1 xs fun x=>isRef x fun a=>∃ys,H a=some (.lst ys)∧∃bs,blAll ys bs∧Q (.bl (bs.all id)) H
@[simp ↓] theorem fAll_w  xs H Q:fAll xs H Q=(ar1 xs fun x=>isRef x fun a=>∃ys,H a=some (.lst ys)∧∃bs,blAll ys bs∧Q (.bl (bs.all id)) H):=rfl
theorem fAll_t  {xs H Q} (h:fAll xs H Q):(fun xs H Q=>∃a ys bs,xs=[.ref a]∧H a=some (.lst ys)∧blAll ys bs∧Q (.bl (bs.all id)) H:List V→Hp→VK→Prop) xs H Q:=by
  obtain ⟨x,rfl,h1⟩:=ar1.out h
  obtain ⟨a,rfl,ys,h2,bs,h3,h4⟩:=isRef.out h1
  exact ⟨a,ys,bs,rfl,h2,h3,h4⟩
def fInt1:List V→Hp→VK→Prop:=fun xs H Q=>ar1 xs fun x=>match x with | .int i=>Q (.int i) H | .bl k=>Q (.int (if k=true then 1 else 0)) H | _=>False
@[simp ↓] theorem fInt1_i i H Q:fInt1 [.int i] H Q=Q (.int i) H:=rfl
@[simp ↓] theorem fInt1_b k H Q:fInt1 [.bl k] H Q=Q (.int (if k=true then 1 else 0)) H:=rfl
theorem fInt1_t {xs H Q} (h:fInt1 xs H Q):(fun xs H Q=>(∃i,xs=[.int i]∧Q (.int i) H)∨∃k,xs=[.bl k]∧Q (.int (if k then 1 else 0)) H:List V→Hp→VK→Prop) xs H Q:=by
  obtain ⟨x,rfl,h1⟩:=ar1.out h
  cases x with
  | int i=>exact .inl ⟨i,rfl,h1⟩
  | bl k=>exact .inr ⟨k,rfl,h1⟩
  | _=>exact h1.elim
def fSetL:TSet:=fun o i v H Q=>isRef o fun p=>isInt i fun k=>∃xs,H p=some (.lst xs)∧∃j,ixN xs.length k=some j∧Q (upd H p (.lst (xs.set j v)))
@[simp ↓] theorem fSetL_w o i v H Q:fSetL o i v H Q=(isRef o fun p=>isInt i fun k=>∃xs,H p=some (.lst xs)∧∃j,ixN xs.length k=some j∧Q (upd H p (.lst (xs.set j v)))):=rfl
theorem fSetL_t {o i v H Q} (h:fSetL o i v H Q):rSetL o i v H Q:=by
  obtain ⟨p,rfl,h1⟩:=isRef.out h
  obtain ⟨k,rfl,xs,h2,j,h3,h4⟩:=isInt.out h1
  exact ⟨p,xs,k,j,rfl,rfl,h2,h3,h4⟩
def fSlL (K:PySem.W.Frag):V→Option Int→Option Int→Hp→VK→Prop:=fun x lo hi H Q=>isRef x fun a=>∃xs,SqL K H a xs∧∀p,H p=none→Q (.ref p) (upd H p (.lst (cutV xs lo hi)))
@[simp ↓] theorem fSlL_w (K:PySem.W.Frag) x lo hi H Q:fSlL K x lo hi H Q=(isRef x fun a=>∃xs,SqL K H a xs∧∀p,H p=none→Q (.ref p) (upd H p (.lst (cutV xs lo hi)))):=rfl
theorem fSlL_t {K:PySem.W.Frag} {x lo hi H Q} (h:fSlL K x lo hi H Q):rSlL K x lo hi H Q:=by
  obtain ⟨a,rfl,xs,h1⟩:=isRef.out h
  exact ⟨a,xs,rfl,h1⟩
def fNil:TGs:=fun vs σ H Q=>ar0 vs (Q σ H)
def fCons (t:TG) (u:TGs):TGs:=fun vs σ H Q=>arH vs fun v r=>t v σ H fun σ' H'=>u r σ' H' Q
def fTup (K:PySem.W.Frag) (n:Nat) (t:TGs):TG:=fun v σ H Q=>isRef v fun a=>∃xs,SqT K H a xs∧xs.length=n∧t xs σ H Q
@[simp ↓] theorem fNil_w vs σ H Q:fNil vs σ H Q=ar0 vs (Q σ H):=rfl
@[simp ↓] theorem fCons_w t u vs σ H Q:fCons t u vs σ H Q=(arH vs fun v r=>t v σ H fun σ' H'=>u r σ' H' Q):=rfl
@[simp ↓] theorem fTup_w K n t v σ H Q:fTup K n t v σ H Q=(isRef v fun a=>∃xs,SqT K H a xs∧xs.length=n∧t xs σ H Q):=rfl
theorem fNil_t {vs σ H Q} (h:fNil vs σ H Q):gNil vs σ H Q:=ar0.out h
theorem fCons_eq (t:TG) (u:TGs):fCons t u=gCons t u:=by
  funext vs σ H Q
  exact arH_ex _ _
theorem fTup_eq (K:PySem.W.Frag) (n:Nat) (t:TGs):fTup K n t=gTup K n t:=by
  funext v σ H Q
  refine propext ⟨fun h=>?_,fun ⟨a,xs,e,h⟩=>by subst e;exact ⟨xs,h⟩⟩
  obtain ⟨a,rfl,xs,h1⟩:=isRef.out h
  exact ⟨a,xs,rfl,h1⟩
def fipI (f:Int→Int→Int):TIp:=fun x y H Q=>isInt x fun i=>isInt y fun j=>Q (.int (f i j)) H
@[simp ↓] theorem fipI_w f x y H Q:fipI f x y H Q=(isInt x fun i=>isInt y fun j=>Q (.int (f i j)) H):=rfl
theorem fipI_t {f:Int→Int→Int} {x y H Q} (h:fipI f x y H Q):ipI f x y H Q:=by
  obtain ⟨i,rfl,h1⟩:=isInt.out h;obtain ⟨j,rfl,h2⟩:=isInt.out h1
  exact ⟨i,j,rfl,rfl,h2⟩
def fAug (i:Nat) (te:TE) (ti:TIp):TS:=fun D σ H=>getSt σ i fun x=>te σ H fun y H1=>ti x y H1 fun z H2=>D.nx (σ.set i (some z)) H2
@[simp ↓] theorem fAug_w i te ti D σ H:fAug i te ti D σ H=(getSt σ i fun x=>te σ H fun y H1=>ti x y H1 fun z H2=>D.nx (σ.set i (some z)) H2):=rfl
theorem fAug_t {i:Nat} {te:TE} {ti:TIp} {D σ H} (h:fAug i te ti D σ H):tAug i te ti D σ H:=getSt.out h
def fiList (K:PySem.W.Frag) (tl:TE):TI:=fun σ H R=>tl σ H fun x H1=>isRef x fun a=>(∃xs,SqL K H1 a xs)∧R (Itl K a) H1
def fiSeq (K:PySem.W.Frag) (tl:TE):TI:=fun σ H R=>tl σ H fun x H1=>isRef x fun p=>∃b,(∃xs,SqB b K H1 p xs)∧R (Itq b K p) H1
def fiStr (tl:TE):TI:=fun σ H R=>tl σ H fun x H1=>isStr x fun z=>R (Its z) H1
def fiRng1 (ta:TA):TI:=fun σ H R=>ta σ H fun vs H1=>ar1 vs fun v=>isInt v fun j=>-(2 ^ 62)≤j∧j<2 ^ 62∧R (Itr 0 j.toNat) H1
def fiRng2 (ta:TA):TI:=fun σ H R=>ta σ H fun vs H1=>ar2 vs fun v w=>isInt v fun i=>isInt w fun j=>(-(2 ^ 62)≤i∧i<2 ^ 62∧-(2 ^ 62)≤j∧j<2 ^ 62)∧R (Itr i (j - i).toNat) H1
def fiZip (K:PySem.W.Frag) (t:TA):TI:=fun σ H R=>t σ H fun vs H1=>ar2 vs fun x y=>isRef x fun a=>isRef y fun b=>(∃xs,SqL K H1 a xs)∧(∃ys,SqL K H1 b ys)∧R (Itz K a b) H1
def fiEnum (K:PySem.W.Frag) (t:TA):TI:=fun σ H R=>t σ H fun vs H1=>ar1 vs fun x=>isRef x fun a=>(∃xs,SqL K H1 a xs)∧R (Ite K a) H1
@[simp ↓] theorem fiList_w K tl σ H R:fiList K tl σ H R=(tl σ H fun x H1=>isRef x fun a=>(∃xs,SqL K H1 a xs)∧R (Itl K a) H1):=rfl
@[simp ↓] theorem fiSeq_w K tl σ H R:fiSeq K tl σ H R=(tl σ H fun x H1=>isRef x fun p=>∃b,(∃xs,SqB b K H1 p xs)∧R (Itq b K p) H1):=rfl
@[simp ↓] theorem fiStr_w tl σ H R:fiStr tl σ H R=(tl σ H fun x H1=>isStr x fun z=>R (Its z) H1):=rfl
@[simp ↓] theorem fiRng1_w ta σ H R:fiRng1 ta σ H R=(ta σ H fun vs H1=>ar1 vs fun v=>isInt v fun j=>-(2 ^ 62)≤j∧j<2 ^ 62∧R (Itr 0 j.toNat) H1):=rfl
@[simp ↓] theorem fiRng2_w ta σ H R:fiRng2 ta σ H R=(ta σ H fun vs H1=>ar2 vs fun v w=>isInt v fun i=>isInt w fun j=>(-(2 ^ 62)≤i∧i<2 ^ 62∧-(2 ^ 62)≤j∧j<2 ^ 62)∧R (Itr i (j - i).toNat) H1):=rfl
@[simp ↓] theorem fiZip_w K t σ H R:fiZip K t σ H R=(t σ H fun vs H1=>ar2 vs fun x y=>isRef x fun a=>isRef y fun b=>(∃xs,SqL K H1 a xs)∧(∃ys,SqL K H1 b ys)∧R (Itz K a b) H1):=rfl
@[simp ↓] theorem fiEnum_w K t σ H R:fiEnum K t σ H R=(t σ H fun vs H1=>ar1 vs fun x=>isRef x fun a=>(∃xs,SqL K H1 a xs)∧R (Ite K a) H1):=rfl
theorem fiList_eq (K:PySem.W.Frag) (tl:TE):fiList K tl=iList K tl:=by
  funext σ H R
  exact congrArg (tl σ H) (funext fun x=>funext fun H1=>isRef_ex _ _)
theorem fiSeq_eq (K:PySem.W.Frag) (tl:TE):fiSeq K tl=iSeq K tl:=by
  funext σ H R
  refine congrArg (tl σ H) (funext fun x=>funext fun H1=>propext ⟨fun h=>?_,fun ⟨b,p,e,h⟩=>by subst e;exact ⟨b,h⟩⟩)
  obtain ⟨p,rfl,b,h1⟩:=isRef.out h
  exact ⟨b,p,rfl,h1⟩
theorem fiStr_eq (tl:TE):fiStr tl=iStr tl:=by
  funext σ H R
  exact congrArg (tl σ H) (funext fun x=>funext fun H1=>isStr_ex _ _)
theorem fiRng1_eq (ta:TA):fiRng1 ta=iRng1 ta:=by
  funext σ H R
  refine congrArg (ta σ H) (funext fun x=>funext fun H1=>propext ⟨fun h=>?_,fun ⟨b,e,h⟩=>by subst e;exact h⟩)
  obtain ⟨v,rfl,h1⟩:=ar1.out h
  obtain ⟨i,rfl,h2⟩:=isInt.out h1
  exact ⟨i,rfl,h2⟩
theorem fiRng2_eq (ta:TA):fiRng2 ta=iRng2 ta:=by
  funext σ H R
  refine congrArg (ta σ H) (funext fun x=>funext fun H1=>propext ⟨fun h=>?_,fun ⟨b,c,e,h⟩=>by subst e;exact h⟩)
  obtain ⟨v,w,rfl,h1⟩:=ar2.out h
  obtain ⟨i,rfl,h2⟩:=isInt.out h1
  obtain ⟨j,rfl,h3⟩:=isInt.out h2
  exact ⟨i,j,rfl,h3⟩
theorem fiZip_eq (K:PySem.W.Frag) (t:TA):fiZip K t=iZip K t:=by
  funext σ H R
  refine congrArg (t σ H) (funext fun x=>funext fun H1=>propext ⟨fun h=>?_,fun ⟨a,b,xs,ys,e,h1,h2,h3⟩=>by subst e;exact ⟨⟨xs,h1⟩,⟨ys,h2⟩,h3⟩⟩)
  obtain ⟨v,w,rfl,h1⟩:=ar2.out h
  obtain ⟨i,rfl,h2⟩:=isRef.out h1
  obtain ⟨j,rfl,⟨xs,h3⟩,⟨ys,h4⟩,h5⟩:=isRef.out h2
  exact ⟨i,j,xs,ys,rfl,h3,h4,h5⟩
theorem fiEnum_eq (K:PySem.W.Frag) (t:TA):fiEnum K t=iEnum K t:=by
  funext σ H R
  refine congrArg (t σ H) (funext fun x=>funext fun H1=>propext ⟨fun h=>?_,fun ⟨a,xs,e,h1,h3⟩=>by subst e;exact ⟨⟨xs,h1⟩,h3⟩⟩)
  obtain ⟨v,rfl,h1⟩:=ar1.out h
  obtain ⟨i,rfl,⟨xs,h3⟩,h5⟩:=isRef.out h1
  exact ⟨i,xs,rfl,h3,h5⟩
def fCall (sp:Sp) (E:XK) (t:TA):TE:=fun σ H Q=>t σ H fun vs H1=>tSp sp vs H1 Q ⟨0⟩ E
@[simp ↓] theorem fCall_w sp E t σ H Q:fCall sp E t σ H Q=(t σ H fun vs H1=>tSp sp vs H1 Q ⟨0⟩ E):=rfl
theorem fCall_eq (sp:Sp) (E:XK) (t:TA):fCall sp E t=tCall sp [] E t:=by
  funext σ H Q
  exact congrArg (t σ H) (funext fun vs=>funext fun H1=>by rw [List.append_nil];rfl)
def fMeth (C:Addr) (m:Str) (sp:Sp) (E:XK) (ta:TE) (t:TA):TE:=fun σ H Q=>ta σ H fun x H1=>isRef x fun a=>∃dx fs,H1 a=some (.ins C dx fs)∧fs.lookup m=none∧t σ H1 fun vs H2=>tSp sp (.ref a::vs) H2 Q ⟨0⟩ E
@[simp ↓] theorem fMeth_w C m sp E ta t σ H Q:fMeth C m sp E ta t σ H Q=(ta σ H fun x H1=>isRef x fun a=>∃dx fs,H1 a=some (.ins C dx fs)∧fs.lookup m=none∧t σ H1 fun vs H2=>tSp sp (.ref a::vs) H2 Q ⟨0⟩ E):=rfl
theorem fMeth_eq (C:Addr) (m:Str) (sp:Sp) (E:XK) (ta:TE) (t:TA):fMeth C m sp E ta t=tMeth C m sp [] E ta t:=by
  funext σ H Q
  refine congrArg (ta σ H) (funext fun x=>funext fun H1=>propext ⟨fun h=>?_,fun ⟨a,dx,fs,e,h1,h2,h3⟩=>?_⟩)
  · obtain ⟨a,rfl,dx,fs,h1,h2,h3⟩:=isRef.out h
    refine ⟨a,dx,fs,rfl,h1,h2,?_⟩
    simp only [List.append_nil]
    exact h3
  · subst e
    refine ⟨dx,fs,h1,h2,?_⟩
    simp only [List.append_nil] at h3
    exact h3
def fMake (C:Addr) (sp:Sp) (E:XK) (t:TA):TE:=fun σ H Q=>t σ H fun vs H1=>∀x dx,H1 x=none→H1 dx=none→dx≠x→
  tSp sp (.ref x::vs) (upd (upd H1 dx (.own x)) x (.ins C dx [])) (fun v H2=>v = .non∧Q (.ref x) H2) ⟨0⟩ E
@[simp ↓] theorem fMake_w C sp E t σ H Q:fMake C sp E t σ H Q=(t σ H fun vs H1=>∀x dx,H1 x=none→H1 dx=none→dx≠x→
  tSp sp (.ref x::vs) (upd (upd H1 dx (.own x)) x (.ins C dx [])) (fun v H2=>v = .non∧Q (.ref x) H2) ⟨0⟩ E):=rfl
theorem fMake_eq (C:Addr) (sp:Sp) (E:XK) (t:TA):fMake C sp E t=tMake C sp [] E t:=by
  funext σ H Q
  refine congrArg (t σ H) (funext fun vs=>funext fun H1=>?_)
  simp only [List.append_nil]
  rfl
def fFld (K:PySem.W.Frag) (ta:TE) (f:Str):TE:=fun σ H Q=>ta σ H fun x H1=>isRef x fun a=>∃C dx fs,H1 a=some (.ins C dx fs)∧Cls K C∧NoAttr K C f∧∃v,fs.lookup f=some v∧Q v H1
@[simp ↓] theorem fFld_w K ta f σ H Q:fFld K ta f σ H Q=(ta σ H fun x H1=>isRef x fun a=>∃C dx fs,H1 a=some (.ins C dx fs)∧Cls K C∧NoAttr K C f∧∃v,fs.lookup f=some v∧Q v H1):=rfl
theorem fFld_eq (K:PySem.W.Frag) (ta:TE) (f:Str):fFld K ta f=tFld K ta f:=by
  funext σ H Q
  refine congrArg (ta σ H) (funext fun x=>funext fun H1=>propext ⟨fun h=>?_,fun ⟨a,C,dx,fs,v,e,h1,h2,h3,h4⟩=>by subst e;exact ⟨C,dx,fs,h1,h2,h3,v,h4⟩⟩)
  obtain ⟨a,rfl,C,dx,fs,h1,h2,h3,v,h4⟩:=isRef.out h
  exact ⟨a,C,dx,fs,v,rfl,h1,h2,h3,h4⟩
def fDGet (td ty:TE):TE:=fun σ H Q=>td σ H fun x H1=>ty σ H1 fun y H2=>isRef x fun a=>∃v,DGet H2 a y (some v)∧Q v H2
def fDIn (ty td:TE):TE:=fun σ H Q=>ty σ H fun y H1=>td σ H1 fun x H2=>isRef x fun a=>∃o,DGet H2 a y o∧Q (.bl o.isSome) H2
def fDNotIn (ty td:TE):TE:=fun σ H Q=>ty σ H fun y H1=>td σ H1 fun x H2=>isRef x fun a=>∃o,DGet H2 a y o∧Q (.bl o.isNone) H2
def fDPut (td ty tv:TE):TS:=fun D σ H=>tv σ H fun v H1=>td σ H1 fun x H2=>ty σ H2 fun y H3=>isRef x fun a=>∃H4,DPut H3 a y v H4∧D.nx σ H4
def fDGet1 (td ty:TE):TE:=fun σ H Q=>td σ H fun x H1=>isRef x fun a=>IsD H1 a∧ty σ H1 fun y H2=>∃o,DGet H2 a y o∧Q (o.getD .non) H2
def fDGet2 (td ty tx:TE):TE:=fun σ H Q=>td σ H fun x H1=>isRef x fun a=>IsD H1 a∧ty σ H1 fun y H2=>tx σ H2 fun z H3=>∃o,DGet H3 a y o∧Q (o.getD z) H3
@[simp ↓] theorem fDGet_w td ty σ H Q:fDGet td ty σ H Q=(td σ H fun x H1=>ty σ H1 fun y H2=>isRef x fun a=>∃v,DGet H2 a y (some v)∧Q v H2):=rfl
@[simp ↓] theorem fDIn_w ty td σ H Q:fDIn ty td σ H Q=(ty σ H fun y H1=>td σ H1 fun x H2=>isRef x fun a=>∃o,DGet H2 a y o∧Q (.bl o.isSome) H2):=rfl
@[simp ↓] theorem fDNotIn_w ty td σ H Q:fDNotIn ty td σ H Q=(ty σ H fun y H1=>td σ H1 fun x H2=>isRef x fun a=>∃o,DGet H2 a y o∧Q (.bl o.isNone) H2):=rfl
@[simp ↓] theorem fDPut_w td ty tv D σ H:fDPut td ty tv D σ H=(tv σ H fun v H1=>td σ H1 fun x H2=>ty σ H2 fun y H3=>isRef x fun a=>∃H4,DPut H3 a y v H4∧D.nx σ H4):=rfl
@[simp ↓] theorem fDGet1_w td ty σ H Q:fDGet1 td ty σ H Q=(td σ H fun x H1=>isRef x fun a=>IsD H1 a∧ty σ H1 fun y H2=>∃o,DGet H2 a y o∧Q (o.getD .non) H2):=rfl
@[simp ↓] theorem fDGet2_w td ty tx σ H Q:fDGet2 td ty tx σ H Q=(td σ H fun x H1=>isRef x fun a=>IsD H1 a∧ty σ H1 fun y H2=>tx σ H2 fun z H3=>∃o,DGet H3 a y o∧Q (o.getD z) H3):=rfl
theorem ex_ref {x:V} {β:Type} {R:Addr→β→Prop}:(isRef x fun a=>∃b,R a b)=(∃a b,x = .ref a∧R a b):=propext ⟨fun h=>by obtain ⟨a,rfl,b,h1⟩:=isRef.out h;exact ⟨a,b,rfl,h1⟩,fun ⟨a,b,e,h⟩=>by subst e;exact ⟨b,h⟩⟩
theorem fDGet_eq (td ty:TE):fDGet td ty=tDGet td ty:=by
  funext σ H Q
  exact congrArg (td σ H) (funext fun x=>funext fun H1=>congrArg (ty σ H1) (funext fun y=>funext fun H2=>ex_ref))
theorem fDIn_eq (ty td:TE):fDIn ty td=tDIn ty td:=by
  funext σ H Q
  exact congrArg (ty σ H) (funext fun x=>funext fun H1=>congrArg (td σ H1) (funext fun y=>funext fun H2=>ex_ref))
theorem fDNotIn_eq (ty td:TE):fDNotIn ty td=tDNotIn ty td:=by
  funext σ H Q
  refine congrArg (ty σ H) (funext fun x=>funext fun H1=>congrArg (td σ H1) (funext fun y=>funext fun H2=>?_))
  rw [ex_ref]
  simp only [Option.not_isSome]
theorem fDPut_eq (td ty tv:TE):fDPut td ty tv=sDPut td ty tv:=by
  funext D σ H
  exact congrArg (tv σ H) (funext fun v=>funext fun H1=>congrArg (td σ H1) (funext fun x=>funext fun H2=>congrArg (ty σ H2) (funext fun y=>funext fun H3=>ex_ref)))
theorem fDGet1_eq (td ty:TE):fDGet1 td ty=tDGet1 td ty:=by
  funext σ H Q
  exact congrArg (td σ H) (funext fun x=>funext fun H1=>isRef_ex _ _)
theorem fDGet2_eq (td ty tx:TE):fDGet2 td ty tx=tDGet2 td ty tx:=by
  funext σ H Q
  exact congrArg (td σ H) (funext fun x=>funext fun H1=>isRef_ex _ _)
def fPart (t:TE):TO:=fun σ H Q=>t σ H fun x H1=>isInt x fun i=>Q (some i) H1
@[simp ↓] theorem fPart_w t σ H Q:fPart t σ H Q=(t σ H fun x H1=>isInt x fun i=>Q (some i) H1):=rfl
theorem fPart_eq (t:TE):fPart t=tPart t:=by
  funext σ H Q
  exact congrArg (t σ H) (funext fun x=>funext fun H1=>isInt_ex _ _)
section
variable {X:Cx} {K:PySem.W.Frag}
theorem PE.eqv {e:Expr} {t t':TE} (o:PE X e t) (h:t'=t):PE X e t':=h▸o
theorem PC.eqv {op:CmpOp} {a b:Expr} {t t':TE} (o:PC X op a b t) (h:t'=t):PC X op a b t':=h▸o
theorem PS.eqv {e:Stmt} {t t':TS} (o:PS X e t) (h:t'=t):PS X e t':=h▸o
theorem PG.eqv {e:Expr} {t t':TG} (o:PG X e t) (h:t'=t):PG X e t':=h▸o
theorem PGs.eqv {e:List Expr} {t t':TGs} (o:PGs X e t) (h:t'=t):PGs X e t':=h▸o
theorem PI.eqv {tg e:Expr} {t t':TI} (o:PI X tg e t) (h:t'=t):PI X tg e t':=h▸o
theorem PO.eqv {e:Option Expr} {t t':TO} (o:PO X e t) (h:t'=t):PO X e t':=h▸o
theorem fop_mul:OpR X (binaryOp .Mult) (fI CMul fun i j=>.int (i * j)):=op_mul.mono fI_t
theorem fop_fdiv:OpR X (binaryOp .FloorDiv) (fI CDiv fun i j=>.int (i / j)):=op_fdiv.mono fI_t
theorem fop_mod:OpR X (binaryOp .Mod) (fI (fun _ j=>0<j) fun i j=>.int (i % j)):=op_mod.mono fI_t
theorem fop_pow:OpR X (binaryOp .Pow) (fI CPow fun i j=>.int (i ^ j.toNat)):=op_pow.mono fI_t
theorem fixQk (hK:X.K=K):IxR X (fIxQ K):=(ixQk hK).mono fIxQ_t
theorem fix_str:IxR X fIxS:=ix_str.mono fIxS_t
theorem finK (hK:X.K=K):OpR X (compareOp .In) (fIn K):=(inK hK).mono fIn_t
theorem finS (hK:X.K=K):OpR X (compareOp .In) (fInS K):=(inK hK).mono fInS_t
theorem fnotinK (hK:X.K=K):OpR X (compareOp .NotIn) (fNotIn K):=(notinK hK).mono fNotIn_t
theorem fopNeD (hK:X.K=K) (hu:X.A.units+64<cLine):OpR X (compareOp .NotEq) (fNeD K):=(opNeDk hK hu).mono fNeD_t
theorem flenQk (hK:X.K=K):CallR X (.builtin "len") (fLenQ K):=(lenQk hK).mono fLenQ_t
theorem flenTk:CallR X (.builtin "len") fLenT:=lenTk.mono fLenT_t
theorem flistOfk (hK:X.K=K):CallR X (.type "list") (fListOf K):=(listOfk hK).mono fListOf_t
theorem ftupleOfS:CallR X (.type "tuple") fTupleS:=tupleOfS.mono fTupleS_t
theorem fisiTk (hK:X.K=K):CallR X (.builtin "isinstance") (fIsiT K):=(isiTk hK).mono fIsiT_t
theorem fisi2k (hK:X.K=K):CallR X (.builtin "isinstance") (fIsi2 K):=(isi2k hK).mono fIsi2_t
theorem fcall_all (hc:X.calm=true):CallR X (.builtin "all") fAll:=(call_allB hc).mono fAll_t
theorem fcall_int1:CallR X (.type "int") fInt1:=call_int1.mono fInt1_t
theorem fcall_abs:CallR X (.builtin "abs") fAbs:=call_abs.mono fAbs_t
theorem fcall_max2 (hc:X.calm=true):CallR X (.builtin "max") fMax2:=(call_max2 hc).mono fMax2_t
theorem fcall_min2 (hc:X.calm=true):CallR X (.builtin "min") fMin2:=(call_min2 hc).mono fMin2_t
theorem fcall_divmod:CallR X (.builtin "divmod") fDivmod:=call_divmod.mono fDivmod_t
theorem fcall_minL (hK:X.K=K) (hc:X.calm=true):CallR X (.builtin "min") (fMinL K):=(call_minL hK hc).mono fMinL_t
theorem fmt_append:MtR X "list.append" fAppend:=MtR.mono (r:=rAppend) mt_append fAppend_t
theorem fmt_insert:MtR X "list.insert" fInsert:=MtR.mono (r:=rInsert) mt_insert fInsert_t
theorem fmt_join:MtR X "str.join" fJoin:=mt_join.mono fJoin_t
theorem fmt_index (hK:X.K=K):MtR X "list.index" (fIndex K):=(mt_index hK).mono fIndex_t
theorem fslLk (hK:X.K=K):SlR X (fSlL K):=(slLk hK).mono fSlL_t
theorem fset_list:PSet X fSetL:=set_list.mono fSetL_t
theorem fip_add:PIp X .Add (fipI fun i j=>i+j):=ip_add.mono fipI_t
end
theorem getSt.imp {σ:St} {i:Nat} {R R':V→Prop} (f:∀v,R v→R' v):getSt σ i R→getSt σ i R':=by
  induction σ generalizing i with
  | nil=>exact fun h=>h.elim
  | cons o σ ih=>
    cases i with
    | zero=>cases o with
      | none=>exact fun h=>h.elim
      | some v=>exact f v
    | succ n=>exact ih
theorem isInt.imp {x:V} {R R':Int→Prop} (f:∀v,R v→R' v):isInt x R→isInt x R':=by cases x <;> first | exact f _ | exact fun h=>h.elim
theorem isRef.imp {x:V} {R R':Addr→Prop} (f:∀v,R v→R' v):isRef x R→isRef x R':=by cases x <;> first | exact f _ | exact fun h=>h.elim
theorem isBl.imp {x:V} {R R':Bool→Prop} (f:∀v,R v→R' v):isBl x R→isBl x R':=by cases x <;> first | exact f _ | exact fun h=>h.elim
theorem fmono_ltlen {K:PySem.W.Frag} {g:Int→Int→V} {i j:Nat}:∀(σ:St) (H:Hp) (Q Q':Bool→Hp→Prop),(∀(b:Bool) (H1:Hp),Q b H1→Q' b H1)→fTest (tOp (fI0 g) (fVar i) (tCB (fLenQ K) (tCons (fVar j) tNil))) σ H Q→fTest (tOp (fI0 g) (fVar i) (tCB (fLenQ K) (tCons (fVar j) tNil))) σ H Q':=
  fun _ _ _ _ f h=>getSt.imp (fun _ h=>getSt.imp (fun _ h=>isRef.imp (fun _ ⟨ys,h1,h2⟩=>⟨ys,h1,isInt.imp (fun _ h=>isInt.imp (fun _ h=>isBl.imp (fun _ h=>f _ _ h) h) h) h2⟩) h) h) h
theorem Fun.okL {P:Program} {w:World} {K:PySem.W.Frag} {mg:Str→Option Value} {base:Heap} {x qual:Str} {st:Stmt} {f:Addr} {fd:FuncData} {N ps:List Str} {k:Nat} {sp:Sp} (F:Fun K x qual st f fd) (S:FnScope N ps (defScope st)) (len:∀vs H Q E,sp vs H Q E→vs.length=ps.length)
    (hbody:∀(cdv:Value) (A:Around) (outer:List Env) (s:Shared) (H:Hp) (vs:List V) (Q:VK) (E:XK),Room k (A.deeper (envOfC qual (defScope st) s.heap.objs.size f cdv))→sp vs H Q E→
      ∃t,PSs (cxOf CX0 P w K mg base N qual (defScope st) f cdv A outer s H E).nox (defBody st) t∧t {nx:=fun _ H'=>Q .non H',rt:=Q} (startL N vs) H):FnOk P w K mg base CX0 (k+1) f fd ps sp:=by
  refine F.ok S len fun cdv A outer s H vs Q E hr h=>?_
  obtain ⟨t,h1,h2⟩:=hbody cdv A outer s H vs Q E hr h
  refine ⟨t,h1,?_⟩
  have hl:=len _ _ _ _ h
  have hp:ps.length≤N.length:=by have:=congrArg List.length S.pre;rw [List.length_take] at this;omega
  rw [startL_eq N vs (by omega)] at h2
  exact h2
end L2
namespace L2
open PySem
def bfsIn (T:List Stp) (h:Str) (wh:List Nat) (R:BR):BR:=T.foldl (fun R s=>if s.2.1=h∧¬s.2.2∈R.map (·.1) then R++[(s.2.2,wh++[s.1])] else R) R
def bfsN (S:List Stp) (a:Str):Nat→BR
  | 0=>[(a,[])]
  | n+1=>match (bfsN S a n)[n]? with
    | some x=>bfsIn S x.1 x.2 (bfsN S a n)
    | none=>bfsN S a n
theorem bfsIn_snoc (T:List Stp) (s:Stp) (h:Str) (wh:List Nat) (R:BR):bfsIn (T++[s]) h wh R=if s.2.1=h∧¬s.2.2∈(bfsIn T h wh R).map (·.1) then bfsIn T h wh R++[(s.2.2,wh++[s.1])] else bfsIn T h wh R:=by
  unfold bfsIn
  rw [List.foldl_append]
  rfl
theorem bfsN_next {S:List Stp} {a:Str} {n:Nat} {h:Str} {wh:List Nat} (e:(bfsN S a n)[n]? = some (h,wh)):bfsN S a (n+1)=bfsIn S h wh (bfsN S a n):=by
  show (match (bfsN S a n)[n]? with | some x=>bfsIn S x.1 x.2 (bfsN S a n) | none=>bfsN S a n)=_
  rw [e]
theorem bfsN_stay {S:List Stp} {a:Str} {R:BR} {n:Nat} (e:bfsN S a n=R) (hn:R.length≤n):∀k,bfsN S a (n+k)=R
  | 0=>e
  | k+1=>by
    have ih:=bfsN_stay e hn k
    show (match (bfsN S a (n+k))[n+k]? with | some x=>bfsIn S x.1 x.2 (bfsN S a (n+k)) | none=>bfsN S a (n+k))=_
    rw [ih,List.getElem?_eq_none (by omega)]
def BfsF (S:List Stp) (a:Str) (R:BR):Prop:=bfsN S a R.length=R
def WaysNew (H:Hp) (kvs:List (Key×V)):Prop:=∀kv∈kvs,∀p,kv.2 = .ref p→H p=none
theorem WaysNew.at {H:Hp} {kvs:List (Key×V)} (h:WaysNew H kvs) {k:Key} {p:Addr} (e:valV kvs k=some (.ref p)):H p=none:=by
  unfold valV at e
  cases hf:kvs.find? fun kv=>decide (kv.1=k) with
  | none=>rw [hf] at e;cases e
  | some kv=>
    rw [hf] at e
    exact h kv (List.mem_of_find?_eq_some hf) p (Option.some.inj e)
theorem WaysNew.snoc {H:Hp} {kvs:List (Key×V)} (h:WaysNew H kvs) {k:Key} {p:Addr} (hp:H p=none):WaysNew H (kvs++[(k,.ref p)]):=by
  intro kv hkv q hq
  rcases List.mem_append.mp hkv with z | z
  ·exact h kv z q hq
  · simp at z
    subst z
    cases hq
    exact hp
theorem ledL_at:∀(ns:List Int) (ps:List (Str×Str)) (k j:Nat) (s:Stp),(ledL ns ps k)[j]? = some s↔∃n e,ns[j]? = some n∧ps[j]? = some e∧s=(k+j,endO n e,endG n e)
  | [],ps,k,j,s=>by simp [ledL]
  | n::ns,[],k,j,s=>by simp [ledL]
  | n::ns,e::ps,k,0,s=>by simp [ledL,eq_comm]
  | n::ns,e::ps,k,j+1,s=>by
    rw [ledL,List.getElem?_cons_succ,ledL_at ns ps (k+1) j s]
    simp only [List.getElem?_cons_succ,show k+1+j=k+(j+1) by omega]
theorem mem_ledL {ns:List Int} {ps:List (Str×Str)} {s:Stp}:s∈ledL ns ps 0↔∃j n e,ns[j]? = some n∧ps[j]? = some e∧s=(j,endO n e,endG n e):=by
  rw [List.mem_iff_getElem?]
  constructor
  · rintro ⟨j,h⟩
    obtain ⟨n,e,h1,h2,h3⟩:=(ledL_at ns ps 0 j s).mp h
    exact ⟨j,n,e,h1,h2,by rw [h3,Nat.zero_add]⟩
  · rintro ⟨j,n,e,h1,h2,h3⟩
    exact ⟨j,(ledL_at ns ps 0 j s).mpr ⟨n,e,h1,h2,by rw [h3,Nat.zero_add]⟩⟩
theorem ledL_len:∀(ns:List Int) (ps:List (Str×Str)) (k:Nat),ns.length=ps.length→(ledL ns ps k).length=ps.length
  | [],[],k,_=>rfl
  | [],_::_,k,h=>by simp at h
  | _::_,[],k,h=>by simp at h
  | n::ns,e::ps,k,h=>by rw [ledL,List.length_cons,ledL_len ns ps (k+1) (by simpa using h),List.length_cons]
def ClosedS (S:List Stp) (f:List Str):Prop:=∀s∈S,s.2.1∈f→s.2.2∈f
structure Rch (S:List Stp) (x:Str) (f:List Str):Prop where
  st:x∈f
  nd:f.Nodup
  rt:∀y∈f,RT (Along S) x y
structure RchMid (S T:List Stp) (x:Str) (f0 f:List Str):Prop where
  r0:f0.Nodup
  r:Rch S x f
  sub:∀y∈f0,y∈f
  le:f0.length≤f.length
  md:∀s∈T,s.2.1∈f0→s.2.2∈f
  cl:ClosedS S f0→f=f0
theorem zpos {m:Nat} (h:1≤m):(0:Int)<m:=by omega
theorem zlt {m b:Nat} {c:Int} (h:m≤b) (hb:(b:Int)<c):(m:Int)<c:=by omega
theorem zlo {f:Int} (h:0≤f) : -4611686018427387904≤f:=by omega
theorem zhi {f c:Int} (h:f<c) (hc:c≤4611686018427387904):f<4611686018427387904:=Int.lt_of_lt_of_le h hc
theorem zloN {f:Nat} : -4611686018427387904≤(f:Int):=by omega
theorem ztn {d:Int} {m b:Nat} (h0:0≤d) (h:d<m) (hb:m≤b):d.toNat+1≤b:=by omega
theorem zmax {d:Int} (h:0≤d) (c:Int):c+d=max d 0+c:=by omega
theorem zsz {a b:Nat} (h:a<b) (hb:b≤20):a<sizeLine:=Nat.lt_of_lt_of_le h (Nat.le_trans hb (of_eq_true sz20))
theorem zsz' {a b:Nat} (h:a≤b) (hb:b≤20):a≤sizeLine:=Nat.le_trans h (Nat.le_trans hb (of_eq_true sz20))
theorem z01 {d:Int} (h:0≤d) (h2:d<2):d=0∨d=1:=by omega
theorem z2 {n:Nat} (h:(1:Int)<n):2≤n:=by omega
theorem zk1 {k t:Nat} (h:t≤k):(0:Int)<k - t+1:=by omega
theorem zk2 {k t:Nat} {c:Int} (h:k≤20) (hc:21<c):(k:Int) - t+1<c:=by omega
theorem zk3 {f:Int} {k t p:Nat} (h0:0≤f) (h:f<k - t+1) (e:t=p):p+f.toNat≤k+0:=by omega
theorem zk4 {t p f k i:Nat} (e:t=p) (h:p+f≤k+i) (hi:i<f) (hk:k≤20):t<sizeLine:=by
  have:=of_eq_true sz20
  omega
theorem zk5 {p f k i:Nat} (h:p+f≤k+i) (hi:i<f) (hk:k≤20):p≤19:=by omega
theorem zk6 {p f k i:Nat} (h:p+f≤k+i):p+1+f≤k+(i+1):=by omega
theorem zk7 {p f k:Nat} (h:p+f≤k+f):p≤k:=Nat.le_of_add_le_add_right h
theorem zsub {lo i n:Nat} (h:i<n - lo):lo+i<n:=by omega
theorem zn1 {b i:Nat}:0≤((b:Int)+5 * i) % 26:=by omega
theorem zn2 {b i:Nat}:((b:Int)+5 * i) % 26<26:=by omega
theorem zn3 {b i c:Nat} (h:((b:Int)+5 * i) % 26=c):c=(b+5 * i) % 26:=by omega
theorem zn4 {j y:Nat} {e:Int} (h:j<e.toNat) (he:e<4) (hy:y=j):y<sizeLine:=by
  have:=of_eq_true sz20
  omega
theorem zn5 {y:Nat} {e:Int} (h:y=e.toNat) (he:e<4):y+y * 0≤16777216:=by omega
theorem zn6 {y:Nat} {e:Int} (h:y=e.toNat) (he:e<4):1+y≤4:=by omega
theorem zn7 {i j w b:Nat} (hi:i<w) (hj:j<w) (hij:i<j) (hw:w≤9) (z:(b+5 * j) % 26=(b+5 * i) % 26):False:=by omega
theorem zn8 {j w:Nat} (h:¬j<w) (h2:j - w=0):j=w:=by omega
theorem zpa (c:Int):0≤if 1000000000000000000<c then c - 1000000000000000000 else 0:=by split <;> omega
theorem zpb (c:Int) (k:Nat):0≤c % 2147483629+977 * (k:Int)+1:=by omega
theorem zpc (c:Int) {k:Nat} (h:k<100):c % 2147483629+977 * (k:Int)+1<4294967296:=by omega
theorem zs1 {s i t p:Nat} (h:s≤2 * i+1) (hi:i<t) (e:t=p) (hp:p≤20):s<sizeLine:=by
  have:60<sizeLine:=by decide
  omega
theorem zs2 {s i:Nat} (h:s≤2 * i+1):s+1≤2 * (i+1):=by omega
theorem zs3 {s t p:Nat} (h:s≤2 * t) (e:t=p) (hp:p≤20):s≤40:=by omega
end L2
namespace L2
open PySem PySem.Spec PyProof.Rows
mutual
def Thg (H:Hp):PyData→V→Prop
  | .none,v=>v = .non
  | .bool b,v=>v = .bl b
  | .int i,v=>v = .int i
  | .str x,v=>v = .str x
  | .list ds,v=>∃a xs,v = .ref a∧H a=some (.lst xs)∧ThgAll H ds xs
  | .tuple ds,v=>∃a xs,v = .ref a∧H a=some (.tup xs)∧ThgAll H ds xs
  | .dict kvs,v=>kvs=[]∧∃a,v = .ref a∧H a=some (.dK [])
def ThgAll (H:Hp):List PyData→List V→Prop
  | [],vs=>vs=[]
  | d::ds,vs=>∃v r,vs=v::r∧Thg H d v∧ThgAll H ds r
end
mutual
theorem Thg.same {H H':Hp} (s:Same H H'):∀(d:PyData) (v:V),Thg H d v→Thg H' d v
  | .none,v,h=>by simp only [Thg] at h ⊢;exact h
  | .bool b,v,h=>by simp only [Thg] at h ⊢;exact h
  | .int i,v,h=>by simp only [Thg] at h ⊢;exact h
  | .str x,v,h=>by simp only [Thg] at h ⊢;exact h
  | .list ds,v,h=>by
    simp only [Thg] at h ⊢
    obtain ⟨a,xs,e,h1,h2⟩:=h
    exact ⟨a,xs,e,s _ _ h1,ThgAll.same s ds xs h2⟩
  | .tuple ds,v,h=>by
    simp only [Thg] at h ⊢
    obtain ⟨a,xs,e,h1,h2⟩:=h
    exact ⟨a,xs,e,s _ _ h1,ThgAll.same s ds xs h2⟩
  | .dict kvs,v,h=>by
    simp only [Thg] at h ⊢
    obtain ⟨e0,a,e,h1⟩:=h
    exact ⟨e0,a,e,s _ _ h1⟩
theorem ThgAll.same {H H':Hp} (s:Same H H'):∀(ds:List PyData) (vs:List V),ThgAll H ds vs→ThgAll H' ds vs
  | [],vs,h=>by simp only [ThgAll] at h ⊢;exact h
  | d::ds,vs,h=>by
    simp only [ThgAll] at h ⊢
    obtain ⟨v,r,e,h1,h2⟩:=h
    exact ⟨v,r,e,Thg.same s d v h1,ThgAll.same s ds r h2⟩
end
theorem ThgAll.ints (H:Hp):∀ns:List Int,ThgAll H (ns.map PyData.int) (ns.map V.int)
  | []=>by simp [ThgAll]
  | n::ns=>by simp only [List.map_cons,ThgAll];exact ⟨_,_,rfl,by simp [Thg],ThgAll.ints H ns⟩
theorem ThgAll.length {H:Hp}:∀{ds:List PyData} {xs:List V},ThgAll H ds xs→ds.length=xs.length
  | [],_,h=>by simp only [ThgAll] at h;subst h;rfl
  | d::ds,_,h=>by
    simp only [ThgAll] at h
    obtain ⟨v,r,rfl,h1,h2⟩:=h
    simp [ThgAll.length h2]
theorem ThgAll.at {H:Hp}:∀{ds:List PyData} {xs:List V} {i:Nat} {v:V},ThgAll H ds xs→xs[i]? = some v→∃d,ds[i]? = some d∧Thg H d v
  | [],_,i,v,h,e=>by simp only [ThgAll] at h;subst h;simp at e
  | d::ds,_,0,v,h,e=>by
    simp only [ThgAll] at h
    obtain ⟨w,r,rfl,h1,h2⟩:=h
    simp at e
    subst e
    exact ⟨d,rfl,h1⟩
  | d::ds,_,i+1,v,h,e=>by
    simp only [ThgAll] at h
    obtain ⟨w,r,rfl,h1,h2⟩:=h
    exact ThgAll.at (i:=i) h2 (by simpa using e)
section
variable {X:Cx} {pins:List (Addr×Obj)} {σ:St} {H:Hp} {s:Shared} {K:PySem.W.Frag}
theorem dict_reads {P:Program} {w:World} {h:Heap} {a:Addr} (ok:HOk P w H h) (e:H a=some (.dK [])):Reads h (.ref a) (.dict []) [a]∧(a == sysModules)=false:=by
  obtain ⟨_,hd,vs,kv,o,es,ep,h1,h2,h3,_,h5,_⟩:=dk_of ok e
  refine ⟨?_,hd⟩
  have ev:vs=[]:=by cases kv;rfl
  subst ev
  have el:es.toList=[]:=by
    generalize es.toList=l at h5
    cases h5
    rfl
  have:=Reads.dict (kvs:=[]) (as:=[]) (bs:=[]) h1 h2.1 h3 (by rw [el];exact .nil) (by rw [el];exact .nil)
  exact this
mutual
theorem Thg.reads (I:Inv X pins σ H s):∀(d:PyData) (v:V) (u:Value),Thg H d v→RelV v u→∃as,Reads s.heap u d as
  | .none,v,u,h,r=>by
    simp only [Thg] at h;subst h;cases r;exact ⟨_,.none⟩
  | .bool b,v,u,h,r=>by
    simp only [Thg] at h;subst h;cases r;exact ⟨_,.bool b⟩
  | .int i,v,u,h,r=>by
    simp only [Thg] at h;subst h;obtain ⟨t,rfl⟩:=r;exact ⟨_,.int i t⟩
  | .str x,v,u,h,r=>by
    simp only [Thg] at h;subst h;obtain ⟨t,rfl⟩:=r;exact ⟨_,.str x t⟩
  | .list ds,v,u,h,r=>by
    simp only [Thg] at h
    obtain ⟨a,xs,rfl,hq,hs⟩:=h
    cases r
    obtain ⟨its,rv,pl,hz⟩:=I.list (SqL.of hq)
    obtain ⟨o,e,c,n,dt⟩:=pl.isList
    obtain ⟨as,ra⟩:=ThgAll.reads I ds xs its hs rv
    exact ⟨_,.list e c dt (by simpa using ra)⟩
  | .tuple ds,v,u,h,r=>by
    simp only [Thg] at h
    obtain ⟨a,xs,rfl,hq,hs⟩:=h
    cases r
    obtain ⟨its,rv,pl,hz⟩:=I.tuple (SqT.of hq)
    obtain ⟨o,e,c,n,dt⟩:=pl
    obtain ⟨as,ra⟩:=ThgAll.reads I ds xs its hs rv
    exact ⟨_,.tuple e c dt (by simpa using ra)⟩
  | .dict kvs,v,u,h,r=>by
    simp only [Thg] at h
    obtain ⟨rfl,a,rfl,h1⟩:=h
    cases r
    exact ⟨_,(dict_reads I.hok h1).1⟩
theorem ThgAll.reads (I:Inv X pins σ H s):∀(ds:List PyData) (vs:List V) (us:List Value),ThgAll H ds vs→Vals vs us→∃as,ReadsAll s.heap us ds as
  | [],vs,us,h,r=>by
    simp only [ThgAll] at h;subst h;cases r;exact ⟨_,.nil⟩
  | d::ds,vs,us,h,r=>by
    simp only [ThgAll] at h
    obtain ⟨v,vr,rfl,h1,h2⟩:=h
    cases r with
    | cons r1 r2=>
      obtain ⟨as,ra⟩:=Thg.reads I d v _ h1 r1
      obtain ⟨bs,rb⟩:=ThgAll.reads I ds vr _ h2 r2
      exact ⟨_,.cons ra rb⟩
end
end
section
variable {prog:Program} {w:World} {A:Around} {E:Value→Shared→Prop} {s:Shared}
theorem iter_enumG {e it:Addr} {i:Int} {Q:Value→Shared→Prop} (he:IsEnumG s.heap e it i) (h:Q (.ref e) s):wpAny (model prog w) A (pyIter (.ref e)) Q E s:=by
  obtain ⟨f0,f1,old,he,_⟩:=he
  have hT:s.TypeIs (.ref e) "enumerate" :=⟨_,he,rfl⟩
  refine wpAny_pyIter_slot hT F.slot_enumerate_iter (wpAny_call_entry F.slot_enumerate_iter hT F.entry_enumerate_iter (?_:wpAny _ _ (ret (.ref e)) _ _ s) (F.args_enumerate_iter_1 _))
  exact wpAny_pure ⟨_,rfl, "enumerate",_,hT,F.slot_enumerate_next.lookup,h⟩
theorem go_enumG {elts:List Expr} {x1} {pos:Pos} {e it a:Addr} {i:Int} {Q:Unit→Shared→Prop} (he:IsEnumG s.heap e it i)
    (hQ:∀h',IsEnumG h' e it i→Heap.SameBut e s.heap h'→Q () {s with heap:=h'}):wpAny (model prog w) A (letOwnedTupleGo (.Tuple elts x1 pos) (.ref e) (.ref a)) Q E s:=by
  obtain ⟨f0,f1,old,he,hf⟩:=he
  unfold letOwnedTupleGo
  refine wpAny_bind (wpAny_load he ?_)
  dsimp only
  split
  · refine wpAny_bind (wpAny_rule ?_)
    exact wpAny_setField_rec (a:=e) he (by simp) fun h' z hs'=>hQ h' ⟨.none,f1,old,z,.inl rfl⟩ hs'
  ·exact wpAny_pure (hQ s.heap ⟨f0,f1,old,he,hf⟩ ⟨rfl,fun _ _=>rfl⟩)
end
def IteQ (b:Bool) (K:PySem.W.Frag) (a:Addr):It:=
  ⟨fun i H=>∃xs x,SqB b K H a xs∧xs[i]? = some x,
   fun i H v H'=>∃t x,v = .ref t∧H t=none∧H'=upd H t (.tup [.int i,x])∧∀xs,SqB b K H a xs→xs[i]? = some x,
   fun i H=>∃xs,SqB b K H a xs∧xs.length≤i⟩
def LtB (b:Bool) (h:Heap) (a:Addr) (items:Array Value):Prop:=match b with
  | true=>h.IsList a items
  | false=>h.IsTuple a items
theorem Inv.seqB {X:Cx} {pins:List (Addr×Obj)} {σ:St} {H:Hp} {s:Shared} (I:Inv X pins σ H s) {b:Bool} {a:Addr} {xs:List V} (h:SqB b X.K H a xs) :
    ∃its:List Value,Vals xs its∧its.length≤sizeLine∧LtB b s.heap a its.toArray:=by
  cases b with
  | true=>
    obtain ⟨its,rv,pl,hz⟩:=I.list h
    exact ⟨its,rv,by rw [← rv.length];exact hz,pl.isList⟩
  | false=>
    obtain ⟨its,rv,pl,hz⟩:=I.tuple h
    exact ⟨its,rv,by rw [← rv.length];exact hz,pl⟩
theorem Inv.seqB_inj {X:Cx} {pins:List (Addr×Obj)} {σ:St} {H:Hp} {s:Shared} (I:Inv X pins σ H s) {b:Bool} {a:Addr} {xs ys:List V} (h:SqB b X.K H a xs) (q:SqB b X.K H a ys):xs=ys:=by
  cases b with
  | true=>exact I.list_inj h q
  | false=>exact I.tuple_inj h q
def ItB (b:Bool) (it a:Addr) (i:Nat) (h:Heap):Prop:=match b with
  | true=>h.IsListIter it a i
  | false=>h.IsTupleIter it a i
theorem ItB.src {b:Bool} {it a:Addr} {items:Array Value} {i:Nat} {h:Heap} (st:ItB b it a i h) (q:LtB b h a items):SrcSt b it a items i h:=by
  cases b with
  | true=>exact ⟨st,q⟩
  | false=>exact ⟨st,q⟩
theorem ItB.of {b:Bool} {it a:Addr} {items:Array Value} {i:Nat} {h:Heap} (st:SrcSt b it a items i h):ItB b it a i h:=by
  cases b with
  | true=>exact st.1
  | false=>exact st.1
theorem ItB.keep {b:Bool} {it a:Addr} {i:Nat} {h h':Heap} (st:ItB b it a i h) (k:∀o,h.get? it=some o→h'.get? it=some o):ItB b it a i h':=by
  cases b with
  | true=>obtain ⟨o,e,c⟩:=st;exact ⟨o,k _ e,c⟩
  | false=>obtain ⟨o,e,c⟩:=st;exact ⟨o,k _ e,c⟩
theorem ItB.obj {b:Bool} {it a:Addr} {i:Nat} {h:Heap} (st:ItB b it a i h):∃o,h.get? it=some o∧∀v,o.data≠.cell v:=by
  cases b with
  | true=>obtain ⟨o,e,_,d⟩:=(show h.IsListIter it a i from st);exact ⟨o,e,fun v y=>by rw [d] at y;cases y⟩
  | false=>obtain ⟨o,e,_,d⟩:=(show h.IsTupleIter it a i from st);exact ⟨o,e,fun v y=>by rw [d] at y;cases y⟩
structure EnumQ (b:Bool) (e it a:Addr) (i:Nat) (h:Heap):Prop where
  he:IsEnumG h e it i
  hi:ItB b it a i h
theorem turn_enumQ {b:Bool} {P:Program} {w:World} {K:PySem.W.Frag} {es:List Expr} {k:Nat} {pos:Pos} {e it a:Addr} (nei:e≠it) :
    Turn P w K (.Tuple es k pos) (IteQ b K a) [e,it] e (EnumQ b e it a) where
  mem:=by simp
  obj:=fun i h st c hc=>by
    simp only [List.mem_cons,List.not_mem_nil,or_false] at hc
    rcases hc with rfl | rfl
    · obtain ⟨f0,f1,old,q,_⟩:=st.he
      exact ⟨_,q,fun v e=>nomatch e⟩
    ·exact st.hi.obj
  keep:=fun i h h' st kk=>by
    obtain ⟨f0,f1,old,q,hf⟩:=st.he
    exact ⟨⟨f0,f1,old,kk e (by simp) _ q,hf⟩,st.hi.keep fun o z=>kk it (by simp) o z⟩
  item:=by
    intro X hP hw hK hc i pins s σ H E I hf st hg
    subst hP hw hK
    obtain ⟨xs,x,qa,hx⟩:=hg
    obtain ⟨its,rv,hz,pl⟩:=I.seqB qa
    obtain ⟨u,hu,ru⟩:=rv.get hx
    obtain ⟨f0,f1,old,hE,_⟩:=id st.he
    obtain ⟨o1,e1,_⟩:=st.hi.obj
    refine enumG_item st.he (st.hi.src pl) (x:=u) (by simpa using hu) fun h' a1 a2 a3 kk=>?_
    refine ⟨_,rfl,go_enumG (s:={s with heap:=h',toks:=s.toks+1}) a1 fun h2 b1 sb=>?_⟩
    have lt:∀{c o},s.heap.get? c=some o→s.heap.objs.size≠c:=fun e=>Nat.ne_of_gt (Heap.lt_size e)
    have hn:H s.heap.objs.size=none:=I.hok.fresh (Nat.le_refl _)
    have kk2:∀c o,c∉[e,it]→s.heap.get? c=some o→h2.get? c=some o:=fun c o hc z=>by
      simp only [List.mem_cons,List.not_mem_nil,or_false,not_or] at hc
      exact (sb.2 c hc.1).trans (kk c o hc.1 hc.2 z)
    have I1:Inv X pins σ H {s with heap:=h2,toks:=s.toks+1}:=I.turnedL kk2 hf
    have hpair:=sb.extBut _ _ (lt hE) a3
    have I2:Inv X pins σ (upd H s.heap.objs.size (.tup [.int i,x])) {s with heap:=h2,toks:=s.toks+1}:=I.pairNew I1 ⟨_,rfl⟩ ru hpair
    refine ⟨.ref s.heap.objs.size,_,I2,rfl,⟨s.heap.objs.size,x,rfl,hn,rfl,fun xs' q'=>by rw [I.seqB_inj q' qa];exact hx⟩,?_,fun c hcm=>?_⟩
    ·exact ⟨b1,(ItB.of a2).keep fun o z=>(sb.2 it nei.symm).trans z⟩
    · have hne:c≠s.heap.objs.size:=by
        simp only [List.mem_cons,List.not_mem_nil,or_false] at hcm
        rcases hcm with rfl | rfl
        ·exact (lt hE).symm
        ·exact (lt e1).symm
      rw [upd_ne hne]
      exact (hf c hcm).1
  done:=by
    intro X hP hw hK hc i pins s σ H E I hf st hg
    subst hP hw hK
    obtain ⟨xs,qa,hl⟩:=hg
    obtain ⟨its,rv,hz,pl⟩:=I.seqB qa
    have l1:=rv.length
    refine enumG_done (I.ok.hd hc) st.he (st.hi.src pl) (by simp;omega) fun h' kk=>⟨rfl,I.turnedL (t':=s.toks) (fun c o hcm z=>?_) hf⟩
    simp only [List.mem_cons,List.not_mem_nil,or_false,not_or] at hcm
    exact kk c o hcm.2 z
  self:=fun _ _ _ _ _ st h=>iter_enumG st.he h
section
variable {X:Cx} {K:PySem.W.Frag}
def fiEnumQ (K:PySem.W.Frag) (t:TA):TI:=fun σ H R=>t σ H fun vs H1=>ar1 vs fun x=>isRef x fun a=>∃b,(∃xs,SqB b K H1 a xs)∧R (IteQ b K a) H1
@[simp ↓] theorem fiEnumQ_w K t σ H R:fiEnumQ K t σ H R=(t σ H fun vs H1=>ar1 vs fun x=>isRef x fun a=>∃b,(∃xs,SqB b K H1 a xs)∧R (IteQ b K a) H1):=rfl
theorem pi_enumQ (hK:X.K=K) {es:List Expr} {k:Nat} {pos':Pos} {a:Expr} {ta:TA} {p pos:Pos} (hg:Gl X "enumerate") (hm:X.mg "enumerate" = none) (ha:PA X [a] ta)
    (hs:starEach [a] X.env=[(false,eval a X.env)]:=by rfl) :
    PI X (.Tuple es k pos') (.Call (.Name "enumerate" p) [a] [] pos) (fiEnumQ K ta):=by
  subst hK
  intro pins s σ H R I h
  refine Call_ (ld_blt I hg hm boot_enum (PyProof.Rows.callWith_type1 (thn (ha pos pins s σ H _ I h) fun us s1 zz=>?_) (by rw [hs];rfl) (by rfl)))
  obtain ⟨vs,H1,I1,r1,q1⟩:=zz
  obtain ⟨v,rfl,q2⟩:=ar1.out q1
  obtain ⟨l1,rfl,b,⟨xs,qa⟩,q⟩:=isRef.out q2
  obtain ⟨u,rfl,r⟩:=vals1 r1
  obtain rfl:u=Value.ref l1:=r
  obtain ⟨its,rv,hz,pl⟩:=I1.seqB qa
  refine my_call_enumerate (b:=b) (items:=its.toArray) (by cases b <;> exact pl) fun h' b1 b2 b3 kk=>?_
  refine iter_enumG (s:={s1 with heap:=h'}) b1 ?_
  have I2:Inv X pins σ H1 {s1 with heap:=h'}:=I1.kept (t':=s1.toks) kk
  refine ⟨s1.heap.objs.size+1,[s1.heap.objs.size+1,s1.heap.objs.size],_,_,H1,rfl,I2,turn_enumQ (Nat.succ_ne_self _),⟨b1,ItB.of b2⟩,fun c hc=>?_,q⟩
  have hle:s1.heap.objs.size≤c:=by
    simp only [List.mem_cons,List.not_mem_nil,or_false] at hc
    rcases hc with rfl | rfl <;> first | exact Nat.le_add_right _ _ | exact Nat.le_refl _
  exact I1.fpOk hle (I1.hok.fresh hle)
end
section
variable {K:PySem.W.Frag} {own:List Str} {caps:List Nat} {g:TG} {tt:TT} {te:TE} {D l:Addr} {σ:St} {H:Hp} {Q:Hp→Prop} {d:DepC g tt te Q}
theorem cmEQ {b:Bool} (xs:List V) (Pv:Nat→St→Hp→Prop) (h0:Pv 0 (stC own caps σ) H) (hl:∀i σ H,i≤xs.length→Pv i σ H→SqB b K H l xs)
    (hs:∀i x t σ H,xs[i]? = some x→H t=none→Pv i σ H→tTurn g tt te D (Pv (i+1)) (.ref t) σ (upd H t (.tup [.int i,x]))) (hd:∀σ H,Pv xs.length σ H→Q H):tCm own caps (IteQ b K l) g tt te Q d D σ H:=by
  refine ⟨fun i m σ H=>m=xs.length - i∧i≤xs.length∧Pv i σ H,⟨xs.length,by simp,Nat.zero_le _,h0⟩,?_⟩
  rintro i m σ H ⟨rfl,hi,p⟩
  have q:=hl i σ H hi p
  by_cases hlt:i<xs.length
  · refine .inr ⟨⟨xs,xs[i],q,by simp [hlt]⟩,Pv (i+1),fun σ' H' p'=>⟨xs.length - (i+1),by omega,rfl,hlt,p'⟩,fun x H' y=>?_⟩
    obtain ⟨t,u,rfl,ht,rfl,e⟩:=y
    exact hs i u t σ H (e xs q) ht p
  · have:i=xs.length:=by omega
    subst this
    exact .inl ⟨⟨xs,q,Nat.le_refl _⟩,hd σ H p⟩
end
structure ExcIn (h0 h:Heap) (H:Hp) (a C:Addr) (od:Option Addr):Prop where
  new:h0.get? a=none
  un:H a=none
  ob:∃oe vs,h.get? a=some oe∧(oe.cls,oe.dict)=(Value.ref C,od)∧oe.data = .fields vs∧vs[2]? = some .none∧(vs[1]? = some .none∨
    ∃T oT ts,vs[1]? = some (.ref T)∧T≠a∧h0.get? T=none∧H T=none∧h.get? T=some oT∧oT.data = .fields ts∧ts[3]? = some .none)
structure ExcT (h0 h:Heap) (H:Hp) (a C:Addr) (od:Option Addr) (T:Addr):Prop where
  new:h0.get? a=none
  newT:h0.get? T=none
  un:H a=none
  unT:H T=none
  ob:∃oe vs oT ts,h.get? a=some oe∧(oe.cls,oe.dict)=(Value.ref C,od)∧oe.data = .fields vs∧vs[2]? = some .none∧vs[1]? = some (.ref T)∧T≠a∧h.get? T=some oT∧oT.data = .fields ts∧ts[3]? = some .none
section
variable {X:Cx} {pins:List (Addr×Obj)} {σ:St} {H:Hp} {s:Shared}
abbrev veMro:List Value:=[.type "ValueError",.type "Exception",.type "BaseException",.type "object"]
def ExcCls (K:PySem.W.Frag) (C:Addr):Prop:=PySem.W.excIn K C veMro "ValueError.__new__" = true
end
end L2
namespace L2
open PySem PySem.Spec PySem.W PyProof.Rows
section
variable {prog:Program} {w:World} {A:Around} {E:Value→Shared→Prop} {K:PySem.W.Frag} {h:Heap} {g:Array GenState} {d:Drawn} {t:Nat} {os:OsState} {x C:Addr}
end
end L2
namespace L2
open PySem PySem.Spec PyProof.Rows
section
variable {X:Cx} {pins:List (Addr×Obj)} {σ:St} {H:Hp} {s:Shared}
def ExcOb (K:PySem.W.Frag) (C:Addr):Prop:=∀h,K.In h→∃bm N nm q bs hdct sn sub ab col dd k0 k1 k2 k3 k5,h.get? C=some (excClassObj nm q C N bs bm hdct sn sub ab col dd k0 k1 k2 k3 k5 "ValueError.__new__")∧∀v b,PySem.W.mroIn K C v=some b→(Value.ref C::bm).contains v=b
end
section
variable {X:Cx} {pins:List (Addr×Obj)} {σ:St} {H:Hp} {s:Shared} {a:Addr}
end
inductive Lf:V→PyData→Prop
  | non:Lf .non .none
  | bl (b):Lf (.bl b) (.bool b)
  | int (i):Lf (.int i) (.int i)
  | str (x):Lf (.str x) (.str x)
inductive LfAll:List (Str×V)→List (PyData×PyData)→Prop
  | nil:LfAll [] []
  | cons {x v d ks kvs}:Lf v d→LfAll ks kvs→LfAll ((x,v)::ks) ((.str x,d)::kvs)
section
variable {X:Cx} {pins:List (Addr×Obj)} {σ:St} {H:Hp} {s:Shared}
inductive Shw (H:Hp):PyData→V→Prop
  | thg {d v}:Thg H d v→d.hasDict=false→Shw H d v
  | dic {a ks kvs}:LfAll ks kvs→H a=some (.dK (ks.map fun e=>((Sum.inr e.1:Key),e.2)))→Shw H (.dict kvs) (.ref a)
end
structure Sml (k n:Nat) (d:PyData):Prop where
  sh:d.showable=true
  dp:d.depth≤k
  ln:d.shown.length≤n
end L2
namespace L2
open PySem PySem.Spec PySem.W PyProof.Rows
section
variable {prog:Program} {w:World} {A:Around} {E:Value→Shared→Prop} {K:PySem.W.Frag} {h:Heap} {g:Array GenState} {d:Drawn} {t:Nat} {os:OsState}
variable {nm q:Str} {C N:Addr} {bs bm:List Value} {hdct:Bool} {sn:List Str} {sub:List Value} {ab:Bool} {col:Option Bool} {dd:Option Addr} {k0 k1 k2 k3 k5:Option Value}
structure ExcGet (K:PySem.W.Frag) (C:Addr):Prop where
  ga:findIn K (.ref C) "__getattribute__" = some (some (.builtin "BaseException.__getattribute__"))
  gn:findIn K (.ref C) "__getattr__" = some none
  mb:mroIn K C (.type "BaseException")=some true
  hd:hasDictIn K C=true
structure ExcSet (K:PySem.W.Frag) (C PE:Addr):Prop where
  sa:findIn K (.ref C) "__setattr__" = some (some (.builtin "object.__setattr__"))
  mo:mroIn K C (.type "object")=some true
  cl:∃cd,clsIn K C=some cd∧cd.mro = .ref C::.ref PE::veMro∧cd.hasDict=true
end
end L2
namespace L2
open PySem PySem.Spec PyProof.Rows
structure XMk (K:PySem.W.Frag) (C B f:Addr):Prop where
  ob:∃nm q N bs hdct sn sub ab col dd k0 k1 k2 k3 k5,K.lookup C=some (excClassObj nm q C N bs (.ref B::veMro) hdct sn sub ab col dd k0 k1 k2 k3 k5 "ValueError.__new__")
  pe:ExcCls K B
  pm:∃cd,PySem.W.clsIn K B=some cd∧cd.mro = .ref B::veMro
  init:PySem.W.findIn K (.ref C) "__init__" = some (some (.ref f))
  fn:PySem.W.typeIn K (.ref f)=some (.type "function")
  kp:PySem.W.keepIn K (.ref C)=true
end L2
namespace L2
open PySem PySem.Spec
section
variable {σ:St} {H:Hp} {p:Addr}
variable {φ:PyData→Prop}
structure big (t:TE) (σ:St) (H:Hp) (Q:VK):Prop where
  out:t σ H Q
end
end L2
namespace L2
open PySem
end L2
namespace L2
open PySem PySem.Spec PyProof.Rows PySem.SeqAt
structure XC (K:PySem.W.Frag) (C B:Addr):Prop where
  cl:∃cd,PySem.W.clsIn K C=some cd∧cd.mro = .ref C::.ref B::veMro∧cd.hasDict=true
  ty:PySem.W.typeIn K (.ref C)=some (.type "type")
  ga:PySem.W.findIn K (.ref C) "__getattribute__" = some (some (.builtin "BaseException.__getattribute__"))
  gn:PySem.W.findIn K (.ref C) "__getattr__" = some none
  gc:PySem.W.findIn K (.ref C) "__class__" = some (some (.builtin "object.__class__"))
  kp:PySem.W.keepIn K (.ref C)=true
section
variable {K:PySem.W.Frag} {C D B:Addr}
end
def ar3 (vs:List V) (R:V→V→V→Prop):Prop:=match vs with
  | [u,v,w]=>R u v w
  | _=>False
@[simp ↓] theorem ar3_w u v w R:ar3 [u,v,w] R=R u v w:=rfl
end L2
namespace L2
open PySem PySem.Spec PyProof.Rows
def arT (xs:List V) (R:V→V→V→Prop):Prop:=match xs with | [x,y,z]=>R x y z | _=>False
@[simp ↓] theorem arT_c x y z R:arT [x,y,z] R=R x y z:=rfl
structure Clause (K:PySem.W.Frag) (D:Addr):Prop where
  ob:ExcOb K D
  be:PySem.W.mroIn K D (.type "BaseException")=some true
def codQ (c':Addr) (qual:Str):HO:=.ext fun h=>h.CodeRec (.ref c') qual
def TabOk (pos:Pos) (qual:Str) (P:Addr) (H:Hp):Prop:=
  H P=some (.tbl #[])∨∃c',H P=some (.tbl #[rawInt pos.line,rawInt pos.col,.ref c'])∧H c'=some (codQ c' qual)
theorem TabOk.same {pos:Pos} {qual:Str} {P:Addr} {H H':Hp} (t:TabOk pos qual P H) (s:Same H H'):TabOk pos qual P H':=by
  rcases t with t | ⟨c,t,u⟩
  ·exact .inl (s _ _ t)
  ·exact .inr ⟨c,s _ _ t,s _ _ u⟩
theorem TabOk.but {pos:Pos} {qual:Str} {P p:Addr} {H H':Hp} {xs:List V} (t:TabOk pos qual P H) (hp:H p=some (.lst xs)) (s:But p H H'):TabOk pos qual P H':=by
  rcases t with t | ⟨c,t,u⟩
  ·exact .inl (s _ _ (ne_of t hp (by simp)) t)
  ·exact .inr ⟨c,s _ _ (ne_of t hp (by simp)) t,s _ _ (ne_of u hp (by simp [codQ])) u⟩
theorem codQ_ok {P:Program} {w:World} {H:Hp} {h:Heap} {c':Addr} {qual:Str} (r:h.CodeRec (.ref c') qual):ObjOk P w H h c' (codQ c' qual):=by
  refine ⟨r,?_,fun h1 h2 r1 k=>?_⟩
  · obtain ⟨c,o,_,_,e,ho,_⟩:=r
    cases e
    exact ⟨o,ho⟩
  · obtain ⟨c,o,vs,t,e,ho,d⟩:=r1
    cases e
    exact ⟨c',o,vs,t,rfl,k o ho,d⟩
section
variable {P:Program} {w:World} {K:PySem.W.Frag} {mg:Str→Option Value} {base:Heap}
theorem lam_run {A:Around} {outer:List Env} {s:Shared} {H:Hp} {f c':Addr} {name qual:Str} {params:Arguments} {body:Expr} {scope:Scope} {pm ctv:Value} {N ps:List Str} {us:List Value} {vs:List V} {Q:VK} {k:Nat} {t:TE}
    (hr:Room (k+1) A) (e0:Env0 P w K mg base A outer s H) (ho:s.heap.get? f=some (PySem.W.kla_obj name qual params body scope [] pm c' ctv)) (hcd:s.heap.CodeRec (.ref c') qual) (S:FnScope N ps scope)
    (hb:bindArgs (PySem.W.kla_fn name qual params body scope [] pm (.ref c') ctv) ⟨us,[]⟩=pure (ps.zip us)) (r:Vals vs us) (hl:vs.length=ps.length)
    (ht:PE (cxOf CX0 P w K mg base N qual scope f (.ref c') A outer s H E0) body t) (hq:t (start N vs) H Q) :
    codeAny (model P w) A (.call (.ref f) ⟨us,[]⟩) (CR CX0 outer P w H s Q E0) s:=by
  have lim:s.heap.NoLimit:=e0.mod.nolimit.keeps fun b o e=>(e0.bs b o e).1
  have hkind:∀y∈ps.zip us,scope.names.lookup y.1=some .local∨(scope.names.lookup y.1=some .cell∧((cellsFrom (s.heap.objs.size+1) scope.names []).lookup y.1).isSome=true):=fun ⟨n,v⟩ hy=>by
    rcases S.par n (List.of_mem_zip hy).1 with q | q
    ·exact .inl q
    ·exact .inr ⟨q,PySem.W.cellsFrom_some _ _ _ (.inl q)⟩
  refine PySem.W.kla_callFunE hr.depth ho rfl S.co S.gen rfl hcd ?_
  rw [hb]
  refine wpAny_pure (wpAny_newFunctionEnv_cells S.kind hkind fun env he s1 x=>?_)
  subst he
  refine ⟨lim.keeps x.toInCall.keep,PySem.W.kla_codeExpr ?_⟩
  have I:Inv (cxOf CX0 P w K mg base N qual scope f (.ref c') A outer s H E0) [] (start N vs) H s1:=inv_start S hr.hd e0 hl r x
  refine wpAny_mono (ht [] s1 (start N vs) H _ I hq) (fun u s' hs=>?_) fun e s' hs=>hs
  obtain ⟨v,H',J,rv,q⟩:=hs
  exact ⟨v,H',J.os,J.bare,J.base,J.hok,rv,q⟩
end
section
variable {X:Cx} {pins:List (Addr×Obj)} {σ:St} {H:Hp} {s:Shared}
theorem lam_make {M:Model} {A:Around} {E:Value→Shared→Prop} {Q:Value→Shared→Prop} {c P:Addr} {pos:Pos} {qual:Str} {params:Arguments} {body:Expr} {scope:Scope} {ln:Nat} (I:Inv X pins σ H s) (hc:X.env.code = .ref c) (C:PySem.W.CodeHd X.base c P) (hb:X.base.BuiltinsAt X.mg P)
    (hT:TabOk pos qual P H) (hcl:closureFor scope X.env=pure [])
    (h:∀f c' pm ctv H' s',Inv X pins σ H' s'→But P H H'→TabOk pos qual P H'→s'.heap.get? f=some (PySem.W.kla_obj "<lambda>" qual params body scope [] pm c' ctv)→s.heap.objs.size≤f→f<s'.heap.objs.size→H' f=none→H' c'=some (codQ c' qual)→Q (.ref f) s') :
    wpAny M A (makeFunction "<lambda>" qual params (.expr body) scope X.env [] [] [] pos ln) Q E s:=by
  have hg:s.heap.Ns mainGlobals X.mg:=I.ok.mod.glob.keeps I.bk
  have hbs:s.heap.BuiltinsAt X.mg P:=by
    obtain ⟨bm,o,h1,h2,h3,h4,h5,h6⟩:=hb
    exact ⟨bm,o,h1,h2,h3,h4,I.bk _ _ h5,h6⟩
  have hgP:∀{ps},H P=some (.tbl ps)→mainGlobals≠P:=fun hP q=>by
    obtain ⟨o,_,_,e,_⟩:=I.ok.mod.glob
    have:=(I.bs _ _ e).2
    rw [q,hP] at this
    cases this
  rcases hT with hP | ⟨c',hP,hc'⟩
  · have gP:s.heap.get? P=some (PySem.W.tabObj #[]):=I.hok P _ hP
    refine PySem.W.kla_makeFunction (mg:=X.mg) hcl I.ok.glob hg hc (C.keeps I.bk) gP trivial rfl (hgP hP) hbs fun c' ctv h' tk hx hge hlt hrec htb=>?_
    have hps:(#[]:Array Value)++#[rawInt pos.line,rawInt pos.col,.ref c'] = #[rawInt pos.line,rawInt pos.col,.ref c']:=by simp
    rw [hps] at htb
    have nP:∀{b:Addr},H b=none→b≠P:=fun e z=>by rw [z,hP] at e;cases e
    have nc:∀{b:Addr} {o:Obj},s.heap.get? b=some o→b≠c':=fun e=>Nat.ne_of_lt (Nat.lt_of_lt_of_le (Heap.lt_size e) hge)
    have nc2:∀{b:Addr} {o:HO},H b=some o→b≠c':=fun e=>Nat.ne_of_lt (Nat.lt_of_lt_of_le (I.hok.lt e) hge)
    have hPc:P≠c':=nc2 hP
    have kp:∀b o,b≠P→s.heap.get? b=some o→(h'.push (PySem.W.kla_obj "<lambda>" qual params body scope [] ((X.mg "__name__").getD .none) c' ctv)).get? b=some o:=fun b o n e=>Heap.get?_push_of_some _ (hx b o n e)
    have htb2:=Heap.get?_push_of_some (PySem.W.kla_obj "<lambda>" qual params body scope [] ((X.mg "__name__").getD .none) c' ctv) htb
    have at1:∀{b:Addr},b≠P→b≠c'→upd (upd H P (.tbl #[rawInt pos.line,rawInt pos.col,.ref c'])) c' (codQ c' qual) b=H b:=fun n1 n2=>by rw [upd_ne n2,upd_ne n1]
    have atP:upd (upd H P (.tbl #[rawInt pos.line,rawInt pos.col,.ref c'])) c' (codQ c' qual) P=some (.tbl #[rawInt pos.line,rawInt pos.col,.ref c']):=by rw [upd_ne hPc,upd_same]
    have J:Inv X pins σ (upd (upd H P (.tbl #[rawInt pos.line,rawInt pos.col,.ref c'])) c' (codQ c' qual)) {s with heap:=h'.push (PySem.W.kla_obj "<lambda>" qual params body scope [] ((X.mg "__name__").getD .none) c' ctv),toks:=tk}:=by
      refine I.step (ch:=[]) (by simp) (fun b o _ _ _ e n=>kp b o (nP n) e) (fun b o _ _ _ e n=>⟨o.slots,kp b o (nP n) e⟩) (fun b o _ e n=>?_) (fun b o _ e=>?_) (fun b xs e=>?_) (fun b o u e=>?_) (fun b ps e=>?_) (fun m hm=>?_) (fun b u e=>?_) I.bare
      ·rw [at1 (nP n) (nc e)];exact n
      · by_cases z:b=P
        ·exact ⟨_,by rw [z];exact htb2⟩
        ·exact ⟨o,kp b o z e⟩
      ·rw [at1 (ne_of e hP (by simp)) (nc2 e)];exact e
      ·rw [at1 (ne_of e hP (by simp)) (nc2 e)];exact e
      · by_cases z:b=P
        · subst z
          rw [hP] at e
          cases e
          exact ⟨#[rawInt pos.line,rawInt pos.col,.ref c'],by rw [atP];simp⟩
        ·exact ⟨#[],by rw [at1 z (nc2 e),e];simp⟩
      ·exact (hm.extBut hx (fun z=>nP I.free z)).push _
      · by_cases z1:b=c'
        · subst z1
          rw [upd_same] at e
          cases e
          refine codQ_ok ?_
          obtain ⟨c,o,vs,t,e,ho,d⟩:=hrec
          exact ⟨c,o,vs,t,e,Heap.get?_push_of_some _ ho,d⟩
        · by_cases z2:b=P
          · subst z2
            rw [atP] at e
            cases e
            exact htb2
          · rw [at1 z2 z1] at e
            refine (I.hok b u e).stay (fun d v hd q=>kp d v ?_ q) (fun d q=>by rw [at1 (ne_of q hP (by simp)) (nc2 q)];exact q) fun d xs q=>by rw [at1 (ne_of q hP (by simp)) (nc2 q)];exact q
            rcases hd with rfl | hd
            ·exact z2
            ·exact ne_of hd hP (by simp)
    exact h _ c' _ ctv _ _ J (fun b o n e=>by rw [at1 n (nc2 e)];exact e) (.inr ⟨c',atP,upd_same⟩) (Heap.get?_push_size _ rfl) (Nat.le_trans hge (Nat.le_of_lt hlt)) (by show h'.objs.size<(Heap.push h' _).objs.size;rw [Heap.size_push];exact Nat.lt_succ_self _)
      (by rw [at1 (fun z=>?_) (Nat.ne_of_gt hlt)];exact I.hok.fresh (Nat.le_trans hge (Nat.le_of_lt hlt));exact absurd (I.hok.lt hP) (by rw [← z];exact Nat.not_lt.mpr (Nat.le_trans hge (Nat.le_of_lt hlt)))) upd_same
  · have gP:s.heap.get? P=some (PySem.W.tabObj #[rawInt pos.line,rawInt pos.col,.ref c']):=I.hok P _ hP
    refine PySem.W.kla_makeFunctionHit (mg:=X.mg) (cv:=.ref c') hcl I.ok.glob hg hc (C.keeps I.bk) gP (by simp [TriplesOk,rawInt]) (by simp [codeAmong,rawInt]) hbs fun ctv h' tk hk hsz=>?_
    exact h _ c' _ ctv H _ (I.kept fun b o e=>Heap.get?_push_of_some _ (hk b o e)) (fun b o _ e=>e) (.inr ⟨c',hP,hc'⟩) (Heap.get?_push_size _ rfl) hsz (by show h'.objs.size<(Heap.push h' _).objs.size;rw [Heap.size_push];exact Nat.lt_succ_self _) (I.hok.fresh hsz) hc'
end
section
variable {X:Cx} {pins:List (Addr×Obj)} {σ:St} {H:Hp} {s:Shared}
structure Rec (X:Cx) (pins:List (Addr×Obj)) (H:Hp) (it:Addr):Prop where
  no:H it=none
  loc:it≠X.env.locals
  ab:X.s₀.heap.objs.size≤it
  cel:∀x c,X.env.cells.lookup x=some c→c≠it
  pin:∀p∈X.pn++pins,p.1≠it
theorem Inv.rcd (I:Inv X pins σ H s) {it:Addr} (h:s.heap.objs.size≤it):Rec X pins H it where
  no:=I.hok.fresh h
  loc:=Nat.ne_of_gt (Nat.lt_of_lt_of_le I.lt h)
  ab:=Nat.le_trans I.sz h
  cel:=fun x c e z=>by
    obtain ⟨v,o,ho,_⟩:=I.cell x c e
    exact absurd (Nat.lt_of_lt_of_le (Heap.lt_size ho) h) (by rw [z];exact Nat.lt_irrefl _)
  pin:=fun p hp z=>by
    have:=Heap.lt_size (I.pin p hp).1
    exact absurd (Nat.lt_of_lt_of_le this h) (by rw [z];exact Nat.lt_irrefl _)
theorem Inv.turn {t':Nat} {it:Addr} {h':Heap} (I:Inv X pins σ H s) (R:Rec X pins H it) (k:∀b o,b≠it→s.heap.get? b=some o→h'.get? b=some o):Inv X pins σ H {s with heap:=h',toks:=t'}:=
  I.turned k R.no R.loc (.inr R.ab) R.cel R.pin
def KTurn (X:Cx) (pins:List (Addr×Obj)) (σ:St) (H:Hp) (n:Nat) (k:Int) (s:Shared) (u:Value) (s':Shared):Prop:=
  ∃t,u = .int k t∧Inv X pins σ H s'∧∀b o,n≤b→H b=none→s.heap.get? b=some o→s'.heap.get? b=some o
theorem min_loopK {l q It S:Addr} {fo:Obj} {as:List Addr} {n:Nat} {R:Result→Shared→Prop} {kw:List (Str×Value)} (kf:Nat→Int) (hh:X.A.handled=none)
    (hl:∀s',Inv X pins σ H s'→s'.heap.IsList l (as.map Value.ref).toArray) (hlI:l≠It) (hSI:S≠It) (hqI:q≠It) (hqS:q≠S) (nI:n≤It) (nS:n≤S) (nq:n≤q) (RI:Rec X pins H It) (RS:Rec X pins H S) (hq:H q=none)
    (turn:∀i a,as[i]? = some a→∀s',Inv X pins σ H s'→s'.heap.get? q=some fo→wpAny (model X.prog X.w) X.A.in1 (call (.ref q) [.ref a]) (KTurn X pins σ H n (kf i) s') (fun _ _=>False) s')
    (hR:∀i a s',as[i]? = some a→(∀j,j<as.length→kf i≤kf j∧(j<i→kf i<kf j))→Inv X pins σ H s'→R (.ok (.ret (.ref a))) s') :
    ∀(r j i:Nat) (s:Shared) (a:Addr) (tb:Tok) (c:Nat),as.length - (j+1)=r→j+1≤as.length→Inv X pins σ H s→s.heap.get? q=some fo→
      s.heap.get? S=some (seqObj "list" #[.ref a,.int (kf i) tb] c)→s.heap.IsListIter It l (j+1)→as[i]? = some a→i≤j→(∀j',j'≤j→kf i≤kf j'∧(j'<i→kf i<kf j'))→
      codeAny (model X.prog X.w) X.A (.builtin "min.loop" ⟨[.ref It,.ref q,.ref S],kw⟩) R s:=by
  have hname:(toString "min" ++toString ".loop" : String) = "min.loop" :=by decide
  have W:=Walks.list (prog:=X.prog) (w:=X.w) (A:=X.A.in1) hh It l hlI (as.map Value.ref).toArray
  have hsz:(as.map Value.ref).toArray.size=as.length:=by simp
  intro r
  induction r with
  | zero=>
    intro j i s a tb c hr hj I hfo gS hit ha hij hbest
    have hin:j+1=as.length:=by omega
    refine codeAny_builtin PySem.F.entry_min_loop ?_
    rw [Around.under_plainId PySem.F.plain_min_loop _]
    show wpAny _ X.A.in1 (seqItems? (.ref S) >>= _) _ _ _
    refine wpAny_bind (wpAny_seqItems gS rfl ?_)
    show wpAny _ X.A.in1 (tryCatch (pyNext (.ref It)) _ >>= _) _ _ _
    refine wpAny_bind (wpAny_tryCatch (W.done _ _ _ ⟨by rw [hsz,← hin];exact hit,hl s I⟩ fun h' tk' hk'=>?_))
    have I1:=I.turn (t':=tk') RI (h':=h') fun b o nb e=>hk' b o (by simpa using nb) e
    have hS':=hk' S _ (by simpa using hSI) gS
    have s1:=Heap.SameBut.update h' S (Obj.mapSeq fun _=>(#[]:Array Value))
    show wpAny _ X.A.in1 (updateSeq S (fun _=>#[]) >>= _) _ _ _
    refine wpAny_bind ?_
    refine wpAny_updateSeq hS' rfl (wpAny_bind (wpAny_letGo (wpAny_pure ?_)))
    exact hR i a _ ha (fun j' hj'=>hbest j' (by omega)) (I1.turn (t':=tk') RS fun b o nb e=>(s1.2 b nb).trans e)
  | succ r ih=>
    intro j i s a tb c hr hj I hfo gS hit ha hij hbest
    have hlt:j+1<as.length:=by omega
    refine codeAny_builtin PySem.F.entry_min_loop ?_
    rw [Around.under_plainId PySem.F.plain_min_loop _]
    show wpAny _ X.A.in1 (seqItems? (.ref S) >>= _) _ _ _
    refine wpAny_bind (wpAny_seqItems gS rfl ?_)
    show wpAny _ X.A.in1 (tryCatch (pyNext (.ref It)) _ >>= _) _ _ _
    refine wpAny_bind (wpAny_tryCatch (W.item (j+1) _ _ _ (by rw [hsz];exact hlt) ⟨hit,hl s I⟩ fun v h' tk' hP hst' hk'=>?_))
    obtain ⟨a2,ha2,hv⟩:∃a2,as[j+1]? = some a2∧Value.ref a2=v:=by simpa using hP
    subst hv
    obtain ⟨oI',hoI',hoc,hod⟩:=id hst'.1
    have I1:=I.turn (t':=tk') RI (h':=h') fun b o nb e=>hk' b o (by simpa using nb) e
    have gS1:=hk' S _ (by simpa using hSI) gS
    have gq1:=hk' q _ (by simpa using hqI) hfo
    show wpAny _ X.A.in1 (tryCatch (holding [.ref a2] (call (.ref q) [.ref a2])) _ >>= _) _ _ _
    refine wpAny_bind (wpAny_tryCatch (wpAny_holding (wpAny_mono (turn (j+1) a2 ha2 _ I1 gq1) (fun x s2 he=>?_) fun _ _ hF=>hF.elim)))
    obtain ⟨t2,rfl,I2,kp⟩:=he
    have gS2:=kp S _ nS RS.no gS1
    have gI2:=kp It _ nI RI.no hoI'
    have gq2:=kp q _ nq hq gq1
    have hit2:s2.heap.IsListIter It l (j+1+1):=⟨oI',gI2,hoc,hod⟩
    show wpAny _ X.A.in1 (tryCatch (holding [.ref a2,.int (kf (j+1)) t2] (richCompare .Lt (.int (kf (j+1)) t2) (.int (kf i) tb) >>= _)) _ >>= _) _ _ _
    refine wpAny_bind (wpAny_tryCatch (wpAny_holding (wpAny_bind (CmpOf.ints_lt (prog:=X.prog) (w:=X.w) (A:=X.A.in1) (P:=fun i v=>∃t,v = .int (kf i) t) kf (fun i v h=>h) (j+1) i _ _ _ _ _ ⟨t2,rfl⟩ ⟨tb,rfl⟩ ?_))))
    refine wpAny_bind (wpAny_holding (wpAny_truthy_bool ?_))
    refine wpAny_bind (wpAny_letGo (wpAny_pure ?_))
    by_cases hb':kf (j+1)<kf i
    · have s1:=Heap.SameBut.update s2.heap S (Obj.mapSeq fun _=>#[.ref a2,.int (kf (j+1)) t2])
      obtain ⟨c2,hc2⟩:∃c2,(s2.heap.update S (Obj.mapSeq fun _=>#[.ref a2,.int (kf (j+1)) t2])).get? S=some (seqObj "list" #[.ref a2,.int (kf (j+1)) t2] c2):=⟨_,get?_update_seq gS2 fun _=>#[.ref a2,.int (kf (j+1)) t2]⟩
      simp only [hb',decide_true,if_true]
      refine wpAny_bind ?_
      refine wpAny_updateSeq gS2 rfl (wpAny_bind (wpAny_letGo ?_))
      rw [hname]
      refine wpAny_pure ⟨plainId_quiet PySem.F.plain_min_loop _,ih (j+1) (j+1) _ a2 t2 c2 (by omega) hlt (I2.turn (t':=s2.toks) RS fun b o nb e=>(s1.2 b nb).trans e) ((s1.2 q hqS).trans gq2) hc2 ⟨oI',(s1.2 It hSI.symm).trans gI2,hoc,hod⟩ ha2 (Nat.le_refl _) fun j' hj'=>?_⟩
      by_cases e:j'=j+1
      · subst e
        exact ⟨Int.le_refl _,fun h=>absurd h (Nat.lt_irrefl _)⟩
      · have hb1:=(hbest j' (by omega)).1
        exact ⟨by omega,fun _=>by omega⟩
    · simp only [hb',decide_false,Bool.false_eq_true,if_false]
      refine wpAny_bind (wpAny_letGo ?_)
      rw [hname]
      refine wpAny_pure ⟨plainId_quiet PySem.F.plain_min_loop _,ih (j+1) i _ a tb c (by omega) hlt I2 gq2 gS2 hit2 ha (by omega) fun j' hj'=>?_⟩
      by_cases e:j'=j+1
      · subst e
        exact ⟨by omega,fun _=>by omega⟩
      ·exact hbest j' (by omega)
theorem min_keyD (a v u:Value):argsOk "min" ⟨[a],[(Str.ofString "key",v),(Str.ofString "default",u)]⟩:=by unfold argsOk;kernel_rfl
theorem min_keyN {Q:Value→Shared→Prop} {l q:Addr} {fo:Obj} {as:List Addr} {n:Nat} (kf:Nat→Int) (hh:X.A.handled=none) (I:Inv X pins σ H s)
    (hl:SqL X.K H l (as.map V.ref)) (hn:n≤s.heap.objs.size) (nq:n≤q) (hq:H q=none) (hfo:s.heap.get? q=some fo)
    (turn:∀i a,as[i]? = some a→∀s',Inv X pins σ H s'→s'.heap.get? q=some fo→wpAny (model X.prog X.w) X.A.in1 (call (.ref q) [.ref a]) (KTurn X pins σ H n (kf i) s') (fun _ _=>False) s')
    (hQ0:as=[]→∀s',Inv X pins σ H s'→Q .none s')
    (hQ:∀i a s',as[i]? = some a→(∀j,j<as.length→kf i≤kf j∧(j<i→kf i<kf j))→Inv X pins σ H s'→Q (.ref a) s') :
    wpAny (model X.prog X.w) X.A (call (.builtin "min") [.ref l] [(Str.ofString "key",.ref q),(Str.ofString "default",.none)]) Q X.xe s:=by
  have hname:(toString "min" ++toString ".loop" : String) = "min.loop" :=by decide
  have refs:∀{bs:List Addr} {its:List Value},Vals (bs.map V.ref) its→its=bs.map Value.ref:=fun {bs}=>by
    induction bs with
    | nil=>intro its r;cases r;rfl
    | cons b bs ih=>intro its r;cases r with | cons x y=>rw [ih y];cases x;rfl
  have hlist:∀s',Inv X pins σ H s'→s'.heap.IsList l (as.map Value.ref).toArray:=fun s' J=>by
    obtain ⟨its,rv,pl,_⟩:=J.list hl
    rw [← refs rv]
    exact pl.isList
  have hls:=hlist _ I
  obtain ⟨ol,hol,_⟩:=id hls
  have hll:l<s.heap.objs.size:=Heap.lt_size hol
  refine kmk_tree PySem.F.kind_min PySem.F.plain_min PySem.F.entry_min (min_keyD _ _ _) ?_
  show wpAny _ X.A.in1 (Builtin.Builtins.bindParams "min" ["key", "default"] 0 ⟨[],[(Str.ofString "key",.ref q),(Str.ofString "default",.none)]⟩ >>= _) _ _ s
  refine wpAny_bind (wpAny_of_eq (show Builtin.Builtins.bindParams "min" ["key", "default"] 0 ⟨[],[(Str.ofString "key",.ref q),(Str.ofString "default",.none)]⟩=pure [some (.ref q),some .none] from rfl) ?_)
  refine wpAny_bind (wpAny_pure ?_)
  refine wpAny_bind (wpAny_pyIter_list hls ?_)
  refine wpAny_bind (wpAny_newList ?_ (Nat.zero_le _))
  rw [hname]
  generalize hoI:({cls:=.type "list_iterator",data:=.fields #[.ref l,.int 0 0]}:Obj)=oI
  have hS:(s.heap.push oI).objs.size=s.heap.objs.size+1:=size_push' ..
  have RI:Rec X pins H s.heap.objs.size:=I.rcd (Nat.le_refl _)
  have RS:Rec X pins H (s.heap.push oI).objs.size:=I.rcd (by rw [hS];exact Nat.le_succ _)
  have hlI:l≠s.heap.objs.size:=Nat.ne_of_lt hll
  have hSI:(s.heap.push oI).objs.size≠s.heap.objs.size:=by rw [hS];exact Nat.ne_of_gt (Nat.lt_succ_self _)
  have hqs:q<s.heap.objs.size:=Heap.lt_size hfo
  have hqI:q≠s.heap.objs.size:=Nat.ne_of_lt hqs
  have hqS:q≠(s.heap.push oI).objs.size:=by rw [hS];exact Nat.ne_of_lt (Nat.lt_succ_of_lt hqs)
  refine wpAny_pure ⟨plainId_quiet PySem.F.plain_min_loop _,?_⟩
  have IH:∀tk,Inv X pins σ H {s with heap:=(s.heap.push oI).push (seqObj "list" #[] 0),toks:=tk}:=fun tk=>I.kept fun b x e=>Heap.get?_push_of_some _ (Heap.get?_push_of_some _ e)
  have gI:((s.heap.push oI).push (seqObj "list" #[] 0)).get? s.heap.objs.size=some oI:=Heap.get?_push_of_some _ (Heap.get?_push_size _ (by rw [← hoI];rfl))
  have gS:((s.heap.push oI).push (seqObj "list" #[] 0)).get? (s.heap.push oI).objs.size=some (seqObj "list" #[] 0):=Heap.get?_push_size _ rfl
  have gq:((s.heap.push oI).push (seqObj "list" #[] 0)).get? q=some fo:=Heap.get?_push_of_some _ (Heap.get?_push_of_some _ hfo)
  have W:=Walks.list (prog:=X.prog) (w:=X.w) (A:=X.A.in1) hh s.heap.objs.size l hlI (as.map Value.ref).toArray
  have hsz:(as.map Value.ref).toArray.size=as.length:=by simp
  refine codeAny_builtin PySem.F.entry_min_loop ?_
  rw [Around.under_plainId PySem.F.plain_min_loop _]
  show wpAny _ X.A.in1 (seqItems? (.ref _) >>= _) _ _ _
  refine wpAny_bind (wpAny_seqItems gS rfl ?_)
  show wpAny _ X.A.in1 (tryCatch (pyNext (.ref s.heap.objs.size)) _ >>= _) _ _ _
  have hit0:((s.heap.push oI).push (seqObj "list" #[] 0)).IsListIter s.heap.objs.size l 0:=⟨_,gI,by rw [← hoI],by rw [← hoI];rfl⟩
  cases has:as with
  | nil=>
    refine wpAny_bind (wpAny_tryCatch (W.done _ _ _ ⟨by rw [hsz,has];exact hit0,hlist _ (IH _)⟩ fun h' tk' hk'=>?_))
    have I1:=(IH s.toks).turn (t':=tk') RI (h':=h') fun b o nb e=>hk' b o (by simpa using nb) e
    refine wpAny_bind (wpAny_rule (wpAny_pure ?_))
    exact hQ0 has _ I1
  | cons a0 as0=>
    have hne:0<as.length:=by rw [has];simp
    have ha0:as[0]? = some a0:=by rw [has];rfl
    refine wpAny_bind (wpAny_tryCatch (W.item 0 _ _ _ (by rw [hsz];exact hne) ⟨hit0,hlist _ (IH _)⟩ fun v h' tk' hP hst' hk'=>?_))
    obtain ⟨a2,ha2,hv⟩:∃a2,as[0]? = some a2∧Value.ref a2=v:=by simpa using hP
    subst hv
    obtain ⟨oI',hoI',hoc,hod⟩:=id hst'.1
    have I1:=(IH s.toks).turn (t':=tk') RI (h':=h') fun b o nb e=>hk' b o (by simpa using nb) e
    have gS1:=hk' _ _ (by simpa using hSI) gS
    have gq1:=hk' q _ (by simpa using hqI) gq
    show wpAny _ X.A.in1 (tryCatch (holding [.ref a2] (call (.ref q) [.ref a2])) _ >>= _) _ _ _
    refine wpAny_bind (wpAny_tryCatch (wpAny_holding (wpAny_mono (turn 0 a2 ha2 _ I1 gq1) (fun x s2 he=>?_) fun _ _ hF=>hF.elim)))
    obtain ⟨t2,rfl,I2,kp⟩:=he
    have nI:n≤s.heap.objs.size:=hn
    have nS:n≤(s.heap.push oI).objs.size:=by rw [hS];exact Nat.le_succ_of_le hn
    have gS2:=kp _ _ nS RS.no gS1
    have gI2:=kp _ _ nI RI.no hoI'
    have gq2:=kp q _ nq hq gq1
    have s1:=Heap.SameBut.update s2.heap (s.heap.push oI).objs.size (Obj.mapSeq fun _=>#[.ref a2,.int (kf 0) t2])
    obtain ⟨c2,hc2⟩:∃c2,(s2.heap.update (s.heap.push oI).objs.size (Obj.mapSeq fun _=>#[.ref a2,.int (kf 0) t2])).get? (s.heap.push oI).objs.size=some (seqObj "list" #[.ref a2,.int (kf 0) t2] c2):=⟨_,get?_update_seq gS2 fun _=>#[.ref a2,.int (kf 0) t2]⟩
    show wpAny _ X.A.in1 (updateSeq (s.heap.push oI).objs.size (fun _=>#[.ref a2,.int (kf 0) t2]) >>= _) _ _ _
    refine wpAny_bind ?_
    refine wpAny_updateSeq gS2 rfl ?_
    rw [hname]
    refine wpAny_pure ⟨plainId_quiet PySem.F.plain_min_loop _,min_loopK kf hh hlist hlI hSI hqI hqS nI nS nq RI RS hq turn hQ _ 0 0 _ a2 t2 c2 rfl hne (I2.turn (t':=s2.toks) RS fun b o nb e=>(s1.2 b nb).trans e) ((s1.2 q hqS).trans gq2) hc2 ⟨oI',(s1.2 _ hSI.symm).trans gI2,hoc,hod⟩ ha2 (Nat.le_refl _) fun j' hj'=>?_⟩
    have e:j'=0:=by omega
    subst e
    exact ⟨Int.le_refl _,fun h=>absurd h (Nat.lt_irrefl _)⟩
end
theorem SqL.butP {K:PySem.W.Frag} {H H':Hp} {P a:Addr} {xs:List V} {ps:Array Value} (h:SqL K H a xs) (hP:H P=some (.tbl ps)) (b:But P H H'):SqL K H' a xs:=by
  rcases h with (h | ⟨o,h⟩) | h
  ·exact .inl (.inl (b _ _ (ne_of h hP (by simp)) h))
  ·exact .inl (.inr ⟨o,b _ _ (ne_of h hP (by simp)) h⟩)
  ·exact .inr h
theorem SqT.butP {K:PySem.W.Frag} {H H':Hp} {P a:Addr} {xs:List V} {ps:Array Value} (h:SqT K H a xs) (hP:H P=some (.tbl ps)) (b:But P H H'):SqT K H' a xs:=by
  rcases h with (h | ⟨o,h⟩) | h
  ·exact .inl (.inl (b _ _ (ne_of h hP (by simp)) h))
  ·exact .inl (.inr ⟨o,b _ _ (ne_of h hP (by simp)) h⟩)
  ·exact .inr h
theorem TabOk.tb {pos:Pos} {qual:Str} {P:Addr} {H:Hp} (t:TabOk pos qual P H):∃ps,H P=some (.tbl ps):=by
  rcases t with t | ⟨c,t,_⟩
  ·exact ⟨_,t⟩
  ·exact ⟨_,t⟩
abbrev lamArgs (ap:Pos):Arguments:={posonlyargs:=[],args:=[{arg:= "row",annotation:=none,pos:=ap}],vararg:=none,kwonlyargs:=[],kw_defaults:=[],kwarg:=none,defaults:=[]}
abbrev lamScope:Scope:={kind:=.function,names:=[(Str.ofString "row",.local)],isGenerator:=false,isCoroutine:=false,more:=[]}
def tMinK (K:PySem.W.Frag) (pos:Pos) (qual:Str) (P:Addr) (t:TA):TE:=fun σ H Q=>t σ H fun vs H1=>ar1 vs fun x=>isRef x fun l=>TabOk pos qual P H1∧∃(as:List Addr) (kf:Nat→Int),SqL K H1 l (as.map V.ref)∧
  (∀i a,as[i]? = some a→∃r,SqT K H1 a (V.int (kf i)::r))∧(as=[]→∀H2,But P H1 H2→TabOk pos qual P H2→Q .non H2)∧
  ∀i a,as[i]? = some a→(∀j,j<as.length→kf i≤kf j∧(j<i→kf i<kf j))→∀H2,But P H1 H2→TabOk pos qual P H2→Q (.ref a) H2
section
variable {X:Cx}
theorem lam_scope:FnScope ["row"] ["row"] lamScope:=⟨rfl,rfl,rfl,by decide,rfl,by decide,by decide⟩
theorem pe_minK {K:PySem.W.Frag} {k:Nat} {c P:Addr} {e:Expr} {t:TA} {p pos lp ap np cp sp kp kp2 dp:Pos} {j j2:Nat} {qual:Str} (hK:X.K=K) (hr:Room (k+2) X.A) (hc:X.env.code = .ref c) (C:PySem.W.CodeHd X.base c P) (hb:X.base.BuiltinsAt X.mg P)
    (hg:Gl X "min") (hm:X.mg "min" = none) (ha:PA X [e] t) (hqu:X.env.qual++ "<lambda>" = qual)
    (he:starEach [e] X.env=[(false,eval e X.env)]:=by rfl) :
    PE X (.Call (.Name "min" p) [e] [⟨some "key",.Lambda (lamArgs ap) (.Subscript (.Name "row" np) (.Constant (.int 0) j cp) sp) lamScope lp,kp⟩,⟨some "default",.Constant .none j2 dp,kp2⟩] pos) (tMinK K lp qual P t):=by
  subst hK hqu
  intro pins s σ H Q I h
  refine wpAny_Call_Name_kw (ld_blt I hg hm boot_min ?_)
  refine callWith_kw (thn (ha pos pins s σ H _ I h) fun us s1 zz=>?_) (by rw [he];rfl) (by rw [he];rfl)
  obtain ⟨vs,H1,I1,r1,q1⟩:=zz
  obtain ⟨x,rfl,q2⟩:=ar1.out q1
  obtain ⟨l,e1,hT,as,kf,hl,hrow,q0,qq⟩:=isRef.out (x:=x) q2
  subst e1
  obtain ⟨u,rfl,ru⟩:=r1.one
  obtain rfl:u=Value.ref l:=ru
  refine kws_cons (PySem.W.kla_eval rfl ?_)
  refine lam_make I1 hc C hb hT rfl fun f c' pm ctv H2 s2 I2 hB hT2 hf hge hlt hnf hcq=>?_
  refine kws_cons (Constant_none (kws_nil ?_))
  show wpAny _ X.A (call (.builtin "min") [.ref l] [(Str.ofString "key",.ref f),(Str.ofString "default",.none)]) _ _ s2
  obtain ⟨ps,hP⟩:=hT.tb
  have below:∀b∈frs X.stack,b<s1.heap.objs.size:=fun b hb=>by
    obtain ⟨_,o,ho,_⟩:=I1.stack.mem hb
    exact Heap.lt_size ho
  refine min_keyN kf hr.hd I2 (hl.butP hP hB) (n:=s1.heap.objs.size) (Nat.le_trans hge (Nat.le_of_lt hlt)) hge hnf hf (fun i a hi s3 I3 hf3=>?_) (fun h0 s3 I3=>⟨.non,H2,I3,rfl,q0 h0 H2 hB hT2⟩) fun i a s3 hi hm3 I3=>⟨.ref a,H2,I3,rfl,qq i a hi hm3 H2 hB hT2⟩
  obtain ⟨r,hra⟩:=hrow i a hi
  have hra2:=hra.butP hP hB
  have run:=lam_run (Q:=fun v H'=>v = .int (kf i)∧H'=H2) (vs:=[.ref a]) (us:=[.ref a]) (N:=["row"]) (ps:=["row"]) (k:=k) hr.in1 I3.env0.in1 hf3 (I3.hok c' _ hcq).1 lam_scope rfl (.cons rfl .nil) rfl
    (pe_ix (fixQk (K:=X.K) rfl) (pv 0) pe_int (fun _ _=>rfl)) ⟨.ref a,rfl,?_⟩
  · refine wpAny_call (codeAny_mono run fun r s4 hq=>?_)
    cases r with
    | error e=>exact hq.elim
    | ok fl=>
      cases fl with
      | next=>exact False.elim hq
      | brk=>exact False.elim hq
      | cont=>exact False.elim hq
      | ret u=>
        have un:Un (frs X.stack) [] H2 H2 s3.heap s4.heap:=by
          obtain ⟨v,H',_,_,un,_,_,_,rfl⟩:=hq
          exact un
        obtain ⟨v,H',I4,rv,rfl,rfl⟩:=I3.after hq
        obtain ⟨t,rfl⟩:=rv
        exact ⟨t,rfl,I4,fun b o hn hb e=>un.keep b o e hb (fun z=>absurd (below b z) (Nat.not_lt.mpr hn)) (by simp)⟩
  ·exact ⟨V.int (kf i)::r,.inr hra2,V.int (kf i),by simp [atI,ixN],rfl,rfl⟩
@[simp ↓] theorem tMinK_w (K:PySem.W.Frag) (pos:Pos) (qual:Str) (P:Addr) (t:TA) σ H Q:tMinK K pos qual P t σ H Q=(t σ H fun vs H1=>ar1 vs fun x=>isRef x fun l=>TabOk pos qual P H1∧∃(as:List Addr) (kf:Nat→Int),SqL K H1 l (as.map V.ref)∧
  (∀i a,as[i]? = some a→∃r,SqT K H1 a (V.int (kf i)::r))∧(as=[]→∀H2,But P H1 H2→TabOk pos qual P H2→Q .non H2)∧
  ∀i a,as[i]? = some a→(∀j,j<as.length→kf i≤kf j∧(j<i→kf i<kf j))→∀H2,But P H1 H2→TabOk pos qual P H2→Q (.ref a) H2):=rfl
end
structure LamAt (fd:FuncData) (base:Heap) (mg:Str→Option Value) (c P:Addr):Prop where
  cd:fd.code = .ref c
  hd:PySem.W.CodeHd base c P
  bt:base.BuiltinsAt mg P
theorem Fun.okC {P:Program} {w:World} {K:PySem.W.Frag} {mg:Str→Option Value} {base:Heap} {x qual:Str} {st:Stmt} {f c:Addr} {fd:FuncData} {N ps:List Str} {k:Nat} {sp:Sp} (F:Fun K x qual st f fd) (hc:fd.code = .ref c) (S:FnScope N ps (defScope st)) (len:∀vs H Q E,sp vs H Q E→vs.length=ps.length)
    (hbody:∀(A:Around) (outer:List Env) (s:Shared) (H:Hp) (vs:List V) (Q:VK) (E:XK),Room k (A.deeper (envOfC qual (defScope st) s.heap.objs.size f (.ref c)))→sp vs H Q E→
      ∃t,PSs (cxOf CX0 P w K mg base N qual (defScope st) f (.ref c) A outer s H E).nox (defBody st) t∧t {nx:=fun _ H'=>Q .non H',rt:=Q} (startL N vs) H):FnOk P w K mg base CX0 (k+1) f fd ps sp:=by
  obtain ⟨oc,od,kV,doc,pm,an,cdv,ct,osl,rfl,lk,hcd⟩:=F.ex
  obtain rfl:cdv = .ref c:=hc
  refine fn_of lk hcd S len fun A outer s H vs Q E hr hsp=>?_
  obtain ⟨t,h,q⟩:=hbody A outer s H vs Q E hr hsp
  refine ⟨t,h.nox,?_⟩
  have hl:=len _ _ _ _ hsp
  have hp:ps.length≤N.length:=by have:=congrArg List.length S.pre;rw [List.length_take] at this;omega
  rw [startL_eq N vs (by omega)] at q
  exact q
def OnlyT (P:Addr) (H:Hp):Prop:=∀b,b≠P→H b=none∨∃o xs,H b=some (.frz o (.lst xs))
theorem law_callT {P:Program} {w:World} {K:PySem.W.Frag} {mg mb:Str→Option Value} {CX:CXT} {k:Nat} {fa a c Pt:Addr} {fd:FuncData} {x:Str} {sp:Sp} {s₁:Shared} {vs:List Value} {ns:List Int}
    (KX:K.In s₁.heap) (hns:s₁.heap.Ns mainGlobals mg) (hb:s₁.heap.Ns builtinsNs mb) (hbb:∀x:Str,x≠ "__name__" →mb x=bootBuiltins x) (hlim:s₁.heap.NoLimit) (hg:s₁.gens = #[])
    (ha:s₁.heap.get? a=some {cls:=.type "list",data:=.seq vs.toArray}) (hi:IntsAre vs ns) (hl:ns.length≤sizeLine) (hr:Room k callerA)
    (hC:PySem.W.CodeHd s₁.heap c Pt) (hPt:s₁.heap.get? Pt=some (PySem.W.tabObj #[])) (hKP:K.lookup Pt=none) (hBA:s₁.heap.BuiltinsAt mg Pt)
    (F:∀base:Heap,K.In base→base.Ns mainGlobals mg→PySem.W.CodeHd base c Pt→base.BuiltinsAt mg Pt→FnOk P w K mg base CX k fa fd [x] sp) (hbind:∀(s:Shared) (u:Value),BindsTo s fd ⟨[u],[]⟩ [(x,u)])
    (hsp:∀H:Hp,H Pt=some (.tbl #[])→SqL K H a (ns.map V.int)→sp [.ref a] H (fun v _=>v = .bl true) fun _ _ _=>False)
    (hCX:∀H e s',CX [] H s₁ (fun _ _ _=>False) e s'→False) :
    codeAny (model P w) callerA (.call (.ref fa) ⟨[.ref a],[]⟩) (fun r s'=>r = .ok (.ret (.bool true))∧OldK s₁.heap s'.heap∧s'.os=s₁.os∧AllBare s'.gens) s₁:=by
  have rv:=vals_ints hi
  have lenV:=hi.length
  have aP:a≠Pt:=fun z=>by rw [z,hPt] at ha;cases ha
  have core:∀H:Hp,OnlyT Pt H→H Pt=some (.tbl #[])→SqL K H a (ns.map V.int)→HOk P w H s₁.heap→(∀b,H b≠none→b=a∨b=Pt)→(H a≠none→K.lookup a=none)→
      codeAny (model P w) callerA (.call (.ref fa) ⟨[.ref a],[]⟩) (fun r s'=>r = .ok (.ret (.bool true))∧OldK s₁.heap s'.heap∧s'.os=s₁.os∧AllBare s'.gens) s₁:=by
    intro H hO hHP hS hok hA hK
    have base_of:∀{b:Addr} {o:Obj},s₁.heap.get? b=some o→H b=none→(hidT s₁.heap H).get? b=some o:=fun e n=>hidT_get e n
    have noA:∀{b:Addr} {o:Obj},s₁.heap.get? b=some o→(∀its n,o.data≠.seq its n)→o.cls≠.none→H b=none:=fun {b o} e d1 d2=>by
      cases q:H b with
      | none=>rfl
      | some u=>
        rcases hA b (by rw [q];simp) with e' | e'
        · subst e'
          rw [ha] at e;cases e
          exact absurd rfl (d1 _ _)
        · subst e'
          rw [hPt] at e;cases e
          exact absurd rfl d2
    have noD:∀{b:Addr} {o:Obj} {es:Array DictEntry} {ep:Nat},s₁.heap.get? b=some o→o.data = .dict es ep→H b=none:=fun {b o es ep} e d=>by
      cases q:H b with
      | none=>rfl
      | some u=>
        rcases hA b (by rw [q];simp) with e' | e'
        · subst e'
          rw [ha] at e;cases e
          cases d
        · subst e'
          rw [hPt] at e;cases e
          cases d
    have nsK:∀{b:Addr} {m:Str→Option Value},s₁.heap.Ns b m→(hidT s₁.heap H).Ns b m:=fun {b m} ⟨o,es,ep,e,d,r⟩=>⟨o,es,ep,base_of e (noD e d),d,r⟩
    have hKb:K.In (hidT s₁.heap H):=fun b o e=>base_of (KX b o e) (by
      cases q:H b with
      | none=>rfl
      | some u=>
        rcases hA b (by rw [q];simp) with e' | e'
        · subst e'
          rw [hK (by rw [q];simp)] at e;cases e
        · subst e'
          rw [hKP] at e;cases e)
    have hCb:PySem.W.CodeHd (hidT s₁.heap H) c Pt:=by
      obtain ⟨o,vs',file,tf,flags,tg,inF,text,tt,e1,e2,e3,r⟩:=hC
      exact ⟨o,vs',file,tf,flags,tg,inF,text,tt,base_of e1 (noA e1 (fun _ _ z=>by rw [e3] at z;cases z) (by rw [e2];simp)),e2,e3,r⟩
    have hBb:(hidT s₁.heap H).BuiltinsAt mg Pt:=by
      obtain ⟨bm,o,h1,h2,h3,h4,h5,h6,h7,h8⟩:=hBA
      exact ⟨bm,o,h1,h2,h3,h4,base_of h5 (noA h5 (fun _ _ z=>by rw [h8] at z;cases z) (by rw [h6];simp)),h6,h7,h8⟩
    have hM:Mod K mg (hidT s₁.heap H):=⟨hKb,nsK hns,⟨mb,nsK hb,hbb⟩,let ⟨mc,h1,h2⟩:=hlim;⟨mc,nsK h1,h2⟩⟩
    have e0:Env0 P w K mg (hidT s₁.heap H) callerA [] s₁ H:=⟨rfl,hM,fun b o e=>of_hidT e,Nat.le_of_eq (hidT_size _ _),trivial,fun b hb=>absurd (show b∈([]:List Addr) from hb) (by simp),hok,.of_eq hg⟩
    refine codeAny_mono ((F _ hKb (nsK hns) hCb hBb).run callerA [] s₁ H ⟨[.ref a],[]⟩ [.ref a] [.ref a] _ _ hr e0 (hbind s₁ (.ref a)) (.cons rfl .nil) (hsp H hHP hS)) fun r s' h=>?_
    cases r with
    | error e=>exact (hCX H e s' h).elim
    | ok fl=>
      cases fl with
      | next=>exact False.elim h
      | brk=>exact False.elim h
      | cont=>exact False.elim h
      | ret u=>
        obtain ⟨v,H',os,bare,un,hok',r',q⟩:=h
        have q':v = .bl true:=q
        subst q'
        obtain rfl:u=Value.bool true:=r'
        have kp:∀b o,b≠Pt→s₁.heap.get? b=some o→s'.heap.get? b=some o:=fun b o nb e=>by
          cases q:H b with
          | none=>exact un.keep b o e q (by intro z;exact absurd (show b∈([]:List Addr) from z) (by simp)) (by simp)
          | some u=>
            rcases hO b nb with z | ⟨ob,xs,z⟩
            ·rw [q] at z;cases z
            · have z2:=un.frzs b ob _ z
              obtain ⟨e1,_⟩:=hok b _ z
              obtain ⟨e2,_⟩:=hok' b _ z2
              rw [e] at e1;cases e1
              exact e2
        obtain ⟨more,hm⟩:=un.tbls Pt _ hHP
        have gP:s'.heap.get? Pt=some (PySem.W.tabObj (#[]++more)):=hok' Pt _ hm
        refine ⟨rfl,⟨fun b o e=>?_,fun b o e=>?_⟩,os,bare⟩
        · by_cases nb:b=Pt
          · subst nb
            rw [hPt] at e
            cases e
            exact .inr (.inl ⟨(hC.tab hPt).isCodeTable,rfl,#[],more,rfl,gP⟩)
          ·exact .inl (kp b o nb e)
        · by_cases nb:b=Pt
          ·exact ⟨_,by rw [nb];exact gP⟩
          ·exact ⟨o,kp b o nb e⟩
  cases hk:K.lookup a with
  | some o=>
    have e:=KX a o hk
    rw [ha] at e
    cases e
    refine core (fun b=>if b=Pt then some (.tbl #[]) else none) (fun b nb=>.inl (if_neg nb)) (if_pos rfl) (.inr ⟨_,vs.toArray,_,hk,rfl,rfl,rfl,by rw [List.size_toArray,lenV];exact hl,by simpa using rv⟩) (fun b u z=>?_) (fun b z=>?_) fun z=>absurd (if_neg aP) z
    · by_cases hb:b=Pt
      · have z':=(if_pos hb).symm.trans z
        cases z'
        subst hb
        exact hPt
      · have z':=(if_neg hb).symm.trans z
        cases z'
    · by_cases hb:b=Pt
      ·exact .inr hb
      ·exact absurd (if_neg hb) z
  | none=>
    refine core (fun b=>if b=Pt then some (.tbl #[]) else if b=a then some (.frz {cls:=.type "list",data:=.seq vs.toArray} (.lst (ns.map V.int))) else none) (fun b nb=>?_) (if_pos rfl)
      (.inl (.inr ⟨{cls:=.type "list",data:=.seq vs.toArray},(if_neg aP).trans (if_pos rfl)⟩)) (fun b u z=>?_) (fun b z=>?_) fun _=>hk
    · by_cases hb:b=a
      ·exact .inr ⟨_,_,(if_neg nb).trans (if_pos hb)⟩
      ·exact .inl ((if_neg nb).trans (if_neg hb))
    · by_cases hp:b=Pt
      · have z':=(if_pos hp).symm.trans z
        cases z'
        subst hp
        exact hPt
      · by_cases hb:b=a
        · have z':=((if_neg hp).trans (if_pos hb)).symm.trans z
          cases z'
          subst hb
          exact ⟨ha,by rw [List.length_map];exact hl,vs,_,rv,ha⟩
        · have z':=((if_neg hp).trans (if_neg hb)).symm.trans z
          cases z'
    · by_cases hp:b=Pt
      ·exact .inr hp
      · by_cases hb:b=a
        ·exact .inl hb
        ·exact absurd ((if_neg hp).trans (if_neg hb)) z
theorem walk_ofT {l:PySem.W.OpenLaw} {n k:Nat} {q:Program} {loose:List Str} {XP:(Str→Option Value)→Heap→Prop} {YP:World→Heap→Prop} {d dt:DefRec} {K:Params→PySem.W.Frag} {CX:World→CXT} {sp:World→Sp} {x xt:Str} {c Pt:Addr}
    (hn:l.most=some n) (hn2:n≤sizeLine) (hdf:d.params.defaults=[]) (hr:Room k callerA)
    (hY:∀(w:World) (h:Heap),YP w h→(K w.params).In h)
    (hrec:(recsOf q).find? (fun e=>e.name == xt)=some dt) (htab:∀w:World,PySem.W.tabIn (K w.params) xt=some (c,Pt)) (hnt:∀w:World,PySem.W.noTabs (K w.params)=true)
    (F:∀(w:World) (mg:Str→Option Value) (fa:Addr) (h:Heap),(K w.params).In h→h.Ns mainGlobals mg→mg d.name=some (.ref fa)→
      ∃fd:FuncData,(∀(s:Shared) (u:Value),BindsTo s fd ⟨[u],[]⟩ [(x,u)])∧
        ∀base:Heap,(K w.params).In base→base.Ns mainGlobals mg→PySem.W.CodeHd base c Pt→base.BuiltinsAt mg Pt→FnOk l.prog w (K w.params) mg base (CX w) k fa fd [x] (sp w))
    (hsp:∀(w:World) (H:Hp) (a:Addr) (ns:List Int),ns.length≤n→H Pt=some (.tbl #[])→SqL (K w.params) H a (ns.map V.int)→sp w [.ref a] H (fun v _=>v = .bl true) fun _ _ _=>False)
    (hCX:∀(w:World) (H:Hp) (s:Shared) (e:Value) (s':Shared),CX w [] H s (fun _ _ _=>False) e s'→False) :
    PySem.W.WalkO q loose XP YP l.row.toRowW d [] (fun f vs=>PySem.call f vs):=by
  refine Att.attach_call hn hdf fun w s₀ s₁ mg mb fa o pm cd doc a vs ns G Y ho hd hcd hmg hobj hints hlen hg=>?_
  have KX:=hY w _ Y
  obtain ⟨fd,hb,hF⟩:=F w mg fa _ KX G.T.g hmg
  obtain ⟨hC,hPt⟩:=PySem.W.tab_of G.T KX hrec (htab w)
  have hKP:(K w.params).lookup Pt=none:=by
    cases e:(K w.params).lookup Pt with
    | none=>rfl
    | some ob=>
      have e1:=KX _ _ e
      rw [hPt] at e1
      cases e1
      have h2:=List.all_eq_true.mp (hnt w) _ (PySem.W.mem_of_lookupK e)
      exact absurd (show false=true from h2) Bool.false_ne_true
  have hBA:s₁.heap.BuiltinsAt mg Pt:=by
    obtain ⟨bm,ob,b1,b2,b3,b4,b5,b6⟩:=G.T.bmain
    refine ⟨bm,ob,b1,b2,fun q=>?_,fun q=>?_,b3,b4,b5,b6⟩
    · obtain ⟨o',es,ep,e,hd',_⟩:=G.T.g
      rw [q,e] at b3;cases b3;rw [hd'] at b6;cases b6
    ·rw [q,hPt] at b3;cases b3;cases b4
  exact law_callT KX G.T.g G.T.b G.T.builtins G.T.nolimit hg hobj hints (Nat.le_trans hlen hn2) hr hC hPt hKP hBA hF hb (fun H hO hS=>hsp w H a ns hlen hO hS) fun H e s'=>hCX w H s₁ e s'
theorem tabIn_of {K:PySem.W.Frag} {x:Str} {f c P:Addr} {oc oc':Value} {od od':Option Addr} {sl sl':Array (Option Value)} {fd:FuncData} {vs:Array Value} (a:PySem.W.nsIn K mainGlobals x=some (some (.ref f))) (l:K.lookup f=some ⟨oc,od,.func fd,sl⟩)
    (e:fd.code = .ref c) (k:K.lookup c=some ⟨oc',od',.fields vs,sl'⟩) (v:vs[11]? = some (.ref P)):PySem.W.tabIn K x=some (c,P):=by
  unfold PySem.W.tabIn
  rw [a]
  dsimp only
  rw [l]
  dsimp only
  rw [e]
  dsimp only
  rw [k]
  dsimp only
  rw [v]
end L2
namespace K74
open PySem L2
def top (i:Nat):Stmt:=PySem.Challenge.pw_pointways_k74_whole_times_by_ways.main.body.getD i (.Pass ⟨0,0,0,0⟩)
abbrev s_steps_along:Stmt:=top 1
abbrev s_ways_along:Stmt:=top 2
abbrev s_found_along:Stmt:=top 3
abbrev s_is_list:Stmt:=top 15
abbrev s_is_whole:Stmt:=top 16
abbrev s_is_name:Stmt:=top 17
abbrev s_are_points:Stmt:=top 18
abbrev s_is_tie:Stmt:=top 19
abbrev s_are_ties:Stmt:=top 20
abbrev s_Web_init:Stmt:=inClass (top 21) 0
abbrev s_Web_points:Stmt:=inClass (top 21) 1
abbrev s_Web_ties:Stmt:=inClass (top 21) 2
abbrev s_Web_many:Stmt:=inClass (top 21) 3
abbrev s_is_point:Stmt:=top 22
abbrev s_is_number:Stmt:=top 23
abbrev s_are_numbers:Stmt:=top 24
abbrev s_is_lead:Stmt:=top 26
abbrev s_is_pointing:Stmt:=top 27
abbrev s_sure_of_pointing:Stmt:=top 28
abbrev s_arrows:Stmt:=top 29
abbrev s_unlike_steps:Stmt:=top 30
abbrev s_steps_into:Stmt:=top 31
abbrev s_turned:Stmt:=top 32
abbrev s_sure_of_point:Stmt:=top 34
abbrev s_way:Stmt:=top 35
abbrev s_reached:Stmt:=top 36
abbrev s_sure_of_two_points:Stmt:=top 38
abbrev s_turned_till_none_leads:Stmt:=top 39
abbrev s_ways_taken:Stmt:=top 40
abbrev s_ways_apart:Stmt:=top 41
abbrev s_all_parts:Stmt:=top 43
abbrev s_all_lots:Stmt:=top 44
abbrev s_times_over:Stmt:=top 46
abbrev s_pot:Stmt:=top 48
abbrev s_take:Stmt:=top 49
abbrev s_names:Stmt:=top 50
abbrev s_mixed:Stmt:=top 51
abbrev s_tie:Stmt:=top 52
abbrev s_web:Stmt:=top 53
abbrev s_drawn:Stmt:=top 54
abbrev s_many:Stmt:=top 55
abbrev s_right:Stmt:=top 56
abbrev s_law:Stmt:=top 57
theorem sc_steps_along:FnScope ["web", "fixed", "steps", "number", "first", "second"] ["web", "fixed"] (defScope s_steps_along):=⟨rfl,rfl,rfl,by decide +kernel,rfl,by decide +kernel,by decide +kernel⟩
theorem sc_ways_along:FnScope ["start", "steps", "ways", "row", "at", "here", "number", "origin", "goal"] ["start", "steps"] (defScope s_ways_along):=⟨rfl,rfl,rfl,by decide +kernel,rfl,by decide +kernel,by decide +kernel⟩
theorem sc_found_along:FnScope ["web", "start", "steps", "ways"] ["web", "start", "steps"] (defScope s_found_along):=⟨rfl,rfl,rfl,by decide +kernel,rfl,by decide +kernel,by decide +kernel⟩
theorem sc_is_list:FnScope ["thing"] ["thing"] (defScope s_is_list):=⟨rfl,rfl,rfl,by decide +kernel,rfl,by decide +kernel,by decide +kernel⟩
theorem sc_is_whole:FnScope ["thing"] ["thing"] (defScope s_is_whole):=⟨rfl,rfl,rfl,by decide +kernel,rfl,by decide +kernel,by decide +kernel⟩
theorem sc_is_name:FnScope ["thing"] ["thing"] (defScope s_is_name):=⟨rfl,rfl,rfl,by decide +kernel,rfl,by decide +kernel,by decide +kernel⟩
theorem sc_are_points:FnScope ["thing"] ["thing"] (defScope s_are_points):=⟨rfl,rfl,rfl,by decide +kernel,rfl,by decide +kernel,by decide +kernel⟩
theorem sc_is_tie:FnScope ["thing", "points"] ["thing", "points"] (defScope s_is_tie):=⟨rfl,rfl,rfl,by decide +kernel,rfl,by decide +kernel,by decide +kernel⟩
theorem sc_are_ties:FnScope ["thing", "points"] ["thing", "points"] (defScope s_are_ties):=⟨rfl,rfl,rfl,by decide +kernel,rfl,by decide +kernel,by decide +kernel⟩
theorem sc_Web_init:FnScope ["self", "points", "ties"] ["self", "points", "ties"] (defScope s_Web_init):=⟨rfl,rfl,rfl,by decide +kernel,rfl,by decide +kernel,by decide +kernel⟩
theorem sc_Web_points:FnScope ["self"] ["self"] (defScope s_Web_points):=⟨rfl,rfl,rfl,by decide +kernel,rfl,by decide +kernel,by decide +kernel⟩
theorem sc_Web_ties:FnScope ["self"] ["self"] (defScope s_Web_ties):=⟨rfl,rfl,rfl,by decide +kernel,rfl,by decide +kernel,by decide +kernel⟩
theorem sc_Web_many:FnScope ["self"] ["self"] (defScope s_Web_many):=⟨rfl,rfl,rfl,by decide +kernel,rfl,by decide +kernel,by decide +kernel⟩
theorem sc_is_point:FnScope ["web", "thing"] ["web", "thing"] (defScope s_is_point):=⟨rfl,rfl,rfl,by decide +kernel,rfl,by decide +kernel,by decide +kernel⟩
theorem sc_is_number:FnScope ["web", "thing"] ["web", "thing"] (defScope s_is_number):=⟨rfl,rfl,rfl,by decide +kernel,rfl,by decide +kernel,by decide +kernel⟩
theorem sc_are_numbers:FnScope ["web", "thing"] ["web", "thing"] (defScope s_are_numbers):=⟨rfl,rfl,rfl,by decide +kernel,rfl,by decide +kernel,by decide +kernel⟩
theorem sc_is_lead:FnScope ["thing"] ["thing"] (defScope s_is_lead):=⟨rfl,rfl,rfl,by decide +kernel,rfl,by decide +kernel,by decide +kernel⟩
theorem sc_is_pointing:FnScope ["web", "thing"] ["web", "thing"] (defScope s_is_pointing):=⟨rfl,rfl,rfl,by decide +kernel,rfl,by decide +kernel,by decide +kernel⟩
theorem sc_sure_of_pointing:FnScope ["web", "thing"] ["web", "thing"] (defScope s_sure_of_pointing):=⟨rfl,rfl,rfl,by decide +kernel,rfl,by decide +kernel,by decide +kernel⟩
theorem sc_arrows:FnScope ["web", "pointing"] ["web", "pointing"] (defScope s_arrows):=⟨rfl,rfl,rfl,by decide +kernel,rfl,by decide +kernel,by decide +kernel⟩
theorem sc_unlike_steps:FnScope ["web", "one", "other"] ["web", "one", "other"] (defScope s_unlike_steps):=⟨rfl,rfl,rfl,by decide +kernel,rfl,by decide +kernel,by decide +kernel⟩
theorem sc_steps_into:FnScope ["steps", "lot"] ["steps", "lot"] (defScope s_steps_into):=⟨rfl,rfl,rfl,by decide +kernel,rfl,by decide +kernel,by decide +kernel⟩
theorem sc_turned:FnScope ["web", "pointing", "numbers"] ["web", "pointing", "numbers"] (defScope s_turned):=⟨rfl,rfl,rfl,by decide +kernel,rfl,by decide +kernel,by decide +kernel⟩
theorem sc_sure_of_point:FnScope ["web", "thing"] ["web", "thing"] (defScope s_sure_of_point):=⟨rfl,rfl,rfl,by decide +kernel,rfl,by decide +kernel,by decide +kernel⟩
theorem sc_way:FnScope ["web", "pointing", "a", "b", "steps"] ["web", "pointing", "a", "b"] (defScope s_way):=⟨rfl,rfl,rfl,by decide +kernel,rfl,by decide +kernel,by decide +kernel⟩
theorem sc_reached:FnScope ["web", "pointing", "point", "steps"] ["web", "pointing", "point"] (defScope s_reached):=⟨rfl,rfl,rfl,by decide +kernel,rfl,by decide +kernel,by decide +kernel⟩
theorem sc_sure_of_two_points:FnScope ["web", "a", "b"] ["web", "a", "b"] (defScope s_sure_of_two_points):=⟨rfl,rfl,rfl,by decide +kernel,rfl,by decide +kernel,by decide +kernel⟩
theorem sc_turned_till_none_leads:FnScope ["web", "pointing", "a", "b", "left", "numbers"] ["web", "pointing", "a", "b"] (defScope s_turned_till_none_leads):=⟨rfl,rfl,rfl,by decide +kernel,rfl,by decide +kernel,by decide +kernel⟩
theorem sc_ways_taken:FnScope ["steps", "a", "b", "left", "told", "numbers"] ["steps", "a", "b"] (defScope s_ways_taken):=⟨rfl,rfl,rfl,by decide +kernel,rfl,by decide +kernel,by decide +kernel⟩
theorem sc_ways_apart:FnScope ["web", "pointing", "a", "b", "left", "found", "lot"] ["web", "pointing", "a", "b"] (defScope s_ways_apart):=⟨rfl,rfl,rfl,by decide +kernel,rfl,by decide +kernel,by decide +kernel⟩
theorem sc_all_parts:FnScope ["points", "parts", "point"] ["points"] (defScope s_all_parts):=⟨rfl,rfl,rfl,by decide +kernel,rfl,by decide +kernel,by decide +kernel⟩
theorem sc_all_lots:FnScope ["web"] ["web"] (defScope s_all_lots):=⟨rfl,rfl,rfl,by decide +kernel,rfl,by decide +kernel,by decide +kernel⟩
theorem sc_times_over:FnScope ["web", "pointing", "steps", "counted"] ["web", "pointing"] (defScope s_times_over):=⟨rfl,rfl,rfl,by decide +kernel,rfl,by decide +kernel,by decide +kernel⟩
theorem sc_pot:FnScope ["_law_script", "_law_k", "_law_cell"] ["_law_script", "_law_k"] (defScope s_pot):=⟨rfl,rfl,rfl,by decide +kernel,rfl,by decide +kernel,by decide +kernel⟩
theorem sc_take:FnScope ["_law_pot_here", "_law_many_here", "_law_digit"] ["_law_pot_here", "_law_many_here"] (defScope s_take):=⟨rfl,rfl,rfl,by decide +kernel,rfl,by decide +kernel,by decide +kernel⟩
theorem sc_names:FnScope ["_law_pot_here", "_law_many_here", "_law_letters", "_law_begin", "_law_found", "_law_k", "_law_size", "_law_more"] ["_law_pot_here", "_law_many_here"] (defScope s_names):=⟨rfl,rfl,rfl,by decide +kernel,rfl,by decide +kernel,by decide +kernel⟩
theorem sc_mixed:FnScope ["_law_pot_here", "_law_things", "_law_found", "_law_thing"] ["_law_pot_here", "_law_things"] (defScope s_mixed):=⟨rfl,rfl,rfl,by decide +kernel,rfl,by decide +kernel,by decide +kernel⟩
theorem sc_tie:FnScope ["_law_pot_here", "_law_names_here", "_law_a", "_law_b"] ["_law_pot_here", "_law_names_here"] (defScope s_tie):=⟨rfl,rfl,rfl,by decide +kernel,rfl,by decide +kernel,by decide +kernel⟩
theorem sc_web:FnScope ["_law_pot_here", "_law_points", "_law_most", "_law_names_here", "_law_kind", "_law_ties", "_law_row", "_law_k", "_law_turns"] ["_law_pot_here", "_law_points", "_law_most"] (defScope s_web):=⟨rfl,rfl,rfl,by decide +kernel,rfl,by decide +kernel,by decide +kernel⟩
theorem sc_drawn:FnScope ["_law_pot_here", "_law_web_here", "_law_order", "_law_sort", "_law_row"] ["_law_pot_here", "_law_web_here"] (defScope s_drawn):=⟨rfl,rfl,rfl,by decide +kernel,rfl,by decide +kernel,by decide +kernel⟩
theorem sc_many:FnScope ["_law_made", "_law_row", "_law_a", "_law_b"] ["_law_made", "_law_row", "_law_a", "_law_b"] (defScope s_many):=⟨rfl,rfl,rfl,by decide +kernel,rfl,by decide +kernel,by decide +kernel⟩
theorem sc_right:FnScope ["_law_web_here", "_law_row", "_law_a", "_law_b", "_law_made", "_law_first", "_law_there", "_law_back", "_law_found", "_law_behind"] ["_law_web_here", "_law_row", "_law_a", "_law_b"] (defScope s_right):=⟨rfl,rfl,rfl,by decide +kernel,rfl,by decide +kernel,by decide +kernel⟩
theorem sc_law:FnScope ["_law_script", "_law_k", "_law_pot_here", "_law_web_here", "_law_row", "_law_a", "_law_b"] ["_law_script"] (defScope s_law):=⟨rfl,rfl,rfl,by decide +kernel,rfl,by decide +kernel,by decide +kernel⟩
set_option genInjectivity false in
structure Adr where
  f_steps_along:Addr
  fd_steps_along:FuncData
  f_ways_along:Addr
  fd_ways_along:FuncData
  f_found_along:Addr
  fd_found_along:FuncData
  f_is_list:Addr
  fd_is_list:FuncData
  f_is_whole:Addr
  fd_is_whole:FuncData
  f_is_name:Addr
  fd_is_name:FuncData
  f_are_points:Addr
  fd_are_points:FuncData
  f_is_tie:Addr
  fd_is_tie:FuncData
  f_are_ties:Addr
  fd_are_ties:FuncData
  f_Web_init:Addr
  fd_Web_init:FuncData
  f_Web_points:Addr
  fd_Web_points:FuncData
  f_Web_ties:Addr
  fd_Web_ties:FuncData
  f_Web_many:Addr
  fd_Web_many:FuncData
  f_is_point:Addr
  fd_is_point:FuncData
  f_is_number:Addr
  fd_is_number:FuncData
  f_are_numbers:Addr
  fd_are_numbers:FuncData
  f_is_lead:Addr
  fd_is_lead:FuncData
  f_is_pointing:Addr
  fd_is_pointing:FuncData
  f_sure_of_pointing:Addr
  fd_sure_of_pointing:FuncData
  f_arrows:Addr
  fd_arrows:FuncData
  f_unlike_steps:Addr
  fd_unlike_steps:FuncData
  f_steps_into:Addr
  fd_steps_into:FuncData
  f_turned:Addr
  fd_turned:FuncData
  f_sure_of_point:Addr
  fd_sure_of_point:FuncData
  f_way:Addr
  fd_way:FuncData
  f_reached:Addr
  fd_reached:FuncData
  f_sure_of_two_points:Addr
  fd_sure_of_two_points:FuncData
  f_turned_till_none_leads:Addr
  fd_turned_till_none_leads:FuncData
  f_ways_taken:Addr
  fd_ways_taken:FuncData
  f_ways_apart:Addr
  fd_ways_apart:FuncData
  f_all_parts:Addr
  fd_all_parts:FuncData
  f_all_lots:Addr
  fd_all_lots:FuncData
  f_times_over:Addr
  fd_times_over:FuncData
  f_pot:Addr
  fd_pot:FuncData
  f_take:Addr
  fd_take:FuncData
  f_names:Addr
  fd_names:FuncData
  f_mixed:Addr
  fd_mixed:FuncData
  f_tie:Addr
  fd_tie:FuncData
  f_web:Addr
  fd_web:FuncData
  f_drawn:Addr
  fd_drawn:FuncData
  f_many:Addr
  fd_many:FuncData
  f_right:Addr
  fd_right:FuncData
  f_law:Addr
  fd_law:FuncData
  u_LETTERS:Value
  u_MOST_LETTERS:Value
  u_MOST_POINTS:Value
  u_MOST_TIES:Value
  C_Web:Addr
structure Txt (K:PySem.W.Frag) (mg:Str→Option Value) (a:Adr):Prop where
  F_steps_along:Fun K "steps_along" "steps_along" s_steps_along a.f_steps_along a.fd_steps_along
  b_steps_along:Binds K a.fd_steps_along ["web", "fixed"] []
  m_steps_along:mg "steps_along" = some (.ref a.f_steps_along)
  F_ways_along:Fun K "ways_along" "ways_along" s_ways_along a.f_ways_along a.fd_ways_along
  b_ways_along:Binds K a.fd_ways_along ["start", "steps"] []
  m_ways_along:mg "ways_along" = some (.ref a.f_ways_along)
  F_found_along:Fun K "found_along" "found_along" s_found_along a.f_found_along a.fd_found_along
  b_found_along:Binds K a.fd_found_along ["web", "start", "steps"] []
  m_found_along:mg "found_along" = some (.ref a.f_found_along)
  F_is_list:Fun K "is_list" "is_list" s_is_list a.f_is_list a.fd_is_list
  b_is_list:Binds K a.fd_is_list ["thing"] []
  m_is_list:mg "is_list" = some (.ref a.f_is_list)
  F_is_whole:Fun K "is_whole" "is_whole" s_is_whole a.f_is_whole a.fd_is_whole
  b_is_whole:Binds K a.fd_is_whole ["thing"] []
  m_is_whole:mg "is_whole" = some (.ref a.f_is_whole)
  F_is_name:Fun K "is_name" "is_name" s_is_name a.f_is_name a.fd_is_name
  b_is_name:Binds K a.fd_is_name ["thing"] []
  m_is_name:mg "is_name" = some (.ref a.f_is_name)
  F_are_points:Fun K "are_points" "are_points" s_are_points a.f_are_points a.fd_are_points
  b_are_points:Binds K a.fd_are_points ["thing"] []
  m_are_points:mg "are_points" = some (.ref a.f_are_points)
  F_is_tie:Fun K "is_tie" "is_tie" s_is_tie a.f_is_tie a.fd_is_tie
  b_is_tie:Binds K a.fd_is_tie ["thing", "points"] []
  m_is_tie:mg "is_tie" = some (.ref a.f_is_tie)
  F_are_ties:Fun K "are_ties" "are_ties" s_are_ties a.f_are_ties a.fd_are_ties
  b_are_ties:Binds K a.fd_are_ties ["thing", "points"] []
  m_are_ties:mg "are_ties" = some (.ref a.f_are_ties)
  F_Web_init:Fun K "__init__" "Web.__init__" s_Web_init a.f_Web_init a.fd_Web_init
  b_Web_init:Binds K a.fd_Web_init ["self", "points", "ties"] []
  F_Web_points:Fun K "points" "Web.points" s_Web_points a.f_Web_points a.fd_Web_points
  b_Web_points:Binds K a.fd_Web_points ["self"] []
  F_Web_ties:Fun K "ties" "Web.ties" s_Web_ties a.f_Web_ties a.fd_Web_ties
  b_Web_ties:Binds K a.fd_Web_ties ["self"] []
  F_Web_many:Fun K "many" "Web.many" s_Web_many a.f_Web_many a.fd_Web_many
  b_Web_many:Binds K a.fd_Web_many ["self"] []
  F_is_point:Fun K "is_point" "is_point" s_is_point a.f_is_point a.fd_is_point
  b_is_point:Binds K a.fd_is_point ["web", "thing"] []
  m_is_point:mg "is_point" = some (.ref a.f_is_point)
  F_is_number:Fun K "is_number" "is_number" s_is_number a.f_is_number a.fd_is_number
  b_is_number:Binds K a.fd_is_number ["web", "thing"] []
  m_is_number:mg "is_number" = some (.ref a.f_is_number)
  F_are_numbers:Fun K "are_numbers" "are_numbers" s_are_numbers a.f_are_numbers a.fd_are_numbers
  b_are_numbers:Binds K a.fd_are_numbers ["web", "thing"] []
  m_are_numbers:mg "are_numbers" = some (.ref a.f_are_numbers)
  F_is_lead:Fun K "is_lead" "is_lead" s_is_lead a.f_is_lead a.fd_is_lead
  b_is_lead:Binds K a.fd_is_lead ["thing"] []
  m_is_lead:mg "is_lead" = some (.ref a.f_is_lead)
  F_is_pointing:Fun K "is_pointing" "is_pointing" s_is_pointing a.f_is_pointing a.fd_is_pointing
  b_is_pointing:Binds K a.fd_is_pointing ["web", "thing"] []
  m_is_pointing:mg "is_pointing" = some (.ref a.f_is_pointing)
  F_sure_of_pointing:Fun K "sure_of_pointing" "sure_of_pointing" s_sure_of_pointing a.f_sure_of_pointing a.fd_sure_of_pointing
  b_sure_of_pointing:Binds K a.fd_sure_of_pointing ["web", "thing"] []
  m_sure_of_pointing:mg "sure_of_pointing" = some (.ref a.f_sure_of_pointing)
  F_arrows:Fun K "arrows" "arrows" s_arrows a.f_arrows a.fd_arrows
  b_arrows:Binds K a.fd_arrows ["web", "pointing"] []
  m_arrows:mg "arrows" = some (.ref a.f_arrows)
  F_unlike_steps:Fun K "unlike_steps" "unlike_steps" s_unlike_steps a.f_unlike_steps a.fd_unlike_steps
  b_unlike_steps:Binds K a.fd_unlike_steps ["web", "one", "other"] []
  m_unlike_steps:mg "unlike_steps" = some (.ref a.f_unlike_steps)
  F_steps_into:Fun K "steps_into" "steps_into" s_steps_into a.f_steps_into a.fd_steps_into
  b_steps_into:Binds K a.fd_steps_into ["steps", "lot"] []
  m_steps_into:mg "steps_into" = some (.ref a.f_steps_into)
  F_turned:Fun K "turned" "turned" s_turned a.f_turned a.fd_turned
  b_turned:Binds K a.fd_turned ["web", "pointing", "numbers"] []
  m_turned:mg "turned" = some (.ref a.f_turned)
  F_sure_of_point:Fun K "sure_of_point" "sure_of_point" s_sure_of_point a.f_sure_of_point a.fd_sure_of_point
  b_sure_of_point:Binds K a.fd_sure_of_point ["web", "thing"] []
  m_sure_of_point:mg "sure_of_point" = some (.ref a.f_sure_of_point)
  F_way:Fun K "way" "way" s_way a.f_way a.fd_way
  b_way:Binds K a.fd_way ["web", "pointing", "a", "b"] []
  m_way:mg "way" = some (.ref a.f_way)
  F_reached:Fun K "reached" "reached" s_reached a.f_reached a.fd_reached
  b_reached:Binds K a.fd_reached ["web", "pointing", "point"] []
  m_reached:mg "reached" = some (.ref a.f_reached)
  F_sure_of_two_points:Fun K "sure_of_two_points" "sure_of_two_points" s_sure_of_two_points a.f_sure_of_two_points a.fd_sure_of_two_points
  b_sure_of_two_points:Binds K a.fd_sure_of_two_points ["web", "a", "b"] []
  m_sure_of_two_points:mg "sure_of_two_points" = some (.ref a.f_sure_of_two_points)
  F_turned_till_none_leads:Fun K "turned_till_none_leads" "turned_till_none_leads" s_turned_till_none_leads a.f_turned_till_none_leads a.fd_turned_till_none_leads
  b_turned_till_none_leads:Binds K a.fd_turned_till_none_leads ["web", "pointing", "a", "b"] []
  m_turned_till_none_leads:mg "turned_till_none_leads" = some (.ref a.f_turned_till_none_leads)
  F_ways_taken:Fun K "ways_taken" "ways_taken" s_ways_taken a.f_ways_taken a.fd_ways_taken
  b_ways_taken:Binds K a.fd_ways_taken ["steps", "a", "b"] []
  m_ways_taken:mg "ways_taken" = some (.ref a.f_ways_taken)
  F_ways_apart:Fun K "ways_apart" "ways_apart" s_ways_apart a.f_ways_apart a.fd_ways_apart
  b_ways_apart:Binds K a.fd_ways_apart ["web", "pointing", "a", "b"] []
  m_ways_apart:mg "ways_apart" = some (.ref a.f_ways_apart)
  F_all_parts:Fun K "all_parts" "all_parts" s_all_parts a.f_all_parts a.fd_all_parts
  b_all_parts:Binds K a.fd_all_parts ["points"] []
  m_all_parts:mg "all_parts" = some (.ref a.f_all_parts)
  F_all_lots:Fun K "all_lots" "all_lots" s_all_lots a.f_all_lots a.fd_all_lots
  b_all_lots:Binds K a.fd_all_lots ["web"] []
  m_all_lots:mg "all_lots" = some (.ref a.f_all_lots)
  F_times_over:Fun K "times_over" "times_over" s_times_over a.f_times_over a.fd_times_over
  b_times_over:Binds K a.fd_times_over ["web", "pointing"] []
  m_times_over:mg "times_over" = some (.ref a.f_times_over)
  F_pot:Fun K "_law_pot" "_law_pot" s_pot a.f_pot a.fd_pot
  b_pot:Binds K a.fd_pot ["_law_script", "_law_k"] []
  m_pot:mg "_law_pot" = some (.ref a.f_pot)
  F_take:Fun K "_law_take" "_law_take" s_take a.f_take a.fd_take
  b_take:Binds K a.fd_take ["_law_pot_here", "_law_many_here"] []
  m_take:mg "_law_take" = some (.ref a.f_take)
  F_names:Fun K "_law_names" "_law_names" s_names a.f_names a.fd_names
  b_names:Binds K a.fd_names ["_law_pot_here", "_law_many_here"] []
  m_names:mg "_law_names" = some (.ref a.f_names)
  F_mixed:Fun K "_law_mixed" "_law_mixed" s_mixed a.f_mixed a.fd_mixed
  b_mixed:Binds K a.fd_mixed ["_law_pot_here", "_law_things"] []
  m_mixed:mg "_law_mixed" = some (.ref a.f_mixed)
  F_tie:Fun K "_law_tie" "_law_tie" s_tie a.f_tie a.fd_tie
  b_tie:Binds K a.fd_tie ["_law_pot_here", "_law_names_here"] []
  m_tie:mg "_law_tie" = some (.ref a.f_tie)
  F_web:Fun K "_law_web" "_law_web" s_web a.f_web a.fd_web
  b_web:Binds K a.fd_web ["_law_pot_here", "_law_points", "_law_most"] []
  m_web:mg "_law_web" = some (.ref a.f_web)
  F_drawn:Fun K "_law_drawn" "_law_drawn" s_drawn a.f_drawn a.fd_drawn
  b_drawn:Binds K a.fd_drawn ["_law_pot_here", "_law_web_here"] []
  m_drawn:mg "_law_drawn" = some (.ref a.f_drawn)
  F_many:Fun K "_law_many" "_law_many" s_many a.f_many a.fd_many
  b_many:Binds K a.fd_many ["_law_made", "_law_row", "_law_a", "_law_b"] []
  m_many:mg "_law_many" = some (.ref a.f_many)
  F_right:Fun K "_law_right" "_law_right" s_right a.f_right a.fd_right
  b_right:Binds K a.fd_right ["_law_web_here", "_law_row", "_law_a", "_law_b"] []
  m_right:mg "_law_right" = some (.ref a.f_right)
  F_law:Fun K "law" "law" s_law a.f_law a.fd_law
  b_law:Binds K a.fd_law ["_law_script"] []
  m_law:mg "law" = some (.ref a.f_law)
  h_LETTERS:mg "LETTERS" = some a.u_LETTERS
  r_LETTERS:RelV (.str "abcdefghijklmnopqrstuvwxyz") a.u_LETTERS
  h_MOST_LETTERS:mg "MOST_LETTERS" = some a.u_MOST_LETTERS
  r_MOST_LETTERS:RelV (.int 4) a.u_MOST_LETTERS
  h_MOST_POINTS:mg "MOST_POINTS" = some a.u_MOST_POINTS
  r_MOST_POINTS:RelV (.int 9) a.u_MOST_POINTS
  h_MOST_TIES:mg "MOST_TIES" = some a.u_MOST_TIES
  r_MOST_TIES:RelV (.int 20) a.u_MOST_TIES
  m_Web:mg "Web" = some (.ref a.C_Web)
  c_Web:Cls K a.C_Web
  n_names:NoAttr K a.C_Web "names"
  n_pairs:NoAttr K a.C_Web "pairs"
  K_Web:Mk K a.C_Web a.f_Web_init
  M_Web_points:Meth K a.C_Web "points" a.f_Web_points
  M_Web_ties:Meth K a.C_Web "ties" a.f_Web_ties
  M_Web_many:Meth K a.C_Web "many" a.f_Web_many
  nm:Nm mg
  nm2:Nm2 mg
  nm3:Nm3 mg
end K74
namespace K74
open PySem L2
variable {P:Program} {w:World} {K:PySem.W.Frag} {mg:Str→Option Value} {base:Heap} {a:Adr}
def Pot (H:Hp) (p:Addr):Prop:=∃x y:Int,H p=some (.lst [.int x,.int y])∧0≤x∧0≤y∧y<4294967296
def sp_pot (K:PySem.W.Frag):Sp:=fun vs H Q _=>∃(l:Addr) (ns:List Int) (k:Nat),vs=[.ref l,.int k]∧SqL K H l (ns.map V.int)∧k<100∧∀p H',H p=none→Pot H' p→But p H H'→Q (.ref p) H'
def sp_take:Sp:=fun vs H Q _=>∃(p:Addr) (m:Int),vs=[.ref p,.int m]∧Pot H p∧0<m∧m<1000000∧∀(d:Int) H',0≤d→d<m→Pot H' p→But p H H'→Q (.int d) H'
theorem ok_pot (T:Txt K mg a):FnOk P w K mg base CX0 1 a.f_pot a.fd_pot ["_law_script", "_law_k"] (sp_pot K):=by
  refine T.F_pot.okL sc_pot (fun vs H Q E h=>?_) (fun cdv A outer s H vs Q E hr h=>?_)
  · obtain ⟨l,ns,k,rfl,_⟩:=h
    rfl
  · obtain ⟨l,ns,k,rfl,hS,hk,q⟩:=h
    refine ⟨_,(pss_cons (ps_set (i:=2) sc_pot.nd rfl (Or.inl rfl) (pe_ifExp (fpt_cmpR fop_lt (fpv 1) (pe_callB (flenQk (K:=K) rfl) rfl T.nm.len PySem.boot_len (pa_cons (fpv 0) pa_nil)) (nomark _)) (pe_ix (fixQk (K:=K) rfl) (fpv 0) (fpv 1) (fun _ _=>rfl)) pe_int))
      (pss_one (ps_ret (pe_lst (pa_cons (pe_callB (fcall_max2 rfl) rfl T.nm.max boot_max (pa_cons pe_int (pa_cons (pe_op fop_sub (pe_callB fcall_abs rfl T.nm.abs boot_abs (pa_cons (fpv 2) pa_nil)) (pe_op fop_pow pe_int pe_int)) pa_nil))) (pa_cons (pe_op fop_add (pe_op fop_add (pe_op fop_mod (pe_callB fcall_abs rfl T.nm.abs boot_abs (pa_cons (fpv 2) pa_nil)) pe_int) (pe_op fop_mul pe_int (fpv 1))) pe_int) pa_nil)))))),?_⟩
    have fin:∀(x y:Int),0≤x→0≤y→y<4294967296→∀p:Addr,H p=none→Q (.ref p) (upd H p (.lst [.int x,.int y])):=fun x y h1 h2 h3 p hp=>
      q p _ hp ⟨x,y,upd_same,h1,h2,h3⟩ fun b o hb e=>by rw [upd_ne hb];exact e
    simp -dsimp[cxOf,stC,-Bool.exists_bool,-List.map_take,-Prod.forall,-Prod.exists]
    refine ⟨_,.inl hS,tBr.of (fun h=>?_) (fun h=>?_)⟩
    · have hlt:k<ns.length:=by simpa using h
      simp -dsimp[cxOf,stC,-Bool.exists_bool,-List.map_take,-Prod.forall,-Prod.exists]
      refine ⟨_,.inl hS,.int (ns[k]'hlt),atI_nat (by simp [hlt]),?_⟩
      simp -dsimp[cxOf,stC,-Bool.exists_bool,-List.map_take,-Prod.forall,-Prod.exists]
      exact fin _ _ (zpa _) (zpb _ _) (zpc _ hk)
    · simp -dsimp[cxOf,stC,-Bool.exists_bool,-List.map_take,-Prod.forall,-Prod.exists]
      exact fin _ _ (by first | omega | (split <;> omega)) (by omega) (by omega)
theorem ok_take (T:Txt K mg a):FnOk P w K mg base CX0 1 a.f_take a.fd_take ["_law_pot_here", "_law_many_here"] sp_take:=by
  refine T.F_take.okL sc_take (fun vs H Q E h=>?_) (fun cdv A outer s H vs Q E hr h=>?_)
  · obtain ⟨p,m,rfl,_⟩:=h
    rfl
  · obtain ⟨p,m,rfl,⟨x,y,hp,hx,hy,hy2⟩,hm,hm2,q⟩:=h
    refine ⟨_,(pss_cons (ps_if (fpt_cmpR fop_gt (pe_ix (fixQk (K:=K) rfl) (fpv 0) pe_int (fun _ _=>rfl)) pe_int (nomark _)) (pss_cons (ps_asg (pe_callB fcall_divmod rfl T.nm.divmod boot_divmod (pa_cons (pe_ix (fixQk (K:=K) rfl) (fpv 0) pe_int (fun _ _=>rfl)) (pa_cons (fpv 1) pa_nil))) (PG.eqv (pg_tupk (K:=K) (n:=2) rfl rfl (PGs.eqv (pgs_cons (pg_sub (fpv 0) pe_int fset_list) (PGs.eqv (pgs_cons (pg_name (i:=2) sc_take.nd rfl (Or.inl rfl)) (PGs.mono pgs_nil fNil_t)) (fCons_eq _ _))) (fCons_eq _ _))) (fTup_eq _ _ _)))
      (pss_one (ps_ret (fpv 2)))) pss_nil)
      (pss_cons (ps_asg (pe_op fop_mod (pe_op fop_add (pe_op fop_mul (pe_ix (fixQk (K:=K) rfl) (fpv 0) pe_int (fun _ _=>rfl)) pe_int) pe_int) pe_int) (pg_sub (fpv 0) pe_int fset_list))
      (pss_one (ps_ret (pe_op fop_mod (pe_op fop_fdiv (pe_op fop_mod (pe_op fop_mul (pe_ix (fixQk (K:=K) rfl) (fpv 0) pe_int (fun _ _=>rfl)) (pe_ix (fixQk (K:=K) rfl) (fpv 0) pe_int (fun _ _=>rfl))) pe_int) pe_int) (fpv 1)))))),?_⟩
    have hl:SqL K H p [.int x,.int y]:=SqL.of hp
    simp -dsimp[cxOf,stC,-Bool.exists_bool,-List.map_take,-Prod.forall,-Prod.exists]
    refine ⟨_,.inl hl,_,atI_nat (j:=0) rfl,?_⟩
    simp -dsimp[cxOf,stC,-Bool.exists_bool,-List.map_take,-Prod.forall,-Prod.exists]
    refine tBr.of (fun h=>?_) (fun h=>?_)
    · simp -dsimp[cxOf,stC,-Bool.exists_bool,-List.map_take,-Prod.forall,-Prod.exists]
      refine ⟨_,.inl hl,_,atI_nat (j:=0) rfl,?_⟩
      simp -dsimp[cxOf,stC,-Bool.exists_bool,-List.map_take,-Prod.forall,-Prod.exists]
      refine ⟨⟨hm,by omega⟩,fun t ht=>?_⟩
      have npt:p≠t:=ne_of_none hp ht
      refine ⟨_,SqT.of upd_same,rfl,_,(by rw [upd_ne npt];exact hp),0,rfl,?_⟩
      refine q _ _ (Int.emod_nonneg _ (by omega)) (Int.emod_lt_of_pos _ hm) ⟨_,_,upd_same,Int.ediv_nonneg hx (by omega),hy,hy2⟩ fun b o hb e=>?_
      rw [upd_ne hb,upd_ne (ne_of_none e ht)]
      exact e
    · have z0:0≤(y * 48271+12345) % 2147483647:=Int.emod_nonneg _ (by decide)
      have z1:(y * 48271+12345) % 2147483647<2147483647:=Int.emod_lt_of_pos _ (by decide)
      simp -dsimp[cxOf,stC,-Bool.exists_bool,-List.map_take,-Prod.forall,-Prod.exists]
      refine ⟨_,.inl hl,_,atI_nat (j:=1) rfl,?_⟩
      simp -dsimp[cxOf,stC,-Bool.exists_bool,-List.map_take,-Prod.forall,-Prod.exists]
      refine ⟨_,hp,1,rfl,_,.inl (SqL.of upd_same),_,atI_nat (j:=1) rfl,_,.inl (SqL.of upd_same),_,atI_nat (j:=1) rfl,?_⟩
      simp -dsimp[cxOf,stC,-Bool.exists_bool,-List.map_take,-Prod.forall,-Prod.exists]
      refine ⟨⟨by omega,by omega⟩,hm,?_⟩
      refine q _ _ (Int.emod_nonneg _ (by omega)) (Int.emod_lt_of_pos _ hm) ⟨_,_,upd_same,hx,z0,by omega⟩ fun b o hb e=>?_
      rw [upd_ne hb]
      exact e
def sp_is_list:Sp:=fun vs H Q _=>∃p xs,vs=[.ref p]∧Sq H p xs∧∀H',Same H H'→Q (.bl true) H'
theorem ok_is_list (T:Txt K mg a):FnOk P w K mg base CX0 1 a.f_is_list a.fd_is_list ["thing"] sp_is_list:=by
  refine T.F_is_list.okL sc_is_list (fun vs H Q E h=>?_) (fun cdv A outer s H vs Q E hr h=>?_)
  · obtain ⟨p,xs,rfl,_⟩:=h
    rfl
  · obtain ⟨p,xs,rfl,hp,q⟩:=h
    refine ⟨_,(pss_one (ps_ret (pe_callB (fisi2k (K:=K) rfl) rfl T.nm.isinstance boot_isinstance (pa_cons (fpv 0) (pa_cons (pe_tup (pa_cons (pe_bltn (v:=.ty "list") rfl T.nm.list boot_list rfl) (pa_cons (pe_bltn (v:=.ty "tuple") rfl T.nm.tuple boot_tuple rfl) pa_nil))) pa_nil))))),?_⟩
    simp -dsimp[cxOf,stC,-Bool.exists_bool,-List.map_take,-Prod.forall,-Prod.exists]
    refine fun t ht=>⟨_,_,upd_same,?_⟩
    rcases (hp.same (same_upd ht)).ty (K:=K) with ty | ty
    ·exact ⟨_,ty,true,by simp [W.kitAny,W.kitOne],q _ (same_upd ht)⟩
    ·exact ⟨_,ty,true,by simp [W.kitAny,W.kitOne];rfl,q _ (same_upd ht)⟩
def sp_is_name:Sp:=fun vs H Q _=>∃x,vs=[.str x]∧x.length≤sizeLine∧∀H',Same H H'→Q (.bl (nameB x)) H'
theorem ok_is_name (T:Txt K mg a):FnOk P w K mg base CX0 1 a.f_is_name a.fd_is_name ["thing"] sp_is_name:=by
  refine T.F_is_name.okL sc_is_name (fun vs H Q E h=>?_) (fun cdv A outer s H vs Q E hr h=>?_)
  · obtain ⟨x,rfl,_⟩:=h
    rfl
  · obtain ⟨x,rfl,hx,q⟩:=h
    refine ⟨_,(pss_cons (ps_if (PW.pt (pw_or (pt_not (fpt_val (pe_callB (fisiTk (K:=K) rfl) rfl T.nm.isinstance boot_isinstance (pa_cons (fpv 0) (pa_cons (pe_bltn (v:=.ty "str") rfl T.nm.str boot_str rfl) pa_nil))))) (pw_or1 (pt_not (fpt_chain fop_le fop_le pe_int (pe_callB flenTk rfl T.nm.len PySem.boot_len (pa_cons (fpv 0) pa_nil)) (pe_glob rfl T.h_MOST_LETTERS T.r_MOST_LETTERS)))))) (pss_one (ps_ret pe_bl)) pss_nil)
      (pss_one (ps_ret (pe_callB (fcall_all rfl) rfl T.nm.all boot_all' (pa_cons (pe_comp rfl rfl (show CompScope (defScope s_is_name) _ ["thing"] ["sign"] [] ["sign"] from ⟨rfl,by decide +kernel,by decide +kernel,rfl,by decide +kernel,by decide +kernel⟩) rfl (PI.eqv (pi_str (fpv 0)) (fiStr_eq _)) (fun C s H fp pn=>(pg_name (i:=0) (show (["sign"]:List Str).Nodup by decide +kernel) rfl (Or.inl rfl))) (fun C s H fp pn=>pts_nil) (fun C s H fp pn=>(pe_cmpR (finS (K:=K) rfl) (fpv 0) (pe_glob rfl T.h_LETTERS T.r_LETTERS) rfl))) pa_nil))))),?_⟩
    simp -dsimp[cxOf,stC,-Bool.exists_bool,-List.map_take,-Prod.forall,-Prod.exists]
    refine ⟨_,.str x,_,kit_str_str K,tBr.neg rfl ?_⟩
    simp -dsimp[cxOf,stC,-Bool.exists_bool,-List.map_take,-Prod.forall,-Prod.exists]
    refine ⟨hx,tBr.of (fun h1=>?_) (fun h1=>?_)⟩
    · have h1':1≤x.length:=by simp at h1;omega
      simp -dsimp[cxOf,stC,-Bool.exists_bool,-List.map_take,-Prod.forall,-Prod.exists]
      refine tBr.of (fun h2=>?_) (fun h2=>?_)
      · have h2':¬x.length≤4:=by simp at h2;omega
        have e:nameB x=false:=by
          unfold nameB
          rw [decide_eq_false h2']
          simp
        rw [e] at q
        simp -dsimp[cxOf,stC,-Bool.exists_bool,-List.map_take,-Prod.forall,-Prod.exists]
        exact q H (Same.refl H)
      · have h2':x.length≤4:=by simp at h2;omega
        simp -dsimp[cxOf,stC,-Bool.exists_bool,-List.map_take,-Prod.forall,-Prod.exists]
        refine fun D hD=>cmS (fun i σ' H'=>(∃o,σ'=[o])∧Same H H'∧H' D=some (.lst ((x.cps.toList.take i).map fun c=>.bl (isL c)))) ⟨⟨none,rfl⟩,same_upd hD,by simpa using upd_same⟩ ?_ ?_
        · rintro i c σ' H' hc ⟨⟨o,rfl⟩,sm,hDD⟩
          have h4:4<sizeLine:=by decide
          have hsz:x.cps.size=x.length:=rfl
          simp -dsimp[cxOf,stC,-Bool.exists_bool,-List.map_take,-Prod.forall,-Prod.exists]
          refine ⟨_,hDD,by simp;omega,same_upd2 sm hD,?_⟩
          rw [upd_same,take_one (l:=x.cps.toList) (x:=c) (by simpa using hc),List.map_append]
          rfl
        · rintro σ' H' ⟨⟨o,rfl⟩,sm,hDD⟩
          simp -dsimp[cxOf,stC,-Bool.exists_bool,-List.map_take,-Prod.forall,-Prod.exists]
          refine ⟨_,hDD,_,blAll_map isL _,?_⟩
          rw [all_map_id]
          have e:nameB x=(x.cps.toList.take x.cps.size).all isL:=by
            unfold nameB
            rw [decide_eq_true h1',decide_eq_true h2',show x.cps.toList.take x.cps.size=x.cps.toList from List.take_of_length_le (by simp)]
            rfl
          rw [← e]
          exact q H' sm
    · have h1':¬1≤x.length:=by simp at h1;omega
      have e:nameB x=false:=by
        unfold nameB
        rw [decide_eq_false h1']
        simp
      rw [e] at q
      simp -dsimp[cxOf,stC,-Bool.exists_bool,-List.map_take,-Prod.forall,-Prod.exists]
      exact q H (Same.refl H)
theorem str_item {xs:List Str} {i:Nat} {x:V} (h:(xs.map V.str)[i]? = some x):∃z,z∈xs∧x = .str z:=by
  rw [List.getElem?_map] at h
  cases e:xs[i]? with
  | none=>rw [e] at h;cases h
  | some z=>
    rw [e] at h
    exact ⟨z,List.mem_of_getElem? e,(Option.some.inj h).symm⟩
theorem name_short {x:Str} (h:nameB x=true):x.length≤sizeLine:=by
  unfold nameB at h
  simp at h
  have h4:4≤sizeLine:=by decide
  omega
theorem blAll_rep:∀n,blAll (List.replicate n (.bl true)) (List.replicate n true)
  | 0=>rfl
  | n+1=>⟨true,_,rfl,rfl,blAll_rep n⟩
theorem keysOf_str:∀xs:List Str,keysOf (xs.map V.str)=xs.map Sum.inr
  | []=>rfl
  | x::xs=>by
    show Sum.inr x::keysOf (xs.map V.str)=_
    rw [keysOf_str xs]
    rfl
theorem uq_str {xs:List Str} (h:xs.Nodup):(uqN (fun i=>(keysOf (xs.map V.str))[i]?.getD (Sum.inl 0)) (xs.map V.str).length).length=xs.length:=by
  rw [keysOf_str,List.length_map]
  refine (uq_all _ xs.length fun i j hi hj e=>?_).1
  simp [hi,hj] at e
  exact (List.getElem_inj h).mp e
structure Pts (xs:List Str):Prop where
  len:1≤xs.length∧xs.length≤9
  nm:∀x∈xs,nameB x=true
  nd:xs.Nodup
def sp_are_points:Sp:=fun vs H Q _=>∃p xs,vs=[.ref p]∧Sq H p (xs.map V.str)∧Pts xs∧∀H',Same H H'→Q (.bl true) H'
theorem ok_are_points (T:Txt K mg a):FnOk P w K mg base CX0 2 a.f_are_points a.fd_are_points ["thing"] sp_are_points:=by
  refine T.F_are_points.okL sc_are_points (fun vs H Q E h=>?_) (fun cdv A outer s H vs Q E hr h=>?_)
  · obtain ⟨p,xs,rfl,_⟩:=h
    rfl
  · obtain ⟨p,xs,rfl,hp,hx,q⟩:=h
    refine ⟨_,(pss_cons (ps_if (PW.pt (pw_or (pt_not (fpt_val (PE.eqv (pe_call (ok_is_list (K:=K) T) (hr.mono (by decide)) rfl T.m_is_list T.F_is_list.kp T.b_is_list .nil pass0 (pa_cons (fpv 0) pa_nil)) (fCall_eq _ _ _)))) (pw_or1 (pt_not (fpt_chain fop_le fop_le pe_int (pe_callB (flenQk (K:=K) rfl) rfl T.nm.len PySem.boot_len (pa_cons (fpv 0) pa_nil)) (pe_glob rfl T.h_MOST_POINTS T.r_MOST_POINTS)))))) (pss_one (ps_ret pe_bl)) pss_nil)
      (pss_one (ps_ret (fpe_and (pe_callB (fcall_all rfl) rfl T.nm.all boot_all' (pa_cons (pe_comp rfl rfl (show CompScope (defScope s_are_points) _ ["thing"] ["one"] [] ["one"] from ⟨rfl,by decide +kernel,by decide +kernel,rfl,by decide +kernel,by decide +kernel⟩) rfl (PI.eqv (pi_seqk (K:=K) rfl (fpv 0)) (fiSeq_eq _ _)) (fun C s H fp pn=>(pg_name (i:=0) (show (["one"]:List Str).Nodup by decide +kernel) rfl (Or.inl rfl))) (fun C s H fp pn=>pts_nil) (fun C s H fp pn=>(PE.eqv (pe_call (ok_is_name (K:=K) T) (hr.mono (by decide)) rfl T.m_is_name T.F_is_name.kp T.b_is_name .nil pass0 (pa_cons (fpv 0) pa_nil)) (fCall_eq _ _ _)))) pa_nil)) (pe_one (pe_cmpR fop_eq (pe_callB call_lenS rfl T.nm.len PySem.boot_len (pa_cons (pe_callTy (call_setK rfl) rfl T.nm.set boot_setT (pa_cons (fpv 0) pa_nil)) pa_nil)) (pe_callB (flenQk (K:=K) rfl) rfl T.nm.len PySem.boot_len (pa_cons (fpv 0) pa_nil)) (nomark _))))))),?_⟩
    have hl:=hx.len
    have h60:60<sizeLine:=by decide
    simp -dsimp[cxOf,stC,-Bool.exists_bool,-List.map_take,-Prod.forall,-Prod.exists]
    refine ⟨p,_,rfl,hp,fun H1 s1=>?_⟩
    have hp1:=hp.same s1
    simp -dsimp[cxOf,stC,-Bool.exists_bool,-List.map_take,-Prod.forall,-Prod.exists]
    refine ⟨_,hp1.q,tBr.pos (by simp;omega) ?_⟩
    simp -dsimp[cxOf,stC,-Bool.exists_bool,-List.map_take,-Prod.forall,-Prod.exists]
    refine tBr.neg (by simp;omega) ?_
    obtain ⟨b,hb⟩:=hp.b
    simp -dsimp[cxOf,stC,-Bool.exists_bool,-List.map_take,-Prod.forall,-Prod.exists]
    refine ⟨b,⟨_,hb K H1 s1⟩,fun D hD=>cmQ (xs.map V.str) (fun i σ' H'=>(∃o,σ'=[o])∧Same H1 H'∧H' D=some (.lst (List.replicate i (.bl true)))) ⟨⟨none,rfl⟩,same_upd hD,upd_same⟩ (fun i σ' H' _ h=>hb K H' (s1.trans h.2.1)) ?_ ?_⟩
    · rintro i x σ' H' hi ⟨⟨o,rfl⟩,sm,hDD⟩
      obtain ⟨z,hz,rfl⟩:=str_item hi
      have hi2:i<xs.length:=by simpa using (List.getElem?_eq_some_iff.mp hi).1
      simp -dsimp[cxOf,stC,-Bool.exists_bool,-List.map_take,-Prod.forall,-Prod.exists]
      refine ⟨z,rfl,name_short (hx.nm z hz),fun H2 s2=>?_⟩
      simp -dsimp[cxOf,stC,-Bool.exists_bool,-List.map_take,-Prod.forall,-Prod.exists]
      refine ⟨_,s2 _ _ hDD,by simp;omega,same_upd2 (sm.trans s2) hD,?_⟩
      rw [upd_same,hx.nm z hz,← List.replicate_succ']
    · rintro σ' H' ⟨⟨o,rfl⟩,sm,hDD⟩
      have hp2:=hp1.same sm
      simp -dsimp[cxOf,stC,-Bool.exists_bool,-List.map_take,-Prod.forall,-Prod.exists]
      refine ⟨_,hDD,_,blAll_rep _,?_⟩
      rw [show (List.replicate (xs.map V.str).length true).all id=true by simp]
      simp -dsimp[cxOf,stC,-Bool.exists_bool,-List.map_take,-Prod.forall,-Prod.exists]
      refine ⟨_,hp2.q,by simp [isKey],by simp;unfold scanBound;omega,fun t ht=>⟨_,upd_same,_,(hp2.same (same_upd ht)).q,?_⟩⟩
      rw [decide_eq_true (by rw [uq_str hx.nd];simp)]
      exact q _ (s1.trans (sm.trans (same_upd ht)))
theorem inV_str {x:Str} {xs:List Str} (h:x∈xs):inV (.str x) (xs.map V.str)=true:=by
  unfold inV
  rw [List.any_eq_true]
  exact ⟨.str x,List.mem_map.mpr ⟨x,h,rfl⟩,by simp [eqV]⟩
theorem flat_str (xs:List Str):(xs.map V.str).all flatV=true:=by
  rw [List.all_eq_true]
  intro v hv
  obtain ⟨x,_,rfl⟩:=List.mem_map.mp hv
  rfl
def sp_is_tie:Sp:=fun vs H Q _=>∃t p x y xs,vs=[.ref t,.ref p]∧Sq H t [.str x,.str y]∧Sq H p (xs.map V.str)∧Pts xs∧x∈xs∧y∈xs∧x≠y∧∀H',Same H H'→Q (.bl true) H'
theorem ok_is_tie (T:Txt K mg a):FnOk P w K mg base CX0 2 a.f_is_tie a.fd_is_tie ["thing", "points"] sp_is_tie:=by
  refine T.F_is_tie.okL sc_is_tie (fun vs H Q E h=>?_) (fun cdv A outer s H vs Q E hr h=>?_)
  · obtain ⟨t,p,x,y,xs,rfl,_⟩:=h
    rfl
  · obtain ⟨t,p,x,y,xs,rfl,ht,hp,hx,hxm,hym,hne,q⟩:=h
    refine ⟨_,(pss_cons (ps_if (PW.pt (pw_or (pt_not (fpt_val (PE.eqv (pe_call (ok_is_list (K:=K) T) (hr.mono (by decide)) rfl T.m_is_list T.F_is_list.kp T.b_is_list .nil pass0 (pa_cons (fpv 0) pa_nil)) (fCall_eq _ _ _)))) (pw_or1 (fpt_cmpR fop_ne (pe_callB (flenQk (K:=K) rfl) rfl T.nm.len PySem.boot_len (pa_cons (fpv 0) pa_nil)) pe_int (nomark _))))) (pss_one (ps_ret pe_bl)) pss_nil)
      (pss_cons (ps_if (pt_not (fpt_val (pe_callB (fcall_all rfl) rfl T.nm.all boot_all' (pa_cons (pe_comp rfl rfl (show CompScope (defScope s_is_tie) _ ["thing", "points"] ["end"] [1] ["end", "points"] from ⟨rfl,by decide +kernel,by decide +kernel,rfl,by decide +kernel,by decide +kernel⟩) rfl (PI.eqv (pi_seqk (K:=K) rfl (fpv 0)) (fiSeq_eq _ _)) (fun C s H fp pn=>(pg_name (i:=0) (show (["end", "points"]:List Str).Nodup by decide +kernel) rfl (Or.inl rfl))) (fun C s H fp pn=>pts_nil) (fun C s H fp pn=>(fpe_and (PE.eqv (pe_call (ok_is_name (K:=K) T) (hr.mono (by decide)) rfl T.m_is_name T.F_is_name.kp T.b_is_name .nil pass0 (pa_cons (fpv 0) pa_nil)) (fCall_eq _ _ _)) (pe_one (pe_cmpR (finK (K:=K) rfl) (fpv 0) (fpv 1) rfl))))) pa_nil)))) (pss_one (ps_ret pe_bl)) pss_nil)
      (pss_one (ps_ret (pe_cmpR fop_ne (pe_ix (fixQk (K:=K) rfl) (fpv 0) pe_int (fun _ _=>rfl)) (pe_ix (fixQk (K:=K) rfl) (fpv 0) pe_int (fun _ _=>rfl)) (nomark _)))))),?_⟩
    have h60:60<sizeLine:=by decide
    simp -dsimp[cxOf,stC,-Bool.exists_bool,-List.map_take,-Prod.forall,-Prod.exists]
    refine ⟨t,_,rfl,ht,fun H1 s1=>?_⟩
    simp -dsimp[cxOf,stC,-Bool.exists_bool,-List.map_take,-Prod.forall,-Prod.exists]
    refine ⟨_,(ht.same s1).q,false,rfl,tBr.neg rfl ?_⟩
    obtain ⟨b,hb⟩:=ht.b
    simp -dsimp[cxOf,stC,-Bool.exists_bool,-List.map_take,-Prod.forall,-Prod.exists]
    refine ⟨b,⟨_,hb K H1 s1⟩,fun D hD=>cmQ [.str x,.str y] (fun i σ' H'=>(∃o,σ'=[o,some (.ref p)])∧Same H1 H'∧H' D=some (.lst (List.replicate i (.bl true)))) ⟨⟨none,rfl⟩,same_upd hD,upd_same⟩ (fun i σ' H' _ h=>hb K H' (s1.trans h.2.1)) ?_ ?_⟩
    · rintro i v σ' H' hi ⟨⟨o,rfl⟩,sm,hDD⟩
      obtain ⟨z,hz,rfl⟩:∃z,z∈xs∧v = .str z:=by
        match i,hi with
        | 0,hi=>exact ⟨x,hxm,(Option.some.inj hi).symm⟩
        | 1,hi=>exact ⟨y,hym,(Option.some.inj hi).symm⟩
      have hi2:i<2:=(List.getElem?_eq_some_iff.mp hi).1
      simp -dsimp[cxOf,stC,-Bool.exists_bool,-List.map_take,-Prod.forall,-Prod.exists]
      refine ⟨z,rfl,name_short (hx.nm z hz),fun H2 s2=>?_⟩
      rw [hx.nm z hz]
      simp -dsimp[cxOf,stC,-Bool.exists_bool,-List.map_take,-Prod.forall,-Prod.exists]
      refine ⟨_,(hp.same (s1.trans (sm.trans s2))).q,rfl,List.all_eq_true.mp (flat_str xs),_,s2 _ _ hDD,by simp;omega,same_upd2 (sm.trans s2) hD,?_⟩
      rw [upd_same,inV_str hz,← List.replicate_succ']
    · rintro σ' H' ⟨⟨o,rfl⟩,sm,hDD⟩
      have ht2:=ht.same (s1.trans sm)
      simp -dsimp[cxOf,stC,-Bool.exists_bool,-List.map_take,-Prod.forall,-Prod.exists]
      refine ⟨_,hDD,_,blAll_rep _,?_⟩
      rw [show (List.replicate [V.str x,V.str y].length true).all id=true by simp]
      simp -dsimp[cxOf,stC,-Bool.exists_bool,-List.map_take,-Prod.forall,-Prod.exists]
      refine ⟨_,ht2.q,_,atI_nat (j:=0) rfl,_,ht2.q,_,atI_nat (j:=1) rfl,?_⟩
      simp -dsimp[cxOf,stC,-Bool.exists_bool,-List.map_take,-Prod.forall,-Prod.exists]
      refine ⟨true,by simp [hne],?_⟩
      exact q _ (s1.trans sm)
def PairAt (H:Hp) (v:V) (e:Str×Str):Prop:=∃t,v = .ref t∧Sq H t [.str e.1,.str e.2]
theorem PairAt.same {H H':Hp} {v:V} {e:Str×Str} (h:PairAt H v e) (s:Same H H'):PairAt H' v e:=by
  obtain ⟨t,rfl,h⟩:=h
  exact ⟨t,rfl,h.same s⟩
def PairsAt (H:Hp) (vs:List V) (ps:List (Str×Str)):Prop:=vs.length=ps.length∧∀(i:Nat) v e,vs[i]? = some v→ps[i]? = some e→PairAt H v e
theorem PairsAt.same {H H':Hp} {vs:List V} {ps:List (Str×Str)} (h:PairsAt H vs ps) (s:Same H H'):PairsAt H' vs ps:=⟨h.1,fun i v e h1 h2=>(h.2 i v e h1 h2).same s⟩
theorem PairsAt.at {H:Hp} {vs:List V} {ps:List (Str×Str)} (h:PairsAt H vs ps) {i:Nat} {v:V} (hv:vs[i]? = some v):∃e,ps[i]? = some e∧PairAt H v e:=by
  have hi:i<ps.length:=by rw [← h.1];exact (List.getElem?_eq_some_iff.mp hv).1
  exact ⟨ps[i],by simp [hi],h.2 i v _ hv (by simp [hi])⟩
structure Ties (xs:List Str) (ps:List (Str×Str)):Prop where
  len:ps.length≤20
  ok:∀e∈ps,e.1∈xs∧e.2∈xs∧e.1≠e.2
def sp_are_ties:Sp:=fun vs H Q _=>∃t p tv xs ps,vs=[.ref t,.ref p]∧Sq H t tv∧PairsAt H tv ps∧Sq H p (xs.map V.str)∧Pts xs∧Ties xs ps∧∀H',Same H H'→Q (.bl true) H'
theorem ok_are_ties (T:Txt K mg a):FnOk P w K mg base CX0 3 a.f_are_ties a.fd_are_ties ["thing", "points"] sp_are_ties:=by
  refine T.F_are_ties.okL sc_are_ties (fun vs H Q E h=>?_) (fun cdv A outer s H vs Q E hr h=>?_)
  · obtain ⟨t,p,tv,xs,ps,rfl,_⟩:=h
    rfl
  · obtain ⟨t,p,tv,xs,ps,rfl,ht,hpr,hp,hx,hts,q⟩:=h
    refine ⟨_,(pss_cons (ps_if (PW.pt (pw_or (pt_not (fpt_val (PE.eqv (pe_call (ok_is_list (K:=K) T) (hr.mono (by decide)) rfl T.m_is_list T.F_is_list.kp T.b_is_list .nil pass0 (pa_cons (fpv 0) pa_nil)) (fCall_eq _ _ _)))) (pw_or1 (fpt_cmpR fop_gt (pe_callB (flenQk (K:=K) rfl) rfl T.nm.len PySem.boot_len (pa_cons (fpv 0) pa_nil)) (pe_glob rfl T.h_MOST_TIES T.r_MOST_TIES) (nomark _))))) (pss_one (ps_ret pe_bl)) pss_nil)
      (pss_one (ps_ret (pe_callB (fcall_all rfl) rfl T.nm.all boot_all' (pa_cons (pe_comp rfl rfl (show CompScope (defScope s_are_ties) _ ["thing", "points"] ["one"] [1] ["one", "points"] from ⟨rfl,by decide +kernel,by decide +kernel,rfl,by decide +kernel,by decide +kernel⟩) rfl (PI.eqv (pi_seqk (K:=K) rfl (fpv 0)) (fiSeq_eq _ _)) (fun C s H fp pn=>(pg_name (i:=0) (show (["one", "points"]:List Str).Nodup by decide +kernel) rfl (Or.inl rfl))) (fun C s H fp pn=>pts_nil) (fun C s H fp pn=>(PE.eqv (pe_call (ok_is_tie (K:=K) T) (hr.mono (by decide)) rfl T.m_is_tie T.F_is_tie.kp T.b_is_tie .nil pass0 (pa_cons (fpv 0) (pa_cons (fpv 1) pa_nil))) (fCall_eq _ _ _)))) pa_nil))))),?_⟩
    have hlen:=hpr.1
    have h20:=hts.len
    have h60:60<sizeLine:=by decide
    simp -dsimp[cxOf,stC,-Bool.exists_bool,-List.map_take,-Prod.forall,-Prod.exists]
    refine ⟨t,_,rfl,ht,fun H1 s1=>?_⟩
    simp -dsimp[cxOf,stC,-Bool.exists_bool,-List.map_take,-Prod.forall,-Prod.exists]
    refine ⟨_,(ht.same s1).q,tBr.neg (by simp;omega) ?_⟩
    obtain ⟨b,hb⟩:=ht.b
    simp -dsimp[cxOf,stC,-Bool.exists_bool,-List.map_take,-Prod.forall,-Prod.exists]
    refine ⟨b,⟨_,hb K H1 s1⟩,fun D hD=>cmQ tv (fun i σ' H'=>(∃o,σ'=[o,some (.ref p)])∧Same H1 H'∧H' D=some (.lst (List.replicate i (.bl true)))) ⟨⟨none,rfl⟩,same_upd hD,upd_same⟩ (fun i σ' H' _ h=>hb K H' (s1.trans h.2.1)) ?_ ?_⟩
    · rintro i v σ' H' hi ⟨⟨o,rfl⟩,sm,hDD⟩
      obtain ⟨e,he,t2,rfl,ht2⟩:=hpr.at hi
      have hi2:i<tv.length:=(List.getElem?_eq_some_iff.mp hi).1
      obtain ⟨h1,h2,h3⟩:=hts.ok e (List.mem_of_getElem? he)
      have s2:=s1.trans sm
      simp -dsimp[cxOf,stC,-Bool.exists_bool,-List.map_take,-Prod.forall,-Prod.exists]
      refine ⟨t2,p,e.1,e.2,xs,rfl,ht2.same s2,hp.same s2,hx,h1,h2,h3,fun H2 s3=>?_⟩
      simp -dsimp[cxOf,stC,-Bool.exists_bool,-List.map_take,-Prod.forall,-Prod.exists]
      refine ⟨_,s3 _ _ hDD,by simp;omega,same_upd2 (sm.trans s3) hD,?_⟩
      rw [upd_same,← List.replicate_succ']
    · rintro σ' H' ⟨⟨o,rfl⟩,sm,hDD⟩
      simp -dsimp[cxOf,stC,-Bool.exists_bool,-List.map_take,-Prod.forall,-Prod.exists]
      refine ⟨_,hDD,_,blAll_rep _,?_⟩
      rw [show (List.replicate tv.length true).all id=true by simp]
      exact q _ (s1.trans sm)
def TupsAt (H:Hp) (vs:List V) (ps:List (Str×Str)):Prop:=vs.length=ps.length∧∀(i:Nat) v e,vs[i]? = some v→ps[i]? = some e→∃t,v = .ref t∧H t=some (.tup [.str e.1,.str e.2])
def TupKeep (H H':Hp):Prop:=∀b xs,H b=some (.tup xs)→H' b=some (.tup xs)
theorem TupsAt.keep {H H':Hp} {vs:List V} {ps:List (Str×Str)} (h:TupsAt H vs ps) (s:TupKeep H H'):TupsAt H' vs ps:=⟨h.1,fun i v e h1 h2=>by
  obtain ⟨t,rfl,e⟩:=h.2 i v e h1 h2
  exact ⟨t,rfl,s _ _ e⟩⟩
theorem TupsAt.snoc {H:Hp} {vs:List V} {ps:List (Str×Str)} {t:Addr} {e:Str×Str} (h:TupsAt H vs ps) (ht:H t=some (.tup [.str e.1,.str e.2])):TupsAt H (vs++[.ref t]) (ps++[e]):=by
  refine ⟨by simp [h.1],fun i v d h1 h2=>?_⟩
  by_cases hi:i<vs.length
  · rw [List.getElem?_append_left hi] at h1
    rw [List.getElem?_append_left (by rw [← h.1];exact hi)] at h2
    exact h.2 i v d h1 h2
  · rw [List.getElem?_append_right (by omega)] at h1
    rw [List.getElem?_append_right (by rw [← h.1];omega),← h.1] at h2
    cases hk:i - vs.length with
    | zero=>
      rw [hk] at h1 h2
      cases h1
      cases h2
      exact ⟨t,rfl,ht⟩
    | succ j=>
      rw [hk] at h1
      simp at h1
structure WebAt (C:Addr) (H:Hp) (o:Addr) (xs:List Str) (ps:List (Str×Str)):Prop where
  ex:∃dx n m tv,H o=some (.ins C dx [("names",V.ref n),("pairs",V.ref m)])∧H n=some (.tup (xs.map V.str))∧H m=some (.tup tv)∧TupsAt H tv ps∧ps.length≤20
def sp_init (C:Addr):Sp:=fun vs H Q _=>∃o dx p t tv xs ps,vs=[.ref o,.ref p,.ref t]∧H o=some (.ins C dx [])∧Sq H t tv∧PairsAt H tv ps∧Sq H p (xs.map V.str)∧Pts xs∧Ties xs ps∧
  ∀H',WebAt C H' o xs ps→But o H H'→Q .non H'
theorem ok_Web_init (T:Txt K mg a):FnOk P w K mg base CX0 4 a.f_Web_init a.fd_Web_init ["self", "points", "ties"] (sp_init a.C_Web):=by
  refine T.F_Web_init.okL sc_Web_init (fun vs H Q E h=>?_) (fun cdv A outer s H vs Q E hr h=>?_)
  · obtain ⟨o,dx,p,t,tv,xs,ps,rfl,_⟩:=h
    rfl
  · obtain ⟨o,dx,p,t,tv,xs,ps,rfl,ho,ht,hpr,hp,hx,hts,q⟩:=h
    refine ⟨_,(pss_cons (ps_if (pt_not (fpt_val (PE.eqv (pe_call (ok_are_points (K:=K) T) (hr.mono (by decide)) rfl T.m_are_points T.F_are_points.kp T.b_are_points .nil pass0 (pa_cons (fpv 1) pa_nil)) (fCall_eq _ _ _)))) (pss_one ps_never) pss_nil)
      (pss_cons (ps_if (pt_not (fpt_val (PE.eqv (pe_call (ok_are_ties (K:=K) T) (hr.mono (by decide)) rfl T.m_are_ties T.F_are_ties.kp T.b_are_ties .nil pass0 (pa_cons (fpv 2) (pa_cons (fpv 1) pa_nil))) (fCall_eq _ _ _)))) (pss_one ps_never) pss_nil)
      (pss_cons (ps_fldk (K:=K) rfl (fpv 0) (pe_callTy ftupleOfS rfl T.nm.tuple boot_tuple (pa_cons (fpv 1) pa_nil)) rfl)
      (pss_one (ps_fldk (K:=K) rfl (fpv 0) (pe_callTy ftupleOfS rfl T.nm.tuple boot_tuple (pa_cons (pe_comp rfl rfl (show CompScope (defScope s_Web_init) _ ["self", "points", "ties"] ["pair"] [] ["pair"] from ⟨rfl,by decide +kernel,by decide +kernel,rfl,by decide +kernel,by decide +kernel⟩) rfl (PI.eqv (pi_seqk (K:=K) rfl (fpv 2)) (fiSeq_eq _ _)) (fun C s H fp pn=>(pg_name (i:=0) (show (["pair"]:List Str).Nodup by decide +kernel) rfl (Or.inl rfl))) (fun C s H fp pn=>pts_nil) (fun C s H fp pn=>(pe_tup (pa_cons (pe_ix (fixQk (K:=K) rfl) (fpv 0) pe_int (fun _ _=>rfl)) (pa_cons (pe_ix (fixQk (K:=K) rfl) (fpv 0) pe_int (fun _ _=>rfl)) pa_nil))))) pa_nil)) rfl))))),?_⟩
    simp -dsimp[cxOf,stC,-Bool.exists_bool,-List.map_take,-Prod.forall,-Prod.exists]
    refine ⟨p,xs,rfl,hp,hx,fun H1 s1=>?_⟩
    simp -dsimp[cxOf,stC,-Bool.exists_bool,-List.map_take,-Prod.forall,-Prod.exists]
    refine ⟨t,p,tv,xs,ps,rfl,ht.same s1,hpr.same s1,hp.same s1,hx,hts,fun H2 s2'=>?_⟩
    have s2:=s1.trans s2'
    simp -dsimp[cxOf,stC,-Bool.exists_bool,-List.map_take,-Prod.forall,-Prod.exists]
    refine ⟨_,hp.same s2,fun n H3 hn s3'=>?_⟩
    have s3:=s2.trans s3'
    have nno:n≠o:=ne_of hn (s3 _ _ ho) (by intro z;cases z)
    refine ⟨_,_,_,s3 _ _ ho,T.c_Web,T.n_names,by simp,?_⟩
    have hto:t≠o:=by rcases ht with z | z <;> exact ne_of z ho (by intro y;cases y)
    have keepO:∀{ob:HO} {b:Addr} {u:HO},b≠o→H b=some u→upd H3 o ob b=some u:=fun hb e=>by rw [upd_ne hb];exact s3 _ _ e
    obtain ⟨b,hb⟩:∃b,∀H',(∀c u,c≠o→H c=some u→H' c=some u)→SqB b K H' t tv:=by
      rcases ht with z | z
      ·exact ⟨true,fun H' k=>SqL.of (k _ _ hto z)⟩
      ·exact ⟨false,fun H' k=>SqT.of (k _ _ hto z)⟩
    have e1:putF "names" (V.ref n) []=([("names",V.ref n)]:List (Str×V)):=rfl
    rw [e1]
    have st4:∀(c:Addr) (u:HO),c≠o→H c=some u→upd H3 o (.ins a.C_Web dx [("names",V.ref n)]) c=some u:=fun c u hc e=>keepO hc e
    generalize h4:upd H3 o (.ins a.C_Web dx [("names",V.ref n)])=H4 at st4 ⊢
    have ho4:H4 o=some (.ins a.C_Web dx [("names",V.ref n)]):=by rw [← h4];exact upd_same
    have hn4:H4 n=some (.tup (xs.map V.str)):=by rw [← h4,upd_ne nno];exact hn
    refine ⟨b,⟨_,hb H4 st4⟩,fun D hD=>cmQ tv (fun i σ' H'=>(∃o',σ'=[o'])∧Same H4 H'∧∃tvs,H' D=some (.lst tvs)∧TupsAt H' tvs (ps.take i)) ⟨⟨none,rfl⟩,same_upd hD,[],upd_same,by simp [TupsAt]⟩ (fun i σ' H' _ h=>hb H' fun c u hc e=>h.2.1 _ _ (st4 c u hc e)) ?_ ?_⟩
    · rintro i v σ' H' hi ⟨⟨o',rfl⟩,sm,tvs,hDD,htv⟩
      have hi2:i<tv.length:=(List.getElem?_eq_some_iff.mp hi).1
      have hlen:=hpr.1
      have h20:=hts.len
      obtain ⟨e,he,t2,rfl,ht2⟩:=hpr.at hi
      have t2o:t2≠o:=by rcases ht2 with z | z <;> exact ne_of z ho (by intro y;cases y)
      have ht3:Sq H' t2 [.str e.1,.str e.2]:=by
        rcases ht2 with z | z
        ·exact .inl (sm _ _ (st4 _ _ t2o z))
        ·exact .inr (sm _ _ (st4 _ _ t2o z))
      simp -dsimp[cxOf,stC,-Bool.exists_bool,-List.map_take,-Prod.forall,-Prod.exists]
      refine ⟨_,ht3.q,_,atI_nat (j:=0) rfl,_,ht3.q,_,atI_nat (j:=1) rfl,fun pt hpt=>?_⟩
      have hDp:D≠pt:=ne_of_none hDD hpt
      refine ⟨tvs,by rw [upd_ne hDp];exact hDD,?_,same_upd2 (sm.trans (same_upd hpt)) hD,_,upd_same,?_⟩
      · have h4':20<sizeLine:=by decide
        have:=htv.1
        simp at this
        omega
      · rw [take_one he]
        refine (htv.keep ?_).snoc ?_
        · intro c zs ec
          rw [upd_ne (ne_of ec hDD (by intro y;cases y)),upd_ne (ne_of_none ec hpt)]
          exact ec
        · rw [upd_ne (Ne.symm hDp)]
          exact upd_same
    · rintro σ' H' ⟨⟨o',rfl⟩,sm,tvs,hDD,htv⟩
      simp -dsimp[cxOf,stC,-Bool.exists_bool,-List.map_take,-Prod.forall,-Prod.exists]
      refine ⟨tvs,.inl hDD,fun m H5 hm s5=>⟨_,_,_,s5 _ _ (sm _ _ ho4),T.c_Web,T.n_pairs,by simp,?_⟩⟩
      have ho5:=s5 _ _ (sm _ _ ho4)
      have mno:m≠o:=ne_of hm ho5 (by intro z;cases z)
      have e2:putF "pairs" (V.ref m) ([("names",V.ref n)]:List (Str×V))=([("names",V.ref n),("pairs",V.ref m)]:List (Str×V)):=by
        show (if ("names" : Str) = "pairs" then _ else (("names" : Str),V.ref n)::putF "pairs" (V.ref m) [])=_
        rw [if_neg (by decide +kernel)]
        rfl
      rw [e2]
      refine q _ ⟨dx,n,m,tvs,upd_same,?_,?_,?_,hts.len⟩ fun c u hc e=>?_
      · rw [upd_ne nno]
        exact s5 _ _ (sm _ _ hn4)
      · rw [upd_ne mno]
        exact hm
      · have hl:=hpr.1
        rw [hl,List.take_length] at htv
        refine htv.keep fun c zs ec=>?_
        rw [upd_ne (ne_of (s5 _ _ ec) ho5 (by intro z;cases z))]
        exact s5 _ _ ec
      · rw [upd_ne hc]
        exact s5 _ _ (sm _ _ (st4 c u hc e))
def sp_points (C:Addr):Sp:=fun vs H Q _=>∃o xs ps,vs=[.ref o]∧WebAt C H o xs ps∧∀l,H l=none→Q (.ref l) (upd H l (.lst (xs.map V.str)))
theorem ok_Web_points (T:Txt K mg a):FnOk P w K mg base CX0 1 a.f_Web_points a.fd_Web_points ["self"] (sp_points a.C_Web):=by
  refine T.F_Web_points.okL sc_Web_points (fun vs H Q E h=>?_) (fun cdv A outer s H vs Q E hr h=>?_)
  · obtain ⟨o,xs,ps,rfl,_⟩:=h
    rfl
  · obtain ⟨o,xs,ps,rfl,⟨dx,n,m,tv,h1,h2,h3,h4,h5⟩,q⟩:=h
    refine ⟨_,(pss_one (ps_ret (pe_callTy (flistOfk (K:=K) rfl) rfl T.nm.list boot_list (pa_cons (PE.eqv (pe_fldk (K:=K) rfl (fpv 0) rfl) (fFld_eq _ _ _)) pa_nil)))),?_⟩
    simp -dsimp[cxOf,stC,-Bool.exists_bool,-List.map_take,-Prod.forall,-Prod.exists]
    refine ⟨_,_,_,h1,T.c_Web,T.n_names,_,rfl,_,.inr (SqT.of h2),q⟩
def sp_ties (C:Addr):Sp:=fun vs H Q _=>∃o xs ps,vs=[.ref o]∧WebAt C H o xs ps∧∀l tv,H l=none→TupsAt H tv ps→Q (.ref l) (upd H l (.lst tv))
theorem ok_Web_ties (T:Txt K mg a):FnOk P w K mg base CX0 1 a.f_Web_ties a.fd_Web_ties ["self"] (sp_ties a.C_Web):=by
  refine T.F_Web_ties.okL sc_Web_ties (fun vs H Q E h=>?_) (fun cdv A outer s H vs Q E hr h=>?_)
  · obtain ⟨o,xs,ps,rfl,_⟩:=h
    rfl
  · obtain ⟨o,xs,ps,rfl,⟨dx,n,m,tv,h1,h2,h3,h4,h5⟩,q⟩:=h
    refine ⟨_,(pss_one (ps_ret (pe_callTy (flistOfk (K:=K) rfl) rfl T.nm.list boot_list (pa_cons (PE.eqv (pe_fldk (K:=K) rfl (fpv 0) rfl) (fFld_eq _ _ _)) pa_nil)))),?_⟩
    simp -dsimp[cxOf,stC,-Bool.exists_bool,-List.map_take,-Prod.forall,-Prod.exists]
    refine ⟨_,_,_,h1,T.c_Web,T.n_pairs,_,rfl,_,.inr (SqT.of h3),fun l hl=>q l tv hl h4⟩
theorem Pot.upd {p q:Addr} {H:Hp} {u:HO} (x:Pot H p) (h:p≠q):Pot (L2.upd H q u) p:=by
  obtain ⟨a,b,e,r⟩:=x
  exact ⟨a,b,by rw [upd_ne h];exact e,r⟩
theorem Pot.ne {p q:Addr} {H:Hp} (x:Pot H p) (h:H q=none):p≠q:=by
  obtain ⟨a,b,e,r⟩:=x
  exact ne_of_none e h
theorem Pot.none {p b:Addr} {H H':Hp} (x:But p H H') (hp:Pot H' p) (h:H' b = .none):H b = .none:=by
  obtain ⟨a,b,e,r⟩:=hp
  exact x.none e h
def sp_mixed:Sp:=fun vs H Q _=>∃p l xs,vs=[.ref p,.ref l]∧Pot H p∧l≠p∧H l=some (.lst xs)∧xs.length≤100∧∀r ys H',H r=none→H' r=some (.lst ys)→ys.Perm xs→Pot H' p→But p H H'→Q (.ref r) H'
theorem ok_mixed (T:Txt K mg a):FnOk P w K mg base CX0 2 a.f_mixed a.fd_mixed ["_law_pot_here", "_law_things"] sp_mixed:=by
  refine T.F_mixed.okL sc_mixed (fun vs H Q E h=>?_) (fun cdv A outer s H vs Q E hr h=>?_)
  · obtain ⟨p,l,xs,rfl,_⟩:=h
    rfl
  · obtain ⟨p,l,xs,rfl,hp,hlp,hl,h100,q⟩:=h
    refine ⟨_,(pss_cons (ps_set (i:=2) sc_mixed.nd rfl (Or.inl rfl) (pe_lst pa_nil))
      (pss_cons (ps_for PassesOwn.never rfl (PI.eqv (pi_listk (K:=K) rfl (fpv 1)) (fiList_eq _ _)) (pg_name (i:=3) sc_mixed.nd rfl (Or.inl rfl))
      (pss_one (ps_expr (pe_bmk (K:=K) rfl PySem.F.plainAttrs_list PySem.F.slot_list_insert PySem.F.type_list_insert fmt_insert (fpv 2) (pa_cons (PE.eqv (pe_call (ok_take (K:=K) T) (hr.mono (by decide)) rfl T.m_take T.F_take.kp T.b_take .nil pass0 (pa_cons (fpv 0) (pa_cons (pe_op fop_add (pe_callB (flenQk (K:=K) rfl) rfl T.nm.len PySem.boot_len (pa_cons (fpv 2) pa_nil)) pe_int) pa_nil))) (fCall_eq _ _ _)) (pa_cons (fpv 3) pa_nil))))))
      (pss_one (ps_ret (fpv 2))))),?_⟩
    have h4':100<sizeLine:=by decide
    simp -dsimp[cxOf,stC,-Bool.exists_bool,-List.map_take,-Prod.forall,-Prod.exists]
    intro r hr0
    have hpr:p≠r:=hp.ne hr0
    refine ⟨⟨_,SqL.of (upd_old hl hr0)⟩,frL xs (fun i σ H'=>∃v ys,σ=[some (.ref p),some (.ref l),some (.ref r),v]∧H' r=some (.lst ys)∧ys.Perm (xs.take i)∧Pot H' p∧But p H H') ⟨none,[],rfl,upd_same,by simp,hp.upd hpr,(But.refl _ _).new hr0⟩ (fun i σ H' _ ⟨_,_,_,_,_,_,hb⟩=>SqL.of (hb _ _ hlp hl)) ?_ ?_⟩
    · rintro i x σ H' hi ⟨v,ys,rfl,hr',hperm,hP,hB⟩
      have hi2:i<xs.length:=(List.getElem?_eq_some_iff.mp hi).1
      have hly:ys.length=i:=by
        have:=hperm.length_eq
        simp at this
        omega
      simp -dsimp[cxOf,stC,-Bool.exists_bool,-List.map_take,-Prod.forall,-Prod.exists]
      refine ⟨⟨_,SqL.of hr'⟩,ys,.inl (SqL.of hr'),p,_,rfl,hP,by omega,by omega,fun d H1 hd0 hd1 hP1 hB1=>?_⟩
      have hr1:H1 r=some (.lst ys):=hB1 _ _ (Ne.symm hpr) hr'
      simp -dsimp[cxOf,stC,-Bool.exists_bool,-List.map_take,-Prod.forall,-Prod.exists]
      refine ⟨ys,hr1,hd0,by omega,by omega,_,upd_same,?_,hP1.upd hpr,(hB.trans hB1).new hr0⟩
      · rw [take_one hi]
        have e:(ys.take d.toNat++x::ys.drop d.toNat).Perm (x::ys):=by
          refine List.perm_middle.trans ?_
          rw [List.take_append_drop]
        exact e.trans ((List.Perm.cons x hperm).trans (List.perm_append_singleton x _).symm)
    · rintro σ H' ⟨v,ys,rfl,hr',hperm,hP,hB⟩
      rw [List.take_length] at hperm
      simp -dsimp[cxOf,stC,-Bool.exists_bool,-List.map_take,-Prod.forall,-Prod.exists]
      exact q r ys H' hr0 hr' hperm hP hB
def sp_tie:Sp:=fun vs H Q _=>∃(p l:Addr) (xs:List Str),vs=[.ref p,.ref l]∧Pot H p∧l≠p∧H l=some (.lst (xs.map V.str))∧2≤xs.length∧xs.length≤9∧xs.Nodup∧∀t x y H',H t=none→H' t=some (.tup [.str x,.str y])→x∈xs→y∈xs→x≠y→Pot H' p→But p H H'→Q (.ref t) H'
theorem ok_tie (T:Txt K mg a):FnOk P w K mg base CX0 2 a.f_tie a.fd_tie ["_law_pot_here", "_law_names_here"] sp_tie:=by
  refine T.F_tie.okL sc_tie (fun vs H Q E h=>?_) (fun cdv A outer s H vs Q E hr h=>?_)
  · obtain ⟨p,l,xs,rfl,_⟩:=h
    rfl
  · obtain ⟨p,l,xs,rfl,hp,hlp,hl,h2,h9,hnd,q⟩:=h
    refine ⟨_,(pss_cons (ps_set (i:=2) sc_tie.nd rfl (Or.inl rfl) (PE.eqv (pe_call (ok_take (K:=K) T) (hr.mono (by decide)) rfl T.m_take T.F_take.kp T.b_take .nil pass0 (pa_cons (fpv 0) (pa_cons (pe_callB (flenQk (K:=K) rfl) rfl T.nm.len PySem.boot_len (pa_cons (fpv 1) pa_nil)) pa_nil))) (fCall_eq _ _ _)))
      (pss_cons (ps_set (i:=3) sc_tie.nd rfl (Or.inl rfl) (pe_op fop_mod (pe_op fop_add (pe_op fop_add (fpv 2) pe_int) (PE.eqv (pe_call (ok_take (K:=K) T) (hr.mono (by decide)) rfl T.m_take T.F_take.kp T.b_take .nil pass0 (pa_cons (fpv 0) (pa_cons (pe_op fop_sub (pe_callB (flenQk (K:=K) rfl) rfl T.nm.len PySem.boot_len (pa_cons (fpv 1) pa_nil)) pe_int) pa_nil))) (fCall_eq _ _ _))) (pe_callB (flenQk (K:=K) rfl) rfl T.nm.len PySem.boot_len (pa_cons (fpv 1) pa_nil))))
      (pss_one (ps_ret (pe_tup (pa_cons (pe_ix (fixQk (K:=K) rfl) (fpv 1) (fpv 2) (fun _ _=>rfl)) (pa_cons (pe_ix (fixQk (K:=K) rfl) (fpv 1) (fpv 3) (fun _ _=>rfl)) pa_nil))))))),?_⟩
    simp -dsimp[cxOf,stC,-Bool.exists_bool,-List.map_take,-Prod.forall,-Prod.exists]
    refine ⟨_,.inl (SqL.of hl),p,_,rfl,hp,by simp;omega,by simp;omega,fun d H1 hd0 hd1 hP1 hB1=>?_⟩
    have hl1:=hB1 _ _ hlp hl
    simp -dsimp[cxOf,stC,-Bool.exists_bool,-List.map_take,-Prod.forall,-Prod.exists]
    refine ⟨_,.inl (SqL.of hl1),p,_,rfl,hP1,by simp;omega,by simp;omega,fun e H2 he0 he1 hP2 hB2=>?_⟩
    have hl2:=hB2 _ _ hlp hl1
    simp only [List.length_map] at hd1 he1
    obtain ⟨m0,m1,m2⟩:=mod_ne hd0 hd1 he0 he1
    obtain ⟨vx,ex,ax⟩:=atI_int (xs:=xs.map V.str) hd0 (by simpa using hd1)
    obtain ⟨vy,ey,ay⟩:=atI_int (xs:=xs.map V.str) m0 (by simpa using m1)
    obtain ⟨x,ex',rfl⟩:=str_at ex
    obtain ⟨y,ey',rfl⟩:=str_at ey
    have sl:=SqL.of (K:=K) hl2
    simp -dsimp[cxOf,stC,-Bool.exists_bool,-List.map_take,-Prod.forall,-Prod.exists]
    refine ⟨_,.inl sl,by simp;omega,_,.inl sl,_,ax,_,.inl sl,_,(by simpa using ay),fun t ht=>?_⟩
    refine q t x y _ (Pot.none (hB1.trans hB2) hP2 ht) upd_same (List.mem_of_getElem? ex') (List.mem_of_getElem? ey') (fun z=>?_) (hP2.upd (hP2.ne ht)) ((hB1.trans hB2).same (same_upd ht))
    subst z
    have:=nodup_at hnd ex' ey'
    omega
def sp_names:Sp:=fun vs H Q _=>∃(p:Addr) (m:Nat),vs=[.ref p,.int m]∧Pot H p∧1≤m∧m≤9∧∀(r:Addr) (xs:List Str) (H':Hp),H r=none→H' r=some (.lst (xs.map V.str))→Pts xs→xs.length=m→Pot H' p→But p H H'→Q (.ref r) H'
theorem ok_names (T:Txt K mg a):FnOk P w K mg base CX0 2 a.f_names a.fd_names ["_law_pot_here", "_law_many_here"] sp_names:=by
  refine T.F_names.okL sc_names (fun vs H Q E h=>?_) (fun cdv A outer s H vs Q E hr h=>?_)
  · obtain ⟨p,m,rfl,_⟩:=h
    rfl
  · obtain ⟨p,m,rfl,hp,h1,h9,q⟩:=h
    refine ⟨_,(pss_cons (ps_set (i:=2) sc_names.nd rfl (Or.inr rfl) pe_str)
      (pss_cons (ps_set (i:=3) sc_names.nd rfl (Or.inl rfl) (PE.eqv (pe_call (ok_take (K:=K) T) (hr.mono (by decide)) rfl T.m_take T.F_take.kp T.b_take .nil pass0 (pa_cons (fpv 0) (pa_cons pe_int pa_nil))) (fCall_eq _ _ _)))
      (pss_cons (ps_set (i:=4) sc_names.nd rfl (Or.inl rfl) (pe_lst pa_nil))
      (pss_cons (ps_for PassesOwn.never rfl (PI.eqv (pi_range1 rfl T.nm.range (pa_cons (fpv 1) pa_nil)) (fiRng1_eq _)) (pg_name (i:=5) sc_names.nd rfl (Or.inl rfl))
      (pss_cons (ps_set (i:=6) sc_names.nd rfl (Or.inl rfl) (PE.eqv (pe_call (ok_take (K:=K) T) (hr.mono (by decide)) rfl T.m_take T.F_take.kp T.b_take .nil pass0 (pa_cons (fpv 0) (pa_cons pe_int pa_nil))) (fCall_eq _ _ _)))
      (pss_cons (ps_set (i:=7) sc_names.nd rfl (Or.inl rfl) (pe_bmk (K:=K) rfl PySem.F.plainAttrs_str PySem.F.slot_str_join PySem.F.type_str_join fmt_join pe_str (pa_cons (pe_comp rfl rfl (show CompScope (defScope s_names) _ ["_law_pot_here", "_law_many_here", "_law_letters", "_law_begin", "_law_found", "_law_k", "_law_size", "_law_more"] ["_law_j"] [2,0] ["_law_j", "_law_letters", "_law_pot_here"] from ⟨rfl,by decide +kernel,by decide +kernel,rfl,by decide +kernel,by decide +kernel⟩) rfl (PI.eqv (pi_range1 rfl T.nm.range (pa_cons (fpv 6) pa_nil)) (fiRng1_eq _)) (fun C s H fp pn=>(pg_name (i:=0) (show (["_law_j", "_law_letters", "_law_pot_here"]:List Str).Nodup by decide +kernel) rfl (Or.inl rfl))) (fun C s H fp pn=>pts_nil) (fun C s H fp pn=>(pe_ix fix_str (fpv 1) (PE.eqv (pe_call (ok_take (K:=K) T) (hr.mono (by decide)) rfl T.m_take T.F_take.kp T.b_take .nil pass0 (pa_cons (fpv 2) (pa_cons pe_int pa_nil))) (fCall_eq _ _ _)) (fun _ _=>rfl)))) pa_nil)))
      (pss_one (ps_expr (pe_bmk (K:=K) rfl PySem.F.plainAttrs_list PySem.F.slot_list_append PySem.F.type_list_append fmt_append (fpv 4) (pa_cons (pe_op fop_add_str (pe_ix fix_str (fpv 2) (pe_op fop_mod (pe_op fop_add (fpv 3) (pe_op fop_mul pe_int (fpv 5))) pe_int) (fun _ _=>rfl)) (fpv 7)) pa_nil)))))))
      (pss_one (ps_ret (fpv 4))))))),?_⟩
    simp -dsimp[cxOf,stC,-Bool.exists_bool,-List.map_take,-Prod.forall,-Prod.exists]
    refine ⟨p,_,rfl,hp,by decide,by decide,fun d H1 hd0 hd1 hP1 hB1=>?_⟩
    obtain ⟨b,rfl,hb26,hbl⟩:=letters_int hd0 hd1
    have hP2:=hP1
    have hB2:=hB1
    simp -dsimp[cxOf,stC,-Bool.exists_bool,-List.map_take,-Prod.forall,-Prod.exists]
    intro r hr0
    refine ⟨zlt h9 (by decide),frR (fun i σ H'=>∃v8 v9 v10 ws,σ=[some (.ref p),some (.int m),some (.str (Str.ofString "abcdefghijklmnopqrstuvwxyz")),some (.int b),some (.ref r),v8,v9,v10]∧H' r=some (.lst (ws.map V.str))∧ws.length=i∧(∀(j:Nat) x,ws[j]? = some x→∃k,1≤k∧k≤4∧WordOf (97+(b+5 * j) % 26) k x)∧Pot H' p∧But p H H') ⟨none,none,none,[],rfl,upd_same,rfl,fun j x e=>by simp at e,hP2.upd (hP2.ne hr0),hB2.same (same_upd hr0)⟩ ?_ ?_⟩
    · rintro i σ H' hi ⟨v8,v9,v10,ws,rfl,hr',hl,hw,hP,hB⟩
      simp -dsimp[cxOf,stC,-Bool.exists_bool,-List.map_take,-Prod.forall,-Prod.exists]
      obtain ⟨c,hc,hc26,hcl⟩:=letters_int (i:=((b:Int)+5 * i) % 26) zn1 zn2
      have hc':c=(b+5 * i) % 26:=zn3 hc
      have pr:r≠p:=fun z=>by subst z;obtain ⟨_,_,u,_⟩:=hP2;rw [hr0] at u;cases u
      refine ⟨p,_,rfl,hP,by decide,by decide,fun e H3 he0 he1 hP3 hB3=>?_⟩
      simp -dsimp[cxOf,stC,-Bool.exists_bool,-List.map_take,-Prod.forall,-Prod.exists]
      have hDr:∀{D:Addr},H3 D=none→r≠D:=fun hD=>ne_of_none (hB3 _ _ pr hr') hD
      refine ⟨zlo he0,zhi he1 (by decide),fun D hD=>cmR (fun j σ H4=>∃v ys,σ=[v,some (.str (Str.ofString "abcdefghijklmnopqrstuvwxyz")),some (.ref p)]∧H4 D=some (.lst (ys.map V.str))∧H4 r=some (.lst (ws.map V.str))∧ys.length=j∧(∀y∈ys,∃n,n<26∧y=(⟨#[97+n]⟩:Str))∧Pot H4 p∧But p H H4) ⟨_,[],rfl,upd_same,upd_old (hB3 _ _ pr hr') hD,rfl,by simp,hP3.upd (hP3.ne hD),(hB.trans hB3).same (same_upd hD)⟩ ?_ ?_⟩
      · rintro j σ H4 hj ⟨v,ys,rfl,hD4,hr4,hyl,hys,hP4,hB4⟩
        have hDp:D≠p:=(hP3.ne hD).symm
        simp -dsimp[cxOf,stC,-Bool.exists_bool,-List.map_take,-Prod.forall,-Prod.exists]
        refine ⟨p,_,rfl,hP4,by decide,by decide,fun f H5 hf0 hf1 hP5 hB5=>?_⟩
        obtain ⟨n,rfl,hn26,hnl⟩:=letters_int hf0 hf1
        simp -dsimp[cxOf,stC,-Bool.exists_bool,-List.map_take,-Prod.forall,-Prod.exists,letters_len,hnl]
        have s20:=of_eq_true sz20
        refine ⟨_,hB5 _ _ hDp hD4,by rw [List.length_map];exact zn4 hj he1 hyl,ys++[⟨#[97+n]⟩],by rw [upd_same];simp,by rw [upd_ne (hDr hD)];exact hB5 _ _ pr hr4,by simp [hyl],fun y hy=>?_,hP5.upd hDp.symm,(hB4.trans hB5).new (Pot.none (hB.trans hB3) hP3 hD)⟩
        rcases List.mem_append.mp hy with hy | hy
        ·exact hys y hy
        ·exact ⟨n,hn26,by simpa using hy⟩
      · rintro σ H4 ⟨v,ys,rfl,hD4,hr4,hyl,hys,hP4,hB4⟩
        have hy3:=one_letters ys hys
        simp -dsimp[cxOf,stC,-Bool.exists_bool,-List.map_take,-Prod.forall,-Prod.exists]
        have hw4:=(WordOf.one hc26).glue (by decide) hys
        have s20:=of_eq_true sz20
        refine ⟨ys,hD4,by rw [hy3.2.2];exact zn5 hyl he1,?_⟩
        simp -dsimp[cxOf,stC,-Bool.exists_bool,-List.map_take,-Prod.forall,-Prod.exists,letters_len,hcl]
        have hlen:(⟨#[97+c]⟩:Str).length+(Txt.join (Str.ofString "") ys).length=1+ys.length:=by
          rw [← hw4.len]
          exact (Array.size_append).symm
        refine ⟨⟨_,SqL.of hr4⟩,by rw [hlen];exact zsz' (zn6 hyl he1) (by decide),_,hr4,by rw [List.length_map,hl];exact zsz hi (Nat.le_trans h9 (by decide)),ws++[_],by rw [upd_same];simp;rfl,by simp [hl],fun j y e=>?_,hP4.upd pr.symm,hB4.new (Pot.none hB2 hP2 hr0)⟩
        by_cases hj:j<ws.length
        · rw [List.getElem?_append_left hj] at e
          exact hw j y e
        · rw [List.getElem?_append_right (Nat.not_lt.mp hj)] at e
          cases hk:j - ws.length with
          | zero=>
            rw [hk] at e
            simp at e
            subst e
            have ej:j=i:=(zn8 hj hk).trans hl
            subst ej
            exact ⟨1+ys.length,Nat.le_add_right 1 _,zn6 hyl he1,by rw [← hc'];exact hw4⟩
          | succ k=>
            rw [hk] at e
            simp at e
    · rintro σ H' ⟨v8,v9,v10,ws,rfl,hr',hl,hw,hP,hB⟩
      simp -dsimp[cxOf,stC,-Bool.exists_bool,-List.map_take,-Prod.forall,-Prod.exists]
      have nd:ws.Nodup:=by
        unfold List.Nodup
        rw [List.pairwise_iff_getElem]
        intro i j hi hj hij e
        obtain ⟨k1,_,_,w1⟩:=hw i _ (by simp [hi]:ws[i]? = some ws[i])
        obtain ⟨k2,_,_,w2⟩:=hw j _ (by simp [hj]:ws[j]? = some ws[j])
        have z:=w1.fst
        rw [e,w2.fst] at z
        simp at z
        exact zn7 hi hj hij (by rw [hl];exact h9) z
      refine q r ws H' (Pot.none hB2 hP2 hr0) hr' ⟨⟨by rw [hl];exact h1,by rw [hl];exact h9⟩,fun x hx=>?_,nd⟩ hl hP hB
      obtain ⟨j,hj,e⟩:=List.mem_iff_getElem.mp hx
      obtain ⟨k,k1,k4,w⟩:=hw j x (by simp [hj,e])
      exact w.name k1 k4
theorem TupsAt.perm {H:Hp} {vs ys:List V} {ps:List (Str×Str)} (h:TupsAt H vs ps) (hp:ys.Perm vs):∃qs:List (Str×Str),TupsAt H ys qs∧qs.Perm ps:=by
  have e1:vs=(vs.zip ps).map (·.1):=by rw [List.map_fst_zip (by rw [h.1];exact Nat.le_refl _)]
  have e2:ps=(vs.zip ps).map (·.2):=by rw [List.map_snd_zip (by rw [h.1];exact Nat.le_refl _)]
  obtain ⟨l',pl,e⟩:=perm_map_inv hp _ e1
  refine ⟨l'.map (·.2),⟨by rw [e];simp,fun i v d h1 h2=>?_⟩,by rw [e2];exact pl.map _⟩
  rw [e,List.getElem?_map] at h1
  rw [List.getElem?_map] at h2
  cases hz:l'[i]? with
  | none=>rw [hz] at h1;cases h1
  | some z=>
    rw [hz] at h1 h2
    cases h1
    cases h2
    have hm:z∈vs.zip ps:=pl.mem_iff.mp (List.mem_of_getElem? hz)
    obtain ⟨j,hj,ez⟩:=List.mem_iff_getElem.mp hm
    have hj':j<vs.length∧j<ps.length:=by
      simp at hj
      omega
    simp at ez
    subst ez
    exact h.2 j _ _ (by simp [hj'.1]) (by simp [hj'.2])
theorem TupsAt.at {H:Hp} {vs:List V} {ps:List (Str×Str)} (h:TupsAt H vs ps) {i:Nat} {v:V} (hv:vs[i]? = some v):∃e,ps[i]? = some e∧∃t,v = .ref t∧H t=some (.tup [.str e.1,.str e.2]):=by
  have hi:i<ps.length:=by rw [← h.1];exact (List.getElem?_eq_some_iff.mp hv).1
  exact ⟨ps[i],by simp [hi],h.2 i v _ hv (by simp [hi])⟩
theorem TupsAt.but {p:Addr} {H H':Hp} {vs:List V} {ps:List (Str×Str)} (h:TupsAt H vs ps) (hp:Pot H p) (b:But p H H'):TupsAt H' vs ps:=h.keep fun c xs e=>b c _ (fun z=>by
  subst z
  obtain ⟨_,_,u,_⟩:=hp
  rw [e] at u
  cases u) e
theorem TupsAt.same {H H':Hp} {vs:List V} {ps:List (Str×Str)} (h:TupsAt H vs ps) (b:Same H H'):TupsAt H' vs ps:=h.keep fun c xs e=>b c _ e
theorem Pot.nl {p q:Addr} {H:Hp} (x:Pot H p) (h:H q = .none):q≠p:=fun z=>(x.ne h) z.symm
def sp_web:Sp:=fun vs H Q _=>∃(p:Addr) (m k:Nat),vs=[.ref p,.int m,.int k]∧Pot H p∧1≤m∧m≤9∧m≤k∧k≤20∧∀(t n l:Addr) (xs:List Str) (tv:List V) (ps:List (Str×Str)) (H':Hp),
  H t=none→H n=none→H l=none→H' t=some (.tup [.ref n,.ref l])→H' n=some (.lst (xs.map V.str))→H' l=some (.lst tv)→TupsAt H' tv ps→Pts xs→Ties xs ps→xs.length≤m→ps.length≤k→Pot H' p→But p H H'→Q (.ref t) H'
theorem ok_web (T:Txt K mg a):FnOk P w K mg base CX0 3 a.f_web a.fd_web ["_law_pot_here", "_law_points", "_law_most"] sp_web:=by
  refine T.F_web.okL sc_web (fun vs H Q E h=>?_) (fun cdv A outer s H vs Q E hr h=>?_)
  · obtain ⟨p,m,k,rfl,_⟩:=h
    rfl
  · obtain ⟨p,m,k,rfl,hp,h1,h9,hmk,hk,q⟩:=h
    refine ⟨_,(pss_cons (ps_set (i:=3) sc_web.nd rfl (Or.inl rfl) (PE.eqv (pe_call (ok_names (K:=K) T) (hr.mono (by decide)) rfl T.m_names T.F_names.kp T.b_names .nil pass0 (pa_cons (fpv 0) (pa_cons (pe_op fop_add pe_int (PE.eqv (pe_call (ok_take (K:=K) T) (hr.mono (by decide)) rfl T.m_take T.F_take.kp T.b_take .nil pass0 (pa_cons (fpv 0) (pa_cons (fpv 1) pa_nil))) (fCall_eq _ _ _))) pa_nil))) (fCall_eq _ _ _)))
      (pss_cons (ps_set (i:=4) sc_web.nd rfl (Or.inl rfl) (PE.eqv (pe_call (ok_take (K:=K) T) (hr.mono (by decide)) rfl T.m_take T.F_take.kp T.b_take .nil pass0 (pa_cons (fpv 0) (pa_cons pe_int pa_nil))) (fCall_eq _ _ _)))
      (pss_cons (ps_set (i:=5) sc_web.nd rfl (Or.inl rfl) (pe_lst pa_nil))
      (pss_cons (ps_if (fpt_cmpR fop_gt (pe_callB (flenQk (K:=K) rfl) rfl T.nm.len PySem.boot_len (pa_cons (fpv 3) pa_nil)) pe_int (nomark _)) (pss_cons (ps_set (i:=6) sc_web.nd rfl (Or.inr rfl) (PE.eqv (pe_call (ok_mixed (K:=K) T) (hr.mono (by decide)) rfl T.m_mixed T.F_mixed.kp T.b_mixed .nil pass0 (pa_cons (fpv 0) (pa_cons (fpv 3) pa_nil))) (fCall_eq _ _ _)))
      (pss_cons (ps_if (fpt_cmpR fop_gt (fpv 4) pe_int (nomark _)) (pss_one (ps_setComp (i:=5) sc_web.nd rfl rfl rfl rfl (show CompScope (defScope s_web) _ ["_law_pot_here", "_law_points", "_law_most", "_law_names_here", "_law_kind", "_law_ties", "_law_row", "_law_k", "_law_turns"] ["_law_k"] [6] ["_law_k", "_law_row"] from ⟨rfl,by decide +kernel,by decide +kernel,rfl,by decide +kernel,by decide +kernel⟩) rfl (PI.eqv (pi_range2 rfl T.nm.range (pa_cons (pe_callTy fcall_int1 rfl T.nm.int boot_intT (pa_cons (pe_cmpR fop_eq (fpv 4) pe_int (nomark _)) pa_nil)) (pa_cons (pe_callB (flenQk (K:=K) rfl) rfl T.nm.len PySem.boot_len (pa_cons (fpv 6) pa_nil)) pa_nil))) (fiRng2_eq _)) (fun C s H fp pn=>(pg_name (i:=0) (show (["_law_k", "_law_row"]:List Str).Nodup by decide +kernel) rfl (Or.inl rfl))) (fun C s H fp pn=>pts_nil) (fun C s H fp pn=>(pe_tup (pa_cons (pe_ix (fixQk (K:=K) rfl) (fpv 1) (pe_op fop_sub (fpv 0) pe_int) (fun _ _=>rfl)) (pa_cons (pe_ix (fixQk (K:=K) rfl) (fpv 1) (fpv 0) (fun _ _=>rfl)) pa_nil)))))) pss_nil)
      (pss_one (ps_for PassesOwn.never rfl (PI.eqv (pi_range1 rfl T.nm.range (pa_cons (PE.eqv (pe_call (ok_take (K:=K) T) (hr.mono (by decide)) rfl T.m_take T.F_take.kp T.b_take .nil pass0 (pa_cons (fpv 0) (pa_cons (pe_op fop_add (pe_op fop_sub (fpv 2) (pe_callB (flenQk (K:=K) rfl) rfl T.nm.len PySem.boot_len (pa_cons (fpv 5) pa_nil))) pe_int) pa_nil))) (fCall_eq _ _ _)) pa_nil)) (fiRng1_eq _)) (pg_name (i:=7) sc_web.nd rfl (Or.inl rfl))
      (pss_one (ps_expr (pe_bmk (K:=K) rfl PySem.F.plainAttrs_list PySem.F.slot_list_append PySem.F.type_list_append fmt_append (fpv 5) (pa_cons (PE.eqv (pe_call (ok_tie (K:=K) T) (hr.mono (by decide)) rfl T.m_tie T.F_tie.kp T.b_tie .nil pass0 (pa_cons (fpv 0) (pa_cons (fpv 3) pa_nil))) (fCall_eq _ _ _)) pa_nil)))))))) pss_nil)
      (pss_cons (ps_setComp (i:=8) sc_web.nd rfl rfl rfl rfl (show CompScope (defScope s_web) _ ["_law_pot_here", "_law_points", "_law_most", "_law_names_here", "_law_kind", "_law_ties", "_law_row", "_law_k", "_law_turns"] ["_law_tie_here"] [0] ["_law_tie_here", "_law_pot_here"] from ⟨rfl,by decide +kernel,by decide +kernel,rfl,by decide +kernel,by decide +kernel⟩) rfl (PI.eqv (pi_listk (K:=K) rfl (fpv 5)) (fiList_eq _ _)) (fun C s H fp pn=>(pg_name (i:=0) (show (["_law_tie_here", "_law_pot_here"]:List Str).Nodup by decide +kernel) rfl (Or.inl rfl))) (fun C s H fp pn=>pts_nil) (fun C s H fp pn=>(PE.eqv (pe_call (ok_take (K:=K) T) (hr.mono (by decide)) rfl T.m_take T.F_take.kp T.b_take .nil pass0 (pa_cons (fpv 1) (pa_cons pe_int pa_nil))) (fCall_eq _ _ _))))
      (pss_cons (ps_setComp (i:=5) sc_web.nd rfl rfl rfl rfl (show CompScope (defScope s_web) _ ["_law_pot_here", "_law_points", "_law_most", "_law_names_here", "_law_kind", "_law_ties", "_law_row", "_law_k", "_law_turns"] ["_law_turn", "_law_a", "_law_b"] [] ["_law_turn", "_law_a", "_law_b"] from ⟨rfl,by decide +kernel,by decide +kernel,rfl,by decide +kernel,by decide +kernel⟩) rfl (PI.eqv (pi_zipk (K:=K) rfl rfl T.nm.zip (pa_cons (fpv 5) (pa_cons (fpv 8) pa_nil))) (fiZip_eq _ _)) (fun C s H fp pn=>(PG.eqv (pg_tupk (K:=K) (n:=2) rfl rfl (PGs.eqv (pgs_cons (PG.eqv (pg_tupk (K:=K) (n:=2) rfl rfl (PGs.eqv (pgs_cons (pg_name (i:=1) (show (["_law_turn", "_law_a", "_law_b"]:List Str).Nodup by decide +kernel) rfl (Or.inl rfl)) (PGs.eqv (pgs_cons (pg_name (i:=2) (show (["_law_turn", "_law_a", "_law_b"]:List Str).Nodup by decide +kernel) rfl (Or.inl rfl)) (PGs.mono pgs_nil fNil_t)) (fCons_eq _ _))) (fCons_eq _ _))) (fTup_eq _ _ _)) (PGs.eqv (pgs_cons (pg_name (i:=0) (show (["_law_turn", "_law_a", "_law_b"]:List Str).Nodup by decide +kernel) rfl (Or.inl rfl)) (PGs.mono pgs_nil fNil_t)) (fCons_eq _ _))) (fCons_eq _ _))) (fTup_eq _ _ _))) (fun C s H fp pn=>pts_nil) (fun C s H fp pn=>(pe_ix (fixQk (K:=K) rfl) (pe_lst (pa_cons (pe_tup (pa_cons (fpv 1) (pa_cons (fpv 2) pa_nil))) (pa_cons (pe_tup (pa_cons (fpv 2) (pa_cons (fpv 1) pa_nil))) pa_nil))) (fpv 0) (fun _ _=>rfl))))
      (pss_one (ps_ret (pe_tup (pa_cons (fpv 3) (pa_cons (PE.eqv (pe_call (ok_mixed (K:=K) T) (hr.mono (by decide)) rfl T.m_mixed T.F_mixed.kp T.b_mixed .nil pass0 (pa_cons (fpv 0) (pa_cons (fpv 5) pa_nil))) (fCall_eq _ _ _)) pa_nil))))))))))),?_⟩
    simp -dsimp[cxOf,stC,-Bool.exists_bool,-List.map_take,-Prod.forall,-Prod.exists]
    refine ⟨p,_,rfl,hp,zpos h1,zlt h9 (by decide),fun d H1 hd0 hd1 hP1 hB1=>?_⟩
    simp -dsimp[cxOf,stC,-Bool.exists_bool,-List.map_take,-Prod.forall,-Prod.exists]
    refine ⟨p,d.toNat+1,?_,hP1,Nat.le_add_left 1 _,ztn hd0 hd1 h9,fun n xs H2 hn hn2 hX hxl hP2 hB2'=>?_⟩
    · simp
      exact zmax hd0 1
    have hxm:xs.length≤m:=by rw [hxl];exact ztn hd0 hd1 (Nat.le_refl m)
    have hx9:=Nat.le_trans hxm h9
    have hB2:=hB1.trans hB2'
    simp -dsimp[cxOf,stC,-Bool.exists_bool,-List.map_take,-Prod.forall,-Prod.exists]
    refine ⟨p,_,rfl,hP2,by decide,by decide,fun kd H3 hk0 hk1 hP3 hB3'=>?_⟩
    have hB3:=hB2.trans hB3'
    have np:n≠p:=fun z=>by subst z;obtain ⟨_,_,u,_⟩:=hP1;rw [hn] at u;cases u
    have hn3:=hB3' _ _ np hn2
    simp -dsimp[cxOf,stC,-Bool.exists_bool,-List.map_take,-Prod.forall,-Prod.exists]
    refine fun L hL=>⟨_,.inl (SqL.of (upd_old hn3 hL)),tBr_join (fun σ H4=>∃v6 v7 L tv ps,σ=[some (.ref p),some (.int m),some (.int k),some (.ref n),some (.int kd),some (.ref L),v6,v7,none]∧H L=none∧H4 L=some (.lst tv)∧TupsAt H4 tv ps∧Ties xs ps∧ps.length≤k∧H4 n=some (.lst (xs.map V.str))∧Pot H4 p∧But p H H4) ?_ ?_⟩
    · rintro σ H4 ⟨v6,v7,L,tv,ps,rfl,hL0,hL4,htv,hts,hpk,hn4,hP4,hB4⟩
      simp -dsimp[cxOf,stC,-Bool.exists_bool,-List.map_take,-Prod.forall,-Prod.exists]
      have Lp:L≠p:=hp.nl hL0
      have hL20:tv.length≤20:=by rw [htv.1];exact Nat.le_trans hpk hk
      have s20:=of_eq_true sz20
      refine ⟨⟨_,SqL.of hL4⟩,fun D hD=>cmL tv (fun i σ H'=>∃v ds,σ=[v,some (.ref p)]∧H' D=some (.lst (ds.map V.int))∧ds.length=i∧(∀d∈ds,0≤d∧d<2)∧H' L=some (.lst tv)∧TupsAt H' tv ps∧H' n=some (.lst (xs.map V.str))∧Pot H' p∧But p H H') ⟨none,[],rfl,upd_same,rfl,by simp,upd_old hL4 hD,htv.same (same_upd hD),upd_old hn4 hD,hP4.upd (hP4.ne hD),hB4.same (same_upd hD)⟩ (fun i σ H' _ h=>by
        obtain ⟨_,_,_,_,_,_,z,_⟩:=h
        exact SqL.of z) ?_ ?_⟩
      · rintro i x σ H5 hi ⟨v,ds,rfl,hD5,hl,hds,hL5,htv5,hn5,hP5,hB5⟩
        have hi2:i<tv.length:=(List.getElem?_eq_some_iff.mp hi).1
        simp -dsimp[cxOf,stC,-Bool.exists_bool,-List.map_take,-Prod.forall,-Prod.exists]
        refine ⟨p,_,rfl,hP5,by decide,by decide,fun d H6 hd0 hd1 hP6 hB6=>?_⟩
        have Dp:D≠p:=hP4.nl hD
        have LD:L≠D:=ne_of_none hL4 hD
        have nD:n≠D:=ne_of_none hn4 hD
        have hD6:=hB6 _ _ Dp hD5
        simp -dsimp[cxOf,stC,-Bool.exists_bool,-List.map_take,-Prod.forall,-Prod.exists]
        refine ⟨_,hD6,by rw [List.length_map,hl];exact zsz hi2 hL20,ds++[d],by rw [upd_same];simp,by simp [hl],?_,by rw [upd_ne LD];exact hB6 _ _ Lp hL5,(htv5.but hP5 hB6).keep (fun c zs e=>upd_oth e hD6 (by intro z;cases z)),by rw [upd_ne nD];exact hB6 _ _ np hn5,hP6.upd (Dp.symm),(hB5.trans hB6).new (Pot.none hB4 hP4 hD)⟩
        intro z hz
        rcases List.mem_append.mp hz with y | y
        ·exact hds z y
        · simp at y
          subst y
          exact ⟨hd0,hd1⟩
      · rintro σ H5 ⟨v,ds,rfl,hD5,hl,hds,hL5,htv5,hn5,hP5,hB5⟩
        simp -dsimp[cxOf,stC,-Bool.exists_bool,-List.map_take,-Prod.forall,-Prod.exists]
        have hD0:=Pot.none hB4 hP4 hD
        have LD:L≠D:=ne_of_none hL4 hD
        refine ⟨⟨_,SqL.of hL5⟩,⟨_,SqL.of hD5⟩,fun D2 hD2=>cmZ tv (ds.map V.int) (fun i σ H'=>(∃o1 o2 o3,σ=[o1,o2,o3])∧∃tvs qs,H' D2=some (.lst tvs)∧TupsAt H' tvs qs∧qs.length=i∧(∀e∈qs,e.1∈xs∧e.2∈xs∧e.1≠e.2)∧H' L=some (.lst tv)∧H' D=some (.lst (ds.map V.int))∧TupsAt H' tv ps∧H' n=some (.lst (xs.map V.str))∧Pot H' p∧But p H H') ⟨⟨_,_,_,rfl⟩,[],[],upd_same,⟨rfl,by simp⟩,rfl,by simp,upd_old hL5 hD2,upd_old hD5 hD2,htv5.same (same_upd hD2),upd_old hn5 hD2,hP5.upd (hP5.ne hD2),hB5.same (same_upd hD2)⟩ (by simp [hl]) (fun i σ H' _ h=>by
          obtain ⟨_,_,_,_,_,_,_,z1,z2,_⟩:=h
          exact ⟨SqL.of z1,SqL.of z2⟩) ?_ ?_⟩
        · rintro i x y t σ H6 hx hy ht ⟨⟨o1,o2,o3,rfl⟩,tvs,qs,hD26,htvs,hql,hqs,hL6,hD6,htv6,hn6,hP6,hB6⟩
          simp -dsimp[cxOf,stC,-Bool.exists_bool,-List.map_take,-Prod.forall,-Prod.exists]
          obtain ⟨e,he,tt,rfl,htt⟩:=htv6.at hx
          have hi2:i<tv.length:=(List.getElem?_eq_some_iff.mp hx).1
          have hem:=List.mem_of_getElem? he
          rw [List.getElem?_map] at hy
          obtain ⟨d,hd,rfl⟩:∃d,ds[i]? = some d∧y = .int d:=by
            cases z:ds[i]? with
            | none=>rw [z] at hy;cases hy
            | some d=>rw [z] at hy;exact ⟨d,rfl,(Option.some.inj hy).symm⟩
          have hd2:=hds d (List.mem_of_getElem? hd)
          refine ⟨_,SqT.of upd_same,rfl,_,SqT.of (upd_old htt ht),rfl,?_⟩
          simp -dsimp[cxOf,stC,-Bool.exists_bool,-List.map_take,-Prod.forall,-Prod.exists]
          refine fun p1 h1 p2 h2 p3 h3=>⟨_,.inl (SqL.of upd_same),?_⟩
          have hp1:=upd_old (u:=HO.lst [V.ref p1,V.ref p2]) (upd_old (u:=HO.tup [.str e.2,.str e.1]) (upd_same (H:=upd H6 t (HO.tup [V.ref tt,V.int d])) (a:=p1) (o:=HO.tup [.str e.1,.str e.2])) h2) h3
          have hp2:=upd_old (u:=HO.lst [V.ref p1,V.ref p2]) (upd_same (H:=upd (upd H6 t (HO.tup [V.ref tt,V.int d])) p1 (HO.tup [.str e.1,.str e.2])) (a:=p2) (o:=HO.tup [.str e.2,.str e.1])) h3
          have sm:=(((same_upd (o:=HO.tup [V.ref tt,V.int d]) ht).trans (same_upd (o:=HO.tup [.str e.1,.str e.2]) h1)).trans (same_upd (o:=HO.tup [.str e.2,.str e.1]) h2)).trans (same_upd (o:=HO.lst [V.ref p1,V.ref p2]) h3)
          generalize upd (upd (upd (upd H6 t (HO.tup [V.ref tt,V.int d])) p1 (HO.tup [.str e.1,.str e.2])) p2 (HO.tup [.str e.2,.str e.1])) p3 (HO.lst [V.ref p1,V.ref p2])=H9 at hp1 hp2 sm ⊢
          have key:∃(pp:Addr) (e':Str×Str),atI [V.ref p1,V.ref p2] d=some (.ref pp)∧H9 pp=some (.tup [.str e'.1,.str e'.2])∧e'.1∈xs∧e'.2∈xs∧e'.1≠e'.2:=by
            have ⟨q1,q2,q3⟩:=hts.ok e hem
            have:d=0∨d=1:=z01 hd2.1 hd2.2
            rcases this with rfl | rfl
            ·exact ⟨p1,e,rfl,hp1,q1,q2,q3⟩
            ·exact ⟨p2,(e.2,e.1),rfl,hp2,q2,q1,Ne.symm q3⟩
          obtain ⟨pp,e',a1,hpp,k1,k2,k3⟩:=key
          have D2n:=hD2
          have D2p:D2≠p:=hP5.nl hD2
          have LD2:L≠D2:=ne_of_none hL5 hD2
          have DD2:D≠D2:=ne_of_none hD5 hD2
          have nD2:n≠D2:=ne_of_none hn5 hD2
          have hD29:=sm _ _ hD26
          have kp:TupKeep H9 (upd H9 D2 (.lst (tvs++[.ref pp]))):=fun c zs e=>upd_oth e hD29 (by intro z;cases z)
          have hP9:Pot H9 p:=by
            obtain ⟨u1,u2,u3,u4⟩:=hP6
            exact ⟨u1,u2,sm _ _ u3,u4⟩
          refine ⟨_,a1,_,hD29,?_,_,upd_same,qs++[e'],((htvs.same sm).keep kp).snoc (kp _ _ hpp),by simp [hql],?_,by rw [upd_ne LD2];exact sm _ _ hL6,by rw [upd_ne DD2];exact sm _ _ hD6,(htv6.same sm).keep kp,by rw [upd_ne nD2];exact sm _ _ hn6,hP9.upd D2p.symm,(hB6.same sm).new (Pot.none hB5 hP5 hD2)⟩
          · rw [htvs.1,hql]
            exact zsz hi2 hL20
          · intro z hz
            rcases List.mem_append.mp hz with y | y
            ·exact hqs z y
            · simp at y
              subst y
              exact ⟨k1,k2,k3⟩
        · rintro σ H6 ⟨⟨o1,o2,o3,rfl⟩,tvs,qs,hD26,htvs,hql,hqs,hL6,hD6,htv6,hn6,hP6,hB6⟩
          simp -dsimp[cxOf,stC,-Bool.exists_bool,-List.map_take,-Prod.forall,-Prod.exists]
          have D2p:D2≠p:=hP5.nl hD2
          have hD20:=Pot.none hB5 hP5 hD2
          have tl:tvs.length=tv.length:=by rw [htvs.1,hql]
          refine ⟨p,D2,_,rfl,hP6,D2p,hD26,by rw [tl];exact Nat.le_trans hL20 (by decide),fun l ys H7 hl0 hl7 hperm hP7 hB7=>?_⟩
          simp -dsimp[cxOf,stC,-Bool.exists_bool,-List.map_take,-Prod.forall,-Prod.exists]
          intro t ht
          obtain ⟨rs,hrs,hrp⟩:=(htvs.but hP6 hB7).perm hperm
          refine q t n l xs ys rs _ (Pot.none (hB6.trans hB7) hP7 ht) (Pot.none hB1 hP1 hn) (Pot.none hB6 hP6 hl0) upd_same (upd_old (hB7 _ _ np hn6) ht) (upd_old hl7 ht) (hrs.same (same_upd ht)) hX ⟨?_,fun e he=>hqs e (hrp.mem_iff.mp he)⟩ hxm ?_ (hP7.upd (hP7.ne ht)) ((hB6.trans hB7).same (same_upd ht))
          ·rw [hrp.length_eq,hql];exact hL20
          ·rw [hrp.length_eq,hql,htv.1];exact hpk
    · intro N hN
      refine tBr.of (fun h=>?_) (fun h=>?_)
      · simp -dsimp[cxOf,stC,-Bool.exists_bool,-List.map_take,-Prod.forall,-Prod.exists]
        have hx2:2≤xs.length:=by simp at h;exact z2 h
        have hn3':upd H3 L (.lst []) n=some (.lst (xs.map V.str)):=upd_old hn3 hL
        refine ⟨p,n,_,rfl,hP3.upd (hP3.ne hL),np,hn3',by rw [List.length_map];exact Nat.le_trans hx9 (by decide),fun rw ys H4 hrw hrw4 hperm hP4 hB4'=>?_⟩
        have hB4:=(hB3.same (same_upd hL)).trans hB4'
        obtain ⟨zs,hzp,rfl⟩:=perm_map_inv hperm xs rfl
        have hzl:zs.length=xs.length:=hzp.length_eq
        have hznd:zs.Nodup:=hzp.nodup_iff.mpr hX.nd
        have hn4:=hB4' _ _ np hn3'
        have hL4:H4 L=some (.lst []):=hB4' _ _ (hP3.nl hL) upd_same
        have hL0:=Pot.none hB3 hP3 hL
        simp -dsimp[cxOf,stC,-Bool.exists_bool,-List.map_take,-Prod.forall,-Prod.exists]
        refine tBr_join (fun σ H5=>∃v6 v7 L tv ps,σ=[some (.ref p),some (.int m),some (.int k),some (.ref n),some (.int kd),some (.ref L),v6,v7,none]∧H L=none∧H5 L=some (.lst tv)∧TupsAt H5 tv ps∧Ties xs ps∧ps.length≤m∧H5 n=some (.lst (xs.map V.str))∧Pot H5 p∧But p H H5) ?_ ?_
        · rintro σ H5 ⟨v6,v7,L,tv,ps,rfl,hL0,hL5,htv,hts,hpm,hn5,hP5,hB5⟩
          simp -dsimp[cxOf,stC,-Bool.exists_bool,-List.map_take,-Prod.forall,-Prod.exists]
          have Lp:L≠p:=hp.nl hL0
          have hL20:tv.length=ps.length:=htv.1
          have s20:=of_eq_true sz20
          have htk:tv.length≤k:=by rw [hL20];exact Nat.le_trans hpm hmk
          refine ⟨_,.inl (SqL.of hL5),p,_,rfl,hP5,zk1 htk,zk2 hk (by decide),fun f H6 hf0 hf1 hP6 hB6'=>?_⟩
          simp -dsimp[cxOf,stC,-Bool.exists_bool,-List.map_take,-Prod.forall,-Prod.exists]
          refine ⟨zlo hf0,Int.lt_trans hf1 (zk2 hk (by decide)),frR (fun i σ H7=>∃v7 tv ps,σ=[some (.ref p),some (.int m),some (.int k),some (.ref n),some (.int kd),some (.ref L),v6,v7,none]∧H7 L=some (.lst tv)∧TupsAt H7 tv ps∧Ties xs ps∧ps.length+f.toNat≤k+i∧H7 n=some (.lst (xs.map V.str))∧Pot H7 p∧But p H H7) ⟨v7,tv,ps,rfl,hB6' _ _ Lp hL5,htv.but hP5 hB6',hts,zk3 hf0 hf1 hL20,hB6' _ _ np hn5,hP6,hB5.trans hB6'⟩ ?_ ?_⟩
          · rintro i σ H7 hi ⟨v7,tv,ps,rfl,hL7,htv7,hts7,hpl,hn7,hP7,hB7⟩
            simp -dsimp[cxOf,stC,-Bool.exists_bool,-List.map_take,-Prod.forall,-Prod.exists]
            refine ⟨⟨_,SqL.of hL7⟩,p,n,xs,rfl,hP7,np,hn7,hx2,hx9,hX.nd,fun t x y H8 ht ht8 hx hy hxy hP8 hB8=>?_⟩
            simp -dsimp[cxOf,stC,-Bool.exists_bool,-List.map_take,-Prod.forall,-Prod.exists]
            have hL8:=hB8 _ _ Lp hL7
            have hl7:=htv7.1
            have kp:TupKeep H8 (upd H8 L (.lst (tv++[.ref t]))):=fun c zs e=>upd_oth e hL8 (by intro z;cases z)
            have nL:n≠L:=fun z=>by subst z;rw [Pot.none hB1 hP1 hn] at hL0;rw [hn7] at hL7;cases tv with
              | nil=>simp at hL7;rw [hL7] at hx2;simp at hx2
              | cons v tv=>
                obtain ⟨e,_,u,rfl,_⟩:=htv7.at (i:=0) rfl
                cases xs with
                | nil=>simp at hx2
                | cons x xs=>simp at hL7
            refine ⟨_,hL8,zk4 hl7 hpl hi hk,_,upd_same,ps++[(x,y)],((htv7.but hP7 hB8).keep kp).snoc (kp _ _ ht8),⟨by rw [List.length_append];exact Nat.succ_le_succ (zk5 hpl hi hk),?_⟩,by rw [List.length_append];exact zk6 hpl,by rw [upd_ne nL];exact hB8 _ _ np hn7,hP8.upd Lp.symm,(hB7.trans hB8).new hL0⟩
            intro e he
            rcases List.mem_append.mp he with z | z
            ·exact hts7.ok e z
            · simp at z
              subst z
              exact ⟨hx,hy,hxy⟩
          · rintro σ H7 ⟨v7,tv,ps,rfl,hL7,htv7,hts7,hpl,hn7,hP7,hB7⟩
            simp -dsimp[cxOf,stC,-Bool.exists_bool,-List.map_take,-Prod.forall,-Prod.exists]
            exact hN _ _ ⟨_,_,L,tv,ps,rfl,hL0,hL7,htv7,hts7,zk7 hpl,hn7,hP7,hB7⟩
        · intro N2 hN2
          refine tBr.of (fun h=>?_) (fun h=>?_)
          · simp -dsimp[cxOf,stC,-Bool.exists_bool,-List.map_take,-Prod.forall,-Prod.exists]
            obtain ⟨lo,hlo,lo1⟩:∃lo:Nat,(if kd=3 then (1:Int) else 0)=lo∧lo≤1:=by
              split
              ·exact ⟨1,rfl,Nat.le_refl _⟩
              ·exact ⟨0,rfl,by decide⟩
            simp only [hlo]
            have s20:=of_eq_true sz20
            refine ⟨_,.inl (SqL.of hrw4),⟨zloN,zlt lo1 (by decide),zlt (by rw [List.length_map,hzl];exact hx9) (by decide)⟩,fun D hD=>cmR (fun i σ H5=>(∃o,σ=[o,some (.ref rw)])∧∃tvs qs,H5 D=some (.lst tvs)∧TupsAt H5 tvs qs∧qs.length=i∧(∀e∈qs,e.1∈xs∧e.2∈xs∧e.1≠e.2)∧Same H4 H5) ⟨⟨_,rfl⟩,[],[],upd_same,⟨rfl,by simp⟩,rfl,by simp,same_upd hD⟩ ?_ ?_⟩
            · rintro i σ H5 hi ⟨⟨o,rfl⟩,tvs,qs,hD5,htvs,hql,hqs,sm⟩
              have hk:lo+i<zs.length:=by simp at hi;exact zsub hi
              obtain ⟨j,vx,hj,ex,ax⟩:=atI_prev (xs:=zs.map V.str) (k:=lo+i) (by rw [List.length_map,hzl];exact hx2) (by simpa using hk)
              obtain ⟨x,ex',rfl⟩:=str_at ex
              have ey':zs[lo+i]? = some (zs[lo+i]'hk):=by simp [hk]
              have ay:atI (zs.map V.str) ((lo+i:Nat):Int)=some (.str (zs[lo+i]'hk)):=atI_nat (by rw [List.getElem?_map,ey'];rfl)
              have c1:((lo+i:Nat):Int)=(lo:Int)+i:=Int.natCast_add ..
              rw [c1] at ax ay
              have sl:=SqL.of (K:=K) (sm _ _ hrw4)
              simp -dsimp[cxOf,stC,-Bool.exists_bool,-List.map_take,-Prod.forall,-Prod.exists]
              refine ⟨_,.inl sl,_,ax,_,.inl sl,_,ay,fun pt hpt=>?_⟩
              have Dpt:=ne_of_none hD5 hpt
              have hD6:upd H5 pt (.tup [.str x,.str (zs[lo+i]'hk)]) D=some (.lst tvs):=upd_old hD5 hpt
              have kp:TupKeep (upd H5 pt (.tup [.str x,.str (zs[lo+i]'hk)])) (upd (upd H5 pt (.tup [.str x,.str (zs[lo+i]'hk)])) D (.lst (tvs++[.ref pt]))):=fun c zs e=>upd_oth e hD6 (by intro z;cases z)
              have hl:=htvs.1
              refine ⟨_,hD6,by rw [hl,hql];exact zsz (Nat.lt_of_le_of_lt (Nat.le_add_left i lo) hk) (by rw [hzl];exact Nat.le_trans hx9 (by decide)),_,upd_same,qs++[(x,zs[lo+i]'hk)],((htvs.same (same_upd hpt)).keep kp).snoc (kp _ _ upd_same),by simp [hql],?_,same_upd2 (sm.trans (same_upd hpt)) hD⟩
              intro e he
              rcases List.mem_append.mp he with z | z
              ·exact hqs e z
              · simp at z
                subst z
                refine ⟨hzp.mem_iff.mp (List.mem_of_getElem? ex'),hzp.mem_iff.mp (List.mem_of_getElem? ey'),fun z=>hj ?_⟩
                simp only at z
                rw [← z] at ey'
                exact nodup_at hznd ex' ey'
            · rintro σ H5 ⟨⟨o,rfl⟩,tvs,qs,hD5,htvs,hql,hqs,sm⟩
              simp -dsimp[cxOf,stC,-Bool.exists_bool,-List.map_take,-Prod.forall,-Prod.exists]
              simp at hql
              have hqm:qs.length≤m:=by rw [hql,hzl];exact Nat.le_trans (Nat.sub_le ..) hxm
              have hP5:Pot H5 p:=by
                obtain ⟨u1,u2,u3,u4⟩:=hP4
                exact ⟨u1,u2,sm _ _ u3,u4⟩
              exact hN2 _ _ ⟨_,_,D,tvs,qs,rfl,Pot.none hB4 hP4 hD,hD5,htvs,⟨Nat.le_trans hqm (Nat.le_trans h9 (by decide)),hqs⟩,hqm,sm _ _ hn4,hP5,hB4.same sm⟩
          · simp -dsimp[cxOf,stC,-Bool.exists_bool,-List.map_take,-Prod.forall,-Prod.exists]
            exact hN2 _ _ ⟨_,_,L,[],[],rfl,hL0,hL4,⟨rfl,by simp⟩,⟨by simp,by simp⟩,by simp,hn4,hP4,hB4⟩
      · simp -dsimp[cxOf,stC,-Bool.exists_bool,-List.map_take,-Prod.forall,-Prod.exists]
        exact hN _ _ ⟨_,_,L,[],[],rfl,Pot.none hB3 hP3 hL,upd_same,⟨rfl,by simp⟩,⟨by simp,by simp⟩,by simp,upd_old hn3 hL,hP3.upd (hP3.ne hL),hB3.same (same_upd hL)⟩
theorem wf_no {m:Str} {u v:V} (h1:¬m = "names") (h2:¬m = "pairs"):∀p∈([("names",u),("pairs",v)]:List (Str×V)),¬m=p.1:=fun p hp=>by
  simp at hp
  rcases hp with rfl | rfl
  ·exact h1
  ·exact h2
theorem WebAt.same {C:Addr} {H H':Hp} {o:Addr} {xs:List Str} {ps:List (Str×Str)} (h:WebAt C H o xs ps) (s:Same H H'):WebAt C H' o xs ps:=by
  obtain ⟨dx,n,m,tv,h1,h2,h3,h4,h5⟩:=h.ex
  exact ⟨⟨dx,n,m,tv,s _ _ h1,s _ _ h2,s _ _ h3,TupsAt.same h4 s,h5⟩⟩
theorem WebAt.ins {C:Addr} {H:Hp} {o:Addr} {xs:List Str} {ps:List (Str×Str)} (h:WebAt C H o xs ps) {m:Str} (h1:¬m = "names") (h2:¬m = "pairs"):∃dx fs,H o=some (.ins C dx fs)∧∀p∈fs,¬m=p.1:=by
  obtain ⟨dx,n,mm,tv,e,_⟩:=h.ex
  exact ⟨dx,_,e,wf_no h1 h2⟩
theorem no_ties:¬(("ties" : Str) = "names")∧¬(("ties" : Str) = "pairs"):=by decide +kernel
theorem no_points:¬(("points" : Str) = "names")∧¬(("points" : Str) = "pairs"):=by decide +kernel
theorem no_many:¬(("many" : Str) = "names")∧¬(("many" : Str) = "pairs"):=by decide +kernel
def sp_steps_along (C:Addr):Sp:=fun vs H Q _=>∃o d xs ps fx,vs=[.ref o,.ref d]∧WebAt C H o xs ps∧FixAt H d fx∧∀l tv H',H l=none→H' l=some (.lst tv)→StepsAt H' tv (stepsOf fx ps 0)→tv.length≤40→Same H H'→Q (.ref l) H'
theorem ok_steps_along (T:Txt K mg a):FnOk P w K mg base CX0 2 a.f_steps_along a.fd_steps_along ["web", "fixed"] (sp_steps_along a.C_Web):=by
  refine T.F_steps_along.okL sc_steps_along (fun vs H Q E h=>?_) (fun cdv A outer s H vs Q E hr h=>?_)
  · obtain ⟨o,d,xs,ps,fx,rfl,_⟩:=h
    rfl
  · obtain ⟨o,d,xs,ps,fx,rfl,hw,hfx,q⟩:=h
    refine ⟨_,(pss_cons (ps_set (i:=2) sc_steps_along.nd rfl (Or.inl rfl) (pe_lst pa_nil))
      (pss_cons (ps_for PassesOwn.never rfl (PI.eqv (pi_enum (K:=K) rfl rfl T.nm2.enumerate (pa_cons (PE.eqv (pe_meth0 (fpv 0) T.c_Web T.M_Web_ties (ok_Web_ties (K:=K) T) (hr.mono (by decide)) T.b_Web_ties .nil pass0) (fMeth_eq _ _ _ _ _ _)) pa_nil)) (fiEnum_eq _ _)) (PG.eqv (pg_tupk (K:=K) (n:=2) rfl rfl (PGs.eqv (pgs_cons (pg_name (i:=3) sc_steps_along.nd rfl (Or.inl rfl)) (PGs.eqv (pgs_cons (PG.eqv (pg_tupk (K:=K) (n:=2) rfl rfl (PGs.eqv (pgs_cons (pg_name (i:=4) sc_steps_along.nd rfl (Or.inl rfl)) (PGs.eqv (pgs_cons (pg_name (i:=5) sc_steps_along.nd rfl (Or.inl rfl)) (PGs.mono pgs_nil fNil_t)) (fCons_eq _ _))) (fCons_eq _ _))) (fTup_eq _ _ _)) (PGs.mono pgs_nil fNil_t)) (fCons_eq _ _))) (fCons_eq _ _))) (fTup_eq _ _ _))
      (pss_cons (ps_if (fpt_cmpR fop_eq (PE.eqv (pe_dget2 (hu_of hr) (fpv 1) (fpv 3) pe_int ⟨rfl,rfl,rfl,rfl⟩) (fDGet2_eq _ _ _)) pe_int (nomark _)) (pss_one (ps_expr (pe_bmk (K:=K) rfl PySem.F.plainAttrs_list PySem.F.slot_list_append PySem.F.type_list_append fmt_append (fpv 2) (pa_cons (pe_tup (pa_cons (fpv 3) (pa_cons (fpv 4) (pa_cons (fpv 5) pa_nil)))) pa_nil)))) pss_nil)
      (pss_one (ps_if (fpt_cmpR fop_eq (PE.eqv (pe_dget2 (hu_of hr) (fpv 1) (fpv 3) pe_int ⟨rfl,rfl,rfl,rfl⟩) (fDGet2_eq _ _ _)) pe_int (nomark _)) (pss_one (ps_expr (pe_bmk (K:=K) rfl PySem.F.plainAttrs_list PySem.F.slot_list_append PySem.F.type_list_append fmt_append (fpv 2) (pa_cons (pe_tup (pa_cons (fpv 3) (pa_cons (fpv 5) (pa_cons (fpv 4) pa_nil)))) pa_nil)))) pss_nil))))
      (pss_one (ps_ret (fpv 2))))),?_⟩
    obtain ⟨dx,fs,hi,hno⟩:=hw.ins no_ties.1 no_ties.2
    obtain ⟨_,_,_,_,_,_,_,_,h20⟩:=hw.ex
    simp -dsimp[cxOf,stC,-Bool.exists_bool,-List.map_take,-Prod.forall,-Prod.exists]
    intro L hL
    refine ⟨_,_,upd_old hi hL,hno,o,xs,ps,rfl,hw.same (same_upd hL),fun l2 tv2 hl2 htv2=>?_⟩
    have sa:Same H (upd (upd H L (.lst [])) l2 (.lst tv2)):=(same_upd hL).trans (same_upd hl2)
    have eL:upd (upd H L (.lst [])) l2 (.lst tv2) L=some (.lst []):=upd_old upd_same hl2
    have e2:upd (upd H L (.lst [])) l2 (.lst tv2) l2=some (.lst tv2):=upd_same
    have htv3:=TupsAt.same htv2 (same_upd (o:=HO.lst tv2) hl2)
    have L2n:L≠l2:=fun z=>by subst z;rw [upd_same] at hl2;cases hl2
    generalize upd (upd H L (.lst [])) l2 (.lst tv2)=H1 at sa eL e2 htv3 ⊢
    obtain ⟨kvs,hd,hv⟩:=hfx
    have dL:d≠L:=ne_of_none hd hL
    simp -dsimp[cxOf,stC,-Bool.exists_bool,-List.map_take,-Prod.forall,-Prod.exists]
    refine ⟨⟨_,SqL.of e2⟩,frE tv2 (fun i σ H'=>(∃v3 v4 v5 sv,σ=[some (.ref o),some (.ref d),some (.ref L),v3,v4,v5]∧H' L=some (.lst sv)∧StepsAt H' sv (stepsOf fx (ps.take i) 0)∧sv.length≤2 * i)∧H' l2=some (.lst tv2)∧TupsAt H' tv2 ps∧Same H H') ⟨⟨_,_,_,[],rfl,eL,AllAt.nil,by simp⟩,e2,htv3,sa⟩ (fun i σ H' _ h=>SqL.of h.2.1) ?_ ?_⟩
    · rintro i x t σ H2 hi ht ⟨⟨v3,v4,v5,sv,rfl,hL2,hsv,hsl⟩,hl22,htv,s2⟩
      have hi2:i<tv2.length:=(List.getElem?_eq_some_iff.mp hi).1
      have tl:=htv.1
      obtain ⟨e,he,tt,rfl,htt⟩:=htv.at hi
      rw [stepsOf_take fx he]
      unfold stepOf
      simp -dsimp[cxOf,stC,-Bool.exists_bool,-List.map_take,-Prod.forall,-Prod.exists]
      have st:Same H2 (upd H2 t (.tup [.int i,.ref tt])):=same_upd ht
      refine ⟨_,SqT.of upd_same,rfl,_,SqT.of (st _ _ htt),rfl,isD (st _ _ (s2 _ _ hd)),_,getI i (st _ _ (s2 _ _ hd)),?_⟩
      have tL:L≠t:=ne_of_none hL2 ht
      have hL3:=st _ _ hL2
      have hl23:=st _ _ hl22
      have htv3:=TupsAt.same htv st
      have s3:=s2.trans st
      have hsv3:=StepsAt.keep hsv (L2.TupKeep.of st)
      generalize upd H2 t (.tup [.int i,.ref tt])=H3 at hL3 hl23 htv3 s3 hsv3 ⊢
      have s60:60≤sizeLine:=by decide
      have add:∀(H3:Hp) (sv:List V) (S:List Stp) (n:Nat) (x y:Str) (b:Addr),H3 L=some (.lst sv)→StepsAt H3 sv S→H3 b=none→H3 l2=some (.lst tv2)→TupsAt H3 tv2 ps→Same H H3→
          (upd (upd H3 b (.tup [.int n,.str x,.str y])) L (.lst (sv++[.ref b])) L=some (.lst (sv++[.ref b]))∧StepsAt (upd (upd H3 b (.tup [.int n,.str x,.str y])) L (.lst (sv++[.ref b]))) (sv++[.ref b]) (S++[(n,x,y)]))∧upd (upd H3 b (.tup [.int n,.str x,.str y])) L (.lst (sv++[.ref b])) l2=some (.lst tv2)∧TupsAt (upd (upd H3 b (.tup [.int n,.str x,.str y])) L (.lst (sv++[.ref b]))) tv2 ps∧Same H (upd (upd H3 b (.tup [.int n,.str x,.str y])) L (.lst (sv++[.ref b]))):=by
        intro H3 sv S n x y b hL3 hsv hb hl2 htv s3
        have sb:Same H3 (upd H3 b (.tup [.int n,.str x,.str y])):=same_upd hb
        have kp:L2.TupKeep (upd H3 b (.tup [.int n,.str x,.str y])) (upd (upd H3 b (.tup [.int n,.str x,.str y])) L (.lst (sv++[.ref b]))):=L2.TupKeep.set (sb _ _ hL3) (by intro z e;cases e)
        refine ⟨⟨upd_same,AllAt.snoc (StepsAt.keep (StepsAt.keep hsv (L2.TupKeep.of sb)) kp) ⟨b,rfl,kp _ _ upd_same⟩⟩,by rw [upd_ne L2n.symm];exact sb _ _ hl2,(TupsAt.same htv sb).keep kp,same_upd2 (s3.trans sb) hL⟩
      rw [hv i,getD_int]
      simp -dsimp[cxOf,stC,-Bool.exists_bool,-List.map_take,-Prod.forall,-Prod.exists]
      refine tBr_join (fun σ H4=>(∃sv,σ=[some (.ref o),some (.ref d),some (.ref L),some (.int i),some (.str e.1),some (.str e.2)]∧H4 L=some (.lst sv)∧StepsAt H4 sv (stepsOf fx (ps.take i) 0++if (fx i).getD 0=0 then [(i,e.1,e.2)] else [])∧sv.length≤2 * i+1)∧H4 l2=some (.lst tv2)∧TupsAt H4 tv2 ps∧Same H H4) ?_ ?_
      · rintro σ H4 ⟨⟨sv,rfl,hL4,hsv4,hsl4⟩,hl24,htv4,s4⟩
        simp -dsimp[cxOf,stC,-Bool.exists_bool,-List.map_take,-Prod.forall,-Prod.exists]
        refine ⟨isD (s4 _ _ hd),_,getI i (s4 _ _ hd),?_⟩
        rw [hv i,getD_int]
        simp -dsimp[cxOf,stC,-Bool.exists_bool,-List.map_take,-Prod.forall,-Prod.exists]
        refine tBr.of (fun h=>?_) (fun h=>?_)
        · have h':(fx i).getD 1=1:=by simpa using h
          simp -dsimp[cxOf,stC,-Bool.exists_bool,-List.map_take,-Prod.forall,-Prod.exists]
          refine ⟨⟨_,SqL.of hL4⟩,fun b hb=>?_⟩
          refine ⟨_,upd_old hL4 hb,zs1 hsl4 hi2 tl h20,?_⟩
          obtain ⟨⟨k1,k2⟩,k3,k4,k5⟩:=add H4 sv _ i e.2 e.1 b hL4 hsv4 hb hl24 htv4 s4
          refine ⟨⟨_,k1,?_,by rw [List.length_append];exact zs2 hsl4⟩,k3,k4,k5⟩
          rw [if_pos h',← List.append_assoc]
          exact k2
        · have h':¬(fx i).getD 1=1:=by simpa using h
          simp -dsimp[cxOf,stC,-Bool.exists_bool,-List.map_take,-Prod.forall,-Prod.exists]
          refine ⟨⟨_,hL4,?_,Nat.le_of_succ_le (zs2 hsl4)⟩,hl24,htv4,s4⟩
          rw [if_neg h',List.append_nil]
          exact hsv4
      · intro N hN
        refine tBr.of (fun h=>?_) (fun h=>?_)
        · have h':(fx i).getD 0=0:=by simpa using h
          simp -dsimp[cxOf,stC,-Bool.exists_bool,-List.map_take,-Prod.forall,-Prod.exists]
          refine ⟨⟨_,SqL.of hL3⟩,fun b hb=>?_⟩
          refine ⟨_,upd_old hL3 hb,zs1 (Nat.le_succ_of_le hsl) hi2 tl h20,?_⟩
          obtain ⟨⟨k1,k2⟩,k3,k4,k5⟩:=add H3 sv _ i e.1 e.2 b hL3 hsv3 hb hl23 htv3 s3
          refine hN _ _ ⟨⟨_,rfl,k1,?_,by rw [List.length_append];exact Nat.succ_le_succ hsl⟩,k3,k4,k5⟩
          rw [if_pos h']
          exact k2
        · have h':¬(fx i).getD 0=0:=by simpa using h
          simp -dsimp[cxOf,stC,-Bool.exists_bool,-List.map_take,-Prod.forall,-Prod.exists]
          refine hN _ _ ⟨⟨_,rfl,hL3,?_,Nat.le_succ_of_le hsl⟩,hl23,htv3,s3⟩
          rw [if_neg h',List.append_nil]
          exact hsv3
    · rintro σ H2 ⟨⟨v3,v4,v5,sv,rfl,hL2,hsv,hsl⟩,hl22,htv,s2⟩
      simp -dsimp[cxOf,stC,-Bool.exists_bool,-List.map_take,-Prod.forall,-Prod.exists]
      rw [htv.1,List.take_length] at hsv
      have tl:=htv.1
      exact q L sv H2 hL hL2 hsv (zs3 hsl tl h20) s2
def sp_ways_along:Sp:=fun vs H Q _=>∃(start:Str) (l:Addr) (tv:List V) (S:List Stp) (xs:List Str),vs=[.str start,.ref l]∧H l=some (.lst tv)∧StepsAt H tv S∧start∈xs∧(∀s∈S,s.2.2∈xs)∧xs.length≤9∧
  ∀(d:Addr) (kvs:List (Key×V)) (R:BR) (H':Hp),H d=none→H' d=some (.dK kvs)→WaysAt H' kvs R→Bfs S start R.length R→BfsF S start R→WaysNew H kvs→Same H H'→Q (.ref d) H'
theorem ok_ways_along (T:Txt K mg a):FnOk P w K mg base CX0 1 a.f_ways_along a.fd_ways_along ["start", "steps"] sp_ways_along:=by
  refine T.F_ways_along.okL sc_ways_along (fun vs H Q E h=>?_) (fun cdv A outer s H vs Q E hr h=>?_)
  · obtain ⟨start,l,tv,S,xs,rfl,_⟩:=h
    rfl
  · obtain ⟨start,l,tv,S,xs,rfl,hl,hS,hsx,hSx,h9,q⟩:=h
    refine ⟨_,(pss_cons (ps_set (i:=2) sc_ways_along.nd rfl (Or.inl rfl) (pe_disp (pps_cons (fpv 0) (pe_lst pa_nil) pps_nil) rfl rfl (by simp) (by decide)))
      (pss_cons (ps_set (i:=3) sc_ways_along.nd rfl (Or.inl rfl) (pe_lst (pa_cons (fpv 0) pa_nil)))
      (pss_cons (ps_set (i:=4) sc_ways_along.nd rfl (Or.inl rfl) pe_int)
      (pss_cons (ps_while PassesOwn.never (fpt_cmpR fop_lt (fpv 4) (pe_callB (flenQk (K:=K) rfl) rfl T.nm.len PySem.boot_len (pa_cons (fpv 3) pa_nil)) (nomark _))
      (pss_cons (ps_set (i:=5) sc_ways_along.nd rfl (Or.inl rfl) (pe_ix (fixQk (K:=K) rfl) (fpv 3) (fpv 4) (fun _ _=>rfl)))
      (pss_cons (ps_for PassesOwn.never rfl (PI.eqv (pi_listk (K:=K) rfl (fpv 1)) (fiList_eq _ _)) (PG.eqv (pg_tupk (K:=K) (n:=3) rfl rfl (PGs.eqv (pgs_cons (pg_name (i:=6) sc_ways_along.nd rfl (Or.inl rfl)) (PGs.eqv (pgs_cons (pg_name (i:=7) sc_ways_along.nd rfl (Or.inl rfl)) (PGs.eqv (pgs_cons (pg_name (i:=8) sc_ways_along.nd rfl (Or.inl rfl)) (PGs.mono pgs_nil fNil_t)) (fCons_eq _ _))) (fCons_eq _ _))) (fCons_eq _ _))) (fTup_eq _ _ _))
      (pss_one (ps_if (PW.pt (pw_and (fpt_cmpR fop_eq (fpv 7) (fpv 5) (nomark _)) (pw_and1 (fpt_cmp (PC.eqv (pc_dnotin (hu_of hr) (fpv 8) (fpv 2)) (fDNotIn_eq _ _)))))) (pss_cons (PS.eqv (ps_dput (hu_of hr) (fpv 2) (fpv 8) (pe_op fop_cat (PE.eqv (pe_dget (hu_of hr) (fpv 2) (fpv 5) (fun _ _=>rfl)) (fDGet_eq _ _)) (pe_lst (pa_cons (fpv 6) pa_nil))) rfl) (fDPut_eq _ _ _))
      (pss_one (ps_expr (pe_bmk (K:=K) rfl PySem.F.plainAttrs_list PySem.F.slot_list_append PySem.F.type_list_append fmt_append (fpv 3) (pa_cons (fpv 8) pa_nil))))) pss_nil)))
      (pss_one (PS.mono (ps_aug (i:=4) sc_ways_along.nd rfl (Or.inl rfl) pe_int fip_add) fAug_t)))))
      (pss_one (ps_ret (fpv 2))))))),?_⟩
    simp -dsimp[cxOf,stC,-Bool.exists_bool,-List.map_take,-Prod.forall,-Prod.exists]
    intro d hd p1 hp1
    refine ⟨upd_old upd_same hp1,[(Sum.inr start,.ref p1)],rfl,by simp,fun rl hrl=>?_⟩
    have em:mergeK [] [((Sum.inr start:Key),V.ref p1)]=[(Sum.inr start,.ref p1)]:=rfl
    rw [em] at hrl ⊢
    have dp1:d≠p1:=fun z=>by subst z;rw [upd_same] at hp1;cases hp1
    have hp10:H p1=none:=fresh_of (same_upd hd) hp1
    have sa:Same H (upd (upd (upd H d (.dK [])) p1 (.lst [])) d (.dK [(Sum.inr start,.ref p1)])):=same_upd2 ((same_upd hd).trans (same_upd hp1)) hd
    have hrl0:H rl=none:=fresh_of sa hrl
    have e1:upd (upd (upd H d (.dK [])) p1 (.lst [])) d (.dK [(Sum.inr start,.ref p1)]) d=some (.dK [(Sum.inr start,.ref p1)]):=upd_same
    have e2:upd (upd (upd H d (.dK [])) p1 (.lst [])) d (.dK [(Sum.inr start,.ref p1)]) p1=some (.lst []):=by rw [upd_ne dp1.symm];exact upd_same
    generalize upd (upd (upd H d (.dK [])) p1 (.lst [])) d (.dK [(Sum.inr start,.ref p1)])=H1 at sa hrl e1 e2 ⊢
    have sb:=sa.trans (same_upd (o:=.lst [.str start]) hrl)
    have dr:d≠rl:=ne_of_none e1 hrl
    have wnew0:WaysNew H [((Sum.inr start:Key),V.ref p1)]:=by
      intro kv hkv q hq
      simp at hkv
      subst hkv
      cases hq
      exact hp10
    refine whB (fun σ H'=>∃(n:Nat) (R:BR) (kvs:List (Key×V)) (o5 o6 o7 o8:Option V),σ=[some (.str start),some (.ref l),some (.ref d),some (.ref rl),some (.int n),o5,o6,o7,o8]∧H' d=some (.dK kvs)∧WaysAt H' kvs R∧H' rl=some (.lst (R.map fun yw=>.str yw.1))∧Bfs S start n R∧bfsN S start n=R∧WaysNew H kvs∧n≤R.length∧Same H H')
      (fun σ _=>muAt 4 σ)
      ⟨0,[(start,[])],[(Sum.inr start,.ref p1)],none,none,none,none,rfl,upd_old e1 hrl,⟨rfl,?_⟩,upd_same,Bfs.begin S start,rfl,wnew0,by simp,sb⟩ ?_ fmono_ltlen
    · intro i kv yw h1 h2
      have hi:i=0:=by have:=(List.getElem?_eq_some_iff.mp h1).1;simp at this;omega
      subst hi
      simp at h1 h2
      subst h1 h2
      exact ⟨rfl,p1,rfl,upd_old e2 hrl⟩
    · rintro σ H2 ⟨n,R,kvs,o5,o6,o7,o8,rfl,hd2,hW2,hr2,hB,hF,hN,hnR,s2⟩
      have hR9:R.length≤9:=by
        have h1:=nodup_len hB.nd (hB.sub hsx hSx)
        simp at h1
        omega
      simp -dsimp[cxOf,stC,-Bool.exists_bool,-List.map_take,-Prod.forall,-Prod.exists]
      refine ⟨_,.inl (SqL.of hr2),tBr.of (fun hlt=>?_) (fun hlt=>?_)⟩
      · have hlt':n<R.length:=by simpa using hlt
        simp -dsimp[cxOf,stC,-Bool.exists_bool,-List.map_take,-Prod.forall,-Prod.exists]
        obtain ⟨⟨hh,wh⟩,hR⟩:∃x,R[n]? = some x:=⟨R[n],by simp [hlt']⟩
        refine ⟨_,.inl (SqL.of hr2),.str hh,atI_nat (by rw [List.getElem?_map,hR];rfl),⟨_,SqL.of (s2 _ _ hl)⟩,frL tv (fun j σ H'=>∃(R:BR) (kvs:List (Key×V)) (o6 o7 o8:Option V),σ=[some (.str start),some (.ref l),some (.ref d),some (.ref rl),some (.int n),some (.str hh),o6,o7,o8]∧H' d=some (.dK kvs)∧WaysAt H' kvs R∧H' rl=some (.lst (R.map fun yw=>.str yw.1))∧BfsMid S (S.take j) start n hh wh R∧bfsIn (S.take j) hh wh (bfsN S start n)=R∧WaysNew H kvs∧Same H H') ⟨R,kvs,o6,o7,o8,rfl,hd2,hW2,hr2,BfsMid.enter hB hR,hF,hN,s2⟩ (fun j σ H' _ h=>by
          obtain ⟨_,_,_,_,_,_,_,_,_,_,_,_,z⟩:=h
          exact SqL.of (z _ _ hl)) ?_ ?_⟩
        · rintro j x σ H3 hj ⟨R,kvs,o6,o7,o8,rfl,hd3,hW3,hr3,hM,hF3,hN3,s3⟩
          obtain ⟨⟨sn,so,sg⟩,hs,t,rfl,ht⟩:=hS.at hj
          have hR9:R.length≤9:=by
            have h1:=nodup_len hM.bf.nd (hM.bf.sub hsx hSx)
            simp at h1
            omega
          have hFs:=bfsIn_snoc (S.take j) (sn,so,sg) hh wh (bfsN S start n)
          rw [hF3] at hFs
          rw [take_one hs]
          simp -dsimp[cxOf,stC,-Bool.exists_bool,-List.map_take,-Prod.forall,-Prod.exists]
          refine ⟨_,SqT.of (s3 _ _ ht),rfl,?_⟩
          simp -dsimp[cxOf,stC,-Bool.exists_bool,-List.map_take,-Prod.forall,-Prod.exists]
          by_cases hoh:so=hh
          · subst hoh
            refine tBr.pos (by simp) ?_
            simp -dsimp[cxOf,stC,-Bool.exists_bool,-List.map_take,-Prod.forall,-Prod.exists]
            refine ⟨_,getS sg hd3,?_⟩
            rw [hW3.hasN hM.bf.nd]
            refine tBr.of (fun hg=>?_) (fun hg=>?_)
            · have hg':¬sg∈R.map (·.1):=by simpa using hg
              obtain ⟨pw,hpw,hpw2⟩:=hW3.some hM.bf.nd (List.mem_of_getElem? hM.hr)
              have hwl:=hM.bf.wlen (List.mem_of_getElem? hM.hr)
              have s20:=of_eq_true sz20
              simp -dsimp[cxOf,stC,-Bool.exists_bool,-List.map_take,-Prod.forall,-Prod.exists]
              refine ⟨.ref pw,?_,fun b hb=>?_⟩
              · have:=getS so hd3
                rw [hpw] at this
                exact this
              refine ⟨_,upd_old hpw2 hb,_,upd_same,by simp;omega,fun c hc=>?_⟩
              have s4:Same H3 (upd (upd H3 b (.lst [.int sn])) c (.lst (wh.map (fun n:Nat=>V.int n)++[.int sn]))):=(same_upd hb).trans (same_upd hc)
              have ec:upd (upd H3 b (.lst [.int sn])) c (.lst (wh.map (fun n:Nat=>V.int n)++[.int sn])) c=some (.lst (wh.map (fun n:Nat=>V.int n)++[.int sn])):=upd_same
              generalize upd (upd H3 b (.lst [.int sn])) c (.lst (wh.map (fun n:Nat=>V.int n)++[.int sn]))=H4 at s4 ec ⊢
              have hd4:=s4 _ _ hd3
              have hr4:=s4 _ _ hr3
              have hkl:=hW3.len
              have epk:putK kvs (Sum.inr sg) (.ref c)=kvs++[(Sum.inr sg,.ref c)]:=putK_new _ (hW3.none hg')
              refine ⟨_,putS sg hd4 (by omega),?_⟩
              rw [epk]
              have hr5:upd H4 d (.dK (kvs++[(Sum.inr sg,.ref c)])) rl=some (.lst (R.map fun yw=>.str yw.1)):=by rw [upd_ne dr.symm];exact hr4
              have ne0:∀w:List Nat,R.map (fun yw=>V.str yw.1)≠w.map (fun n:Nat=>V.int n):=fun w e=>by
                have hst:=hM.bf.st
                cases R with
                | nil=>simp at hst
                | cons r R=>
                  cases w with
                  | nil=>simp at e
                  | cons n w=>simp at e
              have kp:∀(p:Addr) (w:List Nat),H4 p=some (.lst (w.map fun n:Nat=>V.int n))→upd (upd H4 d (.dK (kvs++[(Sum.inr sg,.ref c)]))) rl (.lst (R.map (fun yw=>V.str yw.1)++[.str sg])) p=some (.lst (w.map fun n:Nat=>V.int n)):=fun p w e=>by
                have h1:p≠d:=fun z=>by subst z;rw [hd4] at e;cases e
                have h2:p≠rl:=fun z=>by subst z;rw [hr4] at e;exact ne0 w (HO.lst.inj (Option.some.inj e))
                rw [upd_ne h2,upd_ne h1]
                exact e
              have ec':H4 c=some (.lst ((wh++[sn]).map fun n:Nat=>V.int n)):=by rw [ec];simp
              refine ⟨⟨_,SqL.of hr5⟩,_,hr5,by simp;omega,R++[(sg,wh++[sn])],_,by rw [upd_ne dr];exact upd_same,?_,by rw [upd_same];simp,hM.add (List.mem_of_getElem? hs) hg',hFs.trans (if_pos ⟨rfl,hg'⟩),hN3.snoc (fresh_of (s3.trans (same_upd hb)) hc),same_upd2 (same_upd2 (s3.trans s4) hd) hrl0⟩
              refine WaysAt.snoc (WaysAt.keep (H:=H4) (WaysAt.keep hW3 fun p w e=>s4 _ _ e) kp) (kp _ _ ec')
            · have hg':sg∈R.map (·.1):=by simpa using hg
              simp -dsimp[cxOf,stC,-Bool.exists_bool,-List.map_take,-Prod.forall,-Prod.exists]
              exact ⟨R,kvs,hd3,hW3,hr3,hM.skip fun _=>hg',hFs.trans (if_neg (fun z=>z.2 hg')),hN3,s3⟩
          · refine tBr.neg (by simp [hoh]) ?_
            simp -dsimp[cxOf,stC,-Bool.exists_bool,-List.map_take,-Prod.forall,-Prod.exists]
            exact ⟨R,kvs,hd3,hW3,hr3,hM.skip fun z=>absurd z hoh,hFs.trans (if_neg (fun z=>hoh z.1)),hN3,s3⟩
        · rintro σ H3 ⟨R,kvs,o6,o7,o8,rfl,hd3,hW3,hr3,hM,hF3,hN3,s3⟩
          have hl3:S.take tv.length=S:=by rw [hS.1,List.take_length]
          rw [hl3] at hM hF3
          simp -dsimp[cxOf,stC,-Bool.exists_bool,-List.map_take,-Prod.forall,-Prod.exists]
          have hlen:=(List.getElem?_eq_some_iff.mp hM.hr).1
          refine ⟨⟨n+1,by omega,R,kvs,hd3,hW3,hr3,hM.leave,(bfsN_next (by rw [hF];exact hR)).trans hF3,hN3,hlen,s3⟩,?_⟩
          simp [muAt]
          omega
      · have hlt':¬n<R.length:=by simpa using hlt
        have en:n=R.length:=by omega
        subst en
        simp -dsimp[cxOf,stC,-Bool.exists_bool,-List.map_take,-Prod.forall,-Prod.exists]
        exact q d kvs R H2 hd hd2 hW2 hB hF hN s2
def sp_found_along (C:Addr):Sp:=fun vs H Q _=>∃(o:Addr) (start:Str) (l:Addr) (tv:List V) (S:List Stp) (xs:List Str) (ps:List (Str×Str)),vs=[.ref o,.str start,.ref l]∧WebAt C H o xs ps∧H l=some (.lst tv)∧StepsAt H tv S∧start∈xs∧(∀s∈S,s.2.2∈xs)∧xs.length≤9∧
  ∀(r:Addr) (H':Hp),H r=none→H' r=some (.lst ((fnd S xs start).map V.str))→Same H H'→Q (.ref r) H'
theorem ok_found_along (T:Txt K mg a):FnOk P w K mg base CX0 2 a.f_found_along a.fd_found_along ["web", "start", "steps"] (sp_found_along a.C_Web):=by
  refine T.F_found_along.okL sc_found_along (fun vs H Q E h=>?_) (fun cdv A outer s H vs Q E hr h=>?_)
  · obtain ⟨o,start,l,tv,S,xs,ps,rfl,_⟩:=h
    rfl
  · obtain ⟨o,start,l,tv,S,xs,ps,rfl,hw,hl,hS,hsx,hSx,h9,q⟩:=h
    refine ⟨_,(pss_cons (ps_set (i:=3) sc_found_along.nd rfl (Or.inr rfl) (PE.eqv (pe_call (ok_ways_along (K:=K) T) (hr.mono (by decide)) rfl T.m_ways_along T.F_ways_along.kp T.b_ways_along .nil pass0 (pa_cons (fpv 1) (pa_cons (fpv 2) pa_nil))) (fCall_eq _ _ _)))
      (pss_one (ps_ret (pe_comp rfl rfl (show CompScope (defScope s_found_along) _ ["web", "start", "steps", "ways"] ["point"] [3] ["point", "ways"] from ⟨rfl,by decide +kernel,by decide +kernel,rfl,by decide +kernel,by decide +kernel⟩) rfl (PI.eqv (pi_listk (K:=K) rfl (PE.eqv (pe_meth0 (fpv 0) T.c_Web T.M_Web_points (ok_Web_points (K:=K) T) (hr.mono (by decide)) T.b_Web_points .nil pass0) (fMeth_eq _ _ _ _ _ _))) (fiList_eq _ _)) (fun C s H fp pn=>(pg_name (i:=0) (show (["point", "ways"]:List Str).Nodup by decide +kernel) rfl (Or.inl rfl))) (fun C s H fp pn=>(pts_one (fpt_cmp (PC.eqv (pc_din (hu_of hr) (fpv 0) (fpv 1)) (fDIn_eq _ _))))) (fun C s H fp pn=>(fpv 0)))))),?_⟩
    simp -dsimp[cxOf,stC,-Bool.exists_bool,-List.map_take,-Prod.forall,-Prod.exists]
    refine ⟨start,l,tv,S,xs,rfl,hl,hS,hsx,hSx,h9,fun d kvs R H1 hd hd1 hW hB _ _ s1=>?_⟩
    obtain ⟨dx,fs,hi,hno⟩:=(hw.same s1).ins no_points.1 no_points.2
    simp -dsimp[cxOf,stC,-Bool.exists_bool,-List.map_take,-Prod.forall,-Prod.exists]
    refine ⟨_,_,hi,hno,o,xs,ps,rfl,hw.same s1,fun l2 hl2=>?_⟩
    have s2:Same H1 (upd H1 l2 (.lst (xs.map V.str))):=same_upd hl2
    have e2:upd H1 l2 (.lst (xs.map V.str)) l2=some (.lst (xs.map V.str)):=upd_same
    generalize upd H1 l2 (.lst (xs.map V.str))=H2 at s2 e2 ⊢
    have hd2:=s2 _ _ hd1
    have hW2:=hW.keep fun p w e=>s2 _ _ e
    have s20:=of_eq_true sz20
    simp -dsimp[cxOf,stC,-Bool.exists_bool,-List.map_take,-Prod.forall,-Prod.exists]
    refine ⟨⟨_,SqL.of e2⟩,fun D hD=>cmL (xs.map V.str) (fun i σ H'=>(∃o,σ=[o,some (.ref d)])∧H' D=some (.lst ((fnd S (xs.take i) start).map V.str))∧Same H2 H') ⟨⟨_,rfl⟩,upd_same,same_upd hD⟩ (fun i σ H' _ h=>SqL.of (h.2.2 _ _ e2)) ?_ ?_⟩
    · rintro i x σ H3 hi ⟨⟨o',rfl⟩,hD3,s3⟩
      obtain ⟨y,hy,rfl⟩:=str_at hi
      have hi2:i<xs.length:=(List.getElem?_eq_some_iff.mp hy).1
      simp -dsimp[cxOf,stC,-Bool.exists_bool,-List.map_take,-Prod.forall,-Prod.exists]
      refine ⟨_,getS y (s3 _ _ hd2),?_⟩
      rw [hW2.has hB.nd,fnd_take hy (decide (y∈R.map (·.1))) (by rw [decide_eq_true_eq];exact hB.iff y)]
      refine tBr.of (fun h=>?_) (fun h=>?_)
      · rw [if_pos h]
        simp -dsimp[cxOf,stC,-Bool.exists_bool,-List.map_take,-Prod.forall,-Prod.exists]
        have hfl:=fnd_len (S:=S) (xs:=xs.take i) (x:=start)
        rw [List.length_take] at hfl
        refine ⟨_,hD3,by simp;omega,by simp [upd_same],same_upd2 s3 hD⟩
      · rw [if_neg (by rw [h];exact Bool.false_ne_true),List.append_nil]
        simp -dsimp[cxOf,stC,-Bool.exists_bool,-List.map_take,-Prod.forall,-Prod.exists]
        exact ⟨hD3,s3⟩
    · rintro σ H3 ⟨⟨o',rfl⟩,hD3,s3⟩
      rw [List.length_map,List.take_length] at hD3
      simp -dsimp[cxOf,stC,-Bool.exists_bool,-List.map_take,-Prod.forall,-Prod.exists]
      exact q D H3 (fresh_of (s1.trans s2) hD) hD3 ((s1.trans s2).trans s3)
def tyD:PyData→String
  | .none=> "NoneType"
  | .bool _=> "bool"
  | .int _=> "int"
  | .str _=> "str"
  | .list _=> "list"
  | .tuple _=> "tuple"
  | .dict _=> "dict"
def seqD:PyData→Bool
  | .list _=>true
  | .tuple _=>true
  | _=>false
def intD:PyData→Bool
  | .int _=>true
  | .bool _=>true
  | _=>false
def boolD:PyData→Bool
  | .bool _=>true
  | _=>false
def wholeD:PyData→Bool
  | .int _=>true
  | _=>false
def ldD:PyData→Bool
  | .int i=>decide (0≤i) && decide (i≤1)
  | _=>false
def kids:PyData→List PyData
  | .list ds=>ds
  | .tuple ds=>ds
  | _=>[]
def ptg (n:Nat) (d:PyData):Bool:=seqD d && (decide ((kids d).length=n) && (kids d).all ldD)
theorem thg_ty {H:Hp} {d:PyData} {v:V} (h:Thg H d v):TyOf K H v (.type (tyD d)):=by
  cases d with
  | none=>simp only [Thg] at h;subst h;exact .non
  | bool b=>simp only [Thg] at h;subst h;exact .bl b
  | int i=>simp only [Thg] at h;subst h;exact .int i
  | str x=>simp only [Thg] at h;subst h;exact .str x
  | list ds=>simp only [Thg] at h;obtain ⟨a,xs,rfl,h1,_⟩:=h;exact .lst h1
  | tuple ds=>simp only [Thg] at h;obtain ⟨a,xs,rfl,h1,_⟩:=h;exact .tup h1
  | dict ds=>simp only [Thg] at h;obtain ⟨_,a,rfl,h1⟩:=h;exact .dK h1
theorem kit_seq (d:PyData):W.kitAny K (.type (tyD d)) [.type "list",.type "tuple"]=some (seqD d):=by
  cases d <;> simp [W.kitAny,W.kitOne,tyD,seqD] <;> rfl
theorem kit_intD (d:PyData):W.kitOne K (.type (tyD d)) (.type "int")=some (intD d):=by
  cases d with
  | none=>exact kit_NoneType_int K
  | bool b=>exact kit_bool_int K
  | int i=>exact kit_int_int K
  | str x=>exact kit_str_int K
  | list ds=>exact kit_list_int K
  | tuple ds=>exact kit_tuple_int K
  | dict ds=>exact kit_dict_int K
theorem kit_boolD (d:PyData):W.kitOne K (.type (tyD d)) (.type "bool")=some (boolD d):=by
  cases d with
  | none=>exact kit_NoneType_bool K
  | bool b=>exact kit_bool_bool K
  | int i=>exact kit_int_bool K
  | str x=>exact kit_str_bool K
  | list ds=>exact kit_list_bool K
  | tuple ds=>exact kit_tuple_bool K
  | dict ds=>exact kit_dict_bool K
theorem sq_thg {H:Hp} {t:Addr} {ns:List Int} (h:Sq H t (ns.map V.int)):∃d,Thg H d (.ref t)∧seqD d=true∧kids d=ns.map PyData.int:=by
  rcases h with h | h
  ·exact ⟨.list (ns.map PyData.int),by simp only [Thg];exact ⟨t,_,rfl,h,ThgAll.ints H ns⟩,rfl,rfl⟩
  ·exact ⟨.tuple (ns.map PyData.int),by simp only [Thg];exact ⟨t,_,rfl,h,ThgAll.ints H ns⟩,rfl,rfl⟩
theorem thg_sq {H:Hp} {d:PyData} {v:V} (h:Thg H d v) (hs:seqD d=true):∃t xs,v = .ref t∧Sq H t xs∧ThgAll H (kids d) xs:=by
  cases d with
  | list ds=>simp only [Thg] at h;obtain ⟨a,xs,rfl,h1,h2⟩:=h;exact ⟨a,xs,rfl,.inl h1,h2⟩
  | tuple ds=>simp only [Thg] at h;obtain ⟨a,xs,rfl,h1,h2⟩:=h;exact ⟨a,xs,rfl,.inr h1,h2⟩
  | _=>cases hs
def sp_many (C:Addr):Sp:=fun vs H Q _=>∃o xs ps,vs=[.ref o]∧WebAt C H o xs ps∧Q (.int ps.length) H
theorem ok_Web_many (T:Txt K mg a):FnOk P w K mg base CX0 1 a.f_Web_many a.fd_Web_many ["self"] (sp_many a.C_Web):=by
  refine T.F_Web_many.okL sc_Web_many (fun vs H Q E h=>?_) (fun cdv A outer s H vs Q E hr h=>?_)
  · obtain ⟨o,xs,ps,rfl,_⟩:=h
    rfl
  · obtain ⟨o,xs,ps,rfl,⟨dx,n,m,tv,h1,h2,h3,h4,h5⟩,q⟩:=h
    refine ⟨_,(pss_one (ps_ret (pe_callB (flenQk (K:=K) rfl) rfl T.nm.len PySem.boot_len (pa_cons (PE.eqv (pe_fldk (K:=K) rfl (fpv 0) rfl) (fFld_eq _ _ _)) pa_nil)))),?_⟩
    simp -dsimp[cxOf,stC,-Bool.exists_bool,-List.map_take,-Prod.forall,-Prod.exists]
    refine ⟨_,_,_,h1,T.c_Web,T.n_pairs,_,rfl,_,.inr (SqT.of h3),?_⟩
    rw [h4.1]
    exact q
def sp_is_listT:Sp:=fun vs H Q _=>∃(d:PyData) (v:V),vs=[v]∧Thg H d v∧∀H',Same H H'→Q (.bl (seqD d)) H'
theorem ok_is_listT (T:Txt K mg a):FnOk P w K mg base CX0 1 a.f_is_list a.fd_is_list ["thing"] sp_is_listT:=by
  refine T.F_is_list.okL sc_is_list (fun vs H Q E h=>?_) (fun cdv A outer s H vs Q E hr h=>?_)
  · obtain ⟨d,v,rfl,_⟩:=h
    rfl
  · obtain ⟨d,v,rfl,hd,q⟩:=h
    refine ⟨_,(pss_one (ps_ret (pe_callB (fisi2k (K:=K) rfl) rfl T.nm.isinstance boot_isinstance (pa_cons (fpv 0) (pa_cons (pe_tup (pa_cons (pe_bltn (v:=.ty "list") rfl T.nm.list boot_list rfl) (pa_cons (pe_bltn (v:=.ty "tuple") rfl T.nm.tuple boot_tuple rfl) pa_nil))) pa_nil))))),?_⟩
    simp -dsimp[cxOf,stC,-Bool.exists_bool,-List.map_take,-Prod.forall,-Prod.exists]
    refine fun t ht=>⟨_,_,upd_same,_,thg_ty (Thg.same (same_upd ht) d v hd),_,kit_seq d,q _ (same_upd ht)⟩
def sp_is_whole:Sp:=fun vs H Q _=>∃(d:PyData) (v:V),vs=[v]∧Thg H d v∧Q (.bl (wholeD d)) H
theorem ok_is_whole (T:Txt K mg a):FnOk P w K mg base CX0 1 a.f_is_whole a.fd_is_whole ["thing"] sp_is_whole:=by
  refine T.F_is_whole.okL sc_is_whole (fun vs H Q E h=>?_) (fun cdv A outer s H vs Q E hr h=>?_)
  · obtain ⟨d,v,rfl,_⟩:=h
    rfl
  · obtain ⟨d,v,rfl,hd,q⟩:=h
    refine ⟨_,(pss_one (ps_ret (fpe_and (pe_callB (fisiTk (K:=K) rfl) rfl T.nm.isinstance boot_isinstance (pa_cons (fpv 0) (pa_cons (pe_bltn (v:=.ty "int") rfl T.nm.int boot_intT rfl) pa_nil))) (pe_one (fpe_not (pe_callB (fisiTk (K:=K) rfl) rfl T.nm.isinstance boot_isinstance (pa_cons (fpv 0) (pa_cons (pe_bltn (v:=.ty "bool") rfl T.nm2.bool boot_boolT rfl) pa_nil)))))))),?_⟩
    simp -dsimp[cxOf,stC,-Bool.exists_bool,-List.map_take,-Prod.forall,-Prod.exists]
    refine ⟨_,thg_ty hd,_,kit_intD d,?_⟩
    cases hi:intD d with
    | false=>
      refine tBr.neg rfl ?_
      simp -dsimp[cxOf,stC,-Bool.exists_bool,-List.map_take,-Prod.forall,-Prod.exists]
      rw [show wholeD d=false by cases d <;> first | rfl | cases hi] at q
      exact q
    | true=>
      refine tBr.pos rfl ?_
      simp -dsimp[cxOf,stC,-Bool.exists_bool,-List.map_take,-Prod.forall,-Prod.exists]
      refine ⟨_,thg_ty hd,_,kit_boolD d,?_⟩
      rw [show wholeD d = !boolD d by cases d <;> first | rfl | cases hi] at q
      exact q
def sp_is_lead:Sp:=fun vs H Q _=>∃(d:PyData) (v:V),vs=[v]∧Thg H d v∧Q (.bl (ldD d)) H
theorem ok_is_lead (T:Txt K mg a):FnOk P w K mg base CX0 2 a.f_is_lead a.fd_is_lead ["thing"] sp_is_lead:=by
  refine T.F_is_lead.okL sc_is_lead (fun vs H Q E h=>?_) (fun cdv A outer s H vs Q E hr h=>?_)
  · obtain ⟨d,v,rfl,_⟩:=h
    rfl
  · obtain ⟨d,v,rfl,hd,q⟩:=h
    refine ⟨_,(pss_one (ps_ret (fpe_and (PE.eqv (pe_call (ok_is_whole (K:=K) T) (hr.mono (by decide)) rfl T.m_is_whole T.F_is_whole.kp T.b_is_whole .nil pass0 (pa_cons (fpv 0) pa_nil)) (fCall_eq _ _ _)) (pe_one (fpe_chain fop_le fop_le pe_int (fpv 0) pe_int))))),?_⟩
    simp -dsimp[cxOf,stC,-Bool.exists_bool,-List.map_take,-Prod.forall,-Prod.exists]
    refine ⟨d,v,rfl,hd,?_⟩
    cases hw:wholeD d with
    | false=>
      rw [show ldD d=false by cases d <;> first | rfl | cases hw] at q
      simp -dsimp[cxOf,stC,-Bool.exists_bool,-List.map_take,-Prod.forall,-Prod.exists]
      exact q
    | true=>
      obtain ⟨i,rfl⟩:∃i,d = .int i:=by cases d <;> first | exact ⟨_,rfl⟩ | cases hw
      simp only [Thg] at hd
      subst hd
      simp -dsimp[cxOf,stC,-Bool.exists_bool,-List.map_take,-Prod.forall,-Prod.exists]
      simp only [ldD] at q
      refine tBr.of (fun h=>?_) (fun h=>?_)
      · rw [h] at q
        simp -dsimp[cxOf,stC,-Bool.exists_bool,-List.map_take,-Prod.forall,-Prod.exists]
        exact q
      · rw [h] at q
        simp -dsimp[cxOf,stC,-Bool.exists_bool,-List.map_take,-Prod.forall,-Prod.exists]
        exact q
theorem blAll_map:∀l:List Bool,blAll (l.map V.bl) l
  | []=>rfl
  | b::l=>⟨b,_,rfl,rfl,blAll_map l⟩
def sp_is_pointing (C:Addr):Sp:=fun vs H Q _=>∃(o:Addr) (v:V) (d:PyData) (xs:List Str) (ps:List (Str×Str)),vs=[.ref o,v]∧WebAt C H o xs ps∧Thg H d v∧ps.length≤20∧
  ∀H',Same H H'→Q (.bl (ptg ps.length d)) H'
theorem ok_is_pointing (T:Txt K mg a):FnOk P w K mg base CX0 3 a.f_is_pointing a.fd_is_pointing ["web", "thing"] (sp_is_pointing a.C_Web):=by
  refine T.F_is_pointing.okL sc_is_pointing (fun vs H Q E h=>?_) (fun cdv A outer s H vs Q E hr h=>?_)
  · obtain ⟨o,v,d,xs,ps,rfl,_⟩:=h
    rfl
  · obtain ⟨o,v,d,xs,ps,rfl,hw,hd,h20,q⟩:=h
    refine ⟨_,(pss_cons (ps_if (PW.pt (pw_or (pt_not (fpt_val (PE.eqv (pe_call (ok_is_listT (K:=K) T) (hr.mono (by decide)) rfl T.m_is_list T.F_is_list.kp T.b_is_list .nil pass0 (pa_cons (fpv 1) pa_nil)) (fCall_eq _ _ _)))) (pw_or1 (fpt_cmpR fop_ne (pe_callB (flenQk (K:=K) rfl) rfl T.nm.len PySem.boot_len (pa_cons (fpv 1) pa_nil)) (PE.eqv (pe_meth0 (fpv 0) T.c_Web T.M_Web_many (ok_Web_many (K:=K) T) (hr.mono (by decide)) T.b_Web_many .nil pass0) (fMeth_eq _ _ _ _ _ _)) (nomark _))))) (pss_one (ps_ret pe_bl)) pss_nil)
      (pss_one (ps_ret (pe_callB (fcall_all rfl) rfl T.nm.all boot_all' (pa_cons (pe_comp rfl rfl (show CompScope (defScope s_is_pointing) _ ["web", "thing"] ["one"] [] ["one"] from ⟨rfl,by decide +kernel,by decide +kernel,rfl,by decide +kernel,by decide +kernel⟩) rfl (PI.eqv (pi_seqk (K:=K) rfl (fpv 1)) (fiSeq_eq _ _)) (fun C s H fp pn=>(pg_name (i:=0) (show (["one"]:List Str).Nodup by decide +kernel) rfl (Or.inl rfl))) (fun C s H fp pn=>pts_nil) (fun C s H fp pn=>(PE.eqv (pe_call (ok_is_lead (K:=K) T) (hr.mono (by decide)) rfl T.m_is_lead T.F_is_lead.kp T.b_is_lead .nil pass0 (pa_cons (fpv 0) pa_nil)) (fCall_eq _ _ _)))) pa_nil))))),?_⟩
    simp -dsimp[cxOf,stC,-Bool.exists_bool,-List.map_take,-Prod.forall,-Prod.exists]
    refine ⟨d,v,rfl,hd,fun H1 s1=>?_⟩
    cases hs:seqD d with
    | false=>
      simp -dsimp[cxOf,stC,-Bool.exists_bool,-List.map_take,-Prod.forall,-Prod.exists]
      have e:ptg ps.length d=false:=by unfold ptg;rw [hs];rfl
      rw [e] at q
      exact q _ s1
    | true=>
      obtain ⟨t,ys,rfl,hq,hall⟩:=thg_sq hd hs
      obtain ⟨dx,fs,hi,hno⟩:=(hw.same s1).ins no_many.1 no_many.2
      have hq1:=hq.same s1
      have hlen:=hall.length
      simp -dsimp[cxOf,stC,-Bool.exists_bool,-List.map_take,-Prod.forall,-Prod.exists]
      refine ⟨_,hq1.q,_,_,hi,hno,o,xs,ps,rfl,hw.same s1,?_⟩
      simp -dsimp[cxOf,stC,-Bool.exists_bool,-List.map_take,-Prod.forall,-Prod.exists]
      by_cases hn:ys.length=ps.length
      · refine ⟨false,by simp [hn],tBr.neg rfl ?_⟩
        obtain ⟨b,hb⟩:=hq1.b
        simp -dsimp[cxOf,stC,-Bool.exists_bool,-List.map_take,-Prod.forall,-Prod.exists]
        refine ⟨b,⟨_,hb K H1 (Same.refl _)⟩,fun D hD=>cmQ ys (fun i σ H'=>(∃o',σ=[o'])∧H' D=some (.lst ((((kids d).take i).map ldD).map V.bl))∧Same H1 H') ⟨⟨_,rfl⟩,upd_same,same_upd hD⟩ (fun i σ H' _ h=>hb K H' h.2.2) ?_ ?_⟩
        · rintro i x σ H2 hi ⟨⟨o',rfl⟩,hD2,s2⟩
          have hi2:i<ys.length:=(List.getElem?_eq_some_iff.mp hi).1
          obtain ⟨c,hc,hx⟩:=hall.at hi
          simp -dsimp[cxOf,stC,-Bool.exists_bool,-List.map_take,-Prod.forall,-Prod.exists]
          refine ⟨c,x,rfl,Thg.same (s1.trans s2) c x hx,?_⟩
          simp -dsimp[cxOf,stC,-Bool.exists_bool,-List.map_take,-Prod.forall,-Prod.exists]
          refine ⟨_,hD2,by rw [List.length_map,List.length_map];exact zsz (Nat.lt_of_le_of_lt (List.length_take_le ..) hi2) (by rw [hn];exact h20),?_,same_upd2 s2 hD⟩
          rw [upd_same,List.take_add_one,hc]
          simp
        · rintro σ H2 ⟨⟨o',rfl⟩,hD2,s2⟩
          simp -dsimp[cxOf,stC,-Bool.exists_bool,-List.map_take,-Prod.forall,-Prod.exists]
          refine ⟨_,hD2,_,blAll_map _,?_⟩
          have e:ptg ps.length d=(((kids d).take ys.length).map ldD).all id:=by
            unfold ptg
            rw [hs,← hlen,List.take_length,decide_eq_true (by rw [hlen];exact hn),List.all_map]
            rfl
          rw [← e]
          exact q _ (s1.trans s2)
      · refine ⟨true,by simp;exact fun z=>hn (Int.ofNat.inj z),tBr.pos rfl ?_⟩
        simp -dsimp[cxOf,stC,-Bool.exists_bool,-List.map_take,-Prod.forall,-Prod.exists]
        have e:ptg ps.length d=false:=by unfold ptg;rw [decide_eq_false (by rw [hlen];exact hn)];simp
        rw [e] at q
        exact q _ s1
theorem ld_ints:∀{ns:List Int},(∀n∈ns,0≤n∧n≤1)→(ns.map PyData.int).all ldD=true
  | [],_=>rfl
  | n::ns,h=>by
    have h1:=h n List.mem_cons_self
    rw [List.map_cons,List.all_cons,ld_ints fun m hm=>h m (List.mem_cons_of_mem _ hm)]
    simp [ldD,h1]
theorem ptg_ints {d:PyData} {ns:List Int} (h1:seqD d=true) (h2:kids d=ns.map PyData.int) (h01:∀n∈ns,0≤n∧n≤1):ptg ns.length d=true:=by
  unfold ptg
  rw [h1,h2,ld_ints h01]
  simp
def PtIn (C:Addr) (H:Hp) (o t:Addr) (xs:List Str) (ps:List (Str×Str)) (ns:List Int):Prop:=WebAt C H o xs ps∧Sq H t (ns.map V.int)∧(∀n∈ns,0≤n∧n≤1)∧ns.length=ps.length∧ps.length≤20
def sp_sure_of_pointing (C:Addr):Sp:=fun vs H Q _=>∃(o t:Addr) (xs:List Str) (ps:List (Str×Str)) (ns:List Int),vs=[.ref o,.ref t]∧PtIn C H o t xs ps ns∧∀H',Same H H'→Q .non H'
theorem ok_sure_of_pointing (T:Txt K mg a):FnOk P w K mg base CX0 4 a.f_sure_of_pointing a.fd_sure_of_pointing ["web", "thing"] (sp_sure_of_pointing a.C_Web):=by
  refine T.F_sure_of_pointing.okL sc_sure_of_pointing (fun vs H Q E h=>?_) (fun cdv A outer s H vs Q E hr h=>?_)
  · obtain ⟨o,t,xs,ps,ns,rfl,_⟩:=h
    rfl
  · obtain ⟨o,t,xs,ps,ns,rfl,⟨hw,ht,h01,hl,h20⟩,q⟩:=h
    refine ⟨_,(pss_one (ps_if (pt_not (fpt_val (PE.eqv (pe_call (ok_is_pointing (K:=K) T) (hr.mono (by decide)) rfl T.m_is_pointing T.F_is_pointing.kp T.b_is_pointing .nil pass0 (pa_cons (fpv 0) (pa_cons (fpv 1) pa_nil))) (fCall_eq _ _ _)))) (pss_one ps_never) pss_nil)),?_⟩
    obtain ⟨d,hd,hs,hk⟩:=sq_thg ht
    simp -dsimp[cxOf,stC,-Bool.exists_bool,-List.map_take,-Prod.forall,-Prod.exists]
    refine ⟨o,.ref t,d,xs,ps,rfl,hw,hd,h20,fun H1 s1=>?_⟩
    rw [← hl,ptg_ints hs hk h01]
    simp -dsimp[cxOf,stC,-Bool.exists_bool,-List.map_take,-Prod.forall,-Prod.exists]
    exact q _ s1
def sp_is_number (C:Addr):Sp:=fun vs H Q _=>∃(o:Addr) (xs:List Str) (ps:List (Str×Str)) (k:Int),vs=[.ref o,.int k]∧WebAt C H o xs ps∧0≤k∧k<ps.length∧Q (.bl true) H
theorem ok_is_number (T:Txt K mg a):FnOk P w K mg base CX0 2 a.f_is_number a.fd_is_number ["web", "thing"] (sp_is_number a.C_Web):=by
  refine T.F_is_number.okL sc_is_number (fun vs H Q E h=>?_) (fun cdv A outer s H vs Q E hr h=>?_)
  · obtain ⟨o,xs,ps,k,rfl,_⟩:=h
    rfl
  · obtain ⟨o,xs,ps,k,rfl,hw,h0,h1,q⟩:=h
    refine ⟨_,(pss_one (ps_ret (fpe_and (PE.eqv (pe_call (ok_is_whole (K:=K) T) (hr.mono (by decide)) rfl T.m_is_whole T.F_is_whole.kp T.b_is_whole .nil pass0 (pa_cons (fpv 1) pa_nil)) (fCall_eq _ _ _)) (pe_one (fpe_chain fop_le fop_lt pe_int (fpv 1) (PE.eqv (pe_meth0 (fpv 0) T.c_Web T.M_Web_many (ok_Web_many (K:=K) T) (hr.mono (by decide)) T.b_Web_many .nil pass0) (fMeth_eq _ _ _ _ _ _))))))),?_⟩
    obtain ⟨dx,fs,hi,hno⟩:=hw.ins no_many.1 no_many.2
    simp -dsimp[cxOf,stC,-Bool.exists_bool,-List.map_take,-Prod.forall,-Prod.exists]
    refine ⟨.int k,_,rfl,by simp [Thg],?_⟩
    simp only [wholeD]
    simp -dsimp[cxOf,stC,-Bool.exists_bool,-List.map_take,-Prod.forall,-Prod.exists]
    refine tBr.pos (decide_eq_true h0) ?_
    simp -dsimp[cxOf,stC,-Bool.exists_bool,-List.map_take,-Prod.forall,-Prod.exists]
    refine ⟨_,_,hi,hno,o,xs,ps,rfl,hw,?_⟩
    simp -dsimp[cxOf,stC,-Bool.exists_bool,-List.map_take,-Prod.forall,-Prod.exists]
    rw [decide_eq_true h1]
    exact q
theorem keysOf_int:∀xs:List Int,keysOf (xs.map V.int)=xs.map Sum.inl
  | []=>rfl
  | x::xs=>by
    show Sum.inl x::keysOf (xs.map V.int)=_
    rw [keysOf_int xs]
    rfl
theorem uq_int {xs:List Int} (h:xs.Nodup):(uqN (fun i=>(keysOf (xs.map V.int))[i]?.getD (Sum.inl 0)) (xs.map V.int).length).length=xs.length:=by
  rw [keysOf_int,List.length_map]
  refine (uq_all _ xs.length fun i j hi hj e=>?_).1
  simp [hi,hj] at e
  exact (List.getElem_inj h).mp e
theorem int_item {xs:List Int} {i:Nat} {x:V} (h:(xs.map V.int)[i]? = some x):∃z,xs[i]? = some z∧x = .int z:=by
  rw [List.getElem?_map] at h
  cases e:xs[i]? with
  | none=>rw [e] at h;cases h
  | some z=>
    rw [e] at h
    exact ⟨z,rfl,(Option.some.inj h).symm⟩
structure Nrs (n:Nat) (ks:List Int):Prop where
  ok:∀k∈ks,0≤k∧k<n
  nd:ks.Nodup
  len:ks.length≤20
def sp_are_numbers (C:Addr):Sp:=fun vs H Q _=>∃(o t:Addr) (xs:List Str) (ps:List (Str×Str)) (ks:List Int),vs=[.ref o,.ref t]∧WebAt C H o xs ps∧Sq H t (ks.map V.int)∧Nrs ps.length ks∧∀H',Same H H'→Q (.bl true) H'
theorem ok_are_numbers (T:Txt K mg a):FnOk P w K mg base CX0 3 a.f_are_numbers a.fd_are_numbers ["web", "thing"] (sp_are_numbers a.C_Web):=by
  refine T.F_are_numbers.okL sc_are_numbers (fun vs H Q E h=>?_) (fun cdv A outer s H vs Q E hr h=>?_)
  · obtain ⟨o,t,xs,ps,ks,rfl,_⟩:=h
    rfl
  · obtain ⟨o,t,xs,ps,ks,rfl,hw,ht,hk,q⟩:=h
    refine ⟨_,(pss_cons (ps_if (PW.pt (pw_or (pt_not (fpt_val (PE.eqv (pe_call (ok_is_list (K:=K) T) (hr.mono (by decide)) rfl T.m_is_list T.F_is_list.kp T.b_is_list .nil pass0 (pa_cons (fpv 1) pa_nil)) (fCall_eq _ _ _)))) (pw_or1 (pt_not (fpt_val (pe_callB (fcall_all rfl) rfl T.nm.all boot_all' (pa_cons (pe_comp rfl rfl (show CompScope (defScope s_are_numbers) _ ["web", "thing"] ["one"] [0] ["one", "web"] from ⟨rfl,by decide +kernel,by decide +kernel,rfl,by decide +kernel,by decide +kernel⟩) rfl (PI.eqv (pi_seqk (K:=K) rfl (fpv 1)) (fiSeq_eq _ _)) (fun C s H fp pn=>(pg_name (i:=0) (show (["one", "web"]:List Str).Nodup by decide +kernel) rfl (Or.inl rfl))) (fun C s H fp pn=>pts_nil) (fun C s H fp pn=>(PE.eqv (pe_call (ok_is_number (K:=K) T) (hr.mono (by decide)) rfl T.m_is_number T.F_is_number.kp T.b_is_number .nil pass0 (pa_cons (fpv 1) (pa_cons (fpv 0) pa_nil))) (fCall_eq _ _ _)))) pa_nil))))))) (pss_one (ps_ret pe_bl)) pss_nil)
      (pss_one (ps_ret (pe_cmpR fop_eq (pe_callB call_lenS rfl T.nm.len PySem.boot_len (pa_cons (pe_callTy (call_setK rfl) rfl T.nm.set boot_setT (pa_cons (fpv 1) pa_nil)) pa_nil)) (pe_callB (flenQk (K:=K) rfl) rfl T.nm.len PySem.boot_len (pa_cons (fpv 1) pa_nil)) (nomark _))))),?_⟩
    simp -dsimp[cxOf,stC,-Bool.exists_bool,-List.map_take,-Prod.forall,-Prod.exists]
    refine ⟨t,_,rfl,ht,fun H1 s1=>?_⟩
    have ht1:=ht.same s1
    obtain ⟨b,hb⟩:=ht1.b
    simp -dsimp[cxOf,stC,-Bool.exists_bool,-List.map_take,-Prod.forall,-Prod.exists]
    refine ⟨b,⟨_,hb K H1 (Same.refl _)⟩,fun D hD=>cmQ (ks.map V.int) (fun i σ H'=>(∃o',σ=[o',some (.ref o)])∧Same H1 H'∧H' D=some (.lst (List.replicate i (.bl true)))) ⟨⟨none,rfl⟩,same_upd hD,upd_same⟩ (fun i σ' H' _ h=>hb K H' h.2.1) ?_ ?_⟩
    · rintro i x σ H2 hi ⟨⟨o',rfl⟩,s2,hD2⟩
      obtain ⟨k,hki,rfl⟩:=int_item hi
      have hi2:i<ks.length:=(List.getElem?_eq_some_iff.mp hki).1
      have hk2:=hk.ok k (List.mem_of_getElem? hki)
      simp -dsimp[cxOf,stC,-Bool.exists_bool,-List.map_take,-Prod.forall,-Prod.exists]
      refine ⟨o,xs,ps,k,rfl,hw.same (s1.trans s2),hk2.1,hk2.2,?_⟩
      simp -dsimp[cxOf,stC,-Bool.exists_bool,-List.map_take,-Prod.forall,-Prod.exists]
      refine ⟨_,hD2,by rw [List.length_replicate];exact zsz hi2 hk.len,same_upd2 s2 hD,?_⟩
      rw [upd_same,← List.replicate_succ']
    · rintro σ H2 ⟨⟨o',rfl⟩,s2,hD2⟩
      have ht2:=ht1.same s2
      simp -dsimp[cxOf,stC,-Bool.exists_bool,-List.map_take,-Prod.forall,-Prod.exists]
      refine ⟨_,hD2,_,blAll_rep _,?_⟩
      rw [show (List.replicate (ks.map V.int).length true).all id=true by simp]
      simp -dsimp[cxOf,stC,-Bool.exists_bool,-List.map_take,-Prod.forall,-Prod.exists]
      have l20:=hk.len
      refine ⟨_,ht2.q,by simp [isKey],by simp;unfold scanBound;omega,fun t3 ht3=>⟨_,upd_same,_,(ht2.same (same_upd ht3)).q,?_⟩⟩
      rw [decide_eq_true (by rw [uq_int hk.nd];simp)]
      exact q _ (s1.trans (s2.trans (same_upd ht3)))
def trn (ks ns:List Int):List Int:=ns.mapIdx fun i n=>if ((i:Nat):Int)∈ks then 1 - n else n
theorem trn_len (ks ns:List Int):(trn ks ns).length=ns.length:=by unfold trn;simp
theorem trn_at {ks ns:List Int} {i:Nat} {n:Int} (h:ns[i]? = some n):(trn ks ns)[i]? = some (if (i:Int)∈ks then 1 - n else n):=by
  unfold trn
  rw [List.getElem?_mapIdx,h]
  rfl
theorem trn_01 {ks ns:List Int} (h:∀n∈ns,0≤n∧n≤1):∀n∈trn ks ns,0≤n∧n≤1:=by
  intro n hn
  obtain ⟨i,hi⟩:=List.mem_iff_getElem?.mp hn
  have hl:i<ns.length:=by rw [← trn_len ks ns];exact (List.getElem?_eq_some_iff.mp hi).1
  have e:ns[i]? = some (ns[i]'hl):=List.getElem?_eq_getElem hl
  rw [trn_at e] at hi
  have h1:=h _ (List.mem_of_getElem? e)
  cases hi
  split
  ·omega
  ·exact h1
theorem trn_nil (ns:List Int):trn [] ns=ns:=by
  refine List.ext_getElem? fun i=>?_
  unfold trn
  rw [List.getElem?_mapIdx]
  cases ns[i]? <;> simp
theorem inV_int (k:Int) (ks:List Int):inV (.int k) (ks.map V.int)=decide (k∈ks):=by
  unfold inV
  rw [List.any_map]
  induction ks with
  | nil=>rfl
  | cons a ks ih=>
    rw [List.any_cons,ih]
    by_cases e:a=k
    · subst e
      simp [eqV]
    ·simp [eqV,e,Ne.symm e]
theorem flat_ints (ks:List Int):∀z∈ks.map V.int,flatV z=true:=by
  intro z hz
  obtain ⟨k,_,rfl⟩:=List.mem_map.mp hz
  rfl
def sp_turned (C:Addr):Sp:=fun vs H Q _=>∃(o t u:Addr) (xs:List Str) (ps:List (Str×Str)) (ns ks:List Int),vs=[.ref o,.ref t,.ref u]∧PtIn C H o t xs ps ns∧Sq H u (ks.map V.int)∧Nrs ps.length ks∧
  ∀r H',H r=none→H' r=some (.lst ((trn ks ns).map V.int))→Same H H'→Q (.ref r) H'
theorem ok_turned (T:Txt K mg a):FnOk P w K mg base CX0 5 a.f_turned a.fd_turned ["web", "pointing", "numbers"] (sp_turned a.C_Web):=by
  refine T.F_turned.okL sc_turned (fun vs H Q E h=>?_) (fun cdv A outer s H vs Q E hr h=>?_)
  · obtain ⟨o,t,u,xs,ps,ns,ks,rfl,_⟩:=h
    rfl
  · obtain ⟨o,t,u,xs,ps,ns,ks,rfl,hp,hu,hk,q⟩:=h
    refine ⟨_,(pss_cons (ps_expr (PE.eqv (pe_call (ok_sure_of_pointing (K:=K) T) (hr.mono (by decide)) rfl T.m_sure_of_pointing T.F_sure_of_pointing.kp T.b_sure_of_pointing .nil pass0 (pa_cons (fpv 0) (pa_cons (fpv 1) pa_nil))) (fCall_eq _ _ _)))
      (pss_cons (ps_if (pt_not (fpt_val (PE.eqv (pe_call (ok_are_numbers (K:=K) T) (hr.mono (by decide)) rfl T.m_are_numbers T.F_are_numbers.kp T.b_are_numbers .nil pass0 (pa_cons (fpv 0) (pa_cons (fpv 2) pa_nil))) (fCall_eq _ _ _)))) (pss_one ps_never) pss_nil)
      (pss_one (ps_ret (pe_comp rfl rfl (show CompScope (defScope s_turned) _ ["web", "pointing", "numbers"] ["number", "lead"] [2] ["number", "lead", "numbers"] from ⟨rfl,by decide +kernel,by decide +kernel,rfl,by decide +kernel,by decide +kernel⟩) rfl (pi_enumQ (K:=K) rfl rfl T.nm2.enumerate (pa_cons (fpv 1) pa_nil)) (fun C s H fp pn=>(PG.eqv (pg_tupk (K:=K) (n:=2) rfl rfl (PGs.eqv (pgs_cons (pg_name (i:=0) (show (["number", "lead", "numbers"]:List Str).Nodup by decide +kernel) rfl (Or.inl rfl)) (PGs.eqv (pgs_cons (pg_name (i:=1) (show (["number", "lead", "numbers"]:List Str).Nodup by decide +kernel) rfl (Or.inl rfl)) (PGs.mono pgs_nil fNil_t)) (fCons_eq _ _))) (fCons_eq _ _))) (fTup_eq _ _ _))) (fun C s H fp pn=>pts_nil) (fun C s H fp pn=>(pe_ifExp (fpt_cmpR (finK (K:=K) rfl) (fpv 0) (fpv 2) rfl) (pe_op fop_sub pe_int (fpv 1)) (fpv 1)))))))),?_⟩
    simp -dsimp[cxOf,stC,-Bool.exists_bool,-List.map_take,-Prod.forall,-Prod.exists]
    refine ⟨o,t,xs,ps,ns,rfl,hp,fun H1 s1=>?_⟩
    obtain ⟨hw,ht,h01,hl,h20⟩:=hp
    simp -dsimp[cxOf,stC,-Bool.exists_bool,-List.map_take,-Prod.forall,-Prod.exists]
    refine ⟨o,u,xs,ps,ks,rfl,hw.same s1,hu.same s1,hk,fun H2 s2'=>?_⟩
    have s2:=s1.trans s2'
    have hu2:=hu.same s2
    obtain ⟨b,hb⟩:=(ht.same s2).b
    simp -dsimp[cxOf,stC,-Bool.exists_bool,-List.map_take,-Prod.forall,-Prod.exists]
    refine ⟨b,⟨_,hb K H2 (Same.refl _)⟩,fun D hD=>cmEQ (ns.map V.int) (fun i σ H'=>(∃o1 o2,σ=[o1,o2,some (.ref u)])∧H' D=some (.lst (((trn ks ns).take i).map V.int))∧Same H2 H') ⟨⟨_,_,rfl⟩,upd_same,same_upd hD⟩ (fun i σ H' _ h=>hb K H' h.2.2) ?_ ?_⟩
    · rintro i x e σ H3 hi he ⟨⟨o1,o2,rfl⟩,hD3,s3⟩
      obtain ⟨n,hn,rfl⟩:=int_item hi
      have hi2:i<ns.length:=(List.getElem?_eq_some_iff.mp hn).1
      have s4:Same H3 (upd H3 e (.tup [.int i,.int n])):=same_upd he
      have hu4:=hu2.same (s3.trans s4)
      have hDe:D≠e:=ne_of_none hD3 he
      have hD4:upd H3 e (.tup [.int i,.int n]) D=some (.lst (((trn ks ns).take i).map V.int)):=s4 _ _ hD3
      refine ⟨_,SqT.of upd_same,rfl,?_⟩
      simp -dsimp[cxOf,stC,-Bool.exists_bool,-List.map_take,-Prod.forall,-Prod.exists]
      refine ⟨_,hu4.q,rfl,flat_ints ks,?_⟩
      rw [inV_int]
      have fin:∀y:Int,(trn ks ns)[i]? = some y→∃ys,upd H3 e (.tup [.int i,.int n]) D=some (HO.lst ys)∧ys.length<sizeLine∧((∃o1 o2,[some (V.int i),some (V.int n),some (V.ref u)]=[o1,o2,some (V.ref u)])∧
          upd (upd H3 e (.tup [.int i,.int n])) D (.lst (ys++[V.int y])) D=some (.lst (((trn ks ns).take (i+1)).map V.int))∧Same H2 (upd (upd H3 e (.tup [.int i,.int n])) D (.lst (ys++[V.int y])))):=fun y hy=>
        ⟨_,hD4,by rw [List.length_map];exact zsz (Nat.lt_of_le_of_lt (List.length_take_le ..) hi2) (by rw [hl];exact h20),⟨_,_,rfl⟩,by rw [upd_same,List.take_add_one,hy];simp,same_upd2 (s3.trans s4) hD⟩
      have ht:=trn_at (ks:=ks) hn
      refine tBr.of (fun h=>?_) (fun h=>?_)
      · rw [if_pos (of_decide_eq_true h)] at ht
        simp -dsimp[cxOf,stC,-Bool.exists_bool,-List.map_take,-Prod.forall,-Prod.exists]
        obtain ⟨ys,f1,f2,_,f4,f5⟩:=fin _ ht
        exact ⟨ys,f1,f2,f4,f5⟩
      · rw [if_neg (of_decide_eq_false h)] at ht
        simp -dsimp[cxOf,stC,-Bool.exists_bool,-List.map_take,-Prod.forall,-Prod.exists]
        obtain ⟨ys,f1,f2,_,f4,f5⟩:=fin _ ht
        exact ⟨ys,f1,f2,f4,f5⟩
    · rintro σ H3 ⟨⟨o1,o2,rfl⟩,hD3,s3⟩
      simp -dsimp[cxOf,stC,-Bool.exists_bool,-List.map_take,-Prod.forall,-Prod.exists]
      rw [List.length_map,← trn_len ks ns,List.take_length] at hD3
      exact q D H3 (fresh_of s2 hD) hD3 (s2.trans s3)
theorem valV_nums:∀(xs:List V) (n k:Nat),valV (nums n xs) (Sum.inl ((n+k:Nat):Int):Key)=xs[k]?
  | [],n,k=>by simp [nums,valV]
  | x::xs,n,0=>by rw [nums,valV_pos (by simp)];rfl
  | x::xs,n,k+1=>by
    rw [nums,valV_neg (by intro z;injection z with z;omega)]
    have:=valV_nums xs (n+1) k
    rw [show n+1+k=n+(k+1) by omega] at this
    rw [this]
    simp
def ledS (ns:List Int) (ps:List (Str×Str)):List Stp:=stepsOf (fun k=>ns[k]?) ps 0
def sp_arrows (C:Addr):Sp:=fun vs H Q _=>∃(o t:Addr) (xs:List Str) (ps:List (Str×Str)) (ns:List Int),vs=[.ref o,.ref t]∧PtIn C H o t xs ps ns∧
  ∀l tv H',H l=none→H' l=some (.lst tv)→StepsAt H' tv (ledS ns ps)→tv.length≤40→Same H H'→Q (.ref l) H'
theorem ok_arrows (T:Txt K mg a):FnOk P w K mg base CX0 5 a.f_arrows a.fd_arrows ["web", "pointing"] (sp_arrows a.C_Web):=by
  refine T.F_arrows.okL sc_arrows (fun vs H Q E h=>?_) (fun cdv A outer s H vs Q E hr h=>?_)
  · obtain ⟨o,t,xs,ps,ns,rfl,_⟩:=h
    rfl
  · obtain ⟨o,t,xs,ps,ns,rfl,hp,q⟩:=h
    refine ⟨_,(pss_cons (ps_expr (PE.eqv (pe_call (ok_sure_of_pointing (K:=K) T) (hr.mono (by decide)) rfl T.m_sure_of_pointing T.F_sure_of_pointing.kp T.b_sure_of_pointing .nil pass0 (pa_cons (fpv 0) (pa_cons (fpv 1) pa_nil))) (fCall_eq _ _ _)))
      (pss_one (ps_ret (PE.eqv (pe_call (ok_steps_along (K:=K) T) (hr.mono (by decide)) rfl T.m_steps_along T.F_steps_along.kp T.b_steps_along .nil pass0 (pa_cons (fpv 0) (pa_cons (pe_dictEnum (K:=K) rfl rfl rfl T.nm2.dict rfl T.nm2.enumerate (pa_cons (fpv 1) pa_nil)) pa_nil))) (fCall_eq _ _ _))))),?_⟩
    simp -dsimp[cxOf,stC,-Bool.exists_bool,-List.map_take,-Prod.forall,-Prod.exists]
    refine ⟨o,t,xs,ps,ns,rfl,hp,fun H1 s1=>?_⟩
    obtain ⟨hw,ht,h01,hl,h20⟩:=hp
    simp -dsimp[cxOf,stC,-Bool.exists_bool,-List.map_take,-Prod.forall,-Prod.exists]
    refine ⟨_,(ht.same s1).q,fun d hd=>⟨o,d,xs,ps,(fun k=>ns[k]?),rfl,hw.same (s1.trans (same_upd hd)),⟨_,upd_same,fun k=>?_⟩,fun l tv H2 hl hl2 hst h40 s2=>q l tv H2 (fresh_of (s1.trans (same_upd hd)) hl) hl2 hst h40 ((s1.trans (same_upd hd)).trans s2)⟩⟩
    have:=valV_nums (ns.map V.int) 0 k
    rw [Nat.zero_add,List.getElem?_map] at this
    exact this
theorem led_goal {xs:List Str} {ps:List (Str×Str)} {ns:List Int} (hTs:Ties xs ps) (hlen:ns.length=ps.length) (h01:∀n∈ns,0≤n∧n≤1):∀s∈ledS ns ps,s.2.2∈xs:=by
  intro s hs
  have h1:s.2.2∈goalL ns ps:=by
    rw [← goal_eq ns ps 0,← led_eq (fun k=>ns[k]?) ps ns 0 (fun i=>by rw [Nat.zero_add]) hlen h01]
    exact List.mem_map_of_mem hs
  have key:∀(ns:List Int) (ps:List (Str×Str)),(∀e∈ps,e.1∈xs∧e.2∈xs)→∀g∈goalL ns ps,g∈xs:=by
    intro ns
    induction ns with
    | nil=>intro ps _ g h;simp [goalL] at h
    | cons n ns ih=>
      intro ps hp g h
      cases ps with
      | nil=>simp [goalL] at h
      | cons e ps=>
        rw [goalL] at h
        rcases List.mem_cons.mp h with rfl | h
        · have:=hp e List.mem_cons_self
          unfold endG
          split
          ·exact this.2
          ·exact this.1
        ·exact ih ps (fun d hd=>hp d (List.mem_cons_of_mem _ hd)) g h
  exact key ns ps (fun e he=>⟨(hTs.ok e he).1,(hTs.ok e he).2.1⟩) _ h1
theorem led_L {ps:List (Str×Str)} {ns:List Int} (hlen:ns.length=ps.length) (h01:∀n∈ns,0≤n∧n≤1):ledS ns ps=ledL ns ps 0:=led_eq (fun k=>ns[k]?) ps ns 0 (fun i=>by rw [Nat.zero_add]) hlen h01
def sp_is_point (C:Addr):Sp:=fun vs H Q _=>∃(o:Addr) (x:Str) (xs:List Str) (ps:List (Str×Str)),vs=[.ref o,.str x]∧WebAt C H o xs ps∧Pts xs∧x∈xs∧∀H',Same H H'→Q (.bl true) H'
theorem ok_is_point (T:Txt K mg a):FnOk P w K mg base CX0 2 a.f_is_point a.fd_is_point ["web", "thing"] (sp_is_point a.C_Web):=by
  refine T.F_is_point.okL sc_is_point (fun vs H Q E h=>?_) (fun cdv A outer s H vs Q E hr h=>?_)
  · obtain ⟨o,x,xs,ps,rfl,_⟩:=h
    rfl
  · obtain ⟨o,x,xs,ps,rfl,hw,hX,hx,q⟩:=h
    refine ⟨_,(pss_one (ps_ret (fpe_and (PE.eqv (pe_call (ok_is_name (K:=K) T) (hr.mono (by decide)) rfl T.m_is_name T.F_is_name.kp T.b_is_name .nil pass0 (pa_cons (fpv 1) pa_nil)) (fCall_eq _ _ _)) (pe_one (pe_cmpR (finK (K:=K) rfl) (fpv 1) (PE.eqv (pe_meth0 (fpv 0) T.c_Web T.M_Web_points (ok_Web_points (K:=K) T) (hr.mono (by decide)) T.b_Web_points .nil pass0) (fMeth_eq _ _ _ _ _ _)) rfl))))),?_⟩
    have hn:=hX.nm x hx
    simp -dsimp[cxOf,stC,-Bool.exists_bool,-List.map_take,-Prod.forall,-Prod.exists]
    refine ⟨x,rfl,name_short hn,fun H1 s1=>?_⟩
    rw [hn]
    obtain ⟨dx,fs,hi,hno⟩:=(hw.same s1).ins no_points.1 no_points.2
    simp -dsimp[cxOf,stC,-Bool.exists_bool,-List.map_take,-Prod.forall,-Prod.exists]
    refine ⟨_,_,hi,hno,o,xs,ps,rfl,hw.same s1,fun l2 hl2=>?_⟩
    have s2:Same H1 (upd H1 l2 (.lst (xs.map V.str))):=same_upd hl2
    have e2:upd H1 l2 (.lst (xs.map V.str)) l2=some (.lst (xs.map V.str)):=upd_same
    generalize upd H1 l2 (.lst (xs.map V.str))=H2 at s2 e2 ⊢
    have d1:inV (.str x) (xs.map V.str)=true:=by rw [inV_str_iff];simp [hx]
    simp -dsimp[cxOf,stC,-Bool.exists_bool,-List.map_take,-Prod.forall,-Prod.exists]
    refine ⟨_,.inl (SqL.of e2),rfl,List.all_eq_true.mp (flat_strs _),?_⟩
    rw [d1]
    exact q _ (s1.trans s2)
def sp_sure_of_point (C:Addr):Sp:=fun vs H Q _=>∃(o:Addr) (x:Str) (xs:List Str) (ps:List (Str×Str)),vs=[.ref o,.str x]∧WebAt C H o xs ps∧Pts xs∧x∈xs∧∀H',Same H H'→Q .non H'
theorem ok_sure_of_point (T:Txt K mg a):FnOk P w K mg base CX0 3 a.f_sure_of_point a.fd_sure_of_point ["web", "thing"] (sp_sure_of_point a.C_Web):=by
  refine T.F_sure_of_point.okL sc_sure_of_point (fun vs H Q E h=>?_) (fun cdv A outer s H vs Q E hr h=>?_)
  · obtain ⟨o,x,xs,ps,rfl,_⟩:=h
    rfl
  · obtain ⟨o,x,xs,ps,rfl,hw,hX,hx,q⟩:=h
    refine ⟨_,(pss_one (ps_if (pt_not (fpt_val (PE.eqv (pe_call (ok_is_point (K:=K) T) (hr.mono (by decide)) rfl T.m_is_point T.F_is_point.kp T.b_is_point .nil pass0 (pa_cons (fpv 0) (pa_cons (fpv 1) pa_nil))) (fCall_eq _ _ _)))) (pss_one ps_never) pss_nil)),?_⟩
    simp -dsimp[cxOf,stC,-Bool.exists_bool,-List.map_take,-Prod.forall,-Prod.exists]
    refine ⟨o,x,xs,ps,rfl,hw,hX,hx,fun H1 s1=>?_⟩
    simp -dsimp[cxOf,stC,-Bool.exists_bool,-List.map_take,-Prod.forall,-Prod.exists]
    exact q _ s1
def sp_reached (C:Addr):Sp:=fun vs H Q _=>∃(o t:Addr) (x:Str) (xs:List Str) (ps:List (Str×Str)) (ns:List Int),vs=[.ref o,.ref t,.str x]∧PtIn C H o t xs ps ns∧Pts xs∧Ties xs ps∧x∈xs∧
  ∀(r:Addr) (H':Hp),H r=none→H' r=some (.lst ((fnd (ledS ns ps) xs x).map V.str))→Same H H'→Q (.ref r) H'
theorem ok_reached (T:Txt K mg a):FnOk P w K mg base CX0 6 a.f_reached a.fd_reached ["web", "pointing", "point"] (sp_reached a.C_Web):=by
  refine T.F_reached.okL sc_reached (fun vs H Q E h=>?_) (fun cdv A outer s H vs Q E hr h=>?_)
  · obtain ⟨o,t,x,xs,ps,ns,rfl,_⟩:=h
    rfl
  · obtain ⟨o,t,x,xs,ps,ns,rfl,hp,hX,hTs,hx,q⟩:=h
    refine ⟨_,(pss_cons (ps_set (i:=3) sc_reached.nd rfl (Or.inl rfl) (PE.eqv (pe_call (ok_arrows (K:=K) T) (hr.mono (by decide)) rfl T.m_arrows T.F_arrows.kp T.b_arrows .nil pass0 (pa_cons (fpv 0) (pa_cons (fpv 1) pa_nil))) (fCall_eq _ _ _)))
      (pss_cons (ps_expr (PE.eqv (pe_call (ok_sure_of_point (K:=K) T) (hr.mono (by decide)) rfl T.m_sure_of_point T.F_sure_of_point.kp T.b_sure_of_point .nil pass0 (pa_cons (fpv 0) (pa_cons (fpv 2) pa_nil))) (fCall_eq _ _ _)))
      (pss_one (ps_ret (PE.eqv (pe_call (ok_found_along (K:=K) T) (hr.mono (by decide)) rfl T.m_found_along T.F_found_along.kp T.b_found_along .nil pass0 (pa_cons (fpv 0) (pa_cons (fpv 2) (pa_cons (fpv 3) pa_nil)))) (fCall_eq _ _ _)))))),?_⟩
    have hw:=hp.1
    simp -dsimp[cxOf,stC,-Bool.exists_bool,-List.map_take,-Prod.forall,-Prod.exists]
    refine ⟨o,t,xs,ps,ns,rfl,hp,fun l tv H1 hl0 hl1 hS h40 s1=>?_⟩
    simp -dsimp[cxOf,stC,-Bool.exists_bool,-List.map_take,-Prod.forall,-Prod.exists]
    refine ⟨o,x,xs,ps,rfl,hw.same s1,hX,hx,fun H2 s2=>?_⟩
    simp -dsimp[cxOf,stC,-Bool.exists_bool,-List.map_take,-Prod.forall,-Prod.exists]
    have s12:=s1.trans s2
    refine ⟨o,x,l,tv,ledS ns ps,xs,ps,rfl,hw.same s12,s2 _ _ hl1,StepsAt.keep hS (L2.TupKeep.of s2),hx,led_goal hTs hp.2.2.2.1 hp.2.2.1,hX.len.2,fun r H3 hr0 hr3 s3=>?_⟩
    exact q r H3 (fresh_of s12 hr0) hr3 (s12.trans s3)
def sp_way (C:Addr):Sp:=fun vs H Q _=>∃(o t:Addr) (x y:Str) (xs:List Str) (ps:List (Str×Str)) (ns:List Int),vs=[.ref o,.ref t,.str x,.str y]∧PtIn C H o t xs ps ns∧Pts xs∧Ties xs ps∧x∈xs∧y∈xs∧
  ∀(R:BR) (H':Hp),Bfs (ledS ns ps) x R.length R→BfsF (ledS ns ps) x R→Same H H'→(¬y∈R.map (·.1)→Q .non H')∧∀(r:Addr) (w:List Nat),(y,w)∈R→H r=none→H' r=some (.lst (w.map fun n:Nat=>V.int n))→Q (.ref r) H'
theorem ok_way (T:Txt K mg a):FnOk P w K mg base CX0 6 a.f_way a.fd_way ["web", "pointing", "a", "b"] (sp_way a.C_Web):=by
  refine T.F_way.okL sc_way (fun vs H Q E h=>?_) (fun cdv A outer s H vs Q E hr h=>?_)
  · obtain ⟨o,t,x,y,xs,ps,ns,rfl,_⟩:=h
    rfl
  · obtain ⟨o,t,x,y,xs,ps,ns,rfl,hp,hX,hTs,hx,hy,q⟩:=h
    refine ⟨_,(pss_cons (ps_set (i:=4) sc_way.nd rfl (Or.inl rfl) (PE.eqv (pe_call (ok_arrows (K:=K) T) (hr.mono (by decide)) rfl T.m_arrows T.F_arrows.kp T.b_arrows .nil pass0 (pa_cons (fpv 0) (pa_cons (fpv 1) pa_nil))) (fCall_eq _ _ _)))
      (pss_cons (ps_expr (PE.eqv (pe_call (ok_sure_of_point (K:=K) T) (hr.mono (by decide)) rfl T.m_sure_of_point T.F_sure_of_point.kp T.b_sure_of_point .nil pass0 (pa_cons (fpv 0) (pa_cons (fpv 2) pa_nil))) (fCall_eq _ _ _)))
      (pss_cons (ps_expr (PE.eqv (pe_call (ok_sure_of_point (K:=K) T) (hr.mono (by decide)) rfl T.m_sure_of_point T.F_sure_of_point.kp T.b_sure_of_point .nil pass0 (pa_cons (fpv 0) (pa_cons (fpv 3) pa_nil))) (fCall_eq _ _ _)))
      (pss_one (ps_ret (PE.eqv (pe_dget1 (hu_of hr) (PE.eqv (pe_call (ok_ways_along (K:=K) T) (hr.mono (by decide)) rfl T.m_ways_along T.F_ways_along.kp T.b_ways_along .nil pass0 (pa_cons (fpv 2) (pa_cons (fpv 4) pa_nil))) (fCall_eq _ _ _)) (fpv 3) ⟨rfl,rfl,rfl,rfl⟩) (fDGet1_eq _ _))))))),?_⟩
    have hw:=hp.1
    simp -dsimp[cxOf,stC,-Bool.exists_bool,-List.map_take,-Prod.forall,-Prod.exists]
    refine ⟨o,t,xs,ps,ns,rfl,hp,fun l tv H1 hl0 hl1 hS h40 s1=>?_⟩
    simp -dsimp[cxOf,stC,-Bool.exists_bool,-List.map_take,-Prod.forall,-Prod.exists]
    refine ⟨o,x,xs,ps,rfl,hw.same s1,hX,hx,fun H2 s2=>?_⟩
    simp -dsimp[cxOf,stC,-Bool.exists_bool,-List.map_take,-Prod.forall,-Prod.exists]
    have s12:=s1.trans s2
    refine ⟨o,y,xs,ps,rfl,hw.same s12,hX,hy,fun H3 s3=>?_⟩
    simp -dsimp[cxOf,stC,-Bool.exists_bool,-List.map_take,-Prod.forall,-Prod.exists]
    have s13:=s12.trans s3
    refine ⟨x,l,tv,ledS ns ps,xs,rfl,(s2.trans s3) _ _ hl1,StepsAt.keep hS (L2.TupKeep.of (s2.trans s3)),hx,led_goal hTs hp.2.2.2.1 hp.2.2.1,hX.len.2,fun d kvs R H4 hd hd4 hW hB hF hN s4=>?_⟩
    simp -dsimp[cxOf,stC,-Bool.exists_bool,-List.map_take,-Prod.forall,-Prod.exists]
    have s14:=s13.trans s4
    obtain ⟨q1,q2⟩:=q R H4 hB hF s14
    refine ⟨isD hd4,_,getS y hd4,?_⟩
    by_cases hb:y∈R.map (·.1)
    · obtain ⟨⟨y',w'⟩,hw',hy'⟩:=List.mem_map.mp hb
      obtain rfl:y'=y:=hy'
      obtain ⟨p,hp1,hp2⟩:=hW.some hB.nd hw'
      rw [hp1]
      exact q2 p w' hw' (fresh_of s13 (hN.at hp1)) hp2
    · rw [hW.none hb]
      exact q1 hb
def inN (ns:List Int) (ps:List (Str×Str)) (x:Str):Nat:=(goalL ns ps).count x
def withN (c:List Str):List (Str×Str)→Nat
  | []=>0
  | e::ps=>(if e.1∈c∧e.2∈c then 1 else 0)+withN c ps
theorem goal_in {xs:List Str}:∀{ns:List Int} {ps:List (Str×Str)},(∀e∈ps,e.1∈xs∧e.2∈xs)→∀g∈goalL ns ps,g∈xs
  | [],_,_,g,h=>by simp [goalL] at h
  | _::_,[],_,g,h=>by simp [goalL] at h
  | n::ns,e::ps,hp,g,h=>by
    simp only [goalL,List.mem_cons] at h
    rcases h with rfl | h
    · have:=hp e List.mem_cons_self
      unfold endG
      split
      ·exact this.2
      ·exact this.1
    ·exact goal_in (fun d hd=>hp d (List.mem_cons_of_mem _ hd)) g h
theorem gl_split (c:List Str):∀{ns:List Int} {ps:List (Str×Str)},ns.length=ps.length→((goalL ns ps).filter fun x=>decide (x∈c)).length=intoN c ns ps+withN c ps
  | [],[],_=>rfl
  | [],_::_,h=>by simp at h
  | _::_,[],h=>by simp at h
  | n::ns,e::ps,h=>by
    have ih:=gl_split c (ns:=ns) (ps:=ps) (by simpa using h)
    simp only [goalL,intoN,withN]
    unfold endO endG
    by_cases h0:n=0 <;> by_cases h1:e.1∈c <;> by_cases h2:e.2∈c <;> simp [h0,h1,h2] <;> omega
theorem sum_map_add {α:Type} (f g:α→Nat):∀l:List α,(l.map fun x=>f x+g x).sum=(l.map f).sum+(l.map g).sum
  | []=>rfl
  | a::l=>by simp only [List.map_cons,List.sum_cons];rw [sum_map_add f g l];omega
theorem sum_ind {α:Type} [DecidableEq α] (y:α):∀{l:List α},l.Nodup→(l.map fun x=>if y=x then 1 else 0).sum=if y∈l then 1 else 0
  | [],_=>rfl
  | a::l,h=>by
    have ih:=sum_ind y (List.nodup_cons.mp h).2
    have na:=(List.nodup_cons.mp h).1
    simp only [List.map_cons,List.sum_cons]
    rw [ih]
    by_cases e:y=a
    · subst e
      simp [na]
    ·simp [e]
theorem cnt_sum {xs:List Str} (nd:xs.Nodup) (p:Str→Bool):∀{L:List Str},(∀y∈L,y∈xs)→(L.filter p).length=((xs.filter p).map fun x=>L.count x).sum
  | [],_=>by
    induction xs.filter p with
    | nil=>rfl
    | cons a l ih=>simpa using ih
  | y::L,h=>by
    have ih:=cnt_sum nd p (L:=L) fun z hz=>h z (List.mem_cons_of_mem _ hz)
    have hy:=h y List.mem_cons_self
    have e:((xs.filter p).map fun x=>(y::L).count x).sum=((xs.filter p).map fun x=>L.count x).sum+((xs.filter p).map fun x=>if y=x then 1 else 0).sum:=by
      rw [← sum_map_add]
      congr 1
      refine List.map_congr_left fun x _=>?_
      rw [List.count_cons]
      by_cases hyx:y=x <;> simp [hyx]
    rw [e,sum_ind y (List.Pairwise.filter _ nd),← ih]
    simp only [List.filter_cons,List.mem_filter]
    by_cases hp:p y=true
    ·simp [hp,hy]
    ·simp [hp]
theorem cnt_set {b c x:Str}:∀{L:List Str} {n:Nat},L[n]? = some c→(L.set n b).count x+(if c=x then 1 else 0)=L.count x+(if b=x then 1 else 0)
  | [],n,h=>by simp at h
  | a::L,0,h=>by
    simp at h
    subst h
    simp only [List.set_cons_zero,List.count_cons,beq_iff_eq]
    omega
  | a::L,n+1,h=>by
    have ih:=cnt_set (b:=b) (x:=x) (L:=L) (n:=n) (by simpa using h)
    simp only [List.set_cons_succ,List.count_cons]
    omega
theorem goal_at:∀{ns:List Int} {ps:List (Str×Str)} {j:Nat} {n:Int} {e:Str×Str},ns[j]? = some n→ps[j]? = some e→(goalL ns ps)[j]? = some (endG n e)
  | [],_,j,n,e,h,_=>by simp at h
  | _::_,[],j,n,e,_,h=>by simp at h
  | m::ns,d::ps,0,n,e,h1,h2=>by
    simp at h1 h2
    subst h1 h2
    rfl
  | m::ns,d::ps,j+1,n,e,h1,h2=>by
    simp only [goalL,List.getElem?_cons_succ]
    exact goal_at (by simpa using h1) (by simpa using h2)
theorem goal_set:∀{ns:List Int} {ps:List (Str×Str)} {j:Nat} {m:Int} {e:Str×Str},ps[j]? = some e→goalL (ns.set j m) ps=(goalL ns ps).set j (endG m e)
  | [],ps,j,m,e,h=>by simp [goalL]
  | _::_,[],j,m,e,h=>by simp at h
  | n::ns,d::ps,0,m,e,h=>by
    simp at h
    subst h
    rfl
  | n::ns,d::ps,j+1,m,e,h=>by
    simp only [List.set_cons_succ,goalL]
    rw [goal_set (by simpa using h)]
theorem path_steps {S:List Stp} {a:Str} {w:List Nat} {vs:List Str} {b:Str} (h:PathV S a w vs b):∀n∈w,∃u v,(n,u,v)∈S∧v∈vs:=by
  induction h with
  | nil=>intro n hn;cases hn
  | snoc _ q ih=>
    intro n hn
    rcases List.mem_append.mp hn with hn | hn
    · obtain ⟨u,v,h1,h2⟩:=ih n hn
      exact ⟨u,v,h1,List.mem_append_left _ h2⟩
    · rw [List.mem_singleton] at hn
      subst hn
      exact ⟨_,_,q,by simp⟩
def intsN (w:List Nat):List Int:=w.map fun n:Nat=>(n:Int)
theorem trn_snoc {w:List Nat} {n:Nat} {ns:List Int} {m:Int} (hn:n∉w) (h:ns[n]? = some m):trn (intsN (w++[n])) ns=(trn (intsN w) ns).set n (1 - m):=by
  apply List.ext_getElem?
  intro i
  rw [List.getElem?_set,trn_len]
  cases hi:ns[i]? with
  | none=>
    have hl:ns.length≤i:=List.getElem?_eq_none_iff.mp hi
    have hln:n<ns.length:=(List.getElem?_eq_some_iff.mp h).1
    rw [if_neg (by omega),List.getElem?_eq_none (by rw [trn_len];exact hl),List.getElem?_eq_none (by rw [trn_len];exact hl)]
  | some k=>
    rw [trn_at hi,trn_at hi]
    by_cases e:n=i
    · subst e
      rw [h] at hi
      cases hi
      have hln:n<ns.length:=(List.getElem?_eq_some_iff.mp h).1
      simp [intsN,hln]
    · simp only [intsN,List.map_append,List.map_cons,List.map_nil,List.mem_append,List.mem_map,List.mem_singleton,if_neg e]
      have:¬((i:Int)=(n:Int)):=fun z=>e (by omega)
      simp [this]
theorem trn_same {w:List Nat} {n:Nat} {ns:List Int} {m:Int} (hn:n∉w) (h:ns[n]? = some m):(trn (intsN w) ns)[n]? = some m:=by
  rw [trn_at h,if_neg]
  intro z
  obtain ⟨k,hk,e⟩:=List.mem_map.mp z
  have:k=n:=by omega
  exact hn (this▸hk)
theorem path_turn {ns:List Int} {ps:List (Str×Str)} (h01:∀n∈ns,0≤n∧n≤1) (hne:∀e∈ps,e.1≠e.2) {a:Str} {w:List Nat} {vs:List Str} {b:Str} (h:PathV (ledL ns ps 0) a w vs b) :
    vs.Nodup→(∀n∈w,n<ps.length)∧w.Nodup∧∀x,inN (trn (intsN w) ns) ps x+(if b=x then 1 else 0)=inN ns ps x+(if a=x then 1 else 0):=by
  induction h with
  | nil=>intro _;refine ⟨by simp,by simp,fun x=>?_⟩;simp [intsN,trn_nil]
  | @snoc w vs b c n hp hq ih=>
    intro hnd
    have nd1:vs.Nodup:=(List.nodup_append.mp hnd).1
    have hcv:c∉vs:=fun z=>(List.nodup_append.mp hnd).2.2 c z c (by simp) rfl
    obtain ⟨i1,i2,i3⟩:=ih nd1
    obtain ⟨j,m,e,a1,a2,a3⟩:=mem_ledL.mp hq
    cases a3
    have hnw:n∉w:=fun hm=>by
      obtain ⟨u,v,q1,q2⟩:=path_steps hp n hm
      obtain ⟨j',m',e',b1,b2,b3⟩:=mem_ledL.mp q1
      cases b3
      rw [a1] at b1
      rw [a2] at b2
      cases b1
      cases b2
      exact hcv q2
    have hln:n<ps.length:=(List.getElem?_eq_some_iff.mp a2).1
    refine ⟨fun k hk=>?_,?_,fun x=>?_⟩
    · rcases List.mem_append.mp hk with hk | hk
      ·exact i1 k hk
      · rw [List.mem_singleton] at hk
        subst hk
        exact hln
    · rw [List.nodup_append]
      refine ⟨i2,by simp,fun k hk l hl=>?_⟩
      rw [List.mem_singleton] at hl
      subst hl
      exact fun z=>hnw (z▸hk)
    · have g1:=cnt_set (b:=endG (1 - m) e) (x:=x) (goal_at (trn_same hnw a1) a2)
      rw [← goal_set a2,← trn_snoc hnw a1] at g1
      have m01:=h01 m (List.mem_of_getElem? a1)
      have eo:endG (1 - m) e=endO m e:=by
        unfold endG endO
        obtain rfl | rfl:m=0∨m=1:=by omega
        ·simp
        ·simp
      rw [eo] at g1
      have i4:=i3 x
      unfold inN at i4 ⊢
      omega
def inC (L:List Stp):List Str:=L.map fun s=>s.2.2
def outC (L:List Stp):List Str:=L.map fun s=>s.2.1
def NumsNd (L:List Stp):Prop:=(L.map fun s=>s.1).Nodup
theorem filt_le {p:Str→Bool}:∀{L:List Stp},(∀s∈L,p s.2.1=true→p s.2.2=true)→((outC L).filter p).length≤((inC L).filter p).length
  | [],_=>Nat.le_refl _
  | s::L,h=>by
    have ih:=filt_le (p:=p) (L:=L) fun t ht=>h t (List.mem_cons_of_mem _ ht)
    have h0:=h s List.mem_cons_self
    simp only [inC,outC,List.map_cons,List.filter_cons] at ih ⊢
    by_cases a:p s.2.1=true
    · rw [if_pos a,if_pos (h0 a)]
      simp only [List.length_cons]
      omega
    · rw [if_neg a]
      split
      ·simp only [List.length_cons];omega
      ·exact ih
theorem way_steps {S:List Stp} {a:Str} {w:List Nat} {vs:List Str} {b:Str} (h:PathV S a w vs b):∃ss:List Stp,(ss.map fun s=>s.1)=w∧(∀s∈ss,s∈S)∧vs=outC ss++[b]∧vs=a::inC ss:=by
  induction h with
  | nil=>exact ⟨[],rfl,by simp,rfl,rfl⟩
  | @snoc w vs b c n hp hq ih=>
    obtain ⟨ss,h1,h2,h3,h4⟩:=ih
    refine ⟨ss++[(n,b,c)],by simp [h1],fun s hs=>?_,?_,?_⟩
    · rcases List.mem_append.mp hs with hs | hs
      ·exact h2 s hs
      · rw [List.mem_singleton] at hs
        subst hs
        exact hq
    · rw [h3]
      simp [outC]
    · rw [h4]
      simp [inC]
theorem nodup_of_map {α β:Type} {f:α→β}:∀{l:List α},(l.map f).Nodup→l.Nodup
  | [],_=>List.nodup_nil
  | a::l,h=>by
    rw [List.map_cons,List.nodup_cons] at h
    rw [List.nodup_cons]
    exact ⟨fun z=>h.1 (List.mem_map_of_mem z),nodup_of_map h.2⟩
theorem same_num {L:List Stp} (hn:NumsNd L) {s t:Stp} (hs:s∈L) (ht:t∈L) (e:s.1=t.1):s=t:=by
  unfold NumsNd at hn
  induction L with
  | nil=>cases hs
  | cons a L ih=>
    rw [List.map_cons,List.nodup_cons] at hn
    rcases List.mem_cons.mp hs with h1 | h1 <;> rcases List.mem_cons.mp ht with h2 | h2
    ·rw [h1,h2]
    · rw [h1] at e
      exact (hn.1 (List.mem_map.mpr ⟨t,h2,e.symm⟩)).elim
    · rw [h2] at e
      exact (hn.1 (List.mem_map.mpr ⟨s,h1,e⟩)).elim
    ·exact ih hn.2 h1 h2
def unL:List Int→List Int→List (Str×Str)→Nat→List Stp
  | n::ns,m::ms,e::ps,k=>if n=m then unL ns ms ps (k+1) else (k,endO n e,endG n e)::unL ns ms ps (k+1)
  | _,_,_,_=>[]
theorem unL_num:∀{ns ms:List Int} {ps:List (Str×Str)} {k:Nat},∀s∈unL ns ms ps k,k≤s.1
  | n::ns,m::ms,e::ps,k,s,h=>by
    rw [unL] at h
    split at h
    · have:=unL_num s h
      omega
    · rcases List.mem_cons.mp h with rfl | h
      ·exact Nat.le_refl _
      · have:=unL_num s h
        omega
  | [],_,_,_,s,h=>by simp [unL] at h
  | _::_,[],_,_,s,h=>by simp [unL] at h
  | _::_,_::_,[],_,s,h=>by simp [unL] at h
theorem unL_nd:∀(ns ms:List Int) (ps:List (Str×Str)) (k:Nat),NumsNd (unL ns ms ps k)
  | n::ns,m::ms,e::ps,k=>by
    rw [unL]
    split
    ·exact unL_nd ns ms ps (k+1)
    · unfold NumsNd
      rw [List.map_cons,List.nodup_cons]
      refine ⟨fun z=>?_,unL_nd ns ms ps (k+1)⟩
      obtain ⟨s,hs,e⟩:=List.mem_map.mp z
      have:=unL_num s hs
      simp only at e
      omega
  | [],_,_,_=>List.nodup_nil
  | _::_,[],_,_=>List.nodup_nil
  | _::_,_::_,[],_=>List.nodup_nil
theorem unL_cnt (x:Str):∀{ns ms:List Int} {ps:List (Str×Str)} (k:Nat),ns.length=ps.length→ms.length=ps.length→(∀n∈ns,0≤n∧n≤1)→(∀n∈ms,0≤n∧n≤1)→
    inN ns ps x+(outC (unL ns ms ps k)).count x=inN ms ps x+(inC (unL ns ms ps k)).count x
  | [],[],[],_,_,_,_,_=>rfl
  | [],_,_::_,_,h,_,_,_=>by simp at h
  | _::_,_,[],_,h,_,_,_=>by simp at h
  | _,[],_::_,_,_,h,_,_=>by simp at h
  | [],_::_,[],_,_,h,_,_=>by simp at h
  | n::ns,m::ms,e::ps,k,h1,h2,hn,hm=>by
    have ih:=unL_cnt x (ns:=ns) (ms:=ms) (ps:=ps) (k+1) (by simpa using h1) (by simpa using h2) (fun a ha=>hn a (List.mem_cons_of_mem _ ha)) fun a ha=>hm a (List.mem_cons_of_mem _ ha)
    have n01:=hn n List.mem_cons_self
    have m01:=hm m List.mem_cons_self
    rw [unL]
    simp only [inN,goalL,List.count_cons] at ih ⊢
    by_cases e1:n=m
    · subst e1
      rw [if_pos rfl]
      omega
    · rw [if_neg e1]
      simp only [inC,outC,List.map_cons,List.count_cons] at ih ⊢
      have eo:endG m e=endO n e:=by
        unfold endG endO
        obtain ⟨rfl,rfl⟩ | ⟨rfl,rfl⟩:(n=0∧m=1)∨(n=1∧m=0):=by omega
        ·simp
        ·simp
      rw [eo]
      omega
theorem unL_eq:∀(ns ms:List Int) (ps:List (Str×Str)) (k:Nat),ns.length=ps.length→ms.length=ps.length→(ledL ns ps k).filter (fun s=>!decide (ns[s.1 - k]? = ms[s.1 - k]?))=unL ns ms ps k
  | [],_,_,_,_,_=>by simp [ledL,unL]
  | n::ns,m::ms,e::ps,k,h1,h2=>by
    have ih:=unL_eq ns ms ps (k+1) (by simpa using h1) (by simpa using h2)
    rw [ledL,unL,List.filter_cons]
    have t:(ledL ns ps (k+1)).filter (fun s=>!decide ((n::ns)[s.1 - k]? = (m::ms)[s.1 - k]?))=(ledL ns ps (k+1)).filter (fun s=>!decide (ns[s.1 - (k+1)]? = ms[s.1 - (k+1)]?)):=by
      refine List.filter_congr fun s hs=>?_
      obtain ⟨j,hj⟩:=List.getElem?_of_mem hs
      rw [ledL_at] at hj
      obtain ⟨a,b,_,_,rfl⟩:=hj
      simp only
      rw [show k+1+j - k=j+1 by omega,show k+1+j - (k+1)=j by omega,List.getElem?_cons_succ,List.getElem?_cons_succ]
    rw [t,ih]
    simp only [Nat.sub_self,List.getElem?_cons_zero,Option.some.injEq]
    by_cases e1:n=m
    · subst e1
      simp
    ·simp [e1]
  | _::_,[],_::_,_,_,h=>by simp at h
  | _::_,_,[],_,h,_=>by simp at h
def Flw (L:List Stp) (a b:Str) (k:Nat):Prop:=(outC L++List.replicate k b).Perm (inC L++List.replicate k a)
theorem unL_flw {xs:List Str} {ns ms:List Int} {ps:List (Str×Str)} {a b:Str} {k:Nat} (h1:ns.length=ps.length) (h2:ms.length=ps.length) (hn:∀n∈ns,0≤n∧n≤1) (hm:∀n∈ms,0≤n∧n≤1)
    (he:∀x,inN ms ps x+(if b=x then k else 0)=inN ns ps x+(if a=x then k else 0)):Flw (unL ns ms ps 0) a b k:=by
  unfold Flw
  rw [List.perm_iff_count]
  intro x
  have h:=unL_cnt x 0 h1 h2 hn hm
  have h':=he x
  rw [List.count_append,List.count_append,List.count_replicate,List.count_replicate]
  simp only [beq_iff_eq]
  omega
theorem filt_flw {L:List Stp} {a b:Str} {k:Nat} (h:Flw L a b k) {p:Str→Bool} (ha:p a=false) (hb:p b=true):((outC L).filter p).length+k=((inC L).filter p).length:=by
  have e:=(h.filter p).length_eq
  rw [List.filter_append,List.filter_append,List.length_append,List.length_append] at e
  have e1:(List.replicate k b).filter p=List.replicate k b:=List.filter_eq_self.mpr fun x hx=>by rw [List.eq_of_mem_replicate hx];exact hb
  have e2:(List.replicate k a).filter p=[]:=List.filter_eq_nil_iff.mpr fun x hx=>by rw [List.eq_of_mem_replicate hx,ha];decide
  rw [e1,e2,List.length_replicate] at e
  simpa using e
theorem flw_way {L:List Stp} {a b:Str} {k:Nat} (h:Flw L a b k) (hk:0<k):RT (Along L) a b:=by
  apply Classical.byContradiction
  intro hno
  have hd:∀x,∃z:Bool,z=true↔¬RT (Along L) a x:=fun x=>by
    by_cases h:RT (Along L) a x
    ·exact ⟨false,by simp [h]⟩
    ·exact ⟨true,by simp [h]⟩
  obtain ⟨p,hp⟩:=Classical.axiomOfChoice hd
  have pa:p a=false:=by
    cases e:p a with
    | false=>rfl
    | true=>exact ((hp a).mp e (.refl _)).elim
  have e:=filt_flw h pa ((hp b).mpr hno)
  have le:((inC L).filter p).length≤((outC L).filter p).length:=by
    have cl:∀t∈L,p t.2.2=true→p t.2.1=true:=fun t ht h=>(hp _).mpr fun z=>(hp _).mp h (.tail z ⟨t.1,ht⟩)
    clear h hd hp e pa hno
    induction L with
    | nil=>exact Nat.le_refl _
    | cons s L ih=>
      have ih:=ih fun t ht=>cl t (List.mem_cons_of_mem _ ht)
      have h0:=cl s List.mem_cons_self
      simp only [inC,outC,List.map_cons,List.filter_cons] at ih ⊢
      by_cases a:p s.2.2=true
      · rw [if_pos a,if_pos (h0 a)]
        simp only [List.length_cons]
        omega
      · rw [if_neg a]
        split
        ·simp only [List.length_cons];omega
        ·exact ih
  omega
theorem filt_all {p:Str→Bool}:∀{L:List Stp},(∀s∈L,p s.2.1=true→p s.2.2=true)→((inC L).filter p).length≤((outC L).filter p).length→∀s∈L,p s.2.2=true→p s.2.1=true
  | [],_,_,s,hs,_=>by cases hs
  | t::L,h,he,s,hs,hp=>by
    have ih:=filt_all (p:=p) (L:=L) fun t ht=>h t (List.mem_cons_of_mem _ ht)
    have le:=filt_le (p:=p) (L:=L) fun t ht=>h t (List.mem_cons_of_mem _ ht)
    have h0:=h t List.mem_cons_self
    simp only [inC,outC,List.map_cons,List.filter_cons] at he le ih
    by_cases a:p t.2.1=true
    · rw [if_pos a,if_pos (h0 a)] at he
      simp only [List.length_cons] at he
      rcases List.mem_cons.mp hs with rfl | hs
      ·exact a
      ·exact ih (by omega) s hs hp
    · rw [if_neg a] at he
      by_cases c:p t.2.2=true
      · rw [if_pos c] at he
        simp only [List.length_cons] at he
        omega
      · rw [if_neg c] at he
        rcases List.mem_cons.mp hs with rfl | hs
        ·exact (c hp).elim
        ·exact ih he s hs hp
theorem flw_none {L:List Stp} {a b:Str} (h:Flw L a b 0) {p:Str→Bool} (ha:p a=false) (hb:p b=true) (hc:∀s∈L,p s.2.1=true→p s.2.2=true):¬RT (Along L) a b:=by
  have e:=filt_flw h ha hb
  have all:=filt_all hc (by omega)
  intro z
  have key:∀x,RT (Along L) a x→p x=false:=fun x r=>by
    induction r with
    | refl=>exact ha
    | tail _ q ih=>
      obtain ⟨n,hn⟩:=q
      cases e:p _ with
      | false=>rfl
      | true=>
        have:=all _ hn e
        rw [ih] at this
        cases this
  rw [key b z] at hb
  cases hb
theorem way_nums {L:List Stp} (hn:NumsNd L) {a b:Str} {w:List Nat} {vs:List Str} (h:PathV L a w vs b) (hv:vs.Nodup):∃ss:List Stp,(ss.map fun t=>t.1)=w∧(∀t∈ss,t∈L)∧w.Nodup∧vs=outC ss++[b]∧vs=a::inC ss:=by
  obtain ⟨ss,h1,h2,h3,h4⟩:=way_steps h
  refine ⟨ss,h1,h2,?_,h3,h4⟩
  rw [← h1]
  rw [h4,List.nodup_cons] at hv
  have hss:ss.Nodup:=nodup_of_map hv.2
  clear h1 h3 h4 hv
  induction ss with
  | nil=>exact List.nodup_nil
  | cons a l ih=>
    rw [List.nodup_cons] at hss
    rw [List.map_cons,List.nodup_cons]
    refine ⟨fun z=>?_,ih (fun t ht=>h2 t (List.mem_cons_of_mem _ ht)) hss.2⟩
    obtain ⟨t,ht,e⟩:=List.mem_map.mp z
    obtain rfl:=same_num hn (h2 t (List.mem_cons_of_mem _ ht)) (h2 a List.mem_cons_self) e
    exact hss.1 ht
theorem flw_rest {L:List Stp} {a b:Str} {k:Nat} {w:List Nat} {vs:List Str} (hb:Flw L a b (k+1)) (hn:NumsNd L) (h:PathV L a w vs b) (hv:vs.Nodup):Flw (L.filter fun t=>!decide (t.1∈w)) a b k:=by
  obtain ⟨ss,h1,h2,h3,h4,h5⟩:=way_nums hn h hv
  have ssn:ss.Nodup:=nodup_of_map (f:=fun t:Stp=>t.1) (by rw [h1];exact h3)
  have hp:(L.filter fun t=>decide (t.1∈w)).Perm ss:=by
    rw [List.perm_ext_iff_of_nodup ((nodup_of_map hn).filter _) ssn]
    intro t
    rw [List.mem_filter,decide_eq_true_eq]
    constructor
    · rintro ⟨a1,a2⟩
      rw [← h1,List.mem_map] at a2
      obtain ⟨u,hu,e⟩:=a2
      obtain rfl:=same_num hn (h2 u hu) a1 e
      exact hu
    · intro ht
      exact ⟨h2 t ht,by rw [← h1];exact List.mem_map.mpr ⟨t,ht,rfl⟩⟩
  have spl:(L.filter (fun t=>decide (t.1∈w))++L.filter fun t=>!decide (t.1∈w)).Perm L:=List.filter_append_perm _ _
  generalize (L.filter fun t=>!decide (t.1∈w))=M at spl
  have spl2:(ss++M).Perm L:=(hp.symm.append_right M).trans spl
  have b1:(inC ss++inC M).Perm (inC L):=by
    have:=spl2.map fun s:Stp=>s.2.2
    rw [List.map_append] at this
    exact this
  have b2:(outC ss++outC M).Perm (outC L):=by
    have:=spl2.map fun s:Stp=>s.2.1
    rw [List.map_append] at this
    exact this
  unfold Flw at hb ⊢
  rw [List.perm_iff_count] at hb b1 b2 ⊢
  intro x
  have c0:=hb x
  have c1:=b1 x
  have c2:=b2 x
  have c3:(outC ss++[b]).count x=(a::inC ss).count x:=by rw [← h4,← h5]
  rw [List.count_append,List.count_cons] at c3
  rw [List.count_append,List.count_append,List.count_replicate,List.count_replicate] at c0 ⊢
  rw [List.count_append] at c1 c2
  simp only [beq_iff_eq,List.count_cons,List.count_nil] at c0 c3 ⊢
  by_cases ea:a=x <;> by_cases eb:b=x <;> simp only [ea,eb,eq_self_iff_true,if_true,if_false] at c0 c3 ⊢ <;> omega
theorem inV_nat (k:Nat) (ks:List Nat):inV (.int k) (ks.map fun n:Nat=>V.int n)=decide (k∈ks):=by
  have h:=inV_int k (ks.map fun n:Nat=>(n:Int))
  rw [List.map_map] at h
  refine h.trans (decide_eq_decide.mpr ⟨fun z=>?_,fun z=>List.mem_map.mpr ⟨k,z,rfl⟩⟩)
  obtain ⟨a,ha,e⟩:=List.mem_map.mp z
  have:a=k:=by omega
  exact this▸ha
def outB (r:List Nat) (t:Stp):Bool:=!decide (t.1∈r)
theorem find_nd {b:Str} {w:List Nat}:∀{R:BR},(R.map fun e=>e.1).Nodup→(b,w)∈R→(R.find? fun e=>decide (e.1=b))=some (b,w)
  | e::R,hn,hm=>by
    rw [List.map_cons,List.nodup_cons] at hn
    rw [List.find?_cons]
    by_cases h:e.1=b
    · rcases List.mem_cons.mp hm with rfl | hm
      ·simp
      ·exact (hn.1 (by rw [h];exact List.mem_map.mpr ⟨_,hm,rfl⟩)).elim
    · rcases List.mem_cons.mp hm with rfl | hm
      ·exact absurd rfl h
      · simp only [decide_eq_false h]
        exact find_nd hn.2 hm
def sp_unlike_steps (C:Addr):Sp:=fun vs H Q _=>∃(o t u:Addr) (xs:List Str) (ps:List (Str×Str)) (ns ms:List Int),vs=[.ref o,.ref t,.ref u]∧PtIn C H o t xs ps ns∧Sq H u (ms.map V.int)∧ms.length=ps.length∧
  ∀(l:Addr) (tv:List V) (H':Hp),H l=none→H' l=some (.lst tv)→StepsAt H' tv (unL ns ms ps 0)→Same H H'→Q (.ref l) H'
theorem ok_unlike_steps (T:Txt K mg a):FnOk P w K mg base CX0 6 a.f_unlike_steps a.fd_unlike_steps ["web", "one", "other"] (sp_unlike_steps a.C_Web):=by
  refine T.F_unlike_steps.okL sc_unlike_steps (fun vs H Q E h=>?_) (fun cdv A outer s H vs Q E hr h=>?_)
  · obtain ⟨o,t,u,xs,ps,ns,ms,rfl,_⟩:=h
    rfl
  · obtain ⟨o,t,u,xs,ps,ns,ms,rfl,hp,hu,hml,q⟩:=h
    refine ⟨_,(pss_one (ps_ret (pe_comp rfl rfl (show CompScope (defScope s_unlike_steps) _ ["web", "one", "other"] ["step"] [1,2] ["step", "one", "other"] from ⟨rfl,by decide +kernel,by decide +kernel,rfl,by decide +kernel,by decide +kernel⟩) rfl (PI.eqv (pi_listk (K:=K) rfl (PE.eqv (pe_call (ok_arrows (K:=K) T) (hr.mono (by decide)) rfl T.m_arrows T.F_arrows.kp T.b_arrows .nil pass0 (pa_cons (fpv 0) (pa_cons (fpv 1) pa_nil))) (fCall_eq _ _ _))) (fiList_eq _ _)) (fun C s H fp pn=>(pg_name (i:=0) (show (["step", "one", "other"]:List Str).Nodup by decide +kernel) rfl (Or.inl rfl))) (fun C s H fp pn=>(pts_one (fpt_cmpR fop_ne (pe_ix (fixQk (K:=K) rfl) (fpv 1) (pe_ix (fixQk (K:=K) rfl) (fpv 0) pe_int (fun _ _=>rfl)) (fun _ _=>rfl)) (pe_ix (fixQk (K:=K) rfl) (fpv 2) (pe_ix (fixQk (K:=K) rfl) (fpv 0) pe_int (fun _ _=>rfl)) (fun _ _=>rfl)) (nomark _)))) (fun C s H fp pn=>(fpv 0))))),?_⟩
    have s600:600<sizeLine:=by decide
    simp -dsimp[cxOf,stC,-Bool.exists_bool,-List.map_take,-Prod.forall,-Prod.exists]
    refine ⟨o,t,xs,ps,ns,rfl,hp,fun l tv H1 hl0 hl1 hst h40 s1=>?_⟩
    obtain ⟨hw,ht,h01,hl,h20⟩:=hp
    rw [led_L hl h01] at hst
    simp -dsimp[cxOf,stC,-Bool.exists_bool,-List.map_take,-Prod.forall,-Prod.exists]
    refine ⟨⟨_,SqL.of hl1⟩,fun D hD=>cmL tv (fun i σ H'=>(∃o0,σ=[o0,some (.ref t),some (.ref u)])∧(∃us,H' D=some (.lst us)∧StepsAt H' us (((ledL ns ps 0).take i).filter fun s=>!decide (ns[s.1]? = ms[s.1]?))∧us.length≤i)∧Same H1 H') ⟨⟨_,rfl⟩,⟨[],upd_same,AllAt.nil,Nat.zero_le _⟩,same_upd hD⟩ (fun i σ H' _ h=>SqL.of (h.2.2 _ _ hl1)) ?_ ?_⟩
    · rintro i v σ H2 hi ⟨⟨o0,rfl⟩,⟨us,hD2,hus,hul⟩,s2⟩
      obtain ⟨st,hst0,t1,rfl,ht1⟩:=hst.at hi
      obtain ⟨n,e,a1,a2,a3⟩:=(ledL_at ns ps 0 i st).mp hst0
      rw [Nat.zero_add] at a3
      subst a3
      have hi2:i<ns.length:=(List.getElem?_eq_some_iff.mp a1).1
      obtain ⟨m,hm⟩:∃m,ms[i]? = some m:=⟨_,List.getElem?_eq_getElem (show i<ms.length by omega)⟩
      have ht2:=s2 _ _ ht1
      rw [take_one hst0,List.filter_append]
      have S2:=s1.trans s2
      simp -dsimp[cxOf,stC,-Bool.exists_bool,-List.map_take,-Prod.forall,-Prod.exists]
      refine ⟨_,.inr (SqT.of ht2),_,atI_nat (j:=0) rfl,?_⟩
      simp -dsimp[cxOf,stC,-Bool.exists_bool,-List.map_take,-Prod.forall,-Prod.exists]
      refine ⟨_,(ht.same S2).q,.int n,atI_nat (by rw [List.getElem?_map,a1];rfl),_,.inr (SqT.of ht2),_,atI_nat (j:=0) rfl,?_⟩
      simp -dsimp[cxOf,stC,-Bool.exists_bool,-List.map_take,-Prod.forall,-Prod.exists]
      refine ⟨_,(hu.same S2).q,.int m,atI_nat (by rw [List.getElem?_map,hm];rfl),?_⟩
      simp -dsimp[cxOf,stC,-Bool.exists_bool,-List.map_take,-Prod.forall,-Prod.exists]
      by_cases hnm:n=m
      · subst hnm
        refine ⟨false,by simp,tBr.neg rfl ?_⟩
        simp -dsimp[cxOf,stC,-Bool.exists_bool,-List.map_take,-Prod.forall,-Prod.exists]
        refine ⟨⟨us,hD2,?_,by omega⟩,s2⟩
        simpa [a1,hm] using hus
      · refine ⟨true,by simp [hnm],tBr.pos rfl ?_⟩
        simp -dsimp[cxOf,stC,-Bool.exists_bool,-List.map_take,-Prod.forall,-Prod.exists]
        refine ⟨us,hD2,by omega,⟨us++[.ref t1],upd_same,?_,by simp;omega⟩,same_upd2 s2 hD⟩
        have e1:(List.filter (fun s:Stp=>!decide (ns[s.1]? = ms[s.1]?)) [(i,endO n e,endG n e)])=[(i,endO n e,endG n e)]:=by simp [a1,hm,hnm]
        rw [e1]
        refine AllAt.snoc (StepsAt.keep hus (TupKeep.set hD2 (by intro xs z;cases z))) ⟨t1,rfl,?_⟩
        rw [upd_ne (ne_of_none ht1 hD)]
        exact ht2
    · rintro σ H2 ⟨⟨o0,rfl⟩,⟨us,hD2,hus,hul⟩,s2⟩
      rw [hst.1,List.take_length] at hus
      have:=unL_eq ns ms ps 0 hl hml
      simp only [Nat.sub_zero] at this
      rw [this] at hus
      simp -dsimp[cxOf,stC,-Bool.exists_bool,-List.map_take,-Prod.forall,-Prod.exists]
      exact q D us H2 (fresh_of s1 hD) hD2 hus (s1.trans s2)
def IntsR (G H:Hp) (v:V) (w:List Nat):Prop:=∃t,v = .ref t∧G t=none∧H t=some (.lst (w.map fun n:Nat=>V.int n))
theorem ints_same {G H H':Hp} {tv:List V} {rs:List (List Nat)} (h:AllAt (IntsR G) H tv rs) (s:Same H H'):AllAt (IntsR G) H' tv rs:=h.keep fun v b ⟨t,e,y,z⟩=>⟨t,e,y,s _ _ z⟩
theorem ints_upd {G H:Hp} {r:Addr} {tv us:List V} {rs:List (List Nat)} (hr:H r=some (.lst tv)) (h:AllAt (IntsR G) H tv rs):AllAt (IntsR G) (upd H r (.lst us)) tv rs:=by
  refine ⟨h.1,fun i v c hv hcc=>?_⟩
  obtain ⟨t,rfl,t0,ht⟩:=h.2 i v c hv hcc
  refine ⟨t,rfl,t0,?_⟩
  rw [upd_ne]
  ·exact ht
  · intro z
    subst z
    rw [hr] at ht
    have e:tv=c.map fun n:Nat=>V.int n:=by injection ht with ht;injection ht
    rw [e,List.getElem?_map] at hv
    cases hx:c[i]? with
    | none=>rw [hx] at hv;cases hv
    | some x=>rw [hx] at hv;cases hv
def muLeft (σ:List (Option V)) (H:Hp):Nat:=match σ[3]? with
  | some (some (V.ref t))=>(match H t with
    | some (.lst vs)=>vs.length
    | _=>0)
  | _=>0
theorem muLeft_at {o0 o1 o2:Option V} {t:Addr} {r:List (Option V)} {H:Hp} {vs:List V} (h:H t=some (.lst vs)):muLeft (o0::o1::o2::some (.ref t)::r) H=vs.length:=by
  unfold muLeft
  simp only [List.getElem?_cons_succ,List.getElem?_cons_zero,h]
def wayO (L:List Stp) (a b:Str):Option (List Nat):=((bfsN L a 20).find? fun e=>decide (e.1=b)).map fun e=>e.2
theorem bfs20 {L:List Stp} {a:Str} {R:BR} (hF:BfsF L a R) (hl:R.length≤20):bfsN L a 20=R:=by
  have:=bfsN_stay hF (Nat.le_refl _) (20 - R.length)
  rwa [show R.length+(20 - R.length)=20 by omega] at this
theorem wayO_some {L:List Stp} {a b:Str} {R:BR} {w:List Nat} (hF:BfsF L a R) (hB:Bfs L a R.length R) (hl:R.length≤20) (hm:(b,w)∈R):wayO L a b=some w:=by
  unfold wayO
  rw [bfs20 hF hl,find_nd hB.nd hm]
  rfl
theorem wayO_none {L:List Stp} {a b:Str} {R:BR} (hF:BfsF L a R) (hl:R.length≤20) (hm:¬b∈R.map (·.1)):wayO L a b=none:=by
  unfold wayO
  rw [bfs20 hF hl,List.find?_eq_none.mpr fun e he=>?_]
  ·rfl
  · rw [decide_eq_true_eq]
    exact fun z=>hm (List.mem_map.mpr ⟨e,he,z⟩)
inductive TakP (a b:Str):List Stp→List (List Nat)→Prop
  | nil {L:List Stp}:wayO L a b=none→TakP a b L []
  | cons {L:List Stp} {w:List Nat} {rs:List (List Nat)}:wayO L a b=some w→TakP a b (L.filter (outB w)) rs→TakP a b L (w::rs)
theorem path_mono {S T:List Stp} (h:∀s∈S,s∈T) {a:Str} {w:List Nat} {vs:List Str} {b:Str} (p:PathV S a w vs b):PathV T a w vs b:=by
  induction p with
  | nil=>exact .nil
  | snoc _ q ih=>exact .snoc ih (h _ q)
def NumP (G H:Hp) (L:List Stp) (a b:Str) (v:V):Prop:=(v = .non∧wayO L a b=none∧¬RT (Along L) a b)∨∃(t:Addr) (w:List Nat) (vs:List Str),v = .ref t∧G t=none∧H t=some (.lst (w.map fun n:Nat=>V.int n))∧wayO L a b=some w∧PathV L a w vs b∧vs.Nodup∧w.length<9
theorem fmono_nn {i:Nat}:∀(σ:St) (H:Hp) (Q Q':Bool→Hp→Prop),(∀(b:Bool) (H1:Hp),Q b H1→Q' b H1)→
    fTest (tOp (fun x y H Q=>y=V.non∧Q (V.bl !decide (x=V.non)) H) (fVar i) (tC V.non)) σ H Q→fTest (tOp (fun x y H Q=>y=V.non∧Q (V.bl !decide (x=V.non)) H) (fVar i) (tC V.non)) σ H Q':=by
  intro σ H Q Q' f h
  exact getSt.imp (fun v h=>⟨h.1,isBl.imp (fun b h=>f _ _ h) h.2⟩) h
def FlatNd (rs:List (List Nat)):Prop:=rs.flatten.Nodup
def DisP (rs:List (List Nat)) (L:List Stp):Prop:=∀n∈rs.flatten,∀s∈L,s.1≠n
def sp_ways_taken:Sp:=fun vs H Q _=>∃(l:Addr) (a b:Str) (tv:List V) (U:List Stp) (xs:List Str) (k:Nat) (p:Str→Bool),vs=[.ref l,.str a,.str b]∧H l=some (.lst tv)∧StepsAt H tv U∧NumsNd U∧a∈xs∧(∀s∈U,s.2.2∈xs)∧xs.length≤9∧U.length≤20∧
  Flw U a b k∧p a=false∧p b=true∧(∀s∈U,p s.2.1=true→p s.2.2=true)∧
  ∀(r:Addr) (tr:List V) (rs:List (List Nat)) (H':Hp),H r=none→H' r=some (.lst tr)→AllAt (IntsR H) H' tr rs→TakP a b U rs→rs.length=k→(∀w∈rs,∃vs,PathV U a w vs b∧vs.Nodup)→FlatNd rs→Same H H'→Q (.ref r) H'
theorem ok_ways_taken (T:Txt K mg a):FnOk P w K mg base CX0 2 a.f_ways_taken a.fd_ways_taken ["steps", "a", "b"] sp_ways_taken:=by
  refine T.F_ways_taken.okL sc_ways_taken (fun vs H Q E h=>?_) (fun cdv A outer s H vs Q E hr h=>?_)
  · obtain ⟨l,a,b,tv,U,xs,k,p,rfl,_⟩:=h
    rfl
  · obtain ⟨l0,a,b,tv0,U,xs,k,p,rfl,hl0,hst0,nd0,hax,inx0,h9,h20,flw0,pa,pb,hcl,q⟩:=h
    refine ⟨_,(pss_cons (ps_set (i:=3) sc_ways_taken.nd rfl (Or.inl rfl) (fpv 0))
      (pss_cons (ps_set (i:=4) sc_ways_taken.nd rfl (Or.inl rfl) (pe_lst pa_nil))
      (pss_cons (ps_set (i:=5) sc_ways_taken.nd rfl (Or.inr rfl) (PE.eqv (pe_dget1 (hu_of hr) (PE.eqv (pe_call (ok_ways_along (K:=K) T) (hr.mono (by decide)) rfl T.m_ways_along T.F_ways_along.kp T.b_ways_along .nil pass0 (pa_cons (fpv 1) (pa_cons (fpv 3) pa_nil))) (fCall_eq _ _ _)) (fpv 2) ⟨rfl,rfl,rfl,rfl⟩) (fDGet1_eq _ _)))
      (pss_cons (ps_while PassesOwn.never (fpt_cmpR op_notN (fpv 5) pe_non (nomark _))
      (pss_cons (ps_expr (pe_bmk (K:=K) rfl PySem.F.plainAttrs_list PySem.F.slot_list_append PySem.F.type_list_append fmt_append (fpv 4) (pa_cons (fpv 5) pa_nil)))
      (pss_cons (ps_setComp (i:=3) sc_ways_taken.nd rfl rfl rfl rfl (show CompScope (defScope s_ways_taken) _ ["steps", "a", "b", "left", "told", "numbers"] ["step"] [5] ["step", "numbers"] from ⟨rfl,by decide +kernel,by decide +kernel,rfl,by decide +kernel,by decide +kernel⟩) rfl (PI.eqv (pi_listk (K:=K) rfl (fpv 3)) (fiList_eq _ _)) (fun C s H fp pn=>(pg_name (i:=0) (show (["step", "numbers"]:List Str).Nodup by decide +kernel) rfl (Or.inl rfl))) (fun C s H fp pn=>(pts_one (fpt_cmpR (fnotinK (K:=K) rfl) (pe_ix (fixQk (K:=K) rfl) (fpv 0) pe_int (fun _ _=>rfl)) (fpv 1) rfl))) (fun C s H fp pn=>(fpv 0)))
      (pss_one (ps_set (i:=5) sc_ways_taken.nd rfl (Or.inr rfl) (PE.eqv (pe_dget1 (hu_of hr) (PE.eqv (pe_call (ok_ways_along (K:=K) T) (hr.mono (by decide)) rfl T.m_ways_along T.F_ways_along.kp T.b_ways_along .nil pass0 (pa_cons (fpv 1) (pa_cons (fpv 3) pa_nil))) (fCall_eq _ _ _)) (fpv 2) ⟨rfl,rfl,rfl,rfl⟩) (fDGet1_eq _ _)))))))
      (pss_one (ps_ret (fpv 4))))))),?_⟩
    have s60:60≤sizeLine:=by decide
    simp -dsimp[cxOf,stC,-Bool.exists_bool,-List.map_take,-Prod.forall,-Prod.exists]
    intro rl hrl
    have s1:Same H (upd H rl (.lst [])):=same_upd hrl
    have e1:upd H rl (.lst []) rl=some (.lst []):=upd_same
    generalize upd H rl (.lst [])=H1 at s1 e1 ⊢
    refine ⟨a,l0,tv0,U,xs,rfl,s1 _ _ hl0,StepsAt.keep hst0 (L2.TupKeep.of s1),hax,inx0,h9,fun d kvs R H2 hd hd2 hW hB hF hN s2=>?_⟩
    have S2:=s1.trans s2
    have l0r:l0≠rl:=ne_of_none hl0 hrl
    have nxt:∀{L:List Stp} {kvs:List (Key×V)} {R:BR} {G H':Hp},(∀s∈L,s.2.2∈xs)→WaysAt H' kvs R→Bfs L a R.length R→BfsF L a R→WaysNew G kvs→Same H G→∃v,(valV kvs (Sum.inr b)).getD .non=v∧NumP H H' L a b v:=by
      intro L kvs R G H' inx hW hB hF hN sG
      have hR9:R.length≤9:=by
        have h1:=nodup_len hB.nd (hB.sub hax inx)
        rw [List.length_map] at h1
        omega
      by_cases hb:b∈R.map (·.1)
      · obtain ⟨⟨y',w'⟩,hw',hy'⟩:=List.mem_map.mp hb
        obtain rfl:y'=b:=hy'
        obtain ⟨p,hp1,hp2⟩:=hW.some hB.nd hw'
        obtain ⟨vs,hpath,hvnd,_⟩:=hB.pth _ _ hw'
        have:=hB.wlen hw'
        exact ⟨.ref p,by rw [hp1];rfl,.inr ⟨p,w',vs,rfl,fresh_of sG (hN.at hp1),hp2,wayO_some hF hB (by omega) hw',hpath,hvnd,by omega⟩⟩
      ·exact ⟨.non,by rw [hW.none hb];rfl,.inl ⟨rfl,wayO_none hF (by omega) hb,fun z=>hb ((hB.iff b).mpr z)⟩⟩
    obtain ⟨v0,hv0,hnum0⟩:=nxt inx0 hW hB hF hN s1
    simp -dsimp[cxOf,stC,-Bool.exists_bool,-List.map_take,-Prod.forall,-Prod.exists]
    refine ⟨isD hd2,_,getS b hd2,?_⟩
    rw [hv0]
    have hst2:=StepsAt.keep hst0 (L2.TupKeep.of S2)
    refine whB (fun σ H'=>∃(l:Addr) (tv tr:List V) (L:List Stp) (rs:List (List Nat)) (m:Nat) (v:V),σ=[some (.ref l0),some (.str a),some (.str b),some (.ref l),some (.ref rl),some v]∧l≠rl∧H' l=some (.lst tv)∧StepsAt H' tv L∧(∀s∈L,s∈U)∧NumsNd L∧L.length≤20∧Flw L a b m∧rs.length+m=k∧
        NumP H H' L a b v∧H' rl=some (.lst tr)∧AllAt (IntsR H) H' tr rs∧(∀rest,TakP a b L rest→TakP a b U (rs++rest))∧(∀w∈rs,∃vs,PathV U a w vs b∧vs.Nodup)∧FlatNd rs∧DisP rs L∧rs.length+L.length≤20∧Same H H') muLeft
      ⟨l0,tv0,[],U,[],k,v0,rfl,l0r,S2 _ _ hl0,hst2,fun s hs=>hs,nd0,h20,flw0,by simp,hnum0,s2 _ _ e1,AllAt.nil,fun rest h=>h,(fun w hw=>by cases hw),(by unfold FlatNd;simp),(by unfold DisP;simp),by simpa using h20,S2⟩ ?_ fmono_nn
    rintro σ H5 ⟨l,tv,tr,L,rs,m,v,rfl,lrl,e5,hst5,sub,nds,hLf,flw,hrm,hnum,er5,hrs,htak,hpth,hfnd,hdis,hlen,S5⟩
    rw [muLeft_at e5]
    simp -dsimp[cxOf,stC,-Bool.exists_bool,-List.map_take,-Prod.forall,-Prod.exists]
    rcases hnum with ⟨rfl,hnone,hno⟩ | ⟨pw,w,vs,rfl,hpw0,hpw,hsome,hpath,hvnd,hwl⟩
    · refine tBr.neg (by simp) ?_
      simp -dsimp[cxOf,stC,-Bool.exists_bool,-List.map_take,-Prod.forall,-Prod.exists]
      have m0:m=0:=by
        cases m with
        | zero=>rfl
        | succ m=>exact (hno (flw_way flw (Nat.succ_pos _))).elim
      have ht:=htak [] (.nil hnone)
      rw [List.append_nil] at ht
      exact q rl tr rs H5 hrl er5 hrs ht (by omega) hpth hfnd S5
    · refine tBr.pos (by simp) ?_
      obtain ⟨m',rfl⟩:∃m',m=m'+1:=by
        cases m with
        | zero=>exact (flw_none flw pa pb (fun s hs=>hcl s (sub s hs)) hpath.reach).elim
        | succ m=>exact ⟨m,rfl⟩
      have flw':=flw_rest flw nds hpath hvnd
      obtain ⟨ss,w1,w2,w3,w4,w5⟩:=way_nums nds hpath hvnd
      have pwrl:pw≠rl:=fun z=>by
        rw [z,er5] at hpw
        injection hpw with hpw
        injection hpw with hpw
        have trs:=hrs
        cases tr with
        | nil=>
          have:w=[]:=by
            cases w with
            | nil=>rfl
            | cons a l=>simp at hpw
          subst this
          have e0:vs.length=1:=by have:=hpath.len;simpa using this
          have:ss=[]:=by
            cases ss with
            | nil=>rfl
            | cons a l=>simp at w1
          subst this
          simp [outC,inC] at w4 w5
          rw [w5] at w4
          simp at w4
          rw [w4] at pa
          rw [pa] at pb
          cases pb
        | cons x l=>
          cases w with
          | nil=>simp at hpw
          | cons n w=>
            simp at hpw
            have h0:=hrs.1
            cases rs with
            | nil=>simp at h0
            | cons c rs=>
              obtain ⟨t,e,_⟩:=hrs.2 0 x c rfl rfl
              rw [hpw.1] at e
              cases e
      have rlL:=hrs.1
      simp -dsimp[cxOf,stC,-Bool.exists_bool,-List.map_take,-Prod.forall,-Prod.exists]
      have hrs9:AllAt (IntsR H) (upd H5 rl (.lst (tr++[.ref pw]))) (tr++[.ref pw]) (rs++[w]):=by
        refine AllAt.snoc (ints_upd er5 hrs) ⟨pw,rfl,hpw0,?_⟩
        rw [upd_ne pwrl]
        exact hpw
      have S9:Same H (upd H5 rl (.lst (tr++[.ref pw]))):=same_upd2 S5 hrl
      have e9l:upd H5 rl (.lst (tr++[.ref pw])) l=some (.lst tv):=by
        rw [upd_ne lrl]
        exact e5
      have e9p:upd H5 rl (.lst (tr++[.ref pw])) pw=some (.lst (w.map fun n:Nat=>V.int n)):=by
        rw [upd_ne pwrl]
        exact hpw
      have e9r:upd H5 rl (.lst (tr++[.ref pw])) rl=some (.lst (tr++[.ref pw])):=upd_same
      have k9:TupKeep H5 (upd H5 rl (.lst (tr++[.ref pw]))):=TupKeep.set er5 (by intro xs z;cases z)
      have hst9:StepsAt (upd H5 rl (.lst (tr++[.ref pw]))) tv L:=StepsAt.keep hst5 k9
      refine ⟨⟨_,SqL.of er5⟩,_,er5,by omega,?_⟩
      generalize upd H5 rl (.lst (tr++[.ref pw]))=H9 at hrs9 S9 e9l e9p e9r hst9 ⊢
      refine ⟨⟨_,SqL.of e9l⟩,fun D hD=>cmL tv (fun i σ H'=>(∃o0,σ=[o0,some (.ref pw)])∧(∃us,H' D=some (.lst us)∧StepsAt H' us ((L.take i).filter (outB w))∧us.length≤i)∧Same H9 H') ⟨⟨_,rfl⟩,⟨[],upd_same,AllAt.nil,Nat.zero_le _⟩,same_upd hD⟩ (fun i σ H' _ h=>SqL.of (h.2.2 _ _ e9l)) ?_ ?_⟩
      · rintro i v σ H10 hi ⟨⟨o0,rfl⟩,⟨us,hD10,hus,hul⟩,s10⟩
        obtain ⟨st,hst0,t1,rfl,ht1⟩:=hst9.at hi
        have ht10:=s10 _ _ ht1
        have hi2:i<tv.length:=(List.getElem?_eq_some_iff.mp hi).1
        have tl5:=hst5.1
        rw [take_one hst0,List.filter_append]
        simp -dsimp[cxOf,stC,-Bool.exists_bool,-List.map_take,-Prod.forall,-Prod.exists]
        refine ⟨_,.inr (SqT.of ht10),_,atI_nat (j:=0) rfl,_,.inl (SqL.of (s10 _ _ e9p)),rfl,?_,?_⟩
        · intro z hz
          obtain ⟨k,_,rfl⟩:=List.mem_map.mp hz
          rfl
        have hin:inV (V.int st.1) (w.map fun n:Nat=>V.int n)=decide (st.1∈w):=inV_nat _ _
        by_cases hm2:st.1∈w
        · refine ⟨false,by rw [hin];simp only [decide_eq_true hm2];rfl,tBr.neg rfl ?_⟩
          simp -dsimp[cxOf,stC,-Bool.exists_bool,-List.map_take,-Prod.forall,-Prod.exists]
          refine ⟨⟨us,hD10,?_,by omega⟩,s10⟩
          have e1:(List.filter (outB w) [st])=[]:=by
            rw [List.filter_cons,if_neg (by unfold outB;rw [decide_eq_true hm2];decide)]
            rfl
          rw [e1,List.append_nil]
          exact hus
        · refine ⟨true,by rw [hin];simp only [decide_eq_false hm2];rfl,tBr.pos rfl ?_⟩
          simp -dsimp[cxOf,stC,-Bool.exists_bool,-List.map_take,-Prod.forall,-Prod.exists]
          refine ⟨us,hD10,by omega,⟨us++[.ref t1],upd_same,?_,by simp;omega⟩,same_upd2 s10 hD⟩
          have e1:(List.filter (outB w) [st])=[st]:=by
            rw [List.filter_cons,if_pos (by unfold outB;rw [decide_eq_false hm2];rfl)]
            rfl
          rw [e1]
          refine AllAt.snoc (StepsAt.keep hus (TupKeep.set hD10 (by intro xs z;cases z))) ⟨t1,rfl,?_⟩
          rw [upd_ne (ne_of_none ht1 hD)]
          exact ht10
      · rintro σ H10 ⟨⟨o0,rfl⟩,⟨us,hD10,hus,hul⟩,s10⟩
        rw [hst9.1,List.take_length] at hus
        have sub':∀s∈L.filter (outB w),s∈U:=fun s hs=>sub s (List.mem_filter.mp hs).1
        have inx':∀s∈L.filter (outB w),s.2.2∈xs:=fun s hs=>inx0 s (sub' s hs)
        have hul2:=hus.1
        have wne:0<w.length:=by
          cases w with
          | cons n w=>simp
          | nil=>
            have:ss=[]:=by
              cases ss with
              | nil=>rfl
              | cons a l=>simp at w1
            subst this
            simp [outC,inC] at w4 w5
            rw [w5] at w4
            simp at w4
            rw [w4] at pa
            rw [pa] at pb
            cases pb
        have llt:(L.filter (outB w)).length<L.length:=by
          rw [List.length_filter_lt_length_iff_exists]
          obtain ⟨n,hn⟩:=List.exists_mem_of_length_pos wne
          rw [← w1] at hn
          obtain ⟨s,hs,rfl⟩:=List.mem_map.mp hn
          refine ⟨s,w2 s hs,?_⟩
          unfold outB
          rw [decide_eq_true (by rw [← w1];exact List.mem_map_of_mem hs)]
          decide
        simp -dsimp[cxOf,stC,-Bool.exists_bool,-List.map_take,-Prod.forall,-Prod.exists]
        refine ⟨a,D,us,_,xs,rfl,hD10,hus,hax,inx',h9,fun d kvs R H11 hd hd11 hW hB hF hN s11=>?_⟩
        have S10:=S9.trans s10
        obtain ⟨v11,hv11,hnum11⟩:=nxt inx' hW hB hF hN S10
        simp -dsimp[cxOf,stC,-Bool.exists_bool,-List.map_take,-Prod.forall,-Prod.exists]
        refine ⟨isD hd11,_,getS b hd11,?_⟩
        rw [hv11,muLeft_at (s11 _ _ hD10)]
        refine ⟨⟨D,us,tr++[.ref pw],L.filter (outB w),rs++[w],m',v11,⟨rfl,rfl⟩,(ne_of_none e9r hD).symm,s11 _ _ hD10,StepsAt.keep hus (L2.TupKeep.of s11),sub',?_,by omega,flw',by simp;omega,hnum11,s11 _ _ (s10 _ _ e9r),ints_same hrs9 (s10.trans s11),fun rest hr=>?_,fun c hc=>?_,?_,fun n hn s hs=>?_,by simp;omega,S10.trans s11⟩,by have:=hst9.1;omega⟩
        · unfold NumsNd
          exact (List.filter_sublist.map _).nodup nds
        · rw [List.append_assoc]
          exact htak _ (.cons hsome hr)
        · rcases List.mem_append.mp hc with hc | hc
          ·exact hpth c hc
          · rw [List.mem_singleton] at hc
            subst hc
            exact ⟨vs,path_mono sub hpath,hvnd⟩
        · unfold FlatNd
          rw [List.flatten_append,List.nodup_append]
          refine ⟨hfnd,by simpa using w3,fun n hn k hk=>?_⟩
          simp only [List.flatten_cons,List.flatten_nil,List.append_nil] at hk
          rw [← w1] at hk
          obtain ⟨s,hs,rfl⟩:=List.mem_map.mp hk
          exact (hdis n hn s (w2 s hs)).symm
        · rw [List.flatten_append] at hn
          rcases List.mem_append.mp hn with hn | hn
          ·exact hdis n hn s (List.mem_filter.mp hs).1
          · simp only [List.flatten_cons,List.flatten_nil,List.append_nil] at hn
            have h2:=(List.mem_filter.mp hs).2
            unfold outB at h2
            intro z
            rw [z,decide_eq_true hn] at h2
            cases h2
inductive TillP (ps:List (Str×Str)) (a b:Str):List Int→List Int→Prop
  | nil {ns:List Int}:wayO (ledL ns ps 0) a b=none→TillP ps a b ns ns
  | cons {ns ms:List Int} {w:List Nat}:wayO (ledL ns ps 0) a b=some w→TillP ps a b (trn (intsN w) ns) ms→TillP ps a b ns ms
theorem intsN_nd {w:List Nat} (h:w.Nodup):(intsN w).Nodup:=by
  unfold intsN
  induction w with
  | nil=>exact List.nodup_nil
  | cons a l ih=>
    rw [List.nodup_cons] at h
    rw [List.map_cons,List.nodup_cons]
    refine ⟨fun z=>?_,ih h.2⟩
    obtain ⟨k,hk,e⟩:=List.mem_map.mp z
    have:k=a:=by omega
    exact h.1 (this▸hk)
def sp_sure_of_two_points (C:Addr):Sp:=fun vs H Q _=>∃(o:Addr) (x y:Str) (xs:List Str) (ps:List (Str×Str)),vs=[.ref o,.str x,.str y]∧WebAt C H o xs ps∧Pts xs∧x∈xs∧y∈xs∧x≠y∧∀H',Same H H'→Q .non H'
theorem ok_sure_of_two_points (T:Txt K mg a):FnOk P w K mg base CX0 4 a.f_sure_of_two_points a.fd_sure_of_two_points ["web", "a", "b"] (sp_sure_of_two_points a.C_Web):=by
  refine T.F_sure_of_two_points.okL sc_sure_of_two_points (fun vs H Q E h=>?_) (fun cdv A outer s H vs Q E hr h=>?_)
  · obtain ⟨o,x,y,xs,ps,rfl,_⟩:=h
    rfl
  · obtain ⟨o,x,y,xs,ps,rfl,hw,hX,hx,hy,hxy,q⟩:=h
    refine ⟨_,(pss_cons (ps_expr (PE.eqv (pe_call (ok_sure_of_point (K:=K) T) (hr.mono (by decide)) rfl T.m_sure_of_point T.F_sure_of_point.kp T.b_sure_of_point .nil pass0 (pa_cons (fpv 0) (pa_cons (fpv 1) pa_nil))) (fCall_eq _ _ _)))
      (pss_cons (ps_expr (PE.eqv (pe_call (ok_sure_of_point (K:=K) T) (hr.mono (by decide)) rfl T.m_sure_of_point T.F_sure_of_point.kp T.b_sure_of_point .nil pass0 (pa_cons (fpv 0) (pa_cons (fpv 2) pa_nil))) (fCall_eq _ _ _)))
      (pss_one (ps_if (fpt_cmpR fop_eq (fpv 1) (fpv 2) (nomark _)) (pss_one ps_never) pss_nil)))),?_⟩
    simp -dsimp[cxOf,stC,-Bool.exists_bool,-List.map_take,-Prod.forall,-Prod.exists]
    refine ⟨o,x,xs,ps,rfl,hw,hX,hx,fun H1 s1=>?_⟩
    simp -dsimp[cxOf,stC,-Bool.exists_bool,-List.map_take,-Prod.forall,-Prod.exists]
    refine ⟨o,y,xs,ps,rfl,hw.same s1,hX,hy,fun H2 s2=>?_⟩
    simp -dsimp[cxOf,stC,-Bool.exists_bool,-List.map_take,-Prod.forall,-Prod.exists]
    rw [decide_eq_false hxy]
    refine tBr.neg rfl ?_
    simp -dsimp[cxOf,stC,-Bool.exists_bool,-List.map_take,-Prod.forall,-Prod.exists]
    exact q _ (s1.trans s2)
def intV:V→Int
  | .int n=>n
  | _=>0
theorem intV_map:∀ns:List Int,(ns.map V.int).map intV=ns
  | []=>rfl
  | n::ns=>by simp only [List.map_cons,intV];rw [intV_map ns]
def muIn (ps:List (Str×Str)) (b:Str) (σ:List (Option V)) (H:Hp):Nat:=match σ[4]? with
  | some (some (V.ref t))=>(match H t with
    | some (.lst vs)=>inN (vs.map intV) ps b
    | _=>0)
  | _=>0
theorem muIn_at {ps:List (Str×Str)} {b:Str} {o0 o1 o2 o3:Option V} {t:Addr} {r:List (Option V)} {H:Hp} {ns:List Int} (h:H t=some (.lst (ns.map V.int))):muIn ps b (o0::o1::o2::o3::some (.ref t)::r) H=inN ns ps b:=by
  unfold muIn
  simp only [List.getElem?_cons_succ,List.getElem?_cons_zero,h,intV_map]
theorem led_xs {xs:List Str} {ns:List Int} {ps:List (Str×Str)} (g2:∀e∈ps,e.1∈xs∧e.2∈xs):∀s∈ledL ns ps 0,s.2.2∈xs:=fun s hs=>by
  obtain ⟨j,m,e,a1,a2,rfl⟩:=mem_ledL.mp hs
  have he:=g2 e (List.mem_of_getElem? a2)
  show endG m e∈xs
  unfold endG
  split
  ·exact he.2
  ·exact he.1
theorem num_of {xs:List Str} {L:List Stp} {a b:Str} {G H':Hp} {R:BR} (hax:a∈xs) (h9:xs.length≤9) (inx:∀s∈L,s.2.2∈xs) (hB:Bfs L a R.length R) (hF:BfsF L a R) :
    (¬b∈R.map (·.1)→NumP G H' L a b .non)∧∀(r:Addr) (w:List Nat),(b,w)∈R→G r=none→H' r=some (.lst (w.map fun n:Nat=>V.int n))→NumP G H' L a b (.ref r):=by
  have hR9:R.length≤9:=by
    have h1:=nodup_len hB.nd (hB.sub hax inx)
    rw [List.length_map] at h1
    omega
  refine ⟨fun hb=>.inl ⟨rfl,wayO_none hF (by omega) hb,fun z=>hb ((hB.iff b).mpr z)⟩,fun r w hw hr e=>?_⟩
  obtain ⟨vs,hpath,hvnd,_⟩:=hB.pth _ _ hw
  have:=hB.wlen hw
  exact .inr ⟨r,w,vs,rfl,hr,e,wayO_some hF hB (by omega) hw,hpath,hvnd,by omega⟩
def sp_till (C:Addr):Sp:=fun vs H Q _=>∃(o t:Addr) (a b:Str) (xs:List Str) (ps:List (Str×Str)) (ns:List Int),vs=[.ref o,.ref t,.str a,.str b]∧PtIn C H o t xs ps ns∧Pts xs∧Ties xs ps∧a∈xs∧b∈xs∧a≠b∧
  ∀(r:Addr) (ms:List Int) (k:Nat) (H':Hp),H r=none→H' r=some (.lst (ms.map V.int))→ms.length=ps.length→(∀n∈ms,0≤n∧n≤1)→(∀x,inN ms ps x+(if b=x then k else 0)=inN ns ps x+(if a=x then k else 0))→¬RT (Along (ledL ms ps 0)) a b→TillP ps a b ns ms→Same H H'→Q (.ref r) H'
theorem ok_turned_till_none_leads (T:Txt K mg a):FnOk P w K mg base CX0 7 a.f_turned_till_none_leads a.fd_turned_till_none_leads ["web", "pointing", "a", "b"] (sp_till a.C_Web):=by
  refine T.F_turned_till_none_leads.okL sc_turned_till_none_leads (fun vs H Q E h=>?_) (fun cdv A outer s H vs Q E hr h=>?_)
  · obtain ⟨o,t,a,b,xs,ps,ns,rfl,_⟩:=h
    rfl
  · obtain ⟨o,t,x,y,xs,ps,ns,rfl,hp,hX,hTs,hx,hy,hxy,q⟩:=h
    refine ⟨_,(pss_cons (ps_set (i:=4) sc_turned_till_none_leads.nd rfl (Or.inl rfl) (pe_callTy (flistOfk (K:=K) rfl) rfl T.nm.list boot_list (pa_cons (fpv 1) pa_nil)))
      (pss_cons (ps_set (i:=5) sc_turned_till_none_leads.nd rfl (Or.inl rfl) (PE.eqv (pe_call (ok_way (K:=K) T) (hr.mono (by decide)) rfl T.m_way T.F_way.kp T.b_way .nil pass0 (pa_cons (fpv 0) (pa_cons (fpv 4) (pa_cons (fpv 2) (pa_cons (fpv 3) pa_nil))))) (fCall_eq _ _ _)))
      (pss_cons (ps_while PassesOwn.never (fpt_cmpR op_notN (fpv 5) pe_non (nomark _))
      (pss_cons (ps_set (i:=4) sc_turned_till_none_leads.nd rfl (Or.inl rfl) (PE.eqv (pe_call (ok_turned (K:=K) T) (hr.mono (by decide)) rfl T.m_turned T.F_turned.kp T.b_turned .nil pass0 (pa_cons (fpv 0) (pa_cons (fpv 4) (pa_cons (fpv 5) pa_nil)))) (fCall_eq _ _ _)))
      (pss_one (ps_set (i:=5) sc_turned_till_none_leads.nd rfl (Or.inl rfl) (PE.eqv (pe_call (ok_way (K:=K) T) (hr.mono (by decide)) rfl T.m_way T.F_way.kp T.b_way .nil pass0 (pa_cons (fpv 0) (pa_cons (fpv 4) (pa_cons (fpv 2) (pa_cons (fpv 3) pa_nil))))) (fCall_eq _ _ _))))))
      (pss_one (ps_ret (fpv 4)))))),?_⟩
    have s60:60≤sizeLine:=by decide
    have l9:=hX.len
    have l20:=hTs.len
    obtain ⟨hw,ht,h01,hl,h20⟩:=hp
    have g2:∀e∈ps,e.1∈xs∧e.2∈xs:=fun e he=>⟨(hTs.ok e he).1,(hTs.ok e he).2.1⟩
    have hne:∀e∈ps,e.1≠e.2:=fun e he=>(hTs.ok e he).2.2
    simp -dsimp[cxOf,stC,-Bool.exists_bool,-List.map_take,-Prod.forall,-Prod.exists]
    refine ⟨_,ht.q,fun t1 ht1=>?_⟩
    have s1:Same H (upd H t1 (.lst (ns.map V.int))):=same_upd ht1
    have e1:upd H t1 (.lst (ns.map V.int)) t1=some (.lst (ns.map V.int)):=upd_same
    generalize upd H t1 (.lst (ns.map V.int))=H1 at s1 e1 ⊢
    refine ⟨o,t1,x,y,xs,ps,ns,rfl,⟨hw.same s1,.inl e1,h01,hl,h20⟩,hX,hTs,hx,hy,fun R H2 hB hF s2=>?_⟩
    rw [led_L hl h01] at hB hF
    have S2:=s1.trans s2
    generalize hLoop:tSeq (tWhile _ _) _ _=Lp
    have loop:∀v,NumP H H2 (ledL ns ps 0) x y v→Lp [some (.ref o),some (.ref t),some (.str x),some (.str y),some (.ref t1),some v] H2:=by
      intro v hv
      rw [← hLoop]
      simp -dsimp[cxOf,stC,-Bool.exists_bool,-List.map_take,-Prod.forall,-Prod.exists]
      refine whB (fun σ H'=>∃(t4:Addr) (ms:List Int) (k:Nat) (v:V),σ=[some (.ref o),some (.ref t),some (.str x),some (.str y),some (.ref t4),some v]∧H t4=none∧H' t4=some (.lst (ms.map V.int))∧ms.length=ps.length∧(∀n∈ms,0≤n∧n≤1)∧(∀z,inN ms ps z+(if y=z then k else 0)=inN ns ps z+(if x=z then k else 0))∧NumP H H' (ledL ms ps 0) x y v∧(∀rest,TillP ps x y ms rest→TillP ps x y ns rest)∧Same H H') (muIn ps y)
        ⟨t1,ns,0,v,rfl,ht1,s2 _ _ e1,hl,h01,fun z=>by simp,hv,fun _ h=>h,S2⟩ ?_ fmono_nn
      rintro σ H5 ⟨t4,ms,k,v,rfl,ht4,e5,hml,hm01,hk,hnum,htill,S5⟩
      rw [muIn_at e5]
      simp -dsimp[cxOf,stC,-Bool.exists_bool,-List.map_take,-Prod.forall,-Prod.exists]
      rcases hnum with ⟨rfl,hnone,hno⟩ | ⟨pw,w,vs,rfl,hpw0,hpw,hsome,hpath,hvnd,hwl⟩
      · refine tBr.neg (by simp) ?_
        simp -dsimp[cxOf,stC,-Bool.exists_bool,-List.map_take,-Prod.forall,-Prod.exists]
        exact q t4 ms k H5 ht4 e5 hml hm01 hk hno (htill _ (.nil hnone)) S5
      · refine tBr.pos (by simp) ?_
        obtain ⟨i1,i2,i3⟩:=path_turn hm01 hne hpath hvnd
        have e8':H5 pw=some (.lst ((intsN w).map V.int)):=by rw [hpw];simp [intsN]
        simp -dsimp[cxOf,stC,-Bool.exists_bool,-List.map_take,-Prod.forall,-Prod.exists]
        refine ⟨o,t4,pw,xs,ps,ms,intsN w,rfl,⟨hw.same S5,.inl e5,hm01,hml,h20⟩,.inl e8',⟨fun k hk=>?_,intsN_nd i2,?_⟩,fun r9 H9 hr9 e9 s9=>?_⟩
        · obtain ⟨n,hn,rfl⟩:=List.mem_map.mp hk
          have:=i1 n hn
          omega
        · unfold intsN
          rw [List.length_map]
          omega
        · have S9:=S5.trans s9
          have l9':=trn_len (intsN w) ms
          have z9:=trn_01 (ks:=intsN w) hm01
          rw [hml] at l9'
          simp -dsimp[cxOf,stC,-Bool.exists_bool,-List.map_take,-Prod.forall,-Prod.exists]
          refine ⟨o,r9,x,y,xs,ps,_,rfl,⟨hw.same S9,.inl e9,z9,l9',h20⟩,hX,hTs,hx,hy,fun R H10 hB hF s10=>?_⟩
          rw [led_L l9' z9] at hB hF
          have S10:=S9.trans s10
          have r90:H r9=none:=fresh_of S5 hr9
          have dec:inN (trn (intsN w) ms) ps y<inN ms ps y:=by
            have:=i3 y
            rw [if_pos rfl,if_neg hxy] at this
            omega
          have hk':∀z,inN (trn (intsN w) ms) ps z+(if y=z then k+1 else 0)=inN ns ps z+(if x=z then k+1 else 0):=fun z=>by
            have a1:=i3 z
            have a2:=hk z
            by_cases ex:x=z <;> by_cases ey:y=z <;> simp only [ex,ey,eq_self_iff_true,if_true,if_false] at a1 a2 ⊢ <;> omega
          have htill':∀rest,TillP ps x y (trn (intsN w) ms) rest→TillP ps x y ns rest:=fun rest h=>htill rest (.cons hsome h)
          have inx:=led_xs (ns:=trn (intsN w) ms) g2
          obtain ⟨n1,n2⟩:=num_of (G:=H) (H':=H10) (b:=y) hx l9.2 inx hB hF
          refine ⟨fun hb=>?_,fun r w' hw' hr e=>?_⟩
          · simp -dsimp[cxOf,stC,-Bool.exists_bool,-List.map_take,-Prod.forall,-Prod.exists]
            rw [muIn_at (s10 _ _ e9)]
            exact ⟨⟨r9,trn (intsN w) ms,k+1,.non,⟨rfl,rfl⟩,r90,s10 _ _ e9,l9',z9,hk',n1 hb,htill',S10⟩,dec⟩
          · simp -dsimp[cxOf,stC,-Bool.exists_bool,-List.map_take,-Prod.forall,-Prod.exists]
            rw [muIn_at (s10 _ _ e9)]
            exact ⟨⟨r9,trn (intsN w) ms,k+1,.ref r,⟨rfl,rfl⟩,r90,s10 _ _ e9,l9',z9,hk',n2 r w' hw' (fresh_of S9 hr) e,htill',S10⟩,dec⟩
    obtain ⟨n1,n2⟩:=num_of (G:=H) (H':=H2) (b:=y) hx l9.2 (led_xs (ns:=ns) g2) hB hF
    refine ⟨fun hb=>?_,fun r w hw' hr e=>?_⟩
    · simp -dsimp[cxOf,stC,-Bool.exists_bool,-List.map_take,-Prod.forall,-Prod.exists]
      exact loop _ (n1 hb)
    · simp -dsimp[cxOf,stC,-Bool.exists_bool,-List.map_take,-Prod.forall,-Prod.exists]
      exact loop _ (n2 r w hw' (fresh_of s1 hr) e)
theorem unL_turn:∀{ns ms:List Int} {ps:List (Str×Str)} {k:Nat},(∀n∈ns,0≤n∧n≤1)→(∀n∈ms,0≤n∧n≤1)→∀s∈unL ns ms ps k,(s.1,s.2.2,s.2.1)∈ledL ms ps k∧s∈ledL ns ps k
  | n::ns,m::ms,e::ps,k,hn,hm,s,h=>by
    have ih:=unL_turn (ns:=ns) (ms:=ms) (ps:=ps) (k:=k+1) (fun a ha=>hn a (List.mem_cons_of_mem _ ha)) (fun a ha=>hm a (List.mem_cons_of_mem _ ha)) s
    rw [unL] at h
    rw [ledL,ledL]
    split at h
    · have:=ih h
      exact ⟨List.mem_cons_of_mem _ this.1,List.mem_cons_of_mem _ this.2⟩
    · rcases List.mem_cons.mp h with rfl | h
      · have n01:=hn n List.mem_cons_self
        have m01:=hm m List.mem_cons_self
        rename_i hnm
        refine ⟨?_,List.mem_cons_self⟩
        have e1:endO m e=endG n e:=by
          unfold endG endO
          obtain ⟨rfl,rfl⟩ | ⟨rfl,rfl⟩:(n=0∧m=1)∨(n=1∧m=0):=by omega
          ·simp
          ·simp
        have e2:endG m e=endO n e:=by
          unfold endG endO
          obtain ⟨rfl,rfl⟩ | ⟨rfl,rfl⟩:(n=0∧m=1)∨(n=1∧m=0):=by omega
          ·simp
          ·simp
        rw [e1,e2]
        exact List.mem_cons_self
      · have:=ih h
        exact ⟨List.mem_cons_of_mem _ this.1,List.mem_cons_of_mem _ this.2⟩
  | [],_,_,_,_,_,s,h=>by simp [unL] at h
  | _::_,[],_,_,_,_,s,h=>by simp [unL] at h
  | _::_,_::_,[],_,_,_,s,h=>by simp [unL] at h
theorem into_zero (c:List Str):∀{ms:List Int} {ps:List (Str×Str)},(∀(j:Nat) n e,ms[j]? = some n→ps[j]? = some e→endG n e∈c→endO n e∈c)→intoN c ms ps=0
  | [],_,_=>by simp [intoN]
  | _::_,[],_=>by simp [intoN]
  | n::ms,e::ps,h=>by
    have ih:=into_zero c (ms:=ms) (ps:=ps) fun j k d a b=>h (j+1) k d (by simpa using a) (by simpa using b)
    have h0:=h 0 n e rfl rfl
    rw [intoN,ih,if_neg (fun z=>z.1 (h0 z.2))]
theorem sum_indk {α:Type} [DecidableEq α] (y:α) (k:Nat):∀{l:List α},l.Nodup→(l.map fun x=>if y=x then k else 0).sum=if y∈l then k else 0
  | [],_=>rfl
  | a::l,h=>by
    have ih:=sum_indk y k (List.nodup_cons.mp h).2
    have na:=(List.nodup_cons.mp h).1
    simp only [List.map_cons,List.sum_cons]
    rw [ih]
    by_cases e:y=a
    · subst e
      simp [na]
    ·simp [e]
theorem sub_filter {xs:List Str} (p:Str→Bool):(xs.filter fun y=>decide (y∈xs.filter p))=xs.filter p:=List.filter_congr fun y hy=>by
  rw [Bool.eq_iff_iff,decide_eq_true_eq,List.mem_filter]
  exact ⟨fun h=>h.2,fun h=>⟨hy,h⟩⟩
theorem into_k {xs:List Str} {ns ms:List Int} {ps:List (Str×Str)} {a b:Str} {k:Nat} {p:Str→Bool} (nd:xs.Nodup) (hp:∀e∈ps,e.1∈xs∧e.2∈xs) (h1:ns.length=ps.length) (h2:ms.length=ps.length) (hb:b∈xs) (pa:p a=false) (pb:p b=true)
    (hk:∀x,inN ms ps x+(if b=x then k else 0)=inN ns ps x+(if a=x then k else 0)) (h0:intoN (xs.filter p) ms ps=0):intoN (xs.filter p) ns ps=k:=by
  have e1:=cnt_sum nd (fun x=>decide (x∈xs.filter p)) (L:=goalL ns ps) (goal_in hp)
  have e2:=cnt_sum nd (fun x=>decide (x∈xs.filter p)) (L:=goalL ms ps) (goal_in hp)
  rw [gl_split _ h1,sub_filter] at e1
  rw [gl_split _ h2,sub_filter,h0] at e2
  have nd':(xs.filter p).Nodup:=nd.filter _
  have ia:=sum_indk a k nd'
  have ib:=sum_indk b k nd'
  rw [if_neg (fun z=>by rw [(List.mem_filter.mp z).2] at pa;cases pa)] at ia
  rw [if_pos (List.mem_filter.mpr ⟨hb,pb⟩)] at ib
  have e3:((xs.filter p).map fun x=>inN ms ps x+(if b=x then k else 0)).sum=((xs.filter p).map fun x=>inN ns ps x+(if a=x then k else 0)).sum:=by
    congr 1
    exact List.map_congr_left fun x _=>hk x
  rw [sum_map_add,sum_map_add,ia,ib] at e3
  have e1':intoN (xs.filter p) ns ps+withN (xs.filter p) ps=((xs.filter p).map (inN ns ps)).sum:=e1
  have e2':0+withN (xs.filter p) ps=((xs.filter p).map (inN ms ps)).sum:=e2
  have e3':((xs.filter p).map (inN ms ps)).sum+k=((xs.filter p).map (inN ns ps)).sum+0:=e3
  omega
structure ApartP (xs:List Str) (ps:List (Str×Str)) (ns:List Int) (a b:Str) (rs:List (List Nat)) (c:List Str):Prop where
  pth:∀w∈rs,∃vs,PathV (ledL ns ps 0) a w vs b∧vs.Nodup
  nd:FlatNd rs
  lot:∃p:Str→Bool,c=xs.filter p∧p a=false∧p b=true
  into:intoN c ns ps=rs.length
  det:∃ms,TillP ps a b ns ms∧TakP a b (unL ns ms ps 0) rs∧c=xs.filter fun x=>!decide (x∈fnd (ledL ms ps 0) xs a)
def sp_ways_apart (C:Addr):Sp:=fun vs H Q _=>∃(o t:Addr) (a b:Str) (xs:List Str) (ps:List (Str×Str)) (ns:List Int),vs=[.ref o,.ref t,.str a,.str b]∧PtIn C H o t xs ps ns∧Pts xs∧Ties xs ps∧a∈xs∧b∈xs∧a≠b∧
  ∀(r w l:Addr) (tr:List V) (rs:List (List Nat)) (c:List Str) (H':Hp),H r=none→H w=none→H l=none→H' r=some (.tup [.ref w,.ref l])→H' w=some (.lst tr)→AllAt (IntsR H) H' tr rs→H' l=some (.lst (c.map V.str))→ApartP xs ps ns a b rs c→Same H H'→Q (.ref r) H'
theorem ok_ways_apart (T:Txt K mg a):FnOk P w K mg base CX0 8 a.f_ways_apart a.fd_ways_apart ["web", "pointing", "a", "b"] (sp_ways_apart a.C_Web):=by
  refine T.F_ways_apart.okL sc_ways_apart (fun vs H Q E h=>?_) (fun cdv A outer s H vs Q E hr h=>?_)
  · obtain ⟨o,t,a,b,xs,ps,ns,rfl,_⟩:=h
    rfl
  · obtain ⟨o,t,x,y,xs,ps,ns,rfl,hp,hX,hTs,hx,hy,hxy,q⟩:=h
    refine ⟨_,(pss_cons (ps_expr (PE.eqv (pe_call (ok_sure_of_pointing (K:=K) T) (hr.mono (by decide)) rfl T.m_sure_of_pointing T.F_sure_of_pointing.kp T.b_sure_of_pointing .nil pass0 (pa_cons (fpv 0) (pa_cons (fpv 1) pa_nil))) (fCall_eq _ _ _)))
      (pss_cons (ps_expr (PE.eqv (pe_call (ok_sure_of_two_points (K:=K) T) (hr.mono (by decide)) rfl T.m_sure_of_two_points T.F_sure_of_two_points.kp T.b_sure_of_two_points .nil pass0 (pa_cons (fpv 0) (pa_cons (fpv 2) (pa_cons (fpv 3) pa_nil)))) (fCall_eq _ _ _)))
      (pss_cons (ps_set (i:=4) sc_ways_apart.nd rfl (Or.inl rfl) (PE.eqv (pe_call (ok_turned_till_none_leads (K:=K) T) (hr.mono (by decide)) rfl T.m_turned_till_none_leads T.F_turned_till_none_leads.kp T.b_turned_till_none_leads .nil pass0 (pa_cons (fpv 0) (pa_cons (fpv 1) (pa_cons (fpv 2) (pa_cons (fpv 3) pa_nil))))) (fCall_eq _ _ _)))
      (pss_cons (ps_set (i:=5) sc_ways_apart.nd rfl (Or.inr rfl) (PE.eqv (pe_call (ok_reached (K:=K) T) (hr.mono (by decide)) rfl T.m_reached T.F_reached.kp T.b_reached .nil pass0 (pa_cons (fpv 0) (pa_cons (fpv 4) (pa_cons (fpv 2) pa_nil)))) (fCall_eq _ _ _)))
      (pss_cons (ps_setComp (i:=6) sc_ways_apart.nd rfl rfl rfl rfl (show CompScope (defScope s_ways_apart) _ ["web", "pointing", "a", "b", "left", "found", "lot"] ["point"] [5] ["point", "found"] from ⟨rfl,by decide +kernel,by decide +kernel,rfl,by decide +kernel,by decide +kernel⟩) rfl (PI.eqv (pi_listk (K:=K) rfl (PE.eqv (pe_meth0 (fpv 0) T.c_Web T.M_Web_points (ok_Web_points (K:=K) T) (hr.mono (by decide)) T.b_Web_points .nil pass0) (fMeth_eq _ _ _ _ _ _))) (fiList_eq _ _)) (fun C s H fp pn=>(pg_name (i:=0) (show (["point", "found"]:List Str).Nodup by decide +kernel) rfl (Or.inl rfl))) (fun C s H fp pn=>(pts_one (fpt_cmpR (fnotinK (K:=K) rfl) (fpv 0) (fpv 1) rfl))) (fun C s H fp pn=>(fpv 0)))
      (pss_one (ps_ret (pe_tup (pa_cons (PE.eqv (pe_call (ok_ways_taken (K:=K) T) (hr.mono (by decide)) rfl T.m_ways_taken T.F_ways_taken.kp T.b_ways_taken .nil pass0 (pa_cons (PE.eqv (pe_call (ok_unlike_steps (K:=K) T) (hr.mono (by decide)) rfl T.m_unlike_steps T.F_unlike_steps.kp T.b_unlike_steps .nil pass0 (pa_cons (fpv 0) (pa_cons (fpv 1) (pa_cons (fpv 4) pa_nil)))) (fCall_eq _ _ _)) (pa_cons (fpv 2) (pa_cons (fpv 3) pa_nil)))) (fCall_eq _ _ _)) (pa_cons (fpv 6) pa_nil)))))))))),?_⟩
    have s60:60≤sizeLine:=by decide
    have l9:=hX.len
    have l20:=hTs.len
    obtain ⟨hw,ht,h01,hl,h20⟩:=id hp
    have g2:∀e∈ps,e.1∈xs∧e.2∈xs:=fun e he=>⟨(hTs.ok e he).1,(hTs.ok e he).2.1⟩
    have pin:∀{H'},Same H H'→PtIn a.C_Web H' o t xs ps ns:=fun s=>⟨hw.same s,ht.same s,h01,hl,h20⟩
    simp -dsimp[cxOf,stC,-Bool.exists_bool,-List.map_take,-Prod.forall,-Prod.exists]
    refine ⟨o,t,xs,ps,ns,rfl,hp,fun H1 s1=>?_⟩
    simp -dsimp[cxOf,stC,-Bool.exists_bool,-List.map_take,-Prod.forall,-Prod.exists]
    refine ⟨o,x,y,xs,ps,rfl,hw.same s1,hX,hx,hy,hxy,fun H2 s2=>?_⟩
    have S2:=s1.trans s2
    simp -dsimp[cxOf,stC,-Bool.exists_bool,-List.map_take,-Prod.forall,-Prod.exists]
    refine ⟨o,t,x,y,xs,ps,ns,rfl,pin S2,hX,hTs,hx,hy,hxy,fun r3 ms k H3 hr3 e3 hml hm01 hk hno htill s3=>?_⟩
    have S3:=S2.trans s3
    simp -dsimp[cxOf,stC,-Bool.exists_bool,-List.map_take,-Prod.forall,-Prod.exists]
    refine ⟨o,r3,x,xs,ps,ms,rfl,⟨hw.same S3,.inl e3,hm01,hml,h20⟩,hX,hTs,hx,fun r4 H4 hr4 e4 s4=>?_⟩
    rw [led_L hml hm01] at e4
    have S4:=S3.trans s4
    obtain ⟨dx,fs,hin,hnm⟩:=(hw.same S4).ins no_points.1 no_points.2
    simp -dsimp[cxOf,stC,-Bool.exists_bool,-List.map_take,-Prod.forall,-Prod.exists]
    refine ⟨_,_,hin,hnm,o,xs,ps,rfl,hw.same S4,fun p5 hp5=>?_⟩
    have s5:Same H4 (upd H4 p5 (.lst (xs.map V.str))):=same_upd hp5
    have e5:upd H4 p5 (.lst (xs.map V.str)) p5=some (.lst (xs.map V.str)):=upd_same
    generalize upd H4 p5 (.lst (xs.map V.str))=H5 at s5 e5 ⊢
    have S5:=S4.trans s5
    have e45:=s5 _ _ e4
    obtain ⟨p,hp⟩:∃p:Str→Bool,p=fun z=>!decide (z∈fnd (ledL ms ps 0) xs x):=⟨_,rfl⟩
    have hpz:∀z,p z = !decide (z∈fnd (ledL ms ps 0) xs x):=fun z=>by rw [hp]
    have hmem:∀z,z∈fnd (ledL ms ps 0) xs x↔z∈xs∧RT (Along (ledL ms ps 0)) x z:=fun z=>mem_fnd
    simp -dsimp[cxOf,stC,-Bool.exists_bool,-List.map_take,-Prod.forall,-Prod.exists]
    refine ⟨⟨_,SqL.of e5⟩,fun D hD=>cmL (xs.map V.str) (fun i σ H'=>(∃o',σ=[o',some (.ref r4)])∧H' D=some (.lst (((xs.take i).filter p).map V.str))∧Same H5 H') ⟨⟨_,rfl⟩,upd_same,same_upd hD⟩ (fun i σ H' _ h=>SqL.of (h.2.2 _ _ e5)) ?_ ?_⟩
    · rintro i v σ H6 hi ⟨⟨o',rfl⟩,hD6,s6⟩
      obtain ⟨z,hz,rfl⟩:=str_at hi
      have hi2:i<xs.length:=(List.getElem?_eq_some_iff.mp hz).1
      have fl2:((xs.take i).filter p).length≤xs.length:=Nat.le_trans (List.length_filter_le _ _) (by rw [List.length_take];omega)
      rw [take_one hz,List.filter_append]
      simp -dsimp[cxOf,stC,-Bool.exists_bool,-List.map_take,-Prod.forall,-Prod.exists]
      refine ⟨_,.inl (SqL.of (s6 _ _ e45)),rfl,List.all_eq_true.mp (flat_strs _),p z,?_,tBr.of (fun h=>?_) (fun h=>?_)⟩
      ·rw [inV_str_iff,hpz,Bool.not_not]
      · simp -dsimp[cxOf,stC,-Bool.exists_bool,-List.map_take,-Prod.forall,-Prod.exists]
        refine ⟨_,hD6,by rw [List.length_map];omega,?_,same_upd2 s6 hD⟩
        rw [upd_same,List.filter_cons,if_pos h]
        simp
      · simp -dsimp[cxOf,stC,-Bool.exists_bool,-List.map_take,-Prod.forall,-Prod.exists]
        refine ⟨?_,s6⟩
        rw [hD6,List.filter_cons,if_neg (by rw [h];decide)]
        simp
    · rintro σ H6 ⟨⟨o',rfl⟩,hD6,s6⟩
      rw [List.length_map,List.take_length] at hD6
      have S6:=S5.trans s6
      have e36:H6 r3=some (.lst (ms.map V.int)):=(s4.trans (s5.trans s6)) _ _ e3
      simp -dsimp[cxOf,stC,-Bool.exists_bool,-List.map_take,-Prod.forall,-Prod.exists]
      refine ⟨o,t,r3,xs,ps,ns,ms,rfl,pin S6,.inl e36,hml,fun l7 tv H7 hl7 e7 hst7 s7=>?_⟩
      have S7:=S6.trans s7
      have pa:p x=false:=by
        rw [hpz,decide_eq_true ((hmem x).mpr ⟨hx,.refl _⟩)]
        rfl
      have pb:p y=true:=by
        rw [hpz,decide_eq_false (fun z=>hno ((hmem y).mp z).2)]
        rfl
      have h40:(unL ns ms ps 0).length≤20:=by
        have h:=unL_eq ns ms ps 0 hl hml
        rw [← h]
        have h2:((ledL ns ps 0).filter fun s=>!decide (ns[s.1 - 0]? = ms[s.1 - 0]?)).length≤(ledL ns ps 0).length:=List.length_filter_le _ _
        rw [ledL_len ns ps 0 hl] at h2
        omega
      have hcl:∀s∈unL ns ms ps 0,p s.2.1=true→p s.2.2=true:=fun s hs hps=>by
        have h2:=(unL_turn h01 hm01 s hs).1
        cases e:p s.2.2 with
        | true=>rfl
        | false=>
          rw [hpz] at e
          have e':s.2.2∈fnd (ledL ms ps 0) xs x:=by simpa using e
          have r1:=(hmem _).mp e'
          have r2:s.2.1∈fnd (ledL ms ps 0) xs x:=(hmem _).mpr ⟨led_xs g2 _ h2,.tail r1.2 ⟨s.1,h2⟩⟩
          rw [hpz,decide_eq_true r2] at hps
          cases hps
      have flw:=unL_flw (xs:=xs) hl hml h01 hm01 hk
      refine ⟨l7,x,y,tv,_,xs,k,p,rfl,e7,hst7,unL_nd _ _ _ _,hx,fun s hs=>led_xs g2 s (unL_turn h01 hm01 s hs).2,l9.2,h40,flw,pa,pb,hcl,fun r8 tr rs H8 hr8 e8 hrs htak hrl hpth hfl s8=>?_⟩
      have S8:=S7.trans s8
      have z0:intoN (xs.filter p) ms ps=0:=into_zero _ fun j n e a1 a2 hg=>by
        have he:=g2 e (List.mem_of_getElem? a2)
        rw [List.mem_filter] at hg ⊢
        have st:(j,endO n e,endG n e)∈ledL ms ps 0:=mem_ledL.mpr ⟨j,n,e,a1,a2,rfl⟩
        have hox:endO n e∈xs:=by
          unfold endO
          split
          ·exact he.1
          ·exact he.2
        refine ⟨hox,?_⟩
        cases e':p (endO n e) with
        | true=>rfl
        | false=>
          rw [hpz] at e'
          have e'':endO n e∈fnd (ledL ms ps 0) xs x:=by simpa using e'
          have r2:endG n e∈fnd (ledL ms ps 0) xs x:=(hmem _).mpr ⟨hg.1,.tail ((hmem _).mp e'').2 ⟨j,st⟩⟩
          have h3:=hg.2
          rw [hpz,decide_eq_true r2] at h3
          cases h3
      have key:ApartP xs ps ns x y rs (xs.filter p):=⟨fun w hw=>(hpth w hw).imp fun vs h=>⟨path_mono (fun s hs=>(unL_turn h01 hm01 s hs).2) h.1,h.2⟩,hfl,⟨p,rfl,pa,pb⟩,by rw [into_k hX.nd g2 hl hml hy pa pb hk z0,hrl],ms,htill,htak,by rw [hp]⟩
      have hD8:=(s7.trans s8) _ _ hD6
      simp -dsimp[cxOf,stC,-Bool.exists_bool,-List.map_take,-Prod.forall,-Prod.exists]
      intro r9 hr9
      refine q r9 r8 D tr rs _ _ (fresh_of S8 hr9) (fresh_of S7 hr8) (fresh_of S5 hD) upd_same (upd_old e8 hr9) ?_ (upd_old hD8 hr9) key (S8.trans (same_upd hr9))
      exact ints_same ⟨hrs.1,fun i v b y1 y2=>(hrs.2 i v b y1 y2).imp fun t z=>⟨z.1,fresh_of S7 z.2.1,z.2.2⟩⟩ (same_upd hr9)
theorem Pot.keep {p:Addr} {H H':Hp} (x:Pot H p) (s:Same H H'):Pot H' p:=by
  obtain ⟨u1,u2,u3,u4⟩:=x
  exact ⟨u1,u2,s _ _ u3,u4⟩
theorem tups_but {p:Addr} {H H':Hp} {tv:List V} {ps:List (Str×Str)} (h:TupsAt H tv ps) (hp:Pot H p) (b:But p H H'):TupsAt H' tv ps:=⟨h.1,fun i v e h1 h2=>by
  obtain ⟨t,rfl,z⟩:=h.2 i v e h1 h2
  refine ⟨t,rfl,b _ _ (fun y=>?_) z⟩
  subst y
  obtain ⟨u,v,w,_⟩:=hp
  rw [z] at w
  cases w⟩
theorem strs_of:∀{ys:List V} {xs:List Str},ys.Perm (xs.map V.str)→∃zs:List Str,ys=zs.map V.str∧zs.Perm xs:=by
  intro ys xs h
  have all:∀y∈ys,∃z,y=V.str z:=fun y hy=>by
    obtain ⟨z,_,rfl⟩:=List.mem_map.mp (h.mem_iff.mp hy)
    exact ⟨z,rfl⟩
  have:∃zs:List Str,ys=zs.map V.str:=by
    clear h
    induction ys with
    | nil=>exact ⟨[],rfl⟩
    | cons y ys ih=>
      obtain ⟨zs,rfl⟩:=ih fun z hz=>all z (List.mem_cons_of_mem _ hz)
      obtain ⟨z,rfl⟩:=all y List.mem_cons_self
      exact ⟨z::zs,rfl⟩
  obtain ⟨zs,rfl⟩:=this
  refine ⟨zs,rfl,?_⟩
  have h2:=h.map (fun v=>match v with | V.str s=>s | _=> "")
  rw [List.map_map,List.map_map] at h2
  have e:∀l:List Str,l.map ((fun v=>match v with | V.str s=>s | _=> "") ∘ V.str)=l:=fun l=>by
    induction l with
    | nil=>rfl
    | cons a l ih=>rw [List.map_cons,ih];rfl
  rw [e,e] at h2
  exact h2
def sp_drawn:Sp:=fun vs H Q _=>∃(p t n l:Addr) (xs:List Str) (tv:List V) (ps:List (Str×Str)),vs=[.ref p,.ref t]∧Pot H p∧H t=some (.tup [.ref n,.ref l])∧H n=some (.lst (xs.map V.str))∧H l=some (.lst tv)∧TupsAt H tv ps∧(∀e∈ps,e.1∈xs∧e.2∈xs)∧n≠p∧l≠p∧xs.length≤9∧tv.length≤20∧
  ∀(r:Addr) (ns:List Int) (H':Hp),H r=none→H' r=some (.lst (ns.map V.int))→ns.length=tv.length→(∀n∈ns,0≤n∧n≤1)→Pot H' p→But p H H'→Q (.ref r) H'
theorem ok_drawn (T:Txt K mg a):FnOk P w K mg base CX0 3 a.f_drawn a.fd_drawn ["_law_pot_here", "_law_web_here"] sp_drawn:=by
  refine T.F_drawn.okL sc_drawn (fun vs H Q E h=>?_) (fun cdv A outer s H vs Q E hr h=>?_)
  · obtain ⟨p,t,n,l,xs,tv,ps,rfl,_⟩:=h
    rfl
  · obtain ⟨p,t,n,l,xs,tv,ps,rfl,hP,ht,hn,hl,htv,hps,np,lp,h9,h20,q⟩:=h
    refine ⟨_,(pss_cons (ps_set (i:=2) sc_drawn.nd rfl (Or.inr rfl) (PE.eqv (pe_call (ok_mixed (K:=K) T) (hr.mono (by decide)) rfl T.m_mixed T.F_mixed.kp T.b_mixed .nil pass0 (pa_cons (fpv 0) (pa_cons (pe_ix (fixQk (K:=K) rfl) (fpv 1) pe_int (fun _ _=>rfl)) pa_nil))) (fCall_eq _ _ _)))
      (pss_cons (ps_set (i:=3) sc_drawn.nd rfl (Or.inl rfl) (PE.eqv (pe_call (ok_take (K:=K) T) (hr.mono (by decide)) rfl T.m_take T.F_take.kp T.b_take .nil pass0 (pa_cons (fpv 0) (pa_cons pe_int pa_nil))) (fCall_eq _ _ _)))
      (pss_cons (ps_setComp (i:=4) sc_drawn.nd rfl rfl rfl rfl (show CompScope (defScope s_drawn) _ ["_law_pot_here", "_law_web_here", "_law_order", "_law_sort", "_law_row"] ["_law_a", "_law_b"] [2] ["_law_a", "_law_b", "_law_order"] from ⟨rfl,by decide +kernel,by decide +kernel,rfl,by decide +kernel,by decide +kernel⟩) rfl (PI.eqv (pi_listk (K:=K) rfl (pe_ix (fixQk (K:=K) rfl) (fpv 1) pe_int (fun _ _=>rfl))) (fiList_eq _ _)) (fun C s H fp pn=>(PG.eqv (pg_tupk (K:=K) (n:=2) rfl rfl (PGs.eqv (pgs_cons (pg_name (i:=0) (show (["_law_a", "_law_b", "_law_order"]:List Str).Nodup by decide +kernel) rfl (Or.inl rfl)) (PGs.eqv (pgs_cons (pg_name (i:=1) (show (["_law_a", "_law_b", "_law_order"]:List Str).Nodup by decide +kernel) rfl (Or.inl rfl)) (PGs.mono pgs_nil fNil_t)) (fCons_eq _ _))) (fCons_eq _ _))) (fTup_eq _ _ _))) (fun C s H fp pn=>pts_nil) (fun C s H fp pn=>(pe_callTy fcall_int1 rfl T.nm.int boot_intT (pa_cons (pe_cmpR fop_gt (pe_bmk (K:=K) rfl PySem.F.plainAttrs_list PySem.F.slot_list_index PySem.F.type_list_index (fmt_index (K:=K) rfl) (fpv 2) (pa_cons (fpv 0) pa_nil)) (pe_bmk (K:=K) rfl PySem.F.plainAttrs_list PySem.F.slot_list_index PySem.F.type_list_index (fmt_index (K:=K) rfl) (fpv 2) (pa_cons (fpv 1) pa_nil)) (nomark _)) pa_nil))))
      (pss_cons (ps_if (fpt_cmpR fop_eq (fpv 3) pe_int (nomark _)) (pss_one (ps_ret (pe_comp rfl rfl (show CompScope (defScope s_drawn) _ ["_law_pot_here", "_law_web_here", "_law_order", "_law_sort", "_law_row"] ["_law_tie_here"] [0] ["_law_tie_here", "_law_pot_here"] from ⟨rfl,by decide +kernel,by decide +kernel,rfl,by decide +kernel,by decide +kernel⟩) rfl (PI.eqv (pi_listk (K:=K) rfl (pe_ix (fixQk (K:=K) rfl) (fpv 1) pe_int (fun _ _=>rfl))) (fiList_eq _ _)) (fun C s H fp pn=>(pg_name (i:=0) (show (["_law_tie_here", "_law_pot_here"]:List Str).Nodup by decide +kernel) rfl (Or.inl rfl))) (fun C s H fp pn=>pts_nil) (fun C s H fp pn=>(PE.eqv (pe_call (ok_take (K:=K) T) (hr.mono (by decide)) rfl T.m_take T.F_take.kp T.b_take .nil pass0 (pa_cons (fpv 1) (pa_cons pe_int pa_nil))) (fCall_eq _ _ _)))))) pss_nil)
      (pss_cons (ps_if (fpt_cmpR fop_eq (fpv 3) pe_int (nomark _)) (pss_one (ps_ret (pe_comp rfl rfl (show CompScope (defScope s_drawn) _ ["_law_pot_here", "_law_web_here", "_law_order", "_law_sort", "_law_row"] ["_law_turn"] [0] ["_law_turn", "_law_pot_here"] from ⟨rfl,by decide +kernel,by decide +kernel,rfl,by decide +kernel,by decide +kernel⟩) rfl (PI.eqv (pi_listk (K:=K) rfl (fpv 4)) (fiList_eq _ _)) (fun C s H fp pn=>(pg_name (i:=0) (show (["_law_turn", "_law_pot_here"]:List Str).Nodup by decide +kernel) rfl (Or.inl rfl))) (fun C s H fp pn=>pts_nil) (fun C s H fp pn=>(pe_op fop_mod (pe_op fop_add (fpv 0) (pe_callTy fcall_int1 rfl T.nm.int boot_intT (pa_cons (pe_cmpR fop_eq (PE.eqv (pe_call (ok_take (K:=K) T) (hr.mono (by decide)) rfl T.m_take T.F_take.kp T.b_take .nil pass0 (pa_cons (fpv 1) (pa_cons pe_int pa_nil))) (fCall_eq _ _ _)) pe_int (nomark _)) pa_nil))) pe_int))))) pss_nil)
      (pss_one (ps_ret (fpv 4)))))))),?_⟩
    have s60:60≤sizeLine:=by decide
    have tl:=htv.1
    have tp:t≠p:=fun z=>by
      subst z
      obtain ⟨u,v,w,_⟩:=hP
      rw [ht] at w
      cases w
    simp -dsimp[cxOf,stC,-Bool.exists_bool,-List.map_take,-Prod.forall,-Prod.exists]
    refine ⟨_,.inr (SqT.of ht),_,atI_nat (j:=0) rfl,p,n,_,rfl,hP,np,hn,by rw [List.length_map];omega,fun r1 ys H1 hr1 e1 hperm hP1 hB1=>?_⟩
    obtain ⟨zs,rfl,hzs⟩:=strs_of hperm
    have r1p:r1≠p:=(hP.ne hr1).symm
    simp -dsimp[cxOf,stC,-Bool.exists_bool,-List.map_take,-Prod.forall,-Prod.exists]
    refine ⟨p,4,rfl,hP1,by decide,by decide,fun d2 H2 hd0 hd1 hP2 hB2=>?_⟩
    have B2:=hB1.trans hB2
    have e2:=hB2 _ _ r1p e1
    have htv2:TupsAt H2 tv ps:=tups_but (tups_but htv hP hB1) hP1 hB2
    have ht2:=B2 _ _ tp ht
    have hl2:=B2 _ _ lp hl
    simp -dsimp[cxOf,stC,-Bool.exists_bool,-List.map_take,-Prod.forall,-Prod.exists]
    refine ⟨_,.inr (SqT.of ht2),_,atI_nat (j:=1) rfl,?_⟩
    simp -dsimp[cxOf,stC,-Bool.exists_bool,-List.map_take,-Prod.forall,-Prod.exists]
    refine ⟨⟨_,SqL.of hl2⟩,fun D hD=>cmL tv (fun i σ H'=>(∃o1 o2,σ=[o1,o2,some (.ref r1)])∧(∃ns:List Int,H' D=some (.lst (ns.map V.int))∧ns.length=i∧∀n∈ns,0≤n∧n≤1)∧Same H2 H') ⟨⟨_,_,rfl⟩,⟨[],upd_same,rfl,by simp⟩,same_upd hD⟩ (fun i σ H' _ h=>SqL.of (h.2.2 _ _ hl2)) ?_ ?_⟩
    · rintro i x σ H3 hi ⟨⟨o1,o2,rfl⟩,⟨ns,hD3,hnl,h01⟩,s3⟩
      obtain ⟨e,he,t2,rfl,ht3⟩:=htv2.at hi
      have hi2:i<ps.length:=(List.getElem?_eq_some_iff.mp he).1
      have hee:=hps e (List.mem_of_getElem? he)
      have m1:e.1∈zs:=hzs.mem_iff.mpr hee.1
      have m2:e.2∈zs:=hzs.mem_iff.mpr hee.2
      simp -dsimp[cxOf,stC,-Bool.exists_bool,-List.map_take,-Prod.forall,-Prod.exists]
      refine ⟨_,SqT.of (s3 _ _ ht3),rfl,?_⟩
      have e3:=s3 _ _ e2
      simp -dsimp[cxOf,stC,-Bool.exists_bool,-List.map_take,-Prod.forall,-Prod.exists]
      refine ⟨⟨_,SqL.of e3⟩,_,SqL.of e3,m1,⟨_,SqL.of e3⟩,_,SqL.of e3,m2,?_⟩
      refine ⟨_,hD3,by simp;omega,⟨ns++[if zs.idxOf e.2<zs.idxOf e.1 then 1 else 0],?_,by simp [hnl],fun k hk=>?_⟩,same_upd2 s3 hD⟩
      · rw [upd_same]
        simp
      · rcases List.mem_append.mp hk with hk | hk
        ·exact h01 k hk
        · rw [List.mem_singleton] at hk
          subst hk
          split <;> omega
    · rintro σ H3 ⟨⟨o1,o2,rfl⟩,⟨ns,hD3,hnl,h01⟩,s3⟩
      have S3:=B2.same s3
      have hP3:=hP2.keep s3
      have D0:H D=none:=hP2.none B2 hD
      have Dp:D≠p:=(hP2.ne hD).symm
      have ht3:=s3 _ _ ht2
      have hl3:=s3 _ _ hl2
      simp -dsimp[cxOf,stC,-Bool.exists_bool,-List.map_take,-Prod.forall,-Prod.exists]
      refine tBr.of (fun h=>?_) (fun h=>?_)
      · simp -dsimp[cxOf,stC,-Bool.exists_bool,-List.map_take,-Prod.forall,-Prod.exists]
        refine ⟨_,.inr (SqT.of ht3),_,atI_nat (j:=1) rfl,?_⟩
        simp -dsimp[cxOf,stC,-Bool.exists_bool,-List.map_take,-Prod.forall,-Prod.exists]
        refine ⟨⟨_,SqL.of hl3⟩,fun D2 hD2=>cmL tv (fun i σ H'=>(∃o1,σ=[o1,some (.ref p)])∧(∃ns:List Int,H' D2=some (.lst (ns.map V.int))∧ns.length=i∧∀n∈ns,0≤n∧n≤1)∧H' l=some (.lst tv)∧Pot H' p∧But p H3 H') ⟨⟨_,rfl⟩,⟨[],upd_same,rfl,by simp⟩,upd_old hl3 hD2,hP3.upd (hP3.ne hD2),But.of (same_upd hD2)⟩ (fun i σ H' _ h=>SqL.of h.2.2.1) ?_ ?_⟩
        · rintro i x σ H4 hi ⟨⟨o1,rfl⟩,⟨ns,hD4,hnl4,h014⟩,hl4,hP4,hB4⟩
          have hi2:i<tv.length:=(List.getElem?_eq_some_iff.mp hi).1
          have D2p:D2≠p:=(hP3.ne hD2).symm
          have lD:l≠D2:=ne_of_none hl3 hD2
          simp -dsimp[cxOf,stC,-Bool.exists_bool,-List.map_take,-Prod.forall,-Prod.exists]
          refine ⟨p,_,rfl,hP4,by decide,by decide,fun f H5 hf0 hf1 hP5 hB5=>?_⟩
          simp -dsimp[cxOf,stC,-Bool.exists_bool,-List.map_take,-Prod.forall,-Prod.exists]
          refine ⟨_,hB5 _ _ D2p hD4,by simp;omega,⟨ns++[f],by rw [upd_same];simp,by simp [hnl4],fun m hm=>?_⟩,by rw [upd_ne lD];exact hB5 _ _ lp hl4,hP5.upd D2p.symm,(hB4.trans hB5).new hD2⟩
          rcases List.mem_append.mp hm with hm | hm
          ·exact h014 m hm
          · rw [List.mem_singleton] at hm
            subst hm
            omega
        · rintro σ H4 ⟨⟨o1,rfl⟩,⟨ns,hD4,hnl4,h014⟩,hl4,hP4,hB4⟩
          simp -dsimp[cxOf,stC,-Bool.exists_bool,-List.map_take,-Prod.forall,-Prod.exists]
          exact q D2 ns H4 (hP3.none S3 hD2) hD4 hnl4 h014 hP4 (S3.trans hB4)
      · simp -dsimp[cxOf,stC,-Bool.exists_bool,-List.map_take,-Prod.forall,-Prod.exists]
        refine tBr.of (fun h=>?_) (fun h=>?_)
        · simp -dsimp[cxOf,stC,-Bool.exists_bool,-List.map_take,-Prod.forall,-Prod.exists]
          refine ⟨⟨_,SqL.of hD3⟩,fun D2 hD2=>cmL (ns.map V.int) (fun i σ H'=>(∃o1,σ=[o1,some (.ref p)])∧(∃ms:List Int,H' D2=some (.lst (ms.map V.int))∧ms.length=i∧∀n∈ms,0≤n∧n≤1)∧H' D=some (.lst (ns.map V.int))∧Pot H' p∧But p H3 H') ⟨⟨_,rfl⟩,⟨[],upd_same,rfl,by simp⟩,upd_old hD3 hD2,hP3.upd (hP3.ne hD2),But.of (same_upd hD2)⟩ (fun i σ H' _ h=>SqL.of h.2.2.1) ?_ ?_⟩
          · rintro i x σ H4 hi ⟨⟨o1,rfl⟩,⟨ms,hD4,hnl4,h014⟩,hl4,hP4,hB4⟩
            rw [List.getElem?_map] at hi
            obtain ⟨m,hm,rfl⟩:=Option.map_eq_some_iff.mp hi
            have hi2:i<ns.length:=(List.getElem?_eq_some_iff.mp hm).1
            have hm01:=h01 m (List.mem_of_getElem? hm)
            have D2p:D2≠p:=(hP3.ne hD2).symm
            have lD:D≠D2:=ne_of_none hD3 hD2
            simp -dsimp[cxOf,stC,-Bool.exists_bool,-List.map_take,-Prod.forall,-Prod.exists]
            refine ⟨p,_,rfl,hP4,by decide,by decide,fun f H5 hf0 hf1 hP5 hB5=>?_⟩
            simp -dsimp[cxOf,stC,-Bool.exists_bool,-List.map_take,-Prod.forall,-Prod.exists]
            refine ⟨_,hB5 _ _ D2p hD4,by simp;omega,⟨ms++[(m+if f=0 then 1 else 0) % 2],by rw [upd_same];simp,by simp [hnl4],fun k hk=>?_⟩,by rw [upd_ne lD];exact hB5 _ _ Dp hl4,hP5.upd D2p.symm,(hB4.trans hB5).new hD2⟩
            rcases List.mem_append.mp hk with hk | hk
            ·exact h014 k hk
            · rw [List.mem_singleton] at hk
              subst hk
              omega
          · rintro σ H4 ⟨⟨o1,rfl⟩,⟨ms,hD4,hnl4,h014⟩,hl4,hP4,hB4⟩
            simp -dsimp[cxOf,stC,-Bool.exists_bool,-List.map_take,-Prod.forall,-Prod.exists]
            exact q D2 ms H4 (hP3.none S3 hD2) hD4 (by rw [hnl4,List.length_map,hnl]) h014 hP4 (S3.trans hB4)
        · simp -dsimp[cxOf,stC,-Bool.exists_bool,-List.map_take,-Prod.forall,-Prod.exists]
          exact q D ns H3 D0 hD3 hnl h01 hP3 S3
def goalsR (H:Hp) (t n l:Addr) (xs:List Str) (tv:List V) (ps:List (Str×Str)):Prop:=H t=some (.tup [.ref n,.ref l])∧H n=some (.lst (xs.map V.str))∧H l=some (.lst tv)∧TupsAt H tv ps∧Pts xs∧Ties xs ps
theorem goalsR.same {H H':Hp} {t n l:Addr} {xs:List Str} {tv:List V} {ps:List (Str×Str)} (h:goalsR H t n l xs tv ps) (s:Same H H'):goalsR H' t n l xs tv ps:=⟨s _ _ h.1,s _ _ h.2.1,s _ _ h.2.2.1,TupsAt.same h.2.2.2.1 s,h.2.2.2.2⟩
theorem int_at {ns:List Int} {i:Nat} {x:V} (h:(ns.map V.int)[i]? = some x):∃m,ns[i]? = some m∧x = .int m:=by
  rw [List.getElem?_map] at h
  cases hn:ns[i]? with
  | none=>rw [hn] at h;cases h
  | some n=>rw [hn] at h;cases h;exact ⟨n,rfl,rfl⟩
theorem Pot.nlst {p b:Addr} {H:Hp} {o:HO} (x:Pot H p) (h:H b=some o) (hn:∀zs,o≠.lst zs):b≠p:=fun z=>by
  subst z
  obtain ⟨u,v,e,_⟩:=x
  rw [h] at e
  exact hn _ (Option.some.inj e)
theorem goalsR.but {p:Addr} {H H':Hp} {t n l:Addr} {xs:List Str} {tv:List V} {ps:List (Str×Str)} (h:goalsR H t n l xs tv ps) (hp:Pot H p) (b:But p H H') (np:n≠p) (lp:l≠p):goalsR H' t n l xs tv ps:=
  ⟨b _ _ (hp.nlst h.1 (by intro zs z;cases z)) h.1,b _ _ np h.2.1,b _ _ lp h.2.2.1,h.2.2.2.1.but hp b,h.2.2.2.2⟩
def intoS (c:List Str) (st:Stp):Bool:=decide (¬st.2.1∈c∧st.2.2∈c)
def sp_steps_into:Sp:=fun vs H Q _=>∃(s l:Addr) (tv:List V) (S:List Stp) (c:List Str),vs=[.ref s,.ref l]∧H s=some (.lst tv)∧StepsAt H tv S∧H l=some (.lst (c.map V.str))∧tv.length≤40∧
  ∀(r:Addr) (tv':List V) (H':Hp),H r=none→H' r=some (.lst tv')→tv'.length=(S.filter (intoS c)).length→Same H H'→Q (.ref r) H'
theorem ok_steps_into (T:Txt K mg a):FnOk P w K mg base CX0 1 a.f_steps_into a.fd_steps_into ["steps", "lot"] sp_steps_into:=by
  refine T.F_steps_into.okL sc_steps_into (fun vs H Q E h=>?_) (fun cdv A outer s H vs Q E hr h=>?_)
  · obtain ⟨s,l,tv,S,c,rfl,_⟩:=h
    rfl
  · obtain ⟨s,l,tv,S,c,rfl,hs,hS,hl,h40,q⟩:=h
    refine ⟨_,(pss_one (ps_ret (pe_comp rfl rfl (show CompScope (defScope s_steps_into) _ ["steps", "lot"] ["step"] [1] ["step", "lot"] from ⟨rfl,by decide +kernel,by decide +kernel,rfl,by decide +kernel,by decide +kernel⟩) rfl (PI.eqv (pi_listk (K:=K) rfl (fpv 0)) (fiList_eq _ _)) (fun C s H fp pn=>(pg_name (i:=0) (show (["step", "lot"]:List Str).Nodup by decide +kernel) rfl (Or.inl rfl))) (fun C s H fp pn=>(pts_one (PW.pt (pw_and (fpt_cmpR (fnotinK (K:=K) rfl) (pe_ix (fixQk (K:=K) rfl) (fpv 0) pe_int (fun _ _=>rfl)) (fpv 1) rfl) (pw_and1 (fpt_cmpR (finK (K:=K) rfl) (pe_ix (fixQk (K:=K) rfl) (fpv 0) pe_int (fun _ _=>rfl)) (fpv 1) rfl)))))) (fun C s H fp pn=>(fpv 0))))),?_⟩
    have s60:60≤sizeLine:=by decide
    simp -dsimp[cxOf,stC,-Bool.exists_bool,-List.map_take,-Prod.forall,-Prod.exists]
    refine ⟨⟨_,SqL.of hs⟩,fun D hD=>cmL tv (fun i σ H'=>(∃o',σ=[o',some (.ref l)])∧(∃tv',H' D=some (.lst tv')∧tv'.length=((S.take i).filter (intoS c)).length)∧Same H H') ⟨⟨_,rfl⟩,⟨[],upd_same,rfl⟩,same_upd hD⟩ (fun i σ H' _ h=>SqL.of (h.2.2 _ _ hs)) ?_ ?_⟩
    · rintro i x σ H2 hi ⟨⟨o',rfl⟩,⟨tv',hD2,hl2⟩,s2⟩
      obtain ⟨st,hst,t,rfl,ht⟩:=hS.at hi
      have hi2:i<S.length:=(List.getElem?_eq_some_iff.mp hst).1
      have ht2:=s2 _ _ ht
      have hll:=s2 _ _ hl
      have hle:((S.take i).filter (intoS c)).length≤(S.take i).length:=List.length_filter_le _ _
      rw [List.length_take,← hS.1] at hle
      rw [take_one hst,List.filter_append]
      simp -dsimp[cxOf,stC,-Bool.exists_bool,-List.map_take,-Prod.forall,-Prod.exists]
      have d1:inV (.str st.2.1) (c.map V.str) = !decide (¬st.2.1∈c):=by rw [inV_str_iff];simp
      refine ⟨_,.inr (SqT.of ht2),_,atI_nat (j:=1) rfl,_,.inl (SqL.of hll),rfl,List.all_eq_true.mp (flat_strs _),_,d1,tBr.of (fun h=>?_) (fun h=>?_)⟩
      · have h':¬st.2.1∈c:=of_decide_eq_true h
        simp -dsimp[cxOf,stC,-Bool.exists_bool,-List.map_take,-Prod.forall,-Prod.exists]
        refine ⟨_,.inr (SqT.of ht2),_,atI_nat (j:=2) rfl,_,.inl (SqL.of hll),rfl,List.all_eq_true.mp (flat_strs _),?_⟩
        rw [inV_str_iff]
        refine tBr.of (fun h2=>?_) (fun h2=>?_)
        · have h2':st.2.2∈c:=of_decide_eq_true h2
          simp -dsimp[cxOf,stC,-Bool.exists_bool,-List.map_take,-Prod.forall,-Prod.exists]
          refine ⟨_,hD2,by omega,⟨_,upd_same,?_⟩,same_upd2 s2 hD⟩
          simp [intoS,h',h2',hl2]
        · have h2':¬st.2.2∈c:=of_decide_eq_false h2
          simp -dsimp[cxOf,stC,-Bool.exists_bool,-List.map_take,-Prod.forall,-Prod.exists]
          refine ⟨⟨_,hD2,?_⟩,s2⟩
          simp [intoS,h',h2',hl2]
      · have h':st.2.1∈c:=by simpa using h
        simp -dsimp[cxOf,stC,-Bool.exists_bool,-List.map_take,-Prod.forall,-Prod.exists]
        refine ⟨⟨_,hD2,?_⟩,s2⟩
        simp [intoS,h',hl2]
    · rintro σ H2 ⟨⟨o',rfl⟩,⟨tv',hD2,hl2⟩,s2⟩
      rw [hS.1,List.take_length] at hl2
      simp -dsimp[cxOf,stC,-Bool.exists_bool,-List.map_take,-Prod.forall,-Prod.exists]
      exact q D tv' H2 hD hD2 hl2 s2
def bitB (m k:Nat):Bool:=decide (m / 2 ^ k % 2=1)
theorem bit_any:∀n:Nat,n≤9→∀m:Nat,m<512→1≤m→m+1<2 ^ n→(List.range n).any (bitB m)=true∧(List.range n).all (bitB m)=false:=by decide +kernel
theorem bit_some {n m:Nat} (h9:n≤9) (h5:m<512) (h1:1≤m) (h2:m+1<2 ^ n):(∃k,k<n∧bitB m k=true)∧∃k,k<n∧bitB m k=false:=by
  obtain ⟨a,b⟩:=bit_any n h9 m h5 h1 h2
  rw [List.any_eq_true] at a
  rw [List.all_eq_false] at b
  obtain ⟨k,hk,e⟩:=a
  obtain ⟨j,hj,f⟩:=b
  exact ⟨⟨k,List.mem_range.mp hk,e⟩,⟨j,List.mem_range.mp hj,by simpa using f⟩⟩
def bitsL (b:Nat→Bool) (xs:List Str):List Str:=(xs.zipIdx.filter fun e=>b e.2).map (·.1)
theorem bits_sub (b:Nat→Bool) (xs:List Str):(bitsL b xs).Sublist xs:=by
  have h:=List.Sublist.map (fun e:Str×Nat=>e.1) (List.filter_sublist (p:=fun e:Str×Nat=>b e.2) (l:=xs.zipIdx))
  rw [List.zipIdx_map_fst] at h
  exact h
theorem bits_pos {b:Nat→Bool} {xs:List Str} {k:Nat} (hk:k<xs.length) (hb:b k=true):0<(bitsL b xs).length:=by
  refine List.length_pos_of_mem (a:=xs[k]) ?_
  unfold bitsL
  rw [List.mem_map]
  refine ⟨(xs[k],k),?_,rfl⟩
  rw [List.mem_filter]
  refine ⟨?_,hb⟩
  rw [List.mem_zipIdx_iff_getElem?]
  simp [hk]
theorem bits_lt {b:Nat→Bool} {xs:List Str} {k:Nat} (hk:k<xs.length) (hb:b k=false):(bitsL b xs).length<xs.length:=by
  unfold bitsL
  rw [List.length_map]
  have:(xs.zipIdx.filter fun e=>b e.2).length<xs.zipIdx.length:=by
    rw [List.length_filter_lt_length_iff_exists]
    refine ⟨(xs[k],k),?_,by simp [hb]⟩
    rw [List.mem_zipIdx_iff_getElem?]
    simp [hk]
  rwa [List.length_zipIdx] at this
theorem bits_snoc {b:Nat→Bool} {l:List Str} {x:Str}:bitsL b (l++[x])=bitsL b l++if b l.length=true then [x] else []:=by
  unfold bitsL
  rw [List.zipIdx_append,List.filter_append,List.map_append]
  by_cases h:b l.length=true <;> simp [h]
theorem bitB_lo {m n:Nat} (h:m<2 ^ n):bitB m n=false:=by
  unfold bitB
  rw [Nat.div_eq_of_lt h]
  rfl
theorem bitB_hi {m n:Nat} (h:m<2 ^ n):bitB (2 ^ n+m) n=true:=by
  unfold bitB
  rw [Nat.add_div_left _ (Nat.two_pow_pos n),Nat.div_eq_of_lt h]
  rfl
theorem bitB_lower {m n k:Nat} (h:k<n):bitB (2 ^ n+m) k=bitB m k:=by
  unfold bitB
  have e:2 ^ n=2 ^ k * (2 * 2 ^ (n - k - 1)):=by
    rw [← Nat.mul_assoc,← Nat.pow_succ,← Nat.pow_add]
    congr 1
    omega
  rw [e,Nat.mul_add_div (Nat.two_pow_pos k),Nat.mul_add_mod]
theorem bits_same {b b':Nat→Bool} {xs:List Str} (h:∀k,k<xs.length→b k=b' k):bitsL b xs=bitsL b' xs:=by
  unfold bitsL
  congr 1
  refine List.filter_congr fun e he=>?_
  obtain ⟨x,k⟩:=e
  rw [List.mem_zipIdx_iff_getElem?] at he
  exact h k (List.getElem?_eq_some_iff.mp he).1
def partsL (xs:List Str):List (List Str):=(List.range (2 ^ xs.length)).map fun m=>bitsL (bitB m) xs
theorem parts_nil:partsL []=[[]]:=rfl
theorem parts_snoc (l:List Str) (x:Str):partsL (l++[x])=partsL l++(partsL l).map (·++[x]):=by
  unfold partsL
  rw [List.length_append,List.length_singleton,Nat.pow_succ,Nat.mul_two,List.range_add,List.map_append,List.map_map,List.map_map]
  congr 1
  · refine List.map_congr_left fun m hm=>?_
    rw [bits_snoc,bitB_lo (List.mem_range.mp hm)]
    simp
  · refine List.map_congr_left fun m hm=>?_
    show bitsL (bitB (2 ^ l.length+m)) (l++[x])=bitsL (bitB m) l++[x]
    rw [bits_snoc,bitB_hi (List.mem_range.mp hm),bits_same (b':=bitB m) fun k hk=>bitB_lower hk]
    simp
def lotsL (xs:List Str):List (List Str):=(List.range (2 ^ xs.length - 2)).map fun m=>bitsL (bitB (1+m)) xs
theorem parts_len (xs:List Str):(partsL xs).length=2 ^ xs.length:=by simp [partsL]
theorem lots_len (xs:List Str):(lotsL xs).length=2 ^ xs.length - 2:=by simp [lotsL]
theorem lots_at {xs:List Str} {i:Nat} (h:i<2 ^ xs.length - 2):(lotsL xs)[i]? = some (bitsL (bitB (1+i)) xs):=by
  unfold lotsL
  rw [List.getElem?_map,List.getElem?_range h]
  rfl
theorem parts_lots {xs:List Str}:((partsL xs).take (2 ^ xs.length - 1)).drop 1=lotsL xs:=by
  refine List.ext_getElem? fun i=>?_
  rw [List.getElem?_drop]
  by_cases h:i<2 ^ xs.length - 2
  · rw [lots_at h,List.getElem?_take_of_lt (by omega)]
    unfold partsL
    rw [List.getElem?_map,List.getElem?_range (by omega)]
    rfl
  ·rw [List.getElem?_eq_none (by rw [List.length_take,parts_len];omega),List.getElem?_eq_none (by rw [lots_len];omega)]
theorem lot_ok {xs c:List Str} (h9:xs.length≤9) (h:c∈lotsL xs):c.Sublist xs∧0<c.length∧c.length<xs.length:=by
  unfold lotsL at h
  obtain ⟨m,hm,rfl⟩:=List.mem_map.mp h
  have hm:=List.mem_range.mp hm
  have p9:2 ^ xs.length≤2 ^ 9:=Nat.pow_le_pow_right (by decide) h9
  obtain ⟨⟨k1,hk1,hb1⟩,⟨k2,hk2,hb2⟩⟩:=bit_some (n:=xs.length) (m:=1+m) h9 (by omega) (by omega) (by omega)
  exact ⟨bits_sub _ _,bits_pos hk1 hb1,bits_lt hk2 hb2⟩
def NewS (G H:Hp) (v:V) (c:List Str):Prop:=∃t,v = .ref t∧G t=none∧H t=some (.lst (c.map V.str))
def NewL (G H:Hp) (tv:List V) (cs:List (List Str)):Prop:=AllAt (NewS G) H tv cs
def sp_all_parts:Sp:=fun vs H Q _=>∃(n:Addr) (xs:List Str),vs=[.ref n]∧H n=some (.lst (xs.map V.str))∧xs.length≤9∧
  ∀(r:Addr) (tv:List V) (H':Hp),H r=none→H' r=some (.lst tv)→NewL H H' tv (partsL xs)→Same H H'→Q (.ref r) H'
theorem ok_all_parts (T:Txt K mg a):FnOk P w K mg base CX0 1 a.f_all_parts a.fd_all_parts ["points"] sp_all_parts:=by
  refine T.F_all_parts.okL sc_all_parts (fun vs H Q E h=>?_) (fun cdv A outer s H vs Q E hr h=>?_)
  · obtain ⟨n,xs,rfl,_⟩:=h
    rfl
  · obtain ⟨n,xs,rfl,hn,h9,q⟩:=h
    refine ⟨_,(pss_cons (ps_set (i:=1) sc_all_parts.nd rfl (Or.inl rfl) (pe_lst (pa_cons (pe_lst pa_nil) pa_nil)))
      (pss_cons (ps_for PassesOwn.never rfl (PI.eqv (pi_listk (K:=K) rfl (fpv 0)) (fiList_eq _ _)) (pg_name (i:=2) sc_all_parts.nd rfl (Or.inr rfl))
      (pss_one (ps_set (i:=1) sc_all_parts.nd rfl (Or.inl rfl) (pe_op fop_cat (fpv 1) (pe_comp rfl rfl (show CompScope (defScope s_all_parts) _ ["points", "parts", "point"] ["part"] [2] ["part", "point"] from ⟨rfl,by decide +kernel,by decide +kernel,rfl,by decide +kernel,by decide +kernel⟩) rfl (PI.eqv (pi_listk (K:=K) rfl (fpv 1)) (fiList_eq _ _)) (fun C s H fp pn=>(pg_name (i:=0) (show (["part", "point"]:List Str).Nodup by decide +kernel) rfl (Or.inl rfl))) (fun C s H fp pn=>pts_nil) (fun C s H fp pn=>(pe_op fop_cat (fpv 0) (pe_lst (pa_cons (fpv 1) pa_nil)))))))))
      (pss_one (ps_ret (fpv 1))))),?_⟩
    have s600:600<sizeLine:=by decide
    simp -dsimp[cxOf,stC,-Bool.exists_bool,-List.map_take,-Prod.forall,-Prod.exists]
    intro p hp
    have s1:Same H (upd H p (.lst [])):=same_upd hp
    have e1:upd H p (.lst []) p=some (.lst []):=upd_same
    generalize upd H p (.lst [])=H1 at s1 e1 ⊢
    intro r hr
    have s2:Same H1 (upd H1 r (.lst [.ref p])):=same_upd hr
    have e2:upd H1 r (.lst [.ref p]) r=some (.lst [.ref p]):=upd_same
    generalize upd H1 r (.lst [.ref p])=H2 at s2 e2 ⊢
    have S2:=s1.trans s2
    refine ⟨⟨_,SqL.of (S2 _ _ hn)⟩,frL (xs.map V.str) (fun i σ H'=>(∃rp o2,σ=[some (.ref n),some (.ref rp),o2]∧H rp=none∧∃tv,H' rp=some (.lst tv)∧NewL H H' tv (partsL (xs.take i)))∧Same H H') ⟨⟨r,none,rfl,s1.free hr,_,e2,?_⟩,S2⟩ (fun i σ H' _ h=>SqL.of (h.2 _ _ hn)) ?_ ?_⟩
    · exact ⟨rfl,fun i v c h1 h2=>by
        cases i with
        | succ i=>simp at h1
        | zero=>
          simp at h1
          rw [List.take_zero,parts_nil] at h2
          simp at h2
          subst h1 h2
          exact ⟨p,rfl,hp,s2 _ _ e1⟩⟩
    · rintro i v σ H3 hi ⟨⟨rp,o2,rfl,hrp0,tv,hrp,hN⟩,s3⟩
      obtain ⟨y,hy,rfl⟩:=str_at hi
      have hi9:i<xs.length:=(List.getElem?_eq_some_iff.mp hy).1
      have hlt:tv.length=2 ^ i:=by
        have:=hN.1
        rw [parts_len,List.length_take,Nat.min_eq_left (by omega)] at this
        exact this
      have p8:2 ^ i≤2 ^ 8:=Nat.pow_le_pow_right (by decide) (by omega)
      rw [take_one hy,parts_snoc]
      have h9c:∀c∈partsL (xs.take i),c.length≤9:=fun c hc=>by
        obtain ⟨m,_,rfl⟩:=List.mem_map.mp hc
        have:=(bits_sub (bitB m) (xs.take i)).length_le
        rw [List.length_take] at this
        omega
      generalize hC:partsL (xs.take i)=cs at hN h9c ⊢
      simp -dsimp[cxOf,stC,-Bool.exists_bool,-List.map_take,-Prod.forall,-Prod.exists]
      refine ⟨⟨_,SqL.of hrp⟩,fun D hD=>cmL tv (fun j σ H'=>(∃o1,σ=[o1,some (.str y)])∧(∃uv,H' D=some (.lst uv)∧AllAt (fun H' v c=>∃t,v = .ref t∧H t=none∧t≠D∧H' t=some (.lst (c.map V.str))) H' uv ((cs.take j).map (·++[y])))∧Same H3 H') ⟨⟨_,rfl⟩,⟨[],upd_same,AllAt.nil⟩,same_upd hD⟩ (fun i σ H' _ h=>SqL.of (h.2.2 _ _ hrp)) ?_ ?_⟩
      · rintro j v σ H4 hj ⟨⟨o1,rfl⟩,⟨uv,hD4,hA⟩,s4⟩
        have hj2:j<tv.length:=(List.getElem?_eq_some_iff.mp hj).1
        obtain ⟨c,hc,t,rfl,ht0,ht⟩:=AllAt.at hN hj
        have hul:uv.length=j:=by
          have:=hA.1
          have hcl:=hN.1
          rw [List.length_map,List.length_take] at this
          omega
        have ht4:=s4 _ _ ht
        simp -dsimp[cxOf,stC,-Bool.exists_bool,-List.map_take,-Prod.forall,-Prod.exists]
        intro p5 hp5
        have s5:Same H4 (upd H4 p5 (.lst [.str y])):=same_upd hp5
        have e5:upd H4 p5 (.lst [.str y]) p5=some (.lst [.str y]):=upd_same
        generalize upd H4 p5 (.lst [.str y])=H5 at s5 e5 ⊢
        have hc9:=h9c c (List.mem_of_getElem? hc)
        refine ⟨_,s5 _ _ ht4,_,e5,by simp;omega,fun p6 hp6=>?_⟩
        have s6:Same H5 (upd H5 p6 (.lst (c.map V.str++[.str y]))):=same_upd hp6
        have e6:upd H5 p6 (.lst (c.map V.str++[.str y])) p6=some (.lst (c.map V.str++[.str y])):=upd_same
        generalize upd H5 p6 (.lst (c.map V.str++[.str y]))=H6 at s6 e6 ⊢
        have hD6:=(s5.trans s6) _ _ hD4
        have p6D:p6≠D:=fun z=>by rw [z,s5 _ _ hD4] at hp6;cases hp6
        refine ⟨uv,hD6,by omega,⟨_,upd_same,?_⟩,same_upd2 (s4.trans (s5.trans s6)) hD⟩
        rw [take_one hc,List.map_append]
        refine AllAt.snoc (AllAt.keep hA ?_) ⟨p6,rfl,(s3.trans (s4.trans s5)).free hp6,p6D,by rw [upd_ne p6D,e6];simp⟩
        rintro v b ⟨t,rfl,h0,hne,ht⟩
        exact ⟨t,rfl,h0,hne,by rw [upd_ne hne];exact (s5.trans s6) _ _ ht⟩
      · rintro σ H4 ⟨⟨o1,rfl⟩,⟨uv,hD4,hA⟩,s4⟩
        rw [hN.1,List.take_length] at hA
        have hul:uv.length=cs.length:=by rw [hA.1,List.length_map]
        have hcl:=hN.1
        simp -dsimp[cxOf,stC,-Bool.exists_bool,-List.map_take,-Prod.forall,-Prod.exists]
        refine ⟨_,s4 _ _ hrp,_,hD4,by omega,fun p5 hp5=>⟨⟨(s3.trans s4).free hp5,_,upd_same,?_⟩,(s3.trans s4).trans (same_upd hp5)⟩⟩
        have s5:Same H4 (upd H4 p5 (.lst (tv++uv))):=same_upd hp5
        generalize upd H4 p5 (.lst (tv++uv))=H5 at s5 ⊢
        refine ⟨by simp [hN.1,hA.1],fun k v c h1 h2=>?_⟩
        by_cases hk:k<tv.length
        · rw [List.getElem?_append_left hk] at h1
          rw [List.getElem?_append_left (by omega)] at h2
          obtain ⟨t,rfl,h0,ht⟩:=hN.2 k v c h1 h2
          exact ⟨t,rfl,h0,(s4.trans s5) _ _ ht⟩
        · rw [List.getElem?_append_right (by omega)] at h1
          rw [List.getElem?_append_right (by omega),← hcl] at h2
          obtain ⟨t,rfl,h0,_,ht⟩:=hA.2 _ v c h1 h2
          exact ⟨t,rfl,h0,s5 _ _ ht⟩
    · rintro σ H3 ⟨⟨rp,o2,rfl,hrp0,tv,hrp,hN⟩,s3⟩
      rw [List.length_map,List.take_length] at hN
      simp -dsimp[cxOf,stC,-Bool.exists_bool,-List.map_take,-Prod.forall,-Prod.exists]
      exact q rp tv H3 hrp0 hrp hN s3
theorem cut_in {xs:List V}:cutV xs (some 1) (some (-1))=(xs.take (xs.length - 1)).drop 1:=by
  unfold cutV
  have e1:HT.sIx xs.length 0 (some 1)=min 1 xs.length:=by
    unfold HT.sIx
    simp
    try omega
  have e2:HT.sIx xs.length xs.length (some (-1))=xs.length - 1:=by
    unfold HT.sIx
    simp
    try omega
  rw [e1,e2,List.drop_take]
  cases xs with
  | nil=>rfl
  | cons x xs=>
    rw [Nat.min_eq_left (by simp)]
def sp_all_lots (C:Addr):Sp:=fun vs H Q _=>∃(o:Addr) (xs:List Str) (ps:List (Str×Str)),vs=[.ref o]∧WebAt C H o xs ps∧xs.length≤9∧
  ∀(r:Addr) (tv:List V) (H':Hp),H r=none→H' r=some (.lst tv)→NewL H H' tv (lotsL xs)→Same H H'→Q (.ref r) H'
theorem ok_all_lots (T:Txt K mg a):FnOk P w K mg base CX0 2 a.f_all_lots a.fd_all_lots ["web"] (sp_all_lots a.C_Web):=by
  refine T.F_all_lots.okL sc_all_lots (fun vs H Q E h=>?_) (fun cdv A outer s H vs Q E hr h=>?_)
  · obtain ⟨o,xs,ps,rfl,_⟩:=h
    rfl
  · obtain ⟨o,xs,ps,rfl,hw,h9,q⟩:=h
    refine ⟨_,(pss_one (ps_ret (pe_slice (fslLk (K:=K) rfl) (PE.eqv (pe_call (ok_all_parts (K:=K) T) (hr.mono (by decide)) rfl T.m_all_parts T.F_all_parts.kp T.b_all_parts .nil pass0 (pa_cons (PE.eqv (pe_meth0 (fpv 0) T.c_Web T.M_Web_points (ok_Web_points (K:=K) T) (hr.mono (by decide)) T.b_Web_points .nil pass0) (fMeth_eq _ _ _ _ _ _)) pa_nil)) (fCall_eq _ _ _)) (PO.eqv (po_some pe_int) (fPart_eq _)) (PO.eqv (po_some (pe_un fun_neg pe_int)) (fPart_eq _))))),?_⟩
    have s600:600<sizeLine:=by decide
    obtain ⟨dx,fs,hin,hno⟩:=hw.ins no_points.1 no_points.2
    simp -dsimp[cxOf,stC,-Bool.exists_bool,-List.map_take,-Prod.forall,-Prod.exists]
    refine ⟨dx,fs,hin,hno,o,xs,ps,rfl,hw,fun n hn=>?_⟩
    have s1:Same H (upd H n (.lst (xs.map V.str))):=same_upd hn
    have e1:upd H n (.lst (xs.map V.str)) n=some (.lst (xs.map V.str)):=upd_same
    generalize upd H n (.lst (xs.map V.str))=H1 at s1 e1 ⊢
    simp -dsimp[cxOf,stC,-Bool.exists_bool,-List.map_take,-Prod.forall,-Prod.exists]
    refine ⟨n,xs,rfl,e1,h9,fun r tv H2 hr e2 hN s2=>?_⟩
    simp -dsimp[cxOf,stC,-Bool.exists_bool,-List.map_take,-Prod.forall,-Prod.exists]
    have tl:tv.length=2 ^ xs.length:=by rw [hN.1,parts_len]
    refine ⟨_,SqL.of e2,fun p3 hp3=>?_⟩
    have s3:Same H2 (upd H2 p3 (.lst (cutV tv (some 1) (some (-1))))):=same_upd hp3
    have e3:upd H2 p3 (.lst (cutV tv (some 1) (some (-1)))) p3=some (.lst (cutV tv (some 1) (some (-1)))):=upd_same
    generalize upd H2 p3 (.lst (cutV tv (some 1) (some (-1))))=H3 at s3 e3 ⊢
    refine q p3 _ H3 ((s1.trans s2).free hp3) e3 ?_ (s1.trans (s2.trans s3))
    rw [cut_in,tl,← parts_lots]
    refine ⟨by rw [List.length_drop,List.length_take,List.length_drop,List.length_take,hN.1],fun k v c h1 h2=>?_⟩
    rw [List.getElem?_drop] at h1 h2
    have hk:1+k<2 ^ xs.length - 1:=by
      have:=(List.getElem?_eq_some_iff.mp h1).1
      rw [List.length_take] at this
      omega
    rw [List.getElem?_take_of_lt hk] at h1 h2
    obtain ⟨t,rfl,h0,ht⟩:=hN.2 _ v c h1 h2
    exact ⟨t,rfl,s1.free h0,s3 _ _ ht⟩
theorem stepsSame {H H':Hp} {vs:List V} {S:List Stp} (h:StepsAt H vs S) (k:Same H H'):StepsAt H' vs S:=AllAt.keep h fun v s ⟨t,e,z⟩=>⟨t,e,k _ _ z⟩
abbrev lamP:Pos:=⟨165,28,165,46⟩
abbrev lamQ:Str:= "times_over" ++ ".<locals>." ++ "<lambda>"
def cntI (xs:List Str) (ns:List Int) (ps:List (Str×Str)) (m:Nat):Int:=((intoN (bitsL (bitB (1+m)) xs) ns ps:Nat):Int)
def BestAt (xs:List Str) (ns:List Int) (ps:List (Str×Str)) (i:Nat):Prop:=i<2 ^ xs.length - 2∧∀j,j<2 ^ xs.length - 2→cntI xs ns ps i≤cntI xs ns ps j∧(j<i→cntI xs ns ps i<cntI xs ns ps j)
theorem refs_of:∀{uv:List V},(∀v∈uv,∃t,v = .ref t)→∃as:List Addr,uv=as.map V.ref
  | [],_=>⟨[],rfl⟩
  | v::uv,h=>by
    obtain ⟨t,rfl⟩:=h v List.mem_cons_self
    obtain ⟨as,rfl⟩:=refs_of (uv:=uv) fun u hu=>h u (List.mem_cons_of_mem _ hu)
    exact ⟨t::as,rfl⟩
def sp_times_over (C Pt:Addr):Sp:=fun vs H Q _=>∃(o t:Addr) (xs:List Str) (ps:List (Str×Str)) (ns:List Int),vs=[.ref o,.ref t]∧PtIn C H o t xs ps ns∧1≤xs.length∧xs.length≤9∧TabOk lamP lamQ Pt H∧
  (xs.length=1→∀H',But Pt H H'→TabOk lamP lamQ Pt H'→Q .non H')∧
  ∀(r t1:Addr) (i:Nat) (H':Hp),BestAt xs ns ps i→H r=none→H t1=none→H' r=some (.tup [.int (cntI xs ns ps i),.ref t1])→H' t1=some (.lst ((bitsL (bitB (1+i)) xs).map V.str))→But Pt H H'→TabOk lamP lamQ Pt H'→Q (.ref r) H'
theorem ok_times_over (T:Txt K mg a) {c Pt:Addr} (L:LamAt a.fd_times_over base mg c Pt):FnOk P w K mg base CX0 7 a.f_times_over a.fd_times_over ["web", "pointing"] (sp_times_over a.C_Web Pt):=by
  refine T.F_times_over.okC L.cd sc_times_over (fun vs H Q E h=>?_) (fun A outer s H vs Q E hr h=>?_)
  · obtain ⟨o,t,xs,ps,ns,rfl,_⟩:=h
    rfl
  · obtain ⟨o,t,xs,ps,ns,rfl,hp,h1,h9,hT,q1,q⟩:=h
    refine ⟨_,(pss_cons (ps_set (i:=2) sc_times_over.nd rfl (Or.inr rfl) (PE.eqv (pe_call (ok_arrows (K:=K) T) (hr.mono (by decide)) rfl T.m_arrows T.F_arrows.kp T.b_arrows .nil pass0 (pa_cons (fpv 0) (pa_cons (fpv 1) pa_nil))) (fCall_eq _ _ _)))
      (pss_cons (ps_setComp (i:=3) sc_times_over.nd rfl rfl rfl rfl (show CompScope (defScope s_times_over) _ ["web", "pointing", "steps", "counted"] ["lot"] [2] ["lot", "steps"] from ⟨rfl,by decide +kernel,by decide +kernel,rfl,by decide +kernel,by decide +kernel⟩) rfl (PI.eqv (pi_listk (K:=K) rfl (PE.eqv (pe_call (ok_all_lots (K:=K) T) (hr.mono (by decide)) rfl T.m_all_lots T.F_all_lots.kp T.b_all_lots .nil pass0 (pa_cons (fpv 0) pa_nil)) (fCall_eq _ _ _))) (fiList_eq _ _)) (fun C s H fp pn=>(pg_name (i:=0) (show (["lot", "steps"]:List Str).Nodup by decide +kernel) rfl (Or.inl rfl))) (fun C s H fp pn=>pts_nil) (fun C s H fp pn=>(pe_tup (pa_cons (pe_callB (flenQk (K:=K) rfl) rfl T.nm.len PySem.boot_len (pa_cons (PE.eqv (pe_call (ok_steps_into (K:=K) T) (hr.mono (by decide)) rfl T.m_steps_into T.F_steps_into.kp T.b_steps_into .nil pass0 (pa_cons (fpv 1) (pa_cons (fpv 0) pa_nil))) (fCall_eq _ _ _)) pa_nil)) (pa_cons (fpv 0) pa_nil)))))
      (pss_one (ps_ret (pe_minK (K:=K) (k:=0) rfl (hr.mono (by decide)) rfl L.hd L.bt rfl T.nm.min (pa_cons (fpv 3) pa_nil) rfl))))),?_⟩
    have s600:600<sizeLine:=by decide
    have hw:=hp.1
    simp -dsimp[cxOf,stC,-Bool.exists_bool,-List.map_take,-Prod.forall,-Prod.exists]
    refine ⟨o,t,xs,ps,ns,rfl,hp,fun l sv H1 hl0 hl1 hS h40 s1=>?_⟩
    simp -dsimp[cxOf,stC,-Bool.exists_bool,-List.map_take,-Prod.forall,-Prod.exists]
    refine ⟨o,xs,ps,rfl,hw.same s1,h9,fun r2 tv H2 hr2 e2 hN s2=>?_⟩
    have hl2:=s2 _ _ hl1
    have hS2:=stepsSame hS s2
    have tl:tv.length=2 ^ xs.length - 2:=by rw [hN.1,lots_len]
    have p9:2 ^ xs.length≤2 ^ 9:=Nat.pow_le_pow_right (by decide) h9
    simp -dsimp[cxOf,stC,-Bool.exists_bool,-List.map_take,-Prod.forall,-Prod.exists]
    refine ⟨⟨_,SqL.of e2⟩,fun D hD=>cmL tv (fun j σ H'=>(∃o1,σ=[o1,some (.ref l)])∧(∃uv,H' D=some (.lst uv)∧uv.length=j∧∀k v,uv[k]? = some v→∃u lt,v = .ref u∧u≠D∧H u=none∧tv[k]? = some (.ref lt)∧H' u=some (.tup [.int (cntI xs ns ps k),.ref lt]))∧Same H2 H') ⟨⟨_,rfl⟩,⟨[],upd_same,rfl,by simp⟩,same_upd hD⟩ (fun i σ H' _ h=>SqL.of (h.2.2 _ _ e2)) ?_ ?_⟩
    · rintro j v σ H3 hj ⟨⟨o1,rfl⟩,⟨uv,hD3,hul,huv⟩,s3⟩
      have hj2:j<tv.length:=(List.getElem?_eq_some_iff.mp hj).1
      obtain ⟨c,hc,t4,rfl,ht0,ht4⟩:=AllAt.at hN hj
      rw [lots_at (by omega)] at hc
      cases hc
      simp -dsimp[cxOf,stC,-Bool.exists_bool,-List.map_take,-Prod.forall,-Prod.exists]
      refine ⟨l,t4,sv,_,_,rfl,s3 _ _ hl2,stepsSame hS2 s3,s3 _ _ ht4,h40,fun l5 lv H5 hl5 e5 hlen5 s5=>?_⟩
      have e0:((lv.length:Nat):Int)=cntI xs ns ps j:=by
        rw [hlen5,led_L hp.2.2.2.1 hp.2.2.1]
        unfold cntI
        rw [← into_eq _ ns ps 0]
        rfl
      simp -dsimp[cxOf,stC,-Bool.exists_bool,-List.map_take,-Prod.forall,-Prod.exists]
      refine ⟨_,.inl (SqL.of e5),?_⟩
      rw [e0]
      intro p6 hp6
      have s6:Same H5 (upd H5 p6 (.tup [.int (cntI xs ns ps j),.ref t4])):=same_upd hp6
      have e6:upd H5 p6 (.tup [.int (cntI xs ns ps j),.ref t4]) p6=some (.tup [.int (cntI xs ns ps j),.ref t4]):=upd_same
      generalize upd H5 p6 (.tup [.int (cntI xs ns ps j),.ref t4])=H6 at s6 e6 ⊢
      have hD5:=s5 _ _ hD3
      have p6D:p6≠D:=fun z=>by rw [z,hD5] at hp6;cases hp6
      refine ⟨uv,s6 _ _ hD5,by omega,⟨_,upd_same,by simp [hul],fun k v hk=>?_⟩,same_upd2 (s3.trans (s5.trans s6)) hD⟩
      by_cases hkj:k<uv.length
      · rw [List.getElem?_append_left hkj] at hk
        obtain ⟨u,lt,rfl,h1,h2,h3,h4⟩:=huv k v hk
        exact ⟨u,rfl,h1,h2,lt,h3,by rw [upd_ne h1];exact (s5.trans s6) _ _ h4⟩
      · rw [List.getElem?_append_right (by omega)] at hk
        have hk0:k=j:=by
          have:=(List.getElem?_eq_some_iff.mp hk).1
          simp at this
          omega
        subst hk0
        rw [hul,Nat.sub_self] at hk
        simp at hk
        subst hk
        exact ⟨p6,rfl,p6D,(s1.trans (s2.trans (s3.trans s5))).free hp6,t4,hj,by rw [upd_ne p6D];exact e6⟩
    · rintro σ H3 ⟨⟨o1,rfl⟩,⟨uv,hD3,hul,huv⟩,s3⟩
      obtain ⟨as,rfl⟩:=refs_of (uv:=uv) fun v hv=>by
        obtain ⟨k,hk⟩:=List.getElem?_of_mem hv
        obtain ⟨u,lt,rfl,_⟩:=huv k v hk
        exact ⟨u,rfl⟩
      have al:as.length=2 ^ xs.length - 2:=by rw [← tl,← hul,List.length_map]
      have S3:=s1.trans (s2.trans s3)
      have hT3:=hT.same S3
      simp -dsimp[cxOf,stC,-Bool.exists_bool,-List.map_take,-Prod.forall,-Prod.exists]
      have nP:∀{b:Addr} {o:HO},H3 b=some o→(∀ps,o≠.tbl ps)→b≠Pt:=fun {b o} e n z=>by
        obtain ⟨qs,hq⟩:=hT3.tb
        rw [z,hq] at e
        cases e
        exact n _ rfl
      refine ⟨hT3,as,SqL.of hD3,cntI xs ns ps,fun i u hu=>?_,fun h0 H4 hB hT4=>?_,fun i u hu hbest H4 hB hT4=>?_⟩
      · obtain ⟨u',lt,e,_,_,_,h4⟩:=huv i (.ref u) (by rw [List.getElem?_map,hu];rfl)
        cases e
        exact ⟨_,SqT.of h4⟩
      · refine q1 ?_ H4 (fun b o n e=>hB b o n (S3 b o e)) hT4
        rw [h0] at al
        simp at al
        by_cases h2:2≤xs.length
        · have:2 ^ 2≤2 ^ xs.length:=Nat.pow_le_pow_right (by decide) h2
          omega
        ·omega
      · have hi:i<2 ^ xs.length - 2:=by rw [← al];exact (List.getElem?_eq_some_iff.mp hu).1
        obtain ⟨u',lt,e,_,hu0,hlt,h4⟩:=huv i (.ref u) (by rw [List.getElem?_map,hu];rfl)
        cases e
        obtain ⟨t5,e5,ht0,ht5⟩:=hN.2 i _ _ hlt (lots_at hi)
        cases e5
        have ht5':=s3 _ _ ht5
        exact q u lt i H4 ⟨hi,fun j hj=>hbest j (by rw [al];exact hj)⟩ hu0 (s1.free ht0) (hB _ _ (nP h4 (by simp)) h4) (hB _ _ (nP ht5' (by simp)) ht5') (fun b o n e=>hB b o n (S3 b o e)) hT4
theorem filter_sub {xs c:List Str} (nd:xs.Nodup) (h:c.Sublist xs):(xs.filter fun y=>decide (y∈c))=c:=by
  induction h with
  | slnil=>rfl
  | cons a h ih=>
    rename_i l1 l2
    have ha:a∉l1:=fun z=>(List.nodup_cons.mp nd).1 (h.subset z)
    rw [List.filter_cons_of_neg (by simpa using ha)]
    exact ih (List.nodup_cons.mp nd).2
  | cons_cons a h ih=>
    rename_i l1 l2
    have ha:=(List.nodup_cons.mp nd).1
    rw [List.filter_cons_of_pos (by simp)]
    congr 1
    have e:(l2.filter fun y=>decide (y∈a::l1))=l2.filter fun y=>decide (y∈l1):=List.filter_congr fun y hy=>by
      have:y≠a:=fun z=>ha (z▸hy)
      simp [this]
    rw [e]
    exact ih (List.nodup_cons.mp nd).2
theorem into_move {xs:List Str} {ns ms:List Int} {ps:List (Str×Str)} {a b:Str} {k:Nat} {p:Str→Bool} (nd:xs.Nodup) (hp:∀e∈ps,e.1∈xs∧e.2∈xs) (h1:ns.length=ps.length) (h2:ms.length=ps.length) (hb:b∈xs) (pa:p a=false) (pb:p b=true)
    (hk:∀x,inN ms ps x+(if b=x then k else 0)=inN ns ps x+(if a=x then k else 0)):intoN (xs.filter p) ns ps=intoN (xs.filter p) ms ps+k:=by
  have e1:=cnt_sum nd (fun x=>decide (x∈xs.filter p)) (L:=goalL ns ps) (goal_in hp)
  have e2:=cnt_sum nd (fun x=>decide (x∈xs.filter p)) (L:=goalL ms ps) (goal_in hp)
  rw [gl_split _ h1,sub_filter] at e1
  rw [gl_split _ h2,sub_filter] at e2
  have nd':(xs.filter p).Nodup:=nd.filter _
  have ia:=sum_indk a k nd'
  have ib:=sum_indk b k nd'
  rw [if_neg (fun z=>by rw [(List.mem_filter.mp z).2] at pa;cases pa)] at ia
  rw [if_pos (List.mem_filter.mpr ⟨hb,pb⟩)] at ib
  have e3:((xs.filter p).map fun x=>inN ms ps x+(if b=x then k else 0)).sum=((xs.filter p).map fun x=>inN ns ps x+(if a=x then k else 0)).sum:=by
    congr 1
    exact List.map_congr_left fun x _=>hk x
  rw [sum_map_add,sum_map_add,ia,ib] at e3
  have e1':intoN (xs.filter p) ns ps+withN (xs.filter p) ps=((xs.filter p).map (inN ns ps)).sum:=e1
  have e2':intoN (xs.filter p) ms ps+withN (xs.filter p) ps=((xs.filter p).map (inN ms ps)).sum:=e2
  have e3':((xs.filter p).map (inN ms ps)).sum+k=((xs.filter p).map (inN ns ps)).sum+0:=e3
  omega
theorem disj_len:∀{rs:List (List Nat)} {N:List Nat},rs.flatten.Nodup→(∀w∈rs,∃n∈w,n∈N)→rs.length≤N.length
  | [],_,_,_=>Nat.zero_le _
  | w::rs,N,hd,h=>by
    rw [List.flatten_cons,List.nodup_append] at hd
    obtain ⟨n,hn,hN⟩:=h w List.mem_cons_self
    have ih:=disj_len (rs:=rs) (N:=N.erase n) hd.2.1 fun v hv=>by
      obtain ⟨k,hk,hkN⟩:=h v (List.mem_cons_of_mem _ hv)
      have hne:k≠n:=fun z=>hd.2.2 n hn k (List.mem_flatten.mpr ⟨v,hv,hk⟩) z.symm
      exact ⟨k,hk,(List.mem_erase_of_ne hne).mpr hkN⟩
    rw [List.length_erase_of_mem hN] at ih
    have:=List.length_pos_of_mem hN
    rw [List.length_cons]
    omega
theorem path_enter {S:List Stp} {a:Str} {w:List Nat} {vs:List Str} {b:Str} (h:PathV S a w vs b) {q:Str→Bool} (qa:q a=false):q b=true→∃s∈S,s.1∈w∧q s.2.1=false∧q s.2.2=true:=by
  induction h with
  | nil=>intro qb;rw [qa] at qb;cases qb
  | @snoc w vs b c n hp hq ih=>
    intro qc
    cases qb:q b with
    | false=>exact ⟨_,hq,by simp,qb,qc⟩
    | true=>
      obtain ⟨s,h1,h2,h3⟩:=ih qb
      exact ⟨s,h1,List.mem_append_left _ h2,h3⟩
def ApN (xs:List Str) (ps:List (Str×Str)) (ns:List Int) (a b:Str) (n:Nat):Prop:=∃rs c,ApartP xs ps ns a b rs c∧rs.length=n
theorem ApN.le {xs:List Str} {ps:List (Str×Str)} {ns:List Int} {a b:Str} {n:Nat} (h:ApN xs ps ns a b n) (g2:∀e∈ps,e.1∈xs∧e.2∈xs) {q:Str→Bool} (qa:q a=false) (qb:q b=true):n≤intoN (xs.filter q) ns ps:=by
  obtain ⟨rs,c,h,rfl⟩:=h
  rw [← into_eq (xs.filter q) ns ps 0,← List.length_map (f:=fun s:Stp=>s.1)]
  refine disj_len h.nd fun w hw=>?_
  obtain ⟨vs,hp,_⟩:=h.pth w hw
  obtain ⟨s,hs,h1,h2,h3⟩:=path_enter hp qa qb
  refine ⟨s.1,h1,List.mem_map_of_mem (List.mem_filter.mpr ⟨hs,?_⟩)⟩
  refine decide_eq_true ⟨fun z=>?_,List.mem_filter.mpr ⟨led_xs g2 s hs,h3⟩⟩
  have:=(List.mem_filter.mp z).2
  rw [h2] at this
  cases this
theorem ApN.at {xs:List Str} {ps:List (Str×Str)} {ns:List Int} {a b:Str} {n:Nat} (h:ApN xs ps ns a b n):∃q:Str→Bool,q a=false∧q b=true∧intoN (xs.filter q) ns ps=n:=by
  obtain ⟨rs,c,h,rfl⟩:=h
  obtain ⟨q,rfl,qa,qb⟩:=h.lot
  exact ⟨q,qa,qb,h.into⟩
theorem filt_in (q:Str→Bool):∀(n:Nat) (xs:List Str),xs.length=n→xs.filter q∈partsL xs
  | 0,xs,h=>by
    rw [List.eq_nil_of_length_eq_zero h,parts_nil]
    simp
  | n+1,xs,h=>by
    have hne:xs≠[]:=fun z=>by rw [z] at h;simp at h
    rw [← List.dropLast_concat_getLast hne,parts_snoc,List.filter_append]
    have ih:=filt_in q n xs.dropLast (by simp [h])
    cases hq:q (xs.getLast hne) with
    | true=>
      refine List.mem_append_right _ (List.mem_map.mpr ⟨_,ih,?_⟩)
      simp [hq]
    | false=>
      refine List.mem_append_left _ ?_
      simpa [hq] using ih
theorem full_bits:∀n:Nat,n≤9→∀k:Nat,k<9→k<n→bitB (2 ^ n - 1) k=true:=by decide +kernel
theorem lot_is {xs:List Str} (h9:xs.length≤9) {q:Str→Bool} {x y:Str} (hx:x∈xs) (hy:y∈xs) (qx:q x=false) (qy:q y=true):∃j,j<2 ^ xs.length - 2∧xs.filter q=bitsL (bitB (1+j)) xs:=by
  have h:=filt_in q xs.length xs rfl
  unfold partsL at h
  obtain ⟨m,hm,e⟩:=List.mem_map.mp h
  have hm:=List.mem_range.mp hm
  have m0:m≠0:=fun z=>by
    subst z
    have hy2:y∈xs.filter q:=List.mem_filter.mpr ⟨hy,qy⟩
    rw [← e] at hy2
    unfold bitsL at hy2
    obtain ⟨u,hu,_⟩:=List.mem_map.mp hy2
    have:=(List.mem_filter.mp hu).2
    simp [bitB] at this
  have m1:m≠2 ^ xs.length - 1:=fun z=>by
    subst z
    have hx2:x∈bitsL (bitB (2 ^ xs.length - 1)) xs:=by
      unfold bitsL
      obtain ⟨k,hk,ek⟩:=List.getElem_of_mem hx
      refine List.mem_map.mpr ⟨(x,k),List.mem_filter.mpr ⟨?_,full_bits _ h9 k (by omega) hk⟩,rfl⟩
      rw [List.mem_zipIdx_iff_getElem?]
      simp [hk,ek]
    rw [e] at hx2
    have:=(List.mem_filter.mp hx2).2
    rw [qx] at this
    cases this
  refine ⟨m - 1,by omega,?_⟩
  rw [show 1+(m - 1)=m by omega]
  exact e.symm
theorem times_is {xs:List Str} {ps:List (Str×Str)} {ns:List Int} {f:Str} {i:Nat} {m:Int} (nd:xs.Nodup) (h9:xs.length≤9) (g2:∀e∈ps,e.1∈xs∧e.2∈xs) (hf:f∈xs) (hB:BestAt xs ns ps i)
    (hm:∃v∈xs,v≠f∧∃n:Nat,m=n∧(ApN xs ps ns f v n∨ApN xs ps ns v f n))
    (hall:∀v∈xs,v≠f→∃n n':Nat,ApN xs ps ns f v n∧ApN xs ps ns v f n'∧m≤n∧m≤n'):cntI xs ns ps i=m:=by
  have hl:=lot_ok h9 (List.mem_of_getElem? (lots_at hB.1))
  have hc:=filter_sub nd hl.1
  have h1:cntI xs ns ps i≤m:=by
    obtain ⟨v,hv,_,n,rfl,h | h⟩:=hm
    · obtain ⟨q,qa,qb,e⟩:=h.at
      obtain ⟨j,hj,ej⟩:=lot_is h9 hf hv qa qb
      have:=(hB.2 j hj).1
      unfold cntI at this ⊢
      rw [← ej,e] at this
      exact this
    · obtain ⟨q,qa,qb,e⟩:=h.at
      obtain ⟨j,hj,ej⟩:=lot_is h9 hv hf qa qb
      have:=(hB.2 j hj).1
      unfold cntI at this ⊢
      rw [← ej,e] at this
      exact this
  have h2:m≤cntI xs ns ps i:=by
    by_cases hfc:f∈bitsL (bitB (1+i)) xs
    · obtain ⟨v,hv,hvc⟩:∃v∈xs,v∉bitsL (bitB (1+i)) xs:=by
        refine Classical.byContradiction fun z=>?_
        have all:∀y∈xs,y∈bitsL (bitB (1+i)) xs:=fun y hy=>Classical.byContradiction fun n=>z ⟨y,hy,n⟩
        have e:(xs.filter fun y=>decide (y∈bitsL (bitB (1+i)) xs))=xs:=List.filter_eq_self.mpr fun y hy=>decide_eq_true (all y hy)
        rw [hc] at e
        have:=hl.2.2
        rw [e] at this
        exact Nat.lt_irrefl _ this
      obtain ⟨n,n',_,hn',_,hle⟩:=hall v hv fun z=>hvc (z▸hfc)
      have:=hn'.le g2 (q:=fun y=>decide (y∈bitsL (bitB (1+i)) xs)) (decide_eq_false hvc) (decide_eq_true hfc)
      rw [hc] at this
      unfold cntI
      omega
    · obtain ⟨v,hvc⟩:∃v,v∈bitsL (bitB (1+i)) xs:=List.exists_mem_of_length_pos hl.2.1
      have hv:=hl.1.subset hvc
      obtain ⟨n,n',hn,_,hle,_⟩:=hall v hv fun z=>hfc (z▸hvc)
      have:=hn.le g2 (q:=fun y=>decide (y∈bitsL (bitB (1+i)) xs)) (decide_eq_false hfc) (decide_eq_true hvc)
      rw [hc] at this
      unfold cntI
      omega
  omega
theorem into_back {xs:List Str} (q:Str→Bool):∀{ns:List Int} {ps:List (Str×Str)},(∀n∈ns,0≤n∧n≤1)→(∀e∈ps,e.1∈xs∧e.2∈xs)→intoN (xs.filter q) (ns.map fun n=>1 - n) ps=intoN (xs.filter fun x=>!q x) ns ps
  | [],ps,_,_=>by simp [intoN]
  | n::ns,[],_,_=>by simp [intoN]
  | n::ns,e::ps,h,g=>by
    have ih:=into_back (xs:=xs) q (ns:=ns) (ps:=ps) (fun m hm=>h m (List.mem_cons_of_mem _ hm)) fun d hd=>g d (List.mem_cons_of_mem _ hd)
    have hn:=h n List.mem_cons_self
    have ge:=g e List.mem_cons_self
    rw [List.map_cons,intoN,intoN,ih]
    congr 1
    have e1:endO (1 - n) e=endG n e:=by unfold endO endG;split <;> split <;> first | rfl | omega
    have e2:endG (1 - n) e=endO n e:=by unfold endO endG;split <;> split <;> first | rfl | omega
    have i1:endG n e∈xs:=by unfold endG;split;exact ge.2;exact ge.1
    have i2:endO n e∈xs:=by unfold endO;split;exact ge.1;exact ge.2
    rw [e1,e2]
    simp only [List.mem_filter,i1,i2,true_and]
    cases q (endG n e) <;> cases q (endO n e) <;> simp
theorem back_is {xs:List Str} {ps:List (Str×Str)} {ns:List Int} {a b:Str} {n m:Nat} (h01:∀n∈ns,0≤n∧n≤1) (g2:∀e∈ps,e.1∈xs∧e.2∈xs) (h:ApN xs ps ns a b n) (h':ApN xs ps (ns.map fun n=>1 - n) b a m):m=n:=by
  obtain ⟨q,qa,qb,e⟩:=h.at
  obtain ⟨q',qb',qa',e'⟩:=h'.at
  have l1:=h'.le g2 (q:=fun x=>!q x) (by simp [qb]) (by simp [qa])
  have l2:=h.le g2 (q:=fun x=>!q' x) (by simp [qa']) (by simp [qb'])
  rw [into_back _ h01 g2] at l1 e'
  rw [show (fun x=>!(fun x=>!q x) x)=q from funext fun x=>Bool.not_not _] at l1
  omega
theorem turn_is {xs:List Str} {ps:List (Str×Str)} {ns:List Int} {a b:Str} {rs:List (List Nat)} {c:List Str} {w:List Nat} {m:Nat} (nd:xs.Nodup) (hb:b∈xs) (h01:∀n∈ns,0≤n∧n≤1) (hl:ns.length=ps.length) (hne:∀e∈ps,e.1≠e.2) (g2:∀e∈ps,e.1∈xs∧e.2∈xs)
    (h:ApartP xs ps ns a b rs c) (hw:w∈rs) (hl2:(trn (intsN w) ns).length=ps.length) (h':ApN xs ps (trn (intsN w) ns) a b m):m+1=rs.length:=by
  obtain ⟨vs,hp,hnd⟩:=h.pth w hw
  obtain ⟨_,_,hx⟩:=path_turn h01 hne hp hnd
  have hN:ApN xs ps ns a b rs.length:=⟨rs,c,h,rfl⟩
  obtain ⟨q,qa,qb,e⟩:=hN.at
  obtain ⟨q',qa',qb',e'⟩:=h'.at
  have l1:=h'.le g2 qa qb
  have l2:=hN.le g2 qa' qb'
  have m1:=into_move nd g2 hl hl2 hb qa qb hx
  have m2:=into_move nd g2 hl hl2 hb qa' qb' hx
  omega
def KeepT (H H':Hp):Prop:=∀b o,(∀ps,o≠.tbl ps)→H b=some o→H' b=some o
theorem KeepT.of {H H':Hp} (s:Same H H'):KeepT H H':=fun b o _ e=>s b o e
theorem KeepT.trans {H H1 H2:Hp} (a:KeepT H H1) (b:KeepT H1 H2):KeepT H H2:=fun c o n e=>b c o n (a c o n e)
theorem tabKeep {pos:Pos} {qual:Str} {Pt:Addr} {H H':Hp} (t:TabOk pos qual Pt H) (b:But Pt H H'):KeepT H H':=fun c o n e=>b c o (fun z=>by
  obtain ⟨ps,h⟩:=t.tb
  rw [z,h] at e
  cases e
  exact n _ rfl) e
theorem KeepT.tups {H H':Hp} {tv:List V} {ps:List (Str×Str)} (k:KeepT H H') (h:TupsAt H tv ps):TupsAt H' tv ps:=⟨h.1,fun i v e h1 h2=>by
  obtain ⟨t,rfl,z⟩:=h.2 i v e h1 h2
  exact ⟨t,rfl,k _ _ (by simp) z⟩⟩
theorem KeepT.web {C:Addr} {H H':Hp} {o:Addr} {xs:List Str} {ps:List (Str×Str)} (k:KeepT H H') (h:WebAt C H o xs ps):WebAt C H' o xs ps:=by
  obtain ⟨dx,n,m,tv,h1,h2,h3,h4,h5⟩:=h.ex
  exact ⟨⟨dx,n,m,tv,k _ _ (by simp) h1,k _ _ (by simp) h2,k _ _ (by simp) h3,k.tups h4,h5⟩⟩
theorem KeepT.seq {K:PySem.W.Frag} {H H':Hp} {a:Addr} {xs:List V} (k:KeepT H H') (h:SqL K H a xs):SqL K H' a xs:=by
  rcases h with (h | ⟨o,h⟩) | h
  ·exact .inl (.inl (k _ _ (by simp) h))
  ·exact .inl (.inr ⟨o,k _ _ (by simp) h⟩)
  ·exact .inr h
theorem Pot.lst {p:Addr} {H:Hp} (x:Pot H p):∃xs,H p=some (.lst xs):=by
  obtain ⟨u1,u2,u3,u4⟩:=x
  exact ⟨_,u3⟩
theorem tabPot {pos:Pos} {qual:Str} {Pt p:Addr} {H H':Hp} (t:TabOk pos qual Pt H) (x:Pot H p) (b:But p H H'):TabOk pos qual Pt H':=by
  obtain ⟨xs,e⟩:=x.lst
  exact t.but e b
theorem intoN_len (c:List Str):∀(ns:List Int) (ps:List (Str×Str)),intoN c ns ps≤ps.length
  | [],_=>by simp [intoN]
  | _::_,[]=>by simp [intoN]
  | n::ns,e::ps=>by
    have:=intoN_len c ns ps
    simp only [intoN,List.length_cons]
    split <;> omega
def dRs (rs:List (List Nat)):List PyData:=rs.map fun w=>.list (dInts (intsN w))
theorem nats_eq (w:List Nat):(w.map fun n:Nat=>V.int n)=(intsN w).map V.int:=by simp [intsN]
theorem isRs {K:PySem.W.Frag} {G H:Hp}:∀{rs:List (List Nat)} {cs:List V},AllAt (IntsR G) H cs rs→IsAll K H (dRs rs) cs
  | [],cs,h=>by
    have:=h.1
    cases cs with
    | nil=>rfl
    | cons a b=>simp at this
  | w::rs,cs,h=>by
    have hl:=h.1
    cases cs with
    | nil=>simp at hl
    | cons c cs=>
      obtain ⟨t,rfl,_,ht⟩:=h.2 0 c w rfl rfl
      exact ⟨_,_,rfl,⟨_,_,rfl,SqL.of (by rw [← nats_eq];exact ht),is_ints _⟩,isRs (rs:=rs) (cs:=cs) ⟨by simpa using hl,fun i v b h1 h2=>h.2 (i+1) v b (by simpa using h1) (by simpa using h2)⟩⟩
def sp_lmany (C:Addr):Sp:=fun vs H Q _=>∃(o t:Addr) (a b:Str) (xs:List Str) (ps:List (Str×Str)) (ns:List Int),vs=[.ref o,.ref t,.str a,.str b]∧PtIn C H o t xs ps ns∧Pts xs∧Ties xs ps∧a∈xs∧b∈xs∧a≠b∧
  ∀(n:Nat) (H':Hp),ApN xs ps ns a b n→n≤20→Same H H'→Q (.int n) H'
theorem ok_many (T:Txt K mg a):FnOk P w K mg base CX0 9 a.f_many a.fd_many ["_law_made", "_law_row", "_law_a", "_law_b"] (sp_lmany a.C_Web):=by
  refine T.F_many.okL sc_many (fun vs H Q E h=>?_) (fun cdv A outer s H vs Q E hr h=>?_)
  · obtain ⟨o,t,x,y,xs,ps,ns,rfl,_⟩:=h
    rfl
  · obtain ⟨o,t,x,y,xs,ps,ns,rfl,hp,hX,hTs,hx,hy,hxy,q⟩:=h
    refine ⟨_,(pss_one (ps_ret (pe_callB (flenQk (K:=K) rfl) rfl T.nm.len PySem.boot_len (pa_cons (pe_ix (fixQk (K:=K) rfl) (PE.eqv (pe_call (ok_ways_apart (K:=K) T) (hr.mono (by decide)) rfl T.m_ways_apart T.F_ways_apart.kp T.b_ways_apart .nil pass0 (pa_cons (fpv 0) (pa_cons (fpv 1) (pa_cons (fpv 2) (pa_cons (fpv 3) pa_nil))))) (fCall_eq _ _ _)) pe_int (fun _ _=>rfl)) pa_nil)))),?_⟩
    simp -dsimp[cxOf,stC,-Bool.exists_bool,-List.map_take,-Prod.forall,-Prod.exists]
    refine ⟨o,t,x,y,xs,ps,ns,rfl,hp,hX,hTs,hx,hy,hxy,fun r wl cl tr rs c H1 hr0 hw0 hc0 er ew hrs ec hap s1=>?_⟩
    have h20:rs.length≤20:=by
      have h1:=hap.into
      have h2:=hTs.len
      have h3:=intoN_len c ns ps
      omega
    simp -dsimp[cxOf,stC,-Bool.exists_bool,-List.map_take,-Prod.forall,-Prod.exists]
    refine ⟨_,.inr (SqT.of er),_,atI_nat (j:=0) rfl,?_⟩
    simp -dsimp[cxOf,stC,-Bool.exists_bool,-List.map_take,-Prod.forall,-Prod.exists]
    refine ⟨_,.inl (SqL.of ew),?_⟩
    rw [hrs.1]
    exact q rs.length H1 ⟨rs,c,hap,rfl⟩ h20 s1
theorem layRs:∀rs:List (List Nat),PyData.canLayAll0 (dRs rs)=true
  | []=>by simp [dRs,PyData.canLayAll0]
  | w::rs=>by
    have:=layRs rs
    have h:=lay_ints (intsN w)
    simp only [dRs,List.map_cons,PyData.canLayAll0,PyData.canLay0] at this ⊢
    rw [h,this]
    rfl
theorem depRs:∀rs:List (List Nat),PyData.depthAll (dRs rs)≤2
  | []=>by simp [dRs,PyData.depthAll]
  | w::rs=>by
    have:=depRs rs
    have h:=dep_ints (intsN w)
    simp only [dRs,List.map_cons,PyData.depthAll,PyData.depth] at this ⊢
    omega
theorem cut_one {v:V} {vs:List V}:cutV (v::vs) (some 1) none=vs:=by
  unfold cutV
  have e1:HT.sIx (v::vs).length 0 (some 1)=1:=by
    unfold HT.sIx
    simp
    try omega
  have e2:HT.sIx (v::vs).length (v::vs).length none=vs.length+1:=by simp [HT.sIx]
  rw [e1,e2]
  simp
def AllN (R:Str→Nat→Prop) (ys:List Str) (j:Nat) (zs:List Nat):Prop:=zs.length=j∧∀(k:Nat) y n,ys[k]? = some y→zs[k]? = some n→R y n
theorem AllN.nil {R:Str→Nat→Prop} {ys:List Str}:AllN R ys 0 []:=⟨rfl,fun k y n _ h=>by simp at h⟩
theorem AllN.snoc {R:Str→Nat→Prop} {ys:List Str} {j n:Nat} {zs:List Nat} {y:Str} (h:AllN R ys j zs) (hy:ys[j]? = some y) (hr:R y n):AllN R ys (j+1) (zs++[n]):=by
  refine ⟨by simp [h.1],fun k u m h1 h2=>?_⟩
  by_cases hk:k<zs.length
  · rw [List.getElem?_append_left hk] at h2
    exact h.2 k u m h1 h2
  · rw [List.getElem?_append_right (by omega)] at h2
    have hkj:k=j:=by
      have:=(List.getElem?_eq_some_iff.mp h2).1
      simp at this
      have:=h.1
      omega
    subst hkj
    rw [h.1,Nat.sub_self] at h2
    simp at h2
    rw [hy] at h1
    cases h1
    subst h2
    exact hr
def sp_right (C Pt:Addr):Sp:=fun vs H Q _=>∃(t n l g:Addr) (xs:List Str) (tv:List V) (ps:List (Str×Str)) (ns:List Int) (x y:Str),vs=[.ref t,.ref g,.str x,.str y]∧goalsR H t n l xs tv ps∧H g=some (.lst (ns.map V.int))∧ns.length=ps.length∧(∀n∈ns,0≤n∧n≤1)∧2≤xs.length∧x∈xs∧y∈xs∧x≠y∧TabOk lamP lamQ Pt H∧
  ∀H',KeepT H H'→TabOk lamP lamQ Pt H'→Q (.bl true) H'
theorem ok_right (T:Txt K mg a) {c Pt:Addr} (L:LamAt a.fd_times_over base mg c Pt):FnOk P w K mg base CX0 10 a.f_right a.fd_right ["_law_web_here", "_law_row", "_law_a", "_law_b"] (sp_right a.C_Web Pt):=by
  refine T.F_right.okL sc_right (fun vs H Q E h=>?_) (fun cdv A outer s H vs Q E hr h=>?_)
  · obtain ⟨t,n,l,g,xs,tv,ps,ns,x,y,rfl,_⟩:=h
    rfl
  · obtain ⟨t,n,l,g,xs,tv,ps,ns,x,y,rfl,hG,hg,hnl,h01,h2,hx,hy,hxy,hT,q⟩:=h
    refine ⟨_,(pss_cons (ps_set (i:=4) sc_right.nd rfl (Or.inr rfl) (PE.eqv (pe_make T.K_Web (ok_Web_init (K:=K) T) (hr.mono (by decide)) rfl T.m_Web T.b_Web_init .nil pass0 (pa_cons (pe_ix (fixQk (K:=K) rfl) (fpv 0) pe_int (fun _ _=>rfl)) (pa_cons (pe_ix (fixQk (K:=K) rfl) (fpv 0) pe_int (fun _ _=>rfl)) pa_nil))) (fMake_eq _ _ _ _)))
      (pss_cons (ps_set (i:=5) sc_right.nd rfl (Or.inr rfl) (pe_ix (fixQk (K:=K) rfl) (pe_ix (fixQk (K:=K) rfl) (fpv 0) pe_int (fun _ _=>rfl)) pe_int (fun _ _=>rfl)))
      (pss_cons (ps_setComp (i:=6) sc_right.nd rfl rfl rfl rfl (show CompScope (defScope s_right) _ ["_law_web_here", "_law_row", "_law_a", "_law_b", "_law_made", "_law_first", "_law_there", "_law_back", "_law_found", "_law_behind"] ["_law_other"] [4,1,5] ["_law_other", "_law_made", "_law_row", "_law_first"] from ⟨rfl,by decide +kernel,by decide +kernel,rfl,by decide +kernel,by decide +kernel⟩) rfl (PI.eqv (pi_listk (K:=K) rfl (pe_slice (fslLk (K:=K) rfl) (pe_ix (fixQk (K:=K) rfl) (fpv 0) pe_int (fun _ _=>rfl)) (PO.eqv (po_some pe_int) (fPart_eq _)) po_none)) (fiList_eq _ _)) (fun C s H fp pn=>(pg_name (i:=0) (show (["_law_other", "_law_made", "_law_row", "_law_first"]:List Str).Nodup by decide +kernel) rfl (Or.inl rfl))) (fun C s H fp pn=>pts_nil) (fun C s H fp pn=>(PE.eqv (pe_call (ok_many (K:=K) T) (hr.mono (by decide)) rfl T.m_many T.F_many.kp T.b_many .nil pass0 (pa_cons (fpv 1) (pa_cons (fpv 2) (pa_cons (fpv 3) (pa_cons (fpv 0) pa_nil))))) (fCall_eq _ _ _))))
      (pss_cons (ps_setComp (i:=7) sc_right.nd rfl rfl rfl rfl (show CompScope (defScope s_right) _ ["_law_web_here", "_law_row", "_law_a", "_law_b", "_law_made", "_law_first", "_law_there", "_law_back", "_law_found", "_law_behind"] ["_law_other"] [4,1,5] ["_law_other", "_law_made", "_law_row", "_law_first"] from ⟨rfl,by decide +kernel,by decide +kernel,rfl,by decide +kernel,by decide +kernel⟩) rfl (PI.eqv (pi_listk (K:=K) rfl (pe_slice (fslLk (K:=K) rfl) (pe_ix (fixQk (K:=K) rfl) (fpv 0) pe_int (fun _ _=>rfl)) (PO.eqv (po_some pe_int) (fPart_eq _)) po_none)) (fiList_eq _ _)) (fun C s H fp pn=>(pg_name (i:=0) (show (["_law_other", "_law_made", "_law_row", "_law_first"]:List Str).Nodup by decide +kernel) rfl (Or.inl rfl))) (fun C s H fp pn=>pts_nil) (fun C s H fp pn=>(PE.eqv (pe_call (ok_many (K:=K) T) (hr.mono (by decide)) rfl T.m_many T.F_many.kp T.b_many .nil pass0 (pa_cons (fpv 1) (pa_cons (fpv 2) (pa_cons (fpv 0) (pa_cons (fpv 3) pa_nil))))) (fCall_eq _ _ _))))
      (pss_cons (ps_if (fpt_cmpR fop_ne (pe_ix (fixQk (K:=K) rfl) (PE.eqv (pe_call (ok_times_over (L:=L) (K:=K) T) (hr.mono (by decide)) rfl T.m_times_over T.F_times_over.kp T.b_times_over .nil pass0 (pa_cons (fpv 4) (pa_cons (fpv 1) pa_nil))) (fCall_eq _ _ _)) pe_int (fun _ _=>rfl)) (pe_callB (fcall_minL (K:=K) rfl rfl) rfl T.nm.min boot_min (pa_cons (pe_op fop_cat (fpv 6) (fpv 7)) pa_nil)) (nomark _)) (pss_one (ps_ret pe_bl)) pss_nil)
      (pss_cons (ps_set (i:=8) sc_right.nd rfl (Or.inr rfl) (pe_ix (fixQk (K:=K) rfl) (PE.eqv (pe_call (ok_ways_apart (K:=K) T) (hr.mono (by decide)) rfl T.m_ways_apart T.F_ways_apart.kp T.b_ways_apart .nil pass0 (pa_cons (fpv 4) (pa_cons (fpv 1) (pa_cons (fpv 2) (pa_cons (fpv 3) pa_nil))))) (fCall_eq _ _ _)) pe_int (fun _ _=>rfl)))
      (pss_cons (ps_if (fpt_cmpR (fopNeD (K:=K) rfl hr.units) (fpv 8) (pe_lst pa_nil) (nomark _)) (pss_cons (ps_setComp (i:=9) sc_right.nd rfl rfl rfl rfl (show CompScope (defScope s_right) _ ["_law_web_here", "_law_row", "_law_a", "_law_b", "_law_made", "_law_first", "_law_there", "_law_back", "_law_found", "_law_behind"] ["_law_k", "_law_turn"] [8] ["_law_k", "_law_turn", "_law_found"] from ⟨rfl,by decide +kernel,by decide +kernel,rfl,by decide +kernel,by decide +kernel⟩) rfl (PI.eqv (pi_enum (K:=K) rfl rfl T.nm2.enumerate (pa_cons (fpv 1) pa_nil)) (fiEnum_eq _ _)) (fun C s H fp pn=>(PG.eqv (pg_tupk (K:=K) (n:=2) rfl rfl (PGs.eqv (pgs_cons (pg_name (i:=0) (show (["_law_k", "_law_turn", "_law_found"]:List Str).Nodup by decide +kernel) rfl (Or.inl rfl)) (PGs.eqv (pgs_cons (pg_name (i:=1) (show (["_law_k", "_law_turn", "_law_found"]:List Str).Nodup by decide +kernel) rfl (Or.inl rfl)) (PGs.mono pgs_nil fNil_t)) (fCons_eq _ _))) (fCons_eq _ _))) (fTup_eq _ _ _))) (fun C s H fp pn=>pts_nil) (fun C s H fp pn=>(pe_op fop_mod (pe_op fop_add (fpv 1) (pe_callTy fcall_int1 rfl T.nm.int boot_intT (pa_cons (pe_cmpR (finK (K:=K) rfl) (fpv 0) (pe_ix (fixQk (K:=K) rfl) (fpv 2) pe_int (fun _ _=>rfl)) rfl) pa_nil))) pe_int)))
      (pss_one (ps_if (fpt_cmpR fop_ne (PE.eqv (pe_call (ok_many (K:=K) T) (hr.mono (by decide)) rfl T.m_many T.F_many.kp T.b_many .nil pass0 (pa_cons (fpv 4) (pa_cons (fpv 9) (pa_cons (fpv 2) (pa_cons (fpv 3) pa_nil))))) (fCall_eq _ _ _)) (pe_op fop_sub (pe_callB (flenQk (K:=K) rfl) rfl T.nm.len PySem.boot_len (pa_cons (fpv 8) pa_nil)) pe_int) (nomark _)) (pss_one (ps_ret pe_bl)) pss_nil))) pss_nil)
      (pss_one (ps_ret (pe_cmpR fop_eq (PE.eqv (pe_call (ok_many (K:=K) T) (hr.mono (by decide)) rfl T.m_many T.F_many.kp T.b_many .nil pass0 (pa_cons (fpv 4) (pa_cons (pe_comp rfl rfl (show CompScope (defScope s_right) _ ["_law_web_here", "_law_row", "_law_a", "_law_b", "_law_made", "_law_first", "_law_there", "_law_back", "_law_found", "_law_behind"] ["_law_turn"] [] ["_law_turn"] from ⟨rfl,by decide +kernel,by decide +kernel,rfl,by decide +kernel,by decide +kernel⟩) rfl (PI.eqv (pi_listk (K:=K) rfl (fpv 1)) (fiList_eq _ _)) (fun C s H fp pn=>(pg_name (i:=0) (show (["_law_turn"]:List Str).Nodup by decide +kernel) rfl (Or.inl rfl))) (fun C s H fp pn=>pts_nil) (fun C s H fp pn=>(pe_op fop_sub pe_int (fpv 0)))) (pa_cons (fpv 3) (pa_cons (fpv 2) pa_nil))))) (fCall_eq _ _ _)) (pe_callB (flenQk (K:=K) rfl) rfl T.nm.len PySem.boot_len (pa_cons (fpv 8) pa_nil)) (nomark _))))))))))),?_⟩
    have s600:600<sizeLine:=by decide
    have hX:=hG.2.2.2.2.1
    have hTs:=hG.2.2.2.2.2
    have l9:=hX.len
    have h20:=hTs.len
    have g2:∀e∈ps,e.1∈xs∧e.2∈xs:=fun e he=>⟨(hTs.ok e he).1,(hTs.ok e he).2.1⟩
    simp -dsimp[cxOf,stC,-Bool.exists_bool,-List.map_take,-Prod.forall,-Prod.exists]
    refine ⟨_,.inr (SqT.of hG.1),_,atI_nat (j:=0) rfl,_,.inr (SqT.of hG.1),_,atI_nat (j:=1) rfl,fun o dx ho hdx hodx=>?_⟩
    have so:Same H (upd (upd H dx (.own o)) o (.ins a.C_Web dx [])):=fun b u e=>by
      rw [upd_ne (ne_of_none e ho),upd_ne (ne_of_none e hdx)]
      exact e
    have hpr:PairsAt H tv ps:=⟨hG.2.2.2.1.1,fun i v e h1 h2=>by
      obtain ⟨t,rfl,z⟩:=hG.2.2.2.1.2 i v e h1 h2
      exact ⟨t,rfl,.inr z⟩⟩
    refine ⟨o,dx,n,l,tv,xs,ps,rfl,upd_same,.inl (so _ _ hG.2.2.1),hpr.same so,.inl (so _ _ hG.2.1),hX,hTs,fun H1 hW1 hB1=>⟨rfl,?_⟩⟩
    have s1:Same H H1:=fun b u e=>hB1 b u (ne_of_none e ho) (so b u e)
    have hG1:=hG.same s1
    have hg1:=s1 _ _ hg
    obtain ⟨f,ys,rfl⟩:∃f ys,xs=f::ys:=by
      cases xs with
      | nil=>simp at h2
      | cons f ys=>exact ⟨f,ys,rfl⟩
    have hf:f∈f::ys:=List.mem_cons_self
    have nd:=hX.nd
    have hyf:∀v∈ys,v≠f:=fun v hv z=>(List.nodup_cons.mp nd).1 (z▸hv)
    simp -dsimp[cxOf,stC,-Bool.exists_bool,-List.map_take,-Prod.forall,-Prod.exists]
    refine ⟨_,.inr (SqT.of hG1.1),_,atI_nat (j:=0) rfl,_,.inl (SqL.of hG1.2.1),_,atI_nat (j:=0) rfl,?_⟩
    refine ⟨_,.inr (SqT.of hG1.1),_,atI_nat (j:=0) rfl,?_⟩
    simp -dsimp[cxOf,stC,-Bool.exists_bool,-List.map_take,-Prod.forall,-Prod.exists]
    refine ⟨_,SqL.of hG1.2.1,fun p2 hp2=>?_⟩
    rw [List.map_cons,cut_one]
    have s2:Same H1 (upd H1 p2 (.lst (ys.map V.str))):=same_upd hp2
    have e2:upd H1 p2 (.lst (ys.map V.str)) p2=some (.lst (ys.map V.str)):=upd_same
    generalize upd H1 p2 (.lst (ys.map V.str))=H2 at s2 e2 ⊢
    have ptIn:∀{H'},Same H1 H'→PtIn a.C_Web H' o g (f::ys) ps ns:=fun s=>⟨hW1.same s,.inl (s _ _ hg1),h01,hnl,h20⟩
    refine ⟨⟨_,SqL.of e2⟩,fun D hD=>cmL (ys.map V.str) (fun j σ H'=>(∃o',σ=[o',some (.ref o),some (.ref g),some (.str f)])∧(∃zs:List Nat,H' D=some (.lst (zs.map fun n:Nat=>V.int n))∧AllN (ApN (f::ys) ps ns f) ys j zs)∧Same H2 H') ⟨⟨_,rfl⟩,⟨[],upd_same,AllN.nil⟩,same_upd hD⟩ (fun i σ H' _ h=>SqL.of (h.2.2 _ _ e2)) ?_ ?_⟩
    · rintro j v σ H3 hj ⟨⟨o',rfl⟩,⟨zs,hD3,hz⟩,s3⟩
      obtain ⟨u,hu,rfl⟩:=str_at hj
      have hu2:u∈ys:=List.mem_of_getElem? hu
      have hj2:j<ys.length:=(List.getElem?_eq_some_iff.mp hu).1
      have hzl:=hz.1
      simp at l9
      simp -dsimp[cxOf,stC,-Bool.exists_bool,-List.map_take,-Prod.forall,-Prod.exists]
      refine ⟨o,g,f,u,_,ps,ns,rfl,ptIn (s2.trans s3),hX,hTs,hf,List.mem_cons_of_mem _ hu2,fun z=>hyf u hu2 z.symm,fun m H4 hm hm20 s4=>?_⟩
      simp -dsimp[cxOf,stC,-Bool.exists_bool,-List.map_take,-Prod.forall,-Prod.exists]
      refine ⟨_,s4 _ _ hD3,by simp;omega,⟨zs++[m],by rw [upd_same];simp,hz.snoc hu hm⟩,same_upd2 (s3.trans s4) hD⟩
    · rintro σ H3 ⟨⟨o',rfl⟩,⟨zs,hD3,hz⟩,s3⟩
      rw [List.length_map] at hz
      simp -dsimp[cxOf,stC,-Bool.exists_bool,-List.map_take,-Prod.forall,-Prod.exists]
      have S3:=s2.trans s3
      have hG3:=hG1.same S3
      refine ⟨_,.inr (SqT.of hG3.1),_,atI_nat (j:=0) rfl,?_⟩
      simp -dsimp[cxOf,stC,-Bool.exists_bool,-List.map_take,-Prod.forall,-Prod.exists]
      refine ⟨_,SqL.of hG3.2.1,fun p4 hp4=>?_⟩
      rw [List.map_cons,cut_one]
      have s4:Same H3 (upd H3 p4 (.lst (ys.map V.str))):=same_upd hp4
      have e4:upd H3 p4 (.lst (ys.map V.str)) p4=some (.lst (ys.map V.str)):=upd_same
      generalize upd H3 p4 (.lst (ys.map V.str))=H4 at s4 e4 ⊢
      refine ⟨⟨_,SqL.of e4⟩,fun D2 hD2=>cmL (ys.map V.str) (fun j σ H'=>(∃o',σ=[o',some (.ref o),some (.ref g),some (.str f)])∧(∃zs:List Nat,H' D2=some (.lst (zs.map fun n:Nat=>V.int n))∧AllN (fun y=>ApN (f::ys) ps ns y f) ys j zs)∧Same H4 H') ⟨⟨_,rfl⟩,⟨[],upd_same,AllN.nil⟩,same_upd hD2⟩ (fun i σ H' _ h=>SqL.of (h.2.2 _ _ e4)) ?_ ?_⟩
      · rintro j v σ H5 hj ⟨⟨o',rfl⟩,⟨zs2,hD5,hz2⟩,s5⟩
        obtain ⟨u,hu,rfl⟩:=str_at hj
        have hu2:u∈ys:=List.mem_of_getElem? hu
        have hj2:j<ys.length:=(List.getElem?_eq_some_iff.mp hu).1
        have hzl:=hz2.1
        simp at l9
        simp -dsimp[cxOf,stC,-Bool.exists_bool,-List.map_take,-Prod.forall,-Prod.exists]
        refine ⟨o,g,u,f,_,ps,ns,rfl,ptIn (S3.trans (s4.trans s5)),hX,hTs,List.mem_cons_of_mem _ hu2,hf,hyf u hu2,fun m H6 hm hm20 s6=>?_⟩
        simp -dsimp[cxOf,stC,-Bool.exists_bool,-List.map_take,-Prod.forall,-Prod.exists]
        refine ⟨_,s6 _ _ hD5,by simp;omega,⟨zs2++[m],by rw [upd_same];simp,hz2.snoc hu hm⟩,same_upd2 (s5.trans s6) hD2⟩
      · rintro σ H5 ⟨⟨o',rfl⟩,⟨zs2,hD5,hz2⟩,s5⟩
        rw [List.length_map] at hz2
        have S5:=S3.trans (s4.trans s5)
        have hT5:=hT.same (s1.trans S5)
        have eD5:=(s4.trans s5) _ _ hD3
        simp -dsimp[cxOf,stC,-Bool.exists_bool,-List.map_take,-Prod.forall,-Prod.exists]
        refine ⟨o,g,_,ps,ns,rfl,ptIn S5,l9.1,l9.2,hT5,fun h1=>by omega,fun r t1 i H6 hbest hr0 ht0 er et hB6 hT6=>?_⟩
        have k6:=tabKeep hT5 hB6
        simp -dsimp[cxOf,stC,-Bool.exists_bool,-List.map_take,-Prod.forall,-Prod.exists]
        refine ⟨_,.inr (SqT.of er),_,atI_nat (j:=0) rfl,?_⟩
        simp -dsimp[cxOf,stC,-Bool.exists_bool,-List.map_take,-Prod.forall,-Prod.exists]
        have z1:=hz.1
        have z2:=hz2.1
        have l9':ys.length+1≤9:=by simpa using l9.2
        refine ⟨_,k6 _ _ (by simp) eD5,_,k6 _ _ (by simp) hD5,by simp;omega,fun p7 hp7=>?_⟩
        rw [nats_eq,nats_eq,← List.map_append]
        have s7:Same H6 (upd H6 p7 (.lst ((intsN zs++intsN zs2).map V.int))):=same_upd hp7
        have e7:upd H6 p7 (.lst ((intsN zs++intsN zs2).map V.int)) p7=some (.lst ((intsN zs++intsN zs2).map V.int)):=upd_same
        generalize upd H6 p7 (.lst ((intsN zs++intsN zs2).map V.int))=H7 at s7 e7 ⊢
        have yl:1≤ys.length:=by simpa using h2
        refine ⟨_,SqL.of e7,fun z=>?_,fun m hm hmin=>?_⟩
        · have:=congrArg List.length z
          rw [List.length_append] at this
          simp only [intsN,List.length_map,List.length_nil] at this
          omega
        have atz:∀{zz:List Nat} {R:Str→Nat→Prop} {y':Str},AllN R ys ys.length zz→y'∈ys→∃n∈zz,R y' n:=fun {zz R y'} hzz hy'=>by
          obtain ⟨k,hk⟩:=List.getElem?_of_mem hy'
          have hk2:k<zz.length:=by rw [hzz.1];exact (List.getElem?_eq_some_iff.mp hk).1
          exact ⟨zz[k],List.getElem_mem hk2,hzz.2 k _ _ hk (List.getElem?_eq_getElem hk2)⟩
        have zat:∀{zz:List Nat} {R:Str→Nat→Prop} {n:Nat},AllN R ys ys.length zz→n∈zz→∃y'∈ys,R y' n:=fun {zz R n} hzz hn=>by
          obtain ⟨k,hk⟩:=List.getElem?_of_mem hn
          have hk2:k<ys.length:=by rw [← hzz.1];exact (List.getElem?_eq_some_iff.mp hk).1
          exact ⟨ys[k],List.getElem_mem hk2,hzz.2 k _ _ (List.getElem?_eq_getElem hk2) hk⟩
        have em:=times_is (i:=i) (m:=m) nd l9.2 g2 hf hbest (by
          rcases List.mem_append.mp hm with hm | hm
          · obtain ⟨n,hn,rfl⟩:=List.mem_map.mp hm
            obtain ⟨y',hy',h'⟩:=zat hz hn
            exact ⟨y',List.mem_cons_of_mem _ hy',hyf y' hy',n,rfl,.inl h'⟩
          · obtain ⟨n,hn,rfl⟩:=List.mem_map.mp hm
            obtain ⟨y',hy',h'⟩:=zat hz2 hn
            exact ⟨y',List.mem_cons_of_mem _ hy',hyf y' hy',n,rfl,.inr h'⟩) (fun v hv hvf=>by
          have hv':v∈ys:=(List.mem_cons.mp hv).resolve_left hvf
          obtain ⟨n,hn,h'⟩:=atz hz hv'
          obtain ⟨n',hn',h''⟩:=atz hz2 hv'
          exact ⟨n,n',h',h'',hmin _ (List.mem_append_left _ (List.mem_map_of_mem hn)),hmin _ (List.mem_append_right _ (List.mem_map_of_mem hn'))⟩)
        refine ⟨false,by simpa using em,tBr.neg rfl ?_⟩
        have k7:=k6.trans (KeepT.of s7)
        have hT7:=hT6.same s7
        have hW7:=k7.web (hW1.same S5)
        have hg7:H7 g=some (.lst (ns.map V.int)):=k7 _ _ (by simp) (S5 _ _ hg1)
        have K7:KeepT H H7:=(KeepT.of (s1.trans S5)).trans k7
        simp -dsimp[cxOf,stC,-Bool.exists_bool,-List.map_take,-Prod.forall,-Prod.exists]
        refine ⟨o,g,x,y,_,ps,ns,rfl,⟨hW7,.inl hg7,h01,hnl,h20⟩,hX,hTs,hx,hy,hxy,fun r8 wl cl tr rs c8 H8 hr80 hw80 hc80 er8 ew8 hrs8 ec8 hap s8=>?_⟩
        simp -dsimp[cxOf,stC,-Bool.exists_bool,-List.map_take,-Prod.forall,-Prod.exists]
        refine ⟨_,.inr (SqT.of er8),_,atI_nat (j:=0) rfl,?_⟩
        intro p9 hp9
        have s9:Same H8 (upd H8 p9 (.lst [])):=same_upd hp9
        have e9:upd H8 p9 (.lst []) p9=some (.lst []):=upd_same
        generalize upd H8 p9 (.lst [])=H9 at s9 e9 ⊢
        have S9:=s8.trans s9
        have ew9:=s9 _ _ ew8
        have hrs9:=ints_same hrs8 s9
        have tl:=hrs9.1
        have hap0:ApN (f::ys) ps ns x y rs.length:=⟨rs,c8,hap,rfl⟩
        refine ⟨.list (dRs rs),⟨_,_,rfl,SqL.of ew9,isRs hrs9⟩,.list [],⟨_,_,rfl,SqL.of e9,rfl⟩,by simpa [PyData.canLay0] using layRs rs,rfl,by have:=depRs rs;simp only [PyData.depth];omega,!decide (rs=[]),?_,?_⟩
        ·cases rs <;> simp [PyData.eqv,dRs,PyData.eqvAll]
        · refine tBr_join (fun σ H'=>(∃o9,σ=[some (.ref t),some (.ref g),some (.str x),some (.str y),some (.ref o),some (.str f),some (.ref D),some (.ref D2),some (.ref wl),o9])∧Same H9 H') ?_ ?_
          · rintro σ H10 ⟨⟨o9,rfl⟩,s10⟩
            have S10:=S9.trans s10
            have hg10:=S10 _ _ hg7
            simp -dsimp[cxOf,stC,-Bool.exists_bool,-List.map_take,-Prod.forall,-Prod.exists]
            refine ⟨⟨_,SqL.of hg10⟩,fun D3 hD3=>cmL (ns.map V.int) (fun j σ H'=>(∃o',σ=[o'])∧H' D3=some (.lst (((ns.take j).map fun n=>1 - n).map V.int))∧Same H10 H') ⟨⟨_,rfl⟩,upd_same,same_upd hD3⟩ (fun i σ H' _ h=>SqL.of (h.2.2 _ _ hg10)) ?_ ?_⟩
            · rintro j v σ H11 hj ⟨⟨o',rfl⟩,hD11,s11⟩
              obtain ⟨m',hm',rfl⟩:=int_at hj
              have hj2:j<ns.length:=(List.getElem?_eq_some_iff.mp hm').1
              rw [take_one hm']
              simp -dsimp[cxOf,stC,-Bool.exists_bool,-List.map_take,-Prod.forall,-Prod.exists]
              refine ⟨_,hD11,by simp;omega,by rw [upd_same];simp,same_upd2 s11 hD3⟩
            · rintro σ H11 ⟨⟨o',rfl⟩,hD11,s11⟩
              rw [List.length_map,List.take_length] at hD11
              have S11:=S10.trans s11
              simp -dsimp[cxOf,stC,-Bool.exists_bool,-List.map_take,-Prod.forall,-Prod.exists]
              refine ⟨o,D3,y,x,_,ps,_,rfl,⟨hW7.same S11,.inl hD11,fun n' hn'=>?_,by rw [List.length_map];exact hnl,h20⟩,hX,hTs,hy,hx,fun z=>hxy z.symm,fun m' H12 hm' hm20 s12=>?_⟩
              · obtain ⟨n'',h'',rfl⟩:=List.mem_map.mp hn'
                have:=h01 n'' h''
                omega
              · have eb:=back_is h01 g2 hap0 hm'
                subst eb
                have S12:=S11.trans s12
                simp -dsimp[cxOf,stC,-Bool.exists_bool,-List.map_take,-Prod.forall,-Prod.exists]
                refine ⟨_,.inl (SqL.of ((s10.trans (s11.trans s12)) _ _ ew9)),?_⟩
                rw [tl]
                simp -dsimp[cxOf,stC,-Bool.exists_bool,-List.map_take,-Prod.forall,-Prod.exists]
                exact q H12 (K7.trans (KeepT.of S12)) (hT7.same S12)
          · intro N hN
            refine tBr.of (fun hb=>?_) (fun hb=>?_)
            · obtain ⟨w0,rs',hrs'⟩:∃w0 rs',rs=w0::rs':=by
                cases rs with
                | nil=>simp at hb
                | cons w0 rs'=>exact ⟨w0,rs',rfl⟩
              have hw0:w0∈rs:=by rw [hrs'];exact List.mem_cons_self
              have htr0:0<tr.length:=by rw [tl,hrs'];simp
              obtain ⟨w1,hw1,wt,hwt,hwt0,ewt⟩:=AllAt.at hrs9 (List.getElem?_eq_getElem htr0)
              have hww:w1=w0:=by
                rw [hrs'] at hw1
                simpa using hw1.symm
              subst hww
              have hg9:=S9 _ _ hg7
              simp -dsimp[cxOf,stC,-Bool.exists_bool,-List.map_take,-Prod.forall,-Prod.exists]
              refine ⟨⟨_,SqL.of hg9⟩,fun D3 hD3=>cmE (ns.map V.int) (fun j σ H'=>(∃o0 o1,σ=[o0,o1,some (.ref wl)])∧H' D3=some (.lst (((trn (intsN w1) ns).take j).map V.int))∧Same H9 H') ⟨⟨_,_,rfl⟩,by rw [upd_same];simp,same_upd hD3⟩ (fun i σ H' _ h=>SqL.of (h.2.2 _ _ hg9)) ?_ ?_⟩
              · rintro j v tt σ H10 hj htt ⟨⟨o0,o1,rfl⟩,hD10,s10⟩
                obtain ⟨m',hm',rfl⟩:=int_at hj
                have hj2:j<ns.length:=(List.getElem?_eq_some_iff.mp hm').1
                have hm01:=h01 m' (List.mem_of_getElem? hm')
                have st:Same H10 (upd H10 tt (.tup [.int j,.int m'])):=same_upd htt
                have et:upd H10 tt (.tup [.int j,.int m']) tt=some (.tup [.int j,.int m']):=upd_same
                generalize upd H10 tt (.tup [.int j,.int m'])=H11 at st et ⊢
                have S11:=s10.trans st
                have tj:=trn_at (ks:=intsN w1) hm'
                rw [take_one tj]
                simp -dsimp[cxOf,stC,-Bool.exists_bool,-List.map_take,-Prod.forall,-Prod.exists]
                refine ⟨_,SqT.of et,rfl,?_⟩
                simp -dsimp[cxOf,stC,-Bool.exists_bool,-List.map_take,-Prod.forall,-Prod.exists]
                refine ⟨_,.inl (SqL.of (S11 _ _ ew9)),_,atI_nat (j:=0) (by rw [List.getElem?_eq_getElem htr0,hwt]),?_⟩
                simp -dsimp[cxOf,stC,-Bool.exists_bool,-List.map_take,-Prod.forall,-Prod.exists]
                refine ⟨_,.inl (SqL.of (S11 _ _ ewt)),rfl,fun z hz=>?_,_,st _ _ hD10,by simp [trn_len];omega,?_,same_upd2 S11 hD3⟩
                · obtain ⟨k',_,rfl⟩:=List.mem_map.mp hz
                  rfl
                · rw [upd_same,inV_nat]
                  have hmem:((j:Int)∈intsN w1)↔j∈w1:=⟨fun z=>by
                    obtain ⟨k',hk',e'⟩:=List.mem_map.mp z
                    have:k'=j:=by omega
                    exact this▸hk',fun z=>List.mem_map.mpr ⟨j,z,rfl⟩⟩
                  by_cases hjw:j∈w1
                  ·rw [if_pos (decide_eq_true hjw),if_pos (hmem.mpr hjw),show (m'+1) % 2=1 - m' by omega]
                  ·rw [if_neg (by simpa using hjw),if_neg fun z=>hjw (hmem.mp z),show (m'+0) % 2=m' by omega]
              · rintro σ H10 ⟨⟨o0,o1,rfl⟩,hD10,s10⟩
                rw [List.length_map,← trn_len (intsN w1) ns,List.take_length] at hD10
                have hlt:(trn (intsN w1) ns).length=ps.length:=by rw [trn_len,hnl]
                simp -dsimp[cxOf,stC,-Bool.exists_bool,-List.map_take,-Prod.forall,-Prod.exists]
                refine ⟨o,D3,x,y,_,ps,_,rfl,⟨hW7.same (S9.trans s10),.inl hD10,fun n' hn'=>?_,hlt,h20⟩,hX,hTs,hx,hy,hxy,fun m' H11 hm' hm20 s11=>?_⟩
                ·exact trn_01 h01 n' hn'
                · have et:=turn_is nd hy h01 hnl (fun e he=>(hTs.ok e he).2.2) g2 hap hw0 hlt hm'
                  simp -dsimp[cxOf,stC,-Bool.exists_bool,-List.map_take,-Prod.forall,-Prod.exists]
                  refine ⟨_,.inl (SqL.of ((s10.trans s11) _ _ ew9)),false,?_,tBr.neg rfl ?_⟩
                  · rw [tl,← et]
                    simp
                  · simp -dsimp[cxOf,stC,-Bool.exists_bool,-List.map_take,-Prod.forall,-Prod.exists]
                    exact hN _ _ ⟨⟨_,rfl⟩,s10.trans s11⟩
            · simp -dsimp[cxOf,stC,-Bool.exists_bool,-List.map_take,-Prod.forall,-Prod.exists]
              exact hN _ _ ⟨⟨_,rfl⟩,Same.refl _⟩
def sp_law (K:PySem.W.Frag) (Pt:Addr):Sp:=fun vs H Q _=>∃(l:Addr) (ns:List Int),vs=[.ref l]∧SqL K H l (ns.map V.int)∧ns.length≤63∧TabOk lamP lamQ Pt H∧∀H',Q (.bl true) H'
theorem ok_law (T:Txt K mg a) {c Pt:Addr} (L:LamAt a.fd_times_over base mg c Pt):FnOk P w K mg base CX0 11 a.f_law a.fd_law ["_law_script"] (sp_law K Pt):=by
  refine T.F_law.okL sc_law (fun vs H Q E h=>?_) (fun cdv A outer s H vs Q E hr h=>?_)
  · obtain ⟨l,ns,rfl,_⟩:=h
    rfl
  · obtain ⟨sl,zs,rfl,hS,hlen,hT,q⟩:=h
    refine ⟨_,(pss_cons (ps_for PassesOwn.never rfl (PI.eqv (pi_range1 rfl T.nm.range (pa_cons (pe_callB (fcall_max2 rfl) rfl T.nm.max boot_max (pa_cons pe_int (pa_cons (pe_callB (fcall_min2 rfl) rfl T.nm.min boot_min (pa_cons pe_int (pa_cons (pe_callB (flenQk (K:=K) rfl) rfl T.nm.len PySem.boot_len (pa_cons (fpv 0) pa_nil)) pa_nil))) pa_nil))) pa_nil)) (fiRng1_eq _)) (pg_name (i:=1) sc_law.nd rfl (Or.inl rfl))
      (pss_cons (ps_set (i:=2) sc_law.nd rfl (Or.inl rfl) (PE.eqv (pe_call (ok_pot (K:=K) T) (hr.mono (by decide)) rfl T.m_pot T.F_pot.kp T.b_pot .nil pass0 (pa_cons (fpv 0) (pa_cons (fpv 1) pa_nil))) (fCall_eq _ _ _)))
      (pss_cons (ps_set (i:=3) sc_law.nd rfl (Or.inl rfl) (PE.eqv (pe_call (ok_web (K:=K) T) (hr.mono (by decide)) rfl T.m_web T.F_web.kp T.b_web .nil pass0 (pa_cons (fpv 2) (pa_cons pe_int (pa_cons pe_int pa_nil)))) (fCall_eq _ _ _)))
      (pss_one (ps_if (fpt_cmpR fop_gt (pe_callB (flenQk (K:=K) rfl) rfl T.nm.len PySem.boot_len (pa_cons (pe_ix (fixQk (K:=K) rfl) (fpv 3) pe_int (fun _ _=>rfl)) pa_nil)) pe_int (nomark _)) (pss_cons (ps_set (i:=4) sc_law.nd rfl (Or.inl rfl) (PE.eqv (pe_call (ok_drawn (K:=K) T) (hr.mono (by decide)) rfl T.m_drawn T.F_drawn.kp T.b_drawn .nil pass0 (pa_cons (fpv 2) (pa_cons (fpv 3) pa_nil))) (fCall_eq _ _ _)))
      (pss_cons (ps_asg (PE.eqv (pe_call (ok_tie (K:=K) T) (hr.mono (by decide)) rfl T.m_tie T.F_tie.kp T.b_tie .nil pass0 (pa_cons (fpv 2) (pa_cons (pe_ix (fixQk (K:=K) rfl) (fpv 3) pe_int (fun _ _=>rfl)) pa_nil))) (fCall_eq _ _ _)) (PG.eqv (pg_tupk (K:=K) (n:=2) rfl rfl (PGs.eqv (pgs_cons (pg_name (i:=5) sc_law.nd rfl (Or.inl rfl)) (PGs.eqv (pgs_cons (pg_name (i:=6) sc_law.nd rfl (Or.inl rfl)) (PGs.mono pgs_nil fNil_t)) (fCons_eq _ _))) (fCons_eq _ _))) (fTup_eq _ _ _)))
      (pss_one (ps_if (pt_not (fpt_val (PE.eqv (pe_call (ok_right (L:=L) (K:=K) T) (hr.mono (by decide)) rfl T.m_right T.F_right.kp T.b_right .nil pass0 (pa_cons (fpv 3) (pa_cons (fpv 4) (pa_cons (fpv 5) (pa_cons (fpv 6) pa_nil))))) (fCall_eq _ _ _)))) (pss_one (ps_ret pe_bl)) pss_nil)))) pss_nil)))))
      (pss_one (ps_ret pe_bl))),?_⟩
    simp -dsimp[cxOf,stC,-Bool.exists_bool,-List.map_take,-Prod.forall,-Prod.exists]
    refine ⟨_,.inl hS,?_⟩
    simp only [List.length_map]
    obtain ⟨m,hm,hm6⟩:∃m:Nat,(if 1<if (zs.length:Int)<4 then (zs.length:Int) else 4 then if (zs.length:Int)<4 then (zs.length:Int) else 4 else 1)=m∧m≤4:=by
      by_cases h1:(zs.length:Int)<4
      · rw [if_pos h1]
        by_cases h2:1<(zs.length:Int)
        ·exact ⟨zs.length,by rw [if_pos h2],by omega⟩
        ·exact ⟨1,by rw [if_neg h2];rfl,by decide⟩
      · rw [if_neg h1]
        exact ⟨4,rfl,by decide⟩
    simp only [hm]
    refine ⟨by omega,by omega,frR (fun i σ H'=>(∃o1 o2 o3 o4 o5 o6,σ=[some (.ref sl),o1,o2,o3,o4,o5,o6])∧KeepT H H'∧TabOk lamP lamQ Pt H') ⟨⟨_,_,_,_,_,_,rfl⟩,KeepT.of (Same.refl _),hT⟩ ?_ ?_⟩
    · rintro i σ H1 hi ⟨⟨o1,o2,o3,o4,o5,o6,rfl⟩,k1,hT1⟩
      simp -dsimp[cxOf,stC,-Bool.exists_bool,-List.map_take,-Prod.forall,-Prod.exists]
      refine ⟨sl,zs,i,rfl,k1.seq hS,by simp at hi;omega,fun p H2 hp0 hP2 hB2=>?_⟩
      have s2:Same H1 H2:=fun b o e=>hB2 b o (ne_of_none e hp0) e
      have hT2:=hT1.same s2
      simp -dsimp[cxOf,stC,-Bool.exists_bool,-List.map_take,-Prod.forall,-Prod.exists]
      refine ⟨p,6,14,rfl,hP2,by decide,by decide,by decide,by decide,fun t n l xs tv ps H3 ht0 hn0 hl0 ht1 hn1 hl1 htv1 hX hTs _ _ hP3 hB3=>?_⟩
      have hT3:=tabPot hT2 hP2 hB3
      have np:n≠p:=(hP2.ne hn0).symm
      have lp:l≠p:=(hP2.ne hl0).symm
      have tp:t≠p:=(hP2.ne ht0).symm
      have l9:=hX.len
      have h20:=hTs.len
      have tl:=htv1.1
      have keep:∀{H4 H5},But p H3 H4→KeepT H4 H5→KeepT H H5:=fun b k c o n e=>k c o n (b c o (ne_of_none (k1 _ _ n e) hp0) (hB3 c o (ne_of_none (k1 _ _ n e) hp0) (s2 c o (k1 _ _ n e))))
      have g2:∀e∈ps,e.1∈xs∧e.2∈xs:=fun e he=>⟨(hTs.ok e he).1,(hTs.ok e he).2.1⟩
      have hG3:goalsR H3 t n l xs tv ps:=⟨ht1,hn1,hl1,htv1,hX,hTs⟩
      simp -dsimp[cxOf,stC,-Bool.exists_bool,-List.map_take,-Prod.forall,-Prod.exists]
      refine ⟨_,.inr (SqT.of ht1),_,atI_nat (j:=0) rfl,?_⟩
      simp -dsimp[cxOf,stC,-Bool.exists_bool,-List.map_take,-Prod.forall,-Prod.exists]
      refine ⟨_,.inl (SqL.of hn1),?_⟩
      rw [List.length_map]
      refine tBr.of (fun h=>?_) (fun h=>?_)
      · have hx2:1<xs.length:=by have:=of_decide_eq_true h;omega
        simp -dsimp[cxOf,stC,-Bool.exists_bool,-List.map_take,-Prod.forall,-Prod.exists]
        refine ⟨p,t,n,l,xs,tv,ps,rfl,hP3,ht1,hn1,hl1,htv1,g2,np,lp,l9.2,by omega,fun rw ns H4 hrw erw hrl h01 hP4 hB4=>?_⟩
        have rwp:rw≠p:=(hP3.ne hrw).symm
        have hG4:=hG3.but hP3 hB4 np lp
        have hT4:=tabPot hT3 hP3 hB4
        simp -dsimp[cxOf,stC,-Bool.exists_bool,-List.map_take,-Prod.forall,-Prod.exists]
        refine ⟨_,.inr (SqT.of hG4.1),_,atI_nat (j:=0) rfl,p,n,xs,rfl,hP4,np,hG4.2.1,by omega,l9.2,hX.nd,fun t5 x y H5 ht5 e5 hx hy hxy hP5 hB5=>?_⟩
        have hG5:=hG4.but hP4 hB5 np lp
        have hT5:=tabPot hT4 hP4 hB5
        have erw5:=hB5 _ _ rwp erw
        simp -dsimp[cxOf,stC,-Bool.exists_bool,-List.map_take,-Prod.forall,-Prod.exists]
        refine ⟨_,SqT.of e5,rfl,?_⟩
        simp -dsimp[cxOf,stC,-Bool.exists_bool,-List.map_take,-Prod.forall,-Prod.exists]
        refine ⟨t,n,l,rw,xs,tv,ps,ns,x,y,rfl,hG5,erw5,by omega,h01,by omega,hx,hy,hxy,hT5,fun H6 k6 hT6=>?_⟩
        simp -dsimp[cxOf,stC,-Bool.exists_bool,-List.map_take,-Prod.forall,-Prod.exists]
        exact ⟨keep (hB4.trans hB5) k6,hT6⟩
      · simp -dsimp[cxOf,stC,-Bool.exists_bool,-List.map_take,-Prod.forall,-Prod.exists]
        exact ⟨keep (But.refl _ _) (KeepT.of (Same.refl _)),hT3⟩
    · rintro σ H1 ⟨⟨o1,o2,o3,o4,o5,o6,rfl⟩,s1⟩
      simp -dsimp[cxOf,stC,-Bool.exists_bool,-List.map_take,-Prod.forall,-Prod.exists]
      exact q _
end K74
namespace K74
open PySem L2
theorem unc {α:Type} {n:Nat} (l:List α) (h:l.length=n+1):∃a r,l=a::r:=by
  cases l with
  | nil=>cases h
  | cons a r=>exact ⟨a,r,rfl⟩
theorem byLen1 {fd:FuncData} {ps:List Str} (h:∀v0,bindArgs fd {pos:=[v0]}=pure (ps.zip [v0])):∀us:List Value,us.length=1→bindArgs fd {pos:=us}=pure (ps.zip us):=by
  intro us hl
  obtain ⟨v0,us,rfl⟩:=unc us hl
  replace hl:=Nat.succ.inj hl
  obtain rfl:=List.eq_nil_of_length_eq_zero hl
  exact h v0
theorem byLen2 {fd:FuncData} {ps:List Str} (h:∀v0 v1,bindArgs fd {pos:=[v0,v1]}=pure (ps.zip [v0,v1])):∀us:List Value,us.length=2→bindArgs fd {pos:=us}=pure (ps.zip us):=by
  intro us hl
  obtain ⟨v0,us,rfl⟩:=unc us hl
  replace hl:=Nat.succ.inj hl
  obtain ⟨v1,us,rfl⟩:=unc us hl
  replace hl:=Nat.succ.inj hl
  obtain rfl:=List.eq_nil_of_length_eq_zero hl
  exact h v0 v1
theorem byLen3 {fd:FuncData} {ps:List Str} (h:∀v0 v1 v2,bindArgs fd {pos:=[v0,v1,v2]}=pure (ps.zip [v0,v1,v2])):∀us:List Value,us.length=3→bindArgs fd {pos:=us}=pure (ps.zip us):=by
  intro us hl
  obtain ⟨v0,us,rfl⟩:=unc us hl
  replace hl:=Nat.succ.inj hl
  obtain ⟨v1,us,rfl⟩:=unc us hl
  replace hl:=Nat.succ.inj hl
  obtain ⟨v2,us,rfl⟩:=unc us hl
  replace hl:=Nat.succ.inj hl
  obtain rfl:=List.eq_nil_of_length_eq_zero hl
  exact h v0 v1 v2
theorem byLen4 {fd:FuncData} {ps:List Str} (h:∀v0 v1 v2 v3,bindArgs fd {pos:=[v0,v1,v2,v3]}=pure (ps.zip [v0,v1,v2,v3])):∀us:List Value,us.length=4→bindArgs fd {pos:=us}=pure (ps.zip us):=by
  intro us hl
  obtain ⟨v0,us,rfl⟩:=unc us hl
  replace hl:=Nat.succ.inj hl
  obtain ⟨v1,us,rfl⟩:=unc us hl
  replace hl:=Nat.succ.inj hl
  obtain ⟨v2,us,rfl⟩:=unc us hl
  replace hl:=Nat.succ.inj hl
  obtain ⟨v3,us,rfl⟩:=unc us hl
  replace hl:=Nat.succ.inj hl
  obtain rfl:=List.eq_nil_of_length_eq_zero hl
  exact h v0 v1 v2 v3
theorem all_mk {l:PySem.W.OpenLaw} {w:World} {K:PySem.W.Frag} {h:Heap} {mg:Str→Option Value} {fa C_Web f_steps_along f_ways_along f_found_along f_is_list f_is_whole f_is_name f_are_points f_is_tie f_are_ties f_Web_init f_Web_points f_Web_ties f_Web_many f_is_point f_is_number f_are_numbers f_is_lead f_is_pointing f_sure_of_pointing f_arrows f_unlike_steps f_steps_into f_turned f_sure_of_point f_way f_reached f_sure_of_two_points f_turned_till_none_leads f_ways_taken f_ways_apart f_all_parts f_all_lots f_times_over f_pot f_take f_names f_mixed f_tie f_web f_drawn f_many f_right f_law:Addr} (X:K.In h) (G:h.Ns mainGlobals mg) (hfa:mg "law" = some (.ref fa))
    {od1 an1 od2 an2 od3 an3 od4 an4 od5 an5 od6 an6 od7 an7 od8 an8 od9 an9 od10 an10 od11 an11 od12 an12 od13 an13 od14 an14 od15 an15 od16 an16 od17 an17 od18 an18 od19 an19 od20 an20 od21 an21 od22 an22 od23 an23 od24 an24 od25 an25 od26 an26 od27 an27 od28 an28 od29 an29 od30 an30 od31 an31 od32 an32 od33 an33 od34 an34 od35 an35 od36 an36 od37 an37 od38 an38 od39 an39 od40 an40 od41 an41 od42 an42 od43 an43:Option Addr} {sl1 sl2 sl3 sl4 sl5 sl6 sl7 sl8 sl9 sl10 sl11 sl12 sl13 sl14 sl15 sl16 sl17 sl18 sl19 sl20 sl21 sl22 sl23 sl24 sl25 sl26 sl27 sl28 sl29 sl30 sl31 sl32 sl33 sl34 sl35 sl36 sl37 sl38 sl39 sl40 sl41 sl42 sl43:Array (Option Value)} {oc1 kV1 dc1 pm1 cd1 ct1 oc2 kV2 dc2 pm2 cd2 ct2 oc3 kV3 dc3 pm3 cd3 ct3 oc4 kV4 dc4 pm4 cd4 ct4 oc5 kV5 dc5 pm5 cd5 ct5 oc6 kV6 dc6 pm6 cd6 ct6 oc7 kV7 dc7 pm7 cd7 ct7 oc8 kV8 dc8 pm8 cd8 ct8 oc9 kV9 dc9 pm9 cd9 ct9 oc10 kV10 dc10 pm10 cd10 ct10 oc11 kV11 dc11 pm11 cd11 ct11 oc12 kV12 dc12 pm12 cd12 ct12 oc13 kV13 dc13 pm13 cd13 ct13 oc14 kV14 dc14 pm14 cd14 ct14 oc15 kV15 dc15 pm15 cd15 ct15 oc16 kV16 dc16 pm16 cd16 ct16 oc17 kV17 dc17 pm17 cd17 ct17 oc18 kV18 dc18 pm18 cd18 ct18 oc19 kV19 dc19 pm19 cd19 ct19 oc20 kV20 dc20 pm20 cd20 ct20 oc21 kV21 dc21 pm21 cd21 ct21 oc22 kV22 dc22 pm22 cd22 ct22 oc23 kV23 dc23 pm23 cd23 ct23 oc24 kV24 dc24 pm24 cd24 ct24 oc25 kV25 dc25 pm25 cd25 ct25 oc26 kV26 dc26 pm26 cd26 ct26 oc27 kV27 dc27 pm27 cd27 ct27 oc28 kV28 dc28 pm28 cd28 ct28 oc29 kV29 dc29 pm29 cd29 ct29 oc30 kV30 dc30 pm30 cd30 ct30 oc31 kV31 dc31 pm31 cd31 ct31 oc32 kV32 dc32 pm32 cd32 ct32 oc33 kV33 dc33 pm33 cd33 ct33 oc34 kV34 dc34 pm34 cd34 ct34 oc35 kV35 dc35 pm35 cd35 ct35 oc36 kV36 dc36 pm36 cd36 ct36 oc37 kV37 dc37 pm37 cd37 ct37 oc38 kV38 dc38 pm38 cd38 ct38 oc39 kV39 dc39 pm39 cd39 ct39 oc40 kV40 dc40 pm40 cd40 ct40 oc41 kV41 dc41 pm41 cd41 ct41 oc42 kV42 dc42 pm42 cd42 ct42 oc43 kV43 dc43 pm43 cd43 ct43:Value} {tk_LETTERS tk_MOST_LETTERS tk_MOST_POINTS tk_MOST_TIES:Tok}
    (aC_Web:PySem.W.nsIn K mainGlobals "Web" = some (some (.ref C_Web)))
    (a1:PySem.W.nsIn K mainGlobals "steps_along" = some (some (.ref f_steps_along)))
    (l1:K.lookup f_steps_along=some ⟨oc1,od1,.func (PySem.W.fnOf "steps_along" "steps_along" (defArgs s_steps_along) (defBody s_steps_along) (defScope s_steps_along) .none kV1 dc1 pm1 an1 cd1 ct1),sl1⟩) (c1:PySem.W.codeIn K cd1 "steps_along" = true) (k1:PySem.W.keepIn K (.ref f_steps_along)=true)
    (a2:PySem.W.nsIn K mainGlobals "ways_along" = some (some (.ref f_ways_along)))
    (l2:K.lookup f_ways_along=some ⟨oc2,od2,.func (PySem.W.fnOf "ways_along" "ways_along" (defArgs s_ways_along) (defBody s_ways_along) (defScope s_ways_along) .none kV2 dc2 pm2 an2 cd2 ct2),sl2⟩) (c2:PySem.W.codeIn K cd2 "ways_along" = true) (k2:PySem.W.keepIn K (.ref f_ways_along)=true)
    (a3:PySem.W.nsIn K mainGlobals "found_along" = some (some (.ref f_found_along)))
    (l3:K.lookup f_found_along=some ⟨oc3,od3,.func (PySem.W.fnOf "found_along" "found_along" (defArgs s_found_along) (defBody s_found_along) (defScope s_found_along) .none kV3 dc3 pm3 an3 cd3 ct3),sl3⟩) (c3:PySem.W.codeIn K cd3 "found_along" = true) (k3:PySem.W.keepIn K (.ref f_found_along)=true)
    (a4:PySem.W.nsIn K mainGlobals "is_list" = some (some (.ref f_is_list)))
    (l4:K.lookup f_is_list=some ⟨oc4,od4,.func (PySem.W.fnOf "is_list" "is_list" (defArgs s_is_list) (defBody s_is_list) (defScope s_is_list) .none kV4 dc4 pm4 an4 cd4 ct4),sl4⟩) (c4:PySem.W.codeIn K cd4 "is_list" = true) (k4:PySem.W.keepIn K (.ref f_is_list)=true)
    (a5:PySem.W.nsIn K mainGlobals "is_whole" = some (some (.ref f_is_whole)))
    (l5:K.lookup f_is_whole=some ⟨oc5,od5,.func (PySem.W.fnOf "is_whole" "is_whole" (defArgs s_is_whole) (defBody s_is_whole) (defScope s_is_whole) .none kV5 dc5 pm5 an5 cd5 ct5),sl5⟩) (c5:PySem.W.codeIn K cd5 "is_whole" = true) (k5:PySem.W.keepIn K (.ref f_is_whole)=true)
    (a6:PySem.W.nsIn K mainGlobals "is_name" = some (some (.ref f_is_name)))
    (l6:K.lookup f_is_name=some ⟨oc6,od6,.func (PySem.W.fnOf "is_name" "is_name" (defArgs s_is_name) (defBody s_is_name) (defScope s_is_name) .none kV6 dc6 pm6 an6 cd6 ct6),sl6⟩) (c6:PySem.W.codeIn K cd6 "is_name" = true) (k6:PySem.W.keepIn K (.ref f_is_name)=true)
    (a7:PySem.W.nsIn K mainGlobals "are_points" = some (some (.ref f_are_points)))
    (l7:K.lookup f_are_points=some ⟨oc7,od7,.func (PySem.W.fnOf "are_points" "are_points" (defArgs s_are_points) (defBody s_are_points) (defScope s_are_points) .none kV7 dc7 pm7 an7 cd7 ct7),sl7⟩) (c7:PySem.W.codeIn K cd7 "are_points" = true) (k7:PySem.W.keepIn K (.ref f_are_points)=true)
    (a8:PySem.W.nsIn K mainGlobals "is_tie" = some (some (.ref f_is_tie)))
    (l8:K.lookup f_is_tie=some ⟨oc8,od8,.func (PySem.W.fnOf "is_tie" "is_tie" (defArgs s_is_tie) (defBody s_is_tie) (defScope s_is_tie) .none kV8 dc8 pm8 an8 cd8 ct8),sl8⟩) (c8:PySem.W.codeIn K cd8 "is_tie" = true) (k8:PySem.W.keepIn K (.ref f_is_tie)=true)
    (a9:PySem.W.nsIn K mainGlobals "are_ties" = some (some (.ref f_are_ties)))
    (l9:K.lookup f_are_ties=some ⟨oc9,od9,.func (PySem.W.fnOf "are_ties" "are_ties" (defArgs s_are_ties) (defBody s_are_ties) (defScope s_are_ties) .none kV9 dc9 pm9 an9 cd9 ct9),sl9⟩) (c9:PySem.W.codeIn K cd9 "are_ties" = true) (k9:PySem.W.keepIn K (.ref f_are_ties)=true)
    (a10:PySem.W.findIn K (.ref C_Web) "__init__" = some (some (.ref f_Web_init))) (i10:PySem.W.isFn K (.ref f_Web_init)=true)
    (l10:K.lookup f_Web_init=some ⟨oc10,od10,.func (PySem.W.fnOf "__init__" "Web.__init__" (defArgs s_Web_init) (defBody s_Web_init) (defScope s_Web_init) .none kV10 dc10 pm10 an10 cd10 ct10),sl10⟩) (c10:PySem.W.codeIn K cd10 "Web.__init__" = true) (k10:PySem.W.keepIn K (.ref f_Web_init)=true)
    (a11:PySem.W.findIn K (.ref C_Web) "points" = some (some (.ref f_Web_points))) (i11:PySem.W.isFn K (.ref f_Web_points)=true)
    (l11:K.lookup f_Web_points=some ⟨oc11,od11,.func (PySem.W.fnOf "points" "Web.points" (defArgs s_Web_points) (defBody s_Web_points) (defScope s_Web_points) .none kV11 dc11 pm11 an11 cd11 ct11),sl11⟩) (c11:PySem.W.codeIn K cd11 "Web.points" = true) (k11:PySem.W.keepIn K (.ref f_Web_points)=true)
    (a12:PySem.W.findIn K (.ref C_Web) "ties" = some (some (.ref f_Web_ties))) (i12:PySem.W.isFn K (.ref f_Web_ties)=true)
    (l12:K.lookup f_Web_ties=some ⟨oc12,od12,.func (PySem.W.fnOf "ties" "Web.ties" (defArgs s_Web_ties) (defBody s_Web_ties) (defScope s_Web_ties) .none kV12 dc12 pm12 an12 cd12 ct12),sl12⟩) (c12:PySem.W.codeIn K cd12 "Web.ties" = true) (k12:PySem.W.keepIn K (.ref f_Web_ties)=true)
    (a13:PySem.W.findIn K (.ref C_Web) "many" = some (some (.ref f_Web_many))) (i13:PySem.W.isFn K (.ref f_Web_many)=true)
    (l13:K.lookup f_Web_many=some ⟨oc13,od13,.func (PySem.W.fnOf "many" "Web.many" (defArgs s_Web_many) (defBody s_Web_many) (defScope s_Web_many) .none kV13 dc13 pm13 an13 cd13 ct13),sl13⟩) (c13:PySem.W.codeIn K cd13 "Web.many" = true) (k13:PySem.W.keepIn K (.ref f_Web_many)=true)
    (a14:PySem.W.nsIn K mainGlobals "is_point" = some (some (.ref f_is_point)))
    (l14:K.lookup f_is_point=some ⟨oc14,od14,.func (PySem.W.fnOf "is_point" "is_point" (defArgs s_is_point) (defBody s_is_point) (defScope s_is_point) .none kV14 dc14 pm14 an14 cd14 ct14),sl14⟩) (c14:PySem.W.codeIn K cd14 "is_point" = true) (k14:PySem.W.keepIn K (.ref f_is_point)=true)
    (a15:PySem.W.nsIn K mainGlobals "is_number" = some (some (.ref f_is_number)))
    (l15:K.lookup f_is_number=some ⟨oc15,od15,.func (PySem.W.fnOf "is_number" "is_number" (defArgs s_is_number) (defBody s_is_number) (defScope s_is_number) .none kV15 dc15 pm15 an15 cd15 ct15),sl15⟩) (c15:PySem.W.codeIn K cd15 "is_number" = true) (k15:PySem.W.keepIn K (.ref f_is_number)=true)
    (a16:PySem.W.nsIn K mainGlobals "are_numbers" = some (some (.ref f_are_numbers)))
    (l16:K.lookup f_are_numbers=some ⟨oc16,od16,.func (PySem.W.fnOf "are_numbers" "are_numbers" (defArgs s_are_numbers) (defBody s_are_numbers) (defScope s_are_numbers) .none kV16 dc16 pm16 an16 cd16 ct16),sl16⟩) (c16:PySem.W.codeIn K cd16 "are_numbers" = true) (k16:PySem.W.keepIn K (.ref f_are_numbers)=true)
    (a17:PySem.W.nsIn K mainGlobals "is_lead" = some (some (.ref f_is_lead)))
    (l17:K.lookup f_is_lead=some ⟨oc17,od17,.func (PySem.W.fnOf "is_lead" "is_lead" (defArgs s_is_lead) (defBody s_is_lead) (defScope s_is_lead) .none kV17 dc17 pm17 an17 cd17 ct17),sl17⟩) (c17:PySem.W.codeIn K cd17 "is_lead" = true) (k17:PySem.W.keepIn K (.ref f_is_lead)=true)
    (a18:PySem.W.nsIn K mainGlobals "is_pointing" = some (some (.ref f_is_pointing)))
    (l18:K.lookup f_is_pointing=some ⟨oc18,od18,.func (PySem.W.fnOf "is_pointing" "is_pointing" (defArgs s_is_pointing) (defBody s_is_pointing) (defScope s_is_pointing) .none kV18 dc18 pm18 an18 cd18 ct18),sl18⟩) (c18:PySem.W.codeIn K cd18 "is_pointing" = true) (k18:PySem.W.keepIn K (.ref f_is_pointing)=true)
    (a19:PySem.W.nsIn K mainGlobals "sure_of_pointing" = some (some (.ref f_sure_of_pointing)))
    (l19:K.lookup f_sure_of_pointing=some ⟨oc19,od19,.func (PySem.W.fnOf "sure_of_pointing" "sure_of_pointing" (defArgs s_sure_of_pointing) (defBody s_sure_of_pointing) (defScope s_sure_of_pointing) .none kV19 dc19 pm19 an19 cd19 ct19),sl19⟩) (c19:PySem.W.codeIn K cd19 "sure_of_pointing" = true) (k19:PySem.W.keepIn K (.ref f_sure_of_pointing)=true)
    (a20:PySem.W.nsIn K mainGlobals "arrows" = some (some (.ref f_arrows)))
    (l20:K.lookup f_arrows=some ⟨oc20,od20,.func (PySem.W.fnOf "arrows" "arrows" (defArgs s_arrows) (defBody s_arrows) (defScope s_arrows) .none kV20 dc20 pm20 an20 cd20 ct20),sl20⟩) (c20:PySem.W.codeIn K cd20 "arrows" = true) (k20:PySem.W.keepIn K (.ref f_arrows)=true)
    (a21:PySem.W.nsIn K mainGlobals "unlike_steps" = some (some (.ref f_unlike_steps)))
    (l21:K.lookup f_unlike_steps=some ⟨oc21,od21,.func (PySem.W.fnOf "unlike_steps" "unlike_steps" (defArgs s_unlike_steps) (defBody s_unlike_steps) (defScope s_unlike_steps) .none kV21 dc21 pm21 an21 cd21 ct21),sl21⟩) (c21:PySem.W.codeIn K cd21 "unlike_steps" = true) (k21:PySem.W.keepIn K (.ref f_unlike_steps)=true)
    (a22:PySem.W.nsIn K mainGlobals "steps_into" = some (some (.ref f_steps_into)))
    (l22:K.lookup f_steps_into=some ⟨oc22,od22,.func (PySem.W.fnOf "steps_into" "steps_into" (defArgs s_steps_into) (defBody s_steps_into) (defScope s_steps_into) .none kV22 dc22 pm22 an22 cd22 ct22),sl22⟩) (c22:PySem.W.codeIn K cd22 "steps_into" = true) (k22:PySem.W.keepIn K (.ref f_steps_into)=true)
    (a23:PySem.W.nsIn K mainGlobals "turned" = some (some (.ref f_turned)))
    (l23:K.lookup f_turned=some ⟨oc23,od23,.func (PySem.W.fnOf "turned" "turned" (defArgs s_turned) (defBody s_turned) (defScope s_turned) .none kV23 dc23 pm23 an23 cd23 ct23),sl23⟩) (c23:PySem.W.codeIn K cd23 "turned" = true) (k23:PySem.W.keepIn K (.ref f_turned)=true)
    (a24:PySem.W.nsIn K mainGlobals "sure_of_point" = some (some (.ref f_sure_of_point)))
    (l24:K.lookup f_sure_of_point=some ⟨oc24,od24,.func (PySem.W.fnOf "sure_of_point" "sure_of_point" (defArgs s_sure_of_point) (defBody s_sure_of_point) (defScope s_sure_of_point) .none kV24 dc24 pm24 an24 cd24 ct24),sl24⟩) (c24:PySem.W.codeIn K cd24 "sure_of_point" = true) (k24:PySem.W.keepIn K (.ref f_sure_of_point)=true)
    (a25:PySem.W.nsIn K mainGlobals "way" = some (some (.ref f_way)))
    (l25:K.lookup f_way=some ⟨oc25,od25,.func (PySem.W.fnOf "way" "way" (defArgs s_way) (defBody s_way) (defScope s_way) .none kV25 dc25 pm25 an25 cd25 ct25),sl25⟩) (c25:PySem.W.codeIn K cd25 "way" = true) (k25:PySem.W.keepIn K (.ref f_way)=true)
    (a26:PySem.W.nsIn K mainGlobals "reached" = some (some (.ref f_reached)))
    (l26:K.lookup f_reached=some ⟨oc26,od26,.func (PySem.W.fnOf "reached" "reached" (defArgs s_reached) (defBody s_reached) (defScope s_reached) .none kV26 dc26 pm26 an26 cd26 ct26),sl26⟩) (c26:PySem.W.codeIn K cd26 "reached" = true) (k26:PySem.W.keepIn K (.ref f_reached)=true)
    (a27:PySem.W.nsIn K mainGlobals "sure_of_two_points" = some (some (.ref f_sure_of_two_points)))
    (l27:K.lookup f_sure_of_two_points=some ⟨oc27,od27,.func (PySem.W.fnOf "sure_of_two_points" "sure_of_two_points" (defArgs s_sure_of_two_points) (defBody s_sure_of_two_points) (defScope s_sure_of_two_points) .none kV27 dc27 pm27 an27 cd27 ct27),sl27⟩) (c27:PySem.W.codeIn K cd27 "sure_of_two_points" = true) (k27:PySem.W.keepIn K (.ref f_sure_of_two_points)=true)
    (a28:PySem.W.nsIn K mainGlobals "turned_till_none_leads" = some (some (.ref f_turned_till_none_leads)))
    (l28:K.lookup f_turned_till_none_leads=some ⟨oc28,od28,.func (PySem.W.fnOf "turned_till_none_leads" "turned_till_none_leads" (defArgs s_turned_till_none_leads) (defBody s_turned_till_none_leads) (defScope s_turned_till_none_leads) .none kV28 dc28 pm28 an28 cd28 ct28),sl28⟩) (c28:PySem.W.codeIn K cd28 "turned_till_none_leads" = true) (k28:PySem.W.keepIn K (.ref f_turned_till_none_leads)=true)
    (a29:PySem.W.nsIn K mainGlobals "ways_taken" = some (some (.ref f_ways_taken)))
    (l29:K.lookup f_ways_taken=some ⟨oc29,od29,.func (PySem.W.fnOf "ways_taken" "ways_taken" (defArgs s_ways_taken) (defBody s_ways_taken) (defScope s_ways_taken) .none kV29 dc29 pm29 an29 cd29 ct29),sl29⟩) (c29:PySem.W.codeIn K cd29 "ways_taken" = true) (k29:PySem.W.keepIn K (.ref f_ways_taken)=true)
    (a30:PySem.W.nsIn K mainGlobals "ways_apart" = some (some (.ref f_ways_apart)))
    (l30:K.lookup f_ways_apart=some ⟨oc30,od30,.func (PySem.W.fnOf "ways_apart" "ways_apart" (defArgs s_ways_apart) (defBody s_ways_apart) (defScope s_ways_apart) .none kV30 dc30 pm30 an30 cd30 ct30),sl30⟩) (c30:PySem.W.codeIn K cd30 "ways_apart" = true) (k30:PySem.W.keepIn K (.ref f_ways_apart)=true)
    (a31:PySem.W.nsIn K mainGlobals "all_parts" = some (some (.ref f_all_parts)))
    (l31:K.lookup f_all_parts=some ⟨oc31,od31,.func (PySem.W.fnOf "all_parts" "all_parts" (defArgs s_all_parts) (defBody s_all_parts) (defScope s_all_parts) .none kV31 dc31 pm31 an31 cd31 ct31),sl31⟩) (c31:PySem.W.codeIn K cd31 "all_parts" = true) (k31:PySem.W.keepIn K (.ref f_all_parts)=true)
    (a32:PySem.W.nsIn K mainGlobals "all_lots" = some (some (.ref f_all_lots)))
    (l32:K.lookup f_all_lots=some ⟨oc32,od32,.func (PySem.W.fnOf "all_lots" "all_lots" (defArgs s_all_lots) (defBody s_all_lots) (defScope s_all_lots) .none kV32 dc32 pm32 an32 cd32 ct32),sl32⟩) (c32:PySem.W.codeIn K cd32 "all_lots" = true) (k32:PySem.W.keepIn K (.ref f_all_lots)=true)
    (a33:PySem.W.nsIn K mainGlobals "times_over" = some (some (.ref f_times_over)))
    (l33:K.lookup f_times_over=some ⟨oc33,od33,.func (PySem.W.fnOf "times_over" "times_over" (defArgs s_times_over) (defBody s_times_over) (defScope s_times_over) .none kV33 dc33 pm33 an33 cd33 ct33),sl33⟩) (c33:PySem.W.codeIn K cd33 "times_over" = true) (k33:PySem.W.keepIn K (.ref f_times_over)=true)
    (a34:PySem.W.nsIn K mainGlobals "_law_pot" = some (some (.ref f_pot)))
    (l34:K.lookup f_pot=some ⟨oc34,od34,.func (PySem.W.fnOf "_law_pot" "_law_pot" (defArgs s_pot) (defBody s_pot) (defScope s_pot) .none kV34 dc34 pm34 an34 cd34 ct34),sl34⟩) (c34:PySem.W.codeIn K cd34 "_law_pot" = true) (k34:PySem.W.keepIn K (.ref f_pot)=true)
    (a35:PySem.W.nsIn K mainGlobals "_law_take" = some (some (.ref f_take)))
    (l35:K.lookup f_take=some ⟨oc35,od35,.func (PySem.W.fnOf "_law_take" "_law_take" (defArgs s_take) (defBody s_take) (defScope s_take) .none kV35 dc35 pm35 an35 cd35 ct35),sl35⟩) (c35:PySem.W.codeIn K cd35 "_law_take" = true) (k35:PySem.W.keepIn K (.ref f_take)=true)
    (a36:PySem.W.nsIn K mainGlobals "_law_names" = some (some (.ref f_names)))
    (l36:K.lookup f_names=some ⟨oc36,od36,.func (PySem.W.fnOf "_law_names" "_law_names" (defArgs s_names) (defBody s_names) (defScope s_names) .none kV36 dc36 pm36 an36 cd36 ct36),sl36⟩) (c36:PySem.W.codeIn K cd36 "_law_names" = true) (k36:PySem.W.keepIn K (.ref f_names)=true)
    (a37:PySem.W.nsIn K mainGlobals "_law_mixed" = some (some (.ref f_mixed)))
    (l37:K.lookup f_mixed=some ⟨oc37,od37,.func (PySem.W.fnOf "_law_mixed" "_law_mixed" (defArgs s_mixed) (defBody s_mixed) (defScope s_mixed) .none kV37 dc37 pm37 an37 cd37 ct37),sl37⟩) (c37:PySem.W.codeIn K cd37 "_law_mixed" = true) (k37:PySem.W.keepIn K (.ref f_mixed)=true)
    (a38:PySem.W.nsIn K mainGlobals "_law_tie" = some (some (.ref f_tie)))
    (l38:K.lookup f_tie=some ⟨oc38,od38,.func (PySem.W.fnOf "_law_tie" "_law_tie" (defArgs s_tie) (defBody s_tie) (defScope s_tie) .none kV38 dc38 pm38 an38 cd38 ct38),sl38⟩) (c38:PySem.W.codeIn K cd38 "_law_tie" = true) (k38:PySem.W.keepIn K (.ref f_tie)=true)
    (a39:PySem.W.nsIn K mainGlobals "_law_web" = some (some (.ref f_web)))
    (l39:K.lookup f_web=some ⟨oc39,od39,.func (PySem.W.fnOf "_law_web" "_law_web" (defArgs s_web) (defBody s_web) (defScope s_web) .none kV39 dc39 pm39 an39 cd39 ct39),sl39⟩) (c39:PySem.W.codeIn K cd39 "_law_web" = true) (k39:PySem.W.keepIn K (.ref f_web)=true)
    (a40:PySem.W.nsIn K mainGlobals "_law_drawn" = some (some (.ref f_drawn)))
    (l40:K.lookup f_drawn=some ⟨oc40,od40,.func (PySem.W.fnOf "_law_drawn" "_law_drawn" (defArgs s_drawn) (defBody s_drawn) (defScope s_drawn) .none kV40 dc40 pm40 an40 cd40 ct40),sl40⟩) (c40:PySem.W.codeIn K cd40 "_law_drawn" = true) (k40:PySem.W.keepIn K (.ref f_drawn)=true)
    (a41:PySem.W.nsIn K mainGlobals "_law_many" = some (some (.ref f_many)))
    (l41:K.lookup f_many=some ⟨oc41,od41,.func (PySem.W.fnOf "_law_many" "_law_many" (defArgs s_many) (defBody s_many) (defScope s_many) .none kV41 dc41 pm41 an41 cd41 ct41),sl41⟩) (c41:PySem.W.codeIn K cd41 "_law_many" = true) (k41:PySem.W.keepIn K (.ref f_many)=true)
    (a42:PySem.W.nsIn K mainGlobals "_law_right" = some (some (.ref f_right)))
    (l42:K.lookup f_right=some ⟨oc42,od42,.func (PySem.W.fnOf "_law_right" "_law_right" (defArgs s_right) (defBody s_right) (defScope s_right) .none kV42 dc42 pm42 an42 cd42 ct42),sl42⟩) (c42:PySem.W.codeIn K cd42 "_law_right" = true) (k42:PySem.W.keepIn K (.ref f_right)=true)
    (a43:PySem.W.nsIn K mainGlobals "law" = some (some (.ref f_law)))
    (l43:K.lookup f_law=some ⟨oc43,od43,.func (PySem.W.fnOf "law" "law" (defArgs s_law) (defBody s_law) (defScope s_law) .none kV43 dc43 pm43 an43 cd43 ct43),sl43⟩) (c43:PySem.W.codeIn K cd43 "law" = true) (k43:PySem.W.keepIn K (.ref f_law)=true)
    (u_LETTERS:PySem.W.nsIn K mainGlobals "LETTERS" = some (some (.str "abcdefghijklmnopqrstuvwxyz" tk_LETTERS)))
    (u_MOST_LETTERS:PySem.W.nsIn K mainGlobals "MOST_LETTERS" = some (some (.int 4 tk_MOST_LETTERS)))
    (u_MOST_POINTS:PySem.W.nsIn K mainGlobals "MOST_POINTS" = some (some (.int 9 tk_MOST_POINTS)))
    (u_MOST_TIES:PySem.W.nsIn K mainGlobals "MOST_TIES" = some (some (.int 20 tk_MOST_TIES)))
    (pg_Web:PySem.W.plainGet K C_Web Str.empty=true) (hd_Web:PySem.W.hasDictIn K C_Web=true) (po_Web:PySem.W.plainOver K C_Web=true) (sa_Web:PySem.W.findIn K (.ref C_Web) "__setattr__" = some (some (.builtin "object.__setattr__"))) (mk_Web:PySem.W.makesIn K C_Web=true) (kc_Web:PySem.W.keepIn K (.ref C_Web)=true)
    (na_names:PySem.W.findIn K (.ref C_Web) "names" = some none)
    (na_pairs:PySem.W.findIn K (.ref C_Web) "pairs" = some none)
    (z_len:PySem.W.nsIn K mainGlobals "len" = some none)
    (z_max:PySem.W.nsIn K mainGlobals "max" = some none)
    (z_min:PySem.W.nsIn K mainGlobals "min" = some none)
    (z_abs:PySem.W.nsIn K mainGlobals "abs" = some none)
    (z_divmod:PySem.W.nsIn K mainGlobals "divmod" = some none)
    (z_range:PySem.W.nsIn K mainGlobals "range" = some none)
    (z_zip:PySem.W.nsIn K mainGlobals "zip" = some none)
    (z_list:PySem.W.nsIn K mainGlobals "list" = some none)
    (z_tuple:PySem.W.nsIn K mainGlobals "tuple" = some none)
    (z_int:PySem.W.nsIn K mainGlobals "int" = some none)
    (z_str:PySem.W.nsIn K mainGlobals "str" = some none)
    (z_set:PySem.W.nsIn K mainGlobals "set" = some none)
    (z_all:PySem.W.nsIn K mainGlobals "all" = some none)
    (z_isinstance:PySem.W.nsIn K mainGlobals "isinstance" = some none)
    (z_enumerate:PySem.W.nsIn K mainGlobals "enumerate" = some none)
    (z_any:PySem.W.nsIn K mainGlobals "any" = some none)
    (z_dict:PySem.W.nsIn K mainGlobals "dict" = some none)
    (z_sorted:PySem.W.nsIn K mainGlobals "sorted" = some none)
    (z_repr:PySem.W.nsIn K mainGlobals "repr" = some none)
    (z_bool:PySem.W.nsIn K mainGlobals "bool" = some none)
    (z_sum:PySem.W.nsIn K mainGlobals "sum" = some none)
    {cL PL:Addr} (cdl:cd33=Value.ref cL)
    : ∃fd:FuncData,(∀(s:Shared) (v:Value),BindsTo s fd ⟨[v],[]⟩ [("_law_script",v)])∧∀base:Heap,K.In base→base.Ns mainGlobals mg→PySem.W.CodeHd base cL PL→base.BuiltinsAt mg PL→FnOk l.prog w K mg base CX0 11 fa fd ["_law_script"] (sp_law K PL):=by
  have e:=hfa.symm.trans (PySem.W.mg_of X G a43)
  cases e
  have F1:=fun_mk (st:=s_steps_along) l1 c1 k1
  have b1:=F1.binds (ps:=["web", "fixed"]) fun _ _ _ _ _ _=>byLen2 fun _ _=>rfl
  have F2:=fun_mk (st:=s_ways_along) l2 c2 k2
  have b2:=F2.binds (ps:=["start", "steps"]) fun _ _ _ _ _ _=>byLen2 fun _ _=>rfl
  have F3:=fun_mk (st:=s_found_along) l3 c3 k3
  have b3:=F3.binds (ps:=["web", "start", "steps"]) fun _ _ _ _ _ _=>byLen3 fun _ _ _=>rfl
  have F4:=fun_mk (st:=s_is_list) l4 c4 k4
  have b4:=F4.binds (ps:=["thing"]) fun _ _ _ _ _ _=>byLen1 fun _=>rfl
  have F5:=fun_mk (st:=s_is_whole) l5 c5 k5
  have b5:=F5.binds (ps:=["thing"]) fun _ _ _ _ _ _=>byLen1 fun _=>rfl
  have F6:=fun_mk (st:=s_is_name) l6 c6 k6
  have b6:=F6.binds (ps:=["thing"]) fun _ _ _ _ _ _=>byLen1 fun _=>rfl
  have F7:=fun_mk (st:=s_are_points) l7 c7 k7
  have b7:=F7.binds (ps:=["thing"]) fun _ _ _ _ _ _=>byLen1 fun _=>rfl
  have F8:=fun_mk (st:=s_is_tie) l8 c8 k8
  have b8:=F8.binds (ps:=["thing", "points"]) fun _ _ _ _ _ _=>byLen2 fun _ _=>rfl
  have F9:=fun_mk (st:=s_are_ties) l9 c9 k9
  have b9:=F9.binds (ps:=["thing", "points"]) fun _ _ _ _ _ _=>byLen2 fun _ _=>rfl
  have F10:=fun_mk (st:=s_Web_init) l10 c10 k10
  have b10:=F10.binds (ps:=["self", "points", "ties"]) fun _ _ _ _ _ _=>byLen3 fun _ _ _=>rfl
  have F11:=fun_mk (st:=s_Web_points) l11 c11 k11
  have b11:=F11.binds (ps:=["self"]) fun _ _ _ _ _ _=>byLen1 fun _=>rfl
  have F12:=fun_mk (st:=s_Web_ties) l12 c12 k12
  have b12:=F12.binds (ps:=["self"]) fun _ _ _ _ _ _=>byLen1 fun _=>rfl
  have F13:=fun_mk (st:=s_Web_many) l13 c13 k13
  have b13:=F13.binds (ps:=["self"]) fun _ _ _ _ _ _=>byLen1 fun _=>rfl
  have F14:=fun_mk (st:=s_is_point) l14 c14 k14
  have b14:=F14.binds (ps:=["web", "thing"]) fun _ _ _ _ _ _=>byLen2 fun _ _=>rfl
  have F15:=fun_mk (st:=s_is_number) l15 c15 k15
  have b15:=F15.binds (ps:=["web", "thing"]) fun _ _ _ _ _ _=>byLen2 fun _ _=>rfl
  have F16:=fun_mk (st:=s_are_numbers) l16 c16 k16
  have b16:=F16.binds (ps:=["web", "thing"]) fun _ _ _ _ _ _=>byLen2 fun _ _=>rfl
  have F17:=fun_mk (st:=s_is_lead) l17 c17 k17
  have b17:=F17.binds (ps:=["thing"]) fun _ _ _ _ _ _=>byLen1 fun _=>rfl
  have F18:=fun_mk (st:=s_is_pointing) l18 c18 k18
  have b18:=F18.binds (ps:=["web", "thing"]) fun _ _ _ _ _ _=>byLen2 fun _ _=>rfl
  have F19:=fun_mk (st:=s_sure_of_pointing) l19 c19 k19
  have b19:=F19.binds (ps:=["web", "thing"]) fun _ _ _ _ _ _=>byLen2 fun _ _=>rfl
  have F20:=fun_mk (st:=s_arrows) l20 c20 k20
  have b20:=F20.binds (ps:=["web", "pointing"]) fun _ _ _ _ _ _=>byLen2 fun _ _=>rfl
  have F21:=fun_mk (st:=s_unlike_steps) l21 c21 k21
  have b21:=F21.binds (ps:=["web", "one", "other"]) fun _ _ _ _ _ _=>byLen3 fun _ _ _=>rfl
  have F22:=fun_mk (st:=s_steps_into) l22 c22 k22
  have b22:=F22.binds (ps:=["steps", "lot"]) fun _ _ _ _ _ _=>byLen2 fun _ _=>rfl
  have F23:=fun_mk (st:=s_turned) l23 c23 k23
  have b23:=F23.binds (ps:=["web", "pointing", "numbers"]) fun _ _ _ _ _ _=>byLen3 fun _ _ _=>rfl
  have F24:=fun_mk (st:=s_sure_of_point) l24 c24 k24
  have b24:=F24.binds (ps:=["web", "thing"]) fun _ _ _ _ _ _=>byLen2 fun _ _=>rfl
  have F25:=fun_mk (st:=s_way) l25 c25 k25
  have b25:=F25.binds (ps:=["web", "pointing", "a", "b"]) fun _ _ _ _ _ _=>byLen4 fun _ _ _ _=>rfl
  have F26:=fun_mk (st:=s_reached) l26 c26 k26
  have b26:=F26.binds (ps:=["web", "pointing", "point"]) fun _ _ _ _ _ _=>byLen3 fun _ _ _=>rfl
  have F27:=fun_mk (st:=s_sure_of_two_points) l27 c27 k27
  have b27:=F27.binds (ps:=["web", "a", "b"]) fun _ _ _ _ _ _=>byLen3 fun _ _ _=>rfl
  have F28:=fun_mk (st:=s_turned_till_none_leads) l28 c28 k28
  have b28:=F28.binds (ps:=["web", "pointing", "a", "b"]) fun _ _ _ _ _ _=>byLen4 fun _ _ _ _=>rfl
  have F29:=fun_mk (st:=s_ways_taken) l29 c29 k29
  have b29:=F29.binds (ps:=["steps", "a", "b"]) fun _ _ _ _ _ _=>byLen3 fun _ _ _=>rfl
  have F30:=fun_mk (st:=s_ways_apart) l30 c30 k30
  have b30:=F30.binds (ps:=["web", "pointing", "a", "b"]) fun _ _ _ _ _ _=>byLen4 fun _ _ _ _=>rfl
  have F31:=fun_mk (st:=s_all_parts) l31 c31 k31
  have b31:=F31.binds (ps:=["points"]) fun _ _ _ _ _ _=>byLen1 fun _=>rfl
  have F32:=fun_mk (st:=s_all_lots) l32 c32 k32
  have b32:=F32.binds (ps:=["web"]) fun _ _ _ _ _ _=>byLen1 fun _=>rfl
  have F33:=fun_mk (st:=s_times_over) l33 c33 k33
  have b33:=F33.binds (ps:=["web", "pointing"]) fun _ _ _ _ _ _=>byLen2 fun _ _=>rfl
  have F34:=fun_mk (st:=s_pot) l34 c34 k34
  have b34:=F34.binds (ps:=["_law_script", "_law_k"]) fun _ _ _ _ _ _=>byLen2 fun _ _=>rfl
  have F35:=fun_mk (st:=s_take) l35 c35 k35
  have b35:=F35.binds (ps:=["_law_pot_here", "_law_many_here"]) fun _ _ _ _ _ _=>byLen2 fun _ _=>rfl
  have F36:=fun_mk (st:=s_names) l36 c36 k36
  have b36:=F36.binds (ps:=["_law_pot_here", "_law_many_here"]) fun _ _ _ _ _ _=>byLen2 fun _ _=>rfl
  have F37:=fun_mk (st:=s_mixed) l37 c37 k37
  have b37:=F37.binds (ps:=["_law_pot_here", "_law_things"]) fun _ _ _ _ _ _=>byLen2 fun _ _=>rfl
  have F38:=fun_mk (st:=s_tie) l38 c38 k38
  have b38:=F38.binds (ps:=["_law_pot_here", "_law_names_here"]) fun _ _ _ _ _ _=>byLen2 fun _ _=>rfl
  have F39:=fun_mk (st:=s_web) l39 c39 k39
  have b39:=F39.binds (ps:=["_law_pot_here", "_law_points", "_law_most"]) fun _ _ _ _ _ _=>byLen3 fun _ _ _=>rfl
  have F40:=fun_mk (st:=s_drawn) l40 c40 k40
  have b40:=F40.binds (ps:=["_law_pot_here", "_law_web_here"]) fun _ _ _ _ _ _=>byLen2 fun _ _=>rfl
  have F41:=fun_mk (st:=s_many) l41 c41 k41
  have b41:=F41.binds (ps:=["_law_made", "_law_row", "_law_a", "_law_b"]) fun _ _ _ _ _ _=>byLen4 fun _ _ _ _=>rfl
  have F42:=fun_mk (st:=s_right) l42 c42 k42
  have b42:=F42.binds (ps:=["_law_web_here", "_law_row", "_law_a", "_law_b"]) fun _ _ _ _ _ _=>byLen4 fun _ _ _ _=>rfl
  have F43:=fun_mk (st:=s_law) l43 c43 k43
  have b43:=F43.binds (ps:=["_law_script"]) fun _ _ _ _ _ _=>byLen1 fun _=>rfl
  have T:Txt K mg {f_steps_along:=f_steps_along,fd_steps_along:=PySem.W.fnOf "steps_along" "steps_along" (defArgs s_steps_along) (defBody s_steps_along) (defScope s_steps_along) .none kV1 dc1 pm1 an1 cd1 ct1,f_ways_along:=f_ways_along,fd_ways_along:=PySem.W.fnOf "ways_along" "ways_along" (defArgs s_ways_along) (defBody s_ways_along) (defScope s_ways_along) .none kV2 dc2 pm2 an2 cd2 ct2,f_found_along:=f_found_along,fd_found_along:=PySem.W.fnOf "found_along" "found_along" (defArgs s_found_along) (defBody s_found_along) (defScope s_found_along) .none kV3 dc3 pm3 an3 cd3 ct3,f_is_list:=f_is_list,fd_is_list:=PySem.W.fnOf "is_list" "is_list" (defArgs s_is_list) (defBody s_is_list) (defScope s_is_list) .none kV4 dc4 pm4 an4 cd4 ct4,f_is_whole:=f_is_whole,fd_is_whole:=PySem.W.fnOf "is_whole" "is_whole" (defArgs s_is_whole) (defBody s_is_whole) (defScope s_is_whole) .none kV5 dc5 pm5 an5 cd5 ct5,f_is_name:=f_is_name,fd_is_name:=PySem.W.fnOf "is_name" "is_name" (defArgs s_is_name) (defBody s_is_name) (defScope s_is_name) .none kV6 dc6 pm6 an6 cd6 ct6,f_are_points:=f_are_points,fd_are_points:=PySem.W.fnOf "are_points" "are_points" (defArgs s_are_points) (defBody s_are_points) (defScope s_are_points) .none kV7 dc7 pm7 an7 cd7 ct7,f_is_tie:=f_is_tie,fd_is_tie:=PySem.W.fnOf "is_tie" "is_tie" (defArgs s_is_tie) (defBody s_is_tie) (defScope s_is_tie) .none kV8 dc8 pm8 an8 cd8 ct8,f_are_ties:=f_are_ties,fd_are_ties:=PySem.W.fnOf "are_ties" "are_ties" (defArgs s_are_ties) (defBody s_are_ties) (defScope s_are_ties) .none kV9 dc9 pm9 an9 cd9 ct9,f_Web_init:=f_Web_init,fd_Web_init:=PySem.W.fnOf "__init__" "Web.__init__" (defArgs s_Web_init) (defBody s_Web_init) (defScope s_Web_init) .none kV10 dc10 pm10 an10 cd10 ct10,f_Web_points:=f_Web_points,fd_Web_points:=PySem.W.fnOf "points" "Web.points" (defArgs s_Web_points) (defBody s_Web_points) (defScope s_Web_points) .none kV11 dc11 pm11 an11 cd11 ct11,f_Web_ties:=f_Web_ties,fd_Web_ties:=PySem.W.fnOf "ties" "Web.ties" (defArgs s_Web_ties) (defBody s_Web_ties) (defScope s_Web_ties) .none kV12 dc12 pm12 an12 cd12 ct12,f_Web_many:=f_Web_many,fd_Web_many:=PySem.W.fnOf "many" "Web.many" (defArgs s_Web_many) (defBody s_Web_many) (defScope s_Web_many) .none kV13 dc13 pm13 an13 cd13 ct13,f_is_point:=f_is_point,fd_is_point:=PySem.W.fnOf "is_point" "is_point" (defArgs s_is_point) (defBody s_is_point) (defScope s_is_point) .none kV14 dc14 pm14 an14 cd14 ct14,f_is_number:=f_is_number,fd_is_number:=PySem.W.fnOf "is_number" "is_number" (defArgs s_is_number) (defBody s_is_number) (defScope s_is_number) .none kV15 dc15 pm15 an15 cd15 ct15,f_are_numbers:=f_are_numbers,fd_are_numbers:=PySem.W.fnOf "are_numbers" "are_numbers" (defArgs s_are_numbers) (defBody s_are_numbers) (defScope s_are_numbers) .none kV16 dc16 pm16 an16 cd16 ct16,f_is_lead:=f_is_lead,fd_is_lead:=PySem.W.fnOf "is_lead" "is_lead" (defArgs s_is_lead) (defBody s_is_lead) (defScope s_is_lead) .none kV17 dc17 pm17 an17 cd17 ct17,f_is_pointing:=f_is_pointing,fd_is_pointing:=PySem.W.fnOf "is_pointing" "is_pointing" (defArgs s_is_pointing) (defBody s_is_pointing) (defScope s_is_pointing) .none kV18 dc18 pm18 an18 cd18 ct18,f_sure_of_pointing:=f_sure_of_pointing,fd_sure_of_pointing:=PySem.W.fnOf "sure_of_pointing" "sure_of_pointing" (defArgs s_sure_of_pointing) (defBody s_sure_of_pointing) (defScope s_sure_of_pointing) .none kV19 dc19 pm19 an19 cd19 ct19,f_arrows:=f_arrows,fd_arrows:=PySem.W.fnOf "arrows" "arrows" (defArgs s_arrows) (defBody s_arrows) (defScope s_arrows) .none kV20 dc20 pm20 an20 cd20 ct20,f_unlike_steps:=f_unlike_steps,fd_unlike_steps:=PySem.W.fnOf "unlike_steps" "unlike_steps" (defArgs s_unlike_steps) (defBody s_unlike_steps) (defScope s_unlike_steps) .none kV21 dc21 pm21 an21 cd21 ct21,f_steps_into:=f_steps_into,fd_steps_into:=PySem.W.fnOf "steps_into" "steps_into" (defArgs s_steps_into) (defBody s_steps_into) (defScope s_steps_into) .none kV22 dc22 pm22 an22 cd22 ct22,f_turned:=f_turned,fd_turned:=PySem.W.fnOf "turned" "turned" (defArgs s_turned) (defBody s_turned) (defScope s_turned) .none kV23 dc23 pm23 an23 cd23 ct23,f_sure_of_point:=f_sure_of_point,fd_sure_of_point:=PySem.W.fnOf "sure_of_point" "sure_of_point" (defArgs s_sure_of_point) (defBody s_sure_of_point) (defScope s_sure_of_point) .none kV24 dc24 pm24 an24 cd24 ct24,f_way:=f_way,fd_way:=PySem.W.fnOf "way" "way" (defArgs s_way) (defBody s_way) (defScope s_way) .none kV25 dc25 pm25 an25 cd25 ct25,f_reached:=f_reached,fd_reached:=PySem.W.fnOf "reached" "reached" (defArgs s_reached) (defBody s_reached) (defScope s_reached) .none kV26 dc26 pm26 an26 cd26 ct26,f_sure_of_two_points:=f_sure_of_two_points,fd_sure_of_two_points:=PySem.W.fnOf "sure_of_two_points" "sure_of_two_points" (defArgs s_sure_of_two_points) (defBody s_sure_of_two_points) (defScope s_sure_of_two_points) .none kV27 dc27 pm27 an27 cd27 ct27,f_turned_till_none_leads:=f_turned_till_none_leads,fd_turned_till_none_leads:=PySem.W.fnOf "turned_till_none_leads" "turned_till_none_leads" (defArgs s_turned_till_none_leads) (defBody s_turned_till_none_leads) (defScope s_turned_till_none_leads) .none kV28 dc28 pm28 an28 cd28 ct28,f_ways_taken:=f_ways_taken,fd_ways_taken:=PySem.W.fnOf "ways_taken" "ways_taken" (defArgs s_ways_taken) (defBody s_ways_taken) (defScope s_ways_taken) .none kV29 dc29 pm29 an29 cd29 ct29,f_ways_apart:=f_ways_apart,fd_ways_apart:=PySem.W.fnOf "ways_apart" "ways_apart" (defArgs s_ways_apart) (defBody s_ways_apart) (defScope s_ways_apart) .none kV30 dc30 pm30 an30 cd30 ct30,f_all_parts:=f_all_parts,fd_all_parts:=PySem.W.fnOf "all_parts" "all_parts" (defArgs s_all_parts) (defBody s_all_parts) (defScope s_all_parts) .none kV31 dc31 pm31 an31 cd31 ct31,f_all_lots:=f_all_lots,fd_all_lots:=PySem.W.fnOf "all_lots" "all_lots" (defArgs s_all_lots) (defBody s_all_lots) (defScope s_all_lots) .none kV32 dc32 pm32 an32 cd32 ct32,f_times_over:=f_times_over,fd_times_over:=PySem.W.fnOf "times_over" "times_over" (defArgs s_times_over) (defBody s_times_over) (defScope s_times_over) .none kV33 dc33 pm33 an33 cd33 ct33,f_pot:=f_pot,fd_pot:=PySem.W.fnOf "_law_pot" "_law_pot" (defArgs s_pot) (defBody s_pot) (defScope s_pot) .none kV34 dc34 pm34 an34 cd34 ct34,f_take:=f_take,fd_take:=PySem.W.fnOf "_law_take" "_law_take" (defArgs s_take) (defBody s_take) (defScope s_take) .none kV35 dc35 pm35 an35 cd35 ct35,f_names:=f_names,fd_names:=PySem.W.fnOf "_law_names" "_law_names" (defArgs s_names) (defBody s_names) (defScope s_names) .none kV36 dc36 pm36 an36 cd36 ct36,f_mixed:=f_mixed,fd_mixed:=PySem.W.fnOf "_law_mixed" "_law_mixed" (defArgs s_mixed) (defBody s_mixed) (defScope s_mixed) .none kV37 dc37 pm37 an37 cd37 ct37,f_tie:=f_tie,fd_tie:=PySem.W.fnOf "_law_tie" "_law_tie" (defArgs s_tie) (defBody s_tie) (defScope s_tie) .none kV38 dc38 pm38 an38 cd38 ct38,f_web:=f_web,fd_web:=PySem.W.fnOf "_law_web" "_law_web" (defArgs s_web) (defBody s_web) (defScope s_web) .none kV39 dc39 pm39 an39 cd39 ct39,f_drawn:=f_drawn,fd_drawn:=PySem.W.fnOf "_law_drawn" "_law_drawn" (defArgs s_drawn) (defBody s_drawn) (defScope s_drawn) .none kV40 dc40 pm40 an40 cd40 ct40,f_many:=f_many,fd_many:=PySem.W.fnOf "_law_many" "_law_many" (defArgs s_many) (defBody s_many) (defScope s_many) .none kV41 dc41 pm41 an41 cd41 ct41,f_right:=f_right,fd_right:=PySem.W.fnOf "_law_right" "_law_right" (defArgs s_right) (defBody s_right) (defScope s_right) .none kV42 dc42 pm42 an42 cd42 ct42,f_law:=fa,fd_law:=PySem.W.fnOf "law" "law" (defArgs s_law) (defBody s_law) (defScope s_law) .none kV43 dc43 pm43 an43 cd43 ct43,u_LETTERS:=.str "abcdefghijklmnopqrstuvwxyz" tk_LETTERS,u_MOST_LETTERS:=.int 4 tk_MOST_LETTERS,u_MOST_POINTS:=.int 9 tk_MOST_POINTS,u_MOST_TIES:=.int 20 tk_MOST_TIES,C_Web:=C_Web}:={F_steps_along:=F1,b_steps_along:=b1,m_steps_along:=PySem.W.mg_of X G a1,F_ways_along:=F2,b_ways_along:=b2,m_ways_along:=PySem.W.mg_of X G a2,F_found_along:=F3,b_found_along:=b3,m_found_along:=PySem.W.mg_of X G a3,F_is_list:=F4,b_is_list:=b4,m_is_list:=PySem.W.mg_of X G a4,F_is_whole:=F5,b_is_whole:=b5,m_is_whole:=PySem.W.mg_of X G a5,F_is_name:=F6,b_is_name:=b6,m_is_name:=PySem.W.mg_of X G a6,F_are_points:=F7,b_are_points:=b7,m_are_points:=PySem.W.mg_of X G a7,F_is_tie:=F8,b_is_tie:=b8,m_is_tie:=PySem.W.mg_of X G a8,F_are_ties:=F9,b_are_ties:=b9,m_are_ties:=PySem.W.mg_of X G a9,F_Web_init:=F10,b_Web_init:=b10,F_Web_points:=F11,b_Web_points:=b11,M_Web_points:=⟨a11,i11,k11⟩,F_Web_ties:=F12,b_Web_ties:=b12,M_Web_ties:=⟨a12,i12,k12⟩,F_Web_many:=F13,b_Web_many:=b13,M_Web_many:=⟨a13,i13,k13⟩,F_is_point:=F14,b_is_point:=b14,m_is_point:=PySem.W.mg_of X G a14,F_is_number:=F15,b_is_number:=b15,m_is_number:=PySem.W.mg_of X G a15,F_are_numbers:=F16,b_are_numbers:=b16,m_are_numbers:=PySem.W.mg_of X G a16,F_is_lead:=F17,b_is_lead:=b17,m_is_lead:=PySem.W.mg_of X G a17,F_is_pointing:=F18,b_is_pointing:=b18,m_is_pointing:=PySem.W.mg_of X G a18,F_sure_of_pointing:=F19,b_sure_of_pointing:=b19,m_sure_of_pointing:=PySem.W.mg_of X G a19,F_arrows:=F20,b_arrows:=b20,m_arrows:=PySem.W.mg_of X G a20,F_unlike_steps:=F21,b_unlike_steps:=b21,m_unlike_steps:=PySem.W.mg_of X G a21,F_steps_into:=F22,b_steps_into:=b22,m_steps_into:=PySem.W.mg_of X G a22,F_turned:=F23,b_turned:=b23,m_turned:=PySem.W.mg_of X G a23,F_sure_of_point:=F24,b_sure_of_point:=b24,m_sure_of_point:=PySem.W.mg_of X G a24,F_way:=F25,b_way:=b25,m_way:=PySem.W.mg_of X G a25,F_reached:=F26,b_reached:=b26,m_reached:=PySem.W.mg_of X G a26,F_sure_of_two_points:=F27,b_sure_of_two_points:=b27,m_sure_of_two_points:=PySem.W.mg_of X G a27,F_turned_till_none_leads:=F28,b_turned_till_none_leads:=b28,m_turned_till_none_leads:=PySem.W.mg_of X G a28,F_ways_taken:=F29,b_ways_taken:=b29,m_ways_taken:=PySem.W.mg_of X G a29,F_ways_apart:=F30,b_ways_apart:=b30,m_ways_apart:=PySem.W.mg_of X G a30,F_all_parts:=F31,b_all_parts:=b31,m_all_parts:=PySem.W.mg_of X G a31,F_all_lots:=F32,b_all_lots:=b32,m_all_lots:=PySem.W.mg_of X G a32,F_times_over:=F33,b_times_over:=b33,m_times_over:=PySem.W.mg_of X G a33,F_pot:=F34,b_pot:=b34,m_pot:=PySem.W.mg_of X G a34,F_take:=F35,b_take:=b35,m_take:=PySem.W.mg_of X G a35,F_names:=F36,b_names:=b36,m_names:=PySem.W.mg_of X G a36,F_mixed:=F37,b_mixed:=b37,m_mixed:=PySem.W.mg_of X G a37,F_tie:=F38,b_tie:=b38,m_tie:=PySem.W.mg_of X G a38,F_web:=F39,b_web:=b39,m_web:=PySem.W.mg_of X G a39,F_drawn:=F40,b_drawn:=b40,m_drawn:=PySem.W.mg_of X G a40,F_many:=F41,b_many:=b41,m_many:=PySem.W.mg_of X G a41,F_right:=F42,b_right:=b42,m_right:=PySem.W.mg_of X G a42,F_law:=F43,b_law:=b43,m_law:=PySem.W.mg_of X G a43,h_LETTERS:=PySem.W.mg_of X G u_LETTERS,r_LETTERS:=⟨tk_LETTERS,rfl⟩,h_MOST_LETTERS:=PySem.W.mg_of X G u_MOST_LETTERS,r_MOST_LETTERS:=⟨tk_MOST_LETTERS,rfl⟩,h_MOST_POINTS:=PySem.W.mg_of X G u_MOST_POINTS,r_MOST_POINTS:=⟨tk_MOST_POINTS,rfl⟩,h_MOST_TIES:=PySem.W.mg_of X G u_MOST_TIES,r_MOST_TIES:=⟨tk_MOST_TIES,rfl⟩,n_names:=na_names,n_pairs:=na_pairs,m_Web:=PySem.W.mg_of X G aC_Web,c_Web:=⟨pg_Web,hd_Web,po_Web,sa_Web⟩,K_Web:=⟨mk_Web,a10,i10,kc_Web⟩,nm:=⟨PySem.W.mg_none_of X G z_len,PySem.W.mg_none_of X G z_max,PySem.W.mg_none_of X G z_min,PySem.W.mg_none_of X G z_abs,PySem.W.mg_none_of X G z_divmod,PySem.W.mg_none_of X G z_range,PySem.W.mg_none_of X G z_zip,PySem.W.mg_none_of X G z_list,PySem.W.mg_none_of X G z_tuple,PySem.W.mg_none_of X G z_int,PySem.W.mg_none_of X G z_str,PySem.W.mg_none_of X G z_set,PySem.W.mg_none_of X G z_all,PySem.W.mg_none_of X G z_isinstance⟩,nm2:=⟨PySem.W.mg_none_of X G z_enumerate,PySem.W.mg_none_of X G z_any,PySem.W.mg_none_of X G z_dict,PySem.W.mg_none_of X G z_sorted,PySem.W.mg_none_of X G z_repr,PySem.W.mg_none_of X G z_bool⟩,nm3:=⟨PySem.W.mg_none_of X G z_sum⟩}
  exact ⟨_,fun s v=>.of_eq rfl,fun base _ _ hCL hBL=>ok_law T ⟨cdl,hCL,hBL⟩⟩
theorem walk {l:PySem.W.OpenLaw} {q:Program} {loose:List Str} {XP:(Str→Option Value)→Heap→Prop} {YP:World→Heap→Prop} {d dt:DefRec} {K:Params→PySem.W.Frag} {c Pt:Addr} (hn:l.most=some 63) (hdf:d.params.defaults=[])
    (hY:∀(w:World) (h:Heap),YP w h→(K w.params).In h) (hrec:(PyProof.Rows.recsOf q).find? (fun e=>e.name == ("times_over" : Str))=some dt) (htab:∀w:World,PySem.W.tabIn (K w.params) "times_over" = some (c,Pt)) (hnt:∀w:World,PySem.W.noTabs (K w.params)=true)
    (F:∀(w:World) (mg:Str→Option Value) (fa:Addr) (h:Heap),(K w.params).In h→h.Ns mainGlobals mg→mg d.name=some (.ref fa)→
      ∃fd:FuncData,(∀(s:Shared) (u:Value),BindsTo s fd ⟨[u],[]⟩ [("_law_script",u)])∧∀base:Heap,(K w.params).In base→base.Ns mainGlobals mg→PySem.W.CodeHd base c Pt→base.BuiltinsAt mg Pt→FnOk l.prog w (K w.params) mg base CX0 11 fa fd ["_law_script"] (sp_law (K w.params) Pt)) :
    PySem.W.WalkO q loose XP YP l.row.toRowW d [] (fun f vs=>PySem.call f vs):=
  L2.walk_ofT (n:=63) (k:=11) (x:= "_law_script") (CX:=fun _=>CX0) (sp:=fun w=>sp_law (K w.params) Pt) hn (by decide) hdf ⟨rfl,by decide,by decide,rfl⟩ hY hrec htab hnt F (fun _ _ a ns hl hP hS=>⟨a,ns,rfl,hS,hl,.inl hP,fun _=>rfl⟩) fun _ _ _ _ _ z=>z
end K74
end
set_option Elab.async false
set_option maxRecDepth 100000
set_option maxHeartbeats 4000000
open PySem PySem.W PyProof.Rows
namespace PySem.W.Fast
def tw15635828805996812558:=0
def tw6635253900687445065:=0
def tw17159629468226227456:=0
def tw6742934997630330980:=0
def tw10779078771028088173:=0
def tw1701049088076494613:=0
def tw9631079784081753919:=0
def tw18338806467262701567:=0
def tw3444708552564754459:=0
def tw12027166692495717437:=0
def tw3745790347599342446:=0
def tw3812239902240259210:=0
end PySem.W.Fast
set_option maxRecDepth 100000 in
set_option maxHeartbeats 0 in
theorem PySem.Challenge.cw_pointways_k74_whole_times_by_ways_holds : PySem.Challenge.rw_pointways_k74_whole_times_by_ways.Holds := by
  w_on;o_law;k_head;(case hw=>w_witness2)
  k_fill
  refine' K74.walk (l:=PySem.Challenge.rw_pointways_k74_whole_times_by_ways) rfl rfl (fun w h Y=>PySem.W.km_in_of Y) ?lamR ?lamB ?lamN ?F
  case lamR=>rfl
  case lamB=>
    intro w
    refine' L2.tabIn_of ?b1 ?b2 ?b3 ?b4 ?b5
    (case b1=>k_is)
    (case b2=>k_is)
    (case b3=>rfl)
    (case b4=>k_is)
    (case b5=>rfl)
  case lamN=>intro w;kernel_rfl
  case F=>
    intro w mg fa h KX G hmg
    refine' K74.all_mk KX G hmg ?aC_Web ?a1 ?l1 ?c1 ?k1 ?a2 ?l2 ?c2 ?k2 ?a3 ?l3 ?c3 ?k3 ?a4 ?l4 ?c4 ?k4 ?a5 ?l5 ?c5 ?k5 ?a6 ?l6 ?c6 ?k6 ?a7 ?l7 ?c7 ?k7 ?a8 ?l8 ?c8 ?k8 ?a9 ?l9 ?c9 ?k9 ?a10 ?i10 ?l10 ?c10 ?k10 ?a11 ?i11 ?l11 ?c11 ?k11 ?a12 ?i12 ?l12 ?c12 ?k12 ?a13 ?i13 ?l13 ?c13 ?k13 ?a14 ?l14 ?c14 ?k14 ?a15 ?l15 ?c15 ?k15 ?a16 ?l16 ?c16 ?k16 ?a17 ?l17 ?c17 ?k17 ?a18 ?l18 ?c18 ?k18 ?a19 ?l19 ?c19 ?k19 ?a20 ?l20 ?c20 ?k20 ?a21 ?l21 ?c21 ?k21 ?a22 ?l22 ?c22 ?k22 ?a23 ?l23 ?c23 ?k23 ?a24 ?l24 ?c24 ?k24 ?a25 ?l25 ?c25 ?k25 ?a26 ?l26 ?c26 ?k26 ?a27 ?l27 ?c27 ?k27 ?a28 ?l28 ?c28 ?k28 ?a29 ?l29 ?c29 ?k29 ?a30 ?l30 ?c30 ?k30 ?a31 ?l31 ?c31 ?k31 ?a32 ?l32 ?c32 ?k32 ?a33 ?l33 ?c33 ?k33 ?a34 ?l34 ?c34 ?k34 ?a35 ?l35 ?c35 ?k35 ?a36 ?l36 ?c36 ?k36 ?a37 ?l37 ?c37 ?k37 ?a38 ?l38 ?c38 ?k38 ?a39 ?l39 ?c39 ?k39 ?a40 ?l40 ?c40 ?k40 ?a41 ?l41 ?c41 ?k41 ?a42 ?l42 ?c42 ?k42 ?a43 ?l43 ?c43 ?k43 ?u_LETTERS ?u_MOST_LETTERS ?u_MOST_POINTS ?u_MOST_TIES ?pg_Web ?hd_Web ?po_Web ?sa_Web ?mk_Web ?kc_Web ?na_names ?na_pairs ?z_len ?z_max ?z_min ?z_abs ?z_divmod ?z_range ?z_zip ?z_list ?z_tuple ?z_int ?z_str ?z_set ?z_all ?z_isinstance ?z_enumerate ?z_any ?z_dict ?z_sorted ?z_repr ?z_bool ?z_sum ?cdl
    (case aC_Web=>k_is)
    (case a1=>k_is)
    (case l1=>k_is)
    (case c1=>k_is)
    (case k1=>k_is)
    (case a2=>k_is)
    (case l2=>k_is)
    (case c2=>k_is)
    (case k2=>k_is)
    (case a3=>k_is)
    (case l3=>k_is)
    (case c3=>k_is)
    (case k3=>k_is)
    (case a4=>k_is)
    (case l4=>k_is)
    (case c4=>k_is)
    (case k4=>k_is)
    (case a5=>k_is)
    (case l5=>k_is)
    (case c5=>k_is)
    (case k5=>k_is)
    (case a6=>k_is)
    (case l6=>k_is)
    (case c6=>k_is)
    (case k6=>k_is)
    (case a7=>k_is)
    (case l7=>k_is)
    (case c7=>k_is)
    (case k7=>k_is)
    (case a8=>k_is)
    (case l8=>k_is)
    (case c8=>k_is)
    (case k8=>k_is)
    (case a9=>k_is)
    (case l9=>k_is)
    (case c9=>k_is)
    (case k9=>k_is)
    (case a10=>k_is)
    (case i10=>k_is)
    (case l10=>k_is)
    (case c10=>k_is)
    (case k10=>k_is)
    (case a11=>k_is)
    (case i11=>k_is)
    (case l11=>k_is)
    (case c11=>k_is)
    (case k11=>k_is)
    (case a12=>k_is)
    (case i12=>k_is)
    (case l12=>k_is)
    (case c12=>k_is)
    (case k12=>k_is)
    (case a13=>k_is)
    (case i13=>k_is)
    (case l13=>k_is)
    (case c13=>k_is)
    (case k13=>k_is)
    (case a14=>k_is)
    (case l14=>k_is)
    (case c14=>k_is)
    (case k14=>k_is)
    (case a15=>k_is)
    (case l15=>k_is)
    (case c15=>k_is)
    (case k15=>k_is)
    (case a16=>k_is)
    (case l16=>k_is)
    (case c16=>k_is)
    (case k16=>k_is)
    (case a17=>k_is)
    (case l17=>k_is)
    (case c17=>k_is)
    (case k17=>k_is)
    (case a18=>k_is)
    (case l18=>k_is)
    (case c18=>k_is)
    (case k18=>k_is)
    (case a19=>k_is)
    (case l19=>k_is)
    (case c19=>k_is)
    (case k19=>k_is)
    (case a20=>k_is)
    (case l20=>k_is)
    (case c20=>k_is)
    (case k20=>k_is)
    (case a21=>k_is)
    (case l21=>k_is)
    (case c21=>k_is)
    (case k21=>k_is)
    (case a22=>k_is)
    (case l22=>k_is)
    (case c22=>k_is)
    (case k22=>k_is)
    (case a23=>k_is)
    (case l23=>k_is)
    (case c23=>k_is)
    (case k23=>k_is)
    (case a24=>k_is)
    (case l24=>k_is)
    (case c24=>k_is)
    (case k24=>k_is)
    (case a25=>k_is)
    (case l25=>k_is)
    (case c25=>k_is)
    (case k25=>k_is)
    (case a26=>k_is)
    (case l26=>k_is)
    (case c26=>k_is)
    (case k26=>k_is)
    (case a27=>k_is)
    (case l27=>k_is)
    (case c27=>k_is)
    (case k27=>k_is)
    (case a28=>k_is)
    (case l28=>k_is)
    (case c28=>k_is)
    (case k28=>k_is)
    (case a29=>k_is)
    (case l29=>k_is)
    (case c29=>k_is)
    (case k29=>k_is)
    (case a30=>k_is)
    (case l30=>k_is)
    (case c30=>k_is)
    (case k30=>k_is)
    (case a31=>k_is)
    (case l31=>k_is)
    (case c31=>k_is)
    (case k31=>k_is)
    (case a32=>k_is)
    (case l32=>k_is)
    (case c32=>k_is)
    (case k32=>k_is)
    (case a33=>k_is)
    (case l33=>k_is)
    (case c33=>k_is)
    (case k33=>k_is)
    (case a34=>k_is)
    (case l34=>k_is)
    (case c34=>k_is)
    (case k34=>k_is)
    (case a35=>k_is)
    (case l35=>k_is)
    (case c35=>k_is)
    (case k35=>k_is)
    (case a36=>k_is)
    (case l36=>k_is)
    (case c36=>k_is)
    (case k36=>k_is)
    (case a37=>k_is)
    (case l37=>k_is)
    (case c37=>k_is)
    (case k37=>k_is)
    (case a38=>k_is)
    (case l38=>k_is)
    (case c38=>k_is)
    (case k38=>k_is)
    (case a39=>k_is)
    (case l39=>k_is)
    (case c39=>k_is)
    (case k39=>k_is)
    (case a40=>k_is)
    (case l40=>k_is)
    (case c40=>k_is)
    (case k40=>k_is)
    (case a41=>k_is)
    (case l41=>k_is)
    (case c41=>k_is)
    (case k41=>k_is)
    (case a42=>k_is)
    (case l42=>k_is)
    (case c42=>k_is)
    (case k42=>k_is)
    (case a43=>k_is)
    (case l43=>k_is)
    (case c43=>k_is)
    (case k43=>k_is)
    (case u_LETTERS=>k_is)
    (case u_MOST_LETTERS=>k_is)
    (case u_MOST_POINTS=>k_is)
    (case u_MOST_TIES=>k_is)
    (case pg_Web=>k_is)
    (case hd_Web=>k_is)
    (case po_Web=>k_is)
    (case sa_Web=>k_is)
    (case mk_Web=>k_is)
    (case kc_Web=>k_is)
    (case na_names=>k_is)
    (case na_pairs=>k_is)
    (case z_len=>k_is)
    (case z_max=>k_is)
    (case z_min=>k_is)
    (case z_abs=>k_is)
    (case z_divmod=>k_is)
    (case z_range=>k_is)
    (case z_zip=>k_is)
    (case z_list=>k_is)
    (case z_tuple=>k_is)
    (case z_int=>k_is)
    (case z_str=>k_is)
    (case z_set=>k_is)
    (case z_all=>k_is)
    (case z_isinstance=>k_is)
    (case z_enumerate=>k_is)
    (case z_any=>k_is)
    (case z_dict=>k_is)
    (case z_sorted=>k_is)
    (case z_repr=>k_is)
    (case z_bool=>k_is)
    (case z_sum=>k_is)
    (case cdl=>rfl)


