import PyProof.Rows.All
import Wide.All
import OpenK.AllK
import Wide.FinOn
import Lean
import PyProof.EqAt
import PyProof.EqKinds
import PyProof.TupleCall
import PyProof.NeData
import PyProof.AttrMissHeap
import PyProof.FactsAll.enumerate_1
import KE.KDictOf
import PyProof.EnumMake
import PyProof.Rows.SumAny
import PyProof.Rows.StrJoin2
import PyProof.Rows.CountFlat
import PyProof.Rows.FoldWordsD
import PyProof.Rows.SeqMore2
import PyProof.Rows.MinMaxN
import PyProof.Rows.StrInSeq3
import PyProof.Rows.ReprR
import PyProof.StrLawsRepr
import PyProof.StrOps2
import PyProof.Rows.SeqMore
import PySem.Challenge.RW_pointways_k92_whole_papers_read
set_option genSizeOfSpec false
noncomputable section
set_option Elab.async false
set_option linter.all false
set_option maxRecDepth 100000
namespace L2
open PySem PySem.Spec PyProof.Rows
abbrev Key:=Sum Int Str
def keyIs:Key→Value→Bool
  | .inl k,v=>Value.isInt k v
  | .inr x,v=>Value.isStrOf x v
def keyH (w:World):Key→Int
  | .inl k=>hashInt k
  | .inr x=>hashStr w x
theorem keyIs_shape:∀{k:Key} {v:Value},keyIs k v=true→(∃i t,k=Sum.inl i∧v=Value.int i t)∨(∃x t,k=Sum.inr x∧v=Value.str x t)
  | .inl i,v,h=>by
    obtain ⟨t,e⟩:=Value.isInt_shape (k:=i) (v:=v) h
    exact .inl ⟨i,t,rfl,e⟩
  | .inr x,v,h=>by
    obtain ⟨t,e⟩:=Value.isStrOf_shape (x:=x) (v:=v) h
    exact .inr ⟨x,t,rfl,e⟩
theorem keyIs_int (i:Int) (t:Tok):keyIs (.inl i) (.int i t)=true:=by simp [keyIs,Value.isInt]
theorem keyIs_str (x:Str) (t:Tok):keyIs (.inr x) (.str x t)=true:=by simp [keyIs,Value.isStrOf]
theorem key_ll (a b:Int):decide ((Sum.inl a:Key)=Sum.inl b)=(a == b):=by
  by_cases e:a=b
  ·subst e;simp
  · have h:¬(Sum.inl a:Key)=Sum.inl b:=fun q=>e (Sum.inl.inj q)
    rw [decide_eq_false h]
    exact (beq_eq_false_iff_ne.mpr e).symm
theorem key_rr (a b:Str):decide ((Sum.inr a:Key)=Sum.inr b)=decide (a=b):=by
  by_cases e:a=b
  ·subst e;simp
  · have h:¬(Sum.inr a:Key)=Sum.inr b:=fun q=>e (Sum.inr.inj q)
    rw [decide_eq_false h,decide_eq_false e]
theorem key_lr (a:Int) (b:Str):decide ((Sum.inl a:Key)=Sum.inr b)=false:=decide_eq_false (fun q=>nomatch q)
theorem key_rl (a:Str) (b:Int):decide ((Sum.inr a:Key)=Sum.inl b)=false:=decide_eq_false (fun q=>nomatch q)
def mixKind (prog:Program) (w:World):PySem.KeyKind prog w Key where
  is:=keyIs
  hash:=keyH w
  inj:=fun v a b ha hb=>by
    rcases keyIs_shape ha with ⟨i,t,rfl,rfl⟩ | ⟨x,t,rfl,rfl⟩
    · rcases keyIs_shape hb with ⟨j,u,rfl,e⟩ | ⟨y,u,rfl,e⟩
      ·injection e with e1 _;rw [e1]
      ·exact nomatch e
    · rcases keyIs_shape hb with ⟨j,u,rfl,e⟩ | ⟨y,u,rfl,e⟩
      ·exact nomatch e
      ·injection e with e1 _;rw [e1]
  byValue:=fun k v h=>by
    rcases keyIs_shape h with ⟨i,t,rfl,rfl⟩ | ⟨x,t,rfl,rfl⟩ <;> rfl
  pyHash:=fun hv h=>by
    rcases keyIs_shape hv with ⟨i,t,rfl,rfl⟩ | ⟨x,t,rfl,rfl⟩
    ·exact wpAny_pyHash_int h
    ·exact wpAny_pyHash_str h
  eqBool:=fun hu hv h=>by
    rcases keyIs_shape hu with ⟨i,t,rfl,rfl⟩ | ⟨x,t,rfl,rfl⟩
    · rcases keyIs_shape hv with ⟨j,u,rfl,rfl⟩ | ⟨y,u,rfl,rfl⟩
      ·rw [key_ll] at h;exact wpAny_eqBool_int h
      ·rw [key_lr] at h;exact SeqAt.EqAt.int_str i t y u _ _ _ _ h
    · rcases keyIs_shape hv with ⟨j,u,rfl,rfl⟩ | ⟨y,u,rfl,rfl⟩
      ·rw [key_rl] at h;exact SeqAt.EqAt.str_int x t j u _ _ _ _ h
      ·rw [key_rr] at h;exact wpAny_eqBool_str h
  «strs»:=fun k x t v h=>by
    rcases keyIs_shape h with ⟨i,u,rfl,e⟩ | ⟨y,u,rfl,e⟩
    ·exact nomatch e
    · injection e with e1 _
      subst e1
      cases v <;> rfl
theorem mixKind_is (prog:Program) (w:World) (k:Key) (v:Value):(mixKind prog w).is k v=keyIs k v:=rfl
theorem mixKind_int (prog:Program) (w:World) (i:Int) (t:Tok):(mixKind prog w).is (.inl i) (.int i t)=true:=keyIs_int i t
theorem mixKind_str (prog:Program) (w:World) (x:Str) (t:Tok):(mixKind prog w).is (.inr x) (.str x t)=true:=keyIs_str x t
inductive V where
  | non | bl (b:Bool) | int (i:Int) | str (x:Str) | byt (b:Array UInt8) | flt (b:UInt64) | ref (a:Addr) | ty (n:String)
  deriving DecidableEq
def RelV:V→Value→Prop
  | .non,u=>u=Value.none
  | .bl b,u=>u=Value.bool b
  | .int i,u=>∃t,u=Value.int i t
  | .str x,u=>∃t,u=Value.str x t
  | .byt b,u=>∃t,u=Value.bytes b t
  | .flt b,u=>∃t,u=Value.float b t
  | .ref a,u=>u=Value.ref a
  | .ty n,u=>u=Value.type n
abbrev Vals:List V→List Value→Prop:=Paired RelV
theorem Vals.length {xs:List V} {us:List Value} (r:Vals xs us):xs.length=us.length:=Paired.length r
theorem Vals.get:∀{xs:List V} {us:List Value} {i:Nat} {x:V},Vals xs us→xs[i]? = some x→∃u,us[i]? = some u∧RelV x u
  | _,_,_,_,.nil,e=>by simp at e
  | _,_,0,_,.cons r _,e=>by simp at e;subst e;exact ⟨_,rfl,r⟩
  | _,_,i+1,x,.cons _ t,e=>by
    obtain ⟨u,h1,h2⟩:=Vals.get (i:=i) (x:=x) t (by simpa using e)
    exact ⟨u,by simpa using h1,h2⟩
theorem Vals.set {x:V} {u:Value} (r:RelV x u):∀{xs:List V} {us:List Value} (i:Nat),Vals xs us→Vals (xs.set i x) (us.set i u)
  | _,_,_,.nil=>.nil
  | _,_,0,.cons _ t=>.cons r t
  | _,_,i+1,.cons q t=>.cons q (Vals.set r i t)
theorem Vals.append:∀{xs ys:List V} {us ws:List Value},Vals xs us→Vals ys ws→Vals (xs++ys) (us++ws)
  | _,_,_,_,.nil,s=>s
  | _,_,_,_,.cons r t,s=>.cons r (Vals.append t s)
theorem Vals.take:∀{xs:List V} {us:List Value} (n:Nat),Vals xs us→Vals (xs.take n) (us.take n)
  | _,_,0,_=>.nil
  | _,_,_+1,.nil=>.nil
  | _,_,n+1,.cons r t=>.cons r (Vals.take n t)
theorem Vals.drop:∀{xs:List V} {us:List Value} (n:Nat),Vals xs us→Vals (xs.drop n) (us.drop n)
  | _,_,0,r=>r
  | _,_,_+1,.nil=>.nil
  | _,_,n+1,.cons _ t=>Vals.drop n t
def RelO:Option V→Option Value→Prop
  | some v,some u=>RelV v u
  | none,none=>True
  | _,_=>False
def KV {κ:Type}:List (κ×V)→List (κ×Value)→Prop:=Paired fun (p:κ×V) (q:κ×Value)=>p.1=q.1∧RelV p.2 q.2
def kV:Key→V
  | .inl i=>.int i
  | .inr x=>.str x
inductive HO where
  | lst (xs:List V)
  | tup (xs:List V)
  | dK (kvs:List (Key×V)) | dT (kvs:List (List Key×V))
  | set (S:Int→Bool) (n:Nat)
  | ins (C dx:Addr) (fs:List (Str×V))
  | own (x:Addr)
  | xd (fs:List (Str×V))
  | met (f x:Addr)
  | rng (lo hi:Int)
  | frz (o:Obj) (u:HO)
  | tbl (ps:Array Value)
  | ext (φ:Heap→Prop)
abbrev Hp:=Addr→Option HO
def upd (H:Hp) (a:Addr) (o:HO):Hp:=fun b=>if b=a then some o else H b
theorem upd_same {H:Hp} {a:Addr} {o:HO}:upd H a o a=some o:=by unfold upd;rw [if_pos rfl]
theorem upd_ne {H:Hp} {a b:Addr} {o:HO} (h:b≠a):upd H a o b=H b:=by unfold upd;rw [if_neg h]
theorem ne_of {H:Hp} {a b:Addr} {o u:HO} (h:H a=some o) (h':H b=some u) (d:o≠u):a≠b:=by
  intro e;subst e;rw [h] at h';exact d (Option.some.inj h')
theorem ne_of_none {H:Hp} {a b:Addr} {o:HO} (h:H a=some o) (h':H b=none):a≠b:=by
  intro e;subst e;rw [h] at h';cases h'
section
variable (P:Program) (w:World)
def ObjOk (H:Hp) (h:Heap) (a:Addr):HO→Prop
  | .lst xs=>xs.length≤sizeLine∧∃(its:List Value) (n:Nat),Vals xs its∧h.get? a=some {cls:=.type "list",data:=.seq its.toArray n}
  | .tup xs=>xs.length≤sizeLine∧∃its:List Value,Vals xs its∧IsTup h a its.toArray
  | .dK kvs=>kvs.length≤sizeLine∧(a == sysModules)=false∧∃vs,KV kvs vs∧h.DictOf (mixKind P w) a vs
  | .dT kvs=>kvs.length≤sizeLine∧(a == sysModules)=false∧∃xs:List (List Key×Addr×Value),
      Paired (fun (p:List Key×V) (q:List Key×Addr×Value)=>p.1=q.1∧H q.2.1=some (.tup (p.1.map kV))∧RelV p.2 q.2.2) kvs xs∧
      ∃o es ep,h.get? a=some o∧o.ExactDict∧o.data = .dict es ep∧es.toList=xs.map (entryOfKey (tupleKind (mixKind P w)))∧(xs.map (·.1)).Nodup
  | .set S n=>h.SetOf (intKind P w) a S n
  | .ins C dx fs=>H dx=some (.own a)∧fs.length≤1000∧dx≠a∧h.get? a=some (PySem.W.instObj C dx)∧
      ∃mA,h.Ns1 dx mA∧(∀f,RelO (fs.lookup f) (mA f))∧PySem.Within mA (fs.map (·.1))
  | .own _=>∃o,h.get? a=some o
  | .xd fs=>∃mA,h.Ns1 a mA∧∀f,RelO (fs.lookup f) (mA f)
  | .rng lo hi=>∃t u v,h.get? a=some {cls:=.type "range",data:=.fields #[.int lo t,.int hi u,.int 1 v]}
  | .frz o u=>h.get? a=some o∧ObjOk H h a u
  | .tbl ps=>h.get? a=some {cls:=.none,data:=.fields ps}
  | .met f x=>h.get? a=some (PySem.W.methodObj (.ref f) (.ref x))
  | .ext φ=>φ h∧(∃o,h.get? a=some o)∧∀h1 h2:Heap,φ h1→(∀o,h1.get? a=some o→h2.get? a=some o)→φ h2
def HOk (H:Hp) (h:Heap):Prop:=∀a o,H a=some o→ObjOk P w H h a o
end
section
variable {P:Program} {w:World} {H H':Hp} {h h':Heap} {a:Addr} {o:HO}
theorem ObjOk.lt (x:ObjOk P w H h a o):a<h.objs.size:=by
  cases o with
  | lst xs=>obtain ⟨_,_,_,_,e⟩:=x;exact Heap.lt_size e
  | tup xs=>obtain ⟨_,_,_,p⟩:=x;exact p.lt
  | dK kvs=>obtain ⟨_,_,_,_,o,_,_,e,_⟩:=x;exact Heap.lt_size e
  | dT kvs=>obtain ⟨_,_,_,_,o,_,_,e,_⟩:=x;exact Heap.lt_size e
  | set S n=>obtain ⟨o,_,_,_,e,_⟩:=x;exact Heap.lt_size e
  | ins C dx fs=>obtain ⟨_,_,_,e,_⟩:=x;exact Heap.lt_size e
  | own y=>obtain ⟨_,e⟩:=x;exact Heap.lt_size e
  | xd fs=>obtain ⟨_,⟨_,_,_,e,_⟩,_⟩:=x;exact Heap.lt_size e
  | rng lo hi=>obtain ⟨_,_,_,e⟩:=x;exact Heap.lt_size e
  | frz ob u=>obtain ⟨e,_⟩:=x;exact Heap.lt_size e
  | tbl ps=>exact Heap.lt_size (show h.get? a=some _ from x)
  | met f y=>exact Heap.lt_size (show h.get? a=some _ from x)
  | ext φ=>obtain ⟨_,⟨_,e⟩,_⟩:=x;exact Heap.lt_size e
theorem Paired.mapP {α β:Type} {F G:α→β→Prop}:∀{l₁:List α} {l₂:List β},Paired F l₁ l₂→(∀a b,F a b→G a b)→Paired G l₁ l₂
  | _,_,.nil,_=>.nil
  | _,_,.cons r t,f=>.cons (f _ _ r) (Paired.mapP t f)
theorem ObjOk.stay (x:ObjOk P w H h a o) (k:∀b u,(b=a∨H b=some (.own a))→h.get? b=some u→h'.get? b=some u)
    (ho:∀b,H b=some (.own a)→H' b=some (.own a)) (ht:∀b xs,H b=some (.tup xs)→H' b=some (.tup xs)):ObjOk P w H' h' a o:=by
  induction o with
  | lst xs=>obtain ⟨z,its,n,r,e⟩:=x;exact ⟨z,its,n,r,k _ _ (.inl rfl) e⟩
  | tup xs=>obtain ⟨z,its,r,ob,e,c⟩:=x;exact ⟨z,its,r,ob,k _ _ (.inl rfl) e,c⟩
  | dK kvs=>obtain ⟨z,y,vs,r,ob,es,ep,e,c⟩:=x;exact ⟨z,y,vs,r,ob,es,ep,k _ _ (.inl rfl) e,c⟩
  | dT kvs=>
    obtain ⟨z,y,xs,r,ob,es,ep,e,c⟩:=x
    exact ⟨z,y,xs,Paired.mapP r fun p q z=>⟨z.1,ht _ _ z.2.1,z.2.2⟩,ob,es,ep,k _ _ (.inl rfl) e,c⟩
  | set S n=>obtain ⟨ob,es,ep,t,e,c⟩:=x;exact ⟨ob,es,ep,t,k _ _ (.inl rfl) e,c⟩
  | ins C dx fs=>
    obtain ⟨d,z,ne,e,mA,⟨od,es,ep,e2,c⟩,r⟩:=x
    exact ⟨ho _ d,z,ne,k _ _ (.inl rfl) e,mA,⟨od,es,ep,k _ _ (.inr d) e2,c⟩,r⟩
  | own y=>obtain ⟨ob,e⟩:=x;exact ⟨ob,k _ _ (.inl rfl) e⟩
  | xd fs=>obtain ⟨mA,⟨od,es,ep,e,c⟩,r⟩:=x;exact ⟨mA,⟨od,es,ep,k _ _ (.inl rfl) e,c⟩,r⟩
  | rng lo hi=>obtain ⟨t,u,v,e⟩:=x;exact ⟨t,u,v,k _ _ (.inl rfl) e⟩
  | frz ob u ih=>obtain ⟨e,q⟩:=x;exact ⟨k _ _ (.inl rfl) e,ih q⟩
  | tbl ps=>
    have e:h.get? a=some {cls:=.none,data:=.fields ps}:=x
    show h'.get? a=some {cls:=.none,data:=.fields ps}
    exact k a _ (.inl rfl) e
  | met f y=>
    have e:h.get? a=some (PySem.W.methodObj (.ref f) (.ref y)):=x
    show h'.get? a=some (PySem.W.methodObj (.ref f) (.ref y))
    exact k a _ (.inl rfl) e
  | ext φ=>obtain ⟨p,⟨o,e⟩,st⟩:=x;exact ⟨st _ _ p fun o q=>k _ _ (.inl rfl) q,⟨o,k _ _ (.inl rfl) e⟩,st⟩
theorem HOk.lt (x:HOk P w H h) (e:H a=some o):a<h.objs.size:=(x a o e).lt
theorem HOk.fresh (x:HOk P w H h) (e:h.objs.size≤a):H a=none:=by
  cases q:H a with
  | none=>rfl
  | some u=>exact absurd (Nat.lt_of_lt_of_le (x.lt q) e) (Nat.lt_irrefl _)
theorem HOk.kept (x:HOk P w H h) (k:∀b u,h.get? b=some u→h'.get? b=some u):HOk P w H h':=fun a o e=>
  (x a o e).stay (fun b u _ q=>k b u q) (fun _ q=>q) fun _ _ q=>q
theorem HOk.laid (x:HOk P w H h) (k:∀b u,h.get? b=some u→h'.get? b=some u) (hp:h.objs.size≤a) (new:ObjOk P w (upd H a o) h' a o):HOk P w (upd H a o) h':=fun b u e=>by
  have hn:=x.fresh hp
  by_cases hb:b=a
  ·subst hb;rw [upd_same] at e;cases e;exact new
  · rw [upd_ne hb] at e
    exact (x b u e).stay (fun c v _ q=>k c v q) (fun c q=>by rw [upd_ne (ne_of_none q hn)];exact q) fun c xs q=>by rw [upd_ne (ne_of_none q hn)];exact q
end
def Rd (H:Hp) (a:Addr) (u:HO):Prop:=H a=some u∨∃o,H a=some (.frz o u)
theorem Rd.ok {P:Program} {w:World} {H:Hp} {h:Heap} {a:Addr} {u:HO} (r:Rd H a u) (x:HOk P w H h):ObjOk P w H h a u:=by
  rcases r with r | ⟨o,r⟩
  ·exact x a u r
  · obtain ⟨_,q⟩:=x a _ r
    exact q
def Mut:Option HO→Prop
  | some (.lst _)=>True
  | some (.dK _)=>True
  | some (.dT _)=>True
  | some (.set _ _)=>True
  | some (.ins _ _ _)=>True
  | some (.ext _)=>True
  | _=>False
section
variable {P:Program} {w:World} {H:Hp} {h h':Heap} {x e:Addr} {o':HO}
theorem HOk.write (ok:HOk P w H h) (mu:Mut (H x)) (he:e=x∨H e=some (.own x)) (k:∀b u,b≠e→h.get? b=some u→h'.get? b=some u) (heo:∃u,h'.get? e=some u)
    (new:ObjOk P w (upd H x o') h' x o'):HOk P w (upd H x o') h':=fun b u q=>by
  have nown:∀c y,H c=some (.own y)→c≠x:=fun c y r z=>by subst z;rw [r] at mu;exact mu
  have ntup:∀c xs,H c=some (.tup xs)→c≠x:=fun c xs r z=>by subst z;rw [r] at mu;exact mu
  by_cases hb:b=x
  ·subst hb;rw [upd_same] at q;cases q;exact new
  · rw [upd_ne hb] at q
    by_cases hbe:b=e
    · have q':H b=some (.own x):=by
        rcases he with z | z
        ·exact absurd (hbe.trans z) hb
        ·rw [hbe];exact z
      rw [q] at q';cases q'
      obtain ⟨v,hv⟩:=heo
      exact ⟨v,by rw [hbe];exact hv⟩
    · refine (ok b u q).stay (fun c v hc r=>k c v ?_ r) (fun c r=>by rw [upd_ne (nown c b r)];exact r) fun c xs r=>by rw [upd_ne (ntup c xs r)];exact r
      rcases hc with rfl | hc
      ·exact hbe
      · rintro rfl
        rcases he with z | z
        ·exact nown c b hc z
        ·rw [hc] at z;cases z;exact hb rfl
end
structure Un (fs ex:List Addr) (H H':Hp) (h h':Heap):Prop where
  keep:∀b o,h.get? b=some o→H b=none→b∉fs→b∉ex→h'.get? b=some o
  slot:∀b o,h.get? b=some o→H b=none→b∈fs→b∉ex→∃sl,h'.get? b=some {o with slots:=sl}
  free:∀b o,h.get? b=some o→H b=none→b∉ex→H' b=none
  there:∀b o,h.get? b=some o→b∉ex→∃o',h'.get? b=some o'
  tups:∀b xs,H b=some (.tup xs)→H' b=some (.tup xs)
  frzs:∀b o u,H b=some (.frz o u)→H' b=some (.frz o u)
  tbls:∀b ps,H b=some (.tbl ps)→∃more,H' b=some (.tbl (ps++more))
section
variable {fs fs' ex ex':List Addr} {H H1 H2:Hp} {h h1 h2 h':Heap} {a x e:Addr} {o:HO}
theorem Un.any (u:Un fs ex H H1 h h1) {b:Addr} {ob:Obj} (q:h.get? b=some ob) (n:H b=none) (hx:b∉ex):∃sl,h1.get? b=some {ob with slots:=sl}:=by
  by_cases hb:b∈fs
  ·exact u.slot b ob q n hb hx
  ·exact ⟨ob.slots,u.keep b ob q n hb hx⟩
theorem Un.kept (k:∀b u,h.get? b=some u→h'.get? b=some u):Un fs ex H H h h':=
  ⟨fun b ob q _ _ _=>k b ob q,fun b ob q _ _ _=>⟨ob.slots,k b ob q⟩,fun _ _ _ n _=>n,fun b ob q _=>⟨ob,k b ob q⟩,fun _ _ q=>q,fun _ _ _ q=>q,fun _ ps q=>⟨#[],by rw [q];simp⟩⟩
theorem Un.refl:Un fs ex H H h h:=Un.kept fun _ _ q=>q
theorem Un.laid (k:∀b u,h.get? b=some u→h'.get? b=some u) (hp:h.objs.size≤a) (hn:H a=none):Un fs ex H (upd H a o) h h' where
  keep:=fun b u q _ _ _=>k b u q
  slot:=fun b u q _ _ _=>⟨u.slots,k b u q⟩
  free:=fun b u q n _=>by rw [upd_ne (Nat.ne_of_lt (Nat.lt_of_lt_of_le (Heap.lt_size q) hp))];exact n
  there:=fun b u q _=>⟨u,k b u q⟩
  tups:=fun b xs q=>by rw [upd_ne (ne_of_none q hn)];exact q
  frzs:=fun b u xs q=>by rw [upd_ne (ne_of_none q hn)];exact q
  tbls:=fun b ps q=>⟨#[],by rw [upd_ne (ne_of_none q hn),q];simp⟩
theorem Un.write (mu:Mut (H x)) (he:e=x∨H e=some (.own x)) (k:∀b u,b≠e→h.get? b=some u→h'.get? b=some u) (heo:∃u,h'.get? e=some u):Un fs ex H (upd H x o) h h':=by
  have hx:∀b,H b=none→b≠x:=fun b n z=>by subst z;rw [n] at mu;exact mu
  have hb:∀b,H b=none→b≠e:=fun b n z=>by
    subst z
    rcases he with r | r
    ·exact hx b n r
    ·rw [n] at r;cases r
  have hm:∀b u,H b=some u→¬Mut (some u)→b≠x:=fun b u q nm z=>by subst z;rw [q] at mu;exact nm mu
  refine ⟨fun b u q n _ _=>k b u (hb b n) q,fun b u q n _ _=>⟨u.slots,k b u (hb b n) q⟩,fun b u q n _=>by rw [upd_ne (hx b n)];exact n,fun b u q _=>?_,
    fun b xs q=>by rw [upd_ne (hm b _ q fun z=>z)];exact q,fun b u xs q=>by rw [upd_ne (hm b _ q fun z=>z)];exact q,fun b ps q=>⟨#[],by rw [upd_ne (hm b _ q fun z=>z),q];simp⟩⟩
  by_cases hbe:b=e
  ·subst hbe;exact heo
  ·exact ⟨u,k b u hbe q⟩
end
def trk (h:Heap) (H:Hp):List Addr:=(List.range h.objs.size).filter fun a=>(H a).isSome
def hidT (h:Heap) (H:Hp):Heap:=PySem.W.hideAll h (trk h H)
theorem hidT_size (h:Heap) (H:Hp):(hidT h H).objs.size=h.objs.size:=PySem.W.hideAll_size _ _
theorem hidT_get {h:Heap} {H:Hp} {b:Addr} {o:Obj} (e:h.get? b=some o) (n:H b=none):(hidT h H).get? b=some o:=
  PySem.W.hideAll_get _ e fun hm=>by
    have q:(H b).isSome=true:=(List.mem_filter.mp hm).2
    rw [n] at q;simp at q
theorem of_hidT {h:Heap} {H:Hp} {b:Addr} {o:Obj} (e:(hidT h H).get? b=some o):h.get? b=some o∧H b=none:=by
  have e':h.get? b=some o:=PySem.W.of_hideAll (trk h H) e
  refine ⟨e',?_⟩
  cases q:H b with
  | none=>rfl
  | some x=>
    have hm:b∈trk h H:=List.mem_filter.mpr ⟨List.mem_range.mpr (Heap.lt_size e'),by simp [q]⟩
    have z:(hidT h H).get? b=none:=PySem.W.hideAll_none (trk h H) hm
    rw [z] at e;cases e
def allNews (g h:Heap) (L:Addr):List (Addr×Obj):=(List.range h.objs.size).filterMap fun a=>if a=L∨(g.get? a).isSome=true then none else (h.get? a).map fun o=>(a,o)
def rest (g h:Heap) (L d:Addr):List (Addr×Obj):=(allNews g h L).filter fun p=>decide (p.1≠d)
structure Mod (K:PySem.W.Frag) (mg:Str→Option Value) (base:Heap):Prop where
  kin:K.In base
  glob:base.Ns mainGlobals mg
  blt:∃mb,base.Ns builtinsNs mb∧∀x:Str,x≠ "__name__" →mb x=bootBuiltins x
  nolimit:base.NoLimit
set_option genInjectivity false in
structure Cx where
  prog:Program
  w:World
  K:PySem.W.Frag
  mg:Str→Option Value
  base:Heap
  A:Around
  N:List Str
  s₀:Shared
  H₀:Hp
  env:Env
  outer:List Env
  stack:List Env
  ex:List Addr
  fn:Str→Bool
  calm:Bool
  pn:List (Addr×Obj)
  xe:Value→Shared→Prop
def frs (l:List Env):List Addr:=l.filterMap (·.frame)
abbrev Cx.fs (X:Cx):List Addr:=frs X.outer
def Vis (sc:Scope) (x:Str):Prop:=sc.names.lookup x=some .local∨sc.names.lookup x=some .cell∨sc.names.lookup x=some .free
def Loc (sc:Scope) (x:Str):Prop:=sc.names.lookup x=some .local∨sc.names.lookup x=some .cell
def Look (env:Env) (h:Heap) (m:Str→Option Value) (x:Str) (u:Value):Prop:=
  (env.kindOf x=some .local∧m x=some u)∨((env.kindOf x=some .cell∨env.kindOf x=some .free)∧∃c,env.cells.lookup x=some c∧h.IsCell c (some u))
structure Cx.Ok (X:Cx):Prop where
  mod:Mod X.K X.mg X.base
  kind:X.env.scope.kind = .function
  glob:X.env.globals=mainGlobals
  blt:X.env.builtins=builtinsNs
  above:X.s₀.heap.objs.size≤X.env.locals
  inj:∀x y c,X.env.cells.lookup x=some c→X.env.cells.lookup y=some c→x=y
  has:∀x,(X.env.kindOf x=some .cell∨X.env.kindOf x=some .free)→∃c,X.env.cells.lookup x=some c
  cab:∀x c,X.fn x=true→X.env.cells.lookup x=some c→X.s₀.heap.objs.size≤c
  hd:X.calm=true→X.A.handled=none
  frames:X.A.frames=some X.stack
  stk:X.stack=X.outer∨(X.stack=X.env::X.outer∧X.env.frame=some X.env.locals)
  exf:∀b∈X.ex,b≠X.env.locals∧∀x c,X.env.cells.lookup x=some c→c≠b
  bs:∀b o,X.base.get? b=some o→X.s₀.heap.get? b=some o∧X.H₀ b=none
  bsz:X.base.objs.size≤X.s₀.heap.objs.size
  noex:∀b o,X.base.get? b=some o→b∉X.ex
  exfs:∀b∈X.ex,b∉X.fs
  funs:X.s₀.heap.FunFrames X.base X.outer
  frf:∀b∈X.fs,X.H₀ b=none
structure Inv (X:Cx) (pins:List (Addr×Obj)) (σ:List (Option V)) (H:Hp) (s:Shared):Prop where
  ok:X.Ok
  os:s.os=X.s₀.os
  bare:AllBare s.gens
  base:Un X.fs X.ex X.H₀ H X.s₀.heap s.heap
  loc:∃m,s.heap.Ns X.env.locals m∧∀(i:Nat) (x:Str) (v:V),X.N[i]? = some x→σ[i]? = some (some v)→Vis X.env.scope x→∃u,RelV v u∧Look X.env s.heap m x u
  cell:∀x c,X.env.cells.lookup x=some c→∃v,s.heap.IsCell c v
  free:H X.env.locals=none
  freeC:∀x c,X.env.cells.lookup x=some c→H c=none
  pin:∀p∈X.pn++pins,s.heap.get? p.1=some p.2∧H p.1=none∧p.1≠X.env.locals∧p.1∉X.fs∧∀v,p.2.data≠.cell v
  hok:HOk X.prog X.w H s.heap
  len:σ.length=X.N.length
section
variable {X:Cx} {pins:List (Addr×Obj)} {σ:List (Option V)} {H H':Hp} {s:Shared} {h':Heap}
theorem Cx.Ok.nofr (ok:X.Ok) {b:Addr} {o:Obj} (e:X.base.get? b=some o):b∉X.fs:=fun hb=>by
  have:=(ok.funs.mem hb).1
  rw [e] at this;cases this
theorem Inv.bs (I:Inv X pins σ H s):∀b o,X.base.get? b=some o→s.heap.get? b=some o∧H b=none:=fun b o e=>
  ⟨I.base.keep b o (I.ok.bs b o e).1 (I.ok.bs b o e).2 (I.ok.nofr e) (I.ok.noex b o e),I.base.free b o (I.ok.bs b o e).1 (I.ok.bs b o e).2 (I.ok.noex b o e)⟩
theorem Inv.bk (I:Inv X pins σ H s):∀b o,X.base.get? b=some o→s.heap.get? b=some o:=fun b o e=>(I.bs b o e).1
theorem Inv.mod (I:Inv X pins σ H s):Mod X.K X.mg X.base:=I.ok.mod
theorem Inv.kIn (I:Inv X pins σ H s):X.K.In s.heap:=I.ok.mod.kin.keeps I.bk
theorem Inv.lt (I:Inv X pins σ H s):X.env.locals<s.heap.objs.size:=let ⟨_,hn,_⟩:=I.loc;hn.lt
theorem Inv.sz (I:Inv X pins σ H s):X.s₀.heap.objs.size≤s.heap.objs.size:=Nat.le_trans I.ok.above (Nat.le_of_lt I.lt)
theorem Inv.nofs (I:Inv X pins σ H s) {a:Addr} (h:s.heap.objs.size≤a):a∉X.fs:=fun hb=>by
  obtain ⟨_,o,ho,_⟩:=I.ok.funs.mem hb
  exact absurd (Nat.lt_of_lt_of_le (Heap.lt_size ho) (Nat.le_trans I.sz h)) (Nat.lt_irrefl _)
theorem Inv.cne (I:Inv X pins σ H s):∀x c,X.env.cells.lookup x=some c→c≠X.env.locals:=fun x c e z=>by
  obtain ⟨v,o,ho,hd⟩:=I.cell x c e
  obtain ⟨m,⟨o',es,ep,ho',hd',_⟩,_⟩:=I.loc
  rw [z,ho'] at ho;cases ho;rw [hd'] at hd;cases hd
theorem Inv.funs (I:Inv X pins σ H s):s.heap.FunFrames X.base X.outer:=by
  have all:∀(l:List Env),(∀b∈frs l,b∈X.fs)→X.s₀.heap.FunFrames X.base l→s.heap.FunFrames X.base l:=by
    intro l
    induction l with
    | nil=>intro _ _;trivial
    | cons env r ih=>
      intro hs hl
      obtain ⟨hk,⟨L,o,hf,hn,ho,hd⟩,hr⟩:=hl
      have hL:L∈X.fs:=hs L (by unfold frs;rw [List.filterMap_cons,hf];exact List.mem_cons_self)
      obtain ⟨sl,e⟩:=I.base.slot L o ho (I.ok.frf L hL) hL fun z=>I.ok.exfs L z hL
      exact ⟨hk,⟨L,_,hf,hn,e,hd⟩,ih (fun b hb=>hs b (by unfold frs;rw [List.filterMap_cons,hf];exact List.mem_cons_of_mem _ hb)) hr⟩
  exact all X.outer (fun _ hb=>hb) I.ok.funs
theorem Inv.stack (I:Inv X pins σ H s):s.heap.FunFrames X.base X.stack:=by
  rcases I.ok.stk with e | ⟨e,hf⟩
  ·rw [e];exact I.funs
  · rw [e]
    obtain ⟨m,hn,_⟩:=I.loc
    refine .cons (by rw [I.ok.kind];decide) hf hn ?_ I.funs
    exact Heap.get?_none_of_le (Nat.le_trans I.ok.bsz I.ok.above)
theorem Inv.stkSub (I:Inv X pins σ H s):∀b∈frs X.stack,b∈X.env.locals::X.fs:=fun b hb=>by
  rcases I.ok.stk with e | ⟨e,hf⟩
  ·rw [e] at hb;exact List.mem_cons_of_mem _ hb
  · rw [e] at hb
    unfold frs at hb
    rw [List.filterMap_cons,hf] at hb
    exact hb
theorem Inv.stkFree (I:Inv X pins σ H s):∀b∈frs X.stack,H b=none:=fun b hb=>by
  rcases List.mem_cons.mp (I.stkSub b hb) with e | hb
  ·rw [e];exact I.free
  · obtain ⟨_,o,ho,_⟩:=I.ok.funs.mem hb
    exact I.base.free b o ho (I.ok.frf b hb) fun z=>I.ok.exfs b z hb
theorem Inv.step {g':Array GenState} {t':Nat} {d':Drawn} {ch:List Addr} (I:Inv X pins σ H s)
    (hch:∀b∈ch,(b∈X.ex∨X.s₀.heap.objs.size≤b)∧b≠X.env.locals∧(∀x c,X.env.cells.lookup x=some c→c≠b)∧∀p∈X.pn++pins,p.1≠b)
    (keep:∀b o,b≠X.env.locals→b∉X.fs→b∉ch→s.heap.get? b=some o→H b=none→h'.get? b=some o)
    (slot:∀b o,b≠X.env.locals→b∈X.fs→b∉ch→s.heap.get? b=some o→H b=none→∃sl,h'.get? b=some {o with slots:=sl}) (free:∀b o,b∉ch→s.heap.get? b=some o→H b=none→H' b=none)
    (there:∀b o,b∉ch→s.heap.get? b=some o→∃o',h'.get? b=some o')
    (tups:∀b xs,H b=some (.tup xs)→H' b=some (.tup xs)) (frzs:∀b o u,H b=some (.frz o u)→H' b=some (.frz o u)) (tbls:∀b ps,H b=some (.tbl ps)→∃more,H' b=some (.tbl (ps++more)))
    (ns:∀m,s.heap.Ns X.env.locals m→h'.Ns X.env.locals m) (hok:HOk X.prog X.w H' h') (hg:AllBare g') :
    Inv X pins σ H' {s with heap:=h',gens:=g',drawn:=d',toks:=t'}:=by
  have neL:∀b o,X.s₀.heap.get? b=some o→b≠X.env.locals:=fun b o e=>Nat.ne_of_lt (Nat.lt_of_lt_of_le (Heap.lt_size e) I.ok.above)
  have neC:∀b o,X.s₀.heap.get? b=some o→b∉X.ex→b∉ch:=fun b o e hx hb=>by
    rcases (hch b hb).1 with z | z
    ·exact hx z
    ·exact absurd (Nat.lt_of_lt_of_le (Heap.lt_size e) z) (Nat.lt_irrefl _)
  have cellK:∀x c,X.env.cells.lookup x=some c→∀v,s.heap.IsCell c v→h'.IsCell c v:=fun x c e v ⟨o,ho,hd⟩=>by
    have nch:c∉ch:=fun z=>(hch c z).2.2.1 x c e rfl
    by_cases hc:c∈X.fs
    · obtain ⟨sl,q⟩:=slot c o (I.cne x c e) hc nch ho (I.freeC x c e)
      exact ⟨_,q,hd⟩
    ·exact ⟨o,keep c o (I.cne x c e) hc nch ho (I.freeC x c e),hd⟩
  refine ⟨I.ok,I.os,hg,⟨fun b o e n hb hx=>?_,fun b o e n hb hx=>?_,fun b o e n hx=>?_,fun b o e hx=>?_,fun b xs e=>tups b xs (I.base.tups b xs e),fun b o xs e=>frzs b o xs (I.base.frzs b o xs e),fun b ps e=>?_⟩,?_,fun x c e=>?_,?_,fun x c e=>?_,fun p hp=>?_,hok,I.len⟩
  ·exact keep b o (neL b o e) hb (neC b o e hx) (I.base.keep b o e n hb hx) (I.base.free b o e n hx)
  · obtain ⟨sl,e1⟩:=I.base.slot b o e n hb hx
    obtain ⟨sl',e2⟩:=slot b _ (neL b o e) hb (neC b o e hx) e1 (I.base.free b o e n hx)
    exact ⟨sl',e2⟩
  · obtain ⟨o',e1⟩:=I.base.there b o e hx
    exact free b o' (neC b o e hx) e1 (I.base.free b o e n hx)
  · obtain ⟨o',e1⟩:=I.base.there b o e hx
    exact there b o' (neC b o e hx) e1
  · obtain ⟨m1,e1⟩:=I.base.tbls b ps e
    obtain ⟨m2,e2⟩:=tbls b _ e1
    exact ⟨m1++m2,by rw [e2,Array.append_assoc]⟩
  · obtain ⟨m,hn,hl⟩:=I.loc
    refine ⟨m,ns m hn,fun i x v e1 e2 e3=>?_⟩
    obtain ⟨u,r,l⟩:=hl i x v e1 e2 e3
    refine ⟨u,r,?_⟩
    rcases l with l | ⟨k,c,e,z⟩
    ·exact .inl l
    ·exact .inr ⟨k,c,e,cellK x c e _ z⟩
  · obtain ⟨v,z⟩:=I.cell x c e
    exact ⟨v,cellK x c e v z⟩
  · obtain ⟨m,⟨o,_,_,ho,_⟩,_⟩:=I.loc
    exact free _ o (fun z=>(hch _ z).2.1 rfl) ho I.free
  · obtain ⟨v,o,ho,hd⟩:=I.cell x c e
    exact free c o (fun z=>(hch c z).2.2.1 x c e rfl) ho (I.freeC x c e)
  · obtain ⟨e,n,ne,nf,d⟩:=I.pin p hp
    have nch:p.1∉ch:=fun z=>(hch p.1 z).2.2.2 p hp rfl
    exact ⟨keep p.1 p.2 ne nf nch e n,free p.1 p.2 nch e n,ne,nf,d⟩
theorem Inv.un {t':Nat} (I:Inv X pins σ H s) (u:Un X.fs [] H H' s.heap h') (hok:HOk X.prog X.w H' h'):Inv X pins σ H' {s with heap:=h',toks:=t'}:=by
  obtain ⟨m,⟨o,es,ep,ho,r⟩,_⟩:=id I.loc
  obtain ⟨sl,hL⟩:=u.any ho I.free (by simp)
  exact I.step (g':=s.gens) (d':=s.drawn) (ch:=[]) (fun _ z=>nomatch z) (fun b o _ hb _ e n=>u.keep b o e n hb (by simp)) (fun b o _ hb _ e n=>u.slot b o e n hb (by simp)) (fun b o _ e n=>u.free b o e n (by simp)) (fun b o _ e=>u.there b o e (by simp)) u.tups u.frzs u.tbls (fun m' hm=>by
    obtain ⟨o',es',ep',ho',r'⟩:=hm
    rw [ho] at ho';cases ho'
    exact ⟨_,es',ep',hL,r'⟩) hok I.bare
theorem Inv.call {g':Array GenState} {t':Nat} {d':Drawn} {ch:List Addr} (I:Inv X pins σ H s) (u:Un (frs X.stack) ch H H' s.heap h') (hok:HOk X.prog X.w H' h') (hg:AllBare g')
    (hch:∀b∈ch,(b∈X.ex∨X.s₀.heap.objs.size≤b)∧b≠X.env.locals∧(∀x c,X.env.cells.lookup x=some c→c≠b)∧∀p∈X.pn++pins,p.1≠b) :
    Inv X pins σ H' {s with heap:=h',gens:=g',drawn:=d',toks:=t'}:=by
  obtain ⟨m,⟨o,es,ep,ho,r⟩,_⟩:=id I.loc
  obtain ⟨sl,hL⟩:=u.any ho I.free fun z=>(hch _ z).2.1 rfl
  exact I.step (ch:=ch) hch (fun b o hL hb hc e n=>u.keep b o e n (fun z=>(List.mem_cons.mp (I.stkSub b z)).elim hL hb) hc) (fun b o _ _ hc e n=>u.any e n hc) (fun b o hc e n=>u.free b o e n hc) (fun b o hc e=>u.there b o e hc) u.tups u.frzs u.tbls (fun m' hm=>by
    obtain ⟨o',es',ep',ho',r'⟩:=hm
    rw [ho] at ho';cases ho'
    exact ⟨_,es',ep',hL,r'⟩) hok hg
theorem Inv.turned {t':Nat} {it:Addr} (I:Inv X pins σ H s) (k:∀b o,b≠it→s.heap.get? b=some o→h'.get? b=some o) (hn:H it=none) (hL:it≠X.env.locals)
    (h1:it∈X.ex∨X.s₀.heap.objs.size≤it) (h2:∀x c,X.env.cells.lookup x=some c→c≠it) (h3:∀p∈X.pn++pins,p.1≠it):Inv X pins σ H {s with heap:=h',toks:=t'}:=by
  have nit:∀b u,H b=some u→b≠it:=fun b u e z=>by rw [z,hn] at e;cases e
  refine I.step (g':=s.gens) (d':=s.drawn) (ch:=[it]) (fun b hb=>?_) (fun b o _ _ hc e _=>k b o (fun z=>hc (by simp [z])) e) (fun b o _ _ hc e _=>⟨o.slots,k b o (fun z=>hc (by simp [z])) e⟩) (fun _ _ _ _ n=>n)
    (fun b o hc e=>⟨o,k b o (fun z=>hc (by simp [z])) e⟩) (fun _ _ e=>e) (fun _ _ _ e=>e) (fun b ps e=>⟨#[],by rw [e];simp⟩) (fun m hm=>?_) (fun b u e=>?_) I.bare
  · have e:b=it:=by simpa using hb
    subst e
    exact ⟨h1,hL,h2,h3⟩
  · obtain ⟨o,es,ep,ho,r⟩:=hm
    exact ⟨o,es,ep,k _ o (Ne.symm hL) ho,r⟩
  · refine (I.hok b u e).stay (fun c v hc q=>k c v ?_ q) (fun _ q=>q) fun _ _ q=>q
    rcases hc with z | z
    ·rw [z];exact nit b u e
    ·exact nit c _ z
theorem Inv.tok (I:Inv X pins σ H s) (t:Nat):Inv X pins σ H {s with toks:=t}:=I.un (h':=s.heap) (t':=t) Un.refl I.hok
theorem Inv.kept {t':Nat} (I:Inv X pins σ H s) (k:∀b u,s.heap.get? b=some u→h'.get? b=some u):Inv X pins σ H {s with heap:=h',toks:=t'}:=I.un (Un.kept k) (I.hok.kept k)
theorem Inv.laid {a:Addr} {o:HO} {t':Nat} (I:Inv X pins σ H s) (k:∀b u,s.heap.get? b=some u→h'.get? b=some u) (hp:s.heap.objs.size≤a) (new:ObjOk X.prog X.w (upd H a o) h' a o) :
    Inv X pins σ (upd H a o) {s with heap:=h',toks:=t'}:=I.un (Un.laid k hp (I.hok.fresh hp)) (I.hok.laid k hp new)
theorem Inv.write {x e:Addr} {o:HO} {t':Nat} (I:Inv X pins σ H s) (mu:Mut (H x)) (he:e=x∨H e=some (.own x)) (k:∀b u,b≠e→s.heap.get? b=some u→h'.get? b=some u) (heo:∃u,h'.get? e=some u)
    (new:ObjOk X.prog X.w (upd H x o) h' x o):Inv X pins σ (upd H x o) {s with heap:=h',toks:=t'}:=I.un (Un.write mu he k heo) (I.hok.write mu he k heo new)
theorem Inv.pins_of {pins':List (Addr×Obj)} (I:Inv X pins σ H s) (h:∀p∈pins',s.heap.get? p.1=some p.2∧H p.1=none∧p.1≠X.env.locals∧p.1∉X.fs∧∀v,p.2.data≠.cell v):Inv X pins' σ H s:=
  ⟨I.ok,I.os,I.bare,I.base,I.loc,I.cell,I.free,I.freeC,fun p hp=>(List.mem_append.mp hp).elim (fun z=>I.pin p (List.mem_append_left _ z)) (h p),I.hok,I.len⟩
theorem nodup_ix {N:List Str} (hN:N.Nodup) {i j:Nat} {x:Str} (a:N[i]? = some x) (b:N[j]? = some x):i=j:=by
  obtain ⟨h1,e1⟩:=List.getElem?_eq_some_iff.mp a
  obtain ⟨h2,e2⟩:=List.getElem?_eq_some_iff.mp b
  exact (List.getElem_inj hN).mp (e1.trans e2.symm)
theorem store_ok2 {M:Model} {A:Around} {E:Value→Shared→Prop} {i:Nat} {x:Str} {v:V} {u:Value} {Q:Unit→Shared→Prop} (I:Inv X pins σ H s) (hN:X.N.Nodup) (hi:X.N[i]? = some x) (hx:Loc X.env.scope x) (r:RelV v u)
    (h:∀s',Inv X pins (σ.set i (some v)) H s'→(∃a,Heap.SameBut a s.heap s'.heap∧(a=X.env.locals∨X.env.cells.lookup x=some a))→Q () s') (hf:X.fn x=true∨X.env.scope.names.lookup x=some .local:=by first | exact .inl rfl | exact .inr rfl | assumption):wpAny M A (storeName X.env x u) Q E s:=by
  obtain ⟨m,hn,hl⟩:=id I.loc
  have hcls:(X.env.scope.kind == .class || (X.env.scope.kind == .module && X.env.locals != X.env.globals))=false:=by rw [I.ok.kind];rfl
  have hiσ:i<σ.length:=by rw [I.len];exact (List.getElem?_eq_some_iff.mp hi).1
  have cne:=I.cne
  have tracked:∀{a:Addr} {h':Heap},(∃o,s.heap.get? a=some o∧H a=none)→Heap.SameBut a s.heap h'→HOk X.prog X.w H h':=fun {a h'} ha hs b ob e=>by
    obtain ⟨_,_,hfree⟩:=ha
    refine (I.hok b ob e).stay (fun c w' hc q=>(hs.2 c ?_).trans q) (fun _ q=>q) fun _ _ q=>q
    rintro rfl
    rcases hc with rfl | hc
    ·rw [hfree] at e;cases e
    ·rw [hfree] at hc;cases hc
  rcases hx with hk | hk
  · refine wpAny_storeName_local hk hn (fun h' hn' hs=>?_) hcls
    obtain ⟨oL,_,_,hoL,_⟩:=id hn
    refine h _ ⟨I.ok,I.os,I.bare,⟨fun b o e n hb hx=>?_,fun b o e n hb hx=>?_,I.base.free,fun b o e hx=>?_,I.base.tups,I.base.frzs,I.base.tbls⟩,⟨_,hn',fun j y v' e1 e2 e3=>?_⟩,fun y c e=>?_,I.free,I.freeC,fun p hp=>?_,tracked ⟨oL,hoL,I.free⟩ hs,by simpa using I.len⟩ ⟨_,hs,.inl rfl⟩
    ·exact (hs.2 b (Nat.ne_of_lt (Nat.lt_of_lt_of_le (Heap.lt_size e) I.ok.above))).trans (I.base.keep b o e n hb hx)
    · obtain ⟨sl,e1⟩:=I.base.slot b o e n hb hx
      exact ⟨sl,(hs.2 b (Nat.ne_of_lt (Nat.lt_of_lt_of_le (Heap.lt_size e) I.ok.above))).trans e1⟩
    · obtain ⟨o',e1⟩:=I.base.there b o e hx
      exact ⟨o',(hs.2 b (Nat.ne_of_lt (Nat.lt_of_lt_of_le (Heap.lt_size e) I.ok.above))).trans e1⟩
    · by_cases hj:j=i
      · subst hj
        rw [hi] at e1;cases e1
        rw [List.getElem?_set_self hiσ] at e2
        cases e2
        exact ⟨u,r,.inl ⟨hk,by simp⟩⟩
      · rw [List.getElem?_set_ne (Ne.symm hj)] at e2
        obtain ⟨u',r',q⟩:=hl j y v' e1 e2 e3
        refine ⟨u',r',?_⟩
        rcases q with ⟨k,e⟩ | ⟨k,c,e,z⟩
        · refine .inl ⟨k,?_⟩
          have:y≠x:=fun e=>hj (nodup_ix hN e1 (e▸hi))
          simp [this,e]
        ·exact .inr ⟨k,c,e,z.sameBut hs (cne y c e)⟩
    · obtain ⟨w',z⟩:=I.cell y c e
      exact ⟨w',z.sameBut hs (cne y c e)⟩
    · obtain ⟨e,n,ne,nf,d⟩:=I.pin p hp
      exact ⟨(hs.2 p.1 ne).trans e,n,ne,nf,d⟩
  · have hfn:X.fn x=true:=by
      rcases hf with z | z
      ·exact z
      ·rw [z] at hk;cases hk
    obtain ⟨c,hc⟩:=I.ok.has x (.inl hk)
    obtain ⟨w',z⟩:=I.cell x c hc
    refine wpAny_storeName_cell I.ok.kind hk hc z (fun h' hc' hs=>?_)
    obtain ⟨oc,hoc,hocd⟩:=id z
    refine h {s with heap:=h'} ⟨I.ok,I.os,I.bare,⟨fun b o e n hb hx=>?_,fun b o e n hb hx=>?_,I.base.free,fun b o e hx=>?_,I.base.tups,I.base.frzs,I.base.tbls⟩,⟨m,hn.sameBut hs (Ne.symm (cne x c hc)),fun j y v' e1 e2 e3=>?_⟩,fun y c' e=>?_,I.free,I.freeC,fun p hp=>?_,tracked ⟨oc,hoc,I.freeC x c hc⟩ hs,by simpa using I.len⟩ ⟨c,hs,.inr hc⟩
    ·exact (hs.2 b (Nat.ne_of_lt (Nat.lt_of_lt_of_le (Heap.lt_size e) (I.ok.cab x c hfn hc)))).trans (I.base.keep b o e n hb hx)
    · obtain ⟨sl,e1⟩:=I.base.slot b o e n hb hx
      exact ⟨sl,(hs.2 b (Nat.ne_of_lt (Nat.lt_of_lt_of_le (Heap.lt_size e) (I.ok.cab x c hfn hc)))).trans e1⟩
    · obtain ⟨o',e1⟩:=I.base.there b o e hx
      exact ⟨o',(hs.2 b (Nat.ne_of_lt (Nat.lt_of_lt_of_le (Heap.lt_size e) (I.ok.cab x c hfn hc)))).trans e1⟩
    · by_cases hj:j=i
      · subst hj
        rw [hi] at e1;cases e1
        rw [List.getElem?_set_self hiσ] at e2
        cases e2
        exact ⟨u,r,.inr ⟨.inl hk,c,hc,hc'⟩⟩
      · rw [List.getElem?_set_ne (Ne.symm hj)] at e2
        obtain ⟨u',r',q⟩:=hl j y v' e1 e2 e3
        refine ⟨u',r',?_⟩
        rcases q with q | ⟨k,c',e,z'⟩
        ·exact .inl q
        · refine .inr ⟨k,c',e,z'.sameBut hs ?_⟩
          rintro rfl
          exact hj (nodup_ix hN e1 (I.ok.inj _ _ _ e hc▸hi))
    · by_cases hcc:c'=c
      ·subst hcc;exact ⟨_,hc'⟩
      · obtain ⟨w2,z2⟩:=I.cell y c' e
        exact ⟨w2,z2.sameBut hs hcc⟩
    · obtain ⟨e,n,ne,nf,d⟩:=I.pin p hp
      refine ⟨(hs.2 p.1 ?_).trans e,n,ne,nf,d⟩
      intro q
      rw [q,hoc] at e
      have q':oc=p.2:=Option.some.inj e
      exact d w' (by rw [← q'];exact hocd)
theorem store_ok {M:Model} {A:Around} {E:Value→Shared→Prop} {i:Nat} {x:Str} {v:V} {u:Value} {Q:Unit→Shared→Prop} (I:Inv X pins σ H s) (hN:X.N.Nodup) (hi:X.N[i]? = some x) (hx:Loc X.env.scope x) (r:RelV v u)
    (h:∀s',Inv X pins (σ.set i (some v)) H s'→Q () s') (hf:X.fn x=true∨X.env.scope.names.lookup x=some .local:=by first | exact .inl rfl | exact .inr rfl | assumption):wpAny M A (storeName X.env x u) Q E s:=
  store_ok2 I hN hi hx r (fun s' I' _=>h s' I') hf
theorem Inv.call' {s':Shared} {ch:List Addr} (I:Inv X pins σ H s) (ho:s'.os=s.os) (u:Un (frs X.stack) ch H H' s.heap s'.heap) (hok:HOk X.prog X.w H' s'.heap) (hg:AllBare s'.gens)
    (hch:∀b∈ch,(b∈X.ex∨X.s₀.heap.objs.size≤b)∧b≠X.env.locals∧(∀x c,X.env.cells.lookup x=some c→c≠b)∧∀p∈X.pn++pins,p.1≠b):Inv X pins σ H' s':=by
  obtain ⟨h',g',d',t',o'⟩:=s'
  have e:o'=s.os:=ho
  subst e
  exact I.call (g':=g') (t':=t') (d':=d') u hok hg hch
end
abbrev XK:=Value→Option Addr→Hp→Prop
abbrev St:=List (Option V)
abbrev VK:=V→Hp→Prop
abbrev TE:=St→Hp→VK→Prop
abbrev TT:=St→Hp→(Bool→Hp→Prop)→Prop
abbrev TA:=St→Hp→(List V→Hp→Prop)→Prop
structure Ends where
  nx:St→Hp→Prop
  rt:VK
  bk:St→Hp→Prop:=fun _ _=>False
  ct:St→Hp→Prop:=fun _ _=>False
abbrev TS:=Ends→St→Hp→Prop
def EP (X:Cx) (pins:List (Addr×Obj)) (σ:St) (Q:VK) (u:Value) (s':Shared):Prop:=∃v H',Inv X pins σ H' s'∧RelV v u∧Q v H'
def TP (X:Cx) (pins:List (Addr×Obj)) (σ:St) (Q:Bool→Hp→Prop) (b:Bool) (s':Shared):Prop:=∃H',Inv X pins σ H' s'∧Q b H'
def AP (X:Cx) (pins:List (Addr×Obj)) (σ:St) (Q:List V→Hp→Prop) (us:List Value) (s':Shared):Prop:=∃vs H',Inv X pins σ H' s'∧Vals vs us∧Q vs H'
def SP (X:Cx) (pins:List (Addr×Obj)) (D:Ends) (f:Flow) (s':Shared):Prop:=
  match f with
  | .next=>∃σ' H',Inv X pins σ' H' s'∧D.nx σ' H'
  | .brk=>∃σ' H',Inv X pins σ' H' s'∧D.bk σ' H'
  | .cont=>∃σ' H',Inv X pins σ' H' s'∧D.ct σ' H'
  | .ret u=>∃v σ' H',Inv X pins σ' H' s'∧RelV v u∧D.rt v H'
def PE (X:Cx) (e:Expr) (t:TE):Prop:=
  ∀(pins:List (Addr×Obj)) (s:Shared) (σ:St) (H:Hp) (Q:VK),Inv X pins σ H s→t σ H Q→wpAny (model X.prog X.w) X.A (eval e X.env) (EP X pins σ Q) X.xe s
def PT (X:Cx) (e:Expr) (t:TT):Prop:=
  ∀(pins:List (Addr×Obj)) (s:Shared) (σ:St) (H:Hp) (Q:Bool→Hp→Prop),Inv X pins σ H s→t σ H Q→wpAny (model X.prog X.w) X.A (isTrue e X.env (eval e X.env)) (TP X pins σ Q) X.xe s
def PW (X:Cx) (e:Expr) (t:TT):Prop:=
  ∀(whole:Sem Value) (pins:List (Addr×Obj)) (s:Shared) (σ:St) (H:Hp) (Q:Bool→Hp→Prop),Inv X pins σ H s→t σ H Q→wpAny (model X.prog X.w) X.A (isTrue e X.env whole) (TP X pins σ Q) X.xe s
theorem PW.pt {X:Cx} {e:Expr} {t:TT} (h:PW X e t):PT X e t:=h _
def PA (X:Cx) (es:List Expr) (t:TA):Prop:=
  ∀(pos:Pos) (pins:List (Addr×Obj)) (s:Shared) (σ:St) (H:Hp) (Q:List V→Hp→Prop),Inv X pins σ H s→t σ H Q→wpAny (model X.prog X.w) X.A (spliced (backTo pos (starEach es X.env))) (AP X pins σ Q) X.xe s
def PS (X:Cx) (st:Stmt) (t:TS):Prop:=
  ∀(pins:List (Addr×Obj)) (s:Shared) (σ:St) (H:Hp) (D:Ends),Inv X pins σ H s→t D σ H→wpAny (model X.prog X.w) X.A (exec st X.env) (SP X pins D) X.xe s
def PSs (X:Cx) (st:List Stmt) (t:TS):Prop:=
  ∀(pins:List (Addr×Obj)) (s:Shared) (σ:St) (H:Hp) (D:Ends),Inv X pins σ H s→t D σ H→wpAny (model X.prog X.w) X.A (execs st X.env) (SP X pins D) X.xe s
theorem thn {α:Type} {t:Sem α} {Q Q':α→Shared→Prop} {M:Model} {A:Around} {E:Value→Shared→Prop} {s:Shared} (h:wpAny M A t Q E s) (hQ:∀a s,Q a s→Q' a s):wpAny M A t Q' E s:=wpAny_mono h hQ fun _ _ x=>x
section
variable {X:Cx}
def tVar (i:Nat):TE:=fun σ H Q=>∃v,σ[i]? = some (some v)∧Q v H
def tC (v:V):TE:=fun _ H Q=>Q v H
theorem pe_var {i:Nat} {x:Str} {pos:Pos} (hN:X.N[i]? = some x) (hv:Vis X.env.scope x) (hd:(x == ("__debug__" : Str))=false:=by decide) (hcd:(x == ("__classdict__" : Str))=false:=by decide):PE X (.Name x pos) (tVar i):=by
  intro pins s σ H Q I h
  obtain ⟨v,e,h⟩:=h
  obtain ⟨m,hn,hl⟩:=I.loc
  obtain ⟨u,r,l⟩:=hl i x v hN e hv
  have fin:EP X pins σ Q u s:=⟨v,H,I,r,h⟩
  rcases l with ⟨hk,hm⟩ | ⟨hk,c,hc,hcell⟩
  ·exact wpAny_Name (wpAny_loadName_local I.ok.kind hk hn hm fin) hd
  · rcases hk with hk | hk
    ·exact wpAny_Name (wpAny_loadName_cell I.ok.kind hk hc hcell fin) hd
    ·exact wpAny_Name (wpAny_loadName_free I.ok.kind hk hc hcell fin hcd) hd
theorem pe_int {i j pos}:PE X (.Constant (.int i) j pos) (tC (.int i)):=fun _ _ _ H _ I h=>wpAny_Constant_int ⟨.int i,H,I.tok _,⟨_,rfl⟩,h⟩
theorem pe_bl {b j pos}:PE X (.Constant (.bool b) j pos) (tC (.bl b)):=fun _ _ _ H _ I h=>Constant_bool ⟨.bl b,H,I,rfl,h⟩
theorem pe_non {j pos}:PE X (.Constant .none j pos) (tC .non):=fun _ _ _ H _ I h=>Constant_none ⟨.non,H,I,rfl,h⟩
theorem pe_str {x j pos}:PE X (.Constant (.str x) j pos) (tC (.str x)):=fun _ _ _ H _ I h=>Calls.Constant_str ⟨.str x,H,I.tok _,⟨_,rfl⟩,h⟩
def Gl (X:Cx) (x:Str):Prop:=X.env.kindOf x=some .globalImplicit
theorem ld_glob {E:Value→Shared→Prop} {pins:List (Addr×Obj)} {s:Shared} {σ:St} {H:Hp} {x:Str} {u:Value} {pos:Pos} {Q:Value→Shared→Prop} (I:Inv X pins σ H s) (hg:Gl X x) (hm:X.mg x=some u) (h:Q u s)
    (hd:(x == ("__debug__" : Str))=false:=by decide):wpAny (model X.prog X.w) X.A (eval (.Name x pos) X.env) Q E s:=
  Calls.Name_function_global I.ok.kind hg (Calls.loadGlobal_global (by rw [I.ok.glob];exact I.mod.glob.keeps I.bk) hm h) hd
theorem ld_blt {E:Value→Shared→Prop} {pins:List (Addr×Obj)} {s:Shared} {σ:St} {H:Hp} {x:Str} {u:Value} {pos:Pos} {Q:Value→Shared→Prop} (I:Inv X pins σ H s) (hg:Gl X x) (hm:X.mg x=none) (hv:bootBuiltins x=some u) (h:Q u s)
    (hn:x≠ "__name__" :=by decide) (hd:(x == ("__debug__" : Str))=false:=by decide):wpAny (model X.prog X.w) X.A (eval (.Name x pos) X.env) Q E s:=by
  obtain ⟨mb,h1,h2⟩:=I.mod.blt
  exact Calls.Name_function_global I.ok.kind hg (Calls.loadGlobal_builtin (by rw [I.ok.glob];exact I.mod.glob.keeps I.bk) hm (by rw [I.ok.blt];exact h1.keeps I.bk) ((h2 x hn).trans hv) h) hd
theorem pe_glob {x:Str} {v:V} {u:Value} {pos:Pos} (hg:Gl X x) (hm:X.mg x=some u) (r:RelV v u) (hd:(x == ("__debug__" : Str))=false:=by decide):PE X (.Name x pos) (tC v):=
  fun _ _ _ H _ I h=>ld_glob I hg hm ⟨v,H,I,r,h⟩ hd
theorem pe_bltn {x:Str} {v:V} {u:Value} {pos:Pos} (hg:Gl X x) (hm:X.mg x=none) (hv:bootBuiltins x=some u) (r:RelV v u) (hn:x≠ "__name__" :=by decide) (hd:(x == ("__debug__" : Str))=false:=by decide):PE X (.Name x pos) (tC v):=
  fun _ _ _ H _ I h=>ld_blt I hg hm hv ⟨v,H,I,r,h⟩ hn hd
variable {a b:Expr} {ta tb:TE} {pos:Pos}
def PC (X:Cx) (op:CmpOp) (a b:Expr) (t:TE):Prop:=
  ∀(pins:List (Addr×Obj)) (s:Shared) (σ:St) (H:Hp) (Q:VK),Inv X pins σ H s→t σ H Q→
    wpAny (model X.prog X.w) X.A (eval a X.env) (fun v s₁=>wpAny (model X.prog X.w) X.A (eval b X.env) (fun u s₂=>wpAny (model X.prog X.w) X.A (compareOp op v u) (EP X pins σ Q) X.xe s₂) X.xe s₁) X.xe s
theorem nobehind (b:Expr) {op:CmpOp} (h:op≠.In) (h2:op≠.NotIn):behindInMarks op b=false:=by
  have e1:(op == CmpOp.In)=false:=by cases op <;> first | rfl | exact absurd rfl h
  have e2:(op == CmpOp.NotIn)=false:=by cases op <;> first | rfl | exact absurd rfl h2
  cases b <;> simp [behindInMarks,e1,e2]
def tB (t:TE):TT:=fun σ H Q=>t σ H fun x H1=>∃c,x = .bl c∧Q c H1
theorem pe_cmp {op:CmpOp} {t:TE} (h:PC X op a b t) (h1:behindInMarks op b=false:=by first | exact nobehind _ (by decide) (by decide) | rfl):PE X (.Compare a [op] [b] pos) t:=fun pins s σ H Q I hw=>wpAny_Compare1 (h pins s σ H Q I hw) h1
theorem pt_cmp {op:CmpOp} {t:TE} (h:PC X op a b t) (h1:behindInMarks op b=false:=by first | exact nobehind _ (by decide) (by decide) | rfl):PT X (.Compare a [op] [b] pos) (tB t):=by
  intro pins s σ H Q I hw
  refine wpAny_isTrue_Compare1 (thn (h pins s σ H _ I hw) fun v s1 h1=>thn h1 fun u s2 h2=>thn h2 fun c s3 zz=>?_) h1
  obtain ⟨x,H1,I1,r1,q1⟩:=zz
  obtain ⟨d,rfl,q⟩:=q1
  cases r1
  exact wpAny_truthy_bool ⟨H1,I1,q⟩
theorem pt_val {e:Expr} {t:TE} (h:PE X e t) (he:∀whole,isTrue e X.env whole=(do let v ← whole;standAt e.pos;holding [v] (truthy v)):=by intro _;rfl):PT X e (tB t):=by
  intro pins s σ H Q I hw
  refine isTrue_plain (thn (h pins s σ H _ I hw) fun v s1 zz=>?_) (he _)
  obtain ⟨x,H1,I1,r1,q1⟩:=zz
  obtain ⟨d,rfl,q⟩:=q1
  cases r1
  exact wpAny_truthy_bool ⟨H1,I1,q⟩
variable {tA tB':TT} {rest:List Expr}
def tAnd (t u:TT):TT:=fun σ H Q=>t σ H fun c H1=>if c=true then u σ H1 Q else Q false H1
def tOr (t u:TT):TT:=fun σ H Q=>t σ H fun c H1=>if c=true then Q true H1 else u σ H1 Q
def tNot (t:TT):TT:=fun σ H Q=>t σ H fun c H1=>Q (!c) H1
theorem pw_and1 (ha:PT X a tA):PW X (.BoolOp .And [a] pos) tA:=by
  intro wh pins s σ H Q I h
  refine isTrue_and (thn (ha pins s σ H Q I h) fun c s1 e=>?_)
  cases c with
  | true=>exact isTrue_and_nil e
  | false=>exact e
theorem pw_or1 (ha:PT X a tA):PW X (.BoolOp .Or [a] pos) tA:=by
  intro wh pins s σ H Q I h
  refine isTrue_or (thn (ha pins s σ H Q I h) fun c s1 e=>?_)
  cases c with
  | false=>exact isTrue_or_nil e
  | true=>exact e
theorem pw_and (ha:PT X a tA) (hb:PW X (.BoolOp .And (b::rest) pos) tB'):PW X (.BoolOp .And (a::b::rest) pos) (tAnd tA tB'):=by
  intro wh pins s σ H Q I h
  refine isTrue_and (thn (ha pins s σ H _ I h) fun c s1 zz=>?_)
  obtain ⟨H1,I1,q1⟩:=zz
  cases c with
  | true=>exact hb wh pins s1 σ H1 Q I1 q1
  | false=>exact ⟨H1,I1,q1⟩
theorem pw_or (ha:PT X a tA) (hb:PW X (.BoolOp .Or (b::rest) pos) tB'):PW X (.BoolOp .Or (a::b::rest) pos) (tOr tA tB'):=by
  intro wh pins s σ H Q I h
  refine isTrue_or (thn (ha pins s σ H _ I h) fun c s1 zz=>?_)
  obtain ⟨H1,I1,q1⟩:=zz
  cases c with
  | true=>exact ⟨H1,I1,q1⟩
  | false=>exact hb wh pins s1 σ H1 Q I1 q1
theorem pt_not (ha:PT X a tA):PT X (.UnaryOp .Not a pos) (tNot tA):=by
  intro pins s σ H Q I h
  exact isTrue_not (ha pins s σ H (fun c H1=>Q (!c) H1) I h)
def tAndV (ta tb:TE):TE:=fun σ H Q=>ta σ H fun x H1=>∃c,x = .bl c∧if c=true then tb σ H1 Q else Q (.bl false) H1
def tOrV (ta tb:TE):TE:=fun σ H Q=>ta σ H fun x H1=>∃c,x = .bl c∧if c=true then Q (.bl true) H1 else tb σ H1 Q
def tNotV (ta:TE):TE:=fun σ H Q=>ta σ H fun x H1=>∃c,x = .bl c∧Q (.bl (!c)) H1
theorem pe_one {op} {t:TE} (h:PE X a t):PE X (.BoolOp op [a] pos) t:=fun pins s σ H Q I hw=>BoolOp_one (h pins s σ H Q I hw)
theorem pe_and (ha:PE X a ta) (hb:PE X (.BoolOp .And (b::rest) pos) tb):PE X (.BoolOp .And (a::b::rest) pos) (tAndV ta tb):=by
  intro pins s σ H Q I h
  refine BoolOp_and (thn (ha pins s σ H _ I h) fun v s1 zz=>?_)
  obtain ⟨x,H1,I1,r1,q1⟩:=zz
  obtain ⟨c,rfl,q1⟩:=q1
  cases r1
  refine wpAny_truthy_bool ?_
  cases c with
  | true=>exact hb pins s1 σ H1 Q I1 q1
  | false=>exact ⟨.bl false,H1,I1,rfl,q1⟩
theorem pe_or (ha:PE X a ta) (hb:PE X (.BoolOp .Or (b::rest) pos) tb):PE X (.BoolOp .Or (a::b::rest) pos) (tOrV ta tb):=by
  intro pins s σ H Q I h
  refine BoolOp_or (thn (ha pins s σ H _ I h) fun v s1 zz=>?_)
  obtain ⟨x,H1,I1,r1,q1⟩:=zz
  obtain ⟨c,rfl,q1⟩:=q1
  cases r1
  refine wpAny_truthy_bool ?_
  cases c with
  | false=>exact hb pins s1 σ H1 Q I1 q1
  | true=>exact ⟨.bl true,H1,I1,rfl,q1⟩
theorem pe_not (ha:PE X a ta):PE X (.UnaryOp .Not a pos) (tNotV ta):=by
  intro pins s σ H Q I h
  refine UnaryOp_ (thn (ha pins s σ H _ I h) fun v s1 zz=>?_)
  obtain ⟨x,H1,I1,r1,q1⟩:=zz
  obtain ⟨c,rfl,q1⟩:=q1
  cases r1
  exact not_of (wpAny_truthy_bool ⟨.bl (!c),H1,I1,rfl,q1⟩)
def tIf (t:TT) (ta tb:TE):TE:=fun σ H Q=>t σ H fun c H1=>if c=true then ta σ H1 Q else tb σ H1 Q
theorem pe_ifExp {c:Expr} (hc:PT X c tA) (ha:PE X a ta) (hb:PE X b tb):PE X (.IfExp c a b pos) (tIf tA ta tb):=by
  intro pins s σ H Q I h
  refine wpAny_IfExp (thn (hc pins s σ H _ I h) fun d s1 zz=>?_)
  obtain ⟨H1,I1,q1⟩:=zz
  cases d with
  | true=>exact ha pins s1 σ H1 Q I1 q1
  | false=>exact hb pins s1 σ H1 Q I1 q1
end
def SqL (K:PySem.W.Frag) (H:Hp) (a:Addr) (xs:List V):Prop:=
  Rd H a (.lst xs)∨
    ∃(o:Obj) (its:Array Value) (n:Nat),K.lookup a=some o∧o.cls = .type "list" ∧o.dict=none∧o.data = .seq its n∧its.size≤sizeLine∧Vals xs its.toList
def SqT (K:PySem.W.Frag) (H:Hp) (a:Addr) (xs:List V):Prop:=
  Rd H a (.tup xs)∨
    ∃(o:Obj) (its:Array Value) (n:Nat),K.lookup a=some o∧o.cls = .type "tuple" ∧o.data = .seq its n∧its.size≤sizeLine∧Vals xs its.toList
def absV:Value→Option V
  | .none=>some .non
  | .bool b=>some (.bl b)
  | .int i _=>some (.int i)
  | .str x _=>some (.str x)
  | .bytes b _=>some (.byt b)
  | .float b _=>some (.flt b)
  | .ref a=>some (.ref a)
  | .type n=>some (.ty n)
  | _=>none
theorem RelV.abs {x:V} {u:Value} (r:RelV x u):absV u=some x:=by
  cases x with
  | non=>cases r;rfl
  | bl _=>cases r;rfl
  | int _=>obtain ⟨t,rfl⟩:=r;rfl
  | str _=>obtain ⟨t,rfl⟩:=r;rfl
  | byt _=>obtain ⟨t,rfl⟩:=r;rfl
  | flt _=>obtain ⟨t,rfl⟩:=r;rfl
  | ref _=>cases r;rfl
  | ty _=>cases r;rfl
theorem RelV.inj {x y:V} {u:Value} (r:RelV x u) (q:RelV y u):x=y:=Option.some.inj (r.abs.symm.trans q.abs)
theorem Vals.inj:∀{xs ys:List V} {us:List Value},Vals xs us→Vals ys us→xs=ys
  | _,_,_,.nil,.nil=>rfl
  | _,_,_,.cons r t,.cons r' t'=>by rw [r.inj r',Vals.inj t t']
section
variable {X:Cx} {pins:List (Addr×Obj)} {σ:St} {H:Hp} {s:Shared} {a:Addr} {xs ys:List V}
theorem SqL.of {K:PySem.W.Frag} (h:H a=some (.lst xs)):SqL K H a xs:=.inl (.inl h)
theorem SqT.of {K:PySem.W.Frag} (h:H a=some (.tup xs)):SqT K H a xs:=.inl (.inl h)
theorem Inv.list (I:Inv X pins σ H s) (h:SqL X.K H a xs):∃its:List Value,Vals xs its∧PlainL s.heap a its.toArray∧xs.length≤sizeLine:=by
  rcases h with h | ⟨o,its,n,hk,hc,hd,hs,hz,r⟩
  · obtain ⟨z,its,n,r,e⟩:=h.ok I.hok
    exact ⟨its,r,⟨_,n,e,rfl,rfl,rfl⟩,z⟩
  · refine ⟨its.toList,r,⟨o,n,I.kIn a o hk,hc,hd,by simpa using hs⟩,?_⟩
    have e:=r.length
    simp only [Array.length_toList] at e
    omega
theorem Inv.tuple (I:Inv X pins σ H s) (h:SqT X.K H a xs):∃its:List Value,Vals xs its∧IsTup s.heap a its.toArray∧xs.length≤sizeLine:=by
  rcases h with h | ⟨o,its,n,hk,hc,hs,hz,r⟩
  · obtain ⟨z,its,r,p⟩:=h.ok I.hok
    exact ⟨its,r,p,z⟩
  · refine ⟨its.toList,r,⟨o,I.kIn a o hk,hc,n,by simpa using hs⟩,?_⟩
    have e:=r.length
    simp only [Array.length_toList] at e
    omega
theorem Inv.list_inj (I:Inv X pins σ H s) (h:SqL X.K H a xs) (h':SqL X.K H a ys):xs=ys:=by
  obtain ⟨its,r,⟨o,n,e,_,_,d⟩,_⟩:=I.list h
  obtain ⟨its',r',⟨o',n',e',_,_,d'⟩,_⟩:=I.list h'
  rw [e] at e';cases e'
  rw [d] at d'
  injection d' with d1 _
  have:its=its':=by simpa using congrArg Array.toList d1
  subst this
  exact r.inj r'
theorem Inv.tuple_inj (I:Inv X pins σ H s) (h:SqT X.K H a xs) (h':SqT X.K H a ys):xs=ys:=by
  obtain ⟨its,r,⟨o,e,_,n,d⟩,_⟩:=I.tuple h
  obtain ⟨its',r',⟨o',e',_,n',d'⟩,_⟩:=I.tuple h'
  rw [e] at e';cases e'
  rw [d] at d'
  injection d' with d1 _
  have:its=its':=by simpa using congrArg Array.toList d1
  subst this
  exact r.inj r'
end
abbrev Cx.wish (X:Cx) (E:Value→Shared→Prop):Cx:={X with xe:=E}
abbrev Cx.nox (X:Cx):Cx:=X.wish fun _ _=>False
theorem Cx.Ok.wish {X:Cx} (ok:X.Ok) (E:Value→Shared→Prop):(X.wish E).Ok:=
  ⟨ok.mod,ok.kind,ok.glob,ok.blt,ok.above,ok.inj,ok.has,ok.cab,ok.hd,ok.frames,ok.stk,ok.exf,ok.bs,ok.bsz,ok.noex,ok.exfs,ok.funs,ok.frf⟩
theorem Cx.Ok.unwish {X:Cx} {E:Value→Shared→Prop} (ok:(X.wish E).Ok):X.Ok:=
  ⟨ok.mod,ok.kind,ok.glob,ok.blt,ok.above,ok.inj,ok.has,ok.cab,ok.hd,ok.frames,ok.stk,ok.exf,ok.bs,ok.bsz,ok.noex,ok.exfs,ok.funs,ok.frf⟩
section
variable {X:Cx} {pins:List (Addr×Obj)} {σ:St} {H:Hp} {s:Shared} {E:Value→Shared→Prop}
theorem Inv.wish (I:Inv X pins σ H s) (E:Value→Shared→Prop):Inv (X.wish E) pins σ H s:=⟨I.ok.wish E,I.os,I.bare,I.base,I.loc,I.cell,I.free,I.freeC,I.pin,I.hok,I.len⟩
theorem Inv.unwish (I:Inv (X.wish E) pins σ H s):Inv X pins σ H s:=⟨I.ok.unwish,I.os,I.bare,I.base,I.loc,I.cell,I.free,I.freeC,I.pin,I.hok,I.len⟩
theorem SP.unwish {D:Ends} {f:Flow} {s':Shared} (h:SP (X.wish E) pins D f s'):SP X pins D f s':=by
  cases f with
  | next=>obtain ⟨σ',H',I,q⟩:=h;exact ⟨σ',H',I.unwish,q⟩
  | brk=>obtain ⟨σ',H',I,q⟩:=h;exact ⟨σ',H',I.unwish,q⟩
  | cont=>obtain ⟨σ',H',I,q⟩:=h;exact ⟨σ',H',I.unwish,q⟩
  | ret u=>obtain ⟨v,σ',H',I,r,q⟩:=h;exact ⟨v,σ',H',I.unwish,r,q⟩
theorem PSs.nox {st:List Stmt} {t:TS} (h:PSs X.nox st t):PSs X st t:=fun pins s σ H D I hw=>
  wpAny_mono (h pins s σ H D (I.wish _) hw) (fun _ _ q=>q.unwish) fun _ _ z=>False.elim z
end
section
variable {X:Cx} {st:Stmt} {rest:List Stmt} {t u:TS} {e:Expr} {te:TE} {pos:Pos}
def tNext:TS:=fun D σ H=>D.nx σ H
def tSeq (t u:TS):TS:=fun D σ H=>t {D with nx:=u D} σ H
theorem pss_nil:PSs X [] tNext:=fun _ _ σ H _ I h=>wpAny_execs_nil ⟨σ,H,I,h⟩
theorem pss_cons (h1:PS X st t) (h2:PSs X rest u):PSs X (st::rest) (tSeq t u):=by
  intro pins s σ H D I h
  refine wpAny_execs_cons (thn (h1 pins s σ H {D with nx:=u D} I h) fun f s1 q=>?_)
  cases f with
  | next=>
    obtain ⟨σ',H',I',q⟩:=q
    exact h2 pins s1 σ' H' D I' q
  | ret v=>exact q
  | brk=>exact q
  | cont=>exact q
theorem pss_one (h1:PS X st t):PSs X [st] t:=by
  intro pins s σ H D I h
  refine wpAny_execs_cons (thn (h1 pins s σ H D I h) fun f s1 q=>?_)
  cases f with
  | next=>exact wpAny_execs_nil q
  | ret v=>exact q
  | brk=>exact q
  | cont=>exact q
theorem Inv.quiet {pins:List (Addr×Obj)} {σ:St} {H:Hp} {s:Shared} (I:Inv X pins σ H s):interactive X.env=false:=by simp [interactive,I.ok.kind]
def tDrop (te:TE):TS:=fun D σ H=>te σ H fun _ H1=>D.nx σ H1
theorem ps_expr (he:PE X e te) (hs:swapsWith e none pos.line X.env=pure false:=by rfl):PS X (.Expr e pos) (tDrop te):=by
  intro pins s σ H D I h
  refine wpAny_Expr_any (thn (he pins s σ H _ I h) fun v s1 zz=>?_) I.quiet hs
  obtain ⟨x,H1,I1,r1,q1⟩:=zz
  exact ⟨σ,H1,I1,q1⟩
def tRet (te:TE):TS:=fun D σ H=>te σ H D.rt
theorem ps_ret (he:PE X e te):PS X (.Return (some e) pos) (tRet te):=by
  intro pins s σ H D I h
  refine wpAny_Return_some (thn (he pins s σ H _ I h) fun v s1 zz=>?_)
  obtain ⟨x,H1,I1,r1,q1⟩:=zz
  exact ⟨x,σ,H1,I1,r1,q1⟩
def tIfS (c:TT) (t u:TS):TS:=fun D σ H=>c σ H fun b H1=>if b=true then t D σ H1 else u D σ H1
theorem ps_if {c:Expr} {a b:List Stmt} {tc:TT} (hc:PT X c tc) (ha:PSs X a t) (hb:PSs X b u):PS X (.If c a b pos) (tIfS tc t u):=by
  intro pins s σ H D I h
  refine wpAny_If (thn (hc pins s σ H _ I h) fun d s1 zz=>?_)
  obtain ⟨H1,I1,q1⟩:=zz
  cases d with
  | true=>exact ha pins s1 σ H1 D I1 q1
  | false=>exact hb pins s1 σ H1 D I1 q1
def tNever:TS:=fun _ _ _=>False
theorem ps_never:PS X st tNever:=fun _ _ _ _ _ _ h=>h.elim
end
abbrev TG:=V→St→Hp→(St→Hp→Prop)→Prop
abbrev TGs:=List V→St→Hp→(St→Hp→Prop)→Prop
def PG (X:Cx) (target:Expr) (t:TG):Prop:=
  ∀(pins:List (Addr×Obj)) (s:Shared) (σ:St) (H:Hp) (v:V) (u:Value) (Q:St→Hp→Prop),Inv X pins σ H s→RelV v u→t v σ H Q→
    wpAny (model X.prog X.w) X.A (assign target X.env u) (fun _ s'=>∃σ' H',Inv X pins σ' H' s'∧Q σ' H') X.xe s
def PGs (X:Cx) (ts:List Expr) (t:TGs):Prop:=
  ∀(pins:List (Addr×Obj)) (s:Shared) (σ:St) (H:Hp) (vs:List V) (us:List Value) (Q:St→Hp→Prop),Inv X pins σ H s→Vals vs us→t vs σ H Q→
    wpAny (model X.prog X.w) X.A (assignInOrder ((assignEach ts X.env).map (·.2)) us) (fun _ s'=>∃σ' H',Inv X pins σ' H' s'∧Q σ' H') X.xe s
abbrev TSet:=V→V→V→Hp→(Hp→Prop)→Prop
def PSet (X:Cx) (t:TSet):Prop:=
  ∀(pins:List (Addr×Obj)) (s:Shared) (σ:St) (H:Hp) (o i v:V) (ov iv u:Value) (Q:Hp→Prop),Inv X pins σ H s→RelV o ov→RelV i iv→RelV v u→t o i v H Q→
    wpAny (model X.prog X.w) X.A (setItem ov iv u) (fun _ s'=>∃H',Inv X pins σ H' s'∧Q H') X.xe s
abbrev TIp:=V→V→Hp→VK→Prop
def PIp (X:Cx) (op:Operator) (t:TIp):Prop:=
  ∀(pins:List (Addr×Obj)) (s:Shared) (σ:St) (H:Hp) (x y:V) (v u:Value) (Q:VK),Inv X pins σ H s→RelV x v→RelV y u→t x y H Q→
    wpAny (model X.prog X.w) X.A (inplaceOp op v u) (EP X pins σ Q) X.xe s
section
variable {X:Cx} {pos:Pos}
def gName (i:Nat):TG:=fun v σ H Q=>Q (σ.set i (some v)) H
theorem pg_name {i:Nat} {x:Str} (hN:X.N.Nodup) (hi:X.N[i]? = some x) (hx:Loc X.env.scope x) (hf:X.fn x=true∨X.env.scope.names.lookup x=some .local:=by first | exact .inl rfl | exact .inr rfl | assumption):PG X (.Name x pos) (gName i):=by
  intro pins s σ H v u Q I r h
  exact wpAny_assign_Name (store_ok I hN hi hx r (fun s' I'=>⟨_,H,I',h⟩) hf)
def gNil:TGs:=fun vs σ H Q=>vs=[]∧Q σ H
def gCons (t:TG) (u:TGs):TGs:=fun vs σ H Q=>∃v r,vs=v::r∧t v σ H fun σ' H'=>u r σ' H' Q
theorem pgs_nil:PGs X [] gNil:=by
  intro pins s σ H vs us Q I r h
  obtain ⟨e,h⟩:=h
  subst e
  cases r
  exact assignInOrder_nil ⟨σ,H,I,h⟩
theorem pgs_cons {e:Expr} {es:List Expr} {t:TG} {u:TGs} (h1:PG X e t) (h2:PGs X es u)
    (hs:(assignEach (e::es) X.env).map (·.2)=assign e X.env::(assignEach es X.env).map (·.2):=by rfl):PGs X (e::es) (gCons t u):=by
  intro pins s σ H vs us Q I r h
  obtain ⟨v,vr,e1,h⟩:=h
  subst e1
  cases r with
  | cons r rr=>
    rw [hs]
    refine assignInOrder_cons (thn (h1 pins s σ H _ _ _ I r h) fun _ s1 zz=>?_)
    obtain ⟨σ1,H1,I1,q1⟩:=zz
    exact h2 pins s1 σ1 H1 _ _ Q I1 rr q1
def gTup (K:PySem.W.Frag) (n:Nat) (t:TGs):TG:=fun v σ H Q=>∃a xs,v = .ref a∧SqT K H a xs∧xs.length=n∧t xs σ H Q
theorem pg_tup {es:List Expr} {k:Nat} {t:TGs} {n:Nat} (hc:X.calm=true) (h:PGs X es t)
    (hn:(assignEach es X.env).length=n:=by rfl) (hst:(assignEach es X.env).findIdx? (·.1)=none:=by rfl):PG X (.Tuple es k pos) (gTup X.K n t):=by
  intro pins s σ H v u Q I r hw
  obtain ⟨a,xs,e1,hq,hl,hw⟩:=hw
  subst e1
  cases r
  obtain ⟨its,rv,ht,hz⟩:=I.tuple hq
  refine assign_Tuple_tuple (I.ok.hd hc) ht (by simp [hn,← hl,rv.length]) hst fun h' hx=>?_
  have I1:Inv X pins σ H {s with heap:=h'}:=I.kept (t':=s.toks) fun b o e=>hx b o (Nat.ne_of_lt (Heap.lt_size e)) e
  exact h pins _ σ H xs _ Q I1 (by simpa using rv) hw
def gSub (to ti:TE) (t:TSet):TG:=fun v σ H Q=>to σ H fun o H1=>ti σ H1 fun i H2=>t o i v H2 fun H3=>Q σ H3
theorem pg_sub {o i:Expr} {to ti:TE} {t:TSet} (ho:PE X o to) (hi:PE X i ti) (hs:PSet X t)
    (ha:∀v,assign (.Subscript o i pos) X.env v=(do
      let ov ← holding [v] (eval o X.env)
      let iv ← holding [v,ov] (eval i X.env)
      standAt pos
      holding [v,ov,iv] (setItem ov iv v)
      release [v,ov,iv] []):=by intro _;rfl):PG X (.Subscript o i pos) (gSub to ti t):=by
  intro pins s σ H v u Q I r h
  rw [ha]
  refine wpAny_bind (wpAny_holding (thn (ho pins s σ H _ I h) fun ov s1 zz=>?_))
  obtain ⟨x,H1,I1,r1,q1⟩:=zz
  refine wpAny_bind (wpAny_holding (thn (hi pins s1 σ H1 _ I1 q1) fun iv s2 zz=>?_))
  obtain ⟨y,H2,I2,r2,q2⟩:=zz
  refine wpAny_bind (wpAny_standAt (wpAny_bind (wpAny_holding (thn (hs pins s2 σ H2 x y v ov iv u _ I2 r1 r2 r q2) fun _ s3 zz=>?_))))
  obtain ⟨H3,I3,q3⟩:=zz
  exact wpAny_release ⟨σ,H3,I3,q3⟩
def tAsg (te:TE) (g:TG):TS:=fun D σ H=>te σ H fun x H1=>g x σ H1 D.nx
theorem ps_asg {tg e:Expr} {te:TE} {g:TG} (he:PE X e te) (hg:PG X tg g) (hs:swapsWithSole [tg] e pos.line X.env=pure false:=by rfl) (hw:swappedStores [tg] e X.env=pure none:=by rfl)
    (h1:(assignEach [tg] X.env).map (·.2)=[assign tg X.env]:=by rfl):PS X (.Assign [tg] e pos) (tAsg te g):=by
  intro pins s σ H D I h
  refine wpAny_Assign_stores (thn (he pins s σ H _ I h) fun v s1 zz=>?_) hs hw
  obtain ⟨x,H1,I1,r1,q1⟩:=zz
  rw [h1]
  exact thn (hg pins s1 σ H1 x v _ I1 r1 q1) fun _ s2 q=>q
theorem ps_set {i:Nat} {x:Str} {e:Expr} {te:TE} {pos':Pos} (hN:X.N.Nodup) (hi:X.N[i]? = some x) (hx:Loc X.env.scope x) (he:PE X e te) (hs:swapsWith e (some (.Name x pos')) pos.line X.env=pure false:=by rfl) (hf:X.fn x=true∨X.env.scope.names.lookup x=some .local:=by first | exact .inl rfl | exact .inr rfl | assumption) :
    PS X (.Assign [.Name x pos'] e pos) (tAsg te (gName i)):=by
  intro pins s σ H D I h
  refine wpAny_Assign_Name (thn (he pins s σ H _ I h) fun v s1 zz=>?_) hs
  obtain ⟨y,H1,I1,r1,q1⟩:=zz
  exact store_ok I1 hN hi hx r1 (fun s2 I2=>⟨_,H1,I2,q1⟩) hf
def tAug (i:Nat) (te:TE) (ti:TIp):TS:=fun D σ H=>∃x,σ[i]? = some (some x)∧te σ H fun y H1=>ti x y H1 fun z H2=>D.nx (σ.set i (some z)) H2
theorem ps_aug {i:Nat} {x:Str} {e:Expr} {te:TE} {op:Operator} {ti:TIp} {pos':Pos} (hN:X.N.Nodup) (hi:X.N[i]? = some x) (hx:Loc X.env.scope x) (he:PE X e te) (ho:PIp X op ti) (hf:X.fn x=true∨X.env.scope.names.lookup x=some .local:=by first | exact .inl rfl | exact .inr rfl | assumption) :
    PS X (.AugAssign (.Name x pos') op e pos) (tAug i te ti):=by
  intro pins s σ H D I h
  obtain ⟨v,e1,h⟩:=h
  obtain ⟨m,hn,hl⟩:=I.loc
  have vis:Vis X.env.scope x:=by rcases hx with k | k;exact .inl k;exact .inr (.inl k)
  obtain ⟨u,r,l⟩:=hl i x v hi e1 vis
  refine wpAny_AugAssign_Name ?_
  have go:wpAny (model X.prog X.w) X.A (eval e X.env) (fun w s₂=>wpAny (model X.prog X.w) X.A (inplaceOp op u w) (fun r s₃=>wpAny (model X.prog X.w) X.A (storeName X.env x r) (fun _=>SP X pins D .next) X.xe s₃) X.xe s₂) X.xe s:=by
    refine thn (he pins s σ H _ I h) fun w s1 zz=>?_
    obtain ⟨y,H1,I1,r1,q1⟩:=zz
    refine thn (ho pins s1 σ H1 v y u w _ I1 r r1 q1) fun z s2 zz=>?_
    obtain ⟨zv,H2,I2,r2,q2⟩:=zz
    exact store_ok I2 hN hi hx r2 (fun s3 I3=>⟨_,H2,I3,q2⟩) hf
  rcases l with ⟨hk,hm⟩ | ⟨hk,c,hc,hcell⟩
  ·exact wpAny_loadName_local I.ok.kind hk hn hm go
  · rcases hk with hk | hk
    ·exact wpAny_loadName_cell I.ok.kind hk hc hcell go
    · rcases hx with k | k
      · have:X.env.scope.names.lookup x=some .free:=hk
        rw [k] at this;cases this
      · have:X.env.scope.names.lookup x=some .free:=hk
        rw [k] at this;cases this
def ipI (f:Int→Int→Int):TIp:=fun x y H Q=>∃i j,x = .int i∧y = .int j∧Q (.int (f i j)) H
theorem ip_add:PIp X .Add (ipI fun i j=>i+j):=by
  intro pins s σ H x y v u Q I r1 r2 h
  obtain ⟨i,j,e1,e2,q⟩:=h
  subst e1;subst e2
  obtain ⟨t,rfl⟩:=r1
  obtain ⟨t',rfl⟩:=r2
  exact iadd_int ⟨.int _,H,I.tok _,⟨_,rfl⟩,q⟩
end
section
variable {X:Cx} {pos:Pos}
def tWhile (c:TT) (tb:TS):TS:=fun D σ H=>∃W:Nat→St→Hp→Prop,(∃m,W m σ H)∧∀m σ H,W m σ H→
  c σ H fun b H1=>if b=true then ∃N:St→Hp→Prop,(∀σ' H',N σ' H'→∃m',m'<m∧W m' σ' H')∧tb {D with nx:=N,ct:=N,bk:=D.nx} σ H1 else D.nx σ H1
theorem ps_while {c:Expr} {body:List Stmt} {tc:TT} {tb:TS} (hp:PassesOwn (model X.prog X.w) X.A X.env X.xe) (hc:PT X c tc) (hb:PSs X body tb):PS X (.While c body [] pos) (tWhile tc tb):=by
  intro pins s σ H D I h
  obtain ⟨W,⟨m0,w0⟩,turn⟩:=h
  refine wpAny_While (codeAny_whileLoop (fun n s'=>∃σ' H',Inv X pins σ' H' s'∧W n σ' H') ?_ m0 ⟨σ,H,I,w0⟩)
  rintro n s1 ⟨σ1,H1,I1,w1⟩
  refine wpAny_passesOwn hp (thn (hc pins s1 σ1 H1 _ I1 (turn n σ1 H1 w1)) fun b s2 zz=>?_)
  obtain ⟨H2,I2,q2⟩:=zz
  cases b with
  | true=>
    obtain ⟨N,hN,q2⟩:=q2
    rw [if_pos rfl]
    refine wpAny_passesOwn hp (thn (hb pins s2 σ1 H2 _ I2 q2) fun f s3 q3=>?_)
    cases f with
    | next=>
      obtain ⟨σ3,H3,I3,n3⟩:=q3
      obtain ⟨m',hm,w3⟩:=hN σ3 H3 n3
      exact ⟨m',hm,σ3,H3,I3,w3⟩
    | cont=>
      obtain ⟨σ3,H3,I3,n3⟩:=q3
      obtain ⟨m',hm,w3⟩:=hN σ3 H3 n3
      exact ⟨m',hm,σ3,H3,I3,w3⟩
    | brk=>exact q3
    | ret v=>exact q3
  | false=>
    rw [if_neg Bool.false_ne_true]
    exact wpAny_execs_nil ⟨σ1,H2,I2,q2⟩
end
structure It where
  go:Nat→Hp→Prop
  yld:Nat→Hp→V→Hp→Prop
  stop:Nat→Hp→Prop
def FpOk (X:Cx) (pins:List (Addr×Obj)) (H:Hp) (b:Addr):Prop:=
  H b=none∧b≠X.env.locals∧b∉X.fs∧(b∈X.ex∨X.s₀.heap.objs.size≤b)∧(∀x c,X.env.cells.lookup x=some c→c≠b)∧∀p∈X.pn++pins,p.1≠b
theorem Inv.fpOk {X:Cx} {pins:List (Addr×Obj)} {σ:St} {H H':Hp} {s:Shared} {b:Addr} (I:Inv X pins σ H s) (hb:s.heap.objs.size≤b) (hn:H' b=none):FpOk X pins H' b:=by
  refine ⟨hn,Nat.ne_of_gt (Nat.lt_of_lt_of_le I.lt hb),I.nofs hb,.inr (Nat.le_trans I.sz hb),fun x c e z=>?_,fun p hp z=>?_⟩
  · obtain ⟨v,q⟩:=I.cell x c e
    exact absurd (Nat.lt_of_lt_of_le q.lt (by rw [z];exact hb)) (Nat.lt_irrefl _)
  ·exact absurd (Nat.lt_of_lt_of_le (Heap.lt_size (I.pin p hp).1) (by rw [z];exact hb)) (Nat.lt_irrefl _)
structure Turn (P:Program) (w:World) (K:PySem.W.Frag) (tg:Expr) (J:It) (fp:List Addr) (it:Addr) (tn:Nat→Heap→Prop):Prop where
  mem:it∈fp
  obj:∀i h,tn i h→∀b∈fp,∃o,h.get? b=some o∧∀v,o.data≠.cell v
  keep:∀i h h',tn i h→(∀b∈fp,∀o,h.get? b=some o→h'.get? b=some o)→tn i h'
  item:∀(X:Cx),X.prog=P→X.w=w→X.K=K→X.calm=true→∀(i:Nat) (pins:List (Addr×Obj)) (s:Shared) (σ:St) (H:Hp) (E:Value→Shared→Prop),Inv X pins σ H s→(∀b∈fp,FpOk X pins H b)→tn i s.heap→J.go i H→
    wpAny (model P w) X.A (pyNext (.ref it)) (fun r s1=>∃u,r=some u∧
      wpAny (model P w) X.A (letOwnedTupleGo tg (.ref it) u) (fun _ s2=>∃x H',Inv X pins σ H' s2∧RelV x u∧J.yld i H x H'∧tn (i+1) s2.heap∧∀b∈fp,H' b=none) E s1) E s
  done:∀(X:Cx),X.prog=P→X.w=w→X.K=K→X.calm=true→∀(i:Nat) (pins:List (Addr×Obj)) (s:Shared) (σ:St) (H:Hp) (E:Value→Shared→Prop),Inv X pins σ H s→(∀b∈fp,FpOk X pins H b)→tn i s.heap→J.stop i H→
    wpAny (model P w) X.A (pyNext (.ref it)) (fun r s1=>r=none∧Inv X pins σ H s1) E s
  self:∀(A:Around) (i:Nat) (s:Shared) (Q:Value→Shared→Prop) (E:Value→Shared→Prop),tn i s.heap→Q (.ref it) s→wpAny (model P w) A (pyIter (.ref it)) Q E s
abbrev TI:=St→Hp→(It→Hp→Prop)→Prop
def PIE (X:Cx) (pins:List (Addr×Obj)) (σ:St) (tg:Expr) (R:It→Hp→Prop) (itv:Value) (s2:Shared):Prop:=
  ∃(it:Addr) (fp:List Addr) (tn:Nat→Heap→Prop) (J:It) (H':Hp),itv = .ref it∧Inv X pins σ H' s2∧Turn X.prog X.w X.K tg J fp it tn∧tn 0 s2.heap∧(∀b∈fp,FpOk X pins H' b)∧R J H'
def PI (X:Cx) (tg iter:Expr) (wi:TI):Prop:=
  ∀(pins:List (Addr×Obj)) (s:Shared) (σ:St) (H:Hp) (R:It→Hp→Prop),Inv X pins σ H s→wi σ H R→
    wpAny (model X.prog X.w) X.A (eval iter X.env) (fun v s1=>wpAny (model X.prog X.w) X.A (pyIter v) (PIE X pins σ tg R) X.xe s1) X.xe s
theorem go_of {M:Model} {A:Around} {E:Value→Shared→Prop} {s:Shared} {tg:Expr} {it:Addr} {u:Value} {o:Obj} {n:String} {vs:Array Value} {Q:Unit→Shared→Prop} (ho:s.heap.get? it=some o) (hc:o.cls = .type n) (hd:o.data = .fields vs)
    (hn : ["enumerate", "zip", "dict_itemiterator", "dict_reverseitemiterator", "odict_iterator", "itertools.zip_longest", "itertools.pairwise"].contains n=false) (hQ:Q () s):wpAny M A (letOwnedTupleGo tg (.ref it) u) Q E s:=by
  unfold letOwnedTupleGo
  cases tg <;> first
    | exact wpAny_pure hQ
    | (cases u <;> first
        | exact wpAny_pure hQ
        | (refine wpAny_bind (wpAny_load ho ?_)
           rw [hc,hd]
           show wpAny M A (if (["enumerate", "zip", "dict_itemiterator", "dict_reverseitemiterator", "odict_iterator", "itertools.zip_longest", "itertools.pairwise"].contains n && vs[0]? == some (rawInt _))=true then _ else _) Q E s
           rw [if_neg (by intro h;rw [hn,Bool.false_and] at h;cases h)]
           exact wpAny_pure hQ))
def Itl (K:PySem.W.Frag) (a:Addr):It:=
  ⟨fun i H=>∃xs x,SqL K H a xs∧xs[i]? = some x,fun i H x H'=>H'=H∧∀xs,SqL K H a xs→xs[i]? = some x,fun i H=>∃xs,SqL K H a xs∧xs.length≤i⟩
def Itt (K:PySem.W.Frag) (a:Addr):It:=
  ⟨fun i H=>∃xs x,SqT K H a xs∧xs[i]? = some x,fun i H x H'=>H'=H∧∀xs,SqT K H a xs→xs[i]? = some x,fun i H=>∃xs,SqT K H a xs∧xs.length≤i⟩
def Itr (lo:Int) (n:Nat):It:=⟨fun i _=>i<n,fun i H x H'=>H'=H∧x = .int (lo+i),fun i _=>n≤i⟩
theorem turn_list {P:Program} {w:World} {K:PySem.W.Frag} {tg:Expr} (a it:Addr):Turn P w K tg (Itl K a) [it] it (fun i h=>h.IsListIter it a i) where
  mem:=by simp
  obj:=fun i h st b hb=>by
    have e:b=it:=by simpa using hb
    subst e
    obtain ⟨o,e,c,d⟩:=st
    exact ⟨o,e,fun v z=>by rw [d] at z;cases z⟩
  keep:=fun i h h' st k=>st.at fun o e=>k it (by simp) o e
  item:=by
    intro X hP hw hK hc i pins s σ H E I hf st hg
    subst hP hw hK
    obtain ⟨xs,x,hq,hx⟩:=hg
    obtain ⟨its,rv,p,hz⟩:=I.list hq
    obtain ⟨u,hu,ru⟩:=rv.get hx
    obtain ⟨f0,f1,f2,f3,f4,f5⟩:=hf it (by simp)
    refine wpAny_pyNext_list_item st p.isList (x:=u) (by simpa using hu) fun h' st' sb=>?_
    have I1:Inv X pins σ H {s with heap:=h'}:=I.turned (t':=s.toks) (fun b o hb e=>(sb.2 b hb).trans e) f0 f1 f3 f4 f5
    obtain ⟨o,e,c,d⟩:=id st'
    exact ⟨u,rfl,go_of (s:={s with heap:=h'}) e c d (by decide) ⟨x,H,I1,ru,⟨rfl,fun ys hy=>by rw [I.list_inj hy hq];exact hx⟩,st',fun b hb=>(hf b hb).1⟩⟩
  done:=by
    intro X hP hw hK hc i pins s σ H E I hf st hg
    subst hP hw hK
    obtain ⟨xs,hq,hx⟩:=hg
    obtain ⟨its,rv,p,hz⟩:=I.list hq
    obtain ⟨f0,f1,f2,f3,f4,f5⟩:=hf it (by simp)
    have hl:=rv.length
    exact wpAny_pyNext_list_end (I.ok.hd hc) st p.isList (by simp;omega) fun h' eb=>⟨rfl,I.turned (t':=s.toks) (fun b o hb e=>eb b o hb e) f0 f1 f3 f4 f5⟩
  self:=fun _ _ _ _ _ st h=>wpAny_pyIter_listiter st h
theorem turn_tuple {P:Program} {w:World} {K:PySem.W.Frag} {tg:Expr} (a it:Addr):Turn P w K tg (Itt K a) [it] it (fun i h=>h.IsTupleIter it a i) where
  mem:=by simp
  obj:=fun i h st b hb=>by
    have e:b=it:=by simpa using hb
    subst e
    obtain ⟨o,e,c,d⟩:=st
    exact ⟨o,e,fun v z=>by rw [d] at z;cases z⟩
  keep:=fun i h h' st k=>st.at fun o e=>k it (by simp) o e
  item:=by
    intro X hP hw hK hc i pins s σ H E I hf st hg
    subst hP hw hK
    obtain ⟨xs,x,hq,hx⟩:=hg
    obtain ⟨its,rv,p,hz⟩:=I.tuple hq
    obtain ⟨u,hu,ru⟩:=rv.get hx
    obtain ⟨f0,f1,f2,f3,f4,f5⟩:=hf it (by simp)
    refine wpAny_pyNext_tuple_item st (show s.heap.IsTuple a its.toArray from p) (x:=u) (by simpa using hu) fun h' st' sb=>?_
    have I1:Inv X pins σ H {s with heap:=h'}:=I.turned (t':=s.toks) (fun b o hb e=>(sb.2 b hb).trans e) f0 f1 f3 f4 f5
    obtain ⟨o,e,c,d⟩:=id st'
    exact ⟨u,rfl,go_of (s:={s with heap:=h'}) e c d (by decide) ⟨x,H,I1,ru,⟨rfl,fun ys hy=>by rw [I.tuple_inj hy hq];exact hx⟩,st',fun b hb=>(hf b hb).1⟩⟩
  done:=by
    intro X hP hw hK hc i pins s σ H E I hf st hg
    subst hP hw hK
    obtain ⟨xs,hq,hx⟩:=hg
    obtain ⟨its,rv,p,hz⟩:=I.tuple hq
    obtain ⟨f0,f1,f2,f3,f4,f5⟩:=hf it (by simp)
    have hl:=rv.length
    exact wpAny_pyNext_tuple_end (I.ok.hd hc) st (show s.heap.IsTuple a its.toArray from p) (by simp;omega) fun h' eb=>⟨rfl,I.turned (t':=s.toks) (fun b o hb e=>eb b o hb e) f0 f1 f3 f4 f5⟩
  self:=fun _ _ _ _ _ st h=>wpAny_pyIter_tupleiter st h
theorem turn_range {P:Program} {w:World} {K:PySem.W.Frag} {tg:Expr} (it:Addr) (lo:Int) (n:Nat):Turn P w K tg (Itr lo n) [it] it (fun i h=>IsRangeIter h it (lo+(i:Nat) * 1) ((n:Int) - (i:Nat)) 1) where
  mem:=by simp
  obj:=fun i h st b hb=>by
    have e:b=it:=by simpa using hb
    subst e
    exact ⟨_,st,fun v z=>by
      have z':Data.fields _=Data.cell v:=z
      cases z'⟩
  keep:=fun i h h' st k=>k it (by simp) _ st
  item:=by
    intro X hP hw hK hc i pins s σ H E I hf st hg
    subst hP hw hK
    obtain ⟨f0,f1,f2,f3,f4,f5⟩:=hf it (by simp)
    have W:=Walks.range (prog:=X.prog) (w:=X.w) (I.ok.hd hc) it lo 1 n
    refine W.item i s _ _ hg st fun v h' tk hv st' kk=>?_
    obtain ⟨t,rfl⟩:=hv
    have I1:Inv X pins σ H {s with heap:=h',toks:=tk}:=I.turned (fun b o hb e=>kk b o (by simpa using hb) e) f0 f1 f3 f4 f5
    refine ⟨_,rfl,go_of (s:={s with heap:=h',toks:=tk}) (n:= "range_iterator") st' rfl rfl (by decide) ⟨.int (lo+i),H,I1,⟨t,?_⟩,⟨rfl,rfl⟩,st',fun b hb=>(hf b hb).1⟩⟩
    rw [Int.mul_one]
  done:=by
    intro X hP hw hK hc i pins s σ H E I hf st hg
    subst hP hw hK
    obtain ⟨f0,f1,f2,f3,f4,f5⟩:=hf it (by simp)
    exact wpAny_pyNext_range_end (I.ok.hd hc) st (by have:n≤i:=hg;omega) fun h' eb=>⟨rfl,I.turned (t':=s.toks) (fun b o hb e=>eb b o hb e) f0 f1 f3 f4 f5⟩
  self:=fun _ _ _ _ _ st h=>wpAny_pyIter_rangeiter st h
section
variable {X:Cx} {tg:Expr}
def iList (K:PySem.W.Frag) (tl:TE):TI:=fun σ H R=>tl σ H fun x H1=>∃a,x = .ref a∧(∃xs,SqL K H1 a xs)∧R (Itl K a) H1
def iTup (K:PySem.W.Frag) (tl:TE):TI:=fun σ H R=>tl σ H fun x H1=>∃a,x = .ref a∧(∃xs,SqT K H1 a xs)∧R (Itt K a) H1
theorem pi_list {l:Expr} {tl:TE} (hl:PE X l tl):PI X tg l (iList X.K tl):=by
  intro pins s σ H R I h
  refine thn (hl pins s σ H _ I h) fun v s1 zz=>?_
  obtain ⟨x,H1,I1,r1,q1⟩:=zz
  obtain ⟨a,e,⟨xs,hq⟩,q⟩:=q1
  subst e
  cases r1
  obtain ⟨its,rv,p,hz⟩:=I1.list hq
  refine wpAny_pyIter_list p.isList ?_
  refine ⟨s1.heap.objs.size,[s1.heap.objs.size],_,_,H1,rfl,I1.kept (t':=s1.toks) fun b o e=>Heap.get?_push_of_some _ e,turn_list a _,⟨_,Heap.get?_push_size _ rfl,rfl,rfl⟩,fun b hb=>?_,q⟩
  have e:b=s1.heap.objs.size:=by simpa using hb
  subst e
  exact I1.fpOk (Nat.le_refl _) (I1.hok.fresh (Nat.le_refl _))
theorem pi_tup {l:Expr} {tl:TE} (hl:PE X l tl):PI X tg l (iTup X.K tl):=by
  intro pins s σ H R I h
  refine thn (hl pins s σ H _ I h) fun v s1 zz=>?_
  obtain ⟨x,H1,I1,r1,q1⟩:=zz
  obtain ⟨a,e,⟨xs,hq⟩,q⟩:=q1
  subst e
  cases r1
  obtain ⟨its,rv,p,hz⟩:=I1.tuple hq
  refine wpAny_pyIter_tuple (show s1.heap.IsTuple a its.toArray from p) ?_
  refine ⟨s1.heap.objs.size,[s1.heap.objs.size],_,_,H1,rfl,I1.kept (t':=s1.toks) fun b o e=>Heap.get?_push_of_some _ e,turn_tuple a _,⟨_,Heap.get?_push_size _ rfl,rfl,rfl⟩,fun b hb=>?_,q⟩
  have e:b=s1.heap.objs.size:=by simpa using hb
  subst e
  exact I1.fpOk (Nat.le_refl _) (I1.hok.fresh (Nat.le_refl _))
theorem range_it {pins:List (Addr×Obj)} {σ:St} {H:Hp} {s:Shared} {R:It→Hp→Prop} {E:Value→Shared→Prop} {lo hi:Int} {t u v:Tok} {tk:Nat} (I:Inv X pins σ H s) (h1 : -(2 ^ 62)≤lo) (h2:lo<2 ^ 62) (h3 : -(2 ^ 62)≤hi) (h4:hi<2 ^ 62)
    (q:R (Itr lo (hi - lo).toNat) H):wpAny (model X.prog X.w) X.A (pyIter (.ref s.heap.objs.size)) (PIE X pins σ tg R) E {s with heap:=s.heap.push {cls:=.type "range",data:=.fields #[.int lo t,.int hi u,.int 1 v]},toks:=tk}:=by
  refine wpAny_pyIter_range (IsRange.new ..) (small_one h1 h2 h3 h4) ?_
  have I1:Inv X pins σ H {s with heap:=s.heap.push {cls:=.type "range",data:=.fields #[.int lo t,.int hi u,.int 1 v]},toks:=tk}:=I.kept fun b o e=>Heap.get?_push_of_some _ e
  refine ⟨(s.heap.push {cls:=.type "range",data:=.fields #[.int lo t,.int hi u,.int 1 v]}).objs.size,[(s.heap.push {cls:=.type "range",data:=.fields #[.int lo t,.int hi u,.int 1 v]}).objs.size],_,_,H,rfl,
    I1.kept (t':=tk) fun b o e=>Heap.get?_push_of_some _ e,turn_range _ lo (hi - lo).toNat,?_,fun b hb=>?_,q⟩
  · have e1:lo+((0:Nat):Int) * 1=lo:=by simp
    have e2:(((hi - lo).toNat:Nat):Int) - ((0:Nat):Int)=Builtin.Range.rangeSize lo hi 1:=by rw [rangeSize_one];split <;> omega
    show IsRangeIter _ _ (lo+((0:Nat):Int) * 1) ((((hi - lo).toNat:Nat):Int) - ((0:Nat):Int)) 1
    rw [e1,e2]
    exact Heap.get?_push_size _ rfl
  · have e:b=(s.heap.push {cls:=.type "range",data:=.fields #[.int lo t,.int hi u,.int 1 v]}).objs.size:=by simpa using hb
    subst e
    exact I1.fpOk (Nat.le_refl _) (I1.hok.fresh (Nat.le_refl _))
def iRng1 (ta:TA):TI:=fun σ H R=>ta σ H fun vs H1=>∃j:Int,vs=[.int j]∧-(2 ^ 62)≤j∧j<2 ^ 62∧R (Itr 0 j.toNat) H1
def iRng2 (ta:TA):TI:=fun σ H R=>ta σ H fun vs H1=>∃i j:Int,vs=[.int i,.int j]∧(-(2 ^ 62)≤i∧i<2 ^ 62∧-(2 ^ 62)≤j∧j<2 ^ 62)∧R (Itr i (j - i).toNat) H1
theorem pi_range1 {a:Expr} {ta:TA} {p pos:Pos} (hg:Gl X "range") (hm:X.mg "range" = none) (ha:PA X [a] ta) (hs:starEach [a] X.env=[(false,eval a X.env)]:=by rfl):PI X tg (.Call (.Name "range" p) [a] [] pos) (iRng1 ta):=by
  intro pins s σ H R I h
  refine Call_ (ld_blt I hg hm boot_range (PyProof.Rows.callWith_type1 (thn (ha pos pins s σ H _ I h) fun us s1 zz=>?_) hs rfl))
  obtain ⟨vs,H1,I1,r1,q1⟩:=zz
  obtain ⟨j,e,q1,q2,q⟩:=q1
  subst e
  cases r1 with
  | cons r rr=>
    cases rr
    obtain ⟨t,rfl⟩:=r
    exact call_range_1 (range_it I1 (by omega) (by omega) q1 q2 (by simpa using q))
theorem pi_range2 {a b:Expr} {ta:TA} {p pos:Pos} (hg:Gl X "range") (hm:X.mg "range" = none) (ha:PA X [a,b] ta) (hs:starEach [a,b] X.env=[(false,eval a X.env),(false,eval b X.env)]:=by rfl) (hs2:starEach [b] X.env=[(false,eval b X.env)]:=by rfl) :
    PI X tg (.Call (.Name "range" p) [a,b] [] pos) (iRng2 ta):=by
  intro pins s σ H R I h
  refine Call_ (ld_blt I hg hm boot_range (PyProof.Rows.callWith_type1 (thn (ha pos pins s σ H _ I h) fun us s1 zz=>?_) (by rw [hs,hs2]) (by rw [hs2];rfl)))
  obtain ⟨vs,H1,I1,r1,q1⟩:=zz
  obtain ⟨i,j,e,⟨q1,q2,q3,q4⟩,q⟩:=q1
  subst e
  cases r1 with
  | cons r rr=>
    cases rr with
    | cons r' rr=>
      cases rr
      obtain ⟨t,rfl⟩:=r
      obtain ⟨t',rfl⟩:=r'
      exact call_range_2 (range_it I1 q1 q2 q3 q4 q)
def tFor (wi:TI) (g:TG) (tb:TS):TS:=fun D σ H=>wi σ H fun J H1=>∃W:Nat→Nat→St→Hp→Prop,(∃m,W 0 m σ H1)∧∀i m σ H,W i m σ H→
  (J.stop i H∧D.nx σ H)∨(J.go i H∧∃N:St→Hp→Prop,(∀σ' H',N σ' H'→∃m',m'<m∧W (i+1) m' σ' H')∧∀x H',J.yld i H x H'→g x σ H' fun σ2 H2=>tb {D with nx:=N,ct:=N,bk:=D.nx} σ2 H2)
def pinsAt (fp:List Addr) (h:Heap):List (Addr×Obj):=fp.filterMap fun b=>(h.get? b).map fun o=>(b,o)
theorem mem_pinsAt {fp:List Addr} {h:Heap} {b:Addr} {o:Obj} (hb:b∈fp) (e:h.get? b=some o):(b,o)∈pinsAt fp h:=List.mem_filterMap.mpr ⟨b,hb,by rw [e];rfl⟩
theorem of_pinsAt {fp:List Addr} {h:Heap} {p:Addr×Obj} (hp:p∈pinsAt fp h):p.1∈fp∧h.get? p.1=some p.2:=by
  obtain ⟨b,hb,e⟩:=List.mem_filterMap.mp hp
  cases q:h.get? b with
  | none=>rw [q] at e;cases e
  | some o=>
    rw [q] at e
    have e':(b,o)=p:=Option.some.inj e
    subst e'
    exact ⟨hb,q⟩
theorem Inv.pinned {pins:List (Addr×Obj)} {σ:St} {H:Hp} {s:Shared} {fp:List Addr} (I:Inv X pins σ H s) (hf:∀b∈fp,FpOk X pins H b) (ho:∀b∈fp,∃o,s.heap.get? b=some o∧∀v,o.data≠.cell v):Inv X (pins++pinsAt fp s.heap) σ H s:=
  I.pins_of fun p hp=>(List.mem_append.mp hp).elim (fun z=>I.pin p (List.mem_append_right _ z)) fun z=>by
    obtain ⟨hb,e⟩:=of_pinsAt z
    obtain ⟨f0,f1,f2,_⟩:=hf p.1 hb
    obtain ⟨o,e',d⟩:=ho p.1 hb
    rw [e] at e';cases e'
    exact ⟨e,f0,f1,f2,d⟩
theorem Inv.unpinned {pins pl:List (Addr×Obj)} {σ:St} {H:Hp} {s:Shared} (I:Inv X (pins++pl) σ H s):Inv X pins σ H s:=I.pins_of fun p hp=>I.pin p (List.mem_append_right _ (List.mem_append_left _ hp))
theorem ps_for {iter:Expr} {body:List Stmt} {wi:TI} {g:TG} {tb:TS} {pos:Pos} (hp:PassesOwn (model X.prog X.w) X.A X.env X.xe) (hc:X.calm=true) (hi:PI X tg iter wi) (hg:PG X tg g) (hb:PSs X body tb)
    (hs:∀x,foldedSetIterable iter X.env x=pure x:=by intro _;rfl):PS X (.For tg iter body [] pos) (tFor wi g tb):=by
  intro pins s σ H D I h
  refine wpAny_For (thn (hi pins s σ H _ I h) fun v s1 h1=>thn h1 fun itv s2 h2=>?_) hs
  obtain ⟨it,fp,tn,J,H2,e,I2,T,st2,f2,W,⟨m0,w0⟩,turn⟩:=h2
  subst e
  have stat:∀{H':Hp},(∀b∈fp,H' b=none)→∀b∈fp,FpOk X pins H' b:=fun hn b hb=>⟨hn b hb,(f2 b hb).2⟩
  refine codeAny_forLoop_any (fun n s'=>∃i σ' H',Inv X pins σ' H' s'∧tn i s'.heap∧(∀b∈fp,H' b=none)∧W i n σ' H') ?_ m0 ⟨0,σ,H2,I2,st2,fun b hb=>(f2 b hb).1,w0⟩
  rintro n s3 ⟨i,σ3,H3,I3,st3,fr3,w3⟩
  rcases turn i n σ3 H3 w3 with ⟨stop,qn⟩ | ⟨go,N,hN,step⟩
  · refine wpAny_passesOwn hp (thn (T.done X rfl rfl rfl hc i pins s3 σ3 H3 X.xe I3 (stat fr3) st3 stop) fun r s4 zz=>?_)
    obtain ⟨hr,I4⟩:=zz
    subst hr
    exact wpAny_execs_nil ⟨σ3,H3,I4,qn⟩
  · refine wpAny_passesOwn hp (thn (T.item X rfl rfl rfl hc i pins s3 σ3 H3 X.xe I3 (stat fr3) st3 go) fun r s4 zz=>?_)
    obtain ⟨u,hr,h4⟩:=zz
    subst hr
    refine wpAny_passesOwn hp (thn h4 fun _ s5 zz=>?_)
    obtain ⟨x,H5,I5,r5,y5,st5,fr5⟩:=zz
    have I5':=I5.pinned (stat fr5) (T.obj _ _ st5)
    refine wpAny_passesOwn hp (thn (hg _ s5 σ3 H5 x u _ I5' r5 (step x H5 y5)) fun _ s6 zz=>?_)
    obtain ⟨σ6,H6,I6,q6⟩:=zz
    refine wpAny_passesOwn hp (thn (hb _ s6 σ6 H6 _ I6 q6) fun f s7 q7=>?_)
    have again:∀{σ7:St} {H7:Hp},Inv X (pins++pinsAt fp s5.heap) σ7 H7 s7→N σ7 H7→∃m,m<n∧∃i σ' H',Inv X pins σ' H' s7∧tn i s7.heap∧(∀b∈fp,H' b=none)∧W i m σ' H':=fun {σ7 H7} I7 n7=>by
      obtain ⟨m',hm,w7⟩:=hN σ7 H7 n7
      refine ⟨m',hm,i+1,σ7,H7,I7.unpinned,T.keep _ _ _ st5 fun b hb o e=>(I7.pin (b,o) (List.mem_append_right _ (List.mem_append_right _ (mem_pinsAt hb e)))).1,fun b hb=>?_,w7⟩
      obtain ⟨o,e,d⟩:=T.obj _ _ st5 b hb
      exact (I7.pin (b,o) (List.mem_append_right _ (List.mem_append_right _ (mem_pinsAt hb e)))).2.1
    cases f with
    | next=>obtain ⟨σ7,H7,I7,n7⟩:=q7;exact again I7 n7
    | cont=>obtain ⟨σ7,H7,I7,n7⟩:=q7;exact again I7 n7
    | brk=>obtain ⟨σ7,H7,I7,q7⟩:=q7;exact ⟨σ7,H7,I7.unpinned,q7⟩
    | ret v=>obtain ⟨x7,σ7,H7,I7,r7,q7⟩:=q7;exact ⟨x7,σ7,H7,I7.unpinned,r7,q7⟩
end
theorem for_list {K:PySem.W.Frag} {a:Addr} {xs:List V} {g:TG} {tb:TS} {D:Ends} {σ:St} {H:Hp} (Pv:Nat→St→Hp→Prop) (h0:Pv 0 σ H) (hl:∀i σ H,i≤xs.length→Pv i σ H→SqL K H a xs)
    (hs:∀i x σ H,xs[i]? = some x→Pv i σ H→g x σ H fun σ2 H2=>tb {D with nx:=Pv (i+1),ct:=Pv (i+1),bk:=D.nx} σ2 H2) (hd:∀σ H,Pv xs.length σ H→D.nx σ H) :
    ∃W:Nat→Nat→St→Hp→Prop,(∃m,W 0 m σ H)∧∀i m σ H,W i m σ H→
      ((Itl K a).stop i H∧D.nx σ H)∨((Itl K a).go i H∧∃N:St→Hp→Prop,(∀σ' H',N σ' H'→∃m',m'<m∧W (i+1) m' σ' H')∧∀x H',(Itl K a).yld i H x H'→g x σ H' fun σ2 H2=>tb {D with nx:=N,ct:=N,bk:=D.nx} σ2 H2):=by
  refine ⟨fun i m σ H=>m=xs.length - i∧i≤xs.length∧Pv i σ H,⟨xs.length,by simp,Nat.zero_le _,h0⟩,?_⟩
  rintro i m σ H ⟨rfl,hi,p⟩
  have q:=hl i σ H hi p
  by_cases hlt:i<xs.length
  · refine .inr ⟨⟨xs,xs[i],q,by simp [hlt]⟩,Pv (i+1),fun σ' H' p'=>⟨xs.length - (i+1),by omega,rfl,hlt,p'⟩,fun x H' y=>?_⟩
    obtain ⟨e,y⟩:=y
    subst e
    exact hs i x σ _ (y xs q) p
  · have e:i=xs.length:=by omega
    subst e
    exact .inl ⟨⟨xs,q,Nat.le_refl _⟩,hd σ H p⟩
theorem for_tup {K:PySem.W.Frag} {a:Addr} {xs:List V} {g:TG} {tb:TS} {D:Ends} {σ:St} {H:Hp} (Pv:Nat→St→Hp→Prop) (h0:Pv 0 σ H) (hl:∀i σ H,i≤xs.length→Pv i σ H→SqT K H a xs)
    (hs:∀i x σ H,xs[i]? = some x→Pv i σ H→g x σ H fun σ2 H2=>tb {D with nx:=Pv (i+1),ct:=Pv (i+1),bk:=D.nx} σ2 H2) (hd:∀σ H,Pv xs.length σ H→D.nx σ H) :
    ∃W:Nat→Nat→St→Hp→Prop,(∃m,W 0 m σ H)∧∀i m σ H,W i m σ H→
      ((Itt K a).stop i H∧D.nx σ H)∨((Itt K a).go i H∧∃N:St→Hp→Prop,(∀σ' H',N σ' H'→∃m',m'<m∧W (i+1) m' σ' H')∧∀x H',(Itt K a).yld i H x H'→g x σ H' fun σ2 H2=>tb {D with nx:=N,ct:=N,bk:=D.nx} σ2 H2):=by
  refine ⟨fun i m σ H=>m=xs.length - i∧i≤xs.length∧Pv i σ H,⟨xs.length,by simp,Nat.zero_le _,h0⟩,?_⟩
  rintro i m σ H ⟨rfl,hi,p⟩
  have q:=hl i σ H hi p
  by_cases hlt:i<xs.length
  · refine .inr ⟨⟨xs,xs[i],q,by simp [hlt]⟩,Pv (i+1),fun σ' H' p'=>⟨xs.length - (i+1),by omega,rfl,hlt,p'⟩,fun x H' y=>?_⟩
    obtain ⟨e,y⟩:=y
    subst e
    exact hs i x σ _ (y xs q) p
  · have e:i=xs.length:=by omega
    subst e
    exact .inl ⟨⟨xs,q,Nat.le_refl _⟩,hd σ H p⟩
theorem for_range {lo:Int} {n:Nat} {g:TG} {tb:TS} {D:Ends} {σ:St} {H:Hp} (Pv:Nat→St→Hp→Prop) (h0:Pv 0 σ H)
    (hs:∀i σ H,i<n→Pv i σ H→g (.int (lo+i)) σ H fun σ2 H2=>tb {D with nx:=Pv (i+1),ct:=Pv (i+1),bk:=D.nx} σ2 H2) (hd:∀σ H,Pv n σ H→D.nx σ H) :
    ∃W:Nat→Nat→St→Hp→Prop,(∃m,W 0 m σ H)∧∀i m σ H,W i m σ H→
      ((Itr lo n).stop i H∧D.nx σ H)∨((Itr lo n).go i H∧∃N:St→Hp→Prop,(∀σ' H',N σ' H'→∃m',m'<m∧W (i+1) m' σ' H')∧∀x H',(Itr lo n).yld i H x H'→g x σ H' fun σ2 H2=>tb {D with nx:=N,ct:=N,bk:=D.nx} σ2 H2):=by
  refine ⟨fun i m σ H=>m=n - i∧i≤n∧Pv i σ H,⟨n,by simp,Nat.zero_le _,h0⟩,?_⟩
  rintro i m σ H ⟨rfl,hi,p⟩
  by_cases hlt:i<n
  · refine .inr ⟨hlt,Pv (i+1),fun σ' H' p'=>⟨n - (i+1),by omega,rfl,hlt,p'⟩,fun x H' y=>?_⟩
    obtain ⟨e,y⟩:=y
    subst e y
    exact hs i σ _ hlt p
  · have e:i=n:=by omega
    subst e
    exact .inl ⟨Nat.le_refl _,hd σ H p⟩
theorem while_by {c:TT} {tb:TS} {D:Ends} {σ:St} {H:Hp} (Pv:St→Hp→Prop) (μ:St→Hp→Nat) (h0:Pv σ H)
    (hs:∀σ H,Pv σ H→c σ H fun b H1=>if b=true then tb {D with nx:=fun σ' H'=>Pv σ' H'∧μ σ' H'<μ σ H,ct:=fun σ' H'=>Pv σ' H'∧μ σ' H'<μ σ H,bk:=D.nx} σ H1 else D.nx σ H1)
    (mono:∀σ H Q Q',(∀b H1,Q b H1→Q' b H1)→c σ H Q→c σ H Q'):tWhile c tb D σ H:=by
  refine ⟨fun m σ H=>m=μ σ H∧Pv σ H,⟨_,rfl,h0⟩,?_⟩
  rintro m σ H ⟨rfl,p⟩
  refine mono σ H _ _ (fun b H1 q=>?_) (hs σ H p)
  cases b with
  | true=>exact ⟨_,fun σ' H' ⟨p',l⟩=>⟨_,l,rfl,p'⟩,q⟩
  | false=>exact q
abbrev R2:=V→V→Hp→VK→Prop
def OpR (X:Cx) (f:Value→Value→Sem Value) (r:R2):Prop:=
  ∀(pins:List (Addr×Obj)) (s:Shared) (σ:St) (H:Hp) (x y:V) (v u:Value) (Q:VK),Inv X pins σ H s→RelV x v→RelV y u→r x y H Q→
    wpAny (model X.prog X.w) X.A (f v u) (EP X pins σ Q) X.xe s
def UnR (X:Cx) (f:Value→Sem Value) (r:V→Hp→VK→Prop):Prop:=
  ∀(pins:List (Addr×Obj)) (s:Shared) (σ:St) (H:Hp) (x:V) (v:Value) (Q:VK),Inv X pins σ H s→RelV x v→r x H Q→
    wpAny (model X.prog X.w) X.A (f v) (EP X pins σ Q) X.xe s
def CallR (X:Cx) (f:Value) (r:List V→Hp→VK→Prop):Prop:=
  ∀(pins:List (Addr×Obj)) (s:Shared) (σ:St) (H:Hp) (xs:List V) (us:List Value) (Q:VK),Inv X pins σ H s→Vals xs us→r xs H Q→
    wpAny (model X.prog X.w) X.A (call f us) (EP X pins σ Q) X.xe s
def tOp (r:R2) (ta tb:TE):TE:=fun σ H Q=>ta σ H fun x H1=>tb σ H1 fun y H2=>r x y H2 Q
def tUn (r:V→Hp→VK→Prop) (ta:TE):TE:=fun σ H Q=>ta σ H fun x H1=>r x H1 Q
def rI (C:Int→Int→Prop) (g:Int→Int→V):R2:=fun x y H Q=>∃i j,x = .int i∧y = .int j∧C i j∧Q (g i j) H
def rI0 (g:Int→Int→V):R2:=fun x y H Q=>∃i j,x = .int i∧y = .int j∧Q (g i j) H
def rU (g:Int→V):V→Hp→VK→Prop:=fun x H Q=>∃i,x = .int i∧Q (g i) H
section
variable {X:Cx} {a b c:Expr} {ta tb tc:TE} {pos:Pos}
theorem binT (ha:PE X a ta) (hb:PE X b tb) {pins:List (Addr×Obj)} {s:Shared} {σ:St} {H:Hp} {R:V→V→Hp→Prop} (I:Inv X pins σ H s)
    (h:ta σ H fun x H1=>tb σ H1 fun y H2=>R x y H2) {Q:Value→Shared→Prop} {f:Value→Value→Sem Value}
    (hf:∀v u s2 x y H2,Inv X pins σ H2 s2→RelV x v→RelV y u→R x y H2→wpAny (model X.prog X.w) X.A (f v u) Q X.xe s2) :
    wpAny (model X.prog X.w) X.A (eval a X.env) (fun v s₁=>wpAny (model X.prog X.w) X.A (eval b X.env) (fun u s₂=>wpAny (model X.prog X.w) X.A (f v u) Q X.xe s₂) X.xe s₁) X.xe s:=by
  refine thn (ha pins s σ H _ I h) fun v s1 zz=>?_
  obtain ⟨x,H1,I1,r1,q1⟩:=zz
  refine thn (hb pins s1 σ H1 _ I1 q1) fun u s2 zz=>?_
  obtain ⟨y,H2,I2,r2,q2⟩:=zz
  exact hf v u s2 x y H2 I2 r1 r2 q2
theorem pe_op {op:Operator} {r:R2} (ho:OpR X (binaryOp op) r) (ha:PE X a ta) (hb:PE X b tb):PE X (.BinOp a op b pos) (tOp r ta tb):=by
  intro pins s σ H Q I h
  exact wpAny_BinOp (binT ha hb I h fun v u s2 x y H2 I2 rx ry q=>ho pins s2 σ H2 x y v u Q I2 rx ry q)
theorem pe_un {op:UnaryOp} {r:V→Hp→VK→Prop} (ho:UnR X (unaryOp op) r) (ha:PE X a ta):PE X (.UnaryOp op a pos) (tUn r ta):=by
  intro pins s σ H Q I h
  refine UnaryOp_ (thn (ha pins s σ H _ I h) fun v s1 zz=>?_)
  obtain ⟨x,H1,I1,r1,q1⟩:=zz
  exact ho pins s1 σ H1 x v Q I1 r1 q1
theorem opI {f:Value→Value→Sem Value} {C:Int→Int→Prop} {g:Int→Int→Int}
    (rule:∀(i j:Int) (t u:Tok) (s:Shared) (Q:Value→Shared→Prop) (E:Value→Shared→Prop),C i j→Q (.int (g i j) s.toks) {s with toks:=s.toks+1}→wpAny (model X.prog X.w) X.A (f (.int i t) (.int j u)) Q E s) :
    OpR X f (rI C fun i j=>.int (g i j)):=by
  intro pins s σ H x y v u Q I rx ry h
  obtain ⟨i,j,rfl,rfl,hc,q⟩:=h
  obtain ⟨t,rfl⟩:=rx
  obtain ⟨t',rfl⟩:=ry
  exact rule i j t t' s _ _ hc ⟨.int (g i j),H,I.tok _,⟨_,rfl⟩,q⟩
theorem opI0 {f:Value→Value→Sem Value} {g:Int→Int→Int}
    (rule:∀(i j:Int) (t u:Tok) (s:Shared) (Q:Value→Shared→Prop) (E:Value→Shared→Prop),Q (.int (g i j) s.toks) {s with toks:=s.toks+1}→wpAny (model X.prog X.w) X.A (f (.int i t) (.int j u)) Q E s) :
    OpR X f (rI0 fun i j=>.int (g i j)):=by
  intro pins s σ H x y v u Q I rx ry h
  obtain ⟨i,j,rfl,rfl,q⟩:=h
  obtain ⟨t,rfl⟩:=rx
  obtain ⟨t',rfl⟩:=ry
  exact rule i j t t' s _ _ ⟨.int (g i j),H,I.tok _,⟨_,rfl⟩,q⟩
theorem opB0 {f:Value→Value→Sem Value} {g:Int→Int→Bool}
    (rule:∀(i j:Int) (t u:Tok) (s:Shared) (Q:Value→Shared→Prop) (E:Value→Shared→Prop),Q (.bool (g i j)) s→wpAny (model X.prog X.w) X.A (f (.int i t) (.int j u)) Q E s) :
    OpR X f (rI0 fun i j=>.bl (g i j)):=by
  intro pins s σ H x y v u Q I rx ry h
  obtain ⟨i,j,rfl,rfl,q⟩:=h
  obtain ⟨t,rfl⟩:=rx
  obtain ⟨t',rfl⟩:=ry
  exact rule i j t t' s _ _ ⟨.bl (g i j),H,I,rfl,q⟩
@[simp] def CDiv (i j:Int):Prop:=0<j∧j<1073741824
@[simp] def CPow (i j:Int):Prop:=0≤j∧j≤1000000∧i.natAbs<2 ^ 64
@[simp] def CMul (i j:Int):Prop:=(-(2 ^ 64)<i∧i<2 ^ 64)∨(-(2 ^ 64)<j∧j<2 ^ 64)
theorem CMul.ok {i j:Int} (h:CMul i j):IntMulOk i j:=by
  rcases h with ⟨h1,h2⟩ | ⟨h1,h2⟩
  ·exact .of_left (intBits_le_64 h1 h2)
  ·exact .of_right (intBits_le_64 h1 h2)
theorem op_add:OpR X (binaryOp .Add) (rI0 fun i j=>.int (i+j)):=opI0 fun _ _ _ _ _ _ _ q=>add_int q
theorem op_sub:OpR X (binaryOp .Sub) (rI0 fun i j=>.int (i - j)):=opI0 fun _ _ _ _ _ _ _ q=>sub_int q
theorem op_mul:OpR X (binaryOp .Mult) (rI CMul fun i j=>.int (i * j)):=opI fun _ _ _ _ _ _ _ hc q=>mul_int q hc.ok
theorem op_fdiv:OpR X (binaryOp .FloorDiv) (rI CDiv fun i j=>.int (i / j)):=opI fun i j _ _ _ _ _ hc q=>by
  have h1:(0:Int)<j:=hc.1
  have h2:j<1073741824:=hc.2
  exact floordiv_int (by omega) (by rw [Int.fdiv_eq_ediv_of_nonneg i (by omega)];exact q) (.inl (PyProof.noPylong_small (by omega)))
theorem op_mod:OpR X (binaryOp .Mod) (rI (fun _ j=>0<j) fun i j=>.int (i % j)):=opI fun i j _ _ _ _ _ hc q=>by
  have h1:(0:Int)<j:=hc
  exact mod_int' (by omega) (by rw [Int.fmod_eq_emod_of_nonneg i (by omega)];exact q)
theorem op_pow:OpR X (binaryOp .Pow) (rI CPow fun i j=>.int (i ^ j.toNat)):=opI fun _ _ _ _ _ _ _ hc q=>pow_int_small hc.1 hc.2.1 hc.2.2 q
theorem unI {f:Value→Sem Value} {g:Int→Int}
    (rule:∀(i:Int) (t:Tok) (s:Shared) (Q:Value→Shared→Prop) (E:Value→Shared→Prop),Q (.int (g i) s.toks) {s with toks:=s.toks+1}→wpAny (model X.prog X.w) X.A (f (.int i t)) Q E s) :
    UnR X f (rU fun i=>.int (g i)):=by
  intro pins s σ H x v Q I rx h
  obtain ⟨i,rfl,q⟩:=h
  obtain ⟨t,rfl⟩:=rx
  exact rule i t s _ _ ⟨.int (g i),H,I.tok _,⟨_,rfl⟩,q⟩
theorem un_neg:UnR X (unaryOp .USub) (rU fun i=>.int (-i)):=unI fun _ _ _ _ _ q=>neg_int q
end
def scal:V→V→Bool
  | .non,.non=>true | .non,.int _=>true | .int _,.non=>true | .non,.bl _=>true | .bl _,.non=>true | .non,.str _=>true | .str _,.non=>true
  | .int _,.int _=>true | .bl _,.bl _=>true | .str _,.str _=>true | .byt _,.byt _=>true
  | .int _,.str _=>true | .str _,.int _=>true | .bl _,.str _=>true | .str _,.bl _=>true
  | _,_=>false
def rEq:R2:=fun x y H Q=>scal x y=true∧Q (.bl (decide (x=y))) H
def rNe:R2:=fun x y H Q=>scal x y=true∧Q (.bl (!decide (x=y))) H
theorem dec_int {i j:Int}:decide (V.int i=V.int j)=(i == j):=by
  rw [Bool.eq_iff_iff]
  simp
theorem dec_bl {i j:Bool}:decide (V.bl i=V.bl j)=(i == j):=by
  rw [Bool.eq_iff_iff]
  simp
theorem dec_str {i j:Str}:decide (V.str i=V.str j)=(i == j):=by
  rw [Bool.eq_iff_iff]
  simp
theorem dec_byt {i j:Array UInt8}:decide (V.byt i=V.byt j)=(i.toList == j.toList):=by
  rw [Bool.eq_iff_iff]
  cases i
  cases j
  simp
section
variable {X:Cx} {a b c:Expr} {ta tb tc:TE} {pos:Pos}
theorem fin_bl {pins:List (Addr×Obj)} {σ:St} {H:Hp} {s:Shared} {Q:VK} {k k':Bool} (I:Inv X pins σ H s) (q:Q (.bl k) H) (e:k=k'):EP X pins σ Q (.bool k') s:=by
  subst e
  exact ⟨.bl k,H,I,rfl,q⟩
theorem op_eq:OpR X (compareOp .Eq) rEq:=by
  intro pins s σ H x y v u Q I rx ry h
  obtain ⟨hs,q⟩:=h
  cases x with
  | non=>
    cases rx
    cases y with
    | non=>cases ry;exact PySem.EqNone.eq_none_none (fin_bl I q (by simp))
    | bl j=>cases ry;exact PySem.EqNone.eq_none_bool (fin_bl I q (by simp))
    | int j=>obtain ⟨t',rfl⟩:=ry;exact PySem.EqNone.eq_none_int (fin_bl I q (by simp))
    | str j=>obtain ⟨t',rfl⟩:=ry;exact PySem.EqNone.eq_none_str (fin_bl I q (by simp))
    | _=>exact absurd (show false=true from hs) Bool.false_ne_true
  | bl i=>
    cases rx
    cases y with
    | non=>cases ry;exact PySem.EqNone.eq_bool_none (fin_bl I q (by simp))
    | bl j=>cases ry;exact eq_bool (fin_bl I q dec_bl)
    | str j=>obtain ⟨t',rfl⟩:=ry;exact PySem.EqMixed.eq_bool_str (fin_bl I q (by simp))
    | _=>exact absurd (show false=true from hs) Bool.false_ne_true
  | int i=>
    obtain ⟨t,rfl⟩:=rx
    cases y with
    | non=>cases ry;exact PySem.EqNone.eq_int_none (fin_bl I q (by simp))
    | int j=>obtain ⟨t',rfl⟩:=ry;exact eq_int (fin_bl I q dec_int)
    | str j=>obtain ⟨t',rfl⟩:=ry;exact PySem.EqMixed.eq_int_str (fin_bl I q (by simp))
    | _=>exact absurd (show false=true from hs) Bool.false_ne_true
  | str i=>
    obtain ⟨t,rfl⟩:=rx
    cases y with
    | non=>cases ry;exact PySem.EqNone.eq_str_none (fin_bl I q (by simp))
    | bl j=>cases ry;exact PySem.EqMixed.eq_str_bool (fin_bl I q (by simp))
    | int j=>obtain ⟨t',rfl⟩:=ry;exact PySem.EqMixed.eq_str_int (fin_bl I q (by simp))
    | str j=>obtain ⟨t',rfl⟩:=ry;exact eq_str (fin_bl I q dec_str)
    | _=>exact absurd (show false=true from hs) Bool.false_ne_true
  | byt i=>
    obtain ⟨t,rfl⟩:=rx
    cases y with
    | byt j=>obtain ⟨t',rfl⟩:=ry;exact PySem.W.eq_bytes (fin_bl I q dec_byt)
    | _=>exact absurd (show false=true from hs) Bool.false_ne_true
  | _=>cases y <;> exact absurd (show false=true from hs) Bool.false_ne_true
theorem op_ne:OpR X (compareOp .NotEq) rNe:=by
  intro pins s σ H x y v u Q I rx ry h
  obtain ⟨hs,q⟩:=h
  cases x with
  | non=>
    cases rx
    cases y with
    | non=>cases ry;exact PySem.EqNone.ne_none_none (fin_bl I q (by simp))
    | bl j=>cases ry;exact PySem.EqNone.ne_none_bool (fin_bl I q (by simp))
    | int j=>obtain ⟨t',rfl⟩:=ry;exact PySem.EqNone.ne_none_int (fin_bl I q (by simp))
    | str j=>obtain ⟨t',rfl⟩:=ry;exact PySem.EqNone.ne_none_str (fin_bl I q (by simp))
    | _=>exact absurd (show false=true from hs) Bool.false_ne_true
  | bl i=>
    cases rx
    cases y with
    | non=>cases ry;exact PySem.EqNone.ne_bool_none (fin_bl I q (by simp))
    | bl j=>cases ry;exact ne_bool (fin_bl I q (congrArg not dec_bl))
    | str j=>obtain ⟨t',rfl⟩:=ry;exact PySem.EqMixed.ne_bool_str (fin_bl I q (by simp))
    | _=>exact absurd (show false=true from hs) Bool.false_ne_true
  | int i=>
    obtain ⟨t,rfl⟩:=rx
    cases y with
    | non=>cases ry;exact PySem.EqNone.ne_int_none (fin_bl I q (by simp))
    | int j=>obtain ⟨t',rfl⟩:=ry;exact ne_int (fin_bl I q (congrArg not dec_int))
    | str j=>obtain ⟨t',rfl⟩:=ry;exact PySem.EqMixed.ne_int_str (fin_bl I q (by simp))
    | _=>exact absurd (show false=true from hs) Bool.false_ne_true
  | str i=>
    obtain ⟨t,rfl⟩:=rx
    cases y with
    | non=>cases ry;exact PySem.EqNone.ne_str_none (fin_bl I q (by simp))
    | bl j=>cases ry;exact PySem.EqMixed.ne_str_bool (fin_bl I q (by simp))
    | int j=>obtain ⟨t',rfl⟩:=ry;exact PySem.EqMixed.ne_str_int (fin_bl I q (by simp))
    | str j=>obtain ⟨t',rfl⟩:=ry;exact ne_str (fin_bl I q (congrArg not dec_str))
    | _=>exact absurd (show false=true from hs) Bool.false_ne_true
  | byt i=>
    obtain ⟨t,rfl⟩:=rx
    cases y with
    | byt j=>obtain ⟨t',rfl⟩:=ry;exact PySem.W.ne_bytes (fin_bl I q (congrArg not dec_byt))
    | _=>exact absurd (show false=true from hs) Bool.false_ne_true
  | _=>cases y <;> exact absurd (show false=true from hs) Bool.false_ne_true
theorem op_lt:OpR X (compareOp .Lt) (rI0 fun i j=>.bl (decide (i<j))):=opB0 fun _ _ _ _ _ _ _ q=>lt_int q
theorem op_le:OpR X (compareOp .LtE) (rI0 fun i j=>.bl (decide (i≤j))):=opB0 fun _ _ _ _ _ _ _ q=>le_int q
theorem op_gt:OpR X (compareOp .Gt) (rI0 fun i j=>.bl (decide (j<i))):=opB0 fun _ _ _ _ _ _ _ q=>gt_int q
theorem op_ge:OpR X (compareOp .GtE) (rI0 fun i j=>.bl (decide (j≤i))):=opB0 fun _ _ _ _ _ _ _ q=>ge_int q
theorem op_in_str:OpR X (compareOp .In) (fun x y H Q=>∃i j,x = .str i∧y = .str j∧Q (.bl (!(Builtin.Str.occurrences j i 0 j.length 1).isEmpty)) H):=by
  intro pins s σ H x y v u Q I rx ry h
  obtain ⟨i,j,rfl,rfl,q⟩:=h
  obtain ⟨t,rfl⟩:=rx
  obtain ⟨t',rfl⟩:=ry
  exact in_str (fin_bl I q rfl)
theorem OpR.or {f:Value→Value→Sem Value} {r r':R2} (h:OpR X f r) (h':OpR X f r'):OpR X f (fun x y H Q=>r x y H Q∨r' x y H Q):=by
  intro pins s σ H x y v u Q I rx ry q
  rcases q with q | q
  ·exact h pins s σ H x y v u Q I rx ry q
  ·exact h' pins s σ H x y v u Q I rx ry q
theorem nomark (b:Expr) {op:CmpOp} (h:op≠.In:=by decide) (h2:op≠.NotIn:=by decide):behindInMarks op b=false:=by
  have e1:(op == CmpOp.In)=false:=by cases op <;> first | rfl | exact absurd rfl h
  have e2:(op == CmpOp.NotIn)=false:=by cases op <;> first | rfl | exact absurd rfl h2
  cases b <;> simp [behindInMarks,e1,e2]
theorem pe_cmpR {op:CmpOp} {r:R2} (ho:OpR X (compareOp op) r) (ha:PE X a ta) (hb:PE X b tb) (hm:behindInMarks op b=false):PE X (.Compare a [op] [b] pos) (tOp r ta tb):=by
  intro pins s σ H Q I h
  exact wpAny_Compare1 (binT ha hb I h fun v u s2 x y H2 I2 rx ry q=>ho pins s2 σ H2 x y v u Q I2 rx ry q) hm
def tTest (t:TE):TT:=fun σ H Q=>t σ H fun x H'=>∃k,x = .bl k∧Q k H'
theorem pt_cmpR {op:CmpOp} {r:R2} (ho:OpR X (compareOp op) r) (ha:PE X a ta) (hb:PE X b tb) (hm:behindInMarks op b=false):PT X (.Compare a [op] [b] pos) (tTest (tOp r ta tb)):=by
  intro pins s σ H Q I h
  refine wpAny_isTrue_Compare1 (thn (ha pins s σ H _ I h) fun v s1 ⟨x,H1,I1,r1,q1⟩=>thn (hb pins s1 σ H1 _ I1 q1) fun u s2 ⟨y,H2,I2,r2,q2⟩=>
    thn (ho pins s2 σ H2 x y v u _ I2 r1 r2 q2) fun c s3 ⟨z,H3,I3,r3,k,e,q3⟩=>?_) hm
  subst e
  cases r3
  exact wpAny_truthy_bool ⟨H3,I3,q3⟩
def tChain (r r':R2) (ta tb tc:TE):TE:=fun σ H Q=>ta σ H fun x H1=>tb σ H1 fun y H2=>r x y H2 fun z H3=>∃k,z = .bl k∧
  (if k=true then tc σ H3 fun w' H4=>r' y w' H4 Q else Q (.bl false) H3)
theorem pe_chain {op op':CmpOp} {r r':R2} (ho:OpR X (compareOp op) r) (ho':OpR X (compareOp op') r') (ha:PE X a ta) (hb:PE X b tb) (hc:PE X c tc)
    (hm:lastMarks [op,op'] [b,c]=false:=by with_unfolding_all rfl):PE X (.Compare a [op,op'] [b,c] pos) (tChain r r' ta tb tc):=by
  intro pins s σ H Q I h
  refine Compare_chain (thn (ha pins s σ H _ I h) fun v s1 ⟨x,H1,I1,r1,q1⟩=>chain_link (thn (hb pins s1 σ H1 _ I1 q1) fun u s2 ⟨y,H2,I2,r2,q2⟩=>
    thn (ho pins s2 σ H2 x y v u _ I2 r1 r2 q2) fun d s3 ⟨z,H3,I3,r3,k,e,q3⟩=>?_)) hm
  subst e
  cases r3
  refine wpAny_truthy_bool ?_
  cases k with
  | false=>exact ite_ff ⟨.bl false,H3,I3,rfl,q3⟩
  | true=>exact ite_tt (chain_last (thn (hc pins s3 σ H3 _ I3 q3) fun w' s4 ⟨z',H4,I4,r4,q4⟩=>ho' pins s4 σ H4 y z' u w' Q I4 r2 r4 q4))
theorem pt_chain {op op':CmpOp} {r r':R2} (ho:OpR X (compareOp op) r) (ho':OpR X (compareOp op') r') (ha:PE X a ta) (hb:PE X b tb) (hc:PE X c tc)
    (hm:lastMarks [op,op'] [b,c]=false:=by with_unfolding_all rfl):PT X (.Compare a [op,op'] [b,c] pos) (tTest (tChain r r' ta tb tc)):=by
  intro pins s σ H Q I h
  refine isTrue_chain (thn (ha pins s σ H _ I h) fun v s1 ⟨x,H1,I1,r1,q1⟩=>test_link (thn (hb pins s1 σ H1 _ I1 q1) fun u s2 ⟨y,H2,I2,r2,q2⟩=>
    thn (ho pins s2 σ H2 x y v u _ I2 r1 r2 q2) fun d s3 ⟨z,H3,I3,r3,k,e,q3⟩=>?_)) hm
  subst e
  cases r3
  refine wpAny_truthy_bool ?_
  cases k with
  | false=>
    obtain ⟨k',e',q'⟩:=q3
    cases e'
    exact ite_ff ⟨H3,I3,q'⟩
  | true=>
    refine ite_tt (test_last (thn (hc pins s3 σ H3 _ I3 q3) fun w' s4 ⟨z',H4,I4,r4,q4⟩=>thn (ho' pins s4 σ H4 y z' u w' _ I4 r2 r4 q4) fun d' s5 ⟨z2,H5,I5,r5,k2,e2,q5⟩=>?_))
    subst e2
    cases r5
    exact wpAny_truthy_bool ⟨H5,I5,q5⟩
theorem line63:(sizeLine:Nat)<2 ^ 63:=by rw [sizeLine_eq];decide
theorem op_add_str:OpR X (binaryOp .Add) (fun x y H Q=>∃i j,x = .str i∧y = .str j∧i.length+j.length≤sizeLine∧Q (.str (i++j)) H):=by
  intro pins s σ H x y v u Q I rx ry h
  obtain ⟨i,j,rfl,rfl,hz,q⟩:=h
  obtain ⟨t,rfl⟩:=rx
  obtain ⟨t',rfl⟩:=ry
  exact add_str (fun t' tk=>⟨.str (i++j),H,I.tok _,⟨_,rfl⟩,q⟩) hz
theorem vals1 {x:V} {us:List Value} (r:Vals [x] us):∃u,us=[u]∧RelV x u:=by
  cases r with
  | cons r1 r2=>cases r2;exact ⟨_,rfl,r1⟩
theorem vals2 {x y:V} {us:List Value} (r:Vals [x,y] us):∃u w',us=[u,w']∧RelV x u∧RelV y w':=by
  cases r with
  | cons r1 r2=>
    cases r2 with
    | cons r3 r4=>cases r4;exact ⟨_,_,rfl,r1,r3⟩
theorem call_abs:CallR X (.builtin "abs") (fun xs H Q=>∃i,xs=[.int i]∧Q (.int (if i<0 then -i else i)) H):=by
  intro pins s σ H xs us Q I r h
  obtain ⟨i,rfl,q⟩:=h
  obtain ⟨u,rfl,t,rfl⟩:=vals1 r
  exact call_abs_int fun u tk=>⟨.int (if i<0 then -i else i),H,I.tok _,⟨_,rfl⟩,q⟩
theorem call_max2 (hc:X.calm=true):CallR X (.builtin "max") (fun xs H Q=>∃i j,xs=[.int i,.int j]∧Q (.int (if j > i then j else i)) H):=by
  intro pins s σ H xs us Q I r h
  obtain ⟨i,j,rfl,q⟩:=h
  obtain ⟨u,w',rfl,⟨t,rfl⟩,⟨t',rfl⟩⟩:=vals2 r
  refine max_two_ints (I.ok.hd hc) fun h' tk k=>⟨_,H,I.kept k,?_,q⟩
  by_cases hj:j > i
  ·rw [if_pos hj,if_pos hj];exact ⟨_,rfl⟩
  ·rw [if_neg hj,if_neg hj];exact ⟨_,rfl⟩
theorem call_min2 (hc:X.calm=true):CallR X (.builtin "min") (fun xs H Q=>∃i j,xs=[.int i,.int j]∧Q (.int (if j<i then j else i)) H):=by
  intro pins s σ H xs us Q I r h
  obtain ⟨i,j,rfl,q⟩:=h
  obtain ⟨u,w',rfl,⟨t,rfl⟩,⟨t',rfl⟩⟩:=vals2 r
  refine min_two_ints (I.ok.hd hc) fun h' tk k=>⟨_,H,I.kept k,?_,q⟩
  by_cases hj:j<i
  ·rw [if_pos hj,if_pos hj];exact ⟨_,rfl⟩
  ·rw [if_neg hj,if_neg hj];exact ⟨_,rfl⟩
theorem call_int1:CallR X (.type "int") (fun xs H Q=>(∃i,xs=[.int i]∧Q (.int i) H)∨∃k,xs=[.bl k]∧Q (.int (if k then 1 else 0)) H):=by
  intro pins s σ H xs us Q I r h
  rcases h with ⟨i,rfl,q⟩ | ⟨k,rfl,q⟩
  · obtain ⟨u,rfl,t,rfl⟩:=vals1 r
    exact call_int_int ⟨.int i,H,I,⟨_,rfl⟩,q⟩
  · obtain ⟨u,rfl,r1⟩:=vals1 r
    cases r1
    exact call_int_bool ⟨.int (if k then 1 else 0),H,I.tok _,⟨_,rfl⟩,q⟩
theorem call_divmod:CallR X (.builtin "divmod") (fun xs H Q=>∃i j,xs=[.int i,.int j]∧CDiv i j∧∀p,H p=none→Q (.ref p) (upd H p (.tup [.int (i / j),.int (i % j)]))):=by
  intro pins s σ H xs us Q I r h
  obtain ⟨i,j,rfl,⟨h1,h2⟩,q⟩:=h
  obtain ⟨u,w',rfl,⟨t,rfl⟩,⟨t',rfl⟩⟩:=vals2 r
  refine divmod_int (by omega) ?_ (.inl (PyProof.noPylong_small (by omega)))
  rw [Int.fdiv_eq_ediv_of_nonneg i (by omega),Int.fmod_eq_emod_of_nonneg i (by omega)]
  have hn:H s.heap.objs.size=none:=I.hok.fresh (Nat.le_refl _)
  refine ⟨.ref s.heap.objs.size,_,?_,rfl,q _ hn⟩
  refine I.laid (fun b o e=>Heap.get?_push_of_some _ e) (Nat.le_refl _) ⟨by simp only [List.length_cons,List.length_nil];rw [sizeLine_eq];decide,[.int (i / j) s.toks,.int (i % j) (s.toks+1)],.cons ⟨_,rfl⟩ (.cons ⟨_,rfl⟩ .nil),?_⟩
  exact ⟨_,Heap.get?_push_size s.heap rfl,rfl,0,rfl⟩
end
structure ObjM (h:Heap) (x dx C:Addr) (mA:Str→Option Value):Prop where
  obj:h.get? x=some (PySem.W.instObj C dx)
  ns:h.Ns1 dx mA
  ne:dx≠x
theorem lookIn_ns {h:Heap} {dx:Addr} {mA:Str→Option Value} (n:h.Ns1 dx mA):∃od,h.get? dx=some od∧∀name,PySem.W.lookIn name od=some (mA name):=by
  obtain ⟨o,es,ep,ho,hd,hk,_,hm⟩:=n
  refine ⟨o,ho,fun name=>?_⟩
  have e:=hm name
  unfold nsFind findBy at e
  rw [← Array.find?_toList] at e
  unfold PySem.W.lookIn
  rw [hd]
  dsimp only
  split
  · rename_i y q
    rw [q] at e
    exact congrArg some e
  · rename_i q
    rw [q] at e
    have a:es.toList.any (·.refKey)=false:=by
      rw [List.any_eq_false]
      intro y hy
      obtain ⟨z,t,hkey⟩:=hk y (Array.mem_toList_iff.mp hy)
      simp [DictEntry.refKey,hkey]
    have a':¬es.toList.any (·.refKey)=true:=by rw [a];exact Bool.false_ne_true
    rw [if_neg a']
    exact congrArg some e
theorem ObjM.look {h:Heap} {x dx C:Addr} {mA:Str→Option Value} (I:ObjM h x dx C mA):∃od,PySem.W.InstAt h x (PySem.W.instObj C dx) C (some od)∧∀name,PySem.W.lookIn name od=some (mA name):=
  let ⟨od,ho,hl⟩:=lookIn_ns I.ns
  ⟨od,⟨I.obj,rfl,rfl,ho⟩,hl⟩
section
variable {prog:Program} {w:World} {A:Around} {E:Value→Shared→Prop} {s:Shared} {K:PySem.W.Frag} {x dx C f:Addr} {mA:Str→Option Value} {name:Str} {v:Value}
theorem get_map {expr:Bool} {Q:Value→Shared→Prop} (X:K.In s.heap) (I:ObjM s.heap x dx C mA) (hg:PySem.W.plainGet K C name=true) (hh:PySem.W.hasDictIn K C=true)
    (ha:PySem.W.findIn K (.ref C) name=some none) (hv:mA name=some v) (hv':PySem.W.handedIn v=true) (h:Q v {s with toks:=s.toks+1}) :
    wpAny (model prog w) A (getAttr (.ref x) name expr) Q E s:=by
  obtain ⟨od,J,hl⟩:=I.look
  exact PySem.W.get_value X J (PySem.W.plainGet_of hg).1 (PySem.W.findObj_own hh ha rfl (by rw [hl,hv])) hv' h
theorem get_meth {pl:Sem Bool} {Q:Value×List Value→Shared→Prop} (X:K.In s.heap) (I:ObjM s.heap x dx C mA) (hg:PySem.W.plainGet K C name=true)
    (hf:PySem.W.findIn K (.ref C) name=some (some (.ref f))) (ht:PySem.W.isFn K (.ref f)=true) (hv:mA name=none) (h:Q (.ref f,[.ref x]) s) :
    wpAny (model prog w) A (getMethod (.ref x) name pl) Q E s:=by
  obtain ⟨od,J,hl⟩:=I.look
  exact PySem.W.method_fn X J (PySem.W.plainGet_of hg).1 (PySem.W.plainGet_of hg).2 hf (beq_iff_eq.mp ht) (by show (PySem.W.lookIn name od).map (·.isSome)=some false;rw [hl,hv];rfl) h
theorem set_map {ns:List Str} {Q:Unit→Shared→Prop} (X:K.In s.heap) (I:ObjM s.heap x dx C mA)
    (hs:PySem.W.findIn K (.ref C) "__setattr__" = some (some (.builtin "object.__setattr__"))) (hp:PySem.W.plainOver K C=true) (ht:PySem.W.takerIn K C name=some none) (hh:PySem.W.hasDictIn K C=true)
    (hw:PySem.Within mA ns) (hsz:ns.length≤sizeLine)
    (h:∀h',ObjM h' x dx C (fun y=>if y=name then some v else mA y)→Heap.SameBut dx s.heap h'→Q () {s with heap:=h',toks:=s.toks+2}) :
    wpAny (model prog w) A (setAttr (.ref x) name v) Q E s:=by
  obtain ⟨od,J,hl⟩:=I.look
  refine PySem.W.set_plain X J hs (PySem.W.osa_open (s:={s with toks:=s.toks+1}) (r:=none) X J hp ht fun b=>?_)
  obtain ⟨cd,hc,hd'⟩:=PySem.W.any_some hh
  have hx:s.heap.get? x=some ⟨.ref C,some dx,.plain,#[]⟩:=I.obj
  refine wpAny_bind (wpAny_pure (wpAny_bind (wpAny_bind (wpAny_loadPart hx (wpAny_bind (PySem.W.Looks.here (s:={s with toks:=s.toks+1}) (PySem.W.looks_clsIn X hc) ?_))))))
  rw [hd']
  refine wpAny_pure (a:=some dx) (wpAny_bind (wpAny_pure (wpAny_bind ?_)))
  refine wpAny_nsSet1 (s:={s with toks:=s.toks+1}) I.ns fun h' hn2 hs2=>?_
  obtain ⟨oD,esD,epD,hoD,hdD,hcD⟩:=hn2.count (PySem.Within.cons name v hw)
  refine wpAny_bind (wpAny_lookBehind hoD (by rw [hdD];exact pastItsLine_dict (Nat.le_trans hcD (by rw [List.length_cons];omega))) ?_)
  exact wpAny_pure (h _ ⟨(hs2.2 _ (Ne.symm I.ne)).trans I.obj,hn2,I.ne⟩ hs2)
theorem make_map {R:Result→Shared→Prop} {vs:List Value} {kw:List (Str×Value)} (X:K.In s.heap) (hm:PySem.W.makesIn K C=true)
    (hi:PySem.W.findIn K (.ref C) "__init__" = some (some (.ref f))) (hf:PySem.W.typeIn K (.ref f)=some (.type "function"))
    (h:codeAny (model prog w) (A.under (.builtin "type.__call__" ⟨.ref C::vs,kw⟩)) (.call (.ref f) ⟨.ref (s.heap.objs.size+1)::vs,kw⟩) (PySem.W.InitBack (s.heap.objs.size+1) R)
      {s with heap:=(s.heap.push PySem.W.emptyDict).push (PySem.W.instObj C s.heap.objs.size)}) :
    codeAny (model prog w) A (.call (.ref C) ⟨vs,kw⟩) R s:=by
  obtain ⟨hh,g,d,t,os⟩:=s
  exact PySem.W.make_core (PySem.W.makes_of X hm) (PySem.W.looks_findIn X hi) (fun self=>PySem.W.bind_fn X self hf) (.inl rfl) h
end
def putF (f:Str) (v:V):List (Str×V)→List (Str×V)
  | []=>[(f,v)]
  | (g,x)::r=>if g=f then (g,v)::r else (g,x)::putF f v r
theorem lookup_putF (f g:Str) (v:V):∀fs:List (Str×V),(putF f v fs).lookup g=if g=f then some v else fs.lookup g
  | []=>by
    show List.lookup g [(f,v)]=_
    by_cases h:g=f
    · have hb:(g == f)=true:=beq_iff_eq.mpr h
      simp only [List.lookup,hb,if_pos h]
    · have hb:(g == f)=false:=beq_eq_false_iff_ne.mpr h
      simp only [List.lookup,hb,if_neg h]
  | (k,x)::r=>by
    have ih:=lookup_putF f g v r
    rw [show putF f v ((k,x)::r)=(if k=f then (k,v)::r else (k,x)::putF f v r) from rfl]
    by_cases hk:k=f
    · rw [if_pos hk]
      by_cases h:g=k
      · have hb:(g == k)=true:=beq_iff_eq.mpr h
        simp only [List.lookup,hb,if_pos (h.trans hk)]
      · have hb:(g == k)=false:=beq_eq_false_iff_ne.mpr h
        simp only [List.lookup,hb,if_neg (fun e:g=f=>h (e.trans hk.symm))]
    · rw [if_neg hk]
      by_cases h:g=k
      · have hb:(g == k)=true:=beq_iff_eq.mpr h
        simp only [List.lookup,hb,if_neg (fun e:g=f=>hk (h.symm.trans e))]
      · have hb:(g == k)=false:=beq_eq_false_iff_ne.mpr h
        simp only [List.lookup,hb]
        exact ih
theorem keys_putF (f:Str) (v:V):∀fs:List (Str×V),f∈(putF f v fs).map (·.1)∧∀g,g∈fs.map (·.1)→g∈(putF f v fs).map (·.1)
  | []=>⟨by simp [putF],fun g h=>by simp at h⟩
  | (k,x)::r=>by
    obtain ⟨i1,i2⟩:=keys_putF f v r
    rw [show putF f v ((k,x)::r)=(if k=f then (k,v)::r else (k,x)::putF f v r) from rfl]
    by_cases hk:k=f
    · rw [if_pos hk]
      subst hk
      exact ⟨by simp,fun g h=>by simpa using h⟩
    · rw [if_neg hk]
      refine ⟨?_,fun g h=>?_⟩
      · rw [List.map_cons]
        exact List.mem_cons_of_mem _ i1
      · rw [List.map_cons] at h ⊢
        rcases List.mem_cons.mp h with e | e
        ·exact List.mem_cons.mpr (.inl e)
        ·exact List.mem_cons_of_mem _ (i2 g e)
theorem length_putF (f:Str) (v:V):∀fs:List (Str×V),(putF f v fs).length≤fs.length+1
  | []=>by simp [putF]
  | (k,x)::r=>by
    have ih:=length_putF f v r
    rw [show putF f v ((k,x)::r)=(if k=f then (k,v)::r else (k,x)::putF f v r) from rfl]
    by_cases hk:k=f
    ·rw [if_pos hk,List.length_cons,List.length_cons];omega
    ·rw [if_neg hk,List.length_cons,List.length_cons];omega
theorem RelO.some_of {v:V} {o:Option Value} (r:RelO (some v) o):∃u,o=some u∧RelV v u:=by
  cases o with
  | none=>exact (show False from r).elim
  | some u=>exact ⟨u,rfl,r⟩
theorem RelO.none_of {o:Option Value} (r:RelO none o):o=none:=by
  cases o with
  | none=>rfl
  | some u=>exact (show False from r).elim
theorem handed_of {v:V} {u:Value} (r:RelV v u):PySem.W.handedIn u=true:=by
  cases v with
  | non=>cases (show u=Value.none from r);rfl
  | bl b=>cases (show u=Value.bool b from r);rfl
  | int i=>obtain ⟨t,e⟩:=(show ∃t,u=Value.int i t from r);cases e;rfl
  | str x=>obtain ⟨t,e⟩:=(show ∃t,u=Value.str x t from r);cases e;rfl
  | byt b=>obtain ⟨t,e⟩:=(show ∃t,u=Value.bytes b t from r);cases e;rfl
  | flt b=>obtain ⟨t,e⟩:=(show ∃t,u=Value.float b t from r);cases e;rfl
  | ref a=>cases (show u=Value.ref a from r);rfl
  | ty n=>cases (show u=Value.type n from r);rfl
section
variable {P:Program} {w:World} {H H':Hp} {h h':Heap} {a C dx:Addr} {fs fs':List (Str×V)}
theorem ins_get (hok:HOk P w H h) (e:H a=some (.ins C dx fs)):∃mA,ObjM h a dx C mA∧(∀f,RelO (fs.lookup f) (mA f))∧PySem.Within mA (fs.map (·.1))∧fs.length≤1000∧H dx=some (.own a):=by
  obtain ⟨d,z,ne,ob,mA,n,r,q⟩:=(show ObjOk P w H h a (.ins C dx fs) from hok a _ e)
  exact ⟨mA,⟨ob,n,ne⟩,r,q,z,d⟩
end
structure Cls (K:PySem.W.Frag) (C:Addr):Prop where
  pg:PySem.W.plainGet K C Str.empty=true
  hd:PySem.W.hasDictIn K C=true
  po:PySem.W.plainOver K C=true
  sa:PySem.W.findIn K (.ref C) "__setattr__" = some (some (.builtin "object.__setattr__"))
theorem Cls.get {K:PySem.W.Frag} {C:Addr} (c:Cls K C) (f:Str):PySem.W.plainGet K C f=true:=c.pg
def NoAttr (K:PySem.W.Frag) (C:Addr) (f:Str):Prop:=PySem.W.findIn K (.ref C) f=some none
theorem NoAttr.taker {K:PySem.W.Frag} {C:Addr} {f:Str} (n:NoAttr K C f):PySem.W.takerIn K C f=some none:=by
  unfold PySem.W.takerIn
  rw [show PySem.W.findIn K (.ref C) f=some none from n]
  rfl
structure Meth (K:PySem.W.Frag) (C:Addr) (m:Str) (f:Addr):Prop where
  at_:PySem.W.findIn K (.ref C) m=some (some (.ref f))
  fn:PySem.W.isFn K (.ref f)=true
  kp:PySem.W.keepIn K (.ref f)=true
section
variable {X:Cx} {pins:List (Addr×Obj)} {σ:St} {H:Hp} {s:Shared} {a C dx:Addr} {fs:List (Str×V)} {f:Str} {v:V} {A:Around} {E:Value→Shared→Prop}
theorem getattr_ok {b:Bool} {Q:Value→Shared→Prop} (I:Inv X pins σ H s) (e:H a=some (.ins C dx fs)) (c:Cls X.K C) (n:NoAttr X.K C f) (l:fs.lookup f=some v)
    (h:∀u s',Inv X pins σ H s'→RelV v u→Q u s'):wpAny (model X.prog X.w) A (getAttr (.ref a) f b) Q E s:=by
  obtain ⟨mA,O,r,_,_,_⟩:=ins_get I.hok e
  obtain ⟨u,hu,ru⟩:=RelO.some_of (v:=v) (o:=mA f) (by rw [← l];exact r f)
  exact get_map I.kIn O (c.get f) c.hd n hu (handed_of ru) (h u _ (I.tok _) ru)
theorem getmeth_ok {m:Str} {g:Addr} {pl:Sem Bool} {Q:Value×List Value→Shared→Prop} (I:Inv X pins σ H s) (e:H a=some (.ins C dx fs)) (c:Cls X.K C) (k:Meth X.K C m g) (l:fs.lookup m=none)
    (h:Q (.ref g,[.ref a]) s):wpAny (model X.prog X.w) A (getMethod (.ref a) m pl) Q E s:=by
  obtain ⟨mA,O,r,_,_,_⟩:=ins_get I.hok e
  have hn:mA m=none:=RelO.none_of (by rw [← l];exact r m)
  exact get_meth I.kIn O (c.get m) k.at_ k.fn hn h
theorem setattr_ok {y:V} {u:Value} {Q:Unit→Shared→Prop} (I:Inv X pins σ H s) (e:H a=some (.ins C dx fs)) (c:Cls X.K C) (n:NoAttr X.K C f) (hl:fs.length<1000) (ry:RelV y u)
    (h:∀s',Inv X pins σ (upd H a (.ins C dx (putF f y fs))) s'→Q () s'):wpAny (model X.prog X.w) A (setAttr (.ref a) f u) Q E s:=by
  obtain ⟨mA,O,r,wi,_,ho⟩:=ins_get I.hok e
  have hz:(fs.map (·.1)).length≤sizeLine:=by rw [List.length_map,sizeLine_eq];omega
  refine set_map I.kIn O c.sa c.po n.taker c.hd wi hz fun h' O' sb=>h _ ?_
  have hd:∃o,h'.get? dx=some o:=let ⟨o,_,_,e',_⟩:=O'.ns;⟨o,e'⟩
  refine I.write (x:=a) (e:=dx) (by rw [e];exact True.intro) (.inr ho) (fun b q hb z=>(sb.2 b hb).trans z) hd ?_
  refine ⟨by rw [upd_ne O.ne];exact ho,?_,O.ne,O'.obj,_,O'.ns,fun g=>?_,fun g hg=>?_⟩
  ·have:=length_putF f y fs;omega
  · show RelO ((putF f y fs).lookup g) (if g=f then some u else mA g)
    rw [lookup_putF]
    by_cases q:g=f
    ·rw [if_pos q,if_pos q];exact ry
    ·rw [if_neg q,if_neg q];exact r g
  · by_cases q:g=f
    ·rw [q];exact (keys_putF f y fs).1
    · refine (keys_putF f y fs).2 g (wi g fun z=>hg ?_)
      show (if g=f then some u else mA g)=none
      rw [if_neg q];exact z
theorem Inv.made (I:Inv X pins σ H s):Inv X pins σ (upd (upd H s.heap.objs.size (.own (s.heap.objs.size+1))) (s.heap.objs.size+1) (.ins C s.heap.objs.size []))
    {s with heap:=(s.heap.push PySem.W.emptyDict).push (PySem.W.instObj C s.heap.objs.size)}:=by
  have e1:(s.heap.push PySem.W.emptyDict).get? s.heap.objs.size=some PySem.W.emptyDict:=Heap.get?_push_size s.heap rfl
  have e2:((s.heap.push PySem.W.emptyDict).push (PySem.W.instObj C s.heap.objs.size)).get? (s.heap.objs.size+1)=some (PySem.W.instObj C s.heap.objs.size):=by
    have:=Heap.get?_push_size (s.heap.push PySem.W.emptyDict) (o:=PySem.W.instObj C s.heap.objs.size) rfl
    rwa [Heap.size_push] at this
  have e3:(s.heap.push PySem.W.emptyDict).Ns s.heap.objs.size (fun _=>none):=⟨PySem.W.emptyDict,#[],_,e1,rfl,(fun e he=>absurd he (by simp)),fun _=>rfl⟩
  have I1:=I.laid (a:=s.heap.objs.size) (o:=.own (s.heap.objs.size+1)) (h':=s.heap.push PySem.W.emptyDict) (t':=s.toks) (fun b u q=>Heap.get?_push_of_some _ q) (Nat.le_refl _) ⟨_,e1⟩
  refine I1.laid (a:=s.heap.objs.size+1) (o:=.ins C s.heap.objs.size []) (t':=s.toks) (fun b u q=>Heap.get?_push_of_some _ q) (Nat.le_of_eq (Heap.size_push _ _)) ?_
  have ne:s.heap.objs.size≠s.heap.objs.size+1:=Nat.ne_of_lt (Nat.lt_succ_self _)
  refine ⟨by rw [upd_ne ne,upd_same],Nat.zero_le _,ne,e2,fun _=>none,(Heap.Ns1.of_empty e3).at fun o q=>Heap.get?_push_of_some _ q,fun _=>True.intro,fun y hy=>absurd rfl hy⟩
theorem attr_of {prog:Program} {w:World} {env:Env} {e:Expr} {f:Str} {pos:Pos} {s:Shared} {Q:Value→Shared→Prop} (hb:attributeBase e f env (eval e env)=eval e env)
    (h:wpAny (model prog w) A (eval e env) (fun o s₁=>wpAny (model prog w) A (getAttr o f true) Q E s₁) E s):wpAny (model prog w) A (eval (.Attribute e f pos) env) Q E s:=
  Attribute_any_ h (by rw [arm_eval_Attribute,hb])
end
def tFld (K:PySem.W.Frag) (ta:TE) (f:Str):TE:=fun σ H Q=>ta σ H fun x H1=>∃a C dx fs v,x = .ref a∧H1 a=some (.ins C dx fs)∧Cls K C∧NoAttr K C f∧fs.lookup f=some v∧Q v H1
def sFld (K:PySem.W.Frag) (ta tv:TE) (f:Str):TS:=fun D σ H=>tv σ H fun y H1=>ta σ H1 fun x H2=>∃a C dx fs,x = .ref a∧H2 a=some (.ins C dx fs)∧Cls K C∧NoAttr K C f∧fs.length<1000∧
  D.nx σ (upd H2 a (.ins C dx (putF f y fs)))
section
variable {X:Cx} {o e value:Expr} {f:Str} {pos pos' tpos:Pos} {ta tv:TE}
theorem pe_fld (he:PE X e ta) (hb:attributeBase e f X.env (eval e X.env)=eval e X.env):PE X (.Attribute e f pos) (tFld X.K ta f):=by
  intro pins s σ H Q I h
  refine attr_of hb (thn (he pins s σ H _ I h) fun u s1 zz=>?_)
  obtain ⟨x,H1,I1,rx,a,C,dx,fs,v,ex,ea,c,n,l,q⟩:=zz
  subst ex
  obtain rfl:u=Value.ref a:=rx
  exact getattr_ok I1 ea c n l fun u' s2 I2 ru=>⟨v,H1,I2,ru,q⟩
theorem ps_fld (ha:PE X o ta) (hv:PE X value tv) (hs:swapsWith value (some (.Attribute o f pos')) pos.line X.env=pure false):PS X (.Assign [.Attribute o f pos'] value pos) (sFld X.K ta tv f):=by
  intro pins s σ H D I h
  refine plainObj_wpAny_Assign_Attribute (thn (hv pins s σ H _ I h) fun u s1 ⟨y,H1,I1,ry,q⟩=>thn (ha pins s1 σ H1 _ I1 q) fun ov s2 ⟨x,H2,I2,rx,a,C,dx,fs,ex,ea,c,n,l,q2⟩=>?_) hs
  subst ex
  obtain rfl:ov=Value.ref a:=rx
  exact setattr_ok I2 ea c n l ry fun s3 I3=>⟨σ,_,I3,q2⟩
end
section
variable {X:Cx} {pins:List (Addr×Obj)} {σ:St} {H:Hp} {s:Shared} {A:Around} {E:Value→Shared→Prop} {Q:Value→Shared→Prop} {c:Value} {b:Bool}
inductive TyOf (K:PySem.W.Frag) (H:Hp):V→Value→Prop where
  | non:TyOf K H .non (.type "NoneType")
  | bl (x:Bool):TyOf K H (.bl x) (.type "bool")
  | int (i:Int):TyOf K H (.int i) (.type "int")
  | str (x:Str):TyOf K H (.str x) (.type "str")
  | flt (x:UInt64):TyOf K H (.flt x) (.type "float")
  | lst {a:Addr} {xs:List V} (e:H a=some (.lst xs)):TyOf K H (.ref a) (.type "list")
  | frz {a:Addr} {o:Obj} {xs:List V} (e:H a=some (.frz o (.lst xs))):TyOf K H (.ref a) (.type "list")
  | tup {a:Addr} {xs:List V} (e:H a=some (.tup xs)):TyOf K H (.ref a) (.type "tuple")
  | dK {a:Addr} {kvs:List (Key×V)} (e:H a=some (.dK kvs)):TyOf K H (.ref a) (.type "dict")
  | dT {a:Addr} {kvs:List (List Key×V)} (e:H a=some (.dT kvs)):TyOf K H (.ref a) (.type "dict")
  | ins {a C dx:Addr} {fs:List (Str×V)} (e:H a=some (.ins C dx fs)) (cl:Cls K C) (ha:PySem.W.findIn K (.ref C) "__class__" = some (some (.builtin "object.__class__")))
      (hn:PySem.W.specialIn K (.builtin "object.__class__") "__get__" = some (some (.builtin "getset_descriptor.__get__"))) (htk:PySem.W.takesIn K (.builtin "object.__class__")=some true)
      (hm:PySem.W.mroIn K C (.type "object")=some true):TyOf K H (.ref a) (.ref C)
theorem isinst_ok {x:V} {u t:Value} (I:Inv X pins σ H s) (rx:RelV x u) (ty:TyOf X.K H x t) (e:PySem.W.kitOne X.K t c=some b) (h:∀tk,Q (.bool b) {s with toks:=tk}) :
    wpAny (model X.prog X.w) A (call (.builtin "isinstance") [u,c]) Q E s:=by
  cases ty with
  | non=>cases (show u=Value.none from rx);exact PySem.W.kia_one PySem.W.kitx_none I.kIn True.intro e (fun z=>nomatch z) h
  | bl y=>cases (show u=Value.bool y from rx);exact PySem.W.kia_one PySem.W.kitx_bool I.kIn True.intro e (fun z=>nomatch z) h
  | int i=>obtain ⟨t,q⟩:=(show ∃t,u=Value.int i t from rx);cases q;exact PySem.W.kia_one PySem.W.kitx_int I.kIn True.intro e (fun z=>nomatch z) h
  | str y=>obtain ⟨t,q⟩:=(show ∃t,u=Value.str y t from rx);cases q;exact PySem.W.kia_one PySem.W.kitx_str I.kIn True.intro e (fun z=>nomatch z) h
  | flt y=>obtain ⟨t,q⟩:=(show ∃t,u=Value.float y t from rx);cases q;exact PySem.W.kia_one PySem.W.kitx_float I.kIn True.intro e (fun z=>nomatch z) h
  | @lst a xs ea=>
    cases (show u=Value.ref a from rx)
    obtain ⟨_,_,n,_,h1⟩:=(show ObjOk X.prog X.w H s.heap a (.lst xs) from I.hok a _ ea)
    exact PySem.W.kia_one PySem.W.kitx_list I.kIn ⟨_,h1,rfl⟩ e (fun z=>nomatch z) h
  | @frz a ob xs ea=>
    cases (show u=Value.ref a from rx)
    obtain ⟨_,_,_,n,_,h1⟩:=(show ObjOk X.prog X.w H s.heap a (.frz ob (.lst xs)) from I.hok a _ ea)
    exact PySem.W.kia_one PySem.W.kitx_list I.kIn ⟨_,h1,rfl⟩ e (fun z=>nomatch z) h
  | @tup a xs ea=>
    cases (show u=Value.ref a from rx)
    obtain ⟨_,_,_,p⟩:=(show ObjOk X.prog X.w H s.heap a (.tup xs) from I.hok a _ ea)
    obtain ⟨o,h1,h2,_⟩:=p
    exact PySem.W.kia_one PySem.W.kitx_tuple I.kIn ⟨o,h1,h2⟩ e (fun z=>nomatch z) h
  | @dK a kvs ea=>
    cases (show u=Value.ref a from rx)
    obtain ⟨_,_,vs,_,p⟩:=(show ObjOk X.prog X.w H s.heap a (.dK kvs) from I.hok a _ ea)
    obtain ⟨o,es,ep,h1,h2,_⟩:=p
    exact PySem.W.kia_one PySem.W.kitx_dict I.kIn ⟨o,h1,h2.1⟩ e (fun z=>nomatch z) h
  | @dT a kvs ea=>
    cases (show u=Value.ref a from rx)
    obtain ⟨_,_,xs,_,o,es,ep,h1,h2,_⟩:=(show ObjOk X.prog X.w H s.heap a (.dT kvs) from I.hok a _ ea)
    exact PySem.W.kia_one PySem.W.kitx_dict I.kIn ⟨o,h1,h2.1⟩ e (fun z=>nomatch z) h
  | @ins a C dx fs ea cl ha hn htk hm=>
    cases (show u=Value.ref a from rx)
    obtain ⟨mA,O,_⟩:=ins_get I.hok ea
    obtain ⟨od,J,_⟩:=O.look
    exact PySem.W.kia_one (PySem.W.kitx_own (cl.get _) cl.hd ha hn htk hm) I.kIn J e (fun z=>nomatch z) h
end
structure Room (k:Nat) (A:Around):Prop where
  hd:A.handled=none
  dp:A.depth+3 * k+5<recursionLimit
  un:A.units+16 * k+200<cLine
  gd:A.guards=some []
theorem Room.mono {j k:Nat} {A:Around} (r:Room k A) (h:j≤k):Room j A:=⟨r.hd,by have:=r.dp;omega,by have:=r.un;omega,r.gd⟩
theorem Room.deeper {k:Nat} {A:Around} (r:Room (k+1) A) (env:Env):Room k (A.deeper env):=
  ⟨r.hd,by have:=r.dp;show A.depth+1+3 * k+5<_;omega,by have:=r.un;show A.units+3+16 * k+200<_;omega,r.gd⟩
theorem make_depth {A:Around} {C:Addr} {us:List Value} {kw:List (Str×Value)}:(A.under (.builtin "type.__call__" ⟨.ref C::us,kw⟩)).depth=A.depth+1:=by
  first | rfl | simp [Around.under,Code.weight,Code.isCreation,Code.isGuard,Code.isCaller,Code.frames,Code.isFrame,guardIds]
theorem make_units {A:Around} {C:Addr} {us:List Value} {kw:List (Str×Value)}:(A.under (.builtin "type.__call__" ⟨.ref C::us,kw⟩)).units=A.units+1:=by
  first | rfl | simp [Around.under,Code.cUnits,Code.frames,Code.isFrame]
theorem make_guards {A:Around} {C:Addr} {us:List Value} {kw:List (Str×Value)}:(A.under (.builtin "type.__call__" ⟨.ref C::us,kw⟩)).guards=A.guards:=by
  first | rfl | simp [Around.under,Code.isGuard,guardIds]
theorem Room.make {k:Nat} {A:Around} (r:Room (k+1) A) (C:Addr) (us:List Value) (kw:List (Str×Value)):Room k (A.under (.builtin "type.__call__" ⟨.ref C::us,kw⟩)):=
  ⟨r.hd,by have:=r.dp;rw [make_depth];omega,by have:=r.un;rw [make_units];omega,by rw [make_guards];exact r.gd⟩
theorem Room.depth {k:Nat} {A:Around} (r:Room k A):A.depth<recursionLimit:=by have:=r.dp;omega
theorem Room.units {k:Nat} {A:Around} (r:Room k A):A.units+64<cLine:=by have:=r.un;omega
def tNil:TA:=fun _ H Q=>Q [] H
def tCons (ta:TE) (tr:TA):TA:=fun σ H Q=>ta σ H fun x H1=>tr σ H1 fun xs H2=>Q (x::xs) H2
section
variable {X:Cx} {e:Expr} {es:List Expr} {te:TE} {t:TA} {pos:Pos}
theorem pa_nil:PA X [] tNil:=fun _ _ _ _ H Q I h=>Calls.spliced_nil ⟨[],H,I,.nil,h⟩
theorem pa_cons (ha:PE X e te) (hr:PA X es t) (hs:starEach (e::es) X.env=(false,eval e X.env)::starEach es X.env:=by rfl):PA X (e::es) (tCons te t):=by
  intro pos pins s σ H Q I h
  rw [hs]
  show wpAny _ _ (spliced ((false,eval e X.env)::backTo pos (starEach es X.env))) _ _ s
  refine Calls.spliced_cons (thn (ha pins s σ H _ I h) fun u s1 zz=>?_)
  obtain ⟨x,H1,I1,r1,q1⟩:=zz
  refine thn (hr pos pins s1 σ H1 _ I1 q1) fun us s2 zz=>?_
  obtain ⟨xs,H2,I2,r2,q2⟩:=zz
  exact ⟨x::xs,H2,I2,.cons r1 r2,q2⟩
def tTup (t:TA):TE:=fun σ H Q=>t σ H fun xs H1=>xs.length≤sizeLine∧∀p,H1 p=none→Q (.ref p) (upd H1 p (.tup xs))
def tLst (t:TA):TE:=fun σ H Q=>t σ H fun xs H1=>xs.length≤sizeLine∧∀p,H1 p=none→Q (.ref p) (upd H1 p (.lst xs))
theorem pe_tup {x1} (h:PA X es t):PE X (.Tuple es x1 pos) (tTup t):=by
  intro pins s σ H Q I hq
  refine wpAny_Tuple_spliced (thn (h pos pins s σ H _ I hq) fun us s1 zz=>?_)
  obtain ⟨xs,H1,I1,r,z,q⟩:=zz
  refine ⟨by rw [← r.length];exact z,?_⟩
  have hf:H1 s1.heap.objs.size=none:=I1.hok.fresh (Nat.le_refl _)
  refine ⟨.ref s1.heap.objs.size,upd H1 s1.heap.objs.size (.tup xs),I1.laid (t':=s1.toks) (fun b u e=>Heap.get?_push_of_some _ e) (Nat.le_refl _) ?_,rfl,q _ hf⟩
  exact ⟨z,us,r,⟨_,Heap.get?_push_size _ rfl,rfl,_,rfl⟩⟩
theorem pe_lst (h:PA X es t):PE X (.List es pos) (tLst t):=by
  intro pins s σ H Q I hq
  refine wpAny_List_spliced (thn (h pos pins s σ H _ I hq) fun us s1 zz=>?_)
  obtain ⟨xs,H1,I1,r,z,q⟩:=zz
  refine ⟨by rw [← r.length];exact z,?_⟩
  have hf:H1 s1.heap.objs.size=none:=I1.hok.fresh (Nat.le_refl _)
  refine ⟨.ref s1.heap.objs.size,upd H1 s1.heap.objs.size (.lst xs),I1.laid (t':=s1.toks) (fun b u e=>Heap.get?_push_of_some _ e) (Nat.le_refl _) ?_,rfl,q _ hf⟩
  exact ⟨z,us,0,r,Heap.get?_push_size _ rfl⟩
end
abbrev Sp:=List V→Hp→VK→XK→Prop
abbrev CXT:=List Env→Hp→Shared→XK→Value→Shared→Prop
structure Env0 (P:Program) (w:World) (K:PySem.W.Frag) (mg:Str→Option Value) (base:Heap) (A:Around) (outer:List Env) (s:Shared) (H:Hp):Prop where
  frames:A.frames=some outer
  mod:Mod K mg base
  bs:∀b o,base.get? b=some o→s.heap.get? b=some o∧H b=none
  bsz:base.objs.size≤s.heap.objs.size
  funs:s.heap.FunFrames base outer
  frf:∀b∈frs outer,H b=none
  hok:HOk P w H s.heap
  bare:AllBare s.gens
def CE (outer:List Env) (P:Program) (w:World) (H:Hp) (s:Shared) (Q:VK) (u:Value) (s':Shared):Prop:=
  ∃v H',s'.os=s.os∧AllBare s'.gens∧Un (frs outer) [] H H' s.heap s'.heap∧HOk P w H' s'.heap∧RelV v u∧Q v H'
def CR (CX:CXT) (outer:List Env) (P:Program) (w:World) (H:Hp) (s:Shared) (Q:VK) (E:XK) (r:Result) (s':Shared):Prop:=
  match r with
  | .ok (.ret u)=>CE outer P w H s Q u s'
  | .ok _=>False
  | .error e=>CX outer H s E e s'
structure FnOk (P:Program) (w:World) (K:PySem.W.Frag) (mg:Str→Option Value) (base:Heap) (CX:CXT) (k:Nat) (f:Addr) (fd:FuncData) (ps:List Str) (sp:Sp):Prop where
  len:∀vs H Q E,sp vs H Q E→vs.length=ps.length
  run:∀(A:Around) (outer:List Env) (s:Shared) (H:Hp) (args:Args) (us:List Value) (vs:List V) (Q:VK) (E:XK),Room k A→Env0 P w K mg base A outer s H→BindsTo s fd args (ps.zip us)→Vals vs us→sp vs H Q E→
    codeAny (model P w) A (.call (.ref f) args) (CR CX outer P w H s Q E) s
theorem FnOk.imp {P:Program} {w:World} {K:PySem.W.Frag} {mg:Str→Option Value} {base:Heap} {CX:CXT} {k:Nat} {f:Addr} {fd:FuncData} {ps:List Str} {sp sp':Sp} (F:FnOk P w K mg base CX k f fd ps sp)
    (h:∀vs H Q E,sp' vs H Q E→sp vs H Q E):FnOk P w K mg base CX k f fd ps sp':=
  ⟨fun vs H Q E q=>F.len vs H Q E (h _ _ _ _ q),fun A outer s H args us vs Q E hr he hb hv hs=>F.run A outer s H args us vs Q E hr he hb hv (h _ _ _ _ hs)⟩
theorem Env0.make {P:Program} {w:World} {K:PySem.W.Frag} {mg:Str→Option Value} {base:Heap} {A:Around} {outer:List Env} {s:Shared} {H:Hp} (e:Env0 P w K mg base A outer s H) (C:Addr) (us:List Value) (kw:List (Str×Value)) :
    Env0 P w K mg base (A.under (.builtin "type.__call__" ⟨.ref C::us,kw⟩)) outer s H:=⟨by first | exact e.frames | (simpa [Around.under,Code.envs,Code.isFrame,pushEnvs] using e.frames),e.mod,e.bs,e.bsz,e.funs,e.frf,e.hok,e.bare⟩
section
variable {X:Cx} {pins:List (Addr×Obj)} {σ:St} {H:Hp} {s s':Shared}
theorem Inv.env0 (I:Inv X pins σ H s):Env0 X.prog X.w X.K X.mg X.base X.A X.stack s H:=
  ⟨I.ok.frames,I.ok.mod,I.bs,Nat.le_trans I.ok.bsz I.sz,I.stack,I.stkFree,I.hok,I.bare⟩
theorem Inv.after {Q:VK} {u:Value} (I:Inv X pins σ H s) (h:CE X.stack X.prog X.w H s Q u s'):EP X pins σ Q u s':=by
  obtain ⟨v,H',os,bare,un,hok,r,q⟩:=h
  obtain ⟨hh,g,d,t,os'⟩:=s'
  obtain rfl:os'=s.os:=os
  exact ⟨v,H',I.call (h':=hh) (g':=g) (d':=d) (t':=t) (ch:=[]) un hok bare (fun b z=>absurd z (by simp)),r,q⟩
end
def tCall (sp:Sp) (dvs:List V) (E:XK) (t:TA):TE:=fun σ H Q=>t σ H fun vs H1=>sp (vs++dvs) H1 Q E
def tMeth (C:Addr) (m:Str) (sp:Sp) (dvs:List V) (E:XK) (ta:TE) (t:TA):TE:=fun σ H Q=>ta σ H fun x H1=>∃a dx fs,x = .ref a∧H1 a=some (.ins C dx fs)∧fs.lookup m=none∧
  t σ H1 fun vs H2=>sp (x::(vs++dvs)) H2 Q E
def tMake (C:Addr) (sp:Sp) (dvs:List V) (E:XK) (t:TA):TE:=fun σ H Q=>t σ H fun vs H1=>∀x dx,H1 x=none→H1 dx=none→dx≠x→
  sp (.ref x::(vs++dvs)) (upd (upd H1 dx (.own x)) x (.ins C dx [])) (fun v H2=>v = .non∧Q (.ref x) H2) E
def Binds (K:PySem.W.Frag) (fd:FuncData) (ps:List Str) (ds:List Value):Prop:=
  ∀(s:Shared) (us:List Value),K.In s.heap→(us++ds).length=ps.length→BindsTo s fd ⟨us,[]⟩ (ps.zip (us++ds))
theorem Binds.all {K:PySem.W.Frag} {fd:FuncData} {ps:List Str} (h:∀us:List Value,us.length=ps.length→bindArgs fd ⟨us,[]⟩=pure (ps.zip us)):Binds K fd ps []:=fun s us _ hl=>by
  rw [List.append_nil] at hl ⊢
  exact .of_eq (h us hl)
def Passes (CX:CXT) (X:Cx) (E:XK):Prop:=∀(pins:List (Addr×Obj)) (σ:St) (H:Hp) (s:Shared) (e:Value) (s':Shared),Inv X pins σ H s→CX X.stack H s E e s'→X.xe e s'
section
variable {X:Cx} {CX:CXT} {k:Nat} {f C:Addr} {fd:FuncData} {ps:List Str} {sp:Sp} {dvs:List V} {ds:List Value} {E:XK} {x m:Str} {p pos apos:Pos} {e o:Expr} {es:List Expr} {ta:TE} {t:TA}
theorem run_fn {pins:List (Addr×Obj)} {σ:St} {H:Hp} {s:Shared} {Q:VK} {us:List Value} {vs:List V} (F:FnOk X.prog X.w X.K X.mg X.base CX k f fd ps sp) (hr:Room k X.A) (hb:Binds X.K fd ps ds) (hd:Vals dvs ds) (hx:Passes CX X E)
    (I:Inv X pins σ H s) (r:Vals vs us) (h:sp (vs++dvs) H Q E):wpAny (model X.prog X.w) X.A (call (.ref f) us) (EP X pins σ Q) X.xe s:=by
  have r2:Vals (vs++dvs) (us++ds):=r.append hd
  have hl:(us++ds).length=ps.length:=by rw [← r2.length];exact F.len _ _ _ _ h
  refine wpAny_call (codeAny_mono (F.run X.A X.stack s H ⟨us,[]⟩ (us++ds) (vs++dvs) Q E hr I.env0 (hb s us I.kIn hl) r2 h) fun r s' hq=>?_)
  cases r with
  | error e=>exact hx pins σ H s e s' I hq
  | ok fl=>
    cases fl with
    | ret u=>exact I.after hq
    | next=>exact False.elim hq
    | brk=>exact False.elim hq
    | cont=>exact False.elim hq
theorem pe_call (F:FnOk X.prog X.w X.K X.mg X.base CX k f fd ps sp) (hr:Room k X.A) (hg:Gl X x) (hm:X.mg x=some (.ref f)) (hk:PySem.W.keepIn X.K (.ref f)=true) (hb:Binds X.K fd ps ds) (hd:Vals dvs ds) (hx:Passes CX X E)
    (ha:PA X (e::es) t) (hdb:(x == ("__debug__" : Str))=false:=by decide) (he:starEach (e::es) X.env=(false,eval e X.env)::starEach es X.env:=by rfl) (hpl:(backTo pos (starEach es X.env)).any (·.1)=false:=by rfl) :
    PE X (.Call (.Name x p) (e::es) [] pos) (tCall sp dvs E t):=by
  intro pins s σ H Q I h
  refine wpAny_Call_Name_kw (ld_glob I hg hm ?_ hdb)
  refine PySem.W.callWith_K (h₀:=X.base) I.ok.mod.kin hk (thn (ha pos pins s σ H _ I h) fun us s1 zz=>?_) he hpl
  obtain ⟨vs,H1,I1,r,q⟩:=zz
  refine ⟨I1.kIn,?_⟩
  exact run_fn F hr hb hd hx I1 r q
theorem pe_meth0 {pl:Sem Bool} (he:PE X o ta) (c:Cls X.K C) (hm:Meth X.K C m f) (F:FnOk X.prog X.w X.K X.mg X.base CX k f fd ps sp) (hr:Room k X.A) (hb:Binds X.K fd ps ds) (hd:Vals dvs ds) (hx:Passes CX X E)
    (ht:eval (.Call (.Attribute o m apos) [] [] pos) X.env=(do
      let ov ← eval o X.env
      standAt apos.atName
      let (f,first) ← holding [ov] (getMethod ov m pl)
      callWith pos f first (backTo pos (starEach [] X.env)) (backToKw pos (keywordEach [] X.env))):=by rfl) :
    PE X (.Call (.Attribute o m apos) [] [] pos) (tMeth C m sp dvs E ta tNil):=by
  intro pins s σ H Q I h
  refine PySem.W.methodCall_KW (pl:=pl) (thn (he pins s σ H _ I h) fun u s1 zz=>?_) ht
  obtain ⟨x,H1,I1,rx,a,dx,fs,ex,ea,l,q⟩:=zz
  subst ex
  obtain rfl:u=Value.ref a:=rx
  refine getmeth_ok I1 ea c hm l ?_
  exact PySem.W.callWith_K0 (first:=[.ref a]) I1.kIn hm.kp (run_fn (us:=[.ref a]) (vs:=[.ref a]) F hr hb hd hx I1 (.cons rfl .nil) q)
structure Mk (K:PySem.W.Frag) (C f:Addr):Prop where
  makes:PySem.W.makesIn K C=true
  init:PySem.W.findIn K (.ref C) "__init__" = some (some (.ref f))
  fn:PySem.W.isFn K (.ref f)=true
  kp:PySem.W.keepIn K (.ref C)=true
theorem run_make {pins:List (Addr×Obj)} {σ:St} {H:Hp} {s:Shared} {Q:VK} {us:List Value} {vs:List V} (M:Mk X.K C f) (F:FnOk X.prog X.w X.K X.mg X.base CX k f fd ps sp) (hr:Room (k+1) X.A) (hb:Binds X.K fd ps ds) (hd:Vals dvs ds)
    (hx:Passes CX X E) (I:Inv X pins σ H s) (r:Vals vs us)
    (h:∀x dx,H x=none→H dx=none→dx≠x→sp (.ref x::(vs++dvs)) (upd (upd H dx (.own x)) x (.ins C dx [])) (fun v H2=>v = .non∧Q (.ref x) H2) E) :
    wpAny (model X.prog X.w) X.A (call (.ref C) us) (EP X pins σ Q) X.xe s:=by
  have hq:=h (s.heap.objs.size+1) s.heap.objs.size (I.hok.fresh (Nat.le_succ _)) (I.hok.fresh (Nat.le_refl _)) (Nat.ne_of_lt (Nat.lt_succ_self _))
  have I2:=Inv.made (C:=C) I
  have r2:Vals (V.ref (s.heap.objs.size+1)::(vs++dvs)) (Value.ref (s.heap.objs.size+1)::(us++ds)):=.cons rfl (r.append hd)
  have hl:(Value.ref (s.heap.objs.size+1)::us++ds).length=ps.length:=by
    have e:=r2.length
    rw [F.len _ _ _ _ hq] at e
    exact e.symm
  refine wpAny_call (make_map (f:=f) I.kIn M.makes M.init (beq_iff_eq.mp M.fn) (codeAny_mono (F.run _ X.stack _ _ ⟨Value.ref (s.heap.objs.size+1)::us,[]⟩ (Value.ref (s.heap.objs.size+1)::(us++ds)) _ _ E (hr.make C us [])
    (I2.env0.make C us []) (hb _ (Value.ref (s.heap.objs.size+1)::us) I2.kIn hl) r2 hq) fun r s' hq'=>?_))
  cases r with
  | error e=>exact hx pins σ _ _ e s' I2 hq'
  | ok fl=>
    cases fl with
    | ret u=>
      obtain ⟨v,H',I3,rv,ev,q3⟩:=I2.after hq'
      subst ev
      exact ⟨rv,⟨V.ref (s.heap.objs.size+1),H',I3,rfl,q3⟩⟩
    | next=>exact False.elim hq'
    | brk=>exact False.elim hq'
    | cont=>exact False.elim hq'
theorem pe_make (M:Mk X.K C f) (F:FnOk X.prog X.w X.K X.mg X.base CX k f fd ps sp) (hr:Room (k+1) X.A) (hg:Gl X x) (hm:X.mg x=some (.ref C)) (hb:Binds X.K fd ps ds) (hd:Vals dvs ds) (hx:Passes CX X E)
    (ha:PA X (e::es) t) (hdb:(x == ("__debug__" : Str))=false:=by decide) (he:starEach (e::es) X.env=(false,eval e X.env)::starEach es X.env:=by rfl) (hpl:(backTo pos (starEach es X.env)).any (·.1)=false:=by rfl) :
    PE X (.Call (.Name x p) (e::es) [] pos) (tMake C sp dvs E t):=by
  intro pins s σ H Q I h
  refine wpAny_Call_Name_kw (ld_glob I hg hm ?_ hdb)
  refine PySem.W.callWith_K (h₀:=X.base) I.ok.mod.kin M.kp (thn (ha pos pins s σ H _ I h) fun us s1 zz=>?_) he hpl
  obtain ⟨vs,H1,I1,r,q⟩:=zz
  refine ⟨I1.kIn,?_⟩
  exact run_make M F hr hb hd hx I1 r q
end
structure FnScope (N P:List Str) (sc:Scope):Prop where
  kind:sc.kind = .function
  co:sc.isCoroutine=false
  gen:sc.isGenerator=false
  nd:N.Nodup
  pre:N.take P.length=P
  par:∀x∈P,sc.names.lookup x=some .local∨sc.names.lookup x=some .cell
  nofree:∀y∈sc.names,y.2≠.free
theorem bindL_out {kindOf:Str→Option NameKind} {x:Str}:∀{binds:List (Str×Value)} {m:Str→Option Value},(∀v,(x,v)∉binds)→bindL kindOf binds m x=m x
  | [],_,_=>rfl
  | (n,v)::r,m,h=>by
    unfold bindL
    rw [bindL_out fun w hw=>h w (List.mem_cons_of_mem _ hw)]
    split
    · have:x≠n:=by rintro rfl;exact h v List.mem_cons_self
      simp [this]
    ·rfl
theorem bindC_out {kindOf:Str→Option NameKind} {x:Str}:∀{binds:List (Str×Value)} {m:Str→Option Value},(∀v,(x,v)∉binds)→bindC kindOf binds m x=m x
  | [],_,_=>rfl
  | (n,v)::r,m,h=>by
    unfold bindC
    rw [bindC_out fun w hw=>h w (List.mem_cons_of_mem _ hw)]
    split
    ·rfl
    · have:x≠n:=by rintro rfl;exact h v List.mem_cons_self
      simp [this]
theorem bindL_get {kindOf:Str→Option NameKind} {x:Str} {v:Value}:∀{P:List Str} {vs:List Value} {i:Nat} {m:Str→Option Value},P.Nodup→P[i]? = some x→vs[i]? = some v→kindOf x=some .local→
    bindL kindOf (P.zip vs) m x=some v
  | [],_,_,_,_,h,_,_=>by simp at h
  | _::_,[],_,_,_,_,h,_=>by simp at h
  | p::P,w::vs,0,m,nd,h1,h2,hk=>by
    simp at h1 h2;subst h1;subst h2
    show bindL kindOf ((p,w)::P.zip vs) m p=_
    unfold bindL
    rw [bindL_out fun v hv=>(List.nodup_cons.mp nd).1 (List.of_mem_zip hv).1,if_pos hk]
    simp
  | p::P,w::vs,i+1,m,nd,h1,h2,hk=>by
    show bindL kindOf ((p,w)::P.zip vs) m x=_
    unfold bindL
    exact bindL_get (i:=i) (List.nodup_cons.mp nd).2 (by simpa using h1) (by simpa using h2) hk
theorem bindC_get {kindOf:Str→Option NameKind} {x:Str} {v:Value}:∀{P:List Str} {vs:List Value} {i:Nat} {m:Str→Option Value},P.Nodup→P[i]? = some x→vs[i]? = some v→kindOf x≠some .local→
    bindC kindOf (P.zip vs) m x=some v
  | [],_,_,_,_,h,_,_=>by simp at h
  | _::_,[],_,_,_,_,h,_=>by simp at h
  | p::P,w::vs,0,m,nd,h1,h2,hk=>by
    simp at h1 h2;subst h1;subst h2
    show bindC kindOf ((p,w)::P.zip vs) m p=_
    unfold bindC
    rw [bindC_out fun v hv=>(List.nodup_cons.mp nd).1 (List.of_mem_zip hv).1,if_neg hk]
    simp
  | p::P,w::vs,i+1,m,nd,h1,h2,hk=>by
    show bindC kindOf ((p,w)::P.zip vs) m x=_
    unfold bindC
    exact bindC_get (i:=i) (List.nodup_cons.mp nd).2 (by simpa using h1) (by simpa using h2) hk
def start (N:List Str) (vs:List V):St:=vs.map some++List.replicate (N.length - vs.length) none
def cxOf (CX:CXT) (P:Program) (w:World) (K:PySem.W.Frag) (mg:Str→Option Value) (base:Heap) (N:List Str) (qual:Str) (scope:Scope) (f:Addr) (cd:Value) (A:Around) (outer:List Env) (s:Shared) (H:Hp) (E:XK):Cx where
  prog:=P
  w:=w
  K:=K
  mg:=mg
  base:=base
  A:=A.deeper (envOfC qual scope s.heap.objs.size f cd)
  N:=N
  s₀:=s
  H₀:=H
  env:=envOfC qual scope s.heap.objs.size f cd
  outer:=outer
  stack:=envOfC qual scope s.heap.objs.size f cd::outer
  ex:=[]
  calm:=true
  fn:=fun _=>true
  pn:=[]
  xe:=fun e s'=>wpAny (model P w) (A.deeper (envOfC qual scope s.heap.objs.size f cd)) (leaving (envOfC qual scope s.heap.objs.size f cd) e) (fun _ s''=>CX outer H s E e s'') (fun e' s''=>CX outer H s E e' s'') s'
theorem cell_has {sc:Scope} {n:Nat} {x:Str} (h:sc.names.lookup x=some .cell):∃c,(cellsFrom n sc.names []).lookup x=some c:=by
  have q:=PySem.W.cellsFrom_some sc.names n [] (.inl h)
  exact Option.isSome_iff_exists.mp q
theorem inv_start {CX:CXT} {P:Program} {w:World} {K:PySem.W.Frag} {mg:Str→Option Value} {base:Heap} {N ps:List Str} {qual:Str} {scope:Scope} {f:Addr} {cd:Value} {A:Around} {outer:List Env} {s s1:Shared} {H:Hp} {E:XK} {us:List Value} {vs:List V}
    (S:FnScope N ps scope) (hd:A.handled=none) (e0:Env0 P w K mg base A outer s H) (hl:vs.length=ps.length) (r:Vals vs us)
    (x:InCallC s s.heap.objs.size (bindL (envOfC qual scope s.heap.objs.size f cd).kindOf (ps.zip us) fun _=>none) (cellsFrom (s.heap.objs.size+1) scope.names []) (bindC (envOfC qual scope s.heap.objs.size f cd).kindOf (ps.zip us) fun _=>none) s1) :
    Inv (cxOf CX P w K mg base N qual scope f cd A outer s H E) [] (start N vs) H s1:=by
  have hpl:ps.length≤N.length:=by have:=congrArg List.length S.pre;rw [List.length_take] at this;omega
  obtain ⟨h1,tk,rfl,hk⟩:=x.done
  have noA:∀b:Addr,b∉(cxOf CX P w K mg base N qual scope f cd A outer s H E).ex:=fun b z=>absurd (show b∈([]:List Addr) from z) (by simp)
  refine ⟨⟨e0.mod,S.kind,rfl,rfl,Nat.le_refl _,fun y z c h1 h2=>?_,fun y hy=>?_,fun y c _ h=>?_,fun _=>hd,Around.frames_deeper e0.frames,.inr ⟨rfl,rfl⟩,fun b z=>absurd z (noA b),e0.bs,e0.bsz,fun b _ _=>noA b,fun b z=>absurd z (noA b),e0.funs,e0.frf⟩,
    rfl,e0.bare,Un.kept hk,⟨_,x.toInCall.ns,fun i y v h1 h2 h3=>?_⟩,fun y c h=>⟨_,x.cell y c h⟩,e0.hok.fresh (Nat.le_refl _),fun y c h=>?_,fun p hp=>absurd (show p∈([]:List (Addr×Obj)) from hp) (by simp),e0.hok.kept hk,?_⟩
  ·exact name_of_addr x.apart (PySem.mem_of_lookup h1) (PySem.mem_of_lookup h2)
  · have hy:scope.names.lookup y=some .cell∨scope.names.lookup y=some .free:=hy
    rcases hy with hy | hy
    ·exact cell_has hy
    ·exact absurd rfl (S.nofree _ (PySem.mem_of_lookup hy))
  ·exact Nat.le_of_lt (x.above y c (PySem.mem_of_lookup h))
  · have hi:i<vs.length:=by
      unfold start at h2
      by_cases hi:i<vs.length
      ·exact hi
      · rw [List.getElem?_append_right (by simpa using hi)] at h2
        rw [List.getElem?_replicate] at h2
        split at h2 <;> cases h2
    have ha:vs[i]? = some v:=by
      unfold start at h2
      rw [List.getElem?_append_left (by simpa using hi),List.getElem?_map] at h2
      cases e:vs[i]? with
      | none=>rw [e] at h2;cases h2
      | some a=>rw [e] at h2;cases h2;rfl
    obtain ⟨u,hu,rv⟩:=r.get ha
    have hp:ps[i]? = some y:=by
      rw [← S.pre,List.getElem?_take_of_lt (by omega)];exact h1
    have ndP:ps.Nodup:=by rw [← S.pre];exact S.nd.sublist (List.take_sublist _ _)
    refine ⟨u,rv,?_⟩
    rcases S.par y (List.mem_of_getElem? hp) with k | k
    ·exact .inl ⟨k,bindL_get ndP hp hu k⟩
    · obtain ⟨c,e⟩:=cell_has (n:=s.heap.objs.size+1) k
      refine .inr ⟨.inl k,c,e,?_⟩
      have q:=x.cell y c e
      rw [bindC_get ndP hp hu (by show scope.names.lookup y≠_;rw [k];decide)] at q
      exact q
  ·exact e0.hok.fresh (Nat.le_of_lt (x.above y c (PySem.mem_of_lookup h)))
  · unfold start
    show _=N.length
    rw [List.length_append,List.length_map,List.length_replicate]
    omega
theorem fn_of {CX:CXT} {P:Program} {w:World} {K:PySem.W.Frag} {mg:Str→Option Value} {base:Heap} {k:Nat} {f:Addr} {name qual:Str} {params:Arguments} {body:List Stmt} {scope:Scope} {dV kV doc pm cdv ct oc:Value} {an od:Option Addr}
    {osl:Array (Option Value)} {N ps:List Str} {sp:Sp} (lk:K.lookup f=some ⟨oc,od,.func (PySem.W.fnOf name qual params body scope dV kV doc pm an cdv ct),osl⟩) (hcd:PySem.W.codeIn K cdv qual=true) (S:FnScope N ps scope)
    (len:∀vs H Q E,sp vs H Q E→vs.length=ps.length)
    (hbody:∀(A:Around) (outer:List Env) (s:Shared) (H:Hp) (vs:List V) (Q:VK) (E:XK),Room k (A.deeper (envOfC qual scope s.heap.objs.size f cdv))→sp vs H Q E→
      ∃t,PSs (cxOf CX P w K mg base N qual scope f cdv A outer s H E) body t∧t {nx:=fun _ H'=>Q .non H',rt:=Q} (start N vs) H) :
    FnOk P w K mg base CX (k+1) f (PySem.W.fnOf name qual params body scope dV kV doc pm an cdv ct) ps sp:=by
  refine ⟨len,fun A outer s H args us vs Q E hr e0 hb r hsp=>?_⟩
  have hl:=len _ _ _ _ hsp
  have KX:K.In s.heap:=e0.mod.kin.keeps fun b o e=>(e0.bs b o e).1
  have lim:s.heap.NoLimit:=e0.mod.nolimit.keeps fun b o e=>(e0.bs b o e).1
  have hkind:∀y∈ps.zip us,scope.names.lookup y.1=some .local∨(scope.names.lookup y.1=some .cell∧((cellsFrom (s.heap.objs.size+1) scope.names []).lookup y.1).isSome=true):=fun ⟨n,v⟩ hy=>by
    rcases S.par n (List.of_mem_zip hy).1 with q | q
    ·exact .inl q
    ·exact .inr ⟨q,PySem.W.cellsFrom_some _ _ _ (.inl q)⟩
  refine codeAny_call_function hr.depth (KX _ _ lk) rfl S.co S.gen rfl (PySem.W.codeRec_of KX hcd) (hb _ _ _ _ ?_)
  refine wpAny_newFunctionEnv_cells S.kind hkind fun env he s1 x=>?_
  subst he
  refine ⟨lim.keeps x.toInCall.keep,codeAny_func ?_⟩
  obtain ⟨t,ht,hq⟩:=hbody A outer s H vs Q E (hr.deeper _) hsp
  have I:Inv (cxOf CX P w K mg base N qual scope f cdv A outer s H E) [] (start N vs) H s1:=inv_start S hr.hd e0 hl r x
  refine wpAny_mono (ht [] s1 (start N vs) H _ I hq) (fun fl s' hs=>?_) fun e s' hs=>hs
  have fin:∀{σ':St} {H':Hp} {v:V} {u:Value},Inv (cxOf CX P w K mg base N qual scope f cdv A outer s H E) [] σ' H' s'→RelV v u→Q v H'→CE outer P w H s Q u s':=
    fun {σ' H' v u} J rv q=>⟨v,H',J.os,J.bare,J.base,J.hok,rv,q⟩
  cases fl with
  | ret u=>
    obtain ⟨v,σ',H',J,rv,q⟩:=hs
    exact fin J rv q
  | next=>
    obtain ⟨σ',H',J,q⟩:=hs
    exact fin (v:=V.non) (u:=Value.none) J rfl q
  | brk=>
    obtain ⟨_,_,_,q⟩:=hs
    exact False.elim q
  | cont=>
    obtain ⟨_,_,_,q⟩:=hs
    exact False.elim q
section
variable {X:Cx} {x:Str} {p pos:Pos} {e:Expr} {es:List Expr} {t:TA} {id T:String} {r:List V→Hp→VK→Prop}
def tCB (r:List V→Hp→VK→Prop) (t:TA):TE:=fun σ H Q=>t σ H fun vs H1=>r vs H1 Q
theorem pe_callB (hc:CallR X (.builtin id) r) (hg:Gl X x) (hm:X.mg x=none) (hv:bootBuiltins x=some (.builtin id)) (ha:PA X (e::es) t) (hn:x≠ "__name__" :=by decide) (hdb:(x == ("__debug__" : Str))=false:=by decide)
    (he:starEach (e::es) X.env=(false,eval e X.env)::starEach es X.env:=by rfl) (hpl:(backTo pos (starEach es X.env)).any (·.1)=false:=by rfl):PE X (.Call (.Name x p) (e::es) [] pos) (tCB r t):=by
  intro pins s σ H Q I h
  refine wpAny_Call_Name_kw (ld_blt I hg hm hv ?_ hn hdb)
  refine PyProof.Rows.callWith_builtin1 (thn (ha pos pins s σ H _ I h) fun us s1 zz=>?_) he hpl
  obtain ⟨vs,H1,I1,r1,q1⟩:=zz
  exact hc pins s1 σ H1 vs us Q I1 r1 q1
theorem pe_callTy (hc:CallR X (.type T) r) (hg:Gl X x) (hm:X.mg x=none) (hv:bootBuiltins x=some (.type T)) (ha:PA X (e::es) t) (hn:x≠ "__name__" :=by decide) (hdb:(x == ("__debug__" : Str))=false:=by decide)
    (he:starEach (e::es) X.env=(false,eval e X.env)::starEach es X.env:=by rfl) (hpl:(backTo pos (starEach es X.env)).any (·.1)=false:=by rfl):PE X (.Call (.Name x p) (e::es) [] pos) (tCB r t):=by
  intro pins s σ H Q I h
  refine wpAny_Call_Name_kw (ld_blt I hg hm hv ?_ hn hdb)
  refine PyProof.Rows.callWith_type1 (thn (ha pos pins s σ H _ I h) fun us s1 zz=>?_) he hpl
  obtain ⟨vs,H1,I1,r1,q1⟩:=zz
  exact hc pins s1 σ H1 vs us Q I1 r1 q1
end
end L2
namespace HT
open PySem PyProof.Rows
section
variable {prog:Program} {w:World} {A:Around} {E:Value→Shared→Prop} {s:Shared}
def sIx (n d:Nat):Option Int→Nat
  | none=>d
  | some v=>if v<0 then (v+(n:Int)).toNat else min v.toNat n
end
end HT
namespace L2
open PySem PySem.Spec PyProof.Rows
abbrev TO:=St→Hp→(Option Int→Hp→Prop)→Prop
def PO (X:Cx) (e:Option Expr) (t:TO):Prop:=
  ∀(pins:List (Addr×Obj)) (s:Shared) (σ:St) (H:Hp) (Q:Option Int→Hp→Prop),Inv X pins σ H s→t σ H Q→
    wpAny (model X.prog X.w) X.A (evalPart e X.env) (fun u s'=>∃o H',Inv X pins σ H' s'∧IsPart u o∧Q o H') X.xe s
def tNoPart:TO:=fun _ H Q=>Q none H
def tPart (t:TE):TO:=fun σ H Q=>t σ H fun x H1=>∃i,x = .int i∧Q (some i) H1
section
variable {X:Cx} {e:Expr} {te:TE} {lo hi:Option Expr} {tl th:TO} {pos p2:Pos}
theorem po_none:PO X none tNoPart:=by
  intro pins s σ H Q I h
  rw [evalPart_none]
  exact wpAny_pure ⟨none,H,I,.none,h⟩
theorem po_some (h:PE X e te):PO X (some e) (tPart te):=by
  intro pins s σ H Q I hw
  rw [evalPart_some]
  refine thn (h pins s σ H _ I hw) fun u s1 zz=>?_
  obtain ⟨x,H1,I1,r1,q1⟩:=zz
  obtain ⟨i,rfl,q⟩:=q1
  obtain ⟨t,rfl⟩:=r1
  exact ⟨some i,H1,I1,.int i t,q⟩
def SlR (X:Cx) (r:V→Option Int→Option Int→Hp→VK→Prop):Prop:=
  ∀(pins:List (Addr×Obj)) (s:Shared) (σ:St) (H:Hp) (x:V) (v vl vu:Value) (lo hi:Option Int) (sl:Addr) (Q:VK),Inv X pins σ H s→RelV x v→s.heap.IsSliceOf sl vl vu .none→IsPart vl lo→IsPart vu hi→r x lo hi H Q→
    ∃T id,typeLookup (.type T) "__getitem__" = pure (some (.builtin id))∧s.TypeIs v T∧wpAny (model X.prog X.w) X.A (getItem v (.ref sl)) (EP X pins σ Q) X.xe s
def tSl (r:V→Option Int→Option Int→Hp→VK→Prop) (te:TE) (tl th:TO):TE:=fun σ H Q=>te σ H fun x H1=>tl σ H1 fun l H2=>th σ H2 fun u H3=>r x l u H3 Q
theorem pe_slice {r:V→Option Int→Option Int→Hp→VK→Prop} (hr:SlR X r) (he:PE X e te) (hl:PO X lo tl) (hu:PO X hi th):PE X (.Subscript e (.Slice lo hi none p2) pos) (tSl r te tl th):=by
  intro pins s σ H Q I h
  refine Subscript_ (thn (he pins s σ H _ I h) fun v s1 zz=>?_)
  obtain ⟨x,H1,I1,r1,q1⟩:=zz
  refine wpAny_Slice (thn (hl pins s1 σ H1 _ I1 q1) fun vl s2 ⟨l,H2,I2,pl,q2⟩=>thn (hu pins s2 σ H2 _ I2 q2) fun vu s3 ⟨u,H3,I3,pu,q3⟩=>?_)
  rw [evalPart_none]
  refine wpAny_pure ?_
  have I4:Inv X pins σ H3 {s3 with heap:=s3.heap.push {cls:=.type "slice",data:=.fields #[vl,vu,.none]}}:=I3.kept (t':=s3.toks) fun b ob q=>Heap.get?_push_of_some _ q
  obtain ⟨T,id,hT,ht,hg⟩:=hr pins {s3 with heap:=s3.heap.push {cls:=.type "slice",data:=.fields #[vl,vu,.none]}} σ H3 x v vl vu l u s3.heap.objs.size Q I4 r1 (Heap.IsSliceOf.new ..) pl pu q3
  show wpAny (model X.prog X.w) X.A (subscriptTail e (.Slice lo hi none p2) v (.ref s3.heap.objs.size)) (EP X pins σ Q) X.xe {s3 with heap:=s3.heap.push {cls:=.type "slice",data:=.fields #[vl,vu,.none]}}
  exact tail_any (ops:=[.ref s3.heap.objs.size,v]) ht hT hg (by with_unfolding_all rfl)
def cutV (xs:List V) (lo hi:Option Int):List V:=(xs.drop (HT.sIx xs.length 0 lo)).take (HT.sIx xs.length xs.length hi - HT.sIx xs.length 0 lo)
theorem cutV_length (xs:List V) (lo hi:Option Int):(cutV xs lo hi).length≤xs.length:=by
  unfold cutV
  rw [List.length_take,List.length_drop]
  omega
end
def ixN (n:Nat) (i:Int):Option Nat:=if 0≤i then (if i<n then some i.toNat else none) else if -(n:Int)≤i then some (i+n).toNat else none
def atI {α:Type} (xs:List α) (i:Int):Option α:=(ixN xs.length i).bind fun j=>xs[j]?
theorem ixN_seq {n:Nat} {i:Int} {j:Nat} (h:ixN n i=some j):seqIndex? i n=some j∧j<n∧-(n:Int)≤i∧i<n:=by
  unfold ixN at h
  by_cases h0:0≤i
  · rw [if_pos h0] at h
    by_cases h1:i<n
    · rw [if_pos h1] at h
      have e:i.toNat=j:=Option.some.inj h
      exact ⟨by rw [seqIndex_of h0 h1,e],by omega,by omega,h1⟩
    ·rw [if_neg h1] at h;cases h
  · rw [if_neg h0] at h
    by_cases h1 : -(n:Int)≤i
    · rw [if_pos h1] at h
      have e:(i+n).toNat=j:=Option.some.inj h
      exact ⟨by rw [seqIndex_neg (by omega) h1,e],by omega,h1,by omega⟩
    ·rw [if_neg h1] at h;cases h
theorem atI_get {α:Type} {xs:List α} {i:Int} {v:α} (h:atI xs i=some v):∃j,seqIndex? i xs.length=some j∧xs[j]? = some v∧j<xs.length∧-(xs.length:Int)≤i∧i<xs.length:=by
  unfold atI at h
  cases e:ixN xs.length i with
  | none=>rw [e] at h;cases h
  | some j=>
    rw [e] at h
    obtain ⟨h1,h2,h3,h4⟩:=ixN_seq e
    exact ⟨j,h1,h,h2,h3,h4⟩
theorem atI_nat {α:Type} {xs:List α} {j:Nat} {v:α} (h:xs[j]? = some v):atI xs (j:Int)=some v:=by
  have hj:j<xs.length:=(List.getElem?_eq_some_iff.mp h).1
  have e:ixN xs.length (j:Int)=some j:=by
    unfold ixN
    rw [if_pos (by omega),if_pos (by omega)];simp
  unfold atI;rw [e];exact h
def PlainIx (b:Expr):Prop:=∀o i,subscripted b false o i=operate [o,i] (getItem o i)
def IxR (X:Cx) (r:R2):Prop:=
  ∀(value slice:Expr) (pins:List (Addr×Obj)) (s:Shared) (σ:St) (H:Hp) (x y:V) (v u:Value) (Q:VK),Inv X pins σ H s→RelV x v→RelV y u→r x y H Q→
    subscripted slice false v u=operate [v,u] (getItem v u)→wpAny (model X.prog X.w) X.A (subscriptTail value slice v u) (EP X pins σ Q) X.xe s
def MtR (X:Cx) (id:String) (r:V→List V→Hp→VK→Prop):Prop:=
  ∀(pins:List (Addr×Obj)) (s:Shared) (σ:St) (H:Hp) (x:V) (xs:List V) (v:Value) (us:List Value) (Q:VK),Inv X pins σ H s→RelV x v→Vals xs us→r x xs H Q→
    wpAny (model X.prog X.w) X.A (call (.builtin id) (v::us)) (EP X pins σ Q) X.xe s
section
variable {X:Cx} {a b:Expr} {ta tb:TE} {pos:Pos}
theorem pe_ix {r:R2} (hr:IxR X r) (ha:PE X a ta) (hb:PE X b tb) (hs:PlainIx b):PE X (.Subscript a b pos) (tOp r ta tb):=by
  intro pins s σ H Q I h
  exact Subscript_ (binT ha hb I h fun v u s2 x y H2 I2 rx ry q=>hr a b pins s2 σ H2 x y v u Q I2 rx ry q (hs _ _))
def rIxL (K:PySem.W.Frag):R2:=fun x y H Q=>∃p xs i v,x = .ref p∧y = .int i∧SqL K H p xs∧atI xs i=some v∧Q v H
def rIxT (K:PySem.W.Frag):R2:=fun x y H Q=>∃p xs i v,x = .ref p∧y = .int i∧SqT K H p xs∧atI xs i=some v∧Q v H
def rIxS:R2:=fun x y H Q=>∃z i c,x = .str z∧y = .int i∧z.length≤sizeLine∧atI z.cps.toList i=some c∧Q (.str ⟨#[c]⟩) H
theorem ix_list:IxR X (rIxL X.K):=by
  intro value slice pins s σ H x y v u Q I rx ry h hs
  obtain ⟨p,xs,i,z,rfl,rfl,hq,he,q⟩:=h
  cases rx
  obtain ⟨t,rfl⟩:=ry
  obtain ⟨its,r,pl,hz⟩:=I.list hq
  obtain ⟨j,h1,h2,h3,h4,h5⟩:=atI_get he
  obtain ⟨w,ew,rw'⟩:=r.get h2
  have hl:=r.length
  have hn:=line63
  have fin:EP X pins σ Q w s:=⟨z,H,I,rw',q⟩
  by_cases h0:0≤i
  · have hj:i.toNat=j:=by
      rw [seqIndex_of h0 h5] at h1
      exact Option.some.inj h1
    exact item_listR pl.isList h0 (by omega) (by rw [hj];simpa using ew) fin hs
  · have hj:(i+(its.toArray.size:Int)).toNat=j:=by
      rw [seqIndex_neg (by omega) h4] at h1
      rw [List.size_toArray,← hl]
      exact Option.some.inj h1
    exact subscriptTail_builtinR (x:=w) pl.isList.typeIs slot_list_getitem.lookup
      (wpAny_getItem_list_neg (Q:=fun r s'=>r=w∧EP X pins σ Q r s') pl.isList (by omega) (by rw [List.size_toArray] <;> omega) (by omega) (by rw [hj];simpa using ew) ⟨rfl,fin⟩) hs
theorem ix_tup:IxR X (rIxT X.K):=by
  intro value slice pins s σ H x y v u Q I rx ry h hs
  obtain ⟨p,xs,i,z,rfl,rfl,hq,he,q⟩:=h
  cases rx
  obtain ⟨t,rfl⟩:=ry
  obtain ⟨its,r,pl,hz⟩:=I.tuple hq
  obtain ⟨j,h1,h2,h3,h4,h5⟩:=atI_get he
  obtain ⟨w,ew,rw'⟩:=r.get h2
  have hl:=r.length
  have hn:=line63
  have fin:EP X pins σ Q w s:=⟨z,H,I,rw',q⟩
  exact subscriptTail_builtinR (x:=w) pl.typeIs slot_tuple_getitem.lookup
    (getItem_tuple (j:=j) (Q:=fun r s'=>r=w∧EP X pins σ Q r s') pl (by omega) (by omega) (by rw [List.size_toArray,← hl];exact h1) (by simpa using ew) ⟨rfl,fin⟩) hs
theorem ix_str:IxR X rIxS:=by
  intro value slice pins s σ H x y v u Q I rx ry h hs
  obtain ⟨z,i,c,rfl,rfl,hz,he,q⟩:=h
  obtain ⟨t,rfl⟩:=rx
  obtain ⟨t',rfl⟩:=ry
  obtain ⟨j,h1,h2,h3,h4,h5⟩:=atI_get he
  have hl:z.cps.toList.length=z.length:=by simp [Str.length]
  rw [hl] at h1 h4 h5
  have hn:=line63
  exact tail_any (typeIs_str s z t) slot_str_getitem.lookup (getItem_str (c:=c) (by
    have e1:decide (i < -(2 ^ 63:Int))=false:=decide_eq_false (by omega)
    have e2:decide (i≥2 ^ 63)=false:=decide_eq_false (by omega)
    rw [e1,e2,Bool.or_false]) (by rw [h1];simpa using h2) ⟨.str ⟨#[c]⟩,H,I.tok _,⟨_,rfl⟩,q⟩) hs
theorem mapSeq_set (its:List Value) (n j:Nat) (u:Value):Obj.mapSeq (·.setIfInBounds j u) {cls:=.type "list",data:=.seq its.toArray n}={cls:=.type "list",data:=.seq (its.set j u).toArray n}:=by
  simp [Obj.mapSeq]
theorem Inv.lst {pins:List (Addr×Obj)} {σ:St} {H:Hp} {s:Shared} {p:Addr} {xs:List V} (I:Inv X pins σ H s) (h:H p=some (.lst xs)) :
    ∃(its:List Value) (n:Nat),Vals xs its∧s.heap.get? p=some {cls:=.type "list",data:=.seq its.toArray n}∧xs.length≤sizeLine:=by
  obtain ⟨z,its,n,r,e⟩:=I.hok p _ h
  exact ⟨its,n,r,e,z⟩
theorem Inv.lstUpd {pins:List (Addr×Obj)} {σ:St} {H:Hp} {s:Shared} {p:Addr} {xs ys:List V} {its its':List Value} {n n':Nat} {f:Obj→Obj} (I:Inv X pins σ H s) (h:H p=some (.lst xs))
    (ho:s.heap.get? p=some {cls:=.type "list",data:=.seq its.toArray n}) (hf:f {cls:=.type "list",data:=.seq its.toArray n}={cls:=.type "list",data:=.seq its'.toArray n'}) (r:Vals ys its') (hz:ys.length≤sizeLine) (t:Nat) :
    Inv X pins σ (upd H p (.lst ys)) {s with heap:=s.heap.update p f,toks:=t}:=by
  have e:(s.heap.update p f).get? p=some {cls:=.type "list",data:=.seq its'.toArray n'}:=by
    rw [Heap.get?_update_self f ho (by rw [hf] <;> rfl),hf]
  refine I.write (x:=p) (e:=p) (by rw [h];trivial) (.inl rfl) (fun b u hb q=>(Heap.get?_update_other _ _ (Ne.symm hb)).trans q) ⟨_,e⟩ ?_
  exact ⟨hz,its',n',r,e⟩
def rSetL:V→V→V→Hp→(Hp→Prop)→Prop:=fun o i v H Q=>∃p xs k j,o = .ref p∧i = .int k∧H p=some (.lst xs)∧ixN xs.length k=some j∧Q (upd H p (.lst (xs.set j v)))
theorem set_list:PSet X rSetL:=by
  intro pins s σ H o i v ov iv u Q I ro ri rv h
  obtain ⟨p,xs,k,j,rfl,rfl,hp,hj,q⟩:=h
  cases ro
  obtain ⟨t,rfl⟩:=ri
  obtain ⟨its,n,r,ho,hz⟩:=I.lst hp
  obtain ⟨h1,h2,h3,h4⟩:=ixN_seq hj
  have hl:=r.length
  have hn:=line63
  have I':Inv X pins σ (upd H p (.lst (xs.set j v))) {s with heap:=s.heap.update p (Obj.mapSeq (·.setIfInBounds j u))}:=
    I.lstUpd hp ho (mapSeq_set its n j u) (r.set rv j) (by rw [List.length_set];exact hz) s.toks
  by_cases h0:0≤k
  · have hk:k.toNat=j:=by
      rw [seqIndex_of h0 h4] at h1
      exact Option.some.inj h1
    exact PySem.W.ki_setAt ho h0 (by omega) (by rw [List.size_toArray,← hl];exact h4) (by rw [hk];exact ⟨_,I',q⟩)
  · have hk:(k+(its.toArray.size:Int)).toNat=j:=by
      rw [seqIndex_neg (by omega) h3] at h1
      rw [List.size_toArray,← hl]
      exact Option.some.inj h1
    exact PySem.W.ki_setBack ho (by omega) (by rw [List.size_toArray,← hl];exact h3) (by omega) (by rw [hk];exact ⟨_,I',q⟩)
theorem slice_bounds (lo hi:Option Int) (n:Nat):(sliceBounds lo hi none n).1=((HT.sIx n 0 lo:Nat):Int)∧(sliceBounds lo hi none n).2.1=((HT.sIx n n hi:Nat):Int)∧(sliceBounds lo hi none n).2.2=1:=by
  refine ⟨?_,?_,rfl⟩
  · cases lo with
    | none=>simp [sliceBounds,HT.sIx]
    | some i=>
      simp only [sliceBounds,HT.sIx,Option.getD_none,show (1:Int) > 0 by decide,if_true]
      by_cases h:i<0
      ·simp only [h,if_true] <;> omega
      ·simp only [h,if_false] <;> omega
  · cases hi with
    | none=>simp [sliceBounds,HT.sIx]
    | some i=>
      simp only [sliceBounds,HT.sIx,Option.getD_none,show (1:Int) > 0 by decide,if_true]
      by_cases h:i<0
      ·simp only [h,if_true] <;> omega
      ·simp only [h,if_false] <;> omega
theorem slicePick_cut (its:List Value) (lo hi:Option Int):slicePick its.toArray lo hi none=((its.drop (HT.sIx its.length 0 lo)).take (HT.sIx its.length its.length hi - HT.sIx its.length 0 lo)).toArray:=by
  obtain ⟨h1,h2,h3⟩:=slice_bounds lo hi its.toArray.size
  unfold slicePick
  rw [h1,h2,h3]
  simp only [sliceRange_one,pick_run,List.size_toArray] <;> rfl
def rSlL (K:PySem.W.Frag):V→Option Int→Option Int→Hp→VK→Prop:=fun x lo hi H Q=>∃a xs,x = .ref a∧SqL K H a xs∧∀p,H p=none→Q (.ref p) (upd H p (.lst (cutV xs lo hi)))
theorem sl_list:SlR X (rSlL X.K):=by
  intro pins s σ H x v vl vu lo hi sl Q I rx hs pl pu h
  obtain ⟨a,xs,rfl,hx,q⟩:=h
  cases rx
  obtain ⟨its,r,ht,hz⟩:=I.list hx
  have hlen:=r.length
  refine ⟨"list",_,slot_list_getitem.lookup,ht.isList.typeIs,?_⟩
  refine wpAny_getItem_list_slice ht.isList hs pl pu .none (by simp) ?_ (by rw [List.size_toArray] <;> omega)
  rw [slicePick_cut,← hlen]
  refine ⟨.ref s.heap.objs.size,_,I.laid (t':=s.toks) (o:=.lst (cutV xs lo hi)) (fun b ob q=>Heap.get?_push_of_some _ q) (Nat.le_refl _) ?_,rfl,q _ (I.hok.fresh (Nat.le_refl _))⟩
  exact ⟨Nat.le_trans (cutV_length xs lo hi) hz,_,0,(r.drop (HT.sIx xs.length 0 lo)).take (HT.sIx xs.length xs.length hi - HT.sIx xs.length 0 lo),Heap.get?_push_size _ rfl⟩
def flatV:V→Bool
  | .non=>true
  | .bl _=>true
  | .int _=>true
  | .str _=>true
  | _=>false
def eqV:V→V→Bool
  | .non,.non=>true
  | .bl a,.bl b=>a == b
  | .bl a,.int b=>(if a then 1 else 0) == b
  | .int a,.bl b=>a == (if b then 1 else 0)
  | .int a,.int b=>a == b
  | .str a,.str b=>a == b
  | _,_=>false
theorem eqAt_V {A:Around} {s:Shared} {y x:V} {u v:Value} (ry:RelV y u) (rx:RelV x v) (fy:flatV y=true) (fx:flatV x=true):SeqAt.EqAt A s u v (eqV y x):=by
  cases y with
  | non=>
    cases ry
    cases x with
    | non=>cases rx;exact SeqAt.EqAt.same _
    | bl b=>cases rx;exact SeqAt.EqAt.none_bool b
    | int b=>obtain ⟨t,rfl⟩:=rx;exact SeqAt.EqAt.none_int b t
    | str b=>obtain ⟨t,rfl⟩:=rx;exact SeqAt.EqAt.none_str b t
    | _=>exact absurd (show false=true from fx) Bool.false_ne_true
  | bl a=>
    cases ry
    cases x with
    | non=>cases rx;exact SeqAt.EqAt.bool_none a
    | bl b=>cases rx;exact SeqAt.EqAt.bool_bool a b
    | int b=>obtain ⟨t,rfl⟩:=rx;exact SeqAt.EqAt.bool_int a b t
    | str b=>obtain ⟨t,rfl⟩:=rx;exact SeqAt.EqAt.bool_str a b t
    | _=>exact absurd (show false=true from fx) Bool.false_ne_true
  | int a=>
    obtain ⟨t',rfl⟩:=ry
    cases x with
    | non=>cases rx;exact SeqAt.EqAt.int_none a t'
    | bl b=>cases rx;exact SeqAt.EqAt.int_bool a t' b
    | int b=>obtain ⟨t,rfl⟩:=rx;exact SeqAt.EqAt.int_int a t' b t
    | str b=>obtain ⟨t,rfl⟩:=rx;exact SeqAt.EqAt.int_str a t' b t
    | _=>exact absurd (show false=true from fx) Bool.false_ne_true
  | str a=>
    obtain ⟨t',rfl⟩:=ry
    cases x with
    | non=>cases rx;exact SeqAt.EqAt.str_none a t'
    | bl b=>cases rx;exact SeqAt.EqAt.str_bool a t' b
    | int b=>obtain ⟨t,rfl⟩:=rx;exact SeqAt.EqAt.str_int a t' b t
    | str b=>obtain ⟨t,rfl⟩:=rx;exact SeqAt.EqAt.str_str a t' b t
    | _=>exact absurd (show false=true from fx) Bool.false_ne_true
  | _=>exact absurd (show false=true from fy) Bool.false_ne_true
def eqU (x:V) (u:Value):Bool:=match u with
  | .none=>eqV .non x
  | .bool b=>eqV (.bl b) x
  | .int i _=>eqV (.int i) x
  | .str z _=>eqV (.str z) x
  | _=>false
theorem eqU_of {x y:V} {u:Value} (r:RelV y u) (f:flatV y=true):eqU x u=eqV y x:=by
  cases y with
  | non=>cases r;rfl
  | bl b=>cases r;rfl
  | int i=>obtain ⟨t,rfl⟩:=r;rfl
  | str z=>obtain ⟨t,rfl⟩:=r;rfl
  | _=>exact absurd (show false=true from f) Bool.false_ne_true
theorem any_eqU {x:V}:∀{xs:List V} {us:List Value},Vals xs us→xs.all flatV=true→us.any (eqU x)=xs.any fun y=>eqV y x
  | _,_,.nil,_=>rfl
  | y::xs,u::us,.cons r t,f=>by
    rw [List.all_cons,Bool.and_eq_true] at f
    rw [List.any_cons,List.any_cons,eqU_of r f.1,any_eqU t f.2]
theorem mem_eqAt {A:Around} {s:Shared} {x:V} {v:Value} (rx:RelV x v) (fx:flatV x=true):∀{xs:List V} {us:List Value},Vals xs us→xs.all flatV=true→∀u∈us,SeqAt.EqAt A s u v (eqU x u)
  | _,_,.nil,_=>fun u hu=>by cases hu
  | y::xs,u::us,.cons r t,f=>fun u' hu=>by
    rw [List.all_cons,Bool.and_eq_true] at f
    rcases List.mem_cons.mp hu with rfl | hu
    ·rw [eqU_of r f.1];exact eqAt_V r rx f.1 fx
    ·exact mem_eqAt rx fx t f.2 u' hu
def inV (x:V) (xs:List V):Bool:=xs.any fun y=>eqV y x
def rIn (K:PySem.W.Frag) (neg:Bool):R2:=fun x y H Q=>∃p xs,y = .ref p∧(SqL K H p xs∨SqT K H p xs)∧flatV x=true∧xs.all flatV=true∧Q (.bl (if neg then !inV x xs else inV x xs)) H
theorem op_in_seq:OpR X (compareOp .In) (rIn X.K false):=by
  intro pins s σ H x y v u Q I rx ry h
  obtain ⟨p,xs,rfl,hq,fx,fs,q⟩:=h
  cases ry
  rcases hq with hq | hq
  · obtain ⟨its,r,pl,hz⟩:=I.list hq
    refine SeqAt.in_listAt (eqU x) pl.isList (fun w hw=>mem_eqAt rx fx r fs w (by simpa using hw)) ⟨.bl _,H,I,rfl,?_⟩
    rw [show its.toArray.any (eqU x)=its.any (eqU x) by simp,any_eqU r fs]
    exact q
  · obtain ⟨its,r,pl,hz⟩:=I.tuple hq
    refine SeqAt.in_tupleAt (eqU x) pl (fun w hw=>mem_eqAt rx fx r fs w (by simpa using hw)) ⟨.bl _,H,I,rfl,?_⟩
    rw [show its.toArray.any (eqU x)=its.any (eqU x) by simp,any_eqU r fs]
    exact q
theorem op_notIn_seq:OpR X (compareOp .NotIn) (rIn X.K true):=by
  intro pins s σ H x y v u Q I rx ry h
  obtain ⟨p,xs,rfl,hq,fx,fs,q⟩:=h
  cases ry
  rcases hq with hq | hq
  · obtain ⟨its,r,pl,hz⟩:=I.list hq
    refine SeqAt.notIn_listAt (eqU x) pl.isList (fun w hw=>mem_eqAt rx fx r fs w (by simpa using hw)) ⟨.bl _,H,I,rfl,?_⟩
    rw [show its.toArray.any (eqU x)=its.any (eqU x) by simp,any_eqU r fs]
    exact q
  · obtain ⟨its,r,pl,hz⟩:=I.tuple hq
    refine SeqAt.notIn_tupleAt (eqU x) pl (fun w hw=>mem_eqAt rx fx r fs w (by simpa using hw)) ⟨.bl _,H,I,rfl,?_⟩
    rw [show its.toArray.any (eqU x)=its.any (eqU x) by simp,any_eqU r fs]
    exact q
theorem op_notIn_str:OpR X (compareOp .NotIn) (fun x y H Q=>∃i j,x = .str i∧y = .str j∧Q (.bl (!(!(Builtin.Str.occurrences j i 0 j.length 1).isEmpty))) H):=by
  intro pins s σ H x y v u Q I rx ry h
  obtain ⟨i,j,rfl,rfl,q⟩:=h
  obtain ⟨t,rfl⟩:=rx
  obtain ⟨t',rfl⟩:=ry
  exact notIn_str ⟨.bl _,H,I,rfl,q⟩
theorem call_len_seq:CallR X (.builtin "len") (fun xs H Q=>∃p ys,xs=[.ref p]∧(SqL X.K H p ys∨SqT X.K H p ys)∧Q (.int ys.length) H):=by
  intro pins s σ H xs us Q I r h
  obtain ⟨p,ys,rfl,hq,q⟩:=h
  obtain ⟨u,rfl,rx⟩:=vals1 r
  cases rx
  have hn:=line63
  rcases hq with hq | hq
  · obtain ⟨its,r',pl,hz⟩:=I.list hq
    have hlen:=r'.length
    exact Calls.call_len_list pl.isList (by simp only [List.size_toArray] <;> omega) ⟨.int ys.length,H,I.tok _,⟨s.toks+1,by rw [List.size_toArray,hlen]⟩,q⟩
  · obtain ⟨its,r',pl,hz⟩:=I.tuple hq
    have hlen:=r'.length
    exact len_tuple pl (by simp only [List.size_toArray] <;> omega) ⟨.int ys.length,H,I.tok _,⟨s.toks+1,by rw [List.size_toArray,hlen]⟩,q⟩
theorem call_len_str:CallR X (.builtin "len") (fun xs H Q=>∃z,xs=[.str z]∧z.length≤sizeLine∧Q (.int z.length) H):=by
  intro pins s σ H xs us Q I r h
  obtain ⟨z,rfl,hz,q⟩:=h
  obtain ⟨u,rfl,t,rfl⟩:=vals1 r
  have hn:=line63
  exact len_str (by omega) ⟨.int z.length,H,I.tok _,⟨_,rfl⟩,q⟩
theorem call_list_of:CallR X (.type "list") (fun xs H Q=>∃p ys,xs=[.ref p]∧(SqL X.K H p ys∨SqT X.K H p ys)∧∀l,H l=none→Q (.ref l) (upd H l (.lst ys))):=by
  intro pins s σ H xs us Q I r h
  obtain ⟨p,ys,rfl,hq,q⟩:=h
  obtain ⟨u,rfl,rx⟩:=vals1 r
  cases rx
  have fin:∀(its:List Value),Vals ys its→ys.length≤sizeLine→∀(h':Heap) (c':Nat),(∀b o',s.heap.get? b=some o'→h'.get? b=some o')→
      h'.get? s.heap.objs.size=some {cls:=.type "list",dict:=none,data:=.seq its.toArray c',slots:=#[]}→EP X pins σ Q (.ref s.heap.objs.size) {s with heap:=h'}:=fun its r' hz h' c' kp e=>
    ⟨.ref s.heap.objs.size,_,I.laid (t':=s.toks) kp (Nat.le_refl _) (show ObjOk X.prog X.w _ h' _ (.lst ys) from ⟨hz,its,c',r',e⟩),rfl,q _ (I.hok.fresh (Nat.le_refl _))⟩
  rcases hq with hq | hq
  · obtain ⟨its,r',pl,hz⟩:=I.list hq
    have hlen:=r'.length
    obtain ⟨o,ho,hc,n,hd⟩:=pl.isList
    exact call_list_seq p (.inl rfl) ho hc hd (fun h' c' kp e=>fin its r' hz h' c' kp e) (by simp only [List.size_toArray] <;> omega)
  · obtain ⟨its,r',pl,hz⟩:=I.tuple hq
    have hlen:=r'.length
    obtain ⟨o,ho,hc,n,hd⟩:=pl
    exact call_list_seq p (.inr rfl) ho hc hd (fun h' c' kp e=>fin its r' hz h' c' kp e) (by simp only [List.size_toArray] <;> omega)
theorem call_tuple_of:CallR X (.type "tuple") (fun xs H Q=>∃p ys,xs=[.ref p]∧((SqL X.K H p ys∧∀l,H l=none→Q (.ref l) (upd H l (.tup ys)))∨(SqT X.K H p ys∧Q (.ref p) H))):=by
  intro pins s σ H xs us Q I r h
  obtain ⟨p,ys,rfl,h⟩:=h
  obtain ⟨u,rfl,rx⟩:=vals1 r
  cases rx
  rcases h with ⟨hq,q⟩ | ⟨hq,q⟩
  · obtain ⟨its,r',pl,hz⟩:=I.list hq
    have hlen:=r'.length
    refine call_tuple_list pl.isList (fun h' kp=>?_) (by simp only [List.size_toArray] <;> omega)
    have I1:Inv X pins σ H {s with heap:=h'}:=I.kept (t':=s.toks) kp
    have I2:Inv X pins σ (upd H h'.objs.size (.tup ys)) {s with heap:=h'.push {cls:=.type "tuple",data:=.seq its.toArray}}:=
      I1.laid (t':=s.toks) (fun b o e=>Heap.get?_push_of_some _ e) (Nat.le_refl _) (show ObjOk X.prog X.w _ _ _ (.tup ys) from ⟨hz,its,r',IsTup.new _ _⟩)
    exact ⟨.ref h'.objs.size,_,I2,rfl,q _ (I1.hok.fresh (Nat.le_refl _))⟩
  · obtain ⟨its,r',pl,hz⟩:=I.tuple hq
    exact call_tuple_same pl ⟨.ref p,H,I,rfl,q⟩
def tyV (K:PySem.W.Frag) (T:String) (x:V) (H:Hp):Prop:=match x with
  | .str _=>T = "str"
  | .int _=>T = "int"
  | .ref p=>(T = "list" ∧∃xs,SqL K H p xs)∨(T = "tuple" ∧∃o,K.lookup p=some o∧o.cls = .type "tuple" ∧o.dict=none)∨
      (T = "dict" ∧((∃kvs,H p=some (.dK kvs))∨∃kvs,H p=some (.dT kvs)))∨(T = "set" ∧∃S n,H p=some (.set S n))
  | _=>False
theorem tyV_is {pins:List (Addr×Obj)} {σ:St} {H:Hp} {s:Shared} {T:String} {x:V} {v:Value} (I:Inv X pins σ H s) (r:RelV x v) (ty:tyV X.K T x H) :
    s.TypeIs v T∧∀a,v = .ref a→∃ob,s.heap.get? a=some ob∧ob.dict=none:=by
  cases x with
  | str z=>
    obtain ⟨t,rfl⟩:=r
    cases (show T = "str" from ty)
    exact ⟨typeIs_str s z t,fun _ e=>nomatch e⟩
  | int i=>
    obtain ⟨t,rfl⟩:=r
    cases (show T = "int" from ty)
    exact ⟨typeIs_int s i t,fun _ e=>nomatch e⟩
  | ref p=>
    cases r
    rcases ty with ⟨rfl,xs,hq⟩ | ⟨rfl,o,hk,hc,hd⟩ | ⟨rfl,hk⟩ | ⟨rfl,S,n,hk⟩
    · obtain ⟨its,_,pl,_⟩:=I.list hq
      refine ⟨pl.isList.typeIs,fun a e=>?_⟩
      cases e
      obtain ⟨o,n,e,c,hd,_⟩:=pl
      exact ⟨o,e,hd⟩
    · refine ⟨⟨o,I.kIn p o hk,hc⟩,fun a e=>?_⟩
      cases e
      exact ⟨o,I.kIn _ o hk,hd⟩
    · have z:∃o,s.heap.get? p=some o∧o.ExactDict:=by
        rcases hk with ⟨kvs,hk⟩ | ⟨kvs,hk⟩
        · obtain ⟨_,_,_,_,o,_,_,e,ex,_⟩:=I.hok p _ hk
          exact ⟨o,e,ex⟩
        · obtain ⟨_,_,_,_,o,_,_,e,ex,_⟩:=I.hok p _ hk
          exact ⟨o,e,ex⟩
      obtain ⟨o,e,ex⟩:=z
      refine ⟨⟨o,e,ex.1⟩,fun a e2=>?_⟩
      cases e2
      exact ⟨o,e,ex.2.1⟩
    · obtain ⟨o,_,_,_,e,ex,_⟩:=I.hok p _ hk
      refine ⟨⟨o,e,ex.1⟩,fun a e2=>?_⟩
      cases e2
      exact ⟨o,e,ex.2.1⟩
  | _=>exact False.elim ty
def tBM (K:PySem.W.Frag) (T:String) (r:V→List V→Hp→VK→Prop) (to:TE) (t:TA):TE:=fun σ H Q=>to σ H fun x H1=>tyV K T x H1∧t σ H1 fun xs H2=>r x xs H2 Q
variable {o e:Expr} {es:List Expr} {to:TE} {t:TA} {name:Str} {apos cpos:Pos} {T id:String} {r:V→List V→Hp→VK→Prop}
theorem pe_bm (pa:PlainAttrs T) (slot:Slot T name id) (hty:typeOf (.builtin id)=pure (.type "method_descriptor")) (hm:MtR X id r) (ho:PE X o to) (ha:PA X (e::es) t)
    (hbase:attributeBase o name X.env (eval o X.env)=eval o X.env:=by rfl)
    (hfew:((backTo cpos (starEach (e::es) X.env)).all (fun x=>!x.1) && (backToKw cpos (keywordEach [] X.env)).all (fun x=>x.1.isSome)
      && decide ((e::es).length+([]:List Keyword).length+(if ([]:List Keyword).isEmpty then 0 else 1)<30))=true:=by rfl)
    (hline:(apos.endLine == cpos.line)=true:=by rfl) (hs:starEach (e::es) X.env=(false,eval e X.env)::starEach es X.env:=by rfl) (hplain:(backTo cpos (starEach es X.env)).any (·.1)=false:=by rfl) :
    PE X (.Call (.Attribute o name apos) (e::es) [] cpos) (tBM X.K T r to t):=by
  intro pins s σ H Q I h
  refine wpAny_Call_method_late hbase hfew hline rfl (thn (ho pins s σ H _ I h) fun v s1 zz=>?_)
  obtain ⟨x,H1,I1,r1,ty,q1⟩:=zz
  obtain ⟨h1,h2⟩:=tyV_is I1 r1 ty
  refine ⟨T,id,pa,slot,hty,h1,h2,?_⟩
  have hA:=ha cpos pins s1 σ H1 _ I1 q1
  rw [hs] at hA ⊢
  refine Calls.callWith_builtin (by show (false || (backTo cpos (starEach es X.env)).any (·.1))=false;rw [hplain] <;> rfl) (Calls.evalArgs_plain ?_)
  refine thn hA fun us s2 zz=>?_
  obtain ⟨vs,H2,I2,r2,q2⟩:=zz
  exact hm pins s2 σ H2 x vs v us Q I2 r1 r2 q2
end
def MtM (X:Cx) (id:String) (r:V→List V→Hp→VK→Prop):Prop:=
  ∀(pins:List (Addr×Obj)) (s:Shared) (σ:St) (H:Hp) (x:V) (xs:List V) (v:Value) (us:List Value) (Q:VK),Inv X pins σ H s→RelV x v→Vals xs us→r x xs H Q→
    wpAny (model X.prog X.w) X.A (call (.builtin id) (v::us)) (EP X pins σ Q) X.xe s
theorem Vals.one {x:V} {us:List Value} (h:Vals [x] us):∃u,us=[u]∧RelV x u:=vals1 h
theorem Vals.two {x y:V} {us:List Value} (h:Vals [x,y] us):∃u v,us=[u,v]∧RelV x u∧RelV y v:=vals2 h
theorem Vals.rep {xs:List V} {us:List Value} (h:Vals xs us):∀k:Nat,Vals (List.replicate k xs).flatten (List.replicate k us).flatten
  | 0=>.nil
  | k+1=>by
    rw [List.replicate_succ,List.replicate_succ,List.flatten_cons,List.flatten_cons]
    exact Vals.append h (Vals.rep h k)
theorem foldl_rep (its:List Value):∀(k:Nat) (acc:List Value),
    List.foldl (fun x1 x2=>x1++x2) acc.toArray (List.replicate k its.toArray)=(acc++(List.replicate k its).flatten).toArray
  | 0,acc=>by simp
  | k+1,acc=>by
    have e:acc.toArray++its.toArray=(acc++its).toArray:=by simp
    have e2:(acc++its)++(List.replicate k its).flatten=acc++(List.replicate (k+1) its).flatten:=by
      rw [List.replicate_succ,List.flatten_cons,List.append_assoc]
    rw [← e2,← foldl_rep its k (acc++its),← e,List.replicate_succ,List.foldl_cons]
section
variable {X:Cx} {pins:List (Addr×Obj)} {σ:St} {H:Hp} {s:Shared} {l b:Addr} {xs ys zs:List V}
theorem Inv.lset {its its':List Value} {n:Nat} {f:Array Value→Array Value} {t':Nat} (I:Inv X pins σ H s) (hH:H l=some (.lst xs))
    (e:s.heap.get? l=some {cls:=.type "list",data:=.seq its.toArray n}) (hf:f its.toArray=its'.toArray) (hv:Vals ys its') (hz:ys.length≤sizeLine) :
    Inv X pins σ (upd H l (.lst ys)) {s with heap:=s.heap.update l (Obj.mapSeq f),toks:=t'}:=by
  have q:=PySem.IsL.update e f
  rw [hf] at q
  refine I.write (x:=l) (e:=l) (by rw [hH];exact trivial) (.inl rfl) (fun b' u hb hu=>(Heap.get?_update_other s.heap (Obj.mapSeq f) (Ne.symm hb)).trans hu) ⟨_,q⟩ ?_
  exact ⟨hz,its',_,hv,q⟩
theorem Inv.lnew {its:List Value} {t':Nat} (I:Inv X pins σ H s) (hv:Vals ys its) (hz:ys.length≤sizeLine) :
    Inv X pins σ (upd H s.heap.objs.size (.lst ys)) {s with heap:=s.heap.push {cls:=.type "list",data:=.seq its.toArray},toks:=t'}:=
  I.laid (fun _ _ q=>Heap.get?_push_of_some _ q) (Nat.le_refl _) ⟨hz,its,0,hv,Heap.get?_push_size _ rfl⟩
theorem Inv.fresh (I:Inv X pins σ H s):H s.heap.objs.size=none:=I.hok.fresh (Nat.le_refl _)
theorem Inv.lstM (I:Inv X pins σ H s) (hH:H l=some (.lst xs)):xs.length≤sizeLine∧∃(its:List Value) (n:Nat),Vals xs its∧xs.length=its.length∧s.heap.get? l=some {cls:=.type "list",data:=.seq its.toArray n}:=by
  obtain ⟨z,its,n,r,e⟩:=I.hok l _ hH
  exact ⟨z,its,n,r,r.length,e⟩
theorem notLongL {n:Nat} (h:n≤sizeLine):Builtin.List.listTooLong n=false:=by
  unfold Builtin.List.listTooLong
  exact decide_eq_false (by omega)
end
section
variable {X:Cx}
def rAppend:V→List V→Hp→VK→Prop:=fun x vs H Q=>∃l xs y,x = .ref l∧vs=[y]∧H l=some (.lst xs)∧xs.length<sizeLine∧Q .non (upd H l (.lst (xs++[y])))
theorem mt_append:MtM X "list.append" rAppend:=by
  intro pins s σ H x vs v us Q I rx rv h
  obtain ⟨l,xs,y,rfl,rfl,hH,hz,q⟩:=h
  cases rx
  obtain ⟨u,rfl,ru⟩:=rv.one
  obtain ⟨z,its,n,r,hl,e⟩:=I.lstM hH
  refine call_meets F.slot_list_append ⟨_,e,rfl⟩ F.entry_list_append (F.args_list_append_2 _ _) (PySem.list_append l its.toArray n u (by rw [List.size_toArray];omega)) ⟨e,?_⟩
  refine ⟨.non,_,I.lset (its':=its++[u]) hH e (by simp) (r.append (.cons ru .nil)) ?_,rfl,q⟩
  rw [List.length_append,List.length_singleton]
  omega
def rCat:R2:=fun x y H Q=>∃l b xs zs,x = .ref l∧y = .ref b∧H l=some (.lst xs)∧H b=some (.lst zs)∧xs.length+zs.length≤sizeLine∧∀p,H p=none→Q (.ref p) (upd H p (.lst (xs++zs)))
theorem op_cat:OpR X (binaryOp .Add) rCat:=by
  intro pins s σ H x y v u Q I rx ry h
  obtain ⟨l,b,xs,zs,rfl,rfl,hH,hB,hz,q⟩:=h
  cases rx
  cases ry
  obtain ⟨z,its,n,r,hl,e⟩:=I.lstM hH
  obtain ⟨z2,its2,n2,r2,hl2,e2⟩:=I.lstM hB
  refine PySem.P.add_list e e2 ?_ (by rw [List.size_toArray,List.size_toArray];omega)
  have ea:its.toArray++its2.toArray=(its++its2).toArray:=by simp
  rw [ea]
  exact ⟨.ref _,_,I.lnew (t':=s.toks) (r.append r2) (by rw [List.length_append];omega),rfl,q _ I.fresh⟩
def rRep:R2:=fun x y H Q=>∃l k xs,x = .ref l∧y = .int k∧H l=some (.lst xs)∧-(2 ^ 63)≤k∧k<2 ^ 63∧xs.length * k.toNat≤sizeLine∧
  ∀p,H p=none→Q (.ref p) (upd H p (.lst (List.replicate k.toNat xs).flatten))
theorem len_rep {α:Type} (xs:List α) (k:Nat):(List.replicate k xs).flatten.length=k * xs.length:=by
  induction k with
  | zero=>simp
  | succ k ih=>rw [List.replicate_succ,List.flatten_cons,List.length_append,ih,Nat.succ_mul,Nat.add_comm]
theorem op_rep:OpR X (binaryOp .Mult) rRep:=by
  intro pins s σ H x y v u Q I rx ry h
  obtain ⟨l,k,xs,rfl,rfl,hH,h1,h2,hz,q⟩:=h
  cases rx
  obtain ⟨t,rfl⟩:=ry
  obtain ⟨z,its,n,r,hl,e⟩:=I.lstM hH
  have hlen:its.toArray.size * k.toNat≤sizeLine:=by rw [List.size_toArray,← hl];exact hz
  have hcap:¬its.toArray.size * k.toNat > (2 ^ 63 - 1) / 8:=by
    have:(sizeLine:Nat)≤(2 ^ 63 - 1) / 8:=by decide
    omega
  have hfit:¬(!Builtin.List.listFitsIndex k)=true:=by
    rw [fitsIndex_both h1 h2]
    exact Bool.false_ne_true
  have hlong:¬Builtin.List.listTooLong (its.toArray.size * k.toNat)=true:=by
    rw [notLongL hlen]
    exact Bool.false_ne_true
  have hnew:List.foldl (fun x1 x2=>x1++x2) #[] (List.replicate (if its.toArray.isEmpty=true then 0 else k.toNat) its.toArray)=(List.replicate k.toNat its).flatten.toArray:=by
    have f0:∀m:Nat,List.foldl (fun x1 x2=>x1++x2) #[] (List.replicate m its.toArray)=(List.replicate m its).flatten.toArray:=fun m=>by
      have:=foldl_rep its m []
      rw [List.nil_append] at this
      exact this
    rw [f0]
    cases its with
    | nil=>simp
    | cons a r'=>rw [if_neg (by simp)]
  refine wpAny_binaryOp_repeat_ref (T:= "list") (U:= "int") (by decide) ⟨_,e,rfl⟩ (fun s'=>typeIs_int s' k t) noFill_list_mul F.fills_int_mul F.slot_int_rmul repeat_list F.slot_int_index.lookup
    (call_meets F.slot_int_rmul (typeIs_int s k t) F.entry_int_rmul (F.args_int_rmul_2 _ _) (int___rmul___int_list k t l its.toArray n)
      ⟨e,rfl,⟨_,e,rfl⟩,call_meets F.slot_list_mul ⟨_,e,rfl⟩ F.entry_list_mul (F.args_list_mul_2 _ _) (AutoListH.list___mul___list_int_3 l its.toArray n k t hfit hcap hlong) ⟨e,?_⟩⟩)
  rw [hnew]
  exact ⟨.ref _,_,I.lnew (t':=s.toks) (r.rep k.toNat) (by rw [len_rep,Nat.mul_comm];exact hz),rfl,q _ I.fresh⟩
end
end L2
namespace Att
open PySem PySem.W PySem.Calls PyProof.Rows
theorem ints_of_wellAll {P:Params} {h:Heap}:∀(ns:List Int) (vs:List Value),WellAll P h vs (ns.map WData.int)→IntsAre vs ns:=by
  intro ns
  induction ns with
  | nil=>
    intro vs w
    rw [List.map_nil] at w
    cases w
    exact .nil
  | cons n ns ih=>
    intro vs w
    rw [List.map_cons] at w
    cases w with
    | cons a b=>
      cases a
      exact .cons _ _ (ih _ b)
theorem script_of {l:OpenLaw} {n:Nat} (hn:l.most=some n) {P:Params} {h:Heap} {args:List WData} {vals:List Value}
    (hpre:l.row.toRowW.claim.pre args=true) (hwl:WellAll P h vals args) :
    ∃a vs ns,vals=[Value.ref a]∧args=[WData.list (ns.map WData.int)]∧h.get? a=some {cls:=.type "list",data:=.seq vs.toArray}∧IntsAre vs ns∧ns.length≤n:=by
  have hsh:WShape.hasAll [] args [.list .int]=true:=(pre_splitW hpre).1
  have hc:l.pre.holds [] {args:=args}=true:=(pre_splitW hpre).2
  obtain ⟨d,r,rfl,h1,h2⟩:=hasAllW_cons hsh
  obtain rfl:=hasAllW_nil h2
  obtain ⟨xs,rfl,h3⟩:=hasW_list h1
  obtain ⟨ns,rfl⟩:=items_int h3
  have hlen:ns.length≤n:=by
    unfold OpenLaw.pre at hc
    have h4:(WTm.not (.lt (.lit (.int (n:Int))) (.len (.arg 0)))).holds [] {args:=[.list (ns.map .int)]}=true:=by
      have h4:=(holds_andW hc).1
      rw [hn] at h4
      exact h4
    have h5:=condW_of h4 (w_not (w_lt w_lit (w_len_list (w_arg rfl))))
    rw [List.length_map] at h5
    refine Nat.le_of_not_lt fun q=>?_
    have q':(n:Int)<((ns.length:Nat):Int):=by omega
    first
      | (rw [decide_eq_true q'] at h5;exact absurd h5 (by decide))
      | (simp at h5;omega)
  cases hwl with
  | cons w1 w2=>
    cases w2
    cases w1 with
    | list ho hall=>exact ⟨_,_,ns,rfl,rfl,ho,ints_of_wellAll ns _ hall,hlen⟩
theorem post_true (l:OpenLaw) (args:List WData):l.row.toRowW.claim.post args (.bool true) args=true:=
  postW_of (r:=l.row.toRowW) (X:=(true == true))
    (show WShape.has [] (.bool true) .bool=true by first | rfl | decide | simp [WShape.has,WShape.arms,WShape.armsAll])
    (show (WTm.eq .res (.lit (.bool true))).value [] {args:=args,res:=some (.bool true),after:=args}=some (.bool (true == true)) from w_eq_bool (w_res rfl) w_lit) rfl
theorem attach_call {l:OpenLaw} {n:Nat} {q:Program} {loose:List Str} {XP:(Str→Option Value)→Heap→Prop} {YP:World→Heap→Prop} {d:DefRec}
    (hn:l.most=some n) (hdf:d.params.defaults=[])
    (call:∀(w:World) (s₀ s₁:Shared) (mg mb:Str→Option Value) (fa:Addr) (o:Obj) (pm cd doc:Value) (a:Addr) (vs:List Value) (ns:List Int),
      Ground q loose [] XP w s₀ mg mb s₁.heap→YP w s₁.heap→
      s₁.heap.get? fa=some o→o.data = .func (docDef d.name d.params d.body d.scope pm cd doc)→s₁.heap.CodeRec cd d.name→mg d.name=some (.ref fa)→
      s₁.heap.get? a=some {cls:=.type "list",data:=.seq vs.toArray}→IntsAre vs ns→ns.length≤n→s₁.gens = #[]→
      codeAny (model l.prog w) callerA (.call (.ref fa) ⟨[.ref a],[]⟩) (fun r s'=>r = .ok (.ret (.bool true))∧OldK s₁.heap s'.heap∧s'.os=s₁.os∧AllBare s'.gens) s₁) :
    WalkO q loose XP YP l.row.toRowW d [] (fun f vs=>PySem.call f vs):=by
  intro w s₀ s₁ mg mb G Y fa o pm cd doc dV kV ho hd hcd hD hmg hg args vals as hpre hlay hrd hwl hlo
  obtain rfl:dV = .none:=Dflts.none hD hdf
  obtain rfl:kV = .none:=Dflts.noKw hD
  obtain ⟨a,vs,ns,rfl,rfl,hobj,hints,hlen⟩:=script_of hn hpre hwl
  refine enter_call (codeAny_mono (call w s₀ s₁ mg mb fa o pm cd doc a vs ns G Y ho (fd_plain hd) hcd hmg hobj hints hlen hg) fun r s' hq=>?_)
  obtain ⟨rfl,h2,h3,h4⟩:=hq
  exact ⟨.inl ⟨.bool true,.bool true,[],rfl,fun _=>rfl,.bool true,post_true l _,fun _=>⟨List.Pairwise.nil,fun _ hm=>(nomatch hm)⟩⟩,h2,h3,h4⟩
end Att
namespace L2
open PySem PySem.Spec PyProof.Rows
theorem vals_ints:∀{vs:List Value} {ns:List Int},IntsAre vs ns→Vals (ns.map V.int) vs
  | _,_,.nil=>.nil
  | _,_,.cons n t h=>.cons ⟨t,rfl⟩ (vals_ints h)
def Only (H:Hp):Prop:=∀b,H b=none∨∃o xs,H b=some (.frz o (.lst xs))
theorem law_call {P:Program} {w:World} {K:PySem.W.Frag} {mg mb:Str→Option Value} {CX:CXT} {k:Nat} {fa a:Addr} {fd:FuncData} {x:Str} {sp:Sp} {s₁:Shared} {vs:List Value} {ns:List Int}
    (KX:K.In s₁.heap) (hns:s₁.heap.Ns mainGlobals mg) (hb:s₁.heap.Ns builtinsNs mb) (hbb:∀x:Str,x≠ "__name__" →mb x=bootBuiltins x) (hlim:s₁.heap.NoLimit) (hg:s₁.gens = #[])
    (ha:s₁.heap.get? a=some {cls:=.type "list",data:=.seq vs.toArray}) (hi:IntsAre vs ns) (hl:ns.length≤sizeLine) (hr:Room k callerA)
    (F:∀base:Heap,K.In base→base.Ns mainGlobals mg→FnOk P w K mg base CX k fa fd [x] sp) (hbind:∀(s:Shared) (u:Value),BindsTo s fd ⟨[u],[]⟩ [(x,u)])
    (hsp:∀H:Hp,Only H→SqL K H a (ns.map V.int)→sp [.ref a] H (fun v _=>v = .bl true) fun _ _ _=>False)
    (hCX:∀H e s',CX [] H s₁ (fun _ _ _=>False) e s'→False) :
    codeAny (model P w) callerA (.call (.ref fa) ⟨[.ref a],[]⟩) (fun r s'=>r = .ok (.ret (.bool true))∧OldK s₁.heap s'.heap∧s'.os=s₁.os∧AllBare s'.gens) s₁:=by
  have rv:=vals_ints hi
  have lenV:=hi.length
  have core:∀H:Hp,Only H→SqL K H a (ns.map V.int)→HOk P w H s₁.heap→(∀b,H b≠none→b=a)→(H a≠none→K.lookup a=none)→
      codeAny (model P w) callerA (.call (.ref fa) ⟨[.ref a],[]⟩) (fun r s'=>r = .ok (.ret (.bool true))∧OldK s₁.heap s'.heap∧s'.os=s₁.os∧AllBare s'.gens) s₁:=by
    intro H hO hS hok hA hK
    have base_of:∀{b:Addr} {o:Obj},s₁.heap.get? b=some o→H b=none→(hidT s₁.heap H).get? b=some o:=fun e n=>hidT_get e n
    have noA:∀{b:Addr} {o:Obj} {es:Array DictEntry} {ep:Nat},s₁.heap.get? b=some o→o.data = .dict es ep→H b=none:=fun {b o es ep} e d=>by
      cases q:H b with
      | none=>rfl
      | some u=>
        have e':b=a:=hA b (by rw [q];simp)
        subst e'
        rw [ha] at e;cases e
        have d':Data.seq vs.toArray _=Data.dict es ep:=d
        cases d'
    have nsK:∀{b:Addr} {m:Str→Option Value},s₁.heap.Ns b m→(hidT s₁.heap H).Ns b m:=fun {b m} ⟨o,es,ep,e,d,r⟩=>⟨o,es,ep,base_of e (noA e d),d,r⟩
    have hKb:K.In (hidT s₁.heap H):=fun b o e=>base_of (KX b o e) (by
      cases q:H b with
      | none=>rfl
      | some u=>
        have e':b=a:=hA b (by rw [q];simp)
        subst e'
        rw [hK (by rw [q];simp)] at e;cases e)
    have hM:Mod K mg (hidT s₁.heap H):=⟨hKb,nsK hns,⟨mb,nsK hb,hbb⟩,let ⟨mc,h1,h2⟩:=hlim;⟨mc,nsK h1,h2⟩⟩
    have e0:Env0 P w K mg (hidT s₁.heap H) callerA [] s₁ H:=⟨rfl,hM,fun b o e=>of_hidT e,Nat.le_of_eq (hidT_size _ _),trivial,fun b hb=>absurd (show b∈([]:List Addr) from hb) (by simp),hok,.of_eq hg⟩
    refine codeAny_mono ((F _ hKb (nsK hns)).run callerA [] s₁ H ⟨[.ref a],[]⟩ [.ref a] [.ref a] _ _ hr e0 (hbind s₁ (.ref a)) (.cons rfl .nil) (hsp H hO hS)) fun r s' h=>?_
    cases r with
    | error e=>exact (hCX H e s' h).elim
    | ok fl=>
      cases fl with
      | next=>exact False.elim h
      | brk=>exact False.elim h
      | cont=>exact False.elim h
      | ret u=>
        obtain ⟨v,H',os,bare,un,hok',r',q⟩:=h
        have q':v = .bl true:=q
        subst q'
        obtain rfl:u=Value.bool true:=r'
        refine ⟨rfl,OldK.of_keep fun b o e=>?_,os,bare⟩
        cases q:H b with
        | none=>exact un.keep b o e q (by intro z;exact absurd (show b∈([]:List Addr) from z) (by simp)) (by simp)
        | some u=>
          rcases hO b with z | ⟨ob,xs,z⟩
          ·rw [q] at z;cases z
          · have z2:=un.frzs b ob _ z
            obtain ⟨e1,_⟩:=hok b _ z
            obtain ⟨e2,_⟩:=hok' b _ z2
            rw [e] at e1;cases e1
            exact e2
  cases hk:K.lookup a with
  | some o=>
    have e:=KX a o hk
    rw [ha] at e
    cases e
    refine core (fun _=>none) (fun _=>.inl rfl) (.inr ⟨_,vs.toArray,_,hk,rfl,rfl,rfl,by rw [List.size_toArray,lenV];exact hl,by simpa using rv⟩) (fun b u z=>by have z':(none:Option HO)=some u:=z;cases z') (fun b z=>absurd rfl z) fun z=>absurd rfl z
  | none=>
    refine core (fun b=>if b=a then some (.frz {cls:=.type "list",data:=.seq vs.toArray} (.lst (ns.map V.int))) else none) (fun b=>?_) (.inl (.inr ⟨{cls:=.type "list",data:=.seq vs.toArray},if_pos rfl⟩)) (fun b u z=>?_) (fun b z=>?_) fun _=>hk
    · by_cases hb:b=a
      ·exact .inr ⟨_,_,if_pos hb⟩
      ·exact .inl (if_neg hb)
    · by_cases hb:b=a
      · have z':=(if_pos hb).symm.trans z
        cases z'
        subst hb
        exact ⟨ha,by rw [List.length_map];exact hl,vs,_,rv,ha⟩
      · have z':=(if_neg hb).symm.trans z
        cases z'
    · by_cases hb:b=a
      ·exact hb
      ·exact absurd (if_neg hb) z
theorem walk_of {l:PySem.W.OpenLaw} {n k:Nat} {q:Program} {loose:List Str} {XP:(Str→Option Value)→Heap→Prop} {YP:World→Heap→Prop} {d:DefRec} {K:Params→PySem.W.Frag} {CX:World→CXT} {sp:World→Sp} {x:Str}
    (hn:l.most=some n) (hn2:n≤sizeLine) (hdf:d.params.defaults=[]) (hr:Room k callerA)
    (hY:∀(w:World) (h:Heap),YP w h→(K w.params).In h)
    (F:∀(w:World) (mg:Str→Option Value) (fa:Addr) (h:Heap),(K w.params).In h→h.Ns mainGlobals mg→mg d.name=some (.ref fa)→
      ∃fd:FuncData,(∀(s:Shared) (u:Value),BindsTo s fd ⟨[u],[]⟩ [(x,u)])∧
        ∀base:Heap,(K w.params).In base→base.Ns mainGlobals mg→FnOk l.prog w (K w.params) mg base (CX w) k fa fd [x] (sp w))
    (hsp:∀(w:World) (H:Hp) (a:Addr) (ns:List Int),ns.length≤n→Only H→SqL (K w.params) H a (ns.map V.int)→sp w [.ref a] H (fun v _=>v = .bl true) fun _ _ _=>False)
    (hCX:∀(w:World) (H:Hp) (s:Shared) (e:Value) (s':Shared),CX w [] H s (fun _ _ _=>False) e s'→False) :
    PySem.W.WalkO q loose XP YP l.row.toRowW d [] (fun f vs=>PySem.call f vs):=by
  refine Att.attach_call hn hdf fun w s₀ s₁ mg mb fa o pm cd doc a vs ns G Y ho hd hcd hmg hobj hints hlen hg=>?_
  have KX:=hY w _ Y
  obtain ⟨fd,hb,hF⟩:=F w mg fa _ KX G.T.g hmg
  exact law_call KX G.T.g G.T.b G.T.builtins G.T.nolimit hg hobj hints (Nat.le_trans hlen hn2) hr hF hb (fun H hO hS=>hsp w H a ns hlen hO hS) fun H e s'=>hCX w H s₁ e s'
def inClass (s:Stmt) (j:Nat):Stmt:=match s with
  | .ClassDef _ _ _ body _ _ _ _ _ _ _=>body.getD j (.Pass ⟨0,0,0,0⟩)
  | _=>.Pass ⟨0,0,0,0⟩
def defArgs (s:Stmt):Arguments:=match s with
  | .FunctionDef _ a _ _ _ _ _ _ _ _=>a
  | _=>{posonlyargs:=[],args:=[],vararg:=none,kwonlyargs:=[],kw_defaults:=[],kwarg:=none,defaults:=[]}
def defBody (s:Stmt):List Stmt:=match s with
  | .FunctionDef _ _ b _ _ _ _ _ _ _=>b
  | _=>[]
def defScope (s:Stmt):Scope:=match s with
  | .FunctionDef _ _ _ _ _ _ sc _ _ _=>sc
  | _=>{kind:=.function,names:=[],isGenerator:=false,isCoroutine:=false}
abbrev CX0:CXT:=fun _ _ _ _ _ _=>False
abbrev E0:XK:=fun _ _ _=>False
theorem pass0 {X:Cx}:Passes CX0 X E0:=fun _ _ _ _ _ _ _ h=>h.elim
structure Fun (K:PySem.W.Frag) (x qual:Str) (st:Stmt) (f:Addr) (fd:FuncData):Prop where
  ex:∃(oc:Value) (od:Option Addr) (kV doc pm:Value) (an:Option Addr) (cdv ct:Value) (osl:Array (Option Value)),
    fd=PySem.W.fnOf x qual (defArgs st) (defBody st) (defScope st) .none kV doc pm an cdv ct∧K.lookup f=some ⟨oc,od,.func fd,osl⟩∧PySem.W.codeIn K cdv qual=true
  kp:PySem.W.keepIn K (.ref f)=true
section
variable {P:Program} {w:World} {K:PySem.W.Frag} {mg:Str→Option Value} {base:Heap}
theorem Fun.ok {x qual:Str} {st:Stmt} {f:Addr} {fd:FuncData} {N ps:List Str} {k:Nat} {sp:Sp} (F:Fun K x qual st f fd) (S:FnScope N ps (defScope st)) (len:∀vs H Q E,sp vs H Q E→vs.length=ps.length)
    (hbody:∀(cdv:Value) (A:Around) (outer:List Env) (s:Shared) (H:Hp) (vs:List V) (Q:VK) (E:XK),Room k (A.deeper (envOfC qual (defScope st) s.heap.objs.size f cdv))→sp vs H Q E→
      ∃t,PSs (cxOf CX0 P w K mg base N qual (defScope st) f cdv A outer s H E).nox (defBody st) t∧t {nx:=fun _ H'=>Q .non H',rt:=Q} (start N vs) H):FnOk P w K mg base CX0 (k+1) f fd ps sp:=by
  obtain ⟨oc,od,kV,doc,pm,an,cdv,ct,osl,rfl,lk,hcd⟩:=F.ex
  refine fn_of lk hcd S len fun A outer s H vs Q E hr hsp=>?_
  obtain ⟨t,h,q⟩:=hbody cdv A outer s H vs Q E hr hsp
  exact ⟨t,h.nox,q⟩
theorem Fun.binds {x qual:Str} {st:Stmt} {f:Addr} {fd:FuncData} {ps:List Str} (F:Fun K x qual st f fd)
    (h:∀(kV doc pm:Value) (an:Option Addr) (cdv ct:Value) (us:List Value),us.length=ps.length→bindArgs (PySem.W.fnOf x qual (defArgs st) (defBody st) (defScope st) .none kV doc pm an cdv ct) ⟨us,[]⟩=pure (ps.zip us)):Binds K fd ps []:=by
  obtain ⟨oc,od,kV,doc,pm,an,cdv,ct,osl,rfl,lk,hcd⟩:=F.ex
  exact .all (h kV doc pm an cdv ct)
theorem fun_mk {x qual:Str} {st:Stmt} {f:Addr} {oc:Value} {od an:Option Addr} {osl:Array (Option Value)} {kV doc pm cdv ct:Value} (l:K.lookup f=some ⟨oc,od,.func (PySem.W.fnOf x qual (defArgs st) (defBody st) (defScope st) .none kV doc pm an cdv ct),osl⟩)
    (c:PySem.W.codeIn K cdv qual=true) (k:PySem.W.keepIn K (.ref f)=true):Fun K x qual st f (PySem.W.fnOf x qual (defArgs st) (defBody st) (defScope st) .none kV doc pm an cdv ct):=⟨⟨oc,od,kV,doc,pm,an,cdv,ct,osl,rfl,l,c⟩,k⟩
end
theorem hu_of {A:Around} {k:Nat} (hr:Room k A):A.units+1<cLine:=Nat.lt_of_le_of_lt (Nat.add_le_add_left (by decide:1≤64) _) hr.units
def Same (H H':Hp):Prop:=∀b o,H b=some o→H' b=some o
theorem Same.refl (H:Hp):Same H H:=fun _ _ h=>h
theorem Same.trans {H H1 H2:Hp} (a:Same H H1) (b:Same H1 H2):Same H H2:=fun c o h=>b c o (a c o h)
theorem Same.seq {K:PySem.W.Frag} {H H':Hp} {a:Addr} {xs:List V} (e:Same H H') (h:SqL K H a xs):SqL K H' a xs:=by
  rcases h with (h | ⟨o,h⟩) | h
  ·exact .inl (.inl (e _ _ h))
  ·exact .inl (.inr ⟨o,e _ _ h⟩)
  ·exact .inr h
def clStep (env:Env) (cs:List (Str×Addr)) (p:Str×NameKind):List (Str×Addr):=if p.2 == .free then (p.1,(env.cells.lookup p.1).getD 0)::cs else cs
def clOf (env:Env) (names:List (Str×NameKind)):List (Str×Addr):=names.foldl (clStep env) []
theorem forIn_foldl {α β:Type} (f:α→β→Sem (ForInStep β)) (g:β→α→β):∀(l:List α) (b:β),(∀x∈l,∀b,f x b=pure (.yield (g b x)))→forIn l b f=pure (l.foldl g b)
  | [],_,_=>rfl
  | x::l,b,h=>by
    rw [List.forIn_cons,h x List.mem_cons_self,pure_bind]
    exact forIn_foldl f g l (g b x) fun y hy=>h y (List.mem_cons_of_mem _ hy)
theorem closureFor_clOf {sc:Scope} {env:Env} (h:∀x,(x,NameKind.free)∈sc.names→∃c,env.cells.lookup x=some c):closureFor sc env=pure (clOf env sc.names):=by
  simp only [closureFor]
  rw [forIn_foldl _ (clStep env) sc.names [] (fun p hp cs=>by
    obtain ⟨n,k⟩:=p
    cases k with
    | free=>
      obtain ⟨c,hc⟩:=h n hp
      simp only [clStep,cellOf,hc,beq_self_eq_true,if_true,Option.getD_some,pure_bind]
    | _=>simp only [clStep];rfl)]
  rfl
theorem clOf_mem {env:Env}:∀(names:List (Str×NameKind)) (acc:List (Str×Addr)) (x:Str) (c:Addr),(∀x,(x,NameKind.free)∈names→∃c,env.cells.lookup x=some c)→(∀x c,(x,c)∈acc→env.cells.lookup x=some c)→
    (x,c)∈names.foldl (clStep env) acc→env.cells.lookup x=some c
  | [],_,x,c,_,h,m=>h x c m
  | (n,k)::r,acc,x,c,hf,h,m=>by
    refine clOf_mem r (clStep env acc (n,k)) x c (fun y hy=>hf y (List.mem_cons_of_mem _ hy)) (fun y d hy=>?_) m
    unfold clStep at hy
    split at hy
    · rename_i hk
      have hk':k = .free:=by simpa using hk
      subst hk'
      obtain ⟨e,he⟩:=hf n List.mem_cons_self
      rcases List.mem_cons.mp hy with z | z
      · cases z
        show env.cells.lookup n=some _
        rw [he];rfl
      ·exact h y d z
    ·exact h y d hy
theorem clOf_some {env:Env} {x:Str}:∀(names:List (Str×NameKind)) (acc:List (Str×Addr)),((x,NameKind.free)∈names∨(acc.lookup x).isSome=true)→((names.foldl (clStep env) acc).lookup x).isSome=true
  | [],_,h=>h.elim (fun z=>nomatch z) id
  | (n,k)::r,acc,h=>by
    refine clOf_some r (clStep env acc (n,k)) ?_
    by_cases hm:(x,NameKind.free)∈r
    ·exact .inl hm
    · refine .inr ?_
      unfold clStep
      rcases h with h | h
      · rcases List.mem_cons.mp h with z | z
        · cases z
          simp [List.lookup_cons]
        ·exact absurd z hm
      · split
        · simp only [List.lookup_cons]
          cases x == n <;> simp [h]
        ·exact h
def cellsC (env:Env) (sc:Scope) (C:Addr):List (Str×Addr):=cellsFrom (C+1) sc.names (clOf env sc.names)
theorem cellsFrom_mem {x:Str}:∀(names:List (Str×NameKind)) (n:Nat) (acc:List (Str×Addr)),(x,NameKind.cell)∈names∨(acc.lookup x).isSome=true→((cellsFrom n names acc).lookup x).isSome=true
  | [],_,_,h=>h.elim (fun z=>nomatch z) id
  | (y,k)::r,n,acc,h=>by
    unfold cellsFrom
    split
    · refine cellsFrom_mem r (n+1) ((y,n)::acc) ?_
      by_cases hm:(x,NameKind.cell)∈r
      ·exact .inl hm
      · refine .inr ?_
        rcases h with h | h
        · rcases List.mem_cons.mp h with z | z
          · cases z
            simp [List.lookup_cons]
          ·exact absurd z hm
        · simp only [List.lookup_cons]
          cases x == y <;> simp [h]
    · rename_i hk
      refine cellsFrom_mem r n acc ?_
      rcases h with h | h
      · rcases List.mem_cons.mp h with z | z
        ·cases z;exact absurd rfl hk
        ·exact .inl z
      ·exact .inr h
theorem cf_mem:∀(names:List (Str×NameKind)) (h:Heap) (acc:List (Str×Addr)) (x:Str) (c:Addr),(x,c)∈cellsFrom h.objs.size names acc→(x,c)∈acc∨(h.objs.size≤c∧(pushCells h names).IsCell c none)
  | [],_,_,_,_,m=>.inl m
  | (n,k)::r,h,acc,x,c,m=>by
    unfold cellsFrom at m
    unfold pushCells
    split at m
    · rename_i hk
      rw [if_pos hk]
      have m':(x,c)∈cellsFrom (h.push {cls:=.type "cell",data:=.cell none}).objs.size r ((n,h.objs.size)::acc):=by rw [Heap.size_push];exact m
      rcases cf_mem r (h.push {cls:=.type "cell",data:=.cell none}) _ x c m' with z | ⟨z1,z2⟩
      · rcases List.mem_cons.mp z with e | e
        · cases e
          exact .inr ⟨Nat.le_refl _,⟨_,pushCells_keeps _ _ _ _ (Heap.get?_push_size _ rfl),rfl⟩⟩
        ·exact .inl e
      · rw [Heap.size_push] at z1
        exact .inr ⟨by omega,z2⟩
    · rename_i hk
      rw [if_neg hk]
      exact cf_mem r h acc x c m
theorem cf_own {n0:Nat} {x:Str}:∀(names:List (Str×NameKind)) (n:Nat) (acc:List (Str×Addr)) (c:Addr),((x,NameKind.cell)∈names∨∀d,acc.lookup x=some d→n0≤d)→n0≤n→(cellsFrom n names acc).lookup x=some c→n0≤c
  | [],_,_,c,h,_,e=>h.elim (fun z=>nomatch z) fun z=>z c e
  | (y,k)::r,n,acc,c,h,hn,e=>by
    unfold cellsFrom at e
    split at e
    · refine cf_own r (n+1) ((y,n)::acc) c ?_ (by omega) e
      by_cases hm:(x,NameKind.cell)∈r
      ·exact .inl hm
      · refine .inr fun d hd=>?_
        by_cases hxy:x=y
        · subst hxy
          have hnd:n=d:=by simpa [List.lookup_cons] using hd
          rw [← hnd]
          exact hn
        · have hb:(x == y)=false:=by simpa using hxy
          simp only [List.lookup_cons,hb] at hd
          rcases h with h | h
          · rcases List.mem_cons.mp h with z | z
            ·cases z;exact absurd rfl hxy
            ·exact absurd z hm
          ·exact h d hd
    · rename_i hk
      refine cf_own r n acc c ?_ hn e
      rcases h with h | h
      · rcases List.mem_cons.mp h with z | z
        ·cases z;exact absurd rfl hk
        ·exact .inl z
      ·exact .inr h
theorem cf_inj:∀(names:List (Str×NameKind)) (n:Nat) (acc:List (Str×Addr)),(∀y d,(y,d)∈acc→d<n)→(∀y z d,(y,d)∈acc→(z,d)∈acc→y=z)→
    ∀y z d,(y,d)∈cellsFrom n names acc→(z,d)∈cellsFrom n names acc→y=z
  | [],_,_,_,h=>h
  | (x,k)::r,n,acc,hl,h=>by
    unfold cellsFrom
    split
    · refine cf_inj r (n+1) ((x,n)::acc) (fun y d hm=>?_) fun y z d h1 h2=>?_
      · rcases List.mem_cons.mp hm with e | e
        ·cases e;exact Nat.lt_succ_self _
        ·exact Nat.lt_succ_of_lt (hl y d e)
      · rcases List.mem_cons.mp h1 with e1 | e1 <;> rcases List.mem_cons.mp h2 with e2 | e2
        ·cases e1;cases e2;rfl
        ·cases e1;exact absurd (hl z n e2) (Nat.lt_irrefl _)
        ·cases e2;exact absurd (hl y n e1) (Nat.lt_irrefl _)
        ·exact h y z d e1 e2
    ·exact cf_inj r n acc hl h
abbrev NoE:Value→Shared→Prop:=fun _ _=>False
theorem compLoop_go {prog:Program} {w:World} {A:Around} {R:Result→Shared→Prop} {s:Shared} {elt target iter:Expr} {ifs:List Expr} {scope:Scope} {pos:Pos} {it acc:Value} {env:Env} (I:Nat→Shared→Prop)
    (turn:∀n s,I n s→wpAny (model prog w) A (pyNext it) (fun r s₁=>match r with
      | none=>R (.ok .next) s₁
      | some v=>wpAny (model prog w) A (letOwnedTupleGo target it v) (fun _ s₂=>wpAny (model prog w) A (assign target env v) (fun _ s₃=>
          wpAny (model prog w) A (forIn ifs true fun c r=>if r=true then do let ok ← isTrue c env (eval c env);pure (ForInStep.yield ok) else pure (ForInStep.yield r)) (fun ok s₄=>
            if ok=true then wpAny (model prog w) A (eval elt env) (fun x s₅=>
              wpAny (model prog w) A (call (.builtin "list.append") [acc,x]) (fun _ s₆=>∃m,m<n∧I m s₆) NoE s₅) NoE s₄
            else ∃m,m<n∧I m s₄) NoE s₃) NoE s₂) NoE s₁) NoE s)
    (n:Nat) (h:I n s):codeAny (model prog w) A (.compLoop (.ListComp elt [⟨target,iter,ifs,0⟩] scope pos) 0 it acc env) R s:=by
  refine codeAny_loop rfl I (fun n s hI=>?_) n h
  show wpAny _ A ((compTurn (.ListComp elt [⟨target,iter,ifs,0⟩] scope pos) 0 it acc env).onRaise (fun x=>do noteFrame x env;theTreesLotGoes x)) _ _ s
  refine wpAny_noted ?_
  rw [compTurn_list]
  refine wpAny_bind (wpAny_standAt (wpAny_bind (wpAny_mono (turn n s hI) (fun r s₁ h₁=>?_) fun _ _ h'=>h'.elim)))
  cases r with
  | none=>exact wpAny_pure h₁
  | some v=>
    refine wpAny_bind (wpAny_mono h₁ (fun _ s₂ h₂=>?_) fun _ _ h'=>h'.elim)
    refine wpAny_bind (wpAny_mono h₂ (fun _ s₃ h₃=>wpAny_bind (wpAny_mono h₃ (fun ok s₄ h₄=>?_) fun _ _ h'=>h'.elim)) fun _ _ h'=>h'.elim)
    cases ok with
    | false=>exact wpAny_pure ⟨rfl,h₄⟩
    | true=>
      exact wpAny_bind (wpAny_bind (wpAny_mono h₄ (fun x s₅ h₅=>wpAny_bind (wpAny_mono h₅ (fun _ s₆ h₆=>wpAny_pure (wpAny_pure ⟨rfl,h₆⟩)) fun _ _ h'=>h'.elim)) fun _ _ h'=>h'.elim))
def cxComp (X:Cx) (sc:Scope) (N:List Str) (C:Addr) (s:Shared) (H:Hp) (fp:List Addr) (pn:List (Addr×Obj)):Cx:=
  {X with env:=compEnvC sc (cellsC X.env sc C) C X.env,N:=N,s₀:=s,H₀:=H,outer:=X.stack,ex:=fp,fn:=fun x=>sc.names.any fun p=>p.1 == x && p.2 == .cell,pn:=pn,xe:=NoE}
theorem relabel_lookup {sc:Scope} {env:Env} (x:Str):(relabel sc env).names.lookup x=(sc.names.lookup x).map fun k=>if (k == NameKind.free && env.scope.kind == .function && env.kindOf x == some .cell)=true then NameKind.cell else k:=by
  unfold relabel
  show List.lookup x (sc.names.map _)=_
  induction sc.names with
  | nil=>rfl
  | cons p r ih=>
    obtain ⟨n,k⟩:=p
    rw [List.map_cons]
    have e1:(if (k == NameKind.free && env.scope.kind == .function && env.kindOf n == some .cell)=true then (n,NameKind.cell) else (n,k))=(n,if (k == NameKind.free && env.scope.kind == .function && env.kindOf n == some .cell)=true then NameKind.cell else k):=by split <;> rfl
    show List.lookup x ((if (k == NameKind.free && env.scope.kind == .function && env.kindOf n == some .cell)=true then (n,NameKind.cell) else (n,k))::_)=_
    rw [e1]
    by_cases hx:x=n
    · subst hx
      simp only [List.lookup_cons,beq_self_eq_true,Option.map_some]
    · have hb:(x == n)=false:=by simpa using hx
      simp only [List.lookup_cons,hb]
      exact ih
structure CompScope (ps sc:Scope) (pN own:List Str) (caps:List Nat) (N:List Str):Prop where
  kind:sc.kind = .function
  uniq:∀p∈sc.names,sc.names.lookup p.1=some p.2
  nd:N.Nodup
  names:N=own++caps.map fun j=>pN.getD j ""
  free:∀p∈sc.names,p.2 = .free→ps.names.lookup p.1=some .cell∨ps.names.lookup p.1=some .free
  capF:∀j∈caps,j<pN.length∧sc.names.lookup (pN.getD j "")=some .free
def stC (own:List Str) (caps:List Nat) (σ:St):St:=own.map (fun _=>none)++caps.map fun j=>(σ[j]?).getD none
section
variable {X:Cx} {pins:List (Addr×Obj)} {σ:St} {H:Hp} {s:Shared} {ps sc:Scope} {own pN:List Str} {caps:List Nat} {N:List Str} {fp:List Addr}
theorem CompScope.cells (S:CompScope ps sc pN own caps N) (hps:X.env.scope=ps) (ok:X.Ok):∀x,(x,NameKind.free)∈sc.names→∃c,X.env.cells.lookup x=some c:=fun x hx=>by
  refine ok.has x ?_
  show X.env.scope.names.lookup x=_∨X.env.scope.names.lookup x=_
  rw [hps]
  exact S.free (x,.free) hx rfl
theorem cellsC_mem (hfr:∀x,(x,NameKind.free)∈sc.names→∃c,X.env.cells.lookup x=some c) {C:Addr} {x:Str} {c:Addr} {h:Heap} (hC:C+1=h.objs.size) (m:(x,c)∈cellsC X.env sc C):X.env.cells.lookup x=some c∨(h.objs.size≤c∧(pushCells h sc.names).IsCell c none):=by
  unfold cellsC at m
  rw [hC] at m
  rcases cf_mem sc.names h _ x c m with z | z
  ·exact .inl (clOf_mem sc.names [] x c hfr (fun _ _ z=>nomatch z) z)
  ·exact .inr z
theorem blockOk (I:Inv X pins σ H s) (hps:X.env.scope=ps) (S:CompScope ps sc pN own caps N) (hf:∀b∈fp,FpOk X pins H b) (ho:∀b∈fp,∃o,s.heap.get? b=some o∧∀v,o.data≠.cell v) :
    (cxComp X sc N s.heap.objs.size s H fp (X.pn++pins)).Ok where
  mod:=I.ok.mod
  kind:=S.kind
  glob:=I.ok.glob
  blt:=I.ok.blt
  above:=Nat.le_refl _
  inj:=fun x y c h1 h2=>by
    have cl:∀y d,(y,d)∈clOf X.env sc.names→X.env.cells.lookup y=some d:=fun y d m=>clOf_mem sc.names [] y d (S.cells hps I.ok) (fun _ _ z=>nomatch z) m
    refine cf_inj sc.names (s.heap.objs.size+1) (clOf X.env sc.names) (fun y d m=>?_) (fun y z d m1 m2=>I.ok.inj y z d (cl y d m1) (cl z d m2)) x y c (PySem.mem_of_lookup h1) (PySem.mem_of_lookup h2)
    obtain ⟨v,q⟩:=I.cell y d (cl y d m)
    exact Nat.lt_succ_of_lt q.lt
  has:=fun x hx=>by
    have hx1:(relabel sc X.env).names.lookup x=some .cell∨(relabel sc X.env).names.lookup x=some .free:=hx
    have hx':(x,NameKind.cell)∈sc.names∨(x,NameKind.free)∈sc.names:=by
      rw [relabel_lookup] at hx1
      cases e:sc.names.lookup x with
      | none=>rw [e] at hx1;simp at hx1
      | some k=>
        rw [e] at hx1
        have hm:=PySem.mem_of_lookup e
        cases k with
        | free=>exact .inr hm
        | cell=>exact .inl hm
        | _=>simp at hx1
    have q:((cellsFrom (s.heap.objs.size+1) sc.names (clOf X.env sc.names)).lookup x).isSome=true:=by
      rcases hx' with z | z
      ·exact cellsFrom_mem sc.names _ _ (.inl z)
      ·exact cellsFrom_mem sc.names _ _ (.inr (clOf_some sc.names [] (.inl z)))
    exact Option.isSome_iff_exists.mp q
  cab:=fun x c hx h=>by
    have hx':(x,NameKind.cell)∈sc.names:=by
      have hx:(sc.names.any fun p=>p.1 == x && p.2 == .cell)=true:=hx
      obtain ⟨⟨a,b⟩,hm,he⟩:=List.any_eq_true.mp hx
      simp at he
      obtain ⟨rfl,rfl⟩:=he
      exact hm
    exact cf_own (n0:=s.heap.objs.size) sc.names (s.heap.objs.size+1) (clOf X.env sc.names) c (.inl hx') (Nat.le_succ _) h
  hd:=I.ok.hd
  frames:=I.ok.frames
  stk:=.inl rfl
  exf:=fun b hb=>by
    obtain ⟨o,e,_⟩:=ho b hb
    refine ⟨Nat.ne_of_lt (Heap.lt_size e),fun x c h z=>?_⟩
    subst z
    rcases cellsC_mem (S.cells hps I.ok) (h:=s.heap.push {cls:=.type "dict",data:=.dict #[]}) (by rw [Heap.size_push]) (PySem.mem_of_lookup h) with q | ⟨q,_⟩
    ·exact (hf c hb).2.2.2.2.1 x c q rfl
    · rw [Heap.size_push] at q
      exact absurd (Nat.lt_of_lt_of_le (Nat.lt_of_lt_of_le (Heap.lt_size e) (Nat.le_succ _)) q) (Nat.lt_irrefl _)
  bs:=I.bs
  bsz:=Nat.le_trans I.ok.bsz I.sz
  noex:=fun b o e hb=>by
    rcases (hf b hb).2.2.2.1 with z | z
    ·exact I.ok.noex b o e z
    ·exact absurd (Nat.lt_of_lt_of_le (Heap.lt_size e) (Nat.le_trans I.ok.bsz z)) (Nat.lt_irrefl _)
  exfs:=fun b hb z=>by
    rcases List.mem_cons.mp (I.stkSub b z) with q | q
    ·exact (hf b hb).2.1 q
    ·exact (hf b hb).2.2.1 q
  funs:=I.stack
  frf:=I.stkFree
def blockAt (sc:Scope) (s:Shared):Shared:={s with heap:=pushCells (s.heap.push {cls:=.type "dict",data:=.dict #[]}) sc.names}
theorem blockInv (I:Inv X pins σ H s) (hps:X.env.scope=ps) (hpN:X.N=pN) (S:CompScope ps sc pN own caps N) (hf:∀b∈fp,FpOk X pins H b) (ho:∀b∈fp,∃o,s.heap.get? b=some o∧∀v,o.data≠.cell v) :
    Inv (cxComp X sc N s.heap.objs.size s H fp (X.pn++pins)) [] (stC own caps σ) H (blockAt sc s):=by
  have hk:∀b o,s.heap.get? b=some o→(blockAt sc s).heap.get? b=some o:=fun b o e=>pushCells_keeps _ _ b o (Heap.get?_push_of_some _ e)
  have hns:(blockAt sc s).heap.Ns s.heap.objs.size fun _=>none:=(Heap.Ns.new s.heap (.type "dict")).keeps (pushCells_keeps _ _)
  have hcl:∀x c,(cellsC X.env sc s.heap.objs.size).lookup x=some c→X.env.cells.lookup x=some c∨(s.heap.objs.size+1≤c∧(blockAt sc s).heap.IsCell c none):=fun x c e=>by
    rcases cellsC_mem (S.cells hps I.ok) (h:=s.heap.push {cls:=.type "dict",data:=.dict #[]}) (by rw [Heap.size_push]) (PySem.mem_of_lookup e) with q | ⟨q,r⟩
    ·exact .inl q
    · rw [Heap.size_push] at q
      exact .inr ⟨q,r⟩
  refine ⟨blockOk I hps S hf ho,rfl,I.bare,Un.kept hk,⟨_,hns,fun i x v e1 e2 e3=>?_⟩,fun x c e=>?_,I.hok.fresh (Nat.le_refl _),fun x c e=>?_,fun p hp=>?_,I.hok.kept hk,?_⟩
  · have e1':N[i]? = some x:=e1
    rw [S.names] at e1'
    unfold stC at e2
    by_cases hi:i<own.length
    · rw [List.getElem?_append_left (by simpa using hi),List.getElem?_map] at e2
      cases q:own[i]? with
      | none=>rw [q] at e2;cases e2
      | some y=>rw [q] at e2;cases e2
    · rw [List.getElem?_append_right (by omega),List.getElem?_map] at e1'
      rw [List.getElem?_append_right (by simp;omega),List.getElem?_map] at e2
      simp only [List.length_map] at e2
      cases q:caps[i - own.length]? with
      | none=>rw [q] at e2;cases e2
      | some j=>
        rw [q] at e1' e2
        have e1'':pN.getD j "" = x:=Option.some.inj e1'
        have e2':(σ[j]?).getD none=some v:=Option.some.inj e2
        have hj:σ[j]? = some (some v):=by
          cases z:σ[j]? with
          | none=>rw [z] at e2';cases e2'
          | some o=>rw [z] at e2';exact congrArg some e2'
        obtain ⟨hlt,hfree⟩:=S.capF j (List.mem_of_getElem? q)
        rw [e1''] at hfree
        have hNj:X.N[j]? = some x:=by
          rw [hpN,← e1'']
          simp [List.getD,List.getElem?_eq_getElem hlt]
        have hps':=S.free (x,.free) (PySem.mem_of_lookup hfree) rfl
        have vis:Vis X.env.scope x:=by rw [hps];exact .inr hps'
        obtain ⟨m,hn,hl⟩:=I.loc
        obtain ⟨u,r,l⟩:=hl j x v hNj hj vis
        refine ⟨u,r,.inr ?_⟩
        have hkind:(relabel sc X.env).names.lookup x=some .cell∨(relabel sc X.env).names.lookup x=some .free:=by
          rw [relabel_lookup,hfree]
          show some (if _ then _ else _)=_∨some (if _ then _ else _)=_
          split
          ·exact .inl rfl
          ·exact .inr rfl
        refine ⟨hkind,?_⟩
        have hcell:X.env.kindOf x=some .cell∨X.env.kindOf x=some .free:=by
          show X.env.scope.names.lookup x=_∨X.env.scope.names.lookup x=_
          rw [hps];exact hps'
        rcases l with ⟨hloc,_⟩ | ⟨_,c,hc,hcv⟩
        ·rcases hcell with z | z <;> (rw [hloc] at z;cases z)
        · have q2:((cellsC X.env sc s.heap.objs.size).lookup x).isSome=true:=cellsFrom_mem sc.names _ _ (.inr (clOf_some sc.names [] (.inl (PySem.mem_of_lookup hfree))))
          obtain ⟨d,hd⟩:=Option.isSome_iff_exists.mp q2
          refine ⟨d,hd,?_⟩
          rcases hcl x d hd with z | ⟨z,_⟩
          · rw [hc] at z;cases z
            exact hcv.keeps hk
          ·
            exfalso
            have hnc:(x,NameKind.cell)∉sc.names:=fun hm=>by
              have:=S.uniq _ hm
              rw [hfree] at this;cases this
            have hmem:=PySem.mem_of_lookup hd
            have hcl2:∀(names:List (Str×NameKind)) (n:Nat) (acc:List (Str×Addr)),(x,NameKind.cell)∉names→(cellsFrom n names acc).lookup x=acc.lookup x:=by
              intro names
              induction names with
              | nil=>intro _ _ _;rfl
              | cons p r ih=>
                intro n acc hm
                obtain ⟨y,k⟩:=p
                unfold cellsFrom
                split
                · rename_i hkk
                  have hkk':k = .cell:=by simpa using hkk
                  subst hkk'
                  rw [ih _ _ fun z=>hm (List.mem_cons_of_mem _ z)]
                  have hxy:(x == y)=false:=by
                    cases hb:x == y with
                    | false=>rfl
                    | true=>exact absurd (by rw [beq_iff_eq.mp hb];exact List.mem_cons_self) hm
                  simp only [List.lookup_cons,hxy]
                ·exact ih _ _ fun z=>hm (List.mem_cons_of_mem _ z)
            have e5:(clOf X.env sc.names).lookup x=some d:=(hcl2 sc.names _ _ hnc).symm.trans hd
            have e6:=clOf_mem sc.names [] x d (S.cells hps I.ok) (fun _ _ z=>nomatch z) (PySem.mem_of_lookup e5)
            rw [hc] at e6;cases e6
            exact absurd (Nat.lt_of_lt_of_le (Nat.lt_of_lt_of_le hcv.lt (Nat.le_succ _)) z) (Nat.lt_irrefl _)
  · rcases hcl x c e with z | ⟨_,z⟩
    · obtain ⟨v,q⟩:=I.cell x c z
      exact ⟨v,q.keeps hk⟩
    ·exact ⟨_,z⟩
  · rcases hcl x c e with z | ⟨z,_⟩
    ·exact I.freeC x c z
    ·exact I.hok.fresh (by omega)
  · rw [List.append_nil] at hp
    obtain ⟨e,n,ne,nf,d⟩:=I.pin p hp
    refine ⟨hk _ _ e,n,Nat.ne_of_lt (Heap.lt_size e),fun z=>?_,d⟩
    rcases List.mem_cons.mp (I.stkSub p.1 z) with q | q
    ·exact ne q
    ·exact nf q
  · show (stC own caps σ).length=N.length
    rw [S.names]
    simp [stC]
theorem blockBack (I:Inv X pins σ H s) (hf:∀b∈fp,FpOk X pins H b) {C:Addr} {pn:List (Addr×Obj)} {pins':List (Addr×Obj)} {σ':St} {H':Hp} {s':Shared} (I':Inv (cxComp X sc N C s H fp pn) pins' σ' H' s'):Inv X pins σ H' s':=
  I.call' (ch:=fp) I'.os I'.base I'.hok I'.bare fun b hb=>⟨(hf b hb).2.2.2.1,(hf b hb).2.1,(hf b hb).2.2.2.2.1,(hf b hb).2.2.2.2.2⟩
end
def PTs (X:Cx) (ifs:List Expr) (t:TT):Prop:=
  ∀(pins:List (Addr×Obj)) (s:Shared) (σ:St) (H:Hp) (Q:Bool→Hp→Prop),Inv X pins σ H s→t σ H Q→
    wpAny (model X.prog X.w) X.A (forIn ifs true fun c r=>if r=true then do let ok ← isTrue c X.env (eval c X.env);pure (ForInStep.yield ok) else pure (ForInStep.yield r)) (TP X pins σ Q) X.xe s
def tYes:TT:=fun _ H Q=>Q true H
theorem pts_nil {X:Cx}:PTs X [] tYes:=fun _ _ _ H _ I h=>wpAny_tests_nil ⟨H,I,h⟩
theorem pts_one {X:Cx} {c:Expr} {t:TT} (h:PT X c t):PTs X [c] t:=fun pins s σ H Q I hw=>wpAny_tests_one (h pins s σ H Q I hw)
def tCompAt (own:List Str) (caps:List Nat) (J:It) (g:TG) (tt:TT) (te:TE) (D:Addr) (σ:St) (H:Hp) (Q:Hp→Prop):Prop:=
  ∃W:Nat→Nat→St→Hp→Prop,(∃m,W 0 m (stC own caps σ) H)∧∀i m σ' H',W i m σ' H'→
    (J.stop i H'∧Q H')∨(J.go i H'∧∃N:St→Hp→Prop,(∀σ2 H2,N σ2 H2→∃m',m'<m∧W (i+1) m' σ2 H2)∧∀x H2,J.yld i H' x H2→g x σ' H2 fun σ2 H3=>tt σ2 H3 fun b H4=>
      if b=true then te σ2 H4 fun y H5=>∃ys,H5 D=some (.lst ys)∧ys.length<sizeLine∧N σ2 (upd H5 D (.lst (ys++[y]))) else N σ2 H4)
def tComp (own:List Str) (caps:List Nat) (wi:TI) (g:TG) (tt:TT) (te:TE):TE:=fun σ H Q=>wi σ H fun J H1=>∀D,H1 D=none→tCompAt own caps J g tt te D σ (upd H1 D (.lst [])) (Q (.ref D))
theorem newEnv_block {M:Model} {A:Around} {E:Value→Shared→Prop} {s:Shared} {sc:Scope} {g:Addr} {cl:List (Str×Addr)} {qual:Str} {env:Env} {Q:Env→Shared→Prop}
    (h:Q (newEnv sc s.heap.objs.size g (cellsFrom (s.heap.objs.size+1) sc.names cl) qual none .none (some env) builtinsNs) (blockAt sc s)):wpAny M A (newFunctionEnv sc g cl [] qual none .none (some env)) Q E s:=by
  simp only [newFunctionEnv,Option.isSome_some,if_true]
  refine wpAny_bind (wpAny_alloc ?_)
  refine wpAny_bind (wpAny_layCells _ (fun name kind cells=>by cases hkc:kind == NameKind.cell <;> simp [hkc]) _ _ _ _ ?_)
  rw [show ({s with heap:=s.heap.push {cls:=.type "dict",data:=.dict #[]}}:Shared).heap.objs.size=s.heap.objs.size+1 from Heap.size_push ..]
  rw [List.forIn_nil]
  exact wpAny_bind (wpAny_pure (wpAny_pure h))
def BlockEnd (X:Cx) (pins:List (Addr×Obj)) (σ:St) (Q:Hp→Prop) (C:Addr) (r:Result) (s':Shared):Prop:=
  ∃H',r = .ok .next∧Inv X pins σ H' s'∧(∃m,s'.heap.Ns C m)∧FpOk X pins H' C∧Q H'
section
variable {X:Cx} {ps sc:Scope} {own pN:List Str} {caps:List Nat} {N:List Str}
theorem comp_block {pins:List (Addr×Obj)} {σ:St} {H:Hp} {s:Shared} {E:Value→Shared→Prop} {elt tg iter:Expr} {ifs:List Expr} {pos:Pos} {J:It} {fp:List Addr} {it D:Addr} {tn:Nat→Heap→Prop} {g:TG} {tt:TT} {te:TE} {Q:Hp→Prop}
    (I:Inv X pins σ H s) (hps:X.env.scope=ps) (hpN:X.N=pN) (S:CompScope ps sc pN own caps N) (T:Turn X.prog X.w X.K tg J fp it tn) (st:tn 0 s.heap) (hf:∀b∈fp,FpOk X pins H b) (hc:X.calm=true)
    (hg:∀C s H fp pn,PG (cxComp X sc N C s H fp pn) tg g) (ht:∀C s H fp pn,PTs (cxComp X sc N C s H fp pn) ifs tt) (he:∀C s H fp pn,PE (cxComp X sc N C s H fp pn) elt te)
    (h:tCompAt own caps J g tt te D σ H Q) :
    wpAny (model X.prog X.w) X.A (newFunctionEnv sc X.env.globals (clOf X.env sc.names) [] X.env.qual none .none (some X.env)) (fun cenv s4=>
      codeAny (model X.prog X.w) X.A (.compStart (.ListComp elt [⟨tg,iter,ifs,0⟩] sc pos) 0 (.ref it) (.ref D) {cenv with scope:=relabel sc X.env}) (BlockEnd X pins σ Q cenv.locals) s4) E s:=by
  obtain ⟨W,⟨m0,w0⟩,turn⟩:=h
  refine newEnv_block ?_
  have ho:=T.obj 0 _ st
  have I0:=blockInv I hps hpN S hf ho
  have ok':=blockOk I hps S hf ho
  have hk:∀b o,s.heap.get? b=some o→(blockAt sc s).heap.get? b=some o:=fun b o e=>pushCells_keeps _ _ b o (Heap.get?_push_of_some _ e)
  have st0:tn 0 (blockAt sc s).heap:=T.keep 0 _ _ st fun b _ o e=>hk b o e
  have stat:∀{H':Hp},(∀b∈fp,H' b=none)→∀b∈fp,FpOk (cxComp X sc N s.heap.objs.size s H fp (X.pn++pins)) [] H' b:=fun hn b hb=>
    ⟨hn b hb,(ok'.exf b hb).1,ok'.exfs b hb,.inl hb,(ok'.exf b hb).2,fun p hp=>(hf b hb).2.2.2.2.2 p (by rw [List.append_nil] at hp;exact hp)⟩
  have loop:codeAny (model X.prog X.w) X.A (.compLoop (.ListComp elt [⟨tg,iter,ifs,0⟩] sc pos) 0 (.ref it) (.ref D) (cxComp X sc N s.heap.objs.size s H fp (X.pn++pins)).env) (BlockEnd X pins σ Q s.heap.objs.size) (blockAt sc s):=by
    refine compLoop_go (fun n s'=>∃i σ' H',Inv (cxComp X sc N s.heap.objs.size s H fp (X.pn++pins)) [] σ' H' s'∧tn i s'.heap∧(∀b∈fp,H' b=none)∧W i n σ' H') ?_ m0 ⟨0,_,H,I0,st0,fun b hb=>(hf b hb).1,w0⟩
    rintro n s3 ⟨i,σ3,H3,I3,st3,fr3,w3⟩
    rcases turn i n σ3 H3 w3 with ⟨stop,qn⟩ | ⟨go,N',hN,step⟩
    · refine thn (T.done (cxComp X sc N s.heap.objs.size s H fp (X.pn++pins)) rfl rfl rfl hc i [] s3 σ3 H3 NoE I3 (stat fr3) st3 stop) fun r s4 zz=>?_
      obtain ⟨hr,I4⟩:=zz
      subst hr
      obtain ⟨m,hn,_⟩:=I4.loc
      exact ⟨H3,rfl,blockBack I hf I4,⟨m,hn⟩,I.fpOk (Nat.le_refl _) I4.free,qn⟩
    · refine thn (T.item (cxComp X sc N s.heap.objs.size s H fp (X.pn++pins)) rfl rfl rfl hc i [] s3 σ3 H3 NoE I3 (stat fr3) st3 go) fun r s4 zz=>?_
      obtain ⟨u,hr,h4⟩:=zz
      subst hr
      refine thn h4 fun _ s5 zz=>?_
      obtain ⟨x,H5,I5,r5,y5,st5,fr5⟩:=zz
      have I5':=I5.pinned (stat fr5) (T.obj _ _ st5)
      refine thn (hg _ _ _ _ _ _ s5 σ3 H5 x u _ I5' r5 (step x H5 y5)) fun _ s6 zz=>?_
      obtain ⟨σ6,H6,I6,q6⟩:=zz
      refine thn (ht _ _ _ _ _ _ s6 σ6 H6 _ I6 q6) fun b s7 zz=>?_
      obtain ⟨H7,I7,q7⟩:=zz
      have again:∀{σ8:St} {H8:Hp} {s8:Shared},Inv (cxComp X sc N s.heap.objs.size s H fp (X.pn++pins)) ([]++pinsAt fp s5.heap) σ8 H8 s8→N' σ8 H8→
          ∃m,m<n∧∃i σ' H',Inv (cxComp X sc N s.heap.objs.size s H fp (X.pn++pins)) [] σ' H' s8∧tn i s8.heap∧(∀b∈fp,H' b=none)∧W i m σ' H':=fun {σ8 H8 s8} I8 n8=>by
        obtain ⟨m',hm,w8⟩:=hN σ8 H8 n8
        refine ⟨m',hm,i+1,σ8,H8,I8.unpinned,T.keep _ _ _ st5 fun b hb o e=>(I8.pin (b,o) (List.mem_append_right _ (List.mem_append_right _ (mem_pinsAt hb e)))).1,fun b hb=>?_,w8⟩
        obtain ⟨o,e,d⟩:=T.obj _ _ st5 b hb
        exact (I8.pin (b,o) (List.mem_append_right _ (List.mem_append_right _ (mem_pinsAt hb e)))).2.1
      cases b with
      | false=>
        rw [if_neg Bool.false_ne_true] at q7 ⊢
        exact again I7 q7
      | true=>
        rw [if_pos rfl] at q7 ⊢
        refine thn (he _ _ _ _ _ _ s7 σ6 H7 _ I7 q7) fun v s8 zz=>?_
        obtain ⟨y,H8,I8,r8,ys,hD,hz,n8⟩:=zz
        refine thn (mt_append (X:=cxComp X sc N s.heap.objs.size s H fp (X.pn++pins)) _ s8 σ6 H8 (.ref D) [y] (.ref D) [v] (fun _ H9=>N' σ6 H9) I8 rfl (.cons r8 .nil) ⟨D,ys,y,rfl,rfl,hD,hz,n8⟩) fun _ s9 zz=>?_
        obtain ⟨_,H9,I9,_,n9⟩:=zz
        exact again I9 n9
  exact codeAny_compStart_list loop (T.self X.A 0 _ _ _ st0 loop)
variable {elt tg iter:Expr} {ifs:List Expr} {pos:Pos} {wi:TI} {g:TG} {tt:TT} {te:TE}
theorem CompScope.locs (S:CompScope ps sc pN own caps N):∀x∈sc.names,x.2 = .local→sc.names.lookup x.1=some .local:=fun x hx e=>by rw [← e];exact S.uniq x hx
theorem pe_comp (hps:X.env.scope=ps) (hpN:X.N=pN) (S:CompScope ps sc pN own caps N) (hc:X.calm=true) (hi:PI X tg iter wi)
    (hg:∀C s H fp pn,PG (cxComp X sc N C s H fp pn) tg g) (ht:∀C s H fp pn,PTs (cxComp X sc N C s H fp pn) ifs tt) (he:∀C s H fp pn,PE (cxComp X sc N C s H fp pn) elt te)
    (hs:∀x,foldedSetIterable iter X.env x=pure x:=by intro _;rfl):PE X (.ListComp elt [⟨tg,iter,ifs,0⟩] sc pos) (tComp own caps wi g tt te):=by
  intro pins s σ H Q I h
  rw [eval_ListComp]
  refine wpAny_comprehension_free (use:=none) rfl hs (closureFor_clOf (S.cells hps I.ok)) S.kind S.locs (thn (hi pins s σ H _ I h) fun v s1 h1=>thn h1 fun itv s2 h2=>?_)
  obtain ⟨it,fp,tn,J,H2,e,I2,T,st2,f2,q⟩:=h2
  subst e
  have fr:H2 s2.heap.objs.size=none:=I2.fresh
  refine wpAny_newObj_type ?_
  have I3:Inv X pins σ (upd H2 s2.heap.objs.size (.lst [])) {s2 with heap:=s2.heap.push {cls:=.type "list",data:=.seq ([]:List Value).toArray},toks:=s2.toks}:=I2.lnew (its:=[]) (ys:=[]) .nil (Nat.zero_le _)
  have f3:∀b∈fp,FpOk X pins (upd H2 s2.heap.objs.size (.lst [])) b:=fun b hb=>by
    obtain ⟨o,e,_⟩:=T.obj 0 _ st2 b hb
    exact ⟨by rw [upd_ne (Nat.ne_of_lt (Heap.lt_size e))];exact (f2 b hb).1,(f2 b hb).2⟩
  refine thn (comp_block (iter:=iter) (pos:=pos) I3 hps hpN S T (T.keep 0 _ _ st2 fun b _ o e=>Heap.get?_push_of_some _ e) f3 hc hg ht he (q _ fr)) fun cenv s4 h4=>?_
  refine codeAny_mono h4 fun r s5 ⟨H5,hr,I5,⟨m,hn⟩,f5,q5⟩=>?_
  subst hr
  refine ⟨m,hn,fun h' hs'=>?_⟩
  have I6:Inv X pins σ H5 {s5 with heap:=h',toks:=s5.toks}:=I5.turned (it:=cenv.locals) (fun b o hb e=>(hs'.2 b hb).trans e) f5.1 f5.2.1 f5.2.2.2.1 f5.2.2.2.2.1 f5.2.2.2.2.2
  exact ⟨.ref s2.heap.objs.size,H5,I6,rfl,q5⟩
theorem ps_setComp {i:Nat} {y:Str} {py spos:Pos} (hN:X.N.Nodup) (hy:X.N[i]? = some y) (hl:X.env.scope.names.lookup y=some .local) (hps:X.env.scope=ps) (hpN:X.N=pN) (S:CompScope ps sc pN own caps N) (hc:X.calm=true) (hi:PI X tg iter wi)
    (hg:∀C s H fp pn,PG (cxComp X sc N C s H fp pn) tg g) (ht:∀C s H fp pn,PTs (cxComp X sc N C s H fp pn) ifs tt) (he:∀C s H fp pn,PE (cxComp X sc N C s H fp pn) elt te)
    (hsw:swapsWith (.ListComp elt [⟨tg,iter,ifs,0⟩] sc pos) (some (.Name y py)) spos.line X.env=pure true:=by rfl)
    (hs:∀x,foldedSetIterable iter X.env x=pure x:=by intro _;rfl):PS X (.Assign [.Name y py] (.ListComp elt [⟨tg,iter,ifs,0⟩] sc pos) spos) (tAsg (tComp own caps wi g tt te) (gName i)):=by
  intro pins s σ H D0 I h
  rw [exec_Assign_Name_used _ _ _ _ hsw]
  refine wpAny_bind (wpAny_standAt (wpAny_bind ?_))
  show wpAny _ X.A (do let _ ← comprehension (.ListComp elt [⟨tg,iter,ifs,0⟩] sc pos) sc X.env _ (newList []) false (eval iter X.env) (some (assign (.Name y py) X.env))) _ _ s
  refine wpAny_bind (wpAny_mono (wpAny_comprehension_free (use:=some (assign (.Name y py) X.env)) (Q:=fun _ s'=>SP X pins D0 .next s') rfl hs (closureFor_clOf (S.cells hps I.ok)) S.kind S.locs
    (thn (hi pins s σ H _ I h) fun v s1 h1=>thn h1 fun itv s2 h2=>?_)) (fun _ s' hq=>wpAny_pure (wpAny_pure hq)) fun _ _ e=>e)
  obtain ⟨it,fp,tn,J,H2,e,I2,T,st2,f2,q⟩:=h2
  subst e
  have fr:H2 s2.heap.objs.size=none:=I2.fresh
  refine wpAny_newObj_type ?_
  have I3:Inv X pins σ (upd H2 s2.heap.objs.size (.lst [])) {s2 with heap:=s2.heap.push {cls:=.type "list",data:=.seq ([]:List Value).toArray},toks:=s2.toks}:=I2.lnew (its:=[]) (ys:=[]) .nil (Nat.zero_le _)
  have f3:∀b∈fp,FpOk X pins (upd H2 s2.heap.objs.size (.lst [])) b:=fun b hb=>by
    obtain ⟨o,e,_⟩:=T.obj 0 _ st2 b hb
    exact ⟨by rw [upd_ne (Nat.ne_of_lt (Heap.lt_size e))];exact (f2 b hb).1,(f2 b hb).2⟩
  refine thn (comp_block (iter:=iter) (pos:=pos) I3 hps hpN S T (T.keep 0 _ _ st2 fun b _ o e=>Heap.get?_push_of_some _ e) f3 hc hg ht he (q _ fr)) fun cenv s4 h4=>?_
  refine codeAny_mono h4 fun r s5 ⟨H5,hr,I5,⟨m,hn⟩,f5,q5⟩=>?_
  subst hr
  show wpAny _ X.A (assign (.Name y py) X.env (.ref s2.heap.objs.size)) _ _ _
  refine wpAny_assign_Name (store_ok2 I5 hN hy (.inl hl) (v:=.ref s2.heap.objs.size) rfl (fun s6 I6 hsb=>?_) (.inr hl))
  obtain ⟨a,sb,ha⟩:=hsb
  have hne:cenv.locals≠a:=by
    rcases ha with z | z
    ·rw [z];exact f5.2.1
    ·exact fun e=>f5.2.2.2.2.1 y a z e.symm
  refine ⟨m,hn.sameBut sb hne,fun h' hs'=>?_⟩
  have I7:Inv X pins (σ.set i (some (.ref s2.heap.objs.size))) H5 {s6 with heap:=h',toks:=s6.toks}:=I6.turned (it:=cenv.locals) (fun b o hb e=>(hs'.2 b hb).trans e) f5.1 f5.2.1 f5.2.2.2.1 f5.2.2.2.2.1 f5.2.2.2.2.2
  exact ⟨_,H5,I7,q5⟩
end
section
variable {X:Cx} {pins:List (Addr×Obj)} {σ:St} {H:Hp} {s:Shared} {h':Heap}
theorem Inv.turnedL {t':Nat} {ch:List Addr} (I:Inv X pins σ H s) (k:∀b o,b∉ch→s.heap.get? b=some o→h'.get? b=some o) (hf:∀b∈ch,FpOk X pins H b):Inv X pins σ H {s with heap:=h',toks:=t'}:=by
  refine I.step (g':=s.gens) (d':=s.drawn) (ch:=ch) (fun b hb=>⟨(hf b hb).2.2.2.1,(hf b hb).2.1,(hf b hb).2.2.2.2.1,(hf b hb).2.2.2.2.2⟩) (fun b o _ _ hc e _=>k b o hc e) (fun b o _ _ hc e _=>⟨o.slots,k b o hc e⟩) (fun _ _ _ _ n=>n)
    (fun b o hc e=>⟨o,k b o hc e⟩) (fun _ _ e=>e) (fun _ _ _ e=>e) (fun b ps e=>⟨#[],by rw [e];simp⟩) (fun m hm=>?_) (fun b u e=>?_) I.bare
  · obtain ⟨o,es,ep,ho,r⟩:=hm
    exact ⟨o,es,ep,k _ o (fun z=>(hf _ z).2.1 rfl) ho,r⟩
  · refine (I.hok b u e).stay (fun c v hc q=>k c v (fun z=>?_) q) (fun _ q=>q) fun _ _ q=>q
    have hn:=(hf c z).1
    rcases hc with y | y
    ·rw [y,e] at hn;cases hn
    ·rw [y] at hn;cases hn
end
def Its (x:Str):It:=⟨fun i _=>i<x.cps.size,fun i H v H'=>H'=H∧∃c,x.cps[i]? = some c∧v = .str ⟨#[c]⟩,fun i _=>x.cps.size≤i⟩
theorem turn_str {P:Program} {w:World} {K:PySem.W.Frag} {tg:Expr} (x:Str) (t:Tok) (it:Addr):Turn P w K tg (Its x) [it] it (fun i h=>h.IsStrIter it (strIterType x) x t i) where
  mem:=by simp
  obj:=fun i h st b hb=>by
    have e:b=it:=by simpa using hb
    subst e
    obtain ⟨o,e,c,d⟩:=st
    exact ⟨o,e,fun v z=>by rw [d] at z;cases z⟩
  keep:=fun i h h' st k=>by
    obtain ⟨o,e,c,d⟩:=st
    exact ⟨o,k it (by simp) o e,c,d⟩
  item:=by
    intro X hP hw hK hc i pins s σ H E I hf st hg
    subst hP hw hK
    obtain ⟨f0,f1,f2,f3,f4,f5⟩:=hf it (by simp)
    have hx:x.cps[i]? = some (x.cps[i]'hg):=Array.getElem?_eq_getElem hg
    have fin:∀h',h'.IsStrIter it (strIterType x) x t (i+1)→Heap.SameBut it s.heap h'→∃u,(some (Value.str ⟨#[x.cps[i]'hg]⟩ s.toks))=some u∧
        wpAny (model X.prog X.w) X.A (letOwnedTupleGo tg (.ref it) u) (fun _ s2=>∃y H',Inv X pins σ H' s2∧RelV y u∧(Its x).yld i H y H'∧s2.heap.IsStrIter it (strIterType x) x t (i+1)∧∀b∈[it],H' b=none) E {s with heap:=h',toks:=s.toks+1}:=fun h' st' sb=>by
      have I1:Inv X pins σ H {s with heap:=h',toks:=s.toks+1}:=I.turned (fun b o hb e=>(sb.2 b hb).trans e) f0 f1 f3 f4 f5
      refine ⟨_,rfl,?_⟩
      have res:∃y H',Inv X pins σ H' {s with heap:=h',toks:=s.toks+1}∧RelV y (Value.str ⟨#[x.cps[i]'hg]⟩ s.toks)∧(Its x).yld i H y H'∧h'.IsStrIter it (strIterType x) x t (i+1)∧∀b∈[it],H' b=none:=
        ⟨.str ⟨#[x.cps[i]'hg]⟩,H,I1,⟨_,rfl⟩,⟨rfl,_,hx,rfl⟩,st',fun b hb=>(hf b hb).1⟩
      unfold letOwnedTupleGo
      cases tg <;> exact wpAny_pure res
    by_cases ha:x.cps.all (· < 128)=true
    · have ey:strIterType x = "str_ascii_iterator" :=by unfold strIterType;rw [if_pos ha]
      rw [ey] at st
      exact wpAny_pyNext_ascii_item st hx fun h' st' sb=>fin h' (by rw [ey];exact st') sb
    · have ey:strIterType x = "str_iterator" :=by unfold strIterType;rw [if_neg ha]
      rw [ey] at st
      exact wpAny_pyNext_wide_item st hx fun h' st' sb=>fin h' (by rw [ey];exact st') sb
  done:=by
    intro X hP hw hK hc i pins s σ H E I hf st hg
    subst hP hw hK
    obtain ⟨f0,f1,f2,f3,f4,f5⟩:=hf it (by simp)
    have hx:x.cps[i]? = none:=Array.getElem?_eq_none hg
    by_cases ha:x.cps.all (· < 128)=true
    · have ey:strIterType x = "str_ascii_iterator" :=by unfold strIterType;rw [if_pos ha]
      rw [ey] at st
      exact wpAny_pyNext_ascii_end (I.ok.hd hc) st hx fun h' eb=>⟨rfl,I.turned (t':=s.toks) (fun b o hb e=>eb b o hb e) f0 f1 f3 f4 f5⟩
    · have ey:strIterType x = "str_iterator" :=by unfold strIterType;rw [if_neg ha]
      rw [ey] at st
      exact wpAny_pyNext_wide_end (I.ok.hd hc) st hx fun h' eb=>⟨rfl,I.turned (t':=s.toks) (fun b o hb e=>eb b o hb e) f0 f1 f3 f4 f5⟩
  self:=fun A i s Q E st h=>by
    by_cases ha:x.cps.all (· < 128)=true
    · have ey:strIterType x = "str_ascii_iterator" :=by unfold strIterType;rw [if_pos ha]
      rw [ey] at st
      exact wpAny_pyIter_striter_ascii st h
    · have ey:strIterType x = "str_iterator" :=by unfold strIterType;rw [if_neg ha]
      rw [ey] at st
      exact wpAny_pyIter_striter_wide st h
section
variable {X:Cx} {tg:Expr}
def iStr (tl:TE):TI:=fun σ H R=>tl σ H fun x H1=>∃z,x = .str z∧R (Its z) H1
theorem pi_str {l:Expr} {tl:TE} (hl:PE X l tl):PI X tg l (iStr tl):=by
  intro pins s σ H R I h
  refine thn (hl pins s σ H _ I h) fun v s1 zz=>?_
  obtain ⟨x,H1,I1,r1,q1⟩:=zz
  obtain ⟨z,e,q⟩:=q1
  subst e
  obtain ⟨t,rfl⟩:=r1
  refine wpAny_pyIter_strU ?_
  refine ⟨s1.heap.objs.size,[s1.heap.objs.size],_,_,H1,rfl,I1.kept (t':=s1.toks) fun b o e=>Heap.get?_push_of_some _ e,turn_str z t _,⟨_,Heap.get?_push_size _ rfl,rfl,rfl⟩,fun b hb=>?_,q⟩
  have e:b=s1.heap.objs.size:=by simpa using hb
  subst e
  exact I1.fpOk (Nat.le_refl _) (I1.hok.fresh (Nat.le_refl _))
end
def Itz (K:PySem.W.Frag) (a b:Addr):It:=
  ⟨fun i H=>∃xs ys x y,SqL K H a xs∧SqL K H b ys∧xs[i]? = some x∧ys[i]? = some y,
   fun i H v H'=>∃t x y,v = .ref t∧H t=none∧H'=upd H t (.tup [x,y])∧(∀xs,SqL K H a xs→xs[i]? = some x)∧∀ys,SqL K H b ys→ys[i]? = some y,
   fun i H=>∃xs ys,SqL K H a xs∧SqL K H b ys∧(xs.length≤i∨ys.length≤i)⟩
structure ZipSt (z TI TO i1 i2 a b:Addr) (i:Nat) (h:Heap):Prop where
  hz:IsZip h z TI TO .none
  hI:IsPair h TI (.ref i1) (.ref i2)
  hO:∃p q,IsPair h TO p q
  h1:h.IsListIter i1 a i
  h2:h.IsListIter i2 b i
theorem ne_ty {h:Heap} {a b:Addr} {o u:Obj} {T U:String} (ha:h.get? a=some o) (hb:h.get? b=some u) (ca:o.cls = .type T) (cb:u.cls = .type U) (hne:T≠U):a≠b:=fun e=>by
  subst e
  rw [ha] at hb
  cases hb
  rw [ca] at cb
  injection cb with e2
  exact hne e2
theorem turn_zip {P:Program} {w:World} {K:PySem.W.Frag} {es:List Expr} {k:Nat} {pos:Pos} {z TI TO i1 i2 a b:Addr} (n12:i1≠i2) (nT:TI≠TO) :
    Turn P w K (.Tuple es k pos) (Itz K a b) [z,TI,TO,i1,i2] z (ZipSt z TI TO i1 i2 a b) where
  mem:=by simp
  obj:=fun i h st c hc=>by
    simp only [List.mem_cons,List.not_mem_nil,or_false] at hc
    rcases hc with rfl | rfl | rfl | rfl | rfl
    ·exact ⟨_,st.hz,fun v e=>nomatch e⟩
    ·exact ⟨_,st.hI,fun v e=>nomatch e⟩
    · obtain ⟨p,q,e⟩:=st.hO
      exact ⟨_,e,fun v e=>nomatch e⟩
    · obtain ⟨o,e,_,d⟩:=st.h1
      exact ⟨o,e,fun v y=>by rw [d] at y;cases y⟩
    · obtain ⟨o,e,_,d⟩:=st.h2
      exact ⟨o,e,fun v y=>by rw [d] at y;cases y⟩
  keep:=fun i h h' st kk=>by
    obtain ⟨p,q,e⟩:=st.hO
    exact ⟨kk z (by simp) _ st.hz,kk TI (by simp) _ st.hI,⟨p,q,kk TO (by simp) _ e⟩,st.h1.at fun o e=>kk i1 (by simp) o e,st.h2.at fun o e=>kk i2 (by simp) o e⟩
  item:=by
    intro X hP hw hK hc i pins s σ H E I hf st hg
    subst hP hw hK
    obtain ⟨xs,ys,x,y,qa,qb,hx,hy⟩:=hg
    obtain ⟨its,rv,pl,hz1⟩:=I.list qa
    obtain ⟨its',rv',pl',hz2⟩:=I.list qb
    obtain ⟨u,hu,ru⟩:=rv.get hx
    obtain ⟨u',hu',ru'⟩:=rv'.get hy
    obtain ⟨p,q,hTO⟩:=st.hO
    obtain ⟨oa,ea,ca,_⟩:=id pl.isList
    obtain ⟨ob,eb,cb,_⟩:=id pl'.isList
    obtain ⟨o1,e1,c1,_⟩:=id st.h1
    obtain ⟨o2,e2,c2,_⟩:=id st.h2
    have D:ZipApart z TI TO i1 i2 a b:=
      ⟨ne_ty st.hI st.hz rfl rfl (by decide),ne_ty hTO st.hz rfl rfl (by decide),ne_ty e1 st.hz c1 rfl (by decide),ne_ty e2 st.hz c2 rfl (by decide),nT,ne_ty st.hI e1 rfl c1 (by decide),ne_ty st.hI e2 rfl c2 (by decide),
        ne_ty hTO e1 rfl c1 (by decide),ne_ty hTO e2 rfl c2 (by decide),n12,ne_ty ea st.hz ca rfl (by decide),ne_ty ea hTO ca rfl (by decide),ne_ty ea e1 ca c1 (by decide),ne_ty ea e2 ca c2 (by decide),
        ne_ty eb st.hz cb rfl (by decide),ne_ty eb hTO cb rfl (by decide),ne_ty eb e1 cb c1 (by decide),ne_ty eb e2 cb c2 (by decide)⟩
    refine wpAny_pyNext_zip_item D st.hz st.hI hTO st.h1 st.h2 pl.isList pl'.isList (x:=u) (y:=u') (by simpa using hu) (by simpa using hu') fun h' a1 a2 a3 a4 a5 a6 kk=>?_
    refine ⟨_,rfl,wpAny_letOwnedTupleGo_zip a1 fun h2 b1 sb=>?_⟩
    have lt:∀{c o},s.heap.get? c=some o→s.heap.objs.size≠c:=fun e=>Nat.ne_of_gt (Heap.lt_size e)
    have hn:H s.heap.objs.size=none:=I.hok.fresh (Nat.le_refl _)
    have kk2:∀c o,c∉[z,TI,TO,i1,i2]→s.heap.get? c=some o→h2.get? c=some o:=fun c o hc e=>by
      simp only [List.mem_cons,List.not_mem_nil,or_false,not_or] at hc
      exact (sb.2 c hc.1).trans (kk c o hc.1 hc.2.2.1 hc.2.2.2.1 hc.2.2.2.2 e)
    have I1:Inv X pins σ H {s with heap:=h2,toks:=s.toks}:=I.turnedL kk2 hf
    have hpair:IsPair h2 s.heap.objs.size u u':=sb.extBut _ _ (lt st.hz) a5
    have I2:Inv X pins σ (upd H s.heap.objs.size (.tup [x,y])) {s with heap:=h2,toks:=s.toks}:=by
      have hfr:H s.heap.objs.size=none:=hn
      refine ⟨I1.ok,I1.os,I1.bare,⟨I1.base.keep,I1.base.slot,fun c o e n hx=>?_,I1.base.there,fun c zs e=>?_,fun c o v e=>?_,fun c qs e=>?_⟩,I1.loc,I1.cell,?_,fun v c e=>?_,fun v hv=>?_,?_,I1.len⟩
      · rw [upd_ne (fun e'=>?_)]
        ·exact I1.base.free c o e n hx
        ·exact absurd (Nat.lt_of_lt_of_le (Heap.lt_size e) I.sz) (by rw [e'];exact Nat.lt_irrefl _)
      · have e':=I1.base.tups c zs e
        rw [upd_ne (ne_of_none e' hfr)];exact e'
      · have e':=I1.base.frzs c o v e
        rw [upd_ne (ne_of_none e' hfr)];exact e'
      · obtain ⟨m,e'⟩:=I1.base.tbls c qs e
        exact ⟨m,by rw [upd_ne (ne_of_none e' hfr)];exact e'⟩
      ·rw [upd_ne (Nat.ne_of_lt I.lt)];exact I1.free
      · obtain ⟨w',qc⟩:=I.cell v c e
        rw [upd_ne (Nat.ne_of_lt qc.lt)];exact I1.freeC v c e
      · obtain ⟨f1,f2,f3⟩:=I1.pin v hv
        refine ⟨f1,?_,f3⟩
        rw [upd_ne (Nat.ne_of_lt (Heap.lt_size (I.pin v hv).1))];exact f2
      · intro c v e
        by_cases hcs:c=s.heap.objs.size
        · subst hcs
          rw [upd_same] at e
          cases e
          exact ⟨by show 2≤sizeLine;rw [sizeLine_eq];decide,[u,u'],.cons ru (.cons ru' .nil),⟨_,hpair,rfl,0,rfl⟩⟩
        · rw [upd_ne hcs] at e
          refine (I1.hok c v e).stay (fun _ _ _ qq=>qq) (fun d qd=>?_) fun d zs qd=>?_
          ·rw [upd_ne (ne_of_none qd hfr)];exact qd
          ·rw [upd_ne (ne_of_none qd hfr)];exact qd
    refine ⟨.ref s.heap.objs.size,_,I2,rfl,⟨s.heap.objs.size,x,y,rfl,hn,rfl,fun xs' q'=>by rw [I.list_inj q' qa];exact hx,fun ys' q'=>by rw [I.list_inj q' qb];exact hy⟩,?_,fun c hcm=>?_⟩
    ·exact ⟨b1,sb.extBut _ _ D.TIz (kk _ _ D.TIz D.TITO D.TIi1 D.TIi2 st.hI),⟨_,_,sb.extBut _ _ D.TOz a2⟩,a3.extBut sb.extBut D.i1z,a4.extBut sb.extBut D.i2z⟩
    · have hne:c≠s.heap.objs.size:=by
        simp only [List.mem_cons,List.not_mem_nil,or_false] at hcm
        rcases hcm with rfl | rfl | rfl | rfl | rfl
        ·exact (lt st.hz).symm
        ·exact (lt st.hI).symm
        ·exact (lt hTO).symm
        ·exact (lt e1).symm
        ·exact (lt e2).symm
      rw [upd_ne hne]
      exact (hf c hcm).1
  done:=by
    intro X hP hw hK hc i pins s σ H E I hf st hg
    subst hP hw hK
    obtain ⟨xs,ys,qa,qb,hl⟩:=hg
    obtain ⟨its,rv,pl,hz1⟩:=I.list qa
    obtain ⟨its',rv',pl',hz2⟩:=I.list qb
    obtain ⟨p,q,hTO⟩:=st.hO
    obtain ⟨oa,ea,ca,_⟩:=id pl.isList
    obtain ⟨ob,eb,cb,_⟩:=id pl'.isList
    obtain ⟨o1,e1,c1,_⟩:=id st.h1
    obtain ⟨o2,e2,c2,_⟩:=id st.h2
    have D:ZipApart z TI TO i1 i2 a b:=
      ⟨ne_ty st.hI st.hz rfl rfl (by decide),ne_ty hTO st.hz rfl rfl (by decide),ne_ty e1 st.hz c1 rfl (by decide),ne_ty e2 st.hz c2 rfl (by decide),nT,ne_ty st.hI e1 rfl c1 (by decide),ne_ty st.hI e2 rfl c2 (by decide),
        ne_ty hTO e1 rfl c1 (by decide),ne_ty hTO e2 rfl c2 (by decide),n12,ne_ty ea st.hz ca rfl (by decide),ne_ty ea hTO ca rfl (by decide),ne_ty ea e1 ca c1 (by decide),ne_ty ea e2 ca c2 (by decide),
        ne_ty eb st.hz cb rfl (by decide),ne_ty eb hTO cb rfl (by decide),ne_ty eb e1 cb c1 (by decide),ne_ty eb e2 cb c2 (by decide)⟩
    have l1:=rv.length
    have l2:=rv'.length
    refine wpAny_pyNext_zip_end (I.ok.hd hc) D st.hz st.hI hTO st.h1 st.h2 pl.isList pl'.isList ?_ fun h' kk=>⟨rfl,I.turnedL (t':=s.toks) (fun c o hcm e=>?_) hf⟩
    · rcases hl with hl | hl
      ·exact .inl (by simp;omega)
      ·exact .inr (by simp;omega)
    · simp only [List.mem_cons,List.not_mem_nil,or_false,not_or] at hcm
      exact kk c o hcm.1 hcm.2.2.1 hcm.2.2.2.1 hcm.2.2.2.2 e
  self:=fun _ _ _ _ _ st h=>wpAny_pyIter_zip st.hz h
section
variable {X:Cx}
def iZip (K:PySem.W.Frag) (t:TA):TI:=fun σ H R=>t σ H fun vs H1=>∃a b xs ys,vs=[.ref a,.ref b]∧SqL K H1 a xs∧SqL K H1 b ys∧R (Itz K a b) H1
theorem boot_zip:bootBuiltins "zip" = some (.type "zip"):=by decide +kernel
theorem pi_zip {es:List Expr} {k:Nat} {pos':Pos} {a b:Expr} {ta:TA} {p pos:Pos} (hg:Gl X "zip") (hm:X.mg "zip" = none) (ha:PA X [a,b] ta)
    (hs:starEach [a,b] X.env=[(false,eval a X.env),(false,eval b X.env)]:=by rfl) (hs2:starEach [b] X.env=[(false,eval b X.env)]:=by rfl) :
    PI X (.Tuple es k pos') (.Call (.Name "zip" p) [a,b] [] pos) (iZip X.K ta):=by
  intro pins s σ H R I h
  refine Call_ (ld_blt I hg hm boot_zip (PyProof.Rows.callWith_type1 (thn (ha pos pins s σ H _ I h) fun us s1 zz=>?_) (by rw [hs,hs2]) (by rw [hs2];rfl)))
  obtain ⟨vs,H1,I1,r1,q1⟩:=zz
  obtain ⟨l1,l2,xs,ys,e,qa,qb,q⟩:=q1
  subst e
  obtain ⟨u,v,rfl,r,r'⟩:=r1.two
  obtain rfl:u=Value.ref l1:=r
  obtain rfl:v=Value.ref l2:=r'
  obtain ⟨its,rv,pl,hz1⟩:=I1.list qa
  obtain ⟨its',rv',pl',hz2⟩:=I1.list qb
  refine call_zip_2 pl.isList pl'.isList fun h' b1 b2 b3 b4 b5 b6 kk=>?_
  refine wpAny_pyIter_zip (s:={s1 with heap:=h'}) b1 ?_
  have I2:Inv X pins σ H1 {s1 with heap:=h'}:=I1.kept (t':=s1.toks) kk
  refine ⟨s1.heap.objs.size+4,[s1.heap.objs.size+4,s1.heap.objs.size+2,s1.heap.objs.size+3,s1.heap.objs.size,s1.heap.objs.size+1],_,_,H1,rfl,I2,turn_zip (Nat.ne_of_lt (Nat.lt_succ_self _)) (Nat.ne_of_lt (Nat.lt_succ_self (s1.heap.objs.size+2))),⟨b1,b2,⟨_,_,b3⟩,b4,b5⟩,fun c hc=>?_,q⟩
  have hle:s1.heap.objs.size≤c:=by
    simp only [List.mem_cons,List.not_mem_nil,or_false] at hc
    rcases hc with rfl | rfl | rfl | rfl | rfl <;> first | exact Nat.le_add_right _ _ | exact Nat.le_refl _
  exact I1.fpOk hle (I1.hok.fresh hle)
end
section
variable {X:Cx} {pins:List (Addr×Obj)} {σ:St} {H:Hp} {s:Shared}
theorem TyOf.kit {x:V} {u t:Value} (I:Inv X pins σ H s) (rx:RelV x u) (ty:TyOf X.K H x t):∃Φ,PySem.W.KitX X.K u t Φ∧Φ s.heap∧u≠.builtin "__main__.__loader__#opaque" :=by
  cases ty with
  | non=>cases (show u=Value.none from rx);exact ⟨_,PySem.W.kitx_none,True.intro,fun z=>nomatch z⟩
  | bl y=>cases (show u=Value.bool y from rx);exact ⟨_,PySem.W.kitx_bool,True.intro,fun z=>nomatch z⟩
  | int i=>obtain ⟨t,q⟩:=(show ∃t,u=Value.int i t from rx);cases q;exact ⟨_,PySem.W.kitx_int,True.intro,fun z=>nomatch z⟩
  | str y=>obtain ⟨t,q⟩:=(show ∃t,u=Value.str y t from rx);cases q;exact ⟨_,PySem.W.kitx_str,True.intro,fun z=>nomatch z⟩
  | flt y=>obtain ⟨t,q⟩:=(show ∃t,u=Value.float y t from rx);cases q;exact ⟨_,PySem.W.kitx_float,True.intro,fun z=>nomatch z⟩
  | @lst a xs ea=>
    cases (show u=Value.ref a from rx)
    obtain ⟨_,_,n,_,h1⟩:=(show ObjOk X.prog X.w H s.heap a (.lst xs) from I.hok a _ ea)
    exact ⟨_,PySem.W.kitx_list,⟨_,h1,rfl⟩,fun z=>nomatch z⟩
  | @frz a ob xs ea=>
    cases (show u=Value.ref a from rx)
    obtain ⟨_,_,_,n,_,h1⟩:=(show ObjOk X.prog X.w H s.heap a (.frz ob (.lst xs)) from I.hok a _ ea)
    exact ⟨_,PySem.W.kitx_list,⟨_,h1,rfl⟩,fun z=>nomatch z⟩
  | @tup a xs ea=>
    cases (show u=Value.ref a from rx)
    obtain ⟨_,_,_,p⟩:=(show ObjOk X.prog X.w H s.heap a (.tup xs) from I.hok a _ ea)
    obtain ⟨o,h1,h2,_⟩:=p
    exact ⟨_,PySem.W.kitx_tuple,⟨o,h1,h2⟩,fun z=>nomatch z⟩
  | @dK a kvs ea=>
    cases (show u=Value.ref a from rx)
    obtain ⟨_,_,vs,_,p⟩:=(show ObjOk X.prog X.w H s.heap a (.dK kvs) from I.hok a _ ea)
    obtain ⟨o,es,ep,h1,h2,_⟩:=p
    exact ⟨_,PySem.W.kitx_dict,⟨o,h1,h2.1⟩,fun z=>nomatch z⟩
  | @dT a kvs ea=>
    cases (show u=Value.ref a from rx)
    obtain ⟨_,_,xs,_,o,es,ep,h1,h2,_⟩:=(show ObjOk X.prog X.w H s.heap a (.dT kvs) from I.hok a _ ea)
    exact ⟨_,PySem.W.kitx_dict,⟨o,h1,h2.1⟩,fun z=>nomatch z⟩
  | @ins a C dx fs ea cl ha hn htk hm=>
    cases (show u=Value.ref a from rx)
    obtain ⟨mA,O,_⟩:=ins_get I.hok ea
    obtain ⟨od,J,_⟩:=O.look
    exact ⟨_,PySem.W.kitx_own (cl.get _) cl.hd ha hn htk hm,J,fun z=>nomatch z⟩
theorem call_isiT:CallR X (.builtin "isinstance") (fun xs H Q=>∃x n t b,xs=[x,.ty n]∧TyOf X.K H x t∧PySem.W.kitOne X.K t (.type n)=some b∧Q (.bl b) H):=by
  intro pins s σ H xs us Q I r h
  obtain ⟨x,n,t,b,rfl,ty,e,q⟩:=h
  obtain ⟨u,v,rfl,rx,rc⟩:=r.two
  obtain rfl:v=Value.type n:=rc
  exact isinst_ok I rx ty e fun tk=>⟨.bl b,H,I.tok tk,rfl,q⟩
theorem call_isi2:CallR X (.builtin "isinstance") (fun xs H Q=>∃x p m n t b,xs=[x,.ref p]∧H p=some (.tup [.ty m,.ty n])∧TyOf X.K H x t∧PySem.W.kitAny X.K t [.type m,.type n]=some b∧Q (.bl b) H):=by
  intro pins s σ H xs us Q I r h
  obtain ⟨x,p,m,n,t,b,rfl,hp,ty,e,q⟩:=h
  obtain ⟨u,v,rfl,rx,rc⟩:=r.two
  obtain rfl:v=Value.ref p:=rc
  obtain ⟨Φ,Z,hΦ,hne⟩:=ty.kit I rx
  obtain ⟨_,its,rv,o,e1,e2,k,e3⟩:=(show ObjOk X.prog X.w H s.heap p (.tup [.ty m,.ty n]) from I.hok p _ hp)
  obtain ⟨u1,u2,rfl,r1,r2⟩:=rv.two
  obtain rfl:u1=Value.type m:=r1
  obtain rfl:u2=Value.type n:=r2
  obtain ⟨c,dd,dt,sl⟩:=o
  replace e2:c = .type "tuple" :=e2
  replace e3:dt = .seq [Value.type m,Value.type n].toArray k:=e3
  subst e2 e3
  exact PySem.W.kia_tup Z I.kIn hΦ e1 e hne fun tk=>⟨.bl b,H,I.tok tk,rfl,q⟩
theorem boot_isinstance:bootBuiltins "isinstance" = some (.builtin "isinstance"):=by decide +kernel
theorem boot_str:bootBuiltins "str" = some (.type "str"):=by decide +kernel
theorem boot_list:bootBuiltins "list" = some (.type "list"):=by decide +kernel
theorem boot_tuple:bootBuiltins "tuple" = some (.type "tuple"):=by decide +kernel
theorem boot_intT:bootBuiltins "int" = some (.type "int"):=by decide +kernel
theorem boot_boolT:bootBuiltins "bool" = some (.type "bool"):=by decide +kernel
theorem boot_dictT:bootBuiltins "dict" = some (.type "dict"):=by decide +kernel
theorem boot_setT:bootBuiltins "set" = some (.type "set"):=by decide +kernel
end
mutual
def Is (K:PySem.W.Frag) (H:Hp):PyData→V→Prop
  | .none,v=>v = .non
  | .bool b,v=>v = .bl b
  | .int i,v=>v = .int i
  | .str x,v=>v = .str x
  | .list ds,v=>∃a xs,v = .ref a∧SqL K H a xs∧IsAll K H ds xs
  | .tuple ds,v=>∃a xs,v = .ref a∧SqT K H a xs∧IsAll K H ds xs
  | .dict _,_=>False
def IsAll (K:PySem.W.Frag) (H:Hp):List PyData→List V→Prop
  | [],vs=>vs=[]
  | d::ds,vs=>∃v r,vs=v::r∧Is K H d v∧IsAll K H ds r
end
section
variable {X:Cx} {pins:List (Addr×Obj)} {σ:St} {H:Hp} {s:Shared}
mutual
theorem Is.reads (I:Inv X pins σ H s):∀(d:PyData) (v:V) (u:Value),Is X.K H d v→RelV v u→∃as,Reads s.heap u d as
  | .none,v,u,h,r=>by
    simp only [Is] at h;subst h;cases r;exact ⟨_,.none⟩
  | .bool b,v,u,h,r=>by
    simp only [Is] at h;subst h;cases r;exact ⟨_,.bool b⟩
  | .int i,v,u,h,r=>by
    simp only [Is] at h;subst h;obtain ⟨t,rfl⟩:=r;exact ⟨_,.int i t⟩
  | .str x,v,u,h,r=>by
    simp only [Is] at h;subst h;obtain ⟨t,rfl⟩:=r;exact ⟨_,.str x t⟩
  | .list ds,v,u,h,r=>by
    simp only [Is] at h
    obtain ⟨a,xs,rfl,hq,hs⟩:=h
    cases r
    obtain ⟨its,rv,pl,hz⟩:=I.list hq
    obtain ⟨o,e,c,n,dt⟩:=pl.isList
    obtain ⟨as,ra⟩:=IsAll.reads I ds xs its hs rv
    exact ⟨_,.list e c dt (by simpa using ra)⟩
  | .tuple ds,v,u,h,r=>by
    simp only [Is] at h
    obtain ⟨a,xs,rfl,hq,hs⟩:=h
    cases r
    obtain ⟨its,rv,pl,hz⟩:=I.tuple hq
    obtain ⟨o,e,c,n,dt⟩:=pl
    obtain ⟨as,ra⟩:=IsAll.reads I ds xs its hs rv
    exact ⟨_,.tuple e c dt (by simpa using ra)⟩
  | .dict _,v,u,h,r=>by
    simp only [Is] at h
theorem IsAll.reads (I:Inv X pins σ H s):∀(ds:List PyData) (vs:List V) (us:List Value),IsAll X.K H ds vs→Vals vs us→∃as,ReadsAll s.heap us ds as
  | [],vs,us,h,r=>by
    simp only [IsAll] at h;subst h;cases r;exact ⟨_,.nil⟩
  | d::ds,vs,us,h,r=>by
    simp only [IsAll] at h
    obtain ⟨v,vr,rfl,h1,h2⟩:=h
    cases r with
    | cons r1 r2=>
      obtain ⟨as,ra⟩:=Is.reads I d v _ h1 r1
      obtain ⟨bs,rb⟩:=IsAll.reads I ds vr _ h2 r2
      exact ⟨_,.cons ra rb⟩
end
theorem op_eqD:OpR X (compareOp .Eq) (fun x y H Q=>∃d e,Is X.K H d x∧Is X.K H e y∧d.canLay0=true∧e.canLay0=true∧X.A.units+min d.depth e.depth<cLine∧Q (.bl (PyData.eqv d e)) H):=by
  intro pins s σ H x y v u Q I rx ry h
  obtain ⟨d,e,hx,hy,h1,h2,hu,q⟩:=h
  obtain ⟨as,ra⟩:=hx.reads I d x v rx
  obtain ⟨bs,rb⟩:=hy.reads I e y u ry
  exact SeqAt.compareEq_reads ra rb h1 h2 hu ⟨.bl _,H,I,rfl,q⟩
theorem op_neD:OpR X (compareOp .NotEq) (fun x y H Q=>∃d e,Is X.K H d x∧Is X.K H e y∧d.canLay0=true∧e.canLay0=true∧X.A.units+min d.depth e.depth<cLine∧Q (.bl (!PyData.eqv d e)) H):=by
  intro pins s σ H x y v u Q I rx ry h
  obtain ⟨d,e,hx,hy,h1,h2,hu,q⟩:=h
  obtain ⟨as,ra⟩:=hx.reads I d x v rx
  obtain ⟨bs,rb⟩:=hy.reads I e y u ry
  exact SeqAt.compareNe_reads ra rb h1 h2 hu ⟨.bl _,H,I,rfl,q⟩
end
section
variable {X:Cx}
def rInsert:V→List V→Hp→VK→Prop:=fun x vs H Q=>∃l xs i y,x = .ref l∧vs=[.int i,y]∧H l=some (.lst xs)∧0≤i∧i≤xs.length∧xs.length<sizeLine∧Q .non (upd H l (.lst (xs.take i.toNat++y::xs.drop i.toNat)))
theorem Vals.ins {y:V} {u:Value} (ru:RelV y u):∀{xs:List V} {us:List Value} (i:Nat),Vals xs us→Vals (xs.take i++y::xs.drop i) (us.take i++u::us.drop i):=fun i r=>(r.take i).append (.cons ru (r.drop i))
theorem mt_insert:MtM X "list.insert" rInsert:=by
  intro pins s σ H x vs v us Q I rx rv h
  obtain ⟨l,xs,i,y,rfl,rfl,hH,h0,hi,hz,q⟩:=h
  cases rx
  obtain ⟨u1,u,rfl,⟨t,rfl⟩,ru⟩:=rv.two
  obtain ⟨z,its,n,r,hl,e⟩:=I.lstM hH
  have hn:=line63
  have hfit:¬(!Builtin.List.listFitsIndex i)=true:=by
    unfold Builtin.List.listFitsIndex
    simp
    omega
  refine call_meets F.slot_list_insert ⟨_,e,rfl⟩ F.entry_list_insert (F.args_list_insert_3 _ _ _) (PySem.AutoListH.list_insert_list_int_val_1 l its.toArray n i t u hfit (by rw [List.size_toArray];omega)) ⟨e,?_⟩
  refine ⟨.non,_,I.lset (its':=its.take i.toNat++u::its.drop i.toNat) hH e ?_ (r.ins ru i.toNat) ?_,rfl,q⟩
  · have hm:min i.toNat its.length=i.toNat:=by omega
    simp only [List.size_toArray]
    rw [if_neg (by omega),hm]
    apply Array.toList_inj.mp
    simp
    exact List.take_of_length_le (by simp)
  · simp
    omega
end
section
variable {X:Cx}
def blAll:List V→List Bool→Prop
  | [],bs=>bs=[]
  | x::xs,bs=>∃b r,bs=b::r∧x = .bl b∧blAll xs r
theorem blAll.get:∀{xs:List V} {bs:List Bool} {its:List Value},blAll xs bs→Vals xs its→xs.length=bs.length∧∀(i:Nat) (v:Value),its[i]? = some v→v = .bool (bs.getD i false)
  | [],bs,its,h,r=>by
    cases h;cases r
    exact ⟨rfl,fun i v e=>by simp at e⟩
  | x::xs,bs,its,h,r=>by
    obtain ⟨b,br,rfl,rfl,h⟩:=h
    cases r with
    | cons r1 r2=>
      obtain ⟨h1,h2⟩:=blAll.get h r2
      refine ⟨by simp [h1],fun i v e=>?_⟩
      cases i with
      | zero=>
        simp at e
        subst e
        exact r1
      | succ i=>
        simp at e
        simpa using h2 i v e
theorem range_all (bs:List Bool):(List.range bs.length).all (fun i=>bs.getD i false)=bs.all id:=by
  rw [Bool.eq_iff_iff,List.all_eq_true,List.all_eq_true]
  constructor
  · intro h b hb
    obtain ⟨i,hi,rfl⟩:=List.mem_iff_getElem.mp hb
    have:=h i (List.mem_range.mpr hi)
    simpa [List.getD,hi] using this
  · intro h i hi
    have hi':=List.mem_range.mp hi
    have:=h bs[i] (List.getElem_mem hi')
    simpa [List.getD,hi'] using this
theorem call_allB (hc:X.calm=true):CallR X (.builtin "all") (fun xs H Q=>∃a ys bs,xs=[.ref a]∧H a=some (.lst ys)∧blAll ys bs∧Q (.bl (bs.all id)) H):=by
  intro pins s σ H xs us Q I r h
  obtain ⟨a,ys,bs,rfl,ha,hb,q⟩:=h
  obtain ⟨u,rfl,ru⟩:=r.one
  obtain rfl:u=Value.ref a:=ru
  obtain ⟨z,its,n,rv,hl,e⟩:=I.lstM ha
  obtain ⟨h1,h2⟩:=hb.get rv
  have hL:s.heap.IsList a its.toArray:=⟨_,e,rfl,n,rfl⟩
  refine call_all_walk ?_
  refine wpAny_pyIter_list hL ?_
  have hne:a≠s.heap.objs.size:=Nat.ne_of_lt (Heap.lt_size e)
  have hL2:(s.heap.push {cls:=.type "list_iterator",data:=.fields #[.ref a,.int 0 0]}).IsList a its.toArray:=⟨_,Heap.get?_push_of_some _ e,rfl,n,rfl⟩
  refine ⟨s.heap.objs.size,_,_,_,_,_,fun i=>bs.getD i false,rfl,Walks.list (by exact I.ok.hd hc) s.heap.objs.size a hne its.toArray,⟨⟨_,Heap.get?_push_size _ rfl,rfl,rfl⟩,hL2⟩,fun i v s' Q' E' hP hQ=>?_,fun h' tk kk=>?_⟩
  · obtain rfl:=h2 i v (by simpa using hP)
    exact wpAny_truthy_bool hQ
  · have e2:(List.range its.toArray.size).all (fun i=>bs.getD i false)=bs.all id:=by
      rw [List.size_toArray,← hl,h1];exact range_all bs
    rw [e2]
    refine ⟨.bl _,H,?_,rfl,q⟩
    exact I.kept (h':=h') (t':=tk) fun b o eb=>kk b o (by simp;exact Nat.ne_of_lt (Heap.lt_size eb)) (Heap.get?_push_of_some _ eb)
end
def memK (l:List Key) (k:Key):Bool:=l.any fun x=>decide (x=k)
theorem memK_iff {l:List Key} {k:Key}:memK l k=true↔k∈l:=by
  unfold memK
  rw [List.any_eq_true]
  constructor
  · rintro ⟨x,hx,e⟩
    have e':=of_decide_eq_true e
    subst e'
    exact hx
  · intro h
    exact ⟨k,h,decide_eq_true rfl⟩
theorem memK_app (l:List Key) (x k:Key):memK (l++[x]) k=(memK l k || decide (k=x)):=by
  unfold memK
  rw [List.any_append]
  simp only [List.any_cons,List.any_nil,Bool.or_false]
  congr 1
  exact decide_eq_decide.mpr ⟨fun e=>e.symm,fun e=>e.symm⟩
def uqStep (acc:List Key) (k:Key):List Key:=if memK acc k=true then acc else acc++[k]
def uqN (val:Nat→Key) (i:Nat):List Key:=((List.range i).map val).foldl uqStep []
theorem uqN_succ (val:Nat→Key) (i:Nat):uqN val (i+1)=uqStep (uqN val i) (val i):=by
  unfold uqN
  rw [List.range_succ,List.map_append,List.foldl_append]
  rfl
theorem uqN_le (val:Nat→Key):∀i,(uqN val i).length≤i
  | 0=>Nat.le_refl _
  | i+1=>by
    rw [uqN_succ]
    have ih:=uqN_le val i
    unfold uqStep
    split
    ·omega
    ·rw [List.length_append,List.length_singleton];omega
theorem uq_all (val:Nat→Key):∀n,(∀i j,i<n→j<n→val i=val j→i=j)→(uqN val n).length=n∧∀k,k∈uqN val n→∃i,i<n∧val i=k
  | 0,_=>⟨rfl,fun k h=>by simp [uqN] at h⟩
  | n+1,h=>by
    obtain ⟨h1,h2⟩:=uq_all val n fun i j hi hj=>h i j (by omega) (by omega)
    have hnot:¬memK (uqN val n) (val n)=true:=fun hm=>by
      obtain ⟨i,hi,e⟩:=h2 _ (memK_iff.mp hm)
      have:=h i n (by omega) (by omega) e
      omega
    rw [uqN_succ]
    unfold uqStep
    rw [if_neg hnot]
    refine ⟨by simp [h1],fun k hk=>?_⟩
    rcases List.mem_append.mp hk with z | z
    · obtain ⟨i,hi,e⟩:=h2 k z
      exact ⟨i,by omega,e⟩
    ·exact ⟨n,by omega,(List.mem_singleton.mp z).symm⟩
theorem scan_of {k:Key} {v:Value} (h:keyIs k v=true):v.scannable=true:=by
  rcases keyIs_shape h with ⟨i,t,rfl,rfl⟩ | ⟨x,t,rfl,rfl⟩ <;> rfl
theorem setOf_congr {P:Program} {w:World} {h:Heap} {a:Addr} {S S':Key→Bool} {n n':Nat} (x:h.SetOf (mixKind P w) a S n) (e:∀k,S k=S' k) (en:n=n'):h.SetOf (mixKind P w) a S' n':=by
  have:S=S':=funext e
  subst this
  subst en
  exact x
abbrev SetIs (P:Program) (w:World) (h:Heap) (a:Addr) (l:List Key):Prop:=h.SetOf (mixKind P w) a (memK l) l.length
theorem SetIs.at {P:Program} {w:World} {h h':Heap} {a:Addr} {l:List Key} (x:SetIs P w h a l) (k:∀o,h.get? a=some o→h'.get? a=some o):SetIs P w h' a l:=by
  obtain ⟨o,es,ep,t,e,r⟩:=x
  exact ⟨o,es,ep,t,k o e,r⟩
theorem fresh_set {P:Program} {w:World} {h:Heap} {a:Addr} {led:Bool} (e:h.get? a=some {cls:=.type "set",dict:=none,data:=.set #[] 0 (.fresh 0 0 led)}):SetIs P w h a []:=
  ⟨_,#[],0,.fresh 0 0 led,e,⟨rfl,rfl,rfl⟩,rfl,(fun x hx=>by simp at hx),(fun k=>by simp [memK]),(by unfold scanBound;decide),(by cases led <;> rfl),rfl⟩
section
variable {P:Program} {w:World} {A:Around} {R:Result→Shared→Prop} {I:Addr} {fp wr:List Addr} {n:Nat} {PP:Nat→Value→Prop} {St:Nat→Heap→Prop}
theorem set_loop (W:Walks P w A.in1 I fp wr n PP St) (S:Addr) (hSf:S∉fp) (val:Nat→Key) (hval:∀i v,PP i v→keyIs (val i) v=true) (hb:n+1<scanBound) :
    ∀(k i:Nat) (s:Shared),n - i=k→i≤n→St i s.heap→SetIs P w s.heap S (uqN val i)→
      (∀h' tk,(∀b o,b≠S→b∉wr→s.heap.get? b=some o→h'.get? b=some o)→SetIs P w h' S (uqN val n)→R (.ok (.ret .none)) {s with heap:=h',toks:=tk})→
      codeAny (model P w) A (.builtin "set.update.loop" ⟨[.ref S,.ref I],[]⟩) R s:=by
  have hSw:S∉wr:=fun h=>hSf (W.sub _ h)
  intro k
  induction k with
  | zero=>
    intro i s hk hi hst hS hR
    obtain rfl:i=n:=by omega
    refine codeAny_builtin PyProof.Rows.F.entry_set_update_loop ?_
    rw [Around.under_plainId PyProof.Rows.F.plain_set_update_loop _]
    show wpAny _ A.in1 (pyNext (.ref I) >>= _) _ _ s
    refine wpAny_bind (W.done s _ _ hst fun h' tk hm=>?_)
    exact wpAny_pure (hR h' tk (fun b o _ hb e=>hm b o hb e) (hS.at fun o e=>hm S o hSw e))
  | succ k ih=>
    intro i s hk hi hst hS hR
    have hlt:i<n:=by omega
    refine codeAny_builtin PyProof.Rows.F.entry_set_update_loop ?_
    rw [Around.under_plainId PyProof.Rows.F.plain_set_update_loop _]
    show wpAny _ A.in1 (pyNext (.ref I) >>= _) _ _ s
    refine wpAny_bind (W.item i s _ _ hlt hst fun v h' tk hP hst' hm=>?_)
    have hkey:(mixKind P w).is (val i) v=true:=hval i v hP
    have hS':SetIs P w h' S (uqN val i):=hS.at fun o e=>hm S o hSw e
    show wpAny _ A.in1 (holding [v] (setAdd S v) >>= _) _ _ _
    refine wpAny_bind (wpAny_holding ?_)
    unfold setAdd
    refine wpAny_holding (wpAny_bind ((mixKind P w).pyHash (k:=val i) hkey ?_))
    have hroom:(uqN val i).length+1<scanBound:=by have:=uqN_le val i;omega
    refine wpAny_setAddHashed_of (knd:=mixKind P w) (s:={s with heap:=h',toks:=tk+1}) hkey (scan_of (hval i v hP)) hS' hroom fun h2 hsb hS2=>?_
    have hSi:SetIs P w h2 S (uqN val (i+1)):=by
      refine setOf_congr hS2 (fun k'=>?_) ?_
      · rw [uqN_succ]
        unfold uqStep
        split
        · rename_i hm1
          by_cases e:k'=val i
          ·rw [e,hm1];rfl
          ·rw [decide_eq_false e,Bool.or_false]
        ·exact (memK_app _ _ _).symm
      · rw [uqN_succ]
        unfold uqStep
        split
        ·rfl
        ·rw [List.length_append,List.length_singleton]
    refine wpAny_pure ⟨plainId_quiet PyProof.Rows.F.plain_set_update_loop _,ih (i+1) _ (by omega) hlt (W.frame _ h' _ hst' fun b hb o e=>?_) hSi fun h3 tk3 hm3 hS3=>?_⟩
    ·exact (hsb.2 b (fun z:b=S=>hSf (by rw [← z];exact hb))).trans e
    · refine hR h3 tk3 (fun b o hbS hbw e=>hm3 b o hbS hbw ?_) hS3
      exact (hsb.2 b hbS).trans (hm b o hbw e)
end
theorem sub_list_set':isSubtype (.type "list") (.type "set")=pure false:=by rw [isSubtype_type];kernel_rfl
theorem sub_list_frozen':isSubtype (.type "list") (.type "frozenset")=pure false:=by rw [isSubtype_type];kernel_rfl
set_option maxHeartbeats 4000000 in
theorem set_of_list {P:Program} {w:World} {A:Around} {E:Value→Shared→Prop} {s:Shared} {l:Addr} {its:Array Value} {val:Nat→Key} {Q:Value→Shared→Prop}
    (hh:A.handled=none) (hl:s.heap.IsList l its) (hval:∀i v,its[i]? = some v→keyIs (val i) v=true) (hb:its.size+1<scanBound)
    (h:∀(g:Heap) (tk:Nat),SetIs P w g s.heap.objs.size (uqN val its.size)→(∀b o,s.heap.get? b=some o→g.get? b=some o)→Q (.ref s.heap.objs.size) {s with heap:=g,toks:=tk}) :
    wpAny (model P w) A (call (.type "set") [.ref l]) Q E s:=by
  obtain ⟨c,tl,hmro⟩:=PySem.F.called_set.mro
  have q1:=PySem.F.called_set.made
  have q2:=PySem.F.called_set.sub
  refine wpAny_call (codeAny_of_tree ?_)
  show wpAny _ _ (callAny (.type "set") _) _ _ s
  refine wpAny_pure ⟨Code.quiet_builtin _ (by decide +kernel),codeAny_builtin PySem.F.entry_type_call ?_⟩
  rw [Around.under_plain (weight_type_call_type "set" [.ref l] []) rfl]
  have q3:=PySem.F.called_set.notType
  have q4:=PySem.F.called_set.canCreate
  have q5:=PySem.F.typeCall_set_1 (.ref l)
  repeat (any_goals (first | assumption | wp_step))
  refine codeAny_mono (code_set_new_1 (.ref l) (E:=E) (Q₁:=fun ob s1=>∃led:Bool,ob = .ref s.heap.objs.size∧s1={s with heap:=s.heap.push {cls:=.type "set",dict:=none,data:=.set #[] 0 (.fresh 0 0 led)}}) fun led=>⟨led,rfl,rfl⟩) fun r s1 hr=>?_
  cases r with
  | error e=>exact hr
  | ok fl=>
    cases fl with
    | ret ob=>
      obtain ⟨led,rfl,rfl⟩:=hr
      have new:(s.heap.push {cls:=.type "set",dict:=none,data:=.set #[] 0 (.fresh 0 0 led)}).get? s.heap.objs.size=some {cls:=.type "set",dict:=none,data:=.set #[] 0 (.fresh 0 0 led)}:=Heap.get?_push_size _ rfl
      have ty:Shared.TypeIs {s with heap:=s.heap.push {cls:=.type "set",dict:=none,data:=.set #[] 0 (.fresh 0 0 led)}} (.ref s.heap.objs.size) "set" :=⟨_,new,rfl⟩
      have q6:=PySem.F.called_set.init.lookup
      have q7:=PySem.F.called_set.init.bind (.ref s.heap.objs.size)
      repeat (any_goals (first | assumption | wp_step))
      refine codeAny_mono (codeAny_call_builtin (R:=wants (fun r s2=>r = .none∧∃g tk,s2={s with heap:=g,toks:=tk}∧SetIs P w g s.heap.objs.size (uqN val its.size)∧(∀b o,s.heap.get? b=some o→g.get? b=some o)) E)
        PySem.F.called_set.init.plain PySem.F.entry_set_init (check_set_init_1 ty ?_)) fun r2 s2 hr2=>?_
      · obtain ⟨ol,ho,hcl,nl,hdl⟩:=hl
        obtain ⟨oc,od,odt,osl⟩:=ol
        simp only at hcl hdl
        subst hcl;subst hdl
        have ho2:(s.heap.push {cls:=.type "set",dict:=none,data:=.set #[] 0 (.fresh 0 0 led)}).get? l=some {cls:=.type "list",dict:=od,data:=.seq its nl,slots:=osl}:=Heap.get?_push_of_some _ ho
        have q8:=sub_list_set'
        have q9:=sub_list_frozen'
        have q10:(Value.type "list" == Value.type "dict")=false:=by decide
        have hl1:(s.heap.push {cls:=.type "set",dict:=none,data:=.set #[] 0 (.fresh 0 0 led)}).IsList l its:=⟨_,ho2,rfl,nl,rfl⟩
        unfold Builtin.«set.__init__» noKeywords Builtin.Frozenset.updateFrom
        generalize hPI:pyIter=PI
        wp_walk
        subst hPI
        refine wpAny_pyIter_list hl1 ?_
        refine wpAny_bind (wpAny_runValue ?_)
        have lt1:l<s.heap.objs.size:=Heap.lt_size ho
        have hh3:A.in1.in1.in1.handled=none:=by simp [hh]
        have ne1:l≠(s.heap.push {cls:=.type "set",dict:=none,data:=.set #[] 0 (.fresh 0 0 led)}).objs.size:=by
          rw [Heap.size_push]
          exact Nat.ne_of_lt (Nat.lt_succ_of_lt lt1)
        have nf:s.heap.objs.size∉[(s.heap.push {cls:=.type "set",dict:=none,data:=.set #[] 0 (.fresh 0 0 led)}).objs.size,l]:=by
          rw [Heap.size_push]
          simp only [List.mem_cons,List.mem_singleton,List.not_mem_nil,or_false,not_or]
          exact ⟨Nat.ne_of_lt (Nat.lt_succ_self _),Nat.ne_of_gt lt1⟩
        refine set_loop (Walks.list hh3 _ l ne1 its) s.heap.objs.size nf val hval hb (its.size - 0) 0 _ (by omega) (Nat.zero_le _) ⟨⟨_,Heap.get?_push_size _ rfl,rfl,rfl⟩,hl1.push _⟩ ?hS0 ?hR
        case hS0=>
          have hget:((s.heap.push {cls:=.type "set",dict:=none,data:=.set #[] 0 (.fresh 0 0 led)}).push {cls:=.type "list_iterator",data:=.fields #[.ref l,.int 0 0]}).get? s.heap.objs.size
              = some {cls:=.type "set",dict:=none,data:=.set #[] 0 (.fresh 0 0 led)}:=Heap.get?_push_of_some _ new
          exact fresh_set hget
        case hR=>
          intro g tk hm hS
          show wpAny _ _ _ _ _ _
          refine wpAny_pure ?_
          show wpAny _ _ (ret Value.none) _ _ _
          refine wpAny_pure ⟨rfl,g,tk,rfl,hS,fun b o e=>?_⟩
          have lb:b<s.heap.objs.size:=Heap.lt_size e
          refine hm b o (Nat.ne_of_lt lb) ?_ (Heap.get?_push_of_some _ (Heap.get?_push_of_some _ e))
          simp only [List.mem_cons,List.not_mem_nil,or_false]
          rw [Heap.size_push]
          exact Nat.ne_of_lt (Nat.lt_succ_of_lt lb)
      · cases r2 with
        | error e=>exact hr2
        | ok fl2=>
          cases fl2 with
          | ret r=>
            obtain ⟨rfl,g,tk,rfl,hS,hk⟩:=hr2
            repeat (any_goals (first | assumption | wp_step))
            exact h _ _ hS hk
          | _=>exact hr2.elim
    | _=>exact hr.elim
theorem sub_tuple_set':isSubtype (.type "tuple") (.type "set")=pure false:=by rw [isSubtype_type];kernel_rfl
theorem sub_tuple_frozen':isSubtype (.type "tuple") (.type "frozenset")=pure false:=by rw [isSubtype_type];kernel_rfl
set_option maxHeartbeats 4000000 in
theorem set_of_tuple {P:Program} {w:World} {A:Around} {E:Value→Shared→Prop} {s:Shared} {l:Addr} {its:Array Value} {val:Nat→Key} {Q:Value→Shared→Prop}
    (hh:A.handled=none) (hl:s.heap.IsTuple l its) (hval:∀i v,its[i]? = some v→keyIs (val i) v=true) (hb:its.size+1<scanBound)
    (h:∀(g:Heap) (tk:Nat),SetIs P w g s.heap.objs.size (uqN val its.size)→(∀b o,s.heap.get? b=some o→g.get? b=some o)→Q (.ref s.heap.objs.size) {s with heap:=g,toks:=tk}) :
    wpAny (model P w) A (call (.type "set") [.ref l]) Q E s:=by
  obtain ⟨c,tl,hmro⟩:=PySem.F.called_set.mro
  have q1:=PySem.F.called_set.made
  have q2:=PySem.F.called_set.sub
  refine wpAny_call (codeAny_of_tree ?_)
  show wpAny _ _ (callAny (.type "set") _) _ _ s
  refine wpAny_pure ⟨Code.quiet_builtin _ (by decide +kernel),codeAny_builtin PySem.F.entry_type_call ?_⟩
  rw [Around.under_plain (weight_type_call_type "set" [.ref l] []) rfl]
  have q3:=PySem.F.called_set.notType
  have q4:=PySem.F.called_set.canCreate
  have q5:=PySem.F.typeCall_set_1 (.ref l)
  repeat (any_goals (first | assumption | wp_step))
  refine codeAny_mono (code_set_new_1 (.ref l) (E:=E) (Q₁:=fun ob s1=>∃led:Bool,ob = .ref s.heap.objs.size∧s1={s with heap:=s.heap.push {cls:=.type "set",dict:=none,data:=.set #[] 0 (.fresh 0 0 led)}}) fun led=>⟨led,rfl,rfl⟩) fun r s1 hr=>?_
  cases r with
  | error e=>exact hr
  | ok fl=>
    cases fl with
    | ret ob=>
      obtain ⟨led,rfl,rfl⟩:=hr
      have new:(s.heap.push {cls:=.type "set",dict:=none,data:=.set #[] 0 (.fresh 0 0 led)}).get? s.heap.objs.size=some {cls:=.type "set",dict:=none,data:=.set #[] 0 (.fresh 0 0 led)}:=Heap.get?_push_size _ rfl
      have ty:Shared.TypeIs {s with heap:=s.heap.push {cls:=.type "set",dict:=none,data:=.set #[] 0 (.fresh 0 0 led)}} (.ref s.heap.objs.size) "set" :=⟨_,new,rfl⟩
      have q6:=PySem.F.called_set.init.lookup
      have q7:=PySem.F.called_set.init.bind (.ref s.heap.objs.size)
      repeat (any_goals (first | assumption | wp_step))
      refine codeAny_mono (codeAny_call_builtin (R:=wants (fun r s2=>r = .none∧∃g tk,s2={s with heap:=g,toks:=tk}∧SetIs P w g s.heap.objs.size (uqN val its.size)∧(∀b o,s.heap.get? b=some o→g.get? b=some o)) E)
        PySem.F.called_set.init.plain PySem.F.entry_set_init (check_set_init_1 ty ?_)) fun r2 s2 hr2=>?_
      · obtain ⟨ol,ho,hcl,nl,hdl⟩:=hl
        obtain ⟨oc,od,odt,osl⟩:=ol
        simp only at hcl hdl
        subst hcl;subst hdl
        have ho2:(s.heap.push {cls:=.type "set",dict:=none,data:=.set #[] 0 (.fresh 0 0 led)}).get? l=some {cls:=.type "tuple",dict:=od,data:=.seq its nl,slots:=osl}:=Heap.get?_push_of_some _ ho
        have q8:=sub_tuple_set'
        have q9:=sub_tuple_frozen'
        have q10:(Value.type "tuple" == Value.type "dict")=false:=by decide
        have hl1:(s.heap.push {cls:=.type "set",dict:=none,data:=.set #[] 0 (.fresh 0 0 led)}).IsTuple l its:=⟨_,ho2,rfl,nl,rfl⟩
        unfold Builtin.«set.__init__» noKeywords Builtin.Frozenset.updateFrom
        generalize hPI:pyIter=PI
        wp_walk
        subst hPI
        refine wpAny_pyIter_tuple hl1 ?_
        refine wpAny_bind (wpAny_runValue ?_)
        have lt1:l<s.heap.objs.size:=Heap.lt_size ho
        have hh3:A.in1.in1.in1.handled=none:=by simp [hh]
        have ne1:l≠(s.heap.push {cls:=.type "set",dict:=none,data:=.set #[] 0 (.fresh 0 0 led)}).objs.size:=by
          rw [Heap.size_push]
          exact Nat.ne_of_lt (Nat.lt_succ_of_lt lt1)
        have nf:s.heap.objs.size∉[(s.heap.push {cls:=.type "set",dict:=none,data:=.set #[] 0 (.fresh 0 0 led)}).objs.size,l]:=by
          rw [Heap.size_push]
          simp only [List.mem_cons,List.mem_singleton,List.not_mem_nil,or_false,not_or]
          exact ⟨Nat.ne_of_lt (Nat.lt_succ_self _),Nat.ne_of_gt lt1⟩
        refine set_loop (Walks.tuple hh3 _ l ne1 its) s.heap.objs.size nf val hval hb (its.size - 0) 0 _ (by omega) (Nat.zero_le _) ⟨⟨_,Heap.get?_push_size _ rfl,rfl,rfl⟩,⟨_,Heap.get?_push_of_some _ ho2,rfl,nl,rfl⟩⟩ ?hS0 ?hR
        case hS0=>
          have hget:((s.heap.push {cls:=.type "set",dict:=none,data:=.set #[] 0 (.fresh 0 0 led)}).push {cls:=.type "tuple_iterator",data:=.fields #[.ref l,.int 0 0]}).get? s.heap.objs.size
              = some {cls:=.type "set",dict:=none,data:=.set #[] 0 (.fresh 0 0 led)}:=Heap.get?_push_of_some _ new
          exact fresh_set hget
        case hR=>
          intro g tk hm hS
          show wpAny _ _ _ _ _ _
          refine wpAny_pure ?_
          show wpAny _ _ (ret Value.none) _ _ _
          refine wpAny_pure ⟨rfl,g,tk,rfl,hS,fun b o e=>?_⟩
          have lb:b<s.heap.objs.size:=Heap.lt_size e
          refine hm b o (Nat.ne_of_lt lb) ?_ (Heap.get?_push_of_some _ (Heap.get?_push_of_some _ e))
          simp only [List.mem_cons,List.not_mem_nil,or_false]
          rw [Heap.size_push]
          exact Nat.ne_of_lt (Nat.lt_succ_of_lt lb)
      · cases r2 with
        | error e=>exact hr2
        | ok fl2=>
          cases fl2 with
          | ret r=>
            obtain ⟨rfl,g,tk,rfl,hS,hk⟩:=hr2
            repeat (any_goals (first | assumption | wp_step))
            exact h _ _ hS hk
          | _=>exact hr2.elim
    | _=>exact hr.elim
def setO (P:Program) (w:World) (a:Addr) (l:List Key):HO:=.ext fun h=>SetIs P w h a l
section
variable {X:Cx}
def keysOf:List V→List Key
  | []=>[]
  | .int i::r=>.inl i::keysOf r
  | .str x::r=>.inr x::keysOf r
  | _::r=>keysOf r
def isKey:V→Bool
  | .int _=>true
  | .str _=>true
  | _=>false
theorem keys_at:∀{xs:List V} {its:List Value},xs.all isKey=true→Vals xs its→(keysOf xs).length=its.length∧∀(i:Nat) (v:Value),its[i]? = some v→keyIs ((keysOf xs).getD i (.inl 0)) v=true
  | [],_,_,.nil=>⟨rfl,fun i v e=>by simp at e⟩
  | x::xs,u::us,h,.cons r1 r2=>by
    rw [List.all_cons,Bool.and_eq_true] at h
    obtain ⟨h1,h2⟩:=keys_at h.2 r2
    cases x with
    | int i=>
      obtain ⟨t,rfl⟩:=r1
      refine ⟨by simp [keysOf,h1],fun j v e=>?_⟩
      cases j with
      | zero=>simp at e;subst e;exact keyIs_int i t
      | succ j=>simp at e;simpa [keysOf] using h2 j v e
    | str z=>
      obtain ⟨t,rfl⟩:=r1
      refine ⟨by simp [keysOf,h1],fun j v e=>?_⟩
      cases j with
      | zero=>simp at e;subst e;exact keyIs_str z t
      | succ j=>simp at e;simpa [keysOf] using h2 j v e
    | _=>exact absurd (show false=true from h.1) Bool.false_ne_true
theorem call_setK (hc:X.calm=true):CallR X (.type "set") (fun xs H Q=>∃a ys,xs=[.ref a]∧(SqL X.K H a ys∨SqT X.K H a ys)∧ys.all isKey=true∧ys.length+1<scanBound∧
    ∀p,H p=none→Q (.ref p) (upd H p (setO X.prog X.w p (uqN (fun i=>(keysOf ys).getD i (.inl 0)) ys.length)))):=by
  intro pins s σ H xs us Q I r h
  obtain ⟨a,ys,rfl,hq,hk,hb,q⟩:=h
  obtain ⟨u,rfl,ru⟩:=r.one
  obtain rfl:u=Value.ref a:=ru
  have fin:∀(g:Heap) (tk:Nat),SetIs X.prog X.w g s.heap.objs.size (uqN (fun i=>(keysOf ys).getD i (.inl 0)) ys.length)→(∀b o,s.heap.get? b=some o→g.get? b=some o)→EP X pins σ Q (.ref s.heap.objs.size) {s with heap:=g,toks:=tk}:=fun g tk hS kk=>by
    have hn:H s.heap.objs.size=none:=I.hok.fresh (Nat.le_refl _)
    refine ⟨.ref s.heap.objs.size,_,I.laid (o:=setO X.prog X.w s.heap.objs.size (uqN (fun i=>(keysOf ys).getD i (.inl 0)) ys.length)) (fun b o e=>kk b o e) (Nat.le_refl _) ⟨hS,?_,fun h1 h2 p k=>p.at k⟩,rfl,q _ hn⟩
    obtain ⟨o,_,_,_,e,_⟩:=hS
    exact ⟨o,e⟩
  rcases hq with hq | hq
  · obtain ⟨its,rv,pl,hz⟩:=I.list hq
    obtain ⟨h1,h2⟩:=keys_at hk rv
    have hl:=rv.length
    refine set_of_list (val:=fun i=>(keysOf ys).getD i (.inl 0)) (I.ok.hd hc) pl.isList (fun i v e=>h2 i v (by simpa using e)) (by rw [List.size_toArray];omega) fun g tk hS kk=>fin g tk ?_ kk
    have ez:its.toArray.size=ys.length:=by rw [List.size_toArray,hl]
    rw [ez] at hS
    exact hS
  · obtain ⟨its,rv,pl,hz⟩:=I.tuple hq
    obtain ⟨h1,h2⟩:=keys_at hk rv
    have hl:=rv.length
    refine set_of_tuple (val:=fun i=>(keysOf ys).getD i (.inl 0)) (I.ok.hd hc) (show s.heap.IsTuple a its.toArray from pl) (fun i v e=>h2 i v (by simpa using e)) (by rw [List.size_toArray];omega) fun g tk hS kk=>fin g tk ?_ kk
    have ez:its.toArray.size=ys.length:=by rw [List.size_toArray,hl]
    rw [ez] at hS
    exact hS
theorem call_lenS:CallR X (.builtin "len") (fun xs H Q=>∃a l,xs=[.ref a]∧H a=some (setO X.prog X.w a l)∧Q (.int l.length) H):=by
  intro pins s σ H xs us Q I r h
  obtain ⟨a,l,rfl,ha,q⟩:=h
  obtain ⟨u,rfl,ru⟩:=r.one
  obtain rfl:u=Value.ref a:=ru
  obtain ⟨⟨o,es,ep,t,e,ex,hd,_,_,hsz,hf,hn⟩,_⟩:=(show ObjOk X.prog X.w H s.heap a (setO X.prog X.w a l) from I.hok a _ ha)
  refine call_len_set e ex hd hf (by unfold scanBound at hsz;omega) ⟨.int l.length,H,I.tok _,⟨_,by rw [hn]⟩,q⟩
end
section
variable {X:Cx}
def rAddS:R2:=fun x y H Q=>∃i j,x = .str i∧y = .str j∧i.length+j.length≤sizeLine∧Q (.str (i++j)) H
def rInS:R2:=fun x y H Q=>∃i j,x = .str i∧y = .str j∧Q (.bl (!(Builtin.Str.occurrences j i 0 j.length 1).isEmpty)) H
def rNotInS:R2:=fun x y H Q=>∃i j,x = .str i∧y = .str j∧Q (.bl (!(!(Builtin.Str.occurrences j i 0 j.length 1).isEmpty))) H
def rInA (K:PySem.W.Frag):R2:=fun x y H Q=>rIn K false x y H Q∨rInS x y H Q
def rNotInA (K:PySem.W.Frag):R2:=fun x y H Q=>rIn K true x y H Q∨rNotInS x y H Q
theorem opA_in:OpR X (compareOp .In) (rInA X.K):=op_in_seq.or op_in_str
theorem opA_notin:OpR X (compareOp .NotIn) (rNotInA X.K):=op_notIn_seq.or op_notIn_str
def rIxQ (K:PySem.W.Frag):R2:=fun x y H Q=>∃p xs i v,x = .ref p∧y = .int i∧(SqL K H p xs∨SqT K H p xs)∧atI xs i=some v∧Q v H
theorem ixQ:IxR X (rIxQ X.K):=by
  intro value slice pins s σ H x y v u Q I rx ry h hs
  obtain ⟨p,xs,i,z,e1,e2,hq | hq,e3,q⟩:=h
  ·exact ix_list value slice pins s σ H x y v u Q I rx ry ⟨p,xs,i,z,e1,e2,hq,e3,q⟩ hs
  ·exact ix_tup value slice pins s σ H x y v u Q I rx ry ⟨p,xs,i,z,e1,e2,hq,e3,q⟩ hs
def rLenQ (K:PySem.W.Frag):List V→Hp→VK→Prop:=fun xs H Q=>∃p ys,xs=[.ref p]∧(SqL K H p ys∨SqT K H p ys)∧Q (.int ys.length) H
def rLenT:List V→Hp→VK→Prop:=fun xs H Q=>∃z,xs=[.str z]∧z.length≤sizeLine∧Q (.int z.length) H
variable {K:PySem.W.Frag}
theorem ixQk (hK:X.K=K):IxR X (rIxQ K):=by subst hK;exact ixQ
theorem inK (hK:X.K=K):OpR X (compareOp .In) (rInA K):=by subst hK;exact opA_in
theorem notinK (hK:X.K=K):OpR X (compareOp .NotIn) (rNotInA K):=by subst hK;exact opA_notin
theorem lenQk (hK:X.K=K):CallR X (.builtin "len") (rLenQ K):=by subst hK;exact call_len_seq
theorem lenTk:CallR X (.builtin "len") rLenT:=call_len_str
def rListOf (K:PySem.W.Frag):List V→Hp→VK→Prop:=fun xs H Q=>∃p ys,xs=[.ref p]∧(SqL K H p ys∨SqT K H p ys)∧∀l,H l=none→Q (.ref l) (upd H l (.lst ys))
theorem listOfk (hK:X.K=K):CallR X (.type "list") (rListOf K):=by subst hK;exact call_list_of
def rIsiT (K:PySem.W.Frag):List V→Hp→VK→Prop:=fun xs H Q=>∃x n t b,xs=[x,.ty n]∧TyOf K H x t∧PySem.W.kitOne K t (.type n)=some b∧Q (.bl b) H
theorem isiTk (hK:X.K=K):CallR X (.builtin "isinstance") (rIsiT K):=by subst hK;exact call_isiT
def rIsi2 (K:PySem.W.Frag):List V→Hp→VK→Prop:=fun xs H Q=>∃x p m n t b,xs=[x,.ref p]∧H p=some (.tup [.ty m,.ty n])∧TyOf K H x t∧PySem.W.kitAny K t [.type m,.type n]=some b∧Q (.bl b) H
theorem isi2k (hK:X.K=K):CallR X (.builtin "isinstance") (rIsi2 K):=by subst hK;exact call_isi2
theorem pg_tupk (hK:X.K=K) {es:List Expr} {k:Nat} {pos:Pos} {t:TGs} {n:Nat} (hc:X.calm=true) (h:PGs X es t)
    (hn:(assignEach es X.env).length=n:=by rfl) (hst:(assignEach es X.env).findIdx? (·.1)=none:=by rfl):PG X (.Tuple es k pos) (gTup K n t):=by subst hK;exact pg_tup hc h hn hst
theorem pi_listk (hK:X.K=K) {tg l:Expr} {tl:TE} (hl:PE X l tl):PI X tg l (iList K tl):=by subst hK;exact pi_list hl
theorem pi_tupk (hK:X.K=K) {tg l:Expr} {tl:TE} (hl:PE X l tl):PI X tg l (iTup K tl):=by subst hK;exact pi_tup hl
theorem pe_fldk (hK:X.K=K) {e:Expr} {ta:TE} {f:Str} {pos:Pos} (he:PE X e ta) (hb:attributeBase e f X.env (eval e X.env)=eval e X.env):PE X (.Attribute e f pos) (tFld K ta f):=by subst hK;exact pe_fld he hb
theorem pe_bmk (hK:X.K=K) {o e:Expr} {es:List Expr} {to:TE} {t:TA} {name:Str} {apos cpos:Pos} {T id:String} {r:V→List V→Hp→VK→Prop} (pa:PlainAttrs T) (slot:Slot T name id) (hty:typeOf (.builtin id)=pure (.type "method_descriptor")) (hm:MtR X id r) (ho:PE X o to) (ha:PA X (e::es) t)
    (hbase:attributeBase o name X.env (eval o X.env)=eval o X.env:=by rfl)
    (hfew:((backTo cpos (starEach (e::es) X.env)).all (fun x=>!x.1) && (backToKw cpos (keywordEach [] X.env)).all (fun x=>x.1.isSome)
      && decide ((e::es).length+([]:List Keyword).length+(if ([]:List Keyword).isEmpty then 0 else 1)<30))=true:=by rfl)
    (hline:(apos.endLine == cpos.line)=true:=by rfl) (hs:starEach (e::es) X.env=(false,eval e X.env)::starEach es X.env:=by rfl) (hplain:(backTo cpos (starEach es X.env)).any (·.1)=false:=by rfl) :
    PE X (.Call (.Attribute o name apos) (e::es) [] cpos) (tBM K T r to t):=by subst hK;exact pe_bm pa slot hty hm ho ha hbase hfew hline hs hplain
theorem boot_all':bootBuiltins "all" = some (.builtin "all"):=by decide +kernel
theorem boot_max:bootBuiltins "max" = some (.builtin "max"):=by decide +kernel
theorem boot_min:bootBuiltins "min" = some (.builtin "min"):=by decide +kernel
theorem boot_abs:bootBuiltins "abs" = some (.builtin "abs"):=by decide +kernel
theorem boot_divmod:bootBuiltins "divmod" = some (.builtin "divmod"):=by decide +kernel
end
structure Nm (mg:Str→Option Value):Prop where
  len:mg "len" = none
  max:mg "max" = none
  min:mg "min" = none
  abs:mg "abs" = none
  divmod:mg "divmod" = none
  range:mg "range" = none
  zip:mg "zip" = none
  list:mg "list" = none
  tuple:mg "tuple" = none
  int:mg "int" = none
  str:mg "str" = none
  set:mg "set" = none
  all:mg "all" = none
  isinstance:mg "isinstance" = none
section
variable {K:PySem.W.Frag} {own:List Str} {caps:List Nat} {g:TG} {tt:TT} {te:TE} {D:Addr} {σ:St} {H:Hp} {Q:Hp→Prop}
abbrev CTurn (g:TG) (tt:TT) (te:TE) (D:Addr) (N:St→Hp→Prop) (x:V) (σ:St) (H:Hp):Prop:=
  g x σ H fun σ2 H3=>tt σ2 H3 fun b H4=>if b=true then te σ2 H4 fun y H5=>∃ys,H5 D=some (.lst ys)∧ys.length<sizeLine∧N σ2 (upd H5 D (.lst (ys++[y]))) else N σ2 H4
theorem comp_list {l:Addr} {xs:List V} (Pv:Nat→St→Hp→Prop) (h0:Pv 0 (stC own caps σ) H) (hl:∀i σ H,i≤xs.length→Pv i σ H→SqL K H l xs)
    (hs:∀i x σ H,xs[i]? = some x→Pv i σ H→CTurn g tt te D (Pv (i+1)) x σ H) (hd:∀σ H,Pv xs.length σ H→Q H):tCompAt own caps (Itl K l) g tt te D σ H Q:=by
  refine ⟨fun i m σ H=>m=xs.length - i∧i≤xs.length∧Pv i σ H,⟨xs.length,by simp,Nat.zero_le _,h0⟩,?_⟩
  rintro i m σ H ⟨rfl,hi,p⟩
  have q:=hl i σ H hi p
  by_cases hlt:i<xs.length
  · refine .inr ⟨⟨xs,xs[i],q,by simp [hlt]⟩,Pv (i+1),fun σ' H' p'=>⟨xs.length - (i+1),by omega,rfl,hlt,p'⟩,fun x H' y=>?_⟩
    obtain ⟨e,y⟩:=y
    subst e
    exact hs i x σ _ (y xs q) p
  · have e:i=xs.length:=by omega
    subst e
    exact .inl ⟨⟨xs,q,Nat.le_refl _⟩,hd σ H p⟩
theorem comp_tup {l:Addr} {xs:List V} (Pv:Nat→St→Hp→Prop) (h0:Pv 0 (stC own caps σ) H) (hl:∀i σ H,i≤xs.length→Pv i σ H→SqT K H l xs)
    (hs:∀i x σ H,xs[i]? = some x→Pv i σ H→CTurn g tt te D (Pv (i+1)) x σ H) (hd:∀σ H,Pv xs.length σ H→Q H):tCompAt own caps (Itt K l) g tt te D σ H Q:=by
  refine ⟨fun i m σ H=>m=xs.length - i∧i≤xs.length∧Pv i σ H,⟨xs.length,by simp,Nat.zero_le _,h0⟩,?_⟩
  rintro i m σ H ⟨rfl,hi,p⟩
  have q:=hl i σ H hi p
  by_cases hlt:i<xs.length
  · refine .inr ⟨⟨xs,xs[i],q,by simp [hlt]⟩,Pv (i+1),fun σ' H' p'=>⟨xs.length - (i+1),by omega,rfl,hlt,p'⟩,fun x H' y=>?_⟩
    obtain ⟨e,y⟩:=y
    subst e
    exact hs i x σ _ (y xs q) p
  · have e:i=xs.length:=by omega
    subst e
    exact .inl ⟨⟨xs,q,Nat.le_refl _⟩,hd σ H p⟩
theorem comp_range {lo:Int} {n:Nat} (Pv:Nat→St→Hp→Prop) (h0:Pv 0 (stC own caps σ) H)
    (hs:∀i σ H,i<n→Pv i σ H→CTurn g tt te D (Pv (i+1)) (.int (lo+i)) σ H) (hd:∀σ H,Pv n σ H→Q H):tCompAt own caps (Itr lo n) g tt te D σ H Q:=by
  refine ⟨fun i m σ H=>m=n - i∧i≤n∧Pv i σ H,⟨n,by simp,Nat.zero_le _,h0⟩,?_⟩
  rintro i m σ H ⟨rfl,hi,p⟩
  by_cases hlt:i<n
  · refine .inr ⟨hlt,Pv (i+1),fun σ' H' p'=>⟨n - (i+1),by omega,rfl,hlt,p'⟩,fun x H' y=>?_⟩
    obtain ⟨e,y⟩:=y
    subst e y
    exact hs i σ _ hlt p
  · have e:i=n:=by omega
    subst e
    exact .inl ⟨Nat.le_refl _,hd σ H p⟩
theorem comp_str {z:Str} (Pv:Nat→St→Hp→Prop) (h0:Pv 0 (stC own caps σ) H)
    (hs:∀i c σ H,z.cps[i]? = some c→Pv i σ H→CTurn g tt te D (Pv (i+1)) (.str ⟨#[c]⟩) σ H) (hd:∀σ H,Pv z.cps.size σ H→Q H):tCompAt own caps (Its z) g tt te D σ H Q:=by
  refine ⟨fun i m σ H=>m=z.cps.size - i∧i≤z.cps.size∧Pv i σ H,⟨z.cps.size,by simp,Nat.zero_le _,h0⟩,?_⟩
  rintro i m σ H ⟨rfl,hi,p⟩
  by_cases hlt:i<z.cps.size
  · refine .inr ⟨hlt,Pv (i+1),fun σ' H' p'=>⟨z.cps.size - (i+1),by omega,rfl,hlt,p'⟩,fun x H' y=>?_⟩
    obtain ⟨e,c,hc,rfl⟩:=y
    subst e
    exact hs i c σ _ hc p
  · have e:i=z.cps.size:=by omega
    subst e
    exact .inl ⟨Nat.le_refl _,hd σ H p⟩
theorem comp_zip {l1 l2:Addr} {xs ys:List V} (Pv:Nat→St→Hp→Prop) (h0:Pv 0 (stC own caps σ) H) (he:xs.length=ys.length) (hl:∀i σ H,i≤xs.length→Pv i σ H→SqL K H l1 xs∧SqL K H l2 ys)
    (hs:∀i x y t σ H,xs[i]? = some x→ys[i]? = some y→H t=none→Pv i σ H→CTurn g tt te D (Pv (i+1)) (.ref t) σ (upd H t (.tup [x,y]))) (hd:∀σ H,Pv xs.length σ H→Q H):tCompAt own caps (Itz K l1 l2) g tt te D σ H Q:=by
  refine ⟨fun i m σ H=>m=xs.length - i∧i≤xs.length∧Pv i σ H,⟨xs.length,by simp,Nat.zero_le _,h0⟩,?_⟩
  rintro i m σ H ⟨rfl,hi,p⟩
  obtain ⟨q1,q2⟩:=hl i σ H hi p
  by_cases hlt:i<xs.length
  · have hlt2:i<ys.length:=by omega
    refine .inr ⟨⟨xs,ys,xs[i],ys[i],q1,q2,by simp [hlt],by simp [hlt2]⟩,Pv (i+1),fun σ' H' p'=>⟨xs.length - (i+1),by omega,rfl,hlt,p'⟩,fun x H' y=>?_⟩
    obtain ⟨t,u,v,rfl,ht,rfl,e1,e2⟩:=y
    exact hs i u v t σ H (e1 xs q1) (e2 ys q2) ht p
  · have e:i=xs.length:=by omega
    subst e
    exact .inl ⟨⟨xs,ys,q1,q2,.inl (Nat.le_refl _)⟩,hd σ H p⟩
end
def SqB (b:Bool) (K:PySem.W.Frag) (H:Hp) (p:Addr) (xs:List V):Prop:=match b with | true=>SqL K H p xs | false=>SqT K H p xs
def Itq (b:Bool) (K:PySem.W.Frag) (p:Addr):It:=match b with | true=>Itl K p | false=>Itt K p
def iSeq (K:PySem.W.Frag) (tl:TE):TI:=fun σ H R=>tl σ H fun x H1=>∃b p,x = .ref p∧(∃xs,SqB b K H1 p xs)∧R (Itq b K p) H1
theorem pi_seqk {X:Cx} {K:PySem.W.Frag} (hK:X.K=K) {tg l:Expr} {tl:TE} (hl:PE X l tl):PI X tg l (iSeq K tl):=by
  intro pins s σ H R I h
  refine thn (hl pins s σ H _ I h) fun v s1 zz=>?_
  obtain ⟨x,H1,I1,r1,q1⟩:=zz
  obtain ⟨b,p,e,hq,q⟩:=q1
  subst e
  subst hK
  cases b with
  | true=>
    cases r1
    obtain ⟨xs,hq⟩:=hq
    obtain ⟨its,rv,pl,hz⟩:=I1.list hq
    refine wpAny_pyIter_list pl.isList ?_
    refine ⟨s1.heap.objs.size,[s1.heap.objs.size],_,_,H1,rfl,I1.kept (t':=s1.toks) fun b o e=>Heap.get?_push_of_some _ e,turn_list p _,⟨_,Heap.get?_push_size _ rfl,rfl,rfl⟩,fun b hb=>?_,q⟩
    have e:b=s1.heap.objs.size:=by simpa using hb
    subst e
    exact I1.fpOk (Nat.le_refl _) (I1.hok.fresh (Nat.le_refl _))
  | false=>
    cases r1
    obtain ⟨xs,hq⟩:=hq
    obtain ⟨its,rv,pl,hz⟩:=I1.tuple hq
    refine wpAny_pyIter_tuple (show s1.heap.IsTuple p its.toArray from pl) ?_
    refine ⟨s1.heap.objs.size,[s1.heap.objs.size],_,_,H1,rfl,I1.kept (t':=s1.toks) fun b o e=>Heap.get?_push_of_some _ e,turn_tuple p _,⟨_,Heap.get?_push_size _ rfl,rfl,rfl⟩,fun b hb=>?_,q⟩
    have e:b=s1.heap.objs.size:=by simpa using hb
    subst e
    exact I1.fpOk (Nat.le_refl _) (I1.hok.fresh (Nat.le_refl _))
section
variable {K:PySem.W.Frag} {own:List Str} {caps:List Nat} {g:TG} {tt:TT} {te:TE} {D:Addr} {σ:St} {H:Hp} {Q:Hp→Prop}
theorem comp_seq {b:Bool} {l:Addr} {xs:List V} (Pv:Nat→St→Hp→Prop) (h0:Pv 0 (stC own caps σ) H) (hl:∀i σ H,i≤xs.length→Pv i σ H→SqB b K H l xs)
    (hs:∀i x σ H,xs[i]? = some x→Pv i σ H→CTurn g tt te D (Pv (i+1)) x σ H) (hd:∀σ H,Pv xs.length σ H→Q H):tCompAt own caps (Itq b K l) g tt te D σ H Q:=by
  cases b with
  | true=>exact comp_list Pv h0 hl hs hd
  | false=>exact comp_tup Pv h0 hl hs hd
end
theorem same_upd {H:Hp} {p:Addr} {o:HO} (h:H p=none):Same H (upd H p o):=fun b u e=>by rw [upd_ne (ne_of_none e h)];exact e
theorem same_upd2 {H H':Hp} {p:Addr} {o:HO} (s:Same H H') (h:H p=none):Same H (upd H' p o):=fun b u e=>by rw [upd_ne (ne_of_none e h)];exact s b u e
def Sq (H:Hp) (p:Addr) (xs:List V):Prop:=H p=some (.lst xs)∨H p=some (.tup xs)
theorem Sq.q {K:PySem.W.Frag} {H:Hp} {p:Addr} {xs:List V} (h:Sq H p xs):SqL K H p xs∨SqT K H p xs:=h.elim (fun e=>.inl (SqL.of e)) fun e=>.inr (SqT.of e)
theorem Sq.b {H:Hp} {p:Addr} {xs:List V} (h:Sq H p xs):∃b,∀K H',Same H H'→SqB b K H' p xs:=h.elim (fun e=>⟨true,fun _ _ s=>SqL.of (s _ _ e)⟩) fun e=>⟨false,fun _ _ s=>SqT.of (s _ _ e)⟩
theorem Sq.same {H H':Hp} {p:Addr} {xs:List V} (h:Sq H p xs) (s:Same H H'):Sq H' p xs:=h.elim (fun e=>.inl (s _ _ e)) fun e=>.inr (s _ _ e)
theorem Sq.ty {K:PySem.W.Frag} {H:Hp} {p:Addr} {xs:List V} (h:Sq H p xs):TyOf K H (.ref p) (.type "list")∨TyOf K H (.ref p) (.type "tuple"):=h.elim (fun e=>.inl (.lst e)) fun e=>.inr (.tup e)
theorem blAll_map {α:Type} (f:α→Bool):∀l:List α,blAll (l.map fun c=>.bl (f c)) (l.map f)
  | []=>rfl
  | c::l=>⟨f c,l.map f,rfl,rfl,blAll_map f l⟩
theorem all_map_id {α:Type} (f:α→Bool) (l:List α):(l.map f).all id=l.all f:=by
  rw [List.all_map]
  rfl
theorem take_one {α:Type} {l:List α} {i:Nat} {x:α} (h:l[i]? = some x):l.take (i+1)=l.take i++[x]:=by
  rw [List.take_succ,h]
  rfl
def rTupleS:List V→Hp→VK→Prop:=fun xs H Q=>∃p ys,xs=[.ref p]∧Sq H p ys∧∀l H',H' l=some (.tup ys)→Same H H'→Q (.ref l) H'
theorem tupleOfS {X:Cx}:CallR X (.type "tuple") rTupleS:=by
  intro pins s σ H xs us Q I r h
  obtain ⟨p,ys,rfl,hq,q⟩:=h
  refine call_tuple_of pins s σ H _ us Q I r ⟨p,ys,rfl,?_⟩
  rcases hq with e | e
  ·exact .inl ⟨SqL.of e,fun l hl=>q l _ upd_same (same_upd hl)⟩
  ·exact .inr ⟨SqT.of e,q p H e (Same.refl H)⟩
def tForAt (J:It) (g:TG) (tb:TS):TS:=fun D σ H=>∃W:Nat→Nat→St→Hp→Prop,(∃m,W 0 m σ H)∧∀i m σ H,W i m σ H→
      (J.stop i H∧D.nx σ H)∨(J.go i H∧∃N:St→Hp→Prop,(∀σ' H',N σ' H'→∃m',m'<m∧W (i+1) m' σ' H')∧∀x H',J.yld i H x H'→g x σ H' fun σ2 H2=>tb {D with nx:=N,ct:=N,bk:=D.nx} σ2 H2)
theorem upd_old {H:Hp} {b p:Addr} {o u:HO} (h:H b=some o) (n:H p=none):upd H p u b=some o:=by rw [upd_ne (ne_of_none h n)];exact h
theorem upd_oth {H:Hp} {b p:Addr} {o o' u:HO} (h:H b=some o) (n:H p=some o') (d:o≠o'):upd H p u b=some o:=by
  rw [upd_ne (fun e=>d (by subst e;rw [h] at n;exact Option.some.inj n))];exact h
theorem fresh_of {H H':Hp} {b:Addr} (s:Same H H') (h:H' b=none):H b=none:=by
  cases e:H b with
  | none=>rfl
  | some o=>rw [s b o e] at h;cases h
def But (p:Addr) (H H':Hp):Prop:=∀b o,b≠p→H b=some o→H' b=some o
theorem But.refl (p:Addr) (H:Hp):But p H H:=fun _ _ _ e=>e
theorem But.trans {p:Addr} {H H1 H2:Hp} (x:But p H H1) (y:But p H1 H2):But p H H2:=fun b o hb e=>y b o hb (x b o hb e)
theorem But.new {p q:Addr} {H H':Hp} {u:HO} (x:But p H H') (h:H q=none):But p H (upd H' q u):=fun b o hb e=>by
  rw [upd_ne (ne_of_none e h)]
  exact x b o hb e
theorem But.of {p:Addr} {H H':Hp} (x:Same H H'):But p H H':=fun b o _ e=>x b o e
theorem But.same {p:Addr} {H H1 H2:Hp} (x:But p H H1) (y:Same H1 H2):But p H H2:=fun b o hb e=>y b o (x b o hb e)
theorem But.none {p b:Addr} {H H':Hp} {u:HO} (x:But p H H') (hp:H' p=some u) (h:H' b = .none):H b = .none:=by
  cases e:H b with
  | none=>rfl
  | some o=>
    have hb:b≠p:=fun z=>by subst z;rw [hp] at h;cases h
    rw [x b o hb e] at h
    cases h
theorem atI_int {α:Type} {xs:List α} {i:Int} (h0:0≤i) (h1:i<xs.length):∃v,xs[i.toNat]? = some v∧atI xs i=some v:=by
  obtain ⟨j,rfl⟩:∃j:Nat,i=j:=⟨i.toNat,by omega⟩
  have hj:j<xs.length:=by omega
  exact ⟨xs[j],by simp [hj],atI_nat (by simp [hj])⟩
theorem mod_ne {d e n:Int} (h0:0≤d) (h1:d<n) (h2:0≤e) (h3:e<n - 1):0≤(d+1+e) % n∧(d+1+e) % n<n∧(d+1+e) % n≠d:=by
  refine ⟨Int.emod_nonneg _ (by omega),Int.emod_lt_of_pos _ (by omega),?_⟩
  by_cases h:d+1+e<n
  ·rw [Int.emod_eq_of_lt (by omega) h];omega
  · have z:d+1+e=(d+1+e - n)+n * 1:=by omega
    rw [z,Int.add_mul_emod_self_left,Int.emod_eq_of_lt (by omega) (by omega)];omega
theorem str_at {xs:List Str} {i:Nat} {x:V} (h:(xs.map V.str)[i]? = some x):∃z,xs[i]? = some z∧x = .str z:=by
  rw [List.getElem?_map] at h
  cases e:xs[i]? with
  | none=>rw [e] at h;cases h
  | some z=>rw [e] at h;exact ⟨z,rfl,(Option.some.inj h).symm⟩
theorem nodup_at {α:Type} {xs:List α} (h:xs.Nodup) {i j:Nat} {x:α} (hi:xs[i]? = some x) (hj:xs[j]? = some x):i=j:=by
  obtain ⟨h1,e1⟩:=List.getElem?_eq_some_iff.mp hi
  obtain ⟨h2,e2⟩:=List.getElem?_eq_some_iff.mp hj
  exact (List.getElem_inj h).mp (e1.trans e2.symm)
def isL (c:Nat):Bool:=!(Builtin.Str.occurrences ("abcdefghijklmnopqrstuvwxyz" : Str) ⟨#[c]⟩ 0 ("abcdefghijklmnopqrstuvwxyz" : Str).length 1).isEmpty
def nameB (x:Str):Bool:=decide (1≤x.length) && decide (x.length≤4) && x.cps.toList.all isL
theorem isL_of:∀n<26,isL (97+n)=true:=by decide +kernel
theorem letters_at:∀n:Nat,n<26→atI (Str.ofString "abcdefghijklmnopqrstuvwxyz").cps.toList (n:Int)=some (97+n):=by decide +kernel
theorem letters_len:(Str.ofString "abcdefghijklmnopqrstuvwxyz").length≤sizeLine:=by decide +kernel
theorem letters_int {i:Int} (h0:0≤i) (h1:i<26):∃n:Nat,i=n∧n<26∧atI (Str.ofString "abcdefghijklmnopqrstuvwxyz").cps.toList i=some (97+n):=
  ⟨i.toNat,by omega,by omega,by
    obtain ⟨n,rfl⟩:∃n:Nat,i=n:=⟨i.toNat,by omega⟩
    exact letters_at n (by omega)⟩
structure WordOf (c:Nat) (k:Nat) (x:Str):Prop where
  len:x.length=k
  fst:x.cps[0]? = some c
  all:x.cps.toList.all isL=true
theorem WordOf.one {n:Nat} (h:n<26):WordOf (97+n) 1 ⟨#[97+n]⟩:=⟨rfl,rfl,by simp [isL_of n h]⟩
theorem WordOf.name {c k:Nat} {x:Str} (h:WordOf c k x) (h1:1≤k) (h4:k≤4):nameB x=true:=by
  unfold nameB
  rw [h.len,h.all]
  simp
  omega
section
variable {κ:Type} [DecidableEq κ]
def valV (kvs:List (κ×V)) (k:κ):Option V:=(kvs.find? fun kv=>decide (kv.1=k)).map (·.2)
def putK (kvs:List (κ×V)) (k:κ) (v:V):List (κ×V):=
  if (kvs.any fun kv=>decide (kv.1=k))=true then kvs.map (fun kv=>if kv.1=k then (kv.1,v) else kv) else kvs++[(k,v)]
theorem valV_nil {k:κ}:valV ([]:List (κ×V)) k=none:=rfl
theorem valV_pos {p:κ×V} {r:List (κ×V)} {k:κ} (e:p.1=k):valV (p::r) k=some p.2:=by simp [valV,List.find?_cons,e]
theorem valV_neg {p:κ×V} {r:List (κ×V)} {k:κ} (e:¬p.1=k):valV (p::r) k=valV r k:=by simp [valV,List.find?_cons,e]
theorem valV_any (k:κ):∀kvs:List (κ×V),(kvs.any fun kv=>decide (kv.1=k))=(valV kvs k).isSome
  | []=>rfl
  | p::r=>by
    rw [List.any_cons]
    by_cases e:p.1=k
    ·simp only [valV_pos e,decide_eq_true e,Bool.true_or,Option.isSome_some]
    ·rw [valV_neg e,decide_eq_false e,Bool.false_or];exact valV_any k r
theorem valV_snoc (k j:κ) (y:V):∀kvs:List (κ×V),valV kvs k=none→valV (kvs++[(k,y)]) j=if j=k then some y else valV kvs j
  | [],_=>by
    by_cases e:k=j
    ·rw [if_pos e.symm];exact valV_pos (p:=(k,y)) e
    ·rw [if_neg (fun z=>e z.symm)];exact valV_neg (p:=(k,y)) e
  | p::r,hn=>by
    rw [List.cons_append]
    have hk:¬p.1=k:=fun z=>by rw [valV_pos z] at hn;cases hn
    rw [valV_neg hk] at hn
    have ih:=valV_snoc k j y r hn
    by_cases e:p.1=j
    ·rw [valV_pos e,valV_pos e,if_neg (fun z=>hk (e.trans z))]
    ·rw [valV_neg e,valV_neg e,ih]
theorem length_putK (kvs:List (κ×V)) (k:κ) (v:V):(putK kvs k v).length≤kvs.length+1:=by
  unfold putK
  split
  ·rw [List.length_map];omega
  ·rw [List.length_append,List.length_cons,List.length_nil];omega
theorem putK_new {kvs:List (κ×V)} {k:κ} (v:V) (h:valV kvs k=none):putK kvs k v=kvs++[(k,v)]:=by
  unfold putK
  rw [valV_any,h]
  exact if_neg (by decide)
theorem RelO.isSome_eq {o:Option V} {u:Option Value} (r:RelO o u):o.isSome=u.isSome:=by
  cases o with
  | none=>cases u with
    | none=>rfl
    | some _=>exact (show False from r).elim
  | some _=>cases u with
    | none=>exact (show False from r).elim
    | some _=>rfl
theorem RelO.getD {o:Option V} {u:Option Value} {d:V} {d':Value} (r:RelO o u) (rd:RelV d d'):RelV (o.getD d) (u.getD d'):=by
  cases o with
  | none=>cases u with
    | none=>exact rd
    | some _=>exact (show False from r).elim
  | some _=>cases u with
    | none=>exact (show False from r).elim
    | some _=>exact r
theorem KV.val {kvs:List (κ×V)} {vs:List (κ×Value)} (r:KV kvs vs) (k:κ):RelO (valV kvs k) (valueAt vs k):=by
  unfold KV at r
  induction r with
  | nil=>exact True.intro
  | @cons p q ps qs h t ih=>
    obtain ⟨h1,h2⟩:=h
    by_cases e:p.1=k
    · have e':q.1=k:=h1.symm.trans e
      have b:valueAt (q::qs) k=some q.2:=by simp [valueAt,List.find?_cons,e']
      rw [valV_pos e,b];exact h2
    · have e':¬q.1=k:=fun z=>e (h1.trans z)
      have b:valueAt (q::qs) k=valueAt qs k:=by simp [valueAt,List.find?_cons,e']
      rw [valV_neg e,b];exact ih
theorem KV.any {kvs:List (κ×V)} {vs:List (κ×Value)} (r:KV kvs vs) (k:κ):(kvs.any fun kv=>decide (kv.1=k))=vs.any fun kv=>decide (kv.1=k):=by
  unfold KV at r
  induction r with
  | nil=>rfl
  | cons h t ih=>rw [List.any_cons,List.any_cons,ih,h.1]
theorem KV.repl {kvs:List (κ×V)} {vs:List (κ×Value)} (r:KV kvs vs) (k:κ) {y:V} {u:Value} (ry:RelV y u) :
    KV (kvs.map fun kv=>if kv.1=k then (kv.1,y) else kv) (vs.map fun kv=>if kv.1=k then (kv.1,u) else kv):=by
  unfold KV at r ⊢
  induction r with
  | nil=>exact .nil
  | @cons p q ps qs h t ih=>
    rw [List.map_cons,List.map_cons]
    refine .cons ?_ ih
    obtain ⟨h1,h2⟩:=h
    by_cases e:p.1=k
    ·rw [if_pos e,if_pos (h1.symm.trans e)];exact ⟨h1,ry⟩
    ·rw [if_neg e,if_neg (fun z=>e (h1.trans z))];exact ⟨h1,h2⟩
theorem KV.put {kvs:List (κ×V)} {vs:List (κ×Value)} (r:KV kvs vs) (k:κ) {y:V} {u:Value} (ry:RelV y u):KV (putK kvs k y) (stored vs k u):=by
  unfold putK stored
  rw [r.any k]
  by_cases e:(vs.any fun kv=>decide (kv.1=k))=true
  ·rw [if_pos e,if_pos e];exact r.repl k ry
  ·rw [if_neg e,if_neg e];exact Paired.snoc r ⟨rfl,ry⟩
theorem KV.length {kvs:List (κ×V)} {vs:List (κ×Value)} (r:KV kvs vs):kvs.length=vs.length:=Paired.length r
end
theorem kV_is {P:Program} {w:World} {k:Key} {u:Value} (r:RelV (kV k) u):(mixKind P w).is k u=true:=by
  cases k with
  | inl i=>obtain ⟨t,e⟩:=(show ∃t,u=Value.int i t from r);subst e;exact mixKind_int P w i t
  | inr x=>obtain ⟨t,e⟩:=(show ∃t,u=Value.str x t from r);subst e;exact mixKind_str P w x t
theorem items_are {P:Program} {w:World}:∀{ks:List Key} {us:List Value},Vals (ks.map kV) us→ItemsAre (mixKind P w) ks us
  | [],_,r=>by rw [List.map_nil] at r;cases r;exact .nil
  | k::ks,_,r=>by
    rw [List.map_cons] at r
    cases r with
    | cons h t=>exact .cons (kV_is h) (items_are t)
abbrev KT (H:Hp):List (List Key×V)→List (List Key×Addr×Value)→Prop:=Paired fun p q=>p.1=q.1∧H q.2.1=some (.tup (p.1.map kV))∧RelV p.2 q.2.2
theorem KT.val {H:Hp} {kvs:List (List Key×V)} {xs:List (List Key×Addr×Value)} (r:KT H kvs xs) (k:List Key):RelO (valV kvs k) ((atKey xs k).map (·.2)):=by
  induction r with
  | nil=>exact True.intro
  | @cons p q ps qs h t ih=>
    obtain ⟨h1,_,h2⟩:=h
    by_cases e:p.1=k
    · have e':q.1=k:=h1.symm.trans e
      have b:atKey (q::qs) k=some q.2:=by simp [atKey,List.find?_cons,e']
      rw [valV_pos e,b];exact h2
    · have e':¬q.1=k:=fun z=>e (h1.trans z)
      have b:atKey (q::qs) k=atKey qs k:=by simp [atKey,List.find?_cons,e']
      rw [valV_neg e,b];exact ih
theorem KT.repl {H:Hp} {kvs:List (List Key×V)} {xs:List (List Key×Addr×Value)} (r:KT H kvs xs) (k:List Key) {y:V} {u:Value} (ry:RelV y u) :
    KT H (kvs.map fun kv=>if kv.1=k then (kv.1,y) else kv) (xs.map (putAt k u)):=by
  induction r with
  | nil=>exact .nil
  | @cons p q ps qs h t ih=>
    rw [List.map_cons,List.map_cons]
    refine .cons ?_ ih
    obtain ⟨h1,h2,h3⟩:=h
    unfold putAt
    by_cases e:p.1=k
    ·rw [if_pos e,if_pos (h1.symm.trans e)];exact ⟨h1,h2,ry⟩
    ·rw [if_neg e,if_neg (fun z=>e (h1.trans z))];exact ⟨h1,h2,h3⟩
theorem KT.put {H:Hp} {kvs:List (List Key×V)} {xs:List (List Key×Addr×Value)} (r:KT H kvs xs) (k:List Key) {b:Addr} {y:V} {u:Value} (hb:H b=some (.tup (k.map kV))) (ry:RelV y u) :
    KT H (putK kvs k y) (storedH xs k b u):=by
  have e:(kvs.any fun kv=>decide (kv.1=k))=(atKey xs k).isSome:=by
    rw [valV_any,(r.val k).isSome_eq,Option.isSome_map]
  unfold putK storedH
  rw [e]
  by_cases q:(atKey xs k).isSome=true
  ·rw [if_pos q,if_pos q];exact r.repl k ry
  ·rw [if_neg q,if_neg q];exact Paired.snoc r ⟨rfl,hb,ry⟩
theorem KT.keeps {H H':Hp} {kvs:List (List Key×V)} {xs:List (List Key×Addr×Value)} (r:KT H kvs xs) (ht:∀b ys,H b=some (.tup ys)→H' b=some (.tup ys)):KT H' kvs xs:=
  Paired.mapP r fun _ _ z=>⟨z.1,ht _ _ z.2.1,z.2.2⟩
section
variable {P:Program} {w:World} {H:Hp} {h:Heap} {a:Addr}
theorem rd_of {u:HO} (ok:HOk P w H h) (e:Rd H a u):ObjOk P w H h a u:=e.ok ok
theorem dk_rd {kvs:List (Key×V)} (ok:HOk P w H h) (e:Rd H a (.dK kvs)):kvs.length≤sizeLine∧(a == sysModules)=false∧∃vs,KV kvs vs∧h.DictOf (mixKind P w) a vs:=
  show ObjOk P w H h a (.dK kvs) from rd_of ok e
theorem dk_of {kvs:List (Key×V)} (ok:HOk P w H h) (e:H a=some (.dK kvs)):kvs.length≤sizeLine∧(a == sysModules)=false∧∃vs,KV kvs vs∧h.DictOf (mixKind P w) a vs:=dk_rd ok (.inl e)
theorem key_of {ks:List Key} (ok:HOk P w H h) (e:H a=some (.tup (ks.map kV))):(tupleKind (mixKind P w)).is h ks a:=by
  obtain ⟨_,its,r,o,h1,h2,n,h3⟩:=(show ObjOk P w H h a (.tup (ks.map kV)) from ok a _ e)
  exact ⟨o,its.toArray,n,h1,h2,h3,by simpa using items_are r⟩
theorem dt_rd {kvs:List (List Key×V)} (ok:HOk P w H h) (e:Rd H a (.dT kvs)):kvs.length≤sizeLine∧(a == sysModules)=false∧
    ∃xs,KT H kvs xs∧h.DictOfH (tupleKind (mixKind P w)) a xs:=by
  obtain ⟨z,y,xs,r,o,es,ep,h1,h2,h3,h4,h5⟩:=(show ObjOk P w H h a (.dT kvs) from rd_of ok e)
  refine ⟨z,y,xs,r,o,es,ep,h1,h2,h3,h4,fun x hx=>?_,h5⟩
  have all:∀{l:List (List Key×V)} {m:List (List Key×Addr×Value)},KT H l m→∀x∈m,(tupleKind (mixKind P w)).is h x.1 x.2.1:=by
    intro l m q
    induction q with
    | nil=>intro x hx;exact nomatch hx
    | @cons p q ps qs hq t ih=>
      intro x hx
      rcases List.mem_cons.mp hx with e | hx
      · subst e
        exact key_of ok (by rw [← hq.1];exact hq.2.1)
      ·exact ih x hx
  exact all r x hx
theorem dt_of {kvs:List (List Key×V)} (ok:HOk P w H h) (e:H a=some (.dT kvs)):kvs.length≤sizeLine∧(a == sysModules)=false∧
    ∃xs,KT H kvs xs∧h.DictOfH (tupleKind (mixKind P w)) a xs:=dt_rd ok (.inl e)
end
def DGet (H:Hp) (a:Addr) (y:V) (r:Option V):Prop:=
  (∃kvs k,Rd H a (.dK kvs)∧y=kV k∧r=valV kvs k)∨∃kvs k b,Rd H a (.dT kvs)∧y = .ref b∧H b=some (.tup (k.map kV))∧r=valV kvs k
def DPut (H:Hp) (a:Addr) (y v:V) (H':Hp):Prop:=
  (∃kvs k,H a=some (.dK kvs)∧y=kV k∧kvs.length<sizeLine∧H'=upd H a (.dK (putK kvs k v)))∨
  ∃kvs k b,H a=some (.dT kvs)∧y = .ref b∧H b=some (.tup (k.map kV))∧kvs.length<sizeLine∧H'=upd H a (.dT (putK kvs k v))
theorem DGet.k {H:Hp} {a:Addr} {kvs:List (Key×V)} {k:Key} (e:H a=some (.dK kvs)):DGet H a (kV k) (valV kvs k):=.inl ⟨kvs,k,.inl e,rfl,rfl⟩
theorem DPut.k {H:Hp} {a:Addr} {kvs:List (Key×V)} {k:Key} {v:V} (e:H a=some (.dK kvs)) (hl:kvs.length<sizeLine):DPut H a (kV k) v (upd H a (.dK (putK kvs k v))):=.inl ⟨kvs,k,e,rfl,hl,rfl⟩
section
variable {X:Cx} {pins:List (Addr×Obj)} {σ:St} {H:Hp} {s:Shared} {a:Addr} {y v:V} {u r:Value} {o:Option V} {A:Around} {E:Value→Shared→Prop}
theorem Inv.big (I:Inv X pins σ H s):sysModules<s.heap.objs.size:=by
  have h:mainGlobals<s.heap.objs.size:=(I.mod.glob.keeps I.bk).lt
  exact Nat.lt_trans (by decide) h
theorem d_getItem {Q:Value→Shared→Prop} (hu:A.units+1<cLine) (I:Inv X pins σ H s) (g:DGet H a y (some v)) (ry:RelV y u) (h:∀w' s',Inv X pins σ H s'→RelV v w'→Q w' s') :
    wpAny (model X.prog X.w) A (getItem (.ref a) u) Q E s:=by
  rcases g with ⟨kvs,k,e,ey,l⟩ | ⟨kvs,k,b,e,ey,eb,l⟩
  · subst ey
    obtain ⟨z,hd,vs,rel,dd⟩:=dk_rd I.hok e
    obtain ⟨w',hw,rw'⟩:=RelO.some_of (v:=v) (o:=valueAt vs k) (by rw [l];exact rel.val k)
    exact wpAny_getItem_of (kV_is ry) dd.mapOf hw (h w' _ (I.tok _) rw')
  · subst ey
    cases (show u=Value.ref b from ry)
    obtain ⟨z,hd,xs,rel,dd⟩:=dt_rd I.hok e
    obtain ⟨w',hw,rw'⟩:=RelO.some_of (v:=v) (o:=(atKey xs k).map (·.2)) (by rw [l];exact rel.val k)
    obtain ⟨p,hp,hp2⟩:=Option.map_eq_some_iff.mp hw
    refine wpAny_getItem_heap (tupleKind_room_in1 hu) (key_of I.hok eb) dd hp ?_
    rw [hp2]
    exact h w' _ (I.tok _) rw'
theorem d_in {Q:Value→Shared→Prop} (hu:A.units+1<cLine) (I:Inv X pins σ H s) (g:DGet H a y o) (ry:RelV y u) (h:∀s',Inv X pins σ H s'→Q (.bool o.isSome) s') :
    wpAny (model X.prog X.w) A (compareOp .In u (.ref a)) Q E s:=by
  rcases g with ⟨kvs,k,e,ey,l⟩ | ⟨kvs,k,b,e,ey,eb,l⟩
  · subst ey
    obtain ⟨z,hd,vs,rel,dd⟩:=dk_rd I.hok e
    refine wpAny_in_of (kV_is ry) hd dd.mapOf ?_
    rw [← (rel.val k).isSome_eq,← l]
    exact h _ (I.tok _)
  · subst ey
    cases (show u=Value.ref b from ry)
    obtain ⟨z,hd,xs,rel,dd⟩:=dt_rd I.hok e
    refine wpAny_in_heap (tupleKind_room_in1 hu) (key_of I.hok eb) hd dd ?_
    have q:=(rel.val k).isSome_eq
    rw [Option.isSome_map] at q
    rw [← q,← l]
    exact h _ (I.tok _)
theorem d_notIn {Q:Value→Shared→Prop} (hu:A.units+1<cLine) (I:Inv X pins σ H s) (g:DGet H a y o) (ry:RelV y u) (h:∀s',Inv X pins σ H s'→Q (.bool (!o.isSome)) s') :
    wpAny (model X.prog X.w) A (compareOp .NotIn u (.ref a)) Q E s:=by
  rcases g with ⟨kvs,k,e,ey,l⟩ | ⟨kvs,k,b,e,ey,eb,l⟩
  · subst ey
    obtain ⟨z,hd,vs,rel,dd⟩:=dk_rd I.hok e
    refine wpAny_notIn_of (kV_is ry) hd dd.mapOf ?_
    rw [← (rel.val k).isSome_eq,← l]
    exact h _ (I.tok _)
  · subst ey
    cases (show u=Value.ref b from ry)
    obtain ⟨z,hd,xs,rel,dd⟩:=dt_rd I.hok e
    refine wpAny_notIn_heap (tupleKind_room_in1 hu) (key_of I.hok eb) hd dd ?_
    have q:=(rel.val k).isSome_eq
    rw [Option.isSome_map] at q
    rw [← q,← l]
    exact h _ (I.tok _)
theorem d_write {h':Heap} {t':Nat} {ob:HO} (I:Inv X pins σ H s) (mu:Mut (H a)) (hs:Heap.SameBut a s.heap h') (he:∃q,h'.get? a=some q) (new:ObjOk X.prog X.w (upd H a ob) h' a ob) :
    Inv X pins σ (upd H a ob) {s with heap:=h',toks:=t'}:=
  I.write (x:=a) (e:=a) mu (.inl rfl) (fun b q hb z=>(hs.2 b hb).trans z) he new
theorem dk_new {P:Program} {w:World} {H':Hp} {h':Heap} {kvs:List (Key×V)} {vs:List (Key×Value)} (z:kvs.length≤sizeLine) (hd:(a == sysModules)=false) (rel:KV kvs vs) (dd:h'.DictOf (mixKind P w) a vs) :
    ObjOk P w H' h' a (.dK kvs):=⟨z,hd,vs,rel,dd⟩
theorem d_setItem {H':Hp} {Q:Unit→Shared→Prop} (hu:A.units+1<cLine) (I:Inv X pins σ H s) (g:DPut H a y v H') (ry:RelV y u) (rv:RelV v r) (h:∀s',Inv X pins σ H' s'→Q () s') :
    wpAny (model X.prog X.w) A (setItem (.ref a) u r) Q E s:=by
  rcases g with ⟨kvs,k,e,ey,l,eH⟩ | ⟨kvs,k,b,e,ey,eb,l,eH⟩
  · subst ey eH
    obtain ⟨z,hd,vs,rel,dd⟩:=dk_of I.hok e
    have hz:vs.length≤sizeLine:=by rw [← rel.length];exact z
    have hl:(putK kvs k v).length≤sizeLine:=by have:=length_putK kvs k v;omega
    refine wpAny_setItem_pairs (hsz:=hz) (kV_is ry) dd fun h' dd' hs=>h _ ?_
    have he:∃q,h'.get? a=some q:=let ⟨q,_,_,hq,_⟩:=dd';⟨q,hq⟩
    exact d_write I (by rw [e];exact True.intro) hs he (dk_new hl hd (rel.put k rv) dd')
  · subst ey eH
    cases (show u=Value.ref b from ry)
    obtain ⟨z,hd,xs,rel,dd⟩:=dt_of I.hok e
    have hz:xs.length≤sizeLine:=by rw [← Paired.length rel];exact z
    have hl:(putK kvs k v).length≤sizeLine:=by have:=length_putK kvs k v;omega
    refine wpAny_setItem_heap (hsz:=hz) (tupleKind_room_in1 hu) (key_of I.hok eb) dd fun h' dd' hs=>h _ ?_
    obtain ⟨q,es,ep,hq,h2,h3,h4,_,h5⟩:=dd'
    refine d_write I (by rw [e];exact True.intro) hs ⟨q,hq⟩ ⟨hl,hd,_,(rel.put k eb rv).keeps fun c ys ec=>?_,q,es,ep,hq,h2,h3,h4,h5⟩
    rw [upd_ne (ne_of ec e (fun z=>nomatch z))]
    exact ec
end
def NoSl (i:Expr):Prop:=∀ov iv,subscripted i false ov iv=operate [ov,iv] (getItem ov iv)
theorem subD_of {prog:Program} {w:World} {A:Around} {E:Value→Shared→Prop} {s:Shared} {env:Env} {value slice:Expr} {pos:Pos} {T id:String} {Q:Value→Shared→Prop}
    (hl:typeLookup (.type T) "__getitem__" = pure (some (.builtin id))) (hs:NoSl slice)
    (h:wpAny (model prog w) A (eval value env) (fun o s₁=>wpAny (model prog w) A (eval slice env) (fun i s₂=>s₂.TypeIs o T∧wpAny (model prog w) A (getItem o i) Q E s₂) E s₁) E s) :
    wpAny (model prog w) A (eval (.Subscript value slice pos) env) Q E s:=by
  refine Subscript_ (wpAny_mono h (fun o s₁ h₁=>wpAny_mono h₁ (fun i s₂ h₂=>?_) fun _ _ x=>x) fun _ _ x=>x)
  obtain ⟨hT,h₂⟩:=h₂
  unfold subscriptTail
  refine wpAny_bind ?_
  rw [getitemInPython_of_ne hT.not_modules]
  refine wpAny_bind (wpAny_specialOf hT hl ?_)
  have fin:wpAny (model prog w) A (subscripted slice false o i) (fun r s₃=>wpAny (model prog w) A (letTemporaryGo value o r >>= fun _=>pure r) Q E s₃) E s₂:=by
    rw [hs o i]
    exact wpAny_operating (wpAny_mono h₂ (fun r s₃ h₃=>wpAny_bind (wpAny_letTemporaryGo (wpAny_pure h₃))) fun _ _ x=>x)
  first
    | exact wpAny_pure (wpAny_bind fin)
    | exact wpAny_bind (wpAny_pure (wpAny_bind fin))
    | exact wpAny_bind fin
theorem dict_typeIs {X:Cx} {pins:List (Addr×Obj)} {σ:St} {H:Hp} {s:Shared} {a:Addr} {y:V} {o:Option V} (I:Inv X pins σ H s) (g:DGet H a y o):s.TypeIs (.ref a) "dict" :=by
  rcases g with ⟨kvs,k,e,_,_⟩ | ⟨kvs,k,b,e,_,_,_⟩
  · obtain ⟨_,_,vs,_,dd⟩:=dk_rd I.hok e
    exact dd.typeIs
  · obtain ⟨_,_,xs,_,dd⟩:=dt_rd I.hok e
    exact dd.typeIs
def tDGet (td ty:TE):TE:=fun σ H Q=>td σ H fun x H1=>ty σ H1 fun y H2=>∃a v,x = .ref a∧DGet H2 a y (some v)∧Q v H2
def tDIn (ty td:TE):TE:=fun σ H Q=>ty σ H fun y H1=>td σ H1 fun x H2=>∃a o,x = .ref a∧DGet H2 a y o∧Q (.bl o.isSome) H2
def tDNotIn (ty td:TE):TE:=fun σ H Q=>ty σ H fun y H1=>td σ H1 fun x H2=>∃a o,x = .ref a∧DGet H2 a y o∧Q (.bl (!o.isSome)) H2
def sDPut (td ty tv:TE):TS:=fun D σ H=>tv σ H fun v H1=>td σ H1 fun x H2=>ty σ H2 fun y H3=>∃a H4,x = .ref a∧DPut H3 a y v H4∧D.nx σ H4
section
variable {X:Cx} {o i e value:Expr} {pos pos' tpos:Pos} {td ty tv:TE}
theorem pe_dget (hu:X.A.units+1<cLine) (ho:PE X o td) (hi:PE X i ty) (hs:NoSl i):PE X (.Subscript o i pos) (tDGet td ty):=by
  intro pins s σ H Q I h
  refine subD_of PySem.F.slot_dict_getitem.lookup hs (thn (ho pins s σ H _ I h) fun u s1 ⟨x,H1,I1,rx,q1⟩=>thn (hi pins s1 σ H1 _ I1 q1) fun iv s2 ⟨y,H2,I2,ry,a,v,ex,g,q2⟩=>?_)
  subst ex
  obtain rfl:u=Value.ref a:=rx
  exact ⟨dict_typeIs I2 g,d_getItem hu I2 g ry fun w' s3 I3 rw'=>⟨v,H2,I3,rw',q2⟩⟩
theorem pc_din (hu:X.A.units+1<cLine) (hi:PE X i ty) (ho:PE X o td):PC X .In i o (tDIn ty td):=by
  intro pins s σ H Q I h
  refine thn (hi pins s σ H _ I h) fun iv s1 ⟨y,H1,I1,ry,q1⟩=>thn (ho pins s1 σ H1 _ I1 q1) fun u s2 ⟨x,H2,I2,rx,a,ov,ex,g,q2⟩=>?_
  subst ex
  obtain rfl:u=Value.ref a:=rx
  exact d_in hu I2 g ry fun s3 I3=>⟨.bl ov.isSome,H2,I3,rfl,q2⟩
theorem pc_dnotin (hu:X.A.units+1<cLine) (hi:PE X i ty) (ho:PE X o td):PC X .NotIn i o (tDNotIn ty td):=by
  intro pins s σ H Q I h
  refine thn (hi pins s σ H _ I h) fun iv s1 ⟨y,H1,I1,ry,q1⟩=>thn (ho pins s1 σ H1 _ I1 q1) fun u s2 ⟨x,H2,I2,rx,a,ov,ex,g,q2⟩=>?_
  subst ex
  obtain rfl:u=Value.ref a:=rx
  exact d_notIn hu I2 g ry fun s3 I3=>⟨.bl (!ov.isSome),H2,I3,rfl,q2⟩
theorem ps_dput (hu:X.A.units+1<cLine) (ho:PE X o td) (hi:PE X i ty) (hv:PE X value tv) (hs:swapsWith value (some (.Subscript o i pos')) pos.line X.env=pure false) :
    PS X (.Assign [.Subscript o i pos'] value pos) (sDPut td ty tv):=by
  intro pins s σ H D I h
  refine wpAny_Assign_Subscript (thn (hv pins s σ H _ I h) fun r s1 ⟨v,H1,I1,rv,q1⟩=>thn (ho pins s1 σ H1 _ I1 q1) fun u s2 ⟨x,H2,I2,rx,q2⟩=>thn (hi pins s2 σ H2 _ I2 q2) fun iv s3 ⟨y,H3,I3,ry,a,H4,ex,g,q3⟩=>?_) hs
  subst ex
  obtain rfl:u=Value.ref a:=rx
  exact d_setItem hu I3 g ry rv fun s4 I4=>⟨σ,H4,I4,q3⟩
end
theorem dk_empty {P:Program} {w:World} {H:Hp} (h:Heap) (hb:sysModules<h.objs.size):ObjOk P w H (h.push {cls:=.type "dict",data:=.dict #[]}) h.objs.size (.dK []):=
  ⟨Nat.zero_le _,beq_eq_false_iff_ne.mpr (Ne.symm (Nat.ne_of_lt hb)),[],.nil,Heap.DictOf.new h⟩
def tDNewK:TE:=fun _ H Q=>∀p,H p=none→Q (.ref p) (upd H p (.dK []))
section
variable {X:Cx} {pos:Pos}
theorem pe_dnewK:PE X (.Dict [] [] pos) tDNewK:=fun pins s σ H Q I h=>
  wpAny_Dict_empty ⟨.ref s.heap.objs.size,_,I.laid (a:=s.heap.objs.size) (o:=.dK []) (t':=s.toks) (fun _ _ q=>Heap.get?_push_of_some _ q) (Nat.le_refl _) (dk_empty s.heap I.big),rfl,h _ (I.hok.fresh (Nat.le_refl _))⟩
end
def tPairs:List (TE×TE)→St→Hp→(List (V×V)→Hp→Prop)→Prop
  | [],_,H,Q=>Q [] H
  | (tk,tv)::r,σ,H,Q=>tk σ H fun x H1=>tv σ H1 fun y H2=>tPairs r σ H2 fun ps H3=>Q ((x,y)::ps) H3
abbrev VV:List (V×V)→List (Value×Value)→Prop:=Paired fun p q=>RelV p.1 q.1∧RelV p.2 q.2
def PPs (X:Cx) (pos:Pos) (keys:List (Option Expr)) (values:List Expr) (trs:List (TE×TE)):Prop:=
  ∀(pins:List (Addr×Obj)) (s:Shared) (σ:St) (H:Hp) (Q:List (V×V)→Hp→Prop),Inv X pins σ H s→tPairs trs σ H Q→
    wpAny (model X.prog X.w) X.A (evalPairs (pairTrees keys values X.env pos)) (fun vs s'=>∃ps H',Inv X pins σ H' s'∧VV ps vs∧Q ps H') X.xe s
theorem pps_nil {X:Cx} {pos:Pos}:PPs X pos [] [] []:=fun pins s σ H Q I h=>pairTrees_nil_walk ⟨[],H,I,.nil,h⟩
theorem pps_cons {X:Cx} {pos:Pos} {k v:Expr} {ks:List (Option Expr)} {vs:List Expr} {tk tv:TE} {trs:List (TE×TE)} (hk:PE X k tk) (hv:PE X v tv) (hr:PPs X pos ks vs trs) :
    PPs X pos (some k::ks) (v::vs) ((tk,tv)::trs):=fun pins s σ H Q I h=>
  pairTrees_cons_walk (thn (hk pins s σ H _ I h) fun u s1 ⟨x,H1,I1,rx,q1⟩=>thn (hv pins s1 σ H1 _ I1 q1) fun w2 s2 ⟨y,H2,I2,ry,q2⟩=>
    thn (hr pins s2 σ H2 _ I2 q2) fun ws s3 ⟨ps,H3,I3,rel,q3⟩=>⟨(x,y)::ps,H3,I3,.cons ⟨rx,ry⟩ rel,q3⟩)
def mergeK (kvs more:List (Key×V)):List (Key×V):=more.foldl (fun acc kv=>putK acc kv.1 kv.2) kvs
theorem KV.merge:∀{more:List (Key×V)} {rs:List (Key×Value)} {kvs:List (Key×V)} {vs:List (Key×Value)},KV more rs→KV kvs vs→KV (mergeK kvs more) (merged vs rs):=by
  intro more rs kvs vs r
  unfold KV at r
  induction r generalizing kvs vs with
  | nil=>intro q;exact q
  | @cons p q ps qs h t ih=>
    intro r0
    have e:KV (putK kvs p.1 p.2) (stored vs q.1 q.2):=by
      have:=r0.put p.1 h.2
      rw [← h.1];exact this
    exact ih e
theorem length_mergeK:∀(more kvs:List (Key×V)),(mergeK kvs more).length≤kvs.length+more.length
  | [],kvs=>by show kvs.length≤kvs.length+0;omega
  | p::r,kvs=>by
    have h1:=length_mergeK r (putK kvs p.1 p.2)
    have h2:=length_putK kvs p.1 p.2
    show (mergeK (putK kvs p.1 p.2) r).length≤_
    rw [List.length_cons];omega
theorem carries_of {P:Program} {w:World}:∀{kvs:List (Key×V)} {ws:List (Value×Value)},VV (kvs.map fun kv=>(kV kv.1,kv.2)) ws→∃rs,Carries (mixKind P w) ws rs∧KV kvs rs
  | [],_,r=>by rw [List.map_nil] at r;cases r;exact ⟨[],True.intro,.nil⟩
  | p::kvs,_,r=>by
    rw [List.map_cons] at r
    cases r with
    | @cons a b as bs h t=>
      obtain ⟨rs,c,q⟩:=carries_of (P:=P) (w:=w) t
      obtain ⟨b1,b2⟩:=b
      exact ⟨(p.1,b2)::rs,⟨kV_is h.1,rfl,c⟩,.cons ⟨rfl,h.2⟩ q⟩
def tDisp (trs:List (TE×TE)):TE:=fun σ H Q=>∀p,H p=none→tPairs trs σ (upd H p (.dK [])) fun ps H2=>H2 p=some (.dK [])∧∃kvs:List (Key×V),ps=kvs.map (fun kv=>(kV kv.1,kv.2))∧kvs.length≤15∧Q (.ref p) (upd H2 p (.dK (mergeK [] kvs)))
theorem pe_disp {X:Cx} {pos:Pos} {keys:List (Option Expr)} {values:List Expr} {trs:List (TE×TE)} (h:PPs X pos keys values trs) (hall:keys.all (·.isSome)=true) (hl:keys.length=values.length) (h0:keys≠[])
    (h15:keys.length≤15):PE X (.Dict keys values pos) (tDisp trs):=by
  intro pins s σ H Q I q
  have hn:=I.hok.fresh (Nat.le_refl s.heap.objs.size)
  have I1:=I.laid (a:=s.heap.objs.size) (o:=.dK []) (h':=s.heap.push {cls:=.type "dict",data:=.dict #[]}) (t':=s.toks) (fun _ _ q=>Heap.get?_push_of_some _ q) (Nat.le_refl _) (dk_empty s.heap I.big)
  refine wpAny_Dict_walk (knd:=mixKind X.prog X.w) hall hl h0 h15 (thn (h pins _ σ _ _ I1 (q _ hn)) fun ws s2 zz=>?_)
  obtain ⟨ps,H2,I2,rel,e,kvs,ep,lk,q2⟩:=zz
  subst ep
  obtain ⟨rs,c,rk⟩:=carries_of (P:=X.prog) (w:=X.w) rel
  obtain ⟨z,hd,vs0,r0,dd⟩:=dk_of I2.hok e
  cases r0
  refine ⟨rs,c,dd,fun h' dd' hs=>⟨.ref s.heap.objs.size,_,?_,rfl,q2⟩⟩
  have hz:(mergeK [] kvs).length≤sizeLine:=by
    have h1:=length_mergeK kvs []
    rw [List.length_nil] at h1
    rw [sizeLine_eq];omega
  have he:∃q,h'.get? s.heap.objs.size=some q:=let ⟨q,_,_,hq,_⟩:=dd';⟨q,hq⟩
  exact d_write I2 (by rw [e];exact True.intro) hs he (dk_new hz hd (rk.merge .nil) dd')
structure M2 (X:Cx) (o:Expr) (m:Str) (apos:Pos) (e f:Expr) (cpos:Pos):Prop where
  base:attributeBase o m X.env (eval o X.env)=eval o X.env
  few:((backTo cpos (starEach [e,f] X.env)).all (fun x=>!x.1) && (backToKw cpos (keywordEach [] X.env)).all (fun x=>x.1.isSome)
    && decide (([e,f]:List Expr).length+([]:List Keyword).length+(if ([]:List Keyword).isEmpty then 0 else 1)<30))=true
  line:(apos.endLine == cpos.line)=true
  trees:backTo cpos (starEach [e,f] X.env)=[(false,eval e X.env),(false,eval f X.env)]
def IsD (H:Hp) (a:Addr):Prop:=(∃kvs,Rd H a (.dK kvs))∨∃kvs,Rd H a (.dT kvs)
theorem isD_at {X:Cx} {pins:List (Addr×Obj)} {σ:St} {H:Hp} {s:Shared} {a:Addr} (I:Inv X pins σ H s) (d:IsD H a) :
    s.TypeIs (.ref a) "dict" ∧(∀b,Value.ref a = .ref b→∃ob,s.heap.get? b=some ob∧ob.dict=none)∧(a == sysModules)=false:=by
  rcases d with ⟨kvs,e⟩ | ⟨kvs,e⟩
  · obtain ⟨_,hd,vs,_,dd⟩:=dk_rd I.hok e
    refine ⟨dd.typeIs,fun b q=>?_,hd⟩
    cases q
    obtain ⟨ob,_,_,h1,h2,_⟩:=dd
    exact ⟨ob,h1,h2.2.1⟩
  · obtain ⟨_,hd,xs,_,dd⟩:=dt_rd I.hok e
    refine ⟨dd.typeIs,fun b q=>?_,hd⟩
    cases q
    obtain ⟨ob,_,_,h1,h2,_⟩:=dd
    exact ⟨ob,h1,h2.2.1⟩
section
variable {X:Cx} {pins:List (Addr×Obj)} {σ:St} {H:Hp} {s:Shared} {a:Addr} {y d:V} {u r:Value} {o:Option V} {A:Around} {E:Value→Shared→Prop}
theorem d_get2 {Q:Value→Shared→Prop} (hu:A.units+1<cLine) (I:Inv X pins σ H s) (g:DGet H a y o) (ry:RelV y u) (rd:RelV d r) (h:∀w' s',Inv X pins σ H s'→RelV (o.getD d) w'→Q w' s') :
    wpAny (model X.prog X.w) A (call (.builtin "dict.get") [.ref a,u,r]) Q E s:=by
  rcases g with ⟨kvs,k,e,ey,l⟩ | ⟨kvs,k,b,e,ey,eb,l⟩
  · subst ey
    obtain ⟨z,hd,vs,rel,dd⟩:=dk_rd I.hok e
    refine call_meetsIn PySem.F.slot_dict_get dd.typeIs PySem.F.entry_dict_get (PySem.F.args_dict_get_3 _ _ _) (meets_dict_get_default (mixKind X.prog X.w) a (kV_is ry) hd r) ⟨_,dd.mapOf,h _ _ (I.tok _) ?_⟩
    rw [l]
    exact (rel.val k).getD rd
  · subst ey
    cases (show u=Value.ref b from ry)
    obtain ⟨z,hd,xs,rel,dd⟩:=dt_rd I.hok e
    refine call_meetsIn PySem.F.slot_dict_get dd.typeIs PySem.F.entry_dict_get (PySem.F.args_dict_get_3 _ _ _) (meetsH_dict_get_default (tupleKind (mixKind X.prog X.w)) a b hd r) ⟨tupleKind_room_in1 hu,k,xs,key_of I.hok eb,dd,h _ _ (I.tok _) ?_⟩
    rw [l]
    exact (rel.val k).getD rd
end
def tDGet2 (td ty tx:TE):TE:=fun σ H Q=>td σ H fun x H1=>∃a,x = .ref a∧IsD H1 a∧ty σ H1 fun y H2=>tx σ H2 fun z H3=>∃o,DGet H3 a y o∧Q (o.getD z) H3
section
variable {X:Cx} {o e f:Expr} {apos cpos:Pos} {td ty tx:TE}
theorem pe_dget2 (hu:X.A.units+1<cLine) (ho:PE X o td) (he:PE X e ty) (hf:PE X f tx) (m:M2 X o "get" apos e f cpos):PE X (.Call (.Attribute o "get" apos) [e,f] [] cpos) (tDGet2 td ty tx):=by
  intro pins s σ H Q I h
  refine wpAny_Call_method m.base m.few m.line PySem.F.plainAttrs_dict PySem.F.slot_dict_get PySem.F.type_dict_get (thn (ho pins s σ H _ I h) fun u s1 zz=>?_)
  obtain ⟨x,H1,I1,rx,a,ex,d,q1⟩:=zz
  subst ex
  obtain rfl:u=Value.ref a:=rx
  obtain ⟨t1,t2,_⟩:=isD_at I1 d
  refine ⟨t1,t2,?_⟩
  rw [m.trees]
  refine Calls.callWith_builtin rfl (Calls.evalArgs_plain (Calls.spliced_cons (thn (he pins s1 σ H1 _ I1 q1) fun iv s2 ⟨y,H2,I2,ry,q2⟩=>
    Calls.spliced_cons (thn (hf pins s2 σ H2 _ I2 q2) fun fv s3 ⟨z,H3,I3,rz,ov,g,q3⟩=>Calls.spliced_nil ?_))))
  exact d_get2 hu I3 g ry rz fun w' s4 I4 rw'=>⟨_,H3,I4,rw',q3⟩
end
section
variable {X:Cx} {pins:List (Addr×Obj)} {σ:St} {H:Hp} {s:Shared} {a:Addr} {kvs:List (Key×V)} {A:Around} {E:Value→Shared→Prop}
theorem d_copyOf {Q:Value→Shared→Prop} (I:Inv X pins σ H s) (e:Rd H a (.dK kvs)) (h:∀p s',H p=none→Inv X pins σ (upd H p (.dK kvs)) s'→Q (.ref p) s'):wpAny (model X.prog X.w) A (call (.type "dict") [.ref a]) Q E s:=by
  obtain ⟨z,hd,vs,rel,dd⟩:=dk_rd I.hok e
  refine kt_call_dict hd dd (by rw [← rel.length];exact z) fun h' dd' hs=>?_
  refine h _ _ (I.hok.fresh (Nat.le_refl _)) (I.laid (a:=s.heap.objs.size) (o:=.dK kvs) (t':=s.toks) (fun b q hq=>?_) (Nat.le_refl _) (dk_new z (beq_eq_false_iff_ne.mpr (Ne.symm (Nat.ne_of_lt I.big))) rel dd'))
  exact (hs.2 b (Nat.ne_of_lt (Heap.lt_size hq))).trans (Heap.get?_push_of_some _ hq)
end
structure Nm2 (mg:Str→Option Value):Prop where
  enumerate:mg "enumerate" = none
  any:mg "any" = none
  dict:mg "dict" = none
  sorted:mg "sorted" = none
  repr:mg "repr" = none
  bool:mg "bool" = none
theorem Inv.pairNew {X:Cx} {pins:List (Addr×Obj)} {σ:St} {H:Hp} {s:Shared} {h2:Heap} {t':Nat} {x y:V} {u u':Value} (I:Inv X pins σ H s) (I1:Inv X pins σ H {s with heap:=h2,toks:=t'}) (ru:RelV x u) (ru':RelV y u')
    (hpair:h2.get? s.heap.objs.size=some {cls:=.type "tuple",data:=.seq #[u,u']}):Inv X pins σ (upd H s.heap.objs.size (.tup [x,y])) {s with heap:=h2,toks:=t'}:=by
  have hfr:H s.heap.objs.size=none:=I.hok.fresh (Nat.le_refl _)
  refine ⟨I1.ok,I1.os,I1.bare,⟨I1.base.keep,I1.base.slot,fun c o e n hx=>?_,I1.base.there,fun c zs e=>?_,fun c o v e=>?_,fun c qs e=>?_⟩,I1.loc,I1.cell,?_,fun v c e=>?_,fun v hv=>?_,?_,I1.len⟩
  · rw [upd_ne (fun e'=>?_)]
    ·exact I1.base.free c o e n hx
    ·exact absurd (Nat.lt_of_lt_of_le (Heap.lt_size e) I.sz) (by rw [e'];exact Nat.lt_irrefl _)
  · have e':=I1.base.tups c zs e
    rw [upd_ne (ne_of_none e' hfr)];exact e'
  · have e':=I1.base.frzs c o v e
    rw [upd_ne (ne_of_none e' hfr)];exact e'
  · obtain ⟨m,e'⟩:=I1.base.tbls c qs e
    exact ⟨m,by rw [upd_ne (ne_of_none e' hfr)];exact e'⟩
  ·rw [upd_ne (Nat.ne_of_lt I.lt)];exact I1.free
  · obtain ⟨w',qc⟩:=I.cell v c e
    rw [upd_ne (Nat.ne_of_lt qc.lt)];exact I1.freeC v c e
  · obtain ⟨f1,f2,f3⟩:=I1.pin v hv
    refine ⟨f1,?_,f3⟩
    rw [upd_ne (Nat.ne_of_lt (Heap.lt_size (I.pin v hv).1))];exact f2
  · intro c v e
    by_cases hcs:c=s.heap.objs.size
    · subst hcs
      rw [upd_same] at e
      cases e
      exact ⟨by show 2≤sizeLine;rw [sizeLine_eq];decide,[u,u'],.cons ru (.cons ru' .nil),⟨_,hpair,rfl,0,rfl⟩⟩
    · rw [upd_ne hcs] at e
      refine (I1.hok c v e).stay (fun _ _ _ qq=>qq) (fun d qd=>?_) fun d zs qd=>?_
      ·rw [upd_ne (ne_of_none qd hfr)];exact qd
      ·rw [upd_ne (ne_of_none qd hfr)];exact qd
def Ite (K:PySem.W.Frag) (a:Addr):It:=
  ⟨fun i H=>∃xs x,SqL K H a xs∧xs[i]? = some x,
   fun i H v H'=>∃t x,v = .ref t∧H t=none∧H'=upd H t (.tup [.int i,x])∧∀xs,SqL K H a xs→xs[i]? = some x,
   fun i H=>∃xs,SqL K H a xs∧xs.length≤i⟩
structure EnumSt (e it a:Addr) (i:Nat) (h:Heap):Prop where
  he:∃old,IsEnum h e it i old
  hi:h.IsListIter it a i
theorem turn_enum {P:Program} {w:World} {K:PySem.W.Frag} {es:List Expr} {k:Nat} {pos:Pos} {e it a:Addr} (nei:e≠it) :
    Turn P w K (.Tuple es k pos) (Ite K a) [e,it] e (EnumSt e it a) where
  mem:=by simp
  obj:=fun i h st c hc=>by
    simp only [List.mem_cons,List.not_mem_nil,or_false] at hc
    rcases hc with rfl | rfl
    · obtain ⟨old,q⟩:=st.he
      exact ⟨_,q,fun v e=>nomatch e⟩
    · obtain ⟨o,e,_,d⟩:=st.hi
      exact ⟨o,e,fun v y=>by rw [d] at y;cases y⟩
  keep:=fun i h h' st kk=>by
    obtain ⟨old,q⟩:=st.he
    exact ⟨⟨old,kk e (by simp) _ q⟩,st.hi.at fun o z=>kk it (by simp) o z⟩
  item:=by
    intro X hP hw hK hc i pins s σ H E I hf st hg
    subst hP hw hK
    obtain ⟨xs,x,qa,hx⟩:=hg
    obtain ⟨its,rv,pl,hz1⟩:=I.list qa
    obtain ⟨u,hu,ru⟩:=rv.get hx
    obtain ⟨old,hE⟩:=st.he
    obtain ⟨o1,e1,c1,_⟩:=id st.hi
    refine wpAny_pyNext_enum_item hE st.hi pl.isList (x:=u) (by simpa using hu) nei fun h' a1 a2 a3 a4 kk=>?_
    refine ⟨_,rfl,wpAny_letOwnedTupleGo_enum a1 fun h2 b1 sb=>?_⟩
    have lt:∀{c o},s.heap.get? c=some o→s.heap.objs.size≠c:=fun e=>Nat.ne_of_gt (Heap.lt_size e)
    have hn:H s.heap.objs.size=none:=I.hok.fresh (Nat.le_refl _)
    have kk2:∀c o,c∉[e,it]→s.heap.get? c=some o→h2.get? c=some o:=fun c o hc z=>by
      simp only [List.mem_cons,List.not_mem_nil,or_false,not_or] at hc
      exact (sb.2 c hc.1).trans (kk c o hc.1 hc.2 z)
    have I1:Inv X pins σ H {s with heap:=h2,toks:=s.toks+1}:=I.turnedL kk2 hf
    have hpair:=sb.extBut _ _ (lt hE) a3
    have I2:Inv X pins σ (upd H s.heap.objs.size (.tup [.int i,x])) {s with heap:=h2,toks:=s.toks+1}:=I.pairNew I1 ⟨_,rfl⟩ ru hpair
    refine ⟨.ref s.heap.objs.size,_,I2,rfl,⟨s.heap.objs.size,x,rfl,hn,rfl,fun xs' q'=>by rw [I.list_inj q' qa];exact hx⟩,?_,fun c hcm=>?_⟩
    ·exact ⟨⟨_,b1⟩,a2.extBut sb.extBut nei.symm⟩
    · have hne:c≠s.heap.objs.size:=by
        simp only [List.mem_cons,List.not_mem_nil,or_false] at hcm
        rcases hcm with rfl | rfl
        ·exact (lt hE).symm
        ·exact (lt e1).symm
      rw [upd_ne hne]
      exact (hf c hcm).1
  done:=by
    intro X hP hw hK hc i pins s σ H E I hf st hg
    subst hP hw hK
    obtain ⟨xs,qa,hl⟩:=hg
    obtain ⟨its,rv,pl,hz1⟩:=I.list qa
    obtain ⟨old,hE⟩:=st.he
    have l1:=rv.length
    refine wpAny_pyNext_enum_end (I.ok.hd hc) hE st.hi pl.isList (by simp;omega) fun h' kk=>⟨rfl,I.turnedL (t':=s.toks) (fun c o hcm z=>?_) hf⟩
    simp only [List.mem_cons,List.not_mem_nil,or_false,not_or] at hcm
    exact kk c o hcm.2 z
  self:=fun _ _ _ _ _ st h=>by
    obtain ⟨old,q⟩:=st.he
    exact wpAny_pyIter_enum q h
section
variable {X:Cx} {K:PySem.W.Frag}
def iEnum (K:PySem.W.Frag) (t:TA):TI:=fun σ H R=>t σ H fun vs H1=>∃a xs,vs=[.ref a]∧SqL K H1 a xs∧R (Ite K a) H1
theorem boot_enum:bootBuiltins "enumerate" = some (.type "enumerate"):=by decide +kernel
theorem pi_enum (hK:X.K=K) {es:List Expr} {k:Nat} {pos':Pos} {a:Expr} {ta:TA} {p pos:Pos} (hg:Gl X "enumerate") (hm:X.mg "enumerate" = none) (ha:PA X [a] ta)
    (hs:starEach [a] X.env=[(false,eval a X.env)]:=by rfl) :
    PI X (.Tuple es k pos') (.Call (.Name "enumerate" p) [a] [] pos) (iEnum K ta):=by
  subst hK
  intro pins s σ H R I h
  refine Call_ (ld_blt I hg hm boot_enum (PyProof.Rows.callWith_type1 (thn (ha pos pins s σ H _ I h) fun us s1 zz=>?_) (by rw [hs];rfl) (by rfl)))
  obtain ⟨vs,H1,I1,r1,q1⟩:=zz
  obtain ⟨l1,xs,e,qa,q⟩:=q1
  subst e
  obtain ⟨u,rfl,r⟩:=vals1 r1
  obtain rfl:u=Value.ref l1:=r
  obtain ⟨its,rv,pl,hz1⟩:=I1.list qa
  refine call_enumerate_list pl.isList fun h' b1 b2 b3 kk=>?_
  refine wpAny_pyIter_enum (s:={s1 with heap:=h'}) b1 ?_
  have I2:Inv X pins σ H1 {s1 with heap:=h'}:=I1.kept (t':=s1.toks) kk
  refine ⟨s1.heap.objs.size+1,[s1.heap.objs.size+1,s1.heap.objs.size],_,_,H1,rfl,I2,turn_enum (Nat.succ_ne_self _),⟨⟨_,b1⟩,b2⟩,fun c hc=>?_,q⟩
  have hle:s1.heap.objs.size≤c:=by
    simp only [List.mem_cons,List.not_mem_nil,or_false] at hc
    rcases hc with rfl | rfl <;> first | exact Nat.le_add_right _ _ | exact Nat.le_refl _
  exact I1.fpOk hle (I1.hok.fresh hle)
end
section
variable {X:Cx} {K:PySem.W.Frag} {tg:Expr}
theorem pi_zipk (hK:X.K=K) {es:List Expr} {k:Nat} {pos':Pos} {a b:Expr} {ta:TA} {p pos:Pos} (hg:Gl X "zip") (hm:X.mg "zip" = none) (ha:PA X [a,b] ta)
    (hs:starEach [a,b] X.env=[(false,eval a X.env),(false,eval b X.env)]:=by rfl) (hs2:starEach [b] X.env=[(false,eval b X.env)]:=by rfl) :
    PI X (.Tuple es k pos') (.Call (.Name "zip" p) [a,b] [] pos) (iZip K ta):=by subst hK;exact pi_zip hg hm ha hs hs2
theorem ps_fldk (hK:X.K=K) {o value:Expr} {ta tv:TE} {f:Str} {pos pos':Pos} (ha:PE X o ta) (hv:PE X value tv) (hs:swapsWith value (some (.Attribute o f pos')) pos.line X.env=pure false):PS X (.Assign [.Attribute o f pos'] value pos) (sFld K ta tv f):=by subst hK;exact ps_fld ha hv hs
end
@[simp ↓] theorem tVar_w (i:Nat) σ H Q:tVar i σ H Q=(∃v,σ[i]? = some (some v)∧Q v H):=rfl
@[simp ↓] theorem tC_w (v:V) z0 H Q:tC v z0 H Q=(Q v H):=rfl
@[simp ↓] theorem tB_w (t:TE) σ H Q:tB t σ H Q=(t σ H fun x H1=>∃c,x = .bl c∧Q c H1):=rfl
@[simp ↓] theorem tNot_w (t:TT) σ H Q:tNot t σ H Q=(t σ H fun c H1=>Q (!c) H1):=rfl
@[simp ↓] theorem tNotV_w (ta:TE) σ H Q:tNotV ta σ H Q=(ta σ H fun x H1=>∃c,x = .bl c∧Q (.bl (!c)) H1):=rfl
@[simp ↓] theorem tNext_w D σ H:tNext  D σ H=(D.nx σ H):=rfl
@[simp ↓] theorem tSeq_w (t u:TS) D σ H:tSeq t u D σ H=(t {D with nx:=u D} σ H):=rfl
@[simp ↓] theorem tDrop_w (te:TE) D σ H:tDrop te D σ H=(te σ H fun _ H1=>D.nx σ H1):=rfl
@[simp ↓] theorem tRet_w (te:TE) D σ H:tRet te D σ H=(te σ H D.rt):=rfl
@[simp ↓] theorem tNever_w z0 z1 z2:tNever  z0 z1 z2=(False):=rfl
@[simp ↓] theorem gName_w (i:Nat) v σ H Q:gName i v σ H Q=(Q (σ.set i (some v)) H):=rfl
@[simp ↓] theorem gNil_w vs σ H Q:gNil  vs σ H Q=(vs=[]∧Q σ H):=rfl
@[simp ↓] theorem gCons_w (t:TG) (u:TGs) vs σ H Q:gCons t u vs σ H Q=(∃v r,vs=v::r∧t v σ H fun σ' H'=>u r σ' H' Q):=rfl
@[simp ↓] theorem gTup_w (K:PySem.W.Frag) (n:Nat) (t:TGs) v σ H Q:gTup K n t v σ H Q=(∃a xs,v = .ref a∧SqT K H a xs∧xs.length=n∧t xs σ H Q):=rfl
@[simp ↓] theorem gSub_w (to ti:TE) (t:TSet) v σ H Q:gSub to ti t v σ H Q=(to σ H fun o H1=>ti σ H1 fun i H2=>t o i v H2 fun H3=>Q σ H3):=rfl
@[simp ↓] theorem tAsg_w (te:TE) (g:TG) D σ H:tAsg te g D σ H=(te σ H fun x H1=>g x σ H1 D.nx):=rfl
@[simp ↓] theorem tAug_w (i:Nat) (te:TE) (ti:TIp) D σ H:tAug i te ti D σ H=(∃x,σ[i]? = some (some x)∧te σ H fun y H1=>ti x y H1 fun z H2=>D.nx (σ.set i (some z)) H2):=rfl
@[simp ↓] theorem ipI_w (f:Int→Int→Int) x y H Q:ipI f x y H Q=(∃i j,x = .int i∧y = .int j∧Q (.int (f i j)) H):=rfl
@[simp ↓] theorem iList_w (K:PySem.W.Frag) (tl:TE) σ H R:iList K tl σ H R=(tl σ H fun x H1=>∃a,x = .ref a∧(∃xs,SqL K H1 a xs)∧R (Itl K a) H1):=rfl
@[simp ↓] theorem iTup_w (K:PySem.W.Frag) (tl:TE) σ H R:iTup K tl σ H R=(tl σ H fun x H1=>∃a,x = .ref a∧(∃xs,SqT K H1 a xs)∧R (Itt K a) H1):=rfl
@[simp ↓] theorem iRng1_w (ta:TA) σ H R:iRng1 ta σ H R=(ta σ H fun vs H1=>∃j:Int,vs=[.int j]∧-(2 ^ 62)≤j∧j<2 ^ 62∧R (Itr 0 j.toNat) H1):=rfl
@[simp ↓] theorem iRng2_w (ta:TA) σ H R:iRng2 ta σ H R=(ta σ H fun vs H1=>∃i j:Int,vs=[.int i,.int j]∧(-(2 ^ 62)≤i∧i<2 ^ 62∧-(2 ^ 62)≤j∧j<2 ^ 62)∧R (Itr i (j - i).toNat) H1):=rfl
@[simp ↓] theorem tOp_w (r:R2) (ta tb:TE) σ H Q:tOp r ta tb σ H Q=(ta σ H fun x H1=>tb σ H1 fun y H2=>r x y H2 Q):=rfl
@[simp ↓] theorem tUn_w (r:V→Hp→VK→Prop) (ta:TE) σ H Q:tUn r ta σ H Q=(ta σ H fun x H1=>r x H1 Q):=rfl
@[simp ↓] theorem rI_w (C:Int→Int→Prop) (g:Int→Int→V) x y H Q:rI C g x y H Q=(∃i j,x = .int i∧y = .int j∧C i j∧Q (g i j) H):=rfl
@[simp ↓] theorem rI0_w (g:Int→Int→V) x y H Q:rI0 g x y H Q=(∃i j,x = .int i∧y = .int j∧Q (g i j) H):=rfl
@[simp ↓] theorem rU_w (g:Int→V) x H Q:rU g x H Q=(∃i,x = .int i∧Q (g i) H):=rfl
@[simp ↓] theorem rEq_w x y H Q:rEq  x y H Q=(scal x y=true∧Q (.bl (decide (x=y))) H):=rfl
@[simp ↓] theorem rNe_w x y H Q:rNe  x y H Q=(scal x y=true∧Q (.bl (!decide (x=y))) H):=rfl
@[simp ↓] theorem tTest_w (t:TE) σ H Q:tTest t σ H Q=(t σ H fun x H'=>∃k,x = .bl k∧Q k H'):=rfl
@[simp ↓] theorem tFld_w (K:PySem.W.Frag) (ta:TE) (f:Str) σ H Q:tFld K ta f σ H Q=(ta σ H fun x H1=>∃a C dx fs v,x = .ref a∧H1 a=some (.ins C dx fs)∧Cls K C∧NoAttr K C f∧fs.lookup f=some v∧Q v H1):=rfl
@[simp ↓] theorem sFld_w (K:PySem.W.Frag) (ta tv:TE) (f:Str) D σ H:sFld K ta tv f D σ H=(tv σ H fun y H1=>ta σ H1 fun x H2=>∃a C dx fs,x = .ref a∧H2 a=some (.ins C dx fs)∧Cls K C∧NoAttr K C f∧fs.length<1000∧D.nx σ (upd H2 a (.ins C dx (putF f y fs)))):=rfl
@[simp ↓] theorem tNil_w z0 H Q:tNil  z0 H Q=(Q [] H):=rfl
@[simp ↓] theorem tCons_w (ta:TE) (tr:TA) σ H Q:tCons ta tr σ H Q=(ta σ H fun x H1=>tr σ H1 fun xs H2=>Q (x::xs) H2):=rfl
@[simp ↓] theorem tTup_w (t:TA) σ H Q:tTup t σ H Q=(t σ H fun xs H1=>xs.length≤sizeLine∧∀p,H1 p=none→Q (.ref p) (upd H1 p (.tup xs))):=rfl
@[simp ↓] theorem tLst_w (t:TA) σ H Q:tLst t σ H Q=(t σ H fun xs H1=>xs.length≤sizeLine∧∀p,H1 p=none→Q (.ref p) (upd H1 p (.lst xs))):=rfl
@[simp ↓] theorem tCB_w (r:List V→Hp→VK→Prop) (t:TA) σ H Q:tCB r t σ H Q=(t σ H fun vs H1=>r vs H1 Q):=rfl
@[simp ↓] theorem tNoPart_w z0 H Q:tNoPart  z0 H Q=(Q none H):=rfl
@[simp ↓] theorem tPart_w (t:TE) σ H Q:tPart t σ H Q=(t σ H fun x H1=>∃i,x = .int i∧Q (some i) H1):=rfl
@[simp ↓] theorem tSl_w (r:V→Option Int→Option Int→Hp→VK→Prop) (te:TE) (tl th:TO) σ H Q:tSl r te tl th σ H Q=(te σ H fun x H1=>tl σ H1 fun l H2=>th σ H2 fun u H3=>r x l u H3 Q):=rfl
@[simp ↓] theorem rIxL_w (K:PySem.W.Frag) x y H Q:rIxL K x y H Q=(∃p xs i v,x = .ref p∧y = .int i∧SqL K H p xs∧atI xs i=some v∧Q v H):=rfl
@[simp ↓] theorem rIxT_w (K:PySem.W.Frag) x y H Q:rIxT K x y H Q=(∃p xs i v,x = .ref p∧y = .int i∧SqT K H p xs∧atI xs i=some v∧Q v H):=rfl
@[simp ↓] theorem rIxS_w x y H Q:rIxS  x y H Q=(∃z i c,x = .str z∧y = .int i∧z.length≤sizeLine∧atI z.cps.toList i=some c∧Q (.str ⟨#[c]⟩) H):=rfl
@[simp ↓] theorem rSetL_w o i v H Q:rSetL  o i v H Q=(∃p xs k j,o = .ref p∧i = .int k∧H p=some (.lst xs)∧ixN xs.length k=some j∧Q (upd H p (.lst (xs.set j v)))):=rfl
@[simp ↓] theorem rSlL_w (K:PySem.W.Frag) x lo hi H Q:rSlL K x lo hi H Q=(∃a xs,x = .ref a∧SqL K H a xs∧∀p,H p=none→Q (.ref p) (upd H p (.lst (cutV xs lo hi)))):=rfl
@[simp ↓] theorem rIn_w (K:PySem.W.Frag) (neg:Bool) x y H Q:rIn K neg x y H Q=(∃p xs,y = .ref p∧(SqL K H p xs∨SqT K H p xs)∧flatV x=true∧xs.all flatV=true∧Q (.bl (if neg then !inV x xs else inV x xs)) H):=rfl
@[simp ↓] theorem tBM_w (K:PySem.W.Frag) (T:String) (r:V→List V→Hp→VK→Prop) (to:TE) (t:TA) σ H Q:tBM K T r to t σ H Q=(to σ H fun x H1=>tyV K T x H1∧t σ H1 fun xs H2=>r x xs H2 Q):=rfl
@[simp ↓] theorem rAppend_w x vs H Q:rAppend  x vs H Q=(∃l xs y,x = .ref l∧vs=[y]∧H l=some (.lst xs)∧xs.length<sizeLine∧Q .non (upd H l (.lst (xs++[y])))):=rfl
@[simp ↓] theorem rCat_w x y H Q:rCat  x y H Q=(∃l b xs zs,x = .ref l∧y = .ref b∧H l=some (.lst xs)∧H b=some (.lst zs)∧xs.length+zs.length≤sizeLine∧∀p,H p=none→Q (.ref p) (upd H p (.lst (xs++zs)))):=rfl
@[simp ↓] theorem rRep_w x y H Q:rRep  x y H Q=(∃l k xs,x = .ref l∧y = .int k∧H l=some (.lst xs)∧-(2 ^ 63)≤k∧k<2 ^ 63∧xs.length * k.toNat≤sizeLine∧∀p,H p=none→Q (.ref p) (upd H p (.lst (List.replicate k.toNat xs).flatten))):=rfl
@[simp ↓] theorem tYes_w z0 H Q:tYes  z0 H Q=(Q true H):=rfl
@[simp ↓] theorem iStr_w (tl:TE) σ H R:iStr tl σ H R=(tl σ H fun x H1=>∃z,x = .str z∧R (Its z) H1):=rfl
@[simp ↓] theorem iZip_w (K:PySem.W.Frag) (t:TA) σ H R:iZip K t σ H R=(t σ H fun vs H1=>∃a b xs ys,vs=[.ref a,.ref b]∧SqL K H1 a xs∧SqL K H1 b ys∧R (Itz K a b) H1):=rfl
@[simp ↓] theorem rInsert_w x vs H Q:rInsert  x vs H Q=(∃l xs i y,x = .ref l∧vs=[.int i,y]∧H l=some (.lst xs)∧0≤i∧i≤xs.length∧xs.length<sizeLine∧Q .non (upd H l (.lst (xs.take i.toNat++y::xs.drop i.toNat)))):=rfl
@[simp ↓] theorem rAddS_w x y H Q:rAddS  x y H Q=(∃i j,x = .str i∧y = .str j∧i.length+j.length≤sizeLine∧Q (.str (i++j)) H):=rfl
@[simp ↓] theorem rInS_w x y H Q:rInS  x y H Q=(∃i j,x = .str i∧y = .str j∧Q (.bl (!(Builtin.Str.occurrences j i 0 j.length 1).isEmpty)) H):=rfl
@[simp ↓] theorem rNotInS_w x y H Q:rNotInS  x y H Q=(∃i j,x = .str i∧y = .str j∧Q (.bl (!(!(Builtin.Str.occurrences j i 0 j.length 1).isEmpty))) H):=rfl
@[simp ↓] theorem rInA_w (K:PySem.W.Frag) x y H Q:rInA K x y H Q=(rIn K false x y H Q∨rInS x y H Q):=rfl
@[simp ↓] theorem rNotInA_w (K:PySem.W.Frag) x y H Q:rNotInA K x y H Q=(rIn K true x y H Q∨rNotInS x y H Q):=rfl
@[simp ↓] theorem rIxQ_w (K:PySem.W.Frag) x y H Q:rIxQ K x y H Q=(∃p xs i v,x = .ref p∧y = .int i∧(SqL K H p xs∨SqT K H p xs)∧atI xs i=some v∧Q v H):=rfl
@[simp ↓] theorem rLenQ_w (K:PySem.W.Frag) xs H Q:rLenQ K xs H Q=(∃p ys,xs=[.ref p]∧(SqL K H p ys∨SqT K H p ys)∧Q (.int ys.length) H):=rfl
@[simp ↓] theorem rLenT_w xs H Q:rLenT  xs H Q=(∃z,xs=[.str z]∧z.length≤sizeLine∧Q (.int z.length) H):=rfl
@[simp ↓] theorem rListOf_w (K:PySem.W.Frag) xs H Q:rListOf K xs H Q=(∃p ys,xs=[.ref p]∧(SqL K H p ys∨SqT K H p ys)∧∀l,H l=none→Q (.ref l) (upd H l (.lst ys))):=rfl
@[simp ↓] theorem rIsiT_w (K:PySem.W.Frag) xs H Q:rIsiT K xs H Q=(∃x n t b,xs=[x,.ty n]∧TyOf K H x t∧PySem.W.kitOne K t (.type n)=some b∧Q (.bl b) H):=rfl
@[simp ↓] theorem rIsi2_w (K:PySem.W.Frag) xs H Q:rIsi2 K xs H Q=(∃x p m n t b,xs=[x,.ref p]∧H p=some (.tup [.ty m,.ty n])∧TyOf K H x t∧PySem.W.kitAny K t [.type m,.type n]=some b∧Q (.bl b) H):=rfl
@[simp ↓] theorem iSeq_w (K:PySem.W.Frag) (tl:TE) σ H R:iSeq K tl σ H R=(tl σ H fun x H1=>∃b p,x = .ref p∧(∃xs,SqB b K H1 p xs)∧R (Itq b K p) H1):=rfl
@[simp ↓] theorem rTupleS_w xs H Q:rTupleS  xs H Q=(∃p ys,xs=[.ref p]∧Sq H p ys∧∀l H',H' l=some (.tup ys)→Same H H'→Q (.ref l) H'):=rfl
structure DepQ (Q:VK) where
  n:Nat
structure DepF (g:TG) (tb:TS) (D:Ends) where
  n:Nat
structure DepW (c:TT) (tb:TS) (D:Ends) where
  n:Nat
structure DepC (g:TG) (tt:TT) (te:TE) (Q:Hp→Prop) where
  n:Nat
structure DepB (A B:Prop) where
  n:Nat
def tSp (sp:Sp) (vs:List V) (H:Hp) (Q:VK) (d:DepQ Q) (E:XK):Prop:=sp vs H Q E
def tFr (J:It) (g:TG) (tb:TS) (D:Ends) (d:DepF g tb D) (σ:St) (H:Hp):Prop:=tForAt J g tb D σ H
def tWh (c:TT) (tb:TS) (D:Ends) (d:DepW c tb D) (σ:St) (H:Hp):Prop:=tWhile c tb D σ H
def tCm (own:List Str) (caps:List Nat) (J:It) (g:TG) (tt:TT) (te:TE) (Q:Hp→Prop) (d:DepC g tt te Q) (D:Addr) (σ:St) (H:Hp):Prop:=tCompAt own caps J g tt te D σ H Q
def tBr (b:Bool) (A B:Prop) (d:DepB A B):Prop:=if b=true then A else B
@[simp] theorem tBr_t (A B:Prop) (d:DepB A B):tBr true A B d=A:=rfl
@[simp] theorem tBr_f (A B:Prop) (d:DepB A B):tBr false A B d=B:=rfl
theorem tBr.of {b:Bool} {A B:Prop} {d:DepB A B} (h1:b=true→A) (h2:b=false→B):tBr b A B d:=by
  cases b with
  | true=>exact h1 rfl
  | false=>exact h2 rfl
theorem tBr.pos {b:Bool} {A B:Prop} {d:DepB A B} (h:b=true) (h1:A):tBr b A B d:=by subst h;exact h1
theorem tBr.neg {b:Bool} {A B:Prop} {d:DepB A B} (h:b=false) (h1:B):tBr b A B d:=by subst h;exact h1
@[simp ↓] theorem tCall_w (sp:Sp) (dvs:List V) (E:XK) (t:TA) (σ:St) (H:Hp) (Q:VK):tCall sp dvs E t σ H Q=t σ H fun vs H1=>tSp sp (vs++dvs) H1 Q ⟨0⟩ E:=rfl
@[simp ↓] theorem tMeth_w (C:Addr) (m:Str) (sp:Sp) (dvs:List V) (E:XK) (ta:TE) (t:TA) (σ:St) (H:Hp) (Q:VK):tMeth C m sp dvs E ta t σ H Q=ta σ H fun x H1=>∃a dx fs,x = .ref a∧H1 a=some (.ins C dx fs)∧fs.lookup m=none∧t σ H1 fun vs H2=>tSp sp (x::(vs++dvs)) H2 Q ⟨0⟩ E:=rfl
@[simp ↓] theorem tMake_w (C:Addr) (sp:Sp) (dvs:List V) (E:XK) (t:TA) (σ:St) (H:Hp) (Q:VK):tMake C sp dvs E t σ H Q=t σ H fun vs H1=>∀x dx,H1 x=none→H1 dx=none→dx≠x→
  tSp sp (.ref x::(vs++dvs)) (upd (upd H1 dx (.own x)) x (.ins C dx [])) (fun v H2=>v = .non∧Q (.ref x) H2) ⟨0⟩ E:=rfl
@[simp ↓] theorem tFor_w (wi:TI) (g:TG) (tb:TS) (D:Ends) (σ:St) (H:Hp):tFor wi g tb D σ H=wi σ H fun J H1=>tFr J g tb D ⟨0⟩ σ H1:=rfl
@[simp ↓] theorem tWhile_w (c:TT) (tb:TS) (D:Ends) (σ:St) (H:Hp):tWhile c tb D σ H=tWh c tb D ⟨0⟩ σ H:=rfl
@[simp ↓] theorem tComp_w (own:List Str) (caps:List Nat) (wi:TI) (g:TG) (tt:TT) (te:TE) (σ:St) (H:Hp) (Q:VK):tComp own caps wi g tt te σ H Q=wi σ H fun J H1=>∀D,H1 D=none→tCm own caps J g tt te (Q (.ref D)) ⟨0⟩ D σ (upd H1 D (.lst [])):=rfl
@[simp ↓] theorem tIfS_w (c:TT) (t u:TS) (D:Ends) (σ:St) (H:Hp):tIfS c t u D σ H=c σ H fun b H1=>tBr b (t D σ H1) (u D σ H1) ⟨0⟩:=rfl
@[simp ↓] theorem tIf_w (c:TT) (t u:TE) (σ:St) (H:Hp) (Q:VK):tIf c t u σ H Q=c σ H fun b H1=>tBr b (t σ H1 Q) (u σ H1 Q) ⟨0⟩:=rfl
@[simp ↓] theorem tAnd_w (t u:TT) (σ:St) (H:Hp) (Q:Bool→Hp→Prop):tAnd t u σ H Q=t σ H fun c H1=>tBr c (u σ H1 Q) (Q false H1) ⟨0⟩:=rfl
@[simp ↓] theorem tOr_w (t u:TT) (σ:St) (H:Hp) (Q:Bool→Hp→Prop):tOr t u σ H Q=t σ H fun c H1=>tBr c (Q true H1) (u σ H1 Q) ⟨0⟩:=rfl
@[simp ↓] theorem tAndV_w (ta tb:TE) (σ:St) (H:Hp) (Q:VK):tAndV ta tb σ H Q=ta σ H fun x H1=>∃c,x = .bl c∧tBr c (tb σ H1 Q) (Q (.bl false) H1) ⟨0⟩:=rfl
@[simp ↓] theorem tOrV_w (ta tb:TE) (σ:St) (H:Hp) (Q:VK):tOrV ta tb σ H Q=ta σ H fun x H1=>∃c,x = .bl c∧tBr c (Q (.bl true) H1) (tb σ H1 Q) ⟨0⟩:=rfl
@[simp ↓] theorem tChain_w (r r':R2) (ta tb tc:TE) (σ:St) (H:Hp) (Q:VK):tChain r r' ta tb tc σ H Q=ta σ H fun x H1=>tb σ H1 fun y H2=>r x y H2 fun z H3=>∃k,z = .bl k∧tBr k (tc σ H3 fun z H4=>r' y z H4 Q) (Q (.bl false) H3) ⟨0⟩:=rfl
def tTurn (g:TG) (tt:TT) (te:TE) (D:Addr) (N:St→Hp→Prop) (x:V) (σ:St) (H:Hp):Prop:=
  g x σ H fun σ2 H3=>tt σ2 H3 fun b H4=>tBr b (te σ2 H4 fun y H5=>∃ys,H5 D=some (.lst ys)∧ys.length<sizeLine∧N σ2 (upd H5 D (.lst (ys++[y])))) (N σ2 H4) ⟨0⟩
@[simp ↓] theorem tTurn_w (g:TG) (tt:TT) (te:TE) (D:Addr) (N:St→Hp→Prop) (x:V) (σ:St) (H:Hp):tTurn g tt te D N x σ H =
  (g x σ H fun σ2 H3=>tt σ2 H3 fun b H4=>tBr b (te σ2 H4 fun y H5=>∃ys,H5 D=some (.lst ys)∧ys.length<sizeLine∧N σ2 (upd H5 D (.lst (ys++[y])))) (N σ2 H4) ⟨0⟩):=rfl
@[simp ↓] theorem ex_par {α:Type} (a b:α) (R:α→α→Prop):(∃v w,[a,b]=[v,w]∧R v w)=R a b:=by
  refine propext ⟨?_,fun h=>⟨a,b,rfl,h⟩⟩
  rintro ⟨_,_,e,h⟩
  cases e
  exact h
@[simp] theorem ex_and2 {α β:Type} (a:α) (b:β) (R:α→β→Prop):(∃v w,(a=v∧b=w)∧R v w)=R a b:=by
  refine propext ⟨?_,fun h=>⟨a,b,⟨rfl,rfl⟩,h⟩⟩
  rintro ⟨_,_,⟨rfl,rfl⟩,h⟩
  exact h
@[simp] theorem sz0:(0≤sizeLine)=True:=eq_true (by decide)
@[simp] theorem sz1:(1≤sizeLine)=True:=eq_true (by decide)
@[simp] theorem sz2:(2≤sizeLine)=True:=eq_true (by decide)
@[simp] theorem sz3:(3≤sizeLine)=True:=eq_true (by decide)
@[simp] theorem sz4:(4≤sizeLine)=True:=eq_true (by decide)
@[simp] theorem sz5:(5≤sizeLine)=True:=eq_true (by decide)
@[simp] theorem sz6:(6≤sizeLine)=True:=eq_true (by decide)
@[simp] theorem sz7:(7≤sizeLine)=True:=eq_true (by decide)
@[simp] theorem sz8:(8≤sizeLine)=True:=eq_true (by decide)
@[simp] theorem sz9:(9≤sizeLine)=True:=eq_true (by decide)
@[simp] theorem sz10:(10≤sizeLine)=True:=eq_true (by decide)
@[simp] theorem sz11:(11≤sizeLine)=True:=eq_true (by decide)
@[simp] theorem sz12:(12≤sizeLine)=True:=eq_true (by decide)
@[simp] theorem sz13:(13≤sizeLine)=True:=eq_true (by decide)
@[simp] theorem sz14:(14≤sizeLine)=True:=eq_true (by decide)
@[simp] theorem sz15:(15≤sizeLine)=True:=eq_true (by decide)
@[simp] theorem sz16:(16≤sizeLine)=True:=eq_true (by decide)
@[simp] theorem sz17:(17≤sizeLine)=True:=eq_true (by decide)
@[simp] theorem sz18:(18≤sizeLine)=True:=eq_true (by decide)
@[simp] theorem sz19:(19≤sizeLine)=True:=eq_true (by decide)
@[simp] theorem sz20:(20≤sizeLine)=True:=eq_true (by decide)
@[simp] theorem scal_ii (i j:Int):scal (.int i) (.int j)=true:=rfl
@[simp] theorem scal_ss (i j:Str):scal (.str i) (.str j)=true:=rfl
@[simp] theorem scal_bb (i j:Bool):scal (.bl i) (.bl j)=true:=rfl
@[simp] theorem scal_is (i:Int) (j:Str):scal (.int i) (.str j)=true:=rfl
@[simp] theorem scal_si (i:Int) (j:Str):scal (.str j) (.int i)=true:=rfl
@[simp] theorem tyV_list (K:PySem.W.Frag) (p:Addr) (H:Hp):tyV K "list" (.ref p) H=(∃xs,SqL K H p xs):=by simp [tyV]
@[simp] theorem tyV_str (K:PySem.W.Frag) (p:Str) (H:Hp):tyV K "str" (.str p) H=True:=by simp [tyV]
section
variable {K:PySem.W.Frag} {l:Addr} {xs:List V} {g:TG} {tb:TS} {D:Ends} {d:DepF g tb D} {σ:St} {H:Hp}
theorem frL (xs:List V) (Pv:Nat→St→Hp→Prop) (h0:Pv 0 σ H) (hl:∀i σ H,i≤xs.length→Pv i σ H→SqL K H l xs)
    (hs:∀i x σ H,xs[i]? = some x→Pv i σ H→g x σ H fun σ2 H2=>tb {D with nx:=Pv (i+1),ct:=Pv (i+1),bk:=D.nx} σ2 H2) (hd:∀σ H,Pv xs.length σ H→D.nx σ H):tFr (Itl K l) g tb D d σ H:=for_list Pv h0 hl hs hd
theorem frT (xs:List V) (Pv:Nat→St→Hp→Prop) (h0:Pv 0 σ H) (hl:∀i σ H,i≤xs.length→Pv i σ H→SqT K H l xs)
    (hs:∀i x σ H,xs[i]? = some x→Pv i σ H→g x σ H fun σ2 H2=>tb {D with nx:=Pv (i+1),ct:=Pv (i+1),bk:=D.nx} σ2 H2) (hd:∀σ H,Pv xs.length σ H→D.nx σ H):tFr (Itt K l) g tb D d σ H:=for_tup Pv h0 hl hs hd
theorem frR {lo:Int} {n:Nat} (Pv:Nat→St→Hp→Prop) (h0:Pv 0 σ H)
    (hs:∀i σ H,i<n→Pv i σ H→g (.int (lo+i)) σ H fun σ2 H2=>tb {D with nx:=Pv (i+1),ct:=Pv (i+1),bk:=D.nx} σ2 H2) (hd:∀σ H,Pv n σ H→D.nx σ H):tFr (Itr lo n) g tb D d σ H:=for_range Pv h0 hs hd
end
section
variable {K:PySem.W.Frag} {own:List Str} {caps:List Nat} {g:TG} {tt:TT} {te:TE} {D l l1 l2:Addr} {σ:St} {H:Hp} {Q:Hp→Prop} {d:DepC g tt te Q}
theorem cmL (xs:List V) (Pv:Nat→St→Hp→Prop) (h0:Pv 0 (stC own caps σ) H) (hl:∀i σ H,i≤xs.length→Pv i σ H→SqL K H l xs)
    (hs:∀i x σ H,xs[i]? = some x→Pv i σ H→tTurn g tt te D (Pv (i+1)) x σ H) (hd:∀σ H,Pv xs.length σ H→Q H):tCm own caps (Itl K l) g tt te Q d D σ H:=comp_list Pv h0 hl hs hd
theorem cmT (xs:List V) (Pv:Nat→St→Hp→Prop) (h0:Pv 0 (stC own caps σ) H) (hl:∀i σ H,i≤xs.length→Pv i σ H→SqT K H l xs)
    (hs:∀i x σ H,xs[i]? = some x→Pv i σ H→tTurn g tt te D (Pv (i+1)) x σ H) (hd:∀σ H,Pv xs.length σ H→Q H):tCm own caps (Itt K l) g tt te Q d D σ H:=comp_tup Pv h0 hl hs hd
theorem cmQ {b:Bool} (xs:List V) (Pv:Nat→St→Hp→Prop) (h0:Pv 0 (stC own caps σ) H) (hl:∀i σ H,i≤xs.length→Pv i σ H→SqB b K H l xs)
    (hs:∀i x σ H,xs[i]? = some x→Pv i σ H→tTurn g tt te D (Pv (i+1)) x σ H) (hd:∀σ H,Pv xs.length σ H→Q H):tCm own caps (Itq b K l) g tt te Q d D σ H:=comp_seq Pv h0 hl hs hd
theorem cmR {lo:Int} {n:Nat} (Pv:Nat→St→Hp→Prop) (h0:Pv 0 (stC own caps σ) H)
    (hs:∀i σ H,i<n→Pv i σ H→tTurn g tt te D (Pv (i+1)) (.int (lo+i)) σ H) (hd:∀σ H,Pv n σ H→Q H):tCm own caps (Itr lo n) g tt te Q d D σ H:=comp_range Pv h0 hs hd
theorem cmS {z:Str} (Pv:Nat→St→Hp→Prop) (h0:Pv 0 (stC own caps σ) H)
    (hs:∀i c σ H,z.cps[i]? = some c→Pv i σ H→tTurn g tt te D (Pv (i+1)) (.str ⟨#[c]⟩) σ H) (hd:∀σ H,Pv z.cps.size σ H→Q H):tCm own caps (Its z) g tt te Q d D σ H:=comp_str Pv h0 hs hd
theorem cmZ (xs ys:List V) (Pv:Nat→St→Hp→Prop) (h0:Pv 0 (stC own caps σ) H) (he:xs.length=ys.length) (hl:∀i σ H,i≤xs.length→Pv i σ H→SqL K H l1 xs∧SqL K H l2 ys)
    (hs:∀i x y t σ H,xs[i]? = some x→ys[i]? = some y→H t=none→Pv i σ H→tTurn g tt te D (Pv (i+1)) (.ref t) σ (upd H t (.tup [x,y]))) (hd:∀σ H,Pv xs.length σ H→Q H):tCm own caps (Itz K l1 l2) g tt te Q d D σ H:=comp_zip Pv h0 he hl hs hd
end
theorem tBr_join {c:Bool} {t u:TS} {D:Ends} {σ:St} {H:Hp} {d:DepB (t D σ H) (u D σ H)} (R:St→Hp→Prop) (hc:∀σ H,R σ H→D.nx σ H)
    (h:∀N:St→Hp→Prop,(∀σ H,R σ H→N σ H)→tBr c (t {D with nx:=N} σ H) (u {D with nx:=N} σ H) ⟨0⟩):tBr c (t D σ H) (u D σ H) d:=h D.nx hc
theorem perm_map_inv {α β:Type} {f:α→β} {ys zs:List β} (h:ys.Perm zs):∀l:List α,zs=l.map f→∃l':List α,l'.Perm l∧ys=l'.map f:=by
  induction h with
  | nil=>
    intro l e
    cases l with
    | nil=>exact ⟨[],.nil,rfl⟩
    | cons a l=>cases e
  | cons x _ ih=>
    intro l e
    cases l with
    | nil=>cases e
    | cons a l=>
      simp only [List.map_cons,List.cons.injEq] at e
      obtain ⟨l',p,e'⟩:=ih l e.2
      exact ⟨a::l',p.cons a,by rw [e',e.1,List.map_cons]⟩
  | swap x y _=>
    intro l e
    match l,e with
    | a::b::l,e=>
      simp only [List.map_cons,List.cons.injEq] at e
      exact ⟨b::a::l,.swap ..,by rw [e.1,e.2.1,e.2.2];rfl⟩
  | trans _ _ ih1 ih2=>
    intro l e
    obtain ⟨l',p,e'⟩:=ih2 l e
    obtain ⟨l2,p2,e2⟩:=ih1 l' e'
    exact ⟨l2,p2.trans p,e2⟩
theorem atI_prev {α:Type} {xs:List α} {k:Nat} (h2:2≤xs.length) (hk:k<xs.length):∃j x,j≠k∧xs[j]? = some x∧atI xs ((k:Int) - 1)=some x:=by
  cases k with
  | zero=>
    have hj:xs.length - 1<xs.length:=by omega
    refine ⟨xs.length - 1,xs[xs.length - 1],by omega,by simp [hj],?_⟩
    unfold atI ixN
    rw [if_neg (by omega),if_pos (by omega)]
    have e:(((0:Nat):Int) - 1+xs.length).toNat=xs.length - 1:=by omega
    show xs[(((0:Nat):Int) - 1+xs.length).toNat]? = _
    rw [e]
    simp [hj]
  | succ k=>
    have hj:k<xs.length:=by omega
    have e:((k+1:Nat):Int) - 1=(k:Int):=by omega
    rw [e]
    exact ⟨k,xs[k],by omega,by simp [hj],atI_nat (by simp [hj])⟩
end L2
namespace L2
open PySem
theorem kit_list_tuple (K:W.Frag):W.kitOne K (.type "list") (.type "tuple")=some false:=by simp [W.kitOne];rfl
theorem kit_list_str (K:W.Frag):W.kitOne K (.type "list") (.type "str")=some false:=by simp [W.kitOne];rfl
theorem kit_list_int (K:W.Frag):W.kitOne K (.type "list") (.type "int")=some false:=by simp [W.kitOne];rfl
theorem kit_list_bool (K:W.Frag):W.kitOne K (.type "list") (.type "bool")=some false:=by simp [W.kitOne];rfl
theorem kit_tuple_tuple (K:W.Frag):W.kitOne K (.type "tuple") (.type "tuple")=some true:=by simp [W.kitOne]
theorem kit_tuple_str (K:W.Frag):W.kitOne K (.type "tuple") (.type "str")=some false:=by simp [W.kitOne];rfl
theorem kit_tuple_int (K:W.Frag):W.kitOne K (.type "tuple") (.type "int")=some false:=by simp [W.kitOne];rfl
theorem kit_tuple_bool (K:W.Frag):W.kitOne K (.type "tuple") (.type "bool")=some false:=by simp [W.kitOne];rfl
theorem kit_str_tuple (K:W.Frag):W.kitOne K (.type "str") (.type "tuple")=some false:=by simp [W.kitOne];rfl
theorem kit_str_str (K:W.Frag):W.kitOne K (.type "str") (.type "str")=some true:=by simp [W.kitOne]
theorem kit_str_int (K:W.Frag):W.kitOne K (.type "str") (.type "int")=some false:=by simp [W.kitOne];rfl
theorem kit_str_bool (K:W.Frag):W.kitOne K (.type "str") (.type "bool")=some false:=by simp [W.kitOne];rfl
theorem kit_int_tuple (K:W.Frag):W.kitOne K (.type "int") (.type "tuple")=some false:=by simp [W.kitOne];rfl
theorem kit_int_str (K:W.Frag):W.kitOne K (.type "int") (.type "str")=some false:=by simp [W.kitOne];rfl
theorem kit_int_int (K:W.Frag):W.kitOne K (.type "int") (.type "int")=some true:=by simp [W.kitOne]
theorem kit_int_bool (K:W.Frag):W.kitOne K (.type "int") (.type "bool")=some false:=by simp [W.kitOne];rfl
theorem kit_bool_tuple (K:W.Frag):W.kitOne K (.type "bool") (.type "tuple")=some false:=by simp [W.kitOne];rfl
theorem kit_bool_str (K:W.Frag):W.kitOne K (.type "bool") (.type "str")=some false:=by simp [W.kitOne];rfl
theorem kit_bool_int (K:W.Frag):W.kitOne K (.type "bool") (.type "int")=some true:=by simp [W.kitOne];rfl
theorem kit_bool_bool (K:W.Frag):W.kitOne K (.type "bool") (.type "bool")=some true:=by simp [W.kitOne]
theorem kit_dict_tuple (K:W.Frag):W.kitOne K (.type "dict") (.type "tuple")=some false:=by simp [W.kitOne];rfl
theorem kit_dict_str (K:W.Frag):W.kitOne K (.type "dict") (.type "str")=some false:=by simp [W.kitOne];rfl
theorem kit_dict_int (K:W.Frag):W.kitOne K (.type "dict") (.type "int")=some false:=by simp [W.kitOne];rfl
theorem kit_dict_bool (K:W.Frag):W.kitOne K (.type "dict") (.type "bool")=some false:=by simp [W.kitOne];rfl
theorem kit_NoneType_tuple (K:W.Frag):W.kitOne K (.type "NoneType") (.type "tuple")=some false:=by simp [W.kitOne];rfl
theorem kit_NoneType_str (K:W.Frag):W.kitOne K (.type "NoneType") (.type "str")=some false:=by simp [W.kitOne];rfl
theorem kit_NoneType_int (K:W.Frag):W.kitOne K (.type "NoneType") (.type "int")=some false:=by simp [W.kitOne];rfl
theorem kit_NoneType_bool (K:W.Frag):W.kitOne K (.type "NoneType") (.type "bool")=some false:=by simp [W.kitOne];rfl
end L2
namespace L2
open PySem PySem.Spec PyProof.Rows
section
variable {X:Cx} {K:PySem.W.Frag}
def rEqD (K:PySem.W.Frag):R2:=fun x y H Q=>∃d e,Is K H d x∧Is K H e y∧d.canLay0=true∧e.canLay0=true∧d.depth≤64∧Q (.bl (PyData.eqv d e)) H
def rNeD (K:PySem.W.Frag):R2:=fun x y H Q=>∃d e,Is K H d x∧Is K H e y∧d.canLay0=true∧e.canLay0=true∧d.depth≤64∧Q (.bl (!PyData.eqv d e)) H
theorem opEqDk (hK:X.K=K) (hu:X.A.units+64<cLine):OpR X (compareOp .Eq) (rEqD K):=by
  subst hK
  intro pins s σ H x y v u Q I rx ry h
  obtain ⟨d,e,h1,h2,h3,h4,h5,q⟩:=h
  exact op_eqD pins s σ H x y v u Q I rx ry ⟨d,e,h1,h2,h3,h4,by omega,q⟩
theorem opNeDk (hK:X.K=K) (hu:X.A.units+64<cLine):OpR X (compareOp .NotEq) (rNeD K):=by
  subst hK
  intro pins s σ H x y v u Q I rx ry h
  obtain ⟨d,e,h1,h2,h3,h4,h5,q⟩:=h
  exact op_neD pins s σ H x y v u Q I rx ry ⟨d,e,h1,h2,h3,h4,by omega,q⟩
@[simp ↓] theorem rEqD_w (K:PySem.W.Frag) (x y:V) (H:Hp) (Q:VK):rEqD K x y H Q=∃d e,Is K H d x∧Is K H e y∧d.canLay0=true∧e.canLay0=true∧d.depth≤64∧Q (.bl (PyData.eqv d e)) H:=rfl
@[simp ↓] theorem rNeD_w (K:PySem.W.Frag) (x y:V) (H:Hp) (Q:VK):rNeD K x y H Q=∃d e,Is K H d x∧Is K H e y∧d.canLay0=true∧e.canLay0=true∧d.depth≤64∧Q (.bl (!PyData.eqv d e)) H:=rfl
end
def dStrs (xs:List Str):List PyData:=xs.map PyData.str
theorem is_strs {K:PySem.W.Frag} {H:Hp}:∀xs:List Str,IsAll K H (dStrs xs) (xs.map V.str)
  | []=>rfl
  | x::xs=>⟨_,_,rfl,rfl,is_strs xs⟩
theorem isL_iff (c:Nat):isL c=decide (c∈("abcdefghijklmnopqrstuvwxyz" : Str).cps.toList):=PySem.StrLaws.found_one _ c
theorem isL_lt {c:Nat} (h:isL c=true):c<128:=by
  rw [isL_iff] at h
  have h':=of_decide_eq_true h
  have key:∀x∈("abcdefghijklmnopqrstuvwxyz" : Str).cps.toList,x<128:=by decide +kernel
  exact key c h'
theorem name_ok {x:Str} (h:nameB x=true):PyData.strOk x=true:=by
  unfold nameB at h
  simp only [Bool.and_eq_true] at h
  have h2:=h.2
  unfold PyData.strOk
  rw [← Array.all_toList]
  rw [List.all_eq_true] at h2 ⊢
  intro c hc
  have:=isL_lt (h2 c hc)
  exact decide_eq_true (by omega)
theorem lay_strs:∀xs:List Str,(∀x∈xs,PyData.strOk x=true)→PyData.canLayAll0 (dStrs xs)=true
  | [],_=>by simp [dStrs,PyData.canLayAll0]
  | x::xs,h=>by
    have:=lay_strs xs fun y hy=>h y (List.mem_cons_of_mem _ hy)
    simp [dStrs] at this
    simp [dStrs,PyData.canLayAll0,PyData.canLay0,this,h x List.mem_cons_self]
theorem dep_strs:∀xs:List Str,PyData.depthAll (dStrs xs)≤1
  | []=>by simp [dStrs,PyData.depthAll]
  | x::xs=>by
    have:=dep_strs xs
    simp [dStrs] at this
    simp [dStrs,PyData.depthAll,PyData.depth,this]
@[simp ↓] theorem tDGet_w (td ty:TE) (σ:St) (H:Hp) (Q:VK):tDGet td ty σ H Q=(td σ H fun x H1=>ty σ H1 fun y H2=>∃a v,x = .ref a∧DGet H2 a y (some v)∧Q v H2):=rfl
@[simp ↓] theorem tDIn_w (ty td:TE) (σ:St) (H:Hp) (Q:VK):tDIn ty td σ H Q=(ty σ H fun y H1=>td σ H1 fun x H2=>∃a o,x = .ref a∧DGet H2 a y o∧Q (.bl o.isSome) H2):=rfl
@[simp ↓] theorem tDNotIn_w (ty td:TE) (σ:St) (H:Hp) (Q:VK):tDNotIn ty td σ H Q=(ty σ H fun y H1=>td σ H1 fun x H2=>∃a o,x = .ref a∧DGet H2 a y o∧Q (.bl (!o.isSome)) H2):=rfl
@[simp ↓] theorem sDPut_w (td ty tv:TE) (D:Ends) (σ:St) (H:Hp):sDPut td ty tv D σ H=(tv σ H fun v H1=>td σ H1 fun x H2=>ty σ H2 fun y H3=>∃a H4,x = .ref a∧DPut H3 a y v H4∧D.nx σ H4):=rfl
@[simp ↓] theorem tDNewK_w (σ:St) (H:Hp) (Q:VK):tDNewK σ H Q=(∀p,H p=none→Q (.ref p) (upd H p (.dK []))):=rfl
@[simp ↓] theorem tDisp_w (trs:List (TE×TE)) (σ:St) (H:Hp) (Q:VK):tDisp trs σ H Q=(∀p,H p=none→tPairs trs σ (upd H p (.dK [])) fun ps H2=>H2 p=some (.dK [])∧∃kvs:List (Key×V),ps=kvs.map (fun kv=>(kV kv.1,kv.2))∧kvs.length≤15∧Q (.ref p) (upd H2 p (.dK (mergeK [] kvs)))):=rfl
@[simp ↓] theorem tPairs_n (σ:St) (H:Hp) (Q:List (V×V)→Hp→Prop):tPairs [] σ H Q=Q [] H:=rfl
@[simp ↓] theorem tPairs_c (tk tv:TE) (r:List (TE×TE)) (σ:St) (H:Hp) (Q:List (V×V)→Hp→Prop):tPairs ((tk,tv)::r) σ H Q=(tk σ H fun x H1=>tv σ H1 fun y H2=>tPairs r σ H2 fun ps H3=>Q ((x,y)::ps) H3):=rfl
@[simp ↓] theorem tDGet2_w (td ty tx:TE) (σ:St) (H:Hp) (Q:VK):tDGet2 td ty tx σ H Q=(td σ H fun x H1=>∃a,x = .ref a∧IsD H1 a∧ty σ H1 fun y H2=>tx σ H2 fun z H3=>∃o,DGet H3 a y o∧Q (o.getD z) H3):=rfl
@[simp ↓] theorem iEnum_w (K:PySem.W.Frag) (t:TA) (σ:St) (H:Hp) (R:It→Hp→Prop):iEnum K t σ H R=(t σ H fun vs H1=>∃a xs,vs=[.ref a]∧SqL K H1 a xs∧R (Ite K a) H1):=rfl
theorem getI {H:Hp} {a:Addr} {kvs:List (Key×V)} (i:Int) (e:H a=some (.dK kvs)):DGet H a (.int i) (valV kvs (Sum.inl i)):=DGet.k (k:=Sum.inl i) e
theorem getS {H:Hp} {a:Addr} {kvs:List (Key×V)} (x:Str) (e:H a=some (.dK kvs)):DGet H a (.str x) (valV kvs (Sum.inr x)):=DGet.k (k:=Sum.inr x) e
theorem putS {H:Hp} {a:Addr} {kvs:List (Key×V)} {v:V} (x:Str) (e:H a=some (.dK kvs)) (hl:kvs.length<sizeLine):DPut H a (.str x) v (upd H a (.dK (putK kvs (Sum.inr x) v))):=DPut.k (k:=Sum.inr x) e hl
theorem isD {H:Hp} {a:Addr} {kvs:List (Key×V)} (e:H a=some (.dK kvs)):IsD H a:=.inl ⟨kvs,.inl e⟩
section
variable {K:PySem.W.Frag} {l:Addr} {g:TG} {tb:TS} {D:Ends} {d:DepF g tb D} {σ:St} {H:Hp}
theorem frE (xs:List V) (Pv:Nat→St→Hp→Prop) (h0:Pv 0 σ H) (hl:∀i σ H,i≤xs.length→Pv i σ H→SqL K H l xs)
    (hs:∀i x t σ H,xs[i]? = some x→H t=none→Pv i σ H→g (.ref t) σ (upd H t (.tup [.int i,x])) fun σ2 H2=>tb {D with nx:=Pv (i+1),ct:=Pv (i+1),bk:=D.nx} σ2 H2) (hd:∀σ H,Pv xs.length σ H→D.nx σ H):tFr (Ite K l) g tb D d σ H:=by
  refine ⟨fun i m σ H=>m=xs.length - i∧i≤xs.length∧Pv i σ H,⟨xs.length,by simp,Nat.zero_le _,h0⟩,?_⟩
  rintro i m σ H ⟨rfl,hi,p⟩
  have q:=hl i σ H hi p
  by_cases hlt:i<xs.length
  · refine .inr ⟨⟨xs,xs[i],q,by simp [hlt]⟩,Pv (i+1),fun σ' H' p'=>⟨xs.length - (i+1),by omega,rfl,hlt,p'⟩,fun x H' y=>?_⟩
    obtain ⟨t,u,rfl,ht,rfl,e⟩:=y
    exact hs i u t σ H (e xs q) ht p
  · have e:i=xs.length:=by omega
    subst e
    exact .inl ⟨⟨xs,q,Nat.le_refl _⟩,hd σ H p⟩
end
section
variable {K:PySem.W.Frag} {own:List Str} {caps:List Nat} {g:TG} {tt:TT} {te:TE} {D l:Addr} {σ:St} {H:Hp} {Q:Hp→Prop} {d:DepC g tt te Q}
theorem cmE (xs:List V) (Pv:Nat→St→Hp→Prop) (h0:Pv 0 (stC own caps σ) H) (hl:∀i σ H,i≤xs.length→Pv i σ H→SqL K H l xs)
    (hs:∀i x t σ H,xs[i]? = some x→H t=none→Pv i σ H→tTurn g tt te D (Pv (i+1)) (.ref t) σ (upd H t (.tup [.int i,x]))) (hd:∀σ H,Pv xs.length σ H→Q H):tCm own caps (Ite K l) g tt te Q d D σ H:=by
  refine ⟨fun i m σ H=>m=xs.length - i∧i≤xs.length∧Pv i σ H,⟨xs.length,by simp,Nat.zero_le _,h0⟩,?_⟩
  rintro i m σ H ⟨rfl,hi,p⟩
  have q:=hl i σ H hi p
  by_cases hlt:i<xs.length
  · refine .inr ⟨⟨xs,xs[i],q,by simp [hlt]⟩,Pv (i+1),fun σ' H' p'=>⟨xs.length - (i+1),by omega,rfl,hlt,p'⟩,fun x H' y=>?_⟩
    obtain ⟨t,u,rfl,ht,rfl,e⟩:=y
    exact hs i u t σ H (e xs q) ht p
  · have e:i=xs.length:=by omega
    subst e
    exact .inl ⟨⟨xs,q,Nat.le_refl _⟩,hd σ H p⟩
end
section
variable {c:TT} {tb:TS} {D:Ends} {d:DepW c tb D} {σ:St} {H:Hp}
theorem whB (Pv:St→Hp→Prop) (μ:St→Hp→Nat) (h0:Pv σ H)
    (hs:∀σ H,Pv σ H→c σ H fun b H1=>tBr b (tb {D with nx:=fun σ' H'=>Pv σ' H'∧μ σ' H'<μ σ H,ct:=fun σ' H'=>Pv σ' H'∧μ σ' H'<μ σ H,bk:=D.nx} σ H1) (D.nx σ H1) ⟨0⟩)
    (mono:∀σ H Q Q',(∀b H1,Q b H1→Q' b H1)→c σ H Q→c σ H Q'):tWh c tb D d σ H:=while_by Pv μ h0 hs mono
end
end L2
namespace L2
open PySem
inductive RT {α:Type} (R:α→α→Prop):α→α→Prop where
  | refl (a:α):RT R a a
  | tail {a b c:α}:RT R a b→R b c→RT R a c
abbrev Stp:=Nat×Str×Str
def Along (S:List Stp) (a b:Str):Prop:=∃n,(n,a,b)∈S
def stepOf (fx:Nat→Option Int) (e:Str×Str) (k:Nat):List Stp:=
  (if (fx k).getD 0=0 then [(k,e.1,e.2)] else [])++(if (fx k).getD 1=1 then [(k,e.2,e.1)] else [])
def stepsOf (fx:Nat→Option Int):List (Str×Str)→Nat→List Stp
  | [],_=>[]
  | e::r,k=>stepOf fx e k++stepsOf fx r (k+1)
theorem stepsOf_append (fx:Nat→Option Int):∀(l m:List (Str×Str)) (k:Nat),stepsOf fx (l++m) k=stepsOf fx l k++stepsOf fx m (k+l.length)
  | [],m,k=>by simp [stepsOf]
  | e::l,m,k=>by
    simp only [List.cons_append,stepsOf,stepsOf_append fx l m (k+1),List.append_assoc,List.length_cons]
    rw [show k+1+l.length=k+(l.length+1) by omega]
theorem stepsOf_take (fx:Nat→Option Int) {ps:List (Str×Str)} {i:Nat} {e:Str×Str} (h:ps[i]? = some e):stepsOf fx (ps.take (i+1)) 0=stepsOf fx (ps.take i) 0++stepOf fx e i:=by
  have hi:i<ps.length:=(List.getElem?_eq_some_iff.mp h).1
  rw [take_one h,stepsOf_append,List.length_take,Nat.min_eq_left (Nat.le_of_lt hi),Nat.zero_add]
  simp [stepsOf]
theorem mem_stepOf {fx:Nat→Option Int} {e:Str×Str} {k:Nat} {s:Stp}:s∈stepOf fx e k↔s.1=k∧(((fx k).getD 0=0∧s.2.1=e.1∧s.2.2=e.2)∨((fx k).getD 1=1∧s.2.1=e.2∧s.2.2=e.1)):=by
  obtain ⟨n,a,b⟩:=s
  unfold stepOf
  rw [List.mem_append]
  constructor
  · rintro (h | h)
    · split at h
      · rename_i h0
        simp at h
        exact ⟨h.1,.inl ⟨h0,h.2.1,h.2.2⟩⟩
      ·simp at h
    · split at h
      · rename_i h0
        simp at h
        exact ⟨h.1,.inr ⟨h0,h.2.1,h.2.2⟩⟩
      ·simp at h
  · rintro ⟨rfl,⟨h0,rfl,rfl⟩ | ⟨h0,rfl,rfl⟩⟩
    ·exact .inl (by rw [if_pos h0];simp)
    ·exact .inr (by rw [if_pos h0];simp)
theorem mem_stepsOf {fx:Nat→Option Int}:∀{ps:List (Str×Str)} {k:Nat} {s:Stp},s∈stepsOf fx ps k↔∃j e,ps[j]? = some e∧s∈stepOf fx e (k+j)
  | [],k,s=>by simp [stepsOf]
  | e::r,k,s=>by
    simp only [stepsOf,List.mem_append,mem_stepsOf (ps:=r)]
    constructor
    · rintro (h | ⟨j,e',h1,h2⟩)
      ·exact ⟨0,e,rfl,h⟩
      ·exact ⟨j+1,e',by simpa using h1,by rw [show k+(j+1)=k+1+j by omega];exact h2⟩
    · rintro ⟨j,e',h1,h2⟩
      cases j with
      | zero=>simp at h1;subst h1;exact .inl h2
      | succ j=>exact .inr ⟨j,e',by simpa using h1,by rw [show k+1+j=k+(j+1) by omega];exact h2⟩
end L2
namespace L2
open PySem PySem.Spec PyProof.Rows
def AllAt {β:Type} (R:Hp→V→β→Prop) (H:Hp) (vs:List V) (bs:List β):Prop:=vs.length=bs.length∧∀(i:Nat) v b,vs[i]? = some v→bs[i]? = some b→R H v b
section
variable {β:Type} {R:Hp→V→β→Prop} {H H':Hp} {vs:List V} {bs:List β}
theorem AllAt.nil:AllAt R H [] []:=⟨rfl,fun i v b h=>by simp at h⟩
theorem AllAt.keep (h:AllAt R H vs bs) (k:∀v b,R H v b→R H' v b):AllAt R H' vs bs:=⟨h.1,fun i v b h1 h2=>k v b (h.2 i v b h1 h2)⟩
theorem AllAt.at (h:AllAt R H vs bs) {i:Nat} {v:V} (hv:vs[i]? = some v):∃b,bs[i]? = some b∧R H v b:=by
  have hi:i<bs.length:=by rw [← h.1];exact (List.getElem?_eq_some_iff.mp hv).1
  exact ⟨bs[i],by simp [hi],h.2 i v _ hv (by simp [hi])⟩
theorem AllAt.snoc {v:V} {b:β} (h:AllAt R H vs bs) (hv:R H v b):AllAt R H (vs++[v]) (bs++[b]):=by
  refine ⟨by simp [h.1],fun i u d h1 h2=>?_⟩
  by_cases hi:i<vs.length
  · rw [List.getElem?_append_left hi] at h1
    rw [List.getElem?_append_left (by rw [← h.1];exact hi)] at h2
    exact h.2 i u d h1 h2
  · rw [List.getElem?_append_right (by omega)] at h1
    rw [List.getElem?_append_right (by rw [← h.1];omega),← h.1] at h2
    cases hk:i - vs.length with
    | zero=>
      rw [hk] at h1 h2
      cases h1
      cases h2
      exact hv
    | succ j=>
      rw [hk] at h1
      simp at h1
end
def StepR (H:Hp) (v:V) (s:Stp):Prop:=∃t,v = .ref t∧H t=some (.tup [.int s.1,.str s.2.1,.str s.2.2])
abbrev StepsAt:=AllAt StepR
def TupKeep (H H':Hp):Prop:=∀b xs,H b=some (.tup xs)→H' b=some (.tup xs)
theorem TupKeep.of {H H':Hp} (s:Same H H'):TupKeep H H':=fun b xs e=>s b _ e
theorem TupKeep.set {H:Hp} {p:Addr} {o u:HO} (h:H p=some o) (hn:∀xs,o≠.tup xs):TupKeep H (upd H p u):=fun b xs e=>by
  rw [upd_ne (fun z=>by subst z;rw [h] at e;exact hn xs (Option.some.inj e))]
  exact e
theorem StepR.keep {H H':Hp} (k:TupKeep H H'):∀v s,StepR H v s→StepR H' v s:=fun v s ⟨t,e,h⟩=>⟨t,e,k _ _ h⟩
theorem StepsAt.keep {H H':Hp} {vs:List V} {S:List Stp} (h:StepsAt H vs S) (k:TupKeep H H'):StepsAt H' vs S:=AllAt.keep h (StepR.keep k)
def FixAt (H:Hp) (d:Addr) (fx:Nat→Option Int):Prop:=∃kvs,H d=some (.dK kvs)∧∀k:Nat,valV kvs (Sum.inl (k:Int))=(fx k).map V.int
theorem FixAt.same {H H':Hp} {d:Addr} {fx:Nat→Option Int} (h:FixAt H d fx) (k:Same H H'):FixAt H' d fx:=by
  obtain ⟨kvs,h1,h2⟩:=h
  exact ⟨kvs,k _ _ h1,h2⟩
theorem getD_int (o:Option Int) (x:Int):(o.map V.int).getD (.int x) = .int (o.getD x):=by cases o <;> rfl
end L2
namespace L2
open PySem
inductive PathV (S:List Stp) (a:Str):List Nat→List Str→Str→Prop where
  | nil:PathV S a [] [a] a
  | snoc {w:List Nat} {vs:List Str} {b c:Str} {n:Nat}:PathV S a w vs b→(n,b,c)∈S→PathV S a (w++[n]) (vs++[c]) c
inductive Walk (S:List Stp) (a:Str):Nat→Str→Prop where
  | nil:Walk S a 0 a
  | snoc {k:Nat} {b c:Str} {n:Nat}:Walk S a k b→(n,b,c)∈S→Walk S a (k+1) c
theorem PathV.walk {S:List Stp} {a:Str} {w:List Nat} {vs:List Str} {b:Str} (h:PathV S a w vs b):Walk S a w.length b:=by
  induction h with
  | nil=>exact .nil
  | snoc _ q ih=>
    rw [List.length_append]
    exact .snoc ih q
abbrev BR:=List (Str×List Nat)
structure Bfs (S:List Stp) (a:Str) (at_:Nat) (R:BR):Prop where
  st:R[0]? = some (a,[])
  nd:(R.map (·.1)).Nodup
  pth:∀y w,(y,w)∈R→∃vs,PathV S a w vs y∧vs.Nodup∧∀v∈vs,v∈R.map (·.1)
  cl:∀(i:Nat) y w,i<at_→R[i]? = some (y,w)→∀n c,(n,y,c)∈S→∃w',(c,w')∈R∧w'.length≤w.length+1
  mono:∀(i j:Nat) y w z u,i≤j→R[i]? = some (y,w)→R[j]? = some (z,u)→w.length≤u.length
  bd:∀(y:Str) (w:List Nat) z u,R[at_]? = some (y,w)→(z,u)∈R→u.length≤w.length+1
structure BfsMid (S T:List Stp) (a:Str) (at_:Nat) (h:Str) (wh:List Nat) (R:BR):Prop where
  bf:Bfs S a at_ R
  hr:R[at_]? = some (h,wh)
  md:∀n c,(n,h,c)∈T→∃w',(c,w')∈R∧w'.length≤wh.length+1
theorem Bfs.begin (S:List Stp) (a:Str):Bfs S a 0 [(a,[])]:=by
  refine ⟨rfl,by simp,?_,by intro i y w h;omega,?_,?_⟩
  · intro y w h
    simp at h
    obtain ⟨rfl,rfl⟩:=h
    exact ⟨[y],.nil,by simp,by simp⟩
  · intro i j y w z u hij h1 h2
    have hi:i=0:=by have:=(List.getElem?_eq_some_iff.mp h1).1;simp at this;omega
    have hj:j=0:=by have:=(List.getElem?_eq_some_iff.mp h2).1;simp at this;omega
    subst hi hj
    rw [h1] at h2
    cases h2
    exact Nat.le_refl _
  · intro y w z u h1 h2
    simp at h1 h2
    rw [h2.2,← h1.2]
    simp
theorem BfsMid.enter {S:List Stp} {a:Str} {at_:Nat} {h:Str} {wh:List Nat} {R:BR} (b:Bfs S a at_ R) (hr:R[at_]? = some (h,wh)):BfsMid S [] a at_ h wh R:=⟨b,hr,by simp⟩
theorem BfsMid.skip {S T:List Stp} {a:Str} {at_:Nat} {h:Str} {wh:List Nat} {R:BR} (b:BfsMid S T a at_ h wh R) {s:Stp} (hs:s.2.1=h→s.2.2∈R.map (·.1)):BfsMid S (T++[s]) a at_ h wh R:=by
  refine ⟨b.bf,b.hr,fun n c hm=>?_⟩
  rcases List.mem_append.mp hm with q | q
  ·exact b.md n c q
  · simp at q
    subst q
    obtain ⟨⟨c',w'⟩,hw,e⟩:=List.mem_map.mp (hs rfl)
    simp only at e
    subst e
    exact ⟨w',hw,b.bf.bd _ _ _ _ b.hr hw⟩
theorem BfsMid.add {S T:List Stp} {a:Str} {at_:Nat} {h:Str} {wh:List Nat} {R:BR} (b:BfsMid S T a at_ h wh R) {n:Nat} {c:Str} (hS:(n,h,c)∈S) (hc:¬c∈R.map (·.1)):BfsMid S (T++[(n,h,c)]) a at_ h wh (R++[(c,wh++[n])]):=by
  obtain ⟨⟨st,nd,pth,cl,mono,bd⟩,hr,md⟩:=b
  have hat:at_<R.length:=(List.getElem?_eq_some_iff.mp hr).1
  have ml:∀{i:Nat} {x},i<R.length→(R++[(c,wh++[n])])[i]? = some x→R[i]? = some x:=fun hi e=>by rwa [List.getElem?_append_left hi] at e
  have last:∀{i:Nat} {x},¬i<R.length→(R++[(c,wh++[n])])[i]? = some x→x=(c,wh++[n]):=fun hi e=>by
    rw [List.getElem?_append_right (by omega)] at e
    cases hk:_ - R.length with
    | zero=>rw [hk] at e;simp at e;exact e.symm
    | succ k=>rw [hk] at e;simp at e
  refine ⟨⟨?_,?_,?_,?_,?_,?_⟩,?_,?_⟩
  ·rw [List.getElem?_append_left (by omega)];exact st
  · rw [List.map_append,List.nodup_append]
    refine ⟨nd,by simp,?_⟩
    intro x hx y hy e
    simp at hy
    subst hy
    exact hc (e▸hx)
  · intro y w hy
    rcases List.mem_append.mp hy with q | q
    · obtain ⟨vs,h1,h2,h3⟩:=pth y w q
      exact ⟨vs,h1,h2,fun v hv=>by rw [List.map_append];exact List.mem_append_left _ (h3 v hv)⟩
    · simp at q
      obtain ⟨rfl,rfl⟩:=q
      obtain ⟨vs,h1,h2,h3⟩:=pth h wh (List.mem_of_getElem? hr)
      refine ⟨vs++[y],.snoc h1 hS,?_,?_⟩
      · rw [List.nodup_append]
        refine ⟨h2,by simp,?_⟩
        intro x hx z hz e
        simp at hz
        subst hz
        exact hc (e▸h3 x hx)
      · intro v hv
        rw [List.map_append]
        rcases List.mem_append.mp hv with q | q
        ·exact List.mem_append_left _ (h3 v q)
        · simp at q
          subst q
          simp
  · intro i y w hi e m c' hm
    obtain ⟨w',q1,q2⟩:=cl i y w hi (ml (by omega) e) m c' hm
    exact ⟨w',List.mem_append_left _ q1,q2⟩
  · intro i j y w z u hij h1 h2
    by_cases hj:j<R.length
    ·exact mono i j y w z u hij (ml (by omega) h1) (ml hj h2)
    · have e2:=last hj h2
      cases e2
      by_cases hi:i<R.length
      · have:=bd h wh y w hr (List.mem_of_getElem? (ml hi h1))
        simp
        exact this
      · have e1:=last hi h1
        cases e1
        exact Nat.le_refl _
  · intro y w z u h1 h2
    have h1':=ml hat h1
    rw [hr] at h1'
    cases h1'
    rcases List.mem_append.mp h2 with q | q
    ·exact bd _ _ z u hr q
    · simp at q
      rw [q.2]
      simp
  ·rw [List.getElem?_append_left hat];exact hr
  · intro m c' hm
    rcases List.mem_append.mp hm with q | q
    · obtain ⟨w',q1,q2⟩:=md m c' q
      exact ⟨w',List.mem_append_left _ q1,q2⟩
    · simp at q
      obtain ⟨rfl,rfl⟩:=q
      exact ⟨wh++[m],by simp,by simp⟩
theorem BfsMid.leave {S:List Stp} {a:Str} {at_:Nat} {h:Str} {wh:List Nat} {R:BR} (b:BfsMid S S a at_ h wh R):Bfs S a (at_+1) R:=by
  obtain ⟨⟨st,nd,pth,cl,mono,bd⟩,hr,md⟩:=b
  refine ⟨st,nd,pth,?_,mono,?_⟩
  · intro i y w hi e n c hm
    by_cases hia:i=at_
    · subst hia
      rw [hr] at e
      cases e
      exact md n c hm
    ·exact cl i y w (by omega) e n c hm
  · intro y w z u h1 h2
    have q1:=bd h wh z u hr h2
    have q2:=mono at_ (at_+1) h wh y w (by omega) hr h1
    omega
theorem Bfs.all {S:List Stp} {a:Str} {R:BR} (b:Bfs S a R.length R) {k:Nat} {y:Str} (h:Walk S a k y):∃w,(y,w)∈R∧w.length≤k:=by
  induction h with
  | nil=>exact ⟨[],List.mem_of_getElem? b.st,Nat.le_refl _⟩
  | @snoc k b' c n _ q ih=>
    obtain ⟨w,h1,h2⟩:=ih
    obtain ⟨i,hi⟩:=List.mem_iff_getElem?.mp h1
    obtain ⟨w',h3,h4⟩:=b.cl i b' w (List.getElem?_eq_some_iff.mp hi).1 hi n c q
    exact ⟨w',h3,by omega⟩
theorem Bfs.sub {S:List Stp} {a:Str} {i:Nat} {R:BR} (b:Bfs S a i R) {xs:List Str} (ha:a∈xs) (hS:∀s∈S,s.2.2∈xs):∀y∈R.map (·.1),y∈xs:=by
  intro y h
  obtain ⟨⟨z,w⟩,h1,e⟩:=List.mem_map.mp h
  simp only at e
  subst e
  obtain ⟨vs,p,_⟩:=b.pth z w h1
  cases p with
  | nil=>exact ha
  | snoc _ q=>exact hS _ q
theorem nodup_len {α:Type} [DecidableEq α]:∀{l xs:List α},l.Nodup→(∀y∈l,y∈xs)→l.length≤xs.length
  | [],_,_,_=>Nat.zero_le _
  | y::l,xs,hn,hs=>by
    obtain ⟨h1,h2⟩:=List.nodup_cons.mp hn
    have hy:y∈xs:=hs y List.mem_cons_self
    have:=nodup_len (l:=l) (xs:=xs.erase y) h2 fun z hz=>(List.mem_erase_of_ne (fun (e:z=y)=>h1 (e▸hz))).mpr (hs z (List.mem_cons_of_mem _ hz))
    rw [List.length_erase_of_mem hy] at this
    have h0:0<xs.length:=List.length_pos_of_mem hy
    simp only [List.length_cons]
    omega
theorem PathV.len {S:List Stp} {a:Str} {w:List Nat} {vs:List Str} {b:Str} (h:PathV S a w vs b):vs.length=w.length+1:=by
  induction h with
  | nil=>rfl
  | snoc _ _ ih=>simp [ih]
theorem Bfs.wlen {S:List Stp} {a:Str} {i:Nat} {R:BR} (b:Bfs S a i R) {y:Str} {w:List Nat} (h:(y,w)∈R):w.length<R.length:=by
  obtain ⟨vs,p,nd,sub⟩:=b.pth y w h
  have h1:=nodup_len nd sub
  have h2:=p.len
  simp at h1
  omega
def WayR (H:Hp) (kv:Key×V) (yw:Str×List Nat):Prop:=kv.1=Sum.inr yw.1∧∃p,kv.2 = .ref p∧H p=some (.lst (yw.2.map fun n:Nat=>V.int n))
structure WaysAt (H:Hp) (kvs:List (Key×V)) (R:BR):Prop where
  len:kvs.length=R.length
  ok:∀(i:Nat) kv yw,kvs[i]? = some kv→R[i]? = some yw→WayR H kv yw
theorem WaysAt.keep {H H':Hp} {kvs:List (Key×V)} {R:BR} (h:WaysAt H kvs R) (k:∀(p:Addr) (w:List Nat),H p=some (.lst (w.map fun n:Nat=>V.int n))→H' p=some (.lst (w.map fun n:Nat=>V.int n))):WaysAt H' kvs R:=
  ⟨h.len,fun i kv yw h1 h2=>by
    obtain ⟨e,p,e2,q⟩:=h.ok i kv yw h1 h2
    exact ⟨e,p,e2,k _ _ q⟩⟩
theorem WaysAt.none {H:Hp} {kvs:List (Key×V)} {R:BR} (h:WaysAt H kvs R) {y:Str} (hy:¬y∈R.map (·.1)):valV kvs (Sum.inr y)=Option.none:=by
  unfold valV
  rw [List.find?_eq_none.mpr]
  ·rfl
  · intro kv hk
    obtain ⟨i,hi⟩:=List.mem_iff_getElem?.mp hk
    have hl:i<R.length:=by rw [← h.len];exact (List.getElem?_eq_some_iff.mp hi).1
    obtain ⟨e,_⟩:=h.ok i kv R[i] hi (by simp [hl])
    simp only [decide_eq_true_eq]
    intro z
    rw [e] at z
    cases z
    exact hy (List.mem_map.mpr ⟨R[i],List.getElem_mem hl,rfl⟩)
theorem WaysAt.some {H:Hp} {kvs:List (Key×V)} {R:BR} (h:WaysAt H kvs R) (nd:(R.map (·.1)).Nodup) {y:Str} {w:List Nat} (hy:(y,w)∈R):∃p,valV kvs (Sum.inr y)=Option.some (.ref p)∧H p=Option.some (.lst (w.map fun n:Nat=>V.int n)):=by
  obtain ⟨i,hi⟩:=List.mem_iff_getElem?.mp hy
  have hl:i<kvs.length:=by rw [h.len];exact (List.getElem?_eq_some_iff.mp hi).1
  have hk:kvs[i]? = Option.some kvs[i]:=by simp [hl]
  unfold valV
  have hf:∃kv,kvs.find? (fun kv=>decide (kv.1=Sum.inr y))=Option.some kv:=by
    cases e:kvs.find? (fun kv=>decide (kv.1=Sum.inr y)) with
    | some kv=>exact ⟨kv,rfl⟩
    | none=>
      have:=List.find?_eq_none.mp e kvs[i] (List.getElem_mem hl)
      obtain ⟨e1,_⟩:=h.ok i _ _ hk hi
      simp [e1] at this
  obtain ⟨kv,hkv⟩:=hf
  rw [hkv]
  have hm:=List.mem_of_find?_eq_some hkv
  have hp:=List.find?_some hkv
  simp only [decide_eq_true_eq] at hp
  obtain ⟨j,hj⟩:=List.mem_iff_getElem?.mp hm
  have hlj:j<R.length:=by rw [← h.len];exact (List.getElem?_eq_some_iff.mp hj).1
  obtain ⟨e1,p,e2,e3⟩:=h.ok j kv R[j] hj (by simp [hlj])
  rw [hp] at e1
  have ey:R[j].1=y:=(Sum.inr.inj e1).symm
  have ej:j=i:=nodup_at nd (x:=y) (by rw [List.getElem?_map,show R[j]? = Option.some R[j] by simp [hlj]];simp [ey]) (by rw [List.getElem?_map,hi];rfl)
  subst ej
  have:R[j]=(y,w):=by
    have:=hi
    simp [hlj] at this
    exact this
  rw [this] at e3
  exact ⟨p,by simp [e2],e3⟩
theorem WaysAt.has {H:Hp} {kvs:List (Key×V)} {R:BR} (h:WaysAt H kvs R) (nd:(R.map (·.1)).Nodup) (y:Str):(valV kvs (Sum.inr y)).isSome=decide (y∈R.map (·.1)):=by
  by_cases hy:y∈R.map (·.1)
  · obtain ⟨⟨z,w⟩,h1,e⟩:=List.mem_map.mp hy
    simp only at e
    subst e
    obtain ⟨p,e,_⟩:=h.some nd h1
    rw [e,decide_eq_true hy]
    rfl
  · rw [h.none hy,decide_eq_false hy]
    rfl
theorem WaysAt.hasN {H:Hp} {kvs:List (Key×V)} {R:BR} (h:WaysAt H kvs R) (nd:(R.map (·.1)).Nodup) (y:Str):(valV kvs (Sum.inr y)).isNone = !decide (y∈R.map (·.1)):=by
  rw [← h.has nd y]
  cases valV kvs (Sum.inr y) <;> rfl
theorem WaysAt.snoc {H:Hp} {kvs:List (Key×V)} {R:BR} {y:Str} {w:List Nat} {p:Addr} (h:WaysAt H kvs R) (hp:H p=Option.some (.lst (w.map fun n:Nat=>V.int n))):WaysAt H (kvs++[(Sum.inr y,.ref p)]) (R++[(y,w)]):=by
  refine ⟨by simp [h.len],fun i kv yw h1 h2=>?_⟩
  by_cases hi:i<kvs.length
  · rw [List.getElem?_append_left hi] at h1
    rw [List.getElem?_append_left (by rw [← h.len];exact hi)] at h2
    exact h.ok i kv yw h1 h2
  · rw [List.getElem?_append_right (by omega)] at h1
    rw [List.getElem?_append_right (by rw [← h.len];omega),← h.len] at h2
    cases hk:i - kvs.length with
    | zero=>
      rw [hk] at h1 h2
      cases h1
      cases h2
      exact ⟨rfl,p,rfl,hp⟩
    | succ j=>
      rw [hk] at h1
      simp at h1
def muAt (i:Nat) (σ:St):Nat:=match σ[i]? with | some (some (V.int n))=>(10 - n).toNat | _=>0
theorem inV_str_iff (x:Str) (xs:List Str):inV (.str x) (xs.map V.str)=decide (x∈xs):=by
  unfold inV
  rw [List.any_map,Bool.eq_iff_iff,List.any_eq_true,decide_eq_true_eq]
  constructor
  · rintro ⟨y,hy,e⟩
    simp [eqV] at e
    exact e▸hy
  · intro h
    exact ⟨x,h,by simp [eqV]⟩
theorem flat_strs (xs:List Str):(xs.map V.str).all flatV=true:=by
  rw [List.all_map,List.all_eq_true]
  intro x _
  rfl
end L2
namespace L2
open PySem PySem.Spec PyProof.Rows
@[simp] theorem scal_in (i:Int):scal (.int i) .non=true:=rfl
@[simp] theorem scal_ni (i:Int):scal .non (.int i)=true:=rfl
@[simp] theorem scal_sn (i:Str):scal (.str i) .non=true:=rfl
theorem eqv_strs:∀a b:List Str,PyData.eqvAll (dStrs a) (dStrs b)=decide (a=b)
  | [],[]=>rfl
  | [],y::b=>by simp [dStrs,PyData.eqvAll]
  | x::a,[]=>by simp [dStrs,PyData.eqvAll]
  | x::a,y::b=>by
    show (PyData.eqv (.str x) (.str y) && PyData.eqvAll (dStrs a) (dStrs b))=_
    rw [eqv_strs a b,Bool.eq_iff_iff]
    simp [PyData.eqv]
end L2
namespace L2
open PySem
end L2
set_option maxHeartbeats 4000000
namespace L2
open PySem PySem.Spec PyProof.Rows
section
variable {prog:Program} {w:World} {A:Around} {E:Value→Shared→Prop} {s:Shared}
end
structure Nm3 (mg:Str→Option Value):Prop where
  sum:mg "sum" = none
theorem strs_are:∀{ys:List Str} {us:List Value},Vals (ys.map V.str) us→StrsAre us ys
  | [],_,r=>by rw [List.map_nil] at r;cases r;exact .nil
  | y::ys,_,r=>by
    rw [List.map_cons] at r
    cases r with
    | cons h t=>
      obtain ⟨k,rfl⟩:=h
      exact .cons y k (strs_are t)
section
variable {X:Cx} {K:PySem.W.Frag}
def rJoin:V→List V→Hp→VK→Prop:=fun x xs H Q=>∃(sep:Str) (l:Addr) (ys:List Str),x = .str sep∧xs=[.ref l]∧H l=some (.lst (ys.map V.str))∧(ys.map (·.length)).sum+ys.length * sep.length≤16777216∧Q (.str (Txt.join sep ys)) H
@[simp ↓] theorem rJoin_w x xs H Q:rJoin x xs H Q=(∃(sep:Str) (l:Addr) (ys:List Str),x = .str sep∧xs=[.ref l]∧H l=some (.lst (ys.map V.str))∧(ys.map (·.length)).sum+ys.length * sep.length≤16777216∧Q (.str (Txt.join sep ys)) H):=rfl
theorem mt_join:MtR X "str.join" rJoin:=by
  intro pins s σ H x xs v us Q I rx rs q
  obtain ⟨sep,l,ys,rfl,rfl,hl,hz,q⟩:=q
  obtain ⟨u,rfl,ru⟩:=rs.one
  obtain rfl:u=Value.ref l:=ru
  obtain ⟨t,rfl⟩:=rx
  obtain ⟨its,rv,pl,hz1⟩:=I.list (SqL.of hl)
  exact join_list pl.isList (by simpa using strs_are rv) hz fun t' k=>⟨.str _,H,I.tok _,⟨t',rfl⟩,q⟩
theorem slLk (hK:X.K=K):SlR X (rSlL K):=by subst hK;exact sl_list
@[simp ↓] theorem rSlL_w' (K:PySem.W.Frag) x lo hi H Q:rSlL K x lo hi H Q=(∃a xs,x = .ref a∧SqL K H a xs∧∀p,H p=none→Q (.ref p) (upd H p (.lst (cutV xs lo hi)))):=rfl
theorem glue_fold:∀(xs:List Str) (a:Array Nat),(xs.foldl (fun acc p=>acc++(Str.ofString "").cps++p.cps) a).toList=a.toList++xs.flatMap (·.cps.toList)
  | [],a=>by simp
  | x::xs,a=>by
    rw [List.foldl_cons,glue_fold xs]
    rw [show (Str.ofString "").cps = #[] from rfl,Array.append_empty]
    simp
theorem glue_list (ys:List Str):(Txt.join (Str.ofString "") ys).cps.toList=ys.flatMap (·.cps.toList):=by
  cases ys with
  | nil=>rfl
  | cons x xs=>
    show (List.foldl _ x.cps xs).toList=_
    exact (glue_fold xs x.cps).trans (by simp)
theorem one_letters:∀(ys:List Str),(∀y∈ys,∃n,n<26∧y=⟨#[97+n]⟩)→(ys.flatMap (·.cps.toList)).length=ys.length∧(ys.flatMap (·.cps.toList)).all isL=true∧(ys.map (·.length)).sum=ys.length
  | [],_=>by simp
  | y::ys,h=>by
    obtain ⟨n,hn,rfl⟩:=h y (List.mem_cons_self ..)
    obtain ⟨h1,h2,h3⟩:=one_letters ys fun z hz=>h z (List.mem_cons_of_mem _ hz)
    refine ⟨by simp only [List.flatMap_cons,List.length_append,List.length_cons,h1];simp;omega,by rw [List.flatMap_cons,List.all_append,h2];simp [isL_of n hn],?_⟩
    rw [List.map_cons,List.sum_cons,h3,List.length_cons]
    show 1+_=_
    omega
theorem WordOf.glue {c k:Nat} {x:Str} (h:WordOf c k x) (hk:0<k) {ys:List Str} (hy:∀y∈ys,∃n,n<26∧y=⟨#[97+n]⟩):WordOf c (k+ys.length) (x++Txt.join (Str.ofString "") ys):=by
  obtain ⟨h1,h2,h3⟩:=h
  obtain ⟨y1,y2,_⟩:=one_letters ys hy
  have e:=glue_list ys
  have hs:x.cps.size=k:=h1
  refine ⟨?_,?_,?_⟩
  · show (x.cps++(Txt.join (Str.ofString "") ys).cps).size=_
    rw [Array.size_append,hs,← Array.length_toList,e,y1]
  · show (x.cps++(Txt.join (Str.ofString "") ys).cps)[0]? = _
    rw [Array.getElem?_append_left (by omega)]
    exact h2
  · show (x.cps++(Txt.join (Str.ofString "") ys).cps).toList.all isL=true
    rw [Array.toList_append,List.all_append,h3,e,y2]
    rfl
end
section
variable {K:PySem.W.Frag} {l1 l2:Addr} {g:TG} {tb:TS} {D:Ends} {d:DepF g tb D} {σ:St} {H:Hp}
theorem frZ (xs ys:List V) (Pv:Nat→St→Hp→Prop) (h0:Pv 0 σ H) (he:xs.length=ys.length) (hl:∀i σ H,i≤xs.length→Pv i σ H→SqL K H l1 xs∧SqL K H l2 ys)
    (hs:∀i x y t σ H,xs[i]? = some x→ys[i]? = some y→H t=none→Pv i σ H→g (.ref t) σ (upd H t (.tup [x,y])) fun σ2 H2=>tb {D with nx:=Pv (i+1),ct:=Pv (i+1),bk:=D.nx} σ2 H2) (hd:∀σ H,Pv xs.length σ H→D.nx σ H):tFr (Itz K l1 l2) g tb D d σ H:=by
  refine ⟨fun i m σ H=>m=xs.length - i∧i≤xs.length∧Pv i σ H,⟨xs.length,by simp,Nat.zero_le _,h0⟩,?_⟩
  rintro i m σ H ⟨rfl,hi,p⟩
  obtain ⟨q1,q2⟩:=hl i σ H hi p
  by_cases hlt:i<xs.length
  · have hlt2:i<ys.length:=by omega
    refine .inr ⟨⟨xs,ys,xs[i],ys[i],q1,q2,by simp [hlt],by simp [hlt2]⟩,Pv (i+1),fun σ' H' p'=>⟨xs.length - (i+1),by omega,rfl,hlt,p'⟩,fun x H' y=>?_⟩
    obtain ⟨t,u,v,rfl,ht,rfl,e1,e2⟩:=y
    exact hs i u v t σ H (e1 xs q1) (e2 ys q2) ht p
  · have e:i=xs.length:=by omega
    subst e
    exact .inl ⟨⟨xs,ys,q1,q2,.inl (Nat.le_refl _)⟩,hd σ H p⟩
end
section
variable {X:Cx} {K:PySem.W.Frag}
theorem boot_repr:bootBuiltins "repr" = some (.builtin "repr"):=by decide +kernel
end
def isInt (x:V) (R:Int→Prop):Prop:=match x with | .int i=>R i | _=>False
def isStr (x:V) (R:Str→Prop):Prop:=match x with | .str i=>R i | _=>False
def isBl (x:V) (R:Bool→Prop):Prop:=match x with | .bl i=>R i | _=>False
def isRef (x:V) (R:Addr→Prop):Prop:=match x with | .ref i=>R i | _=>False
def isTy (x:V) (R:String→Prop):Prop:=match x with | .ty n=>R n | _=>False
def ar0 (xs:List V) (R:Prop):Prop:=match xs with | []=>R | _=>False
def ar1 (xs:List V) (R:V→Prop):Prop:=match xs with | [x]=>R x | _=>False
def ar2 (xs:List V) (R:V→V→Prop):Prop:=match xs with | [x,y]=>R x y | _=>False
def arH (xs:List V) (R:V→List V→Prop):Prop:=match xs with | x::r=>R x r | []=>False
def getSt:St→Nat→(V→Prop)→Prop
  | [],_,_=>False
  | o::_,0,R=>match o with | some v=>R v | none=>False
  | _::σ,n+1,R=>getSt σ n R
@[simp ↓] theorem isInt_c (i:Int) R:isInt (.int i) R=R i:=rfl
@[simp ↓] theorem isStr_c (i:Str) R:isStr (.str i) R=R i:=rfl
@[simp ↓] theorem isBl_c (i:Bool) R:isBl (.bl i) R=R i:=rfl
@[simp ↓] theorem isRef_c (i:Addr) R:isRef (.ref i) R=R i:=rfl
@[simp ↓] theorem isTy_c (i:String) R:isTy (.ty i) R=R i:=rfl
@[simp ↓] theorem ar0_c R:ar0 [] R=R:=rfl
@[simp ↓] theorem ar1_c x R:ar1 [x] R=R x:=rfl
@[simp ↓] theorem ar2_c x y R:ar2 [x,y] R=R x y:=rfl
@[simp ↓] theorem arH_c x r R:arH (x::r) R=R x r:=rfl
@[simp ↓] theorem getSt_z v σ R:getSt (some v::σ) 0 R=R v:=rfl
@[simp ↓] theorem getSt_s o σ n R:getSt (o::σ) (n+1) R=getSt σ n R:=rfl
theorem isInt.out {x:V} {R} (h:isInt x R):∃i,x = .int i∧R i:=by cases x <;> first | exact ⟨_,rfl,h⟩ | exact h.elim
theorem isStr.out {x:V} {R} (h:isStr x R):∃i,x = .str i∧R i:=by cases x <;> first | exact ⟨_,rfl,h⟩ | exact h.elim
theorem isBl.out {x:V} {R} (h:isBl x R):∃i,x = .bl i∧R i:=by cases x <;> first | exact ⟨_,rfl,h⟩ | exact h.elim
theorem isRef.out {x:V} {R} (h:isRef x R):∃i,x = .ref i∧R i:=by cases x <;> first | exact ⟨_,rfl,h⟩ | exact h.elim
theorem isTy.out {x:V} {R} (h:isTy x R):∃i,x = .ty i∧R i:=by cases x <;> first | exact ⟨_,rfl,h⟩ | exact h.elim
theorem ar0.out {xs:List V} {R} (h:ar0 xs R):xs=[]∧R:=by cases xs <;> first | exact ⟨rfl,h⟩ | exact h.elim
theorem ar1.out {xs:List V} {R} (h:ar1 xs R):∃x,xs=[x]∧R x:=by
  match xs,h with
  | [x],h=>exact ⟨x,rfl,h⟩
theorem ar2.out {xs:List V} {R} (h:ar2 xs R):∃x y,xs=[x,y]∧R x y:=by
  match xs,h with
  | [x,y],h=>exact ⟨x,y,rfl,h⟩
theorem arH.out {xs:List V} {R} (h:arH xs R):∃x r,xs=x::r∧R x r:=by cases xs <;> first | exact ⟨_,_,rfl,h⟩ | exact h.elim
theorem getSt.out:∀{σ:St} {i:Nat} {R},getSt σ i R→∃v,σ[i]? = some (some v)∧R v
  | [],_,_,h=>h.elim
  | some v::_,0,_,h=>⟨v,rfl,h⟩
  | none::_,0,_,h=>h.elim
  | _::σ,n+1,R,h=>by
    obtain ⟨v,e,q⟩:=getSt.out (σ:=σ) (i:=n) h
    exact ⟨v,by simpa using e,q⟩
section
variable {X:Cx}
theorem PE.mono {e:Expr} {t t':TE} (o:PE X e t) (h:∀{σ H Q},t' σ H Q→t σ H Q):PE X e t':=fun pins s σ H Q I q=>o pins s σ H Q I (h q)
theorem PS.mono {e:Stmt} {t t':TS} (o:PS X e t) (h:∀{D σ H},t' D σ H→t D σ H):PS X e t':=fun pins s σ H D I q=>o pins s σ H D I (h q)
theorem PGs.mono {e:List Expr} {t t':TGs} (o:PGs X e t) (h:∀{v σ H Q},t' v σ H Q→t v σ H Q):PGs X e t':=fun pins s σ H v u Q I r q=>o pins s σ H v u Q I r (h q)
theorem OpR.mono {f:Value→Value→Sem Value} {r r':R2} (o:OpR X f r) (h:∀{x y H Q},r' x y H Q→r x y H Q):OpR X f r':=fun pins s σ H x y v u Q I rx ry q=>o pins s σ H x y v u Q I rx ry (h q)
theorem UnR.mono {f:Value→Sem Value} {r r':V→Hp→VK→Prop} (o:UnR X f r) (h:∀{x H Q},r' x H Q→r x H Q):UnR X f r':=fun pins s σ H x v Q I rx q=>o pins s σ H x v Q I rx (h q)
theorem CallR.mono {f:Value} {r r':List V→Hp→VK→Prop} (o:CallR X f r) (h:∀{x H Q},r' x H Q→r x H Q):CallR X f r':=fun pins s σ H x v Q I rx q=>o pins s σ H x v Q I rx (h q)
theorem MtR.mono {f:String} {r r':V→List V→Hp→VK→Prop} (o:MtR X f r) (h:∀{x y H Q},r' x y H Q→r x y H Q):MtR X f r':=fun pins s σ H x y v u Q I rx ry q=>o pins s σ H x y v u Q I rx ry (h q)
theorem IxR.mono {r r':R2} (o:IxR X r) (h:∀{x y H Q},r' x y H Q→r x y H Q):IxR X r':=fun a b pins s σ H x y v u Q I rx ry q z=>o a b pins s σ H x y v u Q I rx ry (h q) z
theorem SlR.mono {r r':V→Option Int→Option Int→Hp→VK→Prop} (o:SlR X r) (h:∀{x lo hi H Q},r' x lo hi H Q→r x lo hi H Q):SlR X r':=fun pins s σ H x v vl vu lo hi sl Q I rx z1 z2 z3 q=>o pins s σ H x v vl vu lo hi sl Q I rx z1 z2 z3 (h q)
theorem PIp.mono {op:Operator} {r r':TIp} (o:PIp X op r) (h:∀{x y H Q},r' x y H Q→r x y H Q):PIp X op r':=fun pins s σ H x y v u Q I rx ry q=>o pins s σ H x y v u Q I rx ry (h q)
theorem PSet.mono {r r':TSet} (o:PSet X r) (h:∀{x y z H Q},r' x y z H Q→r x y z H Q):PSet X r':=fun pins s σ H o' i v ov iv u Q I a b c q=>o pins s σ H o' i v ov iv u Q I a b c (h q)
end
def fVar (i:Nat):TE:=fun σ H Q=>getSt σ i fun v=>Q v H
@[simp ↓] theorem fVar_w (i:Nat) σ H Q:fVar i σ H Q=getSt σ i (fun v=>Q v H):=rfl
theorem fVar_t {i:Nat} {σ H Q} (h:fVar i σ H Q):tVar i σ H Q:=getSt.out h
def startL:List Str→List V→St
  | _::N,v::vs=>some v::startL N vs
  | _::N,[]=>none::startL N []
  | [],_=>[]
@[simp ↓] theorem startL_cc n N v vs:startL (n::N) (v::vs)=some v::startL N vs:=rfl
@[simp ↓] theorem startL_cn n N:startL (n::N) []=none::startL N []:=rfl
@[simp ↓] theorem startL_n vs:startL [] vs=[]:=by cases vs <;> rfl
theorem startL_eq:∀(N:List Str) (vs:List V),vs.length≤N.length→startL N vs=start N vs
  | [],[],_=>rfl
  | [],_::_,h=>by simp at h
  | n::N,[],_=>by
    rw [startL,startL_eq N [] (by simp)]
    simp [start,List.replicate_succ]
  | n::N,v::vs,h=>by
    rw [startL,startL_eq N vs (by simpa using h)]
    simp [start]
def fI0 (g:Int→Int→V):R2:=fun x y H Q=>isInt x fun i=>isInt y fun j=>Q (g i j) H
def fI (C:Int→Int→Prop) (g:Int→Int→V):R2:=fun x y H Q=>isInt x fun i=>isInt y fun j=>C i j∧Q (g i j) H
def fU (g:Int→V):V→Hp→VK→Prop:=fun x H Q=>isInt x fun i=>Q (g i) H
@[simp ↓] theorem fI0_w g x y H Q:fI0 g x y H Q=(isInt x fun i=>isInt y fun j=>Q (g i j) H):=rfl
@[simp ↓] theorem fI_w C g x y H Q:fI C g x y H Q=(isInt x fun i=>isInt y fun j=>C i j∧Q (g i j) H):=rfl
@[simp ↓] theorem fU_w g x H Q:fU g x H Q=(isInt x fun i=>Q (g i) H):=rfl
theorem fI0_t {g:Int→Int→V} {x y H Q} (h:fI0 g x y H Q):rI0 g x y H Q:=by
  obtain ⟨i,rfl,h1⟩:=isInt.out h;obtain ⟨j,rfl,h2⟩:=isInt.out h1
  exact ⟨i,j,rfl,rfl,h2⟩
theorem fI_t {C} {g:Int→Int→V} {x y H Q} (h:fI C g x y H Q):rI C g x y H Q:=by
  obtain ⟨i,rfl,h1⟩:=isInt.out h;obtain ⟨j,rfl,h2⟩:=isInt.out h1
  exact ⟨i,j,rfl,rfl,h2⟩
theorem fU_t {g:Int→V} {x H Q} (h:fU g x H Q):rU g x H Q:=by
  obtain ⟨i,rfl,h⟩:=isInt.out h
  exact ⟨i,rfl,h⟩
def fEq:R2:=fun x y H Q=>match x,y with
  | .int i,.int j=>Q (.bl (decide (i=j))) H
  | .str i,.str j=>Q (.bl (decide (i=j))) H
  | .bl i,.bl j=>Q (.bl (decide (i=j))) H
  | x,y=>scal x y=true∧Q (.bl (decide (x=y))) H
def fNe:R2:=fun x y H Q=>match x,y with
  | .int i,.int j=>∃k,decide (i=j) = !k∧Q (.bl k) H
  | .str i,.str j=>∃k,decide (i=j) = !k∧Q (.bl k) H
  | .bl i,.bl j=>∃k,decide (i=j) = !k∧Q (.bl k) H
  | x,y=>scal x y=true∧∃k,decide (x=y) = !k∧Q (.bl k) H
@[simp ↓] theorem fEq_i i j H Q:fEq (.int i) (.int j) H Q=Q (.bl (decide (i=j))) H:=rfl
@[simp ↓] theorem fEq_s i j H Q:fEq (.str i) (.str j) H Q=Q (.bl (decide (i=j))) H:=rfl
@[simp ↓] theorem fEq_b i j H Q:fEq (.bl i) (.bl j) H Q=Q (.bl (decide (i=j))) H:=rfl
@[simp ↓] theorem fNe_i i j H Q:fNe (.int i) (.int j) H Q=∃k,decide (i=j) = !k∧Q (.bl k) H:=rfl
@[simp ↓] theorem fNe_s i j H Q:fNe (.str i) (.str j) H Q=∃k,decide (i=j) = !k∧Q (.bl k) H:=rfl
@[simp ↓] theorem fNe_b i j H Q:fNe (.bl i) (.bl j) H Q=∃k,decide (i=j) = !k∧Q (.bl k) H:=rfl
theorem ne_out {b:Bool} {R:Bool→Prop} (h:∃k,b = !k∧R k):R (!b):=by
  obtain ⟨k,e,q⟩:=h
  rw [e,Bool.not_not]
  exact q
theorem fEq_t {x y H Q} (h:fEq x y H Q):rEq x y H Q:=by
  unfold fEq at h
  split at h
  ·exact ⟨rfl,by simpa using h⟩
  ·exact ⟨rfl,by simpa using h⟩
  ·exact ⟨rfl,by simpa using h⟩
  ·exact h
theorem fNe_t {x y H Q} (h:fNe x y H Q):rNe x y H Q:=by
  unfold fNe at h
  split at h
  ·exact ⟨rfl,by simpa using ne_out (R:=fun k=>Q (.bl k) H) h⟩
  ·exact ⟨rfl,by simpa using ne_out (R:=fun k=>Q (.bl k) H) h⟩
  ·exact ⟨rfl,by simpa using ne_out (R:=fun k=>Q (.bl k) H) h⟩
  ·exact ⟨h.1,ne_out (R:=fun k=>Q (.bl k) H) h.2⟩
def fAddS:R2:=fun x y H Q=>isStr x fun i=>isStr y fun j=>i.length+j.length≤sizeLine∧Q (.str (i++j)) H
@[simp ↓] theorem fAddS_w x y H Q:fAddS x y H Q=(isStr x fun i=>isStr y fun j=>i.length+j.length≤sizeLine∧Q (.str (i++j)) H):=rfl
theorem fAddS_t {x y H Q} (h:fAddS x y H Q):rAddS x y H Q:=by
  obtain ⟨i,rfl,h1⟩:=isStr.out h;obtain ⟨j,rfl,h2⟩:=isStr.out h1
  exact ⟨i,j,rfl,rfl,h2⟩
def fCat:R2:=fun x y H Q=>isRef x fun l=>isRef y fun b=>∃xs,H l=some (.lst xs)∧∃zs,H b=some (.lst zs)∧xs.length+zs.length≤sizeLine∧∀p,H p=none→Q (.ref p) (upd H p (.lst (xs++zs)))
@[simp ↓] theorem fCat_w x y H Q:fCat x y H Q=(isRef x fun l=>isRef y fun b=>∃xs,H l=some (.lst xs)∧∃zs,H b=some (.lst zs)∧xs.length+zs.length≤sizeLine∧∀p,H p=none→Q (.ref p) (upd H p (.lst (xs++zs)))):=rfl
theorem fCat_t {x y H Q} (h:fCat x y H Q):rCat x y H Q:=by
  obtain ⟨i,rfl,h0⟩:=isRef.out h;obtain ⟨j,rfl,xs,h1,zs,h2,h3⟩:=isRef.out h0
  exact ⟨i,j,xs,zs,rfl,rfl,h1,h2,h3⟩
def fRep:R2:=fun x y H Q=>isRef x fun l=>isInt y fun k=>∃xs,H l=some (.lst xs)∧-(2 ^ 63)≤k∧k<2 ^ 63∧xs.length * k.toNat≤sizeLine∧∀p,H p=none→Q (.ref p) (upd H p (.lst (List.replicate k.toNat xs).flatten))
def fTest (t:TE):TT:=fun σ H Q=>t σ H fun x H'=>isBl x fun k=>Q k H'
@[simp ↓] theorem fTest_w (t:TE) σ H Q:fTest t σ H Q=(t σ H fun x H'=>isBl x fun k=>Q k H'):=rfl
def fNotV (ta:TE):TE:=fun σ H Q=>ta σ H fun x H1=>isBl x fun c=>Q (.bl (!c)) H1
@[simp ↓] theorem fNotV_w (ta:TE) σ H Q:fNotV ta σ H Q=(ta σ H fun x H1=>isBl x fun c=>Q (.bl (!c)) H1):=rfl
def fAndV (ta tb:TE):TE:=fun σ H Q=>ta σ H fun x H1=>isBl x fun c=>tBr c (tb σ H1 Q) (Q (.bl false) H1) ⟨0⟩
def fOrV (ta tb:TE):TE:=fun σ H Q=>ta σ H fun x H1=>isBl x fun c=>tBr c (Q (.bl true) H1) (tb σ H1 Q) ⟨0⟩
@[simp ↓] theorem fAndV_w (ta tb:TE) σ H Q:fAndV ta tb σ H Q=(ta σ H fun x H1=>isBl x fun c=>tBr c (tb σ H1 Q) (Q (.bl false) H1) ⟨0⟩):=rfl
@[simp ↓] theorem fOrV_w (ta tb:TE) σ H Q:fOrV ta tb σ H Q=(ta σ H fun x H1=>isBl x fun c=>tBr c (Q (.bl true) H1) (tb σ H1 Q) ⟨0⟩):=rfl
def fChain (r r':R2) (ta tb tc:TE):TE:=fun σ H Q=>ta σ H fun x H1=>tb σ H1 fun y H2=>r x y H2 fun z H3=>isBl z fun k=>tBr k (tc σ H3 fun w' H4=>r' y w' H4 Q) (Q (.bl false) H3) ⟨0⟩
@[simp ↓] theorem fChain_w (r r':R2) (ta tb tc:TE) σ H Q:fChain r r' ta tb tc σ H Q=(ta σ H fun x H1=>tb σ H1 fun y H2=>r x y H2 fun z H3=>isBl z fun k=>tBr k (tc σ H3 fun w' H4=>r' y w' H4 Q) (Q (.bl false) H3) ⟨0⟩):=rfl
section
variable {X:Cx} {K:PySem.W.Frag} {a b c:Expr} {ta tb tc:TE} {tA:TT} {pos:Pos}
theorem fpv (i:Nat) {x:Str} {pos:Pos} (hN:X.N[i]? = some x:=by rfl) (hv:Vis X.env.scope x:=by first | exact Or.inl rfl | exact Or.inr (Or.inl rfl) | exact Or.inr (Or.inr rfl)) (hd:(x == ("__debug__" : Str))=false:=by decide)
    (hcd:(x == ("__classdict__" : Str))=false:=by decide):PE X (.Name x pos) (fVar i):=(pe_var hN hv hd hcd).mono fVar_t
theorem fop_add:OpR X (binaryOp .Add) (fI0 fun i j=>.int (i+j)):=op_add.mono fI0_t
theorem fop_sub:OpR X (binaryOp .Sub) (fI0 fun i j=>.int (i - j)):=op_sub.mono fI0_t
theorem fop_lt:OpR X (compareOp .Lt) (fI0 fun i j=>.bl (decide (i<j))):=op_lt.mono fI0_t
theorem fop_le:OpR X (compareOp .LtE) (fI0 fun i j=>.bl (decide (i≤j))):=op_le.mono fI0_t
theorem fop_gt:OpR X (compareOp .Gt) (fI0 fun i j=>.bl (decide (j<i))):=op_gt.mono fI0_t
theorem fop_ge:OpR X (compareOp .GtE) (fI0 fun i j=>.bl (decide (j≤i))):=op_ge.mono fI0_t
theorem fop_eq:OpR X (compareOp .Eq) fEq:=op_eq.mono fEq_t
theorem fop_ne:OpR X (compareOp .NotEq) fNe:=op_ne.mono fNe_t
theorem fop_add_str:OpR X (binaryOp .Add) fAddS:=op_add_str.mono fAddS_t
theorem fop_cat:OpR X (binaryOp .Add) fCat:=op_cat.mono fCat_t
theorem fun_neg:UnR X (unaryOp .USub) (fU fun i=>.int (-i)):=un_neg.mono fU_t
theorem isBl_ex (x:V) (R:Bool→Prop):isBl x R=(∃k,x = .bl k∧R k):=propext ⟨isBl.out,fun ⟨k,e,q⟩=>by subst e;exact q⟩
theorem isInt_ex (x:V) (R:Int→Prop):isInt x R=(∃k,x = .int k∧R k):=propext ⟨isInt.out,fun ⟨k,e,q⟩=>by subst e;exact q⟩
theorem isRef_ex (x:V) (R:Addr→Prop):isRef x R=(∃k,x = .ref k∧R k):=propext ⟨isRef.out,fun ⟨k,e,q⟩=>by subst e;exact q⟩
theorem isStr_ex (x:V) (R:Str→Prop):isStr x R=(∃k,x = .str k∧R k):=propext ⟨isStr.out,fun ⟨k,e,q⟩=>by subst e;exact q⟩
theorem arH_ex (x:List V) (R:V→List V→Prop):arH x R=(∃k j,x=k::j∧R k j):=propext ⟨arH.out,fun ⟨k,j,e,q⟩=>by subst e;exact q⟩
theorem fTest_eq (t:TE):fTest t=tTest t:=by
  funext σ H Q
  exact congrArg (t σ H) (funext fun x=>funext fun H'=>isBl_ex _ _)
theorem fB_eq (t:TE):fTest t=tB t:=by
  funext σ H Q
  exact congrArg (t σ H) (funext fun x=>funext fun H'=>isBl_ex _ _)
theorem fNotV_eq (t:TE):fNotV t=tNotV t:=by
  funext σ H Q
  exact congrArg (t σ H) (funext fun x=>funext fun H'=>isBl_ex _ _)
theorem fAndV_eq (t u:TE):fAndV t u=tAndV t u:=by
  funext σ H Q
  exact congrArg (t σ H) (funext fun x=>funext fun H'=>isBl_ex _ _)
theorem fOrV_eq (t u:TE):fOrV t u=tOrV t u:=by
  funext σ H Q
  exact congrArg (t σ H) (funext fun x=>funext fun H'=>isBl_ex _ _)
theorem fChain_eq (r r':R2) (ta tb tc:TE):fChain r r' ta tb tc=tChain r r' ta tb tc:=by
  funext σ H Q
  exact congrArg (ta σ H) (funext fun x=>funext fun H1=>congrArg (tb σ H1) (funext fun y=>funext fun H2=>congrArg (r x y H2) (funext fun z=>funext fun H3=>isBl_ex _ _)))
theorem fpt_cmpR {op:CmpOp} {r:R2} (ho:OpR X (compareOp op) r) (ha:PE X a ta) (hb:PE X b tb) (hm:behindInMarks op b=false):PT X (.Compare a [op] [b] pos) (fTest (tOp r ta tb)):=fTest_eq _▸pt_cmpR ho ha hb hm
theorem fpt_cmp {op:CmpOp} {t:TE} (h:PC X op a b t) (h1:behindInMarks op b=false:=by first | exact nobehind _ (by decide) (by decide) | rfl):PT X (.Compare a [op] [b] pos) (fTest t):=fB_eq _▸pt_cmp h h1
theorem fpt_val {e:Expr} {t:TE} (h:PE X e t) (he:∀whole,isTrue e X.env whole=(do let v ← whole;standAt e.pos;holding [v] (truthy v)):=by intro _;rfl):PT X e (fTest t):=fB_eq _▸pt_val h he
theorem fpe_chain {op op':CmpOp} {r r':R2} (ho:OpR X (compareOp op) r) (ho':OpR X (compareOp op') r') (ha:PE X a ta) (hb:PE X b tb) (hc:PE X c tc)
    (hm:lastMarks [op,op'] [b,c]=false:=by with_unfolding_all rfl):PE X (.Compare a [op,op'] [b,c] pos) (fChain r r' ta tb tc):=fChain_eq _ _ _ _ _▸pe_chain ho ho' ha hb hc hm
theorem fpt_chain {op op':CmpOp} {r r':R2} (ho:OpR X (compareOp op) r) (ho':OpR X (compareOp op') r') (ha:PE X a ta) (hb:PE X b tb) (hc:PE X c tc)
    (hm:lastMarks [op,op'] [b,c]=false:=by with_unfolding_all rfl):PT X (.Compare a [op,op'] [b,c] pos) (fTest (fChain r r' ta tb tc)):=by
  rw [fTest_eq,fChain_eq]
  exact pt_chain ho ho' ha hb hc hm
theorem fpe_not (ha:PE X a ta):PE X (.UnaryOp .Not a pos) (fNotV ta):=fNotV_eq _▸pe_not ha
theorem fpe_and {rest:List Expr} (ha:PE X a ta) (hb:PE X (.BoolOp .And (b::rest) pos) tb):PE X (.BoolOp .And (a::b::rest) pos) (fAndV ta tb):=fAndV_eq _ _▸pe_and ha hb
theorem fpe_or {rest:List Expr} (ha:PE X a ta) (hb:PE X (.BoolOp .Or (b::rest) pos) tb):PE X (.BoolOp .Or (a::b::rest) pos) (fOrV ta tb):=fOrV_eq _ _▸pe_or ha hb
end
def fIxQ (K:PySem.W.Frag):R2:=fun x y H Q=>isRef x fun p=>isInt y fun i=>∃xs,(SqL K H p xs∨SqT K H p xs)∧∃v,atI xs i=some v∧Q v H
@[simp ↓] theorem fIxQ_w (K:PySem.W.Frag) x y H Q:fIxQ K x y H Q=(isRef x fun p=>isInt y fun i=>∃xs,(SqL K H p xs∨SqT K H p xs)∧∃v,atI xs i=some v∧Q v H):=rfl
theorem fIxQ_t {K:PySem.W.Frag} {x y H Q} (h:fIxQ K x y H Q):rIxQ K x y H Q:=by
  obtain ⟨p,rfl,h1⟩:=isRef.out h
  obtain ⟨i,rfl,xs,h2,v,h3,h4⟩:=isInt.out h1
  exact ⟨p,xs,i,v,rfl,rfl,h2,h3,h4⟩
def fIxS  : R2:=fun x y H Q=>isStr x fun z=>isInt y fun i=>z.length≤sizeLine∧∃c,atI z.cps.toList i=some c∧Q (.str ⟨#[c]⟩) H
@[simp ↓] theorem fIxS_w  x y H Q:fIxS x y H Q=(isStr x fun z=>isInt y fun i=>z.length≤sizeLine∧∃c,atI z.cps.toList i=some c∧Q (.str ⟨#[c]⟩) H):=rfl
theorem fIxS_t  {x y H Q} (h:fIxS x y H Q):rIxS x y H Q:=by
  obtain ⟨z,rfl,h1⟩:=isStr.out h
  obtain ⟨i,rfl,h2,c,h3,h4⟩:=isInt.out h1
  exact ⟨z,i,c,rfl,rfl,h2,h3,h4⟩
def fLenQ (K:PySem.W.Frag):List V→Hp→VK→Prop:=fun xs H Q=>ar1 xs fun x=>isRef x fun p=>∃ys,(SqL K H p ys∨SqT K H p ys)∧Q (.int ys.length) H
@[simp ↓] theorem fLenQ_w (K:PySem.W.Frag) xs H Q:fLenQ K xs H Q=(ar1 xs fun x=>isRef x fun p=>∃ys,(SqL K H p ys∨SqT K H p ys)∧Q (.int ys.length) H):=rfl
theorem fLenQ_t {K:PySem.W.Frag} {xs H Q} (h:fLenQ K xs H Q):rLenQ K xs H Q:=by
  obtain ⟨x,rfl,h1⟩:=ar1.out h
  obtain ⟨p,rfl,ys,h2,h3⟩:=isRef.out h1
  exact ⟨p,ys,rfl,h2,h3⟩
def fLenT  : List V→Hp→VK→Prop:=fun xs H Q=>ar1 xs fun x=>isStr x fun z=>z.length≤sizeLine∧Q (.int z.length) H
@[simp ↓] theorem fLenT_w  xs H Q:fLenT xs H Q=(ar1 xs fun x=>isStr x fun z=>z.length≤sizeLine∧Q (.int z.length) H):=rfl
theorem fLenT_t  {xs H Q} (h:fLenT xs H Q):rLenT xs H Q:=by
  obtain ⟨x,rfl,h1⟩:=ar1.out h
  obtain ⟨p,rfl,h2⟩:=isStr.out h1
  exact ⟨p,rfl,h2⟩
def fListOf (K:PySem.W.Frag):List V→Hp→VK→Prop:=fun xs H Q=>ar1 xs fun x=>isRef x fun p=>∃ys,(SqL K H p ys∨SqT K H p ys)∧∀l,H l=none→Q (.ref l) (upd H l (.lst ys))
@[simp ↓] theorem fListOf_w (K:PySem.W.Frag) xs H Q:fListOf K xs H Q=(ar1 xs fun x=>isRef x fun p=>∃ys,(SqL K H p ys∨SqT K H p ys)∧∀l,H l=none→Q (.ref l) (upd H l (.lst ys))):=rfl
theorem fListOf_t {K:PySem.W.Frag} {xs H Q} (h:fListOf K xs H Q):rListOf K xs H Q:=by
  obtain ⟨x,rfl,h1⟩:=ar1.out h
  obtain ⟨p,rfl,ys,h2,h3⟩:=isRef.out h1
  exact ⟨p,ys,rfl,h2,h3⟩
def fTupleS  : List V→Hp→VK→Prop:=fun xs H Q=>ar1 xs fun x=>isRef x fun p=>∃ys,Sq H p ys∧∀l H',H' l=some (.tup ys)→Same H H'→Q (.ref l) H'
@[simp ↓] theorem fTupleS_w  xs H Q:fTupleS xs H Q=(ar1 xs fun x=>isRef x fun p=>∃ys,Sq H p ys∧∀l H',H' l=some (.tup ys)→Same H H'→Q (.ref l) H'):=rfl
theorem fTupleS_t  {xs H Q} (h:fTupleS xs H Q):rTupleS xs H Q:=by
  obtain ⟨x,rfl,h1⟩:=ar1.out h
  obtain ⟨p,rfl,ys,h2,h3⟩:=isRef.out h1
  exact ⟨p,ys,rfl,h2,h3⟩
def fIsiT (K:PySem.W.Frag):List V→Hp→VK→Prop:=fun xs H Q=>ar2 xs fun x y=>isTy y fun n=>∃t,TyOf K H x t∧∃b,PySem.W.kitOne K t (.type n)=some b∧Q (.bl b) H
@[simp ↓] theorem fIsiT_w (K:PySem.W.Frag) xs H Q:fIsiT K xs H Q=(ar2 xs fun x y=>isTy y fun n=>∃t,TyOf K H x t∧∃b,PySem.W.kitOne K t (.type n)=some b∧Q (.bl b) H):=rfl
theorem fIsiT_t {K:PySem.W.Frag} {xs H Q} (h:fIsiT K xs H Q):rIsiT K xs H Q:=by
  obtain ⟨x,y,rfl,h1⟩:=ar2.out h
  obtain ⟨n,rfl,t,h2,b,h3,h4⟩:=isTy.out h1
  exact ⟨x,n,t,b,rfl,h2,h3,h4⟩
def fIsi2 (K:PySem.W.Frag):List V→Hp→VK→Prop:=fun xs H Q=>ar2 xs fun x y=>isRef y fun p=>∃m n,H p=some (.tup [.ty m,.ty n])∧∃t,TyOf K H x t∧∃b,PySem.W.kitAny K t [.type m,.type n]=some b∧Q (.bl b) H
@[simp ↓] theorem fIsi2_w (K:PySem.W.Frag) xs H Q:fIsi2 K xs H Q=(ar2 xs fun x y=>isRef y fun p=>∃m n,H p=some (.tup [.ty m,.ty n])∧∃t,TyOf K H x t∧∃b,PySem.W.kitAny K t [.type m,.type n]=some b∧Q (.bl b) H):=rfl
theorem fIsi2_t {K:PySem.W.Frag} {xs H Q} (h:fIsi2 K xs H Q):rIsi2 K xs H Q:=by
  obtain ⟨x,y,rfl,h1⟩:=ar2.out h
  obtain ⟨p,rfl,m,n,h0,t,h2,b,h3,h4⟩:=isRef.out h1
  exact ⟨x,p,m,n,t,b,rfl,h0,h2,h3,h4⟩
def fIn (K:PySem.W.Frag):R2:=fun x y H Q=>isRef y fun p=>∃xs,(SqL K H p xs∨SqT K H p xs)∧flatV x=true∧(∀z∈xs,flatV z=true)∧Q (.bl (inV x xs)) H
@[simp ↓] theorem fIn_w (K:PySem.W.Frag) x y H Q:fIn K x y H Q=(isRef y fun p=>∃xs,(SqL K H p xs∨SqT K H p xs)∧flatV x=true∧(∀z∈xs,flatV z=true)∧Q (.bl (inV x xs)) H):=rfl
theorem fIn_t {K:PySem.W.Frag} {x y H Q} (h:fIn K x y H Q):rInA K x y H Q:=by
  obtain ⟨p,rfl,xs,h1,h2,h3,h4⟩:=isRef.out h
  exact .inl ⟨p,xs,rfl,h1,h2,List.all_eq_true.mpr h3,h4⟩
def fNotIn (K:PySem.W.Frag):R2:=fun x y H Q=>isRef y fun p=>∃xs,(SqL K H p xs∨SqT K H p xs)∧flatV x=true∧(∀z∈xs,flatV z=true)∧∃k,inV x xs = !k∧Q (.bl k) H
@[simp ↓] theorem fNotIn_w (K:PySem.W.Frag) x y H Q:fNotIn K x y H Q=(isRef y fun p=>∃xs,(SqL K H p xs∨SqT K H p xs)∧flatV x=true∧(∀z∈xs,flatV z=true)∧∃k,inV x xs = !k∧Q (.bl k) H):=rfl
theorem fNotIn_t {K:PySem.W.Frag} {x y H Q} (h:fNotIn K x y H Q):rNotInA K x y H Q:=by
  obtain ⟨p,rfl,xs,h1,h2,h3,h4⟩:=isRef.out h
  exact .inl ⟨p,xs,rfl,h1,h2,List.all_eq_true.mpr h3,ne_out (R:=fun k=>Q (.bl k) H) h4⟩
def fInS (K:PySem.W.Frag):R2:=fun x y H Q=>isStr x fun i=>isStr y fun j=>Q (.bl (!(Builtin.Str.occurrences j i 0 j.length 1).isEmpty)) H
@[simp ↓] theorem fInS_w (K:PySem.W.Frag) x y H Q:fInS K x y H Q=(isStr x fun i=>isStr y fun j=>Q (.bl (!(Builtin.Str.occurrences j i 0 j.length 1).isEmpty)) H):=rfl
theorem fInS_t {K:PySem.W.Frag} {x y H Q} (h:fInS K x y H Q):rInA K x y H Q:=by
  obtain ⟨i,rfl,h1⟩:=isStr.out h
  obtain ⟨j,rfl,h2⟩:=isStr.out h1
  exact .inr ⟨i,j,rfl,rfl,h2⟩
def fAppend  : V→List V→Hp→VK→Prop:=fun x vs H Q=>isRef x fun l=>ar1 vs fun y=>∃xs,H l=some (.lst xs)∧xs.length<sizeLine∧Q .non (upd H l (.lst (xs++[y])))
@[simp ↓] theorem fAppend_w  x vs H Q:fAppend x vs H Q=(isRef x fun l=>ar1 vs fun y=>∃xs,H l=some (.lst xs)∧xs.length<sizeLine∧Q .non (upd H l (.lst (xs++[y])))):=rfl
theorem fAppend_t  {x vs H Q} (h:fAppend x vs H Q):rAppend x vs H Q:=by
  obtain ⟨l,rfl,h1⟩:=isRef.out h
  obtain ⟨y,rfl,xs,h2,h3⟩:=ar1.out h1
  exact ⟨l,xs,y,rfl,rfl,h2,h3⟩
def fInsert  : V→List V→Hp→VK→Prop:=fun x vs H Q=>isRef x fun l=>ar2 vs fun j y=>isInt j fun i=>∃xs,H l=some (.lst xs)∧0≤i∧i≤xs.length∧xs.length<sizeLine∧Q .non (upd H l (.lst (xs.take i.toNat++y::xs.drop i.toNat)))
@[simp ↓] theorem fInsert_w  x vs H Q:fInsert x vs H Q=(isRef x fun l=>ar2 vs fun j y=>isInt j fun i=>∃xs,H l=some (.lst xs)∧0≤i∧i≤xs.length∧xs.length<sizeLine∧Q .non (upd H l (.lst (xs.take i.toNat++y::xs.drop i.toNat)))):=rfl
theorem fInsert_t  {x vs H Q} (h:fInsert x vs H Q):rInsert x vs H Q:=by
  obtain ⟨l,rfl,h1⟩:=isRef.out h
  obtain ⟨j,y,rfl,h2⟩:=ar2.out h1
  obtain ⟨i,rfl,xs,h3⟩:=isInt.out h2
  exact ⟨l,xs,i,y,rfl,rfl,h3⟩
def fJoin  : V→List V→Hp→VK→Prop:=fun x vs H Q=>isStr x fun sep=>ar1 vs fun y=>isRef y fun l=>∃ys:List Str,H l=some (.lst (ys.map V.str))∧(ys.map (·.length)).sum+ys.length * sep.length≤16777216∧Q (.str (Txt.join sep ys)) H
@[simp ↓] theorem fJoin_w  x vs H Q:fJoin x vs H Q=(isStr x fun sep=>ar1 vs fun y=>isRef y fun l=>∃ys:List Str,H l=some (.lst (ys.map V.str))∧(ys.map (·.length)).sum+ys.length * sep.length≤16777216∧Q (.str (Txt.join sep ys)) H):=rfl
theorem fJoin_t  {x vs H Q} (h:fJoin x vs H Q):rJoin x vs H Q:=by
  obtain ⟨sep,rfl,h1⟩:=isStr.out h
  obtain ⟨y,rfl,h2⟩:=ar1.out h1
  obtain ⟨l,rfl,ys,h3⟩:=isRef.out h2
  exact ⟨sep,l,ys,rfl,rfl,h3⟩
def fNeD (K:PySem.W.Frag):R2:=fun x y H Q=>∃d,Is K H d x∧∃e,Is K H e y∧d.canLay0=true∧e.canLay0=true∧d.depth≤64∧∃k,PyData.eqv d e = !k∧Q (.bl k) H
@[simp ↓] theorem fNeD_w (K:PySem.W.Frag) x y H Q:fNeD K x y H Q=(∃d,Is K H d x∧∃e,Is K H e y∧d.canLay0=true∧e.canLay0=true∧d.depth≤64∧∃k,PyData.eqv d e = !k∧Q (.bl k) H):=rfl
theorem fNeD_t {K:PySem.W.Frag} {x y H Q} (h:fNeD K x y H Q):rNeD K x y H Q:=by
  obtain ⟨d,h1,e,h2,h3,h4,h5,h6⟩:=h
  exact ⟨d,e,h1,h2,h3,h4,h5,ne_out (R:=fun k=>Q (.bl k) H) h6⟩
def fEqD (K:PySem.W.Frag):R2:=fun x y H Q=>∃d,Is K H d x∧∃e,Is K H e y∧d.canLay0=true∧e.canLay0=true∧d.depth≤64∧Q (.bl (PyData.eqv d e)) H
@[simp ↓] theorem fEqD_w (K:PySem.W.Frag) x y H Q:fEqD K x y H Q=(∃d,Is K H d x∧∃e,Is K H e y∧d.canLay0=true∧e.canLay0=true∧d.depth≤64∧Q (.bl (PyData.eqv d e)) H):=rfl
theorem fEqD_t {K:PySem.W.Frag} {x y H Q} (h:fEqD K x y H Q):rEqD K x y H Q:=by
  obtain ⟨d,h1,e,h2,h3,h4,h5,h6⟩:=h
  exact ⟨d,e,h1,h2,h3,h4,h5,h6⟩
def fAbs  : List V→Hp→VK→Prop:=fun xs H Q=>ar1 xs fun x=>isInt x fun i=>Q (.int (if i<0 then -i else i)) H
@[simp ↓] theorem fAbs_w  xs H Q:fAbs xs H Q=(ar1 xs fun x=>isInt x fun i=>Q (.int (if i<0 then -i else i)) H):=rfl
theorem fAbs_t  {xs H Q} (h:fAbs xs H Q):(fun xs H Q=>∃i,xs=[.int i]∧Q (.int (if i<0 then -i else i)) H:List V→Hp→VK→Prop) xs H Q:=by
  obtain ⟨x,rfl,h1⟩:=ar1.out h
  obtain ⟨i,rfl,h2⟩:=isInt.out h1
  exact ⟨i,rfl,h2⟩
def fMax2  : List V→Hp→VK→Prop:=fun xs H Q=>ar2 xs fun x y=>isInt x fun i=>isInt y fun j=>Q (.int (if j > i then j else i)) H
@[simp ↓] theorem fMax2_w  xs H Q:fMax2 xs H Q=(ar2 xs fun x y=>isInt x fun i=>isInt y fun j=>Q (.int (if j > i then j else i)) H):=rfl
theorem fMax2_t  {xs H Q} (h:fMax2 xs H Q):(fun xs H Q=>∃i j,xs=[.int i,.int j]∧Q (.int (if j > i then j else i)) H:List V→Hp→VK→Prop) xs H Q:=by
  obtain ⟨x,y,rfl,h1⟩:=ar2.out h
  obtain ⟨i,rfl,h2⟩:=isInt.out h1
  obtain ⟨j,rfl,h3⟩:=isInt.out h2
  exact ⟨i,j,rfl,h3⟩
def fMin2  : List V→Hp→VK→Prop:=fun xs H Q=>ar2 xs fun x y=>isInt x fun i=>isInt y fun j=>Q (.int (if j<i then j else i)) H
@[simp ↓] theorem fMin2_w  xs H Q:fMin2 xs H Q=(ar2 xs fun x y=>isInt x fun i=>isInt y fun j=>Q (.int (if j<i then j else i)) H):=rfl
theorem fMin2_t  {xs H Q} (h:fMin2 xs H Q):(fun xs H Q=>∃i j,xs=[.int i,.int j]∧Q (.int (if j<i then j else i)) H:List V→Hp→VK→Prop) xs H Q:=by
  obtain ⟨x,y,rfl,h1⟩:=ar2.out h
  obtain ⟨i,rfl,h2⟩:=isInt.out h1
  obtain ⟨j,rfl,h3⟩:=isInt.out h2
  exact ⟨i,j,rfl,h3⟩
def fDivmod  : List V→Hp→VK→Prop:=fun xs H Q=>ar2 xs fun x y=>isInt x fun i=>isInt y fun j=>CDiv i j∧∀p,H p=none→Q (.ref p) (upd H p (.tup [.int (i / j),.int (i % j)]))
@[simp ↓] theorem fDivmod_w  xs H Q:fDivmod xs H Q=(ar2 xs fun x y=>isInt x fun i=>isInt y fun j=>CDiv i j∧∀p,H p=none→Q (.ref p) (upd H p (.tup [.int (i / j),.int (i % j)]))):=rfl
theorem fDivmod_t  {xs H Q} (h:fDivmod xs H Q):(fun xs H Q=>∃i j,xs=[.int i,.int j]∧CDiv i j∧∀p,H p=none→Q (.ref p) (upd H p (.tup [.int (i / j),.int (i % j)])):List V→Hp→VK→Prop) xs H Q:=by
  obtain ⟨x,y,rfl,h1⟩:=ar2.out h
  obtain ⟨i,rfl,h2⟩:=isInt.out h1
  obtain ⟨j,rfl,h3⟩:=isInt.out h2
  exact ⟨i,j,rfl,h3⟩
def fAll  : List V→Hp→VK→Prop:=fun xs H Q=>ar1 xs fun x=>isRef x fun a=>∃ys,H a=some (.lst ys)∧∃bs,blAll ys bs∧Q (.bl (bs.all id)) H
@[simp ↓] theorem fAll_w  xs H Q:fAll xs H Q=(ar1 xs fun x=>isRef x fun a=>∃ys,H a=some (.lst ys)∧∃bs,blAll ys bs∧Q (.bl (bs.all id)) H):=rfl
theorem fAll_t  {xs H Q} (h:fAll xs H Q):(fun xs H Q=>∃a ys bs,xs=[.ref a]∧H a=some (.lst ys)∧blAll ys bs∧Q (.bl (bs.all id)) H:List V→Hp→VK→Prop) xs H Q:=by
  obtain ⟨x,rfl,h1⟩:=ar1.out h
  obtain ⟨a,rfl,ys,h2,bs,h3,h4⟩:=isRef.out h1
  exact ⟨a,ys,bs,rfl,h2,h3,h4⟩
def fInt1:List V→Hp→VK→Prop:=fun xs H Q=>ar1 xs fun x=>match x with | .int i=>Q (.int i) H | .bl k=>Q (.int (if k=true then 1 else 0)) H | _=>False
@[simp ↓] theorem fInt1_i i H Q:fInt1 [.int i] H Q=Q (.int i) H:=rfl
@[simp ↓] theorem fInt1_b k H Q:fInt1 [.bl k] H Q=Q (.int (if k=true then 1 else 0)) H:=rfl
theorem fInt1_t {xs H Q} (h:fInt1 xs H Q):(fun xs H Q=>(∃i,xs=[.int i]∧Q (.int i) H)∨∃k,xs=[.bl k]∧Q (.int (if k then 1 else 0)) H:List V→Hp→VK→Prop) xs H Q:=by
  obtain ⟨x,rfl,h1⟩:=ar1.out h
  cases x with
  | int i=>exact .inl ⟨i,rfl,h1⟩
  | bl k=>exact .inr ⟨k,rfl,h1⟩
  | _=>exact h1.elim
def fSetL:TSet:=fun o i v H Q=>isRef o fun p=>isInt i fun k=>∃xs,H p=some (.lst xs)∧∃j,ixN xs.length k=some j∧Q (upd H p (.lst (xs.set j v)))
@[simp ↓] theorem fSetL_w o i v H Q:fSetL o i v H Q=(isRef o fun p=>isInt i fun k=>∃xs,H p=some (.lst xs)∧∃j,ixN xs.length k=some j∧Q (upd H p (.lst (xs.set j v)))):=rfl
theorem fSetL_t {o i v H Q} (h:fSetL o i v H Q):rSetL o i v H Q:=by
  obtain ⟨p,rfl,h1⟩:=isRef.out h
  obtain ⟨k,rfl,xs,h2,j,h3,h4⟩:=isInt.out h1
  exact ⟨p,xs,k,j,rfl,rfl,h2,h3,h4⟩
def fSlL (K:PySem.W.Frag):V→Option Int→Option Int→Hp→VK→Prop:=fun x lo hi H Q=>isRef x fun a=>∃xs,SqL K H a xs∧∀p,H p=none→Q (.ref p) (upd H p (.lst (cutV xs lo hi)))
@[simp ↓] theorem fSlL_w (K:PySem.W.Frag) x lo hi H Q:fSlL K x lo hi H Q=(isRef x fun a=>∃xs,SqL K H a xs∧∀p,H p=none→Q (.ref p) (upd H p (.lst (cutV xs lo hi)))):=rfl
theorem fSlL_t {K:PySem.W.Frag} {x lo hi H Q} (h:fSlL K x lo hi H Q):rSlL K x lo hi H Q:=by
  obtain ⟨a,rfl,xs,h1⟩:=isRef.out h
  exact ⟨a,xs,rfl,h1⟩
def fNil:TGs:=fun vs σ H Q=>ar0 vs (Q σ H)
def fCons (t:TG) (u:TGs):TGs:=fun vs σ H Q=>arH vs fun v r=>t v σ H fun σ' H'=>u r σ' H' Q
def fTup (K:PySem.W.Frag) (n:Nat) (t:TGs):TG:=fun v σ H Q=>isRef v fun a=>∃xs,SqT K H a xs∧xs.length=n∧t xs σ H Q
@[simp ↓] theorem fNil_w vs σ H Q:fNil vs σ H Q=ar0 vs (Q σ H):=rfl
@[simp ↓] theorem fCons_w t u vs σ H Q:fCons t u vs σ H Q=(arH vs fun v r=>t v σ H fun σ' H'=>u r σ' H' Q):=rfl
@[simp ↓] theorem fTup_w K n t v σ H Q:fTup K n t v σ H Q=(isRef v fun a=>∃xs,SqT K H a xs∧xs.length=n∧t xs σ H Q):=rfl
theorem fNil_t {vs σ H Q} (h:fNil vs σ H Q):gNil vs σ H Q:=ar0.out h
theorem fCons_eq (t:TG) (u:TGs):fCons t u=gCons t u:=by
  funext vs σ H Q
  exact arH_ex _ _
theorem fTup_eq (K:PySem.W.Frag) (n:Nat) (t:TGs):fTup K n t=gTup K n t:=by
  funext v σ H Q
  refine propext ⟨fun h=>?_,fun ⟨a,xs,e,h⟩=>by subst e;exact ⟨xs,h⟩⟩
  obtain ⟨a,rfl,xs,h1⟩:=isRef.out h
  exact ⟨a,xs,rfl,h1⟩
def fipI (f:Int→Int→Int):TIp:=fun x y H Q=>isInt x fun i=>isInt y fun j=>Q (.int (f i j)) H
@[simp ↓] theorem fipI_w f x y H Q:fipI f x y H Q=(isInt x fun i=>isInt y fun j=>Q (.int (f i j)) H):=rfl
theorem fipI_t {f:Int→Int→Int} {x y H Q} (h:fipI f x y H Q):ipI f x y H Q:=by
  obtain ⟨i,rfl,h1⟩:=isInt.out h;obtain ⟨j,rfl,h2⟩:=isInt.out h1
  exact ⟨i,j,rfl,rfl,h2⟩
def fAug (i:Nat) (te:TE) (ti:TIp):TS:=fun D σ H=>getSt σ i fun x=>te σ H fun y H1=>ti x y H1 fun z H2=>D.nx (σ.set i (some z)) H2
@[simp ↓] theorem fAug_w i te ti D σ H:fAug i te ti D σ H=(getSt σ i fun x=>te σ H fun y H1=>ti x y H1 fun z H2=>D.nx (σ.set i (some z)) H2):=rfl
theorem fAug_t {i:Nat} {te:TE} {ti:TIp} {D σ H} (h:fAug i te ti D σ H):tAug i te ti D σ H:=getSt.out h
def fiList (K:PySem.W.Frag) (tl:TE):TI:=fun σ H R=>tl σ H fun x H1=>isRef x fun a=>(∃xs,SqL K H1 a xs)∧R (Itl K a) H1
def fiSeq (K:PySem.W.Frag) (tl:TE):TI:=fun σ H R=>tl σ H fun x H1=>isRef x fun p=>∃b,(∃xs,SqB b K H1 p xs)∧R (Itq b K p) H1
def fiStr (tl:TE):TI:=fun σ H R=>tl σ H fun x H1=>isStr x fun z=>R (Its z) H1
def fiRng1 (ta:TA):TI:=fun σ H R=>ta σ H fun vs H1=>ar1 vs fun v=>isInt v fun j=>-(2 ^ 62)≤j∧j<2 ^ 62∧R (Itr 0 j.toNat) H1
def fiRng2 (ta:TA):TI:=fun σ H R=>ta σ H fun vs H1=>ar2 vs fun v w=>isInt v fun i=>isInt w fun j=>(-(2 ^ 62)≤i∧i<2 ^ 62∧-(2 ^ 62)≤j∧j<2 ^ 62)∧R (Itr i (j - i).toNat) H1
def fiZip (K:PySem.W.Frag) (t:TA):TI:=fun σ H R=>t σ H fun vs H1=>ar2 vs fun x y=>isRef x fun a=>isRef y fun b=>(∃xs,SqL K H1 a xs)∧(∃ys,SqL K H1 b ys)∧R (Itz K a b) H1
def fiEnum (K:PySem.W.Frag) (t:TA):TI:=fun σ H R=>t σ H fun vs H1=>ar1 vs fun x=>isRef x fun a=>(∃xs,SqL K H1 a xs)∧R (Ite K a) H1
@[simp ↓] theorem fiList_w K tl σ H R:fiList K tl σ H R=(tl σ H fun x H1=>isRef x fun a=>(∃xs,SqL K H1 a xs)∧R (Itl K a) H1):=rfl
@[simp ↓] theorem fiSeq_w K tl σ H R:fiSeq K tl σ H R=(tl σ H fun x H1=>isRef x fun p=>∃b,(∃xs,SqB b K H1 p xs)∧R (Itq b K p) H1):=rfl
@[simp ↓] theorem fiStr_w tl σ H R:fiStr tl σ H R=(tl σ H fun x H1=>isStr x fun z=>R (Its z) H1):=rfl
@[simp ↓] theorem fiRng1_w ta σ H R:fiRng1 ta σ H R=(ta σ H fun vs H1=>ar1 vs fun v=>isInt v fun j=>-(2 ^ 62)≤j∧j<2 ^ 62∧R (Itr 0 j.toNat) H1):=rfl
@[simp ↓] theorem fiRng2_w ta σ H R:fiRng2 ta σ H R=(ta σ H fun vs H1=>ar2 vs fun v w=>isInt v fun i=>isInt w fun j=>(-(2 ^ 62)≤i∧i<2 ^ 62∧-(2 ^ 62)≤j∧j<2 ^ 62)∧R (Itr i (j - i).toNat) H1):=rfl
@[simp ↓] theorem fiZip_w K t σ H R:fiZip K t σ H R=(t σ H fun vs H1=>ar2 vs fun x y=>isRef x fun a=>isRef y fun b=>(∃xs,SqL K H1 a xs)∧(∃ys,SqL K H1 b ys)∧R (Itz K a b) H1):=rfl
@[simp ↓] theorem fiEnum_w K t σ H R:fiEnum K t σ H R=(t σ H fun vs H1=>ar1 vs fun x=>isRef x fun a=>(∃xs,SqL K H1 a xs)∧R (Ite K a) H1):=rfl
theorem fiList_eq (K:PySem.W.Frag) (tl:TE):fiList K tl=iList K tl:=by
  funext σ H R
  exact congrArg (tl σ H) (funext fun x=>funext fun H1=>isRef_ex _ _)
theorem fiSeq_eq (K:PySem.W.Frag) (tl:TE):fiSeq K tl=iSeq K tl:=by
  funext σ H R
  refine congrArg (tl σ H) (funext fun x=>funext fun H1=>propext ⟨fun h=>?_,fun ⟨b,p,e,h⟩=>by subst e;exact ⟨b,h⟩⟩)
  obtain ⟨p,rfl,b,h1⟩:=isRef.out h
  exact ⟨b,p,rfl,h1⟩
theorem fiStr_eq (tl:TE):fiStr tl=iStr tl:=by
  funext σ H R
  exact congrArg (tl σ H) (funext fun x=>funext fun H1=>isStr_ex _ _)
theorem fiRng1_eq (ta:TA):fiRng1 ta=iRng1 ta:=by
  funext σ H R
  refine congrArg (ta σ H) (funext fun x=>funext fun H1=>propext ⟨fun h=>?_,fun ⟨b,e,h⟩=>by subst e;exact h⟩)
  obtain ⟨v,rfl,h1⟩:=ar1.out h
  obtain ⟨i,rfl,h2⟩:=isInt.out h1
  exact ⟨i,rfl,h2⟩
theorem fiRng2_eq (ta:TA):fiRng2 ta=iRng2 ta:=by
  funext σ H R
  refine congrArg (ta σ H) (funext fun x=>funext fun H1=>propext ⟨fun h=>?_,fun ⟨b,c,e,h⟩=>by subst e;exact h⟩)
  obtain ⟨v,w,rfl,h1⟩:=ar2.out h
  obtain ⟨i,rfl,h2⟩:=isInt.out h1
  obtain ⟨j,rfl,h3⟩:=isInt.out h2
  exact ⟨i,j,rfl,h3⟩
theorem fiZip_eq (K:PySem.W.Frag) (t:TA):fiZip K t=iZip K t:=by
  funext σ H R
  refine congrArg (t σ H) (funext fun x=>funext fun H1=>propext ⟨fun h=>?_,fun ⟨a,b,xs,ys,e,h1,h2,h3⟩=>by subst e;exact ⟨⟨xs,h1⟩,⟨ys,h2⟩,h3⟩⟩)
  obtain ⟨v,w,rfl,h1⟩:=ar2.out h
  obtain ⟨i,rfl,h2⟩:=isRef.out h1
  obtain ⟨j,rfl,⟨xs,h3⟩,⟨ys,h4⟩,h5⟩:=isRef.out h2
  exact ⟨i,j,xs,ys,rfl,h3,h4,h5⟩
theorem fiEnum_eq (K:PySem.W.Frag) (t:TA):fiEnum K t=iEnum K t:=by
  funext σ H R
  refine congrArg (t σ H) (funext fun x=>funext fun H1=>propext ⟨fun h=>?_,fun ⟨a,xs,e,h1,h3⟩=>by subst e;exact ⟨⟨xs,h1⟩,h3⟩⟩)
  obtain ⟨v,rfl,h1⟩:=ar1.out h
  obtain ⟨i,rfl,⟨xs,h3⟩,h5⟩:=isRef.out h1
  exact ⟨i,xs,rfl,h3,h5⟩
def fCall (sp:Sp) (E:XK) (t:TA):TE:=fun σ H Q=>t σ H fun vs H1=>tSp sp vs H1 Q ⟨0⟩ E
@[simp ↓] theorem fCall_w sp E t σ H Q:fCall sp E t σ H Q=(t σ H fun vs H1=>tSp sp vs H1 Q ⟨0⟩ E):=rfl
theorem fCall_eq (sp:Sp) (E:XK) (t:TA):fCall sp E t=tCall sp [] E t:=by
  funext σ H Q
  exact congrArg (t σ H) (funext fun vs=>funext fun H1=>by rw [List.append_nil];rfl)
def fMeth (C:Addr) (m:Str) (sp:Sp) (E:XK) (ta:TE) (t:TA):TE:=fun σ H Q=>ta σ H fun x H1=>isRef x fun a=>∃dx fs,H1 a=some (.ins C dx fs)∧fs.lookup m=none∧t σ H1 fun vs H2=>tSp sp (.ref a::vs) H2 Q ⟨0⟩ E
@[simp ↓] theorem fMeth_w C m sp E ta t σ H Q:fMeth C m sp E ta t σ H Q=(ta σ H fun x H1=>isRef x fun a=>∃dx fs,H1 a=some (.ins C dx fs)∧fs.lookup m=none∧t σ H1 fun vs H2=>tSp sp (.ref a::vs) H2 Q ⟨0⟩ E):=rfl
theorem fMeth_eq (C:Addr) (m:Str) (sp:Sp) (E:XK) (ta:TE) (t:TA):fMeth C m sp E ta t=tMeth C m sp [] E ta t:=by
  funext σ H Q
  refine congrArg (ta σ H) (funext fun x=>funext fun H1=>propext ⟨fun h=>?_,fun ⟨a,dx,fs,e,h1,h2,h3⟩=>?_⟩)
  · obtain ⟨a,rfl,dx,fs,h1,h2,h3⟩:=isRef.out h
    refine ⟨a,dx,fs,rfl,h1,h2,?_⟩
    simp only [List.append_nil]
    exact h3
  · subst e
    refine ⟨dx,fs,h1,h2,?_⟩
    simp only [List.append_nil] at h3
    exact h3
def fMake (C:Addr) (sp:Sp) (E:XK) (t:TA):TE:=fun σ H Q=>t σ H fun vs H1=>∀x dx,H1 x=none→H1 dx=none→dx≠x→
  tSp sp (.ref x::vs) (upd (upd H1 dx (.own x)) x (.ins C dx [])) (fun v H2=>v = .non∧Q (.ref x) H2) ⟨0⟩ E
@[simp ↓] theorem fMake_w C sp E t σ H Q:fMake C sp E t σ H Q=(t σ H fun vs H1=>∀x dx,H1 x=none→H1 dx=none→dx≠x→
  tSp sp (.ref x::vs) (upd (upd H1 dx (.own x)) x (.ins C dx [])) (fun v H2=>v = .non∧Q (.ref x) H2) ⟨0⟩ E):=rfl
theorem fMake_eq (C:Addr) (sp:Sp) (E:XK) (t:TA):fMake C sp E t=tMake C sp [] E t:=by
  funext σ H Q
  refine congrArg (t σ H) (funext fun vs=>funext fun H1=>?_)
  simp only [List.append_nil]
  rfl
def fFld (K:PySem.W.Frag) (ta:TE) (f:Str):TE:=fun σ H Q=>ta σ H fun x H1=>isRef x fun a=>∃C dx fs,H1 a=some (.ins C dx fs)∧Cls K C∧NoAttr K C f∧∃v,fs.lookup f=some v∧Q v H1
@[simp ↓] theorem fFld_w K ta f σ H Q:fFld K ta f σ H Q=(ta σ H fun x H1=>isRef x fun a=>∃C dx fs,H1 a=some (.ins C dx fs)∧Cls K C∧NoAttr K C f∧∃v,fs.lookup f=some v∧Q v H1):=rfl
theorem fFld_eq (K:PySem.W.Frag) (ta:TE) (f:Str):fFld K ta f=tFld K ta f:=by
  funext σ H Q
  refine congrArg (ta σ H) (funext fun x=>funext fun H1=>propext ⟨fun h=>?_,fun ⟨a,C,dx,fs,v,e,h1,h2,h3,h4⟩=>by subst e;exact ⟨C,dx,fs,h1,h2,h3,v,h4⟩⟩)
  obtain ⟨a,rfl,C,dx,fs,h1,h2,h3,v,h4⟩:=isRef.out h
  exact ⟨a,C,dx,fs,v,rfl,h1,h2,h3,h4⟩
def fDGet (td ty:TE):TE:=fun σ H Q=>td σ H fun x H1=>ty σ H1 fun y H2=>isRef x fun a=>∃v,DGet H2 a y (some v)∧Q v H2
def fDIn (ty td:TE):TE:=fun σ H Q=>ty σ H fun y H1=>td σ H1 fun x H2=>isRef x fun a=>∃o,DGet H2 a y o∧Q (.bl o.isSome) H2
def fDNotIn (ty td:TE):TE:=fun σ H Q=>ty σ H fun y H1=>td σ H1 fun x H2=>isRef x fun a=>∃o,DGet H2 a y o∧Q (.bl o.isNone) H2
def fDPut (td ty tv:TE):TS:=fun D σ H=>tv σ H fun v H1=>td σ H1 fun x H2=>ty σ H2 fun y H3=>isRef x fun a=>∃H4,DPut H3 a y v H4∧D.nx σ H4
def fDGet2 (td ty tx:TE):TE:=fun σ H Q=>td σ H fun x H1=>isRef x fun a=>IsD H1 a∧ty σ H1 fun y H2=>tx σ H2 fun z H3=>∃o,DGet H3 a y o∧Q (o.getD z) H3
@[simp ↓] theorem fDGet_w td ty σ H Q:fDGet td ty σ H Q=(td σ H fun x H1=>ty σ H1 fun y H2=>isRef x fun a=>∃v,DGet H2 a y (some v)∧Q v H2):=rfl
@[simp ↓] theorem fDIn_w ty td σ H Q:fDIn ty td σ H Q=(ty σ H fun y H1=>td σ H1 fun x H2=>isRef x fun a=>∃o,DGet H2 a y o∧Q (.bl o.isSome) H2):=rfl
@[simp ↓] theorem fDNotIn_w ty td σ H Q:fDNotIn ty td σ H Q=(ty σ H fun y H1=>td σ H1 fun x H2=>isRef x fun a=>∃o,DGet H2 a y o∧Q (.bl o.isNone) H2):=rfl
@[simp ↓] theorem fDPut_w td ty tv D σ H:fDPut td ty tv D σ H=(tv σ H fun v H1=>td σ H1 fun x H2=>ty σ H2 fun y H3=>isRef x fun a=>∃H4,DPut H3 a y v H4∧D.nx σ H4):=rfl
@[simp ↓] theorem fDGet2_w td ty tx σ H Q:fDGet2 td ty tx σ H Q=(td σ H fun x H1=>isRef x fun a=>IsD H1 a∧ty σ H1 fun y H2=>tx σ H2 fun z H3=>∃o,DGet H3 a y o∧Q (o.getD z) H3):=rfl
theorem ex_ref {x:V} {β:Type} {R:Addr→β→Prop}:(isRef x fun a=>∃b,R a b)=(∃a b,x = .ref a∧R a b):=propext ⟨fun h=>by obtain ⟨a,rfl,b,h1⟩:=isRef.out h;exact ⟨a,b,rfl,h1⟩,fun ⟨a,b,e,h⟩=>by subst e;exact ⟨b,h⟩⟩
theorem fDGet_eq (td ty:TE):fDGet td ty=tDGet td ty:=by
  funext σ H Q
  exact congrArg (td σ H) (funext fun x=>funext fun H1=>congrArg (ty σ H1) (funext fun y=>funext fun H2=>ex_ref))
theorem fDIn_eq (ty td:TE):fDIn ty td=tDIn ty td:=by
  funext σ H Q
  exact congrArg (ty σ H) (funext fun x=>funext fun H1=>congrArg (td σ H1) (funext fun y=>funext fun H2=>ex_ref))
theorem fDNotIn_eq (ty td:TE):fDNotIn ty td=tDNotIn ty td:=by
  funext σ H Q
  refine congrArg (ty σ H) (funext fun x=>funext fun H1=>congrArg (td σ H1) (funext fun y=>funext fun H2=>?_))
  rw [ex_ref]
  simp only [Option.not_isSome]
theorem fDPut_eq (td ty tv:TE):fDPut td ty tv=sDPut td ty tv:=by
  funext D σ H
  exact congrArg (tv σ H) (funext fun v=>funext fun H1=>congrArg (td σ H1) (funext fun x=>funext fun H2=>congrArg (ty σ H2) (funext fun y=>funext fun H3=>ex_ref)))
theorem fDGet2_eq (td ty tx:TE):fDGet2 td ty tx=tDGet2 td ty tx:=by
  funext σ H Q
  exact congrArg (td σ H) (funext fun x=>funext fun H1=>isRef_ex _ _)
def fPart (t:TE):TO:=fun σ H Q=>t σ H fun x H1=>isInt x fun i=>Q (some i) H1
@[simp ↓] theorem fPart_w t σ H Q:fPart t σ H Q=(t σ H fun x H1=>isInt x fun i=>Q (some i) H1):=rfl
theorem fPart_eq (t:TE):fPart t=tPart t:=by
  funext σ H Q
  exact congrArg (t σ H) (funext fun x=>funext fun H1=>isInt_ex _ _)
section
variable {X:Cx} {K:PySem.W.Frag}
theorem PE.eqv {e:Expr} {t t':TE} (o:PE X e t) (h:t'=t):PE X e t':=h▸o
theorem PC.eqv {op:CmpOp} {a b:Expr} {t t':TE} (o:PC X op a b t) (h:t'=t):PC X op a b t':=h▸o
theorem PS.eqv {e:Stmt} {t t':TS} (o:PS X e t) (h:t'=t):PS X e t':=h▸o
theorem PG.eqv {e:Expr} {t t':TG} (o:PG X e t) (h:t'=t):PG X e t':=h▸o
theorem PGs.eqv {e:List Expr} {t t':TGs} (o:PGs X e t) (h:t'=t):PGs X e t':=h▸o
theorem PI.eqv {tg e:Expr} {t t':TI} (o:PI X tg e t) (h:t'=t):PI X tg e t':=h▸o
theorem PO.eqv {e:Option Expr} {t t':TO} (o:PO X e t) (h:t'=t):PO X e t':=h▸o
theorem fop_mul:OpR X (binaryOp .Mult) (fI CMul fun i j=>.int (i * j)):=op_mul.mono fI_t
theorem fop_fdiv:OpR X (binaryOp .FloorDiv) (fI CDiv fun i j=>.int (i / j)):=op_fdiv.mono fI_t
theorem fop_mod:OpR X (binaryOp .Mod) (fI (fun _ j=>0<j) fun i j=>.int (i % j)):=op_mod.mono fI_t
theorem fop_pow:OpR X (binaryOp .Pow) (fI CPow fun i j=>.int (i ^ j.toNat)):=op_pow.mono fI_t
theorem fixQk (hK:X.K=K):IxR X (fIxQ K):=(ixQk hK).mono fIxQ_t
theorem fix_str:IxR X fIxS:=ix_str.mono fIxS_t
theorem finK (hK:X.K=K):OpR X (compareOp .In) (fIn K):=(inK hK).mono fIn_t
theorem finS (hK:X.K=K):OpR X (compareOp .In) (fInS K):=(inK hK).mono fInS_t
theorem fnotinK (hK:X.K=K):OpR X (compareOp .NotIn) (fNotIn K):=(notinK hK).mono fNotIn_t
theorem fopEqD (hK:X.K=K) (hu:X.A.units+64<cLine):OpR X (compareOp .Eq) (fEqD K):=(opEqDk hK hu).mono fEqD_t
theorem fopNeD (hK:X.K=K) (hu:X.A.units+64<cLine):OpR X (compareOp .NotEq) (fNeD K):=(opNeDk hK hu).mono fNeD_t
theorem flenQk (hK:X.K=K):CallR X (.builtin "len") (fLenQ K):=(lenQk hK).mono fLenQ_t
theorem flenTk:CallR X (.builtin "len") fLenT:=lenTk.mono fLenT_t
theorem flistOfk (hK:X.K=K):CallR X (.type "list") (fListOf K):=(listOfk hK).mono fListOf_t
theorem ftupleOfS:CallR X (.type "tuple") fTupleS:=tupleOfS.mono fTupleS_t
theorem fisiTk (hK:X.K=K):CallR X (.builtin "isinstance") (fIsiT K):=(isiTk hK).mono fIsiT_t
theorem fisi2k (hK:X.K=K):CallR X (.builtin "isinstance") (fIsi2 K):=(isi2k hK).mono fIsi2_t
theorem fcall_all (hc:X.calm=true):CallR X (.builtin "all") fAll:=(call_allB hc).mono fAll_t
theorem fcall_int1:CallR X (.type "int") fInt1:=call_int1.mono fInt1_t
theorem fcall_abs:CallR X (.builtin "abs") fAbs:=call_abs.mono fAbs_t
theorem fcall_max2 (hc:X.calm=true):CallR X (.builtin "max") fMax2:=(call_max2 hc).mono fMax2_t
theorem fcall_min2 (hc:X.calm=true):CallR X (.builtin "min") fMin2:=(call_min2 hc).mono fMin2_t
theorem fcall_divmod:CallR X (.builtin "divmod") fDivmod:=call_divmod.mono fDivmod_t
theorem fmt_append:MtR X "list.append" fAppend:=MtR.mono (r:=rAppend) mt_append fAppend_t
theorem fmt_insert:MtR X "list.insert" fInsert:=MtR.mono (r:=rInsert) mt_insert fInsert_t
theorem fmt_join:MtR X "str.join" fJoin:=mt_join.mono fJoin_t
theorem fslLk (hK:X.K=K):SlR X (fSlL K):=(slLk hK).mono fSlL_t
theorem fset_list:PSet X fSetL:=set_list.mono fSetL_t
theorem fip_add:PIp X .Add (fipI fun i j=>i+j):=ip_add.mono fipI_t
end
theorem getSt.imp {σ:St} {i:Nat} {R R':V→Prop} (f:∀v,R v→R' v):getSt σ i R→getSt σ i R':=by
  induction σ generalizing i with
  | nil=>exact fun h=>h.elim
  | cons o σ ih=>
    cases i with
    | zero=>cases o with
      | none=>exact fun h=>h.elim
      | some v=>exact f v
    | succ n=>exact ih
theorem isInt.imp {x:V} {R R':Int→Prop} (f:∀v,R v→R' v):isInt x R→isInt x R':=by cases x <;> first | exact f _ | exact fun h=>h.elim
theorem isRef.imp {x:V} {R R':Addr→Prop} (f:∀v,R v→R' v):isRef x R→isRef x R':=by cases x <;> first | exact f _ | exact fun h=>h.elim
theorem isBl.imp {x:V} {R R':Bool→Prop} (f:∀v,R v→R' v):isBl x R→isBl x R':=by cases x <;> first | exact f _ | exact fun h=>h.elim
theorem fmono_ltlen {K:PySem.W.Frag} {g:Int→Int→V} {i j:Nat}:∀(σ:St) (H:Hp) (Q Q':Bool→Hp→Prop),(∀(b:Bool) (H1:Hp),Q b H1→Q' b H1)→fTest (tOp (fI0 g) (fVar i) (tCB (fLenQ K) (tCons (fVar j) tNil))) σ H Q→fTest (tOp (fI0 g) (fVar i) (tCB (fLenQ K) (tCons (fVar j) tNil))) σ H Q':=
  fun _ _ _ _ f h=>getSt.imp (fun _ h=>getSt.imp (fun _ h=>isRef.imp (fun _ ⟨ys,h1,h2⟩=>⟨ys,h1,isInt.imp (fun _ h=>isInt.imp (fun _ h=>isBl.imp (fun _ h=>f _ _ h) h) h) h2⟩) h) h) h
theorem Fun.okL {P:Program} {w:World} {K:PySem.W.Frag} {mg:Str→Option Value} {base:Heap} {x qual:Str} {st:Stmt} {f:Addr} {fd:FuncData} {N ps:List Str} {k:Nat} {sp:Sp} (F:Fun K x qual st f fd) (S:FnScope N ps (defScope st)) (len:∀vs H Q E,sp vs H Q E→vs.length=ps.length)
    (hbody:∀(cdv:Value) (A:Around) (outer:List Env) (s:Shared) (H:Hp) (vs:List V) (Q:VK) (E:XK),Room k (A.deeper (envOfC qual (defScope st) s.heap.objs.size f cdv))→sp vs H Q E→
      ∃t,PSs (cxOf CX0 P w K mg base N qual (defScope st) f cdv A outer s H E).nox (defBody st) t∧t {nx:=fun _ H'=>Q .non H',rt:=Q} (startL N vs) H):FnOk P w K mg base CX0 (k+1) f fd ps sp:=by
  refine F.ok S len fun cdv A outer s H vs Q E hr h=>?_
  obtain ⟨t,h1,h2⟩:=hbody cdv A outer s H vs Q E hr h
  refine ⟨t,h1,?_⟩
  have hl:=len _ _ _ _ h
  have hp:ps.length≤N.length:=by have:=congrArg List.length S.pre;rw [List.length_take] at this;omega
  rw [startL_eq N vs (by omega)] at h2
  exact h2
end L2
namespace L2
open PySem
def bfsIn (T:List Stp) (h:Str) (wh:List Nat) (R:BR):BR:=T.foldl (fun R s=>if s.2.1=h∧¬s.2.2∈R.map (·.1) then R++[(s.2.2,wh++[s.1])] else R) R
def bfsN (S:List Stp) (a:Str):Nat→BR
  | 0=>[(a,[])]
  | n+1=>match (bfsN S a n)[n]? with
    | some x=>bfsIn S x.1 x.2 (bfsN S a n)
    | none=>bfsN S a n
theorem bfsIn_snoc (T:List Stp) (s:Stp) (h:Str) (wh:List Nat) (R:BR):bfsIn (T++[s]) h wh R=if s.2.1=h∧¬s.2.2∈(bfsIn T h wh R).map (·.1) then bfsIn T h wh R++[(s.2.2,wh++[s.1])] else bfsIn T h wh R:=by
  unfold bfsIn
  rw [List.foldl_append]
  rfl
theorem bfsN_next {S:List Stp} {a:Str} {n:Nat} {h:Str} {wh:List Nat} (e:(bfsN S a n)[n]? = some (h,wh)):bfsN S a (n+1)=bfsIn S h wh (bfsN S a n):=by
  show (match (bfsN S a n)[n]? with | some x=>bfsIn S x.1 x.2 (bfsN S a n) | none=>bfsN S a n)=_
  rw [e]
def BfsF (S:List Stp) (a:Str) (R:BR):Prop:=bfsN S a R.length=R
def WaysNew (H:Hp) (kvs:List (Key×V)):Prop:=∀kv∈kvs,∀p,kv.2 = .ref p→H p=none
theorem WaysNew.snoc {H:Hp} {kvs:List (Key×V)} (h:WaysNew H kvs) {k:Key} {p:Addr} (hp:H p=none):WaysNew H (kvs++[(k,.ref p)]):=by
  intro kv hkv q hq
  rcases List.mem_append.mp hkv with z | z
  ·exact h kv z q hq
  · simp at z
    subst z
    cases hq
    exact hp
def Dist (S:List Stp) (a:Str) (y:Str) (k:Nat):Prop:=Walk S a k y∧∀j,Walk S a j y→k≤j
theorem Dist.uniq {S:List Stp} {a y:Str} {k j:Nat} (h:Dist S a y k) (h':Dist S a y j):k=j:=Nat.le_antisymm (h.2 _ h'.1) (h'.2 _ h.1)
theorem Dist.of {S:List Stp} {a y:Str} {k:Nat} (h:Walk S a k y):∃j,j≤k∧Dist S a y j:=by
  induction k using Nat.strongRecOn with
  | ind k ih=>
    by_cases q:∃j,j<k∧Walk S a j y
    · obtain ⟨j,hj,hw⟩:=q
      obtain ⟨i,hi,hd⟩:=ih j hj hw
      exact ⟨i,by omega,hd⟩
    · exact ⟨k,Nat.le_refl _,h,fun j hj=>by
        by_cases z:j<k
        ·exact absurd ⟨j,z,hj⟩ q
        ·omega⟩
theorem Dist.prev {S:List Stp} {a y:Str} {k:Nat} (h:Dist S a y (k+1)):∃n b,(n,b,y)∈S∧Dist S a b k:=by
  obtain ⟨hw,hm⟩:=h
  cases hw with
  | snoc hb hs=>
    refine ⟨_,_,hs,hb,fun j hj=>?_⟩
    have:=hm _ (.snoc hj hs)
    omega
theorem Dist.row {S:List Stp} {a:Str}:∀{k:Nat} {y:Str},Dist S a y k→∃vs:List Str,vs.length=k+1∧∀(i:Nat) v,vs[i]? = some v→Dist S a v i
  | 0,y,h=>⟨[y],rfl,fun i v e=>by
      have hi:i=0:=by have:=(List.getElem?_eq_some_iff.mp e).1;simp at this;omega
      subst hi
      simp at e
      subst e
      exact h⟩
  | k+1,y,h=>by
    obtain ⟨n,b,hs,hb⟩:=h.prev
    obtain ⟨vs,hl,hv⟩:=Dist.row hb
    refine ⟨vs++[y],by simp [hl],fun i v e=>?_⟩
    by_cases hi:i<vs.length
    · rw [List.getElem?_append_left hi] at e
      exact hv i v e
    · rw [List.getElem?_append_right (by omega)] at e
      have hz:i - vs.length=0:=by have:=(List.getElem?_eq_some_iff.mp e).1;simp at this;omega
      rw [hz] at e
      simp at e
      subst e
      have:i=k+1:=by omega
      subst this
      exact h
theorem Walk.in {S:List Stp} {a y:Str} {k:Nat} (h:Walk S a k y) {xs:List Str} (ha:a∈xs) (hS:∀s∈S,s.2.2∈xs):y∈xs:=by
  cases h with
  | nil=>exact ha
  | snoc _ hs=>exact hS _ hs
theorem Dist.zero {S:List Stp} {a y:Str}:Dist S a y 0↔y=a:=by
  constructor
  · rintro ⟨h,_⟩
    cases h
    rfl
  · rintro rfl
    exact ⟨.nil,fun _ _=>Nat.zero_le _⟩
theorem Dist.next {S:List Stp} {a y:Str} {t:Nat} (hn:¬∃k,k≤t∧Dist S a y k):Dist S a y (t+1)↔∃s∈S,Dist S a s.2.1 t∧s.2.2=y:=by
  constructor
  · intro h
    obtain ⟨n,b,hs,hb⟩:=h.prev
    exact ⟨_,hs,hb,rfl⟩
  · rintro ⟨⟨n,b,c⟩,hs,hb,rfl⟩
    have hw:Walk S a (t+1) c:=.snoc hb.1 hs
    obtain ⟨j,hj,hd⟩:=Dist.of hw
    by_cases z:j≤t
    ·exact absurd ⟨j,z,hd⟩ hn
    · have:j=t+1:=by omega
      subst this
      exact hd
def DictN (kvs:List (Key×V)) (D:Str→Option Nat):Prop:=∀y,valV kvs (Sum.inr y)=(D y).map fun k:Nat=>V.int k
theorem DictN.put {kvs:List (Key×V)} {D:Str→Option Nat} (h:DictN kvs D) {g:Str} {k:Nat} (hg:D g=none):DictN (kvs++[(Sum.inr g,.int k)]) (fun y=>if y=g then some k else D y):=by
  intro y
  have hn:valV kvs (Sum.inr g:Key)=none:=by rw [h g,hg];rfl
  rw [valV_snoc (Sum.inr g:Key) (Sum.inr y) (V.int k) kvs hn]
  by_cases z:y=g
  · subst z
    simp
  · have:¬((Sum.inr y:Key)=Sum.inr g):=fun q=>z (Sum.inr.inj q)
    rw [if_neg this,h y]
    show _=Option.map _ (if y=g then some k else D y)
    rw [if_neg z]
theorem Bfs.dist {S:List Stp} {a:Str} {R:BR} (b:Bfs S a R.length R) {y:Str} {w:List Nat} (h:(y,w)∈R):Dist S a y w.length:=by
  obtain ⟨vs,hp,_⟩:=b.pth y w h
  refine ⟨hp.walk,fun j hj=>?_⟩
  obtain ⟨u,hu,hl⟩:=b.all hj
  have:u=w:=by
    have nd:=b.nd
    obtain ⟨i,hi,e1⟩:=List.getElem_of_mem h
    obtain ⟨j,hj,e2⟩:=List.getElem_of_mem hu
    have:i=j:=by
      have e3:(R.map (·.1))[i]'(by simpa using hi)=(R.map (·.1))[j]'(by simpa using hj):=by simp [e1,e2]
      exact (List.getElem_inj nd).mp e3
    subst this
    rw [e1] at e2
    cases e2
    rfl
  subst this
  exact hl
def midD (D0:Str→Option Nat) (i:Nat) (last:List Str) (T:List Stp) (y:Str):Option Nat:=
  match D0 y with
  | some k=>some k
  | none=>if (T.any fun s=>decide (s.2.1∈last) && decide (s.2.2=y))=true then some (i+1) else none
def anyT (last:List Str) (T:List Stp) (y:Str):Bool:=T.any fun s=>decide (s.2.1∈last) && decide (s.2.2=y)
theorem anyT_snoc (last:List Str) (T:List Stp) (s:Stp) (y:Str):anyT last (T++[s]) y=(anyT last T y || (decide (s.2.1∈last) && decide (s.2.2=y))):=by
  unfold anyT
  rw [List.any_append]
  simp
theorem midD_some {D0:Str→Option Nat} {i:Nat} {last:List Str} {T:List Stp} {y:Str} {k:Nat} (e:D0 y=some k):midD D0 i last T y=some k:=by
  unfold midD
  rw [e]
theorem midD_none {D0:Str→Option Nat} {i:Nat} {last:List Str} {T:List Stp} {y:Str} (e:D0 y=none):midD D0 i last T y=if anyT last T y=true then some (i+1) else none:=by
  unfold midD
  rw [e]
  rfl
theorem midD_end {D0:Str→Option Nat} {i:Nat} {S:List Stp} {x:Str} {xs last:List Str} (h:∀y k,D0 y=some k↔Dist S x y k∧k≤i) (hl:∀y,y∈last↔y∈xs∧D0 y=some i) (hx:x∈xs) (hS:∀s∈S,s.2.2∈xs) (y:Str) (k:Nat):midD D0 i last S y=some k↔Dist S x y k∧k≤i+1:=by
  unfold midD
  cases e:D0 y with
  | some j=>
    have hj:=(h y j).mp e
    constructor
    · intro z
      cases z
      exact ⟨hj.1,by omega⟩
    · rintro ⟨z,_⟩
      rw [z.uniq hj.1]
  | none=>
    have hn:¬∃k,k≤i∧Dist S x y k:=fun ⟨k,hk,hd⟩=>by
      rw [(h y k).mpr ⟨hd,hk⟩] at e
      cases e
    have key:(S.any fun s=>decide (s.2.1∈last) && decide (s.2.2=y))=true↔Dist S x y (i+1):=by
      rw [Dist.next hn,List.any_eq_true]
      constructor
      · rintro ⟨s,hs,z⟩
        simp at z
        exact ⟨s,hs,((h _ _).mp ((hl _).mp z.1).2).1,z.2⟩
      · rintro ⟨s,hs,z1,z2⟩
        refine ⟨s,hs,?_⟩
        have h1:s.2.1∈xs:=z1.1.in hx hS
        have h2:s.2.1∈last:=(hl _).mpr ⟨h1,(h _ _).mpr ⟨z1,Nat.le_refl _⟩⟩
        simp [h2,z2]
    constructor
    · intro z
      by_cases q:(S.any fun s=>decide (s.2.1∈last) && decide (s.2.2=y))=true
      · have z:(if (S.any fun s=>decide (s.2.1∈last) && decide (s.2.2=y))=true then some (i+1) else none)=some k:=z
        rw [if_pos q] at z
        cases z
        exact ⟨key.mp q,Nat.le_refl _⟩
      · have z:(if (S.any fun s=>decide (s.2.1∈last) && decide (s.2.2=y))=true then some (i+1) else none)=some k:=z
        rw [if_neg q] at z
        cases z
    · rintro ⟨z,hk⟩
      have:k=i+1:=by
        by_cases q:k≤i
        ·exact absurd ⟨k,q,z⟩ hn
        ·omega
      subst this
      show (if _ then _ else _)=_
      rw [if_pos (key.mpr z)]
def ClosedS (S:List Stp) (f:List Str):Prop:=∀s∈S,s.2.1∈f→s.2.2∈f
structure Rch (S:List Stp) (x:Str) (f:List Str):Prop where
  st:x∈f
  nd:f.Nodup
  rt:∀y∈f,RT (Along S) x y
structure RchMid (S T:List Stp) (x:Str) (f0 f:List Str):Prop where
  r0:f0.Nodup
  r:Rch S x f
  sub:∀y∈f0,y∈f
  le:f0.length≤f.length
  md:∀s∈T,s.2.1∈f0→s.2.2∈f
  cl:ClosedS S f0→f=f0
theorem zpos {m:Nat} (h:1≤m):(0:Int)<m:=by omega
theorem zlt {m b:Nat} {c:Int} (h:m≤b) (hb:(b:Int)<c):(m:Int)<c:=by omega
theorem zlo {f:Int} (h:0≤f) : -4611686018427387904≤f:=by omega
theorem zhi {f c:Int} (h:f<c) (hc:c≤4611686018427387904):f<4611686018427387904:=Int.lt_of_lt_of_le h hc
theorem zloN {f:Nat} : -4611686018427387904≤(f:Int):=by omega
theorem ztn {d:Int} {m b:Nat} (h0:0≤d) (h:d<m) (hb:m≤b):d.toNat+1≤b:=by omega
theorem zmax {d:Int} (h:0≤d) (c:Int):c+d=max d 0+c:=by omega
theorem zsz {a b:Nat} (h:a<b) (hb:b≤20):a<sizeLine:=Nat.lt_of_lt_of_le h (Nat.le_trans hb (of_eq_true sz20))
theorem zsz' {a b:Nat} (h:a≤b) (hb:b≤20):a≤sizeLine:=Nat.le_trans h (Nat.le_trans hb (of_eq_true sz20))
theorem z01 {d:Int} (h:0≤d) (h2:d<2):d=0∨d=1:=by omega
theorem z2 {n:Nat} (h:(1:Int)<n):2≤n:=by omega
theorem zk1 {k t:Nat} (h:t≤k):(0:Int)<k - t+1:=by omega
theorem zk2 {k t:Nat} {c:Int} (h:k≤20) (hc:21<c):(k:Int) - t+1<c:=by omega
theorem zk3 {f:Int} {k t p:Nat} (h0:0≤f) (h:f<k - t+1) (e:t=p):p+f.toNat≤k+0:=by omega
theorem zk4 {t p f k i:Nat} (e:t=p) (h:p+f≤k+i) (hi:i<f) (hk:k≤20):t<sizeLine:=by
  have:=of_eq_true sz20
  omega
theorem zk5 {p f k i:Nat} (h:p+f≤k+i) (hi:i<f) (hk:k≤20):p≤19:=by omega
theorem zk6 {p f k i:Nat} (h:p+f≤k+i):p+1+f≤k+(i+1):=by omega
theorem zk7 {p f k:Nat} (h:p+f≤k+f):p≤k:=Nat.le_of_add_le_add_right h
theorem zsub {lo i n:Nat} (h:i<n - lo):lo+i<n:=by omega
theorem zn1 {b i:Nat}:0≤((b:Int)+5 * i) % 26:=by omega
theorem zn2 {b i:Nat}:((b:Int)+5 * i) % 26<26:=by omega
theorem zn3 {b i c:Nat} (h:((b:Int)+5 * i) % 26=c):c=(b+5 * i) % 26:=by omega
theorem zn4 {j y:Nat} {e:Int} (h:j<e.toNat) (he:e<4) (hy:y=j):y<sizeLine:=by
  have:=of_eq_true sz20
  omega
theorem zn5 {y:Nat} {e:Int} (h:y=e.toNat) (he:e<4):y+y * 0≤16777216:=by omega
theorem zn6 {y:Nat} {e:Int} (h:y=e.toNat) (he:e<4):1+y≤4:=by omega
theorem zn7 {i j w b:Nat} (hi:i<w) (hj:j<w) (hij:i<j) (hw:w≤9) (z:(b+5 * j) % 26=(b+5 * i) % 26):False:=by omega
theorem zn8 {j w:Nat} (h:¬j<w) (h2:j - w=0):j=w:=by omega
theorem zpa (c:Int):0≤if 1000000000000000000<c then c - 1000000000000000000 else 0:=by split <;> omega
theorem zpb (c:Int) (k:Nat):0≤c % 2147483629+977 * (k:Int)+1:=by omega
theorem zpc (c:Int) {k:Nat} (h:k<100):c % 2147483629+977 * (k:Int)+1<4294967296:=by omega
theorem zs1 {s i t p:Nat} (h:s≤2 * i+1) (hi:i<t) (e:t=p) (hp:p≤20):s<sizeLine:=by
  have:60<sizeLine:=by decide
  omega
theorem zs2 {s i:Nat} (h:s≤2 * i+1):s+1≤2 * (i+1):=by omega
theorem zs3 {s t p:Nat} (h:s≤2 * t) (e:t=p) (hp:p≤20):s≤40:=by omega
end L2
namespace L2
open PySem PySem.Spec PyProof.Rows
mutual
def Thg (H:Hp):PyData→V→Prop
  | .none,v=>v = .non
  | .bool b,v=>v = .bl b
  | .int i,v=>v = .int i
  | .str x,v=>v = .str x
  | .list ds,v=>∃a xs,v = .ref a∧H a=some (.lst xs)∧ThgAll H ds xs
  | .tuple ds,v=>∃a xs,v = .ref a∧H a=some (.tup xs)∧ThgAll H ds xs
  | .dict kvs,v=>kvs=[]∧∃a,v = .ref a∧H a=some (.dK [])
def ThgAll (H:Hp):List PyData→List V→Prop
  | [],vs=>vs=[]
  | d::ds,vs=>∃v r,vs=v::r∧Thg H d v∧ThgAll H ds r
end
def hid (p:Addr) (H:Hp):Hp:=fun b=>if b=p then none else H b
theorem hid_same {p:Addr} {H:Hp}:Same (hid p H) H:=fun b o e=>by
  unfold hid at e
  split at e
  ·cases e
  ·exact e
theorem hid_but {p:Addr} {H H':Hp} (s:But p H H'):Same (hid p H) (hid p H'):=fun b o e=>by
  unfold hid at e ⊢
  split at e
  ·cases e
  · rename_i h
    rw [if_neg h]
    exact s b o h e
theorem hid_keep {p:Addr} {H H':Hp} (s:Same H H'):Same (hid p H) (hid p H'):=hid_but fun b o _ e=>s b o e
theorem hid_at {p b:Addr} {H:Hp} {o:HO} (h:b≠p) (e:H b=some o):hid p H b=some o:=by
  unfold hid
  rw [if_neg h]
  exact e
section
variable {X:Cx} {pins:List (Addr×Obj)} {σ:St} {H:Hp} {s:Shared} {K:PySem.W.Frag}
theorem dict_reads {P:Program} {w:World} {h:Heap} {a:Addr} (ok:HOk P w H h) (e:H a=some (.dK [])):Reads h (.ref a) (.dict []) [a]∧(a == sysModules)=false:=by
  obtain ⟨_,hd,vs,kv,o,es,ep,h1,h2,h3,_,h5,_⟩:=dk_of ok e
  refine ⟨?_,hd⟩
  have ev:vs=[]:=by cases kv;rfl
  subst ev
  have el:es.toList=[]:=by
    generalize es.toList=l at h5
    cases h5
    rfl
  have:=Reads.dict (kvs:=[]) (as:=[]) (bs:=[]) h1 h2.1 h3 (by rw [el];exact .nil) (by rw [el];exact .nil)
  exact this
mutual
theorem Thg.reads (I:Inv X pins σ H s):∀(d:PyData) (v:V) (u:Value),Thg H d v→RelV v u→∃as,Reads s.heap u d as
  | .none,v,u,h,r=>by
    simp only [Thg] at h;subst h;cases r;exact ⟨_,.none⟩
  | .bool b,v,u,h,r=>by
    simp only [Thg] at h;subst h;cases r;exact ⟨_,.bool b⟩
  | .int i,v,u,h,r=>by
    simp only [Thg] at h;subst h;obtain ⟨t,rfl⟩:=r;exact ⟨_,.int i t⟩
  | .str x,v,u,h,r=>by
    simp only [Thg] at h;subst h;obtain ⟨t,rfl⟩:=r;exact ⟨_,.str x t⟩
  | .list ds,v,u,h,r=>by
    simp only [Thg] at h
    obtain ⟨a,xs,rfl,hq,hs⟩:=h
    cases r
    obtain ⟨its,rv,pl,hz⟩:=I.list (SqL.of hq)
    obtain ⟨o,e,c,n,dt⟩:=pl.isList
    obtain ⟨as,ra⟩:=ThgAll.reads I ds xs its hs rv
    exact ⟨_,.list e c dt (by simpa using ra)⟩
  | .tuple ds,v,u,h,r=>by
    simp only [Thg] at h
    obtain ⟨a,xs,rfl,hq,hs⟩:=h
    cases r
    obtain ⟨its,rv,pl,hz⟩:=I.tuple (SqT.of hq)
    obtain ⟨o,e,c,n,dt⟩:=pl
    obtain ⟨as,ra⟩:=ThgAll.reads I ds xs its hs rv
    exact ⟨_,.tuple e c dt (by simpa using ra)⟩
  | .dict kvs,v,u,h,r=>by
    simp only [Thg] at h
    obtain ⟨rfl,a,rfl,h1⟩:=h
    cases r
    exact ⟨_,(dict_reads I.hok h1).1⟩
theorem ThgAll.reads (I:Inv X pins σ H s):∀(ds:List PyData) (vs:List V) (us:List Value),ThgAll H ds vs→Vals vs us→∃as,ReadsAll s.heap us ds as
  | [],vs,us,h,r=>by
    simp only [ThgAll] at h;subst h;cases r;exact ⟨_,.nil⟩
  | d::ds,vs,us,h,r=>by
    simp only [ThgAll] at h
    obtain ⟨v,vr,rfl,h1,h2⟩:=h
    cases r with
    | cons r1 r2=>
      obtain ⟨as,ra⟩:=Thg.reads I d v _ h1 r1
      obtain ⟨bs,rb⟩:=ThgAll.reads I ds vr _ h2 r2
      exact ⟨_,.cons ra rb⟩
end
def PyData.lone (d:PyData):Prop:=d.hasDict=false∨d = .dict []
def Flat (d:PyData):Prop:=PyData.lone d∨∃ds,d = .list ds∧∀c∈ds,PyData.lone c
theorem Thg.reprK (I:Inv X pins σ H s) {d:PyData} {v:V} {u:Value} (h:Thg H d v) (r:RelV v u) (hl:PyData.lone d) (hs:d.showable=true) (hz:d.shown.length≤sizeLine) :
    ∃bs,ReadAtMost s.heap d.depth bs∧ReprK X.prog X.w bs s.heap d.depth u d.shown:=by
  rcases hl with hl | rfl
  · obtain ⟨as,ra⟩:=Thg.reads I d v u h r
    exact ReprK.of_reads ra hs (PyData.noDict_hsm hl) hz
  · simp only [Thg] at h
    obtain ⟨_,a,rfl,h1⟩:=h
    cases r
    obtain ⟨ra,hd⟩:=dict_reads I.hok h1
    refine ReprK.of_reads ra hs (fun _ hm=>?_) hz
    rw [List.mem_singleton] at hm
    rw [← hm] at hd
    simp at hd
theorem ThgAll.reprK (I:Inv X pins σ H s):∀{ds:List PyData} {vs:List V} {us:List Value},ThgAll H ds vs→Vals vs us→(∀c∈ds,PyData.lone c)→PyData.showableAll ds=true→(∀t∈PyData.shownAll ds,t.length≤sizeLine)→
    ∃bs,ReadAtMost s.heap (PyData.depthAll ds) bs∧ReprAllK X.prog X.w bs s.heap (PyData.depthAll ds) us (PyData.shownAll ds)
  | [],vs,us,h,r,_,_,_=>by
    simp only [ThgAll] at h;subst h;cases r
    exact ⟨[],(fun _ h=>nomatch h),.nil⟩
  | d::ds,vs,us,h,r,hl,hs,hz=>by
    simp only [ThgAll] at h
    obtain ⟨v,vr,rfl,h1,h2⟩:=h
    simp only [PyData.showableAll,Bool.and_eq_true] at hs
    simp only [PyData.shownAll,List.mem_cons,forall_eq_or_imp] at hz
    cases r with
    | cons r1 r2=>
      obtain ⟨b1,m1,k1⟩:=Thg.reprK I h1 r1 (hl d List.mem_cons_self) hs.1 hz.1
      obtain ⟨b2,m2,k2⟩:=ThgAll.reprK I h2 r2 (fun c hc=>hl c (List.mem_cons_of_mem _ hc)) hs.2 hz.2
      refine ⟨b1++b2,(m1.mono ?_).append (m2.mono ?_),?_⟩
      ·simp only [PyData.depthAll];exact Nat.le_max_left ..
      ·simp only [PyData.depthAll];exact Nat.le_max_right ..
      · simp only [PyData.shownAll]
        refine .cons ((k1.more fun b hb=>List.mem_append_left _ hb).level_le ?_) (k2.more_le (fun b hb=>List.mem_append_right _ hb) ?_)
        ·simp only [PyData.depthAll];exact Nat.le_max_left ..
        ·simp only [PyData.depthAll];exact Nat.le_max_right ..
def fReprF:List V→Hp→VK→Prop:=fun xs H Q=>ar1 xs fun v=>∃d:PyData,Thg H d v∧Flat d∧d.showable=true∧d.depth≤32∧d.shown.length≤sizeLine∧Q (.str d.shown) H
@[simp ↓] theorem fReprF_w xs H Q:fReprF xs H Q=(ar1 xs fun v=>∃d:PyData,Thg H d v∧Flat d∧d.showable=true∧d.depth≤32∧d.shown.length≤sizeLine∧Q (.str d.shown) H):=rfl
theorem fReprF_t {xs H Q} (h:fReprF xs H Q):∃(v:V) (d:PyData),xs=[v]∧Thg H d v∧Flat d∧d.showable=true∧d.depth≤32∧d.shown.length≤sizeLine∧Q (.str d.shown) H:=by
  unfold fReprF ar1 at h
  split at h
  · obtain ⟨d,q⟩:=h
    exact ⟨_,d,rfl,q⟩
  ·exact h.elim
theorem fcall_reprF (hg:X.A.guards=some []) (hu:X.A.units+64<cLine):CallR X (.builtin "repr") fReprF:=by
  intro pins s σ H xs us Q I r h
  obtain ⟨v,d,rfl,hi,hf,hs,hd,hz,q⟩:=fReprF_t h
  obtain ⟨u,rfl,ru⟩:=r.one
  have viaRef:PyData.lone d→∀a:Addr,u = .ref a→wpAny (model X.prog X.w) X.A (call (.builtin "repr") [u]) (EP X pins σ Q) X.xe s:=by
    rintro hl a rfl
    have done:∀as,Reads s.heap (.ref a) d as→(d.hasDict=true→sysModules∉as)→wpAny (model X.prog X.w) X.A (call (.builtin "repr") [.ref a]) (EP X pins σ Q) X.xe s:=fun as rd hm=>
      repr_of_reads' (h₀:=s.heap) rd hs hm hg (by omega) (fun _ _ e=>e) (fun h' u tk hk=>⟨.str _,H,I.kept (t':=tk) hk,⟨u,rfl⟩,q⟩) hz
    rcases hl with hl | rfl
    · obtain ⟨as,rd⟩:=Thg.reads I d v (.ref a) hi ru
      exact done as rd (PyData.noDict_hsm hl)
    · simp only [Thg] at hi
      obtain ⟨_,b,rfl,h1⟩:=hi
      cases ru
      obtain ⟨ra,hd⟩:=dict_reads I.hok h1
      refine done _ ra fun _ hm=>?_
      rw [List.mem_singleton] at hm
      rw [← hm] at hd
      simp at hd
  rcases hf with hl | ⟨ds,rfl,hc⟩
  · cases d with
    | none=>
      simp only [Thg] at hi;subst hi;cases ru
      exact PySem.P.repr_of_none ⟨.str _,H,I.tok _,⟨_,rfl⟩,by simpa only [PyData.shown] using q⟩
    | bool b=>
      simp only [Thg] at hi;subst hi;cases ru
      exact PySem.P.repr_of_bool ⟨.str _,H,I.tok _,⟨_,rfl⟩,by simpa only [PyData.shown] using q⟩
    | int i=>
      simp only [Thg] at hi;subst hi;obtain ⟨t,rfl⟩:=ru
      exact PySem.P.repr_of_int (by simpa [PyData.showable] using hs) ⟨.str _,H,I.tok _,⟨_,rfl⟩,by simpa only [PyData.shown] using q⟩
    | str x=>
      simp only [Thg] at hi;subst hi;obtain ⟨t,rfl⟩:=ru
      exact PySem.P.repr_of_str ⟨.str _,H,I.tok _,⟨_,rfl⟩,by simpa only [PyData.shown] using q⟩ (by simpa only [PyData.shown] using hz)
    | list ds=>simp only [Thg] at hi;obtain ⟨a,_,rfl,_⟩:=id hi;exact viaRef hl a (by cases ru;rfl)
    | tuple ds=>simp only [Thg] at hi;obtain ⟨a,_,rfl,_⟩:=id hi;exact viaRef hl a (by cases ru;rfl)
    | dict kvs=>simp only [Thg] at hi;obtain ⟨_,a,rfl,_⟩:=id hi;exact viaRef hl a (by cases ru;rfl)
  · have hi0:=hi
    simp only [Thg] at hi
    obtain ⟨a,xs,rfl,hq,hall⟩:=hi
    cases ru
    obtain ⟨its,rv,pl,hzz⟩:=I.list (SqL.of hq)
    obtain ⟨o,e,c,n,dt⟩:=pl.isList
    have hzL:(listText (PyData.shownAll ds)).length≤sizeLine:=by simpa only [PyData.shown] using hz
    obtain ⟨as,ra⟩:=Thg.reads I (.list ds) (.ref a) (.ref a) hi0 rfl
    obtain ⟨bs,mb,kb⟩:=ThgAll.reprK I hall rv hc (by simpa [PyData.showable] using hs) (fun t ht=>Nat.le_trans (listText_mem_le ht) hzL)
    have nab:a∉bs:=not_mem_of_deeper ra (by simp only [PyData.depth];exact Nat.lt_succ_self _) mb
    simp only [PyData.depth] at hd
    simp only [PyData.shown] at q
    refine call_repr_slot (by omega) ⟨o,e,c⟩ F.slot_list_repr.toG ?_
    cases its with
    | nil=>
      cases rv
      have e2:ds=[]:=by
        cases ds with
        | nil=>rfl
        | cons d ds=>simp only [ThgAll] at hall;obtain ⟨_,_,z,_⟩:=hall;cases z
      subst e2
      simp only [PyData.shownAll,listText_nil] at q
      exact call_list_repr_empty ⟨o,e,c⟩ e dt ⟨_,_,rfl,.str _,H,I.tok _,⟨_,rfl⟩,q⟩
    | cons x l=>
      refine call_list_reprK e c dt nab (by simpa using kb.length_eq) (fun i y z=>kb.item i y (by simpa using z)) hg (fun b _=>Clear.nil b) ?_ (fun _ _ z=>z) (fun h' u tk hk=>⟨_,_,rfl,.str _,H,I.kept (t':=tk) hk,⟨u,rfl⟩,q⟩) hzL
      show X.A.units+1+_<_
      omega
end
structure ExcIn (h0 h:Heap) (H:Hp) (a C:Addr) (od:Option Addr):Prop where
  new:h0.get? a=none
  un:H a=none
  ob:∃oe vs,h.get? a=some oe∧(oe.cls,oe.dict)=(Value.ref C,od)∧oe.data = .fields vs∧vs[2]? = some .none∧(vs[1]? = some .none∨
    ∃T oT ts,vs[1]? = some (.ref T)∧T≠a∧h0.get? T=none∧H T=none∧h.get? T=some oT∧oT.data = .fields ts∧ts[3]? = some .none)
structure ExcT (h0 h:Heap) (H:Hp) (a C:Addr) (od:Option Addr) (T:Addr):Prop where
  new:h0.get? a=none
  newT:h0.get? T=none
  un:H a=none
  unT:H T=none
  ob:∃oe vs oT ts,h.get? a=some oe∧(oe.cls,oe.dict)=(Value.ref C,od)∧oe.data = .fields vs∧vs[2]? = some .none∧vs[1]? = some (.ref T)∧T≠a∧h.get? T=some oT∧oT.data = .fields ts∧ts[3]? = some .none
section
variable {X:Cx} {pins:List (Addr×Obj)} {σ:St} {H:Hp} {s:Shared}
abbrev veMro:List Value:=[.type "ValueError",.type "Exception",.type "BaseException",.type "object"]
def ExcCls (K:PySem.W.Frag) (C:Addr):Prop:=PySem.W.excIn K C veMro "ValueError.__new__" = true
end
end L2
namespace L2
open PySem PySem.Spec PySem.W PyProof.Rows
section
variable {prog:Program} {w:World} {A:Around} {E:Value→Shared→Prop} {K:PySem.W.Frag} {h:Heap} {g:Array GenState} {d:Drawn} {t:Nat} {os:OsState} {x C:Addr}
end
end L2
namespace L2
open PySem PySem.Spec PyProof.Rows
section
variable {X:Cx} {pins:List (Addr×Obj)} {σ:St} {H:Hp} {s:Shared}
end
section
variable {X:Cx} {pins:List (Addr×Obj)} {σ:St} {H:Hp} {s:Shared} {a:Addr}
end
inductive Lf:V→PyData→Prop
  | non:Lf .non .none
  | bl (b):Lf (.bl b) (.bool b)
  | int (i):Lf (.int i) (.int i)
  | str (x):Lf (.str x) (.str x)
inductive LfAll:List (Str×V)→List (PyData×PyData)→Prop
  | nil:LfAll [] []
  | cons {x v d ks kvs}:Lf v d→LfAll ks kvs→LfAll ((x,v)::ks) ((.str x,d)::kvs)
section
variable {X:Cx} {pins:List (Addr×Obj)} {σ:St} {H:Hp} {s:Shared}
theorem Lf.reads {v:V} {d:PyData} {u:Value} {h:Heap} (l:Lf v d) (r:RelV v u):Reads h u d []:=by
  cases l with
  | non=>cases r;exact .none
  | bl b=>cases r;exact .bool b
  | int i=>obtain ⟨t,rfl⟩:=r;exact .int i t
  | str x=>obtain ⟨t,rfl⟩:=r;exact .str x t
theorem lf_reads {P:Program} {w:World} {h:Heap}:∀{ks:List (Str×V)} {kvs:List (PyData×PyData)} {vs:List (Key×Value)} {es:List DictEntry},LfAll ks kvs→KV (ks.map fun e=>((Sum.inr e.1:Key),e.2)) vs→Pairs (mixKind P w) es vs→
    ReadsAll h (es.map (·.key)) (kvs.map (·.1)) []∧ReadsAll h (es.map (·.val)) (kvs.map (·.2)) []
  | _,_,_,_,.nil,kv,ps=>by
    cases kv
    cases ps
    exact ⟨.nil,.nil⟩
  | _,_,_,_,.cons l ls,kv,ps=>by
    cases kv with
    | cons r rs=>
      cases ps with
      | cons h1 h2 h3=>
        obtain ⟨i1,i2⟩:=lf_reads (h:=h) ls rs h3
        obtain ⟨r1,r2⟩:=r
        simp only at r1 r2
        rw [← r1] at h1
        rw [mixKind_is] at h1
        rcases keyIs_shape h1 with ⟨i,t,e,_⟩ | ⟨x,t,e,ek⟩
        ·cases e
        · cases e
          simp only [List.map_cons]
          rw [ek,h2]
          exact ⟨.cons (.str _ t) i1,.cons (l.reads r2) i2⟩
theorem dictS_reads {P:Program} {w:World} {h:Heap} {a:Addr} {ks:List (Str×V)} {kvs:List (PyData×PyData)} (ok:HOk P w H h) (l:LfAll ks kvs) (e:H a=some (.dK (ks.map fun e=>((Sum.inr e.1:Key),e.2)))):Reads h (.ref a) (.dict kvs) [a]∧(a == sysModules)=false:=by
  obtain ⟨_,hd,vs,kv,o,es,ep,h1,h2,h3,_,h5,_⟩:=dk_of ok e
  refine ⟨?_,hd⟩
  obtain ⟨r1,r2⟩:=lf_reads (h:=h) l kv h5
  exact Reads.dict (as:=[]) (bs:=[]) h1 h2.1 h3 r1 r2
inductive Shw (H:Hp):PyData→V→Prop
  | thg {d v}:Thg H d v→d.hasDict=false→Shw H d v
  | dic {a ks kvs}:LfAll ks kvs→H a=some (.dK (ks.map fun e=>((Sum.inr e.1:Key),e.2)))→Shw H (.dict kvs) (.ref a)
def fReprX:List V→Hp→VK→Prop:=fun xs H Q=>ar1 xs fun v=>∃d:PyData,Shw H d v∧d.showable=true∧d.depth≤32∧d.shown.length≤sizeLine∧Q (.str d.shown) H
@[simp ↓] theorem fReprX_w xs H Q:fReprX xs H Q=(ar1 xs fun v=>∃d:PyData,Shw H d v∧d.showable=true∧d.depth≤32∧d.shown.length≤sizeLine∧Q (.str d.shown) H):=rfl
theorem fcall_reprX (hg:X.A.guards=some []) (hu:X.A.units+64<cLine):CallR X (.builtin "repr") fReprX:=by
  intro pins s σ H xs us Q I r h
  obtain ⟨v,rfl,d,hs,h1,h2,h3,q⟩:=ar1.out h
  cases hs with
  | thg ht hd=>exact fcall_reprF hg hu pins s σ H [v] us Q I r (show fReprF [v] H Q from ⟨d,ht,.inl (.inl hd),h1,h2,h3,q⟩)
  | dic hl he=>
    rename_i a ks kvs
    obtain ⟨u,rfl,ru⟩:=r.one
    cases ru
    obtain ⟨ra,hd⟩:=dictS_reads I.hok hl he
    refine repr_of_reads' (h₀:=s.heap) ra h1 (fun _ hm=>?_) hg (by omega) (fun _ _ e=>e) (fun h' u tk hk=>⟨.str _,H,I.kept (t':=tk) hk,⟨u,rfl⟩,q⟩) h3
    rw [List.mem_singleton] at hm
    rw [← hm] at hd
    simp at hd
end
structure Sml (k n:Nat) (d:PyData):Prop where
  sh:d.showable=true
  dp:d.depth≤k
  ln:d.shown.length≤n
theorem Sml.mono {k n k' n':Nat} {d:PyData} (h:Sml k n d) (hk:k≤k') (hn:n≤n'):Sml k' n' d:=⟨h.sh,Nat.le_trans h.dp hk,Nat.le_trans h.ln hn⟩
theorem Sml.str {x:Str} {n:Nat} (hx:∀c∈x.cps.toList,c<16 ^ 8) (hn:10 * x.length+2≤n):Sml 0 n (.str x):=by
  refine ⟨rfl,Nat.le_of_eq rfl,?_⟩
  simp only [PyData.shown]
  exact Nat.le_trans (StrLaws.reprText_len x hx) hn
theorem FnOk.or {P:Program} {w:World} {K:PySem.W.Frag} {mg:Str→Option Value} {base:Heap} {CX:CXT} {k:Nat} {f:Addr} {fd:FuncData} {ps:List Str} {sp sp':Sp} (F:FnOk P w K mg base CX k f fd ps sp) (F':FnOk P w K mg base CX k f fd ps sp') :
    FnOk P w K mg base CX k f fd ps (fun vs H Q E=>sp vs H Q E∨sp' vs H Q E):=
  ⟨fun vs H Q E h=>h.elim (F.len vs H Q E) (F'.len vs H Q E),fun A outer s H args us vs Q E hr he hb hv h=>h.elim (F.run A outer s H args us vs Q E hr he hb hv) (F'.run A outer s H args us vs Q E hr he hb hv)⟩
section
variable {X:Cx} {K:PySem.W.Frag}
end
section
variable {X:Cx} {K:PySem.W.Frag}
end
def keyD:Key→PyData
  | .inl i=>.int i
  | .inr x=>.str x
inductive LfT:List (List Key×V)→List (PyData×PyData)→Prop
  | nil:LfT [] []
  | cons {k v d ks kvs}:Lf v d→LfT ks kvs→LfT ((k,v)::ks) ((.tuple (k.map keyD),d)::kvs)
def DicX (H:Hp) (a:Addr) (kvs:List (PyData×PyData)):Prop:=(∃ks,LfAll ks kvs∧H a=some (.dK (ks.map fun e=>((Sum.inr e.1:Key),e.2))))∨∃ks,LfT ks kvs∧H a=some (.dT ks)
theorem DicX.same {H H':Hp} {a:Addr} {kvs:List (PyData×PyData)} (s:Same H H') (h:DicX H a kvs):DicX H' a kvs:=by
  rcases h with ⟨ks,h1,h2⟩ | ⟨ks,h1,h2⟩
  ·exact .inl ⟨ks,h1,s _ _ h2⟩
  ·exact .inr ⟨ks,h1,s _ _ h2⟩
theorem keys_read {h:Heap}:∀{ks:List Key} {us:List Value},Vals (ks.map kV) us→ReadsAll h us (ks.map keyD) []
  | [],_,r=>by rw [List.map_nil] at r;cases r;exact .nil
  | k::ks,_,r=>by
    rw [List.map_cons] at r
    cases r with
    | cons r1 r2=>
      refine ReadsAll.cons (as:=[]) (bs:=[]) ?_ (keys_read r2)
      cases k with
      | inl i=>obtain ⟨t,rfl⟩:=r1;exact .int i t
      | inr x=>obtain ⟨t,rfl⟩:=r1;exact .str x t
theorem lfT_reads {P:Program} {w:World} {H:Hp} {h:Heap} (ok:HOk P w H h):∀{ks:List (List Key×V)} {kvs:List (PyData×PyData)} {xs:List (List Key×Addr×Value)},LfT ks kvs→KT H ks xs→
    ReadsAll h ((xs.map (entryOfKey (tupleKind (mixKind P w)))).map (·.key)) (kvs.map (·.1)) []∧ReadsAll h ((xs.map (entryOfKey (tupleKind (mixKind P w)))).map (·.val)) (kvs.map (·.2)) []
  | _,_,_,.nil,kt=>by
    cases kt
    exact ⟨.nil,.nil⟩
  | _,_,_,.cons (k:=k) l ls,kt=>by
    cases kt with
    | @cons _ q _ qs r rs=>
      obtain ⟨i1,i2⟩:=lfT_reads ok ls rs
      obtain ⟨r1,r2,r3⟩:=r
      simp only at r1 r2 r3
      obtain ⟨_,its,rv,o,h1,h2,n,h3⟩:=(show ObjOk P w H h _ (.tup _) from ok _ _ r2)
      simp only [List.map_cons]
      refine ⟨ReadsAll.cons (as:=[]) (bs:=[]) ?_ i1,ReadsAll.cons (as:=[]) (bs:=[]) ?_ i2⟩
      ·exact Reads.tuple h1 h2 h3 (by simpa using keys_read rv)
      ·exact l.reads r3
theorem dicX_reads {P:Program} {w:World} {H:Hp} {h:Heap} {a:Addr} {kvs:List (PyData×PyData)} (ok:HOk P w H h) (l:DicX H a kvs):Reads h (.ref a) (.dict kvs) [a]∧(a == sysModules)=false:=by
  rcases l with ⟨ks,h1,h2⟩ | ⟨ks,h1,h2⟩
  ·exact dictS_reads ok h1 h2
  · obtain ⟨_,hd,xs,kt,o,es,ep,q1,q2,q3,q4,q5,q6⟩:=dt_of ok h2
    obtain ⟨r1,r2⟩:=lfT_reads ok h1 kt
    rw [← q4] at r1 r2
    exact ⟨Reads.dict (as:=[]) (bs:=[]) q1 q2.1 q3 r1 r2,hd⟩
mutual
def ThgX (H:Hp):PyData→V→Prop
  | .none,v=>v = .non
  | .bool b,v=>v = .bl b
  | .int i,v=>v = .int i
  | .str x,v=>v = .str x
  | .list ds,v=>∃a xs,v = .ref a∧H a=some (.lst xs)∧ThgXAll H ds xs
  | .tuple ds,v=>∃a xs,v = .ref a∧H a=some (.tup xs)∧ThgXAll H ds xs
  | .dict kvs,v=>∃a,v = .ref a∧DicX H a kvs
def ThgXAll (H:Hp):List PyData→List V→Prop
  | [],vs=>vs=[]
  | d::ds,vs=>∃v r,vs=v::r∧ThgX H d v∧ThgXAll H ds r
end
mutual
theorem ThgX.same {H H':Hp} (s:Same H H'):∀(d:PyData) (v:V),ThgX H d v→ThgX H' d v
  | .none,v,h=>by simp only [ThgX] at h ⊢;exact h
  | .bool b,v,h=>by simp only [ThgX] at h ⊢;exact h
  | .int i,v,h=>by simp only [ThgX] at h ⊢;exact h
  | .str x,v,h=>by simp only [ThgX] at h ⊢;exact h
  | .list ds,v,h=>by
    simp only [ThgX] at h ⊢
    obtain ⟨a,xs,e,h1,h2⟩:=h
    exact ⟨a,xs,e,s _ _ h1,ThgXAll.same s ds xs h2⟩
  | .tuple ds,v,h=>by
    simp only [ThgX] at h ⊢
    obtain ⟨a,xs,e,h1,h2⟩:=h
    exact ⟨a,xs,e,s _ _ h1,ThgXAll.same s ds xs h2⟩
  | .dict kvs,v,h=>by
    simp only [ThgX] at h ⊢
    obtain ⟨a,e,h1⟩:=h
    exact ⟨a,e,h1.same s⟩
theorem ThgXAll.same {H H':Hp} (s:Same H H'):∀(ds:List PyData) (vs:List V),ThgXAll H ds vs→ThgXAll H' ds vs
  | [],vs,h=>by simp only [ThgXAll] at h ⊢;exact h
  | d::ds,vs,h=>by
    simp only [ThgXAll] at h ⊢
    obtain ⟨v,r,e,h1,h2⟩:=h
    exact ⟨v,r,e,ThgX.same s d v h1,ThgXAll.same s ds r h2⟩
end
theorem ThgXAll.length {H:Hp}:∀{ds:List PyData} {xs:List V},ThgXAll H ds xs→ds.length=xs.length
  | [],_,h=>by simp only [ThgXAll] at h;subst h;rfl
  | d::ds,_,h=>by
    simp only [ThgXAll] at h
    obtain ⟨v,r,rfl,h1,h2⟩:=h
    simp [ThgXAll.length h2]
theorem ThgXAll.at {H:Hp}:∀{ds:List PyData} {xs:List V} {i:Nat} {v:V},ThgXAll H ds xs→xs[i]? = some v→∃d,ds[i]? = some d∧ThgX H d v
  | [],_,i,v,h,e=>by simp only [ThgXAll] at h;subst h;simp at e
  | d::ds,_,0,v,h,e=>by
    simp only [ThgXAll] at h
    obtain ⟨w,r,rfl,h1,h2⟩:=h
    simp at e
    subst e
    exact ⟨d,rfl,h1⟩
  | d::ds,_,i+1,v,h,e=>by
    simp only [ThgXAll] at h
    obtain ⟨w,r,rfl,h1,h2⟩:=h
    obtain ⟨c,h3,h4⟩:=ThgXAll.at (i:=i) h2 (by simpa using e)
    exact ⟨c,by simpa using h3,h4⟩
section
variable {X:Cx} {pins:List (Addr×Obj)} {σ:St} {H:Hp} {s:Shared}
mutual
theorem ThgX.reads (I:Inv X pins σ H s):∀(d:PyData) (v:V) (u:Value),ThgX H d v→RelV v u→∃as,Reads s.heap u d as
  | .none,v,u,h,r=>by
    simp only [ThgX] at h;subst h;cases r;exact ⟨_,.none⟩
  | .bool b,v,u,h,r=>by
    simp only [ThgX] at h;subst h;cases r;exact ⟨_,.bool b⟩
  | .int i,v,u,h,r=>by
    simp only [ThgX] at h;subst h;obtain ⟨t,rfl⟩:=r;exact ⟨_,.int i t⟩
  | .str x,v,u,h,r=>by
    simp only [ThgX] at h;subst h;obtain ⟨t,rfl⟩:=r;exact ⟨_,.str x t⟩
  | .list ds,v,u,h,r=>by
    simp only [ThgX] at h
    obtain ⟨a,xs,rfl,hq,hs⟩:=h
    cases r
    obtain ⟨its,rv,pl,hz⟩:=I.list (SqL.of hq)
    obtain ⟨o,e,c,n,dt⟩:=pl.isList
    obtain ⟨as,ra⟩:=ThgXAll.reads I ds xs its hs rv
    exact ⟨_,.list e c dt (by simpa using ra)⟩
  | .tuple ds,v,u,h,r=>by
    simp only [ThgX] at h
    obtain ⟨a,xs,rfl,hq,hs⟩:=h
    cases r
    obtain ⟨its,rv,pl,hz⟩:=I.tuple (SqT.of hq)
    obtain ⟨o,e,c,n,dt⟩:=pl
    obtain ⟨as,ra⟩:=ThgXAll.reads I ds xs its hs rv
    exact ⟨_,.tuple e c dt (by simpa using ra)⟩
  | .dict kvs,v,u,h,r=>by
    simp only [ThgX] at h
    obtain ⟨a,rfl,h1⟩:=h
    cases r
    exact ⟨_,(dicX_reads I.hok h1).1⟩
theorem ThgXAll.reads (I:Inv X pins σ H s):∀(ds:List PyData) (vs:List V) (us:List Value),ThgXAll H ds vs→Vals vs us→∃as,ReadsAll s.heap us ds as
  | [],vs,us,h,r=>by
    simp only [ThgXAll] at h;subst h;cases r;exact ⟨_,.nil⟩
  | d::ds,vs,us,h,r=>by
    simp only [ThgXAll] at h
    obtain ⟨v,vr,rfl,h1,h2⟩:=h
    cases r with
    | cons r1 r2=>
      obtain ⟨as,ra⟩:=ThgX.reads I d v _ h1 r1
      obtain ⟨bs,rb⟩:=ThgXAll.reads I ds vr _ h2 r2
      exact ⟨_,.cons ra rb⟩
end
mutual
theorem ThgX.reprK (I:Inv X pins σ H s):∀(d:PyData) (v:V) (u:Value),ThgX H d v→RelV v u→d.showable=true→d.shown.length≤sizeLine→
    ∃bs,ReadAtMost s.heap d.depth bs∧ReprK X.prog X.w bs s.heap d.depth u d.shown
  | .none,v,u,h,r,hs,hz=>by
    obtain ⟨as,ra⟩:=ThgX.reads I _ v u h r
    exact ReprK.of_reads ra hs (PyData.noDict_hsm rfl) hz
  | .bool b,v,u,h,r,hs,hz=>by
    obtain ⟨as,ra⟩:=ThgX.reads I _ v u h r
    exact ReprK.of_reads ra hs (PyData.noDict_hsm rfl) hz
  | .int i,v,u,h,r,hs,hz=>by
    obtain ⟨as,ra⟩:=ThgX.reads I _ v u h r
    exact ReprK.of_reads ra hs (PyData.noDict_hsm rfl) hz
  | .str x,v,u,h,r,hs,hz=>by
    obtain ⟨as,ra⟩:=ThgX.reads I _ v u h r
    exact ReprK.of_reads ra hs (PyData.noDict_hsm rfl) hz
  | .list ds,v,u,h,r,hs,hz=>by
    obtain ⟨as,ra⟩:=ThgX.reads I (.list ds) v u h r
    simp only [ThgX] at h
    obtain ⟨a,xs,rfl,hq,hall⟩:=h
    cases r
    obtain ⟨its,rv,pl,hzz⟩:=I.list (SqL.of hq)
    obtain ⟨o,e,c,n,dt⟩:=pl.isList
    have hzL:(listText (PyData.shownAll ds)).length≤sizeLine:=by simpa only [PyData.shown] using hz
    obtain ⟨bs,mb,kb⟩:=ThgXAll.reprK I ds xs its hall rv (by simpa [PyData.showable] using hs) (fun t ht=>Nat.le_trans (listText_mem_le ht) hzL)
    have nab:a∉bs:=not_mem_of_deeper ra (by simp only [PyData.depth];exact Nat.lt_succ_self _) mb
    refine ⟨a::bs,ReadAtMost.cons ra (by simp only [PyData.depth];omega) mb,?_⟩
    simp only [PyData.depth,PyData.shown]
    cases its with
    | nil=>
      cases rv
      have e2:ds=[]:=List.eq_nil_of_length_eq_zero hall.length
      subst e2
      simp only [PyData.shownAll,listText_nil]
      exact ReprK.listEmpty e c dt
    | cons x l=>exact ReprK.list e c dt nab (by simpa using kb.length_eq) (fun i y z=>kb.item i y (by simpa using z))
  | .tuple ds,v,u,h,r,hs,hz=>by
    obtain ⟨as,ra⟩:=ThgX.reads I (.tuple ds) v u h r
    simp only [ThgX] at h
    obtain ⟨a,xs,rfl,hq,hall⟩:=h
    cases r
    obtain ⟨its,rv,pl,hzz⟩:=I.tuple (SqT.of hq)
    obtain ⟨o,e,c,n,dt⟩:=pl
    have hzL:(tupleText (PyData.shownAll ds)).length≤sizeLine:=by simpa only [PyData.shown] using hz
    obtain ⟨bs,mb,kb⟩:=ThgXAll.reprK I ds xs its hall rv (by simpa [PyData.showable] using hs) (fun t ht=>Nat.le_trans (tupleText_mem_le ht) hzL)
    have nab:a∉bs:=not_mem_of_deeper ra (by simp only [PyData.depth];exact Nat.lt_succ_self _) mb
    refine ⟨a::bs,ReadAtMost.cons ra (by simp only [PyData.depth];omega) mb,?_⟩
    simp only [PyData.depth,PyData.shown]
    exact ReprK.tuple e c dt nab (by simpa using kb)
  | .dict kvs,v,u,h,r,hs,hz=>by
    simp only [ThgX] at h
    obtain ⟨a,rfl,h1⟩:=h
    cases r
    obtain ⟨ra,hd⟩:=dicX_reads I.hok h1
    refine ReprK.of_reads ra hs (fun _ hm=>?_) hz
    rw [List.mem_singleton] at hm
    rw [← hm] at hd
    simp at hd
theorem ThgXAll.reprK (I:Inv X pins σ H s):∀(ds:List PyData) (vs:List V) (us:List Value),ThgXAll H ds vs→Vals vs us→PyData.showableAll ds=true→(∀t∈PyData.shownAll ds,t.length≤sizeLine)→
    ∃bs,ReadAtMost s.heap (PyData.depthAll ds) bs∧ReprAllK X.prog X.w bs s.heap (PyData.depthAll ds) us (PyData.shownAll ds)
  | [],vs,us,h,r,_,_=>by
    simp only [ThgXAll] at h;subst h;cases r
    exact ⟨[],(fun _ h=>nomatch h),.nil⟩
  | d::ds,vs,us,h,r,hs,hz=>by
    simp only [ThgXAll] at h
    obtain ⟨v,vr,rfl,h1,h2⟩:=h
    simp only [PyData.showableAll,Bool.and_eq_true] at hs
    simp only [PyData.shownAll,List.mem_cons,forall_eq_or_imp] at hz
    cases r with
    | cons r1 r2=>
      obtain ⟨b1,m1,k1⟩:=ThgX.reprK I d v _ h1 r1 hs.1 hz.1
      obtain ⟨b2,m2,k2⟩:=ThgXAll.reprK I ds vr _ h2 r2 hs.2 hz.2
      refine ⟨b1++b2,(m1.mono ?_).append (m2.mono ?_),?_⟩
      ·simp only [PyData.depthAll];exact Nat.le_max_left ..
      ·simp only [PyData.depthAll];exact Nat.le_max_right ..
      · simp only [PyData.shownAll]
        refine .cons ((k1.more fun b hb=>List.mem_append_left _ hb).level_le ?_) (k2.more_le (fun b hb=>List.mem_append_right _ hb) ?_)
        ·simp only [PyData.depthAll];exact Nat.le_max_left ..
        ·simp only [PyData.depthAll];exact Nat.le_max_right ..
end
def fReprN:List V→Hp→VK→Prop:=fun xs H Q=>ar1 xs fun v=>∃ds:List PyData,ThgX H (.list ds) v∧(PyData.list ds).showable=true∧(PyData.list ds).depth≤32∧(PyData.list ds).shown.length≤sizeLine∧Q (.str (PyData.list ds).shown) H
@[simp ↓] theorem fReprN_w xs H Q:fReprN xs H Q=(ar1 xs fun v=>∃ds:List PyData,ThgX H (.list ds) v∧(PyData.list ds).showable=true∧(PyData.list ds).depth≤32∧(PyData.list ds).shown.length≤sizeLine∧Q (.str (PyData.list ds).shown) H):=rfl
theorem fcall_reprN (hg:X.A.guards=some []) (hu:X.A.units+64<cLine):CallR X (.builtin "repr") fReprN:=by
  intro pins s σ H xs us Q I r h
  obtain ⟨v,rfl,ds,hi,hs,hd,hz,q⟩:=ar1.out h
  obtain ⟨u,rfl,ru⟩:=r.one
  have hi0:=hi
  simp only [ThgX] at hi
  obtain ⟨a,xs,rfl,hq,hall⟩:=hi
  cases ru
  obtain ⟨its,rv,pl,hzz⟩:=I.list (SqL.of hq)
  obtain ⟨o,e,c,n,dt⟩:=pl.isList
  have hzL:(listText (PyData.shownAll ds)).length≤sizeLine:=by simpa only [PyData.shown] using hz
  obtain ⟨as,ra⟩:=ThgX.reads I (.list ds) (.ref a) (.ref a) hi0 rfl
  obtain ⟨bs,mb,kb⟩:=ThgXAll.reprK I ds xs its hall rv (by simpa [PyData.showable] using hs) (fun t ht=>Nat.le_trans (listText_mem_le ht) hzL)
  have nab:a∉bs:=not_mem_of_deeper ra (by simp only [PyData.depth];exact Nat.lt_succ_self _) mb
  simp only [PyData.depth] at hd
  simp only [PyData.shown] at q
  refine call_repr_slot (by omega) ⟨o,e,c⟩ F.slot_list_repr.toG ?_
  cases its with
  | nil=>
    cases rv
    have e2:ds=[]:=List.eq_nil_of_length_eq_zero hall.length
    subst e2
    simp only [PyData.shownAll,listText_nil] at q
    exact call_list_repr_empty ⟨o,e,c⟩ e dt ⟨_,_,rfl,.str _,H,I.tok _,⟨_,rfl⟩,q⟩
  | cons x l=>
    refine call_list_reprK e c dt nab (by simpa using kb.length_eq) (fun i y z=>kb.item i y (by simpa using z)) hg (fun b _=>Clear.nil b) ?_ (fun _ _ z=>z) (fun h' u tk hk=>⟨_,_,rfl,.str _,H,I.kept (t':=tk) hk,⟨u,rfl⟩,q⟩) hzL
    show X.A.units+1+_<_
    omega
end
end L2
namespace L2
open PySem PySem.Spec
section
variable {σ:St} {H:Hp} {p:Addr}
theorem new_ne {H1:Hp} {b:Addr} (h:∃o,H p=some o) (s:Same H H1) (hb:H1 b=none):b≠p:=fun z=>by
  obtain ⟨o,e⟩:=h
  have:=s _ _ e
  rw [← z,hb] at this
  cases this
theorem getSt.of:∀{σ:St} {i:Nat} {v:V} {R:V→Prop},σ[i]? = some (some v)→R v→getSt σ i R
  | [],_,_,_,h,_=>by simp at h
  | o::_,0,v,R,h,r=>by simp at h;subst h;exact r
  | _::σ,n+1,v,R,h,r=>getSt.of (σ:=σ) (i:=n) (by simpa using h) r
variable {φ:PyData→Prop}
structure big (t:TE) (σ:St) (H:Hp) (Q:VK):Prop where
  out:t σ H Q
theorem pe_big {X:Cx} {e:Expr} {t:TE} (h:PE X e t):PE X e (big t):=PE.mono h fun h=>h.out
end
end L2
namespace L2
open PySem PySem.Spec PyProof.Rows
section
variable {X:Cx} {e:Expr} {es:List Expr} {te:TE} {t:TA}
structure PAq (X:Cx) (es:List Expr) (t:TA):Prop where
  out:PA X es t
theorem star_cons {env:Env} (h:∀a b,e≠.Starred a b):starEach (e::es) env=(false,eval e env)::starEach es env:=by
  cases e <;> first | rfl | exact absurd rfl (h _ _)
theorem paq_nil:PAq X [] tNil:=⟨pa_nil⟩
theorem paq_cons (ha:PE X e te) (hr:PAq X es t) (hn:∀a b,e≠.Starred a b:=by (intro _ _ h;cases h)):PAq X (e::es) (tCons te t):=⟨pa_cons ha hr.out (star_cons hn)⟩
end
structure PEq (X:Cx) (e:Expr) (te:TE):Prop where
  out:PE X e te
theorem peq_lst {X:Cx} {es:List Expr} {t:TA} {pos:Pos} (h:PAq X es t):PEq X (.List es pos) (tLst t):=⟨pe_lst h.out⟩
structure PSq (X:Cx) (st:Stmt) (t:TS):Prop where
  out:PS X st t
structure PSsq (X:Cx) (st:List Stmt) (t:TS):Prop where
  out:PSs X st t
section
variable {X:Cx} {st:Stmt} {rest:List Stmt} {t u:TS} {e a b:Expr} {te ta tb:TE} {pos:Pos}
theorem pssq_cons (h1:PSq X st t) (h2:PSsq X rest u):PSsq X (st::rest) (tSeq t u):=⟨pss_cons h1.out h2.out⟩
theorem psq_set {i:Nat} {x:Str} {pos':Pos} (hN:X.N.Nodup) (hi:X.N[i]? = some x) (hx:Loc X.env.scope x) (he:PEq X e te) (hs:swapsWith e (some (.Name x pos')) pos.line X.env=pure false:=by rfl) (hf:X.fn x=true∨X.env.scope.names.lookup x=some .local:=by first | exact .inl rfl | exact .inr rfl | assumption) :
    PSq X (.Assign [.Name x pos'] e pos) (tAsg te (gName i)):=⟨ps_set hN hi hx he.out hs hf⟩
theorem peq_big (h:PEq X e te):PEq X e (big te):=⟨pe_big h.out⟩
end
end L2
namespace L2
open PySem PySem.Spec
section
variable {σ:St} {H:Hp} {p:Addr}
def XD (p:Addr) (t:TE) (σ:St) (H:Hp) (d:PyData):Prop:=∀(H1:Hp) (Q:VK),(∃o,H p=some o)→Same H H1→(∀v H2,Same H1 H2→ThgX (hid p H2) d v→Q v H2)→t σ H1 Q
def XDs (p:Addr) (t:TA) (σ:St) (H:Hp) (ds:List PyData):Prop:=∀(H1:Hp) (Q:List V→Hp→Prop),(∃o,H p=some o)→Same H H1→(∀vs H2,Same H1 H2→ThgXAll (hid p H2) ds vs→Q vs H2)→t σ H1 Q
theorem xds_nil:XDs p tNil σ H []:=fun H1 Q _ _ q=>q [] H1 (Same.refl _) (by simp [ThgXAll])
theorem xds_cons {ta:TE} {tr:TA} {d:PyData} {ds:List PyData} (h1:XD p ta σ H d) (h2:XDs p tr σ H ds):XDs p (tCons ta tr) σ H (d::ds):=fun H1 Q hp s q=>
  h1 H1 _ hp s fun v H2 s2 hv=>h2 H2 _ hp (s.trans s2) fun vs H3 s3 hvs=>q _ H3 (s2.trans s3) (by simp only [ThgXAll];exact ⟨v,vs,rfl,ThgX.same (hid_keep s3) d v hv,hvs⟩)
theorem xd_tup {t:TA} {ds:List PyData} (h:XDs p t σ H ds) (hl:ds.length≤sizeLine):XD p (tTup t) σ H (.tuple ds):=fun H1 Q hp s q=>
  h H1 _ hp s fun vs H2 s2 hv=>⟨by rw [← hv.length];exact hl,fun b hb=>q _ _ (s2.trans (same_upd hb)) (by simp only [ThgX];exact ⟨b,vs,rfl,hid_at (new_ne hp (s.trans s2) hb) upd_same,ThgXAll.same (hid_keep (same_upd hb)) ds vs hv⟩)⟩
theorem xd_non:XD p (tC .non) σ H .none:=fun H1 Q _ s q=>q _ H1 (Same.refl _) (by simp [ThgX])
theorem xd_int {i:Int}:XD p (tC (.int i)) σ H (.int i):=fun H1 Q _ s q=>q _ H1 (Same.refl _) (by simp [ThgX])
theorem xd_bl {i:Bool}:XD p (tC (.bl i)) σ H (.bool i):=fun H1 Q _ s q=>q _ H1 (Same.refl _) (by simp [ThgX])
theorem xd_str {i:Str}:XD p (tC (.str i)) σ H (.str i):=fun H1 Q _ s q=>q _ H1 (Same.refl _) (by simp [ThgX])
theorem xd_var {i:Nat} {d:PyData} {v:V} (h:σ[i]? = some (some v)) (hv:ThgX (hid p H) d v):XD p (fVar i) σ H d:=fun H1 Q _ s q=>getSt.of h (q v H1 (Same.refl _) (ThgX.same (hid_keep s) d v hv))
theorem xd_svar {i:Nat} {x:Str} (h:σ[i]? = some (some (.str x))):XD p (fVar i) σ H (.str x):=xd_var h (by simp [ThgX])
theorem xd_empty:XD p tDNewK σ H (.dict []):=fun H1 Q hp s q b hb=>q _ _ (same_upd hb) (by simp only [ThgX];exact ⟨b,rfl,.inl ⟨[],.nil,hid_at (new_ne hp s hb) upd_same⟩⟩)
def AllX (φ:PyData→Prop) (H:Hp) (vs:List V):Prop:=∀v∈vs,∃d,ThgX H d v∧φ d
theorem AllX.same {φ:PyData→Prop} {H H':Hp} {vs:List V} (h:AllX φ H vs) (s:Same H H'):AllX φ H' vs:=fun v hv=>by
  obtain ⟨d,h1,h2⟩:=h v hv
  exact ⟨d,ThgX.same s d v h1,h2⟩
theorem AllX.app {φ:PyData→Prop} {H:Hp} {vs us:List V} (h:AllX φ H vs) (k:AllX φ H us):AllX φ H (vs++us):=fun v hv=>(List.mem_append.mp hv).elim (h v) (k v)
def XEs (φ:PyData→Prop) (p:Addr) (n:Nat) (t:TA) (σ:St) (H:Hp):Prop:=∀(H1:Hp) (Q:List V→Hp→Prop),(∃o,H p=some o)→Same H H1→(∀vs H2,Same H1 H2→vs.length=n→AllX φ (hid p H2) vs→Q vs H2)→t σ H1 Q
variable {φ:PyData→Prop}
theorem xes_nil:XEs φ p 0 tNil σ H:=fun H1 Q _ _ q=>q [] H1 (Same.refl _) rfl fun v hv=>absurd hv (by simp)
theorem xes_cons {ta:TE} {tr:TA} {n:Nat} {d:PyData} (h1:XD p ta σ H d) (hf:φ d) (h2:XEs φ p n tr σ H):XEs φ p (n+1) (tCons ta tr) σ H:=fun H1 Q hp s q=>
  h1 H1 _ hp s fun v H2 s2 hv=>h2 H2 _ hp (s.trans s2) fun vs H3 s3 hl hvs=>q _ H3 (s2.trans s3) (by simp [hl]) fun u hu=>by
    rcases List.mem_cons.mp hu with rfl | hu
    ·exact ⟨d,ThgX.same (hid_keep s3) d _ hv,hf⟩
    ·exact hvs u hu
theorem big_lstX {t:TA} {n:Nat} (h:XEs φ p n t σ H) (hp:∃o,H p=some o) (hl:n≤sizeLine) {Q:VK} (q:∀b vs H2,H b=none→Same H H2→vs.length=n→H2 b=some (.lst vs)→AllX φ (hid p H2) vs→Q (.ref b) H2):big (tLst t) σ H Q:=
  ⟨h H _ hp (Same.refl _) fun vs H2 s2 hn hv=>⟨by rw [hn];exact hl,fun b hb=>q b vs _ (fresh_of s2 hb) (s2.trans (same_upd hb)) hn upd_same (hv.same (hid_keep (same_upd hb)))⟩⟩
end
theorem cut_ix {n j:Nat} {d:Nat}:HT.sIx n d (some (j:Int))=min j n:=by
  simp [HT.sIx]
  intro h
  omega
theorem cut_to {xs:List V} {j:Nat}:cutV xs none (some (j:Int))=xs.take j:=by
  unfold cutV
  rw [cut_ix]
  simp [HT.sIx,List.take_eq_take_iff]
theorem cut_from {xs:List V} {j:Nat}:cutV xs (some (j:Int)) none=xs.drop j:=by
  unfold cutV
  rw [cut_ix]
  simp [HT.sIx]
  rw [List.take_of_length_le (by simp)]
  by_cases h:j≤xs.length
  ·rw [Nat.min_eq_left h]
  ·rw [Nat.min_eq_right (by omega),List.drop_of_length_le (Nat.le_refl _),List.drop_of_length_le (by omega)]
structure Ltr (n:Nat) (x:Str):Prop where
  cp:∀c∈x.cps.toList,c<16 ^ 8
  ln:x.length≤n
end L2
namespace L2
open PySem PySem.Spec PySem.W PyProof.Rows
section
variable {prog:Program} {w:World} {A:Around} {E:Value→Shared→Prop} {K:PySem.W.Frag} {h:Heap} {g:Array GenState} {d:Drawn} {t:Nat} {os:OsState}
variable {nm q:Str} {C N:Addr} {bs bm:List Value} {hdct:Bool} {sn:List Str} {sub:List Value} {ab:Bool} {col:Option Bool} {dd:Option Addr} {k0 k1 k2 k3 k5:Option Value}
structure ExcGet (K:PySem.W.Frag) (C:Addr):Prop where
  ga:findIn K (.ref C) "__getattribute__" = some (some (.builtin "BaseException.__getattribute__"))
  gn:findIn K (.ref C) "__getattr__" = some none
  mb:mroIn K C (.type "BaseException")=some true
  hd:hasDictIn K C=true
structure ExcSet (K:PySem.W.Frag) (C PE:Addr):Prop where
  sa:findIn K (.ref C) "__setattr__" = some (some (.builtin "object.__setattr__"))
  mo:mroIn K C (.type "object")=some true
  cl:∃cd,clsIn K C=some cd∧cd.mro = .ref C::.ref PE::veMro∧cd.hasDict=true
end
end L2
namespace L2
open PySem PySem.Spec PyProof.Rows
structure XMk (K:PySem.W.Frag) (C B f:Addr):Prop where
  ob:∃nm q N bs hdct sn sub ab col dd k0 k1 k2 k3 k5,K.lookup C=some (excClassObj nm q C N bs (.ref B::veMro) hdct sn sub ab col dd k0 k1 k2 k3 k5 "ValueError.__new__")
  pe:ExcCls K B
  pm:∃cd,PySem.W.clsIn K B=some cd∧cd.mro = .ref B::veMro
  init:PySem.W.findIn K (.ref C) "__init__" = some (some (.ref f))
  fn:PySem.W.typeIn K (.ref f)=some (.type "function")
  kp:PySem.W.keepIn K (.ref C)=true
end L2
namespace L2
open PySem
end L2
namespace L2
open PySem PySem.Spec PyProof.Rows PySem.SeqAt
structure XC (K:PySem.W.Frag) (C B:Addr):Prop where
  cl:∃cd,PySem.W.clsIn K C=some cd∧cd.mro = .ref C::.ref B::veMro∧cd.hasDict=true
  ty:PySem.W.typeIn K (.ref C)=some (.type "type")
  ga:PySem.W.findIn K (.ref C) "__getattribute__" = some (some (.builtin "BaseException.__getattribute__"))
  gn:PySem.W.findIn K (.ref C) "__getattr__" = some none
  gc:PySem.W.findIn K (.ref C) "__class__" = some (some (.builtin "object.__class__"))
  kp:PySem.W.keepIn K (.ref C)=true
section
variable {K:PySem.W.Frag} {C D B:Addr}
end
def ar3 (vs:List V) (R:V→V→V→Prop):Prop:=match vs with
  | [u,v,w]=>R u v w
  | _=>False
@[simp ↓] theorem ar3_w u v w R:ar3 [u,v,w] R=R u v w:=rfl
end L2
namespace L2
open PySem PySem.Spec PyProof.Rows
variable {X:Cx}
@[simp ↓] theorem fRep_w x y H Q:fRep x y H Q=(isRef x fun l=>isInt y fun k=>∃xs,H l=some (.lst xs)∧-(2 ^ 63)≤k∧k<2 ^ 63∧xs.length * k.toNat≤sizeLine∧∀p,H p=none→Q (.ref p) (upd H p (.lst (List.replicate k.toNat xs).flatten))):=rfl
theorem fop_rep:OpR X (binaryOp .Mult) fRep:=by
  refine op_rep.mono fun {x y H Q} h=>?_
  obtain ⟨l,rfl,h1⟩:=isRef.out h
  obtain ⟨k,rfl,xs,h2⟩:=isInt.out h1
  exact ⟨l,k,xs,rfl,rfl,h2⟩
def fDictC:List V→Hp→VK→Prop:=fun xs H Q=>ar1 xs fun x=>isRef x fun a=>∃kvs,Rd H a (.dK kvs)∧∀p,H p=none→Q (.ref p) (upd H p (.dK kvs))
@[simp ↓] theorem fDictC_w xs H Q:fDictC xs H Q=(ar1 xs fun x=>isRef x fun a=>∃kvs,Rd H a (.dK kvs)∧∀p,H p=none→Q (.ref p) (upd H p (.dK kvs))):=rfl
theorem fdictC:CallR X (.type "dict") fDictC:=by
  intro pins s σ H xs us Q I rs q
  obtain ⟨v,rfl,q1⟩:=ar1.out q
  obtain ⟨a,rfl,kvs,hd,q2⟩:=isRef.out q1
  obtain ⟨u,rfl,ru⟩:=rs.one
  obtain rfl:u=Value.ref a:=ru
  exact d_copyOf I hd fun p s' hp I'=>⟨.ref p,_,I',rfl,q2 p hp⟩
end L2
namespace L2
open PySem PySem.Spec
section
variable {σ:St} {H:Hp} {p:Addr} {K:PySem.W.Frag}
variable {φ:PyData→Prop}
end
end L2
namespace L2
open PySem
def fxs (fx:Nat→Option Int) (k:Nat) (d:Int):Nat→Option Int:=fun j=>if j=k then some d else fx j
end L2
namespace K92
open PySem L2
def top (i:Nat):Stmt:=PySem.Challenge.pw_pointways_k92_whole_papers_read.main.body.getD i (.Pass ⟨0,0,0,0⟩)
abbrev s_steps_along:Stmt:=top 1
abbrev s_ways_along:Stmt:=top 2
abbrev s_is_list:Stmt:=top 11
abbrev s_is_whole:Stmt:=top 12
abbrev s_is_name:Stmt:=top 13
abbrev s_are_points:Stmt:=top 14
abbrev s_is_tie:Stmt:=top 15
abbrev s_are_ties:Stmt:=top 16
abbrev s_Web_init:Stmt:=inClass (top 17) 0
abbrev s_Web_points:Stmt:=inClass (top 17) 1
abbrev s_Web_ties:Stmt:=inClass (top 17) 2
abbrev s_Web_many:Stmt:=inClass (top 17) 3
abbrev s_is_point:Stmt:=top 18
abbrev s_is_number:Stmt:=top 19
abbrev s_with_one_more:Stmt:=top 21
abbrev s_is_far_apart:Stmt:=top 24
abbrev s_is_far_paper:Stmt:=top 25
abbrev s_is_fork_paper:Stmt:=top 26
abbrev s_is_paper:Stmt:=top 27
abbrev s_reads_paper:Stmt:=top 28
abbrev s_pot:Stmt:=top 30
abbrev s_take:Stmt:=top 31
abbrev s_names:Stmt:=top 32
abbrev s_mixed:Stmt:=top 33
abbrev s_tie:Stmt:=top 34
abbrev s_web:Stmt:=top 35
abbrev s_far:Stmt:=top 36
abbrev s_leaf:Stmt:=top 37
abbrev s_paper:Stmt:=top 38
abbrev s_odd:Stmt:=top 39
abbrev s_spoilt:Stmt:=top 40
abbrev s_otherwise:Stmt:=top 41
abbrev s_reads:Stmt:=top 42
abbrev s_right:Stmt:=top 43
abbrev s_law:Stmt:=top 44
theorem sc_steps_along:FnScope ["web", "fixed", "steps", "number", "first", "second"] ["web", "fixed"] (defScope s_steps_along):=⟨rfl,rfl,rfl,by decide +kernel,rfl,by decide +kernel,by decide +kernel⟩
theorem sc_ways_along:FnScope ["start", "steps", "ways", "row", "at", "here", "number", "origin", "goal"] ["start", "steps"] (defScope s_ways_along):=⟨rfl,rfl,rfl,by decide +kernel,rfl,by decide +kernel,by decide +kernel⟩
theorem sc_is_list:FnScope ["thing"] ["thing"] (defScope s_is_list):=⟨rfl,rfl,rfl,by decide +kernel,rfl,by decide +kernel,by decide +kernel⟩
theorem sc_is_whole:FnScope ["thing"] ["thing"] (defScope s_is_whole):=⟨rfl,rfl,rfl,by decide +kernel,rfl,by decide +kernel,by decide +kernel⟩
theorem sc_is_name:FnScope ["thing"] ["thing"] (defScope s_is_name):=⟨rfl,rfl,rfl,by decide +kernel,rfl,by decide +kernel,by decide +kernel⟩
theorem sc_are_points:FnScope ["thing"] ["thing"] (defScope s_are_points):=⟨rfl,rfl,rfl,by decide +kernel,rfl,by decide +kernel,by decide +kernel⟩
theorem sc_is_tie:FnScope ["thing", "points"] ["thing", "points"] (defScope s_is_tie):=⟨rfl,rfl,rfl,by decide +kernel,rfl,by decide +kernel,by decide +kernel⟩
theorem sc_are_ties:FnScope ["thing", "points"] ["thing", "points"] (defScope s_are_ties):=⟨rfl,rfl,rfl,by decide +kernel,rfl,by decide +kernel,by decide +kernel⟩
theorem sc_Web_init:FnScope ["self", "points", "ties"] ["self", "points", "ties"] (defScope s_Web_init):=⟨rfl,rfl,rfl,by decide +kernel,rfl,by decide +kernel,by decide +kernel⟩
theorem sc_Web_points:FnScope ["self"] ["self"] (defScope s_Web_points):=⟨rfl,rfl,rfl,by decide +kernel,rfl,by decide +kernel,by decide +kernel⟩
theorem sc_Web_ties:FnScope ["self"] ["self"] (defScope s_Web_ties):=⟨rfl,rfl,rfl,by decide +kernel,rfl,by decide +kernel,by decide +kernel⟩
theorem sc_Web_many:FnScope ["self"] ["self"] (defScope s_Web_many):=⟨rfl,rfl,rfl,by decide +kernel,rfl,by decide +kernel,by decide +kernel⟩
theorem sc_is_point:FnScope ["web", "thing"] ["web", "thing"] (defScope s_is_point):=⟨rfl,rfl,rfl,by decide +kernel,rfl,by decide +kernel,by decide +kernel⟩
theorem sc_is_number:FnScope ["web", "thing"] ["web", "thing"] (defScope s_is_number):=⟨rfl,rfl,rfl,by decide +kernel,rfl,by decide +kernel,by decide +kernel⟩
theorem sc_with_one_more:FnScope ["fixed", "number", "lead", "more"] ["fixed", "number", "lead"] (defScope s_with_one_more):=⟨rfl,rfl,rfl,by decide +kernel,rfl,by decide +kernel,by decide +kernel⟩
theorem sc_is_far_apart:FnScope ["web", "number", "a", "b", "fixed", "ways"] ["web", "number", "a", "b", "fixed"] (defScope s_is_far_apart):=⟨rfl,rfl,rfl,by decide +kernel,rfl,by decide +kernel,by decide +kernel⟩
theorem sc_is_far_paper:FnScope ["web", "number", "thing", "fixed"] ["web", "number", "thing", "fixed"] (defScope s_is_far_paper):=⟨rfl,rfl,rfl,by decide +kernel,rfl,by decide +kernel,by decide +kernel⟩
theorem sc_is_fork_paper:FnScope ["web", "number", "thing", "fixed", "lead"] ["web", "number", "thing", "fixed"] (defScope s_is_fork_paper):=⟨rfl,rfl,rfl,by decide +kernel,rfl,by decide +kernel,by decide +kernel⟩
theorem sc_is_paper:FnScope ["web", "number", "thing", "fixed"] ["web", "number", "thing", "fixed"] (defScope s_is_paper):=⟨rfl,rfl,rfl,by decide +kernel,rfl,by decide +kernel,by decide +kernel⟩
theorem sc_reads_paper:FnScope ["web", "number", "thing"] ["web", "number", "thing"] (defScope s_reads_paper):=⟨rfl,rfl,rfl,by decide +kernel,rfl,by decide +kernel,by decide +kernel⟩
theorem sc_pot:FnScope ["_law_script", "_law_k", "_law_cell"] ["_law_script", "_law_k"] (defScope s_pot):=⟨rfl,rfl,rfl,by decide +kernel,rfl,by decide +kernel,by decide +kernel⟩
theorem sc_take:FnScope ["_law_pot_here", "_law_many", "_law_digit"] ["_law_pot_here", "_law_many"] (defScope s_take):=⟨rfl,rfl,rfl,by decide +kernel,rfl,by decide +kernel,by decide +kernel⟩
theorem sc_names:FnScope ["_law_pot_here", "_law_many", "_law_letters", "_law_begin", "_law_found", "_law_k", "_law_size", "_law_more"] ["_law_pot_here", "_law_many"] (defScope s_names):=⟨rfl,rfl,rfl,by decide +kernel,rfl,by decide +kernel,by decide +kernel⟩
theorem sc_mixed:FnScope ["_law_pot_here", "_law_things", "_law_found", "_law_thing"] ["_law_pot_here", "_law_things"] (defScope s_mixed):=⟨rfl,rfl,rfl,by decide +kernel,rfl,by decide +kernel,by decide +kernel⟩
theorem sc_tie:FnScope ["_law_pot_here", "_law_names_here", "_law_a", "_law_b"] ["_law_pot_here", "_law_names_here"] (defScope s_tie):=⟨rfl,rfl,rfl,by decide +kernel,rfl,by decide +kernel,by decide +kernel⟩
theorem sc_web:FnScope ["_law_pot_here", "_law_points", "_law_most", "_law_names_here", "_law_kind", "_law_ties", "_law_row", "_law_k", "_law_turns"] ["_law_pot_here", "_law_points", "_law_most"] (defScope s_web):=⟨rfl,rfl,rfl,by decide +kernel,rfl,by decide +kernel,by decide +kernel⟩
theorem sc_far:FnScope ["_law_web_here", "_law_turns", "_law_a", "_law_found", "_law_here", "_law_later", "_law_one", "_law_other", "_law_turn", "_law_name"] ["_law_web_here", "_law_turns", "_law_a"] (defScope s_far):=⟨rfl,rfl,rfl,by decide +kernel,rfl,by decide +kernel,by decide +kernel⟩
theorem sc_leaf:FnScope ["_law_pot_here", "_law_web_here", "_law_turns", "_law_number", "_law_is_long", "_law_names_here", "_law_some", "_law_a", "_law_rows"] ["_law_pot_here", "_law_web_here", "_law_turns", "_law_number", "_law_is_long"] (defScope s_leaf):=⟨rfl,rfl,rfl,by decide +kernel,rfl,by decide +kernel,by decide +kernel⟩
theorem sc_paper:FnScope ["_law_pot_here", "_law_web_here", "_law_turns", "_law_number", "_law_deep", "_law_is_long", "_law_left", "_law_leaf_here", "_law_known", "_law_tie_here", "_law_done", "_law_some", "_law_long", "_law_turn", "_law_fixed", "_law_below"] ["_law_pot_here", "_law_web_here", "_law_turns", "_law_number", "_law_deep", "_law_is_long"] (defScope s_paper):=⟨rfl,rfl,rfl,by decide +kernel,rfl,by decide +kernel,by decide +kernel⟩
theorem sc_odd:FnScope ["_law_pot_here", "_law_web_here", "_law_pick", "_law_one", "_law_other", "_law_some"] ["_law_pot_here", "_law_web_here"] (defScope s_odd):=⟨rfl,rfl,rfl,by decide +kernel,rfl,by decide +kernel,by decide +kernel⟩
theorem sc_spoilt:FnScope ["_law_pot_here", "_law_web_here", "_law_paper_here", "_law_word", "_law_tie_here", "_law_one", "_law_other", "_law_kind"] ["_law_pot_here", "_law_web_here", "_law_paper_here"] (defScope s_spoilt):=⟨rfl,rfl,rfl,by decide +kernel,rfl,by decide +kernel,by decide +kernel⟩
theorem sc_otherwise:FnScope ["_law_pot_here", "_law_paper_here", "_law_made"] ["_law_pot_here", "_law_paper_here"] (defScope s_otherwise):=⟨rfl,rfl,rfl,by decide +kernel,rfl,by decide +kernel,by decide +kernel⟩
theorem sc_reads:FnScope ["_law_web_here", "_law_turns", "_law_number", "_law_thing", "_law_tie_here", "_law_turn"] ["_law_web_here", "_law_turns", "_law_number", "_law_thing"] (defScope s_reads):=⟨rfl,rfl,rfl,by decide +kernel,rfl,by decide +kernel,by decide +kernel⟩
theorem sc_right:FnScope ["_law_pot_here", "_law_web_here", "_law_told", "_law_number", "_law_free", "_law_is_long", "_law_paper_here", "_law_k", "_law_handed", "_law_before", "_law_due", "_law_found"] ["_law_pot_here"] (defScope s_right):=⟨rfl,rfl,rfl,by decide +kernel,rfl,by decide +kernel,by decide +kernel⟩
theorem sc_law:FnScope ["_law_script", "_law_k"] ["_law_script"] (defScope s_law):=⟨rfl,rfl,rfl,by decide +kernel,rfl,by decide +kernel,by decide +kernel⟩
set_option genInjectivity false in
structure Adr where
  f_steps_along:Addr
  fd_steps_along:FuncData
  f_ways_along:Addr
  fd_ways_along:FuncData
  f_is_list:Addr
  fd_is_list:FuncData
  f_is_whole:Addr
  fd_is_whole:FuncData
  f_is_name:Addr
  fd_is_name:FuncData
  f_are_points:Addr
  fd_are_points:FuncData
  f_is_tie:Addr
  fd_is_tie:FuncData
  f_are_ties:Addr
  fd_are_ties:FuncData
  f_Web_init:Addr
  fd_Web_init:FuncData
  f_Web_points:Addr
  fd_Web_points:FuncData
  f_Web_ties:Addr
  fd_Web_ties:FuncData
  f_Web_many:Addr
  fd_Web_many:FuncData
  f_is_point:Addr
  fd_is_point:FuncData
  f_is_number:Addr
  fd_is_number:FuncData
  f_with_one_more:Addr
  fd_with_one_more:FuncData
  f_is_far_apart:Addr
  fd_is_far_apart:FuncData
  f_is_far_paper:Addr
  fd_is_far_paper:FuncData
  f_is_fork_paper:Addr
  fd_is_fork_paper:FuncData
  f_is_paper:Addr
  fd_is_paper:FuncData
  f_reads_paper:Addr
  fd_reads_paper:FuncData
  f_pot:Addr
  fd_pot:FuncData
  f_take:Addr
  fd_take:FuncData
  f_names:Addr
  fd_names:FuncData
  f_mixed:Addr
  fd_mixed:FuncData
  f_tie:Addr
  fd_tie:FuncData
  f_web:Addr
  fd_web:FuncData
  f_far:Addr
  fd_far:FuncData
  f_leaf:Addr
  fd_leaf:FuncData
  f_paper:Addr
  fd_paper:FuncData
  f_odd:Addr
  fd_odd:FuncData
  f_spoilt:Addr
  fd_spoilt:FuncData
  f_otherwise:Addr
  fd_otherwise:FuncData
  f_reads:Addr
  fd_reads:FuncData
  f_right:Addr
  fd_right:FuncData
  f_law:Addr
  fd_law:FuncData
  u_LETTERS:Value
  u_MOST_LETTERS:Value
  u_MOST_POINTS:Value
  u_MOST_TIES:Value
  u_MOST_FAR:Value
  C_Web:Addr
structure Txt (K:PySem.W.Frag) (mg:Str→Option Value) (a:Adr):Prop where
  F_steps_along:Fun K "steps_along" "steps_along" s_steps_along a.f_steps_along a.fd_steps_along
  b_steps_along:Binds K a.fd_steps_along ["web", "fixed"] []
  m_steps_along:mg "steps_along" = some (.ref a.f_steps_along)
  F_ways_along:Fun K "ways_along" "ways_along" s_ways_along a.f_ways_along a.fd_ways_along
  b_ways_along:Binds K a.fd_ways_along ["start", "steps"] []
  m_ways_along:mg "ways_along" = some (.ref a.f_ways_along)
  F_is_list:Fun K "is_list" "is_list" s_is_list a.f_is_list a.fd_is_list
  b_is_list:Binds K a.fd_is_list ["thing"] []
  m_is_list:mg "is_list" = some (.ref a.f_is_list)
  F_is_whole:Fun K "is_whole" "is_whole" s_is_whole a.f_is_whole a.fd_is_whole
  b_is_whole:Binds K a.fd_is_whole ["thing"] []
  m_is_whole:mg "is_whole" = some (.ref a.f_is_whole)
  F_is_name:Fun K "is_name" "is_name" s_is_name a.f_is_name a.fd_is_name
  b_is_name:Binds K a.fd_is_name ["thing"] []
  m_is_name:mg "is_name" = some (.ref a.f_is_name)
  F_are_points:Fun K "are_points" "are_points" s_are_points a.f_are_points a.fd_are_points
  b_are_points:Binds K a.fd_are_points ["thing"] []
  m_are_points:mg "are_points" = some (.ref a.f_are_points)
  F_is_tie:Fun K "is_tie" "is_tie" s_is_tie a.f_is_tie a.fd_is_tie
  b_is_tie:Binds K a.fd_is_tie ["thing", "points"] []
  m_is_tie:mg "is_tie" = some (.ref a.f_is_tie)
  F_are_ties:Fun K "are_ties" "are_ties" s_are_ties a.f_are_ties a.fd_are_ties
  b_are_ties:Binds K a.fd_are_ties ["thing", "points"] []
  m_are_ties:mg "are_ties" = some (.ref a.f_are_ties)
  F_Web_init:Fun K "__init__" "Web.__init__" s_Web_init a.f_Web_init a.fd_Web_init
  b_Web_init:Binds K a.fd_Web_init ["self", "points", "ties"] []
  F_Web_points:Fun K "points" "Web.points" s_Web_points a.f_Web_points a.fd_Web_points
  b_Web_points:Binds K a.fd_Web_points ["self"] []
  F_Web_ties:Fun K "ties" "Web.ties" s_Web_ties a.f_Web_ties a.fd_Web_ties
  b_Web_ties:Binds K a.fd_Web_ties ["self"] []
  F_Web_many:Fun K "many" "Web.many" s_Web_many a.f_Web_many a.fd_Web_many
  b_Web_many:Binds K a.fd_Web_many ["self"] []
  F_is_point:Fun K "is_point" "is_point" s_is_point a.f_is_point a.fd_is_point
  b_is_point:Binds K a.fd_is_point ["web", "thing"] []
  m_is_point:mg "is_point" = some (.ref a.f_is_point)
  F_is_number:Fun K "is_number" "is_number" s_is_number a.f_is_number a.fd_is_number
  b_is_number:Binds K a.fd_is_number ["web", "thing"] []
  m_is_number:mg "is_number" = some (.ref a.f_is_number)
  F_with_one_more:Fun K "with_one_more" "with_one_more" s_with_one_more a.f_with_one_more a.fd_with_one_more
  b_with_one_more:Binds K a.fd_with_one_more ["fixed", "number", "lead"] []
  m_with_one_more:mg "with_one_more" = some (.ref a.f_with_one_more)
  F_is_far_apart:Fun K "is_far_apart" "is_far_apart" s_is_far_apart a.f_is_far_apart a.fd_is_far_apart
  b_is_far_apart:Binds K a.fd_is_far_apart ["web", "number", "a", "b", "fixed"] []
  m_is_far_apart:mg "is_far_apart" = some (.ref a.f_is_far_apart)
  F_is_far_paper:Fun K "is_far_paper" "is_far_paper" s_is_far_paper a.f_is_far_paper a.fd_is_far_paper
  b_is_far_paper:Binds K a.fd_is_far_paper ["web", "number", "thing", "fixed"] []
  m_is_far_paper:mg "is_far_paper" = some (.ref a.f_is_far_paper)
  F_is_fork_paper:Fun K "is_fork_paper" "is_fork_paper" s_is_fork_paper a.f_is_fork_paper a.fd_is_fork_paper
  b_is_fork_paper:Binds K a.fd_is_fork_paper ["web", "number", "thing", "fixed"] []
  m_is_fork_paper:mg "is_fork_paper" = some (.ref a.f_is_fork_paper)
  F_is_paper:Fun K "is_paper" "is_paper" s_is_paper a.f_is_paper a.fd_is_paper
  b_is_paper:Binds K a.fd_is_paper ["web", "number", "thing", "fixed"] []
  m_is_paper:mg "is_paper" = some (.ref a.f_is_paper)
  F_reads_paper:Fun K "reads_paper" "reads_paper" s_reads_paper a.f_reads_paper a.fd_reads_paper
  b_reads_paper:Binds K a.fd_reads_paper ["web", "number", "thing"] []
  m_reads_paper:mg "reads_paper" = some (.ref a.f_reads_paper)
  F_pot:Fun K "_law_pot" "_law_pot" s_pot a.f_pot a.fd_pot
  b_pot:Binds K a.fd_pot ["_law_script", "_law_k"] []
  m_pot:mg "_law_pot" = some (.ref a.f_pot)
  F_take:Fun K "_law_take" "_law_take" s_take a.f_take a.fd_take
  b_take:Binds K a.fd_take ["_law_pot_here", "_law_many"] []
  m_take:mg "_law_take" = some (.ref a.f_take)
  F_names:Fun K "_law_names" "_law_names" s_names a.f_names a.fd_names
  b_names:Binds K a.fd_names ["_law_pot_here", "_law_many"] []
  m_names:mg "_law_names" = some (.ref a.f_names)
  F_mixed:Fun K "_law_mixed" "_law_mixed" s_mixed a.f_mixed a.fd_mixed
  b_mixed:Binds K a.fd_mixed ["_law_pot_here", "_law_things"] []
  m_mixed:mg "_law_mixed" = some (.ref a.f_mixed)
  F_tie:Fun K "_law_tie" "_law_tie" s_tie a.f_tie a.fd_tie
  b_tie:Binds K a.fd_tie ["_law_pot_here", "_law_names_here"] []
  m_tie:mg "_law_tie" = some (.ref a.f_tie)
  F_web:Fun K "_law_web" "_law_web" s_web a.f_web a.fd_web
  b_web:Binds K a.fd_web ["_law_pot_here", "_law_points", "_law_most"] []
  m_web:mg "_law_web" = some (.ref a.f_web)
  F_far:Fun K "_law_far" "_law_far" s_far a.f_far a.fd_far
  b_far:Binds K a.fd_far ["_law_web_here", "_law_turns", "_law_a"] []
  m_far:mg "_law_far" = some (.ref a.f_far)
  F_leaf:Fun K "_law_leaf" "_law_leaf" s_leaf a.f_leaf a.fd_leaf
  b_leaf:Binds K a.fd_leaf ["_law_pot_here", "_law_web_here", "_law_turns", "_law_number", "_law_is_long"] []
  m_leaf:mg "_law_leaf" = some (.ref a.f_leaf)
  F_paper:Fun K "_law_paper" "_law_paper" s_paper a.f_paper a.fd_paper
  b_paper:Binds K a.fd_paper ["_law_pot_here", "_law_web_here", "_law_turns", "_law_number", "_law_deep", "_law_is_long"] []
  m_paper:mg "_law_paper" = some (.ref a.f_paper)
  F_odd:Fun K "_law_odd" "_law_odd" s_odd a.f_odd a.fd_odd
  b_odd:Binds K a.fd_odd ["_law_pot_here", "_law_web_here"] []
  m_odd:mg "_law_odd" = some (.ref a.f_odd)
  F_spoilt:Fun K "_law_spoilt" "_law_spoilt" s_spoilt a.f_spoilt a.fd_spoilt
  b_spoilt:Binds K a.fd_spoilt ["_law_pot_here", "_law_web_here", "_law_paper_here"] []
  m_spoilt:mg "_law_spoilt" = some (.ref a.f_spoilt)
  F_otherwise:Fun K "_law_otherwise" "_law_otherwise" s_otherwise a.f_otherwise a.fd_otherwise
  b_otherwise:Binds K a.fd_otherwise ["_law_pot_here", "_law_paper_here"] []
  m_otherwise:mg "_law_otherwise" = some (.ref a.f_otherwise)
  F_reads:Fun K "_law_reads" "_law_reads" s_reads a.f_reads a.fd_reads
  b_reads:Binds K a.fd_reads ["_law_web_here", "_law_turns", "_law_number", "_law_thing"] []
  m_reads:mg "_law_reads" = some (.ref a.f_reads)
  F_right:Fun K "_law_right" "_law_right" s_right a.f_right a.fd_right
  b_right:Binds K a.fd_right ["_law_pot_here"] []
  m_right:mg "_law_right" = some (.ref a.f_right)
  F_law:Fun K "law" "law" s_law a.f_law a.fd_law
  b_law:Binds K a.fd_law ["_law_script"] []
  m_law:mg "law" = some (.ref a.f_law)
  h_LETTERS:mg "LETTERS" = some a.u_LETTERS
  r_LETTERS:RelV (.str "abcdefghijklmnopqrstuvwxyz") a.u_LETTERS
  h_MOST_LETTERS:mg "MOST_LETTERS" = some a.u_MOST_LETTERS
  r_MOST_LETTERS:RelV (.int 4) a.u_MOST_LETTERS
  h_MOST_POINTS:mg "MOST_POINTS" = some a.u_MOST_POINTS
  r_MOST_POINTS:RelV (.int 9) a.u_MOST_POINTS
  h_MOST_TIES:mg "MOST_TIES" = some a.u_MOST_TIES
  r_MOST_TIES:RelV (.int 20) a.u_MOST_TIES
  h_MOST_FAR:mg "MOST_FAR" = some a.u_MOST_FAR
  r_MOST_FAR:RelV (.int 99) a.u_MOST_FAR
  m_Web:mg "Web" = some (.ref a.C_Web)
  c_Web:Cls K a.C_Web
  n_names:NoAttr K a.C_Web "names"
  n_pairs:NoAttr K a.C_Web "pairs"
  K_Web:Mk K a.C_Web a.f_Web_init
  M_Web_points:Meth K a.C_Web "points" a.f_Web_points
  M_Web_ties:Meth K a.C_Web "ties" a.f_Web_ties
  M_Web_many:Meth K a.C_Web "many" a.f_Web_many
  nm:Nm mg
  nm2:Nm2 mg
  nm3:Nm3 mg
end K92
namespace K92
open PySem L2
variable {P:Program} {w:World} {K:PySem.W.Frag} {mg:Str→Option Value} {base:Heap} {a:Adr}
def Pot (H:Hp) (p:Addr):Prop:=∃x y:Int,H p=some (.lst [.int x,.int y])∧0≤x∧0≤y∧y<4294967296
def sp_pot (K:PySem.W.Frag):Sp:=fun vs H Q _=>∃(l:Addr) (ns:List Int) (k:Nat),vs=[.ref l,.int k]∧SqL K H l (ns.map V.int)∧k<100∧∀p H',H p=none→Pot H' p→But p H H'→Q (.ref p) H'
def sp_take:Sp:=fun vs H Q _=>∃(p:Addr) (m:Int),vs=[.ref p,.int m]∧Pot H p∧0<m∧m<1000000∧∀(d:Int) H',0≤d→d<m→Pot H' p→But p H H'→Q (.int d) H'
theorem ok_pot (T:Txt K mg a):FnOk P w K mg base CX0 1 a.f_pot a.fd_pot ["_law_script", "_law_k"] (sp_pot K):=by
  refine T.F_pot.okL sc_pot (fun vs H Q E h=>?_) (fun cdv A outer s H vs Q E hr h=>?_)
  · obtain ⟨l,ns,k,rfl,_⟩:=h
    rfl
  · obtain ⟨l,ns,k,rfl,hS,hk,q⟩:=h
    refine ⟨_,(pss_cons (ps_set (i:=2) sc_pot.nd rfl (Or.inl rfl) (pe_ifExp (fpt_cmpR fop_lt (fpv 1) (pe_callB (flenQk (K:=K) rfl) rfl T.nm.len PySem.boot_len (pa_cons (fpv 0) pa_nil)) (nomark _)) (pe_ix (fixQk (K:=K) rfl) (fpv 0) (fpv 1) (fun _ _=>rfl)) pe_int))
      (pss_one (ps_ret (pe_lst (pa_cons (pe_callB (fcall_max2 rfl) rfl T.nm.max boot_max (pa_cons pe_int (pa_cons (pe_op fop_sub (pe_callB fcall_abs rfl T.nm.abs boot_abs (pa_cons (fpv 2) pa_nil)) (pe_op fop_pow pe_int pe_int)) pa_nil))) (pa_cons (pe_op fop_add (pe_op fop_add (pe_op fop_mod (pe_callB fcall_abs rfl T.nm.abs boot_abs (pa_cons (fpv 2) pa_nil)) pe_int) (pe_op fop_mul pe_int (fpv 1))) pe_int) pa_nil)))))),?_⟩
    have fin:∀(x y:Int),0≤x→0≤y→y<4294967296→∀p:Addr,H p=none→Q (.ref p) (upd H p (.lst [.int x,.int y])):=fun x y h1 h2 h3 p hp=>
      q p _ hp ⟨x,y,upd_same,h1,h2,h3⟩ fun b o hb e=>by rw [upd_ne hb];exact e
    simp -dsimp[cxOf,stC,-Bool.exists_bool,-List.map_take,-Prod.forall,-Prod.exists]
    refine ⟨_,.inl hS,tBr.of (fun h=>?_) (fun h=>?_)⟩
    · have hlt:k<ns.length:=by simpa using h
      simp -dsimp[cxOf,stC,-Bool.exists_bool,-List.map_take,-Prod.forall,-Prod.exists]
      refine ⟨_,.inl hS,.int (ns[k]'hlt),atI_nat (by simp [hlt]),?_⟩
      simp -dsimp[cxOf,stC,-Bool.exists_bool,-List.map_take,-Prod.forall,-Prod.exists]
      exact fin _ _ (zpa _) (zpb _ _) (zpc _ hk)
    · simp -dsimp[cxOf,stC,-Bool.exists_bool,-List.map_take,-Prod.forall,-Prod.exists]
      exact fin _ _ (by first | omega | (split <;> omega)) (by omega) (by omega)
theorem ok_take (T:Txt K mg a):FnOk P w K mg base CX0 1 a.f_take a.fd_take ["_law_pot_here", "_law_many"] sp_take:=by
  refine T.F_take.okL sc_take (fun vs H Q E h=>?_) (fun cdv A outer s H vs Q E hr h=>?_)
  · obtain ⟨p,m,rfl,_⟩:=h
    rfl
  · obtain ⟨p,m,rfl,⟨x,y,hp,hx,hy,hy2⟩,hm,hm2,q⟩:=h
    refine ⟨_,(pss_cons (ps_if (fpt_cmpR fop_gt (pe_ix (fixQk (K:=K) rfl) (fpv 0) pe_int (fun _ _=>rfl)) pe_int (nomark _)) (pss_cons (ps_asg (pe_callB fcall_divmod rfl T.nm.divmod boot_divmod (pa_cons (pe_ix (fixQk (K:=K) rfl) (fpv 0) pe_int (fun _ _=>rfl)) (pa_cons (fpv 1) pa_nil))) (PG.eqv (pg_tupk (K:=K) (n:=2) rfl rfl (PGs.eqv (pgs_cons (pg_sub (fpv 0) pe_int fset_list) (PGs.eqv (pgs_cons (pg_name (i:=2) sc_take.nd rfl (Or.inl rfl)) (PGs.mono pgs_nil fNil_t)) (fCons_eq _ _))) (fCons_eq _ _))) (fTup_eq _ _ _)))
      (pss_one (ps_ret (fpv 2)))) pss_nil)
      (pss_cons (ps_asg (pe_op fop_mod (pe_op fop_add (pe_op fop_mul (pe_ix (fixQk (K:=K) rfl) (fpv 0) pe_int (fun _ _=>rfl)) pe_int) pe_int) pe_int) (pg_sub (fpv 0) pe_int fset_list))
      (pss_one (ps_ret (pe_op fop_mod (pe_op fop_fdiv (pe_op fop_mod (pe_op fop_mul (pe_ix (fixQk (K:=K) rfl) (fpv 0) pe_int (fun _ _=>rfl)) (pe_ix (fixQk (K:=K) rfl) (fpv 0) pe_int (fun _ _=>rfl))) pe_int) pe_int) (fpv 1)))))),?_⟩
    have hl:SqL K H p [.int x,.int y]:=SqL.of hp
    simp -dsimp[cxOf,stC,-Bool.exists_bool,-List.map_take,-Prod.forall,-Prod.exists]
    refine ⟨_,.inl hl,_,atI_nat (j:=0) rfl,?_⟩
    simp -dsimp[cxOf,stC,-Bool.exists_bool,-List.map_take,-Prod.forall,-Prod.exists]
    refine tBr.of (fun h=>?_) (fun h=>?_)
    · simp -dsimp[cxOf,stC,-Bool.exists_bool,-List.map_take,-Prod.forall,-Prod.exists]
      refine ⟨_,.inl hl,_,atI_nat (j:=0) rfl,?_⟩
      simp -dsimp[cxOf,stC,-Bool.exists_bool,-List.map_take,-Prod.forall,-Prod.exists]
      refine ⟨⟨hm,by omega⟩,fun t ht=>?_⟩
      have npt:p≠t:=ne_of_none hp ht
      refine ⟨_,SqT.of upd_same,rfl,_,(by rw [upd_ne npt];exact hp),0,rfl,?_⟩
      refine q _ _ (Int.emod_nonneg _ (by omega)) (Int.emod_lt_of_pos _ hm) ⟨_,_,upd_same,Int.ediv_nonneg hx (by omega),hy,hy2⟩ fun b o hb e=>?_
      rw [upd_ne hb,upd_ne (ne_of_none e ht)]
      exact e
    · have z0:0≤(y * 48271+12345) % 2147483647:=Int.emod_nonneg _ (by decide)
      have z1:(y * 48271+12345) % 2147483647<2147483647:=Int.emod_lt_of_pos _ (by decide)
      simp -dsimp[cxOf,stC,-Bool.exists_bool,-List.map_take,-Prod.forall,-Prod.exists]
      refine ⟨_,.inl hl,_,atI_nat (j:=1) rfl,?_⟩
      simp -dsimp[cxOf,stC,-Bool.exists_bool,-List.map_take,-Prod.forall,-Prod.exists]
      refine ⟨_,hp,1,rfl,_,.inl (SqL.of upd_same),_,atI_nat (j:=1) rfl,_,.inl (SqL.of upd_same),_,atI_nat (j:=1) rfl,?_⟩
      simp -dsimp[cxOf,stC,-Bool.exists_bool,-List.map_take,-Prod.forall,-Prod.exists]
      refine ⟨⟨by omega,by omega⟩,hm,?_⟩
      refine q _ _ (Int.emod_nonneg _ (by omega)) (Int.emod_lt_of_pos _ hm) ⟨_,_,upd_same,hx,z0,by omega⟩ fun b o hb e=>?_
      rw [upd_ne hb]
      exact e
def sp_is_list:Sp:=fun vs H Q _=>∃p xs,vs=[.ref p]∧Sq H p xs∧∀H',Same H H'→Q (.bl true) H'
theorem ok_is_list (T:Txt K mg a):FnOk P w K mg base CX0 1 a.f_is_list a.fd_is_list ["thing"] sp_is_list:=by
  refine T.F_is_list.okL sc_is_list (fun vs H Q E h=>?_) (fun cdv A outer s H vs Q E hr h=>?_)
  · obtain ⟨p,xs,rfl,_⟩:=h
    rfl
  · obtain ⟨p,xs,rfl,hp,q⟩:=h
    refine ⟨_,(pss_one (ps_ret (pe_callB (fisi2k (K:=K) rfl) rfl T.nm.isinstance boot_isinstance (pa_cons (fpv 0) (pa_cons (pe_tup (pa_cons (pe_bltn (v:=.ty "list") rfl T.nm.list boot_list rfl) (pa_cons (pe_bltn (v:=.ty "tuple") rfl T.nm.tuple boot_tuple rfl) pa_nil))) pa_nil))))),?_⟩
    simp -dsimp[cxOf,stC,-Bool.exists_bool,-List.map_take,-Prod.forall,-Prod.exists]
    refine fun t ht=>⟨_,_,upd_same,?_⟩
    rcases (hp.same (same_upd ht)).ty (K:=K) with ty | ty
    ·exact ⟨_,ty,true,by simp [W.kitAny,W.kitOne],q _ (same_upd ht)⟩
    ·exact ⟨_,ty,true,by simp [W.kitAny,W.kitOne];rfl,q _ (same_upd ht)⟩
def sp_is_name:Sp:=fun vs H Q _=>∃x,vs=[.str x]∧x.length≤sizeLine∧∀H',Same H H'→Q (.bl (nameB x)) H'
theorem ok_is_name (T:Txt K mg a):FnOk P w K mg base CX0 1 a.f_is_name a.fd_is_name ["thing"] sp_is_name:=by
  refine T.F_is_name.okL sc_is_name (fun vs H Q E h=>?_) (fun cdv A outer s H vs Q E hr h=>?_)
  · obtain ⟨x,rfl,_⟩:=h
    rfl
  · obtain ⟨x,rfl,hx,q⟩:=h
    refine ⟨_,(pss_cons (ps_if (PW.pt (pw_or (pt_not (fpt_val (pe_callB (fisiTk (K:=K) rfl) rfl T.nm.isinstance boot_isinstance (pa_cons (fpv 0) (pa_cons (pe_bltn (v:=.ty "str") rfl T.nm.str boot_str rfl) pa_nil))))) (pw_or1 (pt_not (fpt_chain fop_le fop_le pe_int (pe_callB flenTk rfl T.nm.len PySem.boot_len (pa_cons (fpv 0) pa_nil)) (pe_glob rfl T.h_MOST_LETTERS T.r_MOST_LETTERS)))))) (pss_one (ps_ret pe_bl)) pss_nil)
      (pss_one (ps_ret (pe_callB (fcall_all rfl) rfl T.nm.all boot_all' (pa_cons (pe_comp rfl rfl (show CompScope (defScope s_is_name) _ ["thing"] ["sign"] [] ["sign"] from ⟨rfl,by decide +kernel,by decide +kernel,rfl,by decide +kernel,by decide +kernel⟩) rfl (PI.eqv (pi_str (fpv 0)) (fiStr_eq _)) (fun C s H fp pn=>(pg_name (i:=0) (show (["sign"]:List Str).Nodup by decide +kernel) rfl (Or.inl rfl))) (fun C s H fp pn=>pts_nil) (fun C s H fp pn=>(pe_cmpR (finS (K:=K) rfl) (fpv 0) (pe_glob rfl T.h_LETTERS T.r_LETTERS) rfl))) pa_nil))))),?_⟩
    simp -dsimp[cxOf,stC,-Bool.exists_bool,-List.map_take,-Prod.forall,-Prod.exists]
    refine ⟨_,.str x,_,kit_str_str K,tBr.neg rfl ?_⟩
    simp -dsimp[cxOf,stC,-Bool.exists_bool,-List.map_take,-Prod.forall,-Prod.exists]
    refine ⟨hx,tBr.of (fun h1=>?_) (fun h1=>?_)⟩
    · have h1':1≤x.length:=by simp at h1;omega
      simp -dsimp[cxOf,stC,-Bool.exists_bool,-List.map_take,-Prod.forall,-Prod.exists]
      refine tBr.of (fun h2=>?_) (fun h2=>?_)
      · have h2':¬x.length≤4:=by simp at h2;omega
        have e:nameB x=false:=by
          unfold nameB
          rw [decide_eq_false h2']
          simp
        rw [e] at q
        simp -dsimp[cxOf,stC,-Bool.exists_bool,-List.map_take,-Prod.forall,-Prod.exists]
        exact q H (Same.refl H)
      · have h2':x.length≤4:=by simp at h2;omega
        simp -dsimp[cxOf,stC,-Bool.exists_bool,-List.map_take,-Prod.forall,-Prod.exists]
        refine fun D hD=>cmS (fun i σ' H'=>(∃o,σ'=[o])∧Same H H'∧H' D=some (.lst ((x.cps.toList.take i).map fun c=>.bl (isL c)))) ⟨⟨none,rfl⟩,same_upd hD,by simpa using upd_same⟩ ?_ ?_
        · rintro i c σ' H' hc ⟨⟨o,rfl⟩,sm,hDD⟩
          have h4:4<sizeLine:=by decide
          have hsz:x.cps.size=x.length:=rfl
          simp -dsimp[cxOf,stC,-Bool.exists_bool,-List.map_take,-Prod.forall,-Prod.exists]
          refine ⟨_,hDD,by simp;omega,same_upd2 sm hD,?_⟩
          rw [upd_same,take_one (l:=x.cps.toList) (x:=c) (by simpa using hc),List.map_append]
          rfl
        · rintro σ' H' ⟨⟨o,rfl⟩,sm,hDD⟩
          simp -dsimp[cxOf,stC,-Bool.exists_bool,-List.map_take,-Prod.forall,-Prod.exists]
          refine ⟨_,hDD,_,blAll_map isL _,?_⟩
          rw [all_map_id]
          have e:nameB x=(x.cps.toList.take x.cps.size).all isL:=by
            unfold nameB
            rw [decide_eq_true h1',decide_eq_true h2',show x.cps.toList.take x.cps.size=x.cps.toList from List.take_of_length_le (by simp)]
            rfl
          rw [← e]
          exact q H' sm
    · have h1':¬1≤x.length:=by simp at h1;omega
      have e:nameB x=false:=by
        unfold nameB
        rw [decide_eq_false h1']
        simp
      rw [e] at q
      simp -dsimp[cxOf,stC,-Bool.exists_bool,-List.map_take,-Prod.forall,-Prod.exists]
      exact q H (Same.refl H)
theorem str_item {xs:List Str} {i:Nat} {x:V} (h:(xs.map V.str)[i]? = some x):∃z,z∈xs∧x = .str z:=by
  rw [List.getElem?_map] at h
  cases e:xs[i]? with
  | none=>rw [e] at h;cases h
  | some z=>
    rw [e] at h
    exact ⟨z,List.mem_of_getElem? e,(Option.some.inj h).symm⟩
theorem name_short {x:Str} (h:nameB x=true):x.length≤sizeLine:=by
  unfold nameB at h
  simp at h
  have h4:4≤sizeLine:=by decide
  omega
theorem blAll_rep:∀n,blAll (List.replicate n (.bl true)) (List.replicate n true)
  | 0=>rfl
  | n+1=>⟨true,_,rfl,rfl,blAll_rep n⟩
theorem keysOf_str:∀xs:List Str,keysOf (xs.map V.str)=xs.map Sum.inr
  | []=>rfl
  | x::xs=>by
    show Sum.inr x::keysOf (xs.map V.str)=_
    rw [keysOf_str xs]
    rfl
theorem uq_str {xs:List Str} (h:xs.Nodup):(uqN (fun i=>(keysOf (xs.map V.str))[i]?.getD (Sum.inl 0)) (xs.map V.str).length).length=xs.length:=by
  rw [keysOf_str,List.length_map]
  refine (uq_all _ xs.length fun i j hi hj e=>?_).1
  simp [hi,hj] at e
  exact (List.getElem_inj h).mp e
structure Pts (xs:List Str):Prop where
  len:1≤xs.length∧xs.length≤9
  nm:∀x∈xs,nameB x=true
  nd:xs.Nodup
def sp_are_points:Sp:=fun vs H Q _=>∃p xs,vs=[.ref p]∧Sq H p (xs.map V.str)∧Pts xs∧∀H',Same H H'→Q (.bl true) H'
theorem ok_are_points (T:Txt K mg a):FnOk P w K mg base CX0 2 a.f_are_points a.fd_are_points ["thing"] sp_are_points:=by
  refine T.F_are_points.okL sc_are_points (fun vs H Q E h=>?_) (fun cdv A outer s H vs Q E hr h=>?_)
  · obtain ⟨p,xs,rfl,_⟩:=h
    rfl
  · obtain ⟨p,xs,rfl,hp,hx,q⟩:=h
    refine ⟨_,(pss_cons (ps_if (PW.pt (pw_or (pt_not (fpt_val (PE.eqv (pe_call (ok_is_list (K:=K) T) (hr.mono (by decide)) rfl T.m_is_list T.F_is_list.kp T.b_is_list .nil pass0 (pa_cons (fpv 0) pa_nil)) (fCall_eq _ _ _)))) (pw_or1 (pt_not (fpt_chain fop_le fop_le pe_int (pe_callB (flenQk (K:=K) rfl) rfl T.nm.len PySem.boot_len (pa_cons (fpv 0) pa_nil)) (pe_glob rfl T.h_MOST_POINTS T.r_MOST_POINTS)))))) (pss_one (ps_ret pe_bl)) pss_nil)
      (pss_one (ps_ret (fpe_and (pe_callB (fcall_all rfl) rfl T.nm.all boot_all' (pa_cons (pe_comp rfl rfl (show CompScope (defScope s_are_points) _ ["thing"] ["one"] [] ["one"] from ⟨rfl,by decide +kernel,by decide +kernel,rfl,by decide +kernel,by decide +kernel⟩) rfl (PI.eqv (pi_seqk (K:=K) rfl (fpv 0)) (fiSeq_eq _ _)) (fun C s H fp pn=>(pg_name (i:=0) (show (["one"]:List Str).Nodup by decide +kernel) rfl (Or.inl rfl))) (fun C s H fp pn=>pts_nil) (fun C s H fp pn=>(PE.eqv (pe_call (ok_is_name (K:=K) T) (hr.mono (by decide)) rfl T.m_is_name T.F_is_name.kp T.b_is_name .nil pass0 (pa_cons (fpv 0) pa_nil)) (fCall_eq _ _ _)))) pa_nil)) (pe_one (pe_cmpR fop_eq (pe_callB call_lenS rfl T.nm.len PySem.boot_len (pa_cons (pe_callTy (call_setK rfl) rfl T.nm.set boot_setT (pa_cons (fpv 0) pa_nil)) pa_nil)) (pe_callB (flenQk (K:=K) rfl) rfl T.nm.len PySem.boot_len (pa_cons (fpv 0) pa_nil)) (nomark _))))))),?_⟩
    have hl:=hx.len
    have h60:60<sizeLine:=by decide
    simp -dsimp[cxOf,stC,-Bool.exists_bool,-List.map_take,-Prod.forall,-Prod.exists]
    refine ⟨p,_,rfl,hp,fun H1 s1=>?_⟩
    have hp1:=hp.same s1
    simp -dsimp[cxOf,stC,-Bool.exists_bool,-List.map_take,-Prod.forall,-Prod.exists]
    refine ⟨_,hp1.q,tBr.pos (by simp;omega) ?_⟩
    simp -dsimp[cxOf,stC,-Bool.exists_bool,-List.map_take,-Prod.forall,-Prod.exists]
    refine tBr.neg (by simp;omega) ?_
    obtain ⟨b,hb⟩:=hp.b
    simp -dsimp[cxOf,stC,-Bool.exists_bool,-List.map_take,-Prod.forall,-Prod.exists]
    refine ⟨b,⟨_,hb K H1 s1⟩,fun D hD=>cmQ (xs.map V.str) (fun i σ' H'=>(∃o,σ'=[o])∧Same H1 H'∧H' D=some (.lst (List.replicate i (.bl true)))) ⟨⟨none,rfl⟩,same_upd hD,upd_same⟩ (fun i σ' H' _ h=>hb K H' (s1.trans h.2.1)) ?_ ?_⟩
    · rintro i x σ' H' hi ⟨⟨o,rfl⟩,sm,hDD⟩
      obtain ⟨z,hz,rfl⟩:=str_item hi
      have hi2:i<xs.length:=by simpa using (List.getElem?_eq_some_iff.mp hi).1
      simp -dsimp[cxOf,stC,-Bool.exists_bool,-List.map_take,-Prod.forall,-Prod.exists]
      refine ⟨z,rfl,name_short (hx.nm z hz),fun H2 s2=>?_⟩
      simp -dsimp[cxOf,stC,-Bool.exists_bool,-List.map_take,-Prod.forall,-Prod.exists]
      refine ⟨_,s2 _ _ hDD,by simp;omega,same_upd2 (sm.trans s2) hD,?_⟩
      rw [upd_same,hx.nm z hz,← List.replicate_succ']
    · rintro σ' H' ⟨⟨o,rfl⟩,sm,hDD⟩
      have hp2:=hp1.same sm
      simp -dsimp[cxOf,stC,-Bool.exists_bool,-List.map_take,-Prod.forall,-Prod.exists]
      refine ⟨_,hDD,_,blAll_rep _,?_⟩
      rw [show (List.replicate (xs.map V.str).length true).all id=true by simp]
      simp -dsimp[cxOf,stC,-Bool.exists_bool,-List.map_take,-Prod.forall,-Prod.exists]
      refine ⟨_,hp2.q,by simp [isKey],by simp;unfold scanBound;omega,fun t ht=>⟨_,upd_same,_,(hp2.same (same_upd ht)).q,?_⟩⟩
      rw [decide_eq_true (by rw [uq_str hx.nd];simp)]
      exact q _ (s1.trans (sm.trans (same_upd ht)))
theorem inV_str {x:Str} {xs:List Str} (h:x∈xs):inV (.str x) (xs.map V.str)=true:=by
  unfold inV
  rw [List.any_eq_true]
  exact ⟨.str x,List.mem_map.mpr ⟨x,h,rfl⟩,by simp [eqV]⟩
theorem flat_str (xs:List Str):(xs.map V.str).all flatV=true:=by
  rw [List.all_eq_true]
  intro v hv
  obtain ⟨x,_,rfl⟩:=List.mem_map.mp hv
  rfl
def sp_is_tie:Sp:=fun vs H Q _=>∃t p x y xs,vs=[.ref t,.ref p]∧Sq H t [.str x,.str y]∧Sq H p (xs.map V.str)∧Pts xs∧x∈xs∧y∈xs∧x≠y∧∀H',Same H H'→Q (.bl true) H'
theorem ok_is_tie (T:Txt K mg a):FnOk P w K mg base CX0 2 a.f_is_tie a.fd_is_tie ["thing", "points"] sp_is_tie:=by
  refine T.F_is_tie.okL sc_is_tie (fun vs H Q E h=>?_) (fun cdv A outer s H vs Q E hr h=>?_)
  · obtain ⟨t,p,x,y,xs,rfl,_⟩:=h
    rfl
  · obtain ⟨t,p,x,y,xs,rfl,ht,hp,hx,hxm,hym,hne,q⟩:=h
    refine ⟨_,(pss_cons (ps_if (PW.pt (pw_or (pt_not (fpt_val (PE.eqv (pe_call (ok_is_list (K:=K) T) (hr.mono (by decide)) rfl T.m_is_list T.F_is_list.kp T.b_is_list .nil pass0 (pa_cons (fpv 0) pa_nil)) (fCall_eq _ _ _)))) (pw_or1 (fpt_cmpR fop_ne (pe_callB (flenQk (K:=K) rfl) rfl T.nm.len PySem.boot_len (pa_cons (fpv 0) pa_nil)) pe_int (nomark _))))) (pss_one (ps_ret pe_bl)) pss_nil)
      (pss_cons (ps_if (pt_not (fpt_val (pe_callB (fcall_all rfl) rfl T.nm.all boot_all' (pa_cons (pe_comp rfl rfl (show CompScope (defScope s_is_tie) _ ["thing", "points"] ["end"] [1] ["end", "points"] from ⟨rfl,by decide +kernel,by decide +kernel,rfl,by decide +kernel,by decide +kernel⟩) rfl (PI.eqv (pi_seqk (K:=K) rfl (fpv 0)) (fiSeq_eq _ _)) (fun C s H fp pn=>(pg_name (i:=0) (show (["end", "points"]:List Str).Nodup by decide +kernel) rfl (Or.inl rfl))) (fun C s H fp pn=>pts_nil) (fun C s H fp pn=>(fpe_and (PE.eqv (pe_call (ok_is_name (K:=K) T) (hr.mono (by decide)) rfl T.m_is_name T.F_is_name.kp T.b_is_name .nil pass0 (pa_cons (fpv 0) pa_nil)) (fCall_eq _ _ _)) (pe_one (pe_cmpR (finK (K:=K) rfl) (fpv 0) (fpv 1) rfl))))) pa_nil)))) (pss_one (ps_ret pe_bl)) pss_nil)
      (pss_one (ps_ret (pe_cmpR fop_ne (pe_ix (fixQk (K:=K) rfl) (fpv 0) pe_int (fun _ _=>rfl)) (pe_ix (fixQk (K:=K) rfl) (fpv 0) pe_int (fun _ _=>rfl)) (nomark _)))))),?_⟩
    have h60:60<sizeLine:=by decide
    simp -dsimp[cxOf,stC,-Bool.exists_bool,-List.map_take,-Prod.forall,-Prod.exists]
    refine ⟨t,_,rfl,ht,fun H1 s1=>?_⟩
    simp -dsimp[cxOf,stC,-Bool.exists_bool,-List.map_take,-Prod.forall,-Prod.exists]
    refine ⟨_,(ht.same s1).q,false,rfl,tBr.neg rfl ?_⟩
    obtain ⟨b,hb⟩:=ht.b
    simp -dsimp[cxOf,stC,-Bool.exists_bool,-List.map_take,-Prod.forall,-Prod.exists]
    refine ⟨b,⟨_,hb K H1 s1⟩,fun D hD=>cmQ [.str x,.str y] (fun i σ' H'=>(∃o,σ'=[o,some (.ref p)])∧Same H1 H'∧H' D=some (.lst (List.replicate i (.bl true)))) ⟨⟨none,rfl⟩,same_upd hD,upd_same⟩ (fun i σ' H' _ h=>hb K H' (s1.trans h.2.1)) ?_ ?_⟩
    · rintro i v σ' H' hi ⟨⟨o,rfl⟩,sm,hDD⟩
      obtain ⟨z,hz,rfl⟩:∃z,z∈xs∧v = .str z:=by
        match i,hi with
        | 0,hi=>exact ⟨x,hxm,(Option.some.inj hi).symm⟩
        | 1,hi=>exact ⟨y,hym,(Option.some.inj hi).symm⟩
      have hi2:i<2:=(List.getElem?_eq_some_iff.mp hi).1
      simp -dsimp[cxOf,stC,-Bool.exists_bool,-List.map_take,-Prod.forall,-Prod.exists]
      refine ⟨z,rfl,name_short (hx.nm z hz),fun H2 s2=>?_⟩
      rw [hx.nm z hz]
      simp -dsimp[cxOf,stC,-Bool.exists_bool,-List.map_take,-Prod.forall,-Prod.exists]
      refine ⟨_,(hp.same (s1.trans (sm.trans s2))).q,rfl,List.all_eq_true.mp (flat_str xs),_,s2 _ _ hDD,by simp;omega,same_upd2 (sm.trans s2) hD,?_⟩
      rw [upd_same,inV_str hz,← List.replicate_succ']
    · rintro σ' H' ⟨⟨o,rfl⟩,sm,hDD⟩
      have ht2:=ht.same (s1.trans sm)
      simp -dsimp[cxOf,stC,-Bool.exists_bool,-List.map_take,-Prod.forall,-Prod.exists]
      refine ⟨_,hDD,_,blAll_rep _,?_⟩
      rw [show (List.replicate [V.str x,V.str y].length true).all id=true by simp]
      simp -dsimp[cxOf,stC,-Bool.exists_bool,-List.map_take,-Prod.forall,-Prod.exists]
      refine ⟨_,ht2.q,_,atI_nat (j:=0) rfl,_,ht2.q,_,atI_nat (j:=1) rfl,?_⟩
      simp -dsimp[cxOf,stC,-Bool.exists_bool,-List.map_take,-Prod.forall,-Prod.exists]
      refine ⟨true,by simp [hne],?_⟩
      exact q _ (s1.trans sm)
def PairAt (H:Hp) (v:V) (e:Str×Str):Prop:=∃t,v = .ref t∧Sq H t [.str e.1,.str e.2]
theorem PairAt.same {H H':Hp} {v:V} {e:Str×Str} (h:PairAt H v e) (s:Same H H'):PairAt H' v e:=by
  obtain ⟨t,rfl,h⟩:=h
  exact ⟨t,rfl,h.same s⟩
def PairsAt (H:Hp) (vs:List V) (ps:List (Str×Str)):Prop:=vs.length=ps.length∧∀(i:Nat) v e,vs[i]? = some v→ps[i]? = some e→PairAt H v e
theorem PairsAt.same {H H':Hp} {vs:List V} {ps:List (Str×Str)} (h:PairsAt H vs ps) (s:Same H H'):PairsAt H' vs ps:=⟨h.1,fun i v e h1 h2=>(h.2 i v e h1 h2).same s⟩
theorem PairsAt.at {H:Hp} {vs:List V} {ps:List (Str×Str)} (h:PairsAt H vs ps) {i:Nat} {v:V} (hv:vs[i]? = some v):∃e,ps[i]? = some e∧PairAt H v e:=by
  have hi:i<ps.length:=by rw [← h.1];exact (List.getElem?_eq_some_iff.mp hv).1
  exact ⟨ps[i],by simp [hi],h.2 i v _ hv (by simp [hi])⟩
structure Ties (xs:List Str) (ps:List (Str×Str)):Prop where
  len:ps.length≤20
  ok:∀e∈ps,e.1∈xs∧e.2∈xs∧e.1≠e.2
def sp_are_ties:Sp:=fun vs H Q _=>∃t p tv xs ps,vs=[.ref t,.ref p]∧Sq H t tv∧PairsAt H tv ps∧Sq H p (xs.map V.str)∧Pts xs∧Ties xs ps∧∀H',Same H H'→Q (.bl true) H'
theorem ok_are_ties (T:Txt K mg a):FnOk P w K mg base CX0 3 a.f_are_ties a.fd_are_ties ["thing", "points"] sp_are_ties:=by
  refine T.F_are_ties.okL sc_are_ties (fun vs H Q E h=>?_) (fun cdv A outer s H vs Q E hr h=>?_)
  · obtain ⟨t,p,tv,xs,ps,rfl,_⟩:=h
    rfl
  · obtain ⟨t,p,tv,xs,ps,rfl,ht,hpr,hp,hx,hts,q⟩:=h
    refine ⟨_,(pss_cons (ps_if (PW.pt (pw_or (pt_not (fpt_val (PE.eqv (pe_call (ok_is_list (K:=K) T) (hr.mono (by decide)) rfl T.m_is_list T.F_is_list.kp T.b_is_list .nil pass0 (pa_cons (fpv 0) pa_nil)) (fCall_eq _ _ _)))) (pw_or1 (fpt_cmpR fop_gt (pe_callB (flenQk (K:=K) rfl) rfl T.nm.len PySem.boot_len (pa_cons (fpv 0) pa_nil)) (pe_glob rfl T.h_MOST_TIES T.r_MOST_TIES) (nomark _))))) (pss_one (ps_ret pe_bl)) pss_nil)
      (pss_one (ps_ret (pe_callB (fcall_all rfl) rfl T.nm.all boot_all' (pa_cons (pe_comp rfl rfl (show CompScope (defScope s_are_ties) _ ["thing", "points"] ["one"] [1] ["one", "points"] from ⟨rfl,by decide +kernel,by decide +kernel,rfl,by decide +kernel,by decide +kernel⟩) rfl (PI.eqv (pi_seqk (K:=K) rfl (fpv 0)) (fiSeq_eq _ _)) (fun C s H fp pn=>(pg_name (i:=0) (show (["one", "points"]:List Str).Nodup by decide +kernel) rfl (Or.inl rfl))) (fun C s H fp pn=>pts_nil) (fun C s H fp pn=>(PE.eqv (pe_call (ok_is_tie (K:=K) T) (hr.mono (by decide)) rfl T.m_is_tie T.F_is_tie.kp T.b_is_tie .nil pass0 (pa_cons (fpv 0) (pa_cons (fpv 1) pa_nil))) (fCall_eq _ _ _)))) pa_nil))))),?_⟩
    have hlen:=hpr.1
    have h20:=hts.len
    have h60:60<sizeLine:=by decide
    simp -dsimp[cxOf,stC,-Bool.exists_bool,-List.map_take,-Prod.forall,-Prod.exists]
    refine ⟨t,_,rfl,ht,fun H1 s1=>?_⟩
    simp -dsimp[cxOf,stC,-Bool.exists_bool,-List.map_take,-Prod.forall,-Prod.exists]
    refine ⟨_,(ht.same s1).q,tBr.neg (by simp;omega) ?_⟩
    obtain ⟨b,hb⟩:=ht.b
    simp -dsimp[cxOf,stC,-Bool.exists_bool,-List.map_take,-Prod.forall,-Prod.exists]
    refine ⟨b,⟨_,hb K H1 s1⟩,fun D hD=>cmQ tv (fun i σ' H'=>(∃o,σ'=[o,some (.ref p)])∧Same H1 H'∧H' D=some (.lst (List.replicate i (.bl true)))) ⟨⟨none,rfl⟩,same_upd hD,upd_same⟩ (fun i σ' H' _ h=>hb K H' (s1.trans h.2.1)) ?_ ?_⟩
    · rintro i v σ' H' hi ⟨⟨o,rfl⟩,sm,hDD⟩
      obtain ⟨e,he,t2,rfl,ht2⟩:=hpr.at hi
      have hi2:i<tv.length:=(List.getElem?_eq_some_iff.mp hi).1
      obtain ⟨h1,h2,h3⟩:=hts.ok e (List.mem_of_getElem? he)
      have s2:=s1.trans sm
      simp -dsimp[cxOf,stC,-Bool.exists_bool,-List.map_take,-Prod.forall,-Prod.exists]
      refine ⟨t2,p,e.1,e.2,xs,rfl,ht2.same s2,hp.same s2,hx,h1,h2,h3,fun H2 s3=>?_⟩
      simp -dsimp[cxOf,stC,-Bool.exists_bool,-List.map_take,-Prod.forall,-Prod.exists]
      refine ⟨_,s3 _ _ hDD,by simp;omega,same_upd2 (sm.trans s3) hD,?_⟩
      rw [upd_same,← List.replicate_succ']
    · rintro σ' H' ⟨⟨o,rfl⟩,sm,hDD⟩
      simp -dsimp[cxOf,stC,-Bool.exists_bool,-List.map_take,-Prod.forall,-Prod.exists]
      refine ⟨_,hDD,_,blAll_rep _,?_⟩
      rw [show (List.replicate tv.length true).all id=true by simp]
      exact q _ (s1.trans sm)
def TupsAt (H:Hp) (vs:List V) (ps:List (Str×Str)):Prop:=vs.length=ps.length∧∀(i:Nat) v e,vs[i]? = some v→ps[i]? = some e→∃t,v = .ref t∧H t=some (.tup [.str e.1,.str e.2])
def TupKeep (H H':Hp):Prop:=∀b xs,H b=some (.tup xs)→H' b=some (.tup xs)
theorem TupsAt.keep {H H':Hp} {vs:List V} {ps:List (Str×Str)} (h:TupsAt H vs ps) (s:TupKeep H H'):TupsAt H' vs ps:=⟨h.1,fun i v e h1 h2=>by
  obtain ⟨t,rfl,e⟩:=h.2 i v e h1 h2
  exact ⟨t,rfl,s _ _ e⟩⟩
theorem TupsAt.snoc {H:Hp} {vs:List V} {ps:List (Str×Str)} {t:Addr} {e:Str×Str} (h:TupsAt H vs ps) (ht:H t=some (.tup [.str e.1,.str e.2])):TupsAt H (vs++[.ref t]) (ps++[e]):=by
  refine ⟨by simp [h.1],fun i v d h1 h2=>?_⟩
  by_cases hi:i<vs.length
  · rw [List.getElem?_append_left hi] at h1
    rw [List.getElem?_append_left (by rw [← h.1];exact hi)] at h2
    exact h.2 i v d h1 h2
  · rw [List.getElem?_append_right (by omega)] at h1
    rw [List.getElem?_append_right (by rw [← h.1];omega),← h.1] at h2
    cases hk:i - vs.length with
    | zero=>
      rw [hk] at h1 h2
      cases h1
      cases h2
      exact ⟨t,rfl,ht⟩
    | succ j=>
      rw [hk] at h1
      simp at h1
structure WebAt (C:Addr) (H:Hp) (o:Addr) (xs:List Str) (ps:List (Str×Str)):Prop where
  ex:∃dx n m tv,H o=some (.ins C dx [("names",V.ref n),("pairs",V.ref m)])∧H n=some (.tup (xs.map V.str))∧H m=some (.tup tv)∧TupsAt H tv ps∧ps.length≤20
def sp_init (C:Addr):Sp:=fun vs H Q _=>∃o dx p t tv xs ps,vs=[.ref o,.ref p,.ref t]∧H o=some (.ins C dx [])∧Sq H t tv∧PairsAt H tv ps∧Sq H p (xs.map V.str)∧Pts xs∧Ties xs ps∧
  ∀H',WebAt C H' o xs ps→But o H H'→Q .non H'
theorem ok_Web_init (T:Txt K mg a):FnOk P w K mg base CX0 4 a.f_Web_init a.fd_Web_init ["self", "points", "ties"] (sp_init a.C_Web):=by
  refine T.F_Web_init.okL sc_Web_init (fun vs H Q E h=>?_) (fun cdv A outer s H vs Q E hr h=>?_)
  · obtain ⟨o,dx,p,t,tv,xs,ps,rfl,_⟩:=h
    rfl
  · obtain ⟨o,dx,p,t,tv,xs,ps,rfl,ho,ht,hpr,hp,hx,hts,q⟩:=h
    refine ⟨_,(pss_cons (ps_if (pt_not (fpt_val (PE.eqv (pe_call (ok_are_points (K:=K) T) (hr.mono (by decide)) rfl T.m_are_points T.F_are_points.kp T.b_are_points .nil pass0 (pa_cons (fpv 1) pa_nil)) (fCall_eq _ _ _)))) (pss_one ps_never) pss_nil)
      (pss_cons (ps_if (pt_not (fpt_val (PE.eqv (pe_call (ok_are_ties (K:=K) T) (hr.mono (by decide)) rfl T.m_are_ties T.F_are_ties.kp T.b_are_ties .nil pass0 (pa_cons (fpv 2) (pa_cons (fpv 1) pa_nil))) (fCall_eq _ _ _)))) (pss_one ps_never) pss_nil)
      (pss_cons (ps_fldk (K:=K) rfl (fpv 0) (pe_callTy ftupleOfS rfl T.nm.tuple boot_tuple (pa_cons (fpv 1) pa_nil)) rfl)
      (pss_one (ps_fldk (K:=K) rfl (fpv 0) (pe_callTy ftupleOfS rfl T.nm.tuple boot_tuple (pa_cons (pe_comp rfl rfl (show CompScope (defScope s_Web_init) _ ["self", "points", "ties"] ["pair"] [] ["pair"] from ⟨rfl,by decide +kernel,by decide +kernel,rfl,by decide +kernel,by decide +kernel⟩) rfl (PI.eqv (pi_seqk (K:=K) rfl (fpv 2)) (fiSeq_eq _ _)) (fun C s H fp pn=>(pg_name (i:=0) (show (["pair"]:List Str).Nodup by decide +kernel) rfl (Or.inl rfl))) (fun C s H fp pn=>pts_nil) (fun C s H fp pn=>(pe_tup (pa_cons (pe_ix (fixQk (K:=K) rfl) (fpv 0) pe_int (fun _ _=>rfl)) (pa_cons (pe_ix (fixQk (K:=K) rfl) (fpv 0) pe_int (fun _ _=>rfl)) pa_nil))))) pa_nil)) rfl))))),?_⟩
    simp -dsimp[cxOf,stC,-Bool.exists_bool,-List.map_take,-Prod.forall,-Prod.exists]
    refine ⟨p,xs,rfl,hp,hx,fun H1 s1=>?_⟩
    simp -dsimp[cxOf,stC,-Bool.exists_bool,-List.map_take,-Prod.forall,-Prod.exists]
    refine ⟨t,p,tv,xs,ps,rfl,ht.same s1,hpr.same s1,hp.same s1,hx,hts,fun H2 s2'=>?_⟩
    have s2:=s1.trans s2'
    simp -dsimp[cxOf,stC,-Bool.exists_bool,-List.map_take,-Prod.forall,-Prod.exists]
    refine ⟨_,hp.same s2,fun n H3 hn s3'=>?_⟩
    have s3:=s2.trans s3'
    have nno:n≠o:=ne_of hn (s3 _ _ ho) (by intro z;cases z)
    refine ⟨_,_,_,s3 _ _ ho,T.c_Web,T.n_names,by simp,?_⟩
    have hto:t≠o:=by rcases ht with z | z <;> exact ne_of z ho (by intro y;cases y)
    have keepO:∀{ob:HO} {b:Addr} {u:HO},b≠o→H b=some u→upd H3 o ob b=some u:=fun hb e=>by rw [upd_ne hb];exact s3 _ _ e
    obtain ⟨b,hb⟩:∃b,∀H',(∀c u,c≠o→H c=some u→H' c=some u)→SqB b K H' t tv:=by
      rcases ht with z | z
      ·exact ⟨true,fun H' k=>SqL.of (k _ _ hto z)⟩
      ·exact ⟨false,fun H' k=>SqT.of (k _ _ hto z)⟩
    have e1:putF "names" (V.ref n) []=([("names",V.ref n)]:List (Str×V)):=rfl
    rw [e1]
    have st4:∀(c:Addr) (u:HO),c≠o→H c=some u→upd H3 o (.ins a.C_Web dx [("names",V.ref n)]) c=some u:=fun c u hc e=>keepO hc e
    generalize h4:upd H3 o (.ins a.C_Web dx [("names",V.ref n)])=H4 at st4 ⊢
    have ho4:H4 o=some (.ins a.C_Web dx [("names",V.ref n)]):=by rw [← h4];exact upd_same
    have hn4:H4 n=some (.tup (xs.map V.str)):=by rw [← h4,upd_ne nno];exact hn
    refine ⟨b,⟨_,hb H4 st4⟩,fun D hD=>cmQ tv (fun i σ' H'=>(∃o',σ'=[o'])∧Same H4 H'∧∃tvs,H' D=some (.lst tvs)∧TupsAt H' tvs (ps.take i)) ⟨⟨none,rfl⟩,same_upd hD,[],upd_same,by simp [TupsAt]⟩ (fun i σ' H' _ h=>hb H' fun c u hc e=>h.2.1 _ _ (st4 c u hc e)) ?_ ?_⟩
    · rintro i v σ' H' hi ⟨⟨o',rfl⟩,sm,tvs,hDD,htv⟩
      have hi2:i<tv.length:=(List.getElem?_eq_some_iff.mp hi).1
      have hlen:=hpr.1
      have h20:=hts.len
      obtain ⟨e,he,t2,rfl,ht2⟩:=hpr.at hi
      have t2o:t2≠o:=by rcases ht2 with z | z <;> exact ne_of z ho (by intro y;cases y)
      have ht3:Sq H' t2 [.str e.1,.str e.2]:=by
        rcases ht2 with z | z
        ·exact .inl (sm _ _ (st4 _ _ t2o z))
        ·exact .inr (sm _ _ (st4 _ _ t2o z))
      simp -dsimp[cxOf,stC,-Bool.exists_bool,-List.map_take,-Prod.forall,-Prod.exists]
      refine ⟨_,ht3.q,_,atI_nat (j:=0) rfl,_,ht3.q,_,atI_nat (j:=1) rfl,fun pt hpt=>?_⟩
      have hDp:D≠pt:=ne_of_none hDD hpt
      refine ⟨tvs,by rw [upd_ne hDp];exact hDD,?_,same_upd2 (sm.trans (same_upd hpt)) hD,_,upd_same,?_⟩
      · have h4':20<sizeLine:=by decide
        have:=htv.1
        simp at this
        omega
      · rw [take_one he]
        refine (htv.keep ?_).snoc ?_
        · intro c zs ec
          rw [upd_ne (ne_of ec hDD (by intro y;cases y)),upd_ne (ne_of_none ec hpt)]
          exact ec
        · rw [upd_ne (Ne.symm hDp)]
          exact upd_same
    · rintro σ' H' ⟨⟨o',rfl⟩,sm,tvs,hDD,htv⟩
      simp -dsimp[cxOf,stC,-Bool.exists_bool,-List.map_take,-Prod.forall,-Prod.exists]
      refine ⟨tvs,.inl hDD,fun m H5 hm s5=>⟨_,_,_,s5 _ _ (sm _ _ ho4),T.c_Web,T.n_pairs,by simp,?_⟩⟩
      have ho5:=s5 _ _ (sm _ _ ho4)
      have mno:m≠o:=ne_of hm ho5 (by intro z;cases z)
      have e2:putF "pairs" (V.ref m) ([("names",V.ref n)]:List (Str×V))=([("names",V.ref n),("pairs",V.ref m)]:List (Str×V)):=by
        show (if ("names" : Str) = "pairs" then _ else (("names" : Str),V.ref n)::putF "pairs" (V.ref m) [])=_
        rw [if_neg (by decide +kernel)]
        rfl
      rw [e2]
      refine q _ ⟨dx,n,m,tvs,upd_same,?_,?_,?_,hts.len⟩ fun c u hc e=>?_
      · rw [upd_ne nno]
        exact s5 _ _ (sm _ _ hn4)
      · rw [upd_ne mno]
        exact hm
      · have hl:=hpr.1
        rw [hl,List.take_length] at htv
        refine htv.keep fun c zs ec=>?_
        rw [upd_ne (ne_of (s5 _ _ ec) ho5 (by intro z;cases z))]
        exact s5 _ _ ec
      · rw [upd_ne hc]
        exact s5 _ _ (sm _ _ (st4 c u hc e))
def sp_points (C:Addr):Sp:=fun vs H Q _=>∃o xs ps,vs=[.ref o]∧WebAt C H o xs ps∧∀l,H l=none→Q (.ref l) (upd H l (.lst (xs.map V.str)))
theorem ok_Web_points (T:Txt K mg a):FnOk P w K mg base CX0 1 a.f_Web_points a.fd_Web_points ["self"] (sp_points a.C_Web):=by
  refine T.F_Web_points.okL sc_Web_points (fun vs H Q E h=>?_) (fun cdv A outer s H vs Q E hr h=>?_)
  · obtain ⟨o,xs,ps,rfl,_⟩:=h
    rfl
  · obtain ⟨o,xs,ps,rfl,⟨dx,n,m,tv,h1,h2,h3,h4,h5⟩,q⟩:=h
    refine ⟨_,(pss_one (ps_ret (pe_callTy (flistOfk (K:=K) rfl) rfl T.nm.list boot_list (pa_cons (PE.eqv (pe_fldk (K:=K) rfl (fpv 0) rfl) (fFld_eq _ _ _)) pa_nil)))),?_⟩
    simp -dsimp[cxOf,stC,-Bool.exists_bool,-List.map_take,-Prod.forall,-Prod.exists]
    refine ⟨_,_,_,h1,T.c_Web,T.n_names,_,rfl,_,.inr (SqT.of h2),q⟩
def sp_ties (C:Addr):Sp:=fun vs H Q _=>∃o xs ps,vs=[.ref o]∧WebAt C H o xs ps∧∀l tv,H l=none→TupsAt H tv ps→Q (.ref l) (upd H l (.lst tv))
theorem ok_Web_ties (T:Txt K mg a):FnOk P w K mg base CX0 1 a.f_Web_ties a.fd_Web_ties ["self"] (sp_ties a.C_Web):=by
  refine T.F_Web_ties.okL sc_Web_ties (fun vs H Q E h=>?_) (fun cdv A outer s H vs Q E hr h=>?_)
  · obtain ⟨o,xs,ps,rfl,_⟩:=h
    rfl
  · obtain ⟨o,xs,ps,rfl,⟨dx,n,m,tv,h1,h2,h3,h4,h5⟩,q⟩:=h
    refine ⟨_,(pss_one (ps_ret (pe_callTy (flistOfk (K:=K) rfl) rfl T.nm.list boot_list (pa_cons (PE.eqv (pe_fldk (K:=K) rfl (fpv 0) rfl) (fFld_eq _ _ _)) pa_nil)))),?_⟩
    simp -dsimp[cxOf,stC,-Bool.exists_bool,-List.map_take,-Prod.forall,-Prod.exists]
    refine ⟨_,_,_,h1,T.c_Web,T.n_pairs,_,rfl,_,.inr (SqT.of h3),fun l hl=>q l tv hl h4⟩
theorem Pot.upd {p q:Addr} {H:Hp} {u:HO} (x:Pot H p) (h:p≠q):Pot (L2.upd H q u) p:=by
  obtain ⟨a,b,e,r⟩:=x
  exact ⟨a,b,by rw [upd_ne h];exact e,r⟩
theorem Pot.ne {p q:Addr} {H:Hp} (x:Pot H p) (h:H q=none):p≠q:=by
  obtain ⟨a,b,e,r⟩:=x
  exact ne_of_none e h
theorem Pot.none {p b:Addr} {H H':Hp} (x:But p H H') (hp:Pot H' p) (h:H' b = .none):H b = .none:=by
  obtain ⟨a,b,e,r⟩:=hp
  exact x.none e h
def sp_mixed:Sp:=fun vs H Q _=>∃p l xs,vs=[.ref p,.ref l]∧Pot H p∧l≠p∧H l=some (.lst xs)∧xs.length≤100∧∀r ys H',H r=none→H' r=some (.lst ys)→ys.Perm xs→Pot H' p→But p H H'→Q (.ref r) H'
theorem ok_mixed (T:Txt K mg a):FnOk P w K mg base CX0 2 a.f_mixed a.fd_mixed ["_law_pot_here", "_law_things"] sp_mixed:=by
  refine T.F_mixed.okL sc_mixed (fun vs H Q E h=>?_) (fun cdv A outer s H vs Q E hr h=>?_)
  · obtain ⟨p,l,xs,rfl,_⟩:=h
    rfl
  · obtain ⟨p,l,xs,rfl,hp,hlp,hl,h100,q⟩:=h
    refine ⟨_,(pss_cons (ps_set (i:=2) sc_mixed.nd rfl (Or.inl rfl) (pe_lst pa_nil))
      (pss_cons (ps_for PassesOwn.never rfl (PI.eqv (pi_listk (K:=K) rfl (fpv 1)) (fiList_eq _ _)) (pg_name (i:=3) sc_mixed.nd rfl (Or.inl rfl))
      (pss_one (ps_expr (pe_bmk (K:=K) rfl PySem.F.plainAttrs_list PySem.F.slot_list_insert PySem.F.type_list_insert fmt_insert (fpv 2) (pa_cons (PE.eqv (pe_call (ok_take (K:=K) T) (hr.mono (by decide)) rfl T.m_take T.F_take.kp T.b_take .nil pass0 (pa_cons (fpv 0) (pa_cons (pe_op fop_add (pe_callB (flenQk (K:=K) rfl) rfl T.nm.len PySem.boot_len (pa_cons (fpv 2) pa_nil)) pe_int) pa_nil))) (fCall_eq _ _ _)) (pa_cons (fpv 3) pa_nil))))))
      (pss_one (ps_ret (fpv 2))))),?_⟩
    have h4':100<sizeLine:=by decide
    simp -dsimp[cxOf,stC,-Bool.exists_bool,-List.map_take,-Prod.forall,-Prod.exists]
    intro r hr0
    have hpr:p≠r:=hp.ne hr0
    refine ⟨⟨_,SqL.of (upd_old hl hr0)⟩,frL xs (fun i σ H'=>∃v ys,σ=[some (.ref p),some (.ref l),some (.ref r),v]∧H' r=some (.lst ys)∧ys.Perm (xs.take i)∧Pot H' p∧But p H H') ⟨none,[],rfl,upd_same,by simp,hp.upd hpr,(But.refl _ _).new hr0⟩ (fun i σ H' _ ⟨_,_,_,_,_,_,hb⟩=>SqL.of (hb _ _ hlp hl)) ?_ ?_⟩
    · rintro i x σ H' hi ⟨v,ys,rfl,hr',hperm,hP,hB⟩
      have hi2:i<xs.length:=(List.getElem?_eq_some_iff.mp hi).1
      have hly:ys.length=i:=by
        have:=hperm.length_eq
        simp at this
        omega
      simp -dsimp[cxOf,stC,-Bool.exists_bool,-List.map_take,-Prod.forall,-Prod.exists]
      refine ⟨⟨_,SqL.of hr'⟩,ys,.inl (SqL.of hr'),p,_,rfl,hP,by omega,by omega,fun d H1 hd0 hd1 hP1 hB1=>?_⟩
      have hr1:H1 r=some (.lst ys):=hB1 _ _ (Ne.symm hpr) hr'
      simp -dsimp[cxOf,stC,-Bool.exists_bool,-List.map_take,-Prod.forall,-Prod.exists]
      refine ⟨ys,hr1,hd0,by omega,by omega,_,upd_same,?_,hP1.upd hpr,(hB.trans hB1).new hr0⟩
      · rw [take_one hi]
        have e:(ys.take d.toNat++x::ys.drop d.toNat).Perm (x::ys):=by
          refine List.perm_middle.trans ?_
          rw [List.take_append_drop]
        exact e.trans ((List.Perm.cons x hperm).trans (List.perm_append_singleton x _).symm)
    · rintro σ H' ⟨v,ys,rfl,hr',hperm,hP,hB⟩
      rw [List.take_length] at hperm
      simp -dsimp[cxOf,stC,-Bool.exists_bool,-List.map_take,-Prod.forall,-Prod.exists]
      exact q r ys H' hr0 hr' hperm hP hB
def sp_tie:Sp:=fun vs H Q _=>∃(p l:Addr) (xs:List Str),vs=[.ref p,.ref l]∧Pot H p∧l≠p∧H l=some (.lst (xs.map V.str))∧2≤xs.length∧xs.length≤9∧xs.Nodup∧∀t x y H',H t=none→H' t=some (.tup [.str x,.str y])→x∈xs→y∈xs→x≠y→Pot H' p→But p H H'→Q (.ref t) H'
theorem ok_tie (T:Txt K mg a):FnOk P w K mg base CX0 2 a.f_tie a.fd_tie ["_law_pot_here", "_law_names_here"] sp_tie:=by
  refine T.F_tie.okL sc_tie (fun vs H Q E h=>?_) (fun cdv A outer s H vs Q E hr h=>?_)
  · obtain ⟨p,l,xs,rfl,_⟩:=h
    rfl
  · obtain ⟨p,l,xs,rfl,hp,hlp,hl,h2,h9,hnd,q⟩:=h
    refine ⟨_,(pss_cons (ps_set (i:=2) sc_tie.nd rfl (Or.inl rfl) (PE.eqv (pe_call (ok_take (K:=K) T) (hr.mono (by decide)) rfl T.m_take T.F_take.kp T.b_take .nil pass0 (pa_cons (fpv 0) (pa_cons (pe_callB (flenQk (K:=K) rfl) rfl T.nm.len PySem.boot_len (pa_cons (fpv 1) pa_nil)) pa_nil))) (fCall_eq _ _ _)))
      (pss_cons (ps_set (i:=3) sc_tie.nd rfl (Or.inl rfl) (pe_op fop_mod (pe_op fop_add (pe_op fop_add (fpv 2) pe_int) (PE.eqv (pe_call (ok_take (K:=K) T) (hr.mono (by decide)) rfl T.m_take T.F_take.kp T.b_take .nil pass0 (pa_cons (fpv 0) (pa_cons (pe_op fop_sub (pe_callB (flenQk (K:=K) rfl) rfl T.nm.len PySem.boot_len (pa_cons (fpv 1) pa_nil)) pe_int) pa_nil))) (fCall_eq _ _ _))) (pe_callB (flenQk (K:=K) rfl) rfl T.nm.len PySem.boot_len (pa_cons (fpv 1) pa_nil))))
      (pss_one (ps_ret (pe_tup (pa_cons (pe_ix (fixQk (K:=K) rfl) (fpv 1) (fpv 2) (fun _ _=>rfl)) (pa_cons (pe_ix (fixQk (K:=K) rfl) (fpv 1) (fpv 3) (fun _ _=>rfl)) pa_nil))))))),?_⟩
    simp -dsimp[cxOf,stC,-Bool.exists_bool,-List.map_take,-Prod.forall,-Prod.exists]
    refine ⟨_,.inl (SqL.of hl),p,_,rfl,hp,by simp;omega,by simp;omega,fun d H1 hd0 hd1 hP1 hB1=>?_⟩
    have hl1:=hB1 _ _ hlp hl
    simp -dsimp[cxOf,stC,-Bool.exists_bool,-List.map_take,-Prod.forall,-Prod.exists]
    refine ⟨_,.inl (SqL.of hl1),p,_,rfl,hP1,by simp;omega,by simp;omega,fun e H2 he0 he1 hP2 hB2=>?_⟩
    have hl2:=hB2 _ _ hlp hl1
    simp only [List.length_map] at hd1 he1
    obtain ⟨m0,m1,m2⟩:=mod_ne hd0 hd1 he0 he1
    obtain ⟨vx,ex,ax⟩:=atI_int (xs:=xs.map V.str) hd0 (by simpa using hd1)
    obtain ⟨vy,ey,ay⟩:=atI_int (xs:=xs.map V.str) m0 (by simpa using m1)
    obtain ⟨x,ex',rfl⟩:=str_at ex
    obtain ⟨y,ey',rfl⟩:=str_at ey
    have sl:=SqL.of (K:=K) hl2
    simp -dsimp[cxOf,stC,-Bool.exists_bool,-List.map_take,-Prod.forall,-Prod.exists]
    refine ⟨_,.inl sl,by simp;omega,_,.inl sl,_,ax,_,.inl sl,_,(by simpa using ay),fun t ht=>?_⟩
    refine q t x y _ (Pot.none (hB1.trans hB2) hP2 ht) upd_same (List.mem_of_getElem? ex') (List.mem_of_getElem? ey') (fun z=>?_) (hP2.upd (hP2.ne ht)) ((hB1.trans hB2).same (same_upd ht))
    subst z
    have:=nodup_at hnd ex' ey'
    omega
def sp_names:Sp:=fun vs H Q _=>∃(p:Addr) (m:Nat),vs=[.ref p,.int m]∧Pot H p∧1≤m∧m≤9∧∀(r:Addr) (xs:List Str) (H':Hp),H r=none→H' r=some (.lst (xs.map V.str))→Pts xs→xs.length=m→Pot H' p→But p H H'→Q (.ref r) H'
theorem ok_names (T:Txt K mg a):FnOk P w K mg base CX0 2 a.f_names a.fd_names ["_law_pot_here", "_law_many"] sp_names:=by
  refine T.F_names.okL sc_names (fun vs H Q E h=>?_) (fun cdv A outer s H vs Q E hr h=>?_)
  · obtain ⟨p,m,rfl,_⟩:=h
    rfl
  · obtain ⟨p,m,rfl,hp,h1,h9,q⟩:=h
    refine ⟨_,(pss_cons (ps_set (i:=2) sc_names.nd rfl (Or.inr rfl) pe_str)
      (pss_cons (ps_set (i:=3) sc_names.nd rfl (Or.inl rfl) (PE.eqv (pe_call (ok_take (K:=K) T) (hr.mono (by decide)) rfl T.m_take T.F_take.kp T.b_take .nil pass0 (pa_cons (fpv 0) (pa_cons pe_int pa_nil))) (fCall_eq _ _ _)))
      (pss_cons (ps_set (i:=4) sc_names.nd rfl (Or.inl rfl) (pe_lst pa_nil))
      (pss_cons (ps_for PassesOwn.never rfl (PI.eqv (pi_range1 rfl T.nm.range (pa_cons (fpv 1) pa_nil)) (fiRng1_eq _)) (pg_name (i:=5) sc_names.nd rfl (Or.inl rfl))
      (pss_cons (ps_set (i:=6) sc_names.nd rfl (Or.inl rfl) (PE.eqv (pe_call (ok_take (K:=K) T) (hr.mono (by decide)) rfl T.m_take T.F_take.kp T.b_take .nil pass0 (pa_cons (fpv 0) (pa_cons pe_int pa_nil))) (fCall_eq _ _ _)))
      (pss_cons (ps_set (i:=7) sc_names.nd rfl (Or.inl rfl) (pe_bmk (K:=K) rfl PySem.F.plainAttrs_str PySem.F.slot_str_join PySem.F.type_str_join fmt_join pe_str (pa_cons (pe_comp rfl rfl (show CompScope (defScope s_names) _ ["_law_pot_here", "_law_many", "_law_letters", "_law_begin", "_law_found", "_law_k", "_law_size", "_law_more"] ["_law_j"] [2,0] ["_law_j", "_law_letters", "_law_pot_here"] from ⟨rfl,by decide +kernel,by decide +kernel,rfl,by decide +kernel,by decide +kernel⟩) rfl (PI.eqv (pi_range1 rfl T.nm.range (pa_cons (fpv 6) pa_nil)) (fiRng1_eq _)) (fun C s H fp pn=>(pg_name (i:=0) (show (["_law_j", "_law_letters", "_law_pot_here"]:List Str).Nodup by decide +kernel) rfl (Or.inl rfl))) (fun C s H fp pn=>pts_nil) (fun C s H fp pn=>(pe_ix fix_str (fpv 1) (PE.eqv (pe_call (ok_take (K:=K) T) (hr.mono (by decide)) rfl T.m_take T.F_take.kp T.b_take .nil pass0 (pa_cons (fpv 2) (pa_cons pe_int pa_nil))) (fCall_eq _ _ _)) (fun _ _=>rfl)))) pa_nil)))
      (pss_one (ps_expr (pe_bmk (K:=K) rfl PySem.F.plainAttrs_list PySem.F.slot_list_append PySem.F.type_list_append fmt_append (fpv 4) (pa_cons (pe_op fop_add_str (pe_ix fix_str (fpv 2) (pe_op fop_mod (pe_op fop_add (fpv 3) (pe_op fop_mul pe_int (fpv 5))) pe_int) (fun _ _=>rfl)) (fpv 7)) pa_nil)))))))
      (pss_one (ps_ret (fpv 4))))))),?_⟩
    simp -dsimp[cxOf,stC,-Bool.exists_bool,-List.map_take,-Prod.forall,-Prod.exists]
    refine ⟨p,_,rfl,hp,by decide,by decide,fun d H1 hd0 hd1 hP1 hB1=>?_⟩
    obtain ⟨b,rfl,hb26,hbl⟩:=letters_int hd0 hd1
    have hP2:=hP1
    have hB2:=hB1
    simp -dsimp[cxOf,stC,-Bool.exists_bool,-List.map_take,-Prod.forall,-Prod.exists]
    intro r hr0
    refine ⟨zlt h9 (by decide),frR (fun i σ H'=>∃v8 v9 v10 ws,σ=[some (.ref p),some (.int m),some (.str (Str.ofString "abcdefghijklmnopqrstuvwxyz")),some (.int b),some (.ref r),v8,v9,v10]∧H' r=some (.lst (ws.map V.str))∧ws.length=i∧(∀(j:Nat) x,ws[j]? = some x→∃k,1≤k∧k≤4∧WordOf (97+(b+5 * j) % 26) k x)∧Pot H' p∧But p H H') ⟨none,none,none,[],rfl,upd_same,rfl,fun j x e=>by simp at e,hP2.upd (hP2.ne hr0),hB2.same (same_upd hr0)⟩ ?_ ?_⟩
    · rintro i σ H' hi ⟨v8,v9,v10,ws,rfl,hr',hl,hw,hP,hB⟩
      simp -dsimp[cxOf,stC,-Bool.exists_bool,-List.map_take,-Prod.forall,-Prod.exists]
      obtain ⟨c,hc,hc26,hcl⟩:=letters_int (i:=((b:Int)+5 * i) % 26) zn1 zn2
      have hc':c=(b+5 * i) % 26:=zn3 hc
      have pr:r≠p:=fun z=>by subst z;obtain ⟨_,_,u,_⟩:=hP2;rw [hr0] at u;cases u
      refine ⟨p,_,rfl,hP,by decide,by decide,fun e H3 he0 he1 hP3 hB3=>?_⟩
      simp -dsimp[cxOf,stC,-Bool.exists_bool,-List.map_take,-Prod.forall,-Prod.exists]
      have hDr:∀{D:Addr},H3 D=none→r≠D:=fun hD=>ne_of_none (hB3 _ _ pr hr') hD
      refine ⟨zlo he0,zhi he1 (by decide),fun D hD=>cmR (fun j σ H4=>∃v ys,σ=[v,some (.str (Str.ofString "abcdefghijklmnopqrstuvwxyz")),some (.ref p)]∧H4 D=some (.lst (ys.map V.str))∧H4 r=some (.lst (ws.map V.str))∧ys.length=j∧(∀y∈ys,∃n,n<26∧y=(⟨#[97+n]⟩:Str))∧Pot H4 p∧But p H H4) ⟨_,[],rfl,upd_same,upd_old (hB3 _ _ pr hr') hD,rfl,by simp,hP3.upd (hP3.ne hD),(hB.trans hB3).same (same_upd hD)⟩ ?_ ?_⟩
      · rintro j σ H4 hj ⟨v,ys,rfl,hD4,hr4,hyl,hys,hP4,hB4⟩
        have hDp:D≠p:=(hP3.ne hD).symm
        simp -dsimp[cxOf,stC,-Bool.exists_bool,-List.map_take,-Prod.forall,-Prod.exists]
        refine ⟨p,_,rfl,hP4,by decide,by decide,fun f H5 hf0 hf1 hP5 hB5=>?_⟩
        obtain ⟨n,rfl,hn26,hnl⟩:=letters_int hf0 hf1
        simp -dsimp[cxOf,stC,-Bool.exists_bool,-List.map_take,-Prod.forall,-Prod.exists,letters_len,hnl]
        have s20:=of_eq_true sz20
        refine ⟨_,hB5 _ _ hDp hD4,by rw [List.length_map];exact zn4 hj he1 hyl,ys++[⟨#[97+n]⟩],by rw [upd_same];simp,by rw [upd_ne (hDr hD)];exact hB5 _ _ pr hr4,by simp [hyl],fun y hy=>?_,hP5.upd hDp.symm,(hB4.trans hB5).new (Pot.none (hB.trans hB3) hP3 hD)⟩
        rcases List.mem_append.mp hy with hy | hy
        ·exact hys y hy
        ·exact ⟨n,hn26,by simpa using hy⟩
      · rintro σ H4 ⟨v,ys,rfl,hD4,hr4,hyl,hys,hP4,hB4⟩
        have hy3:=one_letters ys hys
        simp -dsimp[cxOf,stC,-Bool.exists_bool,-List.map_take,-Prod.forall,-Prod.exists]
        have hw4:=(WordOf.one hc26).glue (by decide) hys
        have s20:=of_eq_true sz20
        refine ⟨ys,hD4,by rw [hy3.2.2];exact zn5 hyl he1,?_⟩
        simp -dsimp[cxOf,stC,-Bool.exists_bool,-List.map_take,-Prod.forall,-Prod.exists,letters_len,hcl]
        have hlen:(⟨#[97+c]⟩:Str).length+(Txt.join (Str.ofString "") ys).length=1+ys.length:=by
          rw [← hw4.len]
          exact (Array.size_append).symm
        refine ⟨⟨_,SqL.of hr4⟩,by rw [hlen];exact zsz' (zn6 hyl he1) (by decide),_,hr4,by rw [List.length_map,hl];exact zsz hi (Nat.le_trans h9 (by decide)),ws++[_],by rw [upd_same];simp;rfl,by simp [hl],fun j y e=>?_,hP4.upd pr.symm,hB4.new (Pot.none hB2 hP2 hr0)⟩
        by_cases hj:j<ws.length
        · rw [List.getElem?_append_left hj] at e
          exact hw j y e
        · rw [List.getElem?_append_right (Nat.not_lt.mp hj)] at e
          cases hk:j - ws.length with
          | zero=>
            rw [hk] at e
            simp at e
            subst e
            have ej:j=i:=(zn8 hj hk).trans hl
            subst ej
            exact ⟨1+ys.length,Nat.le_add_right 1 _,zn6 hyl he1,by rw [← hc'];exact hw4⟩
          | succ k=>
            rw [hk] at e
            simp at e
    · rintro σ H' ⟨v8,v9,v10,ws,rfl,hr',hl,hw,hP,hB⟩
      simp -dsimp[cxOf,stC,-Bool.exists_bool,-List.map_take,-Prod.forall,-Prod.exists]
      have nd:ws.Nodup:=by
        unfold List.Nodup
        rw [List.pairwise_iff_getElem]
        intro i j hi hj hij e
        obtain ⟨k1,_,_,w1⟩:=hw i _ (by simp [hi]:ws[i]? = some ws[i])
        obtain ⟨k2,_,_,w2⟩:=hw j _ (by simp [hj]:ws[j]? = some ws[j])
        have z:=w1.fst
        rw [e,w2.fst] at z
        simp at z
        exact zn7 hi hj hij (by rw [hl];exact h9) z
      refine q r ws H' (Pot.none hB2 hP2 hr0) hr' ⟨⟨by rw [hl];exact h1,by rw [hl];exact h9⟩,fun x hx=>?_,nd⟩ hl hP hB
      obtain ⟨j,hj,e⟩:=List.mem_iff_getElem.mp hx
      obtain ⟨k,k1,k4,w⟩:=hw j x (by simp [hj,e])
      exact w.name k1 k4
theorem TupsAt.perm {H:Hp} {vs ys:List V} {ps:List (Str×Str)} (h:TupsAt H vs ps) (hp:ys.Perm vs):∃qs:List (Str×Str),TupsAt H ys qs∧qs.Perm ps:=by
  have e1:vs=(vs.zip ps).map (·.1):=by rw [List.map_fst_zip (by rw [h.1];exact Nat.le_refl _)]
  have e2:ps=(vs.zip ps).map (·.2):=by rw [List.map_snd_zip (by rw [h.1];exact Nat.le_refl _)]
  obtain ⟨l',pl,e⟩:=perm_map_inv hp _ e1
  refine ⟨l'.map (·.2),⟨by rw [e];simp,fun i v d h1 h2=>?_⟩,by rw [e2];exact pl.map _⟩
  rw [e,List.getElem?_map] at h1
  rw [List.getElem?_map] at h2
  cases hz:l'[i]? with
  | none=>rw [hz] at h1;cases h1
  | some z=>
    rw [hz] at h1 h2
    cases h1
    cases h2
    have hm:z∈vs.zip ps:=pl.mem_iff.mp (List.mem_of_getElem? hz)
    obtain ⟨j,hj,ez⟩:=List.mem_iff_getElem.mp hm
    have hj':j<vs.length∧j<ps.length:=by
      simp at hj
      omega
    simp at ez
    subst ez
    exact h.2 j _ _ (by simp [hj'.1]) (by simp [hj'.2])
theorem TupsAt.at {H:Hp} {vs:List V} {ps:List (Str×Str)} (h:TupsAt H vs ps) {i:Nat} {v:V} (hv:vs[i]? = some v):∃e,ps[i]? = some e∧∃t,v = .ref t∧H t=some (.tup [.str e.1,.str e.2]):=by
  have hi:i<ps.length:=by rw [← h.1];exact (List.getElem?_eq_some_iff.mp hv).1
  exact ⟨ps[i],by simp [hi],h.2 i v _ hv (by simp [hi])⟩
theorem TupsAt.but {p:Addr} {H H':Hp} {vs:List V} {ps:List (Str×Str)} (h:TupsAt H vs ps) (hp:Pot H p) (b:But p H H'):TupsAt H' vs ps:=h.keep fun c xs e=>b c _ (fun z=>by
  subst z
  obtain ⟨_,_,u,_⟩:=hp
  rw [e] at u
  cases u) e
theorem TupsAt.same {H H':Hp} {vs:List V} {ps:List (Str×Str)} (h:TupsAt H vs ps) (b:Same H H'):TupsAt H' vs ps:=h.keep fun c xs e=>b c _ e
theorem Pot.nl {p q:Addr} {H:Hp} (x:Pot H p) (h:H q = .none):q≠p:=fun z=>(x.ne h) z.symm
def sp_web:Sp:=fun vs H Q _=>∃(p:Addr) (m k:Nat),vs=[.ref p,.int m,.int k]∧Pot H p∧1≤m∧m≤9∧m≤k∧k≤20∧∀(t n l:Addr) (xs:List Str) (tv:List V) (ps:List (Str×Str)) (H':Hp),
  H t=none→H n=none→H l=none→H' t=some (.tup [.ref n,.ref l])→H' n=some (.lst (xs.map V.str))→H' l=some (.lst tv)→TupsAt H' tv ps→Pts xs→Ties xs ps→xs.length≤m→ps.length≤k→Pot H' p→But p H H'→Q (.ref t) H'
theorem ok_web (T:Txt K mg a):FnOk P w K mg base CX0 3 a.f_web a.fd_web ["_law_pot_here", "_law_points", "_law_most"] sp_web:=by
  refine T.F_web.okL sc_web (fun vs H Q E h=>?_) (fun cdv A outer s H vs Q E hr h=>?_)
  · obtain ⟨p,m,k,rfl,_⟩:=h
    rfl
  · obtain ⟨p,m,k,rfl,hp,h1,h9,hmk,hk,q⟩:=h
    refine ⟨_,(pss_cons (ps_set (i:=3) sc_web.nd rfl (Or.inl rfl) (PE.eqv (pe_call (ok_names (K:=K) T) (hr.mono (by decide)) rfl T.m_names T.F_names.kp T.b_names .nil pass0 (pa_cons (fpv 0) (pa_cons (pe_op fop_add pe_int (PE.eqv (pe_call (ok_take (K:=K) T) (hr.mono (by decide)) rfl T.m_take T.F_take.kp T.b_take .nil pass0 (pa_cons (fpv 0) (pa_cons (fpv 1) pa_nil))) (fCall_eq _ _ _))) pa_nil))) (fCall_eq _ _ _)))
      (pss_cons (ps_set (i:=4) sc_web.nd rfl (Or.inl rfl) (PE.eqv (pe_call (ok_take (K:=K) T) (hr.mono (by decide)) rfl T.m_take T.F_take.kp T.b_take .nil pass0 (pa_cons (fpv 0) (pa_cons pe_int pa_nil))) (fCall_eq _ _ _)))
      (pss_cons (ps_set (i:=5) sc_web.nd rfl (Or.inl rfl) (pe_lst pa_nil))
      (pss_cons (ps_if (fpt_cmpR fop_gt (pe_callB (flenQk (K:=K) rfl) rfl T.nm.len PySem.boot_len (pa_cons (fpv 3) pa_nil)) pe_int (nomark _)) (pss_cons (ps_set (i:=6) sc_web.nd rfl (Or.inr rfl) (PE.eqv (pe_call (ok_mixed (K:=K) T) (hr.mono (by decide)) rfl T.m_mixed T.F_mixed.kp T.b_mixed .nil pass0 (pa_cons (fpv 0) (pa_cons (fpv 3) pa_nil))) (fCall_eq _ _ _)))
      (pss_cons (ps_if (fpt_cmpR fop_gt (fpv 4) pe_int (nomark _)) (pss_one (ps_setComp (i:=5) sc_web.nd rfl rfl rfl rfl (show CompScope (defScope s_web) _ ["_law_pot_here", "_law_points", "_law_most", "_law_names_here", "_law_kind", "_law_ties", "_law_row", "_law_k", "_law_turns"] ["_law_k"] [6] ["_law_k", "_law_row"] from ⟨rfl,by decide +kernel,by decide +kernel,rfl,by decide +kernel,by decide +kernel⟩) rfl (PI.eqv (pi_range2 rfl T.nm.range (pa_cons (pe_callTy fcall_int1 rfl T.nm.int boot_intT (pa_cons (pe_cmpR fop_eq (fpv 4) pe_int (nomark _)) pa_nil)) (pa_cons (pe_callB (flenQk (K:=K) rfl) rfl T.nm.len PySem.boot_len (pa_cons (fpv 6) pa_nil)) pa_nil))) (fiRng2_eq _)) (fun C s H fp pn=>(pg_name (i:=0) (show (["_law_k", "_law_row"]:List Str).Nodup by decide +kernel) rfl (Or.inl rfl))) (fun C s H fp pn=>pts_nil) (fun C s H fp pn=>(pe_tup (pa_cons (pe_ix (fixQk (K:=K) rfl) (fpv 1) (pe_op fop_sub (fpv 0) pe_int) (fun _ _=>rfl)) (pa_cons (pe_ix (fixQk (K:=K) rfl) (fpv 1) (fpv 0) (fun _ _=>rfl)) pa_nil)))))) pss_nil)
      (pss_one (ps_for PassesOwn.never rfl (PI.eqv (pi_range1 rfl T.nm.range (pa_cons (PE.eqv (pe_call (ok_take (K:=K) T) (hr.mono (by decide)) rfl T.m_take T.F_take.kp T.b_take .nil pass0 (pa_cons (fpv 0) (pa_cons (pe_op fop_add (pe_op fop_sub (fpv 2) (pe_callB (flenQk (K:=K) rfl) rfl T.nm.len PySem.boot_len (pa_cons (fpv 5) pa_nil))) pe_int) pa_nil))) (fCall_eq _ _ _)) pa_nil)) (fiRng1_eq _)) (pg_name (i:=7) sc_web.nd rfl (Or.inl rfl))
      (pss_one (ps_expr (pe_bmk (K:=K) rfl PySem.F.plainAttrs_list PySem.F.slot_list_append PySem.F.type_list_append fmt_append (fpv 5) (pa_cons (PE.eqv (pe_call (ok_tie (K:=K) T) (hr.mono (by decide)) rfl T.m_tie T.F_tie.kp T.b_tie .nil pass0 (pa_cons (fpv 0) (pa_cons (fpv 3) pa_nil))) (fCall_eq _ _ _)) pa_nil)))))))) pss_nil)
      (pss_cons (ps_setComp (i:=8) sc_web.nd rfl rfl rfl rfl (show CompScope (defScope s_web) _ ["_law_pot_here", "_law_points", "_law_most", "_law_names_here", "_law_kind", "_law_ties", "_law_row", "_law_k", "_law_turns"] ["_law_tie_here"] [0] ["_law_tie_here", "_law_pot_here"] from ⟨rfl,by decide +kernel,by decide +kernel,rfl,by decide +kernel,by decide +kernel⟩) rfl (PI.eqv (pi_listk (K:=K) rfl (fpv 5)) (fiList_eq _ _)) (fun C s H fp pn=>(pg_name (i:=0) (show (["_law_tie_here", "_law_pot_here"]:List Str).Nodup by decide +kernel) rfl (Or.inl rfl))) (fun C s H fp pn=>pts_nil) (fun C s H fp pn=>(PE.eqv (pe_call (ok_take (K:=K) T) (hr.mono (by decide)) rfl T.m_take T.F_take.kp T.b_take .nil pass0 (pa_cons (fpv 1) (pa_cons pe_int pa_nil))) (fCall_eq _ _ _))))
      (pss_cons (ps_setComp (i:=5) sc_web.nd rfl rfl rfl rfl (show CompScope (defScope s_web) _ ["_law_pot_here", "_law_points", "_law_most", "_law_names_here", "_law_kind", "_law_ties", "_law_row", "_law_k", "_law_turns"] ["_law_turn", "_law_a", "_law_b"] [] ["_law_turn", "_law_a", "_law_b"] from ⟨rfl,by decide +kernel,by decide +kernel,rfl,by decide +kernel,by decide +kernel⟩) rfl (PI.eqv (pi_zipk (K:=K) rfl rfl T.nm.zip (pa_cons (fpv 5) (pa_cons (fpv 8) pa_nil))) (fiZip_eq _ _)) (fun C s H fp pn=>(PG.eqv (pg_tupk (K:=K) (n:=2) rfl rfl (PGs.eqv (pgs_cons (PG.eqv (pg_tupk (K:=K) (n:=2) rfl rfl (PGs.eqv (pgs_cons (pg_name (i:=1) (show (["_law_turn", "_law_a", "_law_b"]:List Str).Nodup by decide +kernel) rfl (Or.inl rfl)) (PGs.eqv (pgs_cons (pg_name (i:=2) (show (["_law_turn", "_law_a", "_law_b"]:List Str).Nodup by decide +kernel) rfl (Or.inl rfl)) (PGs.mono pgs_nil fNil_t)) (fCons_eq _ _))) (fCons_eq _ _))) (fTup_eq _ _ _)) (PGs.eqv (pgs_cons (pg_name (i:=0) (show (["_law_turn", "_law_a", "_law_b"]:List Str).Nodup by decide +kernel) rfl (Or.inl rfl)) (PGs.mono pgs_nil fNil_t)) (fCons_eq _ _))) (fCons_eq _ _))) (fTup_eq _ _ _))) (fun C s H fp pn=>pts_nil) (fun C s H fp pn=>(pe_ix (fixQk (K:=K) rfl) (pe_lst (pa_cons (pe_tup (pa_cons (fpv 1) (pa_cons (fpv 2) pa_nil))) (pa_cons (pe_tup (pa_cons (fpv 2) (pa_cons (fpv 1) pa_nil))) pa_nil))) (fpv 0) (fun _ _=>rfl))))
      (pss_one (ps_ret (pe_tup (pa_cons (fpv 3) (pa_cons (PE.eqv (pe_call (ok_mixed (K:=K) T) (hr.mono (by decide)) rfl T.m_mixed T.F_mixed.kp T.b_mixed .nil pass0 (pa_cons (fpv 0) (pa_cons (fpv 5) pa_nil))) (fCall_eq _ _ _)) pa_nil))))))))))),?_⟩
    simp -dsimp[cxOf,stC,-Bool.exists_bool,-List.map_take,-Prod.forall,-Prod.exists]
    refine ⟨p,_,rfl,hp,zpos h1,zlt h9 (by decide),fun d H1 hd0 hd1 hP1 hB1=>?_⟩
    simp -dsimp[cxOf,stC,-Bool.exists_bool,-List.map_take,-Prod.forall,-Prod.exists]
    refine ⟨p,d.toNat+1,?_,hP1,Nat.le_add_left 1 _,ztn hd0 hd1 h9,fun n xs H2 hn hn2 hX hxl hP2 hB2'=>?_⟩
    · simp
      exact zmax hd0 1
    have hxm:xs.length≤m:=by rw [hxl];exact ztn hd0 hd1 (Nat.le_refl m)
    have hx9:=Nat.le_trans hxm h9
    have hB2:=hB1.trans hB2'
    simp -dsimp[cxOf,stC,-Bool.exists_bool,-List.map_take,-Prod.forall,-Prod.exists]
    refine ⟨p,_,rfl,hP2,by decide,by decide,fun kd H3 hk0 hk1 hP3 hB3'=>?_⟩
    have hB3:=hB2.trans hB3'
    have np:n≠p:=fun z=>by subst z;obtain ⟨_,_,u,_⟩:=hP1;rw [hn] at u;cases u
    have hn3:=hB3' _ _ np hn2
    simp -dsimp[cxOf,stC,-Bool.exists_bool,-List.map_take,-Prod.forall,-Prod.exists]
    refine fun L hL=>⟨_,.inl (SqL.of (upd_old hn3 hL)),tBr_join (fun σ H4=>∃v6 v7 L tv ps,σ=[some (.ref p),some (.int m),some (.int k),some (.ref n),some (.int kd),some (.ref L),v6,v7,none]∧H L=none∧H4 L=some (.lst tv)∧TupsAt H4 tv ps∧Ties xs ps∧ps.length≤k∧H4 n=some (.lst (xs.map V.str))∧Pot H4 p∧But p H H4) ?_ ?_⟩
    · rintro σ H4 ⟨v6,v7,L,tv,ps,rfl,hL0,hL4,htv,hts,hpk,hn4,hP4,hB4⟩
      simp -dsimp[cxOf,stC,-Bool.exists_bool,-List.map_take,-Prod.forall,-Prod.exists]
      have Lp:L≠p:=hp.nl hL0
      have hL20:tv.length≤20:=by rw [htv.1];exact Nat.le_trans hpk hk
      have s20:=of_eq_true sz20
      refine ⟨⟨_,SqL.of hL4⟩,fun D hD=>cmL tv (fun i σ H'=>∃v ds,σ=[v,some (.ref p)]∧H' D=some (.lst (ds.map V.int))∧ds.length=i∧(∀d∈ds,0≤d∧d<2)∧H' L=some (.lst tv)∧TupsAt H' tv ps∧H' n=some (.lst (xs.map V.str))∧Pot H' p∧But p H H') ⟨none,[],rfl,upd_same,rfl,by simp,upd_old hL4 hD,htv.same (same_upd hD),upd_old hn4 hD,hP4.upd (hP4.ne hD),hB4.same (same_upd hD)⟩ (fun i σ H' _ h=>by
        obtain ⟨_,_,_,_,_,_,z,_⟩:=h
        exact SqL.of z) ?_ ?_⟩
      · rintro i x σ H5 hi ⟨v,ds,rfl,hD5,hl,hds,hL5,htv5,hn5,hP5,hB5⟩
        have hi2:i<tv.length:=(List.getElem?_eq_some_iff.mp hi).1
        simp -dsimp[cxOf,stC,-Bool.exists_bool,-List.map_take,-Prod.forall,-Prod.exists]
        refine ⟨p,_,rfl,hP5,by decide,by decide,fun d H6 hd0 hd1 hP6 hB6=>?_⟩
        have Dp:D≠p:=hP4.nl hD
        have LD:L≠D:=ne_of_none hL4 hD
        have nD:n≠D:=ne_of_none hn4 hD
        have hD6:=hB6 _ _ Dp hD5
        simp -dsimp[cxOf,stC,-Bool.exists_bool,-List.map_take,-Prod.forall,-Prod.exists]
        refine ⟨_,hD6,by rw [List.length_map,hl];exact zsz hi2 hL20,ds++[d],by rw [upd_same];simp,by simp [hl],?_,by rw [upd_ne LD];exact hB6 _ _ Lp hL5,(htv5.but hP5 hB6).keep (fun c zs e=>upd_oth e hD6 (by intro z;cases z)),by rw [upd_ne nD];exact hB6 _ _ np hn5,hP6.upd (Dp.symm),(hB5.trans hB6).new (Pot.none hB4 hP4 hD)⟩
        intro z hz
        rcases List.mem_append.mp hz with y | y
        ·exact hds z y
        · simp at y
          subst y
          exact ⟨hd0,hd1⟩
      · rintro σ H5 ⟨v,ds,rfl,hD5,hl,hds,hL5,htv5,hn5,hP5,hB5⟩
        simp -dsimp[cxOf,stC,-Bool.exists_bool,-List.map_take,-Prod.forall,-Prod.exists]
        have hD0:=Pot.none hB4 hP4 hD
        have LD:L≠D:=ne_of_none hL4 hD
        refine ⟨⟨_,SqL.of hL5⟩,⟨_,SqL.of hD5⟩,fun D2 hD2=>cmZ tv (ds.map V.int) (fun i σ H'=>(∃o1 o2 o3,σ=[o1,o2,o3])∧∃tvs qs,H' D2=some (.lst tvs)∧TupsAt H' tvs qs∧qs.length=i∧(∀e∈qs,e.1∈xs∧e.2∈xs∧e.1≠e.2)∧H' L=some (.lst tv)∧H' D=some (.lst (ds.map V.int))∧TupsAt H' tv ps∧H' n=some (.lst (xs.map V.str))∧Pot H' p∧But p H H') ⟨⟨_,_,_,rfl⟩,[],[],upd_same,⟨rfl,by simp⟩,rfl,by simp,upd_old hL5 hD2,upd_old hD5 hD2,htv5.same (same_upd hD2),upd_old hn5 hD2,hP5.upd (hP5.ne hD2),hB5.same (same_upd hD2)⟩ (by simp [hl]) (fun i σ H' _ h=>by
          obtain ⟨_,_,_,_,_,_,_,z1,z2,_⟩:=h
          exact ⟨SqL.of z1,SqL.of z2⟩) ?_ ?_⟩
        · rintro i x y t σ H6 hx hy ht ⟨⟨o1,o2,o3,rfl⟩,tvs,qs,hD26,htvs,hql,hqs,hL6,hD6,htv6,hn6,hP6,hB6⟩
          simp -dsimp[cxOf,stC,-Bool.exists_bool,-List.map_take,-Prod.forall,-Prod.exists]
          obtain ⟨e,he,tt,rfl,htt⟩:=htv6.at hx
          have hi2:i<tv.length:=(List.getElem?_eq_some_iff.mp hx).1
          have hem:=List.mem_of_getElem? he
          rw [List.getElem?_map] at hy
          obtain ⟨d,hd,rfl⟩:∃d,ds[i]? = some d∧y = .int d:=by
            cases z:ds[i]? with
            | none=>rw [z] at hy;cases hy
            | some d=>rw [z] at hy;exact ⟨d,rfl,(Option.some.inj hy).symm⟩
          have hd2:=hds d (List.mem_of_getElem? hd)
          refine ⟨_,SqT.of upd_same,rfl,_,SqT.of (upd_old htt ht),rfl,?_⟩
          simp -dsimp[cxOf,stC,-Bool.exists_bool,-List.map_take,-Prod.forall,-Prod.exists]
          refine fun p1 h1 p2 h2 p3 h3=>⟨_,.inl (SqL.of upd_same),?_⟩
          have hp1:=upd_old (u:=HO.lst [V.ref p1,V.ref p2]) (upd_old (u:=HO.tup [.str e.2,.str e.1]) (upd_same (H:=upd H6 t (HO.tup [V.ref tt,V.int d])) (a:=p1) (o:=HO.tup [.str e.1,.str e.2])) h2) h3
          have hp2:=upd_old (u:=HO.lst [V.ref p1,V.ref p2]) (upd_same (H:=upd (upd H6 t (HO.tup [V.ref tt,V.int d])) p1 (HO.tup [.str e.1,.str e.2])) (a:=p2) (o:=HO.tup [.str e.2,.str e.1])) h3
          have sm:=(((same_upd (o:=HO.tup [V.ref tt,V.int d]) ht).trans (same_upd (o:=HO.tup [.str e.1,.str e.2]) h1)).trans (same_upd (o:=HO.tup [.str e.2,.str e.1]) h2)).trans (same_upd (o:=HO.lst [V.ref p1,V.ref p2]) h3)
          generalize upd (upd (upd (upd H6 t (HO.tup [V.ref tt,V.int d])) p1 (HO.tup [.str e.1,.str e.2])) p2 (HO.tup [.str e.2,.str e.1])) p3 (HO.lst [V.ref p1,V.ref p2])=H9 at hp1 hp2 sm ⊢
          have key:∃(pp:Addr) (e':Str×Str),atI [V.ref p1,V.ref p2] d=some (.ref pp)∧H9 pp=some (.tup [.str e'.1,.str e'.2])∧e'.1∈xs∧e'.2∈xs∧e'.1≠e'.2:=by
            have ⟨q1,q2,q3⟩:=hts.ok e hem
            have:d=0∨d=1:=z01 hd2.1 hd2.2
            rcases this with rfl | rfl
            ·exact ⟨p1,e,rfl,hp1,q1,q2,q3⟩
            ·exact ⟨p2,(e.2,e.1),rfl,hp2,q2,q1,Ne.symm q3⟩
          obtain ⟨pp,e',a1,hpp,k1,k2,k3⟩:=key
          have D2n:=hD2
          have D2p:D2≠p:=hP5.nl hD2
          have LD2:L≠D2:=ne_of_none hL5 hD2
          have DD2:D≠D2:=ne_of_none hD5 hD2
          have nD2:n≠D2:=ne_of_none hn5 hD2
          have hD29:=sm _ _ hD26
          have kp:TupKeep H9 (upd H9 D2 (.lst (tvs++[.ref pp]))):=fun c zs e=>upd_oth e hD29 (by intro z;cases z)
          have hP9:Pot H9 p:=by
            obtain ⟨u1,u2,u3,u4⟩:=hP6
            exact ⟨u1,u2,sm _ _ u3,u4⟩
          refine ⟨_,a1,_,hD29,?_,_,upd_same,qs++[e'],((htvs.same sm).keep kp).snoc (kp _ _ hpp),by simp [hql],?_,by rw [upd_ne LD2];exact sm _ _ hL6,by rw [upd_ne DD2];exact sm _ _ hD6,(htv6.same sm).keep kp,by rw [upd_ne nD2];exact sm _ _ hn6,hP9.upd D2p.symm,(hB6.same sm).new (Pot.none hB5 hP5 hD2)⟩
          · rw [htvs.1,hql]
            exact zsz hi2 hL20
          · intro z hz
            rcases List.mem_append.mp hz with y | y
            ·exact hqs z y
            · simp at y
              subst y
              exact ⟨k1,k2,k3⟩
        · rintro σ H6 ⟨⟨o1,o2,o3,rfl⟩,tvs,qs,hD26,htvs,hql,hqs,hL6,hD6,htv6,hn6,hP6,hB6⟩
          simp -dsimp[cxOf,stC,-Bool.exists_bool,-List.map_take,-Prod.forall,-Prod.exists]
          have D2p:D2≠p:=hP5.nl hD2
          have hD20:=Pot.none hB5 hP5 hD2
          have tl:tvs.length=tv.length:=by rw [htvs.1,hql]
          refine ⟨p,D2,_,rfl,hP6,D2p,hD26,by rw [tl];exact Nat.le_trans hL20 (by decide),fun l ys H7 hl0 hl7 hperm hP7 hB7=>?_⟩
          simp -dsimp[cxOf,stC,-Bool.exists_bool,-List.map_take,-Prod.forall,-Prod.exists]
          intro t ht
          obtain ⟨rs,hrs,hrp⟩:=(htvs.but hP6 hB7).perm hperm
          refine q t n l xs ys rs _ (Pot.none (hB6.trans hB7) hP7 ht) (Pot.none hB1 hP1 hn) (Pot.none hB6 hP6 hl0) upd_same (upd_old (hB7 _ _ np hn6) ht) (upd_old hl7 ht) (hrs.same (same_upd ht)) hX ⟨?_,fun e he=>hqs e (hrp.mem_iff.mp he)⟩ hxm ?_ (hP7.upd (hP7.ne ht)) ((hB6.trans hB7).same (same_upd ht))
          ·rw [hrp.length_eq,hql];exact hL20
          ·rw [hrp.length_eq,hql,htv.1];exact hpk
    · intro N hN
      refine tBr.of (fun h=>?_) (fun h=>?_)
      · simp -dsimp[cxOf,stC,-Bool.exists_bool,-List.map_take,-Prod.forall,-Prod.exists]
        have hx2:2≤xs.length:=by simp at h;exact z2 h
        have hn3':upd H3 L (.lst []) n=some (.lst (xs.map V.str)):=upd_old hn3 hL
        refine ⟨p,n,_,rfl,hP3.upd (hP3.ne hL),np,hn3',by rw [List.length_map];exact Nat.le_trans hx9 (by decide),fun rw ys H4 hrw hrw4 hperm hP4 hB4'=>?_⟩
        have hB4:=(hB3.same (same_upd hL)).trans hB4'
        obtain ⟨zs,hzp,rfl⟩:=perm_map_inv hperm xs rfl
        have hzl:zs.length=xs.length:=hzp.length_eq
        have hznd:zs.Nodup:=hzp.nodup_iff.mpr hX.nd
        have hn4:=hB4' _ _ np hn3'
        have hL4:H4 L=some (.lst []):=hB4' _ _ (hP3.nl hL) upd_same
        have hL0:=Pot.none hB3 hP3 hL
        simp -dsimp[cxOf,stC,-Bool.exists_bool,-List.map_take,-Prod.forall,-Prod.exists]
        refine tBr_join (fun σ H5=>∃v6 v7 L tv ps,σ=[some (.ref p),some (.int m),some (.int k),some (.ref n),some (.int kd),some (.ref L),v6,v7,none]∧H L=none∧H5 L=some (.lst tv)∧TupsAt H5 tv ps∧Ties xs ps∧ps.length≤m∧H5 n=some (.lst (xs.map V.str))∧Pot H5 p∧But p H H5) ?_ ?_
        · rintro σ H5 ⟨v6,v7,L,tv,ps,rfl,hL0,hL5,htv,hts,hpm,hn5,hP5,hB5⟩
          simp -dsimp[cxOf,stC,-Bool.exists_bool,-List.map_take,-Prod.forall,-Prod.exists]
          have Lp:L≠p:=hp.nl hL0
          have hL20:tv.length=ps.length:=htv.1
          have s20:=of_eq_true sz20
          have htk:tv.length≤k:=by rw [hL20];exact Nat.le_trans hpm hmk
          refine ⟨_,.inl (SqL.of hL5),p,_,rfl,hP5,zk1 htk,zk2 hk (by decide),fun f H6 hf0 hf1 hP6 hB6'=>?_⟩
          simp -dsimp[cxOf,stC,-Bool.exists_bool,-List.map_take,-Prod.forall,-Prod.exists]
          refine ⟨zlo hf0,Int.lt_trans hf1 (zk2 hk (by decide)),frR (fun i σ H7=>∃v7 tv ps,σ=[some (.ref p),some (.int m),some (.int k),some (.ref n),some (.int kd),some (.ref L),v6,v7,none]∧H7 L=some (.lst tv)∧TupsAt H7 tv ps∧Ties xs ps∧ps.length+f.toNat≤k+i∧H7 n=some (.lst (xs.map V.str))∧Pot H7 p∧But p H H7) ⟨v7,tv,ps,rfl,hB6' _ _ Lp hL5,htv.but hP5 hB6',hts,zk3 hf0 hf1 hL20,hB6' _ _ np hn5,hP6,hB5.trans hB6'⟩ ?_ ?_⟩
          · rintro i σ H7 hi ⟨v7,tv,ps,rfl,hL7,htv7,hts7,hpl,hn7,hP7,hB7⟩
            simp -dsimp[cxOf,stC,-Bool.exists_bool,-List.map_take,-Prod.forall,-Prod.exists]
            refine ⟨⟨_,SqL.of hL7⟩,p,n,xs,rfl,hP7,np,hn7,hx2,hx9,hX.nd,fun t x y H8 ht ht8 hx hy hxy hP8 hB8=>?_⟩
            simp -dsimp[cxOf,stC,-Bool.exists_bool,-List.map_take,-Prod.forall,-Prod.exists]
            have hL8:=hB8 _ _ Lp hL7
            have hl7:=htv7.1
            have kp:TupKeep H8 (upd H8 L (.lst (tv++[.ref t]))):=fun c zs e=>upd_oth e hL8 (by intro z;cases z)
            have nL:n≠L:=fun z=>by subst z;rw [Pot.none hB1 hP1 hn] at hL0;rw [hn7] at hL7;cases tv with
              | nil=>simp at hL7;rw [hL7] at hx2;simp at hx2
              | cons v tv=>
                obtain ⟨e,_,u,rfl,_⟩:=htv7.at (i:=0) rfl
                cases xs with
                | nil=>simp at hx2
                | cons x xs=>simp at hL7
            refine ⟨_,hL8,zk4 hl7 hpl hi hk,_,upd_same,ps++[(x,y)],((htv7.but hP7 hB8).keep kp).snoc (kp _ _ ht8),⟨by rw [List.length_append];exact Nat.succ_le_succ (zk5 hpl hi hk),?_⟩,by rw [List.length_append];exact zk6 hpl,by rw [upd_ne nL];exact hB8 _ _ np hn7,hP8.upd Lp.symm,(hB7.trans hB8).new hL0⟩
            intro e he
            rcases List.mem_append.mp he with z | z
            ·exact hts7.ok e z
            · simp at z
              subst z
              exact ⟨hx,hy,hxy⟩
          · rintro σ H7 ⟨v7,tv,ps,rfl,hL7,htv7,hts7,hpl,hn7,hP7,hB7⟩
            simp -dsimp[cxOf,stC,-Bool.exists_bool,-List.map_take,-Prod.forall,-Prod.exists]
            exact hN _ _ ⟨_,_,L,tv,ps,rfl,hL0,hL7,htv7,hts7,zk7 hpl,hn7,hP7,hB7⟩
        · intro N2 hN2
          refine tBr.of (fun h=>?_) (fun h=>?_)
          · simp -dsimp[cxOf,stC,-Bool.exists_bool,-List.map_take,-Prod.forall,-Prod.exists]
            obtain ⟨lo,hlo,lo1⟩:∃lo:Nat,(if kd=3 then (1:Int) else 0)=lo∧lo≤1:=by
              split
              ·exact ⟨1,rfl,Nat.le_refl _⟩
              ·exact ⟨0,rfl,by decide⟩
            simp only [hlo]
            have s20:=of_eq_true sz20
            refine ⟨_,.inl (SqL.of hrw4),⟨zloN,zlt lo1 (by decide),zlt (by rw [List.length_map,hzl];exact hx9) (by decide)⟩,fun D hD=>cmR (fun i σ H5=>(∃o,σ=[o,some (.ref rw)])∧∃tvs qs,H5 D=some (.lst tvs)∧TupsAt H5 tvs qs∧qs.length=i∧(∀e∈qs,e.1∈xs∧e.2∈xs∧e.1≠e.2)∧Same H4 H5) ⟨⟨_,rfl⟩,[],[],upd_same,⟨rfl,by simp⟩,rfl,by simp,same_upd hD⟩ ?_ ?_⟩
            · rintro i σ H5 hi ⟨⟨o,rfl⟩,tvs,qs,hD5,htvs,hql,hqs,sm⟩
              have hk:lo+i<zs.length:=by simp at hi;exact zsub hi
              obtain ⟨j,vx,hj,ex,ax⟩:=atI_prev (xs:=zs.map V.str) (k:=lo+i) (by rw [List.length_map,hzl];exact hx2) (by simpa using hk)
              obtain ⟨x,ex',rfl⟩:=str_at ex
              have ey':zs[lo+i]? = some (zs[lo+i]'hk):=by simp [hk]
              have ay:atI (zs.map V.str) ((lo+i:Nat):Int)=some (.str (zs[lo+i]'hk)):=atI_nat (by rw [List.getElem?_map,ey'];rfl)
              have c1:((lo+i:Nat):Int)=(lo:Int)+i:=Int.natCast_add ..
              rw [c1] at ax ay
              have sl:=SqL.of (K:=K) (sm _ _ hrw4)
              simp -dsimp[cxOf,stC,-Bool.exists_bool,-List.map_take,-Prod.forall,-Prod.exists]
              refine ⟨_,.inl sl,_,ax,_,.inl sl,_,ay,fun pt hpt=>?_⟩
              have Dpt:=ne_of_none hD5 hpt
              have hD6:upd H5 pt (.tup [.str x,.str (zs[lo+i]'hk)]) D=some (.lst tvs):=upd_old hD5 hpt
              have kp:TupKeep (upd H5 pt (.tup [.str x,.str (zs[lo+i]'hk)])) (upd (upd H5 pt (.tup [.str x,.str (zs[lo+i]'hk)])) D (.lst (tvs++[.ref pt]))):=fun c zs e=>upd_oth e hD6 (by intro z;cases z)
              have hl:=htvs.1
              refine ⟨_,hD6,by rw [hl,hql];exact zsz (Nat.lt_of_le_of_lt (Nat.le_add_left i lo) hk) (by rw [hzl];exact Nat.le_trans hx9 (by decide)),_,upd_same,qs++[(x,zs[lo+i]'hk)],((htvs.same (same_upd hpt)).keep kp).snoc (kp _ _ upd_same),by simp [hql],?_,same_upd2 (sm.trans (same_upd hpt)) hD⟩
              intro e he
              rcases List.mem_append.mp he with z | z
              ·exact hqs e z
              · simp at z
                subst z
                refine ⟨hzp.mem_iff.mp (List.mem_of_getElem? ex'),hzp.mem_iff.mp (List.mem_of_getElem? ey'),fun z=>hj ?_⟩
                simp only at z
                rw [← z] at ey'
                exact nodup_at hznd ex' ey'
            · rintro σ H5 ⟨⟨o,rfl⟩,tvs,qs,hD5,htvs,hql,hqs,sm⟩
              simp -dsimp[cxOf,stC,-Bool.exists_bool,-List.map_take,-Prod.forall,-Prod.exists]
              simp at hql
              have hqm:qs.length≤m:=by rw [hql,hzl];exact Nat.le_trans (Nat.sub_le ..) hxm
              have hP5:Pot H5 p:=by
                obtain ⟨u1,u2,u3,u4⟩:=hP4
                exact ⟨u1,u2,sm _ _ u3,u4⟩
              exact hN2 _ _ ⟨_,_,D,tvs,qs,rfl,Pot.none hB4 hP4 hD,hD5,htvs,⟨Nat.le_trans hqm (Nat.le_trans h9 (by decide)),hqs⟩,hqm,sm _ _ hn4,hP5,hB4.same sm⟩
          · simp -dsimp[cxOf,stC,-Bool.exists_bool,-List.map_take,-Prod.forall,-Prod.exists]
            exact hN2 _ _ ⟨_,_,L,[],[],rfl,hL0,hL4,⟨rfl,by simp⟩,⟨by simp,by simp⟩,by simp,hn4,hP4,hB4⟩
      · simp -dsimp[cxOf,stC,-Bool.exists_bool,-List.map_take,-Prod.forall,-Prod.exists]
        exact hN _ _ ⟨_,_,L,[],[],rfl,Pot.none hB3 hP3 hL,upd_same,⟨rfl,by simp⟩,⟨by simp,by simp⟩,by simp,upd_old hn3 hL,hP3.upd (hP3.ne hL),hB3.same (same_upd hL)⟩
theorem wf_no {m:Str} {u v:V} (h1:¬m = "names") (h2:¬m = "pairs"):∀p∈([("names",u),("pairs",v)]:List (Str×V)),¬m=p.1:=fun p hp=>by
  simp at hp
  rcases hp with rfl | rfl
  ·exact h1
  ·exact h2
theorem WebAt.same {C:Addr} {H H':Hp} {o:Addr} {xs:List Str} {ps:List (Str×Str)} (h:WebAt C H o xs ps) (s:Same H H'):WebAt C H' o xs ps:=by
  obtain ⟨dx,n,m,tv,h1,h2,h3,h4,h5⟩:=h.ex
  exact ⟨⟨dx,n,m,tv,s _ _ h1,s _ _ h2,s _ _ h3,TupsAt.same h4 s,h5⟩⟩
theorem WebAt.ins {C:Addr} {H:Hp} {o:Addr} {xs:List Str} {ps:List (Str×Str)} (h:WebAt C H o xs ps) {m:Str} (h1:¬m = "names") (h2:¬m = "pairs"):∃dx fs,H o=some (.ins C dx fs)∧∀p∈fs,¬m=p.1:=by
  obtain ⟨dx,n,mm,tv,e,_⟩:=h.ex
  exact ⟨dx,_,e,wf_no h1 h2⟩
theorem no_ties:¬(("ties" : Str) = "names")∧¬(("ties" : Str) = "pairs"):=by decide +kernel
theorem no_points:¬(("points" : Str) = "names")∧¬(("points" : Str) = "pairs"):=by decide +kernel
theorem no_many:¬(("many" : Str) = "names")∧¬(("many" : Str) = "pairs"):=by decide +kernel
def sp_steps_along (C:Addr):Sp:=fun vs H Q _=>∃o d xs ps fx,vs=[.ref o,.ref d]∧WebAt C H o xs ps∧FixAt H d fx∧∀l tv H',H l=none→H' l=some (.lst tv)→StepsAt H' tv (stepsOf fx ps 0)→tv.length≤40→Same H H'→Q (.ref l) H'
theorem ok_steps_along (T:Txt K mg a):FnOk P w K mg base CX0 2 a.f_steps_along a.fd_steps_along ["web", "fixed"] (sp_steps_along a.C_Web):=by
  refine T.F_steps_along.okL sc_steps_along (fun vs H Q E h=>?_) (fun cdv A outer s H vs Q E hr h=>?_)
  · obtain ⟨o,d,xs,ps,fx,rfl,_⟩:=h
    rfl
  · obtain ⟨o,d,xs,ps,fx,rfl,hw,hfx,q⟩:=h
    refine ⟨_,(pss_cons (ps_set (i:=2) sc_steps_along.nd rfl (Or.inl rfl) (pe_lst pa_nil))
      (pss_cons (ps_for PassesOwn.never rfl (PI.eqv (pi_enum (K:=K) rfl rfl T.nm2.enumerate (pa_cons (PE.eqv (pe_meth0 (fpv 0) T.c_Web T.M_Web_ties (ok_Web_ties (K:=K) T) (hr.mono (by decide)) T.b_Web_ties .nil pass0) (fMeth_eq _ _ _ _ _ _)) pa_nil)) (fiEnum_eq _ _)) (PG.eqv (pg_tupk (K:=K) (n:=2) rfl rfl (PGs.eqv (pgs_cons (pg_name (i:=3) sc_steps_along.nd rfl (Or.inl rfl)) (PGs.eqv (pgs_cons (PG.eqv (pg_tupk (K:=K) (n:=2) rfl rfl (PGs.eqv (pgs_cons (pg_name (i:=4) sc_steps_along.nd rfl (Or.inl rfl)) (PGs.eqv (pgs_cons (pg_name (i:=5) sc_steps_along.nd rfl (Or.inl rfl)) (PGs.mono pgs_nil fNil_t)) (fCons_eq _ _))) (fCons_eq _ _))) (fTup_eq _ _ _)) (PGs.mono pgs_nil fNil_t)) (fCons_eq _ _))) (fCons_eq _ _))) (fTup_eq _ _ _))
      (pss_cons (ps_if (fpt_cmpR fop_eq (PE.eqv (pe_dget2 (hu_of hr) (fpv 1) (fpv 3) pe_int ⟨rfl,rfl,rfl,rfl⟩) (fDGet2_eq _ _ _)) pe_int (nomark _)) (pss_one (ps_expr (pe_bmk (K:=K) rfl PySem.F.plainAttrs_list PySem.F.slot_list_append PySem.F.type_list_append fmt_append (fpv 2) (pa_cons (pe_tup (pa_cons (fpv 3) (pa_cons (fpv 4) (pa_cons (fpv 5) pa_nil)))) pa_nil)))) pss_nil)
      (pss_one (ps_if (fpt_cmpR fop_eq (PE.eqv (pe_dget2 (hu_of hr) (fpv 1) (fpv 3) pe_int ⟨rfl,rfl,rfl,rfl⟩) (fDGet2_eq _ _ _)) pe_int (nomark _)) (pss_one (ps_expr (pe_bmk (K:=K) rfl PySem.F.plainAttrs_list PySem.F.slot_list_append PySem.F.type_list_append fmt_append (fpv 2) (pa_cons (pe_tup (pa_cons (fpv 3) (pa_cons (fpv 5) (pa_cons (fpv 4) pa_nil)))) pa_nil)))) pss_nil))))
      (pss_one (ps_ret (fpv 2))))),?_⟩
    obtain ⟨dx,fs,hi,hno⟩:=hw.ins no_ties.1 no_ties.2
    obtain ⟨_,_,_,_,_,_,_,_,h20⟩:=hw.ex
    simp -dsimp[cxOf,stC,-Bool.exists_bool,-List.map_take,-Prod.forall,-Prod.exists]
    intro L hL
    refine ⟨_,_,upd_old hi hL,hno,o,xs,ps,rfl,hw.same (same_upd hL),fun l2 tv2 hl2 htv2=>?_⟩
    have sa:Same H (upd (upd H L (.lst [])) l2 (.lst tv2)):=(same_upd hL).trans (same_upd hl2)
    have eL:upd (upd H L (.lst [])) l2 (.lst tv2) L=some (.lst []):=upd_old upd_same hl2
    have e2:upd (upd H L (.lst [])) l2 (.lst tv2) l2=some (.lst tv2):=upd_same
    have htv3:=TupsAt.same htv2 (same_upd (o:=HO.lst tv2) hl2)
    have L2n:L≠l2:=fun z=>by subst z;rw [upd_same] at hl2;cases hl2
    generalize upd (upd H L (.lst [])) l2 (.lst tv2)=H1 at sa eL e2 htv3 ⊢
    obtain ⟨kvs,hd,hv⟩:=hfx
    have dL:d≠L:=ne_of_none hd hL
    simp -dsimp[cxOf,stC,-Bool.exists_bool,-List.map_take,-Prod.forall,-Prod.exists]
    refine ⟨⟨_,SqL.of e2⟩,frE tv2 (fun i σ H'=>(∃v3 v4 v5 sv,σ=[some (.ref o),some (.ref d),some (.ref L),v3,v4,v5]∧H' L=some (.lst sv)∧StepsAt H' sv (stepsOf fx (ps.take i) 0)∧sv.length≤2 * i)∧H' l2=some (.lst tv2)∧TupsAt H' tv2 ps∧Same H H') ⟨⟨_,_,_,[],rfl,eL,AllAt.nil,by simp⟩,e2,htv3,sa⟩ (fun i σ H' _ h=>SqL.of h.2.1) ?_ ?_⟩
    · rintro i x t σ H2 hi ht ⟨⟨v3,v4,v5,sv,rfl,hL2,hsv,hsl⟩,hl22,htv,s2⟩
      have hi2:i<tv2.length:=(List.getElem?_eq_some_iff.mp hi).1
      have tl:=htv.1
      obtain ⟨e,he,tt,rfl,htt⟩:=htv.at hi
      rw [stepsOf_take fx he]
      unfold stepOf
      simp -dsimp[cxOf,stC,-Bool.exists_bool,-List.map_take,-Prod.forall,-Prod.exists]
      have st:Same H2 (upd H2 t (.tup [.int i,.ref tt])):=same_upd ht
      refine ⟨_,SqT.of upd_same,rfl,_,SqT.of (st _ _ htt),rfl,isD (st _ _ (s2 _ _ hd)),_,getI i (st _ _ (s2 _ _ hd)),?_⟩
      have tL:L≠t:=ne_of_none hL2 ht
      have hL3:=st _ _ hL2
      have hl23:=st _ _ hl22
      have htv3:=TupsAt.same htv st
      have s3:=s2.trans st
      have hsv3:=StepsAt.keep hsv (L2.TupKeep.of st)
      generalize upd H2 t (.tup [.int i,.ref tt])=H3 at hL3 hl23 htv3 s3 hsv3 ⊢
      have s60:60≤sizeLine:=by decide
      have add:∀(H3:Hp) (sv:List V) (S:List Stp) (n:Nat) (x y:Str) (b:Addr),H3 L=some (.lst sv)→StepsAt H3 sv S→H3 b=none→H3 l2=some (.lst tv2)→TupsAt H3 tv2 ps→Same H H3→
          (upd (upd H3 b (.tup [.int n,.str x,.str y])) L (.lst (sv++[.ref b])) L=some (.lst (sv++[.ref b]))∧StepsAt (upd (upd H3 b (.tup [.int n,.str x,.str y])) L (.lst (sv++[.ref b]))) (sv++[.ref b]) (S++[(n,x,y)]))∧upd (upd H3 b (.tup [.int n,.str x,.str y])) L (.lst (sv++[.ref b])) l2=some (.lst tv2)∧TupsAt (upd (upd H3 b (.tup [.int n,.str x,.str y])) L (.lst (sv++[.ref b]))) tv2 ps∧Same H (upd (upd H3 b (.tup [.int n,.str x,.str y])) L (.lst (sv++[.ref b]))):=by
        intro H3 sv S n x y b hL3 hsv hb hl2 htv s3
        have sb:Same H3 (upd H3 b (.tup [.int n,.str x,.str y])):=same_upd hb
        have kp:L2.TupKeep (upd H3 b (.tup [.int n,.str x,.str y])) (upd (upd H3 b (.tup [.int n,.str x,.str y])) L (.lst (sv++[.ref b]))):=L2.TupKeep.set (sb _ _ hL3) (by intro z e;cases e)
        refine ⟨⟨upd_same,AllAt.snoc (StepsAt.keep (StepsAt.keep hsv (L2.TupKeep.of sb)) kp) ⟨b,rfl,kp _ _ upd_same⟩⟩,by rw [upd_ne L2n.symm];exact sb _ _ hl2,(TupsAt.same htv sb).keep kp,same_upd2 (s3.trans sb) hL⟩
      rw [hv i,getD_int]
      simp -dsimp[cxOf,stC,-Bool.exists_bool,-List.map_take,-Prod.forall,-Prod.exists]
      refine tBr_join (fun σ H4=>(∃sv,σ=[some (.ref o),some (.ref d),some (.ref L),some (.int i),some (.str e.1),some (.str e.2)]∧H4 L=some (.lst sv)∧StepsAt H4 sv (stepsOf fx (ps.take i) 0++if (fx i).getD 0=0 then [(i,e.1,e.2)] else [])∧sv.length≤2 * i+1)∧H4 l2=some (.lst tv2)∧TupsAt H4 tv2 ps∧Same H H4) ?_ ?_
      · rintro σ H4 ⟨⟨sv,rfl,hL4,hsv4,hsl4⟩,hl24,htv4,s4⟩
        simp -dsimp[cxOf,stC,-Bool.exists_bool,-List.map_take,-Prod.forall,-Prod.exists]
        refine ⟨isD (s4 _ _ hd),_,getI i (s4 _ _ hd),?_⟩
        rw [hv i,getD_int]
        simp -dsimp[cxOf,stC,-Bool.exists_bool,-List.map_take,-Prod.forall,-Prod.exists]
        refine tBr.of (fun h=>?_) (fun h=>?_)
        · have h':(fx i).getD 1=1:=by simpa using h
          simp -dsimp[cxOf,stC,-Bool.exists_bool,-List.map_take,-Prod.forall,-Prod.exists]
          refine ⟨⟨_,SqL.of hL4⟩,fun b hb=>?_⟩
          refine ⟨_,upd_old hL4 hb,zs1 hsl4 hi2 tl h20,?_⟩
          obtain ⟨⟨k1,k2⟩,k3,k4,k5⟩:=add H4 sv _ i e.2 e.1 b hL4 hsv4 hb hl24 htv4 s4
          refine ⟨⟨_,k1,?_,by rw [List.length_append];exact zs2 hsl4⟩,k3,k4,k5⟩
          rw [if_pos h',← List.append_assoc]
          exact k2
        · have h':¬(fx i).getD 1=1:=by simpa using h
          simp -dsimp[cxOf,stC,-Bool.exists_bool,-List.map_take,-Prod.forall,-Prod.exists]
          refine ⟨⟨_,hL4,?_,Nat.le_of_succ_le (zs2 hsl4)⟩,hl24,htv4,s4⟩
          rw [if_neg h',List.append_nil]
          exact hsv4
      · intro N hN
        refine tBr.of (fun h=>?_) (fun h=>?_)
        · have h':(fx i).getD 0=0:=by simpa using h
          simp -dsimp[cxOf,stC,-Bool.exists_bool,-List.map_take,-Prod.forall,-Prod.exists]
          refine ⟨⟨_,SqL.of hL3⟩,fun b hb=>?_⟩
          refine ⟨_,upd_old hL3 hb,zs1 (Nat.le_succ_of_le hsl) hi2 tl h20,?_⟩
          obtain ⟨⟨k1,k2⟩,k3,k4,k5⟩:=add H3 sv _ i e.1 e.2 b hL3 hsv3 hb hl23 htv3 s3
          refine hN _ _ ⟨⟨_,rfl,k1,?_,by rw [List.length_append];exact Nat.succ_le_succ hsl⟩,k3,k4,k5⟩
          rw [if_pos h']
          exact k2
        · have h':¬(fx i).getD 0=0:=by simpa using h
          simp -dsimp[cxOf,stC,-Bool.exists_bool,-List.map_take,-Prod.forall,-Prod.exists]
          refine hN _ _ ⟨⟨_,rfl,hL3,?_,Nat.le_succ_of_le hsl⟩,hl23,htv3,s3⟩
          rw [if_neg h',List.append_nil]
          exact hsv3
    · rintro σ H2 ⟨⟨v3,v4,v5,sv,rfl,hL2,hsv,hsl⟩,hl22,htv,s2⟩
      simp -dsimp[cxOf,stC,-Bool.exists_bool,-List.map_take,-Prod.forall,-Prod.exists]
      rw [htv.1,List.take_length] at hsv
      have tl:=htv.1
      exact q L sv H2 hL hL2 hsv (zs3 hsl tl h20) s2
def sp_ways_along:Sp:=fun vs H Q _=>∃(start:Str) (l:Addr) (tv:List V) (S:List Stp) (xs:List Str),vs=[.str start,.ref l]∧H l=some (.lst tv)∧StepsAt H tv S∧start∈xs∧(∀s∈S,s.2.2∈xs)∧xs.length≤9∧
  ∀(d:Addr) (kvs:List (Key×V)) (R:BR) (H':Hp),H d=none→H' d=some (.dK kvs)→WaysAt H' kvs R→Bfs S start R.length R→BfsF S start R→WaysNew H kvs→Same H H'→Q (.ref d) H'
theorem ok_ways_along (T:Txt K mg a):FnOk P w K mg base CX0 1 a.f_ways_along a.fd_ways_along ["start", "steps"] sp_ways_along:=by
  refine T.F_ways_along.okL sc_ways_along (fun vs H Q E h=>?_) (fun cdv A outer s H vs Q E hr h=>?_)
  · obtain ⟨start,l,tv,S,xs,rfl,_⟩:=h
    rfl
  · obtain ⟨start,l,tv,S,xs,rfl,hl,hS,hsx,hSx,h9,q⟩:=h
    refine ⟨_,(pss_cons (ps_set (i:=2) sc_ways_along.nd rfl (Or.inl rfl) (pe_disp (pps_cons (fpv 0) (pe_lst pa_nil) pps_nil) rfl rfl (by simp) (by decide)))
      (pss_cons (ps_set (i:=3) sc_ways_along.nd rfl (Or.inl rfl) (pe_lst (pa_cons (fpv 0) pa_nil)))
      (pss_cons (ps_set (i:=4) sc_ways_along.nd rfl (Or.inl rfl) pe_int)
      (pss_cons (ps_while PassesOwn.never (fpt_cmpR fop_lt (fpv 4) (pe_callB (flenQk (K:=K) rfl) rfl T.nm.len PySem.boot_len (pa_cons (fpv 3) pa_nil)) (nomark _))
      (pss_cons (ps_set (i:=5) sc_ways_along.nd rfl (Or.inl rfl) (pe_ix (fixQk (K:=K) rfl) (fpv 3) (fpv 4) (fun _ _=>rfl)))
      (pss_cons (ps_for PassesOwn.never rfl (PI.eqv (pi_listk (K:=K) rfl (fpv 1)) (fiList_eq _ _)) (PG.eqv (pg_tupk (K:=K) (n:=3) rfl rfl (PGs.eqv (pgs_cons (pg_name (i:=6) sc_ways_along.nd rfl (Or.inl rfl)) (PGs.eqv (pgs_cons (pg_name (i:=7) sc_ways_along.nd rfl (Or.inl rfl)) (PGs.eqv (pgs_cons (pg_name (i:=8) sc_ways_along.nd rfl (Or.inl rfl)) (PGs.mono pgs_nil fNil_t)) (fCons_eq _ _))) (fCons_eq _ _))) (fCons_eq _ _))) (fTup_eq _ _ _))
      (pss_one (ps_if (PW.pt (pw_and (fpt_cmpR fop_eq (fpv 7) (fpv 5) (nomark _)) (pw_and1 (fpt_cmp (PC.eqv (pc_dnotin (hu_of hr) (fpv 8) (fpv 2)) (fDNotIn_eq _ _)))))) (pss_cons (PS.eqv (ps_dput (hu_of hr) (fpv 2) (fpv 8) (pe_op fop_cat (PE.eqv (pe_dget (hu_of hr) (fpv 2) (fpv 5) (fun _ _=>rfl)) (fDGet_eq _ _)) (pe_lst (pa_cons (fpv 6) pa_nil))) rfl) (fDPut_eq _ _ _))
      (pss_one (ps_expr (pe_bmk (K:=K) rfl PySem.F.plainAttrs_list PySem.F.slot_list_append PySem.F.type_list_append fmt_append (fpv 3) (pa_cons (fpv 8) pa_nil))))) pss_nil)))
      (pss_one (PS.mono (ps_aug (i:=4) sc_ways_along.nd rfl (Or.inl rfl) pe_int fip_add) fAug_t)))))
      (pss_one (ps_ret (fpv 2))))))),?_⟩
    simp -dsimp[cxOf,stC,-Bool.exists_bool,-List.map_take,-Prod.forall,-Prod.exists]
    intro d hd p1 hp1
    refine ⟨upd_old upd_same hp1,[(Sum.inr start,.ref p1)],rfl,by simp,fun rl hrl=>?_⟩
    have em:mergeK [] [((Sum.inr start:Key),V.ref p1)]=[(Sum.inr start,.ref p1)]:=rfl
    rw [em] at hrl ⊢
    have dp1:d≠p1:=fun z=>by subst z;rw [upd_same] at hp1;cases hp1
    have hp10:H p1=none:=fresh_of (same_upd hd) hp1
    have sa:Same H (upd (upd (upd H d (.dK [])) p1 (.lst [])) d (.dK [(Sum.inr start,.ref p1)])):=same_upd2 ((same_upd hd).trans (same_upd hp1)) hd
    have hrl0:H rl=none:=fresh_of sa hrl
    have e1:upd (upd (upd H d (.dK [])) p1 (.lst [])) d (.dK [(Sum.inr start,.ref p1)]) d=some (.dK [(Sum.inr start,.ref p1)]):=upd_same
    have e2:upd (upd (upd H d (.dK [])) p1 (.lst [])) d (.dK [(Sum.inr start,.ref p1)]) p1=some (.lst []):=by rw [upd_ne dp1.symm];exact upd_same
    generalize upd (upd (upd H d (.dK [])) p1 (.lst [])) d (.dK [(Sum.inr start,.ref p1)])=H1 at sa hrl e1 e2 ⊢
    have sb:=sa.trans (same_upd (o:=.lst [.str start]) hrl)
    have dr:d≠rl:=ne_of_none e1 hrl
    have wnew0:WaysNew H [((Sum.inr start:Key),V.ref p1)]:=by
      intro kv hkv q hq
      simp at hkv
      subst hkv
      cases hq
      exact hp10
    refine whB (fun σ H'=>∃(n:Nat) (R:BR) (kvs:List (Key×V)) (o5 o6 o7 o8:Option V),σ=[some (.str start),some (.ref l),some (.ref d),some (.ref rl),some (.int n),o5,o6,o7,o8]∧H' d=some (.dK kvs)∧WaysAt H' kvs R∧H' rl=some (.lst (R.map fun yw=>.str yw.1))∧Bfs S start n R∧bfsN S start n=R∧WaysNew H kvs∧n≤R.length∧Same H H')
      (fun σ _=>muAt 4 σ)
      ⟨0,[(start,[])],[(Sum.inr start,.ref p1)],none,none,none,none,rfl,upd_old e1 hrl,⟨rfl,?_⟩,upd_same,Bfs.begin S start,rfl,wnew0,by simp,sb⟩ ?_ fmono_ltlen
    · intro i kv yw h1 h2
      have hi:i=0:=by have:=(List.getElem?_eq_some_iff.mp h1).1;simp at this;omega
      subst hi
      simp at h1 h2
      subst h1 h2
      exact ⟨rfl,p1,rfl,upd_old e2 hrl⟩
    · rintro σ H2 ⟨n,R,kvs,o5,o6,o7,o8,rfl,hd2,hW2,hr2,hB,hF,hN,hnR,s2⟩
      have hR9:R.length≤9:=by
        have h1:=nodup_len hB.nd (hB.sub hsx hSx)
        simp at h1
        omega
      simp -dsimp[cxOf,stC,-Bool.exists_bool,-List.map_take,-Prod.forall,-Prod.exists]
      refine ⟨_,.inl (SqL.of hr2),tBr.of (fun hlt=>?_) (fun hlt=>?_)⟩
      · have hlt':n<R.length:=by simpa using hlt
        simp -dsimp[cxOf,stC,-Bool.exists_bool,-List.map_take,-Prod.forall,-Prod.exists]
        obtain ⟨⟨hh,wh⟩,hR⟩:∃x,R[n]? = some x:=⟨R[n],by simp [hlt']⟩
        refine ⟨_,.inl (SqL.of hr2),.str hh,atI_nat (by rw [List.getElem?_map,hR];rfl),⟨_,SqL.of (s2 _ _ hl)⟩,frL tv (fun j σ H'=>∃(R:BR) (kvs:List (Key×V)) (o6 o7 o8:Option V),σ=[some (.str start),some (.ref l),some (.ref d),some (.ref rl),some (.int n),some (.str hh),o6,o7,o8]∧H' d=some (.dK kvs)∧WaysAt H' kvs R∧H' rl=some (.lst (R.map fun yw=>.str yw.1))∧BfsMid S (S.take j) start n hh wh R∧bfsIn (S.take j) hh wh (bfsN S start n)=R∧WaysNew H kvs∧Same H H') ⟨R,kvs,o6,o7,o8,rfl,hd2,hW2,hr2,BfsMid.enter hB hR,hF,hN,s2⟩ (fun j σ H' _ h=>by
          obtain ⟨_,_,_,_,_,_,_,_,_,_,_,_,z⟩:=h
          exact SqL.of (z _ _ hl)) ?_ ?_⟩
        · rintro j x σ H3 hj ⟨R,kvs,o6,o7,o8,rfl,hd3,hW3,hr3,hM,hF3,hN3,s3⟩
          obtain ⟨⟨sn,so,sg⟩,hs,t,rfl,ht⟩:=hS.at hj
          have hR9:R.length≤9:=by
            have h1:=nodup_len hM.bf.nd (hM.bf.sub hsx hSx)
            simp at h1
            omega
          have hFs:=bfsIn_snoc (S.take j) (sn,so,sg) hh wh (bfsN S start n)
          rw [hF3] at hFs
          rw [take_one hs]
          simp -dsimp[cxOf,stC,-Bool.exists_bool,-List.map_take,-Prod.forall,-Prod.exists]
          refine ⟨_,SqT.of (s3 _ _ ht),rfl,?_⟩
          simp -dsimp[cxOf,stC,-Bool.exists_bool,-List.map_take,-Prod.forall,-Prod.exists]
          by_cases hoh:so=hh
          · subst hoh
            refine tBr.pos (by simp) ?_
            simp -dsimp[cxOf,stC,-Bool.exists_bool,-List.map_take,-Prod.forall,-Prod.exists]
            refine ⟨_,getS sg hd3,?_⟩
            rw [hW3.hasN hM.bf.nd]
            refine tBr.of (fun hg=>?_) (fun hg=>?_)
            · have hg':¬sg∈R.map (·.1):=by simpa using hg
              obtain ⟨pw,hpw,hpw2⟩:=hW3.some hM.bf.nd (List.mem_of_getElem? hM.hr)
              have hwl:=hM.bf.wlen (List.mem_of_getElem? hM.hr)
              have s20:=of_eq_true sz20
              simp -dsimp[cxOf,stC,-Bool.exists_bool,-List.map_take,-Prod.forall,-Prod.exists]
              refine ⟨.ref pw,?_,fun b hb=>?_⟩
              · have:=getS so hd3
                rw [hpw] at this
                exact this
              refine ⟨_,upd_old hpw2 hb,_,upd_same,by simp;omega,fun c hc=>?_⟩
              have s4:Same H3 (upd (upd H3 b (.lst [.int sn])) c (.lst (wh.map (fun n:Nat=>V.int n)++[.int sn]))):=(same_upd hb).trans (same_upd hc)
              have ec:upd (upd H3 b (.lst [.int sn])) c (.lst (wh.map (fun n:Nat=>V.int n)++[.int sn])) c=some (.lst (wh.map (fun n:Nat=>V.int n)++[.int sn])):=upd_same
              generalize upd (upd H3 b (.lst [.int sn])) c (.lst (wh.map (fun n:Nat=>V.int n)++[.int sn]))=H4 at s4 ec ⊢
              have hd4:=s4 _ _ hd3
              have hr4:=s4 _ _ hr3
              have hkl:=hW3.len
              have epk:putK kvs (Sum.inr sg) (.ref c)=kvs++[(Sum.inr sg,.ref c)]:=putK_new _ (hW3.none hg')
              refine ⟨_,putS sg hd4 (by omega),?_⟩
              rw [epk]
              have hr5:upd H4 d (.dK (kvs++[(Sum.inr sg,.ref c)])) rl=some (.lst (R.map fun yw=>.str yw.1)):=by rw [upd_ne dr.symm];exact hr4
              have ne0:∀w:List Nat,R.map (fun yw=>V.str yw.1)≠w.map (fun n:Nat=>V.int n):=fun w e=>by
                have hst:=hM.bf.st
                cases R with
                | nil=>simp at hst
                | cons r R=>
                  cases w with
                  | nil=>simp at e
                  | cons n w=>simp at e
              have kp:∀(p:Addr) (w:List Nat),H4 p=some (.lst (w.map fun n:Nat=>V.int n))→upd (upd H4 d (.dK (kvs++[(Sum.inr sg,.ref c)]))) rl (.lst (R.map (fun yw=>V.str yw.1)++[.str sg])) p=some (.lst (w.map fun n:Nat=>V.int n)):=fun p w e=>by
                have h1:p≠d:=fun z=>by subst z;rw [hd4] at e;cases e
                have h2:p≠rl:=fun z=>by subst z;rw [hr4] at e;exact ne0 w (HO.lst.inj (Option.some.inj e))
                rw [upd_ne h2,upd_ne h1]
                exact e
              have ec':H4 c=some (.lst ((wh++[sn]).map fun n:Nat=>V.int n)):=by rw [ec];simp
              refine ⟨⟨_,SqL.of hr5⟩,_,hr5,by simp;omega,R++[(sg,wh++[sn])],_,by rw [upd_ne dr];exact upd_same,?_,by rw [upd_same];simp,hM.add (List.mem_of_getElem? hs) hg',hFs.trans (if_pos ⟨rfl,hg'⟩),hN3.snoc (fresh_of (s3.trans (same_upd hb)) hc),same_upd2 (same_upd2 (s3.trans s4) hd) hrl0⟩
              refine WaysAt.snoc (WaysAt.keep (H:=H4) (WaysAt.keep hW3 fun p w e=>s4 _ _ e) kp) (kp _ _ ec')
            · have hg':sg∈R.map (·.1):=by simpa using hg
              simp -dsimp[cxOf,stC,-Bool.exists_bool,-List.map_take,-Prod.forall,-Prod.exists]
              exact ⟨R,kvs,hd3,hW3,hr3,hM.skip fun _=>hg',hFs.trans (if_neg (fun z=>z.2 hg')),hN3,s3⟩
          · refine tBr.neg (by simp [hoh]) ?_
            simp -dsimp[cxOf,stC,-Bool.exists_bool,-List.map_take,-Prod.forall,-Prod.exists]
            exact ⟨R,kvs,hd3,hW3,hr3,hM.skip fun z=>absurd z hoh,hFs.trans (if_neg (fun z=>hoh z.1)),hN3,s3⟩
        · rintro σ H3 ⟨R,kvs,o6,o7,o8,rfl,hd3,hW3,hr3,hM,hF3,hN3,s3⟩
          have hl3:S.take tv.length=S:=by rw [hS.1,List.take_length]
          rw [hl3] at hM hF3
          simp -dsimp[cxOf,stC,-Bool.exists_bool,-List.map_take,-Prod.forall,-Prod.exists]
          have hlen:=(List.getElem?_eq_some_iff.mp hM.hr).1
          refine ⟨⟨n+1,by omega,R,kvs,hd3,hW3,hr3,hM.leave,(bfsN_next (by rw [hF];exact hR)).trans hF3,hN3,hlen,s3⟩,?_⟩
          simp [muAt]
          omega
      · have hlt':¬n<R.length:=by simpa using hlt
        have en:n=R.length:=by omega
        subst en
        simp -dsimp[cxOf,stC,-Bool.exists_bool,-List.map_take,-Prod.forall,-Prod.exists]
        exact q d kvs R H2 hd hd2 hW2 hB hF hN s2
def goalsR (H:Hp) (t n l:Addr) (xs:List Str) (tv:List V) (ps:List (Str×Str)):Prop:=H t=some (.tup [.ref n,.ref l])∧H n=some (.lst (xs.map V.str))∧H l=some (.lst tv)∧TupsAt H tv ps∧Pts xs∧Ties xs ps
theorem goalsR.same {H H':Hp} {t n l:Addr} {xs:List Str} {tv:List V} {ps:List (Str×Str)} (h:goalsR H t n l xs tv ps) (s:Same H H'):goalsR H' t n l xs tv ps:=⟨s _ _ h.1,s _ _ h.2.1,s _ _ h.2.2.1,TupsAt.same h.2.2.2.1 s,h.2.2.2.2⟩
theorem int_at {ns:List Int} {i:Nat} {x:V} (h:(ns.map V.int)[i]? = some x):∃m,ns[i]? = some m∧x = .int m:=by
  rw [List.getElem?_map] at h
  cases hn:ns[i]? with
  | none=>rw [hn] at h;cases h
  | some n=>rw [hn] at h;cases h;exact ⟨n,rfl,rfl⟩
theorem Pot.nlst {p b:Addr} {H:Hp} {o:HO} (x:Pot H p) (h:H b=some o) (hn:∀zs,o≠.lst zs):b≠p:=fun z=>by
  subst z
  obtain ⟨u,v,e,_⟩:=x
  rw [h] at e
  exact hn _ (Option.some.inj e)
theorem WebAt.but {C p:Addr} {H H':Hp} {o:Addr} {xs:List Str} {ps:List (Str×Str)} (h:WebAt C H o xs ps) (hp:Pot H p) (b:But p H H'):WebAt C H' o xs ps:=by
  obtain ⟨dx,n,m,tv,h1,h2,h3,h4,h5⟩:=h.ex
  exact ⟨⟨dx,n,m,tv,b _ _ (hp.nlst h1 (by intro zs z;cases z)) h1,b _ _ (hp.nlst h2 (by intro zs z;cases z)) h2,b _ _ (hp.nlst h3 (by intro zs z;cases z)) h3,h4.but hp b,h5⟩⟩
theorem goalsR.but {p:Addr} {H H':Hp} {t n l:Addr} {xs:List Str} {tv:List V} {ps:List (Str×Str)} (h:goalsR H t n l xs tv ps) (hp:Pot H p) (b:But p H H') (np:n≠p) (lp:l≠p):goalsR H' t n l xs tv ps:=
  ⟨b _ _ (hp.nlst h.1 (by intro zs z;cases z)) h.1,b _ _ np h.2.1,b _ _ lp h.2.2.1,h.2.2.2.1.but hp b,h.2.2.2.2⟩
def tyD:PyData→String
  | .none=> "NoneType"
  | .bool _=> "bool"
  | .int _=> "int"
  | .str _=> "str"
  | .list _=> "list"
  | .tuple _=> "tuple"
  | .dict _=> "dict"
def seqD:PyData→Bool
  | .list _=>true
  | .tuple _=>true
  | _=>false
def intD:PyData→Bool
  | .int _=>true
  | .bool _=>true
  | _=>false
def boolD:PyData→Bool
  | .bool _=>true
  | _=>false
def wholeD:PyData→Bool
  | .int _=>true
  | _=>false
def kids:PyData→List PyData
  | .list ds=>ds
  | .tuple ds=>ds
  | _=>[]
theorem thg_ty {H:Hp} {d:PyData} {v:V} (h:ThgX H d v):TyOf K H v (.type (tyD d)):=by
  cases d with
  | none=>simp only [ThgX] at h;subst h;exact .non
  | bool b=>simp only [ThgX] at h;subst h;exact .bl b
  | int i=>simp only [ThgX] at h;subst h;exact .int i
  | str x=>simp only [ThgX] at h;subst h;exact .str x
  | list ds=>simp only [ThgX] at h;obtain ⟨a,xs,rfl,h1,_⟩:=h;exact .lst h1
  | tuple ds=>simp only [ThgX] at h;obtain ⟨a,xs,rfl,h1,_⟩:=h;exact .tup h1
  | dict ds=>simp only [ThgX] at h;obtain ⟨a,rfl,h1⟩:=h;rcases h1 with ⟨_,_,h1⟩ | ⟨_,_,h1⟩ <;> first | exact .dK h1 | exact .dT h1
theorem kit_seq (d:PyData):W.kitAny K (.type (tyD d)) [.type "list",.type "tuple"]=some (seqD d):=by
  cases d <;> simp [W.kitAny,W.kitOne,tyD,seqD] <;> rfl
theorem thg_sq {H:Hp} {d:PyData} {v:V} (h:ThgX H d v) (hs:seqD d=true):∃t xs,v = .ref t∧Sq H t xs∧ThgXAll H (kids d) xs:=by
  cases d with
  | list ds=>simp only [ThgX] at h;obtain ⟨a,xs,rfl,h1,h2⟩:=h;exact ⟨a,xs,rfl,.inl h1,h2⟩
  | tuple ds=>simp only [ThgX] at h;obtain ⟨a,xs,rfl,h1,h2⟩:=h;exact ⟨a,xs,rfl,.inr h1,h2⟩
  | _=>cases hs
def strD:PyData→Bool
  | .str _=>true
  | _=>false
def nameD:PyData→Bool
  | .str x=>nameB x
  | _=>false
theorem kit_strD (d:PyData):W.kitOne K (.type (tyD d)) (.type "str")=some (strD d):=by
  cases d with
  | none=>exact kit_NoneType_str K
  | bool b=>exact kit_bool_str K
  | int i=>exact kit_int_str K
  | str x=>exact kit_str_str K
  | list ds=>exact kit_list_str K
  | tuple ds=>exact kit_tuple_str K
  | dict ds=>exact kit_dict_str K
def sp_is_listX:Sp:=fun vs H Q _=>∃(d:PyData) (v:V),vs=[v]∧ThgX H d v∧∀H',Same H H'→Q (.bl (seqD d)) H'
theorem ok_is_listX (T:Txt K mg a):FnOk P w K mg base CX0 1 a.f_is_list a.fd_is_list ["thing"] sp_is_listX:=by
  refine T.F_is_list.okL sc_is_list (fun vs H Q E h=>?_) (fun cdv A outer s H vs Q E hr h=>?_)
  · obtain ⟨d,v,rfl,_⟩:=h
    rfl
  · obtain ⟨d,v,rfl,hd,q⟩:=h
    refine ⟨_,(pss_one (ps_ret (pe_callB (fisi2k (K:=K) rfl) rfl T.nm.isinstance boot_isinstance (pa_cons (fpv 0) (pa_cons (pe_tup (pa_cons (pe_bltn (v:=.ty "list") rfl T.nm.list boot_list rfl) (pa_cons (pe_bltn (v:=.ty "tuple") rfl T.nm.tuple boot_tuple rfl) pa_nil))) pa_nil))))),?_⟩
    simp -dsimp[cxOf,stC,-Bool.exists_bool,-List.map_take,-Prod.forall,-Prod.exists]
    refine fun t ht=>⟨_,_,upd_same,_,thg_ty (ThgX.same (same_upd ht) d v hd),_,kit_seq d,q _ (same_upd ht)⟩
def sp_is_nameN:Sp:=fun vs H Q _=>∃(d:PyData) (v:V),vs=[v]∧ThgX H d v∧strD d=false∧Q (.bl false) H
theorem ok_is_nameN (T:Txt K mg a):FnOk P w K mg base CX0 1 a.f_is_name a.fd_is_name ["thing"] sp_is_nameN:=by
  refine T.F_is_name.okL sc_is_name (fun vs H Q E h=>?_) (fun cdv A outer s H vs Q E hr h=>?_)
  · obtain ⟨d,v,rfl,_⟩:=h
    rfl
  · obtain ⟨d,v,rfl,hd,hs,q⟩:=h
    refine ⟨_,(pss_cons (ps_if (PW.pt (pw_or (pt_not (fpt_val (pe_callB (fisiTk (K:=K) rfl) rfl T.nm.isinstance boot_isinstance (pa_cons (fpv 0) (pa_cons (pe_bltn (v:=.ty "str") rfl T.nm.str boot_str rfl) pa_nil))))) (pw_or1 (pt_not (fpt_chain fop_le fop_le pe_int (pe_callB flenTk rfl T.nm.len PySem.boot_len (pa_cons (fpv 0) pa_nil)) (pe_glob rfl T.h_MOST_LETTERS T.r_MOST_LETTERS)))))) (pss_one (ps_ret pe_bl)) pss_nil)
      (pss_one (ps_ret (pe_callB (fcall_all rfl) rfl T.nm.all boot_all' (pa_cons (pe_comp rfl rfl (show CompScope (defScope s_is_name) _ ["thing"] ["sign"] [] ["sign"] from ⟨rfl,by decide +kernel,by decide +kernel,rfl,by decide +kernel,by decide +kernel⟩) rfl (PI.eqv (pi_str (fpv 0)) (fiStr_eq _)) (fun C s H fp pn=>(pg_name (i:=0) (show (["sign"]:List Str).Nodup by decide +kernel) rfl (Or.inl rfl))) (fun C s H fp pn=>pts_nil) (fun C s H fp pn=>(pe_cmpR (finS (K:=K) rfl) (fpv 0) (pe_glob rfl T.h_LETTERS T.r_LETTERS) rfl))) pa_nil))))),?_⟩
    simp -dsimp[cxOf,stC,-Bool.exists_bool,-List.map_take,-Prod.forall,-Prod.exists]
    refine ⟨_,thg_ty hd,_,kit_strD d,?_⟩
    rw [hs]
    refine tBr.pos rfl ?_
    simp -dsimp[cxOf,stC,-Bool.exists_bool,-List.map_take,-Prod.forall,-Prod.exists]
    exact q
def shortD (d:PyData):Prop:=∀x,d = .str x→x.length≤sizeLine
def sp_is_nameT:Sp:=fun vs H Q _=>∃(d:PyData) (v:V),vs=[v]∧ThgX H d v∧shortD d∧∀H',Same H H'→Q (.bl (nameD d)) H'
theorem ok_is_nameT (T:Txt K mg a):FnOk P w K mg base CX0 1 a.f_is_name a.fd_is_name ["thing"] sp_is_nameT:=by
  refine ((ok_is_name T).or (ok_is_nameN T)).imp fun vs H Q E h=>?_
  obtain ⟨d,v,rfl,hd,hs,q⟩:=h
  cases d with
  | str x=>simp only [ThgX] at hd;subst hd;exact .inl ⟨x,rfl,hs x rfl,q⟩
  | _=>exact .inr ⟨_,v,rfl,hd,rfl,q H (Same.refl H)⟩
def sp_many (C:Addr):Sp:=fun vs H Q _=>∃o xs ps,vs=[.ref o]∧WebAt C H o xs ps∧Q (.int ps.length) H
theorem ok_Web_many (T:Txt K mg a):FnOk P w K mg base CX0 1 a.f_Web_many a.fd_Web_many ["self"] (sp_many a.C_Web):=by
  refine T.F_Web_many.okL sc_Web_many (fun vs H Q E h=>?_) (fun cdv A outer s H vs Q E hr h=>?_)
  · obtain ⟨o,xs,ps,rfl,_⟩:=h
    rfl
  · obtain ⟨o,xs,ps,rfl,⟨dx,n,m,tv,h1,h2,h3,h4,h5⟩,q⟩:=h
    refine ⟨_,(pss_one (ps_ret (pe_callB (flenQk (K:=K) rfl) rfl T.nm.len PySem.boot_len (pa_cons (PE.eqv (pe_fldk (K:=K) rfl (fpv 0) rfl) (fFld_eq _ _ _)) pa_nil)))),?_⟩
    simp -dsimp[cxOf,stC,-Bool.exists_bool,-List.map_take,-Prod.forall,-Prod.exists]
    refine ⟨_,_,_,h1,T.c_Web,T.n_pairs,_,rfl,_,.inr (SqT.of h3),?_⟩
    rw [h4.1]
    exact q
theorem kit_intD (d:PyData):W.kitOne K (.type (tyD d)) (.type "int")=some (intD d):=by
  cases d with
  | none=>exact kit_NoneType_int K
  | bool b=>exact kit_bool_int K
  | int i=>exact kit_int_int K
  | str x=>exact kit_str_int K
  | list ds=>exact kit_list_int K
  | tuple ds=>exact kit_tuple_int K
  | dict ds=>exact kit_dict_int K
theorem kit_boolD (d:PyData):W.kitOne K (.type (tyD d)) (.type "bool")=some (boolD d):=by
  cases d with
  | none=>exact kit_NoneType_bool K
  | bool b=>exact kit_bool_bool K
  | int i=>exact kit_int_bool K
  | str x=>exact kit_str_bool K
  | list ds=>exact kit_list_bool K
  | tuple ds=>exact kit_tuple_bool K
  | dict ds=>exact kit_dict_bool K
def sp_is_wholeX:Sp:=fun vs H Q _=>∃(d:PyData) (v:V),vs=[v]∧ThgX H d v∧Q (.bl (wholeD d)) H
theorem ok_is_wholeX (T:Txt K mg a):FnOk P w K mg base CX0 1 a.f_is_whole a.fd_is_whole ["thing"] sp_is_wholeX:=by
  refine T.F_is_whole.okL sc_is_whole (fun vs H Q E h=>?_) (fun cdv A outer s H vs Q E hr h=>?_)
  · obtain ⟨d,v,rfl,_⟩:=h
    rfl
  · obtain ⟨d,v,rfl,hd,q⟩:=h
    refine ⟨_,(pss_one (ps_ret (fpe_and (pe_callB (fisiTk (K:=K) rfl) rfl T.nm.isinstance boot_isinstance (pa_cons (fpv 0) (pa_cons (pe_bltn (v:=.ty "int") rfl T.nm.int boot_intT rfl) pa_nil))) (pe_one (fpe_not (pe_callB (fisiTk (K:=K) rfl) rfl T.nm.isinstance boot_isinstance (pa_cons (fpv 0) (pa_cons (pe_bltn (v:=.ty "bool") rfl T.nm2.bool boot_boolT rfl) pa_nil)))))))),?_⟩
    simp -dsimp[cxOf,stC,-Bool.exists_bool,-List.map_take,-Prod.forall,-Prod.exists]
    refine ⟨_,thg_ty hd,_,kit_intD d,?_⟩
    cases hi:intD d with
    | false=>
      refine tBr.neg rfl ?_
      simp -dsimp[cxOf,stC,-Bool.exists_bool,-List.map_take,-Prod.forall,-Prod.exists]
      rw [show wholeD d=false by cases d <;> first | rfl | cases hi] at q
      exact q
    | true=>
      refine tBr.pos rfl ?_
      simp -dsimp[cxOf,stC,-Bool.exists_bool,-List.map_take,-Prod.forall,-Prod.exists]
      refine ⟨_,thg_ty hd,_,kit_boolD d,?_⟩
      rw [show wholeD d = !boolD d by cases d <;> first | rfl | cases hi] at q
      exact q
def nrD (n:Nat):PyData→Bool
  | .int k=>decide (0≤k) && decide (k<n)
  | _=>false
def sp_is_numberX (C:Addr):Sp:=fun vs H Q _=>∃(o:Addr) (v:V) (d:PyData) (xs:List Str) (ps:List (Str×Str)),vs=[.ref o,v]∧WebAt C H o xs ps∧ThgX H d v∧Q (.bl (nrD ps.length d)) H
theorem ok_is_numberX (T:Txt K mg a):FnOk P w K mg base CX0 2 a.f_is_number a.fd_is_number ["web", "thing"] (sp_is_numberX a.C_Web):=by
  refine T.F_is_number.okL sc_is_number (fun vs H Q E h=>?_) (fun cdv A outer s H vs Q E hr h=>?_)
  · obtain ⟨o,v,d,xs,ps,rfl,_⟩:=h
    rfl
  · obtain ⟨o,v,d,xs,ps,rfl,hw,hd,q⟩:=h
    refine ⟨_,(pss_one (ps_ret (fpe_and (PE.eqv (pe_call (ok_is_wholeX (K:=K) T) (hr.mono (by decide)) rfl T.m_is_whole T.F_is_whole.kp T.b_is_whole .nil pass0 (pa_cons (fpv 1) pa_nil)) (fCall_eq _ _ _)) (pe_one (fpe_chain fop_le fop_lt pe_int (fpv 1) (PE.eqv (pe_meth0 (fpv 0) T.c_Web T.M_Web_many (ok_Web_many (K:=K) T) (hr.mono (by decide)) T.b_Web_many .nil pass0) (fMeth_eq _ _ _ _ _ _))))))),?_⟩
    obtain ⟨dx,fs,hi,hno⟩:=hw.ins no_many.1 no_many.2
    simp -dsimp[cxOf,stC,-Bool.exists_bool,-List.map_take,-Prod.forall,-Prod.exists]
    refine ⟨d,v,rfl,hd,?_⟩
    cases hwh:wholeD d with
    | false=>
      rw [show nrD ps.length d=false by cases d <;> first | rfl | cases hwh] at q
      simp -dsimp[cxOf,stC,-Bool.exists_bool,-List.map_take,-Prod.forall,-Prod.exists]
      exact q
    | true=>
      obtain ⟨k,rfl⟩:∃i,d = .int i:=by cases d <;> first | exact ⟨_,rfl⟩ | cases hwh
      simp only [ThgX] at hd
      subst hd
      simp only [nrD] at q
      simp -dsimp[cxOf,stC,-Bool.exists_bool,-List.map_take,-Prod.forall,-Prod.exists]
      refine tBr.of (fun h=>?_) (fun h=>?_)
      · rw [h] at q
        simp -dsimp[cxOf,stC,-Bool.exists_bool,-List.map_take,-Prod.forall,-Prod.exists]
        exact ⟨_,_,hi,hno,o,xs,ps,rfl,hw,q⟩
      · rw [h] at q
        simp -dsimp[cxOf,stC,-Bool.exists_bool,-List.map_take,-Prod.forall,-Prod.exists]
        exact q
def fixK (fs:List (Nat×Int)):List (Key×V):=fs.map fun e=>(Sum.inl (e.1:Int),V.int e.2)
def fxOf (fs:List (Nat×Int)) (j:Nat):Option Int:=(fs.find? fun e=>decide (e.1=j)).map (·.2)
structure FsOk (fs:List (Nat×Int)) (m:Nat):Prop where
  nd:(fs.map (·.1)).Nodup
  ok:∀e∈fs,e.1<m∧0≤e.2∧e.2≤1
theorem FsOk.len {fs:List (Nat×Int)} {m:Nat} (h:FsOk fs m):fs.length≤m:=by
  have:=nodup_len (xs:=List.range m) h.nd fun n hn=>by
    obtain ⟨e,he,rfl⟩:=List.mem_map.mp hn
    exact List.mem_range.mpr (h.ok e he).1
  rwa [List.length_map,List.length_range] at this
theorem FsOk.snoc {fs:List (Nat×Int)} {m k:Nat} {v:Int} (h:FsOk fs m) (hk:k<m) (hv:0≤v∧v≤1) (hn:k∉fs.map (·.1)):FsOk (fs++[(k,v)]) m:=by
  refine ⟨?_,fun e he=>?_⟩
  · rw [List.map_append,List.nodup_append]
    refine ⟨h.nd,by simp,fun x hx y hy=>?_⟩
    simp at hy
    rw [hy]
    exact fun z=>hn (z▸hx)
  · rcases List.mem_append.mp he with he | he
    ·exact h.ok e he
    · rw [List.mem_singleton] at he
      rw [he]
      exact ⟨hk,hv⟩
theorem fixK_val:∀(fs:List (Nat×Int)) (k:Nat),valV (fixK fs) (Sum.inl (k:Int))=(fxOf fs k).map V.int
  | [],k=>rfl
  | e::fs,k=>by
    have ih:=fixK_val fs k
    unfold valV fixK fxOf at ih ⊢
    rw [List.map_cons,List.find?_cons,List.find?_cons]
    by_cases h:e.1=k
    · rw [decide_eq_true h,decide_eq_true (by rw [h])]
      rfl
    · have h':¬((Sum.inl (e.1:Int):Key)=Sum.inl (k:Int)):=fun z=>h (by injection z with z;omega)
      rw [decide_eq_false h,decide_eq_false h']
      exact ih
theorem fix_at {H:Hp} {d:Addr} {fs:List (Nat×Int)} (h:H d=some (.dK (fixK fs))):FixAt H d (fxOf fs):=⟨_,h,fixK_val fs⟩
theorem fxOf_none {fs:List (Nat×Int)} {k:Nat}:fxOf fs k=none↔k∉fs.map (·.1):=by
  unfold fxOf
  rw [Option.map_eq_none_iff,List.find?_eq_none]
  constructor
  · intro h z
    obtain ⟨e,he,hk⟩:=List.mem_map.mp z
    exact h e he (decide_eq_true hk)
  · intro h e he z
    exact h (List.mem_map.mpr ⟨e,he,of_decide_eq_true z⟩)
theorem fxOf_snoc {fs:List (Nat×Int)} {k:Nat} {v:Int} (hn:k∉fs.map (·.1)):fxOf (fs++[(k,v)])=fxs (fxOf fs) k v:=by
  funext j
  unfold fxs
  by_cases h:j=k
  · subst h
    rw [if_pos rfl]
    have h0:=fxOf_none.mpr hn
    unfold fxOf at h0 ⊢
    rw [Option.map_eq_none_iff] at h0
    rw [List.find?_append,h0]
    simp
  · rw [if_neg h]
    unfold fxOf
    rw [List.find?_append]
    cases hf:fs.find? fun e=>decide (e.1=j) with
    | some e=>rfl
    | none=>
      have:¬k=j:=fun z=>h z.symm
      simp [this]
theorem putK_new {fs:List (Nat×Int)} {k:Nat} {v:Int} (hn:k∉fs.map (·.1)):putK (fixK fs) (Sum.inl (k:Int)) (V.int v)=fixK (fs++[(k,v)]):=by
  unfold putK
  rw [if_neg ?_]
  ·simp [fixK]
  · intro z
    obtain ⟨p,hp,hk⟩:=List.any_eq_true.mp z
    obtain ⟨e,he,rfl⟩:=List.mem_map.mp hp
    have hk:=of_decide_eq_true hk
    simp only at hk
    injection hk with hk
    have:e.1=k:=by omega
    exact hn (this▸List.mem_map_of_mem he)
def sp_with_one_more:Sp:=fun vs H Q _=>∃(d:Addr) (k:Nat) (v:Int) (fs:List (Nat×Int)),vs=[.ref d,.int k,.int v]∧H d=some (.dK (fixK fs))∧fs.length≤100∧k∉fs.map (·.1)∧
  ∀(r:Addr) (H':Hp),H r=none→H' r=some (.dK (fixK (fs++[(k,v)])))→Same H H'→Q (.ref r) H'
theorem ok_with_one_more (T:Txt K mg a):FnOk P w K mg base CX0 1 a.f_with_one_more a.fd_with_one_more ["fixed", "number", "lead"] sp_with_one_more:=by
  refine T.F_with_one_more.okL sc_with_one_more (fun vs H Q E h=>?_) (fun cdv A outer s H vs Q E hr h=>?_)
  · obtain ⟨d,k,v,fs,rfl,_⟩:=h
    rfl
  · obtain ⟨d,k,v,fs,rfl,hd,hl,hk,q⟩:=h
    refine ⟨_,(pss_cons (ps_set (i:=3) sc_with_one_more.nd rfl (Or.inl rfl) (pe_callTy fdictC rfl T.nm2.dict boot_dictT (pa_cons (fpv 0) pa_nil)))
      (pss_cons (PS.eqv (ps_dput (hu_of hr) (fpv 3) (fpv 1) (fpv 2) rfl) (fDPut_eq _ _ _))
      (pss_one (ps_ret (fpv 3))))),?_⟩
    have s200:200≤sizeLine:=by decide
    simp -dsimp[cxOf,stC,-Bool.exists_bool,-List.map_take,-Prod.forall,-Prod.exists]
    refine ⟨_,.inl hd,fun r hr0=>?_⟩
    refine ⟨_,.inl ⟨_,Sum.inl (k:Int),upd_same,rfl,by simp [fixK];omega,rfl⟩,?_⟩
    refine q r _ hr0 ?_ (same_upd2 (same_upd hr0) hr0)
    rw [upd_same,putK_new hk]
def ptB (xs:List Str):PyData→Bool
  | .str x=>decide (x∈xs)
  | _=>false
theorem ptB_not {xs:List Str} {d:PyData} (hX:Pts xs) (h:nameD d=false):ptB xs d=false:=by
  cases d with
  | str x=>exact decide_eq_false fun z=>by rw [show nameD (.str x)=nameB x from rfl,hX.nm x z] at h;cases h
  | _=>rfl
def sp_is_pointX (C:Addr):Sp:=fun vs H Q _=>∃(o:Addr) (v:V) (d:PyData) (xs:List Str) (ps:List (Str×Str)),vs=[.ref o,v]∧WebAt C H o xs ps∧Pts xs∧ThgX H d v∧shortD d∧∀H',Same H H'→Q (.bl (ptB xs d)) H'
theorem ok_is_pointX (T:Txt K mg a):FnOk P w K mg base CX0 2 a.f_is_point a.fd_is_point ["web", "thing"] (sp_is_pointX a.C_Web):=by
  refine T.F_is_point.okL sc_is_point (fun vs H Q E h=>?_) (fun cdv A outer s H vs Q E hr h=>?_)
  · obtain ⟨o,v,d,xs,ps,rfl,_⟩:=h
    rfl
  · obtain ⟨o,v,d,xs,ps,rfl,hw,hX,hd,hs,q⟩:=h
    refine ⟨_,(pss_one (ps_ret (fpe_and (PE.eqv (pe_call (ok_is_nameT (K:=K) T) (hr.mono (by decide)) rfl T.m_is_name T.F_is_name.kp T.b_is_name .nil pass0 (pa_cons (fpv 1) pa_nil)) (fCall_eq _ _ _)) (pe_one (pe_cmpR (finK (K:=K) rfl) (fpv 1) (PE.eqv (pe_meth0 (fpv 0) T.c_Web T.M_Web_points (ok_Web_points (K:=K) T) (hr.mono (by decide)) T.b_Web_points .nil pass0) (fMeth_eq _ _ _ _ _ _)) rfl))))),?_⟩
    simp -dsimp[cxOf,stC,-Bool.exists_bool,-List.map_take,-Prod.forall,-Prod.exists]
    refine ⟨d,v,rfl,hd,hs,fun H1 s1=>?_⟩
    cases hn:nameD d with
    | false=>
      rw [ptB_not hX hn] at q
      simp -dsimp[cxOf,stC,-Bool.exists_bool,-List.map_take,-Prod.forall,-Prod.exists]
      exact q _ s1
    | true=>
      obtain ⟨x,rfl⟩:∃x,d = .str x:=by cases d <;> first | exact ⟨_,rfl⟩ | cases hn
      simp only [ThgX] at hd
      subst hd
      obtain ⟨dx,fs,hi,hno⟩:=(hw.same s1).ins no_points.1 no_points.2
      simp -dsimp[cxOf,stC,-Bool.exists_bool,-List.map_take,-Prod.forall,-Prod.exists]
      refine ⟨_,_,hi,hno,o,xs,ps,rfl,hw.same s1,fun l2 hl2=>?_⟩
      have s2:Same H1 (upd H1 l2 (.lst (xs.map V.str))):=same_upd hl2
      have e2:upd H1 l2 (.lst (xs.map V.str)) l2=some (.lst (xs.map V.str)):=upd_same
      generalize upd H1 l2 (.lst (xs.map V.str))=H2 at s2 e2 ⊢
      simp -dsimp[cxOf,stC,-Bool.exists_bool,-List.map_take,-Prod.forall,-Prod.exists]
      refine ⟨_,.inl (SqL.of e2),rfl,List.all_eq_true.mp (flat_strs _),?_⟩
      rw [inV_str_iff]
      exact q _ (s1.trans s2)
def FarP (S:List Stp) (N:Nat) (x y:Str):Prop:=∀k,Dist S x y k→N≤k
open Classical in
def farB (S:List Stp) (N:Nat) (x y:Str):Bool:=decide (FarP S N x y)
theorem farB_iff {S:List Stp} {N:Nat} {x y:Str}:farB S N x y=true↔FarP S N x y:=by
  unfold farB
  exact @decide_eq_true_iff _ (Classical.propDecidable _)
theorem no_dist {S:List Stp} {x:Str} {R:BR} (b:Bfs S x R.length R) {y:Str} (h:¬y∈R.map (·.1)):∀k,¬Dist S x y k:=fun k z=>by
  obtain ⟨w,hw,_⟩:=b.all z.1
  exact h (List.mem_map.mpr ⟨_,hw,rfl⟩)
theorem steps_goal {xs:List Str} {ps:List (Str×Str)} {fx:Nat→Option Int} (h:Ties xs ps):∀s∈stepsOf fx ps 0,s.2.2∈xs:=by
  intro s hs
  obtain ⟨j,e,h1,h2⟩:=mem_stepsOf.mp hs
  obtain ⟨q1,q2,_⟩:=h.ok e (List.mem_of_getElem? h1)
  obtain ⟨_,q | q⟩:=mem_stepOf.mp h2
  ·rw [q.2.2];exact q2
  ·rw [q.2.2];exact q1
def sp_is_far_apart (C:Addr):Sp:=fun vs H Q _=>∃(o fd:Addr) (N:Nat) (x y:Str) (xs:List Str) (ps:List (Str×Str)) (fx:Nat→Option Int),vs=[.ref o,.int N,.str x,.str y,.ref fd]∧WebAt C H o xs ps∧Pts xs∧Ties xs ps∧FixAt H fd fx∧x∈xs∧y∈xs∧
  ∀H',Same H H'→Q (.bl (farB (stepsOf fx ps 0) N x y)) H'
theorem ok_is_far_apart (T:Txt K mg a):FnOk P w K mg base CX0 3 a.f_is_far_apart a.fd_is_far_apart ["web", "number", "a", "b", "fixed"] (sp_is_far_apart a.C_Web):=by
  refine T.F_is_far_apart.okL sc_is_far_apart (fun vs H Q E h=>?_) (fun cdv A outer s H vs Q E hr h=>?_)
  · obtain ⟨o,fd,N,x,y,xs,ps,fx,rfl,_⟩:=h
    rfl
  · obtain ⟨o,fd,N,x,y,xs,ps,fx,rfl,hw,hX,hTs,hfx,hx,hy,q⟩:=h
    refine ⟨_,(pss_cons (ps_set (i:=5) sc_is_far_apart.nd rfl (Or.inl rfl) (PE.eqv (pe_call (ok_ways_along (K:=K) T) (hr.mono (by decide)) rfl T.m_ways_along T.F_ways_along.kp T.b_ways_along .nil pass0 (pa_cons (fpv 2) (pa_cons (PE.eqv (pe_call (ok_steps_along (K:=K) T) (hr.mono (by decide)) rfl T.m_steps_along T.F_steps_along.kp T.b_steps_along .nil pass0 (pa_cons (fpv 0) (pa_cons (fpv 4) pa_nil))) (fCall_eq _ _ _)) pa_nil))) (fCall_eq _ _ _)))
      (pss_one (ps_ret (fpe_or (pe_cmp (PC.eqv (pc_dnotin (hu_of hr) (fpv 3) (fpv 5)) (fDNotIn_eq _ _))) (pe_one (pe_cmpR fop_ge (pe_callB (flenQk (K:=K) rfl) rfl T.nm.len PySem.boot_len (pa_cons (PE.eqv (pe_dget (hu_of hr) (fpv 5) (fpv 3) (fun _ _=>rfl)) (fDGet_eq _ _)) pa_nil)) (fpv 1) (nomark _))))))),?_⟩
    simp -dsimp[cxOf,stC,-Bool.exists_bool,-List.map_take,-Prod.forall,-Prod.exists]
    refine ⟨o,fd,xs,ps,fx,rfl,hw,hfx,fun l tv H1 hl0 hl1 hS h40 s1=>?_⟩
    simp -dsimp[cxOf,stC,-Bool.exists_bool,-List.map_take,-Prod.forall,-Prod.exists]
    refine ⟨x,l,tv,stepsOf fx ps 0,xs,rfl,hl1,hS,hx,steps_goal hTs,hX.len.2,fun d kvs R H2 hd hd2 hW hB hF hN s2=>?_⟩
    have s12:=s1.trans s2
    simp -dsimp[cxOf,stC,-Bool.exists_bool,-List.map_take,-Prod.forall,-Prod.exists]
    refine ⟨_,getS y hd2,?_⟩
    by_cases hb:y∈R.map (·.1)
    · obtain ⟨⟨y',w'⟩,hw',hy'⟩:=List.mem_map.mp hb
      obtain rfl:y'=y:=hy'
      obtain ⟨p,hp1,hp2⟩:=hW.some hB.nd hw'
      rw [hp1]
      refine tBr.neg rfl ?_
      simp -dsimp[cxOf,stC,-Bool.exists_bool,-List.map_take,-Prod.forall,-Prod.exists]
      refine ⟨_,by have:=getS y' hd2;rw [hp1] at this;exact this,?_⟩
      simp -dsimp[cxOf,stC,-Bool.exists_bool,-List.map_take,-Prod.forall,-Prod.exists]
      refine ⟨_,.inl (SqL.of hp2),?_⟩
      have hD:=hB.dist hw'
      have e:farB (stepsOf fx ps 0) N x y'=decide (N≤(w'.map fun n:Nat=>V.int n).length):=by
        rw [Bool.eq_iff_iff,farB_iff,decide_eq_true_eq,List.length_map]
        constructor
        · intro h
          have:=h _ hD
          omega
        · intro h k hk
          have:=hk.uniq hD
          omega
      rw [← e]
      exact q _ s12
    · rw [hW.none hb]
      refine tBr.pos rfl ?_
      have e:farB (stepsOf fx ps 0) N x y=true:=by
        exact farB_iff.mpr fun k hk=>absurd hk (no_dist hB hb k)
      rw [← e]
      exact q _ s12
def farD (xs:List Str) (S:List Stp) (N:Nat) (ds:List PyData):Bool:=match ds with
  | [_,.str x,.str y]=>decide (x∈xs) && decide (y∈xs) && farB S N x y
  | _=>false
theorem farD_len {xs:List Str} {S:List Stp} {N:Nat} {ds:List PyData} (h:ds.length≠3):farD xs S N ds=false:=by
  unfold farD
  split
  ·simp at h
  ·rfl
def sp_is_far_paper (C:Addr):Sp:=fun vs H Q _=>∃(o fd:Addr) (N:Nat) (v:V) (d:PyData) (xs:List Str) (ps:List (Str×Str)) (fx:Nat→Option Int),vs=[.ref o,.int N,v,.ref fd]∧WebAt C H o xs ps∧Pts xs∧Ties xs ps∧FixAt H fd fx∧ThgX H d v∧seqD d=true∧(∀c∈kids d,shortD c)∧
  ∀H',Same H H'→Q (.bl (farD xs (stepsOf fx ps 0) N (kids d))) H'
theorem ok_is_far_paper (T:Txt K mg a):FnOk P w K mg base CX0 4 a.f_is_far_paper a.fd_is_far_paper ["web", "number", "thing", "fixed"] (sp_is_far_paper a.C_Web):=by
  refine T.F_is_far_paper.okL sc_is_far_paper (fun vs H Q E h=>?_) (fun cdv A outer s H vs Q E hr h=>?_)
  · obtain ⟨o,fd,N,v,d,xs,ps,fx,rfl,_⟩:=h
    rfl
  · obtain ⟨o,fd,N,v,d,xs,ps,fx,rfl,hw,hX,hTs,hfx,hd,hs,hsh,q⟩:=h
    refine ⟨_,(pss_cons (ps_if (PW.pt (pw_or (fpt_cmpR fop_ne (pe_callB (flenQk (K:=K) rfl) rfl T.nm.len PySem.boot_len (pa_cons (fpv 2) pa_nil)) pe_int (nomark _)) (pw_or (pt_not (fpt_val (PE.eqv (pe_call (ok_is_pointX (K:=K) T) (hr.mono (by decide)) rfl T.m_is_point T.F_is_point.kp T.b_is_point .nil pass0 (pa_cons (fpv 0) (pa_cons (pe_ix (fixQk (K:=K) rfl) (fpv 2) pe_int (fun _ _=>rfl)) pa_nil))) (fCall_eq _ _ _)))) (pw_or1 (pt_not (fpt_val (PE.eqv (pe_call (ok_is_pointX (K:=K) T) (hr.mono (by decide)) rfl T.m_is_point T.F_is_point.kp T.b_is_point .nil pass0 (pa_cons (fpv 0) (pa_cons (pe_ix (fixQk (K:=K) rfl) (fpv 2) pe_int (fun _ _=>rfl)) pa_nil))) (fCall_eq _ _ _)))))))) (pss_one (ps_ret pe_bl)) pss_nil)
      (pss_one (ps_ret (PE.eqv (pe_call (ok_is_far_apart (K:=K) T) (hr.mono (by decide)) rfl T.m_is_far_apart T.F_is_far_apart.kp T.b_is_far_apart .nil pass0 (pa_cons (fpv 0) (pa_cons (fpv 1) (pa_cons (pe_ix (fixQk (K:=K) rfl) (fpv 2) pe_int (fun _ _=>rfl)) (pa_cons (pe_ix (fixQk (K:=K) rfl) (fpv 2) pe_int (fun _ _=>rfl)) (pa_cons (fpv 3) pa_nil)))))) (fCall_eq _ _ _))))),?_⟩
    obtain ⟨t,vs,rfl,hq,hall⟩:=thg_sq hd hs
    have hl:=hall.length
    simp -dsimp[cxOf,stC,-Bool.exists_bool,-List.map_take,-Prod.forall,-Prod.exists]
    refine ⟨_,hq.q,?_⟩
    rw [← hl]
    generalize kids d=ds at hall hsh q hl
    rcases ds with _ | ⟨d0,_ | ⟨d1,_ | ⟨d2,_ | ⟨d3,ds⟩⟩⟩⟩
    · rw [farD_len (by simp)] at q
      simp -dsimp[cxOf,stC,-Bool.exists_bool,-List.map_take,-Prod.forall,-Prod.exists]
      exact q _ (Same.refl _)
    · rw [farD_len (by simp)] at q
      simp -dsimp[cxOf,stC,-Bool.exists_bool,-List.map_take,-Prod.forall,-Prod.exists]
      exact q _ (Same.refl _)
    · rw [farD_len (by simp)] at q
      simp -dsimp[cxOf,stC,-Bool.exists_bool,-List.map_take,-Prod.forall,-Prod.exists]
      exact q _ (Same.refl _)
    · simp only [ThgXAll] at hall
      obtain ⟨v0,_,rfl,h0,v1,_,rfl,h1,v2,_,rfl,h2,rfl⟩:=hall
      simp -dsimp[cxOf,stC,-Bool.exists_bool,-List.map_take,-Prod.forall,-Prod.exists]
      refine ⟨_,hq.q,_,atI_nat (j:=1) rfl,o,v1,d1,xs,ps,rfl,hw,hX,h1,hsh d1 (by simp),fun H1 s1=>?_⟩
      cases hp1:ptB xs d1 with
      | false=>
        simp -dsimp[cxOf,stC,-Bool.exists_bool,-List.map_take,-Prod.forall,-Prod.exists]
        have e:farD xs (stepsOf fx ps 0) N [d0,d1,d2]=false:=by
          unfold farD
          split
          · rename_i x y e
            cases e
            rw [show decide (x∈xs)=false from hp1]
            rfl
          ·rfl
        rw [e] at q
        exact q _ s1
      | true=>
        obtain ⟨x,rfl⟩:∃z,d1 = .str z:=by cases d1 <;> first | exact ⟨_,rfl⟩ | cases hp1
        simp only [ThgX] at h1
        subst h1
        have hx:x∈xs:=of_decide_eq_true hp1
        simp -dsimp[cxOf,stC,-Bool.exists_bool,-List.map_take,-Prod.forall,-Prod.exists]
        refine ⟨_,(hq.same s1).q,_,atI_nat (j:=2) rfl,o,v2,d2,xs,ps,rfl,hw.same s1,hX,ThgX.same s1 _ _ h2,hsh d2 (by simp),fun H2 s2=>?_⟩
        have s12:=s1.trans s2
        cases hp2:ptB xs d2 with
        | false=>
          simp -dsimp[cxOf,stC,-Bool.exists_bool,-List.map_take,-Prod.forall,-Prod.exists]
          have e:farD xs (stepsOf fx ps 0) N [d0,.str x,d2]=false:=by
            unfold farD
            split
            · rename_i x y e
              cases e
              rw [show decide (y∈xs)=false from hp2]
              simp
            ·rfl
          rw [e] at q
          exact q _ s12
        | true=>
          obtain ⟨y,rfl⟩:∃z,d2 = .str z:=by cases d2 <;> first | exact ⟨_,rfl⟩ | cases hp2
          simp only [ThgX] at h2
          subst h2
          have hy:y∈xs:=of_decide_eq_true hp2
          simp -dsimp[cxOf,stC,-Bool.exists_bool,-List.map_take,-Prod.forall,-Prod.exists]
          refine ⟨_,(hq.same s12).q,_,atI_nat (j:=1) rfl,_,(hq.same s12).q,_,atI_nat (j:=2) rfl,o,fd,N,x,y,xs,ps,fx,rfl,hw.same s12,hX,hTs,hfx.same s12,hx,hy,fun H3 s3=>?_⟩
          have e:farD xs (stepsOf fx ps 0) N [d0,.str x,.str y]=farB (stepsOf fx ps 0) N x y:=by
            unfold farD
            simp [hx,hy]
          rw [e] at q
          exact q _ (s12.trans s3)
    · have e:farD xs (stepsOf fx ps 0) N (d0::d1::d2::d3::ds)=false:=by
        unfold farD
        split
        · rename_i e
          simp at e
        ·rfl
      rw [e] at q
      simp -dsimp[cxOf,stC,-Bool.exists_bool,-List.map_take,-Prod.forall,-Prod.exists]
      refine ⟨true,decide_eq_false (by omega),tBr.pos rfl ?_⟩
      simp -dsimp[cxOf,stC,-Bool.exists_bool,-List.map_take,-Prod.forall,-Prod.exists]
      exact q _ (Same.refl _)
end K92
namespace K92
open PySem L2
variable {P:Program} {w:World} {K:PySem.W.Frag} {mg:Str→Option Value} {base:Heap} {a:Adr}
theorem FnOk.no {P:Program} {w:World} {K:PySem.W.Frag} {mg:Str→Option Value} {base:Heap} {k:Nat} {f:Addr} {fd:FuncData} {ps:List Str}:FnOk P w K mg base CX0 k f fd ps (fun _ _ _ _=>False):=⟨fun _ _ _ _ h=>h.elim,fun _ _ _ _ _ _ _ _ _ _ _ _ _ h=>h.elim⟩
def forkD (m:Nat) (g:(Nat→Option Int)→PyData→Bool) (fx:Nat→Option Int) (ds:List PyData):Bool:=match ds with
  | [_,.int n,p,q]=>(decide (0≤n) && decide (n<m)) && (decide (fx n.toNat=none) && (g (fxs fx n.toNat 0) p && g (fxs fx n.toNat 1) q))
  | _=>false
def papW (m:Nat) (g:(Nat→Option Int)→PyData→Bool) (xs:List Str) (S:List Stp) (N:Nat) (fx:Nat→Option Int) (ds:List PyData):Bool:=match ds with
  | .str w::r=>if w=Str.ofString "far" then farD xs S N (.str w::r) else decide (w=Str.ofString "fork") && forkD m g fx (.str w::r)
  | _=>false
def papD (xs:List Str) (ps:List (Str×Str)) (N:Nat):Nat→(Nat→Option Int)→PyData→Bool
  | 0,_,_=>false
  | k+1,fx,d=>seqD d && papW ps.length (papD xs ps N k) xs (stepsOf fx ps 0) N fx (kids d)
def ShD:Nat→PyData→Prop
  | 0,d=>shortD d
  | k+1,d=>shortD d∧∀c∈kids d,ShD k c
theorem ShD.s:∀{k:Nat} {d:PyData},ShD k d→shortD d
  | 0,_,h=>h
  | _+1,_,h=>h.1
theorem depth_all:∀{ds:List PyData} {c:PyData},c∈ds→c.depth≤PyData.depthAll ds
  | [],_,h=>by cases h
  | e::ds,c,h=>by
    simp only [PyData.depthAll]
    rcases List.mem_cons.mp h with rfl | h
    ·exact Nat.le_max_left _ _
    ·exact Nat.le_trans (depth_all h) (Nat.le_max_right _ _)
theorem kid_depth {d c:PyData} {k:Nat} (hd:d.depth≤k) (hc:c∈kids d):∃j,k=j+1∧c.depth≤j:=by
  cases d with
  | list ds=>
    simp only [PyData.depth,kids] at hd hc
    have:=depth_all hc
    exact ⟨k - 1,by omega,by omega⟩
  | tuple ds=>
    simp only [PyData.depth,kids] at hd hc
    have:=depth_all hc
    exact ⟨k - 1,by omega,by omega⟩
  | _=>simp [kids] at hc
structure PpI (C:Addr) (H:Hp) (o fd:Addr) (xs:List Str) (ps:List (Str×Str)) (fs:List (Nat×Int)):Prop where
  w:WebAt C H o xs ps
  X:Pts xs
  T:Ties xs ps
  f:H fd=some (.dK (fixK fs))
  F:FsOk fs ps.length
theorem PpI.same {C:Addr} {H H':Hp} {o fd:Addr} {xs:List Str} {ps:List (Str×Str)} {fs:List (Nat×Int)} (h:PpI C H o fd xs ps fs) (s:Same H H'):PpI C H' o fd xs ps fs:=⟨h.w.same s,h.X,h.T,s _ _ h.f,h.F⟩
def sp_is_paper (C:Addr) (k:Nat):Sp:=fun vs H Q _=>∃(o fd:Addr) (N:Nat) (v:V) (d:PyData) (xs:List Str) (ps:List (Str×Str)) (fs:List (Nat×Int)),vs=[.ref o,.int N,v,.ref fd]∧PpI C H o fd xs ps fs∧ThgX H d v∧d.depth≤k∧ShD k d∧
  ∀H',Same H H'→Q (.bl (papD xs ps N k (fxOf fs) d)) H'
def sp_is_fork_paper (C:Addr) (k:Nat):Sp:=fun vs H Q _=>∃(o fd:Addr) (N:Nat) (v:V) (d:PyData) (xs:List Str) (ps:List (Str×Str)) (fs:List (Nat×Int)),vs=[.ref o,.int N,v,.ref fd]∧PpI C H o fd xs ps fs∧ThgX H d v∧seqD d=true∧(∀c∈kids d,c.depth≤k∧ShD k c)∧
  ∀H',Same H H'→Q (.bl (forkD ps.length (papD xs ps N k) (fxOf fs) (kids d))) H'
theorem forkD_len {m:Nat} {g:(Nat→Option Int)→PyData→Bool} {fx:Nat→Option Int} {ds:List PyData} (h:ds.length≠4):forkD m g fx ds=false:=by
  unfold forkD
  split
  ·simp at h
  ·rfl
theorem fork_step (T:Txt K mg a) {k:Nat} (ih:FnOk P w K mg base CX0 (2 * k+8) a.f_is_paper a.fd_is_paper ["web", "number", "thing", "fixed"] (sp_is_paper a.C_Web k)):FnOk P w K mg base CX0 (2 * k+9) a.f_is_fork_paper a.fd_is_fork_paper ["web", "number", "thing", "fixed"] (sp_is_fork_paper a.C_Web k):=by
  refine T.F_is_fork_paper.okL sc_is_fork_paper (fun vs H Q E h=>?_) (fun cdv A outer s H vs Q E hr h=>?_)
  · obtain ⟨o,fd,N,v,d,xs,ps,fs,rfl,_⟩:=h
    rfl
  · obtain ⟨o,fd,N,v,d,xs,ps,fs,rfl,hI,hd,hs,hsh,q⟩:=h
    refine ⟨_,(pss_cons (ps_if (PW.pt (pw_or (fpt_cmpR fop_ne (pe_callB (flenQk (K:=K) rfl) rfl T.nm.len PySem.boot_len (pa_cons (fpv 2) pa_nil)) pe_int (nomark _)) (pw_or (pt_not (fpt_val (PE.eqv (pe_call (ok_is_numberX (K:=K) T) (hr.mono (by omega)) rfl T.m_is_number T.F_is_number.kp T.b_is_number .nil pass0 (pa_cons (fpv 0) (pa_cons (pe_ix (fixQk (K:=K) rfl) (fpv 2) pe_int (fun _ _=>rfl)) pa_nil))) (fCall_eq _ _ _)))) (pw_or1 (fpt_cmp (PC.eqv (pc_din (hu_of hr) (pe_ix (fixQk (K:=K) rfl) (fpv 2) pe_int (fun _ _=>rfl)) (fpv 3)) (fDIn_eq _ _))))))) (pss_one (ps_ret pe_bl)) pss_nil)
      (pss_cons (ps_for PassesOwn.never rfl (pi_tupk (K:=K) rfl (pe_tup (pa_cons pe_int (pa_cons pe_int pa_nil)))) (pg_name (i:=4) sc_is_fork_paper.nd rfl (Or.inl rfl))
      (pss_one (ps_if (pt_not (fpt_val (PE.eqv (pe_call ih (hr.mono (by omega)) rfl T.m_is_paper T.F_is_paper.kp T.b_is_paper .nil pass0 (pa_cons (fpv 0) (pa_cons (fpv 1) (pa_cons (pe_ix (fixQk (K:=K) rfl) (fpv 2) (pe_op fop_add pe_int (fpv 4)) (fun _ _=>rfl)) (pa_cons (PE.eqv (pe_call (ok_with_one_more (K:=K) T) (hr.mono (by omega)) rfl T.m_with_one_more T.F_with_one_more.kp T.b_with_one_more .nil pass0 (pa_cons (fpv 3) (pa_cons (pe_ix (fixQk (K:=K) rfl) (fpv 2) pe_int (fun _ _=>rfl)) (pa_cons (fpv 4) pa_nil)))) (fCall_eq _ _ _)) pa_nil))))) (fCall_eq _ _ _)))) (pss_one (ps_ret pe_bl)) pss_nil)))
      (pss_one (ps_ret pe_bl)))),?_⟩
    obtain ⟨t,vs,rfl,hq,hall⟩:=thg_sq hd hs
    have hl:=hall.length
    simp -dsimp[cxOf,stC,-Bool.exists_bool,-List.map_take,-Prod.forall,-Prod.exists]
    refine ⟨_,hq.q,?_⟩
    rw [← hl]
    generalize kids d=ds at hall hsh q hl
    rcases ds with _ | ⟨d0,_ | ⟨d1,_ | ⟨d2,_ | ⟨d3,_ | ⟨d4,ds⟩⟩⟩⟩⟩
    · rw [forkD_len (by simp)] at q
      simp -dsimp[cxOf,stC,-Bool.exists_bool,-List.map_take,-Prod.forall,-Prod.exists]
      exact q _ (Same.refl _)
    · rw [forkD_len (by simp)] at q
      simp -dsimp[cxOf,stC,-Bool.exists_bool,-List.map_take,-Prod.forall,-Prod.exists]
      exact q _ (Same.refl _)
    · rw [forkD_len (by simp)] at q
      simp -dsimp[cxOf,stC,-Bool.exists_bool,-List.map_take,-Prod.forall,-Prod.exists]
      exact q _ (Same.refl _)
    · rw [forkD_len (by simp)] at q
      simp -dsimp[cxOf,stC,-Bool.exists_bool,-List.map_take,-Prod.forall,-Prod.exists]
      exact q _ (Same.refl _)
    · simp only [ThgXAll] at hall
      obtain ⟨v0,_,rfl,h0,v1,_,rfl,h1,v2,_,rfl,h2,v3,_,rfl,h3,rfl⟩:=hall
      simp -dsimp[cxOf,stC,-Bool.exists_bool,-List.map_take,-Prod.forall,-Prod.exists]
      refine ⟨_,hq.q,_,atI_nat (j:=1) rfl,o,v1,d1,xs,ps,rfl,hI.w,h1,?_⟩
      cases hn:nrD ps.length d1 with
      | false=>
        have e:forkD ps.length (papD xs ps N k) (fxOf fs) [d0,d1,d2,d3]=false:=by
          unfold forkD
          split
          · rename_i n p q' e
            cases e
            rw [show (decide (0≤n) && decide (n<(ps.length:Int)))=false from hn]
            rfl
          ·rfl
        rw [e] at q
        simp -dsimp[cxOf,stC,-Bool.exists_bool,-List.map_take,-Prod.forall,-Prod.exists]
        exact q _ (Same.refl _)
      | true=>
        obtain ⟨n,rfl⟩:∃n,d1 = .int n:=by cases d1 <;> first | exact ⟨_,rfl⟩ | cases hn
        simp only [ThgX] at h1
        subst h1
        have hn2:0≤n∧n<(ps.length:Int):=by simpa [nrD] using hn
        obtain ⟨m,rfl⟩:=Int.eq_ofNat_of_zero_le hn2.1
        have e:forkD ps.length (papD xs ps N k) (fxOf fs) [d0,.int (m:Int),d2,d3]=(decide (fxOf fs m=none) && (papD xs ps N k (fxs (fxOf fs) m 0) d2 && papD xs ps N k (fxs (fxOf fs) m 1) d3)):=by
          unfold forkD
          simp only [Int.toNat_natCast]
          rw [show (decide (0≤(m:Int)) && decide ((m:Int)<(ps.length:Int)))=true from hn]
          rfl
        rw [e] at q
        simp -dsimp[cxOf,stC,-Bool.exists_bool,-List.map_take,-Prod.forall,-Prod.exists]
        refine ⟨_,hq.q,_,atI_nat (j:=1) rfl,_,getI (m:Int) hI.f,?_⟩
        rw [fixK_val]
        cases hfm:fxOf fs m with
        | some u=>
          rw [hfm] at q
          refine tBr.pos rfl ?_
          simp -dsimp[cxOf,stC,-Bool.exists_bool,-List.map_take,-Prod.forall,-Prod.exists]
          exact q _ (Same.refl _)
        | none=>
          rw [hfm] at q
          refine tBr.neg rfl ?_
          simp -dsimp[cxOf,stC,-Bool.exists_bool,-List.map_take,-Prod.forall,-Prod.exists]
          intro tp htp
          have s1:Same H (upd H tp (.tup [.int 0,.int 1])):=same_upd htp
          have e1:upd H tp (.tup [.int 0,.int 1]) tp=some (.tup [.int 0,.int 1]):=upd_same
          generalize upd H tp (.tup [.int 0,.int 1])=H1 at s1 e1 ⊢
          have hnm:m∉fs.map (·.1):=fxOf_none.mp hfm
          have hml:m<ps.length:=by omega
          have fl:=hI.F.len
          have h20:=hI.T.len
          refine ⟨⟨_,SqT.of e1⟩,frT [.int 0,.int 1] (fun i σ H'=>(∃o4,σ=[some (.ref o),some (.int N),some (.ref t),some (.ref fd),o4])∧Same H1 H'∧(1≤i→papD xs ps N k (fxs (fxOf fs) m 0) d2=true)∧(2≤i→papD xs ps N k (fxs (fxOf fs) m 1) d3=true)) ⟨⟨_,rfl⟩,Same.refl _,by omega,by omega⟩ (fun i σ H' _ h=>SqT.of (h.2.1 _ _ e1)) ?_ ?_⟩
          · rintro i x σ H2 hx ⟨⟨o4,rfl⟩,s2,hp0,hp1⟩
            have S2:=s1.trans s2
            have I2:=hI.same S2
            have two:i=0∧x = .int 0∨i=1∧x = .int 1:=by
              rcases i with _ | _ | i
              ·simp at hx;exact .inl ⟨rfl,hx.symm⟩
              ·simp at hx;exact .inr ⟨rfl,hx.symm⟩
              ·simp at hx
            rcases two with ⟨rfl,rfl⟩ | ⟨rfl,rfl⟩
            · simp -dsimp[cxOf,stC,-Bool.exists_bool,-List.map_take,-Prod.forall,-Prod.exists]
              refine ⟨_,(hq.same S2).q,_,atI_nat (j:=2) rfl,_,(hq.same S2).q,_,atI_nat (j:=1) rfl,fd,m,0,fs,rfl,I2.f,by omega,hnm,fun r H3 hr0 er s3=>?_⟩
              refine ⟨o,r,N,v2,d2,xs,ps,fs++[(m,0)],rfl,⟨I2.w.same s3,I2.X,I2.T,er,I2.F.snoc hml ⟨by omega,by omega⟩ hnm⟩,ThgX.same (S2.trans s3) _ _ h2,(hsh d2 (by simp)).1,(hsh d2 (by simp)).2,fun H4 s4=>?_⟩
              rw [fxOf_snoc hnm]
              cases hb:papD xs ps N k (fxs (fxOf fs) m 0) d2 with
              | false=>
                rw [hb] at q
                simp -dsimp[cxOf,stC,-Bool.exists_bool,-List.map_take,-Prod.forall,-Prod.exists]
                exact q _ ((S2.trans s3).trans s4)
              | true=>
                simp -dsimp[cxOf,stC,-Bool.exists_bool,-List.map_take,-Prod.forall,-Prod.exists]
                exact (s2.trans s3).trans s4
            · have hp0:=hp0 (by omega)
              simp -dsimp[cxOf,stC,-Bool.exists_bool,-List.map_take,-Prod.forall,-Prod.exists]
              refine ⟨_,(hq.same S2).q,_,atI_nat (j:=3) rfl,_,(hq.same S2).q,_,atI_nat (j:=1) rfl,fd,m,1,fs,rfl,I2.f,by omega,hnm,fun r H3 hr0 er s3=>?_⟩
              refine ⟨o,r,N,v3,d3,xs,ps,fs++[(m,1)],rfl,⟨I2.w.same s3,I2.X,I2.T,er,I2.F.snoc hml ⟨by omega,by omega⟩ hnm⟩,ThgX.same (S2.trans s3) _ _ h3,(hsh d3 (by simp)).1,(hsh d3 (by simp)).2,fun H4 s4=>?_⟩
              rw [fxOf_snoc hnm]
              cases hb:papD xs ps N k (fxs (fxOf fs) m 1) d3 with
              | false=>
                rw [hp0,hb] at q
                simp -dsimp[cxOf,stC,-Bool.exists_bool,-List.map_take,-Prod.forall,-Prod.exists]
                exact q _ ((S2.trans s3).trans s4)
              | true=>
                simp -dsimp[cxOf,stC,-Bool.exists_bool,-List.map_take,-Prod.forall,-Prod.exists]
                exact ⟨(s2.trans s3).trans s4,hp0⟩
          · rintro σ H2 ⟨⟨o4,rfl⟩,s2,hp0,hp1⟩
            rw [hp0 (by simp),hp1 (by simp)] at q
            simp -dsimp[cxOf,stC,-Bool.exists_bool,-List.map_take,-Prod.forall,-Prod.exists]
            exact q _ (s1.trans s2)
    · rw [forkD_len (by simp)] at q
      simp -dsimp[cxOf,stC,-Bool.exists_bool,-List.map_take,-Prod.forall,-Prod.exists]
      refine ⟨true,decide_eq_false (by omega),tBr.pos rfl ?_⟩
      simp -dsimp[cxOf,stC,-Bool.exists_bool,-List.map_take,-Prod.forall,-Prod.exists]
      exact q _ (Same.refl _)
def sp_fork (C:Addr) (k:Nat):Sp:=fun vs H Q E=>∃j,k=j+1∧sp_is_fork_paper C j vs H Q E
theorem paper_step (T:Txt K mg a) {k:Nat} (fk:FnOk P w K mg base CX0 (2 * k+7) a.f_is_fork_paper a.fd_is_fork_paper ["web", "number", "thing", "fixed"] (sp_fork a.C_Web k)):FnOk P w K mg base CX0 (2 * k+8) a.f_is_paper a.fd_is_paper ["web", "number", "thing", "fixed"] (sp_is_paper a.C_Web k):=by
  refine T.F_is_paper.okL sc_is_paper (fun vs H Q E h=>?_) (fun cdv A outer s H vs Q E hr h=>?_)
  · obtain ⟨o,fd,N,v,d,xs,ps,fs,rfl,_⟩:=h
    rfl
  · obtain ⟨o,fd,N,v,d,xs,ps,fs,rfl,hI,hd,hdp,hsh,q⟩:=h
    refine ⟨_,(pss_cons (ps_if (PW.pt (pw_or (pt_not (fpt_val (PE.eqv (pe_call (ok_is_listX (K:=K) T) (hr.mono (by omega)) rfl T.m_is_list T.F_is_list.kp T.b_is_list .nil pass0 (pa_cons (fpv 2) pa_nil)) (fCall_eq _ _ _)))) (pw_or (fpt_cmpR fop_eq (pe_callB (flenQk (K:=K) rfl) rfl T.nm.len PySem.boot_len (pa_cons (fpv 2) pa_nil)) pe_int (nomark _)) (pw_or1 (pt_not (fpt_val (pe_callB (fisiTk (K:=K) rfl) rfl T.nm.isinstance boot_isinstance (pa_cons (pe_ix (fixQk (K:=K) rfl) (fpv 2) pe_int (fun _ _=>rfl)) (pa_cons (pe_bltn (v:=.ty "str") rfl T.nm.str boot_str rfl) pa_nil))))))))) (pss_one (ps_ret pe_bl)) pss_nil)
      (pss_cons (ps_if (fpt_cmpR fop_eq (pe_ix (fixQk (K:=K) rfl) (fpv 2) pe_int (fun _ _=>rfl)) pe_str (nomark _)) (pss_one (ps_ret (PE.eqv (pe_call (ok_is_far_paper (K:=K) T) (hr.mono (by omega)) rfl T.m_is_far_paper T.F_is_far_paper.kp T.b_is_far_paper .nil pass0 (pa_cons (fpv 0) (pa_cons (fpv 1) (pa_cons (fpv 2) (pa_cons (fpv 3) pa_nil))))) (fCall_eq _ _ _)))) pss_nil)
      (pss_one (ps_ret (fpe_and (pe_cmpR fop_eq (pe_ix (fixQk (K:=K) rfl) (fpv 2) pe_int (fun _ _=>rfl)) pe_str (nomark _)) (pe_one (PE.eqv (pe_call fk (hr.mono (by omega)) rfl T.m_is_fork_paper T.F_is_fork_paper.kp T.b_is_fork_paper .nil pass0 (pa_cons (fpv 0) (pa_cons (fpv 1) (pa_cons (fpv 2) (pa_cons (fpv 3) pa_nil))))) (fCall_eq _ _ _)))))))),?_⟩
    simp -dsimp[cxOf,stC,-Bool.exists_bool,-List.map_take,-Prod.forall,-Prod.exists]
    refine ⟨d,v,rfl,hd,fun H1 s1=>?_⟩
    have hd1:=ThgX.same s1 _ _ hd
    have I1:=hI.same s1
    cases hs:seqD d with
    | false=>
      have e:papD xs ps N k (fxOf fs) d=false:=by
        cases k with
        | zero=>rfl
        | succ k=>show (seqD d && _)=false;rw [hs];rfl
      rw [e] at q
      simp -dsimp[cxOf,stC,-Bool.exists_bool,-List.map_take,-Prod.forall,-Prod.exists]
      exact q _ s1
    | true=>
      obtain ⟨t,vs,rfl,hq,hall⟩:=thg_sq hd1 hs
      have hl:=hall.length
      simp -dsimp[cxOf,stC,-Bool.exists_bool,-List.map_take,-Prod.forall,-Prod.exists]
      refine ⟨_,hq.q,?_⟩
      cases hk:kids d with
      | nil=>
        have e:papD xs ps N k (fxOf fs) d=false:=by
          cases k with
          | zero=>rfl
          | succ k=>show (seqD d && papW _ _ _ _ _ _ (kids d))=false;rw [hk,hs];rfl
        rw [e] at q
        rw [hk] at hall
        simp only [ThgXAll] at hall
        subst hall
        refine tBr.pos (by simp) ?_
        simp -dsimp[cxOf,stC,-Bool.exists_bool,-List.map_take,-Prod.forall,-Prod.exists]
        exact q _ s1
      | cons d0 ds=>
        obtain ⟨j,rfl,_⟩:=kid_depth hdp (c:=d0) (by rw [hk];simp)
        have e:papD xs ps N (j+1) (fxOf fs) d=papW ps.length (papD xs ps N j) xs (stepsOf (fxOf fs) ps 0) N (fxOf fs) (d0::ds):=by
          show (seqD d && papW _ _ _ _ _ _ (kids d))=_
          rw [hk,hs]
          rfl
        rw [e] at q
        rw [hk] at hall
        simp only [ThgXAll] at hall
        obtain ⟨v0,r0,rfl,h0,h0s⟩:=hall
        refine tBr.neg (by simp) ?_
        simp -dsimp[cxOf,stC,-Bool.exists_bool,-List.map_take,-Prod.forall,-Prod.exists]
        refine ⟨_,hq.q,_,atI_nat (j:=0) rfl,_,thg_ty h0,_,kit_strD d0,?_⟩
        cases hs0:strD d0 with
        | false=>
          have e2:papW ps.length (papD xs ps N j) xs (stepsOf (fxOf fs) ps 0) N (fxOf fs) (d0::ds)=false:=by
            cases d0 <;> first | rfl | cases hs0
          rw [e2] at q
          simp -dsimp[cxOf,stC,-Bool.exists_bool,-List.map_take,-Prod.forall,-Prod.exists]
          exact q _ s1
        | true=>
          obtain ⟨w,rfl⟩:∃w,d0 = .str w:=by cases d0 <;> first | exact ⟨_,rfl⟩ | cases hs0
          simp only [ThgX] at h0
          subst h0
          have e2:papW ps.length (papD xs ps N j) xs (stepsOf (fxOf fs) ps 0) N (fxOf fs) (.str w::ds)=if w=Str.ofString "far" then farD xs (stepsOf (fxOf fs) ps 0) N (.str w::ds) else decide (w=Str.ofString "fork") && forkD ps.length (papD xs ps N j) (fxOf fs) (.str w::ds):=rfl
          rw [e2] at q
          have kd:∀c∈kids d,c.depth≤j∧ShD j c:=fun c hc=>by
            obtain ⟨j',e,h⟩:=kid_depth hdp hc
            cases e
            exact ⟨h,hsh.2 c hc⟩
          simp -dsimp[cxOf,stC,-Bool.exists_bool,-List.map_take,-Prod.forall,-Prod.exists]
          refine ⟨_,hq.q,_,atI_nat (j:=0) rfl,?_⟩
          simp -dsimp[cxOf,stC,-Bool.exists_bool,-List.map_take,-Prod.forall,-Prod.exists]
          by_cases hw:w=Str.ofString "far"
          · rw [if_pos hw] at q
            refine tBr.pos (decide_eq_true hw) ?_
            simp -dsimp[cxOf,stC,-Bool.exists_bool,-List.map_take,-Prod.forall,-Prod.exists]
            refine ⟨o,fd,N,.ref t,d,xs,ps,fxOf fs,rfl,I1.w,I1.X,I1.T,fix_at I1.f,hd1,hs,fun c hc=>(kd c hc).2.s,fun H2 s2=>?_⟩
            rw [hk]
            exact q _ (s1.trans s2)
          · rw [if_neg hw] at q
            refine tBr.neg (decide_eq_false hw) ?_
            simp -dsimp[cxOf,stC,-Bool.exists_bool,-List.map_take,-Prod.forall,-Prod.exists]
            refine ⟨_,hq.q,_,atI_nat (j:=0) rfl,?_⟩
            simp -dsimp[cxOf,stC,-Bool.exists_bool,-List.map_take,-Prod.forall,-Prod.exists]
            refine tBr.of (fun h=>?_) (fun h=>?_)
            · have hw3:w=Str.ofString "fork" :=of_decide_eq_true h
              rw [decide_eq_true hw3] at q
              simp -dsimp[cxOf,stC,-Bool.exists_bool,-List.map_take,-Prod.forall,-Prod.exists]
              refine ⟨j,rfl,o,fd,N,.ref t,d,xs,ps,fs,rfl,I1,hd1,hs,kd,fun H2 s2=>?_⟩
              rw [hk]
              exact q _ (s1.trans s2)
            · have hw3:¬w=Str.ofString "fork" :=of_decide_eq_false h
              rw [decide_eq_false hw3] at q
              exact q _ s1
theorem ok_is_paper (T:Txt K mg a):∀k,FnOk P w K mg base CX0 (2 * k+8) a.f_is_paper a.fd_is_paper ["web", "number", "thing", "fixed"] (sp_is_paper a.C_Web k)
  | 0=>paper_step T (FnOk.no.imp fun vs H Q E h=>by obtain ⟨j,h,_⟩:=h;cases h)
  | k+1=>paper_step T ((fork_step T (ok_is_paper T k)).imp fun vs H Q E h=>by obtain ⟨j,h,z⟩:=h;cases h;exact z)
def sp_reads_paper (C:Addr):Sp:=fun vs H Q _=>∃(o:Addr) (N:Nat) (v:V) (d:PyData) (xs:List Str) (ps:List (Str×Str)),vs=[.ref o,.int N,v]∧WebAt C H o xs ps∧Pts xs∧Ties xs ps∧1≤N∧N≤99∧ThgX H d v∧d.depth≤30∧ShD 30 d∧
  ∀H',Same H H'→Q (.bl (papD xs ps N 30 (fun _=>none) d)) H'
theorem ok_reads_paper (T:Txt K mg a):FnOk P w K mg base CX0 69 a.f_reads_paper a.fd_reads_paper ["web", "number", "thing"] (sp_reads_paper a.C_Web):=by
  refine T.F_reads_paper.okL sc_reads_paper (fun vs H Q E h=>?_) (fun cdv A outer s H vs Q E hr h=>?_)
  · obtain ⟨o,N,v,d,xs,ps,rfl,_⟩:=h
    rfl
  · obtain ⟨o,N,v,d,xs,ps,rfl,hw,hX,hTs,h1,h99,hd,hdp,hsh,q⟩:=h
    refine ⟨_,(pss_cons (ps_if (PW.pt (pw_or (pt_not (fpt_val (PE.eqv (pe_call (ok_is_wholeX (K:=K) T) (hr.mono (by decide)) rfl T.m_is_whole T.F_is_whole.kp T.b_is_whole .nil pass0 (pa_cons (fpv 1) pa_nil)) (fCall_eq _ _ _)))) (pw_or1 (pt_not (fpt_chain fop_le fop_le pe_int (fpv 1) (pe_glob rfl T.h_MOST_FAR T.r_MOST_FAR)))))) (pss_one (ps_ret pe_bl)) pss_nil)
      (pss_one (ps_ret (PE.eqv (pe_call (ok_is_paper (K:=K) T 30) (hr.mono (by omega)) rfl T.m_is_paper T.F_is_paper.kp T.b_is_paper .nil pass0 (pa_cons (fpv 0) (pa_cons (fpv 1) (pa_cons (fpv 2) (pa_cons pe_dnewK pa_nil))))) (fCall_eq _ _ _))))),?_⟩
    simp -dsimp[cxOf,stC,-Bool.exists_bool,-List.map_take,-Prod.forall,-Prod.exists]
    refine ⟨.int N,.int N,rfl,by simp [ThgX],?_⟩
    rw [show wholeD (.int (N:Int))=true from rfl]
    simp -dsimp[cxOf,stC,-Bool.exists_bool,-List.map_take,-Prod.forall,-Prod.exists]
    refine tBr.pos (decide_eq_true (by omega)) ?_
    simp -dsimp[cxOf,stC,-Bool.exists_bool,-List.map_take,-Prod.forall,-Prod.exists]
    refine tBr.neg (by rw [decide_eq_true (by omega)];rfl) ?_
    simp -dsimp[cxOf,stC,-Bool.exists_bool,-List.map_take,-Prod.forall,-Prod.exists]
    intro fd hfd
    have s1:Same H (upd H fd (.dK [])):=same_upd hfd
    have e1:upd H fd (.dK []) fd=some (.dK (fixK [])):=upd_same
    generalize upd H fd (.dK [])=H1 at s1 e1 ⊢
    refine ⟨o,fd,N,v,d,xs,ps,[],rfl,⟨hw.same s1,hX,hTs,e1,⟨by simp,by simp⟩⟩,ThgX.same s1 _ _ hd,hdp,hsh,fun H2 s2=>?_⟩
    rw [show fxOf []=fun _=>none from rfl]
    exact q _ (s1.trans s2)
def tfx (ns:List Int) (j:Nat):Option Int:=if ns[j]? = some 2 then none else ns[j]?
theorem so_0 {ns:List Int} {e:Str×Str} {j:Nat} (h:ns[j]? = some 0):stepOf (tfx ns) e j=[(j,e.1,e.2)]:=by
  unfold stepOf tfx
  rw [h]
  simp
theorem so_1 {ns:List Int} {e:Str×Str} {j:Nat} (h:ns[j]? = some 1):stepOf (tfx ns) e j=[(j,e.2,e.1)]:=by
  unfold stepOf tfx
  rw [h]
  simp
theorem so_2 {ns:List Int} {e:Str×Str} {j:Nat} (h:ns[j]? = some 2):stepOf (tfx ns) e j=[(j,e.1,e.2)]++[(j,e.2,e.1)]:=by
  unfold stepOf tfx
  rw [h]
  simp
def KeysOk (kvs:List (Key×V)) (D:Str→Option Nat):Prop:=∃fs:List Str,kvs.map (·.1)=fs.map Sum.inr∧fs.Nodup∧∀y,y∈fs↔D y≠none
theorem KeysOk.put {kvs:List (Key×V)} {D:Str→Option Nat} (h:KeysOk kvs D) {g:Str} {k:Nat} {v:V} (hg:D g=none):KeysOk (kvs++[(Sum.inr g,v)]) (fun y=>if y=g then some k else D y):=by
  obtain ⟨fs,h1,h2,h3⟩:=h
  refine ⟨fs++[g],by simp [h1],?_,fun y=>?_⟩
  · refine List.nodup_append.mpr ⟨h2,by simp,fun a ha b hb z=>?_⟩
    simp at hb
    subst hb z
    exact (h3 _).mp ha hg
  · by_cases e:y=g
    ·simp [e]
    ·simp [e,h3]
theorem KeysOk.len {kvs:List (Key×V)} {D:Str→Option Nat} (h:KeysOk kvs D) {xs:List Str} (hx:∀y,D y≠none→y∈xs):kvs.length≤xs.length:=by
  obtain ⟨fs,h1,h2,h3⟩:=h
  have:=nodup_len h2 fun y hy=>hx y ((h3 y).mp hy)
  have e:=congrArg List.length h1
  simp at e
  omega
theorem nodup_snoc {α:Type} {l:List α} {x:α} (h:l.Nodup) (hx:¬x∈l):(l++[x]).Nodup:=List.nodup_append.mpr ⟨h,by simp,fun a ha b hb z=>by
  simp at hb
  subst hb z
  exact hx ha⟩
def addD (D:Str→Option Nat) (ys:List Str) (k:Nat) (y:Str):Option Nat:=if y∈ys then some k else D y
theorem addD_snoc (D:Str→Option Nat) (ys:List Str) (k:Nat) (g:Str):addD D (ys++[g]) k=fun y=>if y=g then some k else addD D ys k y:=by
  funext y
  unfold addD
  by_cases e:y=g
  ·simp [e]
  ·simp [e]
theorem addD_mid {D:Str→Option Nat} {last later:List Str} {T:List Stp} {i:Nat} (h:∀y,y∈later↔D y=none∧anyT last T y=true):addD D later (i+1)=midD D i last T:=by
  funext y
  unfold addD
  cases e:D y with
  | some k=>
    rw [midD_some e,if_neg]
    intro z
    rw [((h y).mp z).1] at e
    cases e
  | none=>
    rw [midD_none e]
    by_cases z:anyT last T y=true
    ·rw [if_pos z,if_pos ((h y).mpr ⟨e,z⟩)]
    ·rw [if_neg z,if_neg fun q=>z ((h y).mp q).2]
theorem later_add {D:Str→Option Nat} {last later:List Str} {T:List Stp} (j:Nat) {o g:Str} (h:∀y,y∈later↔D y=none∧anyT last T y=true) (h1:o∈last) (h2:D g=none):∀y,y∈later++[g]↔D y=none∧anyT last (T++[(j,o,g)]) y=true:=fun y=>by
  rw [anyT_snoc,List.mem_append,h y]
  by_cases e:y=g
  · subst e
    simp [h1,h2]
  · have e':¬g=y:=fun z=>e z.symm
    simp [e,e']
theorem later_skip {D:Str→Option Nat} {last later:List Str} {T:List Stp} (j:Nat) {o g:Str} (h:∀y,y∈later↔D y=none∧anyT last T y=true) (hs:¬o∈last∨D g≠none∨g∈later):∀y,y∈later↔D y=none∧anyT last (T++[(j,o,g)]) y=true:=fun y=>by
  rw [anyT_snoc,h y]
  by_cases e:y=g
  · subst e
    rcases hs with hs | hs | hs
    ·simp [hs]
    ·simp [hs]
    · have:=(h y).mp hs
      simp [this]
  · have e':¬g=y:=fun z=>e z.symm
    simp [e']
theorem app2 {later last:List Str} {D:Str→Option Nat} {T:List Stp} {a b:Stp} (h:∀y,y∈later↔D y=none∧anyT last (T++[a]++[b]) y=true):∀y,y∈later↔D y=none∧anyT last (T++[a,b]) y=true:=fun y=>by
  have:=h y
  rw [List.append_assoc] at this
  exact this
def muFar (d:Addr) (σ:St) (H:Hp):Nat:=(match H d with | some (.dK kvs)=>2 * (10 - kvs.length) | _=>0)+(match σ[4]? with | some (some (V.ref h))=>(match H h with | some (.lst [])=>0 | _=>1) | _=>1)
theorem fmono_ne {K:PySem.W.Frag} {i:Nat}:∀(σ:St) (H:Hp) (Q Q':Bool→Hp→Prop),(∀(b:Bool) (H1:Hp),Q b H1→Q' b H1)→fTest (tOp (fNeD K) (fVar i) (tLst tNil)) σ H Q→fTest (tOp (fNeD K) (fVar i) (tLst tNil)) σ H Q':=by
  intro σ H Q Q' f h
  refine getSt.imp (fun v h=>?_) h
  obtain ⟨h0,h⟩:=h
  refine ⟨h0,fun p hp=>?_⟩
  obtain ⟨d,h1,e,h2,h3,h4,h5,k,h6,h7⟩:=h p hp
  exact ⟨d,h1,e,h2,h3,h4,h5,k,h6,isBl.imp (fun _ h=>f _ _ h) h7⟩
def sp_far:Sp:=fun vs H Q _=>∃(t n l g:Addr) (xs:List Str) (tv:List V) (ps:List (Str×Str)) (ns:List Int) (x:Str),vs=[.ref t,.ref g,.str x]∧goalsR H t n l xs tv ps∧H g=some (.lst (ns.map V.int))∧ns.length=ps.length∧(∀n∈ns,0≤n∧n≤2)∧x∈xs∧
  ∀(d:Addr) (kvs:List (Key×V)) (D:Str→Option Nat) (H':Hp),H d=none→H' d=some (.dK kvs)→DictN kvs D→KeysOk kvs D→(∀y k,D y=some k↔Dist (stepsOf (tfx ns) ps 0) x y k)→Same H H'→Q (.ref d) H'
theorem ok_far (T:Txt K mg a):FnOk P w K mg base CX0 1 a.f_far a.fd_far ["_law_web_here", "_law_turns", "_law_a"] sp_far:=by
  refine T.F_far.okL sc_far (fun vs H Q E h=>?_) (fun cdv A outer s H vs Q E hr h=>?_)
  · obtain ⟨t,n,l,g,xs,tv,ps,ns,x,rfl,_⟩:=h
    rfl
  · obtain ⟨t,n,l,g,xs,tv,ps,ns,x,rfl,hG,hg,hlen,h01,hx,q⟩:=h
    refine ⟨_,(pss_cons (ps_set (i:=3) sc_far.nd rfl (Or.inl rfl) (pe_disp (pps_cons (fpv 2) pe_int pps_nil) rfl rfl (by simp) (by decide)))
      (pss_cons (ps_set (i:=4) sc_far.nd rfl (Or.inl rfl) (pe_lst (pa_cons (fpv 2) pa_nil)))
      (pss_cons (ps_while PassesOwn.never (fpt_cmpR (fopNeD (K:=K) rfl hr.units) (fpv 4) (pe_lst pa_nil) (nomark _))
      (pss_cons (ps_set (i:=5) sc_far.nd rfl (Or.inl rfl) (pe_lst pa_nil))
      (pss_cons (ps_for PassesOwn.never rfl (PI.eqv (pi_zipk (K:=K) rfl rfl T.nm.zip (pa_cons (pe_ix (fixQk (K:=K) rfl) (fpv 0) pe_int (fun _ _=>rfl)) (pa_cons (fpv 1) pa_nil))) (fiZip_eq _ _)) (PG.eqv (pg_tupk (K:=K) (n:=2) rfl rfl (PGs.eqv (pgs_cons (PG.eqv (pg_tupk (K:=K) (n:=2) rfl rfl (PGs.eqv (pgs_cons (pg_name (i:=6) sc_far.nd rfl (Or.inl rfl)) (PGs.eqv (pgs_cons (pg_name (i:=7) sc_far.nd rfl (Or.inl rfl)) (PGs.mono pgs_nil fNil_t)) (fCons_eq _ _))) (fCons_eq _ _))) (fTup_eq _ _ _)) (PGs.eqv (pgs_cons (pg_name (i:=8) sc_far.nd rfl (Or.inl rfl)) (PGs.mono pgs_nil fNil_t)) (fCons_eq _ _))) (fCons_eq _ _))) (fTup_eq _ _ _))
      (pss_cons (ps_if (PW.pt (pw_and (fpt_cmpR fop_ne (fpv 8) pe_int (nomark _)) (pw_and (fpt_cmpR (finK (K:=K) rfl) (fpv 6) (fpv 4) rfl) (pw_and (fpt_cmp (PC.eqv (pc_dnotin (hu_of hr) (fpv 7) (fpv 3)) (fDNotIn_eq _ _))) (pw_and1 (fpt_cmpR (fnotinK (K:=K) rfl) (fpv 7) (fpv 5) rfl)))))) (pss_one (ps_expr (pe_bmk (K:=K) rfl PySem.F.plainAttrs_list PySem.F.slot_list_append PySem.F.type_list_append fmt_append (fpv 5) (pa_cons (fpv 7) pa_nil)))) pss_nil)
      (pss_one (ps_if (PW.pt (pw_and (fpt_cmpR fop_ne (fpv 8) pe_int (nomark _)) (pw_and (fpt_cmpR (finK (K:=K) rfl) (fpv 7) (fpv 4) rfl) (pw_and (fpt_cmp (PC.eqv (pc_dnotin (hu_of hr) (fpv 6) (fpv 3)) (fDNotIn_eq _ _))) (pw_and1 (fpt_cmpR (fnotinK (K:=K) rfl) (fpv 6) (fpv 5) rfl)))))) (pss_one (ps_expr (pe_bmk (K:=K) rfl PySem.F.plainAttrs_list PySem.F.slot_list_append PySem.F.type_list_append fmt_append (fpv 5) (pa_cons (fpv 6) pa_nil)))) pss_nil))))
      (pss_cons (ps_for PassesOwn.never rfl (PI.eqv (pi_listk (K:=K) rfl (fpv 5)) (fiList_eq _ _)) (pg_name (i:=9) sc_far.nd rfl (Or.inl rfl))
      (pss_one (PS.eqv (ps_dput (hu_of hr) (fpv 3) (fpv 9) (pe_op fop_add (PE.eqv (pe_dget (hu_of hr) (fpv 3) (pe_ix (fixQk (K:=K) rfl) (fpv 4) pe_int (fun _ _=>rfl)) (fun _ _=>rfl)) (fDGet_eq _ _)) pe_int) rfl) (fDPut_eq _ _ _))))
      (pss_one (ps_set (i:=4) sc_far.nd rfl (Or.inl rfl) (fpv 5)))))))
      (pss_one (ps_ret (fpv 3)))))),?_⟩
    have s60:60≤sizeLine:=by decide
    have s999:999<sizeLine:=by decide
    have hX:=hG.2.2.2.2.1
    have hTs:=hG.2.2.2.2.2
    have l9:=hX.len
    have h20:=hTs.len
    have tl:=hG.2.2.2.1.1
    have hSx:=steps_goal (fx:=tfx ns) hTs
    simp -dsimp[cxOf,stC,-Bool.exists_bool,-List.map_take,-Prod.forall,-Prod.exists]
    intro d hd
    refine ⟨upd_same,[(Sum.inr x,.int 0)],rfl,by simp,?_⟩
    have em:mergeK [] [((Sum.inr x:Key),V.int 0)]=[(Sum.inr x,.int 0)]:=rfl
    rw [em]
    have sd:Same H (upd (upd H d (.dK [])) d (.dK [(Sum.inr x,.int 0)])):=same_upd2 (same_upd hd) hd
    have ed:upd (upd H d (.dK [])) d (.dK [(Sum.inr x,.int 0)]) d=some (.dK [(Sum.inr x,.int 0)]):=upd_same
    generalize upd (upd H d (.dK [])) d (.dK [(Sum.inr x,.int 0)])=H1 at sd ed ⊢
    have hD0:DictN [((Sum.inr x:Key),V.int 0)] (fun y=>if y=x then some 0 else none):=by
      intro y
      by_cases z:y=x
      · subst z
        rw [valV_pos rfl]
        simp
      · rw [valV_neg (by intro q;exact z (Sum.inr.inj q).symm),valV_nil]
        simp [z]
    intro h0 hh0
    have sh:Same H1 (upd H1 h0 (.lst [.str x])):=same_upd hh0
    have eh:upd H1 h0 (.lst [.str x]) h0=some (.lst ([x].map V.str)):=upd_same
    have hdh:h0≠d:=(ne_of_none ed hh0).symm
    generalize upd H1 h0 (.lst [.str x])=H2 at sh eh ⊢
    refine whB (fun σ H'=>∃(i:Nat) (kvs:List (Key×V)) (D:Str→Option Nat) (hl:Addr) (last:List Str) (o5 o6 o7 o8 o9:Option V),σ=[some (.ref t),some (.ref g),some (.str x),some (.ref d),some (.ref hl),o5,o6,o7,o8,o9]∧H' d=some (.dK kvs)∧DictN kvs D∧KeysOk kvs D∧(∀y k,D y=some k↔Dist (stepsOf (tfx ns) ps 0) x y k∧k≤i)∧H' hl=some (.lst (last.map V.str))∧(∀y,y∈last↔y∈xs∧D y=some i)∧last.length≤9∧hl≠d∧Same H H') (muFar d)
      ⟨0,_,_,h0,[x],none,none,none,none,none,rfl,sh _ _ ed,hD0,⟨[x],rfl,by simp,fun y=>by by_cases z:y=x <;> simp [z]⟩,fun y k=>?_,eh,fun y=>?_,by simp,hdh,sd.trans sh⟩ ?_ fmono_ne
    · constructor
      · intro z
        by_cases e:y=x
        · rw [if_pos e] at z
          cases z
          exact ⟨Dist.zero.mpr e,Nat.le_refl _⟩
        · rw [if_neg e] at z
          cases z
      · rintro ⟨z,hk⟩
        obtain rfl:k=0:=by omega
        rw [if_pos (Dist.zero.mp z)]
    · by_cases e:y=x
      ·simp [e,hx]
      ·simp [e]
    · rintro σ H3 ⟨i,kvs,D,hl,last,o5,o6,o7,o8,o9,rfl,hd3,hDN,hKO,hDD,hl3,hlast,hl9,hld,s3⟩
      have hDx:∀y,D y≠none→y∈xs:=fun y hy=>by
        cases e:D y with
        | none=>exact absurd e hy
        | some k=>exact ((hDD y k).mp e).1.1.in hx hSx
      have hkl:=hKO.len hDx
      have hxc:PyData.canLay0 (.list (dStrs last))=true:=by
        have:=lay_strs last fun y hy=>name_ok (hX.nm y ((hlast y).mp hy).1)
        simp [PyData.canLay0,this]
      have hxd:(PyData.list (dStrs last)).depth≤64:=by
        have:=dep_strs last
        simp [PyData.depth]
        omega
      have hμ:muFar d [some (.ref t),some (.ref g),some (.str x),some (.ref d),some (.ref hl),o5,o6,o7,o8,o9] H3=2 * (10 - kvs.length)+(if last=[] then 0 else 1):=by
        unfold muFar
        rw [hd3]
        show 2 * (10 - kvs.length)+(match H3 hl with | some (.lst [])=>0 | _=>1)=_
        rw [hl3]
        cases last <;> rfl
      rw [hμ]
      simp -dsimp[cxOf,stC,-Bool.exists_bool,-List.map_take,-Prod.forall,-Prod.exists]
      intro p hp
      have s4:Same H3 (upd H3 p (.lst [])):=same_upd hp
      have e4:upd H3 p (.lst []) p=some (.lst ([].map V.str)):=upd_same
      generalize upd H3 p (.lst [])=H4 at s4 e4 ⊢
      refine ⟨.list (dStrs last),⟨hl,_,rfl,SqL.of (s4 _ _ hl3),is_strs _⟩,.list (dStrs []),⟨p,_,rfl,SqL.of e4,is_strs _⟩,hxc,by simp [PyData.canLay0,PyData.canLayAll0,dStrs],hxd,!decide (last=[]),by simp [PyData.eqv,eqv_strs],?_⟩
      refine tBr.of (fun h=>?_) (fun h=>?_)
      · have hne:last≠[]:=by simpa using h
        rw [if_neg hne]
        have hd4:=s4 _ _ hd3
        have hl4:=s4 _ _ hl3
        simp -dsimp[cxOf,stC,-Bool.exists_bool,-List.map_take,-Prod.forall,-Prod.exists]
        intro L hL
        have s5:Same H4 (upd H4 L (.lst [])):=same_upd hL
        have e5:upd H4 L (.lst []) L=some (.lst (([]:List Str).map V.str)):=upd_same
        have dL:d≠L:=ne_of_none hd4 hL
        generalize upd H4 L (.lst [])=H5 at s5 e5 ⊢
        have s34:=s3.trans s4
        have s35:=s34.trans s5
        refine ⟨_,.inr (SqT.of (s35 _ _ hG.1)),_,atI_nat (j:=1) rfl,?_⟩
        simp -dsimp[cxOf,stC,-Bool.exists_bool,-List.map_take,-Prod.forall,-Prod.exists]
        refine ⟨⟨_,SqL.of (s35 _ _ hG.2.2.1)⟩,⟨_,SqL.of (s35 _ _ hg)⟩,?_⟩
        refine frZ tv (ns.map V.int) (fun j σ H'=>∃(later:List Str) (o6 o7 o8 o9:Option V),σ=[some (.ref t),some (.ref g),some (.str x),some (.ref d),some (.ref hl),some (.ref L),o6,o7,o8,o9]∧H' L=some (.lst (later.map V.str))∧later.Nodup∧(∀y,y∈later↔D y=none∧anyT last (stepsOf (tfx ns) (ps.take j) 0) y=true)∧later.length≤2 * j∧Same H4 H')
          ⟨[],o6,o7,o8,o9,rfl,e5,by simp,fun y=>by simp [anyT,stepsOf],by simp,s5⟩ (by simp;omega) (fun j σ H' _ h=>by
          obtain ⟨_,_,_,_,_,_,_,_,_,_,z⟩:=h
          exact ⟨SqL.of (z _ _ (s34 _ _ hG.2.2.1)),SqL.of (z _ _ (s34 _ _ hg))⟩) ?_ ?_
        · rintro j z1 z2 tt σ H6 hj1 hj2 htt ⟨later,o6,o7,o8,o9,rfl,hL6,hLn,hLi,hLl,s6⟩
          obtain ⟨e,he,t2,rfl,ht2⟩:=hG.2.2.2.1.at hj1
          obtain ⟨m,hm,rfl⟩:=int_at hj2
          have hm2:=h01 m (List.mem_of_getElem? hm)
          have hjp:j<ps.length:=(List.getElem?_eq_some_iff.mp he).1
          have st:Same H6 (upd H6 tt (.tup [.ref t2,.int m])):=same_upd htt
          have ett:upd H6 tt (.tup [.ref t2,.int m]) tt=some (.tup [.ref t2,.int m]):=upd_same
          generalize upd H6 tt (.tup [.ref t2,.int m])=H7 at st ett ⊢
          have s47:=s6.trans st
          have s37:=s34.trans s47
          have ht7:=s37 _ _ ht2
          have hL7:=st _ _ hL6
          have hd7:=s47 _ _ hd4
          have hl7:=s47 _ _ hl4
          rw [stepsOf_take (tfx ns) he]
          have sz:later.length<sizeLine:=by omega
          simp -dsimp[cxOf,stC,-Bool.exists_bool,-List.map_take,-Prod.forall,-Prod.exists]
          refine ⟨_,SqT.of ett,rfl,_,SqT.of ht7,rfl,?_⟩
          have hm01:m=0∨m=1∨m=2:=by omega
          rcases hm01 with rfl | rfl | rfl
          · rw [so_0 hm]
            simp -dsimp[cxOf,stC,-Bool.exists_bool,-List.map_take,-Prod.forall,-Prod.exists]
            refine ⟨_,.inl (SqL.of hl7),rfl,List.all_eq_true.mp (flat_strs _),?_⟩
            rw [inV_str_iff]
            refine tBr.of (fun h=>?_) (fun h=>?_)
            · have h1:e.1∈last:=of_decide_eq_true h
              simp -dsimp[cxOf,stC,-Bool.exists_bool,-List.map_take,-Prod.forall,-Prod.exists]
              refine ⟨_,getS _ hd7,?_⟩
              rw [hDN e.2]
              cases hmd:D e.2 with
              | none=>
                refine tBr.pos rfl ?_
                simp -dsimp[cxOf,stC,-Bool.exists_bool,-List.map_take,-Prod.forall,-Prod.exists]
                refine ⟨_,.inl (SqL.of hL7),rfl,List.all_eq_true.mp (flat_strs _),!decide (e.2∈later),by rw [inV_str_iff];simp,?_⟩
                refine tBr.of (fun h=>?_) (fun h=>?_)
                · have h2:¬e.2∈later:=by simpa using h
                  simp -dsimp[cxOf,stC,-Bool.exists_bool,-List.map_take,-Prod.forall,-Prod.exists]
                  refine ⟨⟨_,SqL.of hL7⟩,_,hL7,by rw [List.length_map];exact sz,later++[e.2],by rw [upd_same];simp,nodup_snoc hLn h2,later_add j hLi h1 hmd,by rw [List.length_append,List.length_singleton];omega,same_upd2 s47 hL⟩
                · have h2:e.2∈later:=by simpa using h
                  simp -dsimp[cxOf,stC,-Bool.exists_bool,-List.map_take,-Prod.forall,-Prod.exists]
                  exact ⟨later,hL7,hLn,later_skip j hLi (.inr (.inr h2)),by omega,s47⟩
              | some k=>
                refine tBr.neg rfl ?_
                simp -dsimp[cxOf,stC,-Bool.exists_bool,-List.map_take,-Prod.forall,-Prod.exists]
                exact ⟨later,hL7,hLn,later_skip j hLi (.inr (.inl (by rw [hmd];simp))),by omega,s47⟩
            · have h1:¬e.1∈last:=of_decide_eq_false h
              simp -dsimp[cxOf,stC,-Bool.exists_bool,-List.map_take,-Prod.forall,-Prod.exists]
              exact ⟨later,hL7,hLn,later_skip j hLi (.inl h1),by omega,s47⟩
          · rw [so_1 hm]
            simp -dsimp[cxOf,stC,-Bool.exists_bool,-List.map_take,-Prod.forall,-Prod.exists]
            refine ⟨_,.inl (SqL.of hl7),rfl,List.all_eq_true.mp (flat_strs _),?_⟩
            rw [inV_str_iff]
            refine tBr.of (fun h=>?_) (fun h=>?_)
            · have h1:e.2∈last:=of_decide_eq_true h
              simp -dsimp[cxOf,stC,-Bool.exists_bool,-List.map_take,-Prod.forall,-Prod.exists]
              refine ⟨_,getS _ hd7,?_⟩
              rw [hDN e.1]
              cases hmd:D e.1 with
              | none=>
                refine tBr.pos rfl ?_
                simp -dsimp[cxOf,stC,-Bool.exists_bool,-List.map_take,-Prod.forall,-Prod.exists]
                refine ⟨_,.inl (SqL.of hL7),rfl,List.all_eq_true.mp (flat_strs _),!decide (e.1∈later),by rw [inV_str_iff];simp,?_⟩
                refine tBr.of (fun h=>?_) (fun h=>?_)
                · have h2:¬e.1∈later:=by simpa using h
                  simp -dsimp[cxOf,stC,-Bool.exists_bool,-List.map_take,-Prod.forall,-Prod.exists]
                  refine ⟨⟨_,SqL.of hL7⟩,_,hL7,by rw [List.length_map];exact sz,later++[e.1],by rw [upd_same];simp,nodup_snoc hLn h2,later_add j hLi h1 hmd,by rw [List.length_append,List.length_singleton];omega,same_upd2 s47 hL⟩
                · have h2:e.1∈later:=by simpa using h
                  simp -dsimp[cxOf,stC,-Bool.exists_bool,-List.map_take,-Prod.forall,-Prod.exists]
                  exact ⟨later,hL7,hLn,later_skip j hLi (.inr (.inr h2)),by omega,s47⟩
              | some k=>
                refine tBr.neg rfl ?_
                simp -dsimp[cxOf,stC,-Bool.exists_bool,-List.map_take,-Prod.forall,-Prod.exists]
                exact ⟨later,hL7,hLn,later_skip j hLi (.inr (.inl (by rw [hmd];simp))),by omega,s47⟩
            · have h1:¬e.2∈last:=of_decide_eq_false h
              simp -dsimp[cxOf,stC,-Bool.exists_bool,-List.map_take,-Prod.forall,-Prod.exists]
              exact ⟨later,hL7,hLn,later_skip j hLi (.inl h1),by omega,s47⟩
          · rw [so_2 hm,← List.append_assoc]
            simp -dsimp[cxOf,stC,-Bool.exists_bool,-List.map_take,-Prod.forall,-Prod.exists]
            generalize hNx:tIfS (tAnd (fTest (tOp fNe (fVar 8) _)) _) _ _ _=Nx
            have second:∀(later:List Str) (H8:Hp),H8 L=some (.lst (later.map V.str))→later.Nodup→(∀y,y∈later↔D y=none∧anyT last (stepsOf (tfx ns) (ps.take j) 0++[(j,e.1,e.2)]) y=true)→later.length≤2 * j+1→Same H4 H8→Nx [some (.ref t),some (.ref g),some (.str x),some (.ref d),some (.ref hl),some (.ref L),some (.str e.1),some (.str e.2),some (.int 2),o9] H8:=by
              intro later H8 hL7 hLn hLi hLl s47
              subst hNx
              have sz:later.length<sizeLine:=by omega
              have hd7:=s47 _ _ hd4
              have hl7:=s47 _ _ hl4
              simp -dsimp[cxOf,stC,-Bool.exists_bool,-List.map_take,-Prod.forall,-Prod.exists]
              refine ⟨_,.inl (SqL.of hl7),rfl,List.all_eq_true.mp (flat_strs _),?_⟩
              rw [inV_str_iff]
              refine tBr.of (fun h=>?_) (fun h=>?_)
              · have h1:e.2∈last:=of_decide_eq_true h
                simp -dsimp[cxOf,stC,-Bool.exists_bool,-List.map_take,-Prod.forall,-Prod.exists]
                refine ⟨_,getS _ hd7,?_⟩
                rw [hDN e.1]
                cases hmd:D e.1 with
                | none=>
                  refine tBr.pos rfl ?_
                  simp -dsimp[cxOf,stC,-Bool.exists_bool,-List.map_take,-Prod.forall,-Prod.exists]
                  refine ⟨_,.inl (SqL.of hL7),rfl,List.all_eq_true.mp (flat_strs _),!decide (e.1∈later),by rw [inV_str_iff];simp,?_⟩
                  refine tBr.of (fun h=>?_) (fun h=>?_)
                  · have h2:¬e.1∈later:=by simpa using h
                    simp -dsimp[cxOf,stC,-Bool.exists_bool,-List.map_take,-Prod.forall,-Prod.exists]
                    refine ⟨⟨_,SqL.of hL7⟩,_,hL7,by rw [List.length_map];exact sz,later++[e.1],by rw [upd_same];simp,nodup_snoc hLn h2,app2 (later_add j hLi h1 hmd),by rw [List.length_append,List.length_singleton];omega,same_upd2 s47 hL⟩
                  · have h2:e.1∈later:=by simpa using h
                    simp -dsimp[cxOf,stC,-Bool.exists_bool,-List.map_take,-Prod.forall,-Prod.exists]
                    exact ⟨later,hL7,hLn,app2 (later_skip j hLi (.inr (.inr h2))),by omega,s47⟩
                | some k=>
                  refine tBr.neg rfl ?_
                  simp -dsimp[cxOf,stC,-Bool.exists_bool,-List.map_take,-Prod.forall,-Prod.exists]
                  exact ⟨later,hL7,hLn,app2 (later_skip j hLi (.inr (.inl (by rw [hmd];simp)))),by omega,s47⟩
              · have h1:¬e.2∈last:=of_decide_eq_false h
                simp -dsimp[cxOf,stC,-Bool.exists_bool,-List.map_take,-Prod.forall,-Prod.exists]
                exact ⟨later,hL7,hLn,app2 (later_skip j hLi (.inl h1)),by omega,s47⟩
            refine ⟨_,.inl (SqL.of hl7),rfl,List.all_eq_true.mp (flat_strs _),?_⟩
            rw [inV_str_iff]
            refine tBr.of (fun h=>?_) (fun h=>?_)
            · have h1:e.1∈last:=of_decide_eq_true h
              simp -dsimp[cxOf,stC,-Bool.exists_bool,-List.map_take,-Prod.forall,-Prod.exists]
              refine ⟨_,getS _ hd7,?_⟩
              rw [hDN e.2]
              cases hmd:D e.2 with
              | none=>
                refine tBr.pos rfl ?_
                simp -dsimp[cxOf,stC,-Bool.exists_bool,-List.map_take,-Prod.forall,-Prod.exists]
                refine ⟨_,.inl (SqL.of hL7),rfl,List.all_eq_true.mp (flat_strs _),!decide (e.2∈later),by rw [inV_str_iff];simp,?_⟩
                refine tBr.of (fun h=>?_) (fun h=>?_)
                · have h2:¬e.2∈later:=by simpa using h
                  simp -dsimp[cxOf,stC,-Bool.exists_bool,-List.map_take,-Prod.forall,-Prod.exists]
                  refine ⟨⟨_,SqL.of hL7⟩,_,hL7,by rw [List.length_map];exact sz,?_⟩
                  exact second (later++[e.2]) _ (by rw [upd_same];simp) (nodup_snoc hLn h2) (later_add j hLi h1 hmd) (by rw [List.length_append,List.length_singleton];omega) (same_upd2 s47 hL)
                · have h2:e.2∈later:=by simpa using h
                  simp -dsimp[cxOf,stC,-Bool.exists_bool,-List.map_take,-Prod.forall,-Prod.exists]
                  exact second later _ hL7 hLn (later_skip j hLi (.inr (.inr h2))) (by omega) s47
              | some k=>
                refine tBr.neg rfl ?_
                simp -dsimp[cxOf,stC,-Bool.exists_bool,-List.map_take,-Prod.forall,-Prod.exists]
                exact second later _ hL7 hLn (later_skip j hLi (.inr (.inl (by rw [hmd];simp)))) (by omega) s47
            · have h1:¬e.1∈last:=of_decide_eq_false h
              simp -dsimp[cxOf,stC,-Bool.exists_bool,-List.map_take,-Prod.forall,-Prod.exists]
              exact second later _ hL7 hLn (later_skip j hLi (.inl h1)) (by omega) s47
        · rintro σ H6 ⟨later,o6,o7,o8,o9,rfl,hL6,hLn,hLi,hLl,s6⟩
          rw [tl,List.take_length] at hLi
          have hd6:=s6 _ _ hd4
          have hl6:=s6 _ _ hl4
          have Ld:L≠d:=dL.symm
          have s36:=s34.trans s6
          obtain ⟨l0,hl0⟩:∃l0,last[0]? = some l0:=by
            cases last with
            | nil=>exact absurd rfl hne
            | cons z zs=>exact ⟨z,rfl⟩
          have hDl0:D l0=some i:=((hlast l0).mp (List.mem_of_getElem? hl0)).2
          have hln:¬l0∈later:=fun z=>by
            rw [((hLi l0).mp z).1] at hDl0
            cases hDl0
          simp -dsimp[cxOf,stC,-Bool.exists_bool,-List.map_take,-Prod.forall,-Prod.exists]
          refine ⟨⟨_,SqL.of hL6⟩,frL (later.map V.str) (fun j σ H'=>∃(kvs':List (Key×V)) (o9:Option V),σ=[some (.ref t),some (.ref g),some (.str x),some (.ref d),some (.ref hl),some (.ref L),o6,o7,o8,o9]∧H' d=some (.dK kvs')∧DictN kvs' (addD D (later.take j) (i+1))∧KeysOk kvs' (addD D (later.take j) (i+1))∧kvs'.length=kvs.length+j∧H' L=some (.lst (later.map V.str))∧H' hl=some (.lst (last.map V.str))∧Same H H')
            ⟨kvs,o9,rfl,hd6,by rw [show addD D (later.take 0) (i+1)=D by funext y;simp [addD]];exact hDN,by rw [show addD D (later.take 0) (i+1)=D by funext y;simp [addD]];exact hKO,rfl,hL6,hl6,s36⟩ (fun j σ H' _ h=>by
            obtain ⟨_,_,_,_,_,_,_,z,_⟩:=h
            exact SqL.of z) ?_ ?_⟩
          · rintro j v σ H7 hj ⟨kvs',o9,rfl,hd7,hN7,hK7,hk7,hL7,hl7,s7⟩
            obtain ⟨y,hy,rfl⟩:=str_at hj
            have hjl:j<later.length:=(List.getElem?_eq_some_iff.mp hy).1
            have hDy:D y=none:=((hLi y).mp (List.mem_of_getElem? hy)).1
            have hnt:¬y∈later.take j:=fun z=>by
              obtain ⟨k,hk⟩:=List.getElem?_of_mem z
              rw [List.getElem?_take] at hk
              split at hk
              · rename_i hkj
                have h1:=(List.getElem?_eq_some_iff.mp hk).1
                have:=(List.getElem?_inj h1 hLn).mp (hk.trans hy.symm)
                omega
              ·cases hk
            have hAy:addD D (later.take j) (i+1) y=none:=by
              unfold addD
              rw [if_neg hnt]
              exact hDy
            have hA0:addD D (later.take j) (i+1) l0=some i:=by
              unfold addD
              rw [if_neg fun z=>hln (List.mem_of_mem_take z)]
              exact hDl0
            have hg0:DGet H7 d (.str l0) (some (.int i)):=by
              have:=getS l0 hd7
              rw [hN7 l0,hA0] at this
              exact this
            have hva:valV kvs' (Sum.inr y:Key)=none:=by rw [hN7,hAy];rfl
            simp -dsimp[cxOf,stC,-Bool.exists_bool,-List.map_take,-Prod.forall,-Prod.exists]
            refine ⟨_,.inl (SqL.of hl7),_,atI_nat (j:=0) (by rw [List.getElem?_map,hl0];rfl),_,hg0,?_⟩
            simp -dsimp[cxOf,stC,-Bool.exists_bool,-List.map_take,-Prod.forall,-Prod.exists]
            refine ⟨_,putS _ hd7 (by omega),?_⟩
            rw [L2.putK_new _ hva]
            rw [take_one hy,addD_snoc]
            refine ⟨_,upd_same,hN7.put hAy,hK7.put hAy,by simp;exact congrArg Nat.succ hk7,by rw [upd_ne Ld];exact hL7,by rw [upd_ne hld];exact hl7,same_upd2 s7 hd⟩
          · rintro σ H7 ⟨kvs',o9,rfl,hd7,hN7,hK7,hk7,hL7,hl7,s7⟩
            rw [List.length_map,List.take_length] at hN7 hK7
            rw [List.length_map] at hk7
            have hDD':∀y k,addD D later (i+1) y=some k↔Dist (stepsOf (tfx ns) ps 0) x y k∧k≤i+1:=fun y k=>by
              rw [addD_mid hLi]
              exact midD_end hDD hlast hx hSx y k
            have hDx':∀y,addD D later (i+1) y≠none→y∈xs:=fun y hy=>by
              cases e:addD D later (i+1) y with
              | none=>exact absurd e hy
              | some k=>exact ((hDD' y k).mp e).1.1.in hx hSx
            have hsub:∀y∈later,y∈xs:=fun y hy=>hDx' y (by unfold addD;rw [if_pos hy];simp)
            have h9':=nodup_len hLn hsub
            have hk9:=hK7.len hDx'
            simp -dsimp[cxOf,stC,-Bool.exists_bool,-List.map_take,-Prod.forall,-Prod.exists]
            refine ⟨⟨i+1,kvs',hd7,addD D later (i+1),hN7,hK7,hDD',later,hL7,fun y=>⟨fun hy=>⟨hsub y hy,by unfold addD;rw [if_pos hy]⟩,fun ⟨_,hy⟩=>?_⟩,Nat.le_trans h9' l9.2,Ld,s7⟩,?_⟩
            · refine Classical.byContradiction fun hn=>?_
              unfold addD at hy
              rw [if_neg hn] at hy
              have:=((hDD _ _).mp hy).2
              omega
            · unfold muFar
              rw [hd7]
              show 2 * (10 - kvs'.length)+(match H7 L with | some (.lst [])=>0 | _=>1)<_
              rw [hL7]
              cases later with
              | nil=>
                show 2 * (10 - kvs'.length)+0<_
                simp at hk7
                omega
              | cons z zs=>
                show 2 * (10 - kvs'.length)+1<_
                simp at hk7
                omega
      · have hnil:last=[]:=by simpa using h
        simp -dsimp[cxOf,stC,-Bool.exists_bool,-List.map_take,-Prod.forall,-Prod.exists]
        refine q d kvs D H4 hd (s4 _ _ hd3) hDN hKO (fun y k=>?_) (s3.trans s4)
        rw [hDD]
        refine ⟨fun z=>z.1,fun z=>⟨z,?_⟩⟩
        refine Classical.byContradiction fun hk=>?_
        obtain ⟨vs,hv1,hv2⟩:=z.row
        have hlt:i<vs.length:=by omega
        have h1:=hv2 i vs[i] (List.getElem?_eq_getElem hlt)
        have h2:=(hlast vs[i]).mpr ⟨h1.1.in hx hSx,(hDD _ _).mpr ⟨h1,Nat.le_refl _⟩⟩
        rw [hnil] at h2
        cases h2
def flD:PyData→Bool
  | .none=>true
  | .bool _=>true
  | .int _=>true
  | .str _=>true
  | _=>false
def WfL (g:PyData→Prop):List PyData→Prop
  | []=>True
  | [d0]=>strD d0=true
  | d0::d1::r=>strD d0=true∧flD d1=true∧(r.length=1→∀c∈r,flD c=true)∧∀c∈r,g c
def WfD:Nat→PyData→Prop
  | 0,d=>seqD d=false
  | k+1,d=>WfL (WfD k) (kids d)
theorem fl_flat {H:Hp} {d:PyData} {v:V} (h:ThgX H d v) (hf:flD d=true):flatV v=true:=by
  cases d <;> first | (simp only [ThgX] at h;subst h;rfl) | cases hf
theorem in_pt {H:Hp} {d:PyData} {v:V} {xs:List Str} (h:ThgX H d v) (hf:flD d=true):inV v (xs.map V.str)=ptB xs d:=by
  cases d with
  | str x=>simp only [ThgX] at h;subst h;exact inV_str_iff x xs
  | none=>simp only [ThgX] at h;subst h;unfold inV;rw [List.any_map];simp [eqV,ptB]
  | bool b=>simp only [ThgX] at h;subst h;unfold inV;rw [List.any_map];simp [eqV,ptB]
  | int b=>simp only [ThgX] at h;subst h;unfold inV;rw [List.any_map];simp [eqV,ptB]
  | _=>cases hf
structure RdI (H:Hp) (t n l g:Addr) (xs:List Str) (tv:List V) (ps:List (Str×Str)) (ns:List Int):Prop where
  G:goalsR H t n l xs tv ps
  g:H g=some (.lst (ns.map V.int))
  len:ns.length=ps.length
  v:∀n∈ns,0≤n∧n≤2
theorem RdI.same {H H':Hp} {t n l g:Addr} {xs:List Str} {tv:List V} {ps:List (Str×Str)} {ns:List Int} (h:RdI H t n l g xs tv ps ns) (s:Same H H'):RdI H' t n l g xs tv ps ns:=⟨h.G.same s,s _ _ h.g,h.len,h.v⟩
def sp_reads (k:Nat):Sp:=fun vs H Q _=>∃(t n l g:Addr) (N:Nat) (v:V) (d:PyData) (xs:List Str) (tv:List V) (ps:List (Str×Str)) (ns:List Int),vs=[.ref t,.ref g,.int N,v]∧RdI H t n l g xs tv ps ns∧N≤99∧ThgX H d v∧d.depth≤k∧WfD k d∧
  ∀H',Same H H'→Q (.bl (papD xs ps N k (tfx ns) d)) H'
def sp_readsI (k:Nat):Sp:=fun vs H Q E=>∃j,k=j+1∧sp_reads j vs H Q E
theorem seq_depth {d:PyData} (h:seqD d=true):1≤d.depth:=by
  cases d <;> first | (simp only [PyData.depth];omega) | cases h
theorem papW_len {m:Nat} {g:(Nat→Option Int)→PyData→Bool} {xs:List Str} {S:List Stp} {N:Nat} {fx:Nat→Option Int} {ds:List PyData} (h3:ds.length≠3) (h4:ds.length≠4):papW m g xs S N fx ds=false:=by
  unfold papW
  split
  · split
    ·exact farD_len h3
    ·rw [forkD_len h4,Bool.and_false]
  ·rfl
theorem set_parts (ns:List Int) {m:Nat} {u:Int} (h:m<ns.length):(ns.map V.int).take m++[V.int u]++(ns.map V.int).drop (m+1)=(ns.set m u).map V.int:=by
  rw [List.set_eq_take_append_cons_drop,if_pos h]
  simp
theorem tfx_set (ns:List Int) {m:Nat} {u:Int} (h:m<ns.length) (hu:u≠2):tfx (ns.set m u)=fxs (tfx ns) m u:=by
  funext i
  unfold tfx fxs
  by_cases e:i=m
  · subst e
    rw [if_pos rfl,List.getElem?_set_self h,if_neg (by simpa using hu)]
  ·rw [if_neg e,List.getElem?_set_ne (Ne.symm e)]
theorem reads_step (T:Txt K mg a) {k:Nat} (ih:FnOk P w K mg base CX0 (k+4) a.f_reads a.fd_reads ["_law_web_here", "_law_turns", "_law_number", "_law_thing"] (sp_readsI k)):FnOk P w K mg base CX0 (k+5) a.f_reads a.fd_reads ["_law_web_here", "_law_turns", "_law_number", "_law_thing"] (sp_reads k):=by
  refine T.F_reads.okL sc_reads (fun vs H Q E h=>?_) (fun cdv A outer s H vs Q E hr h=>?_)
  · obtain ⟨t,n,l,g,N,v,d,xs,tv,ps,ns,rfl,_⟩:=h
    rfl
  · obtain ⟨t,n,l,g,N,v,d,xs,tv,ps,ns,rfl,hI,h99,hd,hdp,hwf,q⟩:=h
    refine ⟨_,(pss_cons (ps_if (PW.pt (pw_or (pt_not (fpt_val (pe_callB (fisi2k (K:=K) rfl) rfl T.nm.isinstance boot_isinstance (pa_cons (fpv 3) (pa_cons (pe_tup (pa_cons (pe_bltn (v:=.ty "list") rfl T.nm.list boot_list rfl) (pa_cons (pe_bltn (v:=.ty "tuple") rfl T.nm.tuple boot_tuple rfl) pa_nil))) pa_nil))))) (pw_or (fpt_cmpR fop_lt (pe_callB (flenQk (K:=K) rfl) rfl T.nm.len PySem.boot_len (pa_cons (fpv 3) pa_nil)) pe_int (nomark _)) (pw_or1 (fpt_cmpR fop_gt (pe_callB (flenQk (K:=K) rfl) rfl T.nm.len PySem.boot_len (pa_cons (fpv 3) pa_nil)) pe_int (nomark _)))))) (pss_one (ps_ret pe_bl)) pss_nil)
      (pss_cons (ps_if (fpt_cmpR fop_eq (pe_callB (flenQk (K:=K) rfl) rfl T.nm.len PySem.boot_len (pa_cons (fpv 3) pa_nil)) pe_int (nomark _)) (pss_cons (ps_if (PW.pt (pw_or (fpt_cmpR fop_ne (pe_ix (fixQk (K:=K) rfl) (fpv 3) pe_int (fun _ _=>rfl)) pe_str (nomark _)) (pw_or (fpt_cmpR (fnotinK (K:=K) rfl) (pe_ix (fixQk (K:=K) rfl) (fpv 3) pe_int (fun _ _=>rfl)) (pe_ix (fixQk (K:=K) rfl) (fpv 0) pe_int (fun _ _=>rfl)) rfl) (pw_or1 (fpt_cmpR (fnotinK (K:=K) rfl) (pe_ix (fixQk (K:=K) rfl) (fpv 3) pe_int (fun _ _=>rfl)) (pe_ix (fixQk (K:=K) rfl) (fpv 0) pe_int (fun _ _=>rfl)) rfl))))) (pss_one (ps_ret pe_bl)) pss_nil)
      (pss_one (ps_ret (pe_cmpR fop_ge (PE.eqv (pe_dget2 (hu_of hr) (PE.eqv (pe_call (ok_far (K:=K) T) (hr.mono (by omega)) rfl T.m_far T.F_far.kp T.b_far .nil pass0 (pa_cons (fpv 0) (pa_cons (fpv 1) (pa_cons (pe_ix (fixQk (K:=K) rfl) (fpv 3) pe_int (fun _ _=>rfl)) pa_nil)))) (fCall_eq _ _ _)) (pe_ix (fixQk (K:=K) rfl) (fpv 3) pe_int (fun _ _=>rfl)) pe_int ⟨rfl,rfl,rfl,rfl⟩) (fDGet2_eq _ _ _)) (fpv 2) (nomark _))))) pss_nil)
      (pss_cons (ps_set (i:=4) sc_reads.nd rfl (Or.inl rfl) (pe_ix (fixQk (K:=K) rfl) (fpv 3) pe_int (fun _ _=>rfl)))
      (pss_cons (ps_if (PW.pt (pw_or (fpt_cmpR fop_ne (pe_ix (fixQk (K:=K) rfl) (fpv 3) pe_int (fun _ _=>rfl)) pe_str (nomark _)) (pw_or (fpt_val (pe_callB (fisiTk (K:=K) rfl) rfl T.nm.isinstance boot_isinstance (pa_cons (fpv 4) (pa_cons (pe_bltn (v:=.ty "bool") rfl T.nm2.bool boot_boolT rfl) pa_nil)))) (pw_or1 (pt_not (fpt_val (pe_callB (fisiTk (K:=K) rfl) rfl T.nm.isinstance boot_isinstance (pa_cons (fpv 4) (pa_cons (pe_bltn (v:=.ty "int") rfl T.nm.int boot_intT rfl) pa_nil))))))))) (pss_one (ps_ret pe_bl)) pss_nil)
      (pss_cons (ps_if (PW.pt (pw_or (fpt_cmpR fop_lt (fpv 4) pe_int (nomark _)) (pw_or (fpt_cmpR fop_ge (fpv 4) (pe_callB (flenQk (K:=K) rfl) rfl T.nm.len PySem.boot_len (pa_cons (fpv 1) pa_nil)) (nomark _)) (pw_or1 (fpt_cmpR fop_ne (pe_ix (fixQk (K:=K) rfl) (fpv 1) (fpv 4) (fun _ _=>rfl)) pe_int (nomark _)))))) (pss_one (ps_ret pe_bl)) pss_nil)
      (pss_cons (ps_for PassesOwn.never rfl (pi_tupk (K:=K) rfl (pe_tup (pa_cons pe_int (pa_cons pe_int pa_nil)))) (pg_name (i:=5) sc_reads.nd rfl (Or.inl rfl))
      (pss_one (ps_if (pt_not (fpt_val (PE.eqv (pe_call ih (hr.mono (by omega)) rfl T.m_reads T.F_reads.kp T.b_reads .nil pass0 (pa_cons (fpv 0) (pa_cons (pe_op fop_cat (pe_op fop_cat (pe_slice (fslLk (K:=K) rfl) (fpv 1) po_none (PO.eqv (po_some (fpv 4)) (fPart_eq _))) (pe_lst (pa_cons (fpv 5) pa_nil))) (pe_slice (fslLk (K:=K) rfl) (fpv 1) (PO.eqv (po_some (pe_op fop_add (fpv 4) pe_int)) (fPart_eq _)) po_none)) (pa_cons (fpv 2) (pa_cons (pe_ix (fixQk (K:=K) rfl) (fpv 3) (pe_op fop_add pe_int (fpv 5)) (fun _ _=>rfl)) pa_nil))))) (fCall_eq _ _ _)))) (pss_one (ps_ret pe_bl)) pss_nil)))
      (pss_one (ps_ret pe_bl)))))))),?_⟩
    simp -dsimp[cxOf,stC,-Bool.exists_bool,-List.map_take,-Prod.forall,-Prod.exists]
    intro tp htp
    have s1:Same H (upd H tp (.tup [.ty "list",.ty "tuple"])):=same_upd htp
    have e1:upd H tp (.tup [.ty "list",.ty "tuple"]) tp=some (.tup [.ty "list",.ty "tuple"]):=upd_same
    generalize upd H tp (.tup [.ty "list",.ty "tuple"])=H1 at s1 e1 ⊢
    have hd1:=ThgX.same s1 _ _ hd
    have I1:=hI.same s1
    refine ⟨_,_,e1,_,thg_ty hd1,_,kit_seq d,?_⟩
    cases hs:seqD d with
    | false=>
      have e:papD xs ps N k (tfx ns) d=false:=by
        cases k with
        | zero=>rfl
        | succ k=>show (seqD d && _)=false;rw [hs];rfl
      rw [e] at q
      refine tBr.pos rfl ?_
      simp -dsimp[cxOf,stC,-Bool.exists_bool,-List.map_take,-Prod.forall,-Prod.exists]
      exact q _ s1
    | true=>
      obtain ⟨j,rfl⟩:∃j,k=j+1:=⟨k - 1,by have:=seq_depth hs;omega⟩
      have kd:∀c∈kids d,c.depth≤j:=fun c hc=>by
        obtain ⟨j',e,h⟩:=kid_depth hdp hc
        cases e
        exact h
      have e:papD xs ps N (j+1) (tfx ns) d=papW ps.length (papD xs ps N j) xs (stepsOf (tfx ns) ps 0) N (tfx ns) (kids d):=by
        show (seqD d && papW _ _ _ _ _ _ (kids d))=_
        rw [hs]
        rfl
      rw [e] at q
      have wf:WfL (WfD j) (kids d):=hwf
      obtain ⟨tt,vs,rfl,hq,hall⟩:=thg_sq hd1 hs
      have hl:=hall.length
      refine tBr.neg rfl ?_
      simp -dsimp[cxOf,stC,-Bool.exists_bool,-List.map_take,-Prod.forall,-Prod.exists]
      refine ⟨_,hq.q,?_⟩
      rw [← hl]
      generalize kids d=ds at hall q hl wf kd
      rcases ds with _ | ⟨d0,_ | ⟨d1,_ | ⟨d2,_ | ⟨d3,_ | ⟨d4,ds⟩⟩⟩⟩⟩
      · rw [papW_len (by simp) (by simp)] at q
        simp -dsimp[cxOf,stC,-Bool.exists_bool,-List.map_take,-Prod.forall,-Prod.exists]
        exact q _ s1
      · rw [papW_len (by simp) (by simp)] at q
        simp -dsimp[cxOf,stC,-Bool.exists_bool,-List.map_take,-Prod.forall,-Prod.exists]
        exact q _ s1
      · rw [papW_len (by simp) (by simp)] at q
        simp -dsimp[cxOf,stC,-Bool.exists_bool,-List.map_take,-Prod.forall,-Prod.exists]
        exact q _ s1
      · simp only [ThgXAll] at hall
        obtain ⟨v0,_,rfl,h0,v1,_,rfl,h1,v2,_,rfl,h2,rfl⟩:=hall
        obtain ⟨w0,w1,w2,_⟩:=wf
        obtain ⟨w,rfl⟩:∃w,d0 = .str w:=by cases d0 <;> first | exact ⟨_,rfl⟩ | cases w0
        simp only [ThgX] at h0
        subst h0
        have w2:=w2 rfl d2 (by simp)
        simp -dsimp[cxOf,stC,-Bool.exists_bool,-List.map_take,-Prod.forall,-Prod.exists]
        refine ⟨_,hq.q,?_⟩
        simp -dsimp[cxOf,stC,-Bool.exists_bool,-List.map_take,-Prod.forall,-Prod.exists]
        refine ⟨_,hq.q,tBr.pos (by simp) ?_⟩
        have ew:papW ps.length (papD xs ps N j) xs (stepsOf (tfx ns) ps 0) N (tfx ns) [.str w,d1,d2]=if w=Str.ofString "far" then farD xs (stepsOf (tfx ns) ps 0) N [.str w,d1,d2] else decide (w=Str.ofString "fork") && forkD ps.length (papD xs ps N j) (tfx ns) [.str w,d1,d2]:=rfl
        rw [ew,forkD_len (by simp),Bool.and_false] at q
        simp -dsimp[cxOf,stC,-Bool.exists_bool,-List.map_take,-Prod.forall,-Prod.exists]
        refine ⟨_,hq.q,_,atI_nat (j:=0) rfl,?_⟩
        have flt:∀z∈xs.map V.str,flatV z=true:=List.all_eq_true.mp (flat_strs _)
        by_cases hw:w=Str.ofString "far"
        · rw [if_pos hw] at q
          simp -dsimp[cxOf,stC,-Bool.exists_bool,-List.map_take,-Prod.forall,-Prod.exists]
          refine ⟨false,by simp [hw],tBr.neg rfl ?_⟩
          simp -dsimp[cxOf,stC,-Bool.exists_bool,-List.map_take,-Prod.forall,-Prod.exists]
          refine ⟨_,hq.q,_,atI_nat (j:=1) rfl,_,.inr (SqT.of I1.G.1),_,atI_nat (j:=0) rfl,?_⟩
          simp -dsimp[cxOf,stC,-Bool.exists_bool,-List.map_take,-Prod.forall,-Prod.exists]
          refine ⟨_,.inl (SqL.of I1.G.2.1),fl_flat h1 w1,flt,!ptB xs d1,by rw [in_pt h1 w1];simp,?_⟩
          cases hp1:ptB xs d1 with
          | false=>
            have e3:farD xs (stepsOf (tfx ns) ps 0) N [.str w,d1,d2]=false:=by
              unfold farD
              split
              · rename_i x y e
                cases e
                rw [show decide (x∈xs)=false from hp1]
                rfl
              ·rfl
            rw [e3] at q
            refine tBr.pos rfl ?_
            simp -dsimp[cxOf,stC,-Bool.exists_bool,-List.map_take,-Prod.forall,-Prod.exists]
            exact q _ s1
          | true=>
            obtain ⟨x,rfl⟩:∃z,d1 = .str z:=by cases d1 <;> first | exact ⟨_,rfl⟩ | cases hp1
            simp only [ThgX] at h1
            subst h1
            have hx:x∈xs:=of_decide_eq_true hp1
            refine tBr.neg rfl ?_
            simp -dsimp[cxOf,stC,-Bool.exists_bool,-List.map_take,-Prod.forall,-Prod.exists]
            refine ⟨_,hq.q,_,atI_nat (j:=2) rfl,_,.inr (SqT.of I1.G.1),_,atI_nat (j:=0) rfl,?_⟩
            simp -dsimp[cxOf,stC,-Bool.exists_bool,-List.map_take,-Prod.forall,-Prod.exists]
            refine ⟨_,.inl (SqL.of I1.G.2.1),fl_flat h2 w2,flt,!ptB xs d2,by rw [in_pt h2 w2];simp,?_⟩
            cases hp2:ptB xs d2 with
            | false=>
              have e3:farD xs (stepsOf (tfx ns) ps 0) N [.str w,.str x,d2]=false:=by
                unfold farD
                split
                · rename_i x y e
                  cases e
                  rw [show decide (y∈xs)=false from hp2]
                  simp
                ·rfl
              rw [e3] at q
              refine tBr.pos rfl ?_
              simp -dsimp[cxOf,stC,-Bool.exists_bool,-List.map_take,-Prod.forall,-Prod.exists]
              exact q _ s1
            | true=>
              obtain ⟨y,rfl⟩:∃z,d2 = .str z:=by cases d2 <;> first | exact ⟨_,rfl⟩ | cases hp2
              simp only [ThgX] at h2
              subst h2
              have hy:y∈xs:=of_decide_eq_true hp2
              have e3:farD xs (stepsOf (tfx ns) ps 0) N [.str w,.str x,.str y]=farB (stepsOf (tfx ns) ps 0) N x y:=by
                unfold farD
                simp [hx,hy]
              rw [e3] at q
              refine tBr.neg rfl ?_
              simp -dsimp[cxOf,stC,-Bool.exists_bool,-List.map_take,-Prod.forall,-Prod.exists]
              refine ⟨_,hq.q,_,atI_nat (j:=1) rfl,t,n,l,g,xs,tv,ps,ns,x,rfl,I1.G,I1.g,I1.len,I1.v,hx,fun fd kvs D H2 hfd hfd2 hDN hKO hDD s2=>?_⟩
              simp -dsimp[cxOf,stC,-Bool.exists_bool,-List.map_take,-Prod.forall,-Prod.exists]
              refine ⟨isD hfd2,_,(hq.same s2).q,_,atI_nat (j:=2) rfl,_,getS y hfd2,?_⟩
              rw [hDN y]
              cases hDy:D y with
              | none=>
                simp -dsimp[cxOf,stC,-Bool.exists_bool,-List.map_take,-Prod.forall,-Prod.exists]
                have e4:farB (stepsOf (tfx ns) ps 0) N x y=true:=farB_iff.mpr fun k hk=>by
                  rw [(hDD y k).mpr hk] at hDy
                  cases hDy
                rw [e4] at q
                rw [decide_eq_true (by omega)]
                exact q _ (s1.trans s2)
              | some m=>
                simp -dsimp[cxOf,stC,-Bool.exists_bool,-List.map_take,-Prod.forall,-Prod.exists]
                have hDm:=(hDD y m).mp hDy
                have e4:farB (stepsOf (tfx ns) ps 0) N x y=decide (N≤m):=by
                  rw [Bool.eq_iff_iff,farB_iff,decide_eq_true_eq]
                  exact ⟨fun h=>h m hDm,fun h k hk=>by have:=hk.uniq hDm;omega⟩
                rw [← e4]
                exact q _ (s1.trans s2)
        · rw [if_neg hw] at q
          simp -dsimp[cxOf,stC,-Bool.exists_bool,-List.map_take,-Prod.forall,-Prod.exists]
          refine ⟨true,by simp [hw],tBr.pos rfl ?_⟩
          simp -dsimp[cxOf,stC,-Bool.exists_bool,-List.map_take,-Prod.forall,-Prod.exists]
          exact q _ s1
      · simp only [ThgXAll] at hall
        obtain ⟨v0,_,rfl,h0,v1,_,rfl,h1,v2,_,rfl,h2,v3,_,rfl,h3,rfl⟩:=hall
        obtain ⟨w0,w1,_,w3⟩:=wf
        obtain ⟨w,rfl⟩:∃w,d0 = .str w:=by cases d0 <;> first | exact ⟨_,rfl⟩ | cases w0
        simp only [ThgX] at h0
        subst h0
        simp -dsimp[cxOf,stC,-Bool.exists_bool,-List.map_take,-Prod.forall,-Prod.exists]
        refine ⟨_,hq.q,?_⟩
        simp -dsimp[cxOf,stC,-Bool.exists_bool,-List.map_take,-Prod.forall,-Prod.exists]
        refine ⟨_,hq.q,tBr.neg (by simp) ?_⟩
        have ew:papW ps.length (papD xs ps N j) xs (stepsOf (tfx ns) ps 0) N (tfx ns) [.str w,d1,d2,d3]=if w=Str.ofString "far" then farD xs (stepsOf (tfx ns) ps 0) N [.str w,d1,d2,d3] else decide (w=Str.ofString "fork") && forkD ps.length (papD xs ps N j) (tfx ns) [.str w,d1,d2,d3]:=rfl
        rw [ew,farD_len (by simp)] at q
        simp -dsimp[cxOf,stC,-Bool.exists_bool,-List.map_take,-Prod.forall,-Prod.exists]
        refine ⟨_,hq.q,_,atI_nat (j:=1) rfl,_,hq.q,_,atI_nat (j:=0) rfl,?_⟩
        by_cases hw:w=Str.ofString "fork"
        · have hwf:¬w=Str.ofString "far" :=by rw [hw];decide +kernel
          rw [if_neg hwf,decide_eq_true hw,Bool.true_and] at q
          simp -dsimp[cxOf,stC,-Bool.exists_bool,-List.map_take,-Prod.forall,-Prod.exists]
          refine ⟨false,by simp [hw],tBr.neg rfl ?_⟩
          simp -dsimp[cxOf,stC,-Bool.exists_bool,-List.map_take,-Prod.forall,-Prod.exists]
          refine ⟨_,thg_ty h1,_,kit_boolD d1,?_⟩
          cases hb:boolD d1 with
          | true=>
            have e3:forkD ps.length (papD xs ps N j) (tfx ns) [.str w,d1,d2,d3]=false:=by
              cases d1 <;> first | rfl | cases hb
            rw [e3] at q
            refine tBr.pos rfl ?_
            simp -dsimp[cxOf,stC,-Bool.exists_bool,-List.map_take,-Prod.forall,-Prod.exists]
            exact q _ s1
          | false=>
            refine tBr.neg rfl ?_
            simp -dsimp[cxOf,stC,-Bool.exists_bool,-List.map_take,-Prod.forall,-Prod.exists]
            refine ⟨_,thg_ty h1,_,kit_intD d1,?_⟩
            cases hi:intD d1 with
            | false=>
              have e3:forkD ps.length (papD xs ps N j) (tfx ns) [.str w,d1,d2,d3]=false:=by
                cases d1 <;> first | rfl | cases hi
              rw [e3] at q
              refine tBr.pos rfl ?_
              simp -dsimp[cxOf,stC,-Bool.exists_bool,-List.map_take,-Prod.forall,-Prod.exists]
              exact q _ s1
            | true=>
              obtain ⟨z,rfl⟩:∃z,d1 = .int z:=by cases d1 <;> first | exact ⟨_,rfl⟩ | exact Bool.noConfusion hi | exact Bool.noConfusion hb
              simp only [ThgX] at h1
              subst h1
              have e3:forkD ps.length (papD xs ps N j) (tfx ns) [.str w,.int z,d2,d3]=((decide (0≤z) && decide (z<(ps.length:Int))) && (decide (tfx ns z.toNat=none) && (papD xs ps N j (fxs (tfx ns) z.toNat 0) d2 && papD xs ps N j (fxs (tfx ns) z.toNat 1) d3))):=rfl
              rw [e3] at q
              refine tBr.neg rfl ?_
              simp -dsimp[cxOf,stC,-Bool.exists_bool,-List.map_take,-Prod.forall,-Prod.exists]
              refine tBr.of (fun h=>?_) (fun h=>?_)
              · rw [decide_eq_false (show ¬0≤z by have:=of_decide_eq_true h;omega)] at q
                simp -dsimp[cxOf,stC,-Bool.exists_bool,-List.map_take,-Prod.forall,-Prod.exists]
                exact q _ s1
              · have hz0:0≤z:=by have:=of_decide_eq_false h;omega
                obtain ⟨m,rfl⟩:=Int.eq_ofNat_of_zero_le hz0
                rw [decide_eq_true hz0,Bool.true_and,Int.toNat_natCast] at q
                simp -dsimp[cxOf,stC,-Bool.exists_bool,-List.map_take,-Prod.forall,-Prod.exists]
                refine ⟨_,.inl (SqL.of I1.g),?_⟩
                rw [List.length_map,I1.len]
                refine tBr.of (fun hx2=>?_) (fun hx2=>?_)
                · rw [decide_eq_false (show ¬(m:Int)<(ps.length:Int) by simp at hx2;omega)] at q
                  simp -dsimp[cxOf,stC,-Bool.exists_bool,-List.map_take,-Prod.forall,-Prod.exists]
                  exact q _ s1
                · have hm:m<ps.length:=by simp at hx2;omega
                  rw [decide_eq_true (show (m:Int)<(ps.length:Int) by omega),Bool.true_and] at q
                  obtain ⟨u,hu⟩:∃u,ns[m]? = some u:=⟨ns[m]'(by rw [I1.len];exact hm),by simp⟩
                  simp -dsimp[cxOf,stC,-Bool.exists_bool,-List.map_take,-Prod.forall,-Prod.exists]
                  refine ⟨_,.inl (SqL.of I1.g),_,atI_nat (j:=m) (by rw [List.getElem?_map,hu];rfl),?_⟩
                  by_cases hu2:u=2
                  · subst hu2
                    have hfx:tfx ns m=none:=by unfold tfx;rw [if_pos hu]
                    rw [decide_eq_true hfx,Bool.true_and] at q
                    simp -dsimp[cxOf,stC,-Bool.exists_bool,-List.map_take,-Prod.forall,-Prod.exists]
                    intro tq htq
                    have s2:Same H1 (upd H1 tq (.tup [.int 0,.int 1])):=same_upd htq
                    have e2:upd H1 tq (.tup [.int 0,.int 1]) tq=some (.tup [.int 0,.int 1]):=upd_same
                    generalize upd H1 tq (.tup [.int 0,.int 1])=H2 at s2 e2 ⊢
                    have hml:m<ns.length:=by rw [I1.len];exact hm
                    have h20:=I1.G.2.2.2.2.2.len
                    have nsl:=I1.len
                    have sz99:99≤sizeLine:=by decide
                    refine ⟨⟨_,SqT.of e2⟩,frT [.int 0,.int 1] (fun i σ H'=>(∃o5,σ=[some (.ref t),some (.ref g),some (.int N),some (.ref tt),some (.int (m:Int)),o5])∧Same H2 H'∧(1≤i→papD xs ps N j (fxs (tfx ns) m 0) d2=true)∧(2≤i→papD xs ps N j (fxs (tfx ns) m 1) d3=true)) ⟨⟨_,rfl⟩,Same.refl _,by omega,by omega⟩ (fun i σ H' _ h=>SqT.of (h.2.1 _ _ e2)) ?_ ?_⟩
                    · rintro i x σ H3 hx ⟨⟨o5,rfl⟩,s3,hp0,hp1⟩
                      have S3:=s2.trans s3
                      have I3:=I1.same S3
                      have two:i=0∧x = .int 0∨i=1∧x = .int 1:=by
                        rcases i with _ | _ | i
                        ·simp at hx;exact .inl ⟨rfl,hx.symm⟩
                        ·simp at hx;exact .inr ⟨rfl,hx.symm⟩
                        ·simp at hx
                      rcases two with ⟨rfl,rfl⟩ | ⟨rfl,rfl⟩
                      · simp -dsimp[cxOf,stC,-Bool.exists_bool,-List.map_take,-Prod.forall,-Prod.exists]
                        refine ⟨_,SqL.of I3.g,fun p1 hq1=>?_⟩
                        rw [cut_to]
                        have t1:Same H3 (upd H3 p1 (.lst ((ns.map V.int).take m))):=same_upd hq1
                        have f1:upd H3 p1 (.lst ((ns.map V.int).take m)) p1=some (.lst ((ns.map V.int).take m)):=upd_same
                        generalize upd H3 p1 (.lst ((ns.map V.int).take m))=J1 at t1 f1 ⊢
                        intro p2 hq2
                        have t2:Same J1 (upd J1 p2 (.lst [.int 0])):=same_upd hq2
                        have f2:upd J1 p2 (.lst [.int 0]) p2=some (.lst [.int 0]):=upd_same
                        generalize upd J1 p2 (.lst [.int 0])=J2 at t2 f2 ⊢
                        refine ⟨_,t2 _ _ f1,_,f2,by simp;omega,fun p3 hq3=>?_⟩
                        have t3:Same J2 (upd J2 p3 (.lst ((ns.map V.int).take m++[.int 0]))):=same_upd hq3
                        have f3:upd J2 p3 (.lst ((ns.map V.int).take m++[.int 0])) p3=some (.lst ((ns.map V.int).take m++[.int 0])):=upd_same
                        generalize upd J2 p3 (.lst ((ns.map V.int).take m++[.int 0]))=J3 at t3 f3 ⊢
                        refine ⟨_,SqL.of (t3 _ _ (t2 _ _ (t1 _ _ I3.g))),fun p4 hq4=>?_⟩
                        rw [show ((m:Int)+1)=((m+1:Nat):Int) by omega]
                        rw [cut_from]
                        have t4:Same J3 (upd J3 p4 (.lst ((ns.map V.int).drop (m+1)))):=same_upd hq4
                        have f4:upd J3 p4 (.lst ((ns.map V.int).drop (m+1))) p4=some (.lst ((ns.map V.int).drop (m+1))):=upd_same
                        generalize upd J3 p4 (.lst ((ns.map V.int).drop (m+1)))=J4 at t4 f4 ⊢
                        refine ⟨_,t4 _ _ f3,_,f4,by simp;omega,fun p5 hq5=>?_⟩
                        rw [set_parts ns hml]
                        have t5:Same J4 (upd J4 p5 (.lst ((ns.set m 0).map V.int))):=same_upd hq5
                        have f5:upd J4 p5 (.lst ((ns.set m 0).map V.int)) p5=some (.lst ((ns.set m 0).map V.int)):=upd_same
                        generalize upd J4 p5 (.lst ((ns.set m 0).map V.int))=J5 at t5 f5 ⊢
                        have T5:Same H3 J5:=((t1.trans t2).trans (t3.trans t4)).trans t5
                        refine ⟨_,(hq.same (S3.trans T5)).q,_,atI_nat (j:=2) rfl,j,rfl,t,n,l,p5,N,v2,d2,xs,tv,ps,ns.set m 0,rfl,⟨(I3.same T5).G,f5,by rw [List.length_set];exact I1.len,fun w hw=>?_⟩,h99,ThgX.same (S3.trans T5) _ _ h2,kd d2 (by simp),w3 d2 (by simp),fun H4 s4=>?_⟩
                        · rcases List.mem_or_eq_of_mem_set hw with y | y
                          ·exact I1.v w y
                          ·omega
                        rw [tfx_set ns hml (by decide)]
                        cases hb:papD xs ps N j (fxs (tfx ns) m 0) d2 with
                        | false=>
                          rw [hb] at q
                          simp -dsimp[cxOf,stC,-Bool.exists_bool,-List.map_take,-Prod.forall,-Prod.exists]
                          exact q _ (s1.trans (S3.trans (T5.trans s4)))
                        | true=>
                          simp -dsimp[cxOf,stC,-Bool.exists_bool,-List.map_take,-Prod.forall,-Prod.exists]
                          exact s3.trans (T5.trans s4)
                      · have hp0:=hp0 (by omega)
                        simp -dsimp[cxOf,stC,-Bool.exists_bool,-List.map_take,-Prod.forall,-Prod.exists]
                        refine ⟨_,SqL.of I3.g,fun p1 hq1=>?_⟩
                        rw [cut_to]
                        have t1:Same H3 (upd H3 p1 (.lst ((ns.map V.int).take m))):=same_upd hq1
                        have f1:upd H3 p1 (.lst ((ns.map V.int).take m)) p1=some (.lst ((ns.map V.int).take m)):=upd_same
                        generalize upd H3 p1 (.lst ((ns.map V.int).take m))=J1 at t1 f1 ⊢
                        intro p2 hq2
                        have t2:Same J1 (upd J1 p2 (.lst [.int 1])):=same_upd hq2
                        have f2:upd J1 p2 (.lst [.int 1]) p2=some (.lst [.int 1]):=upd_same
                        generalize upd J1 p2 (.lst [.int 1])=J2 at t2 f2 ⊢
                        refine ⟨_,t2 _ _ f1,_,f2,by simp;omega,fun p3 hq3=>?_⟩
                        have t3:Same J2 (upd J2 p3 (.lst ((ns.map V.int).take m++[.int 1]))):=same_upd hq3
                        have f3:upd J2 p3 (.lst ((ns.map V.int).take m++[.int 1])) p3=some (.lst ((ns.map V.int).take m++[.int 1])):=upd_same
                        generalize upd J2 p3 (.lst ((ns.map V.int).take m++[.int 1]))=J3 at t3 f3 ⊢
                        refine ⟨_,SqL.of (t3 _ _ (t2 _ _ (t1 _ _ I3.g))),fun p4 hq4=>?_⟩
                        rw [show ((m:Int)+1)=((m+1:Nat):Int) by omega]
                        rw [cut_from]
                        have t4:Same J3 (upd J3 p4 (.lst ((ns.map V.int).drop (m+1)))):=same_upd hq4
                        have f4:upd J3 p4 (.lst ((ns.map V.int).drop (m+1))) p4=some (.lst ((ns.map V.int).drop (m+1))):=upd_same
                        generalize upd J3 p4 (.lst ((ns.map V.int).drop (m+1)))=J4 at t4 f4 ⊢
                        refine ⟨_,t4 _ _ f3,_,f4,by simp;omega,fun p5 hq5=>?_⟩
                        rw [set_parts ns hml]
                        have t5:Same J4 (upd J4 p5 (.lst ((ns.set m 1).map V.int))):=same_upd hq5
                        have f5:upd J4 p5 (.lst ((ns.set m 1).map V.int)) p5=some (.lst ((ns.set m 1).map V.int)):=upd_same
                        generalize upd J4 p5 (.lst ((ns.set m 1).map V.int))=J5 at t5 f5 ⊢
                        have T5:Same H3 J5:=((t1.trans t2).trans (t3.trans t4)).trans t5
                        refine ⟨_,(hq.same (S3.trans T5)).q,_,atI_nat (j:=3) rfl,j,rfl,t,n,l,p5,N,v3,d3,xs,tv,ps,ns.set m 1,rfl,⟨(I3.same T5).G,f5,by rw [List.length_set];exact I1.len,fun w hw=>?_⟩,h99,ThgX.same (S3.trans T5) _ _ h3,kd d3 (by simp),w3 d3 (by simp),fun H4 s4=>?_⟩
                        · rcases List.mem_or_eq_of_mem_set hw with y | y
                          ·exact I1.v w y
                          ·omega
                        rw [tfx_set ns hml (by decide)]
                        cases hb:papD xs ps N j (fxs (tfx ns) m 1) d3 with
                        | false=>
                          rw [hp0,hb] at q
                          simp -dsimp[cxOf,stC,-Bool.exists_bool,-List.map_take,-Prod.forall,-Prod.exists]
                          exact q _ (s1.trans (S3.trans (T5.trans s4)))
                        | true=>
                          simp -dsimp[cxOf,stC,-Bool.exists_bool,-List.map_take,-Prod.forall,-Prod.exists]
                          exact ⟨s3.trans (T5.trans s4),hp0⟩
                    · rintro σ H3 ⟨⟨o5,rfl⟩,s3,hp0,hp1⟩
                      rw [hp0 (by simp),hp1 (by simp)] at q
                      simp -dsimp[cxOf,stC,-Bool.exists_bool,-List.map_take,-Prod.forall,-Prod.exists]
                      exact q _ (s1.trans (s2.trans s3))
                  · have hfx:¬tfx ns m=none:=by
                      unfold tfx
                      rw [if_neg (by rw [hu];simpa using hu2),hu]
                      simp
                    rw [decide_eq_false hfx,Bool.false_and] at q
                    simp -dsimp[cxOf,stC,-Bool.exists_bool,-List.map_take,-Prod.forall,-Prod.exists]
                    refine ⟨true,by simp [hu2],tBr.pos rfl ?_⟩
                    simp -dsimp[cxOf,stC,-Bool.exists_bool,-List.map_take,-Prod.forall,-Prod.exists]
                    exact q _ s1
        · rw [decide_eq_false hw,Bool.false_and] at q
          have e3:(if w=Str.ofString "far" then false else false)=false:=by split <;> rfl
          rw [e3] at q
          simp -dsimp[cxOf,stC,-Bool.exists_bool,-List.map_take,-Prod.forall,-Prod.exists]
          refine ⟨true,by simp [hw],tBr.pos rfl ?_⟩
          simp -dsimp[cxOf,stC,-Bool.exists_bool,-List.map_take,-Prod.forall,-Prod.exists]
          exact q _ s1
      · rw [papW_len (by simp) (by simp)] at q
        simp -dsimp[cxOf,stC,-Bool.exists_bool,-List.map_take,-Prod.forall,-Prod.exists]
        refine tBr.neg (by simp;omega) ?_
        simp -dsimp[cxOf,stC,-Bool.exists_bool,-List.map_take,-Prod.forall,-Prod.exists]
        refine ⟨_,hq.q,?_⟩
        rw [← hl]
        refine tBr.pos (by simp;omega) ?_
        simp -dsimp[cxOf,stC,-Bool.exists_bool,-List.map_take,-Prod.forall,-Prod.exists]
        exact q _ s1
theorem ok_reads (T:Txt K mg a):∀k,FnOk P w K mg base CX0 (k+5) a.f_reads a.fd_reads ["_law_web_here", "_law_turns", "_law_number", "_law_thing"] (sp_reads k)
  | 0=>reads_step T (FnOk.no.imp fun vs H Q E h=>by obtain ⟨j,h,_⟩:=h;cases h)
  | k+1=>reads_step T ((ok_reads T k).imp fun vs H Q E h=>by obtain ⟨j,h,z⟩:=h;cases h;exact z)
def Trp (H:Hp) (xs:List Str) (v:V):Prop:=∃(t:Addr) (x y:Str),v = .ref t∧x∈xs∧y∈xs∧H t=some (.tup [.str (Str.ofString "far"),.str x,.str y])
theorem Trp.keep {H H':Hp} {xs:List Str} {v:V} (h:Trp H xs v) (s:L2.TupKeep H H'):Trp H' xs v:=by
  obtain ⟨t,x,y,rfl,hx,hy,z⟩:=h
  exact ⟨t,x,y,rfl,hx,hy,s _ _ z⟩
theorem Trp.same {H H':Hp} {xs:List Str} {v:V} (h:Trp H xs v) (s:Same H H'):Trp H' xs v:=h.keep (L2.TupKeep.of s)
theorem Trp.but {p:Addr} {H H':Hp} {xs:List Str} {v:V} (h:Trp H xs v) (hp:Pot H p) (b:But p H H'):Trp H' xs v:=h.keep fun c zs e=>b c _ (hp.nlst e (by intro z q;cases q)) e
theorem is_trps {K:PySem.W.Frag} {H:Hp} {xs:List Str} (hx:∀x∈xs,PyData.strOk x=true):∀{L:List V},(∀v∈L,Trp H xs v)→∃ds,IsAll K H ds L∧PyData.canLayAll0 ds=true∧PyData.depthAll ds≤2∧ds.length=L.length
  | [],_=>⟨[],rfl,rfl,by simp [PyData.depthAll],rfl⟩
  | v::L,h=>by
    obtain ⟨ds,h1,h2,h3,h4⟩:=is_trps (K:=K) hx fun v hv=>h v (List.mem_cons_of_mem _ hv)
    obtain ⟨t,x,y,rfl,hxx,hyy,z⟩:=h v List.mem_cons_self
    refine ⟨.tuple [.str (Str.ofString "far"),.str x,.str y]::ds,⟨_,_,rfl,⟨t,_,rfl,SqT.of z,⟨_,_,rfl,rfl,_,_,rfl,rfl,_,_,rfl,rfl,rfl⟩⟩,h1⟩,?_,?_,by simp [h4]⟩
    · have e:PyData.strOk (Str.ofString "far")=true:=by decide +kernel
      simp [PyData.canLayAll0,PyData.canLay0,h2,hx x hxx,hx y hyy,e]
    · simp [PyData.depthAll,PyData.depth]
      omega
def RdP (p n l g:Addr):Prop:=n≠p∧l≠p∧g≠p
theorem RdI.but {p:Addr} {H H':Hp} {t n l g:Addr} {xs:List Str} {tv:List V} {ps:List (Str×Str)} {ns:List Int} (h:RdI H t n l g xs tv ps ns) (hp:Pot H p) (b:But p H H') (hn:RdP p n l g):RdI H' t n l g xs tv ps ns:=⟨h.G.but hp b hn.1 hn.2.1,b _ _ hn.2.2 h.g,h.len,h.v⟩
def sp_leaf:Sp:=fun vs H Q _=>∃(p t n l g:Addr) (N:Nat) (b:Bool) (xs:List Str) (tv:List V) (ps:List (Str×Str)) (ns:List Int),vs=[.ref p,.ref t,.ref g,.int N,.bl b]∧Pot H p∧RdI H t n l g xs tv ps ns∧RdP p n l g∧N≤99∧
  ∀v H',Trp H' xs v→Pot H' p→But p H H'→Q v H'
theorem ok_leaf (T:Txt K mg a):FnOk P w K mg base CX0 2 a.f_leaf a.fd_leaf ["_law_pot_here", "_law_web_here", "_law_turns", "_law_number", "_law_is_long"] sp_leaf:=by
  refine T.F_leaf.okL sc_leaf (fun vs H Q E h=>?_) (fun cdv A outer s H vs Q E hr h=>?_)
  · obtain ⟨p,t,n,l,g,N,b,xs,tv,ps,ns,rfl,_⟩:=h
    rfl
  · obtain ⟨p,t,n,l,g,N,b,xs,tv,ps,ns,rfl,hp,hI,hne,h99,q⟩:=h
    refine ⟨_,(pss_cons (ps_set (i:=5) sc_leaf.nd rfl (Or.inl rfl) (pe_ix (fixQk (K:=K) rfl) (fpv 1) pe_int (fun _ _=>rfl)))
      (pss_cons (ps_set (i:=6) sc_leaf.nd rfl (Or.inl rfl) (pe_lst pa_nil))
      (pss_cons (ps_for PassesOwn.never rfl (PI.eqv (pi_listk (K:=K) rfl (fpv 5)) (fiList_eq _ _)) (pg_name (i:=7) sc_leaf.nd rfl (Or.inr rfl))
      (pss_cons (ps_set (i:=8) sc_leaf.nd rfl (Or.inr rfl) (PE.eqv (pe_call (ok_far (K:=K) T) (hr.mono (by decide)) rfl T.m_far T.F_far.kp T.b_far .nil pass0 (pa_cons (fpv 1) (pa_cons (fpv 2) (pa_cons (fpv 7) pa_nil)))) (fCall_eq _ _ _)))
      (pss_one (ps_set (i:=6) sc_leaf.nd rfl (Or.inl rfl) (pe_op fop_cat (fpv 6) (pe_comp rfl rfl (show CompScope (defScope s_leaf) _ ["_law_pot_here", "_law_web_here", "_law_turns", "_law_number", "_law_is_long", "_law_names_here", "_law_some", "_law_a", "_law_rows"] ["_law_b"] [7,3,8] ["_law_b", "_law_a", "_law_number", "_law_rows"] from ⟨rfl,by decide +kernel,by decide +kernel,rfl,by decide +kernel,by decide +kernel⟩) rfl (PI.eqv (pi_listk (K:=K) rfl (fpv 5)) (fiList_eq _ _)) (fun C s H fp pn=>(pg_name (i:=0) (show (["_law_b", "_law_a", "_law_number", "_law_rows"]:List Str).Nodup by decide +kernel) rfl (Or.inl rfl))) (fun C s H fp pn=>(pts_one (fpt_cmpR fop_ge (PE.eqv (pe_dget2 (hu_of hr) (fpv 3) (fpv 0) pe_int ⟨rfl,rfl,rfl,rfl⟩) (fDGet2_eq _ _ _)) (fpv 2) (nomark _)))) (fun C s H fp pn=>(pe_tup (pa_cons pe_str (pa_cons (fpv 1) (pa_cons (fpv 0) pa_nil)))))))))))
      (pss_cons (ps_if (PW.pt (pw_and (fpt_cmpR (fopNeD (K:=K) rfl hr.units) (fpv 6) (pe_lst pa_nil) (nomark _)) (pw_and1 (PW.pt (pw_or (fpt_val (fpv 4)) (pw_or1 (fpt_cmpR fop_gt (PE.eqv (pe_call (ok_take (K:=K) T) (hr.mono (by decide)) rfl T.m_take T.F_take.kp T.b_take .nil pass0 (pa_cons (fpv 0) (pa_cons pe_int pa_nil))) (fCall_eq _ _ _)) pe_int (nomark _)))))))) (pss_one (ps_ret (pe_ix (fixQk (K:=K) rfl) (fpv 6) (PE.eqv (pe_call (ok_take (K:=K) T) (hr.mono (by decide)) rfl T.m_take T.F_take.kp T.b_take .nil pass0 (pa_cons (fpv 0) (pa_cons (pe_callB (flenQk (K:=K) rfl) rfl T.nm.len PySem.boot_len (pa_cons (fpv 6) pa_nil)) pa_nil))) (fCall_eq _ _ _)) (fun _ _=>rfl)))) pss_nil)
      (pss_one (ps_ret (pe_tup (pa_cons pe_str (pa_cons (pe_ix (fixQk (K:=K) rfl) (fpv 5) (PE.eqv (pe_call (ok_take (K:=K) T) (hr.mono (by decide)) rfl T.m_take T.F_take.kp T.b_take .nil pass0 (pa_cons (fpv 0) (pa_cons (pe_callB (flenQk (K:=K) rfl) rfl T.nm.len PySem.boot_len (pa_cons (fpv 5) pa_nil)) pa_nil))) (fCall_eq _ _ _)) (fun _ _=>rfl)) (pa_cons (pe_ix (fixQk (K:=K) rfl) (fpv 5) (PE.eqv (pe_call (ok_take (K:=K) T) (hr.mono (by decide)) rfl T.m_take T.F_take.kp T.b_take .nil pass0 (pa_cons (fpv 0) (pa_cons (pe_callB (flenQk (K:=K) rfl) rfl T.nm.len PySem.boot_len (pa_cons (fpv 5) pa_nil)) pa_nil))) (fCall_eq _ _ _)) (fun _ _=>rfl)) pa_nil)))))))))),?_⟩
    have sz99:999≤sizeLine:=by decide
    have l9:=hI.G.2.2.2.2.1.len
    have hok:∀x∈xs,PyData.strOk x=true:=fun x hx=>name_ok (hI.G.2.2.2.2.1.nm x hx)
    simp -dsimp[cxOf,stC,-Bool.exists_bool,-List.map_take,-Prod.forall,-Prod.exists]
    refine ⟨_,.inr (SqT.of hI.G.1),_,atI_nat (j:=0) rfl,fun p1 hp1=>?_⟩
    have s1:Same H (upd H p1 (.lst [])):=same_upd hp1
    have e1:upd H p1 (.lst []) p1=some (.lst []):=upd_same
    generalize upd H p1 (.lst [])=H1 at s1 e1 ⊢
    have n1:=s1 _ _ hI.G.2.1
    simp -dsimp[cxOf,stC,-Bool.exists_bool,-List.map_take,-Prod.forall,-Prod.exists]
    refine ⟨⟨_,SqL.of n1⟩,frL (xs.map V.str) (fun i σ H'=>∃(o7 o8:Option V) (c:Addr) (L:List V),σ=[some (.ref p),some (.ref t),some (.ref g),some (.int N),some (.bl b),some (.ref n),some (.ref c),o7,o8]∧H c=none∧H' c=some (.lst L)∧L.length≤9 * i∧(∀v∈L,Trp H' xs v)∧Same H1 H') ⟨_,_,p1,[],rfl,hp1,e1,by simp,by simp,Same.refl _⟩ (fun i σ H' _ h=>by obtain ⟨_,_,_,_,_,_,_,_,_,s⟩:=h;exact SqL.of (s _ _ n1)) ?_ ?_⟩
    · rintro i v σ H2 hi ⟨o7,o8,c,L,rfl,hc,hc2,hL,hT,s2⟩
      obtain ⟨x,hxi,rfl⟩:=str_at hi
      have hx:x∈xs:=List.mem_of_getElem? hxi
      have hi9:i<xs.length:=(List.getElem?_eq_some_iff.mp hxi).1
      have I2:=hI.same (s1.trans s2)
      simp -dsimp[cxOf,stC,-Bool.exists_bool,-List.map_take,-Prod.forall,-Prod.exists]
      refine ⟨t,n,l,g,xs,tv,ps,ns,x,rfl,I2.G,I2.g,I2.len,I2.v,hx,fun fd kvs D H3 hfd hfd2 hDN hKO hDD s3=>?_⟩
      have n3:=s3 _ _ (s2 _ _ n1)
      simp -dsimp[cxOf,stC,-Bool.exists_bool,-List.map_take,-Prod.forall,-Prod.exists]
      refine ⟨⟨_,SqL.of n3⟩,fun C hC=>cmL (xs.map V.str) (fun j σ H'=>(∃o,σ=[o,some (.str x),some (.int N),some (.ref fd)])∧(∃Lc,H' C=some (.lst Lc)∧Lc.length≤j∧∀v∈Lc,Trp H' xs v)∧Same H3 H') ⟨⟨_,rfl⟩,⟨[],upd_same,by simp,by simp⟩,same_upd hC⟩ (fun j σ H' _ h=>SqL.of (h.2.2 _ _ n3)) ?_ ?_⟩
      · rintro j v σ H4 hj ⟨⟨o,rfl⟩,⟨Lc,hC4,hL2,hT2⟩,s4⟩
        obtain ⟨y,hyj,rfl⟩:=str_at hj
        have hy:y∈xs:=List.mem_of_getElem? hyj
        have hj9:j<xs.length:=(List.getElem?_eq_some_iff.mp hyj).1
        simp -dsimp[cxOf,stC,-Bool.exists_bool,-List.map_take,-Prod.forall,-Prod.exists]
        refine ⟨isD (s4 _ _ hfd2),_,getS y (s4 _ _ hfd2),?_⟩
        obtain ⟨z,hz⟩:∃z:Int,(valV kvs (Sum.inr y)).getD (V.int 99) = .int z:=by
          rw [hDN y]
          cases D y <;> exact ⟨_,rfl⟩
        rw [hz]
        simp -dsimp[cxOf,stC,-Bool.exists_bool,-List.map_take,-Prod.forall,-Prod.exists]
        refine tBr.of (fun h=>?_) (fun h=>?_)
        · simp -dsimp[cxOf,stC,-Bool.exists_bool,-List.map_take,-Prod.forall,-Prod.exists]
          intro tt htt
          have st:Same H4 (upd H4 tt (.tup [.str (Str.ofString "far"),.str x,.str y])):=same_upd htt
          have et:upd H4 tt (.tup [.str (Str.ofString "far"),.str x,.str y]) tt=some (.tup [.str (Str.ofString "far"),.str x,.str y]):=upd_same
          generalize upd H4 tt (.tup [.str (Str.ofString "far"),.str x,.str y])=H5 at st et ⊢
          have kp:L2.TupKeep H5 (upd H5 C (.lst (Lc++[.ref tt]))):=L2.TupKeep.set (st _ _ hC4) (by intro z e;cases e)
          refine ⟨_,st _ _ hC4,by omega,⟨_,upd_same,by simp;omega,fun v hv=>?_⟩,same_upd2 (s4.trans st) hC⟩
          rcases List.mem_append.mp hv with hv | hv
          ·exact ((hT2 v hv).same st).keep kp
          · simp at hv
            subst hv
            exact ⟨tt,x,y,rfl,hx,hy,kp _ _ et⟩
        · simp -dsimp[cxOf,stC,-Bool.exists_bool,-List.map_take,-Prod.forall,-Prod.exists]
          exact ⟨⟨_,hC4,by omega,hT2⟩,s4⟩
      · rintro σ H4 ⟨⟨o,rfl⟩,⟨Lc,hC4,hL2,hT2⟩,s4⟩
        have hlx:(xs.map V.str).length=xs.length:=List.length_map _
        simp -dsimp[cxOf,stC,-Bool.exists_bool,-List.map_take,-Prod.forall,-Prod.exists]
        refine ⟨L,s4 _ _ (s3 _ _ hc2),Lc,hC4,by omega,fun r hr=>⟨_,_,r,⟨rfl,rfl,rfl⟩,fresh_of (s1.trans (s2.trans (s3.trans s4))) hr,_,upd_same,by simp;omega,fun v hv=>?_,(s2.trans (s3.trans s4)).trans (same_upd hr)⟩⟩
        have kp:Same H4 (upd H4 r (.lst (L++Lc))):=same_upd hr
        rcases List.mem_append.mp hv with hv | hv
        ·exact (hT v hv).same ((s3.trans s4).trans kp)
        ·exact (hT2 v hv).same kp
    · rintro σ H2 ⟨o7,o8,c,L,rfl,hc,hc2,hL,hT,s2⟩
      have hlx:(xs.map V.str).length=xs.length:=List.length_map _
      simp -dsimp[cxOf,stC,-Bool.exists_bool,-List.map_take,-Prod.forall,-Prod.exists]
      intro p2 hp2
      have s3:Same H2 (upd H2 p2 (.lst [])):=same_upd hp2
      have e3:upd H2 p2 (.lst []) p2=some (.lst []):=upd_same
      generalize upd H2 p2 (.lst [])=H3 at s3 e3 ⊢
      have S3:Same H H3:=s1.trans (s2.trans s3)
      have P3:Pot H3 p:=by obtain ⟨u1,u2,u3,u4⟩:=hp;exact ⟨u1,u2,S3 _ _ u3,u4⟩
      have B3:But p H H3:=But.of S3
      have c3:=s3 _ _ hc2
      have T3:∀v∈L,Trp H3 xs v:=fun v hv=>(hT v hv).same s3
      have cp:c≠p:=hp.nl hc
      obtain ⟨ds,d1,d2,d3,d4⟩:=is_trps (K:=K) hok T3
      have n3:=S3 _ _ hI.G.2.1
      refine ⟨.list ds,⟨c,_,rfl,SqL.of c3,d1⟩,.list [],⟨p2,_,rfl,SqL.of e3,rfl⟩,by simpa [PyData.canLay0] using d2,by simp [PyData.canLay0,PyData.canLayAll0],by simp [PyData.depth];omega,decide (L≠[]),?_,?_⟩
      · cases ds with
        | nil=>
          have:L=[]:=List.length_eq_zero_iff.mp d4.symm
          simp [this,PyData.eqv,PyData.eqvAll]
        | cons d ds=>
          have:L≠[]:=fun z=>by rw [z] at d4;cases d4
          simp [this,PyData.eqv,PyData.eqvAll]
      have B3c:=c3
      have B3n:=n3
      have B3T:=T3
      refine tBr.of (fun h=>?_) (fun h=>?_)
      · have hL0:0<L.length:=List.length_pos_iff.mpr (of_decide_eq_true h)
        simp -dsimp[cxOf,stC,-Bool.exists_bool,-List.map_take,-Prod.forall,-Prod.exists]
        refine tBr.of (fun h=>?_) (fun h=>?_)
        · simp -dsimp[cxOf,stC,-Bool.exists_bool,-List.map_take,-Prod.forall,-Prod.exists]
          refine ⟨_,.inl (SqL.of B3c),p,_,rfl,P3,by omega,by omega,fun d Hz h0 h1 Pz Bz=>?_⟩
          obtain ⟨m,rfl⟩:=Int.eq_ofNat_of_zero_le h0
          have hm:m<L.length:=by omega
          simp -dsimp[cxOf,stC,-Bool.exists_bool,-List.map_take,-Prod.forall,-Prod.exists]
          exact ⟨_,.inl (SqL.of (Bz _ _ cp B3c)),_,atI_nat (j:=m) (List.getElem?_eq_getElem hm),q _ _ ((B3T _ (List.getElem_mem hm)).but P3 Bz) Pz (B3.trans Bz)⟩
        · simp -dsimp[cxOf,stC,-Bool.exists_bool,-List.map_take,-Prod.forall,-Prod.exists]
          refine ⟨p,_,rfl,P3,by omega,by omega,fun d H4 h0 h1 P4 B4'=>?_⟩
          have B4:=B3.trans B4'
          have B4c:=B4' _ _ cp c3
          have B4n:=B4' _ _ hne.1 n3
          have B4T:∀v∈L,Trp H4 xs v:=fun v hv=>(T3 v hv).but P3 B4'
          simp -dsimp[cxOf,stC,-Bool.exists_bool,-List.map_take,-Prod.forall,-Prod.exists]
          refine tBr.of (fun h=>?_) (fun h=>?_)
          · skip
            simp -dsimp[cxOf,stC,-Bool.exists_bool,-List.map_take,-Prod.forall,-Prod.exists]
            refine ⟨_,.inl (SqL.of B4c),p,_,rfl,P4,by omega,by omega,fun d Hz h0 h1 Pz Bz=>?_⟩
            obtain ⟨m,rfl⟩:=Int.eq_ofNat_of_zero_le h0
            have hm:m<L.length:=by omega
            simp -dsimp[cxOf,stC,-Bool.exists_bool,-List.map_take,-Prod.forall,-Prod.exists]
            exact ⟨_,.inl (SqL.of (Bz _ _ cp B4c)),_,atI_nat (j:=m) (List.getElem?_eq_getElem hm),q _ _ ((B4T _ (List.getElem_mem hm)).but P4 Bz) Pz (B4.trans Bz)⟩
          · skip
            simp -dsimp[cxOf,stC,-Bool.exists_bool,-List.map_take,-Prod.forall,-Prod.exists]
            refine ⟨_,.inl (SqL.of B4n),p,_,rfl,P4,by omega,by omega,fun d Hz h0 h1 Pz Bz=>?_⟩
            obtain ⟨m,rfl⟩:=Int.eq_ofNat_of_zero_le h0
            have hm:m<xs.length:=by omega
            have nz:=Bz _ _ hne.1 B4n
            simp -dsimp[cxOf,stC,-Bool.exists_bool,-List.map_take,-Prod.forall,-Prod.exists]
            refine ⟨_,.inl (SqL.of nz),_,atI_nat (j:=m) (by rw [List.getElem?_map,List.getElem?_eq_getElem hm];rfl),?_⟩
            refine ⟨_,.inl (SqL.of nz),p,_,rfl,Pz,by omega,by omega,fun d Hy h0 h1 Py By=>?_⟩
            obtain ⟨m2,rfl⟩:=Int.eq_ofNat_of_zero_le h0
            have hm2:m2<xs.length:=by omega
            simp -dsimp[cxOf,stC,-Bool.exists_bool,-List.map_take,-Prod.forall,-Prod.exists]
            refine ⟨_,.inl (SqL.of (By _ _ hne.1 nz)),_,atI_nat (j:=m2) (by rw [List.getElem?_map,List.getElem?_eq_getElem hm2];rfl),?_⟩
            intro r hr
            exact q _ _ ⟨r,_,_,rfl,List.getElem_mem hm,List.getElem_mem hm2,upd_same⟩ (Py.upd (Py.ne hr)) (((B4.trans Bz).trans By).same (same_upd hr))
      · skip
        simp -dsimp[cxOf,stC,-Bool.exists_bool,-List.map_take,-Prod.forall,-Prod.exists]
        refine ⟨_,.inl (SqL.of B3n),p,_,rfl,P3,by omega,by omega,fun d Hz h0 h1 Pz Bz=>?_⟩
        obtain ⟨m,rfl⟩:=Int.eq_ofNat_of_zero_le h0
        have hm:m<xs.length:=by omega
        have nz:=Bz _ _ hne.1 B3n
        simp -dsimp[cxOf,stC,-Bool.exists_bool,-List.map_take,-Prod.forall,-Prod.exists]
        refine ⟨_,.inl (SqL.of nz),_,atI_nat (j:=m) (by rw [List.getElem?_map,List.getElem?_eq_getElem hm];rfl),?_⟩
        refine ⟨_,.inl (SqL.of nz),p,_,rfl,Pz,by omega,by omega,fun d Hy h0 h1 Py By=>?_⟩
        obtain ⟨m2,rfl⟩:=Int.eq_ofNat_of_zero_le h0
        have hm2:m2<xs.length:=by omega
        simp -dsimp[cxOf,stC,-Bool.exists_bool,-List.map_take,-Prod.forall,-Prod.exists]
        refine ⟨_,.inl (SqL.of (By _ _ hne.1 nz)),_,atI_nat (j:=m2) (by rw [List.getElem?_map,List.getElem?_eq_getElem hm2];rfl),?_⟩
        intro r hr
        exact q _ _ ⟨r,_,_,rfl,List.getElem_mem hm,List.getElem_mem hm2,upd_same⟩ (Py.upd (Py.ne hr)) (((B3.trans Bz).trans By).same (same_upd hr))
structure LfP (n:Nat) (d:PyData):Prop where
  k:flD d=true∨d = .dict []
  s:Sml 1 n d
  sh:shortD d
theorem LfP.mono {n m:Nat} {d:PyData} (h:LfP n d) (hn:n≤m):LfP m d:=⟨h.k,h.s.mono (Nat.le_refl _) hn,h.sh⟩
theorem LfP.seq {n:Nat} {d:PyData} (h:LfP n d):seqD d=false:=by
  rcases h.k with h | rfl
  ·cases d <;> first | rfl | cases h
  ·rfl
theorem LfP.kids {n:Nat} {d:PyData} (h:LfP n d):kids d=[]:=by
  rcases h.k with h | rfl
  ·cases d <;> first | rfl | cases h
  ·rfl
def SumP (g:Nat→PyData→Prop):Nat→List PyData→Prop
  | _,[]=>True
  | m,d::ds=>∃a b,g a d∧SumP g b ds∧a+2+b≤m
def PapF:Nat→Nat→PyData→Prop
  | 0,n,d=>LfP n d
  | k+1,n,d=>LfP n d∨(seqD d=true∧WfL (fun _=>True) (kids d)∧∃m,m+3≤n∧SumP (PapF k) m (kids d))
theorem PapF.leaf {k n:Nat} {d:PyData} (h:LfP n d):PapF k n d:=by
  cases k with
  | zero=>exact h
  | succ k=>exact .inl h
theorem SumP.imp {g g':Nat→PyData→Prop}:∀{m:Nat} {ds:List PyData},(∀a,∀d∈ds,g a d→g' a d)→SumP g m ds→SumP g' m ds
  | _,[],_,_=>trivial
  | _,d::ds,f,⟨a,b,h1,h2,h3⟩=>⟨a,b,f _ _ List.mem_cons_self h1,SumP.imp (fun a d hd=>f a d (List.mem_cons_of_mem _ hd)) h2,h3⟩
theorem PapF.wide:∀{k n m:Nat} {d:PyData},PapF k n d→n≤m→PapF k m d
  | 0,_,_,_,h,hn=>LfP.mono h hn
  | _+1,_,_,_,.inl h,hn=>.inl (h.mono hn)
  | _+1,_,_,_,.inr ⟨h1,h2,m,h3,h4⟩,hn=>.inr ⟨h1,h2,m,by omega,h4⟩
theorem PapF.up:∀{k n:Nat} {d:PyData},PapF k n d→PapF (k+1) n d
  | 0,_,_,h=>.inl h
  | _+1,_,_,.inl h=>.inl h
  | _+1,_,_,.inr ⟨h1,h2,m,h3,h4⟩=>.inr ⟨h1,h2,m,h3,SumP.imp (fun a d _ h=>PapF.up h) h4⟩
theorem PapF.deep {k n:Nat} {d:PyData} (h:PapF k n d):∀{j:Nat},k≤j→PapF j n d
  | 0,hj=>by
    have:k=0:=by omega
    subst this
    exact h
  | j+1,hj=>by
    rcases Nat.lt_or_ge j k with z | z
    · have:k=j+1:=by omega
      subst this
      exact h
    ·exact (PapF.deep h z).up
theorem PapF.mono {k j n m:Nat} {d:PyData} (h:PapF k n d) (hk:k≤j) (hn:n≤m):PapF j m d:=(h.deep hk).wide hn
theorem SumP.sml {k:Nat} {g:Nat→PyData→Prop}:∀{m:Nat} {ds:List PyData},(∀a,∀d∈ds,g a d→Sml k a d)→SumP g m ds→PyData.showableAll ds=true∧PyData.depthAll ds≤k∧(PyData.shownAll ds).length=ds.length∧((PyData.shownAll ds).map (·.length)).sum+2 * ds.length≤m
  | _,[],_,_=>by simp [PyData.showableAll,PyData.depthAll,PyData.shownAll]
  | m,c::ds,f,⟨a,b,h,hr,hm⟩=>by
    obtain ⟨h1,h2,h3⟩:=f a c List.mem_cons_self h
    obtain ⟨i1,i2,i3,i4⟩:=SumP.sml (k:=k) (fun a d hd=>f a d (List.mem_cons_of_mem _ hd)) hr
    simp only [PyData.showableAll,PyData.depthAll,PyData.shownAll,h1,i1,List.length_cons,List.map_cons,List.sum_cons,i3]
    refine ⟨rfl,Nat.max_le.mpr ⟨h2,i2⟩,trivial,?_⟩
    omega
theorem PapF.sml:∀{k n:Nat} {d:PyData},PapF k n d→Sml (k+1) n d
  | 0,_,_,h=>LfP.s h
  | k+1,_,_,.inl h=>h.s.mono (by omega) (Nat.le_refl _)
  | k+1,n,d,.inr ⟨h1,h2,m,h3,h4⟩=>by
    obtain ⟨i1,i2,i3,i4⟩:=SumP.sml (k:=k+1) (fun a d _ h=>PapF.sml h) h4
    cases d with
    | list ds=>
      have:=listText_len_le (PyData.shownAll ds)
      simp only [kids] at i1 i2 i3 i4
      refine ⟨by simpa [PyData.showable] using i1,by simp only [PyData.depth];omega,?_⟩
      simp only [PyData.shown]
      omega
    | tuple ds=>
      have:=tupleText_len_le (PyData.shownAll ds)
      simp only [kids] at i1 i2 i3 i4
      refine ⟨by simpa [PyData.showable] using i1,by simp only [PyData.depth];omega,?_⟩
      simp only [PyData.shown]
      omega
    | _=>cases h1
theorem SumP.mem {g:Nat→PyData→Prop}:∀{m:Nat} {ds:List PyData} {d:PyData},SumP g m ds→d∈ds→∃a,a≤m∧g a d
  | _,[],_,_,h=>by cases h
  | _,c::ds,d,⟨a,b,h1,h2,h3⟩,h=>by
    rcases List.mem_cons.mp h with rfl | h
    ·exact ⟨a,by omega,h1⟩
    · obtain ⟨e,he,hg⟩:=SumP.mem h2 h
      exact ⟨e,by omega,hg⟩
theorem wfl_imp {g:PyData→Prop}:∀{ds:List PyData},WfL (fun _=>True) ds→(∀c∈ds,g c)→WfL g ds
  | [],_,_=>trivial
  | [_],h,_=>h
  | _::_::r,⟨h1,h2,h3,_⟩,f=>⟨h1,h2,h3,fun c hc=>f c (by simp [hc])⟩
theorem PapF.wf:∀{k n:Nat} {d:PyData},PapF k n d→∀{j:Nat},k≤j→WfD j d
  | 0,_,d,h,j,_=>by
    cases j with
    | zero=>exact LfP.seq h
    | succ j=>show WfL _ (kids d);rw [LfP.kids h];trivial
  | k+1,_,d,.inl h,j,hj=>by
    cases j with
    | zero=>exact LfP.seq h
    | succ j=>show WfL _ (kids d);rw [LfP.kids h];trivial
  | k+1,_,d,.inr ⟨h1,h2,m,h3,h4⟩,j,hj=>by
    obtain ⟨j,rfl⟩:∃i,j=i+1:=⟨j - 1,by omega⟩
    refine wfl_imp h2 fun c hc=>?_
    obtain ⟨a,_,ha⟩:=SumP.mem h4 hc
    exact PapF.wf ha (by omega)
theorem PapF.short {k n:Nat} {d:PyData} (h:PapF k n d):shortD d:=by
  cases k with
  | zero=>exact LfP.sh h
  | succ k=>
    rcases h with h | ⟨h1,_⟩
    ·exact h.sh
    · intro x e
      subst e
      cases h1
theorem PapF.shd:∀{j k n:Nat} {d:PyData},PapF k n d→ShD j d
  | 0,_,_,_,h=>PapF.short h
  | j+1,k,_,d,h=>by
    refine ⟨h.short,fun c hc=>?_⟩
    cases k with
    | zero=>rw [LfP.kids h] at hc;cases hc
    | succ k=>
      rcases h with h | ⟨h1,h2,m,h3,h4⟩
      ·rw [LfP.kids h] at hc;cases hc
      · obtain ⟨a,_,ha⟩:=SumP.mem h4 hc
        exact PapF.shd ha
theorem lf_str {x:Str} {n:Nat} (hx:∀c∈x.cps.toList,c<16 ^ 8) (hn:10 * x.length+2≤n) (hs:x.length≤999):LfP n (.str x):=⟨.inl rfl,(Sml.str hx hn).mono (by omega) (Nat.le_refl _),fun y e=>by
  cases e
  have:999≤sizeLine:=by decide
  omega⟩
theorem Ltr.name {x:Str} (h:nameB x=true):Ltr 4 x:=by
  unfold nameB at h
  simp only [Bool.and_eq_true,decide_eq_true_eq] at h
  refine ⟨fun c hc=>?_,h.1.2⟩
  have:=isL_lt (List.all_eq_true.mp h.2 c hc)
  have:(16:Nat) ^ 8=4294967296:=by decide
  omega
def lenP (b:Bool) (j:Nat):Nat:=if b then 600 * j+300 else 600 * 2 ^ j - 300
def ThK (H:Hp) (d:PyData) (v:V):Prop:=∀H2,L2.TupKeep H H2→ThgX H2 d v
theorem ThK.keep {H H':Hp} {d:PyData} {v:V} (h:ThK H d v) (b:L2.TupKeep H H'):ThK H' d v:=fun H2 b2=>h H2 fun c zs e=>b2 c zs (b c zs e)
theorem but_tk {p:Addr} {H H':Hp} (hp:Pot H p) (b:But p H H'):L2.TupKeep H H':=fun c zs e=>b c _ (hp.nlst e (by intro z q;cases q)) e
theorem two_at {i:Nat} {x:V} (h : [V.int 0,V.int 1][i]? = some x):i≤1∧x = .int (i:Int):=by
  rcases i with _ | _ | i
  ·simp at h;exact ⟨by omega,h.symm⟩
  ·simp at h;exact ⟨by omega,h.symm⟩
  ·simp at h
theorem lenP_0 (b:Bool):lenP b 0=300:=by cases b <;> rfl
theorem lenP_ge (b:Bool) (j:Nat):300≤lenP b j:=by
  unfold lenP
  have:=Nat.one_le_two_pow (n:=j)
  split <;> omega
theorem sml_few {i:Int} (h0:0≤i) (h1:i≤20):Sml 0 100 (.int i):=by
  obtain ⟨n,rfl⟩:∃n:Nat,i=(n:Int):=⟨i.toNat,by omega⟩
  have h:n≤20:=by omega
  have z:∀n,n≤20→(PyData.int (n:Nat)).showable=true∧(PyData.int (n:Nat)).depth≤0∧(PyData.int (n:Nat)).shown.length≤100:=by decide +kernel
  exact ⟨(z n h).1,(z n h).2.1,(z n h).2.2⟩
theorem pap_int {k m:Nat} (hm:m≤20):PapF k 100 (.int (m:Int)):=PapF.leaf ⟨.inl rfl,(sml_few (by omega) (by omega)).mono (by omega) (Nat.le_refl _),fun x e=>by cases e⟩
theorem is_nats {K:PySem.W.Frag} {H:Hp}:∀(is:List Nat),∃ds,IsAll K H ds (is.map fun n:Nat=>V.int n)∧PyData.canLayAll0 ds=true∧PyData.depthAll ds≤2∧ds.length=is.length
  | []=>⟨[],rfl,rfl,by simp [PyData.depthAll],rfl⟩
  | n::is=>by
    obtain ⟨ds,h1,h2,h3,h4⟩:=is_nats (K:=K) (H:=H) is
    refine ⟨.int n::ds,⟨_,_,rfl,rfl,h1⟩,?_,?_,by simp [h4]⟩
    ·simp [PyData.canLayAll0,PyData.canLay0,h2]
    · simp [PyData.depthAll,PyData.depth]
      omega
theorem nil_eqv {ds:List PyData} {is:List Nat} (h:ds.length=is.length):PyData.eqv (.list ds) (.list [])=decide (is=[]):=by
  cases ds with
  | nil=>
    have:is=[]:=List.length_eq_zero_iff.mp h.symm
    simp [this,PyData.eqv,PyData.eqvAll]
  | cons d ds=>
    have:is≠[]:=fun z=>by rw [z] at h;cases h
    simp [this,PyData.eqv,PyData.eqvAll]
def sp_paper (k:Nat):Sp:=fun vs H Q _=>∃(p t n l g:Addr) (N:Nat) (b:Bool) (j:Nat) (xs:List Str) (tv:List V) (ps:List (Str×Str)) (ns:List Int),vs=[.ref p,.ref t,.ref g,.int N,.int j,.bl b]∧j≤k∧Pot H p∧RdI H t n l g xs tv ps ns∧RdP p n l g∧N≤99∧
  ∀d v H',ThK H' d v→PapF (j+1) (lenP b j) d→Pot H' p→But p H H'→Q v H'
def sp_paperI (k:Nat):Sp:=fun vs H Q E=>∃j,k=j+1∧sp_paper j vs H Q E
theorem Trp.thg {H:Hp} {xs:List Str} {v:V} (hx:Pts xs) (h:Trp H xs v) (b:Bool) (j:Nat):∃d,ThK H d v∧PapF (j+1) (lenP b j) d:=by
  obtain ⟨t,x,y,rfl,h1,h2,h3⟩:=h
  have n1:=hx.nm x h1
  have n2:=hx.nm y h2
  have e1:=(Ltr.name n1).ln
  have e2:=(Ltr.name n2).ln
  have ef:(Str.ofString "far").length=3:=by decide +kernel
  have hl:=lenP_ge b j
  have c1:∀c∈x.cps.toList,c<16 ^ 8:=(Ltr.name n1).cp
  have c2:∀c∈y.cps.toList,c<16 ^ 8:=(Ltr.name n2).cp
  have c3:∀c∈(Str.ofString "far").cps.toList,c<16 ^ 8:=by decide +kernel
  refine ⟨.tuple [.str (Str.ofString "far"),.str x,.str y],?_,.inr ⟨rfl,⟨rfl,rfl,fun _ c hc=>?_,fun _ _=>trivial⟩,200,by omega,40,100,PapF.leaf (lf_str c3 (by omega) (by omega)),⟨50,48,PapF.leaf (lf_str c1 (by omega) (by omega)),⟨46,0,PapF.leaf (lf_str c2 (by omega) (by omega)),trivial,by omega⟩,by omega⟩,by omega⟩⟩
  · intro H2 hb
    have h3:=hb _ _ h3
    simp only [ThgX,ThgXAll]
    exact ⟨t,_,rfl,h3,_,_,rfl,rfl,_,_,rfl,rfl,_,_,rfl,rfl,rfl⟩
  · simp at hc
    subst hc
    rfl
theorem paper_made (T:Txt K mg a) {k:Nat} (ih:FnOk P w K mg base CX0 (k+3) a.f_paper a.fd_paper ["_law_pot_here", "_law_web_here", "_law_turns", "_law_number", "_law_deep", "_law_is_long"] (sp_paperI k)):FnOk P w K mg base CX0 (k+4) a.f_paper a.fd_paper ["_law_pot_here", "_law_web_here", "_law_turns", "_law_number", "_law_deep", "_law_is_long"] (sp_paper k):=by
  refine T.F_paper.okL sc_paper (fun vs H Q E h=>?_) (fun cdv A outer s H vs Q E hr h=>?_)
  · obtain ⟨p,t,n,l,g,N,b,j,xs,tv,ps,ns,rfl,_⟩:=h
    rfl
  · obtain ⟨p,t,n,l,g,N,b,j,xs,tv,ps,ns,rfl,hj,hp,hI,hne,h99,q⟩:=h
    refine ⟨_,(pss_cons (ps_setComp (i:=6) sc_paper.nd rfl rfl rfl rfl (show CompScope (defScope s_paper) _ ["_law_pot_here", "_law_web_here", "_law_turns", "_law_number", "_law_deep", "_law_is_long", "_law_left", "_law_leaf_here", "_law_known", "_law_tie_here", "_law_done", "_law_some", "_law_long", "_law_turn", "_law_fixed", "_law_below"] ["_law_k", "_law_turn"] [] ["_law_k", "_law_turn"] from ⟨rfl,by decide +kernel,by decide +kernel,rfl,by decide +kernel,by decide +kernel⟩) rfl (PI.eqv (pi_enum (K:=K) rfl rfl T.nm2.enumerate (pa_cons (fpv 2) pa_nil)) (fiEnum_eq _ _)) (fun C s H fp pn=>(PG.eqv (pg_tupk (K:=K) (n:=2) rfl rfl (PGs.eqv (pgs_cons (pg_name (i:=0) (show (["_law_k", "_law_turn"]:List Str).Nodup by decide +kernel) rfl (Or.inl rfl)) (PGs.eqv (pgs_cons (pg_name (i:=1) (show (["_law_k", "_law_turn"]:List Str).Nodup by decide +kernel) rfl (Or.inl rfl)) (PGs.mono pgs_nil fNil_t)) (fCons_eq _ _))) (fCons_eq _ _))) (fTup_eq _ _ _))) (fun C s H fp pn=>(pts_one (fpt_cmpR fop_eq (fpv 1) pe_int (nomark _)))) (fun C s H fp pn=>(fpv 0)))
      (pss_cons (ps_set (i:=7) sc_paper.nd rfl (Or.inl rfl) (PE.eqv (pe_call (ok_leaf (K:=K) T) (hr.mono (by omega)) rfl T.m_leaf T.F_leaf.kp T.b_leaf .nil pass0 (pa_cons (fpv 0) (pa_cons (fpv 1) (pa_cons (fpv 2) (pa_cons (fpv 3) (pa_cons (fpv 5) pa_nil)))))) (fCall_eq _ _ _)))
      (pss_cons (ps_set (i:=8) sc_paper.nd rfl (Or.inl rfl) (pe_cmpR fop_ge (PE.eqv (pe_dget2 (hu_of hr) (PE.eqv (pe_call (ok_far (K:=K) T) (hr.mono (by omega)) rfl T.m_far T.F_far.kp T.b_far .nil pass0 (pa_cons (fpv 1) (pa_cons (fpv 2) (pa_cons (pe_ix (fixQk (K:=K) rfl) (fpv 7) pe_int (fun _ _=>rfl)) pa_nil)))) (fCall_eq _ _ _)) (pe_ix (fixQk (K:=K) rfl) (fpv 7) pe_int (fun _ _=>rfl)) pe_int ⟨rfl,rfl,rfl,rfl⟩) (fDGet2_eq _ _ _)) (fpv 3) (nomark _)))
      (pss_cons (ps_if (PW.pt (pw_or (fpt_cmpR (fopEqD (K:=K) rfl hr.units) (fpv 6) (pe_lst pa_nil) (nomark _)) (pw_or (fpt_cmpR fop_eq (fpv 4) pe_int (nomark _)) (pw_or1 (PW.pt (pw_and (fpt_val (fpv 8)) (pw_and (pt_not (fpt_val (fpv 5))) (pw_and1 (fpt_cmpR fop_gt (PE.eqv (pe_call (ok_take (K:=K) T) (hr.mono (by omega)) rfl T.m_take T.F_take.kp T.b_take .nil pass0 (pa_cons (fpv 0) (pa_cons pe_int pa_nil))) (fCall_eq _ _ _)) pe_int (nomark _)))))))))) (pss_one (ps_ret (fpv 7))) pss_nil)
      (pss_cons (ps_set (i:=9) sc_paper.nd rfl (Or.inl rfl) (pe_ix (fixQk (K:=K) rfl) (fpv 6) (PE.eqv (pe_call (ok_take (K:=K) T) (hr.mono (by omega)) rfl T.m_take T.F_take.kp T.b_take .nil pass0 (pa_cons (fpv 0) (pa_cons (pe_callB (flenQk (K:=K) rfl) rfl T.nm.len PySem.boot_len (pa_cons (fpv 6) pa_nil)) pa_nil))) (fCall_eq _ _ _)) (fun _ _=>rfl)))
      (pss_cons (ps_setComp (i:=10) sc_paper.nd rfl rfl rfl rfl (show CompScope (defScope s_paper) _ ["_law_pot_here", "_law_web_here", "_law_turns", "_law_number", "_law_deep", "_law_is_long", "_law_left", "_law_leaf_here", "_law_known", "_law_tie_here", "_law_done", "_law_some", "_law_long", "_law_turn", "_law_fixed", "_law_below"] ["_law_k", "_law_turn"] [] ["_law_k", "_law_turn"] from ⟨rfl,by decide +kernel,by decide +kernel,rfl,by decide +kernel,by decide +kernel⟩) rfl (PI.eqv (pi_enum (K:=K) rfl rfl T.nm2.enumerate (pa_cons (fpv 2) pa_nil)) (fiEnum_eq _ _)) (fun C s H fp pn=>(PG.eqv (pg_tupk (K:=K) (n:=2) rfl rfl (PGs.eqv (pgs_cons (pg_name (i:=0) (show (["_law_k", "_law_turn"]:List Str).Nodup by decide +kernel) rfl (Or.inl rfl)) (PGs.eqv (pgs_cons (pg_name (i:=1) (show (["_law_k", "_law_turn"]:List Str).Nodup by decide +kernel) rfl (Or.inl rfl)) (PGs.mono pgs_nil fNil_t)) (fCons_eq _ _))) (fCons_eq _ _))) (fTup_eq _ _ _))) (fun C s H fp pn=>(pts_one (fpt_cmpR fop_ne (fpv 1) pe_int (nomark _)))) (fun C s H fp pn=>(fpv 0)))
      (pss_cons (ps_if (PW.pt (pw_and (fpt_cmpR (fopNeD (K:=K) rfl hr.units) (fpv 10) (pe_lst pa_nil) (nomark _)) (pw_and (pt_not (fpt_val (fpv 5))) (pw_and1 (fpt_cmpR fop_eq (PE.eqv (pe_call (ok_take (K:=K) T) (hr.mono (by omega)) rfl T.m_take T.F_take.kp T.b_take .nil pass0 (pa_cons (fpv 0) (pa_cons pe_int pa_nil))) (fCall_eq _ _ _)) pe_int (nomark _)))))) (pss_one (ps_set (i:=9) sc_paper.nd rfl (Or.inl rfl) (pe_ix (fixQk (K:=K) rfl) (fpv 10) (PE.eqv (pe_call (ok_take (K:=K) T) (hr.mono (by omega)) rfl T.m_take T.F_take.kp T.b_take .nil pass0 (pa_cons (fpv 0) (pa_cons (pe_callB (flenQk (K:=K) rfl) rfl T.nm.len PySem.boot_len (pa_cons (fpv 10) pa_nil)) pa_nil))) (fCall_eq _ _ _)) (fun _ _=>rfl)))) pss_nil)
      (pss_cons (ps_set (i:=11) sc_paper.nd rfl (Or.inl rfl) (pe_lst pa_nil))
      (pss_cons (ps_set (i:=12) sc_paper.nd rfl (Or.inl rfl) (PE.eqv (pe_call (ok_take (K:=K) T) (hr.mono (by omega)) rfl T.m_take T.F_take.kp T.b_take .nil pass0 (pa_cons (fpv 0) (pa_cons pe_int pa_nil))) (fCall_eq _ _ _)))
      (pss_cons (ps_for PassesOwn.never rfl (pi_tupk (K:=K) rfl (pe_tup (pa_cons pe_int (pa_cons pe_int pa_nil)))) (pg_name (i:=13) sc_paper.nd rfl (Or.inl rfl))
      (pss_cons (ps_set (i:=14) sc_paper.nd rfl (Or.inl rfl) (pe_op fop_cat (pe_op fop_cat (pe_slice (fslLk (K:=K) rfl) (fpv 2) po_none (PO.eqv (po_some (fpv 9)) (fPart_eq _))) (pe_lst (pa_cons (fpv 13) pa_nil))) (pe_slice (fslLk (K:=K) rfl) (fpv 2) (PO.eqv (po_some (pe_op fop_add (fpv 9) pe_int)) (fPart_eq _)) po_none)))
      (pss_cons (ps_set (i:=15) sc_paper.nd rfl (Or.inl rfl) (pe_op fop_sub (fpv 4) pe_int))
      (pss_cons (ps_if (PW.pt (pw_and (fpt_val (fpv 5)) (pw_and1 (fpt_cmpR fop_ne (fpv 13) (fpv 12) (nomark _))))) (pss_one (ps_set (i:=15) sc_paper.nd rfl (Or.inl rfl) pe_int)) pss_nil)
      (pss_one (ps_expr (pe_bmk (K:=K) rfl PySem.F.plainAttrs_list PySem.F.slot_list_append PySem.F.type_list_append fmt_append (fpv 11) (pa_cons (PE.eqv (pe_call ih (hr.mono (by omega)) rfl T.m_paper T.F_paper.kp T.b_paper .nil pass0 (pa_cons (fpv 0) (pa_cons (fpv 1) (pa_cons (fpv 14) (pa_cons (fpv 3) (pa_cons (fpv 15) (pa_cons (fpv 5) pa_nil))))))) (fCall_eq _ _ _)) pa_nil))))))))
      (pss_one (ps_ret (pe_tup (pa_cons pe_str (pa_cons (fpv 9) (pa_cons (pe_ix (fixQk (K:=K) rfl) (fpv 11) pe_int (fun _ _=>rfl)) (pa_cons (pe_ix (fixQk (K:=K) rfl) (fpv 11) pe_int (fun _ _=>rfl)) pa_nil))))))))))))))))),?_⟩
    have sz99:999≤sizeLine:=by decide
    have h20:=hI.G.2.2.2.2.2.len
    have nsl:=hI.len
    have hX:=hI.G.2.2.2.2.1
    simp -dsimp[cxOf,stC,-Bool.exists_bool,-List.map_take,-Prod.forall,-Prod.exists]
    refine ⟨⟨_,SqL.of hI.g⟩,fun D hD=>cmE (ns.map V.int) (fun i σ H'=>(∃o1 o2,σ=[o1,o2])∧(∃is:List Nat,H' D=some (.lst (is.map fun n:Nat=>V.int n))∧is.length≤i∧∀m∈is,m<ns.length)∧Same H H') ⟨⟨_,_,rfl⟩,⟨[],upd_same,by simp,by simp⟩,same_upd hD⟩ (fun i σ H' _ h=>SqL.of (h.2.2 _ _ hI.g)) ?_ ?_⟩
    · rintro i x tt σ H3 hi ht ⟨⟨o1,o2,rfl⟩,⟨is,hD3,hil,him⟩,s3⟩
      obtain ⟨m,hm,rfl⟩:=int_at hi
      have hi2:i<ns.length:=(List.getElem?_eq_some_iff.mp hm).1
      have st:Same H3 (upd H3 tt (.tup [.int i,.int m])):=same_upd ht
      simp -dsimp[cxOf,stC,-Bool.exists_bool,-List.map_take,-Prod.forall,-Prod.exists]
      refine ⟨_,SqT.of upd_same,rfl,?_⟩
      have hD4:=st _ _ hD3
      have s4:=s3.trans st
      generalize upd H3 tt (.tup [.int i,.int m])=H4 at hD4 s4 ⊢
      simp -dsimp[cxOf,stC,-Bool.exists_bool,-List.map_take,-Prod.forall,-Prod.exists]
      refine tBr.of (fun h=>?_) (fun h=>?_)
      · simp -dsimp[cxOf,stC,-Bool.exists_bool,-List.map_take,-Prod.forall,-Prod.exists]
        exact ⟨_,hD4,by simp;omega,⟨is++[i],by rw [upd_same];simp,by simp;omega,fun z hz=>by
          rcases List.mem_append.mp hz with hz | hz
          ·exact him z hz
          · simp at hz
            omega⟩,same_upd2 s4 hD⟩
      · simp -dsimp[cxOf,stC,-Bool.exists_bool,-List.map_take,-Prod.forall,-Prod.exists]
        exact ⟨⟨is,hD4,by omega,him⟩,s4⟩
    · rintro σ H1 ⟨⟨o1,o2,rfl⟩,⟨is,hD1,hil,him⟩,s1⟩
      have I1:=hI.same s1
      have P1:Pot H1 p:=by obtain ⟨u1,u2,u3,u4⟩:=hp;exact ⟨u1,u2,s1 _ _ u3,u4⟩
      simp -dsimp[cxOf,stC,-Bool.exists_bool,-List.map_take,-Prod.forall,-Prod.exists]
      refine ⟨p,t,n,l,g,N,b,xs,tv,ps,ns,rfl,P1,I1,hne,h99,fun v H2 hv P2 B2=>?_⟩
      have Dp:D≠p:=hp.nl hD
      have hD2:=B2 _ _ Dp hD1
      have I2:=I1.but P1 B2 hne
      obtain ⟨tl,x,y,rfl,hx,hy,htl⟩:=id hv
      simp -dsimp[cxOf,stC,-Bool.exists_bool,-List.map_take,-Prod.forall,-Prod.exists]
      refine ⟨_,.inr (SqT.of htl),_,atI_nat (j:=1) rfl,t,n,l,g,xs,tv,ps,ns,x,rfl,I2.G,I2.g,I2.len,I2.v,hx,fun fd kvs Dd H3 hfd hfd2 hDN hKO hDD s3=>?_⟩
      simp -dsimp[cxOf,stC,-Bool.exists_bool,-List.map_take,-Prod.forall,-Prod.exists]
      refine ⟨isD hfd2,_,.inr (SqT.of (s3 _ _ htl)),_,atI_nat (j:=2) rfl,_,getS y hfd2,?_⟩
      obtain ⟨z,hz⟩:∃z:Int,(valV kvs (Sum.inr y)).getD (V.int 99) = .int z:=by
        rw [hDN y]
        cases Dd y <;> exact ⟨_,rfl⟩
      rw [hz]
      have P3:Pot H3 p:=by obtain ⟨u1,u2,u3,u4⟩:=P2;exact ⟨u1,u2,s3 _ _ u3,u4⟩
      have B3:But p H H3:=(But.of s1).trans (B2.same s3)
      have hv3:=hv.same s3
      have hD3:=s3 _ _ hD2
      have I3:=I2.same s3
      simp -dsimp[cxOf,stC,-Bool.exists_bool,-List.map_take,-Prod.forall,-Prod.exists]
      intro p4 hp4
      generalize hR:tSeq (tAsg (tOp (fIxQ K) (fVar 6) _) (gName 9)) _ _=R
      have s4:Same H3 (upd H3 p4 (.lst [])):=same_upd hp4
      have e4:upd H3 p4 (.lst []) p4=some (.lst []):=upd_same
      generalize upd H3 p4 (.lst [])=H4 at s4 e4 ⊢
      have rest:∀H5,j≠0→is≠[]→Pot H5 p→But p H3 H5→R [some (.ref p),some (.ref t),some (.ref g),some (.int N),some (.int j),some (.bl b),some (.ref D),some (.ref tl),some (.bl (decide ((N:Int)≤z))),none,none,none,none,none,none,none] H5:=by
        intro H5 hj0 his P5 B5
        rw [← hR]
        have hD5:=B5 _ _ Dp hD3
        have I5:=I3.but P3 B5 hne
        have hl0:0<is.length:=List.length_pos_iff.mpr his
        have hil:is.length≤ns.length:=by simpa using hil
        simp -dsimp[cxOf,stC,-Bool.exists_bool,-List.map_take,-Prod.forall,-Prod.exists]
        refine ⟨_,.inl (SqL.of hD5),p,_,rfl,P5,by simp;omega,by simp;omega,fun d H6 h0 h1 P6 B6=>?_⟩
        obtain ⟨m,rfl⟩:=Int.eq_ofNat_of_zero_le h0
        have hm:m<is.length:=by simp at h1;omega
        have hD6:=B6 _ _ Dp hD5
        have I6:=I5.but P5 B6 hne
        have hel:is[m]<ns.length:=him _ (List.getElem_mem hm)
        simp -dsimp[cxOf,stC,-Bool.exists_bool,-List.map_take,-Prod.forall,-Prod.exists]
        refine ⟨_,.inl (SqL.of hD6),.int ((is[m]:Nat):Int),atI_nat (j:=m) (by rw [List.getElem?_map,List.getElem?_eq_getElem hm];rfl),?_⟩
        generalize is[m]=e at hel ⊢
        refine ⟨⟨_,SqL.of I6.g⟩,fun C hC=>cmE (ns.map V.int) (fun i σ H'=>(∃o1 o2,σ=[o1,o2])∧(∃js:List Nat,H' C=some (.lst (js.map fun n:Nat=>V.int n))∧js.length≤i∧∀m∈js,m<ns.length)∧Same H6 H') ⟨⟨_,_,rfl⟩,⟨[],upd_same,by simp,by simp⟩,same_upd hC⟩ (fun i σ H' _ h=>SqL.of (h.2.2 _ _ I6.g)) ?_ ?_⟩
        · rintro i x tt σ H7 hi ht ⟨⟨o1,o2,rfl⟩,⟨js,hC7,hjl,hjm⟩,s7⟩
          obtain ⟨u,hu,rfl⟩:=int_at hi
          have hi2:i<ns.length:=(List.getElem?_eq_some_iff.mp hu).1
          have st:Same H7 (upd H7 tt (.tup [.int i,.int u])):=same_upd ht
          simp -dsimp[cxOf,stC,-Bool.exists_bool,-List.map_take,-Prod.forall,-Prod.exists]
          refine ⟨_,SqT.of upd_same,rfl,?_⟩
          have hC8:=st _ _ hC7
          have s8:=s7.trans st
          generalize upd H7 tt (.tup [.int i,.int u])=H8 at hC8 s8 ⊢
          simp -dsimp[cxOf,stC,-Bool.exists_bool,-List.map_take,-Prod.forall,-Prod.exists]
          by_cases hu2:u=2
          · refine ⟨false,by simp [hu2],tBr.neg rfl ?_⟩
            simp -dsimp[cxOf,stC,-Bool.exists_bool,-List.map_take,-Prod.forall,-Prod.exists]
            exact ⟨⟨js,hC8,by omega,hjm⟩,s8⟩
          · refine ⟨true,by simp [hu2],tBr.pos rfl ?_⟩
            simp -dsimp[cxOf,stC,-Bool.exists_bool,-List.map_take,-Prod.forall,-Prod.exists]
            exact ⟨_,hC8,by simp;omega,⟨js++[i],by rw [upd_same];simp,by simp;omega,fun z hz=>by
              rcases List.mem_append.mp hz with hz | hz
              ·exact hjm z hz
              · simp at hz
                omega⟩,same_upd2 s8 hC⟩
        · rintro σ H7 ⟨⟨o1,o2,rfl⟩,⟨js,hC7,hjl,hjm⟩,s7⟩
          have P7:Pot H7 p:=by obtain ⟨u1,u2,u3,u4⟩:=P6;exact ⟨u1,u2,s7 _ _ u3,u4⟩
          have B7:But p H H7:=(B3.trans (B5.trans B6)).same s7
          have I7:=I6.same s7
          have Cp:C≠p:=P6.nl hC
          simp -dsimp[cxOf,stC,-Bool.exists_bool,-List.map_take,-Prod.forall,-Prod.exists]
          intro p8 hp8
          generalize hR2:tSeq (tAsg (tLst tNil) (gName 11)) _ _=R2
          have s8:Same H7 (upd H7 p8 (.lst [])):=same_upd hp8
          have e8:upd H7 p8 (.lst []) p8=some (.lst []):=upd_same
          generalize upd H7 p8 (.lst [])=H8 at s8 e8 ⊢
          have rest2:∀H9 (e:Nat),e<ns.length→Pot H9 p→But p H7 H9→R2 [some (.ref p),some (.ref t),some (.ref g),some (.int N),some (.int j),some (.bl b),some (.ref D),some (.ref tl),some (.bl (decide ((N:Int)≤z))),some (.int e),some (.ref C),none,none,none,none,none] H9:=by
            intro H9 e hel P9 B9
            rw [← hR2]
            have I9:=I7.but P7 B9 hne
            have B9:=B7.trans B9
            obtain ⟨j1,hj1⟩:∃j1,j=j1+1:=⟨j - 1,by omega⟩
            have hjj:(j:Int) - 1=(j1:Int):=by omega
            obtain ⟨k1,rfl⟩:∃k1,k=k1+1:=⟨k - 1,by omega⟩
            simp -dsimp[cxOf,stC,-Bool.exists_bool,-List.map_take,-Prod.forall,-Prod.exists]
            intro c hc
            have t1:Same H9 (upd H9 c (.lst [])):=same_upd hc
            have f1:upd H9 c (.lst []) c=some (.lst []):=upd_same
            generalize upd H9 c (.lst [])=Ha at t1 f1 ⊢
            have Pa:Pot Ha p:=by obtain ⟨u1,u2,u3,u4⟩:=P9;exact ⟨u1,u2,t1 _ _ u3,u4⟩
            have Ia:=I9.same t1
            have cp:c≠p:=P9.nl hc
            refine ⟨p,_,rfl,Pa,by omega,by omega,fun lg Hb h0 h1 Pb Bb=>?_⟩
            have cb:=Bb _ _ cp f1
            have Ib:=Ia.but Pa Bb hne
            simp -dsimp[cxOf,stC,-Bool.exists_bool,-List.map_take,-Prod.forall,-Prod.exists]
            intro tq htq
            have t2:Same Hb (upd Hb tq (.tup [.int 0,.int 1])):=same_upd htq
            have f2:upd Hb tq (.tup [.int 0,.int 1]) tq=some (.tup [.int 0,.int 1]):=upd_same
            generalize upd Hb tq (.tup [.int 0,.int 1])=Hc at t2 f2 ⊢
            have Pc:Pot Hc p:=by obtain ⟨u1,u2,u3,u4⟩:=Pb;exact ⟨u1,u2,t2 _ _ u3,u4⟩
            have Bc:But p H Hc:=(((B9.same t1).trans Bb).same t2)
            have Ic:=Ib.same t2
            have qp:tq≠p:=Pb.nl htq
            let lk:Nat→Nat:=fun i=>if b=true∧(i:Int)≠lg then 300 else lenP b j1
            have cq:tq≠c:=fun z=>by subst z;rw [cb] at htq;cases htq
            have B9c:But p H9 Hc:=((But.of t1).trans Bb).same t2
            refine ⟨⟨_,SqT.of f2⟩,frT [.int 0,.int 1] (fun i σ H'=>(∃o13 o14 o15,σ=[some (.ref p),some (.ref t),some (.ref g),some (.int N),some (.int j),some (.bl b),some (.ref D),some (.ref tl),some (.bl (decide ((N:Int)≤z))),some (.int e),some (.ref C),some (.ref c),some (.int lg),o13,o14,o15])∧(∃L,H' c=some (.lst L)∧L.length=i∧∀m v,L[m]? = some v→∃d,ThK H' d v∧PapF j (lk m) d)∧Pot H' p∧But p H9 H'∧H' tq=some (.tup [.int 0,.int 1])) ⟨⟨_,_,_,rfl⟩,⟨[],t2 _ _ cb,rfl,by simp⟩,Pc,B9c,f2⟩ (fun i σ H' _ h=>SqT.of h.2.2.2.2) ?_ ?_⟩
            · rintro i x σ Hd hx ⟨⟨o13,o14,o15,rfl⟩,⟨L,hL,hLi,hLd⟩,Pd,Bd,qd⟩
              obtain ⟨hi1,rfl⟩:=two_at hx
              have Id:=I9.but P9 Bd hne
              simp -dsimp[cxOf,stC,-Bool.exists_bool,-List.map_take,-Prod.forall,-Prod.exists]
              refine ⟨_,SqL.of Id.g,fun p1 hq1=>?_⟩
              rw [cut_to]
              have v1:Same Hd (upd Hd p1 (.lst ((ns.map V.int).take e))):=same_upd hq1
              have w1:upd Hd p1 (.lst ((ns.map V.int).take e)) p1=some (.lst ((ns.map V.int).take e)):=upd_same
              generalize upd Hd p1 (.lst ((ns.map V.int).take e))=J1 at v1 w1 ⊢
              intro p2 hq2
              have v2:Same J1 (upd J1 p2 (.lst [.int (i:Int)])):=same_upd hq2
              have w2:upd J1 p2 (.lst [.int (i:Int)]) p2=some (.lst [.int (i:Int)]):=upd_same
              generalize upd J1 p2 (.lst [.int (i:Int)])=J2 at v2 w2 ⊢
              refine ⟨_,v2 _ _ w1,_,w2,by simp;omega,fun p3 hq3=>?_⟩
              have v3:Same J2 (upd J2 p3 (.lst ((ns.map V.int).take e++[.int (i:Int)]))):=same_upd hq3
              have w3:upd J2 p3 (.lst ((ns.map V.int).take e++[.int (i:Int)])) p3=some (.lst ((ns.map V.int).take e++[.int (i:Int)])):=upd_same
              generalize upd J2 p3 (.lst ((ns.map V.int).take e++[.int (i:Int)]))=J3 at v3 w3 ⊢
              refine ⟨_,SqL.of (v3 _ _ (v2 _ _ (v1 _ _ Id.g))),fun p4 hq4=>?_⟩
              rw [show ((e:Int)+1)=((e+1:Nat):Int) by omega]
              rw [cut_from]
              have v4:Same J3 (upd J3 p4 (.lst ((ns.map V.int).drop (e+1)))):=same_upd hq4
              have w4:upd J3 p4 (.lst ((ns.map V.int).drop (e+1))) p4=some (.lst ((ns.map V.int).drop (e+1))):=upd_same
              generalize upd J3 p4 (.lst ((ns.map V.int).drop (e+1)))=J4 at v4 w4 ⊢
              refine ⟨_,v4 _ _ w3,_,w4,by simp;omega,fun p5 hq5=>?_⟩
              rw [set_parts ns hel]
              have v5:Same J4 (upd J4 p5 (.lst ((ns.set e i).map V.int))):=same_upd hq5
              have w5:upd J4 p5 (.lst ((ns.set e i).map V.int)) p5=some (.lst ((ns.set e i).map V.int)):=upd_same
              generalize upd J4 p5 (.lst ((ns.set e i).map V.int))=J5 at v5 w5 ⊢
              have T5:Same Hd J5:=((v1.trans v2).trans (v3.trans v4)).trans v5
              have n5:p5≠p:=Pd.nl (fresh_of ((v1.trans v2).trans (v3.trans v4)) hq5)
              have P5':Pot J5 p:=by obtain ⟨u1,u2,u3,u4⟩:=Pd;exact ⟨u1,u2,T5 _ _ u3,u4⟩
              rw [hjj]
              generalize hR3:tDrop (tBM K "list" fAppend (fVar 11) _) _=R3
              have call3:∀jb:Nat,jb≤j1→lenP b jb≤lk i→R3 [some (.ref p),some (.ref t),some (.ref g),some (.int N),some (.int j),some (.bl b),some (.ref D),some (.ref tl),some (.bl (decide ((N:Int)≤z))),some (.int e),some (.ref C),some (.ref c),some (.int lg),some (.int (i:Int)),some (.ref p5),some (.int (jb:Int))] J5:=by
                intro jb hjb hlk
                rw [← hR3]
                simp -dsimp[cxOf,stC,-Bool.exists_bool,-List.map_take,-Prod.forall,-Prod.exists]
                refine ⟨⟨_,SqL.of (T5 _ _ hL)⟩,k1,rfl,p,t,n,l,p5,N,b,jb,xs,tv,ps,ns.set e i,rfl,by omega,P5',⟨(Id.same T5).G,w5,by rw [List.length_set];exact hI.len,fun w hw=>?_⟩,⟨hne.1,hne.2.1,n5⟩,h99,fun d v He hd hpap Pe Be=>?_⟩
                · rcases List.mem_or_eq_of_mem_set hw with y | y
                  ·exact hI.v w y
                  ·omega
                · have ce:=Be _ _ cp (T5 _ _ hL)
                  have kp:L2.TupKeep He (upd He c (.lst (L++[v]))):=L2.TupKeep.set ce (by intro z e;cases e)
                  have kd:L2.TupKeep Hd He:=fun b' zs h'=>but_tk P5' Be b' zs (T5 _ _ h')
                  simp -dsimp[cxOf,stC,-Bool.exists_bool,-List.map_take,-Prod.forall,-Prod.exists]
                  refine ⟨_,ce,by omega,⟨_,upd_same,by simp [hLi],fun m u hu=>?_⟩,Pe.upd cp.symm,fun b' o hb' h'=>?_,kp _ _ (kd _ _ qd)⟩
                  · rcases Nat.lt_or_ge m L.length with y | y
                    · rw [List.getElem?_append_left y] at hu
                      obtain ⟨d',h1',h2'⟩:=hLd m u hu
                      exact ⟨d',(h1'.keep kd).keep kp,h2'⟩
                    · rw [List.getElem?_append_right y] at hu
                      have:m=L.length:=by
                        have:=(List.getElem?_eq_some_iff.mp hu).1
                        simp at this
                        omega
                      subst this
                      simp at hu
                      subst hu
                      exact ⟨d,hd.keep kp,(hpap.mono (by omega) (by rw [hLi];exact hlk))⟩
                  · have hbc:b'≠c:=fun z=>by subst z;rw [hc] at h';cases h'
                    rw [upd_ne hbc]
                    exact Be _ _ hb' (T5 _ _ (Bd _ _ hb' h'))
              refine tBr.of (fun hb=>?_) (fun hb=>?_)
              · simp -dsimp[cxOf,stC,-Bool.exists_bool,-List.map_take,-Prod.forall,-Prod.exists]
                by_cases hlg:(i:Int)=lg
                · refine ⟨false,by simp [hlg],tBr.neg rfl ?_⟩
                  simp -dsimp[cxOf,stC,-Bool.exists_bool,-List.map_take,-Prod.forall,-Prod.exists]
                  exact call3 j1 (Nat.le_refl _) (by show _≤ite _ _ _;rw [if_neg (fun z=>z.2 hlg)];exact Nat.le_refl _)
                · refine ⟨true,by simp [hlg],tBr.pos rfl ?_⟩
                  simp -dsimp[cxOf,stC,-Bool.exists_bool,-List.map_take,-Prod.forall,-Prod.exists]
                  exact call3 0 (by omega) (by show _≤ite _ _ _;rw [if_pos ⟨hb,hlg⟩,lenP_0];exact Nat.le_refl _)
              · simp -dsimp[cxOf,stC,-Bool.exists_bool,-List.map_take,-Prod.forall,-Prod.exists]
                exact call3 j1 (Nat.le_refl _) (by show _≤ite _ _ _;rw [if_neg (fun z=>by rw [z.1] at hb;cases hb)];exact Nat.le_refl _)
            · rintro σ Hd ⟨⟨o13,o14,o15,rfl⟩,⟨L,hL,hLi,hLd⟩,Pd,Bd,qd⟩
              obtain ⟨a0,a1,rfl⟩:∃a0 a1,L=[a0,a1]:=by
                rcases L with _ | ⟨a0,_ | ⟨a1,_ | ⟨a2,L⟩⟩⟩
                ·cases hLi
                ·cases hLi
                ·exact ⟨_,_,rfl⟩
                ·simp at hLi
              obtain ⟨d0,g0,k0⟩:=hLd 0 a0 rfl
              obtain ⟨d1,g1,k1'⟩:=hLd 1 a1 rfl
              simp -dsimp[cxOf,stC,-Bool.exists_bool,-List.map_take,-Prod.forall,-Prod.exists]
              refine ⟨_,.inl (SqL.of hL),_,atI_nat (j:=0) rfl,_,.inl (SqL.of hL),_,atI_nat (j:=1) rfl,fun r hr=>?_⟩
              have sr:Same Hd (upd Hd r (.tup [.str (Str.ofString "fork"),.int (e:Int),a0,a1])):=same_upd hr
              have er:upd Hd r (.tup [.str (Str.ofString "fork"),.int (e:Int),a0,a1]) r=some (.tup [.str (Str.ofString "fork"),.int (e:Int),a0,a1]):=upd_same
              have Pr:Pot (upd Hd r (.tup [.str (Str.ofString "fork"),.int (e:Int),a0,a1])) p:=Pd.upd (Pd.ne hr)
              generalize upd Hd r (.tup [.str (Str.ofString "fork"),.int (e:Int),a0,a1])=He at sr er Pr ⊢
              have hfk:∀c∈(Str.ofString "fork").cps.toList,c<16 ^ 8:=by decide +kernel
              have hfl:(Str.ofString "fork").length=4:=by decide +kernel
              have hln:lk 0+lk 1+200≤lenP b j:=by
                show ite _ _ _+ite _ _ _+200≤_
                have hpw:2 ^ j=2 * 2 ^ j1:=by rw [hj1,Nat.pow_succ];omega
                have hp1:=Nat.one_le_two_pow (n:=j1)
                cases b with
                | false=>
                  simp [lenP]
                  omega
                | true=>
                  have:lg=0∨lg=1:=by omega
                  rcases this with rfl | rfl
                  · simp [lenP]
                    omega
                  · simp [lenP]
                    omega
              refine q (.tuple [.str (Str.ofString "fork"),.int (e:Int),d0,d1]) _ He (fun H2 kp=>?_) (.inr ⟨rfl,⟨rfl,rfl,fun z=>by simp at z,fun _ _=>trivial⟩,lk 0+lk 1+180,by omega,42,lk 0+lk 1+120,PapF.leaf (lf_str hfk (by omega) (by omega)),⟨100,lk 0+lk 1+10,pap_int (by omega),⟨lk 0,lk 1+5,k0,⟨lk 1,0,k1',trivial,by omega⟩,by omega⟩,by omega⟩,by omega⟩) Pr ((B9.trans Bd).same sr)
              simp only [ThgX,ThgXAll]
              have k2:L2.TupKeep Hd H2:=fun c' zs h'=>kp _ _ (sr _ _ h')
              exact ⟨r,_,rfl,kp _ _ er,_,_,rfl,rfl,_,_,rfl,rfl,_,_,rfl,g0 _ k2,_,_,rfl,g1 _ k2,rfl⟩
          have P8:Pot H8 p:=by obtain ⟨u1,u2,u3,u4⟩:=P7;exact ⟨u1,u2,s8 _ _ u3,u4⟩
          have B8:But p H7 H8:=But.of s8
          have hjl:js.length≤ns.length:=by simpa using hjl
          obtain ⟨ds,d1,d2,d3,d4⟩:=is_nats (K:=K) (H:=H8) js
          refine ⟨.list ds,⟨C,_,rfl,SqL.of (s8 _ _ hC7),d1⟩,.list [],⟨p8,_,rfl,SqL.of e8,rfl⟩,by simpa [PyData.canLay0] using d2,by simp [PyData.canLay0,PyData.canLayAll0],by simp [PyData.depth];omega,!decide (js=[]),by rw [nil_eqv d4];simp,?_⟩
          refine tBr.of (fun h=>?_) (fun h=>?_)
          · have hj0:0<js.length:=List.length_pos_iff.mpr (by simpa using h)
            simp -dsimp[cxOf,stC,-Bool.exists_bool,-List.map_take,-Prod.forall,-Prod.exists]
            refine tBr.of (fun h=>?_) (fun h=>?_)
            · simp -dsimp[cxOf,stC,-Bool.exists_bool,-List.map_take,-Prod.forall,-Prod.exists]
              refine ⟨p,_,rfl,P8,by omega,by omega,fun d Ha h0 h1 Pa Ba=>?_⟩
              simp -dsimp[cxOf,stC,-Bool.exists_bool,-List.map_take,-Prod.forall,-Prod.exists]
              refine tBr.of (fun h=>?_) (fun h=>?_)
              · simp -dsimp[cxOf,stC,-Bool.exists_bool,-List.map_take,-Prod.forall,-Prod.exists]
                refine ⟨_,.inl (SqL.of (Ba _ _ Cp (s8 _ _ hC7))),p,_,rfl,Pa,by simp;omega,by simp;omega,fun d Hb h0 h1 Pb Bb=>?_⟩
                obtain ⟨u,rfl⟩:=Int.eq_ofNat_of_zero_le h0
                have hu:u<js.length:=by simp at h1;omega
                simp -dsimp[cxOf,stC,-Bool.exists_bool,-List.map_take,-Prod.forall,-Prod.exists]
                refine ⟨_,.inl (SqL.of (Bb _ _ Cp (Ba _ _ Cp (s8 _ _ hC7)))),.int ((js[u]:Nat):Int),atI_nat (j:=u) (by rw [List.getElem?_map,List.getElem?_eq_getElem hu];rfl),?_⟩
                exact rest2 _ _ (hjm _ (List.getElem_mem hu)) Pb ((B8.trans Ba).trans Bb)
              · simp -dsimp[cxOf,stC,-Bool.exists_bool,-List.map_take,-Prod.forall,-Prod.exists]
                exact rest2 _ _ hel Pa (B8.trans Ba)
            · simp -dsimp[cxOf,stC,-Bool.exists_bool,-List.map_take,-Prod.forall,-Prod.exists]
              exact rest2 _ _ hel P8 B8
          · simp -dsimp[cxOf,stC,-Bool.exists_bool,-List.map_take,-Prod.forall,-Prod.exists]
            exact rest2 _ _ hel P8 B8
      have leaf:∀H5,Pot H5 p→But p H3 H5→Q (.ref tl) H5:=fun H5 P5 B5=>by
        obtain ⟨d,hd1,hd2⟩:=(hv3.but P3 B5).thg hX b j
        exact q d _ H5 hd1 hd2 P5 (B3.trans B5)
      have P4:Pot H4 p:=by obtain ⟨u1,u2,u3,u4⟩:=P3;exact ⟨u1,u2,s4 _ _ u3,u4⟩
      have B4:But p H3 H4:=But.of s4
      obtain ⟨ds,d1,d2,d3,d4⟩:=is_nats (K:=K) (H:=H4) is
      refine ⟨.list ds,⟨D,_,rfl,SqL.of (s4 _ _ hD3),d1⟩,.list [],⟨p4,_,rfl,SqL.of e4,rfl⟩,by simpa [PyData.canLay0] using d2,by simp [PyData.canLay0,PyData.canLayAll0],by simp [PyData.depth];omega,?_⟩
      rw [nil_eqv d4]
      refine tBr.of (fun h=>?_) (fun h=>?_)
      · simp -dsimp[cxOf,stC,-Bool.exists_bool,-List.map_take,-Prod.forall,-Prod.exists]
        exact leaf _ P4 B4
      · have his:is≠[]:=of_decide_eq_false h
        simp -dsimp[cxOf,stC,-Bool.exists_bool,-List.map_take,-Prod.forall,-Prod.exists]
        refine tBr.of (fun h=>?_) (fun h=>?_)
        · simp -dsimp[cxOf,stC,-Bool.exists_bool,-List.map_take,-Prod.forall,-Prod.exists]
          exact leaf _ P4 B4
        · have hj0:j≠0:=of_decide_eq_false h
          simp -dsimp[cxOf,stC,-Bool.exists_bool,-List.map_take,-Prod.forall,-Prod.exists]
          refine tBr.of (fun h=>?_) (fun h=>?_)
          · simp -dsimp[cxOf,stC,-Bool.exists_bool,-List.map_take,-Prod.forall,-Prod.exists]
            refine tBr.of (fun h=>?_) (fun h=>?_)
            · simp -dsimp[cxOf,stC,-Bool.exists_bool,-List.map_take,-Prod.forall,-Prod.exists]
              refine ⟨p,_,rfl,P4,by omega,by omega,fun d H5 h0 h1 P5 B5=>?_⟩
              simp -dsimp[cxOf,stC,-Bool.exists_bool,-List.map_take,-Prod.forall,-Prod.exists]
              refine tBr.of (fun h=>?_) (fun h=>?_)
              · simp -dsimp[cxOf,stC,-Bool.exists_bool,-List.map_take,-Prod.forall,-Prod.exists]
                exact leaf _ P5 (B4.trans B5)
              · simp -dsimp[cxOf,stC,-Bool.exists_bool,-List.map_take,-Prod.forall,-Prod.exists]
                exact rest _ hj0 his P5 (B4.trans B5)
            · simp -dsimp[cxOf,stC,-Bool.exists_bool,-List.map_take,-Prod.forall,-Prod.exists]
              exact rest _ hj0 his P4 B4
          · simp -dsimp[cxOf,stC,-Bool.exists_bool,-List.map_take,-Prod.forall,-Prod.exists]
            exact rest _ hj0 his P4 B4
theorem ok_paper (T:Txt K mg a):∀k,FnOk P w K mg base CX0 (k+4) a.f_paper a.fd_paper ["_law_pot_here", "_law_web_here", "_law_turns", "_law_number", "_law_deep", "_law_is_long"] (sp_paper k)
  | 0=>paper_made T (FnOk.no.imp fun vs H Q E h=>by obtain ⟨j,h,_⟩:=h;cases h)
  | k+1=>paper_made T ((ok_paper T k).imp fun vs H Q E h=>by obtain ⟨j,h,z⟩:=h;cases h;exact z)
theorem LfP.lit {d:PyData} (h:flD d=true∨d = .dict []) (s:d.showable=true∧d.depth≤1∧d.shown.length≤20) (n:Nat) (hn:20≤n) (hx:∀x,d≠.str x):LfP n d:=⟨h,⟨s.1,s.2.1,Nat.le_trans s.2.2 hn⟩,fun x e=>(hx x e).elim⟩
theorem PapF.t1 {k:Nat} {x:Str} (hx:LfP 50 (.str x)):PapF (k+1) 300 (.tuple [.str x]):=.inr ⟨rfl,rfl,297,by omega,50,0,PapF.leaf hx,trivial,by omega⟩
theorem PapF.t2 {k:Nat} {x:Str} {d:PyData} (hx:LfP 50 (.str x)) (hd:LfP 50 d) (hf:flD d=true):PapF (k+1) 300 (.tuple [.str x,d]):=.inr ⟨rfl,⟨rfl,hf,fun h=>by simp at h,fun c hc=>by cases hc⟩,297,by omega,50,102,PapF.leaf hx,⟨50,0,PapF.leaf hd,trivial,by omega⟩,by omega⟩
theorem PapF.t3 {k:Nat} {x:Str} {d e:PyData} (hx:LfP 50 (.str x)) (hd:LfP 50 d) (hf:flD d=true) (he:LfP 50 e) (hfe:flD e=true):PapF (k+1) 300 (.tuple [.str x,d,e]):=.inr ⟨rfl,⟨rfl,hf,fun _ c hc=>by simp at hc;rw [hc];exact hfe,fun _ _=>trivial⟩,297,by omega,50,104,PapF.leaf hx,⟨50,52,PapF.leaf hd,⟨50,0,PapF.leaf he,trivial,by omega⟩,by omega⟩,by omega⟩
theorem lf_lit (x:String) (hx:∀c∈(Str.ofString x).cps.toList,c<16 ^ 8) (hs:(Str.ofString x).length≤4) {n:Nat} (hn:42≤n):LfP n (.str (Str.ofString x)):=lf_str hx (by omega) (by omega)
theorem lf_name {x:Str} (h:nameB x=true) {n:Nat} (hn:42≤n):LfP n (.str x):=by
  have:=(Ltr.name h).ln
  exact lf_str (Ltr.name h).cp (by omega) (by omega)
theorem lf_i {i:Int} (h0:0≤i) (h1:i≤20):LfP 100 (.int i):=⟨.inl rfl,(sml_few h0 h1).mono (by omega) (Nat.le_refl _),fun x e=>by cases e⟩
theorem lf_far {n:Nat} (hn:42≤n):LfP n (.str (Str.ofString "far")):=lf_lit "far" (by decide +kernel) (by decide +kernel) hn
theorem lf_fork {n:Nat} (hn:42≤n):LfP n (.str (Str.ofString "fork")):=lf_lit "fork" (by decide +kernel) (by decide +kernel) hn
theorem lf_near {n:Nat} (hn:42≤n):LfP n (.str (Str.ofString "near")):=lf_lit "near" (by decide +kernel) (by decide +kernel) hn
theorem lf_zzzz {n:Nat} (hn:42≤n):LfP n (.str (Str.ofString "zzzz")):=lf_lit "zzzz" (by decide +kernel) (by decide +kernel) hn
theorem lf_z {n:Nat} (hn:42≤n):LfP n (.str (Str.ofString "0")):=lf_lit "0" (by decide +kernel) (by decide +kernel) hn
theorem lf_non:LfP 50 .none:=.lit (.inl rfl) ⟨by decide +kernel,by decide +kernel,by decide +kernel⟩ 50 (by omega) (by intro x e;cases e)
theorem lf_bl (b:Bool):LfP 50 (.bool b):=.lit (.inl rfl) (by cases b <;> exact ⟨by decide +kernel,by decide +kernel,by decide +kernel⟩) 50 (by omega) (by intro x e;cases e)
theorem lf_0:LfP 50 (.int 0):=.lit (.inl rfl) ⟨by decide +kernel,by decide +kernel,by decide +kernel⟩ 50 (by omega) (by intro x e;cases e)
theorem lf_3:LfP 50 (.int 3):=.lit (.inl rfl) ⟨by decide +kernel,by decide +kernel,by decide +kernel⟩ 50 (by omega) (by intro x e;cases e)
theorem lf_m:LfP 50 (.int (-1)):=.lit (.inl rfl) ⟨by decide +kernel,by decide +kernel,by decide +kernel⟩ 50 (by omega) (by intro x e;cases e)
theorem lf_dic:LfP 50 (.dict []):=.lit (.inr rfl) ⟨by decide +kernel,by decide +kernel,by decide +kernel⟩ 50 (by omega) (by intro x e;cases e)
theorem od10 {σ:St} {H:Hp} {p:Addr} {x:Str} (hx:nameB x=true) (h:σ[3]? = some (some (.str x))):XEs (PapF 1 300) p 10 (tCons (tC .non) (tCons (tC (.bl true)) (tCons (tC (.int 0)) (tCons (tC (.str (Str.ofString "far"))) (tCons (tTup tNil) (tCons (tTup (tCons (tC (.str (Str.ofString "far"))) tNil)) (tCons (tTup (tCons (tC (.str (Str.ofString "far"))) (tCons (tC (.str (Str.ofString "zzzz"))) (tCons (fVar 3) tNil)))) (tCons (tTup (tCons (tC (.str (Str.ofString "far"))) (tCons (fVar 3) (tCons (tC (.int 3)) tNil)))) (tCons tDNewK (tCons (tTup (tCons (tC (.str (Str.ofString "fork"))) (tCons (tC (.int 0)) tNil))) tNil)))))))))) σ H:=
  xes_cons xd_non (PapF.leaf (lf_non.mono (by omega))) (xes_cons xd_bl (PapF.leaf ((lf_bl _).mono (by omega))) (xes_cons xd_int (PapF.leaf (lf_0.mono (by omega))) (xes_cons xd_str (PapF.leaf (lf_far (by omega))) (xes_cons (xd_tup xds_nil (by simp)) (.inr ⟨rfl,trivial,0,by omega,trivial⟩) (xes_cons (xd_tup (xds_cons xd_str xds_nil) (by simp)) (PapF.t1 (lf_far (by omega))) (xes_cons (xd_tup (xds_cons xd_str (xds_cons xd_str (xds_cons (xd_svar h) xds_nil))) (by simp)) (PapF.t3 (lf_far (by omega)) (lf_zzzz (by omega)) rfl (lf_name hx (by omega)) rfl) (xes_cons (xd_tup (xds_cons xd_str (xds_cons (xd_svar h) (xds_cons xd_int xds_nil))) (by simp)) (PapF.t3 (lf_far (by omega)) (lf_name hx (by omega)) rfl lf_3 rfl) (xes_cons xd_empty (PapF.leaf (lf_dic.mono (by omega))) (xes_cons (xd_tup (xds_cons xd_str (xds_cons xd_int xds_nil)) (by simp)) (PapF.t2 (lf_fork (by omega)) lf_0 rfl) xes_nil)))))))))
theorem od3 {σ:St} {H:Hp} {p:Addr} {x y:Str} (hx:nameB x=true) (hy:nameB y=true) (h:σ[3]? = some (some (.str x))) (k:σ[4]? = some (some (.str y))):XEs (PapF 1 300) p 3 (tCons (tTup (tCons (tC (.str (Str.ofString "far"))) (tCons (fVar 3) (tCons (fVar 3) tNil)))) (tCons (tTup (tCons (tC (.str (Str.ofString "near"))) (tCons (fVar 3) (tCons (fVar 4) tNil)))) (tCons (tTup (tCons (tC (.str (Str.ofString "far"))) (tCons (fVar 3) (tCons (fVar 4) tNil)))) tNil))) σ H:=
  xes_cons (xd_tup (xds_cons xd_str (xds_cons (xd_svar h) (xds_cons (xd_svar h) xds_nil))) (by simp)) (PapF.t3 (lf_far (by omega)) (lf_name hx (by omega)) rfl (lf_name hx (by omega)) rfl) (xes_cons (xd_tup (xds_cons xd_str (xds_cons (xd_svar h) (xds_cons (xd_svar k) xds_nil))) (by simp)) (PapF.t3 (lf_near (by omega)) (lf_name hx (by omega)) rfl (lf_name hy (by omega)) rfl) (xes_cons (xd_tup (xds_cons xd_str (xds_cons (xd_svar h) (xds_cons (xd_svar k) xds_nil))) (by simp)) (PapF.t3 (lf_far (by omega)) (lf_name hx (by omega)) rfl (lf_name hy (by omega)) rfl) xes_nil))
def sp_odd:Sp:=fun vs H Q _=>∃(p t n l:Addr) (xs:List Str) (tv:List V) (ps:List (Str×Str)),vs=[.ref p,.ref t]∧Pot H p∧goalsR H t n l xs tv ps∧n≠p∧
  ∀d v H',ThgX (hid p H') d v→PapF 1 300 d→Pot H' p→But p H H'→Q v H'
theorem ok_odd (T:Txt K mg a):FnOk P w K mg base CX0 2 a.f_odd a.fd_odd ["_law_pot_here", "_law_web_here"] sp_odd:=by
  refine T.F_odd.okL sc_odd (fun vs H Q E h=>?_) (fun cdv A outer s H vs Q E hr h=>?_)
  · obtain ⟨p,t,n,l,xs,tv,ps,rfl,_⟩:=h
    rfl
  · obtain ⟨p,t,n,l,xs,tv,ps,rfl,hp,hG,np,q⟩:=h
    refine ⟨_,(@PSsq.out _ _ _ (pssq_cons (PSq.mk (ps_set (i:=2) sc_odd.nd rfl (Or.inl rfl) (PE.eqv (pe_call (ok_take (K:=K) T) (hr.mono (by decide)) rfl T.m_take T.F_take.kp T.b_take .nil pass0 (pa_cons (fpv 0) (pa_cons pe_int pa_nil))) (fCall_eq _ _ _))))
      (pssq_cons (PSq.mk (ps_set (i:=3) sc_odd.nd rfl (Or.inl rfl) (pe_ix (fixQk (K:=K) rfl) (pe_ix (fixQk (K:=K) rfl) (fpv 1) pe_int (fun _ _=>rfl)) (PE.eqv (pe_call (ok_take (K:=K) T) (hr.mono (by decide)) rfl T.m_take T.F_take.kp T.b_take .nil pass0 (pa_cons (fpv 0) (pa_cons (pe_callB (flenQk (K:=K) rfl) rfl T.nm.len PySem.boot_len (pa_cons (pe_ix (fixQk (K:=K) rfl) (fpv 1) pe_int (fun _ _=>rfl)) pa_nil)) pa_nil))) (fCall_eq _ _ _)) (fun _ _=>rfl))))
      (pssq_cons (PSq.mk (ps_set (i:=4) sc_odd.nd rfl (Or.inl rfl) (pe_ix (fixQk (K:=K) rfl) (pe_ix (fixQk (K:=K) rfl) (fpv 1) pe_int (fun _ _=>rfl)) (PE.eqv (pe_call (ok_take (K:=K) T) (hr.mono (by decide)) rfl T.m_take T.F_take.kp T.b_take .nil pass0 (pa_cons (fpv 0) (pa_cons (pe_callB (flenQk (K:=K) rfl) rfl T.nm.len PySem.boot_len (pa_cons (pe_ix (fixQk (K:=K) rfl) (fpv 1) pe_int (fun _ _=>rfl)) pa_nil)) pa_nil))) (fCall_eq _ _ _)) (fun _ _=>rfl))))
      (pssq_cons (psq_set (i:=5) sc_odd.nd rfl (Or.inl rfl) (peq_big (peq_lst (paq_cons pe_non (paq_cons pe_bl (paq_cons pe_int (paq_cons pe_str (paq_cons (pe_tup pa_nil) (paq_cons (pe_tup (pa_cons pe_str pa_nil)) (paq_cons (pe_tup (pa_cons pe_str (pa_cons pe_str (pa_cons (fpv 3) pa_nil)))) (paq_cons (pe_tup (pa_cons pe_str (pa_cons (fpv 3) (pa_cons pe_int pa_nil)))) (paq_cons pe_dnewK (paq_cons (pe_tup (pa_cons pe_str (pa_cons pe_int pa_nil))) paq_nil)))))))))))))
      (PSsq.mk (pss_cons (ps_set (i:=5) sc_odd.nd rfl (Or.inl rfl) (pe_op fop_cat (fpv 5) (pe_big (pe_lst (pa_cons (pe_tup (pa_cons pe_str (pa_cons (fpv 3) (pa_cons (fpv 3) pa_nil)))) (pa_cons (pe_tup (pa_cons pe_str (pa_cons (fpv 3) (pa_cons (fpv 4) pa_nil)))) (pa_cons (pe_tup (pa_cons pe_str (pa_cons (fpv 3) (pa_cons (fpv 4) pa_nil)))) pa_nil)))))))
      (pss_one (ps_ret (pe_ix (fixQk (K:=K) rfl) (fpv 5) (fpv 2) (fun _ _=>rfl))))))))))),?_⟩
    have l9:=hG.2.2.2.2.1.len
    have nm:=hG.2.2.2.2.1.nm
    have tp:t≠p:=hp.nlst hG.1 (by intro zs z;cases z)
    have sz99:999≤sizeLine:=by decide
    simp -dsimp[cxOf,stC,-Bool.exists_bool,-List.map_take,-Prod.forall,-Prod.exists]
    refine ⟨p,_,rfl,hp,by omega,by omega,fun pk H1 h0 h1 P1 B1=>?_⟩
    have n1:=B1 _ _ np hG.2.1
    have t1:=B1 _ _ tp hG.1
    simp -dsimp[cxOf,stC,-Bool.exists_bool,-List.map_take,-Prod.forall,-Prod.exists]
    refine ⟨_,.inr (SqT.of t1),_,atI_nat (j:=0) rfl,_,.inr (SqT.of t1),_,atI_nat (j:=0) rfl,_,.inl (SqL.of n1),p,_,rfl,P1,by simp;omega,by simp;omega,fun i H2 i0 i1 P2 B2=>?_⟩
    obtain ⟨i,rfl⟩:=Int.eq_ofNat_of_zero_le i0
    have hi:i<xs.length:=by simp at i1;omega
    have n2:=B2 _ _ np n1
    have t2:=B2 _ _ tp t1
    simp -dsimp[cxOf,stC,-Bool.exists_bool,-List.map_take,-Prod.forall,-Prod.exists]
    refine ⟨_,.inl (SqL.of n2),_,atI_nat (j:=i) (by rw [List.getElem?_map,List.getElem?_eq_getElem hi];rfl),?_⟩
    have hx:=nm _ (List.getElem_mem hi)
    generalize xs[i]=x at hx ⊢
    refine ⟨_,.inr (SqT.of t2),_,atI_nat (j:=0) rfl,_,.inr (SqT.of t2),_,atI_nat (j:=0) rfl,_,.inl (SqL.of n2),p,_,rfl,P2,by simp;omega,by simp;omega,fun j H3 j0 j1 P3 B3=>?_⟩
    obtain ⟨j,rfl⟩:=Int.eq_ofNat_of_zero_le j0
    have hj:j<xs.length:=by simp at j1;omega
    have n3:=B3 _ _ np n2
    simp -dsimp[cxOf,stC,-Bool.exists_bool,-List.map_take,-Prod.forall,-Prod.exists]
    refine ⟨_,.inl (SqL.of n3),_,atI_nat (j:=j) (by rw [List.getElem?_map,List.getElem?_eq_getElem hj];rfl),?_⟩
    have hy:=nm _ (List.getElem_mem hj)
    generalize xs[j]=y at hy ⊢
    have hpe:∃o,H3 p=some o:=by
      obtain ⟨x,y,u,_⟩:=P3
      exact ⟨_,u⟩
    refine big_lstX (od10 hx rfl) hpe (by decide) fun b vs H4 hb s4 hn e4 a4=>?_
    simp -dsimp[cxOf,stC,-Bool.exists_bool,-List.map_take,-Prod.forall,-Prod.exists]
    refine big_lstX (od3 hx hy rfl rfl) ⟨_,s4 _ _ hpe.choose_spec⟩ (by decide) fun c us H5 hc s5 hm e5 a5=>?_
    simp -dsimp[cxOf,stC,-Bool.exists_bool,-List.map_take,-Prod.forall,-Prod.exists]
    have b5:=s5 _ _ e4
    refine ⟨vs,b5,us,e5,by omega,fun r hr=>?_⟩
    have s6:Same H5 (upd H5 r (.lst (vs++us))):=same_upd hr
    have e6:upd H5 r (.lst (vs++us)) r=some (.lst (vs++us)):=upd_same
    have a6:AllX (PapF 1 300) (hid p (upd H5 r (.lst (vs++us)))) (vs++us):=((a4.same (hid_keep s5)).app a5).same (hid_keep s6)
    generalize upd H5 r (.lst (vs++us))=H6 at s6 e6 a6 ⊢
    obtain ⟨z,rfl⟩:=Int.eq_ofNat_of_zero_le h0
    have hz:z<(vs++us).length:=by simp;omega
    obtain ⟨d,hd1,hd2⟩:=a6 _ (List.getElem_mem hz)
    refine ⟨_,.inl (SqL.of e6),_,atI_nat (j:=z) (List.getElem?_eq_getElem hz),q d _ H6 hd1 hd2 ?_ ?_⟩
    · obtain ⟨u1,u2,u3,u4⟩:=P3
      exact ⟨u1,u2,((s4.trans s5).trans s6) _ _ u3,u4⟩
    ·exact ((B1.trans B2).trans B3).same ((s4.trans s5).trans s6)
def tupD:PyData→Bool
  | .tuple _=>true
  | _=>false
theorem kit_tupD (d:PyData):W.kitOne K (.type (tyD d)) (.type "tuple")=some (tupD d):=by
  cases d with
  | none=>exact kit_NoneType_tuple K
  | bool b=>exact kit_bool_tuple K
  | int i=>exact kit_int_tuple K
  | str x=>exact kit_str_tuple K
  | list ds=>exact kit_list_tuple K
  | tuple ds=>exact kit_tuple_tuple K
  | dict ds=>exact kit_dict_tuple K
theorem pap4 {k a0 a1 a2 a3 n:Nat} {d0 d1 d2 d3:PyData} (w0:strD d0=true) (w1:flD d1=true) (p0:PapF k a0 d0) (p1:PapF k a1 d1) (p2:PapF k a2 d2) (p3:PapF k a3 d3) (hn:a0+a1+a2+a3+11≤n):PapF (k+1) n (.tuple [d0,d1,d2,d3]):=
  .inr ⟨rfl,⟨w0,w1,fun h=>by simp at h,fun _ _=>trivial⟩,a0+(a1+(a2+a3+4)+2)+2,by omega,a0,a1+(a2+a3+4)+2,p0,⟨a1,a2+a3+4,p1,⟨a2,a3+2,p2,⟨a3,0,p3,trivial,by omega⟩,by omega⟩,by omega⟩,by omega⟩
theorem pap5 {k a0 a1 a2 a3 n:Nat} {d0 d1 d2 d3:PyData} (w0:strD d0=true) (w1:flD d1=true) (p0:PapF k a0 d0) (p1:PapF k a1 d1) (p2:PapF k a2 d2) (p3:PapF k a3 d3) (hn:a0+a1+a2+a3+a2+13≤n):PapF (k+1) n (.tuple [d0,d1,d2,d3,d2]):=
  .inr ⟨rfl,⟨w0,w1,fun h=>by simp at h,fun _ _=>trivial⟩,a0+(a1+(a2+(a3+(a2+2)+2)+2)+2)+2,by omega,a0,a1+(a2+(a3+(a2+2)+2)+2)+2,p0,⟨a1,a2+(a3+(a2+2)+2)+2,p1,⟨a2,a3+(a2+2)+2,p2,⟨a3,a2+2,p3,⟨a2,0,p2,trivial,by omega⟩,by omega⟩,by omega⟩,by omega⟩,by omega⟩
theorem tx4 {H:Hp} {r:Addr} {v0 v1 v2 v3:V} {d0 d1 d2 d3:PyData} (e:H r=some (.tup [v0,v1,v2,v3])) (h0:ThgX H d0 v0) (h1:ThgX H d1 v1) (h2:ThgX H d2 v2) (h3:ThgX H d3 v3):ThgX H (.tuple [d0,d1,d2,d3]) (.ref r):=by
  simp only [ThgX,ThgXAll]
  exact ⟨r,_,rfl,e,_,_,rfl,h0,_,_,rfl,h1,_,_,rfl,h2,_,_,rfl,h3,rfl⟩
theorem tx5 {H:Hp} {r:Addr} {v0 v1 v2 v3 v4:V} {d0 d1 d2 d3 d4:PyData} (e:H r=some (.tup [v0,v1,v2,v3,v4])) (h0:ThgX H d0 v0) (h1:ThgX H d1 v1) (h2:ThgX H d2 v2) (h3:ThgX H d3 v3) (h4:ThgX H d4 v4):ThgX H (.tuple [d0,d1,d2,d3,d4]) (.ref r):=by
  simp only [ThgX,ThgXAll]
  exact ⟨r,_,rfl,e,_,_,rfl,h0,_,_,rfl,h1,_,_,rfl,h2,_,_,rfl,h3,_,_,rfl,h4,rfl⟩
def FlP (d:PyData):Prop:=flD d=true∧LfP 100 d
theorem xd_len {p t n l c:Addr} {H:Hp} {tv:List V} {v0 v1 v2 v3 v7:V} (ht:H t=some (.tup [.ref n,.ref l])) (hl:H l=some (.lst tv)):XD p (tCB (fLenQ K) (tCons (tOp (fIxQ K) (fVar 1) (tC (V.int 1))) tNil)) [some (V.ref p),some (V.ref t),some (V.ref c),some v0,some v1,some v2,some v3,some v7] H (.int tv.length):=fun H1 Q hp s q=>by
  simp -dsimp[cxOf,stC,-Bool.exists_bool,-List.map_take,-Prod.forall,-Prod.exists]
  exact ⟨_,.inr (SqT.of (s _ _ ht)),_,atI_nat (j:=1) rfl,_,.inl (SqL.of (s _ _ hl)),q _ _ (Same.refl _) (by simp [ThgX])⟩
theorem xd_neg {p:Addr} {σ:St} {H:Hp} {i:Int}:XD p (tUn (fU fun i=>V.int (-i)) (tC (V.int i))) σ H (.int (-i)):=fun H1 Q hp s q=>by
  simp -dsimp[cxOf,stC,-Bool.exists_bool,-List.map_take,-Prod.forall,-Prod.exists]
  exact q _ _ (Same.refl _) (by simp [ThgX])
theorem sp6 {p t n l c:Addr} {H:Hp} {tv:List V} {v0 v1 v2 v3 v7:V} (hm:tv.length≤20) (ht:H t=some (.tup [.ref n,.ref l])) (hl:H l=some (.lst tv)):XEs FlP p 6 (tCons (tCB (fLenQ K) (tCons (tOp (fIxQ K) (fVar 1) (tC (V.int 1))) tNil)) (tCons (tUn (fU fun i=>V.int (-i)) (tC (V.int 1))) (tCons (tC (V.bl true)) (tCons (tC (V.bl false)) (tCons (tC V.non) (tCons (tC (V.str (Str.ofString "0"))) tNil)))))) [some (V.ref p),some (V.ref t),some (V.ref c),some v0,some v1,some v2,some v3,some v7] H:=
  xes_cons (xd_len ht hl) ⟨rfl,lf_i (by omega) (by omega)⟩ (xes_cons xd_neg ⟨rfl,lf_m.mono (by omega)⟩ (xes_cons xd_bl ⟨rfl,(lf_bl _).mono (by omega)⟩ (xes_cons xd_bl ⟨rfl,(lf_bl _).mono (by omega)⟩ (xes_cons xd_non ⟨rfl,lf_non.mono (by omega)⟩ (xes_cons xd_str ⟨rfl,lf_z (by omega)⟩ xes_nil)))))
def sp_spoilt (k:Nat):Sp:=fun vs H Q _=>∃(p t n l:Addr) (xs:List Str) (tv:List V) (ps:List (Str×Str)) (d:PyData) (v:V) (m j:Nat),vs=[.ref p,.ref t,v]∧Pot H p∧goalsR H t n l xs tv ps∧n≠p∧l≠p∧ThgX (hid p H) d v∧j≤k∧PapF j m d∧
  ∀d' v' H',ThgX (hid p H') d' v'→PapF (j+1) (2 * m+300) d'→Pot H' p→But p H H'→Q v' H'
def sp_spoiltI (k:Nat):Sp:=fun vs H Q E=>∃j,k=j+1∧sp_spoilt j vs H Q E
theorem spoilt_made (T:Txt K mg a) {k:Nat} (ih:FnOk P w K mg base CX0 (k+2) a.f_spoilt a.fd_spoilt ["_law_pot_here", "_law_web_here", "_law_paper_here"] (sp_spoiltI k)):FnOk P w K mg base CX0 (k+3) a.f_spoilt a.fd_spoilt ["_law_pot_here", "_law_web_here", "_law_paper_here"] (sp_spoilt k):=by
  refine T.F_spoilt.okL sc_spoilt (fun vs H Q E h=>?_) (fun cdv A outer s H vs Q E hr h=>?_)
  · obtain ⟨p,t,n,l,xs,tv,ps,d,v,m,j,rfl,_⟩:=h
    rfl
  · obtain ⟨p,t,n,l,xs,tv,ps,d,v,m,j,rfl,hp,hG,np,lp,hd,hj,hpf,q⟩:=h
    refine ⟨_,(pss_cons (ps_if (PW.pt (pw_or (pt_not (fpt_val (pe_callB (fisiTk (K:=K) rfl) rfl T.nm.isinstance boot_isinstance (pa_cons (fpv 2) (pa_cons (pe_bltn (v:=.ty "tuple") rfl T.nm.tuple boot_tuple rfl) pa_nil))))) (pw_or (fpt_cmpR fop_ne (pe_callB (flenQk (K:=K) rfl) rfl T.nm.len PySem.boot_len (pa_cons (fpv 2) pa_nil)) pe_int (nomark _)) (pw_or1 (fpt_cmpR fop_eq (PE.eqv (pe_call (ok_take (K:=K) T) (hr.mono (by omega)) rfl T.m_take T.F_take.kp T.b_take .nil pass0 (pa_cons (fpv 0) (pa_cons pe_int pa_nil))) (fCall_eq _ _ _)) pe_int (nomark _)))))) (pss_one (ps_ret (PE.eqv (pe_call (ok_odd (K:=K) T) (hr.mono (by omega)) rfl T.m_odd T.F_odd.kp T.b_odd .nil pass0 (pa_cons (fpv 0) (pa_cons (fpv 1) pa_nil))) (fCall_eq _ _ _)))) pss_nil)
      (pss_cons (ps_asg (fpv 2) (PG.eqv (pg_tupk (K:=K) (n:=4) rfl rfl (PGs.eqv (pgs_cons (pg_name (i:=3) sc_spoilt.nd rfl (Or.inl rfl)) (PGs.eqv (pgs_cons (pg_name (i:=4) sc_spoilt.nd rfl (Or.inl rfl)) (PGs.eqv (pgs_cons (pg_name (i:=5) sc_spoilt.nd rfl (Or.inl rfl)) (PGs.eqv (pgs_cons (pg_name (i:=6) sc_spoilt.nd rfl (Or.inl rfl)) (PGs.mono pgs_nil fNil_t)) (fCons_eq _ _))) (fCons_eq _ _))) (fCons_eq _ _))) (fCons_eq _ _))) (fTup_eq _ _ _)))
      (pss_cons (ps_set (i:=7) sc_spoilt.nd rfl (Or.inl rfl) (PE.eqv (pe_call (ok_take (K:=K) T) (hr.mono (by omega)) rfl T.m_take T.F_take.kp T.b_take .nil pass0 (pa_cons (fpv 0) (pa_cons pe_int pa_nil))) (fCall_eq _ _ _)))
      (pss_cons (ps_if (fpt_cmpR fop_eq (fpv 7) pe_int (nomark _)) (pss_one (ps_ret (pe_tup (pa_cons (fpv 3) (pa_cons (pe_ix (fixQk (K:=K) rfl) (pe_big (pe_lst (pa_cons (pe_callB (flenQk (K:=K) rfl) rfl T.nm.len PySem.boot_len (pa_cons (pe_ix (fixQk (K:=K) rfl) (fpv 1) pe_int (fun _ _=>rfl)) pa_nil)) (pa_cons (pe_un fun_neg pe_int) (pa_cons pe_bl (pa_cons pe_bl (pa_cons pe_non (pa_cons pe_str pa_nil)))))))) (PE.eqv (pe_call (ok_take (K:=K) T) (hr.mono (by omega)) rfl T.m_take T.F_take.kp T.b_take .nil pass0 (pa_cons (fpv 0) (pa_cons pe_int pa_nil))) (fCall_eq _ _ _)) (fun _ _=>rfl)) (pa_cons (fpv 5) (pa_cons (fpv 6) pa_nil))))))) pss_nil)
      (pss_cons (ps_if (fpt_cmpR fop_eq (fpv 7) pe_int (nomark _)) (pss_one (ps_ret (pe_tup (pa_cons (fpv 3) (pa_cons (PE.eqv (pe_call (ok_take (K:=K) T) (hr.mono (by omega)) rfl T.m_take T.F_take.kp T.b_take .nil pass0 (pa_cons (fpv 0) (pa_cons (pe_callB (fcall_max2 rfl) rfl T.nm.max boot_max (pa_cons pe_int (pa_cons (pe_callB (flenQk (K:=K) rfl) rfl T.nm.len PySem.boot_len (pa_cons (pe_ix (fixQk (K:=K) rfl) (fpv 1) pe_int (fun _ _=>rfl)) pa_nil)) pa_nil))) pa_nil))) (fCall_eq _ _ _)) (pa_cons (fpv 5) (pa_cons (fpv 6) pa_nil))))))) pss_nil)
      (pss_cons (ps_if (fpt_cmpR fop_eq (fpv 7) pe_int (nomark _)) (pss_one (ps_ret (pe_tup (pa_cons (fpv 3) (pa_cons (fpv 4) (pa_cons (fpv 6) (pa_cons (fpv 5) pa_nil))))))) pss_nil)
      (pss_cons (ps_if (fpt_cmpR fop_eq (fpv 7) pe_int (nomark _)) (pss_one (ps_ret (pe_tup (pa_cons (fpv 3) (pa_cons (fpv 4) (pa_cons (fpv 5) (pa_cons (fpv 6) (pa_cons (fpv 5) pa_nil)))))))) pss_nil)
      (pss_cons (ps_if (fpt_cmpR fop_eq (fpv 7) pe_int (nomark _)) (pss_one (ps_ret (pe_tup (pa_cons (fpv 3) (pa_cons (fpv 4) (pa_cons (PE.eqv (pe_call ih (hr.mono (by omega)) rfl T.m_spoilt T.F_spoilt.kp T.b_spoilt .nil pass0 (pa_cons (fpv 0) (pa_cons (fpv 1) (pa_cons (fpv 5) pa_nil)))) (fCall_eq _ _ _)) (pa_cons (fpv 6) pa_nil))))))) pss_nil)
      (pss_one (ps_ret (pe_tup (pa_cons (fpv 3) (pa_cons (fpv 4) (pa_cons (fpv 5) (pa_cons (PE.eqv (pe_call ih (hr.mono (by omega)) rfl T.m_spoilt T.F_spoilt.kp T.b_spoilt .nil pass0 (pa_cons (fpv 0) (pa_cons (fpv 1) (pa_cons (fpv 6) pa_nil)))) (fCall_eq _ _ _)) pa_nil))))))))))))))),?_⟩
    have h20:=hG.2.2.2.2.2.len
    have sz99:999≤sizeLine:=by decide
    simp -dsimp[cxOf,stC,-Bool.exists_bool,-List.map_take,-Prod.forall,-Prod.exists]
    refine ⟨_,thg_ty (ThgX.same hid_same _ _ hd),_,kit_tupD d,?_⟩
    cases ht:tupD d with
    | false=>
      refine tBr.pos rfl ?_
      simp -dsimp[cxOf,stC,-Bool.exists_bool,-List.map_take,-Prod.forall,-Prod.exists]
      exact ⟨p,t,n,l,xs,tv,ps,rfl,hp,hG,np,fun d' v' H' hd' hp' P' B'=>q d' v' H' hd' (hp'.mono (by omega) (by omega)) P' B'⟩
    | true=>
      obtain ⟨ds,rfl⟩:∃ds,d = .tuple ds:=by cases d <;> first | exact ⟨_,rfl⟩ | cases ht
      have hd0:=hd
      simp only [ThgX] at hd
      obtain ⟨c,ws,rfl,hc,hall⟩:=hd
      have hc0:=hid_same _ _ hc
      have hl:=hall.length
      refine tBr.neg rfl ?_
      simp -dsimp[cxOf,stC,-Bool.exists_bool,-List.map_take,-Prod.forall,-Prod.exists]
      refine ⟨_,.inr (SqT.of hc0),?_⟩
      rw [← hl]
      by_cases h4:ds.length=4
      rotate_left
      · refine ⟨true,by simp;omega,tBr.pos rfl ?_⟩
        simp -dsimp[cxOf,stC,-Bool.exists_bool,-List.map_take,-Prod.forall,-Prod.exists]
        exact ⟨p,t,n,l,xs,tv,ps,rfl,hp,hG,np,fun d' v' H' hd' hp' P' B'=>q d' v' H' hd' (hp'.mono (by omega) (by omega)) P' B'⟩
      · refine ⟨false,by simp;omega,tBr.neg rfl ?_⟩
        obtain ⟨k0,rfl,wf,m',hm',sm⟩:∃k0,j=k0+1∧WfL (fun _=>True) ds∧∃m',m'+3≤m∧SumP (PapF k0) m' ds:=by
          cases j with
          | zero=>rcases LfP.k hpf with z | z <;> cases z
          | succ k0=>
            rcases hpf with z | ⟨_,z1,m',z2,z3⟩
            ·rcases z.k with z | z <;> cases z
            ·exact ⟨k0,rfl,z1,m',z2,z3⟩
        rcases ds with _ | ⟨d0,_ | ⟨d1,_ | ⟨d2,_ | ⟨d3,_ | ⟨d4,ds⟩⟩⟩⟩⟩
        ·cases h4
        ·cases h4
        ·cases h4
        ·cases h4
        · simp only [ThgXAll] at hall
          obtain ⟨v0,_,rfl,g0,v1,_,rfl,g1,v2,_,rfl,g2,v3,_,rfl,g3,rfl⟩:=hall
          obtain ⟨w0,w1,_,_⟩:=wf
          obtain ⟨a0,b0,p0,⟨a1,b1,p1,⟨a2,b2,p2,⟨a3,b3,p3,_,l3⟩,l2⟩,l1⟩,l0⟩:=sm
          simp -dsimp[cxOf,stC,-Bool.exists_bool,-List.map_take,-Prod.forall,-Prod.exists]
          refine ⟨p,_,rfl,hp,by omega,by omega,fun f H1 f0 f1 P1 B1=>?_⟩
          have tp:t≠p:=hp.nlst hG.1 (by intro zs z;cases z)
          have cp:c≠p:=fun z=>by subst z;simp [hid] at hc
          have G1:=hG.but hp B1 np lp
          have c1:=B1 _ _ cp hc0
          have g0:=ThgX.same (hid_but B1) _ _ g0
          have g1:=ThgX.same (hid_but B1) _ _ g1
          have g2:=ThgX.same (hid_but B1) _ _ g2
          have g3:=ThgX.same (hid_but B1) _ _ g3
          simp -dsimp[cxOf,stC,-Bool.exists_bool,-List.map_take,-Prod.forall,-Prod.exists]
          refine tBr.of (fun h=>?_) (fun h=>?_)
          · simp -dsimp[cxOf,stC,-Bool.exists_bool,-List.map_take,-Prod.forall,-Prod.exists]
            exact ⟨p,t,n,l,xs,tv,ps,rfl,P1,G1,np,fun d' v' H' hd' hp' P' B'=>q d' v' H' hd' (hp'.mono (by omega) (by omega)) P' (B1.trans B')⟩
          · simp -dsimp[cxOf,stC,-Bool.exists_bool,-List.map_take,-Prod.forall,-Prod.exists]
            refine ⟨_,SqT.of c1,rfl,?_⟩
            simp -dsimp[cxOf,stC,-Bool.exists_bool,-List.map_take,-Prod.forall,-Prod.exists]
            refine ⟨p,_,rfl,P1,by omega,by omega,fun kd H2 k0' k1' P2 B2=>?_⟩
            have G2:=G1.but P1 B2 np lp
            have g0:=ThgX.same (hid_but B2) _ _ g0
            have g1:=ThgX.same (hid_but B2) _ _ g1
            have g2:=ThgX.same (hid_but B2) _ _ g2
            have g3:=ThgX.same (hid_but B2) _ _ g3
            have B2:=B1.trans B2
            simp -dsimp[cxOf,stC,-Bool.exists_bool,-List.map_take,-Prod.forall,-Prod.exists]
            refine tBr.of (fun h=>?_) (fun h=>?_)
            · simp -dsimp[cxOf,stC,-Bool.exists_bool,-List.map_take,-Prod.forall,-Prod.exists]
              have hpe:∃o,H2 p=some o:=by
                obtain ⟨x,y,u,_⟩:=P2
                exact ⟨_,u⟩
              refine big_lstX (sp6 (by rw [G2.2.2.2.1.1];exact h20) G2.1 G2.2.2.1) hpe (by decide) fun b us H3 hb s3 hn e3 a3=>?_
              have bp:b≠p:=new_ne hpe (Same.refl _) hb
              have P3:Pot H3 p:=by
                obtain ⟨u1,u2,u3,u4⟩:=P2
                exact ⟨u1,u2,s3 _ _ u3,u4⟩
              refine ⟨p,_,rfl,P3,by omega,by omega,fun i H4 i0 i1 P4 B4=>?_⟩
              obtain ⟨i,rfl⟩:=Int.eq_ofNat_of_zero_le i0
              have hi:i<us.length:=by omega
              refine ⟨_,.inl (SqL.of (B4 _ _ bp e3)),_,atI_nat (j:=i) (List.getElem?_eq_getElem hi),?_⟩
              obtain ⟨e,hd1,hd2,hd3⟩:=a3 _ (List.getElem_mem hi)
              generalize us[i]=u at hd1 ⊢
              simp -dsimp[cxOf,stC,-Bool.exists_bool,-List.map_take,-Prod.forall,-Prod.exists]
              intro r hr
              have kp:Same (hid p H2) (hid p (upd H4 r (.tup [v0,u,v2,v3]))):=hid_but (((But.of s3).trans B4).same (same_upd hr))
              have kq:Same (hid p H3) (hid p (upd H4 r (.tup [v0,u,v2,v3]))):=hid_but (B4.same (same_upd hr))
              exact q _ _ _ (tx4 (hid_at (P4.nl hr) upd_same) (ThgX.same kp _ _ g0) (ThgX.same kq _ _ hd1) (ThgX.same kp _ _ g2) (ThgX.same kp _ _ g3)) (pap4 w0 hd2 p0.up (PapF.leaf hd3) p2.up p3.up (by omega)) (P4.upd (P4.ne hr)) ((B2.same s3).trans (B4.same (same_upd hr)))
            · simp -dsimp[cxOf,stC,-Bool.exists_bool,-List.map_take,-Prod.forall,-Prod.exists]
              refine tBr.of (fun h=>?_) (fun h=>?_)
              · simp -dsimp[cxOf,stC,-Bool.exists_bool,-List.map_take,-Prod.forall,-Prod.exists]
                refine ⟨_,.inr (SqT.of G2.1),_,atI_nat (j:=1) rfl,_,.inl (SqL.of G2.2.2.1),?_⟩
                have h20':tv.length≤20:=by rw [G2.2.2.2.1.1];exact h20
                generalize hM:(if 1<(tv.length:Int) then (tv.length:Int) else 1)=M
                have hM2:1≤M∧M≤20:=by
                  rw [← hM]
                  split <;> omega
                refine ⟨p,M.toNat,by simp;omega,P2,by omega,by omega,fun i H4 i0 i1 P4 B4=>?_⟩
                simp -dsimp[cxOf,stC,-Bool.exists_bool,-List.map_take,-Prod.forall,-Prod.exists]
                intro r hr
                have kp:Same (hid p H2) (hid p (upd H4 r (.tup [v0,.int i,v2,v3]))):=hid_but (B4.same (same_upd hr))
                exact q _ _ _ (tx4 (hid_at (P4.nl hr) upd_same) (ThgX.same kp _ _ g0) (by simp [ThgX]) (ThgX.same kp _ _ g2) (ThgX.same kp _ _ g3)) (pap4 w0 rfl p0.up (PapF.leaf (lf_i i0 (by omega))) p2.up p3.up (by omega)) (P4.upd (P4.ne hr)) (B2.trans (B4.same (same_upd hr)))
              · simp -dsimp[cxOf,stC,-Bool.exists_bool,-List.map_take,-Prod.forall,-Prod.exists]
                refine tBr.of (fun h=>?_) (fun h=>?_)
                · simp -dsimp[cxOf,stC,-Bool.exists_bool,-List.map_take,-Prod.forall,-Prod.exists]
                  intro r hr
                  have kp:Same (hid p H2) (hid p (upd H2 r (.tup [v0,v1,v3,v2]))):=hid_keep (same_upd hr)
                  exact q _ _ _ (tx4 (hid_at (P2.nl hr) upd_same) (ThgX.same kp _ _ g0) (ThgX.same kp _ _ g1) (ThgX.same kp _ _ g3) (ThgX.same kp _ _ g2)) (pap4 w0 w1 p0.up p1.up p3.up p2.up (by omega)) (P2.upd (P2.ne hr)) (B2.same (same_upd hr))
                · simp -dsimp[cxOf,stC,-Bool.exists_bool,-List.map_take,-Prod.forall,-Prod.exists]
                  refine tBr.of (fun h=>?_) (fun h=>?_)
                  · simp -dsimp[cxOf,stC,-Bool.exists_bool,-List.map_take,-Prod.forall,-Prod.exists]
                    intro r hr
                    have kp:Same (hid p H2) (hid p (upd H2 r (.tup [v0,v1,v2,v3,v2]))):=hid_keep (same_upd hr)
                    exact q _ _ _ (tx5 (hid_at (P2.nl hr) upd_same) (ThgX.same kp _ _ g0) (ThgX.same kp _ _ g1) (ThgX.same kp _ _ g2) (ThgX.same kp _ _ g3) (ThgX.same kp _ _ g2)) (pap5 w0 w1 p0.up p1.up p2.up p3.up (by omega)) (P2.upd (P2.ne hr)) (B2.same (same_upd hr))
                  · simp -dsimp[cxOf,stC,-Bool.exists_bool,-List.map_take,-Prod.forall,-Prod.exists]
                    refine tBr.of (fun h=>?_) (fun h=>?_)
                    · simp -dsimp[cxOf,stC,-Bool.exists_bool,-List.map_take,-Prod.forall,-Prod.exists]
                      refine ⟨k - 1,by omega,p,t,n,l,xs,tv,ps,d2,v2,a2,k0,rfl,P2,G2,np,lp,g2,by omega,p2,fun d' v' H4 hd' hp' P4 B4=>?_⟩
                      simp -dsimp[cxOf,stC,-Bool.exists_bool,-List.map_take,-Prod.forall,-Prod.exists]
                      intro r hr
                      have kp:Same (hid p H2) (hid p (upd H4 r (.tup [v0,v1,v',v3]))):=hid_but (B4.same (same_upd hr))
                      exact q _ _ _ (tx4 (hid_at (P4.nl hr) upd_same) (ThgX.same kp _ _ g0) (ThgX.same kp _ _ g1) (ThgX.same (hid_keep (same_upd hr)) _ _ hd') (ThgX.same kp _ _ g3)) (pap4 w0 w1 p0.up p1.up hp' p3.up (by omega)) (P4.upd (P4.ne hr)) (B2.trans (B4.same (same_upd hr)))
                    · simp -dsimp[cxOf,stC,-Bool.exists_bool,-List.map_take,-Prod.forall,-Prod.exists]
                      refine ⟨k - 1,by omega,p,t,n,l,xs,tv,ps,d3,v3,a3,k0,rfl,P2,G2,np,lp,g3,by omega,p3,fun d' v' H4 hd' hp' P4 B4=>?_⟩
                      simp -dsimp[cxOf,stC,-Bool.exists_bool,-List.map_take,-Prod.forall,-Prod.exists]
                      intro r hr
                      have kp:Same (hid p H2) (hid p (upd H4 r (.tup [v0,v1,v2,v']))):=hid_but (B4.same (same_upd hr))
                      exact q _ _ _ (tx4 (hid_at (P4.nl hr) upd_same) (ThgX.same kp _ _ g0) (ThgX.same kp _ _ g1) (ThgX.same kp _ _ g2) (ThgX.same (hid_keep (same_upd hr)) _ _ hd')) (pap4 w0 w1 p0.up p1.up p2.up hp' (by omega)) (P4.upd (P4.ne hr)) (B2.trans (B4.same (same_upd hr)))
        ·simp at h4
theorem ok_spoilt (T:Txt K mg a):∀k,FnOk P w K mg base CX0 (k+3) a.f_spoilt a.fd_spoilt ["_law_pot_here", "_law_web_here", "_law_paper_here"] (sp_spoilt k)
  | 0=>spoilt_made T (FnOk.no.imp fun vs H Q E h=>by obtain ⟨j,h,_⟩:=h;cases h)
  | k+1=>spoilt_made T ((ok_spoilt T k).imp fun vs H Q E h=>by obtain ⟨j,h,z⟩:=h;cases h;exact z)
def PapR (k:Nat):List PyData→List PyData→Prop
  | [],[]=>True
  | d::ds,e::es=>(∀a,PapF k a d→PapF k a e)∧(seqD d=false→e=d)∧PapR k ds es
  | _,_=>False
theorem PapR.snoc {k:Nat} {d e:PyData} (h1:∀a,PapF k a d→PapF k a e) (h2:seqD d=false→e=d):∀{ds es:List PyData},PapR k ds es→PapR k (ds++[d]) (es++[e])
  | [],[],_=>⟨h1,h2,trivial⟩
  | _::_,_::_,⟨a,b,c⟩=>⟨a,b,PapR.snoc h1 h2 c⟩
  | [],_::_,h=>h.elim
  | _::_,[],h=>h.elim
theorem PapR.sum {k:Nat}:∀{ds es:List PyData} {m:Nat},PapR k ds es→SumP (PapF k) m ds→SumP (PapF k) m es
  | [],[],_,_,_=>trivial
  | _::_,_::_,_,⟨a,_,c⟩,⟨x,y,h1,h2,h3⟩=>⟨x,y,a _ h1,PapR.sum c h2,h3⟩
  | [],_::_,_,h,_=>h.elim
  | _::_,[],_,h,_=>h.elim
theorem PapR.len {k:Nat}:∀{ds es:List PyData},PapR k ds es→es.length=ds.length
  | [],[],_=>rfl
  | _::_,_::_,⟨_,_,c⟩=>by simp [PapR.len c]
  | [],_::_,h=>h.elim
  | _::_,[],h=>h.elim
theorem str_seq {d:PyData} (h:strD d=true):seqD d=false:=by cases d <;> first | rfl | cases h
theorem fl_seq {d:PyData} (h:flD d=true):seqD d=false:=by cases d <;> first | rfl | cases h
theorem PapR.wf {k:Nat}:∀{ds es:List PyData},PapR k ds es→WfL (fun _=>True) ds→WfL (fun _=>True) es
  | [],[],_,_=>trivial
  | [_],[_],⟨_,b,_⟩,h=>by rw [b (str_seq h)];exact h
  | _::_::r,_::_::r',⟨_,b,_,b',c⟩,⟨h1,h2,h3,h4⟩=>by
    refine ⟨by rw [b (str_seq h1)];exact h1,by rw [b' (fl_seq h2)];exact h2,fun hr x hx=>?_,fun _ _=>trivial⟩
    have hl:=PapR.len c
    rcases r with _ | ⟨d,_ | ⟨d',r⟩⟩
    ·rw [hr] at hl;cases hl
    · rcases r' with _ | ⟨e,_ | ⟨e',r'⟩⟩
      ·simp at hl
      · simp at hx
        subst hx
        rw [c.2.1 (fl_seq (h3 rfl d (by simp)))]
        exact h3 rfl d (by simp)
      ·simp at hl
    ·simp at hl;omega
  | [],_::_,h,_=>h.elim
  | _::_,[],h,_=>h.elim
  | [_],_::_::_,h,_=>h.2.2.elim
  | _::_::_,[_],h,_=>h.2.2.elim
theorem tx_snoc {H:Hp} {d:PyData} {v:V} (h:ThgX H d v):∀{ds:List PyData} {vs:List V},ThgXAll H ds vs→ThgXAll H (ds++[d]) (vs++[v])
  | [],vs,k=>by
    simp only [ThgXAll] at k
    subst k
    simp only [List.nil_append,ThgXAll]
    exact ⟨v,[],rfl,h,rfl⟩
  | e::ds,vs,k=>by
    simp only [ThgXAll] at k
    obtain ⟨u,r,rfl,h1,h2⟩:=k
    simp only [List.cons_append,ThgXAll]
    exact ⟨u,_,rfl,h1,tx_snoc h h2⟩
theorem SumP.len {g:Nat→PyData→Prop}:∀{m:Nat} {ds:List PyData},SumP g m ds→2 * ds.length≤m
  | _,[],_=>by simp
  | _,d::ds,⟨a,b,_,h2,h3⟩=>by
    have:=SumP.len h2
    simp
    omega
theorem sumP_mono {g:Nat→PyData→Prop}:∀{m n:Nat} {ds:List PyData},SumP g m ds→m≤n→SumP g n ds
  | _,_,[],_,_=>trivial
  | _,_,_::_,⟨a,b,h1,h2,h3⟩,hn=>⟨a,b,h1,h2,by omega⟩
theorem hup {G H:Hp} {c:Addr} {o:HO} (s:Same G H) (hc:G c=none):Same G (upd H c o):=fun b u e=>by
  rw [upd_ne (fun z=>by subst z;rw [hc] at e;cases e)]
  exact s b u e
theorem gup {G H:Hp} {c:Addr} {o:HO} (s:Same G H) (hc:H c=some o):Same (upd G c o) H:=fun b u e=>by
  by_cases h:b=c
  · subst h
    rw [upd_same] at e
    cases e
    exact hc
  · rw [upd_ne h] at e
    exact s b u e
theorem bup {p C:Addr} {H H2:Hp} {o:HO} (b:But p H H2) (hC:H C=none):But p H (upd H2 C o):=fun x u hx e=>by
  rw [upd_ne (fun z=>by subst z;rw [hC] at e;cases e)]
  exact b x u hx e
def sp_otherwise (k:Nat):Sp:=fun vs H Q _=>∃(p:Addr) (d:PyData) (v:V) (m:Nat) (G:Hp),vs=[.ref p,v]∧Pot H p∧ThgX G d v∧PapF k m d∧m≤999999∧Same G H∧G p=none∧
  ∀d' v' H' G',ThgX G' d' v'→(∀a,PapF k a d→PapF k a d')→(seqD d=false→d'=d)→Same G G'→Same G' H'→(∀b zs,H b=some (.lst zs)→G b=none→G' b=none)→Pot H' p→But p H H'→Q v' H'
def sp_otherwiseI (k:Nat):Sp:=fun vs H Q E=>∃j,k=j+1∧sp_otherwise j vs H Q E
theorem other_made (T:Txt K mg a) {k:Nat} (ih:FnOk P w K mg base CX0 (k+2) a.f_otherwise a.fd_otherwise ["_law_pot_here", "_law_paper_here"] (sp_otherwiseI k)):FnOk P w K mg base CX0 (k+3) a.f_otherwise a.fd_otherwise ["_law_pot_here", "_law_paper_here"] (sp_otherwise k):=by
  refine T.F_otherwise.okL sc_otherwise (fun vs H Q E h=>?_) (fun cdv A outer s H vs Q E hr h=>?_)
  · obtain ⟨p,d,v,m,G,rfl,_⟩:=h
    rfl
  · obtain ⟨p,d,v,m,G,rfl,hp,hd,hpf,hm9,sG,Gp,q⟩:=h
    refine ⟨_,(pss_cons (ps_if (pt_not (fpt_val (pe_callB (fisiTk (K:=K) rfl) rfl T.nm.isinstance boot_isinstance (pa_cons (fpv 1) (pa_cons (pe_bltn (v:=.ty "tuple") rfl T.nm.tuple boot_tuple rfl) pa_nil))))) (pss_one (ps_ret (fpv 1))) pss_nil)
      (pss_cons (ps_setComp (i:=2) sc_otherwise.nd rfl rfl rfl rfl (show CompScope (defScope s_otherwise) _ ["_law_pot_here", "_law_paper_here", "_law_made"] ["_law_part"] [0] ["_law_part", "_law_pot_here"] from ⟨rfl,by decide +kernel,by decide +kernel,rfl,by decide +kernel,by decide +kernel⟩) rfl (pi_tupk (K:=K) rfl (fpv 1)) (fun C s H fp pn=>(pg_name (i:=0) (show (["_law_part", "_law_pot_here"]:List Str).Nodup by decide +kernel) rfl (Or.inl rfl))) (fun C s H fp pn=>pts_nil) (fun C s H fp pn=>(PE.eqv (pe_call ih (hr.mono (by omega)) rfl T.m_otherwise T.F_otherwise.kp T.b_otherwise .nil pass0 (pa_cons (fpv 1) (pa_cons (fpv 0) pa_nil))) (fCall_eq _ _ _))))
      (pss_one (ps_ret (pe_ix (fixQk (K:=K) rfl) (pe_lst (pa_cons (fpv 2) (pa_cons (pe_callTy ftupleOfS rfl T.nm.tuple boot_tuple (pa_cons (fpv 2) pa_nil)) (pa_cons (pe_callTy ftupleOfS rfl T.nm.tuple boot_tuple (pa_cons (fpv 2) pa_nil)) pa_nil)))) (PE.eqv (pe_call (ok_take (K:=K) T) (hr.mono (by omega)) rfl T.m_take T.F_take.kp T.b_take .nil pass0 (pa_cons (fpv 0) (pa_cons pe_int pa_nil))) (fCall_eq _ _ _)) (fun _ _=>rfl)))))),?_⟩
    have sz99:999999≤sizeLine:=by decide
    simp -dsimp[cxOf,stC,-Bool.exists_bool,-List.map_take,-Prod.forall,-Prod.exists]
    refine ⟨_,thg_ty (ThgX.same sG _ _ hd),_,kit_tupD d,?_⟩
    cases ht:tupD d with
    | false=>
      refine tBr.pos rfl ?_
      simp -dsimp[cxOf,stC,-Bool.exists_bool,-List.map_take,-Prod.forall,-Prod.exists]
      exact q d v H G hd (fun _ h=>h) (fun _=>rfl) (Same.refl _) sG (fun _ _ _ h=>h) hp (But.refl _ _)
    | true=>
      obtain ⟨ds,rfl⟩:∃ds,d = .tuple ds:=by cases d <;> first | exact ⟨_,rfl⟩ | cases ht
      simp only [ThgX] at hd
      obtain ⟨c,ws,rfl,hc,hall⟩:=hd
      have hl:=hall.length
      obtain ⟨k0,rfl,wf,m',hm',sm⟩:∃k0,k=k0+1∧WfL (fun _=>True) ds∧∃m',m'+3≤m∧SumP (PapF k0) m' ds:=by
        cases k with
        | zero=>rcases LfP.k hpf with z | z <;> cases z
        | succ k0=>
          rcases hpf with z | ⟨_,z1,m',z2,z3⟩
          ·rcases z.k with z | z <;> cases z
          ·exact ⟨k0,rfl,z1,m',z2,z3⟩
      refine tBr.neg rfl ?_
      simp -dsimp[cxOf,stC,-Bool.exists_bool,-List.map_take,-Prod.forall,-Prod.exists]
      have hsl:=sm.len
      refine ⟨⟨_,SqT.of (sG _ _ hc)⟩,fun C hC=>?_⟩
      have Cp:C≠p:=hp.nl hC
      have GC:G C=none:=by
        cases e:G C with
        | none=>rfl
        | some o=>rw [sG _ _ e] at hC;cases hC
      refine cmT ws (fun i σ H'=>(∃o,σ=[o,some (.ref p)])∧∃(J:Hp) (us:List V) (es:List PyData),H' C=some (.lst us)∧us.length=i∧ThgXAll J es us∧PapR k0 (ds.take i) es∧Same G J∧Same J H'∧J C=none∧(∀b zs,H b=some (.lst zs)→G b=none→J b=none)∧Pot H' p∧But p H H') ?_ ?_ ?_ ?_
      ·refine ⟨⟨_,rfl⟩,G,[],[],upd_same,rfl,rfl,trivial,Same.refl _,hup sG GC,GC,fun _ _ _ h=>h,hp.upd Cp.symm,bup (But.refl _ _) hC⟩
      · rintro i σ H1 _ ⟨_,J,us,es,h1,h2,h3,h4,h5,h6,_⟩
        exact SqT.of (h6 _ _ (h5 _ _ hc))
      · rintro i u σ H1 hi ⟨⟨o,rfl⟩,J,us,es,h1,h2,h3,h4,h5,h6,h7,h8,P1,B1⟩
        obtain ⟨e,he,hx⟩:=ThgXAll.at (ThgXAll.same h5 _ _ hall) hi
        obtain ⟨a',ha',hpa⟩:=SumP.mem sm (List.mem_of_getElem? he)
        obtain ⟨hpx,hpy,hpu,_⟩:=id hp
        have hiw:i<ws.length:=(List.getElem?_eq_some_iff.mp hi).1
        simp -dsimp[cxOf,stC,-Bool.exists_bool,-List.map_take,-Prod.forall,-Prod.exists]
        refine ⟨k0,rfl,p,e,u,a',J,rfl,P1,hx,hpa,by omega,h6,h8 p _ hpu Gp,fun d' v' H2 J2 g1 g2 g3 g4 g5 g6 P2 B2=>?_⟩
        have C2:=B2 _ _ Cp h1
        have JC:=g6 C _ h1 h7
        simp -dsimp[cxOf,stC,-Bool.exists_bool,-List.map_take,-Prod.forall,-Prod.exists]
        refine ⟨_,C2,by omega,J2,_,upd_same,by simp [h2],es++[d'],tx_snoc g1 (ThgXAll.same g4 _ _ h3),?_,h5.trans g4,hup g5 JC,JC,fun b zs hb hg=>?_,P2.upd Cp.symm,bup (B1.trans B2) hC⟩
        · rw [List.take_succ,he]
          exact PapR.snoc g2 g3 h4
        · by_cases hbp:b=p
          · subst hbp
            obtain ⟨x,y,u,_⟩:=P1
            exact g6 b _ u (h8 b _ hb hg)
          ·exact g6 b _ (B1 _ _ hbp hb) (h8 b _ hb hg)
      · rintro σ H1 ⟨⟨o,rfl⟩,J,us,es,h1,h2,h3,h4,h5,h6,h7,h8,P1,B1⟩
        rw [List.take_of_length_le (by omega)] at h4
        have hes:=h4.len
        have hus:=h3.length
        have fin:∀d' (r:Addr) (H2:Hp),(∃G',ThgX G' d' (.ref r)∧Same J G'∧Same G' H2∧∀b zs,H b=some (.lst zs)→J b=none→G' b=none)→(∀a,PapF (k0+1) a (.tuple ds)→PapF (k0+1) a d')→Pot H2 p→But p H1 H2→Q (.ref r) H2:=fun d' r H2 ⟨G',y1,y2,y3,y4⟩ hpa P2 B2=>q d' _ H2 G' y1 hpa (fun h=>by cases h) (h5.trans y2) y3 (fun b zs hb hg=>y4 b zs hb (h8 b zs hb hg)) P2 (B1.trans B2)
        have pap:∀a,PapF (k0+1) a (.tuple ds)→SumP (PapF k0) (a - 3) es∧3≤a:=fun a h=>by
          rcases h with z | ⟨_,_,m2,z2,z3⟩
          ·rcases z.k with z | z <;> cases z
          ·exact ⟨h4.sum (sumP_mono z3 (by omega)),by omega⟩
        have papL:∀a,PapF (k0+1) a (.tuple ds)→PapF (k0+1) a (.list es):=fun a h=>.inr ⟨rfl,h4.wf wf,a - 3,by have:=(pap a h).2;omega,(pap a h).1⟩
        have papT:∀a,PapF (k0+1) a (.tuple ds)→PapF (k0+1) a (.tuple es):=fun a h=>.inr ⟨rfl,h4.wf wf,a - 3,by have:=(pap a h).2;omega,(pap a h).1⟩
        obtain ⟨hpx,hpy,hpu,_⟩:=id hp
        have Jp:=h8 p _ hpu Gp
        have sJ:∀H2,But p H1 H2→Same J H2:=fun H2 B2 b o e=>B2 b o (fun z=>by subst z;rw [Jp] at e;cases e) (h6 _ _ e)
        have tup:∀(r:Addr) (H2:Hp),H2 r=some (.tup us)→Pot H2 p→But p H1 H2→Q (.ref r) H2:=fun r H2 e P2 B2=>by
          have sJ2:=sJ H2 B2
          have kj:Same J (upd J r (.tup us)):=fun b o hb=>by
            by_cases h:b=r
            · subst h
              have:=sJ2 _ _ hb
              rw [e] at this
              rw [upd_same]
              exact this
            · rw [upd_ne h]
              exact hb
          refine fin (.tuple es) r H2 ⟨upd J r (.tup us),?_,kj,gup sJ2 e,fun b zs hb hj=>?_⟩ papT P2 B2
          · simp only [ThgX]
            exact ⟨r,us,rfl,upd_same,ThgXAll.same kj _ _ h3⟩
          · have:b≠r:=fun z=>by
              subst z
              by_cases hbp:b=p
              · subst hbp
                obtain ⟨x,y,u,_⟩:=P2
                rw [e] at u
                cases u
              · have:=B2 _ _ hbp (B1 _ _ hbp hb)
                rw [e] at this
                cases this
            rw [upd_ne this]
            exact hj
        have lst:∀(H2:Hp),Pot H2 p→But p H1 H2→Q (.ref C) H2:=fun H2 P2 B2=>by
          have kj:Same J (upd J C (.lst us)):=hup (Same.refl _) h7
          refine fin (.list es) C H2 ⟨upd J C (.lst us),?_,kj,gup (sJ H2 B2) (B2 _ _ Cp h1),fun b zs hb hj=>?_⟩ papL P2 B2
          · simp only [ThgX]
            exact ⟨C,us,rfl,upd_same,ThgXAll.same kj _ _ h3⟩
          · rw [upd_ne (fun z=>by subst z;rw [hC] at hb;cases hb)]
            exact hj
        simp -dsimp[cxOf,stC,-Bool.exists_bool,-List.map_take,-Prod.forall,-Prod.exists]
        refine ⟨us,.inl h1,fun l1 H2 e2 s2=>⟨us,.inl (s2 _ _ h1),fun l2 H3 e3 s3 r hr=>?_⟩⟩
        have s4:Same H3 (upd H3 r (.lst [.ref C,.ref l1,.ref l2])):=same_upd hr
        have e4:upd H3 r (.lst [.ref C,.ref l1,.ref l2]) r=some (.lst [.ref C,.ref l1,.ref l2]):=upd_same
        generalize upd H3 r (.lst [.ref C,.ref l1,.ref l2])=H4 at s4 e4 ⊢
        have S4:Same H1 H4:=s2.trans (s3.trans s4)
        have P4:Pot H4 p:=by
          obtain ⟨u1,u2,u3,u4⟩:=P1
          exact ⟨u1,u2,S4 _ _ u3,u4⟩
        have rp:r≠p:=P1.nl (fresh_of (s2.trans s3) hr)
        refine ⟨p,_,rfl,P4,by omega,by omega,fun i H5 i0 i1 P5 B5=>?_⟩
        refine ⟨_,.inl (SqL.of (B5 _ _ rp e4)),?_⟩
        have B15:But p H1 H5:=(But.of S4).trans B5
        have ne:∀(x:Addr) (zs:List V),H4 x=some (.tup zs)→H5 x=some (.tup zs):=fun x zs hx=>B5 _ _ (P4.nlst hx (by intro zs z;cases z)) hx
        have t1:=ne _ _ (s4 _ _ (s3 _ _ e2))
        have t2:=ne _ _ (s4 _ _ e3)
        have hi:i=0∨i=1∨i=2:=by omega
        rcases hi with rfl | rfl | rfl
        ·exact ⟨_,atI_nat (j:=0) rfl,lst H5 P5 B15⟩
        ·exact ⟨_,atI_nat (j:=1) rfl,tup _ H5 t1 P5 B15⟩
        ·exact ⟨_,atI_nat (j:=2) rfl,tup _ H5 t2 P5 B15⟩
theorem ok_otherwise (T:Txt K mg a):∀k,FnOk P w K mg base CX0 (k+3) a.f_otherwise a.fd_otherwise ["_law_pot_here", "_law_paper_here"] (sp_otherwise k)
  | 0=>other_made T (FnOk.no.imp fun vs H Q E h=>by obtain ⟨j,h,_⟩:=h;cases h)
  | k+1=>other_made T ((ok_otherwise T k).imp fun vs H Q E h=>by obtain ⟨j,h,z⟩:=h;cases h;exact z)
end K92
namespace L2
open PySem
def fReprA:List V→Hp→VK→Prop:=fun xs H Q=>ar1 xs fun v=>∃d:PyData,ThgX H d v∧d.showable=true∧d.depth≤32∧d.shown.length≤sizeLine∧Q (.str d.shown) H
@[simp ↓] theorem fReprA_w xs H Q:fReprA xs H Q=(ar1 xs fun v=>∃d:PyData,ThgX H d v∧d.showable=true∧d.depth≤32∧d.shown.length≤sizeLine∧Q (.str d.shown) H):=rfl
theorem fcall_reprA {X:Cx} (hg:X.A.guards=some []) (hu:X.A.units+64<cLine):CallR X (.builtin "repr") fReprA:=by
  intro pins s σ H xs us Q I r h
  obtain ⟨v,rfl,d,hi,hs,hd,hz,q⟩:=ar1.out h
  by_cases hl:∃ds,d = .list ds
  · obtain ⟨ds,rfl⟩:=hl
    exact fcall_reprN hg hu pins s σ H [v] us Q I r (show fReprN [v] H Q from ⟨ds,hi,hs,hd,hz,q⟩)
  by_cases ht:∃ds,d = .tuple ds
  · obtain ⟨ds,rfl⟩:=ht
    obtain ⟨u,rfl,ru⟩:=r.one
    have hi0:=hi
    simp only [ThgX] at hi
    obtain ⟨a,xs,rfl,hq,hall⟩:=hi
    cases ru
    obtain ⟨its,rv,pl,hzz⟩:=I.tuple (SqT.of hq)
    obtain ⟨o,e,c,n,dt⟩:=pl
    have hzL:(tupleText (PyData.shownAll ds)).length≤sizeLine:=by simpa only [PyData.shown] using hz
    obtain ⟨as,ra⟩:=ThgX.reads I (.tuple ds) (.ref a) (.ref a) hi0 rfl
    obtain ⟨bs,mb,kb⟩:=ThgXAll.reprK I ds xs its hall rv (by simpa [PyData.showable] using hs) (fun t ht=>Nat.le_trans (tupleText_mem_le ht) hzL)
    have nab:a∉bs:=not_mem_of_deeper ra (by simp only [PyData.depth];exact Nat.lt_succ_self _) mb
    simp only [PyData.depth] at hd
    simp only [PyData.shown] at q
    refine call_repr_slot (by omega) ⟨o,e,c⟩ F.slot_tuple_repr ?_
    refine call_tuple_reprK e c dt nab (by simpa using kb) hg (fun b _=>Clear.nil b) ?_ (fun _ _ z=>z) (fun h' u tk hk=>⟨_,_,rfl,.str _,H,I.kept (t':=tk) hk,⟨u,rfl⟩,q⟩) hzL
    show X.A.units+1+_<_
    omega
  · cases d with
    | list ds=>exact (hl ⟨ds,rfl⟩).elim
    | tuple ds=>exact (ht ⟨ds,rfl⟩).elim
    | dict kvs=>
      obtain ⟨u,rfl,ru⟩:=r.one
      simp only [ThgX] at hi
      obtain ⟨a,rfl,h1⟩:=hi
      cases ru
      obtain ⟨ra,hd2⟩:=dicX_reads I.hok h1
      refine repr_of_reads' (h₀:=s.heap) ra hs (fun _ hm=>?_) hg (by omega) (fun _ _ e=>e) (fun h' u tk hk=>⟨.str _,H,I.kept (t':=tk) hk,⟨u,rfl⟩,q⟩) hz
      rw [List.mem_singleton] at hm
      rw [← hm] at hd2
      simp at hd2
    | _=>
      refine fcall_reprX hg hu pins s σ H [v] us Q I r (show fReprX [v] H Q from ⟨_,.thg ?_ rfl,hs,hd,hz,q⟩)
      first
      | (simp only [ThgX] at hi;subst hi;simp [Thg])
      | (simp [ThgX] at hi)
end L2
namespace K92
open PySem L2
variable {P:Program} {w:World} {K:PySem.W.Frag} {mg:Str→Option Value} {base:Heap} {a:Adr}
theorem potS {p:Addr} {H H':Hp} (h:Pot H p) (s:Same H H'):Pot H' p:=by
  obtain ⟨u1,u2,u3,u4⟩:=h
  exact ⟨u1,u2,s _ _ u3,u4⟩
theorem tfx_free (m:Nat):tfx (List.replicate m 2)=fun _=>none:=by
  funext j
  unfold tfx
  rw [List.getElem?_replicate]
  by_cases h:j<m <;> simp [h]
def sp_right:Sp:=fun vs H Q _=>∃(p:Addr),vs=[.ref p]∧Pot H p∧∀H',But p H H'→Q (.bl true) H'
theorem ok_right (T:Txt K mg a):FnOk P w K mg base CX0 75 a.f_right a.fd_right ["_law_pot_here"] sp_right:=by
  refine T.F_right.okL sc_right (fun vs H Q E h=>?_) (fun cdv A outer s H vs Q E hr h=>?_)
  · obtain ⟨p,rfl,_⟩:=h
    rfl
  · obtain ⟨p,rfl,hp,q⟩:=h
    refine ⟨_,(pss_cons (ps_set (i:=1) sc_right.nd rfl (Or.inl rfl) (PE.eqv (pe_call (ok_web (K:=K) T) (hr.mono (by decide)) rfl T.m_web T.F_web.kp T.b_web .nil pass0 (pa_cons (fpv 0) (pa_cons pe_int (pa_cons pe_int pa_nil)))) (fCall_eq _ _ _)))
      (pss_cons (ps_set (i:=2) sc_right.nd rfl (Or.inl rfl) (PE.eqv (pe_make T.K_Web (ok_Web_init (K:=K) T) (hr.mono (by decide)) rfl T.m_Web T.b_Web_init .nil pass0 (pa_cons (pe_ix (fixQk (K:=K) rfl) (fpv 1) pe_int (fun _ _=>rfl)) (pa_cons (pe_ix (fixQk (K:=K) rfl) (fpv 1) pe_int (fun _ _=>rfl)) pa_nil))) (fMake_eq _ _ _ _)))
      (pss_cons (ps_set (i:=3) sc_right.nd rfl (Or.inl rfl) (pe_ix (fixQk (K:=K) rfl) (pe_lst (pa_cons (pe_op fop_add pe_int (PE.eqv (pe_call (ok_take (K:=K) T) (hr.mono (by decide)) rfl T.m_take T.F_take.kp T.b_take .nil pass0 (pa_cons (fpv 0) (pa_cons pe_int pa_nil))) (fCall_eq _ _ _))) (pa_cons (pe_op fop_add pe_int (PE.eqv (pe_call (ok_take (K:=K) T) (hr.mono (by decide)) rfl T.m_take T.F_take.kp T.b_take .nil pass0 (pa_cons (fpv 0) (pa_cons pe_int pa_nil))) (fCall_eq _ _ _))) pa_nil))) (pe_op fop_fdiv (PE.eqv (pe_call (ok_take (K:=K) T) (hr.mono (by decide)) rfl T.m_take T.F_take.kp T.b_take .nil pass0 (pa_cons (fpv 0) (pa_cons pe_int pa_nil))) (fCall_eq _ _ _)) pe_int) (fun _ _=>rfl)))
      (pss_cons (ps_set (i:=4) sc_right.nd rfl (Or.inl rfl) (pe_op fop_rep (pe_lst (pa_cons pe_int pa_nil)) (pe_callB (flenQk (K:=K) rfl) rfl T.nm.len PySem.boot_len (pa_cons (pe_ix (fixQk (K:=K) rfl) (fpv 1) pe_int (fun _ _=>rfl)) pa_nil))))
      (pss_cons (ps_set (i:=5) sc_right.nd rfl (Or.inl rfl) (pe_cmpR fop_eq (PE.eqv (pe_call (ok_take (K:=K) T) (hr.mono (by decide)) rfl T.m_take T.F_take.kp T.b_take .nil pass0 (pa_cons (fpv 0) (pa_cons pe_int pa_nil))) (fCall_eq _ _ _)) pe_int (nomark _)))
      (pss_cons (ps_if (fpt_val (fpv 5)) (pss_one (ps_set (i:=3) sc_right.nd rfl (Or.inl rfl) (pe_op fop_add pe_int (PE.eqv (pe_call (ok_take (K:=K) T) (hr.mono (by decide)) rfl T.m_take T.F_take.kp T.b_take .nil pass0 (pa_cons (fpv 0) (pa_cons pe_int pa_nil))) (fCall_eq _ _ _))))) pss_nil)
      (pss_cons (ps_set (i:=6) sc_right.nd rfl (Or.inl rfl) (PE.eqv (pe_call (ok_paper (K:=K) T 20) (hr.mono (by omega)) rfl T.m_paper T.F_paper.kp T.b_paper .nil pass0 (pa_cons (fpv 0) (pa_cons (fpv 1) (pa_cons (fpv 4) (pa_cons (fpv 3) (pa_cons (pe_ix (fixQk (K:=K) rfl) (pe_lst (pa_cons pe_int (pa_cons pe_int pa_nil))) (pe_callTy fcall_int1 rfl T.nm.int boot_intT (pa_cons (fpv 5) pa_nil)) (fun _ _=>rfl)) (pa_cons (fpv 5) pa_nil))))))) (fCall_eq _ _ _)))
      (pss_cons (ps_for PassesOwn.never rfl (PI.eqv (pi_range1 rfl T.nm.range (pa_cons (PE.eqv (pe_call (ok_take (K:=K) T) (hr.mono (by decide)) rfl T.m_take T.F_take.kp T.b_take .nil pass0 (pa_cons (fpv 0) (pa_cons pe_int pa_nil))) (fCall_eq _ _ _)) pa_nil)) (fiRng1_eq _)) (pg_name (i:=7) sc_right.nd rfl (Or.inl rfl))
      (pss_one (ps_set (i:=6) sc_right.nd rfl (Or.inl rfl) (PE.eqv (pe_call (ok_spoilt (K:=K) T 24) (hr.mono (by omega)) rfl T.m_spoilt T.F_spoilt.kp T.b_spoilt .nil pass0 (pa_cons (fpv 0) (pa_cons (fpv 1) (pa_cons (fpv 6) pa_nil)))) (fCall_eq _ _ _)))))
      (pss_cons (ps_set (i:=8) sc_right.nd rfl (Or.inl rfl) (PE.eqv (pe_call (ok_otherwise (K:=K) T 25) (hr.mono (by omega)) rfl T.m_otherwise T.F_otherwise.kp T.b_otherwise .nil pass0 (pa_cons (fpv 0) (pa_cons (fpv 6) pa_nil))) (fCall_eq _ _ _)))
      (pss_cons (ps_set (i:=9) sc_right.nd rfl (Or.inl rfl) (pe_callB (fcall_reprA hr.gd hr.units) rfl T.nm2.repr boot_repr (pa_cons (fpv 8) pa_nil)))
      (pss_cons (ps_set (i:=10) sc_right.nd rfl (Or.inl rfl) (PE.eqv (pe_call (ok_reads (K:=K) T 30) (hr.mono (by omega)) rfl T.m_reads T.F_reads.kp T.b_reads .nil pass0 (pa_cons (fpv 1) (pa_cons (fpv 4) (pa_cons (fpv 3) (pa_cons (fpv 8) pa_nil))))) (fCall_eq _ _ _)))
      (pss_cons (ps_for PassesOwn.never rfl (PI.eqv (pi_range1 rfl T.nm.range (pa_cons pe_int pa_nil)) (fiRng1_eq _)) (pg_name (i:=7) sc_right.nd rfl (Or.inl rfl))
      (pss_cons (ps_set (i:=11) sc_right.nd rfl (Or.inl rfl) (PE.eqv (pe_call (ok_reads_paper (K:=K) T) (hr.mono (by decide)) rfl T.m_reads_paper T.F_reads_paper.kp T.b_reads_paper .nil pass0 (pa_cons (fpv 2) (pa_cons (fpv 3) (pa_cons (fpv 8) pa_nil)))) (fCall_eq _ _ _)))
      (pss_one (ps_if (PW.pt (pw_or (pt_not (fpt_val (pe_callB (fisiTk (K:=K) rfl) rfl T.nm.isinstance boot_isinstance (pa_cons (fpv 11) (pa_cons (pe_bltn (v:=.ty "bool") rfl T.nm2.bool boot_boolT rfl) pa_nil))))) (pw_or (fpt_cmpR fop_ne (fpv 11) (fpv 10) (nomark _)) (pw_or1 (fpt_cmpR fop_ne (pe_callB (fcall_reprA hr.gd hr.units) rfl T.nm2.repr boot_repr (pa_cons (fpv 8) pa_nil)) (fpv 9) (nomark _)))))) (pss_one (ps_ret pe_bl)) pss_nil))))
      (pss_one (ps_ret pe_bl)))))))))))))),?_⟩
    have s999:999999<sizeLine:=by decide
    simp -dsimp[cxOf,stC,-Bool.exists_bool,-List.map_take,-Prod.forall,-Prod.exists]
    refine ⟨p,9,20,by simp,hp,by omega,by omega,by omega,by omega,fun t n l xs tv ps H1 ht hn hl et en el hT hX hTs h9 h20 P1 B1=>?_⟩
    have np:n≠p:=hp.nl hn
    have lp:l≠p:=hp.nl hl
    have tp:t≠p:=hp.nl ht
    have G1:goalsR H1 t n l xs tv ps:=⟨et,en,el,hT,hX,hTs⟩
    simp -dsimp[cxOf,stC,-Bool.exists_bool,-List.map_take,-Prod.forall,-Prod.exists]
    refine ⟨_,.inr (SqT.of et),_,atI_nat (j:=0) rfl,_,.inr (SqT.of et),_,atI_nat (j:=1) rfl,fun o dx ho hdx hodx=>?_⟩
    have so:Same H1 (upd (upd H1 dx (.own o)) o (.ins a.C_Web dx [])):=fun b u e=>by
      rw [upd_ne (ne_of_none e ho),upd_ne (ne_of_none e hdx)]
      exact e
    have hpr:PairsAt H1 tv ps:=⟨hT.1,fun i v e h1 h2=>by
      obtain ⟨t,rfl,z⟩:=hT.2 i v e h1 h2
      exact ⟨t,rfl,.inr z⟩⟩
    refine ⟨o,dx,n,l,tv,xs,ps,rfl,upd_same,.inl (so _ _ el),hpr.same so,.inl (so _ _ en),hX,hTs,fun H2 hW2 hB2=>⟨rfl,?_⟩⟩
    have s2:Same H1 H2:=fun b u e=>hB2 b u (ne_of_none e ho) (so b u e)
    have P2:=potS P1 s2
    have G2:=G1.same s2
    have B2:=B1.same s2
    simp -dsimp[cxOf,stC,-Bool.exists_bool,-List.map_take,-Prod.forall,-Prod.exists]
    refine ⟨p,_,rfl,P2,by omega,by omega,fun y1 H3 y10 y11 P3 B3=>?_⟩
    refine ⟨p,_,rfl,P3,by omega,by omega,fun y2 H4 y20 y21 P4 B4=>?_⟩
    have W4:=(hW2.but P2 B3).but P3 B4
    have G4:=(G2.but P2 B3 np lp).but P3 B4 np lp
    have B4:=(B2.trans B3).trans B4
    simp -dsimp[cxOf,stC,-Bool.exists_bool,-List.map_take,-Prod.forall,-Prod.exists]
    intro r1 hr1
    have r1p:r1≠p:=P4.nl hr1
    have s5:Same H4 (upd H4 r1 (.lst [.int (1+y1),.int (1+y2)])):=same_upd hr1
    have e5:upd H4 r1 (.lst [.int (1+y1),.int (1+y2)]) r1=some (.lst [.int (1+y1),.int (1+y2)]):=upd_same
    generalize upd H4 r1 (.lst [.int (1+y1),.int (1+y2)])=H5 at s5 e5 ⊢
    have P5:=potS P4 s5
    refine ⟨p,_,rfl,P5,by omega,by omega,fun y3 H6 y30 y31 P6 B6=>?_⟩
    have W6:=(W4.same s5).but P5 B6
    have G6:=(G4.same s5).but P5 B6 np lp
    have e6:=B6 _ _ r1p e5
    have B6:=(B4.same s5).trans B6
    simp -dsimp[cxOf,stC,-Bool.exists_bool,-List.map_take,-Prod.forall,-Prod.exists]
    obtain ⟨N,hN1,hN2,hat⟩:∃N:Nat,1≤N∧N≤99∧atI [V.int (1+y1),V.int (1+y2)] (y3 / 4)=some (.int N):=by
      have:y3 / 4=0∨y3 / 4=1:=by omega
      rcases this with h | h
      ·exact ⟨(1+y1).toNat,by omega,by omega,by rw [h,show ((1+y1).toNat:Int)=1+y1 by omega];exact atI_nat (j:=0) rfl⟩
      ·exact ⟨(1+y2).toNat,by omega,by omega,by rw [h,show ((1+y2).toNat:Int)=1+y2 by omega];exact atI_nat (j:=1) rfl⟩
    refine ⟨_,.inl (SqL.of e6),_,hat,?_⟩
    intro r2 hr2
    have s7:Same H6 (upd H6 r2 (.lst [.int 2])):=same_upd hr2
    have e7:upd H6 r2 (.lst [.int 2]) r2=some (.lst [.int 2]):=upd_same
    generalize upd H6 r2 (.lst [.int 2])=H7 at s7 e7 ⊢
    refine ⟨_,.inr (SqT.of (s7 _ _ G6.1)),_,atI_nat (j:=1) rfl,?_⟩
    simp -dsimp[cxOf,stC,-Bool.exists_bool,-List.map_take,-Prod.forall,-Prod.exists]
    refine ⟨_,.inl (SqL.of (s7 _ _ G6.2.2.1)),_,e7,by rw [hT.1];omega,by rw [hT.1];simp;omega,fun g hg=>?_⟩
    rw [show (List.replicate tv.length [V.int 2]).flatten=(List.replicate ps.length (2:Int)).map V.int by rw [hT.1];simp [List.flatten_replicate_singleton]]
    have s8:Same H7 (upd H7 g (.lst ((List.replicate ps.length (2:Int)).map V.int))):=same_upd hg
    have e8:upd H7 g (.lst ((List.replicate ps.length (2:Int)).map V.int)) g=some (.lst ((List.replicate ps.length (2:Int)).map V.int)):=upd_same
    generalize upd H7 g (.lst ((List.replicate ps.length (2:Int)).map V.int))=H8 at s8 e8 ⊢
    have P8:=potS P6 (s7.trans s8)
    have G8:=G6.same (s7.trans s8)
    have W8:=W6.same (s7.trans s8)
    have B8:=B6.same (s7.trans s8)
    have gp:g≠p:=P6.nl (fresh_of s7 hg)
    clear s7 e7 s8
    refine ⟨p,_,rfl,P8,by omega,by omega,fun y4 H9 y40 y41 P9 B9=>?_⟩
    have G9:=G8.but P8 B9 np lp
    have W9:=W8.but P8 B9
    have g9:=B9 _ _ gp e8
    have B9:=B8.trans B9
    have I9:RdI H9 t n l g xs tv ps (List.replicate ps.length (2:Int)):=⟨G9,g9,by simp,fun n hn=>by rw [(List.mem_replicate.mp hn).2];omega⟩
    simp -dsimp[cxOf,stC,-Bool.exists_bool,-List.map_take,-Prod.forall,-Prod.exists]
    generalize hR:tSeq (tAsg (fCall (sp_paper 20) _ _) (gName 6)) _ _=R
    have rest:∀(b:Bool) (N:Nat) Ha,1≤N→N≤99→Pot Ha p→But p H9 Ha→R [some (.ref p),some (.ref t),some (.ref o),some (.int N),some (.ref g),some (.bl b),none,none,none,none,none,none] Ha:=by
      intro b N Ha hN1 hN2 Pa Ba
      rw [← hR]
      have Ia:=I9.but P9 Ba ⟨np,lp,gp⟩
      have Wa:=W9.but P9 Ba
      have Ba:=B9.trans Ba
      simp -dsimp[cxOf,stC,-Bool.exists_bool,-List.map_take,-Prod.forall,-Prod.exists]
      intro r3 hr3
      have s3:Same Ha (upd Ha r3 (.lst [.int 4,.int 20])):=same_upd hr3
      have e3:upd Ha r3 (.lst [.int 4,.int 20]) r3=some (.lst [.int 4,.int 20]):=upd_same
      generalize upd Ha r3 (.lst [.int 4,.int 20])=Hb at s3 e3 ⊢
      have Pb:=potS Pa s3
      have Ib:=Ia.same s3
      have Wb:=Wa.same s3
      have Bb:=Ba.same s3
      obtain ⟨j,hj,hj2,hl⟩:∃j:Nat,atI [V.int 4,V.int 20] (if b=true then 1 else 0)=some (.int j)∧j≤20∧lenP b j≤12300:=by
        cases b with
        | true=>exact ⟨20,atI_nat (j:=1) rfl,by omega,by simp [lenP]⟩
        | false=>exact ⟨4,atI_nat (j:=0) rfl,by omega,by simp [lenP]⟩
      refine ⟨_,.inl (SqL.of e3),_,hj,?_⟩
      refine ⟨p,t,n,l,g,N,b,j,xs,tv,ps,_,rfl,hj2,Pb,Ib,⟨np,lp,gp⟩,hN2,fun d v Hc hd hpf Pc Bc=>?_⟩
      have Ic:=Ib.but Pb Bc ⟨np,lp,gp⟩
      have Wc:=Wb.but Pb Bc
      have Bc:=Bb.trans Bc
      have hd:ThgX (hid p Hc) d v:=hd _ fun c zs e=>hid_at (Pc.nlst e (by intro zs z;cases z)) e
      have hpf:PapF 21 12300 d:=hpf.mono (by omega) hl
      simp -dsimp[cxOf,stC,-Bool.exists_bool,-List.map_take,-Prod.forall,-Prod.exists]
      refine ⟨p,_,rfl,Pc,by omega,by omega,fun y Hd y0 y1 Pd Bd=>?_⟩
      have Id:=Ic.but Pc Bd ⟨np,lp,gp⟩
      have Wd:=Wc.but Pc Bd
      have hd:=ThgX.same (hid_but Bd) _ _ hd
      have Bd:=Bc.trans Bd
      simp -dsimp[cxOf,stC,-Bool.exists_bool,-List.map_take,-Prod.forall,-Prod.exists]
      refine ⟨by omega,by omega,frR (fun i σ H'=>(∃v7 v,σ=[some (.ref p),some (.ref t),some (.ref o),some (.int N),some (.ref g),some (.bl b),some v,v7,none,none,none,none]∧∃d,ThgX (hid p H') d v∧PapF (21+i) (12600 * 2 ^ i - 300) d)∧Pot H' p∧But p Hd H') ⟨⟨_,_,rfl,d,hd,hpf⟩,Pd,But.refl _ _⟩ ?_ ?_⟩
      · rintro i σ He hi ⟨⟨v7,v,rfl,d,hd,hpf⟩,Pe,Be⟩
        have Ie:=Id.but Pd Be ⟨np,lp,gp⟩
        simp -dsimp[cxOf,stC,-Bool.exists_bool,-List.map_take,-Prod.forall,-Prod.exists]
        refine ⟨p,t,n,l,xs,tv,ps,d,v,_,_,rfl,Pe,Ie.G,np,lp,hd,by omega,hpf,fun d' v' Hf hd' hp' Pf Bf=>?_⟩
        simp -dsimp[cxOf,stC,-Bool.exists_bool,-List.map_take,-Prod.forall,-Prod.exists]
        exact ⟨⟨_,_,⟨rfl,rfl⟩,d',hd',hp'.mono (by omega) (by rw [Nat.pow_succ];have:=Nat.one_le_two_pow (n:=i);omega)⟩,Pf,Be.trans Bf⟩
      · rintro σ He ⟨⟨v7,v,rfl,d,hd,hpf⟩,Pe,Be⟩
        have Ie:=Id.but Pd Be ⟨np,lp,gp⟩
        have We:=Wd.but Pd Be
        have Be:=Bd.trans Be
        have hpf:PapF 25 60000 d:=hpf.mono (by omega) (by
          have:y.toNat=0∨y.toNat=1∨y.toNat=2:=by omega
          rcases this with h | h | h <;> rw [h] <;> omega)
        simp -dsimp[cxOf,stC,-Bool.exists_bool,-List.map_take,-Prod.forall,-Prod.exists]
        refine ⟨p,d,v,60000,hid p He,rfl,Pe,hd,hpf,by omega,hid_same,by simp [hid],fun d' v' Hf G' hd' hp' _ _ sG _ Pf Bf=>?_⟩
        have If:=Ie.but Pe Bf ⟨np,lp,gp⟩
        have Wf:=We.but Pe Bf
        have Bf:=Be.trans Bf
        have hd':=ThgX.same sG _ _ hd'
        have hp':=hp' _ hpf
        have hs:=hp'.sml
        simp -dsimp[cxOf,stC,-Bool.exists_bool,-List.map_take,-Prod.forall,-Prod.exists]
        refine ⟨d',hd',hs.sh,Nat.le_trans hs.dp (by decide),Nat.le_trans hs.ln (by omega),?_⟩
        refine ⟨t,n,l,g,N,v',d',xs,tv,ps,_,rfl,If,hN2,hd',Nat.le_trans hs.dp (by decide),hp'.wf (by decide),fun Hg sg=>?_⟩
        rw [tfx_free]
        simp -dsimp[cxOf,stC,-Bool.exists_bool,-List.map_take,-Prod.forall,-Prod.exists]
        refine frR (fun i σ H'=>(∃v7 v11,σ=[some (.ref p),some (.ref t),some (.ref o),some (.int N),some (.ref g),some (.bl b),some v,v7,some v',some (.str d'.shown),some (.bl (papD xs ps N 30 (fun _=>none) d')),v11])∧Same Hg H') ⟨⟨_,_,rfl⟩,Same.refl _⟩ ?_ ?_
        · rintro i σ Hh hi ⟨⟨v7,v11,rfl⟩,sh⟩
          have S:=sg.trans sh
          simp -dsimp[cxOf,stC,-Bool.exists_bool,-List.map_take,-Prod.forall,-Prod.exists]
          refine ⟨o,N,v',d',xs,ps,rfl,Wf.same S,hX,hTs,hN1,hN2,ThgX.same S _ _ hd',Nat.le_trans hs.dp (by decide),hp'.shd,fun Hi si=>?_⟩
          simp -dsimp[cxOf,stC,-Bool.exists_bool,-List.map_take,-Prod.forall,-Prod.exists]
          refine ⟨_,.bl _,_,kit_bool_bool K,tBr.neg rfl ?_⟩
          simp -dsimp[cxOf,stC,-Bool.exists_bool,-List.map_take,-Prod.forall,-Prod.exists]
          refine ⟨d',ThgX.same (S.trans si) _ _ hd',hs.sh,Nat.le_trans hs.dp (by decide),Nat.le_trans hs.ln (by omega),false,by simp,tBr.neg rfl ?_⟩
          simp -dsimp[cxOf,stC,-Bool.exists_bool,-List.map_take,-Prod.forall,-Prod.exists]
          exact sh.trans si
        · rintro σ Hh ⟨⟨v7,v11,rfl⟩,sh⟩
          simp -dsimp[cxOf,stC,-Bool.exists_bool,-List.map_take,-Prod.forall,-Prod.exists]
          exact q _ (Bf.same (sg.trans sh))
    refine tBr.of (fun h=>?_) (fun h=>?_)
    · simp -dsimp[cxOf,stC,-Bool.exists_bool,-List.map_take,-Prod.forall,-Prod.exists]
      refine ⟨p,_,rfl,P9,by omega,by omega,fun z Ha z0 z1 Pa Ba=>?_⟩
      simp -dsimp[cxOf,stC,-Bool.exists_bool,-List.map_take,-Prod.forall,-Prod.exists]
      obtain ⟨M,hM⟩:∃M:Nat,1+z=(M:Int):=⟨(1+z).toNat,by omega⟩
      rw [hM]
      exact rest _ M Ha (by omega) (by omega) Pa Ba
    · simp -dsimp[cxOf,stC,-Bool.exists_bool,-List.map_take,-Prod.forall,-Prod.exists]
      exact rest _ N H9 hN1 hN2 P9 (But.refl _ _)
def sp_law (K:PySem.W.Frag):Sp:=fun vs H Q _=>∃(l:Addr) (ns:List Int),vs=[.ref l]∧SqL K H l (ns.map V.int)∧ns.length≤63∧∀H',Q (.bl true) H'
theorem ok_law (T:Txt K mg a):FnOk P w K mg base CX0 76 a.f_law a.fd_law ["_law_script"] (sp_law K):=by
  refine T.F_law.okL sc_law (fun vs H Q E h=>?_) (fun cdv A outer s H vs Q E hr h=>?_)
  · obtain ⟨l,ns,rfl,_⟩:=h
    rfl
  · obtain ⟨sl,ns,rfl,hS,hlen,q⟩:=h
    refine ⟨_,(pss_cons (ps_for PassesOwn.never rfl (PI.eqv (pi_range1 rfl T.nm.range (pa_cons (pe_callB (fcall_max2 rfl) rfl T.nm.max boot_max (pa_cons pe_int (pa_cons (pe_callB (fcall_min2 rfl) rfl T.nm.min boot_min (pa_cons (pe_callB (flenQk (K:=K) rfl) rfl T.nm.len PySem.boot_len (pa_cons (fpv 0) pa_nil)) (pa_cons pe_int pa_nil))) pa_nil))) pa_nil)) (fiRng1_eq _)) (pg_name (i:=1) sc_law.nd rfl (Or.inl rfl))
      (pss_one (ps_if (pt_not (fpt_val (PE.eqv (pe_call (ok_right (K:=K) T) (hr.mono (by decide)) rfl T.m_right T.F_right.kp T.b_right .nil pass0 (pa_cons (PE.eqv (pe_call (ok_pot (K:=K) T) (hr.mono (by decide)) rfl T.m_pot T.F_pot.kp T.b_pot .nil pass0 (pa_cons (fpv 0) (pa_cons (fpv 1) pa_nil))) (fCall_eq _ _ _)) pa_nil)) (fCall_eq _ _ _)))) (pss_one (ps_ret pe_bl)) pss_nil)))
      (pss_one (ps_ret pe_bl))),?_⟩
    simp -dsimp[cxOf,stC,-Bool.exists_bool,-List.map_take,-Prod.forall,-Prod.exists]
    refine ⟨_,.inl hS,?_⟩
    simp only [List.length_map]
    obtain ⟨m,hm,hm6⟩:∃m:Nat,(if 1<if 6<(ns.length:Int) then (6:Int) else ns.length then if 6<(ns.length:Int) then (6:Int) else ns.length else 1)=m∧m≤8:=by
      by_cases h1:6<(ns.length:Int)
      · rw [if_pos h1]
        exact ⟨6,rfl,by decide⟩
      · rw [if_neg h1]
        by_cases h2:1<(ns.length:Int)
        ·exact ⟨ns.length,by rw [if_pos h2],by omega⟩
        ·exact ⟨1,by rw [if_neg h2];rfl,by decide⟩
    simp only [hm]
    refine ⟨by omega,by omega,frR (fun i σ H'=>(∃o1,σ=[some (.ref sl),o1])∧Same H H') ⟨⟨_,rfl⟩,Same.refl _⟩ ?_ ?_⟩
    · rintro i σ H1 hi ⟨⟨o1,rfl⟩,s1⟩
      simp -dsimp[cxOf,stC,-Bool.exists_bool,-List.map_take,-Prod.forall,-Prod.exists]
      refine ⟨sl,ns,i,rfl,s1.seq hS,by simp at hi;omega,fun p H2 hp0 hP2 hB2=>?_⟩
      have s2:Same H1 H2:=fun b o e=>hB2 b o (ne_of_none e hp0) e
      refine ⟨p,rfl,hP2,fun H3 hB3=>?_⟩
      have s3:Same H1 H3:=fun b o e=>hB3 b o (ne_of_none e hp0) (s2 b o e)
      simp -dsimp[cxOf,stC,-Bool.exists_bool,-List.map_take,-Prod.forall,-Prod.exists]
      exact s1.trans s3
    · rintro σ H1 ⟨⟨o1,rfl⟩,s1⟩
      simp -dsimp[cxOf,stC,-Bool.exists_bool,-List.map_take,-Prod.forall,-Prod.exists]
      exact q _
end K92
namespace K92
open PySem L2
theorem unc {α:Type} {n:Nat} (l:List α) (h:l.length=n+1):∃a r,l=a::r:=by
  cases l with
  | nil=>cases h
  | cons a r=>exact ⟨a,r,rfl⟩
theorem byLen1 {fd:FuncData} {ps:List Str} (h:∀v0,bindArgs fd {pos:=[v0]}=pure (ps.zip [v0])):∀us:List Value,us.length=1→bindArgs fd {pos:=us}=pure (ps.zip us):=by
  intro us hl
  obtain ⟨v0,us,rfl⟩:=unc us hl
  replace hl:=Nat.succ.inj hl
  obtain rfl:=List.eq_nil_of_length_eq_zero hl
  exact h v0
theorem byLen2 {fd:FuncData} {ps:List Str} (h:∀v0 v1,bindArgs fd {pos:=[v0,v1]}=pure (ps.zip [v0,v1])):∀us:List Value,us.length=2→bindArgs fd {pos:=us}=pure (ps.zip us):=by
  intro us hl
  obtain ⟨v0,us,rfl⟩:=unc us hl
  replace hl:=Nat.succ.inj hl
  obtain ⟨v1,us,rfl⟩:=unc us hl
  replace hl:=Nat.succ.inj hl
  obtain rfl:=List.eq_nil_of_length_eq_zero hl
  exact h v0 v1
theorem byLen3 {fd:FuncData} {ps:List Str} (h:∀v0 v1 v2,bindArgs fd {pos:=[v0,v1,v2]}=pure (ps.zip [v0,v1,v2])):∀us:List Value,us.length=3→bindArgs fd {pos:=us}=pure (ps.zip us):=by
  intro us hl
  obtain ⟨v0,us,rfl⟩:=unc us hl
  replace hl:=Nat.succ.inj hl
  obtain ⟨v1,us,rfl⟩:=unc us hl
  replace hl:=Nat.succ.inj hl
  obtain ⟨v2,us,rfl⟩:=unc us hl
  replace hl:=Nat.succ.inj hl
  obtain rfl:=List.eq_nil_of_length_eq_zero hl
  exact h v0 v1 v2
theorem byLen4 {fd:FuncData} {ps:List Str} (h:∀v0 v1 v2 v3,bindArgs fd {pos:=[v0,v1,v2,v3]}=pure (ps.zip [v0,v1,v2,v3])):∀us:List Value,us.length=4→bindArgs fd {pos:=us}=pure (ps.zip us):=by
  intro us hl
  obtain ⟨v0,us,rfl⟩:=unc us hl
  replace hl:=Nat.succ.inj hl
  obtain ⟨v1,us,rfl⟩:=unc us hl
  replace hl:=Nat.succ.inj hl
  obtain ⟨v2,us,rfl⟩:=unc us hl
  replace hl:=Nat.succ.inj hl
  obtain ⟨v3,us,rfl⟩:=unc us hl
  replace hl:=Nat.succ.inj hl
  obtain rfl:=List.eq_nil_of_length_eq_zero hl
  exact h v0 v1 v2 v3
theorem byLen5 {fd:FuncData} {ps:List Str} (h:∀v0 v1 v2 v3 v4,bindArgs fd {pos:=[v0,v1,v2,v3,v4]}=pure (ps.zip [v0,v1,v2,v3,v4])):∀us:List Value,us.length=5→bindArgs fd {pos:=us}=pure (ps.zip us):=by
  intro us hl
  obtain ⟨v0,us,rfl⟩:=unc us hl
  replace hl:=Nat.succ.inj hl
  obtain ⟨v1,us,rfl⟩:=unc us hl
  replace hl:=Nat.succ.inj hl
  obtain ⟨v2,us,rfl⟩:=unc us hl
  replace hl:=Nat.succ.inj hl
  obtain ⟨v3,us,rfl⟩:=unc us hl
  replace hl:=Nat.succ.inj hl
  obtain ⟨v4,us,rfl⟩:=unc us hl
  replace hl:=Nat.succ.inj hl
  obtain rfl:=List.eq_nil_of_length_eq_zero hl
  exact h v0 v1 v2 v3 v4
theorem byLen6 {fd:FuncData} {ps:List Str} (h:∀v0 v1 v2 v3 v4 v5,bindArgs fd {pos:=[v0,v1,v2,v3,v4,v5]}=pure (ps.zip [v0,v1,v2,v3,v4,v5])):∀us:List Value,us.length=6→bindArgs fd {pos:=us}=pure (ps.zip us):=by
  intro us hl
  obtain ⟨v0,us,rfl⟩:=unc us hl
  replace hl:=Nat.succ.inj hl
  obtain ⟨v1,us,rfl⟩:=unc us hl
  replace hl:=Nat.succ.inj hl
  obtain ⟨v2,us,rfl⟩:=unc us hl
  replace hl:=Nat.succ.inj hl
  obtain ⟨v3,us,rfl⟩:=unc us hl
  replace hl:=Nat.succ.inj hl
  obtain ⟨v4,us,rfl⟩:=unc us hl
  replace hl:=Nat.succ.inj hl
  obtain ⟨v5,us,rfl⟩:=unc us hl
  replace hl:=Nat.succ.inj hl
  obtain rfl:=List.eq_nil_of_length_eq_zero hl
  exact h v0 v1 v2 v3 v4 v5
theorem all_mk {l:PySem.W.OpenLaw} {w:World} {K:PySem.W.Frag} {h:Heap} {mg:Str→Option Value} {fa C_Web f_steps_along f_ways_along f_is_list f_is_whole f_is_name f_are_points f_is_tie f_are_ties f_Web_init f_Web_points f_Web_ties f_Web_many f_is_point f_is_number f_with_one_more f_is_far_apart f_is_far_paper f_is_fork_paper f_is_paper f_reads_paper f_pot f_take f_names f_mixed f_tie f_web f_far f_leaf f_paper f_odd f_spoilt f_otherwise f_reads f_right f_law:Addr} (X:K.In h) (G:h.Ns mainGlobals mg) (hfa:mg "law" = some (.ref fa))
    {fd1 fd2 fd3 fd4 fd5 fd6 fd7 fd8 fd9 fd10 fd11 fd12 fd13 fd14 fd15 fd16 fd17 fd18 fd19 fd20 fd21 fd22 fd23 fd24 fd25 fd26 fd27 fd28 fd29 fd30 fd31 fd32 fd33 fd34:FuncData}
    {od35 an35:Option Addr} {sl35:Array (Option Value)} {oc35 kV35 dc35 pm35 cd35 ct35:Value} {tk_LETTERS tk_MOST_LETTERS tk_MOST_POINTS tk_MOST_TIES tk_MOST_FAR:Tok}
    (aC_Web:PySem.W.nsIn K mainGlobals "Web" = some (some (.ref C_Web)))
    (a1:PySem.W.nsIn K mainGlobals "steps_along" = some (some (.ref f_steps_along)))
    (F1:Fun K "steps_along" "steps_along" s_steps_along f_steps_along fd1)
    (a2:PySem.W.nsIn K mainGlobals "ways_along" = some (some (.ref f_ways_along)))
    (F2:Fun K "ways_along" "ways_along" s_ways_along f_ways_along fd2)
    (a3:PySem.W.nsIn K mainGlobals "is_list" = some (some (.ref f_is_list)))
    (F3:Fun K "is_list" "is_list" s_is_list f_is_list fd3)
    (a4:PySem.W.nsIn K mainGlobals "is_whole" = some (some (.ref f_is_whole)))
    (F4:Fun K "is_whole" "is_whole" s_is_whole f_is_whole fd4)
    (a5:PySem.W.nsIn K mainGlobals "is_name" = some (some (.ref f_is_name)))
    (F5:Fun K "is_name" "is_name" s_is_name f_is_name fd5)
    (a6:PySem.W.nsIn K mainGlobals "are_points" = some (some (.ref f_are_points)))
    (F6:Fun K "are_points" "are_points" s_are_points f_are_points fd6)
    (a7:PySem.W.nsIn K mainGlobals "is_tie" = some (some (.ref f_is_tie)))
    (F7:Fun K "is_tie" "is_tie" s_is_tie f_is_tie fd7)
    (a8:PySem.W.nsIn K mainGlobals "are_ties" = some (some (.ref f_are_ties)))
    (F8:Fun K "are_ties" "are_ties" s_are_ties f_are_ties fd8)
    (a9:PySem.W.findIn K (.ref C_Web) "__init__" = some (some (.ref f_Web_init))) (i9:PySem.W.isFn K (.ref f_Web_init)=true)
    (F9:Fun K "__init__" "Web.__init__" s_Web_init f_Web_init fd9)
    (a10:PySem.W.findIn K (.ref C_Web) "points" = some (some (.ref f_Web_points))) (i10:PySem.W.isFn K (.ref f_Web_points)=true)
    (F10:Fun K "points" "Web.points" s_Web_points f_Web_points fd10)
    (a11:PySem.W.findIn K (.ref C_Web) "ties" = some (some (.ref f_Web_ties))) (i11:PySem.W.isFn K (.ref f_Web_ties)=true)
    (F11:Fun K "ties" "Web.ties" s_Web_ties f_Web_ties fd11)
    (a12:PySem.W.findIn K (.ref C_Web) "many" = some (some (.ref f_Web_many))) (i12:PySem.W.isFn K (.ref f_Web_many)=true)
    (F12:Fun K "many" "Web.many" s_Web_many f_Web_many fd12)
    (a13:PySem.W.nsIn K mainGlobals "is_point" = some (some (.ref f_is_point)))
    (F13:Fun K "is_point" "is_point" s_is_point f_is_point fd13)
    (a14:PySem.W.nsIn K mainGlobals "is_number" = some (some (.ref f_is_number)))
    (F14:Fun K "is_number" "is_number" s_is_number f_is_number fd14)
    (a15:PySem.W.nsIn K mainGlobals "with_one_more" = some (some (.ref f_with_one_more)))
    (F15:Fun K "with_one_more" "with_one_more" s_with_one_more f_with_one_more fd15)
    (a16:PySem.W.nsIn K mainGlobals "is_far_apart" = some (some (.ref f_is_far_apart)))
    (F16:Fun K "is_far_apart" "is_far_apart" s_is_far_apart f_is_far_apart fd16)
    (a17:PySem.W.nsIn K mainGlobals "is_far_paper" = some (some (.ref f_is_far_paper)))
    (F17:Fun K "is_far_paper" "is_far_paper" s_is_far_paper f_is_far_paper fd17)
    (a18:PySem.W.nsIn K mainGlobals "is_fork_paper" = some (some (.ref f_is_fork_paper)))
    (F18:Fun K "is_fork_paper" "is_fork_paper" s_is_fork_paper f_is_fork_paper fd18)
    (a19:PySem.W.nsIn K mainGlobals "is_paper" = some (some (.ref f_is_paper)))
    (F19:Fun K "is_paper" "is_paper" s_is_paper f_is_paper fd19)
    (a20:PySem.W.nsIn K mainGlobals "reads_paper" = some (some (.ref f_reads_paper)))
    (F20:Fun K "reads_paper" "reads_paper" s_reads_paper f_reads_paper fd20)
    (a21:PySem.W.nsIn K mainGlobals "_law_pot" = some (some (.ref f_pot)))
    (F21:Fun K "_law_pot" "_law_pot" s_pot f_pot fd21)
    (a22:PySem.W.nsIn K mainGlobals "_law_take" = some (some (.ref f_take)))
    (F22:Fun K "_law_take" "_law_take" s_take f_take fd22)
    (a23:PySem.W.nsIn K mainGlobals "_law_names" = some (some (.ref f_names)))
    (F23:Fun K "_law_names" "_law_names" s_names f_names fd23)
    (a24:PySem.W.nsIn K mainGlobals "_law_mixed" = some (some (.ref f_mixed)))
    (F24:Fun K "_law_mixed" "_law_mixed" s_mixed f_mixed fd24)
    (a25:PySem.W.nsIn K mainGlobals "_law_tie" = some (some (.ref f_tie)))
    (F25:Fun K "_law_tie" "_law_tie" s_tie f_tie fd25)
    (a26:PySem.W.nsIn K mainGlobals "_law_web" = some (some (.ref f_web)))
    (F26:Fun K "_law_web" "_law_web" s_web f_web fd26)
    (a27:PySem.W.nsIn K mainGlobals "_law_far" = some (some (.ref f_far)))
    (F27:Fun K "_law_far" "_law_far" s_far f_far fd27)
    (a28:PySem.W.nsIn K mainGlobals "_law_leaf" = some (some (.ref f_leaf)))
    (F28:Fun K "_law_leaf" "_law_leaf" s_leaf f_leaf fd28)
    (a29:PySem.W.nsIn K mainGlobals "_law_paper" = some (some (.ref f_paper)))
    (F29:Fun K "_law_paper" "_law_paper" s_paper f_paper fd29)
    (a30:PySem.W.nsIn K mainGlobals "_law_odd" = some (some (.ref f_odd)))
    (F30:Fun K "_law_odd" "_law_odd" s_odd f_odd fd30)
    (a31:PySem.W.nsIn K mainGlobals "_law_spoilt" = some (some (.ref f_spoilt)))
    (F31:Fun K "_law_spoilt" "_law_spoilt" s_spoilt f_spoilt fd31)
    (a32:PySem.W.nsIn K mainGlobals "_law_otherwise" = some (some (.ref f_otherwise)))
    (F32:Fun K "_law_otherwise" "_law_otherwise" s_otherwise f_otherwise fd32)
    (a33:PySem.W.nsIn K mainGlobals "_law_reads" = some (some (.ref f_reads)))
    (F33:Fun K "_law_reads" "_law_reads" s_reads f_reads fd33)
    (a34:PySem.W.nsIn K mainGlobals "_law_right" = some (some (.ref f_right)))
    (F34:Fun K "_law_right" "_law_right" s_right f_right fd34)
    (a35:PySem.W.nsIn K mainGlobals "law" = some (some (.ref f_law)))
    (l35:K.lookup f_law=some ⟨oc35,od35,.func (PySem.W.fnOf "law" "law" (defArgs s_law) (defBody s_law) (defScope s_law) .none kV35 dc35 pm35 an35 cd35 ct35),sl35⟩) (c35:PySem.W.codeIn K cd35 "law" = true) (k35:PySem.W.keepIn K (.ref f_law)=true)
    (u_LETTERS:PySem.W.nsIn K mainGlobals "LETTERS" = some (some (.str "abcdefghijklmnopqrstuvwxyz" tk_LETTERS)))
    (u_MOST_LETTERS:PySem.W.nsIn K mainGlobals "MOST_LETTERS" = some (some (.int 4 tk_MOST_LETTERS)))
    (u_MOST_POINTS:PySem.W.nsIn K mainGlobals "MOST_POINTS" = some (some (.int 9 tk_MOST_POINTS)))
    (u_MOST_TIES:PySem.W.nsIn K mainGlobals "MOST_TIES" = some (some (.int 20 tk_MOST_TIES)))
    (u_MOST_FAR:PySem.W.nsIn K mainGlobals "MOST_FAR" = some (some (.int 99 tk_MOST_FAR)))
    (pg_Web:PySem.W.plainGet K C_Web Str.empty=true) (hd_Web:PySem.W.hasDictIn K C_Web=true) (po_Web:PySem.W.plainOver K C_Web=true) (sa_Web:PySem.W.findIn K (.ref C_Web) "__setattr__" = some (some (.builtin "object.__setattr__"))) (mk_Web:PySem.W.makesIn K C_Web=true) (kc_Web:PySem.W.keepIn K (.ref C_Web)=true)
    (na_names:PySem.W.findIn K (.ref C_Web) "names" = some none)
    (na_pairs:PySem.W.findIn K (.ref C_Web) "pairs" = some none)
    (z_len:PySem.W.nsIn K mainGlobals "len" = some none)
    (z_max:PySem.W.nsIn K mainGlobals "max" = some none)
    (z_min:PySem.W.nsIn K mainGlobals "min" = some none)
    (z_abs:PySem.W.nsIn K mainGlobals "abs" = some none)
    (z_divmod:PySem.W.nsIn K mainGlobals "divmod" = some none)
    (z_range:PySem.W.nsIn K mainGlobals "range" = some none)
    (z_zip:PySem.W.nsIn K mainGlobals "zip" = some none)
    (z_list:PySem.W.nsIn K mainGlobals "list" = some none)
    (z_tuple:PySem.W.nsIn K mainGlobals "tuple" = some none)
    (z_int:PySem.W.nsIn K mainGlobals "int" = some none)
    (z_str:PySem.W.nsIn K mainGlobals "str" = some none)
    (z_set:PySem.W.nsIn K mainGlobals "set" = some none)
    (z_all:PySem.W.nsIn K mainGlobals "all" = some none)
    (z_isinstance:PySem.W.nsIn K mainGlobals "isinstance" = some none)
    (z_enumerate:PySem.W.nsIn K mainGlobals "enumerate" = some none)
    (z_any:PySem.W.nsIn K mainGlobals "any" = some none)
    (z_dict:PySem.W.nsIn K mainGlobals "dict" = some none)
    (z_sorted:PySem.W.nsIn K mainGlobals "sorted" = some none)
    (z_repr:PySem.W.nsIn K mainGlobals "repr" = some none)
    (z_bool:PySem.W.nsIn K mainGlobals "bool" = some none)
    (z_sum:PySem.W.nsIn K mainGlobals "sum" = some none)
    : ∃fd:FuncData,(∀(s:Shared) (v:Value),BindsTo s fd ⟨[v],[]⟩ [("_law_script",v)])∧∀base:Heap,K.In base→base.Ns mainGlobals mg→FnOk l.prog w K mg base CX0 76 fa fd ["_law_script"] (sp_law K):=by
  have e:=hfa.symm.trans (PySem.W.mg_of X G a35)
  cases e
  have b1:=F1.binds (ps:=["web", "fixed"]) fun _ _ _ _ _ _=>byLen2 fun _ _=>rfl
  have b2:=F2.binds (ps:=["start", "steps"]) fun _ _ _ _ _ _=>byLen2 fun _ _=>rfl
  have b3:=F3.binds (ps:=["thing"]) fun _ _ _ _ _ _=>byLen1 fun _=>rfl
  have b4:=F4.binds (ps:=["thing"]) fun _ _ _ _ _ _=>byLen1 fun _=>rfl
  have b5:=F5.binds (ps:=["thing"]) fun _ _ _ _ _ _=>byLen1 fun _=>rfl
  have b6:=F6.binds (ps:=["thing"]) fun _ _ _ _ _ _=>byLen1 fun _=>rfl
  have b7:=F7.binds (ps:=["thing", "points"]) fun _ _ _ _ _ _=>byLen2 fun _ _=>rfl
  have b8:=F8.binds (ps:=["thing", "points"]) fun _ _ _ _ _ _=>byLen2 fun _ _=>rfl
  have b9:=F9.binds (ps:=["self", "points", "ties"]) fun _ _ _ _ _ _=>byLen3 fun _ _ _=>rfl
  have b10:=F10.binds (ps:=["self"]) fun _ _ _ _ _ _=>byLen1 fun _=>rfl
  have b11:=F11.binds (ps:=["self"]) fun _ _ _ _ _ _=>byLen1 fun _=>rfl
  have b12:=F12.binds (ps:=["self"]) fun _ _ _ _ _ _=>byLen1 fun _=>rfl
  have b13:=F13.binds (ps:=["web", "thing"]) fun _ _ _ _ _ _=>byLen2 fun _ _=>rfl
  have b14:=F14.binds (ps:=["web", "thing"]) fun _ _ _ _ _ _=>byLen2 fun _ _=>rfl
  have b15:=F15.binds (ps:=["fixed", "number", "lead"]) fun _ _ _ _ _ _=>byLen3 fun _ _ _=>rfl
  have b16:=F16.binds (ps:=["web", "number", "a", "b", "fixed"]) fun _ _ _ _ _ _=>byLen5 fun _ _ _ _ _=>rfl
  have b17:=F17.binds (ps:=["web", "number", "thing", "fixed"]) fun _ _ _ _ _ _=>byLen4 fun _ _ _ _=>rfl
  have b18:=F18.binds (ps:=["web", "number", "thing", "fixed"]) fun _ _ _ _ _ _=>byLen4 fun _ _ _ _=>rfl
  have b19:=F19.binds (ps:=["web", "number", "thing", "fixed"]) fun _ _ _ _ _ _=>byLen4 fun _ _ _ _=>rfl
  have b20:=F20.binds (ps:=["web", "number", "thing"]) fun _ _ _ _ _ _=>byLen3 fun _ _ _=>rfl
  have b21:=F21.binds (ps:=["_law_script", "_law_k"]) fun _ _ _ _ _ _=>byLen2 fun _ _=>rfl
  have b22:=F22.binds (ps:=["_law_pot_here", "_law_many"]) fun _ _ _ _ _ _=>byLen2 fun _ _=>rfl
  have b23:=F23.binds (ps:=["_law_pot_here", "_law_many"]) fun _ _ _ _ _ _=>byLen2 fun _ _=>rfl
  have b24:=F24.binds (ps:=["_law_pot_here", "_law_things"]) fun _ _ _ _ _ _=>byLen2 fun _ _=>rfl
  have b25:=F25.binds (ps:=["_law_pot_here", "_law_names_here"]) fun _ _ _ _ _ _=>byLen2 fun _ _=>rfl
  have b26:=F26.binds (ps:=["_law_pot_here", "_law_points", "_law_most"]) fun _ _ _ _ _ _=>byLen3 fun _ _ _=>rfl
  have b27:=F27.binds (ps:=["_law_web_here", "_law_turns", "_law_a"]) fun _ _ _ _ _ _=>byLen3 fun _ _ _=>rfl
  have b28:=F28.binds (ps:=["_law_pot_here", "_law_web_here", "_law_turns", "_law_number", "_law_is_long"]) fun _ _ _ _ _ _=>byLen5 fun _ _ _ _ _=>rfl
  have b29:=F29.binds (ps:=["_law_pot_here", "_law_web_here", "_law_turns", "_law_number", "_law_deep", "_law_is_long"]) fun _ _ _ _ _ _=>byLen6 fun _ _ _ _ _ _=>rfl
  have b30:=F30.binds (ps:=["_law_pot_here", "_law_web_here"]) fun _ _ _ _ _ _=>byLen2 fun _ _=>rfl
  have b31:=F31.binds (ps:=["_law_pot_here", "_law_web_here", "_law_paper_here"]) fun _ _ _ _ _ _=>byLen3 fun _ _ _=>rfl
  have b32:=F32.binds (ps:=["_law_pot_here", "_law_paper_here"]) fun _ _ _ _ _ _=>byLen2 fun _ _=>rfl
  have b33:=F33.binds (ps:=["_law_web_here", "_law_turns", "_law_number", "_law_thing"]) fun _ _ _ _ _ _=>byLen4 fun _ _ _ _=>rfl
  have b34:=F34.binds (ps:=["_law_pot_here"]) fun _ _ _ _ _ _=>byLen1 fun _=>rfl
  have F35:=fun_mk (st:=s_law) l35 c35 k35
  have b35:=F35.binds (ps:=["_law_script"]) fun _ _ _ _ _ _=>byLen1 fun _=>rfl
  have T:Txt K mg {f_steps_along:=f_steps_along,fd_steps_along:=fd1,f_ways_along:=f_ways_along,fd_ways_along:=fd2,f_is_list:=f_is_list,fd_is_list:=fd3,f_is_whole:=f_is_whole,fd_is_whole:=fd4,f_is_name:=f_is_name,fd_is_name:=fd5,f_are_points:=f_are_points,fd_are_points:=fd6,f_is_tie:=f_is_tie,fd_is_tie:=fd7,f_are_ties:=f_are_ties,fd_are_ties:=fd8,f_Web_init:=f_Web_init,fd_Web_init:=fd9,f_Web_points:=f_Web_points,fd_Web_points:=fd10,f_Web_ties:=f_Web_ties,fd_Web_ties:=fd11,f_Web_many:=f_Web_many,fd_Web_many:=fd12,f_is_point:=f_is_point,fd_is_point:=fd13,f_is_number:=f_is_number,fd_is_number:=fd14,f_with_one_more:=f_with_one_more,fd_with_one_more:=fd15,f_is_far_apart:=f_is_far_apart,fd_is_far_apart:=fd16,f_is_far_paper:=f_is_far_paper,fd_is_far_paper:=fd17,f_is_fork_paper:=f_is_fork_paper,fd_is_fork_paper:=fd18,f_is_paper:=f_is_paper,fd_is_paper:=fd19,f_reads_paper:=f_reads_paper,fd_reads_paper:=fd20,f_pot:=f_pot,fd_pot:=fd21,f_take:=f_take,fd_take:=fd22,f_names:=f_names,fd_names:=fd23,f_mixed:=f_mixed,fd_mixed:=fd24,f_tie:=f_tie,fd_tie:=fd25,f_web:=f_web,fd_web:=fd26,f_far:=f_far,fd_far:=fd27,f_leaf:=f_leaf,fd_leaf:=fd28,f_paper:=f_paper,fd_paper:=fd29,f_odd:=f_odd,fd_odd:=fd30,f_spoilt:=f_spoilt,fd_spoilt:=fd31,f_otherwise:=f_otherwise,fd_otherwise:=fd32,f_reads:=f_reads,fd_reads:=fd33,f_right:=f_right,fd_right:=fd34,f_law:=fa,fd_law:=PySem.W.fnOf "law" "law" (defArgs s_law) (defBody s_law) (defScope s_law) .none kV35 dc35 pm35 an35 cd35 ct35,u_LETTERS:=.str "abcdefghijklmnopqrstuvwxyz" tk_LETTERS,u_MOST_LETTERS:=.int 4 tk_MOST_LETTERS,u_MOST_POINTS:=.int 9 tk_MOST_POINTS,u_MOST_TIES:=.int 20 tk_MOST_TIES,u_MOST_FAR:=.int 99 tk_MOST_FAR,C_Web:=C_Web}:={F_steps_along:=F1,b_steps_along:=b1,m_steps_along:=PySem.W.mg_of X G a1,F_ways_along:=F2,b_ways_along:=b2,m_ways_along:=PySem.W.mg_of X G a2,F_is_list:=F3,b_is_list:=b3,m_is_list:=PySem.W.mg_of X G a3,F_is_whole:=F4,b_is_whole:=b4,m_is_whole:=PySem.W.mg_of X G a4,F_is_name:=F5,b_is_name:=b5,m_is_name:=PySem.W.mg_of X G a5,F_are_points:=F6,b_are_points:=b6,m_are_points:=PySem.W.mg_of X G a6,F_is_tie:=F7,b_is_tie:=b7,m_is_tie:=PySem.W.mg_of X G a7,F_are_ties:=F8,b_are_ties:=b8,m_are_ties:=PySem.W.mg_of X G a8,F_Web_init:=F9,b_Web_init:=b9,F_Web_points:=F10,b_Web_points:=b10,M_Web_points:=⟨a10,i10,F10.kp⟩,F_Web_ties:=F11,b_Web_ties:=b11,M_Web_ties:=⟨a11,i11,F11.kp⟩,F_Web_many:=F12,b_Web_many:=b12,M_Web_many:=⟨a12,i12,F12.kp⟩,F_is_point:=F13,b_is_point:=b13,m_is_point:=PySem.W.mg_of X G a13,F_is_number:=F14,b_is_number:=b14,m_is_number:=PySem.W.mg_of X G a14,F_with_one_more:=F15,b_with_one_more:=b15,m_with_one_more:=PySem.W.mg_of X G a15,F_is_far_apart:=F16,b_is_far_apart:=b16,m_is_far_apart:=PySem.W.mg_of X G a16,F_is_far_paper:=F17,b_is_far_paper:=b17,m_is_far_paper:=PySem.W.mg_of X G a17,F_is_fork_paper:=F18,b_is_fork_paper:=b18,m_is_fork_paper:=PySem.W.mg_of X G a18,F_is_paper:=F19,b_is_paper:=b19,m_is_paper:=PySem.W.mg_of X G a19,F_reads_paper:=F20,b_reads_paper:=b20,m_reads_paper:=PySem.W.mg_of X G a20,F_pot:=F21,b_pot:=b21,m_pot:=PySem.W.mg_of X G a21,F_take:=F22,b_take:=b22,m_take:=PySem.W.mg_of X G a22,F_names:=F23,b_names:=b23,m_names:=PySem.W.mg_of X G a23,F_mixed:=F24,b_mixed:=b24,m_mixed:=PySem.W.mg_of X G a24,F_tie:=F25,b_tie:=b25,m_tie:=PySem.W.mg_of X G a25,F_web:=F26,b_web:=b26,m_web:=PySem.W.mg_of X G a26,F_far:=F27,b_far:=b27,m_far:=PySem.W.mg_of X G a27,F_leaf:=F28,b_leaf:=b28,m_leaf:=PySem.W.mg_of X G a28,F_paper:=F29,b_paper:=b29,m_paper:=PySem.W.mg_of X G a29,F_odd:=F30,b_odd:=b30,m_odd:=PySem.W.mg_of X G a30,F_spoilt:=F31,b_spoilt:=b31,m_spoilt:=PySem.W.mg_of X G a31,F_otherwise:=F32,b_otherwise:=b32,m_otherwise:=PySem.W.mg_of X G a32,F_reads:=F33,b_reads:=b33,m_reads:=PySem.W.mg_of X G a33,F_right:=F34,b_right:=b34,m_right:=PySem.W.mg_of X G a34,F_law:=F35,b_law:=b35,m_law:=PySem.W.mg_of X G a35,h_LETTERS:=PySem.W.mg_of X G u_LETTERS,r_LETTERS:=⟨tk_LETTERS,rfl⟩,h_MOST_LETTERS:=PySem.W.mg_of X G u_MOST_LETTERS,r_MOST_LETTERS:=⟨tk_MOST_LETTERS,rfl⟩,h_MOST_POINTS:=PySem.W.mg_of X G u_MOST_POINTS,r_MOST_POINTS:=⟨tk_MOST_POINTS,rfl⟩,h_MOST_TIES:=PySem.W.mg_of X G u_MOST_TIES,r_MOST_TIES:=⟨tk_MOST_TIES,rfl⟩,h_MOST_FAR:=PySem.W.mg_of X G u_MOST_FAR,r_MOST_FAR:=⟨tk_MOST_FAR,rfl⟩,n_names:=na_names,n_pairs:=na_pairs,m_Web:=PySem.W.mg_of X G aC_Web,c_Web:=⟨pg_Web,hd_Web,po_Web,sa_Web⟩,K_Web:=⟨mk_Web,a9,i9,kc_Web⟩,nm:=⟨PySem.W.mg_none_of X G z_len,PySem.W.mg_none_of X G z_max,PySem.W.mg_none_of X G z_min,PySem.W.mg_none_of X G z_abs,PySem.W.mg_none_of X G z_divmod,PySem.W.mg_none_of X G z_range,PySem.W.mg_none_of X G z_zip,PySem.W.mg_none_of X G z_list,PySem.W.mg_none_of X G z_tuple,PySem.W.mg_none_of X G z_int,PySem.W.mg_none_of X G z_str,PySem.W.mg_none_of X G z_set,PySem.W.mg_none_of X G z_all,PySem.W.mg_none_of X G z_isinstance⟩,nm2:=⟨PySem.W.mg_none_of X G z_enumerate,PySem.W.mg_none_of X G z_any,PySem.W.mg_none_of X G z_dict,PySem.W.mg_none_of X G z_sorted,PySem.W.mg_none_of X G z_repr,PySem.W.mg_none_of X G z_bool⟩,nm3:=⟨PySem.W.mg_none_of X G z_sum⟩}
  exact ⟨_,fun s v=>.of_eq rfl,fun base _ _=>ok_law T⟩
theorem walk {l:PySem.W.OpenLaw} {q:Program} {loose:List Str} {XP:(Str→Option Value)→Heap→Prop} {YP:World→Heap→Prop} {d:DefRec} {K:Params→PySem.W.Frag} (hn:l.most=some 63) (hdf:d.params.defaults=[])
    (hY:∀(w:World) (h:Heap),YP w h→(K w.params).In h)
    (F:∀(w:World) (mg:Str→Option Value) (fa:Addr) (h:Heap),(K w.params).In h→h.Ns mainGlobals mg→mg d.name=some (.ref fa)→
      ∃fd:FuncData,(∀(s:Shared) (u:Value),BindsTo s fd ⟨[u],[]⟩ [("_law_script",u)])∧∀base:Heap,(K w.params).In base→base.Ns mainGlobals mg→FnOk l.prog w (K w.params) mg base CX0 76 fa fd ["_law_script"] (sp_law (K w.params))) :
    PySem.W.WalkO q loose XP YP l.row.toRowW d [] (fun f vs=>PySem.call f vs):=
  L2.walk_of (n:=63) (k:=76) (x:= "_law_script") (CX:=fun _=>CX0) (sp:=fun w=>sp_law (K w.params)) hn (by decide) hdf ⟨rfl,by decide,by decide,rfl⟩ hY F (fun _ _ a ns hl _ hS=>⟨a,ns,rfl,hS,hl,fun _=>rfl⟩) fun _ _ _ _ _ z=>z
end K92
end
set_option Elab.async false
set_option maxRecDepth 100000
set_option maxHeartbeats 4000000
open PySem PySem.W PyProof.Rows
namespace PySem.W.Fast
def tw6051578076406632316:=0
def tw3026721705576299225:=0
def tw17932315475755590657:=0
def tw3749905894371733748:=0
def tw268865784006425892:=0
def tw14719860878916436801:=0
def tw13655689498217054470:=0
def tw11251191590683042435:=0
def tw10412297822134521617:=0
def tw6222559779213354898:=0
def tw1530631226137090615:=0
def tw15211272884194349644:=0
def tw2965077867075179039:=0
def tw7656729183609487850:=0
def tw17621367125403303665:=0
def tw441359027715456795:=0
def tw2670819882458640038:=0
def tw642657601133112118:=0
def tw11315107407246016685:=0
def tw7910535643381303077:=0
def tw14504715792526330542:=0
def tw8842338014047198907:=0
def tw6755692917399959569:=0
def tw11949021908995969981:=0
def tw810807841759329264:=0
def tw11567762801368095003:=0
def tw14564046059281907827:=0
def tw4910900320053046800:=0
def tw6979556654184596505:=0
def tw5913657142765890067:=0
end PySem.W.Fast
set_option maxRecDepth 100000 in
set_option maxHeartbeats 0 in
theorem PySem.Challenge.cw_pointways_k92_whole_papers_read_holds : PySem.Challenge.rw_pointways_k92_whole_papers_read.Holds := by
  w_on;o_law;k_head;(case hw=>w_witness2)
  k_fill
  refine' K92.walk (l:=PySem.Challenge.rw_pointways_k92_whole_papers_read) rfl rfl (fun w h Y=>PySem.W.kIn_of Y) ?F
  case F=>
    intro w mg fa h KX G hmg
    refine' K92.all_mk KX G hmg ?aC_Web ?a1 ?F1 ?a2 ?F2 ?a3 ?F3 ?a4 ?F4 ?a5 ?F5 ?a6 ?F6 ?a7 ?F7 ?a8 ?F8 ?a9 ?i9 ?F9 ?a10 ?i10 ?F10 ?a11 ?i11 ?F11 ?a12 ?i12 ?F12 ?a13 ?F13 ?a14 ?F14 ?a15 ?F15 ?a16 ?F16 ?a17 ?F17 ?a18 ?F18 ?a19 ?F19 ?a20 ?F20 ?a21 ?F21 ?a22 ?F22 ?a23 ?F23 ?a24 ?F24 ?a25 ?F25 ?a26 ?F26 ?a27 ?F27 ?a28 ?F28 ?a29 ?F29 ?a30 ?F30 ?a31 ?F31 ?a32 ?F32 ?a33 ?F33 ?a34 ?F34 ?a35 ?l35 ?c35 ?k35 ?u_LETTERS ?u_MOST_LETTERS ?u_MOST_POINTS ?u_MOST_TIES ?u_MOST_FAR ?pg_Web ?hd_Web ?po_Web ?sa_Web ?mk_Web ?kc_Web ?na_names ?na_pairs ?z_len ?z_max ?z_min ?z_abs ?z_divmod ?z_range ?z_zip ?z_list ?z_tuple ?z_int ?z_str ?z_set ?z_all ?z_isinstance ?z_enumerate ?z_any ?z_dict ?z_sorted ?z_repr ?z_bool ?z_sum
    case aC_Web | a1 | a2 | a3 | a4 | a5 | a6 | a7 | a8 | a9 | i9 | a10 | i10 | a11 | i11 | a12 | i12 | a13 | a14 | a15 | a16 | a17 | a18 | a19 | a20 | a21 | a22 | a23 | a24 | a25 | a26 | a27 | a28 | a29 | a30 | a31 | a32 | a33 | a34 | a35 | l35 | c35 | k35 | u_LETTERS | u_MOST_LETTERS | u_MOST_POINTS | u_MOST_TIES | u_MOST_FAR | pg_Web | hd_Web | po_Web | sa_Web | mk_Web | kc_Web | na_names | na_pairs | z_len | z_max | z_min | z_abs | z_divmod | z_range | z_zip | z_list | z_tuple | z_int | z_str | z_set | z_all | z_isinstance | z_enumerate | z_any | z_dict | z_sorted | z_repr | z_bool | z_sum=>k_is
    case F1 | F2 | F3 | F4 | F5 | F6 | F7 | F8 | F9 | F10 | F11 | F12 | F13 | F14 | F15 | F16 | F17 | F18 | F19 | F20 | F21 | F22 | F23 | F24 | F25 | F26 | F27 | F28 | F29 | F30 | F31 | F32 | F33 | F34=>refine' L2.fun_mk ?l ?c ?k;(case l=>k_is);(case c=>k_is);(case k=>k_is)


