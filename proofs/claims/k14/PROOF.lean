import PyProof.Rows.All
import Wide.All
import OpenK.AllK
import Wide.FinOn
import Lean
import PyProof.EqAt
import PyProof.EqKinds
import PyProof.TupleCall
import PyProof.NeData
import PyProof.AttrMissHeap
import PyProof.FactsAll.enumerate_1
import KE.KDictOf
import PyProof.EnumMake
import PyProof.Rows.SumAny
import PyProof.Rows.StrJoin2
import PyProof.Rows.CountFlat
import PyProof.Rows.FoldWordsD
import PyProof.Rows.SeqMore2
import PyProof.Rows.MinMaxN
import PyProof.Rows.StrInSeq3
import PyProof.Rows.ReprR
import PyProof.StrLawsRepr
import PyProof.StrCalls2
import PyProof.Rows.StrNews2
import PyProof.Rows.StrSplitJoin
import PyProof.StrLawsTight
import PyProof.StrLawsChain
import PyProof.FString4
import PyProof.RulesTry
import PySem.Challenge.RW_pointways_k14_whole_no_web_texts
set_option genSizeOfSpec false
noncomputable section
set_option Elab.async false
set_option linter.all false
set_option maxRecDepth 100000
namespace L2
open PySem PySem.Spec PyProof.Rows
abbrev Key:=Sum Int Str
def keyIs:Key→Value→Bool
  | .inl k,v=>Value.isInt k v
  | .inr x,v=>Value.isStrOf x v
def keyH (w:World):Key→Int
  | .inl k=>hashInt k
  | .inr x=>hashStr w x
theorem keyIs_shape:∀{k:Key} {v:Value},keyIs k v=true→(∃i t,k=Sum.inl i∧v=Value.int i t)∨(∃x t,k=Sum.inr x∧v=Value.str x t)
  | .inl i,v,h=>by
    obtain ⟨t,e⟩:=Value.isInt_shape (k:=i) (v:=v) h
    exact .inl ⟨i,t,rfl,e⟩
  | .inr x,v,h=>by
    obtain ⟨t,e⟩:=Value.isStrOf_shape (x:=x) (v:=v) h
    exact .inr ⟨x,t,rfl,e⟩
theorem keyIs_int (i:Int) (t:Tok):keyIs (.inl i) (.int i t)=true:=by simp [keyIs,Value.isInt]
theorem keyIs_str (x:Str) (t:Tok):keyIs (.inr x) (.str x t)=true:=by simp [keyIs,Value.isStrOf]
theorem key_ll (a b:Int):decide ((Sum.inl a:Key)=Sum.inl b)=(a == b):=by
  by_cases e:a=b
  ·subst e;simp
  · have h:¬(Sum.inl a:Key)=Sum.inl b:=fun q=>e (Sum.inl.inj q)
    rw [decide_eq_false h]
    exact (beq_eq_false_iff_ne.mpr e).symm
theorem key_rr (a b:Str):decide ((Sum.inr a:Key)=Sum.inr b)=decide (a=b):=by
  by_cases e:a=b
  ·subst e;simp
  · have h:¬(Sum.inr a:Key)=Sum.inr b:=fun q=>e (Sum.inr.inj q)
    rw [decide_eq_false h,decide_eq_false e]
theorem key_lr (a:Int) (b:Str):decide ((Sum.inl a:Key)=Sum.inr b)=false:=decide_eq_false (fun q=>nomatch q)
theorem key_rl (a:Str) (b:Int):decide ((Sum.inr a:Key)=Sum.inl b)=false:=decide_eq_false (fun q=>nomatch q)
def mixKind (prog:Program) (w:World):PySem.KeyKind prog w Key where
  is:=keyIs
  hash:=keyH w
  inj:=fun v a b ha hb=>by
    rcases keyIs_shape ha with ⟨i,t,rfl,rfl⟩ | ⟨x,t,rfl,rfl⟩
    · rcases keyIs_shape hb with ⟨j,u,rfl,e⟩ | ⟨y,u,rfl,e⟩
      ·injection e with e1 _;rw [e1]
      ·exact nomatch e
    · rcases keyIs_shape hb with ⟨j,u,rfl,e⟩ | ⟨y,u,rfl,e⟩
      ·exact nomatch e
      ·injection e with e1 _;rw [e1]
  byValue:=fun k v h=>by
    rcases keyIs_shape h with ⟨i,t,rfl,rfl⟩ | ⟨x,t,rfl,rfl⟩ <;> rfl
  pyHash:=fun hv h=>by
    rcases keyIs_shape hv with ⟨i,t,rfl,rfl⟩ | ⟨x,t,rfl,rfl⟩
    ·exact wpAny_pyHash_int h
    ·exact wpAny_pyHash_str h
  eqBool:=fun hu hv h=>by
    rcases keyIs_shape hu with ⟨i,t,rfl,rfl⟩ | ⟨x,t,rfl,rfl⟩
    · rcases keyIs_shape hv with ⟨j,u,rfl,rfl⟩ | ⟨y,u,rfl,rfl⟩
      ·rw [key_ll] at h;exact wpAny_eqBool_int h
      ·rw [key_lr] at h;exact SeqAt.EqAt.int_str i t y u _ _ _ _ h
    · rcases keyIs_shape hv with ⟨j,u,rfl,rfl⟩ | ⟨y,u,rfl,rfl⟩
      ·rw [key_rl] at h;exact SeqAt.EqAt.str_int x t j u _ _ _ _ h
      ·rw [key_rr] at h;exact wpAny_eqBool_str h
  «strs»:=fun k x t v h=>by
    rcases keyIs_shape h with ⟨i,u,rfl,e⟩ | ⟨y,u,rfl,e⟩
    ·exact nomatch e
    · injection e with e1 _
      subst e1
      cases v <;> rfl
inductive V where
  | non | bl (b:Bool) | int (i:Int) | str (x:Str) | byt (b:Array UInt8) | flt (b:UInt64) | ref (a:Addr) | ty (n:String)
  deriving DecidableEq
def RelV:V→Value→Prop
  | .non,u=>u=Value.none
  | .bl b,u=>u=Value.bool b
  | .int i,u=>∃t,u=Value.int i t
  | .str x,u=>∃t,u=Value.str x t
  | .byt b,u=>∃t,u=Value.bytes b t
  | .flt b,u=>∃t,u=Value.float b t
  | .ref a,u=>u=Value.ref a
  | .ty n,u=>u=Value.type n
abbrev Vals:List V→List Value→Prop:=Paired RelV
theorem Vals.length {xs:List V} {us:List Value} (r:Vals xs us):xs.length=us.length:=Paired.length r
theorem Vals.get:∀{xs:List V} {us:List Value} {i:Nat} {x:V},Vals xs us→xs[i]? = some x→∃u,us[i]? = some u∧RelV x u
  | _,_,_,_,.nil,e=>by simp at e
  | _,_,0,_,.cons r _,e=>by simp at e;subst e;exact ⟨_,rfl,r⟩
  | _,_,i+1,x,.cons _ t,e=>by
    obtain ⟨u,h1,h2⟩:=Vals.get (i:=i) (x:=x) t (by simpa using e)
    exact ⟨u,by simpa using h1,h2⟩
theorem Vals.set {x:V} {u:Value} (r:RelV x u):∀{xs:List V} {us:List Value} (i:Nat),Vals xs us→Vals (xs.set i x) (us.set i u)
  | _,_,_,.nil=>.nil
  | _,_,0,.cons _ t=>.cons r t
  | _,_,i+1,.cons q t=>.cons q (Vals.set r i t)
theorem Vals.append:∀{xs ys:List V} {us ws:List Value},Vals xs us→Vals ys ws→Vals (xs++ys) (us++ws)
  | _,_,_,_,.nil,s=>s
  | _,_,_,_,.cons r t,s=>.cons r (Vals.append t s)
theorem Vals.take:∀{xs:List V} {us:List Value} (n:Nat),Vals xs us→Vals (xs.take n) (us.take n)
  | _,_,0,_=>.nil
  | _,_,_+1,.nil=>.nil
  | _,_,n+1,.cons r t=>.cons r (Vals.take n t)
theorem Vals.drop:∀{xs:List V} {us:List Value} (n:Nat),Vals xs us→Vals (xs.drop n) (us.drop n)
  | _,_,0,r=>r
  | _,_,_+1,.nil=>.nil
  | _,_,n+1,.cons _ t=>Vals.drop n t
def RelO:Option V→Option Value→Prop
  | some v,some u=>RelV v u
  | none,none=>True
  | _,_=>False
def KV {κ:Type}:List (κ×V)→List (κ×Value)→Prop:=Paired fun (p:κ×V) (q:κ×Value)=>p.1=q.1∧RelV p.2 q.2
def kV:Key→V
  | .inl i=>.int i
  | .inr x=>.str x
inductive HO where
  | lst (xs:List V)
  | tup (xs:List V)
  | dK (kvs:List (Key×V)) | dT (kvs:List (List Key×V))
  | set (S:Int→Bool) (n:Nat)
  | ins (C dx:Addr) (fs:List (Str×V))
  | own (x:Addr)
  | xd (fs:List (Str×V))
  | met (f x:Addr)
  | rng (lo hi:Int)
  | frz (o:Obj) (u:HO)
  | tbl (ps:Array Value)
  | ext (φ:Heap→Prop)
abbrev Hp:=Addr→Option HO
def upd (H:Hp) (a:Addr) (o:HO):Hp:=fun b=>if b=a then some o else H b
theorem upd_same {H:Hp} {a:Addr} {o:HO}:upd H a o a=some o:=by unfold upd;rw [if_pos rfl]
theorem upd_ne {H:Hp} {a b:Addr} {o:HO} (h:b≠a):upd H a o b=H b:=by unfold upd;rw [if_neg h]
theorem ne_of {H:Hp} {a b:Addr} {o u:HO} (h:H a=some o) (h':H b=some u) (d:o≠u):a≠b:=by
  intro e;subst e;rw [h] at h';exact d (Option.some.inj h')
theorem ne_of_none {H:Hp} {a b:Addr} {o:HO} (h:H a=some o) (h':H b=none):a≠b:=by
  intro e;subst e;rw [h] at h';cases h'
section
variable (P:Program) (w:World)
def ObjOk (H:Hp) (h:Heap) (a:Addr):HO→Prop
  | .lst xs=>xs.length≤sizeLine∧∃(its:List Value) (n:Nat),Vals xs its∧h.get? a=some {cls:=.type "list",data:=.seq its.toArray n}
  | .tup xs=>xs.length≤sizeLine∧∃its:List Value,Vals xs its∧IsTup h a its.toArray
  | .dK kvs=>kvs.length≤sizeLine∧(a == sysModules)=false∧∃vs,KV kvs vs∧h.DictOf (mixKind P w) a vs
  | .dT kvs=>kvs.length≤sizeLine∧(a == sysModules)=false∧∃xs:List (List Key×Addr×Value),
      Paired (fun (p:List Key×V) (q:List Key×Addr×Value)=>p.1=q.1∧H q.2.1=some (.tup (p.1.map kV))∧RelV p.2 q.2.2) kvs xs∧
      ∃o es ep,h.get? a=some o∧o.ExactDict∧o.data = .dict es ep∧es.toList=xs.map (entryOfKey (tupleKind (mixKind P w)))∧(xs.map (·.1)).Nodup
  | .set S n=>h.SetOf (intKind P w) a S n
  | .ins C dx fs=>H dx=some (.own a)∧fs.length≤1000∧dx≠a∧h.get? a=some (PySem.W.instObj C dx)∧
      ∃mA,h.Ns1 dx mA∧(∀f,RelO (fs.lookup f) (mA f))∧PySem.Within mA (fs.map (·.1))
  | .own _=>∃o,h.get? a=some o
  | .xd fs=>∃mA,h.Ns1 a mA∧∀f,RelO (fs.lookup f) (mA f)
  | .rng lo hi=>∃t u v,h.get? a=some {cls:=.type "range",data:=.fields #[.int lo t,.int hi u,.int 1 v]}
  | .frz o u=>h.get? a=some o∧ObjOk H h a u
  | .tbl ps=>h.get? a=some {cls:=.none,data:=.fields ps}
  | .met f x=>h.get? a=some (PySem.W.methodObj (.ref f) (.ref x))
  | .ext φ=>φ h∧(∃o,h.get? a=some o)∧∀h1 h2:Heap,φ h1→(∀o,h1.get? a=some o→h2.get? a=some o)→φ h2
def HOk (H:Hp) (h:Heap):Prop:=∀a o,H a=some o→ObjOk P w H h a o
end
section
variable {P:Program} {w:World} {H H':Hp} {h h':Heap} {a:Addr} {o:HO}
theorem ObjOk.lt (x:ObjOk P w H h a o):a<h.objs.size:=by
  cases o with
  | lst xs=>obtain ⟨_,_,_,_,e⟩:=x;exact Heap.lt_size e
  | tup xs=>obtain ⟨_,_,_,p⟩:=x;exact p.lt
  | dK kvs=>obtain ⟨_,_,_,_,o,_,_,e,_⟩:=x;exact Heap.lt_size e
  | dT kvs=>obtain ⟨_,_,_,_,o,_,_,e,_⟩:=x;exact Heap.lt_size e
  | set S n=>obtain ⟨o,_,_,_,e,_⟩:=x;exact Heap.lt_size e
  | ins C dx fs=>obtain ⟨_,_,_,e,_⟩:=x;exact Heap.lt_size e
  | own y=>obtain ⟨_,e⟩:=x;exact Heap.lt_size e
  | xd fs=>obtain ⟨_,⟨_,_,_,e,_⟩,_⟩:=x;exact Heap.lt_size e
  | rng lo hi=>obtain ⟨_,_,_,e⟩:=x;exact Heap.lt_size e
  | frz ob u=>obtain ⟨e,_⟩:=x;exact Heap.lt_size e
  | tbl ps=>exact Heap.lt_size (show h.get? a=some _ from x)
  | met f y=>exact Heap.lt_size (show h.get? a=some _ from x)
  | ext φ=>obtain ⟨_,⟨_,e⟩,_⟩:=x;exact Heap.lt_size e
theorem Paired.mapP {α β:Type} {F G:α→β→Prop}:∀{l₁:List α} {l₂:List β},Paired F l₁ l₂→(∀a b,F a b→G a b)→Paired G l₁ l₂
  | _,_,.nil,_=>.nil
  | _,_,.cons r t,f=>.cons (f _ _ r) (Paired.mapP t f)
theorem ObjOk.stay (x:ObjOk P w H h a o) (k:∀b u,(b=a∨H b=some (.own a))→h.get? b=some u→h'.get? b=some u)
    (ho:∀b,H b=some (.own a)→H' b=some (.own a)) (ht:∀b xs,H b=some (.tup xs)→H' b=some (.tup xs)):ObjOk P w H' h' a o:=by
  induction o with
  | lst xs=>obtain ⟨z,its,n,r,e⟩:=x;exact ⟨z,its,n,r,k _ _ (.inl rfl) e⟩
  | tup xs=>obtain ⟨z,its,r,ob,e,c⟩:=x;exact ⟨z,its,r,ob,k _ _ (.inl rfl) e,c⟩
  | dK kvs=>obtain ⟨z,y,vs,r,ob,es,ep,e,c⟩:=x;exact ⟨z,y,vs,r,ob,es,ep,k _ _ (.inl rfl) e,c⟩
  | dT kvs=>
    obtain ⟨z,y,xs,r,ob,es,ep,e,c⟩:=x
    exact ⟨z,y,xs,Paired.mapP r fun p q z=>⟨z.1,ht _ _ z.2.1,z.2.2⟩,ob,es,ep,k _ _ (.inl rfl) e,c⟩
  | set S n=>obtain ⟨ob,es,ep,t,e,c⟩:=x;exact ⟨ob,es,ep,t,k _ _ (.inl rfl) e,c⟩
  | ins C dx fs=>
    obtain ⟨d,z,ne,e,mA,⟨od,es,ep,e2,c⟩,r⟩:=x
    exact ⟨ho _ d,z,ne,k _ _ (.inl rfl) e,mA,⟨od,es,ep,k _ _ (.inr d) e2,c⟩,r⟩
  | own y=>obtain ⟨ob,e⟩:=x;exact ⟨ob,k _ _ (.inl rfl) e⟩
  | xd fs=>obtain ⟨mA,⟨od,es,ep,e,c⟩,r⟩:=x;exact ⟨mA,⟨od,es,ep,k _ _ (.inl rfl) e,c⟩,r⟩
  | rng lo hi=>obtain ⟨t,u,v,e⟩:=x;exact ⟨t,u,v,k _ _ (.inl rfl) e⟩
  | frz ob u ih=>obtain ⟨e,q⟩:=x;exact ⟨k _ _ (.inl rfl) e,ih q⟩
  | tbl ps=>
    have e:h.get? a=some {cls:=.none,data:=.fields ps}:=x
    show h'.get? a=some {cls:=.none,data:=.fields ps}
    exact k a _ (.inl rfl) e
  | met f y=>
    have e:h.get? a=some (PySem.W.methodObj (.ref f) (.ref y)):=x
    show h'.get? a=some (PySem.W.methodObj (.ref f) (.ref y))
    exact k a _ (.inl rfl) e
  | ext φ=>obtain ⟨p,⟨o,e⟩,st⟩:=x;exact ⟨st _ _ p fun o q=>k _ _ (.inl rfl) q,⟨o,k _ _ (.inl rfl) e⟩,st⟩
theorem HOk.lt (x:HOk P w H h) (e:H a=some o):a<h.objs.size:=(x a o e).lt
theorem HOk.fresh (x:HOk P w H h) (e:h.objs.size≤a):H a=none:=by
  cases q:H a with
  | none=>rfl
  | some u=>exact absurd (Nat.lt_of_lt_of_le (x.lt q) e) (Nat.lt_irrefl _)
theorem HOk.kept (x:HOk P w H h) (k:∀b u,h.get? b=some u→h'.get? b=some u):HOk P w H h':=fun a o e=>
  (x a o e).stay (fun b u _ q=>k b u q) (fun _ q=>q) fun _ _ q=>q
theorem HOk.laid (x:HOk P w H h) (k:∀b u,h.get? b=some u→h'.get? b=some u) (hp:h.objs.size≤a) (new:ObjOk P w (upd H a o) h' a o):HOk P w (upd H a o) h':=fun b u e=>by
  have hn:=x.fresh hp
  by_cases hb:b=a
  ·subst hb;rw [upd_same] at e;cases e;exact new
  · rw [upd_ne hb] at e
    exact (x b u e).stay (fun c v _ q=>k c v q) (fun c q=>by rw [upd_ne (ne_of_none q hn)];exact q) fun c xs q=>by rw [upd_ne (ne_of_none q hn)];exact q
end
def Rd (H:Hp) (a:Addr) (u:HO):Prop:=H a=some u∨∃o,H a=some (.frz o u)
theorem Rd.ok {P:Program} {w:World} {H:Hp} {h:Heap} {a:Addr} {u:HO} (r:Rd H a u) (x:HOk P w H h):ObjOk P w H h a u:=by
  rcases r with r | ⟨o,r⟩
  ·exact x a u r
  · obtain ⟨_,q⟩:=x a _ r
    exact q
def Mut:Option HO→Prop
  | some (.lst _)=>True
  | some (.dK _)=>True
  | some (.dT _)=>True
  | some (.set _ _)=>True
  | some (.ins _ _ _)=>True
  | some (.ext _)=>True
  | _=>False
section
variable {P:Program} {w:World} {H:Hp} {h h':Heap} {x e:Addr} {o':HO}
theorem HOk.write (ok:HOk P w H h) (mu:Mut (H x)) (he:e=x∨H e=some (.own x)) (k:∀b u,b≠e→h.get? b=some u→h'.get? b=some u) (heo:∃u,h'.get? e=some u)
    (new:ObjOk P w (upd H x o') h' x o'):HOk P w (upd H x o') h':=fun b u q=>by
  have nown:∀c y,H c=some (.own y)→c≠x:=fun c y r z=>by subst z;rw [r] at mu;exact mu
  have ntup:∀c xs,H c=some (.tup xs)→c≠x:=fun c xs r z=>by subst z;rw [r] at mu;exact mu
  by_cases hb:b=x
  ·subst hb;rw [upd_same] at q;cases q;exact new
  · rw [upd_ne hb] at q
    by_cases hbe:b=e
    · have q':H b=some (.own x):=by
        rcases he with z | z
        ·exact absurd (hbe.trans z) hb
        ·rw [hbe];exact z
      rw [q] at q';cases q'
      obtain ⟨v,hv⟩:=heo
      exact ⟨v,by rw [hbe];exact hv⟩
    · refine (ok b u q).stay (fun c v hc r=>k c v ?_ r) (fun c r=>by rw [upd_ne (nown c b r)];exact r) fun c xs r=>by rw [upd_ne (ntup c xs r)];exact r
      rcases hc with rfl | hc
      ·exact hbe
      · rintro rfl
        rcases he with z | z
        ·exact nown c b hc z
        ·rw [hc] at z;cases z;exact hb rfl
end
structure Un (fs ex:List Addr) (H H':Hp) (h h':Heap):Prop where
  keep:∀b o,h.get? b=some o→H b=none→b∉fs→b∉ex→h'.get? b=some o
  slot:∀b o,h.get? b=some o→H b=none→b∈fs→b∉ex→∃sl,h'.get? b=some {o with slots:=sl}
  free:∀b o,h.get? b=some o→H b=none→b∉ex→H' b=none
  there:∀b o,h.get? b=some o→b∉ex→∃o',h'.get? b=some o'
  tups:∀b xs,H b=some (.tup xs)→H' b=some (.tup xs)
  frzs:∀b o u,H b=some (.frz o u)→H' b=some (.frz o u)
  tbls:∀b ps,H b=some (.tbl ps)→∃more,H' b=some (.tbl (ps++more))
section
variable {fs fs' ex ex':List Addr} {H H1 H2:Hp} {h h1 h2 h':Heap} {a x e:Addr} {o:HO}
theorem Un.any (u:Un fs ex H H1 h h1) {b:Addr} {ob:Obj} (q:h.get? b=some ob) (n:H b=none) (hx:b∉ex):∃sl,h1.get? b=some {ob with slots:=sl}:=by
  by_cases hb:b∈fs
  ·exact u.slot b ob q n hb hx
  ·exact ⟨ob.slots,u.keep b ob q n hb hx⟩
theorem Un.kept (k:∀b u,h.get? b=some u→h'.get? b=some u):Un fs ex H H h h':=
  ⟨fun b ob q _ _ _=>k b ob q,fun b ob q _ _ _=>⟨ob.slots,k b ob q⟩,fun _ _ _ n _=>n,fun b ob q _=>⟨ob,k b ob q⟩,fun _ _ q=>q,fun _ _ _ q=>q,fun _ ps q=>⟨#[],by rw [q];simp⟩⟩
theorem Un.refl:Un fs ex H H h h:=Un.kept fun _ _ q=>q
theorem Un.laid (k:∀b u,h.get? b=some u→h'.get? b=some u) (hp:h.objs.size≤a) (hn:H a=none):Un fs ex H (upd H a o) h h' where
  keep:=fun b u q _ _ _=>k b u q
  slot:=fun b u q _ _ _=>⟨u.slots,k b u q⟩
  free:=fun b u q n _=>by rw [upd_ne (Nat.ne_of_lt (Nat.lt_of_lt_of_le (Heap.lt_size q) hp))];exact n
  there:=fun b u q _=>⟨u,k b u q⟩
  tups:=fun b xs q=>by rw [upd_ne (ne_of_none q hn)];exact q
  frzs:=fun b u xs q=>by rw [upd_ne (ne_of_none q hn)];exact q
  tbls:=fun b ps q=>⟨#[],by rw [upd_ne (ne_of_none q hn),q];simp⟩
theorem Un.write (mu:Mut (H x)) (he:e=x∨H e=some (.own x)) (k:∀b u,b≠e→h.get? b=some u→h'.get? b=some u) (heo:∃u,h'.get? e=some u):Un fs ex H (upd H x o) h h':=by
  have hx:∀b,H b=none→b≠x:=fun b n z=>by subst z;rw [n] at mu;exact mu
  have hb:∀b,H b=none→b≠e:=fun b n z=>by
    subst z
    rcases he with r | r
    ·exact hx b n r
    ·rw [n] at r;cases r
  have hm:∀b u,H b=some u→¬Mut (some u)→b≠x:=fun b u q nm z=>by subst z;rw [q] at mu;exact nm mu
  refine ⟨fun b u q n _ _=>k b u (hb b n) q,fun b u q n _ _=>⟨u.slots,k b u (hb b n) q⟩,fun b u q n _=>by rw [upd_ne (hx b n)];exact n,fun b u q _=>?_,
    fun b xs q=>by rw [upd_ne (hm b _ q fun z=>z)];exact q,fun b u xs q=>by rw [upd_ne (hm b _ q fun z=>z)];exact q,fun b ps q=>⟨#[],by rw [upd_ne (hm b _ q fun z=>z),q];simp⟩⟩
  by_cases hbe:b=e
  ·subst hbe;exact heo
  ·exact ⟨u,k b u hbe q⟩
end
def trk (h:Heap) (H:Hp):List Addr:=(List.range h.objs.size).filter fun a=>(H a).isSome
def hidT (h:Heap) (H:Hp):Heap:=PySem.W.hideAll h (trk h H)
theorem hidT_size (h:Heap) (H:Hp):(hidT h H).objs.size=h.objs.size:=PySem.W.hideAll_size _ _
theorem hidT_get {h:Heap} {H:Hp} {b:Addr} {o:Obj} (e:h.get? b=some o) (n:H b=none):(hidT h H).get? b=some o:=
  PySem.W.hideAll_get _ e fun hm=>by
    have q:(H b).isSome=true:=(List.mem_filter.mp hm).2
    rw [n] at q;simp at q
theorem of_hidT {h:Heap} {H:Hp} {b:Addr} {o:Obj} (e:(hidT h H).get? b=some o):h.get? b=some o∧H b=none:=by
  have e':h.get? b=some o:=PySem.W.of_hideAll (trk h H) e
  refine ⟨e',?_⟩
  cases q:H b with
  | none=>rfl
  | some x=>
    have hm:b∈trk h H:=List.mem_filter.mpr ⟨List.mem_range.mpr (Heap.lt_size e'),by simp [q]⟩
    have z:(hidT h H).get? b=none:=PySem.W.hideAll_none (trk h H) hm
    rw [z] at e;cases e
def allNews (g h:Heap) (L:Addr):List (Addr×Obj):=(List.range h.objs.size).filterMap fun a=>if a=L∨(g.get? a).isSome=true then none else (h.get? a).map fun o=>(a,o)
def rest (g h:Heap) (L d:Addr):List (Addr×Obj):=(allNews g h L).filter fun p=>decide (p.1≠d)
structure Mod (K:PySem.W.Frag) (mg:Str→Option Value) (base:Heap):Prop where
  kin:K.In base
  glob:base.Ns mainGlobals mg
  blt:∃mb,base.Ns builtinsNs mb∧∀x:Str,x≠ "__name__" →mb x=bootBuiltins x
  nolimit:base.NoLimit
set_option genInjectivity false in
structure Cx where
  prog:Program
  w:World
  K:PySem.W.Frag
  mg:Str→Option Value
  base:Heap
  A:Around
  N:List Str
  s₀:Shared
  H₀:Hp
  env:Env
  outer:List Env
  stack:List Env
  ex:List Addr
  fn:Str→Bool
  calm:Bool
  pn:List (Addr×Obj)
  xe:Value→Shared→Prop
def frs (l:List Env):List Addr:=l.filterMap (·.frame)
abbrev Cx.fs (X:Cx):List Addr:=frs X.outer
def Vis (sc:Scope) (x:Str):Prop:=sc.names.lookup x=some .local∨sc.names.lookup x=some .cell∨sc.names.lookup x=some .free
def Loc (sc:Scope) (x:Str):Prop:=sc.names.lookup x=some .local∨sc.names.lookup x=some .cell
def Look (env:Env) (h:Heap) (m:Str→Option Value) (x:Str) (u:Value):Prop:=
  (env.kindOf x=some .local∧m x=some u)∨((env.kindOf x=some .cell∨env.kindOf x=some .free)∧∃c,env.cells.lookup x=some c∧h.IsCell c (some u))
structure Cx.Ok (X:Cx):Prop where
  mod:Mod X.K X.mg X.base
  kind:X.env.scope.kind = .function
  glob:X.env.globals=mainGlobals
  blt:X.env.builtins=builtinsNs
  above:X.s₀.heap.objs.size≤X.env.locals
  inj:∀x y c,X.env.cells.lookup x=some c→X.env.cells.lookup y=some c→x=y
  has:∀x,(X.env.kindOf x=some .cell∨X.env.kindOf x=some .free)→∃c,X.env.cells.lookup x=some c
  cab:∀x c,X.fn x=true→X.env.cells.lookup x=some c→X.s₀.heap.objs.size≤c
  hd:X.calm=true→X.A.handled=none
  frames:X.A.frames=some X.stack
  stk:X.stack=X.outer∨(X.stack=X.env::X.outer∧X.env.frame=some X.env.locals)
  exf:∀b∈X.ex,b≠X.env.locals∧∀x c,X.env.cells.lookup x=some c→c≠b
  bs:∀b o,X.base.get? b=some o→X.s₀.heap.get? b=some o∧X.H₀ b=none
  bsz:X.base.objs.size≤X.s₀.heap.objs.size
  noex:∀b o,X.base.get? b=some o→b∉X.ex
  exfs:∀b∈X.ex,b∉X.fs
  funs:X.s₀.heap.FunFrames X.base X.outer
  frf:∀b∈X.fs,X.H₀ b=none
structure Inv (X:Cx) (pins:List (Addr×Obj)) (σ:List (Option V)) (H:Hp) (s:Shared):Prop where
  ok:X.Ok
  os:s.os=X.s₀.os
  bare:AllBare s.gens
  base:Un X.fs X.ex X.H₀ H X.s₀.heap s.heap
  loc:∃m,s.heap.Ns X.env.locals m∧∀(i:Nat) (x:Str) (v:V),X.N[i]? = some x→σ[i]? = some (some v)→Vis X.env.scope x→∃u,RelV v u∧Look X.env s.heap m x u
  cell:∀x c,X.env.cells.lookup x=some c→∃v,s.heap.IsCell c v
  free:H X.env.locals=none
  freeC:∀x c,X.env.cells.lookup x=some c→H c=none
  pin:∀p∈X.pn++pins,s.heap.get? p.1=some p.2∧H p.1=none∧p.1≠X.env.locals∧p.1∉X.fs∧∀v,p.2.data≠.cell v
  hok:HOk X.prog X.w H s.heap
  len:σ.length=X.N.length
section
variable {X:Cx} {pins:List (Addr×Obj)} {σ:List (Option V)} {H H':Hp} {s:Shared} {h':Heap}
theorem Cx.Ok.nofr (ok:X.Ok) {b:Addr} {o:Obj} (e:X.base.get? b=some o):b∉X.fs:=fun hb=>by
  have:=(ok.funs.mem hb).1
  rw [e] at this;cases this
theorem Inv.bs (I:Inv X pins σ H s):∀b o,X.base.get? b=some o→s.heap.get? b=some o∧H b=none:=fun b o e=>
  ⟨I.base.keep b o (I.ok.bs b o e).1 (I.ok.bs b o e).2 (I.ok.nofr e) (I.ok.noex b o e),I.base.free b o (I.ok.bs b o e).1 (I.ok.bs b o e).2 (I.ok.noex b o e)⟩
theorem Inv.bk (I:Inv X pins σ H s):∀b o,X.base.get? b=some o→s.heap.get? b=some o:=fun b o e=>(I.bs b o e).1
theorem Inv.mod (I:Inv X pins σ H s):Mod X.K X.mg X.base:=I.ok.mod
theorem Inv.kIn (I:Inv X pins σ H s):X.K.In s.heap:=I.ok.mod.kin.keeps I.bk
theorem Inv.lt (I:Inv X pins σ H s):X.env.locals<s.heap.objs.size:=let ⟨_,hn,_⟩:=I.loc;hn.lt
theorem Inv.sz (I:Inv X pins σ H s):X.s₀.heap.objs.size≤s.heap.objs.size:=Nat.le_trans I.ok.above (Nat.le_of_lt I.lt)
theorem Inv.nofs (I:Inv X pins σ H s) {a:Addr} (h:s.heap.objs.size≤a):a∉X.fs:=fun hb=>by
  obtain ⟨_,o,ho,_⟩:=I.ok.funs.mem hb
  exact absurd (Nat.lt_of_lt_of_le (Heap.lt_size ho) (Nat.le_trans I.sz h)) (Nat.lt_irrefl _)
theorem Inv.cne (I:Inv X pins σ H s):∀x c,X.env.cells.lookup x=some c→c≠X.env.locals:=fun x c e z=>by
  obtain ⟨v,o,ho,hd⟩:=I.cell x c e
  obtain ⟨m,⟨o',es,ep,ho',hd',_⟩,_⟩:=I.loc
  rw [z,ho'] at ho;cases ho;rw [hd'] at hd;cases hd
theorem Inv.funs (I:Inv X pins σ H s):s.heap.FunFrames X.base X.outer:=by
  have all:∀(l:List Env),(∀b∈frs l,b∈X.fs)→X.s₀.heap.FunFrames X.base l→s.heap.FunFrames X.base l:=by
    intro l
    induction l with
    | nil=>intro _ _;trivial
    | cons env r ih=>
      intro hs hl
      obtain ⟨hk,⟨L,o,hf,hn,ho,hd⟩,hr⟩:=hl
      have hL:L∈X.fs:=hs L (by unfold frs;rw [List.filterMap_cons,hf];exact List.mem_cons_self)
      obtain ⟨sl,e⟩:=I.base.slot L o ho (I.ok.frf L hL) hL fun z=>I.ok.exfs L z hL
      exact ⟨hk,⟨L,_,hf,hn,e,hd⟩,ih (fun b hb=>hs b (by unfold frs;rw [List.filterMap_cons,hf];exact List.mem_cons_of_mem _ hb)) hr⟩
  exact all X.outer (fun _ hb=>hb) I.ok.funs
theorem Inv.stack (I:Inv X pins σ H s):s.heap.FunFrames X.base X.stack:=by
  rcases I.ok.stk with e | ⟨e,hf⟩
  ·rw [e];exact I.funs
  · rw [e]
    obtain ⟨m,hn,_⟩:=I.loc
    refine .cons (by rw [I.ok.kind];decide) hf hn ?_ I.funs
    exact Heap.get?_none_of_le (Nat.le_trans I.ok.bsz I.ok.above)
theorem Inv.stkSub (I:Inv X pins σ H s):∀b∈frs X.stack,b∈X.env.locals::X.fs:=fun b hb=>by
  rcases I.ok.stk with e | ⟨e,hf⟩
  ·rw [e] at hb;exact List.mem_cons_of_mem _ hb
  · rw [e] at hb
    unfold frs at hb
    rw [List.filterMap_cons,hf] at hb
    exact hb
theorem Inv.stkFree (I:Inv X pins σ H s):∀b∈frs X.stack,H b=none:=fun b hb=>by
  rcases List.mem_cons.mp (I.stkSub b hb) with e | hb
  ·rw [e];exact I.free
  · obtain ⟨_,o,ho,_⟩:=I.ok.funs.mem hb
    exact I.base.free b o ho (I.ok.frf b hb) fun z=>I.ok.exfs b z hb
theorem Inv.step {g':Array GenState} {t':Nat} {d':Drawn} {ch:List Addr} (I:Inv X pins σ H s)
    (hch:∀b∈ch,(b∈X.ex∨X.s₀.heap.objs.size≤b)∧b≠X.env.locals∧(∀x c,X.env.cells.lookup x=some c→c≠b)∧∀p∈X.pn++pins,p.1≠b)
    (keep:∀b o,b≠X.env.locals→b∉X.fs→b∉ch→s.heap.get? b=some o→H b=none→h'.get? b=some o)
    (slot:∀b o,b≠X.env.locals→b∈X.fs→b∉ch→s.heap.get? b=some o→H b=none→∃sl,h'.get? b=some {o with slots:=sl}) (free:∀b o,b∉ch→s.heap.get? b=some o→H b=none→H' b=none)
    (there:∀b o,b∉ch→s.heap.get? b=some o→∃o',h'.get? b=some o')
    (tups:∀b xs,H b=some (.tup xs)→H' b=some (.tup xs)) (frzs:∀b o u,H b=some (.frz o u)→H' b=some (.frz o u)) (tbls:∀b ps,H b=some (.tbl ps)→∃more,H' b=some (.tbl (ps++more)))
    (ns:∀m,s.heap.Ns X.env.locals m→h'.Ns X.env.locals m) (hok:HOk X.prog X.w H' h') (hg:AllBare g') :
    Inv X pins σ H' {s with heap:=h',gens:=g',drawn:=d',toks:=t'}:=by
  have neL:∀b o,X.s₀.heap.get? b=some o→b≠X.env.locals:=fun b o e=>Nat.ne_of_lt (Nat.lt_of_lt_of_le (Heap.lt_size e) I.ok.above)
  have neC:∀b o,X.s₀.heap.get? b=some o→b∉X.ex→b∉ch:=fun b o e hx hb=>by
    rcases (hch b hb).1 with z | z
    ·exact hx z
    ·exact absurd (Nat.lt_of_lt_of_le (Heap.lt_size e) z) (Nat.lt_irrefl _)
  have cellK:∀x c,X.env.cells.lookup x=some c→∀v,s.heap.IsCell c v→h'.IsCell c v:=fun x c e v ⟨o,ho,hd⟩=>by
    have nch:c∉ch:=fun z=>(hch c z).2.2.1 x c e rfl
    by_cases hc:c∈X.fs
    · obtain ⟨sl,q⟩:=slot c o (I.cne x c e) hc nch ho (I.freeC x c e)
      exact ⟨_,q,hd⟩
    ·exact ⟨o,keep c o (I.cne x c e) hc nch ho (I.freeC x c e),hd⟩
  refine ⟨I.ok,I.os,hg,⟨fun b o e n hb hx=>?_,fun b o e n hb hx=>?_,fun b o e n hx=>?_,fun b o e hx=>?_,fun b xs e=>tups b xs (I.base.tups b xs e),fun b o xs e=>frzs b o xs (I.base.frzs b o xs e),fun b ps e=>?_⟩,?_,fun x c e=>?_,?_,fun x c e=>?_,fun p hp=>?_,hok,I.len⟩
  ·exact keep b o (neL b o e) hb (neC b o e hx) (I.base.keep b o e n hb hx) (I.base.free b o e n hx)
  · obtain ⟨sl,e1⟩:=I.base.slot b o e n hb hx
    obtain ⟨sl',e2⟩:=slot b _ (neL b o e) hb (neC b o e hx) e1 (I.base.free b o e n hx)
    exact ⟨sl',e2⟩
  · obtain ⟨o',e1⟩:=I.base.there b o e hx
    exact free b o' (neC b o e hx) e1 (I.base.free b o e n hx)
  · obtain ⟨o',e1⟩:=I.base.there b o e hx
    exact there b o' (neC b o e hx) e1
  · obtain ⟨m1,e1⟩:=I.base.tbls b ps e
    obtain ⟨m2,e2⟩:=tbls b _ e1
    exact ⟨m1++m2,by rw [e2,Array.append_assoc]⟩
  · obtain ⟨m,hn,hl⟩:=I.loc
    refine ⟨m,ns m hn,fun i x v e1 e2 e3=>?_⟩
    obtain ⟨u,r,l⟩:=hl i x v e1 e2 e3
    refine ⟨u,r,?_⟩
    rcases l with l | ⟨k,c,e,z⟩
    ·exact .inl l
    ·exact .inr ⟨k,c,e,cellK x c e _ z⟩
  · obtain ⟨v,z⟩:=I.cell x c e
    exact ⟨v,cellK x c e v z⟩
  · obtain ⟨m,⟨o,_,_,ho,_⟩,_⟩:=I.loc
    exact free _ o (fun z=>(hch _ z).2.1 rfl) ho I.free
  · obtain ⟨v,o,ho,hd⟩:=I.cell x c e
    exact free c o (fun z=>(hch c z).2.2.1 x c e rfl) ho (I.freeC x c e)
  · obtain ⟨e,n,ne,nf,d⟩:=I.pin p hp
    have nch:p.1∉ch:=fun z=>(hch p.1 z).2.2.2 p hp rfl
    exact ⟨keep p.1 p.2 ne nf nch e n,free p.1 p.2 nch e n,ne,nf,d⟩
theorem Inv.un {t':Nat} (I:Inv X pins σ H s) (u:Un X.fs [] H H' s.heap h') (hok:HOk X.prog X.w H' h'):Inv X pins σ H' {s with heap:=h',toks:=t'}:=by
  obtain ⟨m,⟨o,es,ep,ho,r⟩,_⟩:=id I.loc
  obtain ⟨sl,hL⟩:=u.any ho I.free (by simp)
  exact I.step (g':=s.gens) (d':=s.drawn) (ch:=[]) (fun _ z=>nomatch z) (fun b o _ hb _ e n=>u.keep b o e n hb (by simp)) (fun b o _ hb _ e n=>u.slot b o e n hb (by simp)) (fun b o _ e n=>u.free b o e n (by simp)) (fun b o _ e=>u.there b o e (by simp)) u.tups u.frzs u.tbls (fun m' hm=>by
    obtain ⟨o',es',ep',ho',r'⟩:=hm
    rw [ho] at ho';cases ho'
    exact ⟨_,es',ep',hL,r'⟩) hok I.bare
theorem Inv.call {g':Array GenState} {t':Nat} {d':Drawn} {ch:List Addr} (I:Inv X pins σ H s) (u:Un (frs X.stack) ch H H' s.heap h') (hok:HOk X.prog X.w H' h') (hg:AllBare g')
    (hch:∀b∈ch,(b∈X.ex∨X.s₀.heap.objs.size≤b)∧b≠X.env.locals∧(∀x c,X.env.cells.lookup x=some c→c≠b)∧∀p∈X.pn++pins,p.1≠b) :
    Inv X pins σ H' {s with heap:=h',gens:=g',drawn:=d',toks:=t'}:=by
  obtain ⟨m,⟨o,es,ep,ho,r⟩,_⟩:=id I.loc
  obtain ⟨sl,hL⟩:=u.any ho I.free fun z=>(hch _ z).2.1 rfl
  exact I.step (ch:=ch) hch (fun b o hL hb hc e n=>u.keep b o e n (fun z=>(List.mem_cons.mp (I.stkSub b z)).elim hL hb) hc) (fun b o _ _ hc e n=>u.any e n hc) (fun b o hc e n=>u.free b o e n hc) (fun b o hc e=>u.there b o e hc) u.tups u.frzs u.tbls (fun m' hm=>by
    obtain ⟨o',es',ep',ho',r'⟩:=hm
    rw [ho] at ho';cases ho'
    exact ⟨_,es',ep',hL,r'⟩) hok hg
theorem Inv.turned {t':Nat} {it:Addr} (I:Inv X pins σ H s) (k:∀b o,b≠it→s.heap.get? b=some o→h'.get? b=some o) (hn:H it=none) (hL:it≠X.env.locals)
    (h1:it∈X.ex∨X.s₀.heap.objs.size≤it) (h2:∀x c,X.env.cells.lookup x=some c→c≠it) (h3:∀p∈X.pn++pins,p.1≠it):Inv X pins σ H {s with heap:=h',toks:=t'}:=by
  have nit:∀b u,H b=some u→b≠it:=fun b u e z=>by rw [z,hn] at e;cases e
  refine I.step (g':=s.gens) (d':=s.drawn) (ch:=[it]) (fun b hb=>?_) (fun b o _ _ hc e _=>k b o (fun z=>hc (by simp [z])) e) (fun b o _ _ hc e _=>⟨o.slots,k b o (fun z=>hc (by simp [z])) e⟩) (fun _ _ _ _ n=>n)
    (fun b o hc e=>⟨o,k b o (fun z=>hc (by simp [z])) e⟩) (fun _ _ e=>e) (fun _ _ _ e=>e) (fun b ps e=>⟨#[],by rw [e];simp⟩) (fun m hm=>?_) (fun b u e=>?_) I.bare
  · have e:b=it:=by simpa using hb
    subst e
    exact ⟨h1,hL,h2,h3⟩
  · obtain ⟨o,es,ep,ho,r⟩:=hm
    exact ⟨o,es,ep,k _ o (Ne.symm hL) ho,r⟩
  · refine (I.hok b u e).stay (fun c v hc q=>k c v ?_ q) (fun _ q=>q) fun _ _ q=>q
    rcases hc with z | z
    ·rw [z];exact nit b u e
    ·exact nit c _ z
theorem Inv.tok (I:Inv X pins σ H s) (t:Nat):Inv X pins σ H {s with toks:=t}:=I.un (h':=s.heap) (t':=t) Un.refl I.hok
theorem Inv.kept {t':Nat} (I:Inv X pins σ H s) (k:∀b u,s.heap.get? b=some u→h'.get? b=some u):Inv X pins σ H {s with heap:=h',toks:=t'}:=I.un (Un.kept k) (I.hok.kept k)
theorem Inv.laid {a:Addr} {o:HO} {t':Nat} (I:Inv X pins σ H s) (k:∀b u,s.heap.get? b=some u→h'.get? b=some u) (hp:s.heap.objs.size≤a) (new:ObjOk X.prog X.w (upd H a o) h' a o) :
    Inv X pins σ (upd H a o) {s with heap:=h',toks:=t'}:=I.un (Un.laid k hp (I.hok.fresh hp)) (I.hok.laid k hp new)
theorem Inv.write {x e:Addr} {o:HO} {t':Nat} (I:Inv X pins σ H s) (mu:Mut (H x)) (he:e=x∨H e=some (.own x)) (k:∀b u,b≠e→s.heap.get? b=some u→h'.get? b=some u) (heo:∃u,h'.get? e=some u)
    (new:ObjOk X.prog X.w (upd H x o) h' x o):Inv X pins σ (upd H x o) {s with heap:=h',toks:=t'}:=I.un (Un.write mu he k heo) (I.hok.write mu he k heo new)
theorem Inv.pins_of {pins':List (Addr×Obj)} (I:Inv X pins σ H s) (h:∀p∈pins',s.heap.get? p.1=some p.2∧H p.1=none∧p.1≠X.env.locals∧p.1∉X.fs∧∀v,p.2.data≠.cell v):Inv X pins' σ H s:=
  ⟨I.ok,I.os,I.bare,I.base,I.loc,I.cell,I.free,I.freeC,fun p hp=>(List.mem_append.mp hp).elim (fun z=>I.pin p (List.mem_append_left _ z)) (h p),I.hok,I.len⟩
theorem nodup_ix {N:List Str} (hN:N.Nodup) {i j:Nat} {x:Str} (a:N[i]? = some x) (b:N[j]? = some x):i=j:=by
  obtain ⟨h1,e1⟩:=List.getElem?_eq_some_iff.mp a
  obtain ⟨h2,e2⟩:=List.getElem?_eq_some_iff.mp b
  exact (List.getElem_inj hN).mp (e1.trans e2.symm)
theorem store_ok2 {M:Model} {A:Around} {E:Value→Shared→Prop} {i:Nat} {x:Str} {v:V} {u:Value} {Q:Unit→Shared→Prop} (I:Inv X pins σ H s) (hN:X.N.Nodup) (hi:X.N[i]? = some x) (hx:Loc X.env.scope x) (r:RelV v u)
    (h:∀s',Inv X pins (σ.set i (some v)) H s'→(∃a,Heap.SameBut a s.heap s'.heap∧(a=X.env.locals∨X.env.cells.lookup x=some a))→Q () s') (hf:X.fn x=true∨X.env.scope.names.lookup x=some .local:=by first | exact .inl rfl | exact .inr rfl | assumption):wpAny M A (storeName X.env x u) Q E s:=by
  obtain ⟨m,hn,hl⟩:=id I.loc
  have hcls:(X.env.scope.kind == .class || (X.env.scope.kind == .module && X.env.locals != X.env.globals))=false:=by rw [I.ok.kind];rfl
  have hiσ:i<σ.length:=by rw [I.len];exact (List.getElem?_eq_some_iff.mp hi).1
  have cne:=I.cne
  have tracked:∀{a:Addr} {h':Heap},(∃o,s.heap.get? a=some o∧H a=none)→Heap.SameBut a s.heap h'→HOk X.prog X.w H h':=fun {a h'} ha hs b ob e=>by
    obtain ⟨_,_,hfree⟩:=ha
    refine (I.hok b ob e).stay (fun c w' hc q=>(hs.2 c ?_).trans q) (fun _ q=>q) fun _ _ q=>q
    rintro rfl
    rcases hc with rfl | hc
    ·rw [hfree] at e;cases e
    ·rw [hfree] at hc;cases hc
  rcases hx with hk | hk
  · refine wpAny_storeName_local hk hn (fun h' hn' hs=>?_) hcls
    obtain ⟨oL,_,_,hoL,_⟩:=id hn
    refine h _ ⟨I.ok,I.os,I.bare,⟨fun b o e n hb hx=>?_,fun b o e n hb hx=>?_,I.base.free,fun b o e hx=>?_,I.base.tups,I.base.frzs,I.base.tbls⟩,⟨_,hn',fun j y v' e1 e2 e3=>?_⟩,fun y c e=>?_,I.free,I.freeC,fun p hp=>?_,tracked ⟨oL,hoL,I.free⟩ hs,by simpa using I.len⟩ ⟨_,hs,.inl rfl⟩
    ·exact (hs.2 b (Nat.ne_of_lt (Nat.lt_of_lt_of_le (Heap.lt_size e) I.ok.above))).trans (I.base.keep b o e n hb hx)
    · obtain ⟨sl,e1⟩:=I.base.slot b o e n hb hx
      exact ⟨sl,(hs.2 b (Nat.ne_of_lt (Nat.lt_of_lt_of_le (Heap.lt_size e) I.ok.above))).trans e1⟩
    · obtain ⟨o',e1⟩:=I.base.there b o e hx
      exact ⟨o',(hs.2 b (Nat.ne_of_lt (Nat.lt_of_lt_of_le (Heap.lt_size e) I.ok.above))).trans e1⟩
    · by_cases hj:j=i
      · subst hj
        rw [hi] at e1;cases e1
        rw [List.getElem?_set_self hiσ] at e2
        cases e2
        exact ⟨u,r,.inl ⟨hk,by simp⟩⟩
      · rw [List.getElem?_set_ne (Ne.symm hj)] at e2
        obtain ⟨u',r',q⟩:=hl j y v' e1 e2 e3
        refine ⟨u',r',?_⟩
        rcases q with ⟨k,e⟩ | ⟨k,c,e,z⟩
        · refine .inl ⟨k,?_⟩
          have:y≠x:=fun e=>hj (nodup_ix hN e1 (e▸hi))
          simp [this,e]
        ·exact .inr ⟨k,c,e,z.sameBut hs (cne y c e)⟩
    · obtain ⟨w',z⟩:=I.cell y c e
      exact ⟨w',z.sameBut hs (cne y c e)⟩
    · obtain ⟨e,n,ne,nf,d⟩:=I.pin p hp
      exact ⟨(hs.2 p.1 ne).trans e,n,ne,nf,d⟩
  · have hfn:X.fn x=true:=by
      rcases hf with z | z
      ·exact z
      ·rw [z] at hk;cases hk
    obtain ⟨c,hc⟩:=I.ok.has x (.inl hk)
    obtain ⟨w',z⟩:=I.cell x c hc
    refine wpAny_storeName_cell I.ok.kind hk hc z (fun h' hc' hs=>?_)
    obtain ⟨oc,hoc,hocd⟩:=id z
    refine h {s with heap:=h'} ⟨I.ok,I.os,I.bare,⟨fun b o e n hb hx=>?_,fun b o e n hb hx=>?_,I.base.free,fun b o e hx=>?_,I.base.tups,I.base.frzs,I.base.tbls⟩,⟨m,hn.sameBut hs (Ne.symm (cne x c hc)),fun j y v' e1 e2 e3=>?_⟩,fun y c' e=>?_,I.free,I.freeC,fun p hp=>?_,tracked ⟨oc,hoc,I.freeC x c hc⟩ hs,by simpa using I.len⟩ ⟨c,hs,.inr hc⟩
    ·exact (hs.2 b (Nat.ne_of_lt (Nat.lt_of_lt_of_le (Heap.lt_size e) (I.ok.cab x c hfn hc)))).trans (I.base.keep b o e n hb hx)
    · obtain ⟨sl,e1⟩:=I.base.slot b o e n hb hx
      exact ⟨sl,(hs.2 b (Nat.ne_of_lt (Nat.lt_of_lt_of_le (Heap.lt_size e) (I.ok.cab x c hfn hc)))).trans e1⟩
    · obtain ⟨o',e1⟩:=I.base.there b o e hx
      exact ⟨o',(hs.2 b (Nat.ne_of_lt (Nat.lt_of_lt_of_le (Heap.lt_size e) (I.ok.cab x c hfn hc)))).trans e1⟩
    · by_cases hj:j=i
      · subst hj
        rw [hi] at e1;cases e1
        rw [List.getElem?_set_self hiσ] at e2
        cases e2
        exact ⟨u,r,.inr ⟨.inl hk,c,hc,hc'⟩⟩
      · rw [List.getElem?_set_ne (Ne.symm hj)] at e2
        obtain ⟨u',r',q⟩:=hl j y v' e1 e2 e3
        refine ⟨u',r',?_⟩
        rcases q with q | ⟨k,c',e,z'⟩
        ·exact .inl q
        · refine .inr ⟨k,c',e,z'.sameBut hs ?_⟩
          rintro rfl
          exact hj (nodup_ix hN e1 (I.ok.inj _ _ _ e hc▸hi))
    · by_cases hcc:c'=c
      ·subst hcc;exact ⟨_,hc'⟩
      · obtain ⟨w2,z2⟩:=I.cell y c' e
        exact ⟨w2,z2.sameBut hs hcc⟩
    · obtain ⟨e,n,ne,nf,d⟩:=I.pin p hp
      refine ⟨(hs.2 p.1 ?_).trans e,n,ne,nf,d⟩
      intro q
      rw [q,hoc] at e
      have q':oc=p.2:=Option.some.inj e
      exact d w' (by rw [← q'];exact hocd)
theorem store_ok {M:Model} {A:Around} {E:Value→Shared→Prop} {i:Nat} {x:Str} {v:V} {u:Value} {Q:Unit→Shared→Prop} (I:Inv X pins σ H s) (hN:X.N.Nodup) (hi:X.N[i]? = some x) (hx:Loc X.env.scope x) (r:RelV v u)
    (h:∀s',Inv X pins (σ.set i (some v)) H s'→Q () s') (hf:X.fn x=true∨X.env.scope.names.lookup x=some .local:=by first | exact .inl rfl | exact .inr rfl | assumption):wpAny M A (storeName X.env x u) Q E s:=
  store_ok2 I hN hi hx r (fun s' I' _=>h s' I') hf
theorem Inv.call' {s':Shared} {ch:List Addr} (I:Inv X pins σ H s) (ho:s'.os=s.os) (u:Un (frs X.stack) ch H H' s.heap s'.heap) (hok:HOk X.prog X.w H' s'.heap) (hg:AllBare s'.gens)
    (hch:∀b∈ch,(b∈X.ex∨X.s₀.heap.objs.size≤b)∧b≠X.env.locals∧(∀x c,X.env.cells.lookup x=some c→c≠b)∧∀p∈X.pn++pins,p.1≠b):Inv X pins σ H' s':=by
  obtain ⟨h',g',d',t',o'⟩:=s'
  have e:o'=s.os:=ho
  subst e
  exact I.call (g':=g') (t':=t') (d':=d') u hok hg hch
end
abbrev XK:=Value→Option Addr→Hp→Prop
abbrev St:=List (Option V)
abbrev VK:=V→Hp→Prop
abbrev TE:=St→Hp→VK→Prop
abbrev TT:=St→Hp→(Bool→Hp→Prop)→Prop
abbrev TA:=St→Hp→(List V→Hp→Prop)→Prop
structure Ends where
  nx:St→Hp→Prop
  rt:VK
  bk:St→Hp→Prop:=fun _ _=>False
  ct:St→Hp→Prop:=fun _ _=>False
abbrev TS:=Ends→St→Hp→Prop
def EP (X:Cx) (pins:List (Addr×Obj)) (σ:St) (Q:VK) (u:Value) (s':Shared):Prop:=∃v H',Inv X pins σ H' s'∧RelV v u∧Q v H'
def TP (X:Cx) (pins:List (Addr×Obj)) (σ:St) (Q:Bool→Hp→Prop) (b:Bool) (s':Shared):Prop:=∃H',Inv X pins σ H' s'∧Q b H'
def AP (X:Cx) (pins:List (Addr×Obj)) (σ:St) (Q:List V→Hp→Prop) (us:List Value) (s':Shared):Prop:=∃vs H',Inv X pins σ H' s'∧Vals vs us∧Q vs H'
def SP (X:Cx) (pins:List (Addr×Obj)) (D:Ends) (f:Flow) (s':Shared):Prop:=
  match f with
  | .next=>∃σ' H',Inv X pins σ' H' s'∧D.nx σ' H'
  | .brk=>∃σ' H',Inv X pins σ' H' s'∧D.bk σ' H'
  | .cont=>∃σ' H',Inv X pins σ' H' s'∧D.ct σ' H'
  | .ret u=>∃v σ' H',Inv X pins σ' H' s'∧RelV v u∧D.rt v H'
def PE (X:Cx) (e:Expr) (t:TE):Prop:=
  ∀(pins:List (Addr×Obj)) (s:Shared) (σ:St) (H:Hp) (Q:VK),Inv X pins σ H s→t σ H Q→wpAny (model X.prog X.w) X.A (eval e X.env) (EP X pins σ Q) X.xe s
def PT (X:Cx) (e:Expr) (t:TT):Prop:=
  ∀(pins:List (Addr×Obj)) (s:Shared) (σ:St) (H:Hp) (Q:Bool→Hp→Prop),Inv X pins σ H s→t σ H Q→wpAny (model X.prog X.w) X.A (isTrue e X.env (eval e X.env)) (TP X pins σ Q) X.xe s
def PW (X:Cx) (e:Expr) (t:TT):Prop:=
  ∀(whole:Sem Value) (pins:List (Addr×Obj)) (s:Shared) (σ:St) (H:Hp) (Q:Bool→Hp→Prop),Inv X pins σ H s→t σ H Q→wpAny (model X.prog X.w) X.A (isTrue e X.env whole) (TP X pins σ Q) X.xe s
theorem PW.pt {X:Cx} {e:Expr} {t:TT} (h:PW X e t):PT X e t:=h _
def PA (X:Cx) (es:List Expr) (t:TA):Prop:=
  ∀(pos:Pos) (pins:List (Addr×Obj)) (s:Shared) (σ:St) (H:Hp) (Q:List V→Hp→Prop),Inv X pins σ H s→t σ H Q→wpAny (model X.prog X.w) X.A (spliced (backTo pos (starEach es X.env))) (AP X pins σ Q) X.xe s
def PS (X:Cx) (st:Stmt) (t:TS):Prop:=
  ∀(pins:List (Addr×Obj)) (s:Shared) (σ:St) (H:Hp) (D:Ends),Inv X pins σ H s→t D σ H→wpAny (model X.prog X.w) X.A (exec st X.env) (SP X pins D) X.xe s
def PSs (X:Cx) (st:List Stmt) (t:TS):Prop:=
  ∀(pins:List (Addr×Obj)) (s:Shared) (σ:St) (H:Hp) (D:Ends),Inv X pins σ H s→t D σ H→wpAny (model X.prog X.w) X.A (execs st X.env) (SP X pins D) X.xe s
theorem thn {α:Type} {t:Sem α} {Q Q':α→Shared→Prop} {M:Model} {A:Around} {E:Value→Shared→Prop} {s:Shared} (h:wpAny M A t Q E s) (hQ:∀a s,Q a s→Q' a s):wpAny M A t Q' E s:=wpAny_mono h hQ fun _ _ x=>x
section
variable {X:Cx}
def tVar (i:Nat):TE:=fun σ H Q=>∃v,σ[i]? = some (some v)∧Q v H
def tC (v:V):TE:=fun _ H Q=>Q v H
theorem pe_var {i:Nat} {x:Str} {pos:Pos} (hN:X.N[i]? = some x) (hv:Vis X.env.scope x) (hd:(x == ("__debug__" : Str))=false:=by decide) (hcd:(x == ("__classdict__" : Str))=false:=by decide):PE X (.Name x pos) (tVar i):=by
  intro pins s σ H Q I h
  obtain ⟨v,e,h⟩:=h
  obtain ⟨m,hn,hl⟩:=I.loc
  obtain ⟨u,r,l⟩:=hl i x v hN e hv
  have fin:EP X pins σ Q u s:=⟨v,H,I,r,h⟩
  rcases l with ⟨hk,hm⟩ | ⟨hk,c,hc,hcell⟩
  ·exact wpAny_Name (wpAny_loadName_local I.ok.kind hk hn hm fin) hd
  · rcases hk with hk | hk
    ·exact wpAny_Name (wpAny_loadName_cell I.ok.kind hk hc hcell fin) hd
    ·exact wpAny_Name (wpAny_loadName_free I.ok.kind hk hc hcell fin hcd) hd
theorem pe_int {i j pos}:PE X (.Constant (.int i) j pos) (tC (.int i)):=fun _ _ _ H _ I h=>wpAny_Constant_int ⟨.int i,H,I.tok _,⟨_,rfl⟩,h⟩
theorem pe_bl {b j pos}:PE X (.Constant (.bool b) j pos) (tC (.bl b)):=fun _ _ _ H _ I h=>Constant_bool ⟨.bl b,H,I,rfl,h⟩
theorem pe_non {j pos}:PE X (.Constant .none j pos) (tC .non):=fun _ _ _ H _ I h=>Constant_none ⟨.non,H,I,rfl,h⟩
theorem pe_str {x j pos}:PE X (.Constant (.str x) j pos) (tC (.str x)):=fun _ _ _ H _ I h=>Calls.Constant_str ⟨.str x,H,I.tok _,⟨_,rfl⟩,h⟩
def Gl (X:Cx) (x:Str):Prop:=X.env.kindOf x=some .globalImplicit
theorem ld_glob {E:Value→Shared→Prop} {pins:List (Addr×Obj)} {s:Shared} {σ:St} {H:Hp} {x:Str} {u:Value} {pos:Pos} {Q:Value→Shared→Prop} (I:Inv X pins σ H s) (hg:Gl X x) (hm:X.mg x=some u) (h:Q u s)
    (hd:(x == ("__debug__" : Str))=false:=by decide):wpAny (model X.prog X.w) X.A (eval (.Name x pos) X.env) Q E s:=
  Calls.Name_function_global I.ok.kind hg (Calls.loadGlobal_global (by rw [I.ok.glob];exact I.mod.glob.keeps I.bk) hm h) hd
theorem ld_blt {E:Value→Shared→Prop} {pins:List (Addr×Obj)} {s:Shared} {σ:St} {H:Hp} {x:Str} {u:Value} {pos:Pos} {Q:Value→Shared→Prop} (I:Inv X pins σ H s) (hg:Gl X x) (hm:X.mg x=none) (hv:bootBuiltins x=some u) (h:Q u s)
    (hn:x≠ "__name__" :=by decide) (hd:(x == ("__debug__" : Str))=false:=by decide):wpAny (model X.prog X.w) X.A (eval (.Name x pos) X.env) Q E s:=by
  obtain ⟨mb,h1,h2⟩:=I.mod.blt
  exact Calls.Name_function_global I.ok.kind hg (Calls.loadGlobal_builtin (by rw [I.ok.glob];exact I.mod.glob.keeps I.bk) hm (by rw [I.ok.blt];exact h1.keeps I.bk) ((h2 x hn).trans hv) h) hd
theorem pe_glob {x:Str} {v:V} {u:Value} {pos:Pos} (hg:Gl X x) (hm:X.mg x=some u) (r:RelV v u) (hd:(x == ("__debug__" : Str))=false:=by decide):PE X (.Name x pos) (tC v):=
  fun _ _ _ H _ I h=>ld_glob I hg hm ⟨v,H,I,r,h⟩ hd
theorem pe_bltn {x:Str} {v:V} {u:Value} {pos:Pos} (hg:Gl X x) (hm:X.mg x=none) (hv:bootBuiltins x=some u) (r:RelV v u) (hn:x≠ "__name__" :=by decide) (hd:(x == ("__debug__" : Str))=false:=by decide):PE X (.Name x pos) (tC v):=
  fun _ _ _ H _ I h=>ld_blt I hg hm hv ⟨v,H,I,r,h⟩ hn hd
variable {a b:Expr} {ta tb:TE} {pos:Pos}
def tB (t:TE):TT:=fun σ H Q=>t σ H fun x H1=>∃c,x = .bl c∧Q c H1
theorem pt_val {e:Expr} {t:TE} (h:PE X e t) (he:∀whole,isTrue e X.env whole=(do let v ← whole;standAt e.pos;holding [v] (truthy v)):=by intro _;rfl):PT X e (tB t):=by
  intro pins s σ H Q I hw
  refine isTrue_plain (thn (h pins s σ H _ I hw) fun v s1 zz=>?_) (he _)
  obtain ⟨x,H1,I1,r1,q1⟩:=zz
  obtain ⟨d,rfl,q⟩:=q1
  cases r1
  exact wpAny_truthy_bool ⟨H1,I1,q⟩
variable {tA tB':TT} {rest:List Expr}
def tOr (t u:TT):TT:=fun σ H Q=>t σ H fun c H1=>if c=true then Q true H1 else u σ H1 Q
def tNot (t:TT):TT:=fun σ H Q=>t σ H fun c H1=>Q (!c) H1
theorem pw_or1 (ha:PT X a tA):PW X (.BoolOp .Or [a] pos) tA:=by
  intro wh pins s σ H Q I h
  refine isTrue_or (thn (ha pins s σ H Q I h) fun c s1 e=>?_)
  cases c with
  | false=>exact isTrue_or_nil e
  | true=>exact e
theorem pw_or (ha:PT X a tA) (hb:PW X (.BoolOp .Or (b::rest) pos) tB'):PW X (.BoolOp .Or (a::b::rest) pos) (tOr tA tB'):=by
  intro wh pins s σ H Q I h
  refine isTrue_or (thn (ha pins s σ H _ I h) fun c s1 zz=>?_)
  obtain ⟨H1,I1,q1⟩:=zz
  cases c with
  | true=>exact ⟨H1,I1,q1⟩
  | false=>exact hb wh pins s1 σ H1 Q I1 q1
theorem pt_not (ha:PT X a tA):PT X (.UnaryOp .Not a pos) (tNot tA):=by
  intro pins s σ H Q I h
  exact isTrue_not (ha pins s σ H (fun c H1=>Q (!c) H1) I h)
def tAndV (ta tb:TE):TE:=fun σ H Q=>ta σ H fun x H1=>∃c,x = .bl c∧if c=true then tb σ H1 Q else Q (.bl false) H1
def tNotV (ta:TE):TE:=fun σ H Q=>ta σ H fun x H1=>∃c,x = .bl c∧Q (.bl (!c)) H1
theorem pe_one {op} {t:TE} (h:PE X a t):PE X (.BoolOp op [a] pos) t:=fun pins s σ H Q I hw=>BoolOp_one (h pins s σ H Q I hw)
theorem pe_and (ha:PE X a ta) (hb:PE X (.BoolOp .And (b::rest) pos) tb):PE X (.BoolOp .And (a::b::rest) pos) (tAndV ta tb):=by
  intro pins s σ H Q I h
  refine BoolOp_and (thn (ha pins s σ H _ I h) fun v s1 zz=>?_)
  obtain ⟨x,H1,I1,r1,q1⟩:=zz
  obtain ⟨c,rfl,q1⟩:=q1
  cases r1
  refine wpAny_truthy_bool ?_
  cases c with
  | true=>exact hb pins s1 σ H1 Q I1 q1
  | false=>exact ⟨.bl false,H1,I1,rfl,q1⟩
theorem pe_not (ha:PE X a ta):PE X (.UnaryOp .Not a pos) (tNotV ta):=by
  intro pins s σ H Q I h
  refine UnaryOp_ (thn (ha pins s σ H _ I h) fun v s1 zz=>?_)
  obtain ⟨x,H1,I1,r1,q1⟩:=zz
  obtain ⟨c,rfl,q1⟩:=q1
  cases r1
  exact not_of (wpAny_truthy_bool ⟨.bl (!c),H1,I1,rfl,q1⟩)
def tIf (t:TT) (ta tb:TE):TE:=fun σ H Q=>t σ H fun c H1=>if c=true then ta σ H1 Q else tb σ H1 Q
theorem pe_ifExp {c:Expr} (hc:PT X c tA) (ha:PE X a ta) (hb:PE X b tb):PE X (.IfExp c a b pos) (tIf tA ta tb):=by
  intro pins s σ H Q I h
  refine wpAny_IfExp (thn (hc pins s σ H _ I h) fun d s1 zz=>?_)
  obtain ⟨H1,I1,q1⟩:=zz
  cases d with
  | true=>exact ha pins s1 σ H1 Q I1 q1
  | false=>exact hb pins s1 σ H1 Q I1 q1
end
def SqL (K:PySem.W.Frag) (H:Hp) (a:Addr) (xs:List V):Prop:=
  Rd H a (.lst xs)∨
    ∃(o:Obj) (its:Array Value) (n:Nat),K.lookup a=some o∧o.cls = .type "list" ∧o.dict=none∧o.data = .seq its n∧its.size≤sizeLine∧Vals xs its.toList
def SqT (K:PySem.W.Frag) (H:Hp) (a:Addr) (xs:List V):Prop:=
  Rd H a (.tup xs)∨
    ∃(o:Obj) (its:Array Value) (n:Nat),K.lookup a=some o∧o.cls = .type "tuple" ∧o.data = .seq its n∧its.size≤sizeLine∧Vals xs its.toList
def absV:Value→Option V
  | .none=>some .non
  | .bool b=>some (.bl b)
  | .int i _=>some (.int i)
  | .str x _=>some (.str x)
  | .bytes b _=>some (.byt b)
  | .float b _=>some (.flt b)
  | .ref a=>some (.ref a)
  | .type n=>some (.ty n)
  | _=>none
theorem RelV.abs {x:V} {u:Value} (r:RelV x u):absV u=some x:=by
  cases x with
  | non=>cases r;rfl
  | bl _=>cases r;rfl
  | int _=>obtain ⟨t,rfl⟩:=r;rfl
  | str _=>obtain ⟨t,rfl⟩:=r;rfl
  | byt _=>obtain ⟨t,rfl⟩:=r;rfl
  | flt _=>obtain ⟨t,rfl⟩:=r;rfl
  | ref _=>cases r;rfl
  | ty _=>cases r;rfl
theorem RelV.inj {x y:V} {u:Value} (r:RelV x u) (q:RelV y u):x=y:=Option.some.inj (r.abs.symm.trans q.abs)
theorem Vals.inj:∀{xs ys:List V} {us:List Value},Vals xs us→Vals ys us→xs=ys
  | _,_,_,.nil,.nil=>rfl
  | _,_,_,.cons r t,.cons r' t'=>by rw [r.inj r',Vals.inj t t']
section
variable {X:Cx} {pins:List (Addr×Obj)} {σ:St} {H:Hp} {s:Shared} {a:Addr} {xs ys:List V}
theorem SqL.of {K:PySem.W.Frag} (h:H a=some (.lst xs)):SqL K H a xs:=.inl (.inl h)
theorem SqT.of {K:PySem.W.Frag} (h:H a=some (.tup xs)):SqT K H a xs:=.inl (.inl h)
theorem Inv.list (I:Inv X pins σ H s) (h:SqL X.K H a xs):∃its:List Value,Vals xs its∧PlainL s.heap a its.toArray∧xs.length≤sizeLine:=by
  rcases h with h | ⟨o,its,n,hk,hc,hd,hs,hz,r⟩
  · obtain ⟨z,its,n,r,e⟩:=h.ok I.hok
    exact ⟨its,r,⟨_,n,e,rfl,rfl,rfl⟩,z⟩
  · refine ⟨its.toList,r,⟨o,n,I.kIn a o hk,hc,hd,by simpa using hs⟩,?_⟩
    have e:=r.length
    simp only [Array.length_toList] at e
    omega
theorem Inv.tuple (I:Inv X pins σ H s) (h:SqT X.K H a xs):∃its:List Value,Vals xs its∧IsTup s.heap a its.toArray∧xs.length≤sizeLine:=by
  rcases h with h | ⟨o,its,n,hk,hc,hs,hz,r⟩
  · obtain ⟨z,its,r,p⟩:=h.ok I.hok
    exact ⟨its,r,p,z⟩
  · refine ⟨its.toList,r,⟨o,I.kIn a o hk,hc,n,by simpa using hs⟩,?_⟩
    have e:=r.length
    simp only [Array.length_toList] at e
    omega
theorem Inv.list_inj (I:Inv X pins σ H s) (h:SqL X.K H a xs) (h':SqL X.K H a ys):xs=ys:=by
  obtain ⟨its,r,⟨o,n,e,_,_,d⟩,_⟩:=I.list h
  obtain ⟨its',r',⟨o',n',e',_,_,d'⟩,_⟩:=I.list h'
  rw [e] at e';cases e'
  rw [d] at d'
  injection d' with d1 _
  have:its=its':=by simpa using congrArg Array.toList d1
  subst this
  exact r.inj r'
theorem Inv.tuple_inj (I:Inv X pins σ H s) (h:SqT X.K H a xs) (h':SqT X.K H a ys):xs=ys:=by
  obtain ⟨its,r,⟨o,e,_,n,d⟩,_⟩:=I.tuple h
  obtain ⟨its',r',⟨o',e',_,n',d'⟩,_⟩:=I.tuple h'
  rw [e] at e';cases e'
  rw [d] at d'
  injection d' with d1 _
  have:its=its':=by simpa using congrArg Array.toList d1
  subst this
  exact r.inj r'
end
abbrev Cx.wish (X:Cx) (E:Value→Shared→Prop):Cx:={X with xe:=E}
abbrev Cx.nox (X:Cx):Cx:=X.wish fun _ _=>False
theorem Cx.Ok.wish {X:Cx} (ok:X.Ok) (E:Value→Shared→Prop):(X.wish E).Ok:=
  ⟨ok.mod,ok.kind,ok.glob,ok.blt,ok.above,ok.inj,ok.has,ok.cab,ok.hd,ok.frames,ok.stk,ok.exf,ok.bs,ok.bsz,ok.noex,ok.exfs,ok.funs,ok.frf⟩
theorem Cx.Ok.unwish {X:Cx} {E:Value→Shared→Prop} (ok:(X.wish E).Ok):X.Ok:=
  ⟨ok.mod,ok.kind,ok.glob,ok.blt,ok.above,ok.inj,ok.has,ok.cab,ok.hd,ok.frames,ok.stk,ok.exf,ok.bs,ok.bsz,ok.noex,ok.exfs,ok.funs,ok.frf⟩
section
variable {X:Cx} {pins:List (Addr×Obj)} {σ:St} {H:Hp} {s:Shared} {E:Value→Shared→Prop}
theorem Inv.wish (I:Inv X pins σ H s) (E:Value→Shared→Prop):Inv (X.wish E) pins σ H s:=⟨I.ok.wish E,I.os,I.bare,I.base,I.loc,I.cell,I.free,I.freeC,I.pin,I.hok,I.len⟩
theorem Inv.unwish (I:Inv (X.wish E) pins σ H s):Inv X pins σ H s:=⟨I.ok.unwish,I.os,I.bare,I.base,I.loc,I.cell,I.free,I.freeC,I.pin,I.hok,I.len⟩
theorem SP.unwish {D:Ends} {f:Flow} {s':Shared} (h:SP (X.wish E) pins D f s'):SP X pins D f s':=by
  cases f with
  | next=>obtain ⟨σ',H',I,q⟩:=h;exact ⟨σ',H',I.unwish,q⟩
  | brk=>obtain ⟨σ',H',I,q⟩:=h;exact ⟨σ',H',I.unwish,q⟩
  | cont=>obtain ⟨σ',H',I,q⟩:=h;exact ⟨σ',H',I.unwish,q⟩
  | ret u=>obtain ⟨v,σ',H',I,r,q⟩:=h;exact ⟨v,σ',H',I.unwish,r,q⟩
theorem PSs.nox {st:List Stmt} {t:TS} (h:PSs X.nox st t):PSs X st t:=fun pins s σ H D I hw=>
  wpAny_mono (h pins s σ H D (I.wish _) hw) (fun _ _ q=>q.unwish) fun _ _ z=>False.elim z
end
section
variable {X:Cx} {st:Stmt} {rest:List Stmt} {t u:TS} {e:Expr} {te:TE} {pos:Pos}
def tNext:TS:=fun D σ H=>D.nx σ H
def tSeq (t u:TS):TS:=fun D σ H=>t {D with nx:=u D} σ H
theorem pss_nil:PSs X [] tNext:=fun _ _ σ H _ I h=>wpAny_execs_nil ⟨σ,H,I,h⟩
theorem pss_cons (h1:PS X st t) (h2:PSs X rest u):PSs X (st::rest) (tSeq t u):=by
  intro pins s σ H D I h
  refine wpAny_execs_cons (thn (h1 pins s σ H {D with nx:=u D} I h) fun f s1 q=>?_)
  cases f with
  | next=>
    obtain ⟨σ',H',I',q⟩:=q
    exact h2 pins s1 σ' H' D I' q
  | ret v=>exact q
  | brk=>exact q
  | cont=>exact q
theorem pss_one (h1:PS X st t):PSs X [st] t:=by
  intro pins s σ H D I h
  refine wpAny_execs_cons (thn (h1 pins s σ H D I h) fun f s1 q=>?_)
  cases f with
  | next=>exact wpAny_execs_nil q
  | ret v=>exact q
  | brk=>exact q
  | cont=>exact q
theorem Inv.quiet {pins:List (Addr×Obj)} {σ:St} {H:Hp} {s:Shared} (I:Inv X pins σ H s):interactive X.env=false:=by simp [interactive,I.ok.kind]
def tDrop (te:TE):TS:=fun D σ H=>te σ H fun _ H1=>D.nx σ H1
theorem ps_expr (he:PE X e te) (hs:swapsWith e none pos.line X.env=pure false:=by rfl):PS X (.Expr e pos) (tDrop te):=by
  intro pins s σ H D I h
  refine wpAny_Expr_any (thn (he pins s σ H _ I h) fun v s1 zz=>?_) I.quiet hs
  obtain ⟨x,H1,I1,r1,q1⟩:=zz
  exact ⟨σ,H1,I1,q1⟩
def tRet (te:TE):TS:=fun D σ H=>te σ H D.rt
theorem ps_ret (he:PE X e te):PS X (.Return (some e) pos) (tRet te):=by
  intro pins s σ H D I h
  refine wpAny_Return_some (thn (he pins s σ H _ I h) fun v s1 zz=>?_)
  obtain ⟨x,H1,I1,r1,q1⟩:=zz
  exact ⟨x,σ,H1,I1,r1,q1⟩
def tIfS (c:TT) (t u:TS):TS:=fun D σ H=>c σ H fun b H1=>if b=true then t D σ H1 else u D σ H1
theorem ps_if {c:Expr} {a b:List Stmt} {tc:TT} (hc:PT X c tc) (ha:PSs X a t) (hb:PSs X b u):PS X (.If c a b pos) (tIfS tc t u):=by
  intro pins s σ H D I h
  refine wpAny_If (thn (hc pins s σ H _ I h) fun d s1 zz=>?_)
  obtain ⟨H1,I1,q1⟩:=zz
  cases d with
  | true=>exact ha pins s1 σ H1 D I1 q1
  | false=>exact hb pins s1 σ H1 D I1 q1
def tNever:TS:=fun _ _ _=>False
theorem ps_never:PS X st tNever:=fun _ _ _ _ _ _ h=>h.elim
end
abbrev TG:=V→St→Hp→(St→Hp→Prop)→Prop
abbrev TGs:=List V→St→Hp→(St→Hp→Prop)→Prop
def PG (X:Cx) (target:Expr) (t:TG):Prop:=
  ∀(pins:List (Addr×Obj)) (s:Shared) (σ:St) (H:Hp) (v:V) (u:Value) (Q:St→Hp→Prop),Inv X pins σ H s→RelV v u→t v σ H Q→
    wpAny (model X.prog X.w) X.A (assign target X.env u) (fun _ s'=>∃σ' H',Inv X pins σ' H' s'∧Q σ' H') X.xe s
def PGs (X:Cx) (ts:List Expr) (t:TGs):Prop:=
  ∀(pins:List (Addr×Obj)) (s:Shared) (σ:St) (H:Hp) (vs:List V) (us:List Value) (Q:St→Hp→Prop),Inv X pins σ H s→Vals vs us→t vs σ H Q→
    wpAny (model X.prog X.w) X.A (assignInOrder ((assignEach ts X.env).map (·.2)) us) (fun _ s'=>∃σ' H',Inv X pins σ' H' s'∧Q σ' H') X.xe s
abbrev TSet:=V→V→V→Hp→(Hp→Prop)→Prop
def PSet (X:Cx) (t:TSet):Prop:=
  ∀(pins:List (Addr×Obj)) (s:Shared) (σ:St) (H:Hp) (o i v:V) (ov iv u:Value) (Q:Hp→Prop),Inv X pins σ H s→RelV o ov→RelV i iv→RelV v u→t o i v H Q→
    wpAny (model X.prog X.w) X.A (setItem ov iv u) (fun _ s'=>∃H',Inv X pins σ H' s'∧Q H') X.xe s
section
variable {X:Cx} {pos:Pos}
def gName (i:Nat):TG:=fun v σ H Q=>Q (σ.set i (some v)) H
theorem pg_name {i:Nat} {x:Str} (hN:X.N.Nodup) (hi:X.N[i]? = some x) (hx:Loc X.env.scope x) (hf:X.fn x=true∨X.env.scope.names.lookup x=some .local:=by first | exact .inl rfl | exact .inr rfl | assumption):PG X (.Name x pos) (gName i):=by
  intro pins s σ H v u Q I r h
  exact wpAny_assign_Name (store_ok I hN hi hx r (fun s' I'=>⟨_,H,I',h⟩) hf)
def gNil:TGs:=fun vs σ H Q=>vs=[]∧Q σ H
def gCons (t:TG) (u:TGs):TGs:=fun vs σ H Q=>∃v r,vs=v::r∧t v σ H fun σ' H'=>u r σ' H' Q
theorem pgs_nil:PGs X [] gNil:=by
  intro pins s σ H vs us Q I r h
  obtain ⟨e,h⟩:=h
  subst e
  cases r
  exact assignInOrder_nil ⟨σ,H,I,h⟩
theorem pgs_cons {e:Expr} {es:List Expr} {t:TG} {u:TGs} (h1:PG X e t) (h2:PGs X es u)
    (hs:(assignEach (e::es) X.env).map (·.2)=assign e X.env::(assignEach es X.env).map (·.2):=by rfl):PGs X (e::es) (gCons t u):=by
  intro pins s σ H vs us Q I r h
  obtain ⟨v,vr,e1,h⟩:=h
  subst e1
  cases r with
  | cons r rr=>
    rw [hs]
    refine assignInOrder_cons (thn (h1 pins s σ H _ _ _ I r h) fun _ s1 zz=>?_)
    obtain ⟨σ1,H1,I1,q1⟩:=zz
    exact h2 pins s1 σ1 H1 _ _ Q I1 rr q1
def gTup (K:PySem.W.Frag) (n:Nat) (t:TGs):TG:=fun v σ H Q=>∃a xs,v = .ref a∧SqT K H a xs∧xs.length=n∧t xs σ H Q
theorem pg_tup {es:List Expr} {k:Nat} {t:TGs} {n:Nat} (hc:X.calm=true) (h:PGs X es t)
    (hn:(assignEach es X.env).length=n:=by rfl) (hst:(assignEach es X.env).findIdx? (·.1)=none:=by rfl):PG X (.Tuple es k pos) (gTup X.K n t):=by
  intro pins s σ H v u Q I r hw
  obtain ⟨a,xs,e1,hq,hl,hw⟩:=hw
  subst e1
  cases r
  obtain ⟨its,rv,ht,hz⟩:=I.tuple hq
  refine assign_Tuple_tuple (I.ok.hd hc) ht (by simp [hn,← hl,rv.length]) hst fun h' hx=>?_
  have I1:Inv X pins σ H {s with heap:=h'}:=I.kept (t':=s.toks) fun b o e=>hx b o (Nat.ne_of_lt (Heap.lt_size e)) e
  exact h pins _ σ H xs _ Q I1 (by simpa using rv) hw
def gSub (to ti:TE) (t:TSet):TG:=fun v σ H Q=>to σ H fun o H1=>ti σ H1 fun i H2=>t o i v H2 fun H3=>Q σ H3
theorem pg_sub {o i:Expr} {to ti:TE} {t:TSet} (ho:PE X o to) (hi:PE X i ti) (hs:PSet X t)
    (ha:∀v,assign (.Subscript o i pos) X.env v=(do
      let ov ← holding [v] (eval o X.env)
      let iv ← holding [v,ov] (eval i X.env)
      standAt pos
      holding [v,ov,iv] (setItem ov iv v)
      release [v,ov,iv] []):=by intro _;rfl):PG X (.Subscript o i pos) (gSub to ti t):=by
  intro pins s σ H v u Q I r h
  rw [ha]
  refine wpAny_bind (wpAny_holding (thn (ho pins s σ H _ I h) fun ov s1 zz=>?_))
  obtain ⟨x,H1,I1,r1,q1⟩:=zz
  refine wpAny_bind (wpAny_holding (thn (hi pins s1 σ H1 _ I1 q1) fun iv s2 zz=>?_))
  obtain ⟨y,H2,I2,r2,q2⟩:=zz
  refine wpAny_bind (wpAny_standAt (wpAny_bind (wpAny_holding (thn (hs pins s2 σ H2 x y v ov iv u _ I2 r1 r2 r q2) fun _ s3 zz=>?_))))
  obtain ⟨H3,I3,q3⟩:=zz
  exact wpAny_release ⟨σ,H3,I3,q3⟩
def tAsg (te:TE) (g:TG):TS:=fun D σ H=>te σ H fun x H1=>g x σ H1 D.nx
theorem ps_asg {tg e:Expr} {te:TE} {g:TG} (he:PE X e te) (hg:PG X tg g) (hs:swapsWithSole [tg] e pos.line X.env=pure false:=by rfl) (hw:swappedStores [tg] e X.env=pure none:=by rfl)
    (h1:(assignEach [tg] X.env).map (·.2)=[assign tg X.env]:=by rfl):PS X (.Assign [tg] e pos) (tAsg te g):=by
  intro pins s σ H D I h
  refine wpAny_Assign_stores (thn (he pins s σ H _ I h) fun v s1 zz=>?_) hs hw
  obtain ⟨x,H1,I1,r1,q1⟩:=zz
  rw [h1]
  exact thn (hg pins s1 σ H1 x v _ I1 r1 q1) fun _ s2 q=>q
theorem ps_set {i:Nat} {x:Str} {e:Expr} {te:TE} {pos':Pos} (hN:X.N.Nodup) (hi:X.N[i]? = some x) (hx:Loc X.env.scope x) (he:PE X e te) (hs:swapsWith e (some (.Name x pos')) pos.line X.env=pure false:=by rfl) (hf:X.fn x=true∨X.env.scope.names.lookup x=some .local:=by first | exact .inl rfl | exact .inr rfl | assumption) :
    PS X (.Assign [.Name x pos'] e pos) (tAsg te (gName i)):=by
  intro pins s σ H D I h
  refine wpAny_Assign_Name (thn (he pins s σ H _ I h) fun v s1 zz=>?_) hs
  obtain ⟨y,H1,I1,r1,q1⟩:=zz
  exact store_ok I1 hN hi hx r1 (fun s2 I2=>⟨_,H1,I2,q1⟩) hf
def tPar (i j:Nat) (ta:TA):TS:=fun D σ H=>ta σ H fun vs H1=>∃v w,vs=[v,w]∧D.nx ((σ.set i (some v)).set j (some w)) H1
theorem ps_par {i j:Nat} {x y:Str} {a b:Expr} {ta:TA} {px py pt:Pos} {kt k2 pt2} (hc:X.calm=true) (hN:X.N.Nodup) (hi:X.N[i]? = some x) (hj:X.N[j]? = some y) (hij:i≠j)
    (hx:X.env.scope.names.lookup x=some .local) (hy:X.env.scope.names.lookup y=some .local) (ha:PA X [a,b] ta)
    (hw:swappedStores [.Tuple [.Name x px,.Name y py] kt pt] (.Tuple [a,b] k2 pt2) X.env=pure (some [x,y]))
    (hs:swapsWithSole [.Tuple [.Name x px,.Name y py] kt pt] (.Tuple [a,b] k2 pt2) pos.line X.env=pure false:=by rfl) :
    PS X (.Assign [.Tuple [.Name x px,.Name y py] kt pt] (.Tuple [a,b] k2 pt2) pos) (tPar i j ta):=by
  intro pins s σ H D I h
  rw [exec_Assign_arm]
  refine wpAny_bind (wpAny_standAt ?_)
  rw [hs]
  refine wpAny_bind (wpAny_pure ?_)
  rw [if_neg (by decide)]
  refine wpAny_bind (Tuple_ (thn (ha _ pins s σ H _ I h) fun us s1 zz=>?_))
  obtain ⟨vs,H1,I1,r1,q1⟩:=zz
  obtain ⟨v,w,e1,q1⟩:=q1
  subst e1
  obtain ⟨u1,u2,rfl,rv,rw'⟩:∃u1 u2,us=[u1,u2]∧RelV v u1∧RelV w u2:=by
    cases r1 with
    | cons p q=>
      cases q with
      | cons p' q'=>
        cases q'
        exact ⟨_,_,rfl,p,p'⟩
  refine wpAny_newObj_type ?_ (by show 2≤sizeLine;decide)
  have I2:Inv X pins σ H1 {s1 with heap:=s1.heap.push {cls:=.type "tuple",data:=.seq [u1,u2].toArray}}:=I1.kept (t':=s1.toks) fun b o e=>Heap.get?_push_of_some _ e
  rw [hw]
  refine wpAny_bind (wpAny_pure ?_)
  show wpAny (model X.prog X.w) X.A (do rule "assign.swapped-stores";let items ← unpackItems (.ref s1.heap.objs.size) 2 none;assignInOrder [fun v=>bindName X.env y v,fun v=>bindName X.env x v] items.reverse;pure Flow.next) _ _ _
  refine wpAny_bind (wpAny_rule (wpAny_bind (unpackItems_tuple (items:=#[u1,u2]) (I.ok.hd hc) (IsTup.new s1.heap _) fun h' hx'=>?_)))
  have I3:=I2.kept (h':=h') (t':=s1.toks) fun b o e=>hx' b o (Nat.ne_of_lt (Heap.lt_size e)) e
  show wpAny _ _ (assignInOrder [fun v=>bindName X.env y v,fun v=>bindName X.env x v] [u2,u1] >>= fun _=>pure Flow.next) _ _ _
  refine wpAny_bind (assignInOrder_cons (wpAny_bindName (store_ok I3 hN hj (.inl hy) rw' (fun s2 I4=>?_) (.inr hy))))
  refine assignInOrder_cons (wpAny_bindName (store_ok I4 hN hi (.inl hx) rv (fun s3 I5=>assignInOrder_nil (wpAny_pure ?_)) (.inr hx)))
  rw [List.set_comm _ _ (Ne.symm hij)] at I5
  exact ⟨_,H1,I5,q1⟩
end
structure It where
  go:Nat→Hp→Prop
  yld:Nat→Hp→V→Hp→Prop
  stop:Nat→Hp→Prop
def FpOk (X:Cx) (pins:List (Addr×Obj)) (H:Hp) (b:Addr):Prop:=
  H b=none∧b≠X.env.locals∧b∉X.fs∧(b∈X.ex∨X.s₀.heap.objs.size≤b)∧(∀x c,X.env.cells.lookup x=some c→c≠b)∧∀p∈X.pn++pins,p.1≠b
theorem Inv.fpOk {X:Cx} {pins:List (Addr×Obj)} {σ:St} {H H':Hp} {s:Shared} {b:Addr} (I:Inv X pins σ H s) (hb:s.heap.objs.size≤b) (hn:H' b=none):FpOk X pins H' b:=by
  refine ⟨hn,Nat.ne_of_gt (Nat.lt_of_lt_of_le I.lt hb),I.nofs hb,.inr (Nat.le_trans I.sz hb),fun x c e z=>?_,fun p hp z=>?_⟩
  · obtain ⟨v,q⟩:=I.cell x c e
    exact absurd (Nat.lt_of_lt_of_le q.lt (by rw [z];exact hb)) (Nat.lt_irrefl _)
  ·exact absurd (Nat.lt_of_lt_of_le (Heap.lt_size (I.pin p hp).1) (by rw [z];exact hb)) (Nat.lt_irrefl _)
structure Turn (P:Program) (w:World) (K:PySem.W.Frag) (tg:Expr) (J:It) (fp:List Addr) (it:Addr) (tn:Nat→Heap→Prop):Prop where
  mem:it∈fp
  obj:∀i h,tn i h→∀b∈fp,∃o,h.get? b=some o∧∀v,o.data≠.cell v
  keep:∀i h h',tn i h→(∀b∈fp,∀o,h.get? b=some o→h'.get? b=some o)→tn i h'
  item:∀(X:Cx),X.prog=P→X.w=w→X.K=K→X.calm=true→∀(i:Nat) (pins:List (Addr×Obj)) (s:Shared) (σ:St) (H:Hp) (E:Value→Shared→Prop),Inv X pins σ H s→(∀b∈fp,FpOk X pins H b)→tn i s.heap→J.go i H→
    wpAny (model P w) X.A (pyNext (.ref it)) (fun r s1=>∃u,r=some u∧
      wpAny (model P w) X.A (letOwnedTupleGo tg (.ref it) u) (fun _ s2=>∃x H',Inv X pins σ H' s2∧RelV x u∧J.yld i H x H'∧tn (i+1) s2.heap∧∀b∈fp,H' b=none) E s1) E s
  done:∀(X:Cx),X.prog=P→X.w=w→X.K=K→X.calm=true→∀(i:Nat) (pins:List (Addr×Obj)) (s:Shared) (σ:St) (H:Hp) (E:Value→Shared→Prop),Inv X pins σ H s→(∀b∈fp,FpOk X pins H b)→tn i s.heap→J.stop i H→
    wpAny (model P w) X.A (pyNext (.ref it)) (fun r s1=>r=none∧Inv X pins σ H s1) E s
  self:∀(A:Around) (i:Nat) (s:Shared) (Q:Value→Shared→Prop) (E:Value→Shared→Prop),tn i s.heap→Q (.ref it) s→wpAny (model P w) A (pyIter (.ref it)) Q E s
abbrev TI:=St→Hp→(It→Hp→Prop)→Prop
def PIE (X:Cx) (pins:List (Addr×Obj)) (σ:St) (tg:Expr) (R:It→Hp→Prop) (itv:Value) (s2:Shared):Prop:=
  ∃(it:Addr) (fp:List Addr) (tn:Nat→Heap→Prop) (J:It) (H':Hp),itv = .ref it∧Inv X pins σ H' s2∧Turn X.prog X.w X.K tg J fp it tn∧tn 0 s2.heap∧(∀b∈fp,FpOk X pins H' b)∧R J H'
def PI (X:Cx) (tg iter:Expr) (wi:TI):Prop:=
  ∀(pins:List (Addr×Obj)) (s:Shared) (σ:St) (H:Hp) (R:It→Hp→Prop),Inv X pins σ H s→wi σ H R→
    wpAny (model X.prog X.w) X.A (eval iter X.env) (fun v s1=>wpAny (model X.prog X.w) X.A (pyIter v) (PIE X pins σ tg R) X.xe s1) X.xe s
theorem go_of {M:Model} {A:Around} {E:Value→Shared→Prop} {s:Shared} {tg:Expr} {it:Addr} {u:Value} {o:Obj} {n:String} {vs:Array Value} {Q:Unit→Shared→Prop} (ho:s.heap.get? it=some o) (hc:o.cls = .type n) (hd:o.data = .fields vs)
    (hn : ["enumerate", "zip", "dict_itemiterator", "dict_reverseitemiterator", "odict_iterator", "itertools.zip_longest", "itertools.pairwise"].contains n=false) (hQ:Q () s):wpAny M A (letOwnedTupleGo tg (.ref it) u) Q E s:=by
  unfold letOwnedTupleGo
  cases tg <;> first
    | exact wpAny_pure hQ
    | (cases u <;> first
        | exact wpAny_pure hQ
        | (refine wpAny_bind (wpAny_load ho ?_)
           rw [hc,hd]
           show wpAny M A (if (["enumerate", "zip", "dict_itemiterator", "dict_reverseitemiterator", "odict_iterator", "itertools.zip_longest", "itertools.pairwise"].contains n && vs[0]? == some (rawInt _))=true then _ else _) Q E s
           rw [if_neg (by intro h;rw [hn,Bool.false_and] at h;cases h)]
           exact wpAny_pure hQ))
def Itl (K:PySem.W.Frag) (a:Addr):It:=
  ⟨fun i H=>∃xs x,SqL K H a xs∧xs[i]? = some x,fun i H x H'=>H'=H∧∀xs,SqL K H a xs→xs[i]? = some x,fun i H=>∃xs,SqL K H a xs∧xs.length≤i⟩
def Itt (K:PySem.W.Frag) (a:Addr):It:=
  ⟨fun i H=>∃xs x,SqT K H a xs∧xs[i]? = some x,fun i H x H'=>H'=H∧∀xs,SqT K H a xs→xs[i]? = some x,fun i H=>∃xs,SqT K H a xs∧xs.length≤i⟩
def Itr (lo:Int) (n:Nat):It:=⟨fun i _=>i<n,fun i H x H'=>H'=H∧x = .int (lo+i),fun i _=>n≤i⟩
theorem turn_list {P:Program} {w:World} {K:PySem.W.Frag} {tg:Expr} (a it:Addr):Turn P w K tg (Itl K a) [it] it (fun i h=>h.IsListIter it a i) where
  mem:=by simp
  obj:=fun i h st b hb=>by
    have e:b=it:=by simpa using hb
    subst e
    obtain ⟨o,e,c,d⟩:=st
    exact ⟨o,e,fun v z=>by rw [d] at z;cases z⟩
  keep:=fun i h h' st k=>st.at fun o e=>k it (by simp) o e
  item:=by
    intro X hP hw hK hc i pins s σ H E I hf st hg
    subst hP hw hK
    obtain ⟨xs,x,hq,hx⟩:=hg
    obtain ⟨its,rv,p,hz⟩:=I.list hq
    obtain ⟨u,hu,ru⟩:=rv.get hx
    obtain ⟨f0,f1,f2,f3,f4,f5⟩:=hf it (by simp)
    refine wpAny_pyNext_list_item st p.isList (x:=u) (by simpa using hu) fun h' st' sb=>?_
    have I1:Inv X pins σ H {s with heap:=h'}:=I.turned (t':=s.toks) (fun b o hb e=>(sb.2 b hb).trans e) f0 f1 f3 f4 f5
    obtain ⟨o,e,c,d⟩:=id st'
    exact ⟨u,rfl,go_of (s:={s with heap:=h'}) e c d (by decide) ⟨x,H,I1,ru,⟨rfl,fun ys hy=>by rw [I.list_inj hy hq];exact hx⟩,st',fun b hb=>(hf b hb).1⟩⟩
  done:=by
    intro X hP hw hK hc i pins s σ H E I hf st hg
    subst hP hw hK
    obtain ⟨xs,hq,hx⟩:=hg
    obtain ⟨its,rv,p,hz⟩:=I.list hq
    obtain ⟨f0,f1,f2,f3,f4,f5⟩:=hf it (by simp)
    have hl:=rv.length
    exact wpAny_pyNext_list_end (I.ok.hd hc) st p.isList (by simp;omega) fun h' eb=>⟨rfl,I.turned (t':=s.toks) (fun b o hb e=>eb b o hb e) f0 f1 f3 f4 f5⟩
  self:=fun _ _ _ _ _ st h=>wpAny_pyIter_listiter st h
theorem turn_tuple {P:Program} {w:World} {K:PySem.W.Frag} {tg:Expr} (a it:Addr):Turn P w K tg (Itt K a) [it] it (fun i h=>h.IsTupleIter it a i) where
  mem:=by simp
  obj:=fun i h st b hb=>by
    have e:b=it:=by simpa using hb
    subst e
    obtain ⟨o,e,c,d⟩:=st
    exact ⟨o,e,fun v z=>by rw [d] at z;cases z⟩
  keep:=fun i h h' st k=>st.at fun o e=>k it (by simp) o e
  item:=by
    intro X hP hw hK hc i pins s σ H E I hf st hg
    subst hP hw hK
    obtain ⟨xs,x,hq,hx⟩:=hg
    obtain ⟨its,rv,p,hz⟩:=I.tuple hq
    obtain ⟨u,hu,ru⟩:=rv.get hx
    obtain ⟨f0,f1,f2,f3,f4,f5⟩:=hf it (by simp)
    refine wpAny_pyNext_tuple_item st (show s.heap.IsTuple a its.toArray from p) (x:=u) (by simpa using hu) fun h' st' sb=>?_
    have I1:Inv X pins σ H {s with heap:=h'}:=I.turned (t':=s.toks) (fun b o hb e=>(sb.2 b hb).trans e) f0 f1 f3 f4 f5
    obtain ⟨o,e,c,d⟩:=id st'
    exact ⟨u,rfl,go_of (s:={s with heap:=h'}) e c d (by decide) ⟨x,H,I1,ru,⟨rfl,fun ys hy=>by rw [I.tuple_inj hy hq];exact hx⟩,st',fun b hb=>(hf b hb).1⟩⟩
  done:=by
    intro X hP hw hK hc i pins s σ H E I hf st hg
    subst hP hw hK
    obtain ⟨xs,hq,hx⟩:=hg
    obtain ⟨its,rv,p,hz⟩:=I.tuple hq
    obtain ⟨f0,f1,f2,f3,f4,f5⟩:=hf it (by simp)
    have hl:=rv.length
    exact wpAny_pyNext_tuple_end (I.ok.hd hc) st (show s.heap.IsTuple a its.toArray from p) (by simp;omega) fun h' eb=>⟨rfl,I.turned (t':=s.toks) (fun b o hb e=>eb b o hb e) f0 f1 f3 f4 f5⟩
  self:=fun _ _ _ _ _ st h=>wpAny_pyIter_tupleiter st h
theorem turn_range {P:Program} {w:World} {K:PySem.W.Frag} {tg:Expr} (it:Addr) (lo:Int) (n:Nat):Turn P w K tg (Itr lo n) [it] it (fun i h=>IsRangeIter h it (lo+(i:Nat) * 1) ((n:Int) - (i:Nat)) 1) where
  mem:=by simp
  obj:=fun i h st b hb=>by
    have e:b=it:=by simpa using hb
    subst e
    exact ⟨_,st,fun v z=>by
      have z':Data.fields _=Data.cell v:=z
      cases z'⟩
  keep:=fun i h h' st k=>k it (by simp) _ st
  item:=by
    intro X hP hw hK hc i pins s σ H E I hf st hg
    subst hP hw hK
    obtain ⟨f0,f1,f2,f3,f4,f5⟩:=hf it (by simp)
    have W:=Walks.range (prog:=X.prog) (w:=X.w) (I.ok.hd hc) it lo 1 n
    refine W.item i s _ _ hg st fun v h' tk hv st' kk=>?_
    obtain ⟨t,rfl⟩:=hv
    have I1:Inv X pins σ H {s with heap:=h',toks:=tk}:=I.turned (fun b o hb e=>kk b o (by simpa using hb) e) f0 f1 f3 f4 f5
    refine ⟨_,rfl,go_of (s:={s with heap:=h',toks:=tk}) (n:= "range_iterator") st' rfl rfl (by decide) ⟨.int (lo+i),H,I1,⟨t,?_⟩,⟨rfl,rfl⟩,st',fun b hb=>(hf b hb).1⟩⟩
    rw [Int.mul_one]
  done:=by
    intro X hP hw hK hc i pins s σ H E I hf st hg
    subst hP hw hK
    obtain ⟨f0,f1,f2,f3,f4,f5⟩:=hf it (by simp)
    exact wpAny_pyNext_range_end (I.ok.hd hc) st (by have:n≤i:=hg;omega) fun h' eb=>⟨rfl,I.turned (t':=s.toks) (fun b o hb e=>eb b o hb e) f0 f1 f3 f4 f5⟩
  self:=fun _ _ _ _ _ st h=>wpAny_pyIter_rangeiter st h
section
variable {X:Cx} {tg:Expr}
def iList (K:PySem.W.Frag) (tl:TE):TI:=fun σ H R=>tl σ H fun x H1=>∃a,x = .ref a∧(∃xs,SqL K H1 a xs)∧R (Itl K a) H1
theorem pi_list {l:Expr} {tl:TE} (hl:PE X l tl):PI X tg l (iList X.K tl):=by
  intro pins s σ H R I h
  refine thn (hl pins s σ H _ I h) fun v s1 zz=>?_
  obtain ⟨x,H1,I1,r1,q1⟩:=zz
  obtain ⟨a,e,⟨xs,hq⟩,q⟩:=q1
  subst e
  cases r1
  obtain ⟨its,rv,p,hz⟩:=I1.list hq
  refine wpAny_pyIter_list p.isList ?_
  refine ⟨s1.heap.objs.size,[s1.heap.objs.size],_,_,H1,rfl,I1.kept (t':=s1.toks) fun b o e=>Heap.get?_push_of_some _ e,turn_list a _,⟨_,Heap.get?_push_size _ rfl,rfl,rfl⟩,fun b hb=>?_,q⟩
  have e:b=s1.heap.objs.size:=by simpa using hb
  subst e
  exact I1.fpOk (Nat.le_refl _) (I1.hok.fresh (Nat.le_refl _))
theorem range_it {pins:List (Addr×Obj)} {σ:St} {H:Hp} {s:Shared} {R:It→Hp→Prop} {E:Value→Shared→Prop} {lo hi:Int} {t u v:Tok} {tk:Nat} (I:Inv X pins σ H s) (h1 : -(2 ^ 62)≤lo) (h2:lo<2 ^ 62) (h3 : -(2 ^ 62)≤hi) (h4:hi<2 ^ 62)
    (q:R (Itr lo (hi - lo).toNat) H):wpAny (model X.prog X.w) X.A (pyIter (.ref s.heap.objs.size)) (PIE X pins σ tg R) E {s with heap:=s.heap.push {cls:=.type "range",data:=.fields #[.int lo t,.int hi u,.int 1 v]},toks:=tk}:=by
  refine wpAny_pyIter_range (IsRange.new ..) (small_one h1 h2 h3 h4) ?_
  have I1:Inv X pins σ H {s with heap:=s.heap.push {cls:=.type "range",data:=.fields #[.int lo t,.int hi u,.int 1 v]},toks:=tk}:=I.kept fun b o e=>Heap.get?_push_of_some _ e
  refine ⟨(s.heap.push {cls:=.type "range",data:=.fields #[.int lo t,.int hi u,.int 1 v]}).objs.size,[(s.heap.push {cls:=.type "range",data:=.fields #[.int lo t,.int hi u,.int 1 v]}).objs.size],_,_,H,rfl,
    I1.kept (t':=tk) fun b o e=>Heap.get?_push_of_some _ e,turn_range _ lo (hi - lo).toNat,?_,fun b hb=>?_,q⟩
  · have e1:lo+((0:Nat):Int) * 1=lo:=by simp
    have e2:(((hi - lo).toNat:Nat):Int) - ((0:Nat):Int)=Builtin.Range.rangeSize lo hi 1:=by rw [rangeSize_one];split <;> omega
    show IsRangeIter _ _ (lo+((0:Nat):Int) * 1) ((((hi - lo).toNat:Nat):Int) - ((0:Nat):Int)) 1
    rw [e1,e2]
    exact Heap.get?_push_size _ rfl
  · have e:b=(s.heap.push {cls:=.type "range",data:=.fields #[.int lo t,.int hi u,.int 1 v]}).objs.size:=by simpa using hb
    subst e
    exact I1.fpOk (Nat.le_refl _) (I1.hok.fresh (Nat.le_refl _))
def iRng1 (ta:TA):TI:=fun σ H R=>ta σ H fun vs H1=>∃j:Int,vs=[.int j]∧-(2 ^ 62)≤j∧j<2 ^ 62∧R (Itr 0 j.toNat) H1
def iRng2 (ta:TA):TI:=fun σ H R=>ta σ H fun vs H1=>∃i j:Int,vs=[.int i,.int j]∧(-(2 ^ 62)≤i∧i<2 ^ 62∧-(2 ^ 62)≤j∧j<2 ^ 62)∧R (Itr i (j - i).toNat) H1
theorem pi_range1 {a:Expr} {ta:TA} {p pos:Pos} (hg:Gl X "range") (hm:X.mg "range" = none) (ha:PA X [a] ta) (hs:starEach [a] X.env=[(false,eval a X.env)]:=by rfl):PI X tg (.Call (.Name "range" p) [a] [] pos) (iRng1 ta):=by
  intro pins s σ H R I h
  refine Call_ (ld_blt I hg hm boot_range (PyProof.Rows.callWith_type1 (thn (ha pos pins s σ H _ I h) fun us s1 zz=>?_) hs rfl))
  obtain ⟨vs,H1,I1,r1,q1⟩:=zz
  obtain ⟨j,e,q1,q2,q⟩:=q1
  subst e
  cases r1 with
  | cons r rr=>
    cases rr
    obtain ⟨t,rfl⟩:=r
    exact call_range_1 (range_it I1 (by omega) (by omega) q1 q2 (by simpa using q))
theorem pi_range2 {a b:Expr} {ta:TA} {p pos:Pos} (hg:Gl X "range") (hm:X.mg "range" = none) (ha:PA X [a,b] ta) (hs:starEach [a,b] X.env=[(false,eval a X.env),(false,eval b X.env)]:=by rfl) (hs2:starEach [b] X.env=[(false,eval b X.env)]:=by rfl) :
    PI X tg (.Call (.Name "range" p) [a,b] [] pos) (iRng2 ta):=by
  intro pins s σ H R I h
  refine Call_ (ld_blt I hg hm boot_range (PyProof.Rows.callWith_type1 (thn (ha pos pins s σ H _ I h) fun us s1 zz=>?_) (by rw [hs,hs2]) (by rw [hs2];rfl)))
  obtain ⟨vs,H1,I1,r1,q1⟩:=zz
  obtain ⟨i,j,e,⟨q1,q2,q3,q4⟩,q⟩:=q1
  subst e
  cases r1 with
  | cons r rr=>
    cases rr with
    | cons r' rr=>
      cases rr
      obtain ⟨t,rfl⟩:=r
      obtain ⟨t',rfl⟩:=r'
      exact call_range_2 (range_it I1 q1 q2 q3 q4 q)
def tFor (wi:TI) (g:TG) (tb:TS):TS:=fun D σ H=>wi σ H fun J H1=>∃W:Nat→Nat→St→Hp→Prop,(∃m,W 0 m σ H1)∧∀i m σ H,W i m σ H→
  (J.stop i H∧D.nx σ H)∨(J.go i H∧∃N:St→Hp→Prop,(∀σ' H',N σ' H'→∃m',m'<m∧W (i+1) m' σ' H')∧∀x H',J.yld i H x H'→g x σ H' fun σ2 H2=>tb {D with nx:=N,ct:=N,bk:=D.nx} σ2 H2)
def pinsAt (fp:List Addr) (h:Heap):List (Addr×Obj):=fp.filterMap fun b=>(h.get? b).map fun o=>(b,o)
theorem mem_pinsAt {fp:List Addr} {h:Heap} {b:Addr} {o:Obj} (hb:b∈fp) (e:h.get? b=some o):(b,o)∈pinsAt fp h:=List.mem_filterMap.mpr ⟨b,hb,by rw [e];rfl⟩
theorem of_pinsAt {fp:List Addr} {h:Heap} {p:Addr×Obj} (hp:p∈pinsAt fp h):p.1∈fp∧h.get? p.1=some p.2:=by
  obtain ⟨b,hb,e⟩:=List.mem_filterMap.mp hp
  cases q:h.get? b with
  | none=>rw [q] at e;cases e
  | some o=>
    rw [q] at e
    have e':(b,o)=p:=Option.some.inj e
    subst e'
    exact ⟨hb,q⟩
theorem Inv.pinned {pins:List (Addr×Obj)} {σ:St} {H:Hp} {s:Shared} {fp:List Addr} (I:Inv X pins σ H s) (hf:∀b∈fp,FpOk X pins H b) (ho:∀b∈fp,∃o,s.heap.get? b=some o∧∀v,o.data≠.cell v):Inv X (pins++pinsAt fp s.heap) σ H s:=
  I.pins_of fun p hp=>(List.mem_append.mp hp).elim (fun z=>I.pin p (List.mem_append_right _ z)) fun z=>by
    obtain ⟨hb,e⟩:=of_pinsAt z
    obtain ⟨f0,f1,f2,_⟩:=hf p.1 hb
    obtain ⟨o,e',d⟩:=ho p.1 hb
    rw [e] at e';cases e'
    exact ⟨e,f0,f1,f2,d⟩
theorem Inv.unpinned {pins pl:List (Addr×Obj)} {σ:St} {H:Hp} {s:Shared} (I:Inv X (pins++pl) σ H s):Inv X pins σ H s:=I.pins_of fun p hp=>I.pin p (List.mem_append_right _ (List.mem_append_left _ hp))
theorem ps_for {iter:Expr} {body:List Stmt} {wi:TI} {g:TG} {tb:TS} {pos:Pos} (hp:PassesOwn (model X.prog X.w) X.A X.env X.xe) (hc:X.calm=true) (hi:PI X tg iter wi) (hg:PG X tg g) (hb:PSs X body tb)
    (hs:∀x,foldedSetIterable iter X.env x=pure x:=by intro _;rfl):PS X (.For tg iter body [] pos) (tFor wi g tb):=by
  intro pins s σ H D I h
  refine wpAny_For (thn (hi pins s σ H _ I h) fun v s1 h1=>thn h1 fun itv s2 h2=>?_) hs
  obtain ⟨it,fp,tn,J,H2,e,I2,T,st2,f2,W,⟨m0,w0⟩,turn⟩:=h2
  subst e
  have stat:∀{H':Hp},(∀b∈fp,H' b=none)→∀b∈fp,FpOk X pins H' b:=fun hn b hb=>⟨hn b hb,(f2 b hb).2⟩
  refine codeAny_forLoop_any (fun n s'=>∃i σ' H',Inv X pins σ' H' s'∧tn i s'.heap∧(∀b∈fp,H' b=none)∧W i n σ' H') ?_ m0 ⟨0,σ,H2,I2,st2,fun b hb=>(f2 b hb).1,w0⟩
  rintro n s3 ⟨i,σ3,H3,I3,st3,fr3,w3⟩
  rcases turn i n σ3 H3 w3 with ⟨stop,qn⟩ | ⟨go,N,hN,step⟩
  · refine wpAny_passesOwn hp (thn (T.done X rfl rfl rfl hc i pins s3 σ3 H3 X.xe I3 (stat fr3) st3 stop) fun r s4 zz=>?_)
    obtain ⟨hr,I4⟩:=zz
    subst hr
    exact wpAny_execs_nil ⟨σ3,H3,I4,qn⟩
  · refine wpAny_passesOwn hp (thn (T.item X rfl rfl rfl hc i pins s3 σ3 H3 X.xe I3 (stat fr3) st3 go) fun r s4 zz=>?_)
    obtain ⟨u,hr,h4⟩:=zz
    subst hr
    refine wpAny_passesOwn hp (thn h4 fun _ s5 zz=>?_)
    obtain ⟨x,H5,I5,r5,y5,st5,fr5⟩:=zz
    have I5':=I5.pinned (stat fr5) (T.obj _ _ st5)
    refine wpAny_passesOwn hp (thn (hg _ s5 σ3 H5 x u _ I5' r5 (step x H5 y5)) fun _ s6 zz=>?_)
    obtain ⟨σ6,H6,I6,q6⟩:=zz
    refine wpAny_passesOwn hp (thn (hb _ s6 σ6 H6 _ I6 q6) fun f s7 q7=>?_)
    have again:∀{σ7:St} {H7:Hp},Inv X (pins++pinsAt fp s5.heap) σ7 H7 s7→N σ7 H7→∃m,m<n∧∃i σ' H',Inv X pins σ' H' s7∧tn i s7.heap∧(∀b∈fp,H' b=none)∧W i m σ' H':=fun {σ7 H7} I7 n7=>by
      obtain ⟨m',hm,w7⟩:=hN σ7 H7 n7
      refine ⟨m',hm,i+1,σ7,H7,I7.unpinned,T.keep _ _ _ st5 fun b hb o e=>(I7.pin (b,o) (List.mem_append_right _ (List.mem_append_right _ (mem_pinsAt hb e)))).1,fun b hb=>?_,w7⟩
      obtain ⟨o,e,d⟩:=T.obj _ _ st5 b hb
      exact (I7.pin (b,o) (List.mem_append_right _ (List.mem_append_right _ (mem_pinsAt hb e)))).2.1
    cases f with
    | next=>obtain ⟨σ7,H7,I7,n7⟩:=q7;exact again I7 n7
    | cont=>obtain ⟨σ7,H7,I7,n7⟩:=q7;exact again I7 n7
    | brk=>obtain ⟨σ7,H7,I7,q7⟩:=q7;exact ⟨σ7,H7,I7.unpinned,q7⟩
    | ret v=>obtain ⟨x7,σ7,H7,I7,r7,q7⟩:=q7;exact ⟨x7,σ7,H7,I7.unpinned,r7,q7⟩
end
theorem for_list {K:PySem.W.Frag} {a:Addr} {xs:List V} {g:TG} {tb:TS} {D:Ends} {σ:St} {H:Hp} (Pv:Nat→St→Hp→Prop) (h0:Pv 0 σ H) (hl:∀i σ H,i≤xs.length→Pv i σ H→SqL K H a xs)
    (hs:∀i x σ H,xs[i]? = some x→Pv i σ H→g x σ H fun σ2 H2=>tb {D with nx:=Pv (i+1),ct:=Pv (i+1),bk:=D.nx} σ2 H2) (hd:∀σ H,Pv xs.length σ H→D.nx σ H) :
    ∃W:Nat→Nat→St→Hp→Prop,(∃m,W 0 m σ H)∧∀i m σ H,W i m σ H→
      ((Itl K a).stop i H∧D.nx σ H)∨((Itl K a).go i H∧∃N:St→Hp→Prop,(∀σ' H',N σ' H'→∃m',m'<m∧W (i+1) m' σ' H')∧∀x H',(Itl K a).yld i H x H'→g x σ H' fun σ2 H2=>tb {D with nx:=N,ct:=N,bk:=D.nx} σ2 H2):=by
  refine ⟨fun i m σ H=>m=xs.length - i∧i≤xs.length∧Pv i σ H,⟨xs.length,by simp,Nat.zero_le _,h0⟩,?_⟩
  rintro i m σ H ⟨rfl,hi,p⟩
  have q:=hl i σ H hi p
  by_cases hlt:i<xs.length
  · refine .inr ⟨⟨xs,xs[i],q,by simp [hlt]⟩,Pv (i+1),fun σ' H' p'=>⟨xs.length - (i+1),by omega,rfl,hlt,p'⟩,fun x H' y=>?_⟩
    obtain ⟨e,y⟩:=y
    subst e
    exact hs i x σ _ (y xs q) p
  · have e:i=xs.length:=by omega
    subst e
    exact .inl ⟨⟨xs,q,Nat.le_refl _⟩,hd σ H p⟩
theorem for_range {lo:Int} {n:Nat} {g:TG} {tb:TS} {D:Ends} {σ:St} {H:Hp} (Pv:Nat→St→Hp→Prop) (h0:Pv 0 σ H)
    (hs:∀i σ H,i<n→Pv i σ H→g (.int (lo+i)) σ H fun σ2 H2=>tb {D with nx:=Pv (i+1),ct:=Pv (i+1),bk:=D.nx} σ2 H2) (hd:∀σ H,Pv n σ H→D.nx σ H) :
    ∃W:Nat→Nat→St→Hp→Prop,(∃m,W 0 m σ H)∧∀i m σ H,W i m σ H→
      ((Itr lo n).stop i H∧D.nx σ H)∨((Itr lo n).go i H∧∃N:St→Hp→Prop,(∀σ' H',N σ' H'→∃m',m'<m∧W (i+1) m' σ' H')∧∀x H',(Itr lo n).yld i H x H'→g x σ H' fun σ2 H2=>tb {D with nx:=N,ct:=N,bk:=D.nx} σ2 H2):=by
  refine ⟨fun i m σ H=>m=n - i∧i≤n∧Pv i σ H,⟨n,by simp,Nat.zero_le _,h0⟩,?_⟩
  rintro i m σ H ⟨rfl,hi,p⟩
  by_cases hlt:i<n
  · refine .inr ⟨hlt,Pv (i+1),fun σ' H' p'=>⟨n - (i+1),by omega,rfl,hlt,p'⟩,fun x H' y=>?_⟩
    obtain ⟨e,y⟩:=y
    subst e y
    exact hs i σ _ hlt p
  · have e:i=n:=by omega
    subst e
    exact .inl ⟨Nat.le_refl _,hd σ H p⟩
abbrev R2:=V→V→Hp→VK→Prop
def OpR (X:Cx) (f:Value→Value→Sem Value) (r:R2):Prop:=
  ∀(pins:List (Addr×Obj)) (s:Shared) (σ:St) (H:Hp) (x y:V) (v u:Value) (Q:VK),Inv X pins σ H s→RelV x v→RelV y u→r x y H Q→
    wpAny (model X.prog X.w) X.A (f v u) (EP X pins σ Q) X.xe s
def UnR (X:Cx) (f:Value→Sem Value) (r:V→Hp→VK→Prop):Prop:=
  ∀(pins:List (Addr×Obj)) (s:Shared) (σ:St) (H:Hp) (x:V) (v:Value) (Q:VK),Inv X pins σ H s→RelV x v→r x H Q→
    wpAny (model X.prog X.w) X.A (f v) (EP X pins σ Q) X.xe s
def CallR (X:Cx) (f:Value) (r:List V→Hp→VK→Prop):Prop:=
  ∀(pins:List (Addr×Obj)) (s:Shared) (σ:St) (H:Hp) (xs:List V) (us:List Value) (Q:VK),Inv X pins σ H s→Vals xs us→r xs H Q→
    wpAny (model X.prog X.w) X.A (call f us) (EP X pins σ Q) X.xe s
def tOp (r:R2) (ta tb:TE):TE:=fun σ H Q=>ta σ H fun x H1=>tb σ H1 fun y H2=>r x y H2 Q
def tUn (r:V→Hp→VK→Prop) (ta:TE):TE:=fun σ H Q=>ta σ H fun x H1=>r x H1 Q
def rI (C:Int→Int→Prop) (g:Int→Int→V):R2:=fun x y H Q=>∃i j,x = .int i∧y = .int j∧C i j∧Q (g i j) H
def rI0 (g:Int→Int→V):R2:=fun x y H Q=>∃i j,x = .int i∧y = .int j∧Q (g i j) H
def rU (g:Int→V):V→Hp→VK→Prop:=fun x H Q=>∃i,x = .int i∧Q (g i) H
section
variable {X:Cx} {a b c:Expr} {ta tb tc:TE} {pos:Pos}
theorem binT (ha:PE X a ta) (hb:PE X b tb) {pins:List (Addr×Obj)} {s:Shared} {σ:St} {H:Hp} {R:V→V→Hp→Prop} (I:Inv X pins σ H s)
    (h:ta σ H fun x H1=>tb σ H1 fun y H2=>R x y H2) {Q:Value→Shared→Prop} {f:Value→Value→Sem Value}
    (hf:∀v u s2 x y H2,Inv X pins σ H2 s2→RelV x v→RelV y u→R x y H2→wpAny (model X.prog X.w) X.A (f v u) Q X.xe s2) :
    wpAny (model X.prog X.w) X.A (eval a X.env) (fun v s₁=>wpAny (model X.prog X.w) X.A (eval b X.env) (fun u s₂=>wpAny (model X.prog X.w) X.A (f v u) Q X.xe s₂) X.xe s₁) X.xe s:=by
  refine thn (ha pins s σ H _ I h) fun v s1 zz=>?_
  obtain ⟨x,H1,I1,r1,q1⟩:=zz
  refine thn (hb pins s1 σ H1 _ I1 q1) fun u s2 zz=>?_
  obtain ⟨y,H2,I2,r2,q2⟩:=zz
  exact hf v u s2 x y H2 I2 r1 r2 q2
theorem pe_op {op:Operator} {r:R2} (ho:OpR X (binaryOp op) r) (ha:PE X a ta) (hb:PE X b tb):PE X (.BinOp a op b pos) (tOp r ta tb):=by
  intro pins s σ H Q I h
  exact wpAny_BinOp (binT ha hb I h fun v u s2 x y H2 I2 rx ry q=>ho pins s2 σ H2 x y v u Q I2 rx ry q)
theorem pe_un {op:UnaryOp} {r:V→Hp→VK→Prop} (ho:UnR X (unaryOp op) r) (ha:PE X a ta):PE X (.UnaryOp op a pos) (tUn r ta):=by
  intro pins s σ H Q I h
  refine UnaryOp_ (thn (ha pins s σ H _ I h) fun v s1 zz=>?_)
  obtain ⟨x,H1,I1,r1,q1⟩:=zz
  exact ho pins s1 σ H1 x v Q I1 r1 q1
theorem opI {f:Value→Value→Sem Value} {C:Int→Int→Prop} {g:Int→Int→Int}
    (rule:∀(i j:Int) (t u:Tok) (s:Shared) (Q:Value→Shared→Prop) (E:Value→Shared→Prop),C i j→Q (.int (g i j) s.toks) {s with toks:=s.toks+1}→wpAny (model X.prog X.w) X.A (f (.int i t) (.int j u)) Q E s) :
    OpR X f (rI C fun i j=>.int (g i j)):=by
  intro pins s σ H x y v u Q I rx ry h
  obtain ⟨i,j,rfl,rfl,hc,q⟩:=h
  obtain ⟨t,rfl⟩:=rx
  obtain ⟨t',rfl⟩:=ry
  exact rule i j t t' s _ _ hc ⟨.int (g i j),H,I.tok _,⟨_,rfl⟩,q⟩
theorem opI0 {f:Value→Value→Sem Value} {g:Int→Int→Int}
    (rule:∀(i j:Int) (t u:Tok) (s:Shared) (Q:Value→Shared→Prop) (E:Value→Shared→Prop),Q (.int (g i j) s.toks) {s with toks:=s.toks+1}→wpAny (model X.prog X.w) X.A (f (.int i t) (.int j u)) Q E s) :
    OpR X f (rI0 fun i j=>.int (g i j)):=by
  intro pins s σ H x y v u Q I rx ry h
  obtain ⟨i,j,rfl,rfl,q⟩:=h
  obtain ⟨t,rfl⟩:=rx
  obtain ⟨t',rfl⟩:=ry
  exact rule i j t t' s _ _ ⟨.int (g i j),H,I.tok _,⟨_,rfl⟩,q⟩
theorem opB0 {f:Value→Value→Sem Value} {g:Int→Int→Bool}
    (rule:∀(i j:Int) (t u:Tok) (s:Shared) (Q:Value→Shared→Prop) (E:Value→Shared→Prop),Q (.bool (g i j)) s→wpAny (model X.prog X.w) X.A (f (.int i t) (.int j u)) Q E s) :
    OpR X f (rI0 fun i j=>.bl (g i j)):=by
  intro pins s σ H x y v u Q I rx ry h
  obtain ⟨i,j,rfl,rfl,q⟩:=h
  obtain ⟨t,rfl⟩:=rx
  obtain ⟨t',rfl⟩:=ry
  exact rule i j t t' s _ _ ⟨.bl (g i j),H,I,rfl,q⟩
@[simp] def CDiv (i j:Int):Prop:=0<j∧j<1073741824
@[simp] def CPow (i j:Int):Prop:=0≤j∧j≤1000000∧i.natAbs<2 ^ 64
@[simp] def CMul (i j:Int):Prop:=(-(2 ^ 64)<i∧i<2 ^ 64)∨(-(2 ^ 64)<j∧j<2 ^ 64)
theorem CMul.ok {i j:Int} (h:CMul i j):IntMulOk i j:=by
  rcases h with ⟨h1,h2⟩ | ⟨h1,h2⟩
  ·exact .of_left (intBits_le_64 h1 h2)
  ·exact .of_right (intBits_le_64 h1 h2)
theorem op_add:OpR X (binaryOp .Add) (rI0 fun i j=>.int (i+j)):=opI0 fun _ _ _ _ _ _ _ q=>add_int q
theorem op_sub:OpR X (binaryOp .Sub) (rI0 fun i j=>.int (i - j)):=opI0 fun _ _ _ _ _ _ _ q=>sub_int q
theorem op_mul:OpR X (binaryOp .Mult) (rI CMul fun i j=>.int (i * j)):=opI fun _ _ _ _ _ _ _ hc q=>mul_int q hc.ok
theorem op_fdiv:OpR X (binaryOp .FloorDiv) (rI CDiv fun i j=>.int (i / j)):=opI fun i j _ _ _ _ _ hc q=>by
  have h1:(0:Int)<j:=hc.1
  have h2:j<1073741824:=hc.2
  exact floordiv_int (by omega) (by rw [Int.fdiv_eq_ediv_of_nonneg i (by omega)];exact q) (.inl (PyProof.noPylong_small (by omega)))
theorem op_mod:OpR X (binaryOp .Mod) (rI (fun _ j=>0<j) fun i j=>.int (i % j)):=opI fun i j _ _ _ _ _ hc q=>by
  have h1:(0:Int)<j:=hc
  exact mod_int' (by omega) (by rw [Int.fmod_eq_emod_of_nonneg i (by omega)];exact q)
theorem op_pow:OpR X (binaryOp .Pow) (rI CPow fun i j=>.int (i ^ j.toNat)):=opI fun _ _ _ _ _ _ _ hc q=>pow_int_small hc.1 hc.2.1 hc.2.2 q
theorem unI {f:Value→Sem Value} {g:Int→Int}
    (rule:∀(i:Int) (t:Tok) (s:Shared) (Q:Value→Shared→Prop) (E:Value→Shared→Prop),Q (.int (g i) s.toks) {s with toks:=s.toks+1}→wpAny (model X.prog X.w) X.A (f (.int i t)) Q E s) :
    UnR X f (rU fun i=>.int (g i)):=by
  intro pins s σ H x v Q I rx h
  obtain ⟨i,rfl,q⟩:=h
  obtain ⟨t,rfl⟩:=rx
  exact rule i t s _ _ ⟨.int (g i),H,I.tok _,⟨_,rfl⟩,q⟩
theorem un_neg:UnR X (unaryOp .USub) (rU fun i=>.int (-i)):=unI fun _ _ _ _ _ q=>neg_int q
end
def scal:V→V→Bool
  | .non,.non=>true | .non,.int _=>true | .int _,.non=>true | .non,.bl _=>true | .bl _,.non=>true | .non,.str _=>true | .str _,.non=>true
  | .int _,.int _=>true | .bl _,.bl _=>true | .str _,.str _=>true | .byt _,.byt _=>true
  | .int _,.str _=>true | .str _,.int _=>true | .bl _,.str _=>true | .str _,.bl _=>true
  | _,_=>false
def rEq:R2:=fun x y H Q=>scal x y=true∧Q (.bl (decide (x=y))) H
def rNe:R2:=fun x y H Q=>scal x y=true∧Q (.bl (!decide (x=y))) H
theorem dec_int {i j:Int}:decide (V.int i=V.int j)=(i == j):=by
  rw [Bool.eq_iff_iff]
  simp
theorem dec_bl {i j:Bool}:decide (V.bl i=V.bl j)=(i == j):=by
  rw [Bool.eq_iff_iff]
  simp
theorem dec_str {i j:Str}:decide (V.str i=V.str j)=(i == j):=by
  rw [Bool.eq_iff_iff]
  simp
theorem dec_byt {i j:Array UInt8}:decide (V.byt i=V.byt j)=(i.toList == j.toList):=by
  rw [Bool.eq_iff_iff]
  cases i
  cases j
  simp
section
variable {X:Cx} {a b c:Expr} {ta tb tc:TE} {pos:Pos}
theorem fin_bl {pins:List (Addr×Obj)} {σ:St} {H:Hp} {s:Shared} {Q:VK} {k k':Bool} (I:Inv X pins σ H s) (q:Q (.bl k) H) (e:k=k'):EP X pins σ Q (.bool k') s:=by
  subst e
  exact ⟨.bl k,H,I,rfl,q⟩
theorem op_eq:OpR X (compareOp .Eq) rEq:=by
  intro pins s σ H x y v u Q I rx ry h
  obtain ⟨hs,q⟩:=h
  cases x with
  | non=>
    cases rx
    cases y with
    | non=>cases ry;exact PySem.EqNone.eq_none_none (fin_bl I q (by simp))
    | bl j=>cases ry;exact PySem.EqNone.eq_none_bool (fin_bl I q (by simp))
    | int j=>obtain ⟨t',rfl⟩:=ry;exact PySem.EqNone.eq_none_int (fin_bl I q (by simp))
    | str j=>obtain ⟨t',rfl⟩:=ry;exact PySem.EqNone.eq_none_str (fin_bl I q (by simp))
    | _=>exact absurd (show false=true from hs) Bool.false_ne_true
  | bl i=>
    cases rx
    cases y with
    | non=>cases ry;exact PySem.EqNone.eq_bool_none (fin_bl I q (by simp))
    | bl j=>cases ry;exact eq_bool (fin_bl I q dec_bl)
    | str j=>obtain ⟨t',rfl⟩:=ry;exact PySem.EqMixed.eq_bool_str (fin_bl I q (by simp))
    | _=>exact absurd (show false=true from hs) Bool.false_ne_true
  | int i=>
    obtain ⟨t,rfl⟩:=rx
    cases y with
    | non=>cases ry;exact PySem.EqNone.eq_int_none (fin_bl I q (by simp))
    | int j=>obtain ⟨t',rfl⟩:=ry;exact eq_int (fin_bl I q dec_int)
    | str j=>obtain ⟨t',rfl⟩:=ry;exact PySem.EqMixed.eq_int_str (fin_bl I q (by simp))
    | _=>exact absurd (show false=true from hs) Bool.false_ne_true
  | str i=>
    obtain ⟨t,rfl⟩:=rx
    cases y with
    | non=>cases ry;exact PySem.EqNone.eq_str_none (fin_bl I q (by simp))
    | bl j=>cases ry;exact PySem.EqMixed.eq_str_bool (fin_bl I q (by simp))
    | int j=>obtain ⟨t',rfl⟩:=ry;exact PySem.EqMixed.eq_str_int (fin_bl I q (by simp))
    | str j=>obtain ⟨t',rfl⟩:=ry;exact eq_str (fin_bl I q dec_str)
    | _=>exact absurd (show false=true from hs) Bool.false_ne_true
  | byt i=>
    obtain ⟨t,rfl⟩:=rx
    cases y with
    | byt j=>obtain ⟨t',rfl⟩:=ry;exact PySem.W.eq_bytes (fin_bl I q dec_byt)
    | _=>exact absurd (show false=true from hs) Bool.false_ne_true
  | _=>cases y <;> exact absurd (show false=true from hs) Bool.false_ne_true
theorem op_ne:OpR X (compareOp .NotEq) rNe:=by
  intro pins s σ H x y v u Q I rx ry h
  obtain ⟨hs,q⟩:=h
  cases x with
  | non=>
    cases rx
    cases y with
    | non=>cases ry;exact PySem.EqNone.ne_none_none (fin_bl I q (by simp))
    | bl j=>cases ry;exact PySem.EqNone.ne_none_bool (fin_bl I q (by simp))
    | int j=>obtain ⟨t',rfl⟩:=ry;exact PySem.EqNone.ne_none_int (fin_bl I q (by simp))
    | str j=>obtain ⟨t',rfl⟩:=ry;exact PySem.EqNone.ne_none_str (fin_bl I q (by simp))
    | _=>exact absurd (show false=true from hs) Bool.false_ne_true
  | bl i=>
    cases rx
    cases y with
    | non=>cases ry;exact PySem.EqNone.ne_bool_none (fin_bl I q (by simp))
    | bl j=>cases ry;exact ne_bool (fin_bl I q (congrArg not dec_bl))
    | str j=>obtain ⟨t',rfl⟩:=ry;exact PySem.EqMixed.ne_bool_str (fin_bl I q (by simp))
    | _=>exact absurd (show false=true from hs) Bool.false_ne_true
  | int i=>
    obtain ⟨t,rfl⟩:=rx
    cases y with
    | non=>cases ry;exact PySem.EqNone.ne_int_none (fin_bl I q (by simp))
    | int j=>obtain ⟨t',rfl⟩:=ry;exact ne_int (fin_bl I q (congrArg not dec_int))
    | str j=>obtain ⟨t',rfl⟩:=ry;exact PySem.EqMixed.ne_int_str (fin_bl I q (by simp))
    | _=>exact absurd (show false=true from hs) Bool.false_ne_true
  | str i=>
    obtain ⟨t,rfl⟩:=rx
    cases y with
    | non=>cases ry;exact PySem.EqNone.ne_str_none (fin_bl I q (by simp))
    | bl j=>cases ry;exact PySem.EqMixed.ne_str_bool (fin_bl I q (by simp))
    | int j=>obtain ⟨t',rfl⟩:=ry;exact PySem.EqMixed.ne_str_int (fin_bl I q (by simp))
    | str j=>obtain ⟨t',rfl⟩:=ry;exact ne_str (fin_bl I q (congrArg not dec_str))
    | _=>exact absurd (show false=true from hs) Bool.false_ne_true
  | byt i=>
    obtain ⟨t,rfl⟩:=rx
    cases y with
    | byt j=>obtain ⟨t',rfl⟩:=ry;exact PySem.W.ne_bytes (fin_bl I q (congrArg not dec_byt))
    | _=>exact absurd (show false=true from hs) Bool.false_ne_true
  | _=>cases y <;> exact absurd (show false=true from hs) Bool.false_ne_true
theorem op_lt:OpR X (compareOp .Lt) (rI0 fun i j=>.bl (decide (i<j))):=opB0 fun _ _ _ _ _ _ _ q=>lt_int q
theorem op_le:OpR X (compareOp .LtE) (rI0 fun i j=>.bl (decide (i≤j))):=opB0 fun _ _ _ _ _ _ _ q=>le_int q
theorem op_gt:OpR X (compareOp .Gt) (rI0 fun i j=>.bl (decide (j<i))):=opB0 fun _ _ _ _ _ _ _ q=>gt_int q
theorem op_in_str:OpR X (compareOp .In) (fun x y H Q=>∃i j,x = .str i∧y = .str j∧Q (.bl (!(Builtin.Str.occurrences j i 0 j.length 1).isEmpty)) H):=by
  intro pins s σ H x y v u Q I rx ry h
  obtain ⟨i,j,rfl,rfl,q⟩:=h
  obtain ⟨t,rfl⟩:=rx
  obtain ⟨t',rfl⟩:=ry
  exact in_str (fin_bl I q rfl)
theorem op_isN:OpR X (compareOp .Is) (fun x y H Q=>y = .non∧Q (.bl (decide (x = .non))) H):=by
  intro pins s σ H x y v u Q I rx ry h
  obtain ⟨rfl,q⟩:=h
  cases ry
  refine is_none_gen (fin_bl I q ?_)
  cases x <;> first
    | (cases rx;rfl)
    | (obtain ⟨t,rfl⟩:=rx;rfl)
theorem OpR.or {f:Value→Value→Sem Value} {r r':R2} (h:OpR X f r) (h':OpR X f r'):OpR X f (fun x y H Q=>r x y H Q∨r' x y H Q):=by
  intro pins s σ H x y v u Q I rx ry q
  rcases q with q | q
  ·exact h pins s σ H x y v u Q I rx ry q
  ·exact h' pins s σ H x y v u Q I rx ry q
theorem nomark (b:Expr) {op:CmpOp} (h:op≠.In:=by decide) (h2:op≠.NotIn:=by decide):behindInMarks op b=false:=by
  have e1:(op == CmpOp.In)=false:=by cases op <;> first | rfl | exact absurd rfl h
  have e2:(op == CmpOp.NotIn)=false:=by cases op <;> first | rfl | exact absurd rfl h2
  cases b <;> simp [behindInMarks,e1,e2]
theorem pe_cmpR {op:CmpOp} {r:R2} (ho:OpR X (compareOp op) r) (ha:PE X a ta) (hb:PE X b tb) (hm:behindInMarks op b=false):PE X (.Compare a [op] [b] pos) (tOp r ta tb):=by
  intro pins s σ H Q I h
  exact wpAny_Compare1 (binT ha hb I h fun v u s2 x y H2 I2 rx ry q=>ho pins s2 σ H2 x y v u Q I2 rx ry q) hm
def tTest (t:TE):TT:=fun σ H Q=>t σ H fun x H'=>∃k,x = .bl k∧Q k H'
theorem pt_cmpR {op:CmpOp} {r:R2} (ho:OpR X (compareOp op) r) (ha:PE X a ta) (hb:PE X b tb) (hm:behindInMarks op b=false):PT X (.Compare a [op] [b] pos) (tTest (tOp r ta tb)):=by
  intro pins s σ H Q I h
  refine wpAny_isTrue_Compare1 (thn (ha pins s σ H _ I h) fun v s1 ⟨x,H1,I1,r1,q1⟩=>thn (hb pins s1 σ H1 _ I1 q1) fun u s2 ⟨y,H2,I2,r2,q2⟩=>
    thn (ho pins s2 σ H2 x y v u _ I2 r1 r2 q2) fun c s3 ⟨z,H3,I3,r3,k,e,q3⟩=>?_) hm
  subst e
  cases r3
  exact wpAny_truthy_bool ⟨H3,I3,q3⟩
def tChain (r r':R2) (ta tb tc:TE):TE:=fun σ H Q=>ta σ H fun x H1=>tb σ H1 fun y H2=>r x y H2 fun z H3=>∃k,z = .bl k∧
  (if k=true then tc σ H3 fun w' H4=>r' y w' H4 Q else Q (.bl false) H3)
theorem pe_chain {op op':CmpOp} {r r':R2} (ho:OpR X (compareOp op) r) (ho':OpR X (compareOp op') r') (ha:PE X a ta) (hb:PE X b tb) (hc:PE X c tc)
    (hm:lastMarks [op,op'] [b,c]=false:=by with_unfolding_all rfl):PE X (.Compare a [op,op'] [b,c] pos) (tChain r r' ta tb tc):=by
  intro pins s σ H Q I h
  refine Compare_chain (thn (ha pins s σ H _ I h) fun v s1 ⟨x,H1,I1,r1,q1⟩=>chain_link (thn (hb pins s1 σ H1 _ I1 q1) fun u s2 ⟨y,H2,I2,r2,q2⟩=>
    thn (ho pins s2 σ H2 x y v u _ I2 r1 r2 q2) fun d s3 ⟨z,H3,I3,r3,k,e,q3⟩=>?_)) hm
  subst e
  cases r3
  refine wpAny_truthy_bool ?_
  cases k with
  | false=>exact ite_ff ⟨.bl false,H3,I3,rfl,q3⟩
  | true=>exact ite_tt (chain_last (thn (hc pins s3 σ H3 _ I3 q3) fun w' s4 ⟨z',H4,I4,r4,q4⟩=>ho' pins s4 σ H4 y z' u w' Q I4 r2 r4 q4))
theorem pt_chain {op op':CmpOp} {r r':R2} (ho:OpR X (compareOp op) r) (ho':OpR X (compareOp op') r') (ha:PE X a ta) (hb:PE X b tb) (hc:PE X c tc)
    (hm:lastMarks [op,op'] [b,c]=false:=by with_unfolding_all rfl):PT X (.Compare a [op,op'] [b,c] pos) (tTest (tChain r r' ta tb tc)):=by
  intro pins s σ H Q I h
  refine isTrue_chain (thn (ha pins s σ H _ I h) fun v s1 ⟨x,H1,I1,r1,q1⟩=>test_link (thn (hb pins s1 σ H1 _ I1 q1) fun u s2 ⟨y,H2,I2,r2,q2⟩=>
    thn (ho pins s2 σ H2 x y v u _ I2 r1 r2 q2) fun d s3 ⟨z,H3,I3,r3,k,e,q3⟩=>?_)) hm
  subst e
  cases r3
  refine wpAny_truthy_bool ?_
  cases k with
  | false=>
    obtain ⟨k',e',q'⟩:=q3
    cases e'
    exact ite_ff ⟨H3,I3,q'⟩
  | true=>
    refine ite_tt (test_last (thn (hc pins s3 σ H3 _ I3 q3) fun w' s4 ⟨z',H4,I4,r4,q4⟩=>thn (ho' pins s4 σ H4 y z' u w' _ I4 r2 r4 q4) fun d' s5 ⟨z2,H5,I5,r5,k2,e2,q5⟩=>?_))
    subst e2
    cases r5
    exact wpAny_truthy_bool ⟨H5,I5,q5⟩
theorem line63:(sizeLine:Nat)<2 ^ 63:=by rw [sizeLine_eq];decide
theorem op_add_str:OpR X (binaryOp .Add) (fun x y H Q=>∃i j,x = .str i∧y = .str j∧i.length+j.length≤sizeLine∧Q (.str (i++j)) H):=by
  intro pins s σ H x y v u Q I rx ry h
  obtain ⟨i,j,rfl,rfl,hz,q⟩:=h
  obtain ⟨t,rfl⟩:=rx
  obtain ⟨t',rfl⟩:=ry
  exact add_str (fun t' tk=>⟨.str (i++j),H,I.tok _,⟨_,rfl⟩,q⟩) hz
theorem vals1 {x:V} {us:List Value} (r:Vals [x] us):∃u,us=[u]∧RelV x u:=by
  cases r with
  | cons r1 r2=>cases r2;exact ⟨_,rfl,r1⟩
theorem vals2 {x y:V} {us:List Value} (r:Vals [x,y] us):∃u w',us=[u,w']∧RelV x u∧RelV y w':=by
  cases r with
  | cons r1 r2=>
    cases r2 with
    | cons r3 r4=>cases r4;exact ⟨_,_,rfl,r1,r3⟩
theorem call_abs:CallR X (.builtin "abs") (fun xs H Q=>∃i,xs=[.int i]∧Q (.int (if i<0 then -i else i)) H):=by
  intro pins s σ H xs us Q I r h
  obtain ⟨i,rfl,q⟩:=h
  obtain ⟨u,rfl,t,rfl⟩:=vals1 r
  exact call_abs_int fun u tk=>⟨.int (if i<0 then -i else i),H,I.tok _,⟨_,rfl⟩,q⟩
theorem call_max2 (hc:X.calm=true):CallR X (.builtin "max") (fun xs H Q=>∃i j,xs=[.int i,.int j]∧Q (.int (if j > i then j else i)) H):=by
  intro pins s σ H xs us Q I r h
  obtain ⟨i,j,rfl,q⟩:=h
  obtain ⟨u,w',rfl,⟨t,rfl⟩,⟨t',rfl⟩⟩:=vals2 r
  refine max_two_ints (I.ok.hd hc) fun h' tk k=>⟨_,H,I.kept k,?_,q⟩
  by_cases hj:j > i
  ·rw [if_pos hj,if_pos hj];exact ⟨_,rfl⟩
  ·rw [if_neg hj,if_neg hj];exact ⟨_,rfl⟩
theorem call_min2 (hc:X.calm=true):CallR X (.builtin "min") (fun xs H Q=>∃i j,xs=[.int i,.int j]∧Q (.int (if j<i then j else i)) H):=by
  intro pins s σ H xs us Q I r h
  obtain ⟨i,j,rfl,q⟩:=h
  obtain ⟨u,w',rfl,⟨t,rfl⟩,⟨t',rfl⟩⟩:=vals2 r
  refine min_two_ints (I.ok.hd hc) fun h' tk k=>⟨_,H,I.kept k,?_,q⟩
  by_cases hj:j<i
  ·rw [if_pos hj,if_pos hj];exact ⟨_,rfl⟩
  ·rw [if_neg hj,if_neg hj];exact ⟨_,rfl⟩
theorem call_int1:CallR X (.type "int") (fun xs H Q=>(∃i,xs=[.int i]∧Q (.int i) H)∨∃k,xs=[.bl k]∧Q (.int (if k then 1 else 0)) H):=by
  intro pins s σ H xs us Q I r h
  rcases h with ⟨i,rfl,q⟩ | ⟨k,rfl,q⟩
  · obtain ⟨u,rfl,t,rfl⟩:=vals1 r
    exact call_int_int ⟨.int i,H,I,⟨_,rfl⟩,q⟩
  · obtain ⟨u,rfl,r1⟩:=vals1 r
    cases r1
    exact call_int_bool ⟨.int (if k then 1 else 0),H,I.tok _,⟨_,rfl⟩,q⟩
theorem call_divmod:CallR X (.builtin "divmod") (fun xs H Q=>∃i j,xs=[.int i,.int j]∧CDiv i j∧∀p,H p=none→Q (.ref p) (upd H p (.tup [.int (i / j),.int (i % j)]))):=by
  intro pins s σ H xs us Q I r h
  obtain ⟨i,j,rfl,⟨h1,h2⟩,q⟩:=h
  obtain ⟨u,w',rfl,⟨t,rfl⟩,⟨t',rfl⟩⟩:=vals2 r
  refine divmod_int (by omega) ?_ (.inl (PyProof.noPylong_small (by omega)))
  rw [Int.fdiv_eq_ediv_of_nonneg i (by omega),Int.fmod_eq_emod_of_nonneg i (by omega)]
  have hn:H s.heap.objs.size=none:=I.hok.fresh (Nat.le_refl _)
  refine ⟨.ref s.heap.objs.size,_,?_,rfl,q _ hn⟩
  refine I.laid (fun b o e=>Heap.get?_push_of_some _ e) (Nat.le_refl _) ⟨by simp only [List.length_cons,List.length_nil];rw [sizeLine_eq];decide,[.int (i / j) s.toks,.int (i % j) (s.toks+1)],.cons ⟨_,rfl⟩ (.cons ⟨_,rfl⟩ .nil),?_⟩
  exact ⟨_,Heap.get?_push_size s.heap rfl,rfl,0,rfl⟩
end
structure ObjM (h:Heap) (x dx C:Addr) (mA:Str→Option Value):Prop where
  obj:h.get? x=some (PySem.W.instObj C dx)
  ns:h.Ns1 dx mA
  ne:dx≠x
theorem lookIn_ns {h:Heap} {dx:Addr} {mA:Str→Option Value} (n:h.Ns1 dx mA):∃od,h.get? dx=some od∧∀name,PySem.W.lookIn name od=some (mA name):=by
  obtain ⟨o,es,ep,ho,hd,hk,_,hm⟩:=n
  refine ⟨o,ho,fun name=>?_⟩
  have e:=hm name
  unfold nsFind findBy at e
  rw [← Array.find?_toList] at e
  unfold PySem.W.lookIn
  rw [hd]
  dsimp only
  split
  · rename_i y q
    rw [q] at e
    exact congrArg some e
  · rename_i q
    rw [q] at e
    have a:es.toList.any (·.refKey)=false:=by
      rw [List.any_eq_false]
      intro y hy
      obtain ⟨z,t,hkey⟩:=hk y (Array.mem_toList_iff.mp hy)
      simp [DictEntry.refKey,hkey]
    have a':¬es.toList.any (·.refKey)=true:=by rw [a];exact Bool.false_ne_true
    rw [if_neg a']
    exact congrArg some e
theorem ObjM.look {h:Heap} {x dx C:Addr} {mA:Str→Option Value} (I:ObjM h x dx C mA):∃od,PySem.W.InstAt h x (PySem.W.instObj C dx) C (some od)∧∀name,PySem.W.lookIn name od=some (mA name):=
  let ⟨od,ho,hl⟩:=lookIn_ns I.ns
  ⟨od,⟨I.obj,rfl,rfl,ho⟩,hl⟩
section
variable {prog:Program} {w:World} {A:Around} {E:Value→Shared→Prop} {s:Shared} {K:PySem.W.Frag} {x dx C f:Addr} {mA:Str→Option Value} {name:Str} {v:Value}
theorem get_map {expr:Bool} {Q:Value→Shared→Prop} (X:K.In s.heap) (I:ObjM s.heap x dx C mA) (hg:PySem.W.plainGet K C name=true) (hh:PySem.W.hasDictIn K C=true)
    (ha:PySem.W.findIn K (.ref C) name=some none) (hv:mA name=some v) (hv':PySem.W.handedIn v=true) (h:Q v {s with toks:=s.toks+1}) :
    wpAny (model prog w) A (getAttr (.ref x) name expr) Q E s:=by
  obtain ⟨od,J,hl⟩:=I.look
  exact PySem.W.get_value X J (PySem.W.plainGet_of hg).1 (PySem.W.findObj_own hh ha rfl (by rw [hl,hv])) hv' h
theorem get_meth {pl:Sem Bool} {Q:Value×List Value→Shared→Prop} (X:K.In s.heap) (I:ObjM s.heap x dx C mA) (hg:PySem.W.plainGet K C name=true)
    (hf:PySem.W.findIn K (.ref C) name=some (some (.ref f))) (ht:PySem.W.isFn K (.ref f)=true) (hv:mA name=none) (h:Q (.ref f,[.ref x]) s) :
    wpAny (model prog w) A (getMethod (.ref x) name pl) Q E s:=by
  obtain ⟨od,J,hl⟩:=I.look
  exact PySem.W.method_fn X J (PySem.W.plainGet_of hg).1 (PySem.W.plainGet_of hg).2 hf (beq_iff_eq.mp ht) (by show (PySem.W.lookIn name od).map (·.isSome)=some false;rw [hl,hv];rfl) h
theorem set_map {ns:List Str} {Q:Unit→Shared→Prop} (X:K.In s.heap) (I:ObjM s.heap x dx C mA)
    (hs:PySem.W.findIn K (.ref C) "__setattr__" = some (some (.builtin "object.__setattr__"))) (hp:PySem.W.plainOver K C=true) (ht:PySem.W.takerIn K C name=some none) (hh:PySem.W.hasDictIn K C=true)
    (hw:PySem.Within mA ns) (hsz:ns.length≤sizeLine)
    (h:∀h',ObjM h' x dx C (fun y=>if y=name then some v else mA y)→Heap.SameBut dx s.heap h'→Q () {s with heap:=h',toks:=s.toks+2}) :
    wpAny (model prog w) A (setAttr (.ref x) name v) Q E s:=by
  obtain ⟨od,J,hl⟩:=I.look
  refine PySem.W.set_plain X J hs (PySem.W.osa_open (s:={s with toks:=s.toks+1}) (r:=none) X J hp ht fun b=>?_)
  obtain ⟨cd,hc,hd'⟩:=PySem.W.any_some hh
  have hx:s.heap.get? x=some ⟨.ref C,some dx,.plain,#[]⟩:=I.obj
  refine wpAny_bind (wpAny_pure (wpAny_bind (wpAny_bind (wpAny_loadPart hx (wpAny_bind (PySem.W.Looks.here (s:={s with toks:=s.toks+1}) (PySem.W.looks_clsIn X hc) ?_))))))
  rw [hd']
  refine wpAny_pure (a:=some dx) (wpAny_bind (wpAny_pure (wpAny_bind ?_)))
  refine wpAny_nsSet1 (s:={s with toks:=s.toks+1}) I.ns fun h' hn2 hs2=>?_
  obtain ⟨oD,esD,epD,hoD,hdD,hcD⟩:=hn2.count (PySem.Within.cons name v hw)
  refine wpAny_bind (wpAny_lookBehind hoD (by rw [hdD];exact pastItsLine_dict (Nat.le_trans hcD (by rw [List.length_cons];omega))) ?_)
  exact wpAny_pure (h _ ⟨(hs2.2 _ (Ne.symm I.ne)).trans I.obj,hn2,I.ne⟩ hs2)
theorem make_map {R:Result→Shared→Prop} {vs:List Value} {kw:List (Str×Value)} (X:K.In s.heap) (hm:PySem.W.makesIn K C=true)
    (hi:PySem.W.findIn K (.ref C) "__init__" = some (some (.ref f))) (hf:PySem.W.typeIn K (.ref f)=some (.type "function"))
    (h:codeAny (model prog w) (A.under (.builtin "type.__call__" ⟨.ref C::vs,kw⟩)) (.call (.ref f) ⟨.ref (s.heap.objs.size+1)::vs,kw⟩) (PySem.W.InitBack (s.heap.objs.size+1) R)
      {s with heap:=(s.heap.push PySem.W.emptyDict).push (PySem.W.instObj C s.heap.objs.size)}) :
    codeAny (model prog w) A (.call (.ref C) ⟨vs,kw⟩) R s:=by
  obtain ⟨hh,g,d,t,os⟩:=s
  exact PySem.W.make_core (PySem.W.makes_of X hm) (PySem.W.looks_findIn X hi) (fun self=>PySem.W.bind_fn X self hf) (.inl rfl) h
end
def putF (f:Str) (v:V):List (Str×V)→List (Str×V)
  | []=>[(f,v)]
  | (g,x)::r=>if g=f then (g,v)::r else (g,x)::putF f v r
theorem lookup_putF (f g:Str) (v:V):∀fs:List (Str×V),(putF f v fs).lookup g=if g=f then some v else fs.lookup g
  | []=>by
    show List.lookup g [(f,v)]=_
    by_cases h:g=f
    · have hb:(g == f)=true:=beq_iff_eq.mpr h
      simp only [List.lookup,hb,if_pos h]
    · have hb:(g == f)=false:=beq_eq_false_iff_ne.mpr h
      simp only [List.lookup,hb,if_neg h]
  | (k,x)::r=>by
    have ih:=lookup_putF f g v r
    rw [show putF f v ((k,x)::r)=(if k=f then (k,v)::r else (k,x)::putF f v r) from rfl]
    by_cases hk:k=f
    · rw [if_pos hk]
      by_cases h:g=k
      · have hb:(g == k)=true:=beq_iff_eq.mpr h
        simp only [List.lookup,hb,if_pos (h.trans hk)]
      · have hb:(g == k)=false:=beq_eq_false_iff_ne.mpr h
        simp only [List.lookup,hb,if_neg (fun e:g=f=>h (e.trans hk.symm))]
    · rw [if_neg hk]
      by_cases h:g=k
      · have hb:(g == k)=true:=beq_iff_eq.mpr h
        simp only [List.lookup,hb,if_neg (fun e:g=f=>hk (h.symm.trans e))]
      · have hb:(g == k)=false:=beq_eq_false_iff_ne.mpr h
        simp only [List.lookup,hb]
        exact ih
theorem keys_putF (f:Str) (v:V):∀fs:List (Str×V),f∈(putF f v fs).map (·.1)∧∀g,g∈fs.map (·.1)→g∈(putF f v fs).map (·.1)
  | []=>⟨by simp [putF],fun g h=>by simp at h⟩
  | (k,x)::r=>by
    obtain ⟨i1,i2⟩:=keys_putF f v r
    rw [show putF f v ((k,x)::r)=(if k=f then (k,v)::r else (k,x)::putF f v r) from rfl]
    by_cases hk:k=f
    · rw [if_pos hk]
      subst hk
      exact ⟨by simp,fun g h=>by simpa using h⟩
    · rw [if_neg hk]
      refine ⟨?_,fun g h=>?_⟩
      · rw [List.map_cons]
        exact List.mem_cons_of_mem _ i1
      · rw [List.map_cons] at h ⊢
        rcases List.mem_cons.mp h with e | e
        ·exact List.mem_cons.mpr (.inl e)
        ·exact List.mem_cons_of_mem _ (i2 g e)
theorem length_putF (f:Str) (v:V):∀fs:List (Str×V),(putF f v fs).length≤fs.length+1
  | []=>by simp [putF]
  | (k,x)::r=>by
    have ih:=length_putF f v r
    rw [show putF f v ((k,x)::r)=(if k=f then (k,v)::r else (k,x)::putF f v r) from rfl]
    by_cases hk:k=f
    ·rw [if_pos hk,List.length_cons,List.length_cons];omega
    ·rw [if_neg hk,List.length_cons,List.length_cons];omega
theorem RelO.some_of {v:V} {o:Option Value} (r:RelO (some v) o):∃u,o=some u∧RelV v u:=by
  cases o with
  | none=>exact (show False from r).elim
  | some u=>exact ⟨u,rfl,r⟩
theorem RelO.none_of {o:Option Value} (r:RelO none o):o=none:=by
  cases o with
  | none=>rfl
  | some u=>exact (show False from r).elim
theorem handed_of {v:V} {u:Value} (r:RelV v u):PySem.W.handedIn u=true:=by
  cases v with
  | non=>cases (show u=Value.none from r);rfl
  | bl b=>cases (show u=Value.bool b from r);rfl
  | int i=>obtain ⟨t,e⟩:=(show ∃t,u=Value.int i t from r);cases e;rfl
  | str x=>obtain ⟨t,e⟩:=(show ∃t,u=Value.str x t from r);cases e;rfl
  | byt b=>obtain ⟨t,e⟩:=(show ∃t,u=Value.bytes b t from r);cases e;rfl
  | flt b=>obtain ⟨t,e⟩:=(show ∃t,u=Value.float b t from r);cases e;rfl
  | ref a=>cases (show u=Value.ref a from r);rfl
  | ty n=>cases (show u=Value.type n from r);rfl
section
variable {P:Program} {w:World} {H H':Hp} {h h':Heap} {a C dx:Addr} {fs fs':List (Str×V)}
theorem ins_get (hok:HOk P w H h) (e:H a=some (.ins C dx fs)):∃mA,ObjM h a dx C mA∧(∀f,RelO (fs.lookup f) (mA f))∧PySem.Within mA (fs.map (·.1))∧fs.length≤1000∧H dx=some (.own a):=by
  obtain ⟨d,z,ne,ob,mA,n,r,q⟩:=(show ObjOk P w H h a (.ins C dx fs) from hok a _ e)
  exact ⟨mA,⟨ob,n,ne⟩,r,q,z,d⟩
end
structure Cls (K:PySem.W.Frag) (C:Addr):Prop where
  pg:PySem.W.plainGet K C Str.empty=true
  hd:PySem.W.hasDictIn K C=true
  po:PySem.W.plainOver K C=true
  sa:PySem.W.findIn K (.ref C) "__setattr__" = some (some (.builtin "object.__setattr__"))
theorem Cls.get {K:PySem.W.Frag} {C:Addr} (c:Cls K C) (f:Str):PySem.W.plainGet K C f=true:=c.pg
def NoAttr (K:PySem.W.Frag) (C:Addr) (f:Str):Prop:=PySem.W.findIn K (.ref C) f=some none
theorem NoAttr.taker {K:PySem.W.Frag} {C:Addr} {f:Str} (n:NoAttr K C f):PySem.W.takerIn K C f=some none:=by
  unfold PySem.W.takerIn
  rw [show PySem.W.findIn K (.ref C) f=some none from n]
  rfl
structure Meth (K:PySem.W.Frag) (C:Addr) (m:Str) (f:Addr):Prop where
  at_:PySem.W.findIn K (.ref C) m=some (some (.ref f))
  fn:PySem.W.isFn K (.ref f)=true
  kp:PySem.W.keepIn K (.ref f)=true
section
variable {X:Cx} {pins:List (Addr×Obj)} {σ:St} {H:Hp} {s:Shared} {a C dx:Addr} {fs:List (Str×V)} {f:Str} {v:V} {A:Around} {E:Value→Shared→Prop}
theorem getattr_ok {b:Bool} {Q:Value→Shared→Prop} (I:Inv X pins σ H s) (e:H a=some (.ins C dx fs)) (c:Cls X.K C) (n:NoAttr X.K C f) (l:fs.lookup f=some v)
    (h:∀u s',Inv X pins σ H s'→RelV v u→Q u s'):wpAny (model X.prog X.w) A (getAttr (.ref a) f b) Q E s:=by
  obtain ⟨mA,O,r,_,_,_⟩:=ins_get I.hok e
  obtain ⟨u,hu,ru⟩:=RelO.some_of (v:=v) (o:=mA f) (by rw [← l];exact r f)
  exact get_map I.kIn O (c.get f) c.hd n hu (handed_of ru) (h u _ (I.tok _) ru)
theorem getmeth_ok {m:Str} {g:Addr} {pl:Sem Bool} {Q:Value×List Value→Shared→Prop} (I:Inv X pins σ H s) (e:H a=some (.ins C dx fs)) (c:Cls X.K C) (k:Meth X.K C m g) (l:fs.lookup m=none)
    (h:Q (.ref g,[.ref a]) s):wpAny (model X.prog X.w) A (getMethod (.ref a) m pl) Q E s:=by
  obtain ⟨mA,O,r,_,_,_⟩:=ins_get I.hok e
  have hn:mA m=none:=RelO.none_of (by rw [← l];exact r m)
  exact get_meth I.kIn O (c.get m) k.at_ k.fn hn h
theorem setattr_ok {y:V} {u:Value} {Q:Unit→Shared→Prop} (I:Inv X pins σ H s) (e:H a=some (.ins C dx fs)) (c:Cls X.K C) (n:NoAttr X.K C f) (hl:fs.length<1000) (ry:RelV y u)
    (h:∀s',Inv X pins σ (upd H a (.ins C dx (putF f y fs))) s'→Q () s'):wpAny (model X.prog X.w) A (setAttr (.ref a) f u) Q E s:=by
  obtain ⟨mA,O,r,wi,_,ho⟩:=ins_get I.hok e
  have hz:(fs.map (·.1)).length≤sizeLine:=by rw [List.length_map,sizeLine_eq];omega
  refine set_map I.kIn O c.sa c.po n.taker c.hd wi hz fun h' O' sb=>h _ ?_
  have hd:∃o,h'.get? dx=some o:=let ⟨o,_,_,e',_⟩:=O'.ns;⟨o,e'⟩
  refine I.write (x:=a) (e:=dx) (by rw [e];exact True.intro) (.inr ho) (fun b q hb z=>(sb.2 b hb).trans z) hd ?_
  refine ⟨by rw [upd_ne O.ne];exact ho,?_,O.ne,O'.obj,_,O'.ns,fun g=>?_,fun g hg=>?_⟩
  ·have:=length_putF f y fs;omega
  · show RelO ((putF f y fs).lookup g) (if g=f then some u else mA g)
    rw [lookup_putF]
    by_cases q:g=f
    ·rw [if_pos q,if_pos q];exact ry
    ·rw [if_neg q,if_neg q];exact r g
  · by_cases q:g=f
    ·rw [q];exact (keys_putF f y fs).1
    · refine (keys_putF f y fs).2 g (wi g fun z=>hg ?_)
      show (if g=f then some u else mA g)=none
      rw [if_neg q];exact z
theorem Inv.made (I:Inv X pins σ H s):Inv X pins σ (upd (upd H s.heap.objs.size (.own (s.heap.objs.size+1))) (s.heap.objs.size+1) (.ins C s.heap.objs.size []))
    {s with heap:=(s.heap.push PySem.W.emptyDict).push (PySem.W.instObj C s.heap.objs.size)}:=by
  have e1:(s.heap.push PySem.W.emptyDict).get? s.heap.objs.size=some PySem.W.emptyDict:=Heap.get?_push_size s.heap rfl
  have e2:((s.heap.push PySem.W.emptyDict).push (PySem.W.instObj C s.heap.objs.size)).get? (s.heap.objs.size+1)=some (PySem.W.instObj C s.heap.objs.size):=by
    have:=Heap.get?_push_size (s.heap.push PySem.W.emptyDict) (o:=PySem.W.instObj C s.heap.objs.size) rfl
    rwa [Heap.size_push] at this
  have e3:(s.heap.push PySem.W.emptyDict).Ns s.heap.objs.size (fun _=>none):=⟨PySem.W.emptyDict,#[],_,e1,rfl,(fun e he=>absurd he (by simp)),fun _=>rfl⟩
  have I1:=I.laid (a:=s.heap.objs.size) (o:=.own (s.heap.objs.size+1)) (h':=s.heap.push PySem.W.emptyDict) (t':=s.toks) (fun b u q=>Heap.get?_push_of_some _ q) (Nat.le_refl _) ⟨_,e1⟩
  refine I1.laid (a:=s.heap.objs.size+1) (o:=.ins C s.heap.objs.size []) (t':=s.toks) (fun b u q=>Heap.get?_push_of_some _ q) (Nat.le_of_eq (Heap.size_push _ _)) ?_
  have ne:s.heap.objs.size≠s.heap.objs.size+1:=Nat.ne_of_lt (Nat.lt_succ_self _)
  refine ⟨by rw [upd_ne ne,upd_same],Nat.zero_le _,ne,e2,fun _=>none,(Heap.Ns1.of_empty e3).at fun o q=>Heap.get?_push_of_some _ q,fun _=>True.intro,fun y hy=>absurd rfl hy⟩
theorem attr_of {prog:Program} {w:World} {env:Env} {e:Expr} {f:Str} {pos:Pos} {s:Shared} {Q:Value→Shared→Prop} (hb:attributeBase e f env (eval e env)=eval e env)
    (h:wpAny (model prog w) A (eval e env) (fun o s₁=>wpAny (model prog w) A (getAttr o f true) Q E s₁) E s):wpAny (model prog w) A (eval (.Attribute e f pos) env) Q E s:=
  Attribute_any_ h (by rw [arm_eval_Attribute,hb])
end
def tFld (K:PySem.W.Frag) (ta:TE) (f:Str):TE:=fun σ H Q=>ta σ H fun x H1=>∃a C dx fs v,x = .ref a∧H1 a=some (.ins C dx fs)∧Cls K C∧NoAttr K C f∧fs.lookup f=some v∧Q v H1
def sFld (K:PySem.W.Frag) (ta tv:TE) (f:Str):TS:=fun D σ H=>tv σ H fun y H1=>ta σ H1 fun x H2=>∃a C dx fs,x = .ref a∧H2 a=some (.ins C dx fs)∧Cls K C∧NoAttr K C f∧fs.length<1000∧
  D.nx σ (upd H2 a (.ins C dx (putF f y fs)))
section
variable {X:Cx} {o e value:Expr} {f:Str} {pos pos' tpos:Pos} {ta tv:TE}
theorem pe_fld (he:PE X e ta) (hb:attributeBase e f X.env (eval e X.env)=eval e X.env):PE X (.Attribute e f pos) (tFld X.K ta f):=by
  intro pins s σ H Q I h
  refine attr_of hb (thn (he pins s σ H _ I h) fun u s1 zz=>?_)
  obtain ⟨x,H1,I1,rx,a,C,dx,fs,v,ex,ea,c,n,l,q⟩:=zz
  subst ex
  obtain rfl:u=Value.ref a:=rx
  exact getattr_ok I1 ea c n l fun u' s2 I2 ru=>⟨v,H1,I2,ru,q⟩
theorem ps_fld (ha:PE X o ta) (hv:PE X value tv) (hs:swapsWith value (some (.Attribute o f pos')) pos.line X.env=pure false):PS X (.Assign [.Attribute o f pos'] value pos) (sFld X.K ta tv f):=by
  intro pins s σ H D I h
  refine plainObj_wpAny_Assign_Attribute (thn (hv pins s σ H _ I h) fun u s1 ⟨y,H1,I1,ry,q⟩=>thn (ha pins s1 σ H1 _ I1 q) fun ov s2 ⟨x,H2,I2,rx,a,C,dx,fs,ex,ea,c,n,l,q2⟩=>?_) hs
  subst ex
  obtain rfl:ov=Value.ref a:=rx
  exact setattr_ok I2 ea c n l ry fun s3 I3=>⟨σ,_,I3,q2⟩
end
section
variable {X:Cx} {pins:List (Addr×Obj)} {σ:St} {H:Hp} {s:Shared} {A:Around} {E:Value→Shared→Prop} {Q:Value→Shared→Prop} {c:Value} {b:Bool}
inductive TyOf (K:PySem.W.Frag) (H:Hp):V→Value→Prop where
  | non:TyOf K H .non (.type "NoneType")
  | bl (x:Bool):TyOf K H (.bl x) (.type "bool")
  | int (i:Int):TyOf K H (.int i) (.type "int")
  | str (x:Str):TyOf K H (.str x) (.type "str")
  | flt (x:UInt64):TyOf K H (.flt x) (.type "float")
  | lst {a:Addr} {xs:List V} (e:H a=some (.lst xs)):TyOf K H (.ref a) (.type "list")
  | frz {a:Addr} {o:Obj} {xs:List V} (e:H a=some (.frz o (.lst xs))):TyOf K H (.ref a) (.type "list")
  | tup {a:Addr} {xs:List V} (e:H a=some (.tup xs)):TyOf K H (.ref a) (.type "tuple")
  | dK {a:Addr} {kvs:List (Key×V)} (e:H a=some (.dK kvs)):TyOf K H (.ref a) (.type "dict")
  | dT {a:Addr} {kvs:List (List Key×V)} (e:H a=some (.dT kvs)):TyOf K H (.ref a) (.type "dict")
  | ins {a C dx:Addr} {fs:List (Str×V)} (e:H a=some (.ins C dx fs)) (cl:Cls K C) (ha:PySem.W.findIn K (.ref C) "__class__" = some (some (.builtin "object.__class__")))
      (hn:PySem.W.specialIn K (.builtin "object.__class__") "__get__" = some (some (.builtin "getset_descriptor.__get__"))) (htk:PySem.W.takesIn K (.builtin "object.__class__")=some true)
      (hm:PySem.W.mroIn K C (.type "object")=some true):TyOf K H (.ref a) (.ref C)
theorem isinst_ok {x:V} {u t:Value} (I:Inv X pins σ H s) (rx:RelV x u) (ty:TyOf X.K H x t) (e:PySem.W.kitOne X.K t c=some b) (h:∀tk,Q (.bool b) {s with toks:=tk}) :
    wpAny (model X.prog X.w) A (call (.builtin "isinstance") [u,c]) Q E s:=by
  cases ty with
  | non=>cases (show u=Value.none from rx);exact PySem.W.kia_one PySem.W.kitx_none I.kIn True.intro e (fun z=>nomatch z) h
  | bl y=>cases (show u=Value.bool y from rx);exact PySem.W.kia_one PySem.W.kitx_bool I.kIn True.intro e (fun z=>nomatch z) h
  | int i=>obtain ⟨t,q⟩:=(show ∃t,u=Value.int i t from rx);cases q;exact PySem.W.kia_one PySem.W.kitx_int I.kIn True.intro e (fun z=>nomatch z) h
  | str y=>obtain ⟨t,q⟩:=(show ∃t,u=Value.str y t from rx);cases q;exact PySem.W.kia_one PySem.W.kitx_str I.kIn True.intro e (fun z=>nomatch z) h
  | flt y=>obtain ⟨t,q⟩:=(show ∃t,u=Value.float y t from rx);cases q;exact PySem.W.kia_one PySem.W.kitx_float I.kIn True.intro e (fun z=>nomatch z) h
  | @lst a xs ea=>
    cases (show u=Value.ref a from rx)
    obtain ⟨_,_,n,_,h1⟩:=(show ObjOk X.prog X.w H s.heap a (.lst xs) from I.hok a _ ea)
    exact PySem.W.kia_one PySem.W.kitx_list I.kIn ⟨_,h1,rfl⟩ e (fun z=>nomatch z) h
  | @frz a ob xs ea=>
    cases (show u=Value.ref a from rx)
    obtain ⟨_,_,_,n,_,h1⟩:=(show ObjOk X.prog X.w H s.heap a (.frz ob (.lst xs)) from I.hok a _ ea)
    exact PySem.W.kia_one PySem.W.kitx_list I.kIn ⟨_,h1,rfl⟩ e (fun z=>nomatch z) h
  | @tup a xs ea=>
    cases (show u=Value.ref a from rx)
    obtain ⟨_,_,_,p⟩:=(show ObjOk X.prog X.w H s.heap a (.tup xs) from I.hok a _ ea)
    obtain ⟨o,h1,h2,_⟩:=p
    exact PySem.W.kia_one PySem.W.kitx_tuple I.kIn ⟨o,h1,h2⟩ e (fun z=>nomatch z) h
  | @dK a kvs ea=>
    cases (show u=Value.ref a from rx)
    obtain ⟨_,_,vs,_,p⟩:=(show ObjOk X.prog X.w H s.heap a (.dK kvs) from I.hok a _ ea)
    obtain ⟨o,es,ep,h1,h2,_⟩:=p
    exact PySem.W.kia_one PySem.W.kitx_dict I.kIn ⟨o,h1,h2.1⟩ e (fun z=>nomatch z) h
  | @dT a kvs ea=>
    cases (show u=Value.ref a from rx)
    obtain ⟨_,_,xs,_,o,es,ep,h1,h2,_⟩:=(show ObjOk X.prog X.w H s.heap a (.dT kvs) from I.hok a _ ea)
    exact PySem.W.kia_one PySem.W.kitx_dict I.kIn ⟨o,h1,h2.1⟩ e (fun z=>nomatch z) h
  | @ins a C dx fs ea cl ha hn htk hm=>
    cases (show u=Value.ref a from rx)
    obtain ⟨mA,O,_⟩:=ins_get I.hok ea
    obtain ⟨od,J,_⟩:=O.look
    exact PySem.W.kia_one (PySem.W.kitx_own (cl.get _) cl.hd ha hn htk hm) I.kIn J e (fun z=>nomatch z) h
end
structure Room (k:Nat) (A:Around):Prop where
  hd:A.handled=none
  dp:A.depth+3 * k+5<recursionLimit
  un:A.units+16 * k+200<cLine
  gd:A.guards=some []
theorem Room.mono {j k:Nat} {A:Around} (r:Room k A) (h:j≤k):Room j A:=⟨r.hd,by have:=r.dp;omega,by have:=r.un;omega,r.gd⟩
theorem Room.deeper {k:Nat} {A:Around} (r:Room (k+1) A) (env:Env):Room k (A.deeper env):=
  ⟨r.hd,by have:=r.dp;show A.depth+1+3 * k+5<_;omega,by have:=r.un;show A.units+3+16 * k+200<_;omega,r.gd⟩
theorem make_depth {A:Around} {C:Addr} {us:List Value} {kw:List (Str×Value)}:(A.under (.builtin "type.__call__" ⟨.ref C::us,kw⟩)).depth=A.depth+1:=by
  first | rfl | simp [Around.under,Code.weight,Code.isCreation,Code.isGuard,Code.isCaller,Code.frames,Code.isFrame,guardIds]
theorem make_units {A:Around} {C:Addr} {us:List Value} {kw:List (Str×Value)}:(A.under (.builtin "type.__call__" ⟨.ref C::us,kw⟩)).units=A.units+1:=by
  first | rfl | simp [Around.under,Code.cUnits,Code.frames,Code.isFrame]
theorem make_guards {A:Around} {C:Addr} {us:List Value} {kw:List (Str×Value)}:(A.under (.builtin "type.__call__" ⟨.ref C::us,kw⟩)).guards=A.guards:=by
  first | rfl | simp [Around.under,Code.isGuard,guardIds]
theorem Room.make {k:Nat} {A:Around} (r:Room (k+1) A) (C:Addr) (us:List Value) (kw:List (Str×Value)):Room k (A.under (.builtin "type.__call__" ⟨.ref C::us,kw⟩)):=
  ⟨r.hd,by have:=r.dp;rw [make_depth];omega,by have:=r.un;rw [make_units];omega,by rw [make_guards];exact r.gd⟩
theorem Room.depth {k:Nat} {A:Around} (r:Room k A):A.depth<recursionLimit:=by have:=r.dp;omega
theorem Room.units {k:Nat} {A:Around} (r:Room k A):A.units+64<cLine:=by have:=r.un;omega
def tNil:TA:=fun _ H Q=>Q [] H
def tCons (ta:TE) (tr:TA):TA:=fun σ H Q=>ta σ H fun x H1=>tr σ H1 fun xs H2=>Q (x::xs) H2
section
variable {X:Cx} {e:Expr} {es:List Expr} {te:TE} {t:TA} {pos:Pos}
theorem pa_nil:PA X [] tNil:=fun _ _ _ _ H Q I h=>Calls.spliced_nil ⟨[],H,I,.nil,h⟩
theorem pa_cons (ha:PE X e te) (hr:PA X es t) (hs:starEach (e::es) X.env=(false,eval e X.env)::starEach es X.env:=by rfl):PA X (e::es) (tCons te t):=by
  intro pos pins s σ H Q I h
  rw [hs]
  show wpAny _ _ (spliced ((false,eval e X.env)::backTo pos (starEach es X.env))) _ _ s
  refine Calls.spliced_cons (thn (ha pins s σ H _ I h) fun u s1 zz=>?_)
  obtain ⟨x,H1,I1,r1,q1⟩:=zz
  refine thn (hr pos pins s1 σ H1 _ I1 q1) fun us s2 zz=>?_
  obtain ⟨xs,H2,I2,r2,q2⟩:=zz
  exact ⟨x::xs,H2,I2,.cons r1 r2,q2⟩
def tTup (t:TA):TE:=fun σ H Q=>t σ H fun xs H1=>xs.length≤sizeLine∧∀p,H1 p=none→Q (.ref p) (upd H1 p (.tup xs))
def tLst (t:TA):TE:=fun σ H Q=>t σ H fun xs H1=>xs.length≤sizeLine∧∀p,H1 p=none→Q (.ref p) (upd H1 p (.lst xs))
theorem pe_tup {x1} (h:PA X es t):PE X (.Tuple es x1 pos) (tTup t):=by
  intro pins s σ H Q I hq
  refine wpAny_Tuple_spliced (thn (h pos pins s σ H _ I hq) fun us s1 zz=>?_)
  obtain ⟨xs,H1,I1,r,z,q⟩:=zz
  refine ⟨by rw [← r.length];exact z,?_⟩
  have hf:H1 s1.heap.objs.size=none:=I1.hok.fresh (Nat.le_refl _)
  refine ⟨.ref s1.heap.objs.size,upd H1 s1.heap.objs.size (.tup xs),I1.laid (t':=s1.toks) (fun b u e=>Heap.get?_push_of_some _ e) (Nat.le_refl _) ?_,rfl,q _ hf⟩
  exact ⟨z,us,r,⟨_,Heap.get?_push_size _ rfl,rfl,_,rfl⟩⟩
theorem pe_lst (h:PA X es t):PE X (.List es pos) (tLst t):=by
  intro pins s σ H Q I hq
  refine wpAny_List_spliced (thn (h pos pins s σ H _ I hq) fun us s1 zz=>?_)
  obtain ⟨xs,H1,I1,r,z,q⟩:=zz
  refine ⟨by rw [← r.length];exact z,?_⟩
  have hf:H1 s1.heap.objs.size=none:=I1.hok.fresh (Nat.le_refl _)
  refine ⟨.ref s1.heap.objs.size,upd H1 s1.heap.objs.size (.lst xs),I1.laid (t':=s1.toks) (fun b u e=>Heap.get?_push_of_some _ e) (Nat.le_refl _) ?_,rfl,q _ hf⟩
  exact ⟨z,us,0,r,Heap.get?_push_size _ rfl⟩
end
abbrev Sp:=List V→Hp→VK→XK→Prop
abbrev CXT:=List Env→Hp→Shared→XK→Value→Shared→Prop
structure Env0 (P:Program) (w:World) (K:PySem.W.Frag) (mg:Str→Option Value) (base:Heap) (A:Around) (outer:List Env) (s:Shared) (H:Hp):Prop where
  frames:A.frames=some outer
  mod:Mod K mg base
  bs:∀b o,base.get? b=some o→s.heap.get? b=some o∧H b=none
  bsz:base.objs.size≤s.heap.objs.size
  funs:s.heap.FunFrames base outer
  frf:∀b∈frs outer,H b=none
  hok:HOk P w H s.heap
  bare:AllBare s.gens
def CE (outer:List Env) (P:Program) (w:World) (H:Hp) (s:Shared) (Q:VK) (u:Value) (s':Shared):Prop:=
  ∃v H',s'.os=s.os∧AllBare s'.gens∧Un (frs outer) [] H H' s.heap s'.heap∧HOk P w H' s'.heap∧RelV v u∧Q v H'
def CR (CX:CXT) (outer:List Env) (P:Program) (w:World) (H:Hp) (s:Shared) (Q:VK) (E:XK) (r:Result) (s':Shared):Prop:=
  match r with
  | .ok (.ret u)=>CE outer P w H s Q u s'
  | .ok _=>False
  | .error e=>CX outer H s E e s'
structure FnOk (P:Program) (w:World) (K:PySem.W.Frag) (mg:Str→Option Value) (base:Heap) (CX:CXT) (k:Nat) (f:Addr) (fd:FuncData) (ps:List Str) (sp:Sp):Prop where
  len:∀vs H Q E,sp vs H Q E→vs.length=ps.length
  run:∀(A:Around) (outer:List Env) (s:Shared) (H:Hp) (args:Args) (us:List Value) (vs:List V) (Q:VK) (E:XK),Room k A→Env0 P w K mg base A outer s H→BindsTo s fd args (ps.zip us)→Vals vs us→sp vs H Q E→
    codeAny (model P w) A (.call (.ref f) args) (CR CX outer P w H s Q E) s
theorem FnOk.imp {P:Program} {w:World} {K:PySem.W.Frag} {mg:Str→Option Value} {base:Heap} {CX:CXT} {k:Nat} {f:Addr} {fd:FuncData} {ps:List Str} {sp sp':Sp} (F:FnOk P w K mg base CX k f fd ps sp)
    (h:∀vs H Q E,sp' vs H Q E→sp vs H Q E):FnOk P w K mg base CX k f fd ps sp':=
  ⟨fun vs H Q E q=>F.len vs H Q E (h _ _ _ _ q),fun A outer s H args us vs Q E hr he hb hv hs=>F.run A outer s H args us vs Q E hr he hb hv (h _ _ _ _ hs)⟩
theorem Env0.make {P:Program} {w:World} {K:PySem.W.Frag} {mg:Str→Option Value} {base:Heap} {A:Around} {outer:List Env} {s:Shared} {H:Hp} (e:Env0 P w K mg base A outer s H) (C:Addr) (us:List Value) (kw:List (Str×Value)) :
    Env0 P w K mg base (A.under (.builtin "type.__call__" ⟨.ref C::us,kw⟩)) outer s H:=⟨by first | exact e.frames | (simpa [Around.under,Code.envs,Code.isFrame,pushEnvs] using e.frames),e.mod,e.bs,e.bsz,e.funs,e.frf,e.hok,e.bare⟩
section
variable {X:Cx} {pins:List (Addr×Obj)} {σ:St} {H:Hp} {s s':Shared}
theorem Inv.env0 (I:Inv X pins σ H s):Env0 X.prog X.w X.K X.mg X.base X.A X.stack s H:=
  ⟨I.ok.frames,I.ok.mod,I.bs,Nat.le_trans I.ok.bsz I.sz,I.stack,I.stkFree,I.hok,I.bare⟩
theorem Inv.after {Q:VK} {u:Value} (I:Inv X pins σ H s) (h:CE X.stack X.prog X.w H s Q u s'):EP X pins σ Q u s':=by
  obtain ⟨v,H',os,bare,un,hok,r,q⟩:=h
  obtain ⟨hh,g,d,t,os'⟩:=s'
  obtain rfl:os'=s.os:=os
  exact ⟨v,H',I.call (h':=hh) (g':=g) (d':=d) (t':=t) (ch:=[]) un hok bare (fun b z=>absurd z (by simp)),r,q⟩
end
def tCall (sp:Sp) (dvs:List V) (E:XK) (t:TA):TE:=fun σ H Q=>t σ H fun vs H1=>sp (vs++dvs) H1 Q E
def tMeth (C:Addr) (m:Str) (sp:Sp) (dvs:List V) (E:XK) (ta:TE) (t:TA):TE:=fun σ H Q=>ta σ H fun x H1=>∃a dx fs,x = .ref a∧H1 a=some (.ins C dx fs)∧fs.lookup m=none∧
  t σ H1 fun vs H2=>sp (x::(vs++dvs)) H2 Q E
def Binds (K:PySem.W.Frag) (fd:FuncData) (ps:List Str) (ds:List Value):Prop:=
  ∀(s:Shared) (us:List Value),K.In s.heap→(us++ds).length=ps.length→BindsTo s fd ⟨us,[]⟩ (ps.zip (us++ds))
theorem Binds.all {K:PySem.W.Frag} {fd:FuncData} {ps:List Str} (h:∀us:List Value,us.length=ps.length→bindArgs fd ⟨us,[]⟩=pure (ps.zip us)):Binds K fd ps []:=fun s us _ hl=>by
  rw [List.append_nil] at hl ⊢
  exact .of_eq (h us hl)
def Passes (CX:CXT) (X:Cx) (E:XK):Prop:=∀(pins:List (Addr×Obj)) (σ:St) (H:Hp) (s:Shared) (e:Value) (s':Shared),Inv X pins σ H s→CX X.stack H s E e s'→X.xe e s'
section
variable {X:Cx} {CX:CXT} {k:Nat} {f C:Addr} {fd:FuncData} {ps:List Str} {sp:Sp} {dvs:List V} {ds:List Value} {E:XK} {x m:Str} {p pos apos:Pos} {e o:Expr} {es:List Expr} {ta:TE} {t:TA}
theorem run_fn {pins:List (Addr×Obj)} {σ:St} {H:Hp} {s:Shared} {Q:VK} {us:List Value} {vs:List V} (F:FnOk X.prog X.w X.K X.mg X.base CX k f fd ps sp) (hr:Room k X.A) (hb:Binds X.K fd ps ds) (hd:Vals dvs ds) (hx:Passes CX X E)
    (I:Inv X pins σ H s) (r:Vals vs us) (h:sp (vs++dvs) H Q E):wpAny (model X.prog X.w) X.A (call (.ref f) us) (EP X pins σ Q) X.xe s:=by
  have r2:Vals (vs++dvs) (us++ds):=r.append hd
  have hl:(us++ds).length=ps.length:=by rw [← r2.length];exact F.len _ _ _ _ h
  refine wpAny_call (codeAny_mono (F.run X.A X.stack s H ⟨us,[]⟩ (us++ds) (vs++dvs) Q E hr I.env0 (hb s us I.kIn hl) r2 h) fun r s' hq=>?_)
  cases r with
  | error e=>exact hx pins σ H s e s' I hq
  | ok fl=>
    cases fl with
    | ret u=>exact I.after hq
    | next=>exact False.elim hq
    | brk=>exact False.elim hq
    | cont=>exact False.elim hq
theorem pe_call (F:FnOk X.prog X.w X.K X.mg X.base CX k f fd ps sp) (hr:Room k X.A) (hg:Gl X x) (hm:X.mg x=some (.ref f)) (hk:PySem.W.keepIn X.K (.ref f)=true) (hb:Binds X.K fd ps ds) (hd:Vals dvs ds) (hx:Passes CX X E)
    (ha:PA X (e::es) t) (hdb:(x == ("__debug__" : Str))=false:=by decide) (he:starEach (e::es) X.env=(false,eval e X.env)::starEach es X.env:=by rfl) (hpl:(backTo pos (starEach es X.env)).any (·.1)=false:=by rfl) :
    PE X (.Call (.Name x p) (e::es) [] pos) (tCall sp dvs E t):=by
  intro pins s σ H Q I h
  refine wpAny_Call_Name_kw (ld_glob I hg hm ?_ hdb)
  refine PySem.W.callWith_K (h₀:=X.base) I.ok.mod.kin hk (thn (ha pos pins s σ H _ I h) fun us s1 zz=>?_) he hpl
  obtain ⟨vs,H1,I1,r,q⟩:=zz
  refine ⟨I1.kIn,?_⟩
  exact run_fn F hr hb hd hx I1 r q
theorem pe_meth0 {pl:Sem Bool} (he:PE X o ta) (c:Cls X.K C) (hm:Meth X.K C m f) (F:FnOk X.prog X.w X.K X.mg X.base CX k f fd ps sp) (hr:Room k X.A) (hb:Binds X.K fd ps ds) (hd:Vals dvs ds) (hx:Passes CX X E)
    (ht:eval (.Call (.Attribute o m apos) [] [] pos) X.env=(do
      let ov ← eval o X.env
      standAt apos.atName
      let (f,first) ← holding [ov] (getMethod ov m pl)
      callWith pos f first (backTo pos (starEach [] X.env)) (backToKw pos (keywordEach [] X.env))):=by rfl) :
    PE X (.Call (.Attribute o m apos) [] [] pos) (tMeth C m sp dvs E ta tNil):=by
  intro pins s σ H Q I h
  refine PySem.W.methodCall_KW (pl:=pl) (thn (he pins s σ H _ I h) fun u s1 zz=>?_) ht
  obtain ⟨x,H1,I1,rx,a,dx,fs,ex,ea,l,q⟩:=zz
  subst ex
  obtain rfl:u=Value.ref a:=rx
  refine getmeth_ok I1 ea c hm l ?_
  exact PySem.W.callWith_K0 (first:=[.ref a]) I1.kIn hm.kp (run_fn (us:=[.ref a]) (vs:=[.ref a]) F hr hb hd hx I1 (.cons rfl .nil) q)
structure Mk (K:PySem.W.Frag) (C f:Addr):Prop where
  makes:PySem.W.makesIn K C=true
  init:PySem.W.findIn K (.ref C) "__init__" = some (some (.ref f))
  fn:PySem.W.isFn K (.ref f)=true
  kp:PySem.W.keepIn K (.ref C)=true
end
structure FnScope (N P:List Str) (sc:Scope):Prop where
  kind:sc.kind = .function
  co:sc.isCoroutine=false
  gen:sc.isGenerator=false
  nd:N.Nodup
  pre:N.take P.length=P
  par:∀x∈P,sc.names.lookup x=some .local∨sc.names.lookup x=some .cell
  nofree:∀y∈sc.names,y.2≠.free
theorem bindL_out {kindOf:Str→Option NameKind} {x:Str}:∀{binds:List (Str×Value)} {m:Str→Option Value},(∀v,(x,v)∉binds)→bindL kindOf binds m x=m x
  | [],_,_=>rfl
  | (n,v)::r,m,h=>by
    unfold bindL
    rw [bindL_out fun w hw=>h w (List.mem_cons_of_mem _ hw)]
    split
    · have:x≠n:=by rintro rfl;exact h v List.mem_cons_self
      simp [this]
    ·rfl
theorem bindC_out {kindOf:Str→Option NameKind} {x:Str}:∀{binds:List (Str×Value)} {m:Str→Option Value},(∀v,(x,v)∉binds)→bindC kindOf binds m x=m x
  | [],_,_=>rfl
  | (n,v)::r,m,h=>by
    unfold bindC
    rw [bindC_out fun w hw=>h w (List.mem_cons_of_mem _ hw)]
    split
    ·rfl
    · have:x≠n:=by rintro rfl;exact h v List.mem_cons_self
      simp [this]
theorem bindL_get {kindOf:Str→Option NameKind} {x:Str} {v:Value}:∀{P:List Str} {vs:List Value} {i:Nat} {m:Str→Option Value},P.Nodup→P[i]? = some x→vs[i]? = some v→kindOf x=some .local→
    bindL kindOf (P.zip vs) m x=some v
  | [],_,_,_,_,h,_,_=>by simp at h
  | _::_,[],_,_,_,_,h,_=>by simp at h
  | p::P,w::vs,0,m,nd,h1,h2,hk=>by
    simp at h1 h2;subst h1;subst h2
    show bindL kindOf ((p,w)::P.zip vs) m p=_
    unfold bindL
    rw [bindL_out fun v hv=>(List.nodup_cons.mp nd).1 (List.of_mem_zip hv).1,if_pos hk]
    simp
  | p::P,w::vs,i+1,m,nd,h1,h2,hk=>by
    show bindL kindOf ((p,w)::P.zip vs) m x=_
    unfold bindL
    exact bindL_get (i:=i) (List.nodup_cons.mp nd).2 (by simpa using h1) (by simpa using h2) hk
theorem bindC_get {kindOf:Str→Option NameKind} {x:Str} {v:Value}:∀{P:List Str} {vs:List Value} {i:Nat} {m:Str→Option Value},P.Nodup→P[i]? = some x→vs[i]? = some v→kindOf x≠some .local→
    bindC kindOf (P.zip vs) m x=some v
  | [],_,_,_,_,h,_,_=>by simp at h
  | _::_,[],_,_,_,_,h,_=>by simp at h
  | p::P,w::vs,0,m,nd,h1,h2,hk=>by
    simp at h1 h2;subst h1;subst h2
    show bindC kindOf ((p,w)::P.zip vs) m p=_
    unfold bindC
    rw [bindC_out fun v hv=>(List.nodup_cons.mp nd).1 (List.of_mem_zip hv).1,if_neg hk]
    simp
  | p::P,w::vs,i+1,m,nd,h1,h2,hk=>by
    show bindC kindOf ((p,w)::P.zip vs) m x=_
    unfold bindC
    exact bindC_get (i:=i) (List.nodup_cons.mp nd).2 (by simpa using h1) (by simpa using h2) hk
def start (N:List Str) (vs:List V):St:=vs.map some++List.replicate (N.length - vs.length) none
def cxOf (CX:CXT) (P:Program) (w:World) (K:PySem.W.Frag) (mg:Str→Option Value) (base:Heap) (N:List Str) (qual:Str) (scope:Scope) (f:Addr) (cd:Value) (A:Around) (outer:List Env) (s:Shared) (H:Hp) (E:XK):Cx where
  prog:=P
  w:=w
  K:=K
  mg:=mg
  base:=base
  A:=A.deeper (envOfC qual scope s.heap.objs.size f cd)
  N:=N
  s₀:=s
  H₀:=H
  env:=envOfC qual scope s.heap.objs.size f cd
  outer:=outer
  stack:=envOfC qual scope s.heap.objs.size f cd::outer
  ex:=[]
  calm:=true
  fn:=fun _=>true
  pn:=[]
  xe:=fun e s'=>wpAny (model P w) (A.deeper (envOfC qual scope s.heap.objs.size f cd)) (leaving (envOfC qual scope s.heap.objs.size f cd) e) (fun _ s''=>CX outer H s E e s'') (fun e' s''=>CX outer H s E e' s'') s'
theorem cell_has {sc:Scope} {n:Nat} {x:Str} (h:sc.names.lookup x=some .cell):∃c,(cellsFrom n sc.names []).lookup x=some c:=by
  have q:=PySem.W.cellsFrom_some sc.names n [] (.inl h)
  exact Option.isSome_iff_exists.mp q
theorem inv_start {CX:CXT} {P:Program} {w:World} {K:PySem.W.Frag} {mg:Str→Option Value} {base:Heap} {N ps:List Str} {qual:Str} {scope:Scope} {f:Addr} {cd:Value} {A:Around} {outer:List Env} {s s1:Shared} {H:Hp} {E:XK} {us:List Value} {vs:List V}
    (S:FnScope N ps scope) (hd:A.handled=none) (e0:Env0 P w K mg base A outer s H) (hl:vs.length=ps.length) (r:Vals vs us)
    (x:InCallC s s.heap.objs.size (bindL (envOfC qual scope s.heap.objs.size f cd).kindOf (ps.zip us) fun _=>none) (cellsFrom (s.heap.objs.size+1) scope.names []) (bindC (envOfC qual scope s.heap.objs.size f cd).kindOf (ps.zip us) fun _=>none) s1) :
    Inv (cxOf CX P w K mg base N qual scope f cd A outer s H E) [] (start N vs) H s1:=by
  have hpl:ps.length≤N.length:=by have:=congrArg List.length S.pre;rw [List.length_take] at this;omega
  obtain ⟨h1,tk,rfl,hk⟩:=x.done
  have noA:∀b:Addr,b∉(cxOf CX P w K mg base N qual scope f cd A outer s H E).ex:=fun b z=>absurd (show b∈([]:List Addr) from z) (by simp)
  refine ⟨⟨e0.mod,S.kind,rfl,rfl,Nat.le_refl _,fun y z c h1 h2=>?_,fun y hy=>?_,fun y c _ h=>?_,fun _=>hd,Around.frames_deeper e0.frames,.inr ⟨rfl,rfl⟩,fun b z=>absurd z (noA b),e0.bs,e0.bsz,fun b _ _=>noA b,fun b z=>absurd z (noA b),e0.funs,e0.frf⟩,
    rfl,e0.bare,Un.kept hk,⟨_,x.toInCall.ns,fun i y v h1 h2 h3=>?_⟩,fun y c h=>⟨_,x.cell y c h⟩,e0.hok.fresh (Nat.le_refl _),fun y c h=>?_,fun p hp=>absurd (show p∈([]:List (Addr×Obj)) from hp) (by simp),e0.hok.kept hk,?_⟩
  ·exact name_of_addr x.apart (PySem.mem_of_lookup h1) (PySem.mem_of_lookup h2)
  · have hy:scope.names.lookup y=some .cell∨scope.names.lookup y=some .free:=hy
    rcases hy with hy | hy
    ·exact cell_has hy
    ·exact absurd rfl (S.nofree _ (PySem.mem_of_lookup hy))
  ·exact Nat.le_of_lt (x.above y c (PySem.mem_of_lookup h))
  · have hi:i<vs.length:=by
      unfold start at h2
      by_cases hi:i<vs.length
      ·exact hi
      · rw [List.getElem?_append_right (by simpa using hi)] at h2
        rw [List.getElem?_replicate] at h2
        split at h2 <;> cases h2
    have ha:vs[i]? = some v:=by
      unfold start at h2
      rw [List.getElem?_append_left (by simpa using hi),List.getElem?_map] at h2
      cases e:vs[i]? with
      | none=>rw [e] at h2;cases h2
      | some a=>rw [e] at h2;cases h2;rfl
    obtain ⟨u,hu,rv⟩:=r.get ha
    have hp:ps[i]? = some y:=by
      rw [← S.pre,List.getElem?_take_of_lt (by omega)];exact h1
    have ndP:ps.Nodup:=by rw [← S.pre];exact S.nd.sublist (List.take_sublist _ _)
    refine ⟨u,rv,?_⟩
    rcases S.par y (List.mem_of_getElem? hp) with k | k
    ·exact .inl ⟨k,bindL_get ndP hp hu k⟩
    · obtain ⟨c,e⟩:=cell_has (n:=s.heap.objs.size+1) k
      refine .inr ⟨.inl k,c,e,?_⟩
      have q:=x.cell y c e
      rw [bindC_get ndP hp hu (by show scope.names.lookup y≠_;rw [k];decide)] at q
      exact q
  ·exact e0.hok.fresh (Nat.le_of_lt (x.above y c (PySem.mem_of_lookup h)))
  · unfold start
    show _=N.length
    rw [List.length_append,List.length_map,List.length_replicate]
    omega
theorem fn_of {CX:CXT} {P:Program} {w:World} {K:PySem.W.Frag} {mg:Str→Option Value} {base:Heap} {k:Nat} {f:Addr} {name qual:Str} {params:Arguments} {body:List Stmt} {scope:Scope} {dV kV doc pm cdv ct oc:Value} {an od:Option Addr}
    {osl:Array (Option Value)} {N ps:List Str} {sp:Sp} (lk:K.lookup f=some ⟨oc,od,.func (PySem.W.fnOf name qual params body scope dV kV doc pm an cdv ct),osl⟩) (hcd:PySem.W.codeIn K cdv qual=true) (S:FnScope N ps scope)
    (len:∀vs H Q E,sp vs H Q E→vs.length=ps.length)
    (hbody:∀(A:Around) (outer:List Env) (s:Shared) (H:Hp) (vs:List V) (Q:VK) (E:XK),Room k (A.deeper (envOfC qual scope s.heap.objs.size f cdv))→sp vs H Q E→
      ∃t,PSs (cxOf CX P w K mg base N qual scope f cdv A outer s H E) body t∧t {nx:=fun _ H'=>Q .non H',rt:=Q} (start N vs) H) :
    FnOk P w K mg base CX (k+1) f (PySem.W.fnOf name qual params body scope dV kV doc pm an cdv ct) ps sp:=by
  refine ⟨len,fun A outer s H args us vs Q E hr e0 hb r hsp=>?_⟩
  have hl:=len _ _ _ _ hsp
  have KX:K.In s.heap:=e0.mod.kin.keeps fun b o e=>(e0.bs b o e).1
  have lim:s.heap.NoLimit:=e0.mod.nolimit.keeps fun b o e=>(e0.bs b o e).1
  have hkind:∀y∈ps.zip us,scope.names.lookup y.1=some .local∨(scope.names.lookup y.1=some .cell∧((cellsFrom (s.heap.objs.size+1) scope.names []).lookup y.1).isSome=true):=fun ⟨n,v⟩ hy=>by
    rcases S.par n (List.of_mem_zip hy).1 with q | q
    ·exact .inl q
    ·exact .inr ⟨q,PySem.W.cellsFrom_some _ _ _ (.inl q)⟩
  refine codeAny_call_function hr.depth (KX _ _ lk) rfl S.co S.gen rfl (PySem.W.codeRec_of KX hcd) (hb _ _ _ _ ?_)
  refine wpAny_newFunctionEnv_cells S.kind hkind fun env he s1 x=>?_
  subst he
  refine ⟨lim.keeps x.toInCall.keep,codeAny_func ?_⟩
  obtain ⟨t,ht,hq⟩:=hbody A outer s H vs Q E (hr.deeper _) hsp
  have I:Inv (cxOf CX P w K mg base N qual scope f cdv A outer s H E) [] (start N vs) H s1:=inv_start S hr.hd e0 hl r x
  refine wpAny_mono (ht [] s1 (start N vs) H _ I hq) (fun fl s' hs=>?_) fun e s' hs=>hs
  have fin:∀{σ':St} {H':Hp} {v:V} {u:Value},Inv (cxOf CX P w K mg base N qual scope f cdv A outer s H E) [] σ' H' s'→RelV v u→Q v H'→CE outer P w H s Q u s':=
    fun {σ' H' v u} J rv q=>⟨v,H',J.os,J.bare,J.base,J.hok,rv,q⟩
  cases fl with
  | ret u=>
    obtain ⟨v,σ',H',J,rv,q⟩:=hs
    exact fin J rv q
  | next=>
    obtain ⟨σ',H',J,q⟩:=hs
    exact fin (v:=V.non) (u:=Value.none) J rfl q
  | brk=>
    obtain ⟨_,_,_,q⟩:=hs
    exact False.elim q
  | cont=>
    obtain ⟨_,_,_,q⟩:=hs
    exact False.elim q
section
variable {X:Cx} {x:Str} {p pos:Pos} {e:Expr} {es:List Expr} {t:TA} {id T:String} {r:List V→Hp→VK→Prop}
def tCB (r:List V→Hp→VK→Prop) (t:TA):TE:=fun σ H Q=>t σ H fun vs H1=>r vs H1 Q
theorem pe_callB (hc:CallR X (.builtin id) r) (hg:Gl X x) (hm:X.mg x=none) (hv:bootBuiltins x=some (.builtin id)) (ha:PA X (e::es) t) (hn:x≠ "__name__" :=by decide) (hdb:(x == ("__debug__" : Str))=false:=by decide)
    (he:starEach (e::es) X.env=(false,eval e X.env)::starEach es X.env:=by rfl) (hpl:(backTo pos (starEach es X.env)).any (·.1)=false:=by rfl):PE X (.Call (.Name x p) (e::es) [] pos) (tCB r t):=by
  intro pins s σ H Q I h
  refine wpAny_Call_Name_kw (ld_blt I hg hm hv ?_ hn hdb)
  refine PyProof.Rows.callWith_builtin1 (thn (ha pos pins s σ H _ I h) fun us s1 zz=>?_) he hpl
  obtain ⟨vs,H1,I1,r1,q1⟩:=zz
  exact hc pins s1 σ H1 vs us Q I1 r1 q1
theorem pe_callTy (hc:CallR X (.type T) r) (hg:Gl X x) (hm:X.mg x=none) (hv:bootBuiltins x=some (.type T)) (ha:PA X (e::es) t) (hn:x≠ "__name__" :=by decide) (hdb:(x == ("__debug__" : Str))=false:=by decide)
    (he:starEach (e::es) X.env=(false,eval e X.env)::starEach es X.env:=by rfl) (hpl:(backTo pos (starEach es X.env)).any (·.1)=false:=by rfl):PE X (.Call (.Name x p) (e::es) [] pos) (tCB r t):=by
  intro pins s σ H Q I h
  refine wpAny_Call_Name_kw (ld_blt I hg hm hv ?_ hn hdb)
  refine PyProof.Rows.callWith_type1 (thn (ha pos pins s σ H _ I h) fun us s1 zz=>?_) he hpl
  obtain ⟨vs,H1,I1,r1,q1⟩:=zz
  exact hc pins s1 σ H1 vs us Q I1 r1 q1
end
end L2
namespace HT
open PySem PyProof.Rows
section
variable {prog:Program} {w:World} {A:Around} {E:Value→Shared→Prop} {s:Shared}
def sIx (n d:Nat):Option Int→Nat
  | none=>d
  | some v=>if v<0 then (v+(n:Int)).toNat else min v.toNat n
end
end HT
namespace L2
open PySem PySem.Spec PyProof.Rows
abbrev TO:=St→Hp→(Option Int→Hp→Prop)→Prop
def PO (X:Cx) (e:Option Expr) (t:TO):Prop:=
  ∀(pins:List (Addr×Obj)) (s:Shared) (σ:St) (H:Hp) (Q:Option Int→Hp→Prop),Inv X pins σ H s→t σ H Q→
    wpAny (model X.prog X.w) X.A (evalPart e X.env) (fun u s'=>∃o H',Inv X pins σ H' s'∧IsPart u o∧Q o H') X.xe s
def tNoPart:TO:=fun _ H Q=>Q none H
def tPart (t:TE):TO:=fun σ H Q=>t σ H fun x H1=>∃i,x = .int i∧Q (some i) H1
section
variable {X:Cx} {e:Expr} {te:TE} {lo hi:Option Expr} {tl th:TO} {pos p2:Pos}
theorem po_none:PO X none tNoPart:=by
  intro pins s σ H Q I h
  rw [evalPart_none]
  exact wpAny_pure ⟨none,H,I,.none,h⟩
theorem po_some (h:PE X e te):PO X (some e) (tPart te):=by
  intro pins s σ H Q I hw
  rw [evalPart_some]
  refine thn (h pins s σ H _ I hw) fun u s1 zz=>?_
  obtain ⟨x,H1,I1,r1,q1⟩:=zz
  obtain ⟨i,rfl,q⟩:=q1
  obtain ⟨t,rfl⟩:=r1
  exact ⟨some i,H1,I1,.int i t,q⟩
def SlR (X:Cx) (r:V→Option Int→Option Int→Hp→VK→Prop):Prop:=
  ∀(pins:List (Addr×Obj)) (s:Shared) (σ:St) (H:Hp) (x:V) (v vl vu:Value) (lo hi:Option Int) (sl:Addr) (Q:VK),Inv X pins σ H s→RelV x v→s.heap.IsSliceOf sl vl vu .none→IsPart vl lo→IsPart vu hi→r x lo hi H Q→
    ∃T id,typeLookup (.type T) "__getitem__" = pure (some (.builtin id))∧s.TypeIs v T∧wpAny (model X.prog X.w) X.A (getItem v (.ref sl)) (EP X pins σ Q) X.xe s
def tSl (r:V→Option Int→Option Int→Hp→VK→Prop) (te:TE) (tl th:TO):TE:=fun σ H Q=>te σ H fun x H1=>tl σ H1 fun l H2=>th σ H2 fun u H3=>r x l u H3 Q
theorem pe_slice {r:V→Option Int→Option Int→Hp→VK→Prop} (hr:SlR X r) (he:PE X e te) (hl:PO X lo tl) (hu:PO X hi th):PE X (.Subscript e (.Slice lo hi none p2) pos) (tSl r te tl th):=by
  intro pins s σ H Q I h
  refine Subscript_ (thn (he pins s σ H _ I h) fun v s1 zz=>?_)
  obtain ⟨x,H1,I1,r1,q1⟩:=zz
  refine wpAny_Slice (thn (hl pins s1 σ H1 _ I1 q1) fun vl s2 ⟨l,H2,I2,pl,q2⟩=>thn (hu pins s2 σ H2 _ I2 q2) fun vu s3 ⟨u,H3,I3,pu,q3⟩=>?_)
  rw [evalPart_none]
  refine wpAny_pure ?_
  have I4:Inv X pins σ H3 {s3 with heap:=s3.heap.push {cls:=.type "slice",data:=.fields #[vl,vu,.none]}}:=I3.kept (t':=s3.toks) fun b ob q=>Heap.get?_push_of_some _ q
  obtain ⟨T,id,hT,ht,hg⟩:=hr pins {s3 with heap:=s3.heap.push {cls:=.type "slice",data:=.fields #[vl,vu,.none]}} σ H3 x v vl vu l u s3.heap.objs.size Q I4 r1 (Heap.IsSliceOf.new ..) pl pu q3
  show wpAny (model X.prog X.w) X.A (subscriptTail e (.Slice lo hi none p2) v (.ref s3.heap.objs.size)) (EP X pins σ Q) X.xe {s3 with heap:=s3.heap.push {cls:=.type "slice",data:=.fields #[vl,vu,.none]}}
  exact tail_any (ops:=[.ref s3.heap.objs.size,v]) ht hT hg (by with_unfolding_all rfl)
def cutV (xs:List V) (lo hi:Option Int):List V:=(xs.drop (HT.sIx xs.length 0 lo)).take (HT.sIx xs.length xs.length hi - HT.sIx xs.length 0 lo)
theorem cutV_length (xs:List V) (lo hi:Option Int):(cutV xs lo hi).length≤xs.length:=by
  unfold cutV
  rw [List.length_take,List.length_drop]
  omega
end
def ixN (n:Nat) (i:Int):Option Nat:=if 0≤i then (if i<n then some i.toNat else none) else if -(n:Int)≤i then some (i+n).toNat else none
def atI {α:Type} (xs:List α) (i:Int):Option α:=(ixN xs.length i).bind fun j=>xs[j]?
theorem ixN_seq {n:Nat} {i:Int} {j:Nat} (h:ixN n i=some j):seqIndex? i n=some j∧j<n∧-(n:Int)≤i∧i<n:=by
  unfold ixN at h
  by_cases h0:0≤i
  · rw [if_pos h0] at h
    by_cases h1:i<n
    · rw [if_pos h1] at h
      have e:i.toNat=j:=Option.some.inj h
      exact ⟨by rw [seqIndex_of h0 h1,e],by omega,by omega,h1⟩
    ·rw [if_neg h1] at h;cases h
  · rw [if_neg h0] at h
    by_cases h1 : -(n:Int)≤i
    · rw [if_pos h1] at h
      have e:(i+n).toNat=j:=Option.some.inj h
      exact ⟨by rw [seqIndex_neg (by omega) h1,e],by omega,h1,by omega⟩
    ·rw [if_neg h1] at h;cases h
theorem atI_get {α:Type} {xs:List α} {i:Int} {v:α} (h:atI xs i=some v):∃j,seqIndex? i xs.length=some j∧xs[j]? = some v∧j<xs.length∧-(xs.length:Int)≤i∧i<xs.length:=by
  unfold atI at h
  cases e:ixN xs.length i with
  | none=>rw [e] at h;cases h
  | some j=>
    rw [e] at h
    obtain ⟨h1,h2,h3,h4⟩:=ixN_seq e
    exact ⟨j,h1,h,h2,h3,h4⟩
theorem atI_nat {α:Type} {xs:List α} {j:Nat} {v:α} (h:xs[j]? = some v):atI xs (j:Int)=some v:=by
  have hj:j<xs.length:=(List.getElem?_eq_some_iff.mp h).1
  have e:ixN xs.length (j:Int)=some j:=by
    unfold ixN
    rw [if_pos (by omega),if_pos (by omega)];simp
  unfold atI;rw [e];exact h
def PlainIx (b:Expr):Prop:=∀o i,subscripted b false o i=operate [o,i] (getItem o i)
def IxR (X:Cx) (r:R2):Prop:=
  ∀(value slice:Expr) (pins:List (Addr×Obj)) (s:Shared) (σ:St) (H:Hp) (x y:V) (v u:Value) (Q:VK),Inv X pins σ H s→RelV x v→RelV y u→r x y H Q→
    subscripted slice false v u=operate [v,u] (getItem v u)→wpAny (model X.prog X.w) X.A (subscriptTail value slice v u) (EP X pins σ Q) X.xe s
def MtR (X:Cx) (id:String) (r:V→List V→Hp→VK→Prop):Prop:=
  ∀(pins:List (Addr×Obj)) (s:Shared) (σ:St) (H:Hp) (x:V) (xs:List V) (v:Value) (us:List Value) (Q:VK),Inv X pins σ H s→RelV x v→Vals xs us→r x xs H Q→
    wpAny (model X.prog X.w) X.A (call (.builtin id) (v::us)) (EP X pins σ Q) X.xe s
section
variable {X:Cx} {a b:Expr} {ta tb:TE} {pos:Pos}
theorem pe_ix {r:R2} (hr:IxR X r) (ha:PE X a ta) (hb:PE X b tb) (hs:PlainIx b):PE X (.Subscript a b pos) (tOp r ta tb):=by
  intro pins s σ H Q I h
  exact Subscript_ (binT ha hb I h fun v u s2 x y H2 I2 rx ry q=>hr a b pins s2 σ H2 x y v u Q I2 rx ry q (hs _ _))
def rIxL (K:PySem.W.Frag):R2:=fun x y H Q=>∃p xs i v,x = .ref p∧y = .int i∧SqL K H p xs∧atI xs i=some v∧Q v H
def rIxT (K:PySem.W.Frag):R2:=fun x y H Q=>∃p xs i v,x = .ref p∧y = .int i∧SqT K H p xs∧atI xs i=some v∧Q v H
def rIxS:R2:=fun x y H Q=>∃z i c,x = .str z∧y = .int i∧z.length≤sizeLine∧atI z.cps.toList i=some c∧Q (.str ⟨#[c]⟩) H
theorem ix_list:IxR X (rIxL X.K):=by
  intro value slice pins s σ H x y v u Q I rx ry h hs
  obtain ⟨p,xs,i,z,rfl,rfl,hq,he,q⟩:=h
  cases rx
  obtain ⟨t,rfl⟩:=ry
  obtain ⟨its,r,pl,hz⟩:=I.list hq
  obtain ⟨j,h1,h2,h3,h4,h5⟩:=atI_get he
  obtain ⟨w,ew,rw'⟩:=r.get h2
  have hl:=r.length
  have hn:=line63
  have fin:EP X pins σ Q w s:=⟨z,H,I,rw',q⟩
  by_cases h0:0≤i
  · have hj:i.toNat=j:=by
      rw [seqIndex_of h0 h5] at h1
      exact Option.some.inj h1
    exact item_listR pl.isList h0 (by omega) (by rw [hj];simpa using ew) fin hs
  · have hj:(i+(its.toArray.size:Int)).toNat=j:=by
      rw [seqIndex_neg (by omega) h4] at h1
      rw [List.size_toArray,← hl]
      exact Option.some.inj h1
    exact subscriptTail_builtinR (x:=w) pl.isList.typeIs slot_list_getitem.lookup
      (wpAny_getItem_list_neg (Q:=fun r s'=>r=w∧EP X pins σ Q r s') pl.isList (by omega) (by rw [List.size_toArray] <;> omega) (by omega) (by rw [hj];simpa using ew) ⟨rfl,fin⟩) hs
theorem ix_tup:IxR X (rIxT X.K):=by
  intro value slice pins s σ H x y v u Q I rx ry h hs
  obtain ⟨p,xs,i,z,rfl,rfl,hq,he,q⟩:=h
  cases rx
  obtain ⟨t,rfl⟩:=ry
  obtain ⟨its,r,pl,hz⟩:=I.tuple hq
  obtain ⟨j,h1,h2,h3,h4,h5⟩:=atI_get he
  obtain ⟨w,ew,rw'⟩:=r.get h2
  have hl:=r.length
  have hn:=line63
  have fin:EP X pins σ Q w s:=⟨z,H,I,rw',q⟩
  exact subscriptTail_builtinR (x:=w) pl.typeIs slot_tuple_getitem.lookup
    (getItem_tuple (j:=j) (Q:=fun r s'=>r=w∧EP X pins σ Q r s') pl (by omega) (by omega) (by rw [List.size_toArray,← hl];exact h1) (by simpa using ew) ⟨rfl,fin⟩) hs
theorem ix_str:IxR X rIxS:=by
  intro value slice pins s σ H x y v u Q I rx ry h hs
  obtain ⟨z,i,c,rfl,rfl,hz,he,q⟩:=h
  obtain ⟨t,rfl⟩:=rx
  obtain ⟨t',rfl⟩:=ry
  obtain ⟨j,h1,h2,h3,h4,h5⟩:=atI_get he
  have hl:z.cps.toList.length=z.length:=by simp [Str.length]
  rw [hl] at h1 h4 h5
  have hn:=line63
  exact tail_any (typeIs_str s z t) slot_str_getitem.lookup (getItem_str (c:=c) (by
    have e1:decide (i < -(2 ^ 63:Int))=false:=decide_eq_false (by omega)
    have e2:decide (i≥2 ^ 63)=false:=decide_eq_false (by omega)
    rw [e1,e2,Bool.or_false]) (by rw [h1];simpa using h2) ⟨.str ⟨#[c]⟩,H,I.tok _,⟨_,rfl⟩,q⟩) hs
theorem mapSeq_set (its:List Value) (n j:Nat) (u:Value):Obj.mapSeq (·.setIfInBounds j u) {cls:=.type "list",data:=.seq its.toArray n}={cls:=.type "list",data:=.seq (its.set j u).toArray n}:=by
  simp [Obj.mapSeq]
theorem Inv.lst {pins:List (Addr×Obj)} {σ:St} {H:Hp} {s:Shared} {p:Addr} {xs:List V} (I:Inv X pins σ H s) (h:H p=some (.lst xs)) :
    ∃(its:List Value) (n:Nat),Vals xs its∧s.heap.get? p=some {cls:=.type "list",data:=.seq its.toArray n}∧xs.length≤sizeLine:=by
  obtain ⟨z,its,n,r,e⟩:=I.hok p _ h
  exact ⟨its,n,r,e,z⟩
theorem Inv.lstUpd {pins:List (Addr×Obj)} {σ:St} {H:Hp} {s:Shared} {p:Addr} {xs ys:List V} {its its':List Value} {n n':Nat} {f:Obj→Obj} (I:Inv X pins σ H s) (h:H p=some (.lst xs))
    (ho:s.heap.get? p=some {cls:=.type "list",data:=.seq its.toArray n}) (hf:f {cls:=.type "list",data:=.seq its.toArray n}={cls:=.type "list",data:=.seq its'.toArray n'}) (r:Vals ys its') (hz:ys.length≤sizeLine) (t:Nat) :
    Inv X pins σ (upd H p (.lst ys)) {s with heap:=s.heap.update p f,toks:=t}:=by
  have e:(s.heap.update p f).get? p=some {cls:=.type "list",data:=.seq its'.toArray n'}:=by
    rw [Heap.get?_update_self f ho (by rw [hf] <;> rfl),hf]
  refine I.write (x:=p) (e:=p) (by rw [h];trivial) (.inl rfl) (fun b u hb q=>(Heap.get?_update_other _ _ (Ne.symm hb)).trans q) ⟨_,e⟩ ?_
  exact ⟨hz,its',n',r,e⟩
def rSetL:V→V→V→Hp→(Hp→Prop)→Prop:=fun o i v H Q=>∃p xs k j,o = .ref p∧i = .int k∧H p=some (.lst xs)∧ixN xs.length k=some j∧Q (upd H p (.lst (xs.set j v)))
theorem set_list:PSet X rSetL:=by
  intro pins s σ H o i v ov iv u Q I ro ri rv h
  obtain ⟨p,xs,k,j,rfl,rfl,hp,hj,q⟩:=h
  cases ro
  obtain ⟨t,rfl⟩:=ri
  obtain ⟨its,n,r,ho,hz⟩:=I.lst hp
  obtain ⟨h1,h2,h3,h4⟩:=ixN_seq hj
  have hl:=r.length
  have hn:=line63
  have I':Inv X pins σ (upd H p (.lst (xs.set j v))) {s with heap:=s.heap.update p (Obj.mapSeq (·.setIfInBounds j u))}:=
    I.lstUpd hp ho (mapSeq_set its n j u) (r.set rv j) (by rw [List.length_set];exact hz) s.toks
  by_cases h0:0≤k
  · have hk:k.toNat=j:=by
      rw [seqIndex_of h0 h4] at h1
      exact Option.some.inj h1
    exact PySem.W.ki_setAt ho h0 (by omega) (by rw [List.size_toArray,← hl];exact h4) (by rw [hk];exact ⟨_,I',q⟩)
  · have hk:(k+(its.toArray.size:Int)).toNat=j:=by
      rw [seqIndex_neg (by omega) h3] at h1
      rw [List.size_toArray,← hl]
      exact Option.some.inj h1
    exact PySem.W.ki_setBack ho (by omega) (by rw [List.size_toArray,← hl];exact h3) (by omega) (by rw [hk];exact ⟨_,I',q⟩)
theorem slice_bounds (lo hi:Option Int) (n:Nat):(sliceBounds lo hi none n).1=((HT.sIx n 0 lo:Nat):Int)∧(sliceBounds lo hi none n).2.1=((HT.sIx n n hi:Nat):Int)∧(sliceBounds lo hi none n).2.2=1:=by
  refine ⟨?_,?_,rfl⟩
  · cases lo with
    | none=>simp [sliceBounds,HT.sIx]
    | some i=>
      simp only [sliceBounds,HT.sIx,Option.getD_none,show (1:Int) > 0 by decide,if_true]
      by_cases h:i<0
      ·simp only [h,if_true] <;> omega
      ·simp only [h,if_false] <;> omega
  · cases hi with
    | none=>simp [sliceBounds,HT.sIx]
    | some i=>
      simp only [sliceBounds,HT.sIx,Option.getD_none,show (1:Int) > 0 by decide,if_true]
      by_cases h:i<0
      ·simp only [h,if_true] <;> omega
      ·simp only [h,if_false] <;> omega
theorem slicePick_cut (its:List Value) (lo hi:Option Int):slicePick its.toArray lo hi none=((its.drop (HT.sIx its.length 0 lo)).take (HT.sIx its.length its.length hi - HT.sIx its.length 0 lo)).toArray:=by
  obtain ⟨h1,h2,h3⟩:=slice_bounds lo hi its.toArray.size
  unfold slicePick
  rw [h1,h2,h3]
  simp only [sliceRange_one,pick_run,List.size_toArray] <;> rfl
def rSlL (K:PySem.W.Frag):V→Option Int→Option Int→Hp→VK→Prop:=fun x lo hi H Q=>∃a xs,x = .ref a∧SqL K H a xs∧∀p,H p=none→Q (.ref p) (upd H p (.lst (cutV xs lo hi)))
theorem sl_list:SlR X (rSlL X.K):=by
  intro pins s σ H x v vl vu lo hi sl Q I rx hs pl pu h
  obtain ⟨a,xs,rfl,hx,q⟩:=h
  cases rx
  obtain ⟨its,r,ht,hz⟩:=I.list hx
  have hlen:=r.length
  refine ⟨"list",_,slot_list_getitem.lookup,ht.isList.typeIs,?_⟩
  refine wpAny_getItem_list_slice ht.isList hs pl pu .none (by simp) ?_ (by rw [List.size_toArray] <;> omega)
  rw [slicePick_cut,← hlen]
  refine ⟨.ref s.heap.objs.size,_,I.laid (t':=s.toks) (o:=.lst (cutV xs lo hi)) (fun b ob q=>Heap.get?_push_of_some _ q) (Nat.le_refl _) ?_,rfl,q _ (I.hok.fresh (Nat.le_refl _))⟩
  exact ⟨Nat.le_trans (cutV_length xs lo hi) hz,_,0,(r.drop (HT.sIx xs.length 0 lo)).take (HT.sIx xs.length xs.length hi - HT.sIx xs.length 0 lo),Heap.get?_push_size _ rfl⟩
def flatV:V→Bool
  | .non=>true
  | .bl _=>true
  | .int _=>true
  | .str _=>true
  | _=>false
def eqV:V→V→Bool
  | .non,.non=>true
  | .bl a,.bl b=>a == b
  | .bl a,.int b=>(if a then 1 else 0) == b
  | .int a,.bl b=>a == (if b then 1 else 0)
  | .int a,.int b=>a == b
  | .str a,.str b=>a == b
  | _,_=>false
theorem eqAt_V {A:Around} {s:Shared} {y x:V} {u v:Value} (ry:RelV y u) (rx:RelV x v) (fy:flatV y=true) (fx:flatV x=true):SeqAt.EqAt A s u v (eqV y x):=by
  cases y with
  | non=>
    cases ry
    cases x with
    | non=>cases rx;exact SeqAt.EqAt.same _
    | bl b=>cases rx;exact SeqAt.EqAt.none_bool b
    | int b=>obtain ⟨t,rfl⟩:=rx;exact SeqAt.EqAt.none_int b t
    | str b=>obtain ⟨t,rfl⟩:=rx;exact SeqAt.EqAt.none_str b t
    | _=>exact absurd (show false=true from fx) Bool.false_ne_true
  | bl a=>
    cases ry
    cases x with
    | non=>cases rx;exact SeqAt.EqAt.bool_none a
    | bl b=>cases rx;exact SeqAt.EqAt.bool_bool a b
    | int b=>obtain ⟨t,rfl⟩:=rx;exact SeqAt.EqAt.bool_int a b t
    | str b=>obtain ⟨t,rfl⟩:=rx;exact SeqAt.EqAt.bool_str a b t
    | _=>exact absurd (show false=true from fx) Bool.false_ne_true
  | int a=>
    obtain ⟨t',rfl⟩:=ry
    cases x with
    | non=>cases rx;exact SeqAt.EqAt.int_none a t'
    | bl b=>cases rx;exact SeqAt.EqAt.int_bool a t' b
    | int b=>obtain ⟨t,rfl⟩:=rx;exact SeqAt.EqAt.int_int a t' b t
    | str b=>obtain ⟨t,rfl⟩:=rx;exact SeqAt.EqAt.int_str a t' b t
    | _=>exact absurd (show false=true from fx) Bool.false_ne_true
  | str a=>
    obtain ⟨t',rfl⟩:=ry
    cases x with
    | non=>cases rx;exact SeqAt.EqAt.str_none a t'
    | bl b=>cases rx;exact SeqAt.EqAt.str_bool a t' b
    | int b=>obtain ⟨t,rfl⟩:=rx;exact SeqAt.EqAt.str_int a t' b t
    | str b=>obtain ⟨t,rfl⟩:=rx;exact SeqAt.EqAt.str_str a t' b t
    | _=>exact absurd (show false=true from fx) Bool.false_ne_true
  | _=>exact absurd (show false=true from fy) Bool.false_ne_true
def eqU (x:V) (u:Value):Bool:=match u with
  | .none=>eqV .non x
  | .bool b=>eqV (.bl b) x
  | .int i _=>eqV (.int i) x
  | .str z _=>eqV (.str z) x
  | _=>false
theorem eqU_of {x y:V} {u:Value} (r:RelV y u) (f:flatV y=true):eqU x u=eqV y x:=by
  cases y with
  | non=>cases r;rfl
  | bl b=>cases r;rfl
  | int i=>obtain ⟨t,rfl⟩:=r;rfl
  | str z=>obtain ⟨t,rfl⟩:=r;rfl
  | _=>exact absurd (show false=true from f) Bool.false_ne_true
theorem any_eqU {x:V}:∀{xs:List V} {us:List Value},Vals xs us→xs.all flatV=true→us.any (eqU x)=xs.any fun y=>eqV y x
  | _,_,.nil,_=>rfl
  | y::xs,u::us,.cons r t,f=>by
    rw [List.all_cons,Bool.and_eq_true] at f
    rw [List.any_cons,List.any_cons,eqU_of r f.1,any_eqU t f.2]
theorem mem_eqAt {A:Around} {s:Shared} {x:V} {v:Value} (rx:RelV x v) (fx:flatV x=true):∀{xs:List V} {us:List Value},Vals xs us→xs.all flatV=true→∀u∈us,SeqAt.EqAt A s u v (eqU x u)
  | _,_,.nil,_=>fun u hu=>by cases hu
  | y::xs,u::us,.cons r t,f=>fun u' hu=>by
    rw [List.all_cons,Bool.and_eq_true] at f
    rcases List.mem_cons.mp hu with rfl | hu
    ·rw [eqU_of r f.1];exact eqAt_V r rx f.1 fx
    ·exact mem_eqAt rx fx t f.2 u' hu
def inV (x:V) (xs:List V):Bool:=xs.any fun y=>eqV y x
def rIn (K:PySem.W.Frag) (neg:Bool):R2:=fun x y H Q=>∃p xs,y = .ref p∧(SqL K H p xs∨SqT K H p xs)∧flatV x=true∧xs.all flatV=true∧Q (.bl (if neg then !inV x xs else inV x xs)) H
theorem op_in_seq:OpR X (compareOp .In) (rIn X.K false):=by
  intro pins s σ H x y v u Q I rx ry h
  obtain ⟨p,xs,rfl,hq,fx,fs,q⟩:=h
  cases ry
  rcases hq with hq | hq
  · obtain ⟨its,r,pl,hz⟩:=I.list hq
    refine SeqAt.in_listAt (eqU x) pl.isList (fun w hw=>mem_eqAt rx fx r fs w (by simpa using hw)) ⟨.bl _,H,I,rfl,?_⟩
    rw [show its.toArray.any (eqU x)=its.any (eqU x) by simp,any_eqU r fs]
    exact q
  · obtain ⟨its,r,pl,hz⟩:=I.tuple hq
    refine SeqAt.in_tupleAt (eqU x) pl (fun w hw=>mem_eqAt rx fx r fs w (by simpa using hw)) ⟨.bl _,H,I,rfl,?_⟩
    rw [show its.toArray.any (eqU x)=its.any (eqU x) by simp,any_eqU r fs]
    exact q
theorem op_notIn_seq:OpR X (compareOp .NotIn) (rIn X.K true):=by
  intro pins s σ H x y v u Q I rx ry h
  obtain ⟨p,xs,rfl,hq,fx,fs,q⟩:=h
  cases ry
  rcases hq with hq | hq
  · obtain ⟨its,r,pl,hz⟩:=I.list hq
    refine SeqAt.notIn_listAt (eqU x) pl.isList (fun w hw=>mem_eqAt rx fx r fs w (by simpa using hw)) ⟨.bl _,H,I,rfl,?_⟩
    rw [show its.toArray.any (eqU x)=its.any (eqU x) by simp,any_eqU r fs]
    exact q
  · obtain ⟨its,r,pl,hz⟩:=I.tuple hq
    refine SeqAt.notIn_tupleAt (eqU x) pl (fun w hw=>mem_eqAt rx fx r fs w (by simpa using hw)) ⟨.bl _,H,I,rfl,?_⟩
    rw [show its.toArray.any (eqU x)=its.any (eqU x) by simp,any_eqU r fs]
    exact q
theorem op_notIn_str:OpR X (compareOp .NotIn) (fun x y H Q=>∃i j,x = .str i∧y = .str j∧Q (.bl (!(!(Builtin.Str.occurrences j i 0 j.length 1).isEmpty))) H):=by
  intro pins s σ H x y v u Q I rx ry h
  obtain ⟨i,j,rfl,rfl,q⟩:=h
  obtain ⟨t,rfl⟩:=rx
  obtain ⟨t',rfl⟩:=ry
  exact notIn_str ⟨.bl _,H,I,rfl,q⟩
theorem call_len_seq:CallR X (.builtin "len") (fun xs H Q=>∃p ys,xs=[.ref p]∧(SqL X.K H p ys∨SqT X.K H p ys)∧Q (.int ys.length) H):=by
  intro pins s σ H xs us Q I r h
  obtain ⟨p,ys,rfl,hq,q⟩:=h
  obtain ⟨u,rfl,rx⟩:=vals1 r
  cases rx
  have hn:=line63
  rcases hq with hq | hq
  · obtain ⟨its,r',pl,hz⟩:=I.list hq
    have hlen:=r'.length
    exact Calls.call_len_list pl.isList (by simp only [List.size_toArray] <;> omega) ⟨.int ys.length,H,I.tok _,⟨s.toks+1,by rw [List.size_toArray,hlen]⟩,q⟩
  · obtain ⟨its,r',pl,hz⟩:=I.tuple hq
    have hlen:=r'.length
    exact len_tuple pl (by simp only [List.size_toArray] <;> omega) ⟨.int ys.length,H,I.tok _,⟨s.toks+1,by rw [List.size_toArray,hlen]⟩,q⟩
theorem call_len_str:CallR X (.builtin "len") (fun xs H Q=>∃z,xs=[.str z]∧z.length≤sizeLine∧Q (.int z.length) H):=by
  intro pins s σ H xs us Q I r h
  obtain ⟨z,rfl,hz,q⟩:=h
  obtain ⟨u,rfl,t,rfl⟩:=vals1 r
  have hn:=line63
  exact len_str (by omega) ⟨.int z.length,H,I.tok _,⟨_,rfl⟩,q⟩
theorem call_list_of:CallR X (.type "list") (fun xs H Q=>∃p ys,xs=[.ref p]∧(SqL X.K H p ys∨SqT X.K H p ys)∧∀l,H l=none→Q (.ref l) (upd H l (.lst ys))):=by
  intro pins s σ H xs us Q I r h
  obtain ⟨p,ys,rfl,hq,q⟩:=h
  obtain ⟨u,rfl,rx⟩:=vals1 r
  cases rx
  have fin:∀(its:List Value),Vals ys its→ys.length≤sizeLine→∀(h':Heap) (c':Nat),(∀b o',s.heap.get? b=some o'→h'.get? b=some o')→
      h'.get? s.heap.objs.size=some {cls:=.type "list",dict:=none,data:=.seq its.toArray c',slots:=#[]}→EP X pins σ Q (.ref s.heap.objs.size) {s with heap:=h'}:=fun its r' hz h' c' kp e=>
    ⟨.ref s.heap.objs.size,_,I.laid (t':=s.toks) kp (Nat.le_refl _) (show ObjOk X.prog X.w _ h' _ (.lst ys) from ⟨hz,its,c',r',e⟩),rfl,q _ (I.hok.fresh (Nat.le_refl _))⟩
  rcases hq with hq | hq
  · obtain ⟨its,r',pl,hz⟩:=I.list hq
    have hlen:=r'.length
    obtain ⟨o,ho,hc,n,hd⟩:=pl.isList
    exact call_list_seq p (.inl rfl) ho hc hd (fun h' c' kp e=>fin its r' hz h' c' kp e) (by simp only [List.size_toArray] <;> omega)
  · obtain ⟨its,r',pl,hz⟩:=I.tuple hq
    have hlen:=r'.length
    obtain ⟨o,ho,hc,n,hd⟩:=pl
    exact call_list_seq p (.inr rfl) ho hc hd (fun h' c' kp e=>fin its r' hz h' c' kp e) (by simp only [List.size_toArray] <;> omega)
theorem call_tuple_of:CallR X (.type "tuple") (fun xs H Q=>∃p ys,xs=[.ref p]∧((SqL X.K H p ys∧∀l,H l=none→Q (.ref l) (upd H l (.tup ys)))∨(SqT X.K H p ys∧Q (.ref p) H))):=by
  intro pins s σ H xs us Q I r h
  obtain ⟨p,ys,rfl,h⟩:=h
  obtain ⟨u,rfl,rx⟩:=vals1 r
  cases rx
  rcases h with ⟨hq,q⟩ | ⟨hq,q⟩
  · obtain ⟨its,r',pl,hz⟩:=I.list hq
    have hlen:=r'.length
    refine call_tuple_list pl.isList (fun h' kp=>?_) (by simp only [List.size_toArray] <;> omega)
    have I1:Inv X pins σ H {s with heap:=h'}:=I.kept (t':=s.toks) kp
    have I2:Inv X pins σ (upd H h'.objs.size (.tup ys)) {s with heap:=h'.push {cls:=.type "tuple",data:=.seq its.toArray}}:=
      I1.laid (t':=s.toks) (fun b o e=>Heap.get?_push_of_some _ e) (Nat.le_refl _) (show ObjOk X.prog X.w _ _ _ (.tup ys) from ⟨hz,its,r',IsTup.new _ _⟩)
    exact ⟨.ref h'.objs.size,_,I2,rfl,q _ (I1.hok.fresh (Nat.le_refl _))⟩
  · obtain ⟨its,r',pl,hz⟩:=I.tuple hq
    exact call_tuple_same pl ⟨.ref p,H,I,rfl,q⟩
def tyV (K:PySem.W.Frag) (T:String) (x:V) (H:Hp):Prop:=match x with
  | .str _=>T = "str"
  | .int _=>T = "int"
  | .ref p=>(T = "list" ∧∃xs,SqL K H p xs)∨(T = "tuple" ∧∃o,K.lookup p=some o∧o.cls = .type "tuple" ∧o.dict=none)∨
      (T = "dict" ∧((∃kvs,H p=some (.dK kvs))∨∃kvs,H p=some (.dT kvs)))∨(T = "set" ∧∃S n,H p=some (.set S n))
  | _=>False
theorem tyV_is {pins:List (Addr×Obj)} {σ:St} {H:Hp} {s:Shared} {T:String} {x:V} {v:Value} (I:Inv X pins σ H s) (r:RelV x v) (ty:tyV X.K T x H) :
    s.TypeIs v T∧∀a,v = .ref a→∃ob,s.heap.get? a=some ob∧ob.dict=none:=by
  cases x with
  | str z=>
    obtain ⟨t,rfl⟩:=r
    cases (show T = "str" from ty)
    exact ⟨typeIs_str s z t,fun _ e=>nomatch e⟩
  | int i=>
    obtain ⟨t,rfl⟩:=r
    cases (show T = "int" from ty)
    exact ⟨typeIs_int s i t,fun _ e=>nomatch e⟩
  | ref p=>
    cases r
    rcases ty with ⟨rfl,xs,hq⟩ | ⟨rfl,o,hk,hc,hd⟩ | ⟨rfl,hk⟩ | ⟨rfl,S,n,hk⟩
    · obtain ⟨its,_,pl,_⟩:=I.list hq
      refine ⟨pl.isList.typeIs,fun a e=>?_⟩
      cases e
      obtain ⟨o,n,e,c,hd,_⟩:=pl
      exact ⟨o,e,hd⟩
    · refine ⟨⟨o,I.kIn p o hk,hc⟩,fun a e=>?_⟩
      cases e
      exact ⟨o,I.kIn _ o hk,hd⟩
    · have z:∃o,s.heap.get? p=some o∧o.ExactDict:=by
        rcases hk with ⟨kvs,hk⟩ | ⟨kvs,hk⟩
        · obtain ⟨_,_,_,_,o,_,_,e,ex,_⟩:=I.hok p _ hk
          exact ⟨o,e,ex⟩
        · obtain ⟨_,_,_,_,o,_,_,e,ex,_⟩:=I.hok p _ hk
          exact ⟨o,e,ex⟩
      obtain ⟨o,e,ex⟩:=z
      refine ⟨⟨o,e,ex.1⟩,fun a e2=>?_⟩
      cases e2
      exact ⟨o,e,ex.2.1⟩
    · obtain ⟨o,_,_,_,e,ex,_⟩:=I.hok p _ hk
      refine ⟨⟨o,e,ex.1⟩,fun a e2=>?_⟩
      cases e2
      exact ⟨o,e,ex.2.1⟩
  | _=>exact False.elim ty
def tBM (K:PySem.W.Frag) (T:String) (r:V→List V→Hp→VK→Prop) (to:TE) (t:TA):TE:=fun σ H Q=>to σ H fun x H1=>tyV K T x H1∧t σ H1 fun xs H2=>r x xs H2 Q
variable {o e:Expr} {es:List Expr} {to:TE} {t:TA} {name:Str} {apos cpos:Pos} {T id:String} {r:V→List V→Hp→VK→Prop}
theorem pe_bm (pa:PlainAttrs T) (slot:Slot T name id) (hty:typeOf (.builtin id)=pure (.type "method_descriptor")) (hm:MtR X id r) (ho:PE X o to) (ha:PA X (e::es) t)
    (hbase:attributeBase o name X.env (eval o X.env)=eval o X.env:=by rfl)
    (hfew:((backTo cpos (starEach (e::es) X.env)).all (fun x=>!x.1) && (backToKw cpos (keywordEach [] X.env)).all (fun x=>x.1.isSome)
      && decide ((e::es).length+([]:List Keyword).length+(if ([]:List Keyword).isEmpty then 0 else 1)<30))=true:=by rfl)
    (hline:(apos.endLine == cpos.line)=true:=by rfl) (hs:starEach (e::es) X.env=(false,eval e X.env)::starEach es X.env:=by rfl) (hplain:(backTo cpos (starEach es X.env)).any (·.1)=false:=by rfl) :
    PE X (.Call (.Attribute o name apos) (e::es) [] cpos) (tBM X.K T r to t):=by
  intro pins s σ H Q I h
  refine wpAny_Call_method_late hbase hfew hline rfl (thn (ho pins s σ H _ I h) fun v s1 zz=>?_)
  obtain ⟨x,H1,I1,r1,ty,q1⟩:=zz
  obtain ⟨h1,h2⟩:=tyV_is I1 r1 ty
  refine ⟨T,id,pa,slot,hty,h1,h2,?_⟩
  have hA:=ha cpos pins s1 σ H1 _ I1 q1
  rw [hs] at hA ⊢
  refine Calls.callWith_builtin (by show (false || (backTo cpos (starEach es X.env)).any (·.1))=false;rw [hplain] <;> rfl) (Calls.evalArgs_plain ?_)
  refine thn hA fun us s2 zz=>?_
  obtain ⟨vs,H2,I2,r2,q2⟩:=zz
  exact hm pins s2 σ H2 x vs v us Q I2 r1 r2 q2
end
def MtM (X:Cx) (id:String) (r:V→List V→Hp→VK→Prop):Prop:=
  ∀(pins:List (Addr×Obj)) (s:Shared) (σ:St) (H:Hp) (x:V) (xs:List V) (v:Value) (us:List Value) (Q:VK),Inv X pins σ H s→RelV x v→Vals xs us→r x xs H Q→
    wpAny (model X.prog X.w) X.A (call (.builtin id) (v::us)) (EP X pins σ Q) X.xe s
theorem Vals.one {x:V} {us:List Value} (h:Vals [x] us):∃u,us=[u]∧RelV x u:=vals1 h
theorem Vals.two {x y:V} {us:List Value} (h:Vals [x,y] us):∃u v,us=[u,v]∧RelV x u∧RelV y v:=vals2 h
theorem Vals.eraseIdx:∀{xs:List V} {us:List Value} (i:Nat),Vals xs us→Vals (xs.eraseIdx i) (us.eraseIdx i)
  | _,_,_,.nil=>.nil
  | _,_,0,.cons _ t=>t
  | _,_,i+1,.cons r t=>.cons r (Vals.eraseIdx i t)
theorem len_erase {α:Type}:∀(l:List α) (i:Nat),(l.eraseIdx i).length≤l.length
  | [],_=>Nat.le_refl _
  | _::_,0=>Nat.le_succ _
  | _::r,i+1=>Nat.succ_le_succ (len_erase r i)
section
variable {X:Cx} {pins:List (Addr×Obj)} {σ:St} {H:Hp} {s:Shared} {l b:Addr} {xs ys zs:List V}
theorem Inv.lset {its its':List Value} {n:Nat} {f:Array Value→Array Value} {t':Nat} (I:Inv X pins σ H s) (hH:H l=some (.lst xs))
    (e:s.heap.get? l=some {cls:=.type "list",data:=.seq its.toArray n}) (hf:f its.toArray=its'.toArray) (hv:Vals ys its') (hz:ys.length≤sizeLine) :
    Inv X pins σ (upd H l (.lst ys)) {s with heap:=s.heap.update l (Obj.mapSeq f),toks:=t'}:=by
  have q:=PySem.IsL.update e f
  rw [hf] at q
  refine I.write (x:=l) (e:=l) (by rw [hH];exact trivial) (.inl rfl) (fun b' u hb hu=>(Heap.get?_update_other s.heap (Obj.mapSeq f) (Ne.symm hb)).trans hu) ⟨_,q⟩ ?_
  exact ⟨hz,its',_,hv,q⟩
theorem Inv.lnew {its:List Value} {t':Nat} (I:Inv X pins σ H s) (hv:Vals ys its) (hz:ys.length≤sizeLine) :
    Inv X pins σ (upd H s.heap.objs.size (.lst ys)) {s with heap:=s.heap.push {cls:=.type "list",data:=.seq its.toArray},toks:=t'}:=
  I.laid (fun _ _ q=>Heap.get?_push_of_some _ q) (Nat.le_refl _) ⟨hz,its,0,hv,Heap.get?_push_size _ rfl⟩
theorem Inv.fresh (I:Inv X pins σ H s):H s.heap.objs.size=none:=I.hok.fresh (Nat.le_refl _)
theorem Inv.lstM (I:Inv X pins σ H s) (hH:H l=some (.lst xs)):xs.length≤sizeLine∧∃(its:List Value) (n:Nat),Vals xs its∧xs.length=its.length∧s.heap.get? l=some {cls:=.type "list",data:=.seq its.toArray n}:=by
  obtain ⟨z,its,n,r,e⟩:=I.hok l _ hH
  exact ⟨z,its,n,r,r.length,e⟩
end
section
variable {X:Cx}
def rAppend:V→List V→Hp→VK→Prop:=fun x vs H Q=>∃l xs y,x = .ref l∧vs=[y]∧H l=some (.lst xs)∧xs.length<sizeLine∧Q .non (upd H l (.lst (xs++[y])))
theorem mt_append:MtM X "list.append" rAppend:=by
  intro pins s σ H x vs v us Q I rx rv h
  obtain ⟨l,xs,y,rfl,rfl,hH,hz,q⟩:=h
  cases rx
  obtain ⟨u,rfl,ru⟩:=rv.one
  obtain ⟨z,its,n,r,hl,e⟩:=I.lstM hH
  refine call_meets F.slot_list_append ⟨_,e,rfl⟩ F.entry_list_append (F.args_list_append_2 _ _) (PySem.list_append l its.toArray n u (by rw [List.size_toArray];omega)) ⟨e,?_⟩
  refine ⟨.non,_,I.lset (its':=its++[u]) hH e (by simp) (r.append (.cons ru .nil)) ?_,rfl,q⟩
  rw [List.length_append,List.length_singleton]
  omega
def rPopAt:V→List V→Hp→VK→Prop:=fun x vs H Q=>∃l xs i k y,x = .ref l∧vs=[.int i]∧H l=some (.lst xs)∧-(2 ^ 63)≤i∧i<2 ^ 63∧seqIndex? i xs.length=some k∧xs[k]? = some y∧Q y (upd H l (.lst (xs.eraseIdx k)))
theorem mt_popAt:MtM X "list.pop" rPopAt:=by
  intro pins s σ H x vs v us Q I rx rv h
  obtain ⟨l,xs,i,k,y,rfl,rfl,hH,h1,h2,hk,hy,q⟩:=h
  cases rx
  obtain ⟨u,rfl,ru⟩:=rv.one
  obtain ⟨t,rfl⟩:=ru
  obtain ⟨z,its,n,r,hl,e⟩:=I.lstM hH
  obtain ⟨w,hw,rw'⟩:=r.get hy
  refine call_meets F.slot_list_pop ⟨_,e,rfl⟩ F.entry_list_pop (F.args_list_pop_2 _ _)
    (MeetsSeq.list_pop_at l its.toArray n i t k w (fitsIndex_both h1 h2) (by rw [List.size_toArray,← hl];exact hk) (by rw [← Array.getElem?_toList];exact hw) (by rw [List.size_toArray];omega)) ⟨e,?_⟩
  refine ⟨y,_,I.lset (its':=its.eraseIdx k) hH e ?_ (r.eraseIdx k) ?_,rw',q⟩
  · show its.toArray.eraseIdxIfInBounds k=(its.eraseIdx k).toArray
    rw [List.eraseIdxIfInBounds_toArray]
  · have:=len_erase xs k
    omega
def rCat:R2:=fun x y H Q=>∃l b xs zs,x = .ref l∧y = .ref b∧H l=some (.lst xs)∧H b=some (.lst zs)∧xs.length+zs.length≤sizeLine∧∀p,H p=none→Q (.ref p) (upd H p (.lst (xs++zs)))
theorem op_cat:OpR X (binaryOp .Add) rCat:=by
  intro pins s σ H x y v u Q I rx ry h
  obtain ⟨l,b,xs,zs,rfl,rfl,hH,hB,hz,q⟩:=h
  cases rx
  cases ry
  obtain ⟨z,its,n,r,hl,e⟩:=I.lstM hH
  obtain ⟨z2,its2,n2,r2,hl2,e2⟩:=I.lstM hB
  refine PySem.P.add_list e e2 ?_ (by rw [List.size_toArray,List.size_toArray];omega)
  have ea:its.toArray++its2.toArray=(its++its2).toArray:=by simp
  rw [ea]
  exact ⟨.ref _,_,I.lnew (t':=s.toks) (r.append r2) (by rw [List.length_append];omega),rfl,q _ I.fresh⟩
end
end L2
namespace Att
open PySem PySem.W PySem.Calls PyProof.Rows
theorem ints_of_wellAll {P:Params} {h:Heap}:∀(ns:List Int) (vs:List Value),WellAll P h vs (ns.map WData.int)→IntsAre vs ns:=by
  intro ns
  induction ns with
  | nil=>
    intro vs w
    rw [List.map_nil] at w
    cases w
    exact .nil
  | cons n ns ih=>
    intro vs w
    rw [List.map_cons] at w
    cases w with
    | cons a b=>
      cases a
      exact .cons _ _ (ih _ b)
theorem script_of {l:OpenLaw} {n:Nat} (hn:l.most=some n) {P:Params} {h:Heap} {args:List WData} {vals:List Value}
    (hpre:l.row.toRowW.claim.pre args=true) (hwl:WellAll P h vals args) :
    ∃a vs ns,vals=[Value.ref a]∧args=[WData.list (ns.map WData.int)]∧h.get? a=some {cls:=.type "list",data:=.seq vs.toArray}∧IntsAre vs ns∧ns.length≤n:=by
  have hsh:WShape.hasAll [] args [.list .int]=true:=(pre_splitW hpre).1
  have hc:l.pre.holds [] {args:=args}=true:=(pre_splitW hpre).2
  obtain ⟨d,r,rfl,h1,h2⟩:=hasAllW_cons hsh
  obtain rfl:=hasAllW_nil h2
  obtain ⟨xs,rfl,h3⟩:=hasW_list h1
  obtain ⟨ns,rfl⟩:=items_int h3
  have hlen:ns.length≤n:=by
    unfold OpenLaw.pre at hc
    have h4:(WTm.not (.lt (.lit (.int (n:Int))) (.len (.arg 0)))).holds [] {args:=[.list (ns.map .int)]}=true:=by
      have h4:=(holds_andW hc).1
      rw [hn] at h4
      exact h4
    have h5:=condW_of h4 (w_not (w_lt w_lit (w_len_list (w_arg rfl))))
    rw [List.length_map] at h5
    refine Nat.le_of_not_lt fun q=>?_
    have q':(n:Int)<((ns.length:Nat):Int):=by omega
    first
      | (rw [decide_eq_true q'] at h5;exact absurd h5 (by decide))
      | (simp at h5;omega)
  cases hwl with
  | cons w1 w2=>
    cases w2
    cases w1 with
    | list ho hall=>exact ⟨_,_,ns,rfl,rfl,ho,ints_of_wellAll ns _ hall,hlen⟩
theorem post_true (l:OpenLaw) (args:List WData):l.row.toRowW.claim.post args (.bool true) args=true:=
  postW_of (r:=l.row.toRowW) (X:=(true == true))
    (show WShape.has [] (.bool true) .bool=true by first | rfl | decide | simp [WShape.has,WShape.arms,WShape.armsAll])
    (show (WTm.eq .res (.lit (.bool true))).value [] {args:=args,res:=some (.bool true),after:=args}=some (.bool (true == true)) from w_eq_bool (w_res rfl) w_lit) rfl
theorem attach_call {l:OpenLaw} {n:Nat} {q:Program} {loose:List Str} {XP:(Str→Option Value)→Heap→Prop} {YP:World→Heap→Prop} {d:DefRec}
    (hn:l.most=some n) (hdf:d.params.defaults=[])
    (call:∀(w:World) (s₀ s₁:Shared) (mg mb:Str→Option Value) (fa:Addr) (o:Obj) (pm cd doc:Value) (a:Addr) (vs:List Value) (ns:List Int),
      Ground q loose [] XP w s₀ mg mb s₁.heap→YP w s₁.heap→
      s₁.heap.get? fa=some o→o.data = .func (docDef d.name d.params d.body d.scope pm cd doc)→s₁.heap.CodeRec cd d.name→mg d.name=some (.ref fa)→
      s₁.heap.get? a=some {cls:=.type "list",data:=.seq vs.toArray}→IntsAre vs ns→ns.length≤n→s₁.gens = #[]→
      codeAny (model l.prog w) callerA (.call (.ref fa) ⟨[.ref a],[]⟩) (fun r s'=>r = .ok (.ret (.bool true))∧OldK s₁.heap s'.heap∧s'.os=s₁.os∧AllBare s'.gens) s₁) :
    WalkO q loose XP YP l.row.toRowW d [] (fun f vs=>PySem.call f vs):=by
  intro w s₀ s₁ mg mb G Y fa o pm cd doc dV kV ho hd hcd hD hmg hg args vals as hpre hlay hrd hwl hlo
  obtain rfl:dV = .none:=Dflts.none hD hdf
  obtain rfl:kV = .none:=Dflts.noKw hD
  obtain ⟨a,vs,ns,rfl,rfl,hobj,hints,hlen⟩:=script_of hn hpre hwl
  refine enter_call (codeAny_mono (call w s₀ s₁ mg mb fa o pm cd doc a vs ns G Y ho (fd_plain hd) hcd hmg hobj hints hlen hg) fun r s' hq=>?_)
  obtain ⟨rfl,h2,h3,h4⟩:=hq
  exact ⟨.inl ⟨.bool true,.bool true,[],rfl,fun _=>rfl,.bool true,post_true l _,fun _=>⟨List.Pairwise.nil,fun _ hm=>(nomatch hm)⟩⟩,h2,h3,h4⟩
end Att
namespace L2
open PySem PySem.Spec PyProof.Rows
theorem vals_ints:∀{vs:List Value} {ns:List Int},IntsAre vs ns→Vals (ns.map V.int) vs
  | _,_,.nil=>.nil
  | _,_,.cons n t h=>.cons ⟨t,rfl⟩ (vals_ints h)
def Only (H:Hp):Prop:=∀b,H b=none∨∃o xs,H b=some (.frz o (.lst xs))
theorem law_call {P:Program} {w:World} {K:PySem.W.Frag} {mg mb:Str→Option Value} {CX:CXT} {k:Nat} {fa a:Addr} {fd:FuncData} {x:Str} {sp:Sp} {s₁:Shared} {vs:List Value} {ns:List Int}
    (KX:K.In s₁.heap) (hns:s₁.heap.Ns mainGlobals mg) (hb:s₁.heap.Ns builtinsNs mb) (hbb:∀x:Str,x≠ "__name__" →mb x=bootBuiltins x) (hlim:s₁.heap.NoLimit) (hg:s₁.gens = #[])
    (ha:s₁.heap.get? a=some {cls:=.type "list",data:=.seq vs.toArray}) (hi:IntsAre vs ns) (hl:ns.length≤sizeLine) (hr:Room k callerA)
    (F:∀base:Heap,K.In base→base.Ns mainGlobals mg→FnOk P w K mg base CX k fa fd [x] sp) (hbind:∀(s:Shared) (u:Value),BindsTo s fd ⟨[u],[]⟩ [(x,u)])
    (hsp:∀H:Hp,Only H→SqL K H a (ns.map V.int)→sp [.ref a] H (fun v _=>v = .bl true) fun _ _ _=>False)
    (hCX:∀H e s',CX [] H s₁ (fun _ _ _=>False) e s'→False) :
    codeAny (model P w) callerA (.call (.ref fa) ⟨[.ref a],[]⟩) (fun r s'=>r = .ok (.ret (.bool true))∧OldK s₁.heap s'.heap∧s'.os=s₁.os∧AllBare s'.gens) s₁:=by
  have rv:=vals_ints hi
  have lenV:=hi.length
  have core:∀H:Hp,Only H→SqL K H a (ns.map V.int)→HOk P w H s₁.heap→(∀b,H b≠none→b=a)→(H a≠none→K.lookup a=none)→
      codeAny (model P w) callerA (.call (.ref fa) ⟨[.ref a],[]⟩) (fun r s'=>r = .ok (.ret (.bool true))∧OldK s₁.heap s'.heap∧s'.os=s₁.os∧AllBare s'.gens) s₁:=by
    intro H hO hS hok hA hK
    have base_of:∀{b:Addr} {o:Obj},s₁.heap.get? b=some o→H b=none→(hidT s₁.heap H).get? b=some o:=fun e n=>hidT_get e n
    have noA:∀{b:Addr} {o:Obj} {es:Array DictEntry} {ep:Nat},s₁.heap.get? b=some o→o.data = .dict es ep→H b=none:=fun {b o es ep} e d=>by
      cases q:H b with
      | none=>rfl
      | some u=>
        have e':b=a:=hA b (by rw [q];simp)
        subst e'
        rw [ha] at e;cases e
        have d':Data.seq vs.toArray _=Data.dict es ep:=d
        cases d'
    have nsK:∀{b:Addr} {m:Str→Option Value},s₁.heap.Ns b m→(hidT s₁.heap H).Ns b m:=fun {b m} ⟨o,es,ep,e,d,r⟩=>⟨o,es,ep,base_of e (noA e d),d,r⟩
    have hKb:K.In (hidT s₁.heap H):=fun b o e=>base_of (KX b o e) (by
      cases q:H b with
      | none=>rfl
      | some u=>
        have e':b=a:=hA b (by rw [q];simp)
        subst e'
        rw [hK (by rw [q];simp)] at e;cases e)
    have hM:Mod K mg (hidT s₁.heap H):=⟨hKb,nsK hns,⟨mb,nsK hb,hbb⟩,let ⟨mc,h1,h2⟩:=hlim;⟨mc,nsK h1,h2⟩⟩
    have e0:Env0 P w K mg (hidT s₁.heap H) callerA [] s₁ H:=⟨rfl,hM,fun b o e=>of_hidT e,Nat.le_of_eq (hidT_size _ _),trivial,fun b hb=>absurd (show b∈([]:List Addr) from hb) (by simp),hok,.of_eq hg⟩
    refine codeAny_mono ((F _ hKb (nsK hns)).run callerA [] s₁ H ⟨[.ref a],[]⟩ [.ref a] [.ref a] _ _ hr e0 (hbind s₁ (.ref a)) (.cons rfl .nil) (hsp H hO hS)) fun r s' h=>?_
    cases r with
    | error e=>exact (hCX H e s' h).elim
    | ok fl=>
      cases fl with
      | next=>exact False.elim h
      | brk=>exact False.elim h
      | cont=>exact False.elim h
      | ret u=>
        obtain ⟨v,H',os,bare,un,hok',r',q⟩:=h
        have q':v = .bl true:=q
        subst q'
        obtain rfl:u=Value.bool true:=r'
        refine ⟨rfl,OldK.of_keep fun b o e=>?_,os,bare⟩
        cases q:H b with
        | none=>exact un.keep b o e q (by intro z;exact absurd (show b∈([]:List Addr) from z) (by simp)) (by simp)
        | some u=>
          rcases hO b with z | ⟨ob,xs,z⟩
          ·rw [q] at z;cases z
          · have z2:=un.frzs b ob _ z
            obtain ⟨e1,_⟩:=hok b _ z
            obtain ⟨e2,_⟩:=hok' b _ z2
            rw [e] at e1;cases e1
            exact e2
  cases hk:K.lookup a with
  | some o=>
    have e:=KX a o hk
    rw [ha] at e
    cases e
    refine core (fun _=>none) (fun _=>.inl rfl) (.inr ⟨_,vs.toArray,_,hk,rfl,rfl,rfl,by rw [List.size_toArray,lenV];exact hl,by simpa using rv⟩) (fun b u z=>by have z':(none:Option HO)=some u:=z;cases z') (fun b z=>absurd rfl z) fun z=>absurd rfl z
  | none=>
    refine core (fun b=>if b=a then some (.frz {cls:=.type "list",data:=.seq vs.toArray} (.lst (ns.map V.int))) else none) (fun b=>?_) (.inl (.inr ⟨{cls:=.type "list",data:=.seq vs.toArray},if_pos rfl⟩)) (fun b u z=>?_) (fun b z=>?_) fun _=>hk
    · by_cases hb:b=a
      ·exact .inr ⟨_,_,if_pos hb⟩
      ·exact .inl (if_neg hb)
    · by_cases hb:b=a
      · have z':=(if_pos hb).symm.trans z
        cases z'
        subst hb
        exact ⟨ha,by rw [List.length_map];exact hl,vs,_,rv,ha⟩
      · have z':=(if_neg hb).symm.trans z
        cases z'
    · by_cases hb:b=a
      ·exact hb
      ·exact absurd (if_neg hb) z
theorem walk_of {l:PySem.W.OpenLaw} {n k:Nat} {q:Program} {loose:List Str} {XP:(Str→Option Value)→Heap→Prop} {YP:World→Heap→Prop} {d:DefRec} {K:Params→PySem.W.Frag} {CX:World→CXT} {sp:World→Sp} {x:Str}
    (hn:l.most=some n) (hn2:n≤sizeLine) (hdf:d.params.defaults=[]) (hr:Room k callerA)
    (hY:∀(w:World) (h:Heap),YP w h→(K w.params).In h)
    (F:∀(w:World) (mg:Str→Option Value) (fa:Addr) (h:Heap),(K w.params).In h→h.Ns mainGlobals mg→mg d.name=some (.ref fa)→
      ∃fd:FuncData,(∀(s:Shared) (u:Value),BindsTo s fd ⟨[u],[]⟩ [(x,u)])∧
        ∀base:Heap,(K w.params).In base→base.Ns mainGlobals mg→FnOk l.prog w (K w.params) mg base (CX w) k fa fd [x] (sp w))
    (hsp:∀(w:World) (H:Hp) (a:Addr) (ns:List Int),ns.length≤n→Only H→SqL (K w.params) H a (ns.map V.int)→sp w [.ref a] H (fun v _=>v = .bl true) fun _ _ _=>False)
    (hCX:∀(w:World) (H:Hp) (s:Shared) (e:Value) (s':Shared),CX w [] H s (fun _ _ _=>False) e s'→False) :
    PySem.W.WalkO q loose XP YP l.row.toRowW d [] (fun f vs=>PySem.call f vs):=by
  refine Att.attach_call hn hdf fun w s₀ s₁ mg mb fa o pm cd doc a vs ns G Y ho hd hcd hmg hobj hints hlen hg=>?_
  have KX:=hY w _ Y
  obtain ⟨fd,hb,hF⟩:=F w mg fa _ KX G.T.g hmg
  exact law_call KX G.T.g G.T.b G.T.builtins G.T.nolimit hg hobj hints (Nat.le_trans hlen hn2) hr hF hb (fun H hO hS=>hsp w H a ns hlen hO hS) fun H e s'=>hCX w H s₁ e s'
def inClass (s:Stmt) (j:Nat):Stmt:=match s with
  | .ClassDef _ _ _ body _ _ _ _ _ _ _=>body.getD j (.Pass ⟨0,0,0,0⟩)
  | _=>.Pass ⟨0,0,0,0⟩
def defArgs (s:Stmt):Arguments:=match s with
  | .FunctionDef _ a _ _ _ _ _ _ _ _=>a
  | _=>{posonlyargs:=[],args:=[],vararg:=none,kwonlyargs:=[],kw_defaults:=[],kwarg:=none,defaults:=[]}
def defBody (s:Stmt):List Stmt:=match s with
  | .FunctionDef _ _ b _ _ _ _ _ _ _=>b
  | _=>[]
def defScope (s:Stmt):Scope:=match s with
  | .FunctionDef _ _ _ _ _ _ sc _ _ _=>sc
  | _=>{kind:=.function,names:=[],isGenerator:=false,isCoroutine:=false}
abbrev CX0:CXT:=fun _ _ _ _ _ _=>False
abbrev E0:XK:=fun _ _ _=>False
theorem pass0 {X:Cx}:Passes CX0 X E0:=fun _ _ _ _ _ _ _ h=>h.elim
structure Fun (K:PySem.W.Frag) (x qual:Str) (st:Stmt) (f:Addr) (fd:FuncData):Prop where
  ex:∃(oc:Value) (od:Option Addr) (kV doc pm:Value) (an:Option Addr) (cdv ct:Value) (osl:Array (Option Value)),
    fd=PySem.W.fnOf x qual (defArgs st) (defBody st) (defScope st) .none kV doc pm an cdv ct∧K.lookup f=some ⟨oc,od,.func fd,osl⟩∧PySem.W.codeIn K cdv qual=true
  kp:PySem.W.keepIn K (.ref f)=true
section
variable {P:Program} {w:World} {K:PySem.W.Frag} {mg:Str→Option Value} {base:Heap}
theorem Fun.ok {x qual:Str} {st:Stmt} {f:Addr} {fd:FuncData} {N ps:List Str} {k:Nat} {sp:Sp} (F:Fun K x qual st f fd) (S:FnScope N ps (defScope st)) (len:∀vs H Q E,sp vs H Q E→vs.length=ps.length)
    (hbody:∀(cdv:Value) (A:Around) (outer:List Env) (s:Shared) (H:Hp) (vs:List V) (Q:VK) (E:XK),Room k (A.deeper (envOfC qual (defScope st) s.heap.objs.size f cdv))→sp vs H Q E→
      ∃t,PSs (cxOf CX0 P w K mg base N qual (defScope st) f cdv A outer s H E).nox (defBody st) t∧t {nx:=fun _ H'=>Q .non H',rt:=Q} (start N vs) H):FnOk P w K mg base CX0 (k+1) f fd ps sp:=by
  obtain ⟨oc,od,kV,doc,pm,an,cdv,ct,osl,rfl,lk,hcd⟩:=F.ex
  refine fn_of lk hcd S len fun A outer s H vs Q E hr hsp=>?_
  obtain ⟨t,h,q⟩:=hbody cdv A outer s H vs Q E hr hsp
  exact ⟨t,h.nox,q⟩
theorem Fun.binds {x qual:Str} {st:Stmt} {f:Addr} {fd:FuncData} {ps:List Str} (F:Fun K x qual st f fd)
    (h:∀(kV doc pm:Value) (an:Option Addr) (cdv ct:Value) (us:List Value),us.length=ps.length→bindArgs (PySem.W.fnOf x qual (defArgs st) (defBody st) (defScope st) .none kV doc pm an cdv ct) ⟨us,[]⟩=pure (ps.zip us)):Binds K fd ps []:=by
  obtain ⟨oc,od,kV,doc,pm,an,cdv,ct,osl,rfl,lk,hcd⟩:=F.ex
  exact .all (h kV doc pm an cdv ct)
theorem fun_mk {x qual:Str} {st:Stmt} {f:Addr} {oc:Value} {od an:Option Addr} {osl:Array (Option Value)} {kV doc pm cdv ct:Value} (l:K.lookup f=some ⟨oc,od,.func (PySem.W.fnOf x qual (defArgs st) (defBody st) (defScope st) .none kV doc pm an cdv ct),osl⟩)
    (c:PySem.W.codeIn K cdv qual=true) (k:PySem.W.keepIn K (.ref f)=true):Fun K x qual st f (PySem.W.fnOf x qual (defArgs st) (defBody st) (defScope st) .none kV doc pm an cdv ct):=⟨⟨oc,od,kV,doc,pm,an,cdv,ct,osl,rfl,l,c⟩,k⟩
end
def Same (H H':Hp):Prop:=∀b o,H b=some o→H' b=some o
theorem Same.refl (H:Hp):Same H H:=fun _ _ h=>h
theorem Same.trans {H H1 H2:Hp} (a:Same H H1) (b:Same H1 H2):Same H H2:=fun c o h=>b c o (a c o h)
theorem Same.seq {K:PySem.W.Frag} {H H':Hp} {a:Addr} {xs:List V} (e:Same H H') (h:SqL K H a xs):SqL K H' a xs:=by
  rcases h with (h | ⟨o,h⟩) | h
  ·exact .inl (.inl (e _ _ h))
  ·exact .inl (.inr ⟨o,e _ _ h⟩)
  ·exact .inr h
def clStep (env:Env) (cs:List (Str×Addr)) (p:Str×NameKind):List (Str×Addr):=if p.2 == .free then (p.1,(env.cells.lookup p.1).getD 0)::cs else cs
def clOf (env:Env) (names:List (Str×NameKind)):List (Str×Addr):=names.foldl (clStep env) []
theorem forIn_foldl {α β:Type} (f:α→β→Sem (ForInStep β)) (g:β→α→β):∀(l:List α) (b:β),(∀x∈l,∀b,f x b=pure (.yield (g b x)))→forIn l b f=pure (l.foldl g b)
  | [],_,_=>rfl
  | x::l,b,h=>by
    rw [List.forIn_cons,h x List.mem_cons_self,pure_bind]
    exact forIn_foldl f g l (g b x) fun y hy=>h y (List.mem_cons_of_mem _ hy)
theorem closureFor_clOf {sc:Scope} {env:Env} (h:∀x,(x,NameKind.free)∈sc.names→∃c,env.cells.lookup x=some c):closureFor sc env=pure (clOf env sc.names):=by
  simp only [closureFor]
  rw [forIn_foldl _ (clStep env) sc.names [] (fun p hp cs=>by
    obtain ⟨n,k⟩:=p
    cases k with
    | free=>
      obtain ⟨c,hc⟩:=h n hp
      simp only [clStep,cellOf,hc,beq_self_eq_true,if_true,Option.getD_some,pure_bind]
    | _=>simp only [clStep];rfl)]
  rfl
theorem clOf_mem {env:Env}:∀(names:List (Str×NameKind)) (acc:List (Str×Addr)) (x:Str) (c:Addr),(∀x,(x,NameKind.free)∈names→∃c,env.cells.lookup x=some c)→(∀x c,(x,c)∈acc→env.cells.lookup x=some c)→
    (x,c)∈names.foldl (clStep env) acc→env.cells.lookup x=some c
  | [],_,x,c,_,h,m=>h x c m
  | (n,k)::r,acc,x,c,hf,h,m=>by
    refine clOf_mem r (clStep env acc (n,k)) x c (fun y hy=>hf y (List.mem_cons_of_mem _ hy)) (fun y d hy=>?_) m
    unfold clStep at hy
    split at hy
    · rename_i hk
      have hk':k = .free:=by simpa using hk
      subst hk'
      obtain ⟨e,he⟩:=hf n List.mem_cons_self
      rcases List.mem_cons.mp hy with z | z
      · cases z
        show env.cells.lookup n=some _
        rw [he];rfl
      ·exact h y d z
    ·exact h y d hy
theorem clOf_some {env:Env} {x:Str}:∀(names:List (Str×NameKind)) (acc:List (Str×Addr)),((x,NameKind.free)∈names∨(acc.lookup x).isSome=true)→((names.foldl (clStep env) acc).lookup x).isSome=true
  | [],_,h=>h.elim (fun z=>nomatch z) id
  | (n,k)::r,acc,h=>by
    refine clOf_some r (clStep env acc (n,k)) ?_
    by_cases hm:(x,NameKind.free)∈r
    ·exact .inl hm
    · refine .inr ?_
      unfold clStep
      rcases h with h | h
      · rcases List.mem_cons.mp h with z | z
        · cases z
          simp [List.lookup_cons]
        ·exact absurd z hm
      · split
        · simp only [List.lookup_cons]
          cases x == n <;> simp [h]
        ·exact h
def cellsC (env:Env) (sc:Scope) (C:Addr):List (Str×Addr):=cellsFrom (C+1) sc.names (clOf env sc.names)
theorem cellsFrom_mem {x:Str}:∀(names:List (Str×NameKind)) (n:Nat) (acc:List (Str×Addr)),(x,NameKind.cell)∈names∨(acc.lookup x).isSome=true→((cellsFrom n names acc).lookup x).isSome=true
  | [],_,_,h=>h.elim (fun z=>nomatch z) id
  | (y,k)::r,n,acc,h=>by
    unfold cellsFrom
    split
    · refine cellsFrom_mem r (n+1) ((y,n)::acc) ?_
      by_cases hm:(x,NameKind.cell)∈r
      ·exact .inl hm
      · refine .inr ?_
        rcases h with h | h
        · rcases List.mem_cons.mp h with z | z
          · cases z
            simp [List.lookup_cons]
          ·exact absurd z hm
        · simp only [List.lookup_cons]
          cases x == y <;> simp [h]
    · rename_i hk
      refine cellsFrom_mem r n acc ?_
      rcases h with h | h
      · rcases List.mem_cons.mp h with z | z
        ·cases z;exact absurd rfl hk
        ·exact .inl z
      ·exact .inr h
theorem cf_mem:∀(names:List (Str×NameKind)) (h:Heap) (acc:List (Str×Addr)) (x:Str) (c:Addr),(x,c)∈cellsFrom h.objs.size names acc→(x,c)∈acc∨(h.objs.size≤c∧(pushCells h names).IsCell c none)
  | [],_,_,_,_,m=>.inl m
  | (n,k)::r,h,acc,x,c,m=>by
    unfold cellsFrom at m
    unfold pushCells
    split at m
    · rename_i hk
      rw [if_pos hk]
      have m':(x,c)∈cellsFrom (h.push {cls:=.type "cell",data:=.cell none}).objs.size r ((n,h.objs.size)::acc):=by rw [Heap.size_push];exact m
      rcases cf_mem r (h.push {cls:=.type "cell",data:=.cell none}) _ x c m' with z | ⟨z1,z2⟩
      · rcases List.mem_cons.mp z with e | e
        · cases e
          exact .inr ⟨Nat.le_refl _,⟨_,pushCells_keeps _ _ _ _ (Heap.get?_push_size _ rfl),rfl⟩⟩
        ·exact .inl e
      · rw [Heap.size_push] at z1
        exact .inr ⟨by omega,z2⟩
    · rename_i hk
      rw [if_neg hk]
      exact cf_mem r h acc x c m
theorem cf_own {n0:Nat} {x:Str}:∀(names:List (Str×NameKind)) (n:Nat) (acc:List (Str×Addr)) (c:Addr),((x,NameKind.cell)∈names∨∀d,acc.lookup x=some d→n0≤d)→n0≤n→(cellsFrom n names acc).lookup x=some c→n0≤c
  | [],_,_,c,h,_,e=>h.elim (fun z=>nomatch z) fun z=>z c e
  | (y,k)::r,n,acc,c,h,hn,e=>by
    unfold cellsFrom at e
    split at e
    · refine cf_own r (n+1) ((y,n)::acc) c ?_ (by omega) e
      by_cases hm:(x,NameKind.cell)∈r
      ·exact .inl hm
      · refine .inr fun d hd=>?_
        by_cases hxy:x=y
        · subst hxy
          have hnd:n=d:=by simpa [List.lookup_cons] using hd
          rw [← hnd]
          exact hn
        · have hb:(x == y)=false:=by simpa using hxy
          simp only [List.lookup_cons,hb] at hd
          rcases h with h | h
          · rcases List.mem_cons.mp h with z | z
            ·cases z;exact absurd rfl hxy
            ·exact absurd z hm
          ·exact h d hd
    · rename_i hk
      refine cf_own r n acc c ?_ hn e
      rcases h with h | h
      · rcases List.mem_cons.mp h with z | z
        ·cases z;exact absurd rfl hk
        ·exact .inl z
      ·exact .inr h
theorem cf_inj:∀(names:List (Str×NameKind)) (n:Nat) (acc:List (Str×Addr)),(∀y d,(y,d)∈acc→d<n)→(∀y z d,(y,d)∈acc→(z,d)∈acc→y=z)→
    ∀y z d,(y,d)∈cellsFrom n names acc→(z,d)∈cellsFrom n names acc→y=z
  | [],_,_,_,h=>h
  | (x,k)::r,n,acc,hl,h=>by
    unfold cellsFrom
    split
    · refine cf_inj r (n+1) ((x,n)::acc) (fun y d hm=>?_) fun y z d h1 h2=>?_
      · rcases List.mem_cons.mp hm with e | e
        ·cases e;exact Nat.lt_succ_self _
        ·exact Nat.lt_succ_of_lt (hl y d e)
      · rcases List.mem_cons.mp h1 with e1 | e1 <;> rcases List.mem_cons.mp h2 with e2 | e2
        ·cases e1;cases e2;rfl
        ·cases e1;exact absurd (hl z n e2) (Nat.lt_irrefl _)
        ·cases e2;exact absurd (hl y n e1) (Nat.lt_irrefl _)
        ·exact h y z d e1 e2
    ·exact cf_inj r n acc hl h
abbrev NoE:Value→Shared→Prop:=fun _ _=>False
theorem compLoop_go {prog:Program} {w:World} {A:Around} {R:Result→Shared→Prop} {s:Shared} {elt target iter:Expr} {ifs:List Expr} {scope:Scope} {pos:Pos} {it acc:Value} {env:Env} (I:Nat→Shared→Prop)
    (turn:∀n s,I n s→wpAny (model prog w) A (pyNext it) (fun r s₁=>match r with
      | none=>R (.ok .next) s₁
      | some v=>wpAny (model prog w) A (letOwnedTupleGo target it v) (fun _ s₂=>wpAny (model prog w) A (assign target env v) (fun _ s₃=>
          wpAny (model prog w) A (forIn ifs true fun c r=>if r=true then do let ok ← isTrue c env (eval c env);pure (ForInStep.yield ok) else pure (ForInStep.yield r)) (fun ok s₄=>
            if ok=true then wpAny (model prog w) A (eval elt env) (fun x s₅=>
              wpAny (model prog w) A (call (.builtin "list.append") [acc,x]) (fun _ s₆=>∃m,m<n∧I m s₆) NoE s₅) NoE s₄
            else ∃m,m<n∧I m s₄) NoE s₃) NoE s₂) NoE s₁) NoE s)
    (n:Nat) (h:I n s):codeAny (model prog w) A (.compLoop (.ListComp elt [⟨target,iter,ifs,0⟩] scope pos) 0 it acc env) R s:=by
  refine codeAny_loop rfl I (fun n s hI=>?_) n h
  show wpAny _ A ((compTurn (.ListComp elt [⟨target,iter,ifs,0⟩] scope pos) 0 it acc env).onRaise (fun x=>do noteFrame x env;theTreesLotGoes x)) _ _ s
  refine wpAny_noted ?_
  rw [compTurn_list]
  refine wpAny_bind (wpAny_standAt (wpAny_bind (wpAny_mono (turn n s hI) (fun r s₁ h₁=>?_) fun _ _ h'=>h'.elim)))
  cases r with
  | none=>exact wpAny_pure h₁
  | some v=>
    refine wpAny_bind (wpAny_mono h₁ (fun _ s₂ h₂=>?_) fun _ _ h'=>h'.elim)
    refine wpAny_bind (wpAny_mono h₂ (fun _ s₃ h₃=>wpAny_bind (wpAny_mono h₃ (fun ok s₄ h₄=>?_) fun _ _ h'=>h'.elim)) fun _ _ h'=>h'.elim)
    cases ok with
    | false=>exact wpAny_pure ⟨rfl,h₄⟩
    | true=>
      exact wpAny_bind (wpAny_bind (wpAny_mono h₄ (fun x s₅ h₅=>wpAny_bind (wpAny_mono h₅ (fun _ s₆ h₆=>wpAny_pure (wpAny_pure ⟨rfl,h₆⟩)) fun _ _ h'=>h'.elim)) fun _ _ h'=>h'.elim))
def cxComp (X:Cx) (sc:Scope) (N:List Str) (C:Addr) (s:Shared) (H:Hp) (fp:List Addr) (pn:List (Addr×Obj)):Cx:=
  {X with env:=compEnvC sc (cellsC X.env sc C) C X.env,N:=N,s₀:=s,H₀:=H,outer:=X.stack,ex:=fp,fn:=fun x=>sc.names.any fun p=>p.1 == x && p.2 == .cell,pn:=pn,xe:=NoE}
theorem relabel_lookup {sc:Scope} {env:Env} (x:Str):(relabel sc env).names.lookup x=(sc.names.lookup x).map fun k=>if (k == NameKind.free && env.scope.kind == .function && env.kindOf x == some .cell)=true then NameKind.cell else k:=by
  unfold relabel
  show List.lookup x (sc.names.map _)=_
  induction sc.names with
  | nil=>rfl
  | cons p r ih=>
    obtain ⟨n,k⟩:=p
    rw [List.map_cons]
    have e1:(if (k == NameKind.free && env.scope.kind == .function && env.kindOf n == some .cell)=true then (n,NameKind.cell) else (n,k))=(n,if (k == NameKind.free && env.scope.kind == .function && env.kindOf n == some .cell)=true then NameKind.cell else k):=by split <;> rfl
    show List.lookup x ((if (k == NameKind.free && env.scope.kind == .function && env.kindOf n == some .cell)=true then (n,NameKind.cell) else (n,k))::_)=_
    rw [e1]
    by_cases hx:x=n
    · subst hx
      simp only [List.lookup_cons,beq_self_eq_true,Option.map_some]
    · have hb:(x == n)=false:=by simpa using hx
      simp only [List.lookup_cons,hb]
      exact ih
structure CompScope (ps sc:Scope) (pN own:List Str) (caps:List Nat) (N:List Str):Prop where
  kind:sc.kind = .function
  uniq:∀p∈sc.names,sc.names.lookup p.1=some p.2
  nd:N.Nodup
  names:N=own++caps.map fun j=>pN.getD j ""
  free:∀p∈sc.names,p.2 = .free→ps.names.lookup p.1=some .cell∨ps.names.lookup p.1=some .free
  capF:∀j∈caps,j<pN.length∧sc.names.lookup (pN.getD j "")=some .free
def stC (own:List Str) (caps:List Nat) (σ:St):St:=own.map (fun _=>none)++caps.map fun j=>(σ[j]?).getD none
section
variable {X:Cx} {pins:List (Addr×Obj)} {σ:St} {H:Hp} {s:Shared} {ps sc:Scope} {own pN:List Str} {caps:List Nat} {N:List Str} {fp:List Addr}
theorem CompScope.cells (S:CompScope ps sc pN own caps N) (hps:X.env.scope=ps) (ok:X.Ok):∀x,(x,NameKind.free)∈sc.names→∃c,X.env.cells.lookup x=some c:=fun x hx=>by
  refine ok.has x ?_
  show X.env.scope.names.lookup x=_∨X.env.scope.names.lookup x=_
  rw [hps]
  exact S.free (x,.free) hx rfl
theorem cellsC_mem (hfr:∀x,(x,NameKind.free)∈sc.names→∃c,X.env.cells.lookup x=some c) {C:Addr} {x:Str} {c:Addr} {h:Heap} (hC:C+1=h.objs.size) (m:(x,c)∈cellsC X.env sc C):X.env.cells.lookup x=some c∨(h.objs.size≤c∧(pushCells h sc.names).IsCell c none):=by
  unfold cellsC at m
  rw [hC] at m
  rcases cf_mem sc.names h _ x c m with z | z
  ·exact .inl (clOf_mem sc.names [] x c hfr (fun _ _ z=>nomatch z) z)
  ·exact .inr z
theorem blockOk (I:Inv X pins σ H s) (hps:X.env.scope=ps) (S:CompScope ps sc pN own caps N) (hf:∀b∈fp,FpOk X pins H b) (ho:∀b∈fp,∃o,s.heap.get? b=some o∧∀v,o.data≠.cell v) :
    (cxComp X sc N s.heap.objs.size s H fp (X.pn++pins)).Ok where
  mod:=I.ok.mod
  kind:=S.kind
  glob:=I.ok.glob
  blt:=I.ok.blt
  above:=Nat.le_refl _
  inj:=fun x y c h1 h2=>by
    have cl:∀y d,(y,d)∈clOf X.env sc.names→X.env.cells.lookup y=some d:=fun y d m=>clOf_mem sc.names [] y d (S.cells hps I.ok) (fun _ _ z=>nomatch z) m
    refine cf_inj sc.names (s.heap.objs.size+1) (clOf X.env sc.names) (fun y d m=>?_) (fun y z d m1 m2=>I.ok.inj y z d (cl y d m1) (cl z d m2)) x y c (PySem.mem_of_lookup h1) (PySem.mem_of_lookup h2)
    obtain ⟨v,q⟩:=I.cell y d (cl y d m)
    exact Nat.lt_succ_of_lt q.lt
  has:=fun x hx=>by
    have hx1:(relabel sc X.env).names.lookup x=some .cell∨(relabel sc X.env).names.lookup x=some .free:=hx
    have hx':(x,NameKind.cell)∈sc.names∨(x,NameKind.free)∈sc.names:=by
      rw [relabel_lookup] at hx1
      cases e:sc.names.lookup x with
      | none=>rw [e] at hx1;simp at hx1
      | some k=>
        rw [e] at hx1
        have hm:=PySem.mem_of_lookup e
        cases k with
        | free=>exact .inr hm
        | cell=>exact .inl hm
        | _=>simp at hx1
    have q:((cellsFrom (s.heap.objs.size+1) sc.names (clOf X.env sc.names)).lookup x).isSome=true:=by
      rcases hx' with z | z
      ·exact cellsFrom_mem sc.names _ _ (.inl z)
      ·exact cellsFrom_mem sc.names _ _ (.inr (clOf_some sc.names [] (.inl z)))
    exact Option.isSome_iff_exists.mp q
  cab:=fun x c hx h=>by
    have hx':(x,NameKind.cell)∈sc.names:=by
      have hx:(sc.names.any fun p=>p.1 == x && p.2 == .cell)=true:=hx
      obtain ⟨⟨a,b⟩,hm,he⟩:=List.any_eq_true.mp hx
      simp at he
      obtain ⟨rfl,rfl⟩:=he
      exact hm
    exact cf_own (n0:=s.heap.objs.size) sc.names (s.heap.objs.size+1) (clOf X.env sc.names) c (.inl hx') (Nat.le_succ _) h
  hd:=I.ok.hd
  frames:=I.ok.frames
  stk:=.inl rfl
  exf:=fun b hb=>by
    obtain ⟨o,e,_⟩:=ho b hb
    refine ⟨Nat.ne_of_lt (Heap.lt_size e),fun x c h z=>?_⟩
    subst z
    rcases cellsC_mem (S.cells hps I.ok) (h:=s.heap.push {cls:=.type "dict",data:=.dict #[]}) (by rw [Heap.size_push]) (PySem.mem_of_lookup h) with q | ⟨q,_⟩
    ·exact (hf c hb).2.2.2.2.1 x c q rfl
    · rw [Heap.size_push] at q
      exact absurd (Nat.lt_of_lt_of_le (Nat.lt_of_lt_of_le (Heap.lt_size e) (Nat.le_succ _)) q) (Nat.lt_irrefl _)
  bs:=I.bs
  bsz:=Nat.le_trans I.ok.bsz I.sz
  noex:=fun b o e hb=>by
    rcases (hf b hb).2.2.2.1 with z | z
    ·exact I.ok.noex b o e z
    ·exact absurd (Nat.lt_of_lt_of_le (Heap.lt_size e) (Nat.le_trans I.ok.bsz z)) (Nat.lt_irrefl _)
  exfs:=fun b hb z=>by
    rcases List.mem_cons.mp (I.stkSub b z) with q | q
    ·exact (hf b hb).2.1 q
    ·exact (hf b hb).2.2.1 q
  funs:=I.stack
  frf:=I.stkFree
def blockAt (sc:Scope) (s:Shared):Shared:={s with heap:=pushCells (s.heap.push {cls:=.type "dict",data:=.dict #[]}) sc.names}
theorem blockInv (I:Inv X pins σ H s) (hps:X.env.scope=ps) (hpN:X.N=pN) (S:CompScope ps sc pN own caps N) (hf:∀b∈fp,FpOk X pins H b) (ho:∀b∈fp,∃o,s.heap.get? b=some o∧∀v,o.data≠.cell v) :
    Inv (cxComp X sc N s.heap.objs.size s H fp (X.pn++pins)) [] (stC own caps σ) H (blockAt sc s):=by
  have hk:∀b o,s.heap.get? b=some o→(blockAt sc s).heap.get? b=some o:=fun b o e=>pushCells_keeps _ _ b o (Heap.get?_push_of_some _ e)
  have hns:(blockAt sc s).heap.Ns s.heap.objs.size fun _=>none:=(Heap.Ns.new s.heap (.type "dict")).keeps (pushCells_keeps _ _)
  have hcl:∀x c,(cellsC X.env sc s.heap.objs.size).lookup x=some c→X.env.cells.lookup x=some c∨(s.heap.objs.size+1≤c∧(blockAt sc s).heap.IsCell c none):=fun x c e=>by
    rcases cellsC_mem (S.cells hps I.ok) (h:=s.heap.push {cls:=.type "dict",data:=.dict #[]}) (by rw [Heap.size_push]) (PySem.mem_of_lookup e) with q | ⟨q,r⟩
    ·exact .inl q
    · rw [Heap.size_push] at q
      exact .inr ⟨q,r⟩
  refine ⟨blockOk I hps S hf ho,rfl,I.bare,Un.kept hk,⟨_,hns,fun i x v e1 e2 e3=>?_⟩,fun x c e=>?_,I.hok.fresh (Nat.le_refl _),fun x c e=>?_,fun p hp=>?_,I.hok.kept hk,?_⟩
  · have e1':N[i]? = some x:=e1
    rw [S.names] at e1'
    unfold stC at e2
    by_cases hi:i<own.length
    · rw [List.getElem?_append_left (by simpa using hi),List.getElem?_map] at e2
      cases q:own[i]? with
      | none=>rw [q] at e2;cases e2
      | some y=>rw [q] at e2;cases e2
    · rw [List.getElem?_append_right (by omega),List.getElem?_map] at e1'
      rw [List.getElem?_append_right (by simp;omega),List.getElem?_map] at e2
      simp only [List.length_map] at e2
      cases q:caps[i - own.length]? with
      | none=>rw [q] at e2;cases e2
      | some j=>
        rw [q] at e1' e2
        have e1'':pN.getD j "" = x:=Option.some.inj e1'
        have e2':(σ[j]?).getD none=some v:=Option.some.inj e2
        have hj:σ[j]? = some (some v):=by
          cases z:σ[j]? with
          | none=>rw [z] at e2';cases e2'
          | some o=>rw [z] at e2';exact congrArg some e2'
        obtain ⟨hlt,hfree⟩:=S.capF j (List.mem_of_getElem? q)
        rw [e1''] at hfree
        have hNj:X.N[j]? = some x:=by
          rw [hpN,← e1'']
          simp [List.getD,List.getElem?_eq_getElem hlt]
        have hps':=S.free (x,.free) (PySem.mem_of_lookup hfree) rfl
        have vis:Vis X.env.scope x:=by rw [hps];exact .inr hps'
        obtain ⟨m,hn,hl⟩:=I.loc
        obtain ⟨u,r,l⟩:=hl j x v hNj hj vis
        refine ⟨u,r,.inr ?_⟩
        have hkind:(relabel sc X.env).names.lookup x=some .cell∨(relabel sc X.env).names.lookup x=some .free:=by
          rw [relabel_lookup,hfree]
          show some (if _ then _ else _)=_∨some (if _ then _ else _)=_
          split
          ·exact .inl rfl
          ·exact .inr rfl
        refine ⟨hkind,?_⟩
        have hcell:X.env.kindOf x=some .cell∨X.env.kindOf x=some .free:=by
          show X.env.scope.names.lookup x=_∨X.env.scope.names.lookup x=_
          rw [hps];exact hps'
        rcases l with ⟨hloc,_⟩ | ⟨_,c,hc,hcv⟩
        ·rcases hcell with z | z <;> (rw [hloc] at z;cases z)
        · have q2:((cellsC X.env sc s.heap.objs.size).lookup x).isSome=true:=cellsFrom_mem sc.names _ _ (.inr (clOf_some sc.names [] (.inl (PySem.mem_of_lookup hfree))))
          obtain ⟨d,hd⟩:=Option.isSome_iff_exists.mp q2
          refine ⟨d,hd,?_⟩
          rcases hcl x d hd with z | ⟨z,_⟩
          · rw [hc] at z;cases z
            exact hcv.keeps hk
          ·
            exfalso
            have hnc:(x,NameKind.cell)∉sc.names:=fun hm=>by
              have:=S.uniq _ hm
              rw [hfree] at this;cases this
            have hmem:=PySem.mem_of_lookup hd
            have hcl2:∀(names:List (Str×NameKind)) (n:Nat) (acc:List (Str×Addr)),(x,NameKind.cell)∉names→(cellsFrom n names acc).lookup x=acc.lookup x:=by
              intro names
              induction names with
              | nil=>intro _ _ _;rfl
              | cons p r ih=>
                intro n acc hm
                obtain ⟨y,k⟩:=p
                unfold cellsFrom
                split
                · rename_i hkk
                  have hkk':k = .cell:=by simpa using hkk
                  subst hkk'
                  rw [ih _ _ fun z=>hm (List.mem_cons_of_mem _ z)]
                  have hxy:(x == y)=false:=by
                    cases hb:x == y with
                    | false=>rfl
                    | true=>exact absurd (by rw [beq_iff_eq.mp hb];exact List.mem_cons_self) hm
                  simp only [List.lookup_cons,hxy]
                ·exact ih _ _ fun z=>hm (List.mem_cons_of_mem _ z)
            have e5:(clOf X.env sc.names).lookup x=some d:=(hcl2 sc.names _ _ hnc).symm.trans hd
            have e6:=clOf_mem sc.names [] x d (S.cells hps I.ok) (fun _ _ z=>nomatch z) (PySem.mem_of_lookup e5)
            rw [hc] at e6;cases e6
            exact absurd (Nat.lt_of_lt_of_le (Nat.lt_of_lt_of_le hcv.lt (Nat.le_succ _)) z) (Nat.lt_irrefl _)
  · rcases hcl x c e with z | ⟨_,z⟩
    · obtain ⟨v,q⟩:=I.cell x c z
      exact ⟨v,q.keeps hk⟩
    ·exact ⟨_,z⟩
  · rcases hcl x c e with z | ⟨z,_⟩
    ·exact I.freeC x c z
    ·exact I.hok.fresh (by omega)
  · rw [List.append_nil] at hp
    obtain ⟨e,n,ne,nf,d⟩:=I.pin p hp
    refine ⟨hk _ _ e,n,Nat.ne_of_lt (Heap.lt_size e),fun z=>?_,d⟩
    rcases List.mem_cons.mp (I.stkSub p.1 z) with q | q
    ·exact ne q
    ·exact nf q
  · show (stC own caps σ).length=N.length
    rw [S.names]
    simp [stC]
theorem blockBack (I:Inv X pins σ H s) (hf:∀b∈fp,FpOk X pins H b) {C:Addr} {pn:List (Addr×Obj)} {pins':List (Addr×Obj)} {σ':St} {H':Hp} {s':Shared} (I':Inv (cxComp X sc N C s H fp pn) pins' σ' H' s'):Inv X pins σ H' s':=
  I.call' (ch:=fp) I'.os I'.base I'.hok I'.bare fun b hb=>⟨(hf b hb).2.2.2.1,(hf b hb).2.1,(hf b hb).2.2.2.2.1,(hf b hb).2.2.2.2.2⟩
end
def PTs (X:Cx) (ifs:List Expr) (t:TT):Prop:=
  ∀(pins:List (Addr×Obj)) (s:Shared) (σ:St) (H:Hp) (Q:Bool→Hp→Prop),Inv X pins σ H s→t σ H Q→
    wpAny (model X.prog X.w) X.A (forIn ifs true fun c r=>if r=true then do let ok ← isTrue c X.env (eval c X.env);pure (ForInStep.yield ok) else pure (ForInStep.yield r)) (TP X pins σ Q) X.xe s
def tYes:TT:=fun _ H Q=>Q true H
theorem pts_nil {X:Cx}:PTs X [] tYes:=fun _ _ _ H _ I h=>wpAny_tests_nil ⟨H,I,h⟩
theorem pts_one {X:Cx} {c:Expr} {t:TT} (h:PT X c t):PTs X [c] t:=fun pins s σ H Q I hw=>wpAny_tests_one (h pins s σ H Q I hw)
def tCompAt (own:List Str) (caps:List Nat) (J:It) (g:TG) (tt:TT) (te:TE) (D:Addr) (σ:St) (H:Hp) (Q:Hp→Prop):Prop:=
  ∃W:Nat→Nat→St→Hp→Prop,(∃m,W 0 m (stC own caps σ) H)∧∀i m σ' H',W i m σ' H'→
    (J.stop i H'∧Q H')∨(J.go i H'∧∃N:St→Hp→Prop,(∀σ2 H2,N σ2 H2→∃m',m'<m∧W (i+1) m' σ2 H2)∧∀x H2,J.yld i H' x H2→g x σ' H2 fun σ2 H3=>tt σ2 H3 fun b H4=>
      if b=true then te σ2 H4 fun y H5=>∃ys,H5 D=some (.lst ys)∧ys.length<sizeLine∧N σ2 (upd H5 D (.lst (ys++[y]))) else N σ2 H4)
def tComp (own:List Str) (caps:List Nat) (wi:TI) (g:TG) (tt:TT) (te:TE):TE:=fun σ H Q=>wi σ H fun J H1=>∀D,H1 D=none→tCompAt own caps J g tt te D σ (upd H1 D (.lst [])) (Q (.ref D))
theorem newEnv_block {M:Model} {A:Around} {E:Value→Shared→Prop} {s:Shared} {sc:Scope} {g:Addr} {cl:List (Str×Addr)} {qual:Str} {env:Env} {Q:Env→Shared→Prop}
    (h:Q (newEnv sc s.heap.objs.size g (cellsFrom (s.heap.objs.size+1) sc.names cl) qual none .none (some env) builtinsNs) (blockAt sc s)):wpAny M A (newFunctionEnv sc g cl [] qual none .none (some env)) Q E s:=by
  simp only [newFunctionEnv,Option.isSome_some,if_true]
  refine wpAny_bind (wpAny_alloc ?_)
  refine wpAny_bind (wpAny_layCells _ (fun name kind cells=>by cases hkc:kind == NameKind.cell <;> simp [hkc]) _ _ _ _ ?_)
  rw [show ({s with heap:=s.heap.push {cls:=.type "dict",data:=.dict #[]}}:Shared).heap.objs.size=s.heap.objs.size+1 from Heap.size_push ..]
  rw [List.forIn_nil]
  exact wpAny_bind (wpAny_pure (wpAny_pure h))
def BlockEnd (X:Cx) (pins:List (Addr×Obj)) (σ:St) (Q:Hp→Prop) (C:Addr) (r:Result) (s':Shared):Prop:=
  ∃H',r = .ok .next∧Inv X pins σ H' s'∧(∃m,s'.heap.Ns C m)∧FpOk X pins H' C∧Q H'
section
variable {X:Cx} {ps sc:Scope} {own pN:List Str} {caps:List Nat} {N:List Str}
theorem comp_block {pins:List (Addr×Obj)} {σ:St} {H:Hp} {s:Shared} {E:Value→Shared→Prop} {elt tg iter:Expr} {ifs:List Expr} {pos:Pos} {J:It} {fp:List Addr} {it D:Addr} {tn:Nat→Heap→Prop} {g:TG} {tt:TT} {te:TE} {Q:Hp→Prop}
    (I:Inv X pins σ H s) (hps:X.env.scope=ps) (hpN:X.N=pN) (S:CompScope ps sc pN own caps N) (T:Turn X.prog X.w X.K tg J fp it tn) (st:tn 0 s.heap) (hf:∀b∈fp,FpOk X pins H b) (hc:X.calm=true)
    (hg:∀C s H fp pn,PG (cxComp X sc N C s H fp pn) tg g) (ht:∀C s H fp pn,PTs (cxComp X sc N C s H fp pn) ifs tt) (he:∀C s H fp pn,PE (cxComp X sc N C s H fp pn) elt te)
    (h:tCompAt own caps J g tt te D σ H Q) :
    wpAny (model X.prog X.w) X.A (newFunctionEnv sc X.env.globals (clOf X.env sc.names) [] X.env.qual none .none (some X.env)) (fun cenv s4=>
      codeAny (model X.prog X.w) X.A (.compStart (.ListComp elt [⟨tg,iter,ifs,0⟩] sc pos) 0 (.ref it) (.ref D) {cenv with scope:=relabel sc X.env}) (BlockEnd X pins σ Q cenv.locals) s4) E s:=by
  obtain ⟨W,⟨m0,w0⟩,turn⟩:=h
  refine newEnv_block ?_
  have ho:=T.obj 0 _ st
  have I0:=blockInv I hps hpN S hf ho
  have ok':=blockOk I hps S hf ho
  have hk:∀b o,s.heap.get? b=some o→(blockAt sc s).heap.get? b=some o:=fun b o e=>pushCells_keeps _ _ b o (Heap.get?_push_of_some _ e)
  have st0:tn 0 (blockAt sc s).heap:=T.keep 0 _ _ st fun b _ o e=>hk b o e
  have stat:∀{H':Hp},(∀b∈fp,H' b=none)→∀b∈fp,FpOk (cxComp X sc N s.heap.objs.size s H fp (X.pn++pins)) [] H' b:=fun hn b hb=>
    ⟨hn b hb,(ok'.exf b hb).1,ok'.exfs b hb,.inl hb,(ok'.exf b hb).2,fun p hp=>(hf b hb).2.2.2.2.2 p (by rw [List.append_nil] at hp;exact hp)⟩
  have loop:codeAny (model X.prog X.w) X.A (.compLoop (.ListComp elt [⟨tg,iter,ifs,0⟩] sc pos) 0 (.ref it) (.ref D) (cxComp X sc N s.heap.objs.size s H fp (X.pn++pins)).env) (BlockEnd X pins σ Q s.heap.objs.size) (blockAt sc s):=by
    refine compLoop_go (fun n s'=>∃i σ' H',Inv (cxComp X sc N s.heap.objs.size s H fp (X.pn++pins)) [] σ' H' s'∧tn i s'.heap∧(∀b∈fp,H' b=none)∧W i n σ' H') ?_ m0 ⟨0,_,H,I0,st0,fun b hb=>(hf b hb).1,w0⟩
    rintro n s3 ⟨i,σ3,H3,I3,st3,fr3,w3⟩
    rcases turn i n σ3 H3 w3 with ⟨stop,qn⟩ | ⟨go,N',hN,step⟩
    · refine thn (T.done (cxComp X sc N s.heap.objs.size s H fp (X.pn++pins)) rfl rfl rfl hc i [] s3 σ3 H3 NoE I3 (stat fr3) st3 stop) fun r s4 zz=>?_
      obtain ⟨hr,I4⟩:=zz
      subst hr
      obtain ⟨m,hn,_⟩:=I4.loc
      exact ⟨H3,rfl,blockBack I hf I4,⟨m,hn⟩,I.fpOk (Nat.le_refl _) I4.free,qn⟩
    · refine thn (T.item (cxComp X sc N s.heap.objs.size s H fp (X.pn++pins)) rfl rfl rfl hc i [] s3 σ3 H3 NoE I3 (stat fr3) st3 go) fun r s4 zz=>?_
      obtain ⟨u,hr,h4⟩:=zz
      subst hr
      refine thn h4 fun _ s5 zz=>?_
      obtain ⟨x,H5,I5,r5,y5,st5,fr5⟩:=zz
      have I5':=I5.pinned (stat fr5) (T.obj _ _ st5)
      refine thn (hg _ _ _ _ _ _ s5 σ3 H5 x u _ I5' r5 (step x H5 y5)) fun _ s6 zz=>?_
      obtain ⟨σ6,H6,I6,q6⟩:=zz
      refine thn (ht _ _ _ _ _ _ s6 σ6 H6 _ I6 q6) fun b s7 zz=>?_
      obtain ⟨H7,I7,q7⟩:=zz
      have again:∀{σ8:St} {H8:Hp} {s8:Shared},Inv (cxComp X sc N s.heap.objs.size s H fp (X.pn++pins)) ([]++pinsAt fp s5.heap) σ8 H8 s8→N' σ8 H8→
          ∃m,m<n∧∃i σ' H',Inv (cxComp X sc N s.heap.objs.size s H fp (X.pn++pins)) [] σ' H' s8∧tn i s8.heap∧(∀b∈fp,H' b=none)∧W i m σ' H':=fun {σ8 H8 s8} I8 n8=>by
        obtain ⟨m',hm,w8⟩:=hN σ8 H8 n8
        refine ⟨m',hm,i+1,σ8,H8,I8.unpinned,T.keep _ _ _ st5 fun b hb o e=>(I8.pin (b,o) (List.mem_append_right _ (List.mem_append_right _ (mem_pinsAt hb e)))).1,fun b hb=>?_,w8⟩
        obtain ⟨o,e,d⟩:=T.obj _ _ st5 b hb
        exact (I8.pin (b,o) (List.mem_append_right _ (List.mem_append_right _ (mem_pinsAt hb e)))).2.1
      cases b with
      | false=>
        rw [if_neg Bool.false_ne_true] at q7 ⊢
        exact again I7 q7
      | true=>
        rw [if_pos rfl] at q7 ⊢
        refine thn (he _ _ _ _ _ _ s7 σ6 H7 _ I7 q7) fun v s8 zz=>?_
        obtain ⟨y,H8,I8,r8,ys,hD,hz,n8⟩:=zz
        refine thn (mt_append (X:=cxComp X sc N s.heap.objs.size s H fp (X.pn++pins)) _ s8 σ6 H8 (.ref D) [y] (.ref D) [v] (fun _ H9=>N' σ6 H9) I8 rfl (.cons r8 .nil) ⟨D,ys,y,rfl,rfl,hD,hz,n8⟩) fun _ s9 zz=>?_
        obtain ⟨_,H9,I9,_,n9⟩:=zz
        exact again I9 n9
  exact codeAny_compStart_list loop (T.self X.A 0 _ _ _ st0 loop)
variable {elt tg iter:Expr} {ifs:List Expr} {pos:Pos} {wi:TI} {g:TG} {tt:TT} {te:TE}
theorem CompScope.locs (S:CompScope ps sc pN own caps N):∀x∈sc.names,x.2 = .local→sc.names.lookup x.1=some .local:=fun x hx e=>by rw [← e];exact S.uniq x hx
theorem pe_comp (hps:X.env.scope=ps) (hpN:X.N=pN) (S:CompScope ps sc pN own caps N) (hc:X.calm=true) (hi:PI X tg iter wi)
    (hg:∀C s H fp pn,PG (cxComp X sc N C s H fp pn) tg g) (ht:∀C s H fp pn,PTs (cxComp X sc N C s H fp pn) ifs tt) (he:∀C s H fp pn,PE (cxComp X sc N C s H fp pn) elt te)
    (hs:∀x,foldedSetIterable iter X.env x=pure x:=by intro _;rfl):PE X (.ListComp elt [⟨tg,iter,ifs,0⟩] sc pos) (tComp own caps wi g tt te):=by
  intro pins s σ H Q I h
  rw [eval_ListComp]
  refine wpAny_comprehension_free (use:=none) rfl hs (closureFor_clOf (S.cells hps I.ok)) S.kind S.locs (thn (hi pins s σ H _ I h) fun v s1 h1=>thn h1 fun itv s2 h2=>?_)
  obtain ⟨it,fp,tn,J,H2,e,I2,T,st2,f2,q⟩:=h2
  subst e
  have fr:H2 s2.heap.objs.size=none:=I2.fresh
  refine wpAny_newObj_type ?_
  have I3:Inv X pins σ (upd H2 s2.heap.objs.size (.lst [])) {s2 with heap:=s2.heap.push {cls:=.type "list",data:=.seq ([]:List Value).toArray},toks:=s2.toks}:=I2.lnew (its:=[]) (ys:=[]) .nil (Nat.zero_le _)
  have f3:∀b∈fp,FpOk X pins (upd H2 s2.heap.objs.size (.lst [])) b:=fun b hb=>by
    obtain ⟨o,e,_⟩:=T.obj 0 _ st2 b hb
    exact ⟨by rw [upd_ne (Nat.ne_of_lt (Heap.lt_size e))];exact (f2 b hb).1,(f2 b hb).2⟩
  refine thn (comp_block (iter:=iter) (pos:=pos) I3 hps hpN S T (T.keep 0 _ _ st2 fun b _ o e=>Heap.get?_push_of_some _ e) f3 hc hg ht he (q _ fr)) fun cenv s4 h4=>?_
  refine codeAny_mono h4 fun r s5 ⟨H5,hr,I5,⟨m,hn⟩,f5,q5⟩=>?_
  subst hr
  refine ⟨m,hn,fun h' hs'=>?_⟩
  have I6:Inv X pins σ H5 {s5 with heap:=h',toks:=s5.toks}:=I5.turned (it:=cenv.locals) (fun b o hb e=>(hs'.2 b hb).trans e) f5.1 f5.2.1 f5.2.2.2.1 f5.2.2.2.2.1 f5.2.2.2.2.2
  exact ⟨.ref s2.heap.objs.size,H5,I6,rfl,q5⟩
theorem ps_setComp {i:Nat} {y:Str} {py spos:Pos} (hN:X.N.Nodup) (hy:X.N[i]? = some y) (hl:X.env.scope.names.lookup y=some .local) (hps:X.env.scope=ps) (hpN:X.N=pN) (S:CompScope ps sc pN own caps N) (hc:X.calm=true) (hi:PI X tg iter wi)
    (hg:∀C s H fp pn,PG (cxComp X sc N C s H fp pn) tg g) (ht:∀C s H fp pn,PTs (cxComp X sc N C s H fp pn) ifs tt) (he:∀C s H fp pn,PE (cxComp X sc N C s H fp pn) elt te)
    (hsw:swapsWith (.ListComp elt [⟨tg,iter,ifs,0⟩] sc pos) (some (.Name y py)) spos.line X.env=pure true:=by rfl)
    (hs:∀x,foldedSetIterable iter X.env x=pure x:=by intro _;rfl):PS X (.Assign [.Name y py] (.ListComp elt [⟨tg,iter,ifs,0⟩] sc pos) spos) (tAsg (tComp own caps wi g tt te) (gName i)):=by
  intro pins s σ H D0 I h
  rw [exec_Assign_Name_used _ _ _ _ hsw]
  refine wpAny_bind (wpAny_standAt (wpAny_bind ?_))
  show wpAny _ X.A (do let _ ← comprehension (.ListComp elt [⟨tg,iter,ifs,0⟩] sc pos) sc X.env _ (newList []) false (eval iter X.env) (some (assign (.Name y py) X.env))) _ _ s
  refine wpAny_bind (wpAny_mono (wpAny_comprehension_free (use:=some (assign (.Name y py) X.env)) (Q:=fun _ s'=>SP X pins D0 .next s') rfl hs (closureFor_clOf (S.cells hps I.ok)) S.kind S.locs
    (thn (hi pins s σ H _ I h) fun v s1 h1=>thn h1 fun itv s2 h2=>?_)) (fun _ s' hq=>wpAny_pure (wpAny_pure hq)) fun _ _ e=>e)
  obtain ⟨it,fp,tn,J,H2,e,I2,T,st2,f2,q⟩:=h2
  subst e
  have fr:H2 s2.heap.objs.size=none:=I2.fresh
  refine wpAny_newObj_type ?_
  have I3:Inv X pins σ (upd H2 s2.heap.objs.size (.lst [])) {s2 with heap:=s2.heap.push {cls:=.type "list",data:=.seq ([]:List Value).toArray},toks:=s2.toks}:=I2.lnew (its:=[]) (ys:=[]) .nil (Nat.zero_le _)
  have f3:∀b∈fp,FpOk X pins (upd H2 s2.heap.objs.size (.lst [])) b:=fun b hb=>by
    obtain ⟨o,e,_⟩:=T.obj 0 _ st2 b hb
    exact ⟨by rw [upd_ne (Nat.ne_of_lt (Heap.lt_size e))];exact (f2 b hb).1,(f2 b hb).2⟩
  refine thn (comp_block (iter:=iter) (pos:=pos) I3 hps hpN S T (T.keep 0 _ _ st2 fun b _ o e=>Heap.get?_push_of_some _ e) f3 hc hg ht he (q _ fr)) fun cenv s4 h4=>?_
  refine codeAny_mono h4 fun r s5 ⟨H5,hr,I5,⟨m,hn⟩,f5,q5⟩=>?_
  subst hr
  show wpAny _ X.A (assign (.Name y py) X.env (.ref s2.heap.objs.size)) _ _ _
  refine wpAny_assign_Name (store_ok2 I5 hN hy (.inl hl) (v:=.ref s2.heap.objs.size) rfl (fun s6 I6 hsb=>?_) (.inr hl))
  obtain ⟨a,sb,ha⟩:=hsb
  have hne:cenv.locals≠a:=by
    rcases ha with z | z
    ·rw [z];exact f5.2.1
    ·exact fun e=>f5.2.2.2.2.1 y a z e.symm
  refine ⟨m,hn.sameBut sb hne,fun h' hs'=>?_⟩
  have I7:Inv X pins (σ.set i (some (.ref s2.heap.objs.size))) H5 {s6 with heap:=h',toks:=s6.toks}:=I6.turned (it:=cenv.locals) (fun b o hb e=>(hs'.2 b hb).trans e) f5.1 f5.2.1 f5.2.2.2.1 f5.2.2.2.2.1 f5.2.2.2.2.2
  exact ⟨_,H5,I7,q5⟩
end
section
variable {X:Cx} {pins:List (Addr×Obj)} {σ:St} {H:Hp} {s:Shared} {h':Heap}
theorem Inv.turnedL {t':Nat} {ch:List Addr} (I:Inv X pins σ H s) (k:∀b o,b∉ch→s.heap.get? b=some o→h'.get? b=some o) (hf:∀b∈ch,FpOk X pins H b):Inv X pins σ H {s with heap:=h',toks:=t'}:=by
  refine I.step (g':=s.gens) (d':=s.drawn) (ch:=ch) (fun b hb=>⟨(hf b hb).2.2.2.1,(hf b hb).2.1,(hf b hb).2.2.2.2.1,(hf b hb).2.2.2.2.2⟩) (fun b o _ _ hc e _=>k b o hc e) (fun b o _ _ hc e _=>⟨o.slots,k b o hc e⟩) (fun _ _ _ _ n=>n)
    (fun b o hc e=>⟨o,k b o hc e⟩) (fun _ _ e=>e) (fun _ _ _ e=>e) (fun b ps e=>⟨#[],by rw [e];simp⟩) (fun m hm=>?_) (fun b u e=>?_) I.bare
  · obtain ⟨o,es,ep,ho,r⟩:=hm
    exact ⟨o,es,ep,k _ o (fun z=>(hf _ z).2.1 rfl) ho,r⟩
  · refine (I.hok b u e).stay (fun c v hc q=>k c v (fun z=>?_) q) (fun _ q=>q) fun _ _ q=>q
    have hn:=(hf c z).1
    rcases hc with y | y
    ·rw [y,e] at hn;cases hn
    ·rw [y] at hn;cases hn
end
def Its (x:Str):It:=⟨fun i _=>i<x.cps.size,fun i H v H'=>H'=H∧∃c,x.cps[i]? = some c∧v = .str ⟨#[c]⟩,fun i _=>x.cps.size≤i⟩
theorem turn_str {P:Program} {w:World} {K:PySem.W.Frag} {tg:Expr} (x:Str) (t:Tok) (it:Addr):Turn P w K tg (Its x) [it] it (fun i h=>h.IsStrIter it (strIterType x) x t i) where
  mem:=by simp
  obj:=fun i h st b hb=>by
    have e:b=it:=by simpa using hb
    subst e
    obtain ⟨o,e,c,d⟩:=st
    exact ⟨o,e,fun v z=>by rw [d] at z;cases z⟩
  keep:=fun i h h' st k=>by
    obtain ⟨o,e,c,d⟩:=st
    exact ⟨o,k it (by simp) o e,c,d⟩
  item:=by
    intro X hP hw hK hc i pins s σ H E I hf st hg
    subst hP hw hK
    obtain ⟨f0,f1,f2,f3,f4,f5⟩:=hf it (by simp)
    have hx:x.cps[i]? = some (x.cps[i]'hg):=Array.getElem?_eq_getElem hg
    have fin:∀h',h'.IsStrIter it (strIterType x) x t (i+1)→Heap.SameBut it s.heap h'→∃u,(some (Value.str ⟨#[x.cps[i]'hg]⟩ s.toks))=some u∧
        wpAny (model X.prog X.w) X.A (letOwnedTupleGo tg (.ref it) u) (fun _ s2=>∃y H',Inv X pins σ H' s2∧RelV y u∧(Its x).yld i H y H'∧s2.heap.IsStrIter it (strIterType x) x t (i+1)∧∀b∈[it],H' b=none) E {s with heap:=h',toks:=s.toks+1}:=fun h' st' sb=>by
      have I1:Inv X pins σ H {s with heap:=h',toks:=s.toks+1}:=I.turned (fun b o hb e=>(sb.2 b hb).trans e) f0 f1 f3 f4 f5
      refine ⟨_,rfl,?_⟩
      have res:∃y H',Inv X pins σ H' {s with heap:=h',toks:=s.toks+1}∧RelV y (Value.str ⟨#[x.cps[i]'hg]⟩ s.toks)∧(Its x).yld i H y H'∧h'.IsStrIter it (strIterType x) x t (i+1)∧∀b∈[it],H' b=none:=
        ⟨.str ⟨#[x.cps[i]'hg]⟩,H,I1,⟨_,rfl⟩,⟨rfl,_,hx,rfl⟩,st',fun b hb=>(hf b hb).1⟩
      unfold letOwnedTupleGo
      cases tg <;> exact wpAny_pure res
    by_cases ha:x.cps.all (· < 128)=true
    · have ey:strIterType x = "str_ascii_iterator" :=by unfold strIterType;rw [if_pos ha]
      rw [ey] at st
      exact wpAny_pyNext_ascii_item st hx fun h' st' sb=>fin h' (by rw [ey];exact st') sb
    · have ey:strIterType x = "str_iterator" :=by unfold strIterType;rw [if_neg ha]
      rw [ey] at st
      exact wpAny_pyNext_wide_item st hx fun h' st' sb=>fin h' (by rw [ey];exact st') sb
  done:=by
    intro X hP hw hK hc i pins s σ H E I hf st hg
    subst hP hw hK
    obtain ⟨f0,f1,f2,f3,f4,f5⟩:=hf it (by simp)
    have hx:x.cps[i]? = none:=Array.getElem?_eq_none hg
    by_cases ha:x.cps.all (· < 128)=true
    · have ey:strIterType x = "str_ascii_iterator" :=by unfold strIterType;rw [if_pos ha]
      rw [ey] at st
      exact wpAny_pyNext_ascii_end (I.ok.hd hc) st hx fun h' eb=>⟨rfl,I.turned (t':=s.toks) (fun b o hb e=>eb b o hb e) f0 f1 f3 f4 f5⟩
    · have ey:strIterType x = "str_iterator" :=by unfold strIterType;rw [if_neg ha]
      rw [ey] at st
      exact wpAny_pyNext_wide_end (I.ok.hd hc) st hx fun h' eb=>⟨rfl,I.turned (t':=s.toks) (fun b o hb e=>eb b o hb e) f0 f1 f3 f4 f5⟩
  self:=fun A i s Q E st h=>by
    by_cases ha:x.cps.all (· < 128)=true
    · have ey:strIterType x = "str_ascii_iterator" :=by unfold strIterType;rw [if_pos ha]
      rw [ey] at st
      exact wpAny_pyIter_striter_ascii st h
    · have ey:strIterType x = "str_iterator" :=by unfold strIterType;rw [if_neg ha]
      rw [ey] at st
      exact wpAny_pyIter_striter_wide st h
section
variable {X:Cx} {tg:Expr}
def iStr (tl:TE):TI:=fun σ H R=>tl σ H fun x H1=>∃z,x = .str z∧R (Its z) H1
theorem pi_str {l:Expr} {tl:TE} (hl:PE X l tl):PI X tg l (iStr tl):=by
  intro pins s σ H R I h
  refine thn (hl pins s σ H _ I h) fun v s1 zz=>?_
  obtain ⟨x,H1,I1,r1,q1⟩:=zz
  obtain ⟨z,e,q⟩:=q1
  subst e
  obtain ⟨t,rfl⟩:=r1
  refine wpAny_pyIter_strU ?_
  refine ⟨s1.heap.objs.size,[s1.heap.objs.size],_,_,H1,rfl,I1.kept (t':=s1.toks) fun b o e=>Heap.get?_push_of_some _ e,turn_str z t _,⟨_,Heap.get?_push_size _ rfl,rfl,rfl⟩,fun b hb=>?_,q⟩
  have e:b=s1.heap.objs.size:=by simpa using hb
  subst e
  exact I1.fpOk (Nat.le_refl _) (I1.hok.fresh (Nat.le_refl _))
end
def Itz (K:PySem.W.Frag) (a b:Addr):It:=
  ⟨fun i H=>∃xs ys x y,SqL K H a xs∧SqL K H b ys∧xs[i]? = some x∧ys[i]? = some y,
   fun i H v H'=>∃t x y,v = .ref t∧H t=none∧H'=upd H t (.tup [x,y])∧(∀xs,SqL K H a xs→xs[i]? = some x)∧∀ys,SqL K H b ys→ys[i]? = some y,
   fun i H=>∃xs ys,SqL K H a xs∧SqL K H b ys∧(xs.length≤i∨ys.length≤i)⟩
structure ZipSt (z TI TO i1 i2 a b:Addr) (i:Nat) (h:Heap):Prop where
  hz:IsZip h z TI TO .none
  hI:IsPair h TI (.ref i1) (.ref i2)
  hO:∃p q,IsPair h TO p q
  h1:h.IsListIter i1 a i
  h2:h.IsListIter i2 b i
theorem ne_ty {h:Heap} {a b:Addr} {o u:Obj} {T U:String} (ha:h.get? a=some o) (hb:h.get? b=some u) (ca:o.cls = .type T) (cb:u.cls = .type U) (hne:T≠U):a≠b:=fun e=>by
  subst e
  rw [ha] at hb
  cases hb
  rw [ca] at cb
  injection cb with e2
  exact hne e2
theorem turn_zip {P:Program} {w:World} {K:PySem.W.Frag} {es:List Expr} {k:Nat} {pos:Pos} {z TI TO i1 i2 a b:Addr} (n12:i1≠i2) (nT:TI≠TO) :
    Turn P w K (.Tuple es k pos) (Itz K a b) [z,TI,TO,i1,i2] z (ZipSt z TI TO i1 i2 a b) where
  mem:=by simp
  obj:=fun i h st c hc=>by
    simp only [List.mem_cons,List.not_mem_nil,or_false] at hc
    rcases hc with rfl | rfl | rfl | rfl | rfl
    ·exact ⟨_,st.hz,fun v e=>nomatch e⟩
    ·exact ⟨_,st.hI,fun v e=>nomatch e⟩
    · obtain ⟨p,q,e⟩:=st.hO
      exact ⟨_,e,fun v e=>nomatch e⟩
    · obtain ⟨o,e,_,d⟩:=st.h1
      exact ⟨o,e,fun v y=>by rw [d] at y;cases y⟩
    · obtain ⟨o,e,_,d⟩:=st.h2
      exact ⟨o,e,fun v y=>by rw [d] at y;cases y⟩
  keep:=fun i h h' st kk=>by
    obtain ⟨p,q,e⟩:=st.hO
    exact ⟨kk z (by simp) _ st.hz,kk TI (by simp) _ st.hI,⟨p,q,kk TO (by simp) _ e⟩,st.h1.at fun o e=>kk i1 (by simp) o e,st.h2.at fun o e=>kk i2 (by simp) o e⟩
  item:=by
    intro X hP hw hK hc i pins s σ H E I hf st hg
    subst hP hw hK
    obtain ⟨xs,ys,x,y,qa,qb,hx,hy⟩:=hg
    obtain ⟨its,rv,pl,hz1⟩:=I.list qa
    obtain ⟨its',rv',pl',hz2⟩:=I.list qb
    obtain ⟨u,hu,ru⟩:=rv.get hx
    obtain ⟨u',hu',ru'⟩:=rv'.get hy
    obtain ⟨p,q,hTO⟩:=st.hO
    obtain ⟨oa,ea,ca,_⟩:=id pl.isList
    obtain ⟨ob,eb,cb,_⟩:=id pl'.isList
    obtain ⟨o1,e1,c1,_⟩:=id st.h1
    obtain ⟨o2,e2,c2,_⟩:=id st.h2
    have D:ZipApart z TI TO i1 i2 a b:=
      ⟨ne_ty st.hI st.hz rfl rfl (by decide),ne_ty hTO st.hz rfl rfl (by decide),ne_ty e1 st.hz c1 rfl (by decide),ne_ty e2 st.hz c2 rfl (by decide),nT,ne_ty st.hI e1 rfl c1 (by decide),ne_ty st.hI e2 rfl c2 (by decide),
        ne_ty hTO e1 rfl c1 (by decide),ne_ty hTO e2 rfl c2 (by decide),n12,ne_ty ea st.hz ca rfl (by decide),ne_ty ea hTO ca rfl (by decide),ne_ty ea e1 ca c1 (by decide),ne_ty ea e2 ca c2 (by decide),
        ne_ty eb st.hz cb rfl (by decide),ne_ty eb hTO cb rfl (by decide),ne_ty eb e1 cb c1 (by decide),ne_ty eb e2 cb c2 (by decide)⟩
    refine wpAny_pyNext_zip_item D st.hz st.hI hTO st.h1 st.h2 pl.isList pl'.isList (x:=u) (y:=u') (by simpa using hu) (by simpa using hu') fun h' a1 a2 a3 a4 a5 a6 kk=>?_
    refine ⟨_,rfl,wpAny_letOwnedTupleGo_zip a1 fun h2 b1 sb=>?_⟩
    have lt:∀{c o},s.heap.get? c=some o→s.heap.objs.size≠c:=fun e=>Nat.ne_of_gt (Heap.lt_size e)
    have hn:H s.heap.objs.size=none:=I.hok.fresh (Nat.le_refl _)
    have kk2:∀c o,c∉[z,TI,TO,i1,i2]→s.heap.get? c=some o→h2.get? c=some o:=fun c o hc e=>by
      simp only [List.mem_cons,List.not_mem_nil,or_false,not_or] at hc
      exact (sb.2 c hc.1).trans (kk c o hc.1 hc.2.2.1 hc.2.2.2.1 hc.2.2.2.2 e)
    have I1:Inv X pins σ H {s with heap:=h2,toks:=s.toks}:=I.turnedL kk2 hf
    have hpair:IsPair h2 s.heap.objs.size u u':=sb.extBut _ _ (lt st.hz) a5
    have I2:Inv X pins σ (upd H s.heap.objs.size (.tup [x,y])) {s with heap:=h2,toks:=s.toks}:=by
      have hfr:H s.heap.objs.size=none:=hn
      refine ⟨I1.ok,I1.os,I1.bare,⟨I1.base.keep,I1.base.slot,fun c o e n hx=>?_,I1.base.there,fun c zs e=>?_,fun c o v e=>?_,fun c qs e=>?_⟩,I1.loc,I1.cell,?_,fun v c e=>?_,fun v hv=>?_,?_,I1.len⟩
      · rw [upd_ne (fun e'=>?_)]
        ·exact I1.base.free c o e n hx
        ·exact absurd (Nat.lt_of_lt_of_le (Heap.lt_size e) I.sz) (by rw [e'];exact Nat.lt_irrefl _)
      · have e':=I1.base.tups c zs e
        rw [upd_ne (ne_of_none e' hfr)];exact e'
      · have e':=I1.base.frzs c o v e
        rw [upd_ne (ne_of_none e' hfr)];exact e'
      · obtain ⟨m,e'⟩:=I1.base.tbls c qs e
        exact ⟨m,by rw [upd_ne (ne_of_none e' hfr)];exact e'⟩
      ·rw [upd_ne (Nat.ne_of_lt I.lt)];exact I1.free
      · obtain ⟨w',qc⟩:=I.cell v c e
        rw [upd_ne (Nat.ne_of_lt qc.lt)];exact I1.freeC v c e
      · obtain ⟨f1,f2,f3⟩:=I1.pin v hv
        refine ⟨f1,?_,f3⟩
        rw [upd_ne (Nat.ne_of_lt (Heap.lt_size (I.pin v hv).1))];exact f2
      · intro c v e
        by_cases hcs:c=s.heap.objs.size
        · subst hcs
          rw [upd_same] at e
          cases e
          exact ⟨by show 2≤sizeLine;rw [sizeLine_eq];decide,[u,u'],.cons ru (.cons ru' .nil),⟨_,hpair,rfl,0,rfl⟩⟩
        · rw [upd_ne hcs] at e
          refine (I1.hok c v e).stay (fun _ _ _ qq=>qq) (fun d qd=>?_) fun d zs qd=>?_
          ·rw [upd_ne (ne_of_none qd hfr)];exact qd
          ·rw [upd_ne (ne_of_none qd hfr)];exact qd
    refine ⟨.ref s.heap.objs.size,_,I2,rfl,⟨s.heap.objs.size,x,y,rfl,hn,rfl,fun xs' q'=>by rw [I.list_inj q' qa];exact hx,fun ys' q'=>by rw [I.list_inj q' qb];exact hy⟩,?_,fun c hcm=>?_⟩
    ·exact ⟨b1,sb.extBut _ _ D.TIz (kk _ _ D.TIz D.TITO D.TIi1 D.TIi2 st.hI),⟨_,_,sb.extBut _ _ D.TOz a2⟩,a3.extBut sb.extBut D.i1z,a4.extBut sb.extBut D.i2z⟩
    · have hne:c≠s.heap.objs.size:=by
        simp only [List.mem_cons,List.not_mem_nil,or_false] at hcm
        rcases hcm with rfl | rfl | rfl | rfl | rfl
        ·exact (lt st.hz).symm
        ·exact (lt st.hI).symm
        ·exact (lt hTO).symm
        ·exact (lt e1).symm
        ·exact (lt e2).symm
      rw [upd_ne hne]
      exact (hf c hcm).1
  done:=by
    intro X hP hw hK hc i pins s σ H E I hf st hg
    subst hP hw hK
    obtain ⟨xs,ys,qa,qb,hl⟩:=hg
    obtain ⟨its,rv,pl,hz1⟩:=I.list qa
    obtain ⟨its',rv',pl',hz2⟩:=I.list qb
    obtain ⟨p,q,hTO⟩:=st.hO
    obtain ⟨oa,ea,ca,_⟩:=id pl.isList
    obtain ⟨ob,eb,cb,_⟩:=id pl'.isList
    obtain ⟨o1,e1,c1,_⟩:=id st.h1
    obtain ⟨o2,e2,c2,_⟩:=id st.h2
    have D:ZipApart z TI TO i1 i2 a b:=
      ⟨ne_ty st.hI st.hz rfl rfl (by decide),ne_ty hTO st.hz rfl rfl (by decide),ne_ty e1 st.hz c1 rfl (by decide),ne_ty e2 st.hz c2 rfl (by decide),nT,ne_ty st.hI e1 rfl c1 (by decide),ne_ty st.hI e2 rfl c2 (by decide),
        ne_ty hTO e1 rfl c1 (by decide),ne_ty hTO e2 rfl c2 (by decide),n12,ne_ty ea st.hz ca rfl (by decide),ne_ty ea hTO ca rfl (by decide),ne_ty ea e1 ca c1 (by decide),ne_ty ea e2 ca c2 (by decide),
        ne_ty eb st.hz cb rfl (by decide),ne_ty eb hTO cb rfl (by decide),ne_ty eb e1 cb c1 (by decide),ne_ty eb e2 cb c2 (by decide)⟩
    have l1:=rv.length
    have l2:=rv'.length
    refine wpAny_pyNext_zip_end (I.ok.hd hc) D st.hz st.hI hTO st.h1 st.h2 pl.isList pl'.isList ?_ fun h' kk=>⟨rfl,I.turnedL (t':=s.toks) (fun c o hcm e=>?_) hf⟩
    · rcases hl with hl | hl
      ·exact .inl (by simp;omega)
      ·exact .inr (by simp;omega)
    · simp only [List.mem_cons,List.not_mem_nil,or_false,not_or] at hcm
      exact kk c o hcm.1 hcm.2.2.1 hcm.2.2.2.1 hcm.2.2.2.2 e
  self:=fun _ _ _ _ _ st h=>wpAny_pyIter_zip st.hz h
section
variable {X:Cx}
def iZip (K:PySem.W.Frag) (t:TA):TI:=fun σ H R=>t σ H fun vs H1=>∃a b xs ys,vs=[.ref a,.ref b]∧SqL K H1 a xs∧SqL K H1 b ys∧R (Itz K a b) H1
theorem boot_zip:bootBuiltins "zip" = some (.type "zip"):=by decide +kernel
theorem pi_zip {es:List Expr} {k:Nat} {pos':Pos} {a b:Expr} {ta:TA} {p pos:Pos} (hg:Gl X "zip") (hm:X.mg "zip" = none) (ha:PA X [a,b] ta)
    (hs:starEach [a,b] X.env=[(false,eval a X.env),(false,eval b X.env)]:=by rfl) (hs2:starEach [b] X.env=[(false,eval b X.env)]:=by rfl) :
    PI X (.Tuple es k pos') (.Call (.Name "zip" p) [a,b] [] pos) (iZip X.K ta):=by
  intro pins s σ H R I h
  refine Call_ (ld_blt I hg hm boot_zip (PyProof.Rows.callWith_type1 (thn (ha pos pins s σ H _ I h) fun us s1 zz=>?_) (by rw [hs,hs2]) (by rw [hs2];rfl)))
  obtain ⟨vs,H1,I1,r1,q1⟩:=zz
  obtain ⟨l1,l2,xs,ys,e,qa,qb,q⟩:=q1
  subst e
  obtain ⟨u,v,rfl,r,r'⟩:=r1.two
  obtain rfl:u=Value.ref l1:=r
  obtain rfl:v=Value.ref l2:=r'
  obtain ⟨its,rv,pl,hz1⟩:=I1.list qa
  obtain ⟨its',rv',pl',hz2⟩:=I1.list qb
  refine call_zip_2 pl.isList pl'.isList fun h' b1 b2 b3 b4 b5 b6 kk=>?_
  refine wpAny_pyIter_zip (s:={s1 with heap:=h'}) b1 ?_
  have I2:Inv X pins σ H1 {s1 with heap:=h'}:=I1.kept (t':=s1.toks) kk
  refine ⟨s1.heap.objs.size+4,[s1.heap.objs.size+4,s1.heap.objs.size+2,s1.heap.objs.size+3,s1.heap.objs.size,s1.heap.objs.size+1],_,_,H1,rfl,I2,turn_zip (Nat.ne_of_lt (Nat.lt_succ_self _)) (Nat.ne_of_lt (Nat.lt_succ_self (s1.heap.objs.size+2))),⟨b1,b2,⟨_,_,b3⟩,b4,b5⟩,fun c hc=>?_,q⟩
  have hle:s1.heap.objs.size≤c:=by
    simp only [List.mem_cons,List.not_mem_nil,or_false] at hc
    rcases hc with rfl | rfl | rfl | rfl | rfl <;> first | exact Nat.le_add_right _ _ | exact Nat.le_refl _
  exact I1.fpOk hle (I1.hok.fresh hle)
end
section
variable {X:Cx} {pins:List (Addr×Obj)} {σ:St} {H:Hp} {s:Shared}
theorem TyOf.kit {x:V} {u t:Value} (I:Inv X pins σ H s) (rx:RelV x u) (ty:TyOf X.K H x t):∃Φ,PySem.W.KitX X.K u t Φ∧Φ s.heap∧u≠.builtin "__main__.__loader__#opaque" :=by
  cases ty with
  | non=>cases (show u=Value.none from rx);exact ⟨_,PySem.W.kitx_none,True.intro,fun z=>nomatch z⟩
  | bl y=>cases (show u=Value.bool y from rx);exact ⟨_,PySem.W.kitx_bool,True.intro,fun z=>nomatch z⟩
  | int i=>obtain ⟨t,q⟩:=(show ∃t,u=Value.int i t from rx);cases q;exact ⟨_,PySem.W.kitx_int,True.intro,fun z=>nomatch z⟩
  | str y=>obtain ⟨t,q⟩:=(show ∃t,u=Value.str y t from rx);cases q;exact ⟨_,PySem.W.kitx_str,True.intro,fun z=>nomatch z⟩
  | flt y=>obtain ⟨t,q⟩:=(show ∃t,u=Value.float y t from rx);cases q;exact ⟨_,PySem.W.kitx_float,True.intro,fun z=>nomatch z⟩
  | @lst a xs ea=>
    cases (show u=Value.ref a from rx)
    obtain ⟨_,_,n,_,h1⟩:=(show ObjOk X.prog X.w H s.heap a (.lst xs) from I.hok a _ ea)
    exact ⟨_,PySem.W.kitx_list,⟨_,h1,rfl⟩,fun z=>nomatch z⟩
  | @frz a ob xs ea=>
    cases (show u=Value.ref a from rx)
    obtain ⟨_,_,_,n,_,h1⟩:=(show ObjOk X.prog X.w H s.heap a (.frz ob (.lst xs)) from I.hok a _ ea)
    exact ⟨_,PySem.W.kitx_list,⟨_,h1,rfl⟩,fun z=>nomatch z⟩
  | @tup a xs ea=>
    cases (show u=Value.ref a from rx)
    obtain ⟨_,_,_,p⟩:=(show ObjOk X.prog X.w H s.heap a (.tup xs) from I.hok a _ ea)
    obtain ⟨o,h1,h2,_⟩:=p
    exact ⟨_,PySem.W.kitx_tuple,⟨o,h1,h2⟩,fun z=>nomatch z⟩
  | @dK a kvs ea=>
    cases (show u=Value.ref a from rx)
    obtain ⟨_,_,vs,_,p⟩:=(show ObjOk X.prog X.w H s.heap a (.dK kvs) from I.hok a _ ea)
    obtain ⟨o,es,ep,h1,h2,_⟩:=p
    exact ⟨_,PySem.W.kitx_dict,⟨o,h1,h2.1⟩,fun z=>nomatch z⟩
  | @dT a kvs ea=>
    cases (show u=Value.ref a from rx)
    obtain ⟨_,_,xs,_,o,es,ep,h1,h2,_⟩:=(show ObjOk X.prog X.w H s.heap a (.dT kvs) from I.hok a _ ea)
    exact ⟨_,PySem.W.kitx_dict,⟨o,h1,h2.1⟩,fun z=>nomatch z⟩
  | @ins a C dx fs ea cl ha hn htk hm=>
    cases (show u=Value.ref a from rx)
    obtain ⟨mA,O,_⟩:=ins_get I.hok ea
    obtain ⟨od,J,_⟩:=O.look
    exact ⟨_,PySem.W.kitx_own (cl.get _) cl.hd ha hn htk hm,J,fun z=>nomatch z⟩
theorem call_isiT:CallR X (.builtin "isinstance") (fun xs H Q=>∃x n t b,xs=[x,.ty n]∧TyOf X.K H x t∧PySem.W.kitOne X.K t (.type n)=some b∧Q (.bl b) H):=by
  intro pins s σ H xs us Q I r h
  obtain ⟨x,n,t,b,rfl,ty,e,q⟩:=h
  obtain ⟨u,v,rfl,rx,rc⟩:=r.two
  obtain rfl:v=Value.type n:=rc
  exact isinst_ok I rx ty e fun tk=>⟨.bl b,H,I.tok tk,rfl,q⟩
theorem call_isi2:CallR X (.builtin "isinstance") (fun xs H Q=>∃x p m n t b,xs=[x,.ref p]∧H p=some (.tup [.ty m,.ty n])∧TyOf X.K H x t∧PySem.W.kitAny X.K t [.type m,.type n]=some b∧Q (.bl b) H):=by
  intro pins s σ H xs us Q I r h
  obtain ⟨x,p,m,n,t,b,rfl,hp,ty,e,q⟩:=h
  obtain ⟨u,v,rfl,rx,rc⟩:=r.two
  obtain rfl:v=Value.ref p:=rc
  obtain ⟨Φ,Z,hΦ,hne⟩:=ty.kit I rx
  obtain ⟨_,its,rv,o,e1,e2,k,e3⟩:=(show ObjOk X.prog X.w H s.heap p (.tup [.ty m,.ty n]) from I.hok p _ hp)
  obtain ⟨u1,u2,rfl,r1,r2⟩:=rv.two
  obtain rfl:u1=Value.type m:=r1
  obtain rfl:u2=Value.type n:=r2
  obtain ⟨c,dd,dt,sl⟩:=o
  replace e2:c = .type "tuple" :=e2
  replace e3:dt = .seq [Value.type m,Value.type n].toArray k:=e3
  subst e2 e3
  exact PySem.W.kia_tup Z I.kIn hΦ e1 e hne fun tk=>⟨.bl b,H,I.tok tk,rfl,q⟩
theorem boot_isinstance:bootBuiltins "isinstance" = some (.builtin "isinstance"):=by decide +kernel
theorem boot_str:bootBuiltins "str" = some (.type "str"):=by decide +kernel
theorem boot_list:bootBuiltins "list" = some (.type "list"):=by decide +kernel
theorem boot_tuple:bootBuiltins "tuple" = some (.type "tuple"):=by decide +kernel
theorem boot_intT:bootBuiltins "int" = some (.type "int"):=by decide +kernel
theorem boot_setT:bootBuiltins "set" = some (.type "set"):=by decide +kernel
end
mutual
def Is (K:PySem.W.Frag) (H:Hp):PyData→V→Prop
  | .none,v=>v = .non
  | .bool b,v=>v = .bl b
  | .int i,v=>v = .int i
  | .str x,v=>v = .str x
  | .list ds,v=>∃a xs,v = .ref a∧SqL K H a xs∧IsAll K H ds xs
  | .tuple ds,v=>∃a xs,v = .ref a∧SqT K H a xs∧IsAll K H ds xs
  | .dict _,_=>False
def IsAll (K:PySem.W.Frag) (H:Hp):List PyData→List V→Prop
  | [],vs=>vs=[]
  | d::ds,vs=>∃v r,vs=v::r∧Is K H d v∧IsAll K H ds r
end
section
variable {X:Cx} {pins:List (Addr×Obj)} {σ:St} {H:Hp} {s:Shared}
mutual
theorem Is.reads (I:Inv X pins σ H s):∀(d:PyData) (v:V) (u:Value),Is X.K H d v→RelV v u→∃as,Reads s.heap u d as
  | .none,v,u,h,r=>by
    simp only [Is] at h;subst h;cases r;exact ⟨_,.none⟩
  | .bool b,v,u,h,r=>by
    simp only [Is] at h;subst h;cases r;exact ⟨_,.bool b⟩
  | .int i,v,u,h,r=>by
    simp only [Is] at h;subst h;obtain ⟨t,rfl⟩:=r;exact ⟨_,.int i t⟩
  | .str x,v,u,h,r=>by
    simp only [Is] at h;subst h;obtain ⟨t,rfl⟩:=r;exact ⟨_,.str x t⟩
  | .list ds,v,u,h,r=>by
    simp only [Is] at h
    obtain ⟨a,xs,rfl,hq,hs⟩:=h
    cases r
    obtain ⟨its,rv,pl,hz⟩:=I.list hq
    obtain ⟨o,e,c,n,dt⟩:=pl.isList
    obtain ⟨as,ra⟩:=IsAll.reads I ds xs its hs rv
    exact ⟨_,.list e c dt (by simpa using ra)⟩
  | .tuple ds,v,u,h,r=>by
    simp only [Is] at h
    obtain ⟨a,xs,rfl,hq,hs⟩:=h
    cases r
    obtain ⟨its,rv,pl,hz⟩:=I.tuple hq
    obtain ⟨o,e,c,n,dt⟩:=pl
    obtain ⟨as,ra⟩:=IsAll.reads I ds xs its hs rv
    exact ⟨_,.tuple e c dt (by simpa using ra)⟩
  | .dict _,v,u,h,r=>by
    simp only [Is] at h
theorem IsAll.reads (I:Inv X pins σ H s):∀(ds:List PyData) (vs:List V) (us:List Value),IsAll X.K H ds vs→Vals vs us→∃as,ReadsAll s.heap us ds as
  | [],vs,us,h,r=>by
    simp only [IsAll] at h;subst h;cases r;exact ⟨_,.nil⟩
  | d::ds,vs,us,h,r=>by
    simp only [IsAll] at h
    obtain ⟨v,vr,rfl,h1,h2⟩:=h
    cases r with
    | cons r1 r2=>
      obtain ⟨as,ra⟩:=Is.reads I d v _ h1 r1
      obtain ⟨bs,rb⟩:=IsAll.reads I ds vr _ h2 r2
      exact ⟨_,.cons ra rb⟩
end
theorem op_eqD:OpR X (compareOp .Eq) (fun x y H Q=>∃d e,Is X.K H d x∧Is X.K H e y∧d.canLay0=true∧e.canLay0=true∧X.A.units+min d.depth e.depth<cLine∧Q (.bl (PyData.eqv d e)) H):=by
  intro pins s σ H x y v u Q I rx ry h
  obtain ⟨d,e,hx,hy,h1,h2,hu,q⟩:=h
  obtain ⟨as,ra⟩:=hx.reads I d x v rx
  obtain ⟨bs,rb⟩:=hy.reads I e y u ry
  exact SeqAt.compareEq_reads ra rb h1 h2 hu ⟨.bl _,H,I,rfl,q⟩
end
section
variable {X:Cx}
def rInsert:V→List V→Hp→VK→Prop:=fun x vs H Q=>∃l xs i y,x = .ref l∧vs=[.int i,y]∧H l=some (.lst xs)∧0≤i∧i≤xs.length∧xs.length<sizeLine∧Q .non (upd H l (.lst (xs.take i.toNat++y::xs.drop i.toNat)))
theorem Vals.ins {y:V} {u:Value} (ru:RelV y u):∀{xs:List V} {us:List Value} (i:Nat),Vals xs us→Vals (xs.take i++y::xs.drop i) (us.take i++u::us.drop i):=fun i r=>(r.take i).append (.cons ru (r.drop i))
theorem mt_insert:MtM X "list.insert" rInsert:=by
  intro pins s σ H x vs v us Q I rx rv h
  obtain ⟨l,xs,i,y,rfl,rfl,hH,h0,hi,hz,q⟩:=h
  cases rx
  obtain ⟨u1,u,rfl,⟨t,rfl⟩,ru⟩:=rv.two
  obtain ⟨z,its,n,r,hl,e⟩:=I.lstM hH
  have hn:=line63
  have hfit:¬(!Builtin.List.listFitsIndex i)=true:=by
    unfold Builtin.List.listFitsIndex
    simp
    omega
  refine call_meets F.slot_list_insert ⟨_,e,rfl⟩ F.entry_list_insert (F.args_list_insert_3 _ _ _) (PySem.AutoListH.list_insert_list_int_val_1 l its.toArray n i t u hfit (by rw [List.size_toArray];omega)) ⟨e,?_⟩
  refine ⟨.non,_,I.lset (its':=its.take i.toNat++u::its.drop i.toNat) hH e ?_ (r.ins ru i.toNat) ?_,rfl,q⟩
  · have hm:min i.toNat its.length=i.toNat:=by omega
    simp only [List.size_toArray]
    rw [if_neg (by omega),hm]
    apply Array.toList_inj.mp
    simp
    exact List.take_of_length_le (by simp)
  · simp
    omega
end
section
variable {X:Cx}
def blAll:List V→List Bool→Prop
  | [],bs=>bs=[]
  | x::xs,bs=>∃b r,bs=b::r∧x = .bl b∧blAll xs r
theorem blAll.get:∀{xs:List V} {bs:List Bool} {its:List Value},blAll xs bs→Vals xs its→xs.length=bs.length∧∀(i:Nat) (v:Value),its[i]? = some v→v = .bool (bs.getD i false)
  | [],bs,its,h,r=>by
    cases h;cases r
    exact ⟨rfl,fun i v e=>by simp at e⟩
  | x::xs,bs,its,h,r=>by
    obtain ⟨b,br,rfl,rfl,h⟩:=h
    cases r with
    | cons r1 r2=>
      obtain ⟨h1,h2⟩:=blAll.get h r2
      refine ⟨by simp [h1],fun i v e=>?_⟩
      cases i with
      | zero=>
        simp at e
        subst e
        exact r1
      | succ i=>
        simp at e
        simpa using h2 i v e
theorem range_all (bs:List Bool):(List.range bs.length).all (fun i=>bs.getD i false)=bs.all id:=by
  rw [Bool.eq_iff_iff,List.all_eq_true,List.all_eq_true]
  constructor
  · intro h b hb
    obtain ⟨i,hi,rfl⟩:=List.mem_iff_getElem.mp hb
    have:=h i (List.mem_range.mpr hi)
    simpa [List.getD,hi] using this
  · intro h i hi
    have hi':=List.mem_range.mp hi
    have:=h bs[i] (List.getElem_mem hi')
    simpa [List.getD,hi'] using this
theorem call_allB (hc:X.calm=true):CallR X (.builtin "all") (fun xs H Q=>∃a ys bs,xs=[.ref a]∧H a=some (.lst ys)∧blAll ys bs∧Q (.bl (bs.all id)) H):=by
  intro pins s σ H xs us Q I r h
  obtain ⟨a,ys,bs,rfl,ha,hb,q⟩:=h
  obtain ⟨u,rfl,ru⟩:=r.one
  obtain rfl:u=Value.ref a:=ru
  obtain ⟨z,its,n,rv,hl,e⟩:=I.lstM ha
  obtain ⟨h1,h2⟩:=hb.get rv
  have hL:s.heap.IsList a its.toArray:=⟨_,e,rfl,n,rfl⟩
  refine call_all_walk ?_
  refine wpAny_pyIter_list hL ?_
  have hne:a≠s.heap.objs.size:=Nat.ne_of_lt (Heap.lt_size e)
  have hL2:(s.heap.push {cls:=.type "list_iterator",data:=.fields #[.ref a,.int 0 0]}).IsList a its.toArray:=⟨_,Heap.get?_push_of_some _ e,rfl,n,rfl⟩
  refine ⟨s.heap.objs.size,_,_,_,_,_,fun i=>bs.getD i false,rfl,Walks.list (by exact I.ok.hd hc) s.heap.objs.size a hne its.toArray,⟨⟨_,Heap.get?_push_size _ rfl,rfl,rfl⟩,hL2⟩,fun i v s' Q' E' hP hQ=>?_,fun h' tk kk=>?_⟩
  · obtain rfl:=h2 i v (by simpa using hP)
    exact wpAny_truthy_bool hQ
  · have e2:(List.range its.toArray.size).all (fun i=>bs.getD i false)=bs.all id:=by
      rw [List.size_toArray,← hl,h1];exact range_all bs
    rw [e2]
    refine ⟨.bl _,H,?_,rfl,q⟩
    exact I.kept (h':=h') (t':=tk) fun b o eb=>kk b o (by simp;exact Nat.ne_of_lt (Heap.lt_size eb)) (Heap.get?_push_of_some _ eb)
end
def memK (l:List Key) (k:Key):Bool:=l.any fun x=>decide (x=k)
theorem memK_iff {l:List Key} {k:Key}:memK l k=true↔k∈l:=by
  unfold memK
  rw [List.any_eq_true]
  constructor
  · rintro ⟨x,hx,e⟩
    have e':=of_decide_eq_true e
    subst e'
    exact hx
  · intro h
    exact ⟨k,h,decide_eq_true rfl⟩
theorem memK_app (l:List Key) (x k:Key):memK (l++[x]) k=(memK l k || decide (k=x)):=by
  unfold memK
  rw [List.any_append]
  simp only [List.any_cons,List.any_nil,Bool.or_false]
  congr 1
  exact decide_eq_decide.mpr ⟨fun e=>e.symm,fun e=>e.symm⟩
def uqStep (acc:List Key) (k:Key):List Key:=if memK acc k=true then acc else acc++[k]
def uqN (val:Nat→Key) (i:Nat):List Key:=((List.range i).map val).foldl uqStep []
theorem uqN_succ (val:Nat→Key) (i:Nat):uqN val (i+1)=uqStep (uqN val i) (val i):=by
  unfold uqN
  rw [List.range_succ,List.map_append,List.foldl_append]
  rfl
theorem uqN_le (val:Nat→Key):∀i,(uqN val i).length≤i
  | 0=>Nat.le_refl _
  | i+1=>by
    rw [uqN_succ]
    have ih:=uqN_le val i
    unfold uqStep
    split
    ·omega
    ·rw [List.length_append,List.length_singleton];omega
theorem uq_all (val:Nat→Key):∀n,(∀i j,i<n→j<n→val i=val j→i=j)→(uqN val n).length=n∧∀k,k∈uqN val n→∃i,i<n∧val i=k
  | 0,_=>⟨rfl,fun k h=>by simp [uqN] at h⟩
  | n+1,h=>by
    obtain ⟨h1,h2⟩:=uq_all val n fun i j hi hj=>h i j (by omega) (by omega)
    have hnot:¬memK (uqN val n) (val n)=true:=fun hm=>by
      obtain ⟨i,hi,e⟩:=h2 _ (memK_iff.mp hm)
      have:=h i n (by omega) (by omega) e
      omega
    rw [uqN_succ]
    unfold uqStep
    rw [if_neg hnot]
    refine ⟨by simp [h1],fun k hk=>?_⟩
    rcases List.mem_append.mp hk with z | z
    · obtain ⟨i,hi,e⟩:=h2 k z
      exact ⟨i,by omega,e⟩
    ·exact ⟨n,by omega,(List.mem_singleton.mp z).symm⟩
theorem scan_of {k:Key} {v:Value} (h:keyIs k v=true):v.scannable=true:=by
  rcases keyIs_shape h with ⟨i,t,rfl,rfl⟩ | ⟨x,t,rfl,rfl⟩ <;> rfl
theorem setOf_congr {P:Program} {w:World} {h:Heap} {a:Addr} {S S':Key→Bool} {n n':Nat} (x:h.SetOf (mixKind P w) a S n) (e:∀k,S k=S' k) (en:n=n'):h.SetOf (mixKind P w) a S' n':=by
  have:S=S':=funext e
  subst this
  subst en
  exact x
abbrev SetIs (P:Program) (w:World) (h:Heap) (a:Addr) (l:List Key):Prop:=h.SetOf (mixKind P w) a (memK l) l.length
theorem SetIs.at {P:Program} {w:World} {h h':Heap} {a:Addr} {l:List Key} (x:SetIs P w h a l) (k:∀o,h.get? a=some o→h'.get? a=some o):SetIs P w h' a l:=by
  obtain ⟨o,es,ep,t,e,r⟩:=x
  exact ⟨o,es,ep,t,k o e,r⟩
theorem fresh_set {P:Program} {w:World} {h:Heap} {a:Addr} {led:Bool} (e:h.get? a=some {cls:=.type "set",dict:=none,data:=.set #[] 0 (.fresh 0 0 led)}):SetIs P w h a []:=
  ⟨_,#[],0,.fresh 0 0 led,e,⟨rfl,rfl,rfl⟩,rfl,(fun x hx=>by simp at hx),(fun k=>by simp [memK]),(by unfold scanBound;decide),(by cases led <;> rfl),rfl⟩
section
variable {P:Program} {w:World} {A:Around} {R:Result→Shared→Prop} {I:Addr} {fp wr:List Addr} {n:Nat} {PP:Nat→Value→Prop} {St:Nat→Heap→Prop}
theorem set_loop (W:Walks P w A.in1 I fp wr n PP St) (S:Addr) (hSf:S∉fp) (val:Nat→Key) (hval:∀i v,PP i v→keyIs (val i) v=true) (hb:n+1<scanBound) :
    ∀(k i:Nat) (s:Shared),n - i=k→i≤n→St i s.heap→SetIs P w s.heap S (uqN val i)→
      (∀h' tk,(∀b o,b≠S→b∉wr→s.heap.get? b=some o→h'.get? b=some o)→SetIs P w h' S (uqN val n)→R (.ok (.ret .none)) {s with heap:=h',toks:=tk})→
      codeAny (model P w) A (.builtin "set.update.loop" ⟨[.ref S,.ref I],[]⟩) R s:=by
  have hSw:S∉wr:=fun h=>hSf (W.sub _ h)
  intro k
  induction k with
  | zero=>
    intro i s hk hi hst hS hR
    obtain rfl:i=n:=by omega
    refine codeAny_builtin PyProof.Rows.F.entry_set_update_loop ?_
    rw [Around.under_plainId PyProof.Rows.F.plain_set_update_loop _]
    show wpAny _ A.in1 (pyNext (.ref I) >>= _) _ _ s
    refine wpAny_bind (W.done s _ _ hst fun h' tk hm=>?_)
    exact wpAny_pure (hR h' tk (fun b o _ hb e=>hm b o hb e) (hS.at fun o e=>hm S o hSw e))
  | succ k ih=>
    intro i s hk hi hst hS hR
    have hlt:i<n:=by omega
    refine codeAny_builtin PyProof.Rows.F.entry_set_update_loop ?_
    rw [Around.under_plainId PyProof.Rows.F.plain_set_update_loop _]
    show wpAny _ A.in1 (pyNext (.ref I) >>= _) _ _ s
    refine wpAny_bind (W.item i s _ _ hlt hst fun v h' tk hP hst' hm=>?_)
    have hkey:(mixKind P w).is (val i) v=true:=hval i v hP
    have hS':SetIs P w h' S (uqN val i):=hS.at fun o e=>hm S o hSw e
    show wpAny _ A.in1 (holding [v] (setAdd S v) >>= _) _ _ _
    refine wpAny_bind (wpAny_holding ?_)
    unfold setAdd
    refine wpAny_holding (wpAny_bind ((mixKind P w).pyHash (k:=val i) hkey ?_))
    have hroom:(uqN val i).length+1<scanBound:=by have:=uqN_le val i;omega
    refine wpAny_setAddHashed_of (knd:=mixKind P w) (s:={s with heap:=h',toks:=tk+1}) hkey (scan_of (hval i v hP)) hS' hroom fun h2 hsb hS2=>?_
    have hSi:SetIs P w h2 S (uqN val (i+1)):=by
      refine setOf_congr hS2 (fun k'=>?_) ?_
      · rw [uqN_succ]
        unfold uqStep
        split
        · rename_i hm1
          by_cases e:k'=val i
          ·rw [e,hm1];rfl
          ·rw [decide_eq_false e,Bool.or_false]
        ·exact (memK_app _ _ _).symm
      · rw [uqN_succ]
        unfold uqStep
        split
        ·rfl
        ·rw [List.length_append,List.length_singleton]
    refine wpAny_pure ⟨plainId_quiet PyProof.Rows.F.plain_set_update_loop _,ih (i+1) _ (by omega) hlt (W.frame _ h' _ hst' fun b hb o e=>?_) hSi fun h3 tk3 hm3 hS3=>?_⟩
    ·exact (hsb.2 b (fun z:b=S=>hSf (by rw [← z];exact hb))).trans e
    · refine hR h3 tk3 (fun b o hbS hbw e=>hm3 b o hbS hbw ?_) hS3
      exact (hsb.2 b hbS).trans (hm b o hbw e)
end
theorem sub_list_set':isSubtype (.type "list") (.type "set")=pure false:=by rw [isSubtype_type];kernel_rfl
theorem sub_list_frozen':isSubtype (.type "list") (.type "frozenset")=pure false:=by rw [isSubtype_type];kernel_rfl
set_option maxHeartbeats 4000000 in
theorem set_of_list {P:Program} {w:World} {A:Around} {E:Value→Shared→Prop} {s:Shared} {l:Addr} {its:Array Value} {val:Nat→Key} {Q:Value→Shared→Prop}
    (hh:A.handled=none) (hl:s.heap.IsList l its) (hval:∀i v,its[i]? = some v→keyIs (val i) v=true) (hb:its.size+1<scanBound)
    (h:∀(g:Heap) (tk:Nat),SetIs P w g s.heap.objs.size (uqN val its.size)→(∀b o,s.heap.get? b=some o→g.get? b=some o)→Q (.ref s.heap.objs.size) {s with heap:=g,toks:=tk}) :
    wpAny (model P w) A (call (.type "set") [.ref l]) Q E s:=by
  obtain ⟨c,tl,hmro⟩:=PySem.F.called_set.mro
  have q1:=PySem.F.called_set.made
  have q2:=PySem.F.called_set.sub
  refine wpAny_call (codeAny_of_tree ?_)
  show wpAny _ _ (callAny (.type "set") _) _ _ s
  refine wpAny_pure ⟨Code.quiet_builtin _ (by decide +kernel),codeAny_builtin PySem.F.entry_type_call ?_⟩
  rw [Around.under_plain (weight_type_call_type "set" [.ref l] []) rfl]
  have q3:=PySem.F.called_set.notType
  have q4:=PySem.F.called_set.canCreate
  have q5:=PySem.F.typeCall_set_1 (.ref l)
  repeat (any_goals (first | assumption | wp_step))
  refine codeAny_mono (code_set_new_1 (.ref l) (E:=E) (Q₁:=fun ob s1=>∃led:Bool,ob = .ref s.heap.objs.size∧s1={s with heap:=s.heap.push {cls:=.type "set",dict:=none,data:=.set #[] 0 (.fresh 0 0 led)}}) fun led=>⟨led,rfl,rfl⟩) fun r s1 hr=>?_
  cases r with
  | error e=>exact hr
  | ok fl=>
    cases fl with
    | ret ob=>
      obtain ⟨led,rfl,rfl⟩:=hr
      have new:(s.heap.push {cls:=.type "set",dict:=none,data:=.set #[] 0 (.fresh 0 0 led)}).get? s.heap.objs.size=some {cls:=.type "set",dict:=none,data:=.set #[] 0 (.fresh 0 0 led)}:=Heap.get?_push_size _ rfl
      have ty:Shared.TypeIs {s with heap:=s.heap.push {cls:=.type "set",dict:=none,data:=.set #[] 0 (.fresh 0 0 led)}} (.ref s.heap.objs.size) "set" :=⟨_,new,rfl⟩
      have q6:=PySem.F.called_set.init.lookup
      have q7:=PySem.F.called_set.init.bind (.ref s.heap.objs.size)
      repeat (any_goals (first | assumption | wp_step))
      refine codeAny_mono (codeAny_call_builtin (R:=wants (fun r s2=>r = .none∧∃g tk,s2={s with heap:=g,toks:=tk}∧SetIs P w g s.heap.objs.size (uqN val its.size)∧(∀b o,s.heap.get? b=some o→g.get? b=some o)) E)
        PySem.F.called_set.init.plain PySem.F.entry_set_init (check_set_init_1 ty ?_)) fun r2 s2 hr2=>?_
      · obtain ⟨ol,ho,hcl,nl,hdl⟩:=hl
        obtain ⟨oc,od,odt,osl⟩:=ol
        simp only at hcl hdl
        subst hcl;subst hdl
        have ho2:(s.heap.push {cls:=.type "set",dict:=none,data:=.set #[] 0 (.fresh 0 0 led)}).get? l=some {cls:=.type "list",dict:=od,data:=.seq its nl,slots:=osl}:=Heap.get?_push_of_some _ ho
        have q8:=sub_list_set'
        have q9:=sub_list_frozen'
        have q10:(Value.type "list" == Value.type "dict")=false:=by decide
        have hl1:(s.heap.push {cls:=.type "set",dict:=none,data:=.set #[] 0 (.fresh 0 0 led)}).IsList l its:=⟨_,ho2,rfl,nl,rfl⟩
        unfold Builtin.«set.__init__» noKeywords Builtin.Frozenset.updateFrom
        generalize hPI:pyIter=PI
        wp_walk
        subst hPI
        refine wpAny_pyIter_list hl1 ?_
        refine wpAny_bind (wpAny_runValue ?_)
        have lt1:l<s.heap.objs.size:=Heap.lt_size ho
        have hh3:A.in1.in1.in1.handled=none:=by simp [hh]
        have ne1:l≠(s.heap.push {cls:=.type "set",dict:=none,data:=.set #[] 0 (.fresh 0 0 led)}).objs.size:=by
          rw [Heap.size_push]
          exact Nat.ne_of_lt (Nat.lt_succ_of_lt lt1)
        have nf:s.heap.objs.size∉[(s.heap.push {cls:=.type "set",dict:=none,data:=.set #[] 0 (.fresh 0 0 led)}).objs.size,l]:=by
          rw [Heap.size_push]
          simp only [List.mem_cons,List.mem_singleton,List.not_mem_nil,or_false,not_or]
          exact ⟨Nat.ne_of_lt (Nat.lt_succ_self _),Nat.ne_of_gt lt1⟩
        refine set_loop (Walks.list hh3 _ l ne1 its) s.heap.objs.size nf val hval hb (its.size - 0) 0 _ (by omega) (Nat.zero_le _) ⟨⟨_,Heap.get?_push_size _ rfl,rfl,rfl⟩,hl1.push _⟩ ?hS0 ?hR
        case hS0=>
          have hget:((s.heap.push {cls:=.type "set",dict:=none,data:=.set #[] 0 (.fresh 0 0 led)}).push {cls:=.type "list_iterator",data:=.fields #[.ref l,.int 0 0]}).get? s.heap.objs.size
              = some {cls:=.type "set",dict:=none,data:=.set #[] 0 (.fresh 0 0 led)}:=Heap.get?_push_of_some _ new
          exact fresh_set hget
        case hR=>
          intro g tk hm hS
          show wpAny _ _ _ _ _ _
          refine wpAny_pure ?_
          show wpAny _ _ (ret Value.none) _ _ _
          refine wpAny_pure ⟨rfl,g,tk,rfl,hS,fun b o e=>?_⟩
          have lb:b<s.heap.objs.size:=Heap.lt_size e
          refine hm b o (Nat.ne_of_lt lb) ?_ (Heap.get?_push_of_some _ (Heap.get?_push_of_some _ e))
          simp only [List.mem_cons,List.not_mem_nil,or_false]
          rw [Heap.size_push]
          exact Nat.ne_of_lt (Nat.lt_succ_of_lt lb)
      · cases r2 with
        | error e=>exact hr2
        | ok fl2=>
          cases fl2 with
          | ret r=>
            obtain ⟨rfl,g,tk,rfl,hS,hk⟩:=hr2
            repeat (any_goals (first | assumption | wp_step))
            exact h _ _ hS hk
          | _=>exact hr2.elim
    | _=>exact hr.elim
theorem sub_tuple_set':isSubtype (.type "tuple") (.type "set")=pure false:=by rw [isSubtype_type];kernel_rfl
theorem sub_tuple_frozen':isSubtype (.type "tuple") (.type "frozenset")=pure false:=by rw [isSubtype_type];kernel_rfl
set_option maxHeartbeats 4000000 in
theorem set_of_tuple {P:Program} {w:World} {A:Around} {E:Value→Shared→Prop} {s:Shared} {l:Addr} {its:Array Value} {val:Nat→Key} {Q:Value→Shared→Prop}
    (hh:A.handled=none) (hl:s.heap.IsTuple l its) (hval:∀i v,its[i]? = some v→keyIs (val i) v=true) (hb:its.size+1<scanBound)
    (h:∀(g:Heap) (tk:Nat),SetIs P w g s.heap.objs.size (uqN val its.size)→(∀b o,s.heap.get? b=some o→g.get? b=some o)→Q (.ref s.heap.objs.size) {s with heap:=g,toks:=tk}) :
    wpAny (model P w) A (call (.type "set") [.ref l]) Q E s:=by
  obtain ⟨c,tl,hmro⟩:=PySem.F.called_set.mro
  have q1:=PySem.F.called_set.made
  have q2:=PySem.F.called_set.sub
  refine wpAny_call (codeAny_of_tree ?_)
  show wpAny _ _ (callAny (.type "set") _) _ _ s
  refine wpAny_pure ⟨Code.quiet_builtin _ (by decide +kernel),codeAny_builtin PySem.F.entry_type_call ?_⟩
  rw [Around.under_plain (weight_type_call_type "set" [.ref l] []) rfl]
  have q3:=PySem.F.called_set.notType
  have q4:=PySem.F.called_set.canCreate
  have q5:=PySem.F.typeCall_set_1 (.ref l)
  repeat (any_goals (first | assumption | wp_step))
  refine codeAny_mono (code_set_new_1 (.ref l) (E:=E) (Q₁:=fun ob s1=>∃led:Bool,ob = .ref s.heap.objs.size∧s1={s with heap:=s.heap.push {cls:=.type "set",dict:=none,data:=.set #[] 0 (.fresh 0 0 led)}}) fun led=>⟨led,rfl,rfl⟩) fun r s1 hr=>?_
  cases r with
  | error e=>exact hr
  | ok fl=>
    cases fl with
    | ret ob=>
      obtain ⟨led,rfl,rfl⟩:=hr
      have new:(s.heap.push {cls:=.type "set",dict:=none,data:=.set #[] 0 (.fresh 0 0 led)}).get? s.heap.objs.size=some {cls:=.type "set",dict:=none,data:=.set #[] 0 (.fresh 0 0 led)}:=Heap.get?_push_size _ rfl
      have ty:Shared.TypeIs {s with heap:=s.heap.push {cls:=.type "set",dict:=none,data:=.set #[] 0 (.fresh 0 0 led)}} (.ref s.heap.objs.size) "set" :=⟨_,new,rfl⟩
      have q6:=PySem.F.called_set.init.lookup
      have q7:=PySem.F.called_set.init.bind (.ref s.heap.objs.size)
      repeat (any_goals (first | assumption | wp_step))
      refine codeAny_mono (codeAny_call_builtin (R:=wants (fun r s2=>r = .none∧∃g tk,s2={s with heap:=g,toks:=tk}∧SetIs P w g s.heap.objs.size (uqN val its.size)∧(∀b o,s.heap.get? b=some o→g.get? b=some o)) E)
        PySem.F.called_set.init.plain PySem.F.entry_set_init (check_set_init_1 ty ?_)) fun r2 s2 hr2=>?_
      · obtain ⟨ol,ho,hcl,nl,hdl⟩:=hl
        obtain ⟨oc,od,odt,osl⟩:=ol
        simp only at hcl hdl
        subst hcl;subst hdl
        have ho2:(s.heap.push {cls:=.type "set",dict:=none,data:=.set #[] 0 (.fresh 0 0 led)}).get? l=some {cls:=.type "tuple",dict:=od,data:=.seq its nl,slots:=osl}:=Heap.get?_push_of_some _ ho
        have q8:=sub_tuple_set'
        have q9:=sub_tuple_frozen'
        have q10:(Value.type "tuple" == Value.type "dict")=false:=by decide
        have hl1:(s.heap.push {cls:=.type "set",dict:=none,data:=.set #[] 0 (.fresh 0 0 led)}).IsTuple l its:=⟨_,ho2,rfl,nl,rfl⟩
        unfold Builtin.«set.__init__» noKeywords Builtin.Frozenset.updateFrom
        generalize hPI:pyIter=PI
        wp_walk
        subst hPI
        refine wpAny_pyIter_tuple hl1 ?_
        refine wpAny_bind (wpAny_runValue ?_)
        have lt1:l<s.heap.objs.size:=Heap.lt_size ho
        have hh3:A.in1.in1.in1.handled=none:=by simp [hh]
        have ne1:l≠(s.heap.push {cls:=.type "set",dict:=none,data:=.set #[] 0 (.fresh 0 0 led)}).objs.size:=by
          rw [Heap.size_push]
          exact Nat.ne_of_lt (Nat.lt_succ_of_lt lt1)
        have nf:s.heap.objs.size∉[(s.heap.push {cls:=.type "set",dict:=none,data:=.set #[] 0 (.fresh 0 0 led)}).objs.size,l]:=by
          rw [Heap.size_push]
          simp only [List.mem_cons,List.mem_singleton,List.not_mem_nil,or_false,not_or]
          exact ⟨Nat.ne_of_lt (Nat.lt_succ_self _),Nat.ne_of_gt lt1⟩
        refine set_loop (Walks.tuple hh3 _ l ne1 its) s.heap.objs.size nf val hval hb (its.size - 0) 0 _ (by omega) (Nat.zero_le _) ⟨⟨_,Heap.get?_push_size _ rfl,rfl,rfl⟩,⟨_,Heap.get?_push_of_some _ ho2,rfl,nl,rfl⟩⟩ ?hS0 ?hR
        case hS0=>
          have hget:((s.heap.push {cls:=.type "set",dict:=none,data:=.set #[] 0 (.fresh 0 0 led)}).push {cls:=.type "tuple_iterator",data:=.fields #[.ref l,.int 0 0]}).get? s.heap.objs.size
              = some {cls:=.type "set",dict:=none,data:=.set #[] 0 (.fresh 0 0 led)}:=Heap.get?_push_of_some _ new
          exact fresh_set hget
        case hR=>
          intro g tk hm hS
          show wpAny _ _ _ _ _ _
          refine wpAny_pure ?_
          show wpAny _ _ (ret Value.none) _ _ _
          refine wpAny_pure ⟨rfl,g,tk,rfl,hS,fun b o e=>?_⟩
          have lb:b<s.heap.objs.size:=Heap.lt_size e
          refine hm b o (Nat.ne_of_lt lb) ?_ (Heap.get?_push_of_some _ (Heap.get?_push_of_some _ e))
          simp only [List.mem_cons,List.not_mem_nil,or_false]
          rw [Heap.size_push]
          exact Nat.ne_of_lt (Nat.lt_succ_of_lt lb)
      · cases r2 with
        | error e=>exact hr2
        | ok fl2=>
          cases fl2 with
          | ret r=>
            obtain ⟨rfl,g,tk,rfl,hS,hk⟩:=hr2
            repeat (any_goals (first | assumption | wp_step))
            exact h _ _ hS hk
          | _=>exact hr2.elim
    | _=>exact hr.elim
def setO (P:Program) (w:World) (a:Addr) (l:List Key):HO:=.ext fun h=>SetIs P w h a l
section
variable {X:Cx}
def keysOf:List V→List Key
  | []=>[]
  | .int i::r=>.inl i::keysOf r
  | .str x::r=>.inr x::keysOf r
  | _::r=>keysOf r
def isKey:V→Bool
  | .int _=>true
  | .str _=>true
  | _=>false
theorem keys_at:∀{xs:List V} {its:List Value},xs.all isKey=true→Vals xs its→(keysOf xs).length=its.length∧∀(i:Nat) (v:Value),its[i]? = some v→keyIs ((keysOf xs).getD i (.inl 0)) v=true
  | [],_,_,.nil=>⟨rfl,fun i v e=>by simp at e⟩
  | x::xs,u::us,h,.cons r1 r2=>by
    rw [List.all_cons,Bool.and_eq_true] at h
    obtain ⟨h1,h2⟩:=keys_at h.2 r2
    cases x with
    | int i=>
      obtain ⟨t,rfl⟩:=r1
      refine ⟨by simp [keysOf,h1],fun j v e=>?_⟩
      cases j with
      | zero=>simp at e;subst e;exact keyIs_int i t
      | succ j=>simp at e;simpa [keysOf] using h2 j v e
    | str z=>
      obtain ⟨t,rfl⟩:=r1
      refine ⟨by simp [keysOf,h1],fun j v e=>?_⟩
      cases j with
      | zero=>simp at e;subst e;exact keyIs_str z t
      | succ j=>simp at e;simpa [keysOf] using h2 j v e
    | _=>exact absurd (show false=true from h.1) Bool.false_ne_true
theorem call_setK (hc:X.calm=true):CallR X (.type "set") (fun xs H Q=>∃a ys,xs=[.ref a]∧(SqL X.K H a ys∨SqT X.K H a ys)∧ys.all isKey=true∧ys.length+1<scanBound∧
    ∀p,H p=none→Q (.ref p) (upd H p (setO X.prog X.w p (uqN (fun i=>(keysOf ys).getD i (.inl 0)) ys.length)))):=by
  intro pins s σ H xs us Q I r h
  obtain ⟨a,ys,rfl,hq,hk,hb,q⟩:=h
  obtain ⟨u,rfl,ru⟩:=r.one
  obtain rfl:u=Value.ref a:=ru
  have fin:∀(g:Heap) (tk:Nat),SetIs X.prog X.w g s.heap.objs.size (uqN (fun i=>(keysOf ys).getD i (.inl 0)) ys.length)→(∀b o,s.heap.get? b=some o→g.get? b=some o)→EP X pins σ Q (.ref s.heap.objs.size) {s with heap:=g,toks:=tk}:=fun g tk hS kk=>by
    have hn:H s.heap.objs.size=none:=I.hok.fresh (Nat.le_refl _)
    refine ⟨.ref s.heap.objs.size,_,I.laid (o:=setO X.prog X.w s.heap.objs.size (uqN (fun i=>(keysOf ys).getD i (.inl 0)) ys.length)) (fun b o e=>kk b o e) (Nat.le_refl _) ⟨hS,?_,fun h1 h2 p k=>p.at k⟩,rfl,q _ hn⟩
    obtain ⟨o,_,_,_,e,_⟩:=hS
    exact ⟨o,e⟩
  rcases hq with hq | hq
  · obtain ⟨its,rv,pl,hz⟩:=I.list hq
    obtain ⟨h1,h2⟩:=keys_at hk rv
    have hl:=rv.length
    refine set_of_list (val:=fun i=>(keysOf ys).getD i (.inl 0)) (I.ok.hd hc) pl.isList (fun i v e=>h2 i v (by simpa using e)) (by rw [List.size_toArray];omega) fun g tk hS kk=>fin g tk ?_ kk
    have ez:its.toArray.size=ys.length:=by rw [List.size_toArray,hl]
    rw [ez] at hS
    exact hS
  · obtain ⟨its,rv,pl,hz⟩:=I.tuple hq
    obtain ⟨h1,h2⟩:=keys_at hk rv
    have hl:=rv.length
    refine set_of_tuple (val:=fun i=>(keysOf ys).getD i (.inl 0)) (I.ok.hd hc) (show s.heap.IsTuple a its.toArray from pl) (fun i v e=>h2 i v (by simpa using e)) (by rw [List.size_toArray];omega) fun g tk hS kk=>fin g tk ?_ kk
    have ez:its.toArray.size=ys.length:=by rw [List.size_toArray,hl]
    rw [ez] at hS
    exact hS
theorem call_lenS:CallR X (.builtin "len") (fun xs H Q=>∃a l,xs=[.ref a]∧H a=some (setO X.prog X.w a l)∧Q (.int l.length) H):=by
  intro pins s σ H xs us Q I r h
  obtain ⟨a,l,rfl,ha,q⟩:=h
  obtain ⟨u,rfl,ru⟩:=r.one
  obtain rfl:u=Value.ref a:=ru
  obtain ⟨⟨o,es,ep,t,e,ex,hd,_,_,hsz,hf,hn⟩,_⟩:=(show ObjOk X.prog X.w H s.heap a (setO X.prog X.w a l) from I.hok a _ ha)
  refine call_len_set e ex hd hf (by unfold scanBound at hsz;omega) ⟨.int l.length,H,I.tok _,⟨_,by rw [hn]⟩,q⟩
end
section
variable {X:Cx}
def rAddS:R2:=fun x y H Q=>∃i j,x = .str i∧y = .str j∧i.length+j.length≤sizeLine∧Q (.str (i++j)) H
def rInS:R2:=fun x y H Q=>∃i j,x = .str i∧y = .str j∧Q (.bl (!(Builtin.Str.occurrences j i 0 j.length 1).isEmpty)) H
def rNotInS:R2:=fun x y H Q=>∃i j,x = .str i∧y = .str j∧Q (.bl (!(!(Builtin.Str.occurrences j i 0 j.length 1).isEmpty))) H
def rInA (K:PySem.W.Frag):R2:=fun x y H Q=>rIn K false x y H Q∨rInS x y H Q
def rNotInA (K:PySem.W.Frag):R2:=fun x y H Q=>rIn K true x y H Q∨rNotInS x y H Q
theorem opA_in:OpR X (compareOp .In) (rInA X.K):=op_in_seq.or op_in_str
theorem opA_notin:OpR X (compareOp .NotIn) (rNotInA X.K):=op_notIn_seq.or op_notIn_str
def rIxQ (K:PySem.W.Frag):R2:=fun x y H Q=>∃p xs i v,x = .ref p∧y = .int i∧(SqL K H p xs∨SqT K H p xs)∧atI xs i=some v∧Q v H
theorem ixQ:IxR X (rIxQ X.K):=by
  intro value slice pins s σ H x y v u Q I rx ry h hs
  obtain ⟨p,xs,i,z,e1,e2,hq | hq,e3,q⟩:=h
  ·exact ix_list value slice pins s σ H x y v u Q I rx ry ⟨p,xs,i,z,e1,e2,hq,e3,q⟩ hs
  ·exact ix_tup value slice pins s σ H x y v u Q I rx ry ⟨p,xs,i,z,e1,e2,hq,e3,q⟩ hs
def rLenQ (K:PySem.W.Frag):List V→Hp→VK→Prop:=fun xs H Q=>∃p ys,xs=[.ref p]∧(SqL K H p ys∨SqT K H p ys)∧Q (.int ys.length) H
def rLenT:List V→Hp→VK→Prop:=fun xs H Q=>∃z,xs=[.str z]∧z.length≤sizeLine∧Q (.int z.length) H
variable {K:PySem.W.Frag}
theorem ixQk (hK:X.K=K):IxR X (rIxQ K):=by subst hK;exact ixQ
theorem inK (hK:X.K=K):OpR X (compareOp .In) (rInA K):=by subst hK;exact opA_in
theorem notinK (hK:X.K=K):OpR X (compareOp .NotIn) (rNotInA K):=by subst hK;exact opA_notin
theorem lenQk (hK:X.K=K):CallR X (.builtin "len") (rLenQ K):=by subst hK;exact call_len_seq
theorem lenTk:CallR X (.builtin "len") rLenT:=call_len_str
def rListOf (K:PySem.W.Frag):List V→Hp→VK→Prop:=fun xs H Q=>∃p ys,xs=[.ref p]∧(SqL K H p ys∨SqT K H p ys)∧∀l,H l=none→Q (.ref l) (upd H l (.lst ys))
theorem listOfk (hK:X.K=K):CallR X (.type "list") (rListOf K):=by subst hK;exact call_list_of
def rIsiT (K:PySem.W.Frag):List V→Hp→VK→Prop:=fun xs H Q=>∃x n t b,xs=[x,.ty n]∧TyOf K H x t∧PySem.W.kitOne K t (.type n)=some b∧Q (.bl b) H
theorem isiTk (hK:X.K=K):CallR X (.builtin "isinstance") (rIsiT K):=by subst hK;exact call_isiT
def rIsi2 (K:PySem.W.Frag):List V→Hp→VK→Prop:=fun xs H Q=>∃x p m n t b,xs=[x,.ref p]∧H p=some (.tup [.ty m,.ty n])∧TyOf K H x t∧PySem.W.kitAny K t [.type m,.type n]=some b∧Q (.bl b) H
theorem isi2k (hK:X.K=K):CallR X (.builtin "isinstance") (rIsi2 K):=by subst hK;exact call_isi2
theorem pg_tupk (hK:X.K=K) {es:List Expr} {k:Nat} {pos:Pos} {t:TGs} {n:Nat} (hc:X.calm=true) (h:PGs X es t)
    (hn:(assignEach es X.env).length=n:=by rfl) (hst:(assignEach es X.env).findIdx? (·.1)=none:=by rfl):PG X (.Tuple es k pos) (gTup K n t):=by subst hK;exact pg_tup hc h hn hst
theorem pi_listk (hK:X.K=K) {tg l:Expr} {tl:TE} (hl:PE X l tl):PI X tg l (iList K tl):=by subst hK;exact pi_list hl
theorem pe_fldk (hK:X.K=K) {e:Expr} {ta:TE} {f:Str} {pos:Pos} (he:PE X e ta) (hb:attributeBase e f X.env (eval e X.env)=eval e X.env):PE X (.Attribute e f pos) (tFld K ta f):=by subst hK;exact pe_fld he hb
theorem pe_bmk (hK:X.K=K) {o e:Expr} {es:List Expr} {to:TE} {t:TA} {name:Str} {apos cpos:Pos} {T id:String} {r:V→List V→Hp→VK→Prop} (pa:PlainAttrs T) (slot:Slot T name id) (hty:typeOf (.builtin id)=pure (.type "method_descriptor")) (hm:MtR X id r) (ho:PE X o to) (ha:PA X (e::es) t)
    (hbase:attributeBase o name X.env (eval o X.env)=eval o X.env:=by rfl)
    (hfew:((backTo cpos (starEach (e::es) X.env)).all (fun x=>!x.1) && (backToKw cpos (keywordEach [] X.env)).all (fun x=>x.1.isSome)
      && decide ((e::es).length+([]:List Keyword).length+(if ([]:List Keyword).isEmpty then 0 else 1)<30))=true:=by rfl)
    (hline:(apos.endLine == cpos.line)=true:=by rfl) (hs:starEach (e::es) X.env=(false,eval e X.env)::starEach es X.env:=by rfl) (hplain:(backTo cpos (starEach es X.env)).any (·.1)=false:=by rfl) :
    PE X (.Call (.Attribute o name apos) (e::es) [] cpos) (tBM K T r to t):=by subst hK;exact pe_bm pa slot hty hm ho ha hbase hfew hline hs hplain
theorem boot_all':bootBuiltins "all" = some (.builtin "all"):=by decide +kernel
theorem boot_max:bootBuiltins "max" = some (.builtin "max"):=by decide +kernel
theorem boot_min:bootBuiltins "min" = some (.builtin "min"):=by decide +kernel
theorem boot_abs:bootBuiltins "abs" = some (.builtin "abs"):=by decide +kernel
theorem boot_divmod:bootBuiltins "divmod" = some (.builtin "divmod"):=by decide +kernel
end
structure Nm (mg:Str→Option Value):Prop where
  len:mg "len" = none
  max:mg "max" = none
  min:mg "min" = none
  abs:mg "abs" = none
  divmod:mg "divmod" = none
  range:mg "range" = none
  zip:mg "zip" = none
  list:mg "list" = none
  tuple:mg "tuple" = none
  int:mg "int" = none
  str:mg "str" = none
  set:mg "set" = none
  all:mg "all" = none
  isinstance:mg "isinstance" = none
section
variable {K:PySem.W.Frag} {own:List Str} {caps:List Nat} {g:TG} {tt:TT} {te:TE} {D:Addr} {σ:St} {H:Hp} {Q:Hp→Prop}
abbrev CTurn (g:TG) (tt:TT) (te:TE) (D:Addr) (N:St→Hp→Prop) (x:V) (σ:St) (H:Hp):Prop:=
  g x σ H fun σ2 H3=>tt σ2 H3 fun b H4=>if b=true then te σ2 H4 fun y H5=>∃ys,H5 D=some (.lst ys)∧ys.length<sizeLine∧N σ2 (upd H5 D (.lst (ys++[y]))) else N σ2 H4
theorem comp_list {l:Addr} {xs:List V} (Pv:Nat→St→Hp→Prop) (h0:Pv 0 (stC own caps σ) H) (hl:∀i σ H,i≤xs.length→Pv i σ H→SqL K H l xs)
    (hs:∀i x σ H,xs[i]? = some x→Pv i σ H→CTurn g tt te D (Pv (i+1)) x σ H) (hd:∀σ H,Pv xs.length σ H→Q H):tCompAt own caps (Itl K l) g tt te D σ H Q:=by
  refine ⟨fun i m σ H=>m=xs.length - i∧i≤xs.length∧Pv i σ H,⟨xs.length,by simp,Nat.zero_le _,h0⟩,?_⟩
  rintro i m σ H ⟨rfl,hi,p⟩
  have q:=hl i σ H hi p
  by_cases hlt:i<xs.length
  · refine .inr ⟨⟨xs,xs[i],q,by simp [hlt]⟩,Pv (i+1),fun σ' H' p'=>⟨xs.length - (i+1),by omega,rfl,hlt,p'⟩,fun x H' y=>?_⟩
    obtain ⟨e,y⟩:=y
    subst e
    exact hs i x σ _ (y xs q) p
  · have e:i=xs.length:=by omega
    subst e
    exact .inl ⟨⟨xs,q,Nat.le_refl _⟩,hd σ H p⟩
theorem comp_tup {l:Addr} {xs:List V} (Pv:Nat→St→Hp→Prop) (h0:Pv 0 (stC own caps σ) H) (hl:∀i σ H,i≤xs.length→Pv i σ H→SqT K H l xs)
    (hs:∀i x σ H,xs[i]? = some x→Pv i σ H→CTurn g tt te D (Pv (i+1)) x σ H) (hd:∀σ H,Pv xs.length σ H→Q H):tCompAt own caps (Itt K l) g tt te D σ H Q:=by
  refine ⟨fun i m σ H=>m=xs.length - i∧i≤xs.length∧Pv i σ H,⟨xs.length,by simp,Nat.zero_le _,h0⟩,?_⟩
  rintro i m σ H ⟨rfl,hi,p⟩
  have q:=hl i σ H hi p
  by_cases hlt:i<xs.length
  · refine .inr ⟨⟨xs,xs[i],q,by simp [hlt]⟩,Pv (i+1),fun σ' H' p'=>⟨xs.length - (i+1),by omega,rfl,hlt,p'⟩,fun x H' y=>?_⟩
    obtain ⟨e,y⟩:=y
    subst e
    exact hs i x σ _ (y xs q) p
  · have e:i=xs.length:=by omega
    subst e
    exact .inl ⟨⟨xs,q,Nat.le_refl _⟩,hd σ H p⟩
theorem comp_range {lo:Int} {n:Nat} (Pv:Nat→St→Hp→Prop) (h0:Pv 0 (stC own caps σ) H)
    (hs:∀i σ H,i<n→Pv i σ H→CTurn g tt te D (Pv (i+1)) (.int (lo+i)) σ H) (hd:∀σ H,Pv n σ H→Q H):tCompAt own caps (Itr lo n) g tt te D σ H Q:=by
  refine ⟨fun i m σ H=>m=n - i∧i≤n∧Pv i σ H,⟨n,by simp,Nat.zero_le _,h0⟩,?_⟩
  rintro i m σ H ⟨rfl,hi,p⟩
  by_cases hlt:i<n
  · refine .inr ⟨hlt,Pv (i+1),fun σ' H' p'=>⟨n - (i+1),by omega,rfl,hlt,p'⟩,fun x H' y=>?_⟩
    obtain ⟨e,y⟩:=y
    subst e y
    exact hs i σ _ hlt p
  · have e:i=n:=by omega
    subst e
    exact .inl ⟨Nat.le_refl _,hd σ H p⟩
theorem comp_str {z:Str} (Pv:Nat→St→Hp→Prop) (h0:Pv 0 (stC own caps σ) H)
    (hs:∀i c σ H,z.cps[i]? = some c→Pv i σ H→CTurn g tt te D (Pv (i+1)) (.str ⟨#[c]⟩) σ H) (hd:∀σ H,Pv z.cps.size σ H→Q H):tCompAt own caps (Its z) g tt te D σ H Q:=by
  refine ⟨fun i m σ H=>m=z.cps.size - i∧i≤z.cps.size∧Pv i σ H,⟨z.cps.size,by simp,Nat.zero_le _,h0⟩,?_⟩
  rintro i m σ H ⟨rfl,hi,p⟩
  by_cases hlt:i<z.cps.size
  · refine .inr ⟨hlt,Pv (i+1),fun σ' H' p'=>⟨z.cps.size - (i+1),by omega,rfl,hlt,p'⟩,fun x H' y=>?_⟩
    obtain ⟨e,c,hc,rfl⟩:=y
    subst e
    exact hs i c σ _ hc p
  · have e:i=z.cps.size:=by omega
    subst e
    exact .inl ⟨Nat.le_refl _,hd σ H p⟩
theorem comp_zip {l1 l2:Addr} {xs ys:List V} (Pv:Nat→St→Hp→Prop) (h0:Pv 0 (stC own caps σ) H) (he:xs.length=ys.length) (hl:∀i σ H,i≤xs.length→Pv i σ H→SqL K H l1 xs∧SqL K H l2 ys)
    (hs:∀i x y t σ H,xs[i]? = some x→ys[i]? = some y→H t=none→Pv i σ H→CTurn g tt te D (Pv (i+1)) (.ref t) σ (upd H t (.tup [x,y]))) (hd:∀σ H,Pv xs.length σ H→Q H):tCompAt own caps (Itz K l1 l2) g tt te D σ H Q:=by
  refine ⟨fun i m σ H=>m=xs.length - i∧i≤xs.length∧Pv i σ H,⟨xs.length,by simp,Nat.zero_le _,h0⟩,?_⟩
  rintro i m σ H ⟨rfl,hi,p⟩
  obtain ⟨q1,q2⟩:=hl i σ H hi p
  by_cases hlt:i<xs.length
  · have hlt2:i<ys.length:=by omega
    refine .inr ⟨⟨xs,ys,xs[i],ys[i],q1,q2,by simp [hlt],by simp [hlt2]⟩,Pv (i+1),fun σ' H' p'=>⟨xs.length - (i+1),by omega,rfl,hlt,p'⟩,fun x H' y=>?_⟩
    obtain ⟨t,u,v,rfl,ht,rfl,e1,e2⟩:=y
    exact hs i u v t σ H (e1 xs q1) (e2 ys q2) ht p
  · have e:i=xs.length:=by omega
    subst e
    exact .inl ⟨⟨xs,ys,q1,q2,.inl (Nat.le_refl _)⟩,hd σ H p⟩
end
def SqB (b:Bool) (K:PySem.W.Frag) (H:Hp) (p:Addr) (xs:List V):Prop:=match b with | true=>SqL K H p xs | false=>SqT K H p xs
def Itq (b:Bool) (K:PySem.W.Frag) (p:Addr):It:=match b with | true=>Itl K p | false=>Itt K p
def iSeq (K:PySem.W.Frag) (tl:TE):TI:=fun σ H R=>tl σ H fun x H1=>∃b p,x = .ref p∧(∃xs,SqB b K H1 p xs)∧R (Itq b K p) H1
theorem pi_seqk {X:Cx} {K:PySem.W.Frag} (hK:X.K=K) {tg l:Expr} {tl:TE} (hl:PE X l tl):PI X tg l (iSeq K tl):=by
  intro pins s σ H R I h
  refine thn (hl pins s σ H _ I h) fun v s1 zz=>?_
  obtain ⟨x,H1,I1,r1,q1⟩:=zz
  obtain ⟨b,p,e,hq,q⟩:=q1
  subst e
  subst hK
  cases b with
  | true=>
    cases r1
    obtain ⟨xs,hq⟩:=hq
    obtain ⟨its,rv,pl,hz⟩:=I1.list hq
    refine wpAny_pyIter_list pl.isList ?_
    refine ⟨s1.heap.objs.size,[s1.heap.objs.size],_,_,H1,rfl,I1.kept (t':=s1.toks) fun b o e=>Heap.get?_push_of_some _ e,turn_list p _,⟨_,Heap.get?_push_size _ rfl,rfl,rfl⟩,fun b hb=>?_,q⟩
    have e:b=s1.heap.objs.size:=by simpa using hb
    subst e
    exact I1.fpOk (Nat.le_refl _) (I1.hok.fresh (Nat.le_refl _))
  | false=>
    cases r1
    obtain ⟨xs,hq⟩:=hq
    obtain ⟨its,rv,pl,hz⟩:=I1.tuple hq
    refine wpAny_pyIter_tuple (show s1.heap.IsTuple p its.toArray from pl) ?_
    refine ⟨s1.heap.objs.size,[s1.heap.objs.size],_,_,H1,rfl,I1.kept (t':=s1.toks) fun b o e=>Heap.get?_push_of_some _ e,turn_tuple p _,⟨_,Heap.get?_push_size _ rfl,rfl,rfl⟩,fun b hb=>?_,q⟩
    have e:b=s1.heap.objs.size:=by simpa using hb
    subst e
    exact I1.fpOk (Nat.le_refl _) (I1.hok.fresh (Nat.le_refl _))
section
variable {K:PySem.W.Frag} {own:List Str} {caps:List Nat} {g:TG} {tt:TT} {te:TE} {D:Addr} {σ:St} {H:Hp} {Q:Hp→Prop}
theorem comp_seq {b:Bool} {l:Addr} {xs:List V} (Pv:Nat→St→Hp→Prop) (h0:Pv 0 (stC own caps σ) H) (hl:∀i σ H,i≤xs.length→Pv i σ H→SqB b K H l xs)
    (hs:∀i x σ H,xs[i]? = some x→Pv i σ H→CTurn g tt te D (Pv (i+1)) x σ H) (hd:∀σ H,Pv xs.length σ H→Q H):tCompAt own caps (Itq b K l) g tt te D σ H Q:=by
  cases b with
  | true=>exact comp_list Pv h0 hl hs hd
  | false=>exact comp_tup Pv h0 hl hs hd
end
theorem same_upd {H:Hp} {p:Addr} {o:HO} (h:H p=none):Same H (upd H p o):=fun b u e=>by rw [upd_ne (ne_of_none e h)];exact e
theorem same_upd2 {H H':Hp} {p:Addr} {o:HO} (s:Same H H') (h:H p=none):Same H (upd H' p o):=fun b u e=>by rw [upd_ne (ne_of_none e h)];exact s b u e
def Sq (H:Hp) (p:Addr) (xs:List V):Prop:=H p=some (.lst xs)∨H p=some (.tup xs)
theorem Sq.q {K:PySem.W.Frag} {H:Hp} {p:Addr} {xs:List V} (h:Sq H p xs):SqL K H p xs∨SqT K H p xs:=h.elim (fun e=>.inl (SqL.of e)) fun e=>.inr (SqT.of e)
theorem Sq.b {H:Hp} {p:Addr} {xs:List V} (h:Sq H p xs):∃b,∀K H',Same H H'→SqB b K H' p xs:=h.elim (fun e=>⟨true,fun _ _ s=>SqL.of (s _ _ e)⟩) fun e=>⟨false,fun _ _ s=>SqT.of (s _ _ e)⟩
theorem Sq.same {H H':Hp} {p:Addr} {xs:List V} (h:Sq H p xs) (s:Same H H'):Sq H' p xs:=h.elim (fun e=>.inl (s _ _ e)) fun e=>.inr (s _ _ e)
theorem Sq.ty {K:PySem.W.Frag} {H:Hp} {p:Addr} {xs:List V} (h:Sq H p xs):TyOf K H (.ref p) (.type "list")∨TyOf K H (.ref p) (.type "tuple"):=h.elim (fun e=>.inl (.lst e)) fun e=>.inr (.tup e)
theorem blAll_map {α:Type} (f:α→Bool):∀l:List α,blAll (l.map fun c=>.bl (f c)) (l.map f)
  | []=>rfl
  | c::l=>⟨f c,l.map f,rfl,rfl,blAll_map f l⟩
theorem all_map_id {α:Type} (f:α→Bool) (l:List α):(l.map f).all id=l.all f:=by
  rw [List.all_map]
  rfl
theorem take_one {α:Type} {l:List α} {i:Nat} {x:α} (h:l[i]? = some x):l.take (i+1)=l.take i++[x]:=by
  rw [List.take_succ,h]
  rfl
def rTupleS:List V→Hp→VK→Prop:=fun xs H Q=>∃p ys,xs=[.ref p]∧Sq H p ys∧∀l H',H' l=some (.tup ys)→Same H H'→Q (.ref l) H'
theorem tupleOfS {X:Cx}:CallR X (.type "tuple") rTupleS:=by
  intro pins s σ H xs us Q I r h
  obtain ⟨p,ys,rfl,hq,q⟩:=h
  refine call_tuple_of pins s σ H _ us Q I r ⟨p,ys,rfl,?_⟩
  rcases hq with e | e
  ·exact .inl ⟨SqL.of e,fun l hl=>q l _ upd_same (same_upd hl)⟩
  ·exact .inr ⟨SqT.of e,q p H e (Same.refl H)⟩
def tForAt (J:It) (g:TG) (tb:TS):TS:=fun D σ H=>∃W:Nat→Nat→St→Hp→Prop,(∃m,W 0 m σ H)∧∀i m σ H,W i m σ H→
      (J.stop i H∧D.nx σ H)∨(J.go i H∧∃N:St→Hp→Prop,(∀σ' H',N σ' H'→∃m',m'<m∧W (i+1) m' σ' H')∧∀x H',J.yld i H x H'→g x σ H' fun σ2 H2=>tb {D with nx:=N,ct:=N,bk:=D.nx} σ2 H2)
theorem upd_old {H:Hp} {b p:Addr} {o u:HO} (h:H b=some o) (n:H p=none):upd H p u b=some o:=by rw [upd_ne (ne_of_none h n)];exact h
theorem upd_oth {H:Hp} {b p:Addr} {o o' u:HO} (h:H b=some o) (n:H p=some o') (d:o≠o'):upd H p u b=some o:=by
  rw [upd_ne (fun e=>d (by subst e;rw [h] at n;exact Option.some.inj n))];exact h
theorem fresh_of {H H':Hp} {b:Addr} (s:Same H H') (h:H' b=none):H b=none:=by
  cases e:H b with
  | none=>rfl
  | some o=>rw [s b o e] at h;cases h
def But (p:Addr) (H H':Hp):Prop:=∀b o,b≠p→H b=some o→H' b=some o
theorem But.refl (p:Addr) (H:Hp):But p H H:=fun _ _ _ e=>e
theorem But.trans {p:Addr} {H H1 H2:Hp} (x:But p H H1) (y:But p H1 H2):But p H H2:=fun b o hb e=>y b o hb (x b o hb e)
theorem But.new {p q:Addr} {H H':Hp} {u:HO} (x:But p H H') (h:H q=none):But p H (upd H' q u):=fun b o hb e=>by
  rw [upd_ne (ne_of_none e h)]
  exact x b o hb e
theorem But.of {p:Addr} {H H':Hp} (x:Same H H'):But p H H':=fun b o _ e=>x b o e
theorem But.same {p:Addr} {H H1 H2:Hp} (x:But p H H1) (y:Same H1 H2):But p H H2:=fun b o hb e=>y b o (x b o hb e)
theorem But.none {p b:Addr} {H H':Hp} {u:HO} (x:But p H H') (hp:H' p=some u) (h:H' b = .none):H b = .none:=by
  cases e:H b with
  | none=>rfl
  | some o=>
    have hb:b≠p:=fun z=>by subst z;rw [hp] at h;cases h
    rw [x b o hb e] at h
    cases h
theorem atI_int {α:Type} {xs:List α} {i:Int} (h0:0≤i) (h1:i<xs.length):∃v,xs[i.toNat]? = some v∧atI xs i=some v:=by
  obtain ⟨j,rfl⟩:∃j:Nat,i=j:=⟨i.toNat,by omega⟩
  have hj:j<xs.length:=by omega
  exact ⟨xs[j],by simp [hj],atI_nat (by simp [hj])⟩
theorem seqIndex_pos {i:Int} {n:Nat} (h0:0≤i) (h1:i<n):seqIndex? i n=some i.toNat:=by
  have e:¬i<0:=by omega
  simp [seqIndex?,e,h0,h1]
theorem erase_map {α β:Type} (f:α→β) (l:List α) (k:Nat):(l.map f).eraseIdx k=(l.eraseIdx k).map f:=by
  rw [List.eraseIdx_eq_take_drop_succ,List.eraseIdx_eq_take_drop_succ,List.map_append,List.map_take,List.map_drop]
theorem erase_perm {α:Type} {l:List α} {k:Nat} {x:α} (h:l[k]? = some x):(x::l.eraseIdx k).Perm l:=by
  obtain ⟨hk,e⟩:=List.getElem?_eq_some_iff.mp h
  rw [List.eraseIdx_eq_take_drop_succ]
  refine List.perm_middle.symm.trans ?_
  rw [← e,List.getElem_cons_drop,List.take_append_drop]
theorem mod_ne {d e n:Int} (h0:0≤d) (h1:d<n) (h2:0≤e) (h3:e<n - 1):0≤(d+1+e) % n∧(d+1+e) % n<n∧(d+1+e) % n≠d:=by
  refine ⟨Int.emod_nonneg _ (by omega),Int.emod_lt_of_pos _ (by omega),?_⟩
  by_cases h:d+1+e<n
  ·rw [Int.emod_eq_of_lt (by omega) h];omega
  · have z:d+1+e=(d+1+e - n)+n * 1:=by omega
    rw [z,Int.add_mul_emod_self_left,Int.emod_eq_of_lt (by omega) (by omega)];omega
theorem str_at {xs:List Str} {i:Nat} {x:V} (h:(xs.map V.str)[i]? = some x):∃z,xs[i]? = some z∧x = .str z:=by
  rw [List.getElem?_map] at h
  cases e:xs[i]? with
  | none=>rw [e] at h;cases h
  | some z=>rw [e] at h;exact ⟨z,rfl,(Option.some.inj h).symm⟩
theorem nodup_at {α:Type} {xs:List α} (h:xs.Nodup) {i j:Nat} {x:α} (hi:xs[i]? = some x) (hj:xs[j]? = some x):i=j:=by
  obtain ⟨h1,e1⟩:=List.getElem?_eq_some_iff.mp hi
  obtain ⟨h2,e2⟩:=List.getElem?_eq_some_iff.mp hj
  exact (List.getElem_inj h).mp (e1.trans e2.symm)
def isL (c:Nat):Bool:=!(Builtin.Str.occurrences ("abcdefghijklmnopqrstuvwxyz" : Str) ⟨#[c]⟩ 0 ("abcdefghijklmnopqrstuvwxyz" : Str).length 1).isEmpty
def nameB (x:Str):Bool:=decide (1≤x.length) && decide (x.length≤4) && x.cps.toList.all isL
theorem isL_of:∀n<26,isL (97+n)=true:=by decide +kernel
theorem letters_at:∀n:Nat,n<26→atI (Str.ofString "abcdefghijklmnopqrstuvwxyz").cps.toList (n:Int)=some (97+n):=by decide +kernel
theorem letters_len:(Str.ofString "abcdefghijklmnopqrstuvwxyz").length≤sizeLine:=by decide +kernel
theorem letters_int {i:Int} (h0:0≤i) (h1:i<26):∃n:Nat,i=n∧n<26∧atI (Str.ofString "abcdefghijklmnopqrstuvwxyz").cps.toList i=some (97+n):=
  ⟨i.toNat,by omega,by omega,by
    obtain ⟨n,rfl⟩:∃n:Nat,i=n:=⟨i.toNat,by omega⟩
    exact letters_at n (by omega)⟩
def words12 (c d:Nat):List Str:=
  let p:Str:=⟨#[c]⟩
  let q:Str:=⟨#[d]⟩
  [p,p++p,p++q,p++p++q,q,q++p,p++p++p,p++q++p,q++q,p++p++p++q,p++q++q,q++p++p]
theorem words12_ok:∀n<26,(words12 (97+n) (97+(n+1) % 26)).Nodup∧∀x∈words12 (97+n) (97+(n+1) % 26),nameB x=true:=by decide +kernel
structure WordOf (c:Nat) (k:Nat) (x:Str):Prop where
  len:x.length=k
  fst:x.cps[0]? = some c
  all:x.cps.toList.all isL=true
theorem WordOf.one {n:Nat} (h:n<26):WordOf (97+n) 1 ⟨#[97+n]⟩:=⟨rfl,rfl,by simp [isL_of n h]⟩
theorem WordOf.snoc {c k n:Nat} {x:Str} (h:WordOf c k x) (hk:0<k) (hn:n<26):WordOf c (k+1) (x++(⟨#[97+n]⟩:Str)):=by
  obtain ⟨h1,h2,h3⟩:=h
  refine ⟨?_,?_,?_⟩
  · show (x.cps++#[97+n]).size=_
    have:x.cps.size=k:=h1
    simp [this]
  · show (x.cps++#[97+n])[0]? = _
    have:x.cps.size=k:=h1
    rw [Array.getElem?_append_left (by omega)]
    exact h2
  · show (x.cps++#[97+n]).toList.all isL=true
    simp at h3
    simp [isL_of n hn]
    exact h3
theorem WordOf.name {c k:Nat} {x:Str} (h:WordOf c k x) (h1:1≤k) (h4:k≤4):nameB x=true:=by
  unfold nameB
  rw [h.len,h.all]
  simp
  omega
section
variable {κ:Type} [DecidableEq κ]
end
section
variable {P:Program} {w:World} {H:Hp} {h:Heap} {a:Addr}
end
section
variable {X:Cx} {pins:List (Addr×Obj)} {σ:St} {H:Hp} {s:Shared} {a:Addr} {y v:V} {u r:Value} {o:Option V} {A:Around} {E:Value→Shared→Prop}
theorem Inv.big (I:Inv X pins σ H s):sysModules<s.heap.objs.size:=by
  have h:mainGlobals<s.heap.objs.size:=(I.mod.glob.keeps I.bk).lt
  exact Nat.lt_trans (by decide) h
end
theorem dk_empty {P:Program} {w:World} {H:Hp} (h:Heap) (hb:sysModules<h.objs.size):ObjOk P w H (h.push {cls:=.type "dict",data:=.dict #[]}) h.objs.size (.dK []):=
  ⟨Nat.zero_le _,beq_eq_false_iff_ne.mpr (Ne.symm (Nat.ne_of_lt hb)),[],.nil,Heap.DictOf.new h⟩
def tDNewK:TE:=fun _ H Q=>∀p,H p=none→Q (.ref p) (upd H p (.dK []))
section
variable {X:Cx} {pos:Pos}
theorem pe_dnewK:PE X (.Dict [] [] pos) tDNewK:=fun pins s σ H Q I h=>
  wpAny_Dict_empty ⟨.ref s.heap.objs.size,_,I.laid (a:=s.heap.objs.size) (o:=.dK []) (t':=s.toks) (fun _ _ q=>Heap.get?_push_of_some _ q) (Nat.le_refl _) (dk_empty s.heap I.big),rfl,h _ (I.hok.fresh (Nat.le_refl _))⟩
end
structure Nm2 (mg:Str→Option Value):Prop where
  enumerate:mg "enumerate" = none
  any:mg "any" = none
  dict:mg "dict" = none
  sorted:mg "sorted" = none
  repr:mg "repr" = none
  bool:mg "bool" = none
section
variable {X:Cx} {K:PySem.W.Frag} {tg:Expr}
theorem pi_zipk (hK:X.K=K) {es:List Expr} {k:Nat} {pos':Pos} {a b:Expr} {ta:TA} {p pos:Pos} (hg:Gl X "zip") (hm:X.mg "zip" = none) (ha:PA X [a,b] ta)
    (hs:starEach [a,b] X.env=[(false,eval a X.env),(false,eval b X.env)]:=by rfl) (hs2:starEach [b] X.env=[(false,eval b X.env)]:=by rfl) :
    PI X (.Tuple es k pos') (.Call (.Name "zip" p) [a,b] [] pos) (iZip K ta):=by subst hK;exact pi_zip hg hm ha hs hs2
theorem ps_fldk (hK:X.K=K) {o value:Expr} {ta tv:TE} {f:Str} {pos pos':Pos} (ha:PE X o ta) (hv:PE X value tv) (hs:swapsWith value (some (.Attribute o f pos')) pos.line X.env=pure false):PS X (.Assign [.Attribute o f pos'] value pos) (sFld K ta tv f):=by subst hK;exact ps_fld ha hv hs
end
@[simp ↓] theorem tVar_w (i:Nat) σ H Q:tVar i σ H Q=(∃v,σ[i]? = some (some v)∧Q v H):=rfl
@[simp ↓] theorem tC_w (v:V) z0 H Q:tC v z0 H Q=(Q v H):=rfl
@[simp ↓] theorem tB_w (t:TE) σ H Q:tB t σ H Q=(t σ H fun x H1=>∃c,x = .bl c∧Q c H1):=rfl
@[simp ↓] theorem tNot_w (t:TT) σ H Q:tNot t σ H Q=(t σ H fun c H1=>Q (!c) H1):=rfl
@[simp ↓] theorem tNotV_w (ta:TE) σ H Q:tNotV ta σ H Q=(ta σ H fun x H1=>∃c,x = .bl c∧Q (.bl (!c)) H1):=rfl
@[simp ↓] theorem tNext_w D σ H:tNext  D σ H=(D.nx σ H):=rfl
@[simp ↓] theorem tSeq_w (t u:TS) D σ H:tSeq t u D σ H=(t {D with nx:=u D} σ H):=rfl
@[simp ↓] theorem tDrop_w (te:TE) D σ H:tDrop te D σ H=(te σ H fun _ H1=>D.nx σ H1):=rfl
@[simp ↓] theorem tRet_w (te:TE) D σ H:tRet te D σ H=(te σ H D.rt):=rfl
@[simp ↓] theorem tNever_w z0 z1 z2:tNever  z0 z1 z2=(False):=rfl
@[simp ↓] theorem gName_w (i:Nat) v σ H Q:gName i v σ H Q=(Q (σ.set i (some v)) H):=rfl
@[simp ↓] theorem gNil_w vs σ H Q:gNil  vs σ H Q=(vs=[]∧Q σ H):=rfl
@[simp ↓] theorem gCons_w (t:TG) (u:TGs) vs σ H Q:gCons t u vs σ H Q=(∃v r,vs=v::r∧t v σ H fun σ' H'=>u r σ' H' Q):=rfl
@[simp ↓] theorem gTup_w (K:PySem.W.Frag) (n:Nat) (t:TGs) v σ H Q:gTup K n t v σ H Q=(∃a xs,v = .ref a∧SqT K H a xs∧xs.length=n∧t xs σ H Q):=rfl
@[simp ↓] theorem gSub_w (to ti:TE) (t:TSet) v σ H Q:gSub to ti t v σ H Q=(to σ H fun o H1=>ti σ H1 fun i H2=>t o i v H2 fun H3=>Q σ H3):=rfl
@[simp ↓] theorem tAsg_w (te:TE) (g:TG) D σ H:tAsg te g D σ H=(te σ H fun x H1=>g x σ H1 D.nx):=rfl
@[simp ↓] theorem tPar_w (i j:Nat) (ta:TA) D σ H:tPar i j ta D σ H=(ta σ H fun vs H1=>∃v w,vs=[v,w]∧D.nx ((σ.set i (some v)).set j (some w)) H1):=rfl
@[simp ↓] theorem iList_w (K:PySem.W.Frag) (tl:TE) σ H R:iList K tl σ H R=(tl σ H fun x H1=>∃a,x = .ref a∧(∃xs,SqL K H1 a xs)∧R (Itl K a) H1):=rfl
@[simp ↓] theorem iRng1_w (ta:TA) σ H R:iRng1 ta σ H R=(ta σ H fun vs H1=>∃j:Int,vs=[.int j]∧-(2 ^ 62)≤j∧j<2 ^ 62∧R (Itr 0 j.toNat) H1):=rfl
@[simp ↓] theorem iRng2_w (ta:TA) σ H R:iRng2 ta σ H R=(ta σ H fun vs H1=>∃i j:Int,vs=[.int i,.int j]∧(-(2 ^ 62)≤i∧i<2 ^ 62∧-(2 ^ 62)≤j∧j<2 ^ 62)∧R (Itr i (j - i).toNat) H1):=rfl
@[simp ↓] theorem tOp_w (r:R2) (ta tb:TE) σ H Q:tOp r ta tb σ H Q=(ta σ H fun x H1=>tb σ H1 fun y H2=>r x y H2 Q):=rfl
@[simp ↓] theorem tUn_w (r:V→Hp→VK→Prop) (ta:TE) σ H Q:tUn r ta σ H Q=(ta σ H fun x H1=>r x H1 Q):=rfl
@[simp ↓] theorem rI_w (C:Int→Int→Prop) (g:Int→Int→V) x y H Q:rI C g x y H Q=(∃i j,x = .int i∧y = .int j∧C i j∧Q (g i j) H):=rfl
@[simp ↓] theorem rI0_w (g:Int→Int→V) x y H Q:rI0 g x y H Q=(∃i j,x = .int i∧y = .int j∧Q (g i j) H):=rfl
@[simp ↓] theorem rU_w (g:Int→V) x H Q:rU g x H Q=(∃i,x = .int i∧Q (g i) H):=rfl
@[simp ↓] theorem rEq_w x y H Q:rEq  x y H Q=(scal x y=true∧Q (.bl (decide (x=y))) H):=rfl
@[simp ↓] theorem rNe_w x y H Q:rNe  x y H Q=(scal x y=true∧Q (.bl (!decide (x=y))) H):=rfl
@[simp ↓] theorem tTest_w (t:TE) σ H Q:tTest t σ H Q=(t σ H fun x H'=>∃k,x = .bl k∧Q k H'):=rfl
@[simp ↓] theorem tFld_w (K:PySem.W.Frag) (ta:TE) (f:Str) σ H Q:tFld K ta f σ H Q=(ta σ H fun x H1=>∃a C dx fs v,x = .ref a∧H1 a=some (.ins C dx fs)∧Cls K C∧NoAttr K C f∧fs.lookup f=some v∧Q v H1):=rfl
@[simp ↓] theorem sFld_w (K:PySem.W.Frag) (ta tv:TE) (f:Str) D σ H:sFld K ta tv f D σ H=(tv σ H fun y H1=>ta σ H1 fun x H2=>∃a C dx fs,x = .ref a∧H2 a=some (.ins C dx fs)∧Cls K C∧NoAttr K C f∧fs.length<1000∧D.nx σ (upd H2 a (.ins C dx (putF f y fs)))):=rfl
@[simp ↓] theorem tNil_w z0 H Q:tNil  z0 H Q=(Q [] H):=rfl
@[simp ↓] theorem tCons_w (ta:TE) (tr:TA) σ H Q:tCons ta tr σ H Q=(ta σ H fun x H1=>tr σ H1 fun xs H2=>Q (x::xs) H2):=rfl
@[simp ↓] theorem tTup_w (t:TA) σ H Q:tTup t σ H Q=(t σ H fun xs H1=>xs.length≤sizeLine∧∀p,H1 p=none→Q (.ref p) (upd H1 p (.tup xs))):=rfl
@[simp ↓] theorem tLst_w (t:TA) σ H Q:tLst t σ H Q=(t σ H fun xs H1=>xs.length≤sizeLine∧∀p,H1 p=none→Q (.ref p) (upd H1 p (.lst xs))):=rfl
@[simp ↓] theorem tCB_w (r:List V→Hp→VK→Prop) (t:TA) σ H Q:tCB r t σ H Q=(t σ H fun vs H1=>r vs H1 Q):=rfl
@[simp ↓] theorem tNoPart_w z0 H Q:tNoPart  z0 H Q=(Q none H):=rfl
@[simp ↓] theorem tPart_w (t:TE) σ H Q:tPart t σ H Q=(t σ H fun x H1=>∃i,x = .int i∧Q (some i) H1):=rfl
@[simp ↓] theorem tSl_w (r:V→Option Int→Option Int→Hp→VK→Prop) (te:TE) (tl th:TO) σ H Q:tSl r te tl th σ H Q=(te σ H fun x H1=>tl σ H1 fun l H2=>th σ H2 fun u H3=>r x l u H3 Q):=rfl
@[simp ↓] theorem rIxL_w (K:PySem.W.Frag) x y H Q:rIxL K x y H Q=(∃p xs i v,x = .ref p∧y = .int i∧SqL K H p xs∧atI xs i=some v∧Q v H):=rfl
@[simp ↓] theorem rIxT_w (K:PySem.W.Frag) x y H Q:rIxT K x y H Q=(∃p xs i v,x = .ref p∧y = .int i∧SqT K H p xs∧atI xs i=some v∧Q v H):=rfl
@[simp ↓] theorem rIxS_w x y H Q:rIxS  x y H Q=(∃z i c,x = .str z∧y = .int i∧z.length≤sizeLine∧atI z.cps.toList i=some c∧Q (.str ⟨#[c]⟩) H):=rfl
@[simp ↓] theorem rSetL_w o i v H Q:rSetL  o i v H Q=(∃p xs k j,o = .ref p∧i = .int k∧H p=some (.lst xs)∧ixN xs.length k=some j∧Q (upd H p (.lst (xs.set j v)))):=rfl
@[simp ↓] theorem rSlL_w (K:PySem.W.Frag) x lo hi H Q:rSlL K x lo hi H Q=(∃a xs,x = .ref a∧SqL K H a xs∧∀p,H p=none→Q (.ref p) (upd H p (.lst (cutV xs lo hi)))):=rfl
@[simp ↓] theorem rIn_w (K:PySem.W.Frag) (neg:Bool) x y H Q:rIn K neg x y H Q=(∃p xs,y = .ref p∧(SqL K H p xs∨SqT K H p xs)∧flatV x=true∧xs.all flatV=true∧Q (.bl (if neg then !inV x xs else inV x xs)) H):=rfl
@[simp ↓] theorem tBM_w (K:PySem.W.Frag) (T:String) (r:V→List V→Hp→VK→Prop) (to:TE) (t:TA) σ H Q:tBM K T r to t σ H Q=(to σ H fun x H1=>tyV K T x H1∧t σ H1 fun xs H2=>r x xs H2 Q):=rfl
@[simp ↓] theorem rAppend_w x vs H Q:rAppend  x vs H Q=(∃l xs y,x = .ref l∧vs=[y]∧H l=some (.lst xs)∧xs.length<sizeLine∧Q .non (upd H l (.lst (xs++[y])))):=rfl
@[simp ↓] theorem rPopAt_w x vs H Q:rPopAt  x vs H Q=(∃l xs i k y,x = .ref l∧vs=[.int i]∧H l=some (.lst xs)∧-(2 ^ 63)≤i∧i<2 ^ 63∧seqIndex? i xs.length=some k∧xs[k]? = some y∧Q y (upd H l (.lst (xs.eraseIdx k)))):=rfl
@[simp ↓] theorem rCat_w x y H Q:rCat  x y H Q=(∃l b xs zs,x = .ref l∧y = .ref b∧H l=some (.lst xs)∧H b=some (.lst zs)∧xs.length+zs.length≤sizeLine∧∀p,H p=none→Q (.ref p) (upd H p (.lst (xs++zs)))):=rfl
@[simp ↓] theorem tYes_w z0 H Q:tYes  z0 H Q=(Q true H):=rfl
@[simp ↓] theorem iStr_w (tl:TE) σ H R:iStr tl σ H R=(tl σ H fun x H1=>∃z,x = .str z∧R (Its z) H1):=rfl
@[simp ↓] theorem iZip_w (K:PySem.W.Frag) (t:TA) σ H R:iZip K t σ H R=(t σ H fun vs H1=>∃a b xs ys,vs=[.ref a,.ref b]∧SqL K H1 a xs∧SqL K H1 b ys∧R (Itz K a b) H1):=rfl
@[simp ↓] theorem rInsert_w x vs H Q:rInsert  x vs H Q=(∃l xs i y,x = .ref l∧vs=[.int i,y]∧H l=some (.lst xs)∧0≤i∧i≤xs.length∧xs.length<sizeLine∧Q .non (upd H l (.lst (xs.take i.toNat++y::xs.drop i.toNat)))):=rfl
@[simp ↓] theorem rAddS_w x y H Q:rAddS  x y H Q=(∃i j,x = .str i∧y = .str j∧i.length+j.length≤sizeLine∧Q (.str (i++j)) H):=rfl
@[simp ↓] theorem rInS_w x y H Q:rInS  x y H Q=(∃i j,x = .str i∧y = .str j∧Q (.bl (!(Builtin.Str.occurrences j i 0 j.length 1).isEmpty)) H):=rfl
@[simp ↓] theorem rNotInS_w x y H Q:rNotInS  x y H Q=(∃i j,x = .str i∧y = .str j∧Q (.bl (!(!(Builtin.Str.occurrences j i 0 j.length 1).isEmpty))) H):=rfl
@[simp ↓] theorem rInA_w (K:PySem.W.Frag) x y H Q:rInA K x y H Q=(rIn K false x y H Q∨rInS x y H Q):=rfl
@[simp ↓] theorem rNotInA_w (K:PySem.W.Frag) x y H Q:rNotInA K x y H Q=(rIn K true x y H Q∨rNotInS x y H Q):=rfl
@[simp ↓] theorem rIxQ_w (K:PySem.W.Frag) x y H Q:rIxQ K x y H Q=(∃p xs i v,x = .ref p∧y = .int i∧(SqL K H p xs∨SqT K H p xs)∧atI xs i=some v∧Q v H):=rfl
@[simp ↓] theorem rLenQ_w (K:PySem.W.Frag) xs H Q:rLenQ K xs H Q=(∃p ys,xs=[.ref p]∧(SqL K H p ys∨SqT K H p ys)∧Q (.int ys.length) H):=rfl
@[simp ↓] theorem rLenT_w xs H Q:rLenT  xs H Q=(∃z,xs=[.str z]∧z.length≤sizeLine∧Q (.int z.length) H):=rfl
@[simp ↓] theorem rListOf_w (K:PySem.W.Frag) xs H Q:rListOf K xs H Q=(∃p ys,xs=[.ref p]∧(SqL K H p ys∨SqT K H p ys)∧∀l,H l=none→Q (.ref l) (upd H l (.lst ys))):=rfl
@[simp ↓] theorem rIsiT_w (K:PySem.W.Frag) xs H Q:rIsiT K xs H Q=(∃x n t b,xs=[x,.ty n]∧TyOf K H x t∧PySem.W.kitOne K t (.type n)=some b∧Q (.bl b) H):=rfl
@[simp ↓] theorem rIsi2_w (K:PySem.W.Frag) xs H Q:rIsi2 K xs H Q=(∃x p m n t b,xs=[x,.ref p]∧H p=some (.tup [.ty m,.ty n])∧TyOf K H x t∧PySem.W.kitAny K t [.type m,.type n]=some b∧Q (.bl b) H):=rfl
@[simp ↓] theorem iSeq_w (K:PySem.W.Frag) (tl:TE) σ H R:iSeq K tl σ H R=(tl σ H fun x H1=>∃b p,x = .ref p∧(∃xs,SqB b K H1 p xs)∧R (Itq b K p) H1):=rfl
@[simp ↓] theorem rTupleS_w xs H Q:rTupleS  xs H Q=(∃p ys,xs=[.ref p]∧Sq H p ys∧∀l H',H' l=some (.tup ys)→Same H H'→Q (.ref l) H'):=rfl
structure DepQ (Q:VK) where
  n:Nat
structure DepF (g:TG) (tb:TS) (D:Ends) where
  n:Nat
structure DepW (c:TT) (tb:TS) (D:Ends) where
  n:Nat
structure DepC (g:TG) (tt:TT) (te:TE) (Q:Hp→Prop) where
  n:Nat
structure DepB (A B:Prop) where
  n:Nat
def tSp (sp:Sp) (vs:List V) (H:Hp) (Q:VK) (d:DepQ Q) (E:XK):Prop:=sp vs H Q E
def tFr (J:It) (g:TG) (tb:TS) (D:Ends) (d:DepF g tb D) (σ:St) (H:Hp):Prop:=tForAt J g tb D σ H
def tCm (own:List Str) (caps:List Nat) (J:It) (g:TG) (tt:TT) (te:TE) (Q:Hp→Prop) (d:DepC g tt te Q) (D:Addr) (σ:St) (H:Hp):Prop:=tCompAt own caps J g tt te D σ H Q
def tBr (b:Bool) (A B:Prop) (d:DepB A B):Prop:=if b=true then A else B
@[simp] theorem tBr_t (A B:Prop) (d:DepB A B):tBr true A B d=A:=rfl
@[simp] theorem tBr_f (A B:Prop) (d:DepB A B):tBr false A B d=B:=rfl
theorem tBr.of {b:Bool} {A B:Prop} {d:DepB A B} (h1:b=true→A) (h2:b=false→B):tBr b A B d:=by
  cases b with
  | true=>exact h1 rfl
  | false=>exact h2 rfl
theorem tBr.pos {b:Bool} {A B:Prop} {d:DepB A B} (h:b=true) (h1:A):tBr b A B d:=by subst h;exact h1
theorem tBr.neg {b:Bool} {A B:Prop} {d:DepB A B} (h:b=false) (h1:B):tBr b A B d:=by subst h;exact h1
@[simp ↓] theorem tCall_w (sp:Sp) (dvs:List V) (E:XK) (t:TA) (σ:St) (H:Hp) (Q:VK):tCall sp dvs E t σ H Q=t σ H fun vs H1=>tSp sp (vs++dvs) H1 Q ⟨0⟩ E:=rfl
@[simp ↓] theorem tMeth_w (C:Addr) (m:Str) (sp:Sp) (dvs:List V) (E:XK) (ta:TE) (t:TA) (σ:St) (H:Hp) (Q:VK):tMeth C m sp dvs E ta t σ H Q=ta σ H fun x H1=>∃a dx fs,x = .ref a∧H1 a=some (.ins C dx fs)∧fs.lookup m=none∧t σ H1 fun vs H2=>tSp sp (x::(vs++dvs)) H2 Q ⟨0⟩ E:=rfl
@[simp ↓] theorem tFor_w (wi:TI) (g:TG) (tb:TS) (D:Ends) (σ:St) (H:Hp):tFor wi g tb D σ H=wi σ H fun J H1=>tFr J g tb D ⟨0⟩ σ H1:=rfl
@[simp ↓] theorem tComp_w (own:List Str) (caps:List Nat) (wi:TI) (g:TG) (tt:TT) (te:TE) (σ:St) (H:Hp) (Q:VK):tComp own caps wi g tt te σ H Q=wi σ H fun J H1=>∀D,H1 D=none→tCm own caps J g tt te (Q (.ref D)) ⟨0⟩ D σ (upd H1 D (.lst [])):=rfl
@[simp ↓] theorem tIfS_w (c:TT) (t u:TS) (D:Ends) (σ:St) (H:Hp):tIfS c t u D σ H=c σ H fun b H1=>tBr b (t D σ H1) (u D σ H1) ⟨0⟩:=rfl
@[simp ↓] theorem tIf_w (c:TT) (t u:TE) (σ:St) (H:Hp) (Q:VK):tIf c t u σ H Q=c σ H fun b H1=>tBr b (t σ H1 Q) (u σ H1 Q) ⟨0⟩:=rfl
@[simp ↓] theorem tOr_w (t u:TT) (σ:St) (H:Hp) (Q:Bool→Hp→Prop):tOr t u σ H Q=t σ H fun c H1=>tBr c (Q true H1) (u σ H1 Q) ⟨0⟩:=rfl
@[simp ↓] theorem tAndV_w (ta tb:TE) (σ:St) (H:Hp) (Q:VK):tAndV ta tb σ H Q=ta σ H fun x H1=>∃c,x = .bl c∧tBr c (tb σ H1 Q) (Q (.bl false) H1) ⟨0⟩:=rfl
@[simp ↓] theorem tChain_w (r r':R2) (ta tb tc:TE) (σ:St) (H:Hp) (Q:VK):tChain r r' ta tb tc σ H Q=ta σ H fun x H1=>tb σ H1 fun y H2=>r x y H2 fun z H3=>∃k,z = .bl k∧tBr k (tc σ H3 fun z H4=>r' y z H4 Q) (Q (.bl false) H3) ⟨0⟩:=rfl
def tTurn (g:TG) (tt:TT) (te:TE) (D:Addr) (N:St→Hp→Prop) (x:V) (σ:St) (H:Hp):Prop:=
  g x σ H fun σ2 H3=>tt σ2 H3 fun b H4=>tBr b (te σ2 H4 fun y H5=>∃ys,H5 D=some (.lst ys)∧ys.length<sizeLine∧N σ2 (upd H5 D (.lst (ys++[y])))) (N σ2 H4) ⟨0⟩
@[simp ↓] theorem tTurn_w (g:TG) (tt:TT) (te:TE) (D:Addr) (N:St→Hp→Prop) (x:V) (σ:St) (H:Hp):tTurn g tt te D N x σ H =
  (g x σ H fun σ2 H3=>tt σ2 H3 fun b H4=>tBr b (te σ2 H4 fun y H5=>∃ys,H5 D=some (.lst ys)∧ys.length<sizeLine∧N σ2 (upd H5 D (.lst (ys++[y])))) (N σ2 H4) ⟨0⟩):=rfl
@[simp ↓] theorem ex_par {α:Type} (a b:α) (R:α→α→Prop):(∃v w,[a,b]=[v,w]∧R v w)=R a b:=by
  refine propext ⟨?_,fun h=>⟨a,b,rfl,h⟩⟩
  rintro ⟨_,_,e,h⟩
  cases e
  exact h
@[simp] theorem ex_and2 {α β:Type} (a:α) (b:β) (R:α→β→Prop):(∃v w,(a=v∧b=w)∧R v w)=R a b:=by
  refine propext ⟨?_,fun h=>⟨a,b,⟨rfl,rfl⟩,h⟩⟩
  rintro ⟨_,_,⟨rfl,rfl⟩,h⟩
  exact h
@[simp] theorem sz0:(0≤sizeLine)=True:=eq_true (by decide)
@[simp] theorem sz1:(1≤sizeLine)=True:=eq_true (by decide)
@[simp] theorem sz2:(2≤sizeLine)=True:=eq_true (by decide)
@[simp] theorem sz3:(3≤sizeLine)=True:=eq_true (by decide)
@[simp] theorem sz4:(4≤sizeLine)=True:=eq_true (by decide)
@[simp] theorem sz5:(5≤sizeLine)=True:=eq_true (by decide)
@[simp] theorem sz6:(6≤sizeLine)=True:=eq_true (by decide)
@[simp] theorem sz7:(7≤sizeLine)=True:=eq_true (by decide)
@[simp] theorem sz8:(8≤sizeLine)=True:=eq_true (by decide)
@[simp] theorem sz9:(9≤sizeLine)=True:=eq_true (by decide)
@[simp] theorem sz10:(10≤sizeLine)=True:=eq_true (by decide)
@[simp] theorem sz11:(11≤sizeLine)=True:=eq_true (by decide)
@[simp] theorem sz12:(12≤sizeLine)=True:=eq_true (by decide)
@[simp] theorem sz13:(13≤sizeLine)=True:=eq_true (by decide)
@[simp] theorem sz14:(14≤sizeLine)=True:=eq_true (by decide)
@[simp] theorem sz15:(15≤sizeLine)=True:=eq_true (by decide)
@[simp] theorem sz16:(16≤sizeLine)=True:=eq_true (by decide)
@[simp] theorem sz17:(17≤sizeLine)=True:=eq_true (by decide)
@[simp] theorem sz18:(18≤sizeLine)=True:=eq_true (by decide)
@[simp] theorem sz19:(19≤sizeLine)=True:=eq_true (by decide)
@[simp] theorem sz20:(20≤sizeLine)=True:=eq_true (by decide)
@[simp] theorem scal_ii (i j:Int):scal (.int i) (.int j)=true:=rfl
@[simp] theorem scal_ss (i j:Str):scal (.str i) (.str j)=true:=rfl
@[simp] theorem scal_bb (i j:Bool):scal (.bl i) (.bl j)=true:=rfl
@[simp] theorem scal_is (i:Int) (j:Str):scal (.int i) (.str j)=true:=rfl
@[simp] theorem scal_si (i:Int) (j:Str):scal (.str j) (.int i)=true:=rfl
@[simp] theorem tyV_list (K:PySem.W.Frag) (p:Addr) (H:Hp):tyV K "list" (.ref p) H=(∃xs,SqL K H p xs):=by simp [tyV]
@[simp] theorem tyV_str (K:PySem.W.Frag) (p:Str) (H:Hp):tyV K "str" (.str p) H=True:=by simp [tyV]
section
variable {K:PySem.W.Frag} {l:Addr} {xs:List V} {g:TG} {tb:TS} {D:Ends} {d:DepF g tb D} {σ:St} {H:Hp}
theorem frL (xs:List V) (Pv:Nat→St→Hp→Prop) (h0:Pv 0 σ H) (hl:∀i σ H,i≤xs.length→Pv i σ H→SqL K H l xs)
    (hs:∀i x σ H,xs[i]? = some x→Pv i σ H→g x σ H fun σ2 H2=>tb {D with nx:=Pv (i+1),ct:=Pv (i+1),bk:=D.nx} σ2 H2) (hd:∀σ H,Pv xs.length σ H→D.nx σ H):tFr (Itl K l) g tb D d σ H:=for_list Pv h0 hl hs hd
theorem frR {lo:Int} {n:Nat} (Pv:Nat→St→Hp→Prop) (h0:Pv 0 σ H)
    (hs:∀i σ H,i<n→Pv i σ H→g (.int (lo+i)) σ H fun σ2 H2=>tb {D with nx:=Pv (i+1),ct:=Pv (i+1),bk:=D.nx} σ2 H2) (hd:∀σ H,Pv n σ H→D.nx σ H):tFr (Itr lo n) g tb D d σ H:=for_range Pv h0 hs hd
end
section
variable {K:PySem.W.Frag} {own:List Str} {caps:List Nat} {g:TG} {tt:TT} {te:TE} {D l l1 l2:Addr} {σ:St} {H:Hp} {Q:Hp→Prop} {d:DepC g tt te Q}
theorem cmL (xs:List V) (Pv:Nat→St→Hp→Prop) (h0:Pv 0 (stC own caps σ) H) (hl:∀i σ H,i≤xs.length→Pv i σ H→SqL K H l xs)
    (hs:∀i x σ H,xs[i]? = some x→Pv i σ H→tTurn g tt te D (Pv (i+1)) x σ H) (hd:∀σ H,Pv xs.length σ H→Q H):tCm own caps (Itl K l) g tt te Q d D σ H:=comp_list Pv h0 hl hs hd
theorem cmQ {b:Bool} (xs:List V) (Pv:Nat→St→Hp→Prop) (h0:Pv 0 (stC own caps σ) H) (hl:∀i σ H,i≤xs.length→Pv i σ H→SqB b K H l xs)
    (hs:∀i x σ H,xs[i]? = some x→Pv i σ H→tTurn g tt te D (Pv (i+1)) x σ H) (hd:∀σ H,Pv xs.length σ H→Q H):tCm own caps (Itq b K l) g tt te Q d D σ H:=comp_seq Pv h0 hl hs hd
theorem cmR {lo:Int} {n:Nat} (Pv:Nat→St→Hp→Prop) (h0:Pv 0 (stC own caps σ) H)
    (hs:∀i σ H,i<n→Pv i σ H→tTurn g tt te D (Pv (i+1)) (.int (lo+i)) σ H) (hd:∀σ H,Pv n σ H→Q H):tCm own caps (Itr lo n) g tt te Q d D σ H:=comp_range Pv h0 hs hd
theorem cmS {z:Str} (Pv:Nat→St→Hp→Prop) (h0:Pv 0 (stC own caps σ) H)
    (hs:∀i c σ H,z.cps[i]? = some c→Pv i σ H→tTurn g tt te D (Pv (i+1)) (.str ⟨#[c]⟩) σ H) (hd:∀σ H,Pv z.cps.size σ H→Q H):tCm own caps (Its z) g tt te Q d D σ H:=comp_str Pv h0 hs hd
theorem cmZ (xs ys:List V) (Pv:Nat→St→Hp→Prop) (h0:Pv 0 (stC own caps σ) H) (he:xs.length=ys.length) (hl:∀i σ H,i≤xs.length→Pv i σ H→SqL K H l1 xs∧SqL K H l2 ys)
    (hs:∀i x y t σ H,xs[i]? = some x→ys[i]? = some y→H t=none→Pv i σ H→tTurn g tt te D (Pv (i+1)) (.ref t) σ (upd H t (.tup [x,y]))) (hd:∀σ H,Pv xs.length σ H→Q H):tCm own caps (Itz K l1 l2) g tt te Q d D σ H:=comp_zip Pv h0 he hl hs hd
end
theorem tBr_join {c:Bool} {t u:TS} {D:Ends} {σ:St} {H:Hp} {d:DepB (t D σ H) (u D σ H)} (R:St→Hp→Prop) (hc:∀σ H,R σ H→D.nx σ H)
    (h:∀N:St→Hp→Prop,(∀σ H,R σ H→N σ H)→tBr c (t {D with nx:=N} σ H) (u {D with nx:=N} σ H) ⟨0⟩):tBr c (t D σ H) (u D σ H) d:=h D.nx hc
theorem perm_map_inv {α β:Type} {f:α→β} {ys zs:List β} (h:ys.Perm zs):∀l:List α,zs=l.map f→∃l':List α,l'.Perm l∧ys=l'.map f:=by
  induction h with
  | nil=>
    intro l e
    cases l with
    | nil=>exact ⟨[],.nil,rfl⟩
    | cons a l=>cases e
  | cons x _ ih=>
    intro l e
    cases l with
    | nil=>cases e
    | cons a l=>
      simp only [List.map_cons,List.cons.injEq] at e
      obtain ⟨l',p,e'⟩:=ih l e.2
      exact ⟨a::l',p.cons a,by rw [e',e.1,List.map_cons]⟩
  | swap x y _=>
    intro l e
    match l,e with
    | a::b::l,e=>
      simp only [List.map_cons,List.cons.injEq] at e
      exact ⟨b::a::l,.swap ..,by rw [e.1,e.2.1,e.2.2];rfl⟩
  | trans _ _ ih1 ih2=>
    intro l e
    obtain ⟨l',p,e'⟩:=ih2 l e
    obtain ⟨l2,p2,e2⟩:=ih1 l' e'
    exact ⟨l2,p2.trans p,e2⟩
theorem atI_prev {α:Type} {xs:List α} {k:Nat} (h2:2≤xs.length) (hk:k<xs.length):∃j x,j≠k∧xs[j]? = some x∧atI xs ((k:Int) - 1)=some x:=by
  cases k with
  | zero=>
    have hj:xs.length - 1<xs.length:=by omega
    refine ⟨xs.length - 1,xs[xs.length - 1],by omega,by simp [hj],?_⟩
    unfold atI ixN
    rw [if_neg (by omega),if_pos (by omega)]
    have e:(((0:Nat):Int) - 1+xs.length).toNat=xs.length - 1:=by omega
    show xs[(((0:Nat):Int) - 1+xs.length).toNat]? = _
    rw [e]
    simp [hj]
  | succ k=>
    have hj:k<xs.length:=by omega
    have e:((k+1:Nat):Int) - 1=(k:Int):=by omega
    rw [e]
    exact ⟨k,xs[k],by omega,by simp [hj],atI_nat (by simp [hj])⟩
end L2
namespace L2
open PySem
theorem kit_list_str (K:W.Frag):W.kitOne K (.type "list") (.type "str")=some false:=by simp [W.kitOne];rfl
theorem kit_tuple_str (K:W.Frag):W.kitOne K (.type "tuple") (.type "str")=some false:=by simp [W.kitOne];rfl
theorem kit_str_str (K:W.Frag):W.kitOne K (.type "str") (.type "str")=some true:=by simp [W.kitOne]
theorem kit_int_str (K:W.Frag):W.kitOne K (.type "int") (.type "str")=some false:=by simp [W.kitOne];rfl
theorem kit_bool_str (K:W.Frag):W.kitOne K (.type "bool") (.type "str")=some false:=by simp [W.kitOne];rfl
theorem kit_dict_str (K:W.Frag):W.kitOne K (.type "dict") (.type "str")=some false:=by simp [W.kitOne];rfl
theorem kit_NoneType_str (K:W.Frag):W.kitOne K (.type "NoneType") (.type "str")=some false:=by simp [W.kitOne];rfl
end L2
namespace L2
open PySem PySem.Spec PyProof.Rows
section
variable {X:Cx} {K:PySem.W.Frag}
def rEqD (K:PySem.W.Frag):R2:=fun x y H Q=>∃d e,Is K H d x∧Is K H e y∧d.canLay0=true∧e.canLay0=true∧d.depth≤64∧Q (.bl (PyData.eqv d e)) H
theorem opEqDk (hK:X.K=K) (hu:X.A.units+64<cLine):OpR X (compareOp .Eq) (rEqD K):=by
  subst hK
  intro pins s σ H x y v u Q I rx ry h
  obtain ⟨d,e,h1,h2,h3,h4,h5,q⟩:=h
  exact op_eqD pins s σ H x y v u Q I rx ry ⟨d,e,h1,h2,h3,h4,by omega,q⟩
@[simp ↓] theorem rEqD_w (K:PySem.W.Frag) (x y:V) (H:Hp) (Q:VK):rEqD K x y H Q=∃d e,Is K H d x∧Is K H e y∧d.canLay0=true∧e.canLay0=true∧d.depth≤64∧Q (.bl (PyData.eqv d e)) H:=rfl
end
def dStrs (xs:List Str):List PyData:=xs.map PyData.str
def dPairs (ps:List (Str×Str)):List PyData:=ps.map fun e=>.tuple [.str e.1,.str e.2]
theorem is_strs {K:PySem.W.Frag} {H:Hp}:∀xs:List Str,IsAll K H (dStrs xs) (xs.map V.str)
  | []=>rfl
  | x::xs=>⟨_,_,rfl,rfl,is_strs xs⟩
theorem isL_iff (c:Nat):isL c=decide (c∈("abcdefghijklmnopqrstuvwxyz" : Str).cps.toList):=PySem.StrLaws.found_one _ c
theorem isL_lt {c:Nat} (h:isL c=true):c<128:=by
  rw [isL_iff] at h
  have h':=of_decide_eq_true h
  have key:∀x∈("abcdefghijklmnopqrstuvwxyz" : Str).cps.toList,x<128:=by decide +kernel
  exact key c h'
theorem name_ok {x:Str} (h:nameB x=true):PyData.strOk x=true:=by
  unfold nameB at h
  simp only [Bool.and_eq_true] at h
  have h2:=h.2
  unfold PyData.strOk
  rw [← Array.all_toList]
  rw [List.all_eq_true] at h2 ⊢
  intro c hc
  have:=isL_lt (h2 c hc)
  exact decide_eq_true (by omega)
theorem lay_strs:∀xs:List Str,(∀x∈xs,PyData.strOk x=true)→PyData.canLayAll0 (dStrs xs)=true
  | [],_=>by simp [dStrs,PyData.canLayAll0]
  | x::xs,h=>by
    have:=lay_strs xs fun y hy=>h y (List.mem_cons_of_mem _ hy)
    simp [dStrs] at this
    simp [dStrs,PyData.canLayAll0,PyData.canLay0,this,h x List.mem_cons_self]
theorem lay_pairs:∀ps:List (Str×Str),(∀e∈ps,PyData.strOk e.1=true∧PyData.strOk e.2=true)→PyData.canLayAll0 (dPairs ps)=true
  | [],_=>by simp [dPairs,PyData.canLayAll0]
  | x::xs,h=>by
    have:=lay_pairs xs fun y hy=>h y (List.mem_cons_of_mem _ hy)
    simp [dPairs] at this
    simp [dPairs,PyData.canLayAll0,PyData.canLay0,this,h x List.mem_cons_self]
theorem dep_strs:∀xs:List Str,PyData.depthAll (dStrs xs)≤1
  | []=>by simp [dStrs,PyData.depthAll]
  | x::xs=>by
    have:=dep_strs xs
    simp [dStrs] at this
    simp [dStrs,PyData.depthAll,PyData.depth,this]
theorem dep_pairs:∀ps:List (Str×Str),PyData.depthAll (dPairs ps)≤2
  | []=>by simp [dPairs,PyData.depthAll]
  | x::xs=>by
    have:=dep_pairs xs
    simp [dPairs] at this
    simp [dPairs,PyData.depthAll,PyData.depth]
    omega
@[simp ↓] theorem tDNewK_w (σ:St) (H:Hp) (Q:VK):tDNewK σ H Q=(∀p,H p=none→Q (.ref p) (upd H p (.dK []))):=rfl
end L2
namespace L2
open PySem
inductive RT {α:Type} (R:α→α→Prop):α→α→Prop where
  | refl (a:α):RT R a a
  | tail {a b c:α}:RT R a b→R b c→RT R a c
abbrev Stp:=Nat×Str×Str
def Along (S:List Stp) (a b:Str):Prop:=∃n,(n,a,b)∈S
end L2
namespace L2
open PySem PySem.Spec PyProof.Rows
section
variable {β:Type} {R:Hp→V→β→Prop} {H H':Hp} {vs:List V} {bs:List β}
end
def TupKeep (H H':Hp):Prop:=∀b xs,H b=some (.tup xs)→H' b=some (.tup xs)
end L2
namespace L2
open PySem
inductive PathV (S:List Stp) (a:Str):List Nat→List Str→Str→Prop where
  | nil:PathV S a [] [a] a
  | snoc {w:List Nat} {vs:List Str} {b c:Str} {n:Nat}:PathV S a w vs b→(n,b,c)∈S→PathV S a (w++[n]) (vs++[c]) c
abbrev BR:=List (Str×List Nat)
structure Bfs (S:List Stp) (a:Str) (at_:Nat) (R:BR):Prop where
  st:R[0]? = some (a,[])
  nd:(R.map (·.1)).Nodup
  pth:∀y w,(y,w)∈R→∃vs,PathV S a w vs y∧vs.Nodup∧∀v∈vs,v∈R.map (·.1)
  cl:∀(i:Nat) y w,i<at_→R[i]? = some (y,w)→∀n c,(n,y,c)∈S→∃w',(c,w')∈R∧w'.length≤w.length+1
  mono:∀(i j:Nat) y w z u,i≤j→R[i]? = some (y,w)→R[j]? = some (z,u)→w.length≤u.length
  bd:∀(y:Str) (w:List Nat) z u,R[at_]? = some (y,w)→(z,u)∈R→u.length≤w.length+1
def WayR (H:Hp) (kv:Key×V) (yw:Str×List Nat):Prop:=kv.1=Sum.inr yw.1∧∃p,kv.2 = .ref p∧H p=some (.lst (yw.2.map fun n:Nat=>V.int n))
structure WaysAt (H:Hp) (kvs:List (Key×V)) (R:BR):Prop where
  len:kvs.length=R.length
  ok:∀(i:Nat) kv yw,kvs[i]? = some kv→R[i]? = some yw→WayR H kv yw
theorem inV_str_iff (x:Str) (xs:List Str):inV (.str x) (xs.map V.str)=decide (x∈xs):=by
  unfold inV
  rw [List.any_map,Bool.eq_iff_iff,List.any_eq_true,decide_eq_true_eq]
  constructor
  · rintro ⟨y,hy,e⟩
    simp [eqV] at e
    exact e▸hy
  · intro h
    exact ⟨x,h,by simp [eqV]⟩
theorem flat_strs (xs:List Str):(xs.map V.str).all flatV=true:=by
  rw [List.all_map,List.all_eq_true]
  intro x _
  rfl
end L2
namespace L2
open PySem PySem.Spec PyProof.Rows
@[simp] theorem scal_in (i:Int):scal (.int i) .non=true:=rfl
@[simp] theorem scal_ni (i:Int):scal .non (.int i)=true:=rfl
@[simp] theorem scal_sn (i:Str):scal (.str i) .non=true:=rfl
theorem eqv_strs:∀a b:List Str,PyData.eqvAll (dStrs a) (dStrs b)=decide (a=b)
  | [],[]=>rfl
  | [],y::b=>by simp [dStrs,PyData.eqvAll]
  | x::a,[]=>by simp [dStrs,PyData.eqvAll]
  | x::a,y::b=>by
    show (PyData.eqv (.str x) (.str y) && PyData.eqvAll (dStrs a) (dStrs b))=_
    rw [eqv_strs a b,Bool.eq_iff_iff]
    simp [PyData.eqv]
end L2
namespace L2
open PySem
end L2
set_option maxHeartbeats 4000000
namespace L2
open PySem PySem.Spec PyProof.Rows
section
variable {prog:Program} {w:World} {A:Around} {E:Value→Shared→Prop} {s:Shared}
end
structure Nm3 (mg:Str→Option Value):Prop where
  sum:mg "sum" = none
theorem strs_are:∀{ys:List Str} {us:List Value},Vals (ys.map V.str) us→StrsAre us ys
  | [],_,r=>by rw [List.map_nil] at r;cases r;exact .nil
  | y::ys,_,r=>by
    rw [List.map_cons] at r
    cases r with
    | cons h t=>
      obtain ⟨k,rfl⟩:=h
      exact .cons y k (strs_are t)
section
variable {X:Cx} {K:PySem.W.Frag}
def rJoin:V→List V→Hp→VK→Prop:=fun x xs H Q=>∃(sep:Str) (l:Addr) (ys:List Str),x = .str sep∧xs=[.ref l]∧H l=some (.lst (ys.map V.str))∧(ys.map (·.length)).sum+ys.length * sep.length≤16777216∧Q (.str (Txt.join sep ys)) H
@[simp ↓] theorem rJoin_w x xs H Q:rJoin x xs H Q=(∃(sep:Str) (l:Addr) (ys:List Str),x = .str sep∧xs=[.ref l]∧H l=some (.lst (ys.map V.str))∧(ys.map (·.length)).sum+ys.length * sep.length≤16777216∧Q (.str (Txt.join sep ys)) H):=rfl
theorem mt_join:MtR X "str.join" rJoin:=by
  intro pins s σ H x xs v us Q I rx rs q
  obtain ⟨sep,l,ys,rfl,rfl,hl,hz,q⟩:=q
  obtain ⟨u,rfl,ru⟩:=rs.one
  obtain rfl:u=Value.ref l:=ru
  obtain ⟨t,rfl⟩:=rx
  obtain ⟨its,rv,pl,hz1⟩:=I.list (SqL.of hl)
  exact join_list pl.isList (by simpa using strs_are rv) hz fun t' k=>⟨.str _,H,I.tok _,⟨t',rfl⟩,q⟩
theorem slLk (hK:X.K=K):SlR X (rSlL K):=by subst hK;exact sl_list
@[simp ↓] theorem rSlL_w' (K:PySem.W.Frag) x lo hi H Q:rSlL K x lo hi H Q=(∃a xs,x = .ref a∧SqL K H a xs∧∀p,H p=none→Q (.ref p) (upd H p (.lst (cutV xs lo hi)))):=rfl
end
def isInt (x:V) (R:Int→Prop):Prop:=match x with | .int i=>R i | _=>False
def isStr (x:V) (R:Str→Prop):Prop:=match x with | .str i=>R i | _=>False
def isBl (x:V) (R:Bool→Prop):Prop:=match x with | .bl i=>R i | _=>False
def isRef (x:V) (R:Addr→Prop):Prop:=match x with | .ref i=>R i | _=>False
def isTy (x:V) (R:String→Prop):Prop:=match x with | .ty n=>R n | _=>False
def ar0 (xs:List V) (R:Prop):Prop:=match xs with | []=>R | _=>False
def ar1 (xs:List V) (R:V→Prop):Prop:=match xs with | [x]=>R x | _=>False
def ar2 (xs:List V) (R:V→V→Prop):Prop:=match xs with | [x,y]=>R x y | _=>False
def arH (xs:List V) (R:V→List V→Prop):Prop:=match xs with | x::r=>R x r | []=>False
def getSt:St→Nat→(V→Prop)→Prop
  | [],_,_=>False
  | o::_,0,R=>match o with | some v=>R v | none=>False
  | _::σ,n+1,R=>getSt σ n R
@[simp ↓] theorem isInt_c (i:Int) R:isInt (.int i) R=R i:=rfl
@[simp ↓] theorem isStr_c (i:Str) R:isStr (.str i) R=R i:=rfl
@[simp ↓] theorem isBl_c (i:Bool) R:isBl (.bl i) R=R i:=rfl
@[simp ↓] theorem isRef_c (i:Addr) R:isRef (.ref i) R=R i:=rfl
@[simp ↓] theorem isTy_c (i:String) R:isTy (.ty i) R=R i:=rfl
@[simp ↓] theorem ar0_c R:ar0 [] R=R:=rfl
@[simp ↓] theorem ar1_c x R:ar1 [x] R=R x:=rfl
@[simp ↓] theorem ar2_c x y R:ar2 [x,y] R=R x y:=rfl
@[simp ↓] theorem arH_c x r R:arH (x::r) R=R x r:=rfl
@[simp ↓] theorem getSt_z v σ R:getSt (some v::σ) 0 R=R v:=rfl
@[simp ↓] theorem getSt_s o σ n R:getSt (o::σ) (n+1) R=getSt σ n R:=rfl
theorem isInt.out {x:V} {R} (h:isInt x R):∃i,x = .int i∧R i:=by cases x <;> first | exact ⟨_,rfl,h⟩ | exact h.elim
theorem isStr.out {x:V} {R} (h:isStr x R):∃i,x = .str i∧R i:=by cases x <;> first | exact ⟨_,rfl,h⟩ | exact h.elim
theorem isBl.out {x:V} {R} (h:isBl x R):∃i,x = .bl i∧R i:=by cases x <;> first | exact ⟨_,rfl,h⟩ | exact h.elim
theorem isRef.out {x:V} {R} (h:isRef x R):∃i,x = .ref i∧R i:=by cases x <;> first | exact ⟨_,rfl,h⟩ | exact h.elim
theorem isTy.out {x:V} {R} (h:isTy x R):∃i,x = .ty i∧R i:=by cases x <;> first | exact ⟨_,rfl,h⟩ | exact h.elim
theorem ar0.out {xs:List V} {R} (h:ar0 xs R):xs=[]∧R:=by cases xs <;> first | exact ⟨rfl,h⟩ | exact h.elim
theorem ar1.out {xs:List V} {R} (h:ar1 xs R):∃x,xs=[x]∧R x:=by
  match xs,h with
  | [x],h=>exact ⟨x,rfl,h⟩
theorem ar2.out {xs:List V} {R} (h:ar2 xs R):∃x y,xs=[x,y]∧R x y:=by
  match xs,h with
  | [x,y],h=>exact ⟨x,y,rfl,h⟩
theorem arH.out {xs:List V} {R} (h:arH xs R):∃x r,xs=x::r∧R x r:=by cases xs <;> first | exact ⟨_,_,rfl,h⟩ | exact h.elim
theorem getSt.out:∀{σ:St} {i:Nat} {R},getSt σ i R→∃v,σ[i]? = some (some v)∧R v
  | [],_,_,h=>h.elim
  | some v::_,0,_,h=>⟨v,rfl,h⟩
  | none::_,0,_,h=>h.elim
  | _::σ,n+1,R,h=>by
    obtain ⟨v,e,q⟩:=getSt.out (σ:=σ) (i:=n) h
    exact ⟨v,by simpa using e,q⟩
section
variable {X:Cx}
theorem PE.mono {e:Expr} {t t':TE} (o:PE X e t) (h:∀{σ H Q},t' σ H Q→t σ H Q):PE X e t':=fun pins s σ H Q I q=>o pins s σ H Q I (h q)
theorem PGs.mono {e:List Expr} {t t':TGs} (o:PGs X e t) (h:∀{v σ H Q},t' v σ H Q→t v σ H Q):PGs X e t':=fun pins s σ H v u Q I r q=>o pins s σ H v u Q I r (h q)
theorem OpR.mono {f:Value→Value→Sem Value} {r r':R2} (o:OpR X f r) (h:∀{x y H Q},r' x y H Q→r x y H Q):OpR X f r':=fun pins s σ H x y v u Q I rx ry q=>o pins s σ H x y v u Q I rx ry (h q)
theorem UnR.mono {f:Value→Sem Value} {r r':V→Hp→VK→Prop} (o:UnR X f r) (h:∀{x H Q},r' x H Q→r x H Q):UnR X f r':=fun pins s σ H x v Q I rx q=>o pins s σ H x v Q I rx (h q)
theorem CallR.mono {f:Value} {r r':List V→Hp→VK→Prop} (o:CallR X f r) (h:∀{x H Q},r' x H Q→r x H Q):CallR X f r':=fun pins s σ H x v Q I rx q=>o pins s σ H x v Q I rx (h q)
theorem MtR.mono {f:String} {r r':V→List V→Hp→VK→Prop} (o:MtR X f r) (h:∀{x y H Q},r' x y H Q→r x y H Q):MtR X f r':=fun pins s σ H x y v u Q I rx ry q=>o pins s σ H x y v u Q I rx ry (h q)
theorem IxR.mono {r r':R2} (o:IxR X r) (h:∀{x y H Q},r' x y H Q→r x y H Q):IxR X r':=fun a b pins s σ H x y v u Q I rx ry q z=>o a b pins s σ H x y v u Q I rx ry (h q) z
theorem SlR.mono {r r':V→Option Int→Option Int→Hp→VK→Prop} (o:SlR X r) (h:∀{x lo hi H Q},r' x lo hi H Q→r x lo hi H Q):SlR X r':=fun pins s σ H x v vl vu lo hi sl Q I rx z1 z2 z3 q=>o pins s σ H x v vl vu lo hi sl Q I rx z1 z2 z3 (h q)
theorem PSet.mono {r r':TSet} (o:PSet X r) (h:∀{x y z H Q},r' x y z H Q→r x y z H Q):PSet X r':=fun pins s σ H o' i v ov iv u Q I a b c q=>o pins s σ H o' i v ov iv u Q I a b c (h q)
end
def fVar (i:Nat):TE:=fun σ H Q=>getSt σ i fun v=>Q v H
@[simp ↓] theorem fVar_w (i:Nat) σ H Q:fVar i σ H Q=getSt σ i (fun v=>Q v H):=rfl
theorem fVar_t {i:Nat} {σ H Q} (h:fVar i σ H Q):tVar i σ H Q:=getSt.out h
def startL:List Str→List V→St
  | _::N,v::vs=>some v::startL N vs
  | _::N,[]=>none::startL N []
  | [],_=>[]
@[simp ↓] theorem startL_cc n N v vs:startL (n::N) (v::vs)=some v::startL N vs:=rfl
@[simp ↓] theorem startL_cn n N:startL (n::N) []=none::startL N []:=rfl
@[simp ↓] theorem startL_n vs:startL [] vs=[]:=by cases vs <;> rfl
theorem startL_eq:∀(N:List Str) (vs:List V),vs.length≤N.length→startL N vs=start N vs
  | [],[],_=>rfl
  | [],_::_,h=>by simp at h
  | n::N,[],_=>by
    rw [startL,startL_eq N [] (by simp)]
    simp [start,List.replicate_succ]
  | n::N,v::vs,h=>by
    rw [startL,startL_eq N vs (by simpa using h)]
    simp [start]
def fI0 (g:Int→Int→V):R2:=fun x y H Q=>isInt x fun i=>isInt y fun j=>Q (g i j) H
def fI (C:Int→Int→Prop) (g:Int→Int→V):R2:=fun x y H Q=>isInt x fun i=>isInt y fun j=>C i j∧Q (g i j) H
def fU (g:Int→V):V→Hp→VK→Prop:=fun x H Q=>isInt x fun i=>Q (g i) H
@[simp ↓] theorem fI0_w g x y H Q:fI0 g x y H Q=(isInt x fun i=>isInt y fun j=>Q (g i j) H):=rfl
@[simp ↓] theorem fI_w C g x y H Q:fI C g x y H Q=(isInt x fun i=>isInt y fun j=>C i j∧Q (g i j) H):=rfl
@[simp ↓] theorem fU_w g x H Q:fU g x H Q=(isInt x fun i=>Q (g i) H):=rfl
theorem fI0_t {g:Int→Int→V} {x y H Q} (h:fI0 g x y H Q):rI0 g x y H Q:=by
  obtain ⟨i,rfl,h1⟩:=isInt.out h;obtain ⟨j,rfl,h2⟩:=isInt.out h1
  exact ⟨i,j,rfl,rfl,h2⟩
theorem fI_t {C} {g:Int→Int→V} {x y H Q} (h:fI C g x y H Q):rI C g x y H Q:=by
  obtain ⟨i,rfl,h1⟩:=isInt.out h;obtain ⟨j,rfl,h2⟩:=isInt.out h1
  exact ⟨i,j,rfl,rfl,h2⟩
theorem fU_t {g:Int→V} {x H Q} (h:fU g x H Q):rU g x H Q:=by
  obtain ⟨i,rfl,h⟩:=isInt.out h
  exact ⟨i,rfl,h⟩
def fEq:R2:=fun x y H Q=>match x,y with
  | .int i,.int j=>Q (.bl (decide (i=j))) H
  | .str i,.str j=>Q (.bl (decide (i=j))) H
  | .bl i,.bl j=>Q (.bl (decide (i=j))) H
  | x,y=>scal x y=true∧Q (.bl (decide (x=y))) H
def fNe:R2:=fun x y H Q=>match x,y with
  | .int i,.int j=>∃k,decide (i=j) = !k∧Q (.bl k) H
  | .str i,.str j=>∃k,decide (i=j) = !k∧Q (.bl k) H
  | .bl i,.bl j=>∃k,decide (i=j) = !k∧Q (.bl k) H
  | x,y=>scal x y=true∧∃k,decide (x=y) = !k∧Q (.bl k) H
@[simp ↓] theorem fEq_i i j H Q:fEq (.int i) (.int j) H Q=Q (.bl (decide (i=j))) H:=rfl
@[simp ↓] theorem fEq_s i j H Q:fEq (.str i) (.str j) H Q=Q (.bl (decide (i=j))) H:=rfl
@[simp ↓] theorem fEq_b i j H Q:fEq (.bl i) (.bl j) H Q=Q (.bl (decide (i=j))) H:=rfl
@[simp ↓] theorem fNe_i i j H Q:fNe (.int i) (.int j) H Q=∃k,decide (i=j) = !k∧Q (.bl k) H:=rfl
@[simp ↓] theorem fNe_s i j H Q:fNe (.str i) (.str j) H Q=∃k,decide (i=j) = !k∧Q (.bl k) H:=rfl
@[simp ↓] theorem fNe_b i j H Q:fNe (.bl i) (.bl j) H Q=∃k,decide (i=j) = !k∧Q (.bl k) H:=rfl
theorem ne_out {b:Bool} {R:Bool→Prop} (h:∃k,b = !k∧R k):R (!b):=by
  obtain ⟨k,e,q⟩:=h
  rw [e,Bool.not_not]
  exact q
theorem fEq_t {x y H Q} (h:fEq x y H Q):rEq x y H Q:=by
  unfold fEq at h
  split at h
  ·exact ⟨rfl,by simpa using h⟩
  ·exact ⟨rfl,by simpa using h⟩
  ·exact ⟨rfl,by simpa using h⟩
  ·exact h
theorem fNe_t {x y H Q} (h:fNe x y H Q):rNe x y H Q:=by
  unfold fNe at h
  split at h
  ·exact ⟨rfl,by simpa using ne_out (R:=fun k=>Q (.bl k) H) h⟩
  ·exact ⟨rfl,by simpa using ne_out (R:=fun k=>Q (.bl k) H) h⟩
  ·exact ⟨rfl,by simpa using ne_out (R:=fun k=>Q (.bl k) H) h⟩
  ·exact ⟨h.1,ne_out (R:=fun k=>Q (.bl k) H) h.2⟩
def fAddS:R2:=fun x y H Q=>isStr x fun i=>isStr y fun j=>i.length+j.length≤sizeLine∧Q (.str (i++j)) H
@[simp ↓] theorem fAddS_w x y H Q:fAddS x y H Q=(isStr x fun i=>isStr y fun j=>i.length+j.length≤sizeLine∧Q (.str (i++j)) H):=rfl
theorem fAddS_t {x y H Q} (h:fAddS x y H Q):rAddS x y H Q:=by
  obtain ⟨i,rfl,h1⟩:=isStr.out h;obtain ⟨j,rfl,h2⟩:=isStr.out h1
  exact ⟨i,j,rfl,rfl,h2⟩
def fCat:R2:=fun x y H Q=>isRef x fun l=>isRef y fun b=>∃xs,H l=some (.lst xs)∧∃zs,H b=some (.lst zs)∧xs.length+zs.length≤sizeLine∧∀p,H p=none→Q (.ref p) (upd H p (.lst (xs++zs)))
@[simp ↓] theorem fCat_w x y H Q:fCat x y H Q=(isRef x fun l=>isRef y fun b=>∃xs,H l=some (.lst xs)∧∃zs,H b=some (.lst zs)∧xs.length+zs.length≤sizeLine∧∀p,H p=none→Q (.ref p) (upd H p (.lst (xs++zs)))):=rfl
theorem fCat_t {x y H Q} (h:fCat x y H Q):rCat x y H Q:=by
  obtain ⟨i,rfl,h0⟩:=isRef.out h;obtain ⟨j,rfl,xs,h1,zs,h2,h3⟩:=isRef.out h0
  exact ⟨i,j,xs,zs,rfl,rfl,h1,h2,h3⟩
def fTest (t:TE):TT:=fun σ H Q=>t σ H fun x H'=>isBl x fun k=>Q k H'
@[simp ↓] theorem fTest_w (t:TE) σ H Q:fTest t σ H Q=(t σ H fun x H'=>isBl x fun k=>Q k H'):=rfl
def fNotV (ta:TE):TE:=fun σ H Q=>ta σ H fun x H1=>isBl x fun c=>Q (.bl (!c)) H1
@[simp ↓] theorem fNotV_w (ta:TE) σ H Q:fNotV ta σ H Q=(ta σ H fun x H1=>isBl x fun c=>Q (.bl (!c)) H1):=rfl
def fAndV (ta tb:TE):TE:=fun σ H Q=>ta σ H fun x H1=>isBl x fun c=>tBr c (tb σ H1 Q) (Q (.bl false) H1) ⟨0⟩
@[simp ↓] theorem fAndV_w (ta tb:TE) σ H Q:fAndV ta tb σ H Q=(ta σ H fun x H1=>isBl x fun c=>tBr c (tb σ H1 Q) (Q (.bl false) H1) ⟨0⟩):=rfl
def fChain (r r':R2) (ta tb tc:TE):TE:=fun σ H Q=>ta σ H fun x H1=>tb σ H1 fun y H2=>r x y H2 fun z H3=>isBl z fun k=>tBr k (tc σ H3 fun w' H4=>r' y w' H4 Q) (Q (.bl false) H3) ⟨0⟩
@[simp ↓] theorem fChain_w (r r':R2) (ta tb tc:TE) σ H Q:fChain r r' ta tb tc σ H Q=(ta σ H fun x H1=>tb σ H1 fun y H2=>r x y H2 fun z H3=>isBl z fun k=>tBr k (tc σ H3 fun w' H4=>r' y w' H4 Q) (Q (.bl false) H3) ⟨0⟩):=rfl
section
variable {X:Cx} {K:PySem.W.Frag} {a b c:Expr} {ta tb tc:TE} {tA:TT} {pos:Pos}
theorem fpv (i:Nat) {x:Str} {pos:Pos} (hN:X.N[i]? = some x:=by rfl) (hv:Vis X.env.scope x:=by first | exact Or.inl rfl | exact Or.inr (Or.inl rfl) | exact Or.inr (Or.inr rfl)) (hd:(x == ("__debug__" : Str))=false:=by decide)
    (hcd:(x == ("__classdict__" : Str))=false:=by decide):PE X (.Name x pos) (fVar i):=(pe_var hN hv hd hcd).mono fVar_t
theorem fop_add:OpR X (binaryOp .Add) (fI0 fun i j=>.int (i+j)):=op_add.mono fI0_t
theorem fop_sub:OpR X (binaryOp .Sub) (fI0 fun i j=>.int (i - j)):=op_sub.mono fI0_t
theorem fop_lt:OpR X (compareOp .Lt) (fI0 fun i j=>.bl (decide (i<j))):=op_lt.mono fI0_t
theorem fop_le:OpR X (compareOp .LtE) (fI0 fun i j=>.bl (decide (i≤j))):=op_le.mono fI0_t
theorem fop_gt:OpR X (compareOp .Gt) (fI0 fun i j=>.bl (decide (j<i))):=op_gt.mono fI0_t
theorem fop_eq:OpR X (compareOp .Eq) fEq:=op_eq.mono fEq_t
theorem fop_ne:OpR X (compareOp .NotEq) fNe:=op_ne.mono fNe_t
theorem fop_add_str:OpR X (binaryOp .Add) fAddS:=op_add_str.mono fAddS_t
theorem fop_cat:OpR X (binaryOp .Add) fCat:=op_cat.mono fCat_t
theorem fun_neg:UnR X (unaryOp .USub) (fU fun i=>.int (-i)):=un_neg.mono fU_t
theorem isBl_ex (x:V) (R:Bool→Prop):isBl x R=(∃k,x = .bl k∧R k):=propext ⟨isBl.out,fun ⟨k,e,q⟩=>by subst e;exact q⟩
theorem isInt_ex (x:V) (R:Int→Prop):isInt x R=(∃k,x = .int k∧R k):=propext ⟨isInt.out,fun ⟨k,e,q⟩=>by subst e;exact q⟩
theorem isRef_ex (x:V) (R:Addr→Prop):isRef x R=(∃k,x = .ref k∧R k):=propext ⟨isRef.out,fun ⟨k,e,q⟩=>by subst e;exact q⟩
theorem isStr_ex (x:V) (R:Str→Prop):isStr x R=(∃k,x = .str k∧R k):=propext ⟨isStr.out,fun ⟨k,e,q⟩=>by subst e;exact q⟩
theorem ar2_ex (x:List V) (R:V→V→Prop):ar2 x R=(∃k j,x=[k,j]∧R k j):=propext ⟨ar2.out,fun ⟨k,j,e,q⟩=>by subst e;exact q⟩
theorem arH_ex (x:List V) (R:V→List V→Prop):arH x R=(∃k j,x=k::j∧R k j):=propext ⟨arH.out,fun ⟨k,j,e,q⟩=>by subst e;exact q⟩
theorem fTest_eq (t:TE):fTest t=tTest t:=by
  funext σ H Q
  exact congrArg (t σ H) (funext fun x=>funext fun H'=>isBl_ex _ _)
theorem fB_eq (t:TE):fTest t=tB t:=by
  funext σ H Q
  exact congrArg (t σ H) (funext fun x=>funext fun H'=>isBl_ex _ _)
theorem fNotV_eq (t:TE):fNotV t=tNotV t:=by
  funext σ H Q
  exact congrArg (t σ H) (funext fun x=>funext fun H'=>isBl_ex _ _)
theorem fAndV_eq (t u:TE):fAndV t u=tAndV t u:=by
  funext σ H Q
  exact congrArg (t σ H) (funext fun x=>funext fun H'=>isBl_ex _ _)
theorem fChain_eq (r r':R2) (ta tb tc:TE):fChain r r' ta tb tc=tChain r r' ta tb tc:=by
  funext σ H Q
  exact congrArg (ta σ H) (funext fun x=>funext fun H1=>congrArg (tb σ H1) (funext fun y=>funext fun H2=>congrArg (r x y H2) (funext fun z=>funext fun H3=>isBl_ex _ _)))
theorem fpt_cmpR {op:CmpOp} {r:R2} (ho:OpR X (compareOp op) r) (ha:PE X a ta) (hb:PE X b tb) (hm:behindInMarks op b=false):PT X (.Compare a [op] [b] pos) (fTest (tOp r ta tb)):=fTest_eq _▸pt_cmpR ho ha hb hm
theorem fpt_val {e:Expr} {t:TE} (h:PE X e t) (he:∀whole,isTrue e X.env whole=(do let v ← whole;standAt e.pos;holding [v] (truthy v)):=by intro _;rfl):PT X e (fTest t):=fB_eq _▸pt_val h he
theorem fpe_chain {op op':CmpOp} {r r':R2} (ho:OpR X (compareOp op) r) (ho':OpR X (compareOp op') r') (ha:PE X a ta) (hb:PE X b tb) (hc:PE X c tc)
    (hm:lastMarks [op,op'] [b,c]=false:=by with_unfolding_all rfl):PE X (.Compare a [op,op'] [b,c] pos) (fChain r r' ta tb tc):=fChain_eq _ _ _ _ _▸pe_chain ho ho' ha hb hc hm
theorem fpt_chain {op op':CmpOp} {r r':R2} (ho:OpR X (compareOp op) r) (ho':OpR X (compareOp op') r') (ha:PE X a ta) (hb:PE X b tb) (hc:PE X c tc)
    (hm:lastMarks [op,op'] [b,c]=false:=by with_unfolding_all rfl):PT X (.Compare a [op,op'] [b,c] pos) (fTest (fChain r r' ta tb tc)):=by
  rw [fTest_eq,fChain_eq]
  exact pt_chain ho ho' ha hb hc hm
theorem fpe_not (ha:PE X a ta):PE X (.UnaryOp .Not a pos) (fNotV ta):=fNotV_eq _▸pe_not ha
theorem fpe_and {rest:List Expr} (ha:PE X a ta) (hb:PE X (.BoolOp .And (b::rest) pos) tb):PE X (.BoolOp .And (a::b::rest) pos) (fAndV ta tb):=fAndV_eq _ _▸pe_and ha hb
end
def fIxQ (K:PySem.W.Frag):R2:=fun x y H Q=>isRef x fun p=>isInt y fun i=>∃xs,(SqL K H p xs∨SqT K H p xs)∧∃v,atI xs i=some v∧Q v H
@[simp ↓] theorem fIxQ_w (K:PySem.W.Frag) x y H Q:fIxQ K x y H Q=(isRef x fun p=>isInt y fun i=>∃xs,(SqL K H p xs∨SqT K H p xs)∧∃v,atI xs i=some v∧Q v H):=rfl
theorem fIxQ_t {K:PySem.W.Frag} {x y H Q} (h:fIxQ K x y H Q):rIxQ K x y H Q:=by
  obtain ⟨p,rfl,h1⟩:=isRef.out h
  obtain ⟨i,rfl,xs,h2,v,h3,h4⟩:=isInt.out h1
  exact ⟨p,xs,i,v,rfl,rfl,h2,h3,h4⟩
def fIxS  : R2:=fun x y H Q=>isStr x fun z=>isInt y fun i=>z.length≤sizeLine∧∃c,atI z.cps.toList i=some c∧Q (.str ⟨#[c]⟩) H
@[simp ↓] theorem fIxS_w  x y H Q:fIxS x y H Q=(isStr x fun z=>isInt y fun i=>z.length≤sizeLine∧∃c,atI z.cps.toList i=some c∧Q (.str ⟨#[c]⟩) H):=rfl
theorem fIxS_t  {x y H Q} (h:fIxS x y H Q):rIxS x y H Q:=by
  obtain ⟨z,rfl,h1⟩:=isStr.out h
  obtain ⟨i,rfl,h2,c,h3,h4⟩:=isInt.out h1
  exact ⟨z,i,c,rfl,rfl,h2,h3,h4⟩
def fLenQ (K:PySem.W.Frag):List V→Hp→VK→Prop:=fun xs H Q=>ar1 xs fun x=>isRef x fun p=>∃ys,(SqL K H p ys∨SqT K H p ys)∧Q (.int ys.length) H
@[simp ↓] theorem fLenQ_w (K:PySem.W.Frag) xs H Q:fLenQ K xs H Q=(ar1 xs fun x=>isRef x fun p=>∃ys,(SqL K H p ys∨SqT K H p ys)∧Q (.int ys.length) H):=rfl
theorem fLenQ_t {K:PySem.W.Frag} {xs H Q} (h:fLenQ K xs H Q):rLenQ K xs H Q:=by
  obtain ⟨x,rfl,h1⟩:=ar1.out h
  obtain ⟨p,rfl,ys,h2,h3⟩:=isRef.out h1
  exact ⟨p,ys,rfl,h2,h3⟩
def fLenT  : List V→Hp→VK→Prop:=fun xs H Q=>ar1 xs fun x=>isStr x fun z=>z.length≤sizeLine∧Q (.int z.length) H
@[simp ↓] theorem fLenT_w  xs H Q:fLenT xs H Q=(ar1 xs fun x=>isStr x fun z=>z.length≤sizeLine∧Q (.int z.length) H):=rfl
theorem fLenT_t  {xs H Q} (h:fLenT xs H Q):rLenT xs H Q:=by
  obtain ⟨x,rfl,h1⟩:=ar1.out h
  obtain ⟨p,rfl,h2⟩:=isStr.out h1
  exact ⟨p,rfl,h2⟩
def fListOf (K:PySem.W.Frag):List V→Hp→VK→Prop:=fun xs H Q=>ar1 xs fun x=>isRef x fun p=>∃ys,(SqL K H p ys∨SqT K H p ys)∧∀l,H l=none→Q (.ref l) (upd H l (.lst ys))
@[simp ↓] theorem fListOf_w (K:PySem.W.Frag) xs H Q:fListOf K xs H Q=(ar1 xs fun x=>isRef x fun p=>∃ys,(SqL K H p ys∨SqT K H p ys)∧∀l,H l=none→Q (.ref l) (upd H l (.lst ys))):=rfl
theorem fListOf_t {K:PySem.W.Frag} {xs H Q} (h:fListOf K xs H Q):rListOf K xs H Q:=by
  obtain ⟨x,rfl,h1⟩:=ar1.out h
  obtain ⟨p,rfl,ys,h2,h3⟩:=isRef.out h1
  exact ⟨p,ys,rfl,h2,h3⟩
def fTupleS  : List V→Hp→VK→Prop:=fun xs H Q=>ar1 xs fun x=>isRef x fun p=>∃ys,Sq H p ys∧∀l H',H' l=some (.tup ys)→Same H H'→Q (.ref l) H'
@[simp ↓] theorem fTupleS_w  xs H Q:fTupleS xs H Q=(ar1 xs fun x=>isRef x fun p=>∃ys,Sq H p ys∧∀l H',H' l=some (.tup ys)→Same H H'→Q (.ref l) H'):=rfl
theorem fTupleS_t  {xs H Q} (h:fTupleS xs H Q):rTupleS xs H Q:=by
  obtain ⟨x,rfl,h1⟩:=ar1.out h
  obtain ⟨p,rfl,ys,h2,h3⟩:=isRef.out h1
  exact ⟨p,ys,rfl,h2,h3⟩
def fIsiT (K:PySem.W.Frag):List V→Hp→VK→Prop:=fun xs H Q=>ar2 xs fun x y=>isTy y fun n=>∃t,TyOf K H x t∧∃b,PySem.W.kitOne K t (.type n)=some b∧Q (.bl b) H
@[simp ↓] theorem fIsiT_w (K:PySem.W.Frag) xs H Q:fIsiT K xs H Q=(ar2 xs fun x y=>isTy y fun n=>∃t,TyOf K H x t∧∃b,PySem.W.kitOne K t (.type n)=some b∧Q (.bl b) H):=rfl
theorem fIsiT_t {K:PySem.W.Frag} {xs H Q} (h:fIsiT K xs H Q):rIsiT K xs H Q:=by
  obtain ⟨x,y,rfl,h1⟩:=ar2.out h
  obtain ⟨n,rfl,t,h2,b,h3,h4⟩:=isTy.out h1
  exact ⟨x,n,t,b,rfl,h2,h3,h4⟩
def fIsi2 (K:PySem.W.Frag):List V→Hp→VK→Prop:=fun xs H Q=>ar2 xs fun x y=>isRef y fun p=>∃m n,H p=some (.tup [.ty m,.ty n])∧∃t,TyOf K H x t∧∃b,PySem.W.kitAny K t [.type m,.type n]=some b∧Q (.bl b) H
@[simp ↓] theorem fIsi2_w (K:PySem.W.Frag) xs H Q:fIsi2 K xs H Q=(ar2 xs fun x y=>isRef y fun p=>∃m n,H p=some (.tup [.ty m,.ty n])∧∃t,TyOf K H x t∧∃b,PySem.W.kitAny K t [.type m,.type n]=some b∧Q (.bl b) H):=rfl
theorem fIsi2_t {K:PySem.W.Frag} {xs H Q} (h:fIsi2 K xs H Q):rIsi2 K xs H Q:=by
  obtain ⟨x,y,rfl,h1⟩:=ar2.out h
  obtain ⟨p,rfl,m,n,h0,t,h2,b,h3,h4⟩:=isRef.out h1
  exact ⟨x,p,m,n,t,b,rfl,h0,h2,h3,h4⟩
def fIn (K:PySem.W.Frag):R2:=fun x y H Q=>isRef y fun p=>∃xs,(SqL K H p xs∨SqT K H p xs)∧flatV x=true∧(∀z∈xs,flatV z=true)∧Q (.bl (inV x xs)) H
@[simp ↓] theorem fIn_w (K:PySem.W.Frag) x y H Q:fIn K x y H Q=(isRef y fun p=>∃xs,(SqL K H p xs∨SqT K H p xs)∧flatV x=true∧(∀z∈xs,flatV z=true)∧Q (.bl (inV x xs)) H):=rfl
theorem fIn_t {K:PySem.W.Frag} {x y H Q} (h:fIn K x y H Q):rInA K x y H Q:=by
  obtain ⟨p,rfl,xs,h1,h2,h3,h4⟩:=isRef.out h
  exact .inl ⟨p,xs,rfl,h1,h2,List.all_eq_true.mpr h3,h4⟩
def fInS (K:PySem.W.Frag):R2:=fun x y H Q=>isStr x fun i=>isStr y fun j=>Q (.bl (!(Builtin.Str.occurrences j i 0 j.length 1).isEmpty)) H
@[simp ↓] theorem fInS_w (K:PySem.W.Frag) x y H Q:fInS K x y H Q=(isStr x fun i=>isStr y fun j=>Q (.bl (!(Builtin.Str.occurrences j i 0 j.length 1).isEmpty)) H):=rfl
theorem fInS_t {K:PySem.W.Frag} {x y H Q} (h:fInS K x y H Q):rInA K x y H Q:=by
  obtain ⟨i,rfl,h1⟩:=isStr.out h
  obtain ⟨j,rfl,h2⟩:=isStr.out h1
  exact .inr ⟨i,j,rfl,rfl,h2⟩
def fAppend  : V→List V→Hp→VK→Prop:=fun x vs H Q=>isRef x fun l=>ar1 vs fun y=>∃xs,H l=some (.lst xs)∧xs.length<sizeLine∧Q .non (upd H l (.lst (xs++[y])))
@[simp ↓] theorem fAppend_w  x vs H Q:fAppend x vs H Q=(isRef x fun l=>ar1 vs fun y=>∃xs,H l=some (.lst xs)∧xs.length<sizeLine∧Q .non (upd H l (.lst (xs++[y])))):=rfl
theorem fAppend_t  {x vs H Q} (h:fAppend x vs H Q):rAppend x vs H Q:=by
  obtain ⟨l,rfl,h1⟩:=isRef.out h
  obtain ⟨y,rfl,xs,h2,h3⟩:=ar1.out h1
  exact ⟨l,xs,y,rfl,rfl,h2,h3⟩
def fInsert  : V→List V→Hp→VK→Prop:=fun x vs H Q=>isRef x fun l=>ar2 vs fun j y=>isInt j fun i=>∃xs,H l=some (.lst xs)∧0≤i∧i≤xs.length∧xs.length<sizeLine∧Q .non (upd H l (.lst (xs.take i.toNat++y::xs.drop i.toNat)))
@[simp ↓] theorem fInsert_w  x vs H Q:fInsert x vs H Q=(isRef x fun l=>ar2 vs fun j y=>isInt j fun i=>∃xs,H l=some (.lst xs)∧0≤i∧i≤xs.length∧xs.length<sizeLine∧Q .non (upd H l (.lst (xs.take i.toNat++y::xs.drop i.toNat)))):=rfl
theorem fInsert_t  {x vs H Q} (h:fInsert x vs H Q):rInsert x vs H Q:=by
  obtain ⟨l,rfl,h1⟩:=isRef.out h
  obtain ⟨j,y,rfl,h2⟩:=ar2.out h1
  obtain ⟨i,rfl,xs,h3⟩:=isInt.out h2
  exact ⟨l,xs,i,y,rfl,rfl,h3⟩
def fJoin  : V→List V→Hp→VK→Prop:=fun x vs H Q=>isStr x fun sep=>ar1 vs fun y=>isRef y fun l=>∃ys:List Str,H l=some (.lst (ys.map V.str))∧(ys.map (·.length)).sum+ys.length * sep.length≤16777216∧Q (.str (Txt.join sep ys)) H
@[simp ↓] theorem fJoin_w  x vs H Q:fJoin x vs H Q=(isStr x fun sep=>ar1 vs fun y=>isRef y fun l=>∃ys:List Str,H l=some (.lst (ys.map V.str))∧(ys.map (·.length)).sum+ys.length * sep.length≤16777216∧Q (.str (Txt.join sep ys)) H):=rfl
theorem fJoin_t  {x vs H Q} (h:fJoin x vs H Q):rJoin x vs H Q:=by
  obtain ⟨sep,rfl,h1⟩:=isStr.out h
  obtain ⟨y,rfl,h2⟩:=ar1.out h1
  obtain ⟨l,rfl,ys,h3⟩:=isRef.out h2
  exact ⟨sep,l,ys,rfl,rfl,h3⟩
def fEqD (K:PySem.W.Frag):R2:=fun x y H Q=>∃d,Is K H d x∧∃e,Is K H e y∧d.canLay0=true∧e.canLay0=true∧d.depth≤64∧Q (.bl (PyData.eqv d e)) H
@[simp ↓] theorem fEqD_w (K:PySem.W.Frag) x y H Q:fEqD K x y H Q=(∃d,Is K H d x∧∃e,Is K H e y∧d.canLay0=true∧e.canLay0=true∧d.depth≤64∧Q (.bl (PyData.eqv d e)) H):=rfl
theorem fEqD_t {K:PySem.W.Frag} {x y H Q} (h:fEqD K x y H Q):rEqD K x y H Q:=by
  obtain ⟨d,h1,e,h2,h3,h4,h5,h6⟩:=h
  exact ⟨d,e,h1,h2,h3,h4,h5,h6⟩
def fAbs  : List V→Hp→VK→Prop:=fun xs H Q=>ar1 xs fun x=>isInt x fun i=>Q (.int (if i<0 then -i else i)) H
@[simp ↓] theorem fAbs_w  xs H Q:fAbs xs H Q=(ar1 xs fun x=>isInt x fun i=>Q (.int (if i<0 then -i else i)) H):=rfl
theorem fAbs_t  {xs H Q} (h:fAbs xs H Q):(fun xs H Q=>∃i,xs=[.int i]∧Q (.int (if i<0 then -i else i)) H:List V→Hp→VK→Prop) xs H Q:=by
  obtain ⟨x,rfl,h1⟩:=ar1.out h
  obtain ⟨i,rfl,h2⟩:=isInt.out h1
  exact ⟨i,rfl,h2⟩
def fMax2  : List V→Hp→VK→Prop:=fun xs H Q=>ar2 xs fun x y=>isInt x fun i=>isInt y fun j=>Q (.int (if j > i then j else i)) H
@[simp ↓] theorem fMax2_w  xs H Q:fMax2 xs H Q=(ar2 xs fun x y=>isInt x fun i=>isInt y fun j=>Q (.int (if j > i then j else i)) H):=rfl
theorem fMax2_t  {xs H Q} (h:fMax2 xs H Q):(fun xs H Q=>∃i j,xs=[.int i,.int j]∧Q (.int (if j > i then j else i)) H:List V→Hp→VK→Prop) xs H Q:=by
  obtain ⟨x,y,rfl,h1⟩:=ar2.out h
  obtain ⟨i,rfl,h2⟩:=isInt.out h1
  obtain ⟨j,rfl,h3⟩:=isInt.out h2
  exact ⟨i,j,rfl,h3⟩
def fMin2  : List V→Hp→VK→Prop:=fun xs H Q=>ar2 xs fun x y=>isInt x fun i=>isInt y fun j=>Q (.int (if j<i then j else i)) H
@[simp ↓] theorem fMin2_w  xs H Q:fMin2 xs H Q=(ar2 xs fun x y=>isInt x fun i=>isInt y fun j=>Q (.int (if j<i then j else i)) H):=rfl
theorem fMin2_t  {xs H Q} (h:fMin2 xs H Q):(fun xs H Q=>∃i j,xs=[.int i,.int j]∧Q (.int (if j<i then j else i)) H:List V→Hp→VK→Prop) xs H Q:=by
  obtain ⟨x,y,rfl,h1⟩:=ar2.out h
  obtain ⟨i,rfl,h2⟩:=isInt.out h1
  obtain ⟨j,rfl,h3⟩:=isInt.out h2
  exact ⟨i,j,rfl,h3⟩
def fDivmod  : List V→Hp→VK→Prop:=fun xs H Q=>ar2 xs fun x y=>isInt x fun i=>isInt y fun j=>CDiv i j∧∀p,H p=none→Q (.ref p) (upd H p (.tup [.int (i / j),.int (i % j)]))
@[simp ↓] theorem fDivmod_w  xs H Q:fDivmod xs H Q=(ar2 xs fun x y=>isInt x fun i=>isInt y fun j=>CDiv i j∧∀p,H p=none→Q (.ref p) (upd H p (.tup [.int (i / j),.int (i % j)]))):=rfl
theorem fDivmod_t  {xs H Q} (h:fDivmod xs H Q):(fun xs H Q=>∃i j,xs=[.int i,.int j]∧CDiv i j∧∀p,H p=none→Q (.ref p) (upd H p (.tup [.int (i / j),.int (i % j)])):List V→Hp→VK→Prop) xs H Q:=by
  obtain ⟨x,y,rfl,h1⟩:=ar2.out h
  obtain ⟨i,rfl,h2⟩:=isInt.out h1
  obtain ⟨j,rfl,h3⟩:=isInt.out h2
  exact ⟨i,j,rfl,h3⟩
def fAll  : List V→Hp→VK→Prop:=fun xs H Q=>ar1 xs fun x=>isRef x fun a=>∃ys,H a=some (.lst ys)∧∃bs,blAll ys bs∧Q (.bl (bs.all id)) H
@[simp ↓] theorem fAll_w  xs H Q:fAll xs H Q=(ar1 xs fun x=>isRef x fun a=>∃ys,H a=some (.lst ys)∧∃bs,blAll ys bs∧Q (.bl (bs.all id)) H):=rfl
theorem fAll_t  {xs H Q} (h:fAll xs H Q):(fun xs H Q=>∃a ys bs,xs=[.ref a]∧H a=some (.lst ys)∧blAll ys bs∧Q (.bl (bs.all id)) H:List V→Hp→VK→Prop) xs H Q:=by
  obtain ⟨x,rfl,h1⟩:=ar1.out h
  obtain ⟨a,rfl,ys,h2,bs,h3,h4⟩:=isRef.out h1
  exact ⟨a,ys,bs,rfl,h2,h3,h4⟩
def fInt1:List V→Hp→VK→Prop:=fun xs H Q=>ar1 xs fun x=>match x with | .int i=>Q (.int i) H | .bl k=>Q (.int (if k=true then 1 else 0)) H | _=>False
@[simp ↓] theorem fInt1_i i H Q:fInt1 [.int i] H Q=Q (.int i) H:=rfl
@[simp ↓] theorem fInt1_b k H Q:fInt1 [.bl k] H Q=Q (.int (if k=true then 1 else 0)) H:=rfl
theorem fInt1_t {xs H Q} (h:fInt1 xs H Q):(fun xs H Q=>(∃i,xs=[.int i]∧Q (.int i) H)∨∃k,xs=[.bl k]∧Q (.int (if k then 1 else 0)) H:List V→Hp→VK→Prop) xs H Q:=by
  obtain ⟨x,rfl,h1⟩:=ar1.out h
  cases x with
  | int i=>exact .inl ⟨i,rfl,h1⟩
  | bl k=>exact .inr ⟨k,rfl,h1⟩
  | _=>exact h1.elim
def fSetL:TSet:=fun o i v H Q=>isRef o fun p=>isInt i fun k=>∃xs,H p=some (.lst xs)∧∃j,ixN xs.length k=some j∧Q (upd H p (.lst (xs.set j v)))
@[simp ↓] theorem fSetL_w o i v H Q:fSetL o i v H Q=(isRef o fun p=>isInt i fun k=>∃xs,H p=some (.lst xs)∧∃j,ixN xs.length k=some j∧Q (upd H p (.lst (xs.set j v)))):=rfl
theorem fSetL_t {o i v H Q} (h:fSetL o i v H Q):rSetL o i v H Q:=by
  obtain ⟨p,rfl,h1⟩:=isRef.out h
  obtain ⟨k,rfl,xs,h2,j,h3,h4⟩:=isInt.out h1
  exact ⟨p,xs,k,j,rfl,rfl,h2,h3,h4⟩
def fSlL (K:PySem.W.Frag):V→Option Int→Option Int→Hp→VK→Prop:=fun x lo hi H Q=>isRef x fun a=>∃xs,SqL K H a xs∧∀p,H p=none→Q (.ref p) (upd H p (.lst (cutV xs lo hi)))
@[simp ↓] theorem fSlL_w (K:PySem.W.Frag) x lo hi H Q:fSlL K x lo hi H Q=(isRef x fun a=>∃xs,SqL K H a xs∧∀p,H p=none→Q (.ref p) (upd H p (.lst (cutV xs lo hi)))):=rfl
theorem fSlL_t {K:PySem.W.Frag} {x lo hi H Q} (h:fSlL K x lo hi H Q):rSlL K x lo hi H Q:=by
  obtain ⟨a,rfl,xs,h1⟩:=isRef.out h
  exact ⟨a,xs,rfl,h1⟩
def fNil:TGs:=fun vs σ H Q=>ar0 vs (Q σ H)
def fCons (t:TG) (u:TGs):TGs:=fun vs σ H Q=>arH vs fun v r=>t v σ H fun σ' H'=>u r σ' H' Q
def fTup (K:PySem.W.Frag) (n:Nat) (t:TGs):TG:=fun v σ H Q=>isRef v fun a=>∃xs,SqT K H a xs∧xs.length=n∧t xs σ H Q
@[simp ↓] theorem fNil_w vs σ H Q:fNil vs σ H Q=ar0 vs (Q σ H):=rfl
@[simp ↓] theorem fCons_w t u vs σ H Q:fCons t u vs σ H Q=(arH vs fun v r=>t v σ H fun σ' H'=>u r σ' H' Q):=rfl
@[simp ↓] theorem fTup_w K n t v σ H Q:fTup K n t v σ H Q=(isRef v fun a=>∃xs,SqT K H a xs∧xs.length=n∧t xs σ H Q):=rfl
theorem fNil_t {vs σ H Q} (h:fNil vs σ H Q):gNil vs σ H Q:=ar0.out h
theorem fCons_eq (t:TG) (u:TGs):fCons t u=gCons t u:=by
  funext vs σ H Q
  exact arH_ex _ _
theorem fTup_eq (K:PySem.W.Frag) (n:Nat) (t:TGs):fTup K n t=gTup K n t:=by
  funext v σ H Q
  refine propext ⟨fun h=>?_,fun ⟨a,xs,e,h⟩=>by subst e;exact ⟨xs,h⟩⟩
  obtain ⟨a,rfl,xs,h1⟩:=isRef.out h
  exact ⟨a,xs,rfl,h1⟩
def fPar (i j:Nat) (ta:TA):TS:=fun D σ H=>ta σ H fun vs H1=>ar2 vs fun v w=>D.nx ((σ.set i (some v)).set j (some w)) H1
@[simp ↓] theorem fPar_w i j ta D σ H:fPar i j ta D σ H=(ta σ H fun vs H1=>ar2 vs fun v w=>D.nx ((σ.set i (some v)).set j (some w)) H1):=rfl
theorem fPar_eq (i j:Nat) (ta:TA):fPar i j ta=tPar i j ta:=by
  funext D σ H
  exact congrArg (ta σ H) (funext fun vs=>funext fun H1=>ar2_ex _ _)
def fiList (K:PySem.W.Frag) (tl:TE):TI:=fun σ H R=>tl σ H fun x H1=>isRef x fun a=>(∃xs,SqL K H1 a xs)∧R (Itl K a) H1
def fiSeq (K:PySem.W.Frag) (tl:TE):TI:=fun σ H R=>tl σ H fun x H1=>isRef x fun p=>∃b,(∃xs,SqB b K H1 p xs)∧R (Itq b K p) H1
def fiStr (tl:TE):TI:=fun σ H R=>tl σ H fun x H1=>isStr x fun z=>R (Its z) H1
def fiRng1 (ta:TA):TI:=fun σ H R=>ta σ H fun vs H1=>ar1 vs fun v=>isInt v fun j=>-(2 ^ 62)≤j∧j<2 ^ 62∧R (Itr 0 j.toNat) H1
def fiRng2 (ta:TA):TI:=fun σ H R=>ta σ H fun vs H1=>ar2 vs fun v w=>isInt v fun i=>isInt w fun j=>(-(2 ^ 62)≤i∧i<2 ^ 62∧-(2 ^ 62)≤j∧j<2 ^ 62)∧R (Itr i (j - i).toNat) H1
def fiZip (K:PySem.W.Frag) (t:TA):TI:=fun σ H R=>t σ H fun vs H1=>ar2 vs fun x y=>isRef x fun a=>isRef y fun b=>(∃xs,SqL K H1 a xs)∧(∃ys,SqL K H1 b ys)∧R (Itz K a b) H1
@[simp ↓] theorem fiList_w K tl σ H R:fiList K tl σ H R=(tl σ H fun x H1=>isRef x fun a=>(∃xs,SqL K H1 a xs)∧R (Itl K a) H1):=rfl
@[simp ↓] theorem fiSeq_w K tl σ H R:fiSeq K tl σ H R=(tl σ H fun x H1=>isRef x fun p=>∃b,(∃xs,SqB b K H1 p xs)∧R (Itq b K p) H1):=rfl
@[simp ↓] theorem fiStr_w tl σ H R:fiStr tl σ H R=(tl σ H fun x H1=>isStr x fun z=>R (Its z) H1):=rfl
@[simp ↓] theorem fiRng1_w ta σ H R:fiRng1 ta σ H R=(ta σ H fun vs H1=>ar1 vs fun v=>isInt v fun j=>-(2 ^ 62)≤j∧j<2 ^ 62∧R (Itr 0 j.toNat) H1):=rfl
@[simp ↓] theorem fiRng2_w ta σ H R:fiRng2 ta σ H R=(ta σ H fun vs H1=>ar2 vs fun v w=>isInt v fun i=>isInt w fun j=>(-(2 ^ 62)≤i∧i<2 ^ 62∧-(2 ^ 62)≤j∧j<2 ^ 62)∧R (Itr i (j - i).toNat) H1):=rfl
@[simp ↓] theorem fiZip_w K t σ H R:fiZip K t σ H R=(t σ H fun vs H1=>ar2 vs fun x y=>isRef x fun a=>isRef y fun b=>(∃xs,SqL K H1 a xs)∧(∃ys,SqL K H1 b ys)∧R (Itz K a b) H1):=rfl
theorem fiList_eq (K:PySem.W.Frag) (tl:TE):fiList K tl=iList K tl:=by
  funext σ H R
  exact congrArg (tl σ H) (funext fun x=>funext fun H1=>isRef_ex _ _)
theorem fiSeq_eq (K:PySem.W.Frag) (tl:TE):fiSeq K tl=iSeq K tl:=by
  funext σ H R
  refine congrArg (tl σ H) (funext fun x=>funext fun H1=>propext ⟨fun h=>?_,fun ⟨b,p,e,h⟩=>by subst e;exact ⟨b,h⟩⟩)
  obtain ⟨p,rfl,b,h1⟩:=isRef.out h
  exact ⟨b,p,rfl,h1⟩
theorem fiStr_eq (tl:TE):fiStr tl=iStr tl:=by
  funext σ H R
  exact congrArg (tl σ H) (funext fun x=>funext fun H1=>isStr_ex _ _)
theorem fiRng1_eq (ta:TA):fiRng1 ta=iRng1 ta:=by
  funext σ H R
  refine congrArg (ta σ H) (funext fun x=>funext fun H1=>propext ⟨fun h=>?_,fun ⟨b,e,h⟩=>by subst e;exact h⟩)
  obtain ⟨v,rfl,h1⟩:=ar1.out h
  obtain ⟨i,rfl,h2⟩:=isInt.out h1
  exact ⟨i,rfl,h2⟩
theorem fiRng2_eq (ta:TA):fiRng2 ta=iRng2 ta:=by
  funext σ H R
  refine congrArg (ta σ H) (funext fun x=>funext fun H1=>propext ⟨fun h=>?_,fun ⟨b,c,e,h⟩=>by subst e;exact h⟩)
  obtain ⟨v,w,rfl,h1⟩:=ar2.out h
  obtain ⟨i,rfl,h2⟩:=isInt.out h1
  obtain ⟨j,rfl,h3⟩:=isInt.out h2
  exact ⟨i,j,rfl,h3⟩
theorem fiZip_eq (K:PySem.W.Frag) (t:TA):fiZip K t=iZip K t:=by
  funext σ H R
  refine congrArg (t σ H) (funext fun x=>funext fun H1=>propext ⟨fun h=>?_,fun ⟨a,b,xs,ys,e,h1,h2,h3⟩=>by subst e;exact ⟨⟨xs,h1⟩,⟨ys,h2⟩,h3⟩⟩)
  obtain ⟨v,w,rfl,h1⟩:=ar2.out h
  obtain ⟨i,rfl,h2⟩:=isRef.out h1
  obtain ⟨j,rfl,⟨xs,h3⟩,⟨ys,h4⟩,h5⟩:=isRef.out h2
  exact ⟨i,j,xs,ys,rfl,h3,h4,h5⟩
def fCall (sp:Sp) (E:XK) (t:TA):TE:=fun σ H Q=>t σ H fun vs H1=>tSp sp vs H1 Q ⟨0⟩ E
@[simp ↓] theorem fCall_w sp E t σ H Q:fCall sp E t σ H Q=(t σ H fun vs H1=>tSp sp vs H1 Q ⟨0⟩ E):=rfl
theorem fCall_eq (sp:Sp) (E:XK) (t:TA):fCall sp E t=tCall sp [] E t:=by
  funext σ H Q
  exact congrArg (t σ H) (funext fun vs=>funext fun H1=>by rw [List.append_nil];rfl)
def fMeth (C:Addr) (m:Str) (sp:Sp) (E:XK) (ta:TE) (t:TA):TE:=fun σ H Q=>ta σ H fun x H1=>isRef x fun a=>∃dx fs,H1 a=some (.ins C dx fs)∧fs.lookup m=none∧t σ H1 fun vs H2=>tSp sp (.ref a::vs) H2 Q ⟨0⟩ E
@[simp ↓] theorem fMeth_w C m sp E ta t σ H Q:fMeth C m sp E ta t σ H Q=(ta σ H fun x H1=>isRef x fun a=>∃dx fs,H1 a=some (.ins C dx fs)∧fs.lookup m=none∧t σ H1 fun vs H2=>tSp sp (.ref a::vs) H2 Q ⟨0⟩ E):=rfl
theorem fMeth_eq (C:Addr) (m:Str) (sp:Sp) (E:XK) (ta:TE) (t:TA):fMeth C m sp E ta t=tMeth C m sp [] E ta t:=by
  funext σ H Q
  refine congrArg (ta σ H) (funext fun x=>funext fun H1=>propext ⟨fun h=>?_,fun ⟨a,dx,fs,e,h1,h2,h3⟩=>?_⟩)
  · obtain ⟨a,rfl,dx,fs,h1,h2,h3⟩:=isRef.out h
    refine ⟨a,dx,fs,rfl,h1,h2,?_⟩
    simp only [List.append_nil]
    exact h3
  · subst e
    refine ⟨dx,fs,h1,h2,?_⟩
    simp only [List.append_nil] at h3
    exact h3
def fFld (K:PySem.W.Frag) (ta:TE) (f:Str):TE:=fun σ H Q=>ta σ H fun x H1=>isRef x fun a=>∃C dx fs,H1 a=some (.ins C dx fs)∧Cls K C∧NoAttr K C f∧∃v,fs.lookup f=some v∧Q v H1
@[simp ↓] theorem fFld_w K ta f σ H Q:fFld K ta f σ H Q=(ta σ H fun x H1=>isRef x fun a=>∃C dx fs,H1 a=some (.ins C dx fs)∧Cls K C∧NoAttr K C f∧∃v,fs.lookup f=some v∧Q v H1):=rfl
theorem fFld_eq (K:PySem.W.Frag) (ta:TE) (f:Str):fFld K ta f=tFld K ta f:=by
  funext σ H Q
  refine congrArg (ta σ H) (funext fun x=>funext fun H1=>propext ⟨fun h=>?_,fun ⟨a,C,dx,fs,v,e,h1,h2,h3,h4⟩=>by subst e;exact ⟨C,dx,fs,h1,h2,h3,v,h4⟩⟩)
  obtain ⟨a,rfl,C,dx,fs,h1,h2,h3,v,h4⟩:=isRef.out h
  exact ⟨a,C,dx,fs,v,rfl,h1,h2,h3,h4⟩
def fPart (t:TE):TO:=fun σ H Q=>t σ H fun x H1=>isInt x fun i=>Q (some i) H1
@[simp ↓] theorem fPart_w t σ H Q:fPart t σ H Q=(t σ H fun x H1=>isInt x fun i=>Q (some i) H1):=rfl
theorem fPart_eq (t:TE):fPart t=tPart t:=by
  funext σ H Q
  exact congrArg (t σ H) (funext fun x=>funext fun H1=>isInt_ex _ _)
section
variable {X:Cx} {K:PySem.W.Frag}
theorem PE.eqv {e:Expr} {t t':TE} (o:PE X e t) (h:t'=t):PE X e t':=h▸o
theorem PS.eqv {e:Stmt} {t t':TS} (o:PS X e t) (h:t'=t):PS X e t':=h▸o
theorem PG.eqv {e:Expr} {t t':TG} (o:PG X e t) (h:t'=t):PG X e t':=h▸o
theorem PGs.eqv {e:List Expr} {t t':TGs} (o:PGs X e t) (h:t'=t):PGs X e t':=h▸o
theorem PI.eqv {tg e:Expr} {t t':TI} (o:PI X tg e t) (h:t'=t):PI X tg e t':=h▸o
theorem PO.eqv {e:Option Expr} {t t':TO} (o:PO X e t) (h:t'=t):PO X e t':=h▸o
theorem fop_mul:OpR X (binaryOp .Mult) (fI CMul fun i j=>.int (i * j)):=op_mul.mono fI_t
theorem fop_fdiv:OpR X (binaryOp .FloorDiv) (fI CDiv fun i j=>.int (i / j)):=op_fdiv.mono fI_t
theorem fop_mod:OpR X (binaryOp .Mod) (fI (fun _ j=>0<j) fun i j=>.int (i % j)):=op_mod.mono fI_t
theorem fop_pow:OpR X (binaryOp .Pow) (fI CPow fun i j=>.int (i ^ j.toNat)):=op_pow.mono fI_t
theorem fixQk (hK:X.K=K):IxR X (fIxQ K):=(ixQk hK).mono fIxQ_t
theorem fix_str:IxR X fIxS:=ix_str.mono fIxS_t
theorem finK (hK:X.K=K):OpR X (compareOp .In) (fIn K):=(inK hK).mono fIn_t
theorem finS (hK:X.K=K):OpR X (compareOp .In) (fInS K):=(inK hK).mono fInS_t
theorem fopEqD (hK:X.K=K) (hu:X.A.units+64<cLine):OpR X (compareOp .Eq) (fEqD K):=(opEqDk hK hu).mono fEqD_t
theorem flenQk (hK:X.K=K):CallR X (.builtin "len") (fLenQ K):=(lenQk hK).mono fLenQ_t
theorem flenTk:CallR X (.builtin "len") fLenT:=lenTk.mono fLenT_t
theorem flistOfk (hK:X.K=K):CallR X (.type "list") (fListOf K):=(listOfk hK).mono fListOf_t
theorem ftupleOfS:CallR X (.type "tuple") fTupleS:=tupleOfS.mono fTupleS_t
theorem fisiTk (hK:X.K=K):CallR X (.builtin "isinstance") (fIsiT K):=(isiTk hK).mono fIsiT_t
theorem fisi2k (hK:X.K=K):CallR X (.builtin "isinstance") (fIsi2 K):=(isi2k hK).mono fIsi2_t
theorem fcall_all (hc:X.calm=true):CallR X (.builtin "all") fAll:=(call_allB hc).mono fAll_t
theorem fcall_int1:CallR X (.type "int") fInt1:=call_int1.mono fInt1_t
theorem fcall_abs:CallR X (.builtin "abs") fAbs:=call_abs.mono fAbs_t
theorem fcall_max2 (hc:X.calm=true):CallR X (.builtin "max") fMax2:=(call_max2 hc).mono fMax2_t
theorem fcall_min2 (hc:X.calm=true):CallR X (.builtin "min") fMin2:=(call_min2 hc).mono fMin2_t
theorem fcall_divmod:CallR X (.builtin "divmod") fDivmod:=call_divmod.mono fDivmod_t
theorem fmt_append:MtR X "list.append" fAppend:=MtR.mono (r:=rAppend) mt_append fAppend_t
theorem fmt_insert:MtR X "list.insert" fInsert:=MtR.mono (r:=rInsert) mt_insert fInsert_t
theorem fmt_join:MtR X "str.join" fJoin:=mt_join.mono fJoin_t
theorem fslLk (hK:X.K=K):SlR X (fSlL K):=(slLk hK).mono fSlL_t
theorem fset_list:PSet X fSetL:=set_list.mono fSetL_t
end
theorem Fun.okL {P:Program} {w:World} {K:PySem.W.Frag} {mg:Str→Option Value} {base:Heap} {x qual:Str} {st:Stmt} {f:Addr} {fd:FuncData} {N ps:List Str} {k:Nat} {sp:Sp} (F:Fun K x qual st f fd) (S:FnScope N ps (defScope st)) (len:∀vs H Q E,sp vs H Q E→vs.length=ps.length)
    (hbody:∀(cdv:Value) (A:Around) (outer:List Env) (s:Shared) (H:Hp) (vs:List V) (Q:VK) (E:XK),Room k (A.deeper (envOfC qual (defScope st) s.heap.objs.size f cdv))→sp vs H Q E→
      ∃t,PSs (cxOf CX0 P w K mg base N qual (defScope st) f cdv A outer s H E).nox (defBody st) t∧t {nx:=fun _ H'=>Q .non H',rt:=Q} (startL N vs) H):FnOk P w K mg base CX0 (k+1) f fd ps sp:=by
  refine F.ok S len fun cdv A outer s H vs Q E hr h=>?_
  obtain ⟨t,h1,h2⟩:=hbody cdv A outer s H vs Q E hr h
  refine ⟨t,h1,?_⟩
  have hl:=len _ _ _ _ h
  have hp:ps.length≤N.length:=by have:=congrArg List.length S.pre;rw [List.length_take] at this;omega
  rw [startL_eq N vs (by omega)] at h2
  exact h2
end L2
namespace L2
open PySem
structure Rch (S:List Stp) (x:Str) (f:List Str):Prop where
  st:x∈f
  nd:f.Nodup
  rt:∀y∈f,RT (Along S) x y
theorem zpos {m:Nat} (h:1≤m):(0:Int)<m:=by omega
theorem zlt {m b:Nat} {c:Int} (h:m≤b) (hb:(b:Int)<c):(m:Int)<c:=by omega
theorem zlo {f:Int} (h:0≤f) : -4611686018427387904≤f:=by omega
theorem zloN {f:Nat} : -4611686018427387904≤(f:Int):=by omega
theorem ztn {d:Int} {m b:Nat} (h0:0≤d) (h:d<m) (hb:m≤b):d.toNat+1≤b:=by omega
theorem zmax {d:Int} (h:0≤d) (c:Int):c+d=max d 0+c:=by omega
theorem zsz {a b:Nat} (h:a<b) (hb:b≤20):a<sizeLine:=Nat.lt_of_lt_of_le h (Nat.le_trans hb (of_eq_true sz20))
theorem z01 {d:Int} (h:0≤d) (h2:d<2):d=0∨d=1:=by omega
theorem z2 {n:Nat} (h:(1:Int)<n):2≤n:=by omega
theorem zk1 {k t:Nat} (h:t≤k):(0:Int)<k - t+1:=by omega
theorem zk2 {k t:Nat} {c:Int} (h:k≤20) (hc:21<c):(k:Int) - t+1<c:=by omega
theorem zk3 {f:Int} {k t p:Nat} (h0:0≤f) (h:f<k - t+1) (e:t=p):p+f.toNat≤k+0:=by omega
theorem zk4 {t p f k i:Nat} (e:t=p) (h:p+f≤k+i) (hi:i<f) (hk:k≤20):t<sizeLine:=by
  have:=of_eq_true sz20
  omega
theorem zk5 {p f k i:Nat} (h:p+f≤k+i) (hi:i<f) (hk:k≤20):p≤19:=by omega
theorem zk6 {p f k i:Nat} (h:p+f≤k+i):p+1+f≤k+(i+1):=by omega
theorem zk7 {p f k:Nat} (h:p+f≤k+f):p≤k:=Nat.le_of_add_le_add_right h
theorem zsub {lo i n:Nat} (h:i<n - lo):lo+i<n:=by omega
theorem zpa (c:Int):0≤if 1000000000000000000<c then c - 1000000000000000000 else 0:=by split <;> omega
theorem zpb (c:Int) (k:Nat):0≤c % 2147483629+977 * (k:Int)+1:=by omega
theorem zpc (c:Int) {k:Nat} (h:k<100):c % 2147483629+977 * (k:Int)+1<4294967296:=by omega
end L2
namespace L2
open PySem PySem.Spec PyProof.Rows
def hid (p:Addr) (H:Hp):Hp:=fun b=>if b=p then none else H b
theorem hid_same {p:Addr} {H:Hp}:Same (hid p H) H:=fun b o e=>by
  unfold hid at e
  split at e
  ·cases e
  ·exact e
theorem hid_but {p:Addr} {H H':Hp} (s:But p H H'):Same (hid p H) (hid p H'):=fun b o e=>by
  unfold hid at e ⊢
  split at e
  ·cases e
  · rename_i h
    rw [if_neg h]
    exact s b o h e
theorem hid_keep {p:Addr} {H H':Hp} (s:Same H H'):Same (hid p H) (hid p H'):=hid_but fun b o _ e=>s b o e
theorem hid_at {p b:Addr} {H:Hp} {o:HO} (h:b≠p) (e:H b=some o):hid p H b=some o:=by
  unfold hid
  rw [if_neg h]
  exact e
section
variable {X:Cx} {pins:List (Addr×Obj)} {σ:St} {H:Hp} {s:Shared} {K:PySem.W.Frag}
end
theorem dict_mapFields {f:Array Value→Array Value} {o:Obj}:(Obj.mapFields f o).dict=o.dict:=by
  obtain ⟨c,d,dat,sl⟩:=o
  cases dat <;> rfl
def Trc (base h:Heap) (e:Addr) (cls:Value×Option Addr) (fl:Value) (T:Addr):Prop:=
  ∃oe vs oT ts,h.get? e=some oe∧(oe.cls,oe.dict)=cls∧oe.data = .fields vs∧vs[2]? = some .none∧vs[1]? = some (.ref T)∧base.get? T=none∧T≠e∧h.get? T=some oT∧oT.data = .fields ts∧ts[3]? = some fl
structure Stn (base:Heap) (l:List Env) (e:Addr) (cls:Value×Option Addr) (fl:Value) (h h':Heap):Prop where
  stays:base.StaysIn h'
  frames:h'.FunFrames base l
  trc:∃T,Trc base h' e cls fl T
  slots:h.UpToSlots h'
section
variable {M:Model} {A:Around} {E:Value→Shared→Prop} {s:Shared} {base:Heap} {env:Env} {outer l:List Env} {L e:Addr} {Q:Unit→Shared→Prop}
theorem entry_s {oe:Obj} {vs:Array Value} {head:Value} {had:Bool} (fr:A.frames=some (env::outer)) (ff:s.heap.FunFrames base (env::outer)) (lf:env.frame=some L) (ee:s.heap.get? e=some oe)
    (st:base.StaysIn s.heap) (nb:base.get? e=none) (de:oe.data = .fields vs) (v2:vs[2]? = some .none) (hq:∀h',Stn base (env::outer) e (oe.cls,oe.dict) (rawInt L) s.heap h'→Q () {s with heap:=h'}) :
    wpAny M A (do let a ← frameOf env;let pl ← entryPlaceOf L had;let b ← EntryCells.newEntry head a .none (rawInt L) .none pl;setField (.ref e) 1 b) Q E s:=by
  have sz2:2<vs.size:=(Array.getElem?_eq_some_iff.mp v2).1
  have ne:e∉frs (env::outer):=fun z=>by
    obtain ⟨_,o,y,d⟩:=ff.mem z
    rw [ee] at y
    cases y
    exact d vs de
  refine wpAny_bind (wpAny_frameOf_fun fr ff lf fun g1 x1=>?_)
  refine wpAny_bind (wpAny_entryPlaceOf fun pl okp=>?_)
  unfold EntryCells.newEntry newFields
  refine wpAny_bind (wpAny_newObj_type ?_ (okp.sizeOk5 _ _ _ _ _))
  have e1:g1.get? e=some oe:=(x1.2.1 e ne).trans ee
  have st1:base.StaysIn g1:=fun b o z=>(x1.2.1 b fun y=>by rw [(ff.mem y).1] at z;cases z).trans (st b o z)
  generalize hR:({cls:=.type "traceback",dict:=none,data:=.fields ([head,.ref L,.none,rawInt L,.none]++(if pl.isEmpty then List.replicate 6 Value.none else pl)).toArray}:Obj)=R
  have dR:∃ts,R.data = .fields ts∧ts[3]? = some (rawInt L)∧R.isFreed=false:=by
    subst hR
    exact ⟨_,rfl,by simp,rfl⟩
  obtain ⟨ts,dR,tR,fR⟩:=dR
  have e2:=Heap.get?_push_of_some (h:=g1) R e1
  refine wpAny_setField e2 de (Nat.lt_of_succ_lt sz2) (hq _ ?_)
  have Te:g1.objs.size≠e:=Nat.ne_of_gt (Heap.lt_size e1)
  have keep:∀{b o},b≠e→g1.get? b=some o→((g1.push R).update e (Obj.mapFields (·.setIfInBounds 1 (Value.ref g1.objs.size)))).get? b=some o:=fun {b o} nb z=>by
    rw [Heap.get?_update_other _ _ (Ne.symm nb)]
    exact Heap.get?_push_of_some _ z
  have nr:∀{b o},s.heap.get? b=some o→(∀us,o.data≠.fields us)→b≠e:=fun {b o} z d y=>by
    rw [y,ee] at z
    cases z
    exact d vs de
  have d3:=Obj.data_mapFields de (·.setIfInBounds 1 (Value.ref g1.objs.size))
  refine ⟨fun b o z=>keep (fun y=>by rw [y,nb] at z;cases z) (st1 b o z),ff.of_keeps fun b o z d=>?_,⟨g1.objs.size,?_⟩,fun b o z d=>?_⟩
  · obtain ⟨sl,y⟩:=x1.2.2 b o z
    exact ⟨_,keep (nr z d) y,rfl⟩
  · refine ⟨_,_,R,ts,Heap.get?_update_self _ e2 (Obj.isFreed_of_fields d3),by rw [Obj.cls_mapFields,dict_mapFields],d3,?_,?_,st1.fresh,Te,?_,dR,tR⟩
    · rw [Array.getElem?_setIfInBounds_ne (by decide)]
      exact v2
    ·simp [Nat.lt_of_succ_lt sz2]
    · rw [Heap.get?_update_other _ _ (Ne.symm Te)]
      exact Heap.get?_push_size g1 fR
  · obtain ⟨sl,y⟩:=x1.2.2 b o z
    exact ⟨sl,keep (nr z d) y⟩
theorem note_first {oe:Obj} {vs:Array Value} (fr:A.frames=some (env::outer)) (ff:s.heap.FunFrames base (env::outer)) (lf:env.frame=some L) (ee:s.heap.get? e=some oe)
    (st:base.StaysIn s.heap) (nb:base.get? e=none) (de:oe.data = .fields vs) (v1:vs[1]? = some .none) (v2:vs[2]? = some .none) (hq:∀h',Stn base (env::outer) e (oe.cls,oe.dict) (rawInt L) s.heap h'→Q () {s with heap:=h'}) :
    wpAny M A (noteFrame (.ref e) env) Q E s:=by
  unfold noteFrame
  simp only [lf]
  refine wpAny_bind (wpAny_field ee de v1 ?_)
  rw [if_neg (by decide)]
  exact entry_s fr ff lf ee st nb de v2 hq
theorem note_next {cls:Value×Option Addr} {T:Addr} (fr:A.frames=some (env::outer)) (ff:s.heap.FunFrames base (env::outer)) (lf:env.frame=some L) (tr:Trc base s.heap e cls .none T)
    (st:base.StaysIn s.heap) (nb:base.get? e=none) (hq:∀h',Stn base (env::outer) e cls (rawInt L) s.heap h'→Q () {s with heap:=h'}) :
    wpAny M A (noteFrame (.ref e) env) Q E s:=by
  obtain ⟨oe,vs,oT,ts,ee,rfl,de,v2,v1,nT,Te,eT,dT,t3⟩:=tr
  unfold noteFrame
  simp only [lf]
  refine wpAny_bind (wpAny_field ee de v1 ?_)
  rw [if_pos (by simp)]
  refine wpAny_bind (wpAny_field eT dT t3 ?_)
  rw [if_neg (by simp [rawInt])]
  refine wpAny_bind (wpAny_setField eT dT (Array.getElem?_eq_some_iff.mp t3).1 ?_)
  have oth:∀{b},b≠T→(s.heap.update T (Obj.mapFields (·.setIfInBounds 3 Value.none))).get? b=s.heap.get? b:=fun n=>Heap.get?_update_other _ _ (Ne.symm n)
  have nr:∀{b o},s.heap.get? b=some o→(∀us,o.data≠.fields us)→b≠T:=fun {b o} z d y=>by
    rw [y,eT] at z
    cases z
    exact d ts dT
  refine entry_s (s:={s with heap:=s.heap.update T (Obj.mapFields (·.setIfInBounds 3 Value.none))}) fr (ff.of_keeps fun b o z d=>⟨o,(oth (nr z d)).trans z,rfl⟩) lf ((oth (Ne.symm Te)).trans ee) (fun b o z=>(oth fun y=>by rw [y,nT] at z;cases z).trans (st b o z)) nb de v2 fun h' x=>hq h' ⟨x.stays,x.frames,x.trc,fun b o z d=>x.slots b o ((oth (nr z d)).trans z) d⟩
theorem flight_s {cls:Value×Option Addr} {fl:Value} {T:Addr} (ff:s.heap.FunFrames base l) (tr:Trc base s.heap e cls fl T) (st:base.StaysIn s.heap) (hq:∀h',Stn base l e cls .none s.heap h'→Q () {s with heap:=h'}) :
    wpAny M A (setFlight (.ref e) none) Q E s:=by
  obtain ⟨oe,vs,oT,ts,ee,rfl,de,v2,v1,nT,Te,eT,dT,t3⟩:=tr
  have z3:3<ts.size:=(Array.getElem?_eq_some_iff.mp t3).1
  unfold setFlight
  refine wpAny_bind (wpAny_field ee de v1 ?_)
  rw [if_pos (by simp)]
  refine wpAny_setField eT dT z3 (hq _ ?_)
  have oth:∀{b} (f:Obj→Obj),b≠T→(s.heap.update T f).get? b=s.heap.get? b:=fun f n=>Heap.get?_update_other _ _ (Ne.symm n)
  have nr:∀{b o},s.heap.get? b=some o→(∀us,o.data≠.fields us)→b≠T:=fun {b o} z d y=>by
    rw [y,eT] at z
    cases z
    exact d ts dT
  refine ⟨fun b o z=>(oth _ fun y=>by rw [y,nT] at z;cases z).trans (st b o z),ff.of_keeps fun b o z d=>⟨o,(oth _ (nr z d)).trans z,rfl⟩,⟨T,oe,vs,_,_,(oth _ (Ne.symm Te)).trans ee,rfl,de,v2,v1,nT,Te,Heap.get?_update_self _ eT (Obj.isFreed_of_fields (Obj.data_mapFields dT _)),Obj.data_mapFields dT _,?_⟩,fun b o z d=>⟨o.slots,(oth _ (nr z d)).trans z⟩⟩
  simp [z3]
theorem leave_s {cls:Value×Option Addr} (note:∀Q':Unit→Shared→Prop,(∀h',Stn base (env::outer) e cls (rawInt L) s.heap h'→Q' () {s with heap:=h'})→wpAny M A (noteFrame (.ref e) env) Q' E s)
    (hq:∀h',Stn base (env::outer) e cls .none s.heap h'→Q () {s with heap:=h'}):wpAny M A (leaving env (.ref e)) Q E s:=by
  unfold leaving
  refine wpAny_bind (note _ fun h1 x1=>?_)
  obtain ⟨T,tr⟩:=x1.trc
  exact flight_s (s:={s with heap:=h1}) x1.frames tr x1.stays fun h2 x2=>hq h2 ⟨x2.stays,x2.frames,x2.trc,x1.slots.trans x2.slots⟩
end
structure ExcIn (h0 h:Heap) (H:Hp) (a C:Addr) (od:Option Addr):Prop where
  new:h0.get? a=none
  un:H a=none
  ob:∃oe vs,h.get? a=some oe∧(oe.cls,oe.dict)=(Value.ref C,od)∧oe.data = .fields vs∧vs[2]? = some .none∧(vs[1]? = some .none∨
    ∃T oT ts,vs[1]? = some (.ref T)∧T≠a∧h0.get? T=none∧H T=none∧h.get? T=some oT∧oT.data = .fields ts∧ts[3]? = some .none)
structure ExcT (h0 h:Heap) (H:Hp) (a C:Addr) (od:Option Addr) (T:Addr):Prop where
  new:h0.get? a=none
  newT:h0.get? T=none
  un:H a=none
  unT:H T=none
  ob:∃oe vs oT ts,h.get? a=some oe∧(oe.cls,oe.dict)=(Value.ref C,od)∧oe.data = .fields vs∧vs[2]? = some .none∧vs[1]? = some (.ref T)∧T≠a∧h.get? T=some oT∧oT.data = .fields ts∧ts[3]? = some .none
def CXe (P:Program) (w:World):CXT:=fun outer H s E e s'=>∃(a C:Addr) (od:Option Addr) (H':Hp),e = .ref a∧s'.os=s.os∧AllBare s'.gens∧Un (frs outer) [] H H' s.heap s'.heap∧HOk P w H' s'.heap∧(∃T,ExcT s.heap s'.heap H' a C od T)∧E (.ref C) od H'
theorem hok_lt {P:Program} {w:World} {H:Hp} {h:Heap} (x:HOk P w H h) {b:Addr} (e:h.get? b=none):H b=none:=by
  cases q:H b with
  | none=>rfl
  | some u=>
    obtain ⟨o,eo⟩:∃o,h.get? b=some o:=by
      have:=x b u q
      cases u with
      | lst xs=>obtain ⟨_,_,_,_,e⟩:=this;exact ⟨_,e⟩
      | tup xs=>obtain ⟨_,_,_,o,e,_⟩:=this;exact ⟨_,e⟩
      | dK kvs=>obtain ⟨_,_,_,_,o,_,_,e,_⟩:=this;exact ⟨_,e⟩
      | dT kvs=>obtain ⟨_,_,_,_,o,_,_,e,_⟩:=this;exact ⟨_,e⟩
      | set S n=>obtain ⟨o,_,_,_,e,_⟩:=this;exact ⟨_,e⟩
      | ins C dx fs=>obtain ⟨_,_,_,e,_⟩:=this;exact ⟨_,e⟩
      | own y=>obtain ⟨_,e⟩:=this;exact ⟨_,e⟩
      | xd fs=>obtain ⟨_,⟨_,_,_,e,_⟩,_⟩:=this;exact ⟨_,e⟩
      | rng lo hi=>obtain ⟨_,_,_,e⟩:=this;exact ⟨_,e⟩
      | frz ob u=>obtain ⟨e,_⟩:=this;exact ⟨_,e⟩
      | tbl ps=>exact ⟨_,(show h.get? b=some _ from this)⟩
      | met f y=>exact ⟨_,(show h.get? b=some _ from this)⟩
      | ext φ=>obtain ⟨_,⟨o,e⟩,_⟩:=this;exact ⟨_,e⟩
    rw [e] at eo
    cases eo
section
variable {X:Cx} {pins:List (Addr×Obj)} {σ:St} {H:Hp} {s:Shared}
theorem Inv.old (I:Inv X pins σ H s) (hex:X.ex=[]) {b:Addr} (e:s.heap.get? b=none):X.s₀.heap.get? b=none:=by
  cases q:X.s₀.heap.get? b with
  | none=>rfl
  | some o=>
    obtain ⟨o',eo⟩:=I.base.there b o q (by rw [hex];simp)
    rw [e] at eo
    cases eo
theorem left_ok (I:Inv X pins σ H s) (hex:X.ex=[]) {a C:Addr} {od:Option Addr} {l:List Addr} (hl:∀b∈l,b∈frs X.stack∨(X.s₀.heap.get? b=none∧H b=none)) (ha:X.s₀.heap.get? a=none) (hH:H a=none) (hs:∀b∈frs X.stack,b∈l)
    {E:XK} (hE:E (.ref C) od H) {h':Heap} (x:Stn (PySem.W.hideAll s.heap l) X.stack a (.ref C,od) .none s.heap h'):CXe X.prog X.w X.outer X.H₀ X.s₀ E (.ref a) {s with heap:=h'}:=by
  obtain ⟨k1,k2,⟨T,oe,vs,oT,ts,t1,t2,t3,t4,tt,t5,t6,t7,t8,t9⟩,k4⟩:=x
  have nl:∀{b:Addr} {o:Obj},b∉l→s.heap.get? b=some o→h'.get? b=some o:=fun hb e=>k1 _ _ (PySem.W.hideAll_get _ e hb)
  have oldL:∀{b:Addr} {o:Obj},X.s₀.heap.get? b=some o→b∉X.fs→b∉l:=fun {b o} e hb hm=>by
    rcases hl b hm with z | ⟨z,_⟩
    · rcases List.mem_cons.mp (I.stkSub b z) with z | z
      · rw [z] at e
        exact absurd (Heap.lt_size e) (Nat.not_lt.mpr I.ok.above)
      ·exact hb z
    ·rw [z] at e;cases e
  have trL:∀{b:Addr} {u:HO},H b=some u→b∉l:=fun {b u} e hm=>by
    rcases hl b hm with z | ⟨_,z⟩
    ·rw [I.stkFree b z] at e;cases e
    ·rw [z] at e;cases e
  have fsl:∀{b:Addr} {o:Obj},b∈X.fs→s.heap.get? b=some o→∃sl,h'.get? b=some {o with slots:=sl}:=fun {b o} hb e=>by
    obtain ⟨_,o2,e2,hd⟩:=I.funs.mem hb
    rw [e] at e2
    cases e2
    exact k4 b o e hd
  have nox:∀b:Addr,b∉X.ex:=fun b=>by rw [hex];simp
  refine ⟨a,C,od,H,rfl,I.os,I.bare,⟨fun b o e n hb _=>?_,fun b o e n hb _=>?_,fun b o e n _=>I.base.free b o e n (nox b),fun b o e _=>?_,I.base.tups,I.base.frzs,I.base.tbls⟩,fun b u e=>?_,⟨T,ha,?_,hH,?_,oe,vs,oT,ts,t1,t2,t3,t4,tt,t6,t7,t8,t9⟩,hE⟩
  ·exact nl (oldL e hb) (I.base.keep b o e n hb (nox b))
  · obtain ⟨sl,e2⟩:=I.base.slot b o e n hb (nox b)
    obtain ⟨sl',e3⟩:=fsl hb e2
    exact ⟨sl',e3⟩
  · obtain ⟨o',e2⟩:=I.base.there b o e (nox b)
    by_cases hb:b∈X.fs
    · obtain ⟨sl,e3⟩:=fsl hb e2
      exact ⟨_,e3⟩
    ·exact ⟨o',nl (oldL e hb) e2⟩
  · refine (I.hok b u e).stay (fun c v hc q=>?_) (fun c q=>q) fun c xs q=>q
    rcases hc with rfl | hc
    ·exact nl (trL e) q
    ·exact nl (trL hc) q
  all_goals
    have hT:T∉frs X.stack:=fun hm=>by
      obtain ⟨_,o2,e2,hd⟩:=k2.mem hm
      rw [t7] at e2
      cases e2
      exact hd _ t8
    have cs:s.heap.get? T=none∨(X.s₀.heap.get? T=none∧H T=none):=by
      cases q:s.heap.get? T with
      | none=>exact .inl rfl
      | some o=>
        by_cases hm:T∈l
        ·exact .inr ((hl T hm).resolve_left hT)
        · rw [PySem.W.hideAll_get _ q hm] at t5
          cases t5
  ·exact cs.elim (fun z=>I.old hex z) fun z=>z.1
  ·exact cs.elim (fun z=>hok_lt I.hok z) fun z=>z.2
theorem leave_ok (I:Inv X pins σ H s) (hst:X.stack=X.env::X.outer) (hfr:X.env.frame=some X.env.locals) (hex:X.ex=[]) {a C:Addr} {od:Option Addr} (x:ExcIn X.s₀.heap s.heap H a C od) {E:XK} (hE:E (.ref C) od H) {E':Value→Shared→Prop} :
    wpAny (model X.prog X.w) X.A (leaving X.env (.ref a)) (fun _ s''=>CXe X.prog X.w X.outer X.H₀ X.s₀ E (.ref a) s'') E' s:=by
  obtain ⟨new,un,oe,vs,he,hc,hd,h0,hT⟩:=x
  have fr:=I.ok.frames
  rw [hst] at fr
  have hideF:∀l:List Addr,s.heap.FunFrames (PySem.W.hideAll s.heap (frs X.stack++l)) (X.env::X.outer):=fun l=>by
    rw [← hst]
    exact PySem.W.funFrames_hide I.stack fun env he b hb=>List.mem_append_left _ (List.mem_filterMap.mpr ⟨env,he,hb⟩)
  rcases hT with h1 | ⟨T,oT,ts,h1,h2,h3,h4,h5,h6,h7⟩
  · refine leave_s (base:=PySem.W.hideAll s.heap (frs X.stack++[a])) (fun Q' q=>note_first fr (hideF _) hfr he (fun b o e=>PySem.W.of_hideAll _ e) (PySem.W.hideAll_none _ (by simp)) hd h1 h0 q) fun h' hL=>?_
    rw [hc,← hst] at hL
    refine left_ok I hex (fun b hb=>?_) new un (fun b hb=>List.mem_append_left _ hb) hE hL
    rcases List.mem_append.mp hb with z | z
    ·exact .inl z
    ·rw [List.mem_singleton.mp z];exact .inr ⟨new,un⟩
  · refine leave_s (base:=PySem.W.hideAll s.heap (frs X.stack++[a,T])) (cls:=(.ref C,od)) (fun Q' q=>note_next fr (hideF _) hfr (T:=T) ⟨oe,vs,oT,ts,he,hc,hd,h0,h1,PySem.W.hideAll_none _ (by simp),h2,h5,h6,h7⟩ (fun b o e=>PySem.W.of_hideAll _ e) (PySem.W.hideAll_none _ (by simp)) q) fun h' hL=>?_
    rw [← hst] at hL
    refine left_ok I hex (fun b hb=>?_) new un (fun b hb=>List.mem_append_left _ hb) hE hL
    rcases List.mem_append.mp hb with z | z
    ·exact .inl z
    · simp only [List.mem_cons,List.not_mem_nil,or_false] at z
      rcases z with rfl | rfl
      ·exact .inr ⟨new,un⟩
      ·exact .inr ⟨h3,h4⟩
def Lets (X:Cx) (E:XK):Prop:=∀(pins:List (Addr×Obj)) (σ:St) (H:Hp) (s:Shared) (a C:Addr) (od:Option Addr),Inv X pins σ H s→ExcIn X.s₀.heap s.heap H a C od→E (.ref C) od H→X.xe (.ref a) s
theorem lets_cx {P:Program} {w:World} {K:PySem.W.Frag} {mg:Str→Option Value} {base:Heap} {N:List Str} {qual:Str} {scope:Scope} {f:Addr} {cd:Value} {A:Around} {outer:List Env} {s:Shared} {H:Hp} {E:XK} :
    Lets (cxOf (CXe P w) P w K mg base N qual scope f cd A outer s H E) E:=fun pins σ H1 s1 a C od I x hE=>leave_ok I rfl rfl rfl x hE
theorem exc_obj {K:PySem.W.Frag} {h:Heap} {C:Addr} {bmB:List Value} {newId:String} (X:K.In h) (q:PySem.W.excIn K C bmB newId=true) :
    ∃bm N nm q bs hdct sn sub ab col dd k0 k1 k2 k3 k5 mN,h.get? C=some (excClassObj nm q C N bs bm hdct sn sub ab col dd k0 k1 k2 k3 k5 newId)∧h.Ns N mN∧mN "__init__" = none∧OwnTail h bmB bm∧∀v b,PySem.W.mroIn K C v=some b→(Value.ref C::bm).contains v=b:=by
  unfold PySem.W.excIn at q
  split at q
  · rename_i dd cd sl ho
    split at q
    · rename_i C' bm k0 k1 k2 k3 n k5 hm hs
      simp only [Bool.and_eq_true,beq_iff_eq,Bool.not_eq_true'] at q
      obtain ⟨⟨⟨⟨⟨rfl,rfl⟩,hdel⟩,ht⟩,hok⟩,hni⟩:=q
      obtain ⟨nm,bs,mro,ns,qn,hd,sn,sub,ab,col,del⟩:=cd
      dsimp only at hm hdel hok hni
      subst hm hdel
      obtain rfl:sl = #[k0,k1,k2,k3,some (.builtin n),k5]:=by
        obtain ⟨l⟩:=sl
        simp only at hs
        rw [hs]
      exact ⟨bm,ns,nm,qn,bs,hd,sn,sub,ab,col,dd,k0,k1,k2,k3,k5,_,X _ _ ho,.of_isNs (PySem.W.isNs_of_in X hok),PySem.W.nsMap_none_of_in X hok hni,PySem.W.tail_of_in X ht,fun v b e=>by
        unfold PySem.W.mroIn PySem.W.clsIn at e
        rw [ho] at e
        simpa using e⟩
    ·cases q
  ·cases q
abbrev veMro:List Value:=[.type "ValueError",.type "Exception",.type "BaseException",.type "object"]
def ExcCls (K:PySem.W.Frag) (C:Addr):Prop:=PySem.W.excIn K C veMro "ValueError.__new__" = true
def tRaise (C:Addr) (E:XK) (ta:TA):TS:=fun _ σ H=>ta σ H fun vs H1=>vs.length≤sizeLine∧E (.ref C) none H1
@[simp ↓] theorem tRaise_w C E ta D σ H:tRaise C E ta D σ H=ta σ H fun vs H1=>vs.length≤sizeLine∧E (.ref C) none H1:=rfl
theorem ps_raise {X:Cx} {E:XK} {C:Addr} {x:Str} {np cpos pos:Pos} {e:Expr} {es:List Expr} {ta:TA} (hL:Lets X E) (hex:X.ex=[]) (hc:X.calm=true) (cl:ExcCls X.K C) (hg:Gl X x) (hm:X.mg x=some (.ref C)) (ha:PA X (e::es) ta)
    (hdb:(x == ("__debug__" : Str))=false:=by decide) (hs:starEach (e::es) X.env=(false,eval e X.env)::starEach es X.env:=by rfl) (hpl:(backTo cpos (starEach (e::es) X.env)).any (·.1)=false:=by rfl) :
    PS X (.Raise (some (.Call (.Name x np) (e::es) [] cpos)) none pos) (tRaise C E ta):=by
  intro pins s σ H D I h
  obtain ⟨bm,N,nm,q,bs,hdct,sn,sub,ab,col,dd,k0,k1,k2,k3,k5,mN,hC0,hN0,hni,T0,_⟩:=exc_obj I.ok.mod.kin cl
  refine wpAny_Raise_call_subT (bm:=bm) (N:=N) (nm:=nm) (q:=q) (bs:=bs) (hdct:=hdct) (sn:=sn) (sub:=sub) (ab:=ab) (col:=col) (dd:=dd) (k0:=k0) (k1:=k1) (k2:=k2) (k3:=k3) (k5:=k5) (mN:=mN) (C:=C) PySem.F.excBase_ValueError (T0.hasType (by decide)) (I.ok.hd hc) hpl hni ?_
  refine ld_glob I hg hm ⟨rfl,?_⟩ hdb
  have hp:=fun Q q=>ha cpos pins s σ H Q I q
  rw [hs] at hp ⊢
  show wpAny _ _ (evalArgs (.ref C) true ((false,eval e X.env)::backTo cpos (starEach es X.env)) []) _ _ s
  refine Calls.evalArgs_plain (thn (hp _ h) fun us s1 zz=>?_)
  obtain ⟨vs,H1,I1,r1,hz,hE⟩:=zz
  refine ⟨rfl,by rw [← r1.length];exact hz,I1.bk _ _ hC0,hN0.keeps I1.bk,T0.keeps I1.bk,fun h' a mk=>?_⟩
  obtain ⟨t,ht,htn,htt⟩:=mk.there
  have I2:Inv X pins σ H1 {s1 with heap:=h',toks:=s1.toks}:=I1.kept mk.keeps
  exact hL pins σ H1 _ a C none I2 ⟨I1.old hex mk.new,hok_lt I1.hok mk.new,_,_,ht,rfl,rfl,rfl,.inl rfl⟩ hE
theorem Fun.okE {P:Program} {w:World} {K:PySem.W.Frag} {mg:Str→Option Value} {base:Heap} {x qual:Str} {st:Stmt} {f:Addr} {fd:FuncData} {N ps:List Str} {k:Nat} {sp:Sp} (F:Fun K x qual st f fd) (S:FnScope N ps (defScope st)) (len:∀vs H Q E,sp vs H Q E→vs.length=ps.length)
    (hbody:∀(cdv:Value) (A:Around) (outer:List Env) (s:Shared) (H:Hp) (vs:List V) (Q:VK) (E:XK),Room k (A.deeper (envOfC qual (defScope st) s.heap.objs.size f cdv))→sp vs H Q E→
      ∃t,PSs (cxOf (CXe P w) P w K mg base N qual (defScope st) f cdv A outer s H E) (defBody st) t∧t {nx:=fun _ H'=>Q .non H',rt:=Q} (start N vs) H):FnOk P w K mg base (CXe P w) (k+1) f fd ps sp:=by
  obtain ⟨oc,od,kV,doc,pm,an,cdv,ct,osl,rfl,lk,hcd⟩:=F.ex
  exact fn_of lk hcd S len fun A outer s H vs Q E hr hsp=>hbody cdv A outer s H vs Q E hr hsp
theorem Inv.gone {X:Cx} {pins:List (Addr×Obj)} {σ:St} {H:Hp} {s:Shared} {h':Heap} {t':Nat} {ch:List Addr} (I:Inv X pins σ H s) (hex:X.ex=[])
    (hch:∀b∈ch,X.s₀.heap.get? b=none∧H b=none∧(∀vs o,s.heap.get? b=some o→o.data = .fields vs→True)∧(∃o vs,s.heap.get? b=some o∧o.data = .fields vs)∧∀p∈X.pn++pins,p.1≠b)
    (k1:∀b o,b∉frs X.stack→b∉ch→s.heap.get? b=some o→h'.get? b=some o) (k2:∀b o,s.heap.get? b=some o→(∀vs,o.data≠.fields vs)→∃sl,h'.get? b=some {o with slots:=sl}) :
    Inv X pins σ H {s with heap:=h',toks:=t'}:=by
  have nf:∀{b o},s.heap.get? b=some o→(∀vs,o.data≠.fields vs)→b∉ch:=fun {b o} e hd hb=>by
    obtain ⟨_,_,_,⟨o2,vs,e2,d2⟩,_⟩:=hch b hb
    rw [e] at e2
    cases e2
    exact hd vs d2
  have fsl:∀{b:Addr} {o:Obj},b∈frs X.stack→s.heap.get? b=some o→∃sl,h'.get? b=some {o with slots:=sl}:=fun {b o} hb e=>by
    obtain ⟨_,o2,e2,hd⟩:=I.stack.mem hb
    rw [e] at e2
    cases e2
    exact k2 b o e hd
  have ex1:∀{b:Addr} {o:Obj},b∉ch→s.heap.get? b=some o→∃o',h'.get? b=some o':=fun {b o} hb e=>by
    by_cases hf:b∈frs X.stack
    · obtain ⟨sl,z⟩:=fsl hf e
      exact ⟨_,z⟩
    ·exact ⟨o,k1 b o hf hb e⟩
  have old:∀{b:Addr} {o:Obj},X.s₀.heap.get? b=some o→b∉ch:=fun e hb=>by
    rw [(hch _ hb).1] at e
    cases e
  have oldF:∀{b:Addr} {o:Obj},X.s₀.heap.get? b=some o→b∉X.fs→b∉frs X.stack:=fun {b o} e hb hm=>by
    rcases List.mem_cons.mp (I.stkSub b hm) with z | z
    · rw [z] at e
      exact absurd (Heap.lt_size e) (Nat.not_lt.mpr I.ok.above)
    ·exact hb z
  have nox:∀b:Addr,b∉X.ex:=fun b=>by rw [hex];simp
  have cells:∀{c:Addr} {v:Option Value},s.heap.IsCell c v→h'.IsCell c v:=fun {c v} ⟨o,e,d⟩=>by
    obtain ⟨sl,z⟩:=k2 c o e (fun vs q=>by rw [d] at q;cases q)
    exact ⟨_,z,d⟩
  have subs:∀{b:Addr},b∈X.fs→b∈frs X.stack:=fun {b} hb=>by
    rcases I.ok.stk with e | ⟨e,hf⟩
    ·rw [e];exact hb
    · rw [e]
      show b∈List.filterMap _ (X.env::X.outer)
      rw [List.filterMap_cons,hf]
      exact List.mem_cons_of_mem _ hb
  refine ⟨I.ok,I.os,I.bare,⟨fun b o e n hb hx=>?_,fun b o e n hb hx=>?_,I.base.free,fun b o e hx=>?_,I.base.tups,I.base.frzs,I.base.tbls⟩,?_,fun x c e=>?_,I.free,I.freeC,fun p hp=>?_,fun b u e=>?_,I.len⟩
  ·exact k1 b o (oldF e hb) (old e) (I.base.keep b o e n hb hx)
  · obtain ⟨sl,z⟩:=I.base.slot b o e n hb hx
    obtain ⟨sl',z'⟩:=fsl (subs hb) z
    exact ⟨sl',z'⟩
  · obtain ⟨o',z⟩:=I.base.there b o e hx
    exact ex1 (old e) z
  · obtain ⟨m,⟨o,es,ep,e,d,r⟩,q⟩:=I.loc
    obtain ⟨sl,z⟩:=k2 _ o e (fun vs y=>by rw [d] at y;cases y)
    refine ⟨m,⟨_,es,ep,z,d,r⟩,fun i x v e1 e2 e3=>?_⟩
    obtain ⟨u,rv,l⟩:=q i x v e1 e2 e3
    refine ⟨u,rv,?_⟩
    rcases l with l | ⟨kd,c,ec,y⟩
    ·exact .inl l
    ·exact .inr ⟨kd,c,ec,cells y⟩
  · obtain ⟨v,z⟩:=I.cell x c e
    exact ⟨v,cells z⟩
  · obtain ⟨e,n,ne,nfs,d⟩:=I.pin p hp
    refine ⟨k1 _ _ (fun hm=>?_) (fun hm=>(hch _ hm).2.2.2.2 p hp rfl) e,n,ne,nfs,d⟩
    rcases List.mem_cons.mp (I.stkSub _ hm) with z | z
    ·exact ne z
    ·exact nfs z
  · have no:∀{c:Addr} {u:HO},H c=some u→c∉frs X.stack∧c∉ch:=fun {c u} q=>⟨fun hm=>(by rw [I.stkFree _ hm] at q;cases q),fun hm=>(by rw [(hch _ hm).2.1] at q;cases q)⟩
    refine (I.hok b u e).stay (fun c v hc q=>?_) (fun c q=>q) fun c xs q=>q
    rcases hc with rfl | hc
    ·exact k1 _ _ (no e).1 (no e).2 q
    ·exact k1 _ _ (no hc).1 (no hc).2 q
end
end L2
namespace L2
open PySem PySem.Spec PySem.W PyProof.Rows
section
variable {prog:Program} {w:World} {A:Around} {E:Value→Shared→Prop} {K:PySem.W.Frag} {h:Heap} {g:Array GenState} {d:Drawn} {t:Nat} {os:OsState} {x C:Addr}
structure ExcLook (K:PySem.W.Frag) (C:Addr):Prop where
  ga:findIn K (.ref C) "__getattribute__" = some (some (.builtin "BaseException.__getattribute__"))
  gn:findIn K (.ref C) "__getattr__" = some none
  cl:findIn K (.ref C) "__class__" = some (some (.builtin "object.__class__"))
  sp:specialIn K (.builtin "object.__class__") "__get__" = some (some (.builtin "getset_descriptor.__get__"))
  tk:takesIn K (.builtin "object.__class__")=some true
  mo:mroIn K C (.type "object")=some true
  mb:mroIn K C (.type "BaseException")=some true
def ExcAtH (x C:Addr) (h:Heap):Prop:=∃ox vs,h.get? x=some ox∧ox.cls = .ref C∧ox.data = .fields vs
theorem ExcAtH.type {M:Model} (e:ExcAtH x C h):Looks M h (typeOf (.ref x)) (.ref C):=by
  obtain ⟨ox,vs,h1,h2,_⟩:=e
  exact h2▸(Looks.ld h1).andThen .now
theorem exc_get {R:Result→Shared→Prop} {tp:Value} (X:K.In h) (I:ExcAtH x C h) (L:ExcLook K C) (hq:R (.ok (.ret (.ref C))) ⟨h,g,d,t,os⟩) :
    codeAny (model prog w) A (.call (.builtin "getset_descriptor.__get__") ⟨[.builtin "object.__class__",.ref x,tp],[]⟩) R ⟨h,g,d,t,os⟩:=by
  have L0:=I.type (M:=model prog w)
  have L1:=looks_mroIn (M:=model prog w) X L.mo
  have hT5:(⟨h,g,d,t,os⟩:Shared).TypeIs (.builtin "object.__class__") "getset_descriptor" :=F.typeOf_object_class
  refine codeAny_call_builtin F.slot_gs_get.plain F.entry_gs_get (F.slot_gs_get.check _ _ _ _ _ _ _ _ hT5 (F.args_gs_get _ _ _) ?_)
  repeat (any_goals (first | assumption | with_reducible refine L0.at ?_ | with_reducible refine L1.at ?_ | wp_step))
  rw [show (".".intercalate ("object.__class__".cutAt '.').dropLast) = "object" by decide +kernel]
  refine L1.at ?_
  repeat (any_goals (first | assumption | with_reducible refine L0.at ?_ | wp_step))
  refine ⟨Code.quiet_builtin _ (by decide +kernel),codeAny_builtin KF.entry_class ?_⟩
  unfold Builtin.«object.__class__»
  repeat (any_goals (first | assumption | with_reducible refine L0.at ?_ | wp_step))
theorem exc_entry {tk:Tok} {Q:PySem.Fin→Shared→Prop} (X:K.In h) (I:ExcAtH x C h) (L:ExcLook K C) (hq:Q (.done (.ret (.ref C))) ⟨h,g,d,t,os⟩) :
    wpAny (model prog w) A (Builtin.«object.__getattribute__» ⟨[.ref x,.str "__class__" tk],[]⟩) Q E ⟨h,g,d,t,os⟩:=by
  have L0:=I.type (M:=model prog w)
  have L1:=looks_findIn (M:=model prog w) X L.cl
  have hT5:(⟨h,g,d,t,os⟩:Shared).TypeIs (.builtin "object.__class__") "getset_descriptor" :=F.typeOf_object_class
  have f5:=F.typeOf_object_class
  have f6:=F.slot_gs_get.lookup
  have f7:=F.slot_gs_set.lookup
  repeat (any_goals (first | assumption | with_reducible refine L0.at ?_ | with_reducible refine L1.at ?_ | wp_step))
  refine exc_get X I L ?_
  repeat (any_goals (first | assumption | wp_step))
theorem exc_check {M:Model} {nameV:Value} {Q:Unit→Shared→Prop} (X:K.In h) (I:ExcAtH x C h) (L:ExcLook K C) (hq:Q () ⟨h,g,d,t,os⟩) :
    wpAny M A (checkBuiltinCall "BaseException.__getattribute__" ⟨[.ref x,nameV],[]⟩) Q E ⟨h,g,d,t,os⟩:=by
  have hk:builtinKind "BaseException.__getattribute__" = some .slot:=by decide +kernel
  have hs:splitId "BaseException.__getattribute__" = some ("BaseException", "__getattribute__"):=by decide +kernel
  have L0:=I.type (M:=M)
  have L1:=looks_mroIn (M:=M) X L.mb
  have ha:=F.args_bexc_ga (.ref x) nameV
  simp only [checkBuiltinCall,hk,hs]
  refine wpAny_bind ?_
  unfold isInstance
  repeat (first | with_reducible refine L0.at ?_ | with_reducible refine L1.at ?_ | wp_step)
  exact hq
theorem exc_by {tk:Tok} {fill:Bool} {Q:Value→Shared→Prop} (X:K.In h) (I:ExcAtH x C h) (L:ExcLook K C) (hq:Q (.ref C) ⟨h,g,d,t,os⟩) :
    wpAny (model prog w) A (getAttrBy (.ref x) (.str "__class__" tk) fill) Q E ⟨h,g,d,t,os⟩:=by
  have L0:=I.type (M:=model prog w)
  have L1:=looks_findIn (M:=model prog w) X L.ga
  have L2:=looks_findIn (M:=model prog w) X L.gn
  have f3:=(F.attrBase_ValueError.ga).bind (.ref x)
  have hx2:(Value.builtin "BaseException.__getattribute__" == Value.builtin "object.__getattribute__")=false:=by decide +kernel
  have hx1:(onTheHeap (Value.ref C) && Value.builtin "BaseException.__getattribute__" == Value.builtin "object.__getattribute__")=false:=by rw [hx2];rfl
  repeat (any_goals (first | assumption | with_reducible refine L0.at ?_ | with_reducible refine L1.at ?_ | with_reducible refine L2.at ?_ | wp_step))
  refine codeAny_call_builtin F.attrBase_ValueError.ga.plain F.entry_bexc_ga (exc_check X I L (exc_entry X I L ?_))
  repeat (any_goals (first | assumption | wp_step))
theorem exc_class {s:Shared} {Q:Option Value→Shared→Prop} (X:K.In s.heap) (I:ExcAtH x C s.heap) (L:ExcLook K C) (hq:Q (some (.ref C)) {s with toks:=s.toks+1}) :
    wpAny (model prog w) A (getAttr? (.ref x) "__class__") Q E s:=by
  obtain ⟨h,g,d,t,os⟩:=s
  unfold getAttr? getAttrBy?
  repeat (any_goals (first | assumption | with_reducible apply exc_by X I L | wp_step))
end
theorem kitx_exc {K:PySem.W.Frag} {x C:Addr} {cd:ClassData} (hcd:clsIn K C=some cd) (L:ExcLook K C):KitX K (.ref x) (.ref C) (ExcAtH x C) where
  ty:=fun M h _ e=>e.type
  it:=fun _ _ X _=>by
    unfold clsIn at hcd
    split at hcd
    · rename_i c' d' cd' sl' ho
      intro A' Q' E' s' k q
      unfold isType loadHead
      exact wpAny_bind (wpAny_loadPart (k _ _ (X _ _ ho)) (wpAny_pure q))
    ·cases hcd
  ne:=fun h tp dd its n sl X htp=>by
    refine Bool.eq_false_iff.mpr fun q=>?_
    have e:C=tp:=Value.ref.inj (beq_iff_eq.mp q)
    subst e
    unfold clsIn at hcd
    split at hcd
    · rename_i c' d' cd' sl' ho
      have z:=(X _ _ ho).symm.trans htp
      cases z
    ·cases hcd
  ca:=fun X e k=>exc_class X e L k
end L2
namespace L2
open PySem PySem.Spec PyProof.Rows
def Cx.caught (X:Cx) (a:Addr):Cx:={X with A:=X.A.mark (some (.ref a)),calm:=false,xe:=fun _ _=>False}
def Cx.tried (X:Cx) (pn:List (Addr×Obj)) (xe:Value→Shared→Prop):Cx:={X with pn:=pn,xe:=xe}
section
variable {X:Cx} {pins:List (Addr×Obj)} {σ:St} {H:Hp} {s:Shared}
theorem Inv.caught (I:Inv X pins σ H s) (a:Addr):Inv (X.caught a) pins σ H s:=
  ⟨⟨I.ok.mod,I.ok.kind,I.ok.glob,I.ok.blt,I.ok.above,I.ok.inj,I.ok.has,I.ok.cab,fun z=>(nomatch z),I.ok.frames,I.ok.stk,I.ok.exf,I.ok.bs,I.ok.bsz,I.ok.noex,I.ok.exfs,I.ok.funs,I.ok.frf⟩,I.os,I.bare,I.base,I.loc,I.cell,I.free,I.freeC,I.pin,I.hok,I.len⟩
theorem Inv.uncaught {a:Addr} {s':Shared} (I:Inv X pins σ H s) {σ':St} {H':Hp} (J:Inv (X.caught a) pins σ' H' s'):Inv X pins σ' H' s':=
  ⟨I.ok,J.os,J.bare,J.base,J.loc,J.cell,J.free,J.freeC,J.pin,J.hok,J.len⟩
theorem Inv.tried (I:Inv X pins σ H s) (xe:Value→Shared→Prop):Inv (X.tried (X.pn++pins) xe) [] σ H s:=
  ⟨⟨I.ok.mod,I.ok.kind,I.ok.glob,I.ok.blt,I.ok.above,I.ok.inj,I.ok.has,I.ok.cab,I.ok.hd,I.ok.frames,I.ok.stk,I.ok.exf,I.ok.bs,I.ok.bsz,I.ok.noex,I.ok.exfs,I.ok.funs,I.ok.frf⟩,I.os,I.bare,I.base,I.loc,I.cell,I.free,I.freeC,fun p hp=>I.pin p (by rw [List.append_nil] at hp;exact hp),I.hok,I.len⟩
theorem Inv.untried {xe:Value→Shared→Prop} {pins':List (Addr×Obj)} {s':Shared} (I:Inv X pins σ H s) {σ':St} {H':Hp} (J:Inv (X.tried (X.pn++pins) xe) pins' σ' H' s'):Inv X pins σ' H' s':=
  ⟨I.ok,J.os,J.bare,J.base,J.loc,J.cell,J.free,J.freeC,fun p hp=>J.pin p (List.mem_append_left _ hp),J.hok,J.len⟩
def Takes (X:Cx) (pn:List (Addr×Obj)) (xe:Value→Shared→Prop) (R:St→Addr→Option Addr→Hp→Prop):Prop:=
  ∀(pins:List (Addr×Obj)) (σ:St) (H:Hp) (s:Shared) (a C:Addr) (od:Option Addr) (T:Addr),Inv (X.tried pn xe) pins σ H s→ExcT X.s₀.heap s.heap H a C od T→(∀p∈pn,p.1≠a∧p.1≠T)→R σ C od H→xe (.ref a) s
def fCallS (sp:Sp) (R:St→Addr→Option Addr→Hp→Prop) (t:TA):TE:=fun σ H Q=>t σ H fun vs H1=>tSp sp vs H1 Q ⟨0⟩ (fun v od H'=>∃C,v = .ref C∧R σ C od H')
@[simp ↓] theorem fCallS_w sp R t σ H Q:fCallS sp R t σ H Q=t σ H fun vs H1=>tSp sp vs H1 Q ⟨0⟩ (fun v od H'=>∃C,v = .ref C∧R σ C od H'):=rfl
def ExcAtX (x C:Addr) (od:Option Addr) (h:Heap):Prop:=∃ox vs,h.get? x=some ox∧(ox.cls,ox.dict)=(Value.ref C,od)∧ox.data = .fields vs∧vs[2]? = some .none
theorem ExcAtX.at {x C:Addr} {od:Option Addr} {h:Heap} (e:ExcAtX x C od h):ExcAtH x C h:=by
  obtain ⟨ox,vs,h1,h2,h3,h4⟩:=e
  exact ⟨ox,vs,h1,congrArg Prod.fst h2,h3⟩
def excX (a C:Addr) (od:Option Addr):HO:=.ext fun h=>ExcAtX a C od h
def ExcOb (K:PySem.W.Frag) (C:Addr):Prop:=∀h,K.In h→∃bm N nm q bs hdct sn sub ab col dd k0 k1 k2 k3 k5,h.get? C=some (excClassObj nm q C N bs bm hdct sn sub ab col dd k0 k1 k2 k3 k5 "ValueError.__new__")∧∀v b,PySem.W.mroIn K C v=some b→(Value.ref C::bm).contains v=b
theorem ExcOb.of {K:PySem.W.Frag} {C:Addr} (c:ExcCls K C):ExcOb K C:=fun h X=>by
  obtain ⟨bm,N,nm,q,bs,hdct,sn,sub,ab,col,dd,k0,k1,k2,k3,k5,mN,hC,_,_,_,hmro⟩:=exc_obj X c
  exact ⟨bm,N,nm,q,bs,hdct,sn,sub,ab,col,dd,k0,k1,k2,k3,k5,hC,hmro⟩
theorem Inv.track {a C:Addr} {od:Option Addr} (I:Inv X pins σ H s) (hex:X.ex=[]) (new:X.s₀.heap.get? a=none) (un:H a=none) (e:ExcAtX a C od s.heap) (hp:∀p∈X.pn++pins,p.1≠a):Inv X pins σ (upd H a (excX a C od)) s:=by
  have nf:∀{b o},s.heap.get? b=some o→(∀vs,o.data≠.fields vs)→b≠a:=fun {b o} eb hd z=>by
    subst z
    obtain ⟨ox,vs,h1,_,h3,_⟩:=e
    rw [eb] at h1
    cases h1
    exact hd vs h3
  have nox:∀b:Addr,b∉X.ex:=fun b=>by rw [hex];simp
  have old:∀{b o},X.s₀.heap.get? b=some o→b≠a:=fun {b o} eb z=>by
    rw [z,new] at eb
    cases eb
  have ne:∀{b:Addr} {u:HO},H b=some u→b≠a:=fun {b u} q z=>by
    rw [z,un] at q
    cases q
  refine ⟨I.ok,I.os,I.bare,⟨fun b o eb n hb hx=>I.base.keep b o eb n hb hx,I.base.slot,fun b o eb n hx=>?_,I.base.there,fun b xs q=>?_,fun b o u q=>?_,fun b ps q=>?_⟩,I.loc,I.cell,?_,fun x c q=>?_,fun p hpp=>?_,fun b u q=>?_,I.len⟩
  · rw [upd_ne (old eb)]
    exact I.base.free b o eb n hx
  · have z:=I.base.tups b xs q
    rw [upd_ne (ne z)]
    exact z
  · have z:=I.base.frzs b o u q
    rw [upd_ne (ne z)]
    exact z
  · obtain ⟨m,z⟩:=I.base.tbls b ps q
    exact ⟨m,by rw [upd_ne (ne z)];exact z⟩
  · obtain ⟨m,⟨o,es,ep,eo,d,r⟩,_⟩:=I.loc
    rw [upd_ne (nf eo fun vs y=>by rw [d] at y;cases y)]
    exact I.free
  · obtain ⟨v,o,eo,d⟩:=I.cell x c q
    rw [upd_ne (nf eo fun vs y=>by rw [d] at y;cases y)]
    exact I.freeC x c q
  · obtain ⟨f1,f2,f3⟩:=I.pin p hpp
    refine ⟨f1,?_,f3⟩
    rw [upd_ne (hp p hpp)]
    exact f2
  · by_cases hb:b=a
    · subst hb
      rw [upd_same] at q
      cases q
      obtain ⟨ox,vs,h1,h2,h3,_⟩:=id e
      exact ⟨e,⟨ox,h1⟩,fun h1 h2 ⟨ox,vs,a1,a2,a3⟩ k=>⟨ox,vs,k _ a1,a2,a3⟩⟩
    · rw [upd_ne hb] at q
      refine (I.hok b u q).stay (fun c v _ z=>z) (fun c z=>?_) fun c xs z=>?_
      ·rw [upd_ne (ne z)];exact z
      ·rw [upd_ne (ne z)];exact z
theorem unbind_ok {M:Model} {A:Around} {E:Value→Shared→Prop} {i:Nat} {n:Str} {v:V} {Q:Unit→Shared→Prop} (I:Inv X pins σ H s) (hN:X.N.Nodup) (hi:X.N[i]? = some n) (hl:X.env.scope.names.lookup n=some .local) (hv:σ[i]? = some (some v))
    (h:∀s',Inv X pins (σ.set i none) H s'→Q () s'):wpAny M A (unbindName X.env n) Q E s:=by
  obtain ⟨m,hn,q⟩:=id I.loc
  obtain ⟨u,rv,l⟩:=q i n v hi hv (.inl hl)
  have hm:m n=some u:=by
    rcases l with ⟨_,l⟩ | ⟨k,c,_⟩
    ·exact l
    · rcases k with k | k
      · have:X.env.kindOf n=some .local:=hl
        rw [k] at this;cases this
      · have:X.env.kindOf n=some .local:=hl
        rw [k] at this;cases this
  have hcls:(X.env.scope.kind == .class || (X.env.scope.kind == .module && X.env.locals != X.env.globals))=false:=by rw [I.ok.kind];rfl
  have hiσ:i<σ.length:=by rw [I.len];exact (List.getElem?_eq_some_iff.mp hi).1
  refine wpAny_unbindName_local hl hn hm hcls fun h' u' hn' hs=>?_
  obtain ⟨oL,_,_,hoL,_⟩:=id hn
  have loc:∀b o,X.s₀.heap.get? b=some o→b≠X.env.locals:=fun b o e=>Nat.ne_of_lt (Nat.lt_of_lt_of_le (Heap.lt_size e) I.ok.above)
  refine h _ ⟨I.ok,I.os,I.bare,⟨fun b o e n hb hx=>?_,fun b o e n hb hx=>?_,I.base.free,fun b o e hx=>?_,I.base.tups,I.base.frzs,I.base.tbls⟩,⟨_,hn',fun j y v' e1 e2 e3=>?_⟩,fun y c e=>?_,I.free,I.freeC,fun p hp=>?_,fun b ob e=>?_,by simpa using I.len⟩
  ·exact (hs.2 b (loc b o e)).trans (I.base.keep b o e n hb hx)
  · obtain ⟨sl,z⟩:=I.base.slot b o e n hb hx
    exact ⟨sl,(hs.2 b (loc b o e)).trans z⟩
  · obtain ⟨o',z⟩:=I.base.there b o e hx
    exact ⟨o',(hs.2 b (loc b o e)).trans z⟩
  · have hj:j≠i:=fun z=>by
      subst z
      rw [List.getElem?_set_self hiσ] at e2
      cases e2
    rw [List.getElem?_set_ne (Ne.symm hj)] at e2
    obtain ⟨u2,r2,l2⟩:=q j y v' e1 e2 e3
    refine ⟨u2,r2,?_⟩
    rcases l2 with ⟨k,e⟩ | ⟨k,c,e,z⟩
    · have:y≠n:=fun e=>hj (nodup_ix hN e1 (e▸hi))
      exact .inl ⟨k,by simp [this,e]⟩
    ·exact .inr ⟨k,c,e,z.sameBut hs (I.cne y c e)⟩
  · obtain ⟨w',z⟩:=I.cell y c e
    exact ⟨w',z.sameBut hs (I.cne y c e)⟩
  · obtain ⟨e,n,ne,nf,d⟩:=I.pin p hp
    exact ⟨(hs.2 p.1 ne).trans e,n,ne,nf,d⟩
  · have no:∀{c:Addr} {u:HO},H c=some u→c≠X.env.locals:=fun {c u} q z=>by
      rw [z,I.free] at q
      cases q
    refine (I.hok b ob e).stay (fun c w' hc q=>(hs.2 c ?_).trans q) (fun _ q=>q) fun _ _ q=>q
    rcases hc with rfl | hc
    ·exact no e
    ·exact no hc
end
section
variable {M:Model} {A:Around} {E:Value→Shared→Prop} {h:Heap} {g:Array GenState} {d:Drawn} {t:Nat} {os:OsState}
variable {nm q:Str} {C N:Addr} {bs bm:List Value} {hdct:Bool} {sn:List Str} {sub:List Value} {ab:Bool} {col:Option Bool} {dd:Option Addr} {k0 k1 k2 k3 k5:Option Value} {newId:String}
variable {nm' q':Str} {D N':Addr} {bs' bm':List Value} {hdct':Bool} {sn':List Str} {sub':List Value} {ab':Bool} {col':Option Bool} {dd':Option Addr} {j0 j1 j2 j3 j5:Option Value} {newId':String}
theorem exc_match {e:Addr} {oe:Obj} {Q:Bool→Shared→Prop} (hC:h.get? C=some (excClassObj nm q C N bs bm hdct sn sub ab col dd k0 k1 k2 k3 k5 newId))
    (hD:h.get? D=some (excClassObj nm' q' D N' bs' bm' hdct' sn' sub' ab' col' dd' j0 j1 j2 j3 j5 newId')) (he:h.get? e=some oe) (hcls:oe.cls = .ref C) (hbase:bm'.contains (.type "BaseException")=true) (hin:bm.contains (.ref D)=true)
    (hq:Q true ⟨h,g,d,t,os⟩):wpAny M A (excMatches (.ref e) (.ref D)) Q E ⟨h,g,d,t,os⟩:=by
  have hDB:(Value.ref D::bm').contains (.type "BaseException")=true:=by rw [List.contains_cons,hbase,Bool.or_true]
  have hCD:(Value.ref C::bm).contains (.ref D)=true:=by rw [List.contains_cons,hin,Bool.or_true]
  have f:=tc_notTuple
  unfold excMatches
  repeat (first | (with_reducible refine wpAny_loadPart_at he ?_;rw [hcls]) | with_reducible refine wpAny_loadPart_at hD ?_ | (with_reducible refine wpAny_isSubtype_exc hD ?_;rw [hDB]) | (with_reducible refine wpAny_isSubtype_exc hC ?_;rw [hCD]) | wp_step)
  exact hq
end
theorem my_entry_unchain:entryFor table "proto.unchain" = some Builtin.«proto.unchain»:=entryFor_of_tree (by kernel_rfl)
def Lone (a:Addr) (h:Heap):Prop:=∃oa us,h.get? a=some oa∧oa.data = .fields us∧us[2]? = some .none
theorem Lone.to {a:Addr} {h h':Heap} (x:Lone a h) (k:∀o,h.get? a=some o→h'.get? a=some o):Lone a h':=by
  obtain ⟨oa,us,e,d,u⟩:=x
  exact ⟨oa,us,k _ e,d,u⟩
section
variable {X:Cx} {pins:List (Addr×Obj)} {σ:St} {H:Hp} {s:Shared} {a:Addr}
end
structure TurnH (c:Addr) (P:Program) (w:World) (K:PySem.W.Frag) (tg:Expr) (J:It) (fp:List Addr) (it:Addr) (tn:Nat→Heap→Prop):Prop where
  mem:it∈fp
  obj:∀i h,tn i h→∀b∈fp,∃o,h.get? b=some o∧∀v,o.data≠.cell v
  keep:∀i h h',tn i h→(∀b∈fp,∀o,h.get? b=some o→h'.get? b=some o)→tn i h'
  item:∀(X:Cx),X.prog=P→X.w=w→X.K=K→∀(i:Nat) (pins:List (Addr×Obj)) (s:Shared) (σ:St) (H:Hp) (E:Value→Shared→Prop),Inv X pins σ H s→(∀b∈fp,FpOk X pins H b)→tn i s.heap→J.go i H→
    wpAny (model P w) X.A (pyNext (.ref it)) (fun r s1=>∃u,r=some u∧
      wpAny (model P w) X.A (letOwnedTupleGo tg (.ref it) u) (fun _ s2=>∃x H',Inv X pins σ H' s2∧RelV x u∧J.yld i H x H'∧tn (i+1) s2.heap∧∀b∈fp,H' b=none) E s1) E s
  done:∀(X:Cx),X.prog=P→X.w=w→X.K=K→X.A.handled=some (.ref c)→∀(i:Nat) (pins:List (Addr×Obj)) (s:Shared) (σ:St) (H:Hp) (E:Value→Shared→Prop),Inv X pins σ H s→(∀b∈fp,FpOk X pins H b)→tn i s.heap→J.stop i H→
    wpAny (model P w) X.A (pyNext (.ref it)) (fun r s1=>r=none∧Inv X pins σ H s1) E s
  self:∀(A:Around) (i:Nat) (s:Shared) (Q:Value→Shared→Prop) (E:Value→Shared→Prop),tn i s.heap→Q (.ref it) s→wpAny (model P w) A (pyIter (.ref it)) Q E s
def PIH (c:Addr) (X:Cx) (tg iter:Expr) (wi:TI):Prop:=
  ∀(pins:List (Addr×Obj)) (s:Shared) (σ:St) (H:Hp) (R:It→Hp→Prop),Inv X pins σ H s→wi σ H R→
    wpAny (model X.prog X.w) X.A (eval iter X.env) (fun v s1=>wpAny (model X.prog X.w) X.A (pyIter v) (fun itv s2=>∃(it:Addr) (fp:List Addr) (tn:Nat→Heap→Prop) (J:It) (H':Hp),itv = .ref it∧Inv X pins σ H' s2∧TurnH c X.prog X.w X.K tg J fp it tn∧tn 0 s2.heap∧(∀b∈fp,FpOk X pins H' b)∧R J H') X.xe s1) X.xe s
theorem zip_item {X:Cx} {es:List Expr} {k:Nat} {pos:Pos} {z TI TO i1 i2 a b:Addr} (n12:i1≠i2) (nT:TI≠TO) {i:Nat} {pins:List (Addr×Obj)} {s:Shared} {σ:St} {H:Hp} {E:Value→Shared→Prop} (I:Inv X pins σ H s)
    (hf:∀c∈[z,TI,TO,i1,i2],FpOk X pins H c) (st:ZipSt z TI TO i1 i2 a b i s.heap) (hg:(Itz X.K a b).go i H) :
    wpAny (model X.prog X.w) X.A (pyNext (.ref z)) (fun r s1=>∃u,r=some u∧
      wpAny (model X.prog X.w) X.A (letOwnedTupleGo (.Tuple es k pos) (.ref z) u) (fun _ s2=>∃x H',Inv X pins σ H' s2∧RelV x u∧(Itz X.K a b).yld i H x H'∧ZipSt z TI TO i1 i2 a b (i+1) s2.heap∧∀c∈[z,TI,TO,i1,i2],H' c=none) E s1) E s:=by
  obtain ⟨xs,ys,x,y,qa,qb,hx,hy⟩:=hg
  obtain ⟨its,rv,pl,hz1⟩:=I.list qa
  obtain ⟨its',rv',pl',hz2⟩:=I.list qb
  obtain ⟨u,hu,ru⟩:=rv.get hx
  obtain ⟨u',hu',ru'⟩:=rv'.get hy
  obtain ⟨p,q,hTO⟩:=st.hO
  obtain ⟨oa,ea,ca,_⟩:=id pl.isList
  obtain ⟨ob,eb,cb,_⟩:=id pl'.isList
  obtain ⟨o1,e1,c1,_⟩:=id st.h1
  obtain ⟨o2,e2,c2,_⟩:=id st.h2
  have D:ZipApart z TI TO i1 i2 a b:=
    ⟨ne_ty st.hI st.hz rfl rfl (by decide),ne_ty hTO st.hz rfl rfl (by decide),ne_ty e1 st.hz c1 rfl (by decide),ne_ty e2 st.hz c2 rfl (by decide),nT,ne_ty st.hI e1 rfl c1 (by decide),ne_ty st.hI e2 rfl c2 (by decide),
      ne_ty hTO e1 rfl c1 (by decide),ne_ty hTO e2 rfl c2 (by decide),n12,ne_ty ea st.hz ca rfl (by decide),ne_ty ea hTO ca rfl (by decide),ne_ty ea e1 ca c1 (by decide),ne_ty ea e2 ca c2 (by decide),
      ne_ty eb st.hz cb rfl (by decide),ne_ty eb hTO cb rfl (by decide),ne_ty eb e1 cb c1 (by decide),ne_ty eb e2 cb c2 (by decide)⟩
  refine wpAny_pyNext_zip_item D st.hz st.hI hTO st.h1 st.h2 pl.isList pl'.isList (x:=u) (y:=u') (by simpa using hu) (by simpa using hu') fun h' a1 a2 a3 a4 a5 a6 kk=>?_
  refine ⟨_,rfl,wpAny_letOwnedTupleGo_zip a1 fun h2 b1 sb=>?_⟩
  have lt:∀{c o},s.heap.get? c=some o→s.heap.objs.size≠c:=fun e=>Nat.ne_of_gt (Heap.lt_size e)
  have hn:H s.heap.objs.size=none:=I.hok.fresh (Nat.le_refl _)
  have kk2:∀c o,c∉[z,TI,TO,i1,i2]→s.heap.get? c=some o→h2.get? c=some o:=fun c o hc e=>by
    simp only [List.mem_cons,List.not_mem_nil,or_false,not_or] at hc
    exact (sb.2 c hc.1).trans (kk c o hc.1 hc.2.2.1 hc.2.2.2.1 hc.2.2.2.2 e)
  have I1:Inv X pins σ H {s with heap:=h2,toks:=s.toks}:=I.turnedL kk2 hf
  have hpair:IsPair h2 s.heap.objs.size u u':=sb.extBut _ _ (lt st.hz) a5
  have I2:Inv X pins σ (upd H s.heap.objs.size (.tup [x,y])) {s with heap:=h2,toks:=s.toks}:=by
    have hfr:H s.heap.objs.size=none:=hn
    refine ⟨I1.ok,I1.os,I1.bare,⟨I1.base.keep,I1.base.slot,fun c o e n hx=>?_,I1.base.there,fun c zs e=>?_,fun c o v e=>?_,fun c qs e=>?_⟩,I1.loc,I1.cell,?_,fun v c e=>?_,fun v hv=>?_,?_,I1.len⟩
    · rw [upd_ne (fun e'=>?_)]
      ·exact I1.base.free c o e n hx
      ·exact absurd (Nat.lt_of_lt_of_le (Heap.lt_size e) I.sz) (by rw [e'];exact Nat.lt_irrefl _)
    · have e':=I1.base.tups c zs e
      rw [upd_ne (ne_of_none e' hfr)];exact e'
    · have e':=I1.base.frzs c o v e
      rw [upd_ne (ne_of_none e' hfr)];exact e'
    · obtain ⟨m,e'⟩:=I1.base.tbls c qs e
      exact ⟨m,by rw [upd_ne (ne_of_none e' hfr)];exact e'⟩
    ·rw [upd_ne (Nat.ne_of_lt I.lt)];exact I1.free
    · obtain ⟨w',qc⟩:=I.cell v c e
      rw [upd_ne (Nat.ne_of_lt qc.lt)];exact I1.freeC v c e
    · obtain ⟨f1,f2,f3⟩:=I1.pin v hv
      refine ⟨f1,?_,f3⟩
      rw [upd_ne (Nat.ne_of_lt (Heap.lt_size (I.pin v hv).1))];exact f2
    · intro c v e
      by_cases hcs:c=s.heap.objs.size
      · subst hcs
        rw [upd_same] at e
        cases e
        exact ⟨by show 2≤sizeLine;rw [sizeLine_eq];decide,[u,u'],.cons ru (.cons ru' .nil),⟨_,hpair,rfl,0,rfl⟩⟩
      · rw [upd_ne hcs] at e
        refine (I1.hok c v e).stay (fun _ _ _ qq=>qq) (fun d qd=>?_) fun d zs qd=>?_
        ·rw [upd_ne (ne_of_none qd hfr)];exact qd
        ·rw [upd_ne (ne_of_none qd hfr)];exact qd
  refine ⟨.ref s.heap.objs.size,_,I2,rfl,⟨s.heap.objs.size,x,y,rfl,hn,rfl,fun xs' q'=>by rw [I.list_inj q' qa];exact hx,fun ys' q'=>by rw [I.list_inj q' qb];exact hy⟩,?_,fun c hcm=>?_⟩
  ·exact ⟨b1,sb.extBut _ _ D.TIz (kk _ _ D.TIz D.TITO D.TIi1 D.TIi2 st.hI),⟨_,_,sb.extBut _ _ D.TOz a2⟩,a3.extBut sb.extBut D.i1z,a4.extBut sb.extBut D.i2z⟩
  · have hne:c≠s.heap.objs.size:=by
      simp only [List.mem_cons,List.not_mem_nil,or_false] at hcm
      rcases hcm with rfl | rfl | rfl | rfl | rfl
      ·exact (lt st.hz).symm
      ·exact (lt st.hI).symm
      ·exact (lt hTO).symm
      ·exact (lt e1).symm
      ·exact (lt e2).symm
    rw [upd_ne hne]
    exact (hf c hcm).1
section
variable {X:Cx} {c:Addr} {ps sc:Scope} {own pN:List Str} {caps:List Nat} {N:List Str}
theorem comp_blockH {pins:List (Addr×Obj)} {σ:St} {H:Hp} {s:Shared} {E:Value→Shared→Prop} {elt tg iter:Expr} {ifs:List Expr} {pos:Pos} {J:It} {fp:List Addr} {it D:Addr} {tn:Nat→Heap→Prop} {g:TG} {tt:TT} {te:TE} {Q:Hp→Prop}
    (I:Inv X pins σ H s) (hps:X.env.scope=ps) (hpN:X.N=pN) (S:CompScope ps sc pN own caps N) (T:TurnH c X.prog X.w X.K tg J fp it tn) (st:tn 0 s.heap) (hf:∀b∈fp,FpOk X pins H b) (hh:X.A.handled=some (.ref c))
    (hg:∀C s H fp pn,PG (cxComp X sc N C s H fp pn) tg g) (ht:∀C s H fp pn,PTs (cxComp X sc N C s H fp pn) ifs tt) (he:∀C s H fp pn,PE (cxComp X sc N C s H fp pn) elt te)
    (h:tCompAt own caps J g tt te D σ H Q) :
    wpAny (model X.prog X.w) X.A (newFunctionEnv sc X.env.globals (clOf X.env sc.names) [] X.env.qual none .none (some X.env)) (fun cenv s4=>
      codeAny (model X.prog X.w) X.A (.compStart (.ListComp elt [⟨tg,iter,ifs,0⟩] sc pos) 0 (.ref it) (.ref D) {cenv with scope:=relabel sc X.env}) (BlockEnd X pins σ Q cenv.locals) s4) E s:=by
  obtain ⟨W,⟨m0,w0⟩,turn⟩:=h
  refine newEnv_block ?_
  have ho:=T.obj 0 _ st
  have I0:=blockInv I hps hpN S hf ho
  have ok':=blockOk I hps S hf ho
  have hk:∀b o,s.heap.get? b=some o→(blockAt sc s).heap.get? b=some o:=fun b o e=>pushCells_keeps _ _ b o (Heap.get?_push_of_some _ e)
  have st0:tn 0 (blockAt sc s).heap:=T.keep 0 _ _ st fun b _ o e=>hk b o e
  have stat:∀{H':Hp},(∀b∈fp,H' b=none)→∀b∈fp,FpOk (cxComp X sc N s.heap.objs.size s H fp (X.pn++pins)) [] H' b:=fun hn b hb=>
    ⟨hn b hb,(ok'.exf b hb).1,ok'.exfs b hb,.inl hb,(ok'.exf b hb).2,fun p hp=>(hf b hb).2.2.2.2.2 p (by rw [List.append_nil] at hp;exact hp)⟩
  have loop:codeAny (model X.prog X.w) X.A (.compLoop (.ListComp elt [⟨tg,iter,ifs,0⟩] sc pos) 0 (.ref it) (.ref D) (cxComp X sc N s.heap.objs.size s H fp (X.pn++pins)).env) (BlockEnd X pins σ Q s.heap.objs.size) (blockAt sc s):=by
    refine compLoop_go (fun n s'=>∃i σ' H',Inv (cxComp X sc N s.heap.objs.size s H fp (X.pn++pins)) [] σ' H' s'∧tn i s'.heap∧(∀b∈fp,H' b=none)∧W i n σ' H') ?_ m0 ⟨0,_,H,I0,st0,fun b hb=>(hf b hb).1,w0⟩
    rintro n s3 ⟨i,σ3,H3,I3,st3,fr3,w3⟩
    rcases turn i n σ3 H3 w3 with ⟨stop,qn⟩ | ⟨go,N',hN,step⟩
    · refine thn (T.done (cxComp X sc N s.heap.objs.size s H fp (X.pn++pins)) rfl rfl rfl hh i [] s3 σ3 H3 NoE I3 (stat fr3) st3 stop) fun r s4 zz=>?_
      obtain ⟨hr,I4⟩:=zz
      subst hr
      obtain ⟨m,hn,_⟩:=I4.loc
      exact ⟨H3,rfl,blockBack I hf I4,⟨m,hn⟩,I.fpOk (Nat.le_refl _) I4.free,qn⟩
    · refine thn (T.item (cxComp X sc N s.heap.objs.size s H fp (X.pn++pins)) rfl rfl rfl i [] s3 σ3 H3 NoE I3 (stat fr3) st3 go) fun r s4 zz=>?_
      obtain ⟨u,hr,h4⟩:=zz
      subst hr
      refine thn h4 fun _ s5 zz=>?_
      obtain ⟨x,H5,I5,r5,y5,st5,fr5⟩:=zz
      have I5':=I5.pinned (stat fr5) (T.obj _ _ st5)
      refine thn (hg _ _ _ _ _ _ s5 σ3 H5 x u _ I5' r5 (step x H5 y5)) fun _ s6 zz=>?_
      obtain ⟨σ6,H6,I6,q6⟩:=zz
      refine thn (ht _ _ _ _ _ _ s6 σ6 H6 _ I6 q6) fun b s7 zz=>?_
      obtain ⟨H7,I7,q7⟩:=zz
      have again:∀{σ8:St} {H8:Hp} {s8:Shared},Inv (cxComp X sc N s.heap.objs.size s H fp (X.pn++pins)) ([]++pinsAt fp s5.heap) σ8 H8 s8→N' σ8 H8→
          ∃m,m<n∧∃i σ' H',Inv (cxComp X sc N s.heap.objs.size s H fp (X.pn++pins)) [] σ' H' s8∧tn i s8.heap∧(∀b∈fp,H' b=none)∧W i m σ' H':=fun {σ8 H8 s8} I8 n8=>by
        obtain ⟨m',hm,w8⟩:=hN σ8 H8 n8
        refine ⟨m',hm,i+1,σ8,H8,I8.unpinned,T.keep _ _ _ st5 fun b hb o e=>(I8.pin (b,o) (List.mem_append_right _ (List.mem_append_right _ (mem_pinsAt hb e)))).1,fun b hb=>?_,w8⟩
        obtain ⟨o,e,d⟩:=T.obj _ _ st5 b hb
        exact (I8.pin (b,o) (List.mem_append_right _ (List.mem_append_right _ (mem_pinsAt hb e)))).2.1
      cases b with
      | false=>
        rw [if_neg Bool.false_ne_true] at q7 ⊢
        exact again I7 q7
      | true=>
        rw [if_pos rfl] at q7 ⊢
        refine thn (he _ _ _ _ _ _ s7 σ6 H7 _ I7 q7) fun v s8 zz=>?_
        obtain ⟨y,H8,I8,r8,ys,hD,hz,n8⟩:=zz
        refine thn (mt_append (X:=cxComp X sc N s.heap.objs.size s H fp (X.pn++pins)) _ s8 σ6 H8 (.ref D) [y] (.ref D) [v] (fun _ H9=>N' σ6 H9) I8 rfl (.cons r8 .nil) ⟨D,ys,y,rfl,rfl,hD,hz,n8⟩) fun _ s9 zz=>?_
        obtain ⟨_,H9,I9,_,n9⟩:=zz
        exact again I9 n9
  exact codeAny_compStart_list loop (T.self X.A 0 _ _ _ st0 loop)
variable {elt tg iter:Expr} {ifs:List Expr} {pos:Pos} {wi:TI} {g:TG} {tt:TT} {te:TE}
theorem pe_compH (hps:X.env.scope=ps) (hpN:X.N=pN) (S:CompScope ps sc pN own caps N) (hh:X.A.handled=some (.ref c)) (hi:PIH c X tg iter wi)
    (hg:∀C s H fp pn,PG (cxComp X sc N C s H fp pn) tg g) (ht:∀C s H fp pn,PTs (cxComp X sc N C s H fp pn) ifs tt) (he:∀C s H fp pn,PE (cxComp X sc N C s H fp pn) elt te)
    (hs:∀x,foldedSetIterable iter X.env x=pure x:=by intro _;rfl):PE X (.ListComp elt [⟨tg,iter,ifs,0⟩] sc pos) (tComp own caps wi g tt te):=by
  intro pins s σ H Q I h
  rw [eval_ListComp]
  refine wpAny_comprehension_free (use:=none) rfl hs (closureFor_clOf (S.cells hps I.ok)) S.kind S.locs (thn (hi pins s σ H _ I h) fun v s1 h1=>thn h1 fun itv s2 h2=>?_)
  obtain ⟨it,fp,tn,J,H2,e,I2,T,st2,f2,q⟩:=h2
  subst e
  have fr:H2 s2.heap.objs.size=none:=I2.fresh
  refine wpAny_newObj_type ?_
  have I3:Inv X pins σ (upd H2 s2.heap.objs.size (.lst [])) {s2 with heap:=s2.heap.push {cls:=.type "list",data:=.seq ([]:List Value).toArray},toks:=s2.toks}:=I2.lnew (its:=[]) (ys:=[]) .nil (Nat.zero_le _)
  have f3:∀b∈fp,FpOk X pins (upd H2 s2.heap.objs.size (.lst [])) b:=fun b hb=>by
    obtain ⟨o,e,_⟩:=T.obj 0 _ st2 b hb
    exact ⟨by rw [upd_ne (Nat.ne_of_lt (Heap.lt_size e))];exact (f2 b hb).1,(f2 b hb).2⟩
  refine thn (comp_blockH (iter:=iter) (pos:=pos) I3 hps hpN S T (T.keep 0 _ _ st2 fun b _ o e=>Heap.get?_push_of_some _ e) f3 hh hg ht he (q _ fr)) fun cenv s4 h4=>?_
  refine codeAny_mono h4 fun r s5 ⟨H5,hr,I5,⟨m,hn⟩,f5,q5⟩=>?_
  subst hr
  refine ⟨m,hn,fun h' hs'=>?_⟩
  have I6:Inv X pins σ H5 {s5 with heap:=h',toks:=s5.toks}:=I5.turned (it:=cenv.locals) (fun b o hb e=>(hs'.2 b hb).trans e) f5.1 f5.2.1 f5.2.2.2.1 f5.2.2.2.2.1 f5.2.2.2.2.2
  exact ⟨.ref s2.heap.objs.size,H5,I6,rfl,q5⟩
end
structure FnOkH (P:Program) (w:World) (K:PySem.W.Frag) (mg:Str→Option Value) (base:Heap) (k:Nat) (f:Addr) (fd:FuncData) (ps:List Str) (sp:Addr→Sp):Prop where
  len:∀a vs H Q E,sp a vs H Q E→vs.length=ps.length
  run:∀(a:Addr) (A:Around) (outer:List Env) (s:Shared) (H:Hp) (args:Args) (us:List Value) (vs:List V) (Q:VK),Room k A→Env0 P w K mg base A outer s H→BindsTo s fd args (ps.zip us)→Vals vs us→sp a vs H Q E0→
    codeAny (model P w) (A.mark (some (.ref a))) (.call (.ref f) args) (CR CX0 outer P w H s Q E0) s
theorem Fun.okH {P:Program} {w:World} {K:PySem.W.Frag} {mg:Str→Option Value} {base:Heap} {x qual:Str} {st:Stmt} {f:Addr} {fd:FuncData} {N ps:List Str} {k:Nat} {sp:Addr→Sp} (F:Fun K x qual st f fd) (S:FnScope N ps (defScope st)) (len:∀a vs H Q E,sp a vs H Q E→vs.length=ps.length)
    (hbody:∀(a:Addr) (cdv:Value) (A:Around) (outer:List Env) (s:Shared) (H:Hp) (vs:List V) (Q:VK),Room k (A.deeper (envOfC qual (defScope st) s.heap.objs.size f cdv))→sp a vs H Q E0→
      ∃t,PSs ((cxOf CX0 P w K mg base N qual (defScope st) f cdv A outer s H E0).caught a) (defBody st) t∧t {nx:=fun _ H'=>Q .non H',rt:=Q} (start N vs) H):FnOkH P w K mg base (k+1) f fd ps sp:=by
  obtain ⟨oc,od,kV,doc,pm,an,cdv,ct,osl,rfl,lk,hcd⟩:=F.ex
  refine ⟨len,fun a A outer s H args us vs Q hr e0 hb r hsp=>?_⟩
  have hl:=len _ _ _ _ _ hsp
  have KX:K.In s.heap:=e0.mod.kin.keeps fun b o e=>(e0.bs b o e).1
  have lim:s.heap.NoLimit:=e0.mod.nolimit.keeps fun b o e=>(e0.bs b o e).1
  have hkind:∀y∈ps.zip us,(defScope st).names.lookup y.1=some .local∨((defScope st).names.lookup y.1=some .cell∧((cellsFrom (s.heap.objs.size+1) (defScope st).names []).lookup y.1).isSome=true):=fun ⟨n,v⟩ hy=>by
    rcases S.par n (List.of_mem_zip hy).1 with q | q
    ·exact .inl q
    ·exact .inr ⟨q,PySem.W.cellsFrom_some _ _ _ (.inl q)⟩
  refine codeAny_call_function (A:=A.mark (some (.ref a))) hr.depth (KX _ _ lk) rfl S.co S.gen rfl (PySem.W.codeRec_of KX hcd) (hb _ _ _ _ ?_)
  refine wpAny_newFunctionEnv_cells S.kind hkind fun env he s1 x=>?_
  subst he
  refine ⟨lim.keeps x.toInCall.keep,codeAny_func ?_⟩
  obtain ⟨t,ht,hq⟩:=hbody a cdv A outer s H vs Q (hr.deeper _) hsp
  have I:Inv (cxOf CX0 P w K mg base N qual (defScope st) f cdv A outer s H E0) [] (start N vs) H s1:=inv_start S hr.hd e0 hl r x
  refine wpAny_mono (ht [] s1 (start N vs) H _ (I.caught a) hq) (fun fl s' hs=>?_) fun e s' hs=>hs.elim
  have fin:∀{σ':St} {H':Hp} {v:V} {u:Value},Inv ((cxOf CX0 P w K mg base N qual (defScope st) f cdv A outer s H E0).caught a) [] σ' H' s'→RelV v u→Q v H'→CE outer P w H s Q u s':=
    fun {σ' H' v u} J rv q=>⟨v,H',J.os,J.bare,J.base,J.hok,rv,q⟩
  cases fl with
  | ret u=>
    obtain ⟨v,σ',H',J,rv,q⟩:=hs
    exact fin J rv q
  | next=>
    obtain ⟨σ',H',J,q⟩:=hs
    exact fin (v:=V.non) (u:=Value.none) J rfl q
  | brk=>obtain ⟨σ',H',J,q⟩:=hs;exact False.elim q
  | cont=>obtain ⟨σ',H',J,q⟩:=hs;exact False.elim q
section
variable {X:Cx} {a:Addr}
def fCallH (sp:Sp) (t:TA):TE:=fun σ H Q=>t σ H fun vs H1=>tSp sp vs H1 Q ⟨0⟩ E0
@[simp ↓] theorem fCallH_w sp t σ H Q:fCallH sp t σ H Q=t σ H fun vs H1=>tSp sp vs H1 Q ⟨0⟩ E0:=rfl
theorem pe_callH {k:Nat} {f:Addr} {fd:FuncData} {ps:List Str} {sp:Addr→Sp} {x:Str} {p pos:Pos} {e:Expr} {es:List Expr} {t:TA}
    (F:FnOkH X.prog X.w X.K X.mg X.base k f fd ps sp) (hr:Room k X.A) (hg:Gl X x) (hm:X.mg x=some (.ref f)) (hk:PySem.W.keepIn X.K (.ref f)=true) (hb:Binds X.K fd ps [])
    (ha:PA (X.caught a) (e::es) t) (hdb:(x == ("__debug__" : Str))=false:=by decide) (he:starEach (e::es) X.env=(false,eval e X.env)::starEach es X.env:=by rfl) (hpl:(backTo pos (starEach es X.env)).any (·.1)=false:=by rfl) :
    PE (X.caught a) (.Call (.Name x p) (e::es) [] pos) (fCallH (sp a) t):=by
  intro pins s σ H Q I h
  refine wpAny_Call_Name_kw (ld_glob I hg hm ?_ hdb)
  refine PySem.W.callWith_K (h₀:=X.base) I.ok.mod.kin hk (thn (ha pos pins s σ H _ I h) fun us s1 zz=>?_) he hpl
  obtain ⟨vs,H1,I1,r,q⟩:=zz
  refine ⟨I1.kIn,?_⟩
  have hl:us.length=ps.length:=by rw [← r.length];exact F.len _ _ _ _ _ q
  have hbd:=hb s1 us I1.kIn (by rw [List.append_nil];exact hl)
  rw [List.append_nil] at hbd
  have e0:=I1.env0
  refine wpAny_call (codeAny_mono (F.run a X.A X.stack s1 H1 ⟨us,[]⟩ us vs Q hr ⟨e0.frames,e0.mod,e0.bs,e0.bsz,e0.funs,e0.frf,e0.hok,e0.bare⟩ hbd r q) fun rr s' hq=>?_)
  cases rr with
  | error e=>exact hq.elim
  | ok fl=>
    cases fl with
    | ret u=>exact I1.after hq
    | next=>exact False.elim hq
    | brk=>exact False.elim hq
    | cont=>exact False.elim hq
end
def ExcAsk (K:PySem.W.Frag) (C:Addr):Prop:=ExcLook K C∧∃cd,PySem.W.clsIn K C=some cd
def kitE (K:PySem.W.Frag) (C:Addr):V→Option Bool
  | .ref D=>PySem.W.kitOne K (.ref C) (.ref D)
  | .ty n=>PySem.W.kitOne K (.ref C) (.type n)
  | _=>none
theorem Fun.okEL {P:Program} {w:World} {K:PySem.W.Frag} {mg:Str→Option Value} {base:Heap} {x qual:Str} {st:Stmt} {f:Addr} {fd:FuncData} {N ps:List Str} {k:Nat} {sp:Sp} (F:Fun K x qual st f fd) (S:FnScope N ps (defScope st)) (len:∀vs H Q E,sp vs H Q E→vs.length=ps.length)
    (hbody:∀(cdv:Value) (A:Around) (outer:List Env) (s:Shared) (H:Hp) (vs:List V) (Q:VK) (E:XK),Room k (A.deeper (envOfC qual (defScope st) s.heap.objs.size f cdv))→sp vs H Q E→
      ∃t,PSs (cxOf (CXe P w) P w K mg base N qual (defScope st) f cdv A outer s H E) (defBody st) t∧t {nx:=fun _ H'=>Q .non H',rt:=Q} (startL N vs) H):FnOk P w K mg base (CXe P w) (k+1) f fd ps sp:=by
  refine F.okE S len fun cdv A outer s H vs Q E hr h=>?_
  obtain ⟨t,h1,h2⟩:=hbody cdv A outer s H vs Q E hr h
  refine ⟨t,h1,?_⟩
  have hl:=len _ _ _ _ h
  have hp:ps.length≤N.length:=by have:=congrArg List.length S.pre;rw [List.length_take] at this;omega
  rw [startL_eq N vs (by omega)] at h2
  exact h2
theorem Fun.okHL {P:Program} {w:World} {K:PySem.W.Frag} {mg:Str→Option Value} {base:Heap} {x qual:Str} {st:Stmt} {f:Addr} {fd:FuncData} {N ps:List Str} {k:Nat} {sp:Addr→Sp} (F:Fun K x qual st f fd) (S:FnScope N ps (defScope st)) (len:∀a vs H Q E,sp a vs H Q E→vs.length=ps.length)
    (hbody:∀(a:Addr) (cdv:Value) (A:Around) (outer:List Env) (s:Shared) (H:Hp) (vs:List V) (Q:VK),Room k (A.deeper (envOfC qual (defScope st) s.heap.objs.size f cdv))→sp a vs H Q E0→
      ∃t,PSs ((cxOf CX0 P w K mg base N qual (defScope st) f cdv A outer s H E0).caught a) (defBody st) t∧t {nx:=fun _ H'=>Q .non H',rt:=Q} (startL N vs) H):FnOkH P w K mg base (k+1) f fd ps sp:=by
  refine F.okH S len fun a cdv A outer s H vs Q hr h=>?_
  obtain ⟨t,h1,h2⟩:=hbody a cdv A outer s H vs Q hr h
  refine ⟨t,h1,?_⟩
  have hl:=len _ _ _ _ _ h
  have hp:ps.length≤N.length:=by have:=congrArg List.length S.pre;rw [List.length_take] at this;omega
  rw [startL_eq N vs (by omega)] at h2
  exact h2
theorem boot_ve:bootBuiltins "ValueError" = some (.type "ValueError"):=by decide +kernel
inductive Lf:V→PyData→Prop
  | non:Lf .non .none
  | bl (b):Lf (.bl b) (.bool b)
  | int (i):Lf (.int i) (.int i)
  | str (x):Lf (.str x) (.str x)
inductive LfAll:List (Str×V)→List (PyData×PyData)→Prop
  | nil:LfAll [] []
  | cons {x v d ks kvs}:Lf v d→LfAll ks kvs→LfAll ((x,v)::ks) ((.str x,d)::kvs)
section
variable {X:Cx} {pins:List (Addr×Obj)} {σ:St} {H:Hp} {s:Shared}
end
structure Sml (k n:Nat) (d:PyData):Prop where
  sh:d.showable=true
  dp:d.depth≤k
  ln:d.shown.length≤n
theorem FnOk.or {P:Program} {w:World} {K:PySem.W.Frag} {mg:Str→Option Value} {base:Heap} {CX:CXT} {k:Nat} {f:Addr} {fd:FuncData} {ps:List Str} {sp sp':Sp} (F:FnOk P w K mg base CX k f fd ps sp) (F':FnOk P w K mg base CX k f fd ps sp') :
    FnOk P w K mg base CX k f fd ps (fun vs H Q E=>sp vs H Q E∨sp' vs H Q E):=
  ⟨fun vs H Q E h=>h.elim (F.len vs H Q E) (F'.len vs H Q E),fun A outer s H args us vs Q E hr he hb hv h=>h.elim (F.run A outer s H args us vs Q E hr he hb hv) (F'.run A outer s H args us vs Q E hr he hb hv)⟩
end L2
namespace L2
open PySem PySem.Spec
section
variable {σ:St} {H:Hp} {p:Addr}
variable {φ:PyData→Prop}
structure big (t:TE) (σ:St) (H:Hp) (Q:VK):Prop where
  out:t σ H Q
theorem pe_big {X:Cx} {e:Expr} {t:TE} (h:PE X e t):PE X e (big t):=PE.mono h fun h=>h.out
end
end L2
namespace L2
open PySem PySem.Spec PyProof.Rows
section
variable {X:Cx}
def fMakeS (C:Addr) (sp:Sp) (R:St→Addr→Option Addr→Hp→Prop) (t:TA):TE:=fun σ H Q=>t σ H fun vs H1=>∀x dx,H1 x=none→H1 dx=none→dx≠x→tSp sp (.ref x::vs) (upd (upd H1 dx (.own x)) x (.ins C dx [])) (fun v H2=>v = .non∧Q (.ref x) H2) ⟨0⟩ (fun v od H'=>∃D,v = .ref D∧R σ D od H')
@[simp ↓] theorem fMakeS_w C sp R t σ H Q:fMakeS C sp R t σ H Q=t σ H fun vs H1=>∀x dx,H1 x=none→H1 dx=none→dx≠x→tSp sp (.ref x::vs) (upd (upd H1 dx (.own x)) x (.ins C dx [])) (fun v H2=>v = .non∧Q (.ref x) H2) ⟨0⟩ (fun v od H'=>∃D,v = .ref D∧R σ D od H'):=rfl
theorem pe_makeS {k:Nat} {f C:Addr} {fd:FuncData} {ps:List Str} {sp:Sp} {x:Str} {p pos:Pos} {e:Expr} {es:List Expr} {t:TA} {pn:List (Addr×Obj)} {xe:Value→Shared→Prop} {R:St→Addr→Option Addr→Hp→Prop}
    (hx:Takes X pn xe R) (hex:X.ex=[]) (M:Mk X.K C f) (F:FnOk X.prog X.w X.K X.mg X.base (CXe X.prog X.w) k f fd ps sp) (hr:Room (k+1) X.A) (hg:Gl X x) (hm:X.mg x=some (.ref C)) (hb:Binds X.K fd ps [])
    (ha:PA (X.tried pn xe) (e::es) t) (hdb:(x == ("__debug__" : Str))=false:=by decide) (he:starEach (e::es) X.env=(false,eval e X.env)::starEach es X.env:=by rfl) (hpl:(backTo pos (starEach es X.env)).any (·.1)=false:=by rfl) :
    PE (X.tried pn xe) (.Call (.Name x p) (e::es) [] pos) (fMakeS C sp R t):=by
  intro pins s σ H Q I h
  refine wpAny_Call_Name_kw (ld_glob I hg hm ?_ hdb)
  refine PySem.W.callWith_K (h₀:=X.base) I.ok.mod.kin M.kp (thn (ha pos pins s σ H _ I h) fun us s1 zz=>?_) he hpl
  obtain ⟨vs,H1,I1,r,q⟩:=zz
  refine ⟨I1.kIn,?_⟩
  have hq:=q (s1.heap.objs.size+1) s1.heap.objs.size (I1.hok.fresh (Nat.le_succ _)) (I1.hok.fresh (Nat.le_refl _)) (Nat.ne_of_lt (Nat.lt_succ_self _))
  have I2:=Inv.made (C:=C) I1
  have r2:Vals (V.ref (s1.heap.objs.size+1)::vs) (Value.ref (s1.heap.objs.size+1)::us):=.cons rfl r
  have hl:(Value.ref (s1.heap.objs.size+1)::us).length=ps.length:=by rw [← r2.length];exact F.len _ _ _ _ hq
  have hbd:=hb _ (Value.ref (s1.heap.objs.size+1)::us) I2.kIn (by rw [List.append_nil];exact hl)
  rw [List.append_nil] at hbd
  refine wpAny_call (make_map (f:=f) I1.kIn M.makes M.init (beq_iff_eq.mp M.fn) (codeAny_mono (F.run _ X.stack _ _ ⟨Value.ref (s1.heap.objs.size+1)::us,[]⟩ (Value.ref (s1.heap.objs.size+1)::us) _ _ _ (hr.make C us []) (I2.env0.make C us []) hbd r2 hq) fun rr s' hq'=>?_))
  cases rr with
  | error e=>
    obtain ⟨a,D,od,H',rfl,ho,hgn,un,hok,⟨T,ex⟩,D',e2,hR⟩:=hq'
    cases e2
    have I':Inv (X.tried pn xe) pins σ H' s':=I2.call' (ch:=[]) ho un hok hgn fun b z=>(nomatch z)
    have old:∀b,_→X.s₀.heap.get? b=none:=fun b z=>I2.old hex z
    refine hx pins σ H' s' a D od T I' ⟨old _ ex.new,old _ ex.newT,ex.un,ex.unT,ex.ob⟩ (fun p hp=>?_) hR
    have e1:=(I2.pin p (List.mem_append_left _ hp)).1
    exact ⟨fun z=>(by rw [z,ex.new] at e1;cases e1),fun z=>(by rw [z,ex.newT] at e1;cases e1)⟩
  | ok fl=>
    cases fl with
    | ret u=>
      obtain ⟨v,H',I3,rv,ev,q3⟩:=I2.after hq'
      subst ev
      exact ⟨rv,⟨V.ref (s1.heap.objs.size+1),H',I3,rfl,q3⟩⟩
    | next=>exact False.elim hq'
    | brk=>exact False.elim hq'
    | cont=>exact False.elim hq'
end
section
variable {X:Cx} {K:PySem.W.Frag}
end
section
variable {X:Cx} {K:PySem.W.Frag}
end
def keyD:Key→PyData
  | .inl i=>.int i
  | .inr x=>.str x
inductive LfT:List (List Key×V)→List (PyData×PyData)→Prop
  | nil:LfT [] []
  | cons {k v d ks kvs}:Lf v d→LfT ks kvs→LfT ((k,v)::ks) ((.tuple (k.map keyD),d)::kvs)
def DicX (H:Hp) (a:Addr) (kvs:List (PyData×PyData)):Prop:=(∃ks,LfAll ks kvs∧H a=some (.dK (ks.map fun e=>((Sum.inr e.1:Key),e.2))))∨∃ks,LfT ks kvs∧H a=some (.dT ks)
theorem DicX.same {H H':Hp} {a:Addr} {kvs:List (PyData×PyData)} (s:Same H H') (h:DicX H a kvs):DicX H' a kvs:=by
  rcases h with ⟨ks,h1,h2⟩ | ⟨ks,h1,h2⟩
  ·exact .inl ⟨ks,h1,s _ _ h2⟩
  ·exact .inr ⟨ks,h1,s _ _ h2⟩
mutual
def ThgX (H:Hp):PyData→V→Prop
  | .none,v=>v = .non
  | .bool b,v=>v = .bl b
  | .int i,v=>v = .int i
  | .str x,v=>v = .str x
  | .list ds,v=>∃a xs,v = .ref a∧H a=some (.lst xs)∧ThgXAll H ds xs
  | .tuple ds,v=>∃a xs,v = .ref a∧H a=some (.tup xs)∧ThgXAll H ds xs
  | .dict kvs,v=>∃a,v = .ref a∧DicX H a kvs
def ThgXAll (H:Hp):List PyData→List V→Prop
  | [],vs=>vs=[]
  | d::ds,vs=>∃v r,vs=v::r∧ThgX H d v∧ThgXAll H ds r
end
mutual
theorem ThgX.same {H H':Hp} (s:Same H H'):∀(d:PyData) (v:V),ThgX H d v→ThgX H' d v
  | .none,v,h=>by simp only [ThgX] at h ⊢;exact h
  | .bool b,v,h=>by simp only [ThgX] at h ⊢;exact h
  | .int i,v,h=>by simp only [ThgX] at h ⊢;exact h
  | .str x,v,h=>by simp only [ThgX] at h ⊢;exact h
  | .list ds,v,h=>by
    simp only [ThgX] at h ⊢
    obtain ⟨a,xs,e,h1,h2⟩:=h
    exact ⟨a,xs,e,s _ _ h1,ThgXAll.same s ds xs h2⟩
  | .tuple ds,v,h=>by
    simp only [ThgX] at h ⊢
    obtain ⟨a,xs,e,h1,h2⟩:=h
    exact ⟨a,xs,e,s _ _ h1,ThgXAll.same s ds xs h2⟩
  | .dict kvs,v,h=>by
    simp only [ThgX] at h ⊢
    obtain ⟨a,e,h1⟩:=h
    exact ⟨a,e,h1.same s⟩
theorem ThgXAll.same {H H':Hp} (s:Same H H'):∀(ds:List PyData) (vs:List V),ThgXAll H ds vs→ThgXAll H' ds vs
  | [],vs,h=>by simp only [ThgXAll] at h ⊢;exact h
  | d::ds,vs,h=>by
    simp only [ThgXAll] at h ⊢
    obtain ⟨v,r,e,h1,h2⟩:=h
    exact ⟨v,r,e,ThgX.same s d v h1,ThgXAll.same s ds r h2⟩
end
theorem ThgXAll.length {H:Hp}:∀{ds:List PyData} {xs:List V},ThgXAll H ds xs→ds.length=xs.length
  | [],_,h=>by simp only [ThgXAll] at h;subst h;rfl
  | d::ds,_,h=>by
    simp only [ThgXAll] at h
    obtain ⟨v,r,rfl,h1,h2⟩:=h
    simp [ThgXAll.length h2]
theorem ThgXAll.at {H:Hp}:∀{ds:List PyData} {xs:List V} {i:Nat} {v:V},ThgXAll H ds xs→xs[i]? = some v→∃d,ds[i]? = some d∧ThgX H d v
  | [],_,i,v,h,e=>by simp only [ThgXAll] at h;subst h;simp at e
  | d::ds,_,0,v,h,e=>by
    simp only [ThgXAll] at h
    obtain ⟨w,r,rfl,h1,h2⟩:=h
    simp at e
    subst e
    exact ⟨d,rfl,h1⟩
  | d::ds,_,i+1,v,h,e=>by
    simp only [ThgXAll] at h
    obtain ⟨w,r,rfl,h1,h2⟩:=h
    obtain ⟨c,h3,h4⟩:=ThgXAll.at (i:=i) h2 (by simpa using e)
    exact ⟨c,by simpa using h3,h4⟩
section
variable {X:Cx} {pins:List (Addr×Obj)} {σ:St} {H:Hp} {s:Shared}
end
section
variable {X:Cx}
def fSlS:V→Option Int→Option Int→Hp→VK→Prop:=fun x lo hi H Q=>isStr x fun z=>z.length≤sizeLine∧Q (.str (Txt.slice z lo hi)) H
@[simp ↓] theorem fSlS_w x lo hi H Q:fSlS x lo hi H Q=(isStr x fun z=>z.length≤sizeLine∧Q (.str (Txt.slice z lo hi)) H):=rfl
theorem fsl_str:SlR X fSlS:=by
  intro pins s σ H x v vl vu lo hi sl Q I rx hs pl pu h
  obtain ⟨z,rfl,hz,q⟩:=isStr.out h
  obtain ⟨t,rfl⟩:=rx
  have fin:∀{lo hi:Option Int},Q (.str (Txt.slice z lo hi)) H→(Txt.slice z lo hi).length≤sizeLine∧∀t' k,EP X pins σ Q (.str (Txt.slice z lo hi) t') {s with toks:=k}:=fun q=>
    ⟨Nat.le_trans (Txt.slice_le z _ _) hz,fun t' k=>⟨.str _,H,I.kept (t':=k) fun _ _ e=>e,⟨_,rfl⟩,q⟩⟩
  refine ⟨"str",_,PySem.F.slot_str_getitem.lookup,typeIs_str _ _ _,?_⟩
  cases pl with
  | none=>
    cases pu with
    | none=>exact wpAny_getItem_str_slice (l:=none) (u:=none) (st:=none) hs rfl (post_val_or_str (fin q))
    | int j uj=>exact wpAny_getItem_str_slice (l:=none) (u:=some (j,uj)) (st:=none) hs rfl (post_val_or_str (fin q))
  | int i ui=>
    cases pu with
    | none=>exact wpAny_getItem_str_slice (l:=some (i,ui)) (u:=none) (st:=none) hs rfl (post_val_or_str (fin q))
    | int j uj=>exact wpAny_getItem_str_slice (l:=some (i,ui)) (u:=some (j,uj)) (st:=none) hs rfl (post_val_or_str (fin q))
end
theorem strValues_vals:∀l:List (Str×Tok),Vals ((l.map (·.1)).map V.str) (strValues l)
  | []=>.nil
  | (x,t)::l=>.cons ⟨t,rfl⟩ (strValues_vals l)
section
variable {prog:Program} {w:World} {A:Around} {E:Value→Shared→Prop} {s:Shared} {x y:Str} {t u:Tok} {Q:Value→Shared→Prop}
open Builtin Builtin.Str
theorem split1H (hy:(y.length == 0)=false)
    (hq:∀l tk,l.map (·.1)=Txt.split x y→Q (.ref s.heap.objs.size) {s with heap:=s.heap.push {cls:=.type "list",data:=.seq (strValues l).toArray},toks:=tk})
    (hsz:x.length≤sizeLine) (hsz2:(partsBetween x (occurrences x y 0 x.length (x.length+1)) y.length).length≤sizeLine) :
    wpAny (model prog w) A (call (.builtin "str.split") [.str x t,.str y u]) Q E s:=by
  cases h1:(decide (x.length<y.length) || decide (strKind x<strKind y))
  · cases hf:(occurrences x y 0 x.length (x.length+1)).isEmpty
    · refine call_meets F.slot_str_split (typeIs_str _ _ _) F.entry_str_split (F.args_str_split_2 _ _) (meets_str_split_sep x y t u h1 hy hf hsz hsz2) ?_
      show wants Q E _ {s with toks:=_,heap:=s.heap.push {cls:=.type "list",data:=.seq (strsFrom s.toks (partsBetween x (occurrences x y 0 x.length (x.length+1)) y.length)).toArray}}
      rw [strsFrom_eq]
      exact hq (numbered s.toks _) _ ((numbered_texts _ _).trans ((if_neg (ne_true_of_eq_false h1)).trans (if_neg (ne_true_of_eq_false hf))).symm)
    · exact call_meets F.slot_str_split (typeIs_str _ _ _) F.entry_str_split (F.args_str_split_2 _ _) (meets_str_split_not_found x y t u h1 hy hf)
        (hq [(x,t)] s.toks ((if_neg (ne_true_of_eq_false h1)).trans (if_pos hf)).symm)
  · exact call_meets F.slot_str_split (typeIs_str _ _ _) F.entry_str_split (F.args_str_split_2 _ _) (meets_str_split_cannot_occur x y t u h1)
      (hq [(x,t)] s.toks (if_pos h1).symm)
end
section
variable {X:Cx}
def fSplit:V→List V→Hp→VK→Prop:=fun x vs H Q=>isStr x fun z=>ar1 vs fun v=>isStr v fun y=>(y.length == 0)=false∧z.length+2≤sizeLine∧∀p,H p=none→Q (.ref p) (upd H p (.lst ((Txt.split z y).map V.str)))
@[simp ↓] theorem fSplit_w x vs H Q:fSplit x vs H Q=(isStr x fun z=>ar1 vs fun v=>isStr v fun y=>(y.length == 0)=false∧z.length+2≤sizeLine∧∀p,H p=none→Q (.ref p) (upd H p (.lst ((Txt.split z y).map V.str)))):=rfl
theorem parts_few (x y:Str) (hy:(y.length == 0)=false):(Builtin.Str.partsBetween x (Builtin.Str.occurrences x y 0 x.length (x.length+1)) y.length).length≤x.length+2∧(Txt.split x y).length≤x.length+1:=by
  have hy1:1≤y.length:=by
    have:¬y.length=0:=by simpa using hy
    omega
  refine ⟨?_,?_⟩
  · have e1:=StrLaws.occ_length_le x y 0 x.length (x.length+1)
    rw [PySem.length_partsBetween]
    omega
  · have:=split_weight x y hy1
    omega
theorem fmt_split:MtR X "str.split" fSplit:=by
  intro pins s σ H x xs v us Q I rx rs q
  obtain ⟨z,rfl,q1⟩:=isStr.out q
  obtain ⟨v',rfl,q2⟩:=ar1.out q1
  obtain ⟨y,rfl,hy,hz,q3⟩:=isStr.out q2
  obtain ⟨u,rfl,ru⟩:=rs.one
  obtain ⟨t',rfl⟩:=ru
  obtain ⟨t,rfl⟩:=rx
  obtain ⟨hp1,hp2⟩:=parts_few z y hy
  refine split1H hy (fun l tk hl=>?_) (by omega) (by omega)
  have hf:H s.heap.objs.size=none:=I.hok.fresh (Nat.le_refl _)
  refine ⟨.ref s.heap.objs.size,upd H s.heap.objs.size (.lst ((Txt.split z y).map V.str)),I.laid (t':=tk) (fun b u e=>Heap.get?_push_of_some _ e) (Nat.le_refl _) ?_,rfl,q3 _ hf⟩
  have hr:=strValues_vals l
  rw [hl] at hr
  exact ⟨by simp;omega,strValues l,0,hr,Heap.get?_push_size _ rfl⟩
def fPartition:V→List V→Hp→VK→Prop:=fun x vs H Q=>isStr x fun z=>ar1 vs fun v=>isStr v fun y=>(y.length == 0)=false∧z.length≤sizeLine∧∀p,H p=none→Q (.ref p) (upd H p (.tup [.str (Txt.partition z y).1,.str (Txt.partition z y).2.1,.str (Txt.partition z y).2.2]))
@[simp ↓] theorem fPartition_w x vs H Q:fPartition x vs H Q=(isStr x fun z=>ar1 vs fun v=>isStr v fun y=>(y.length == 0)=false∧z.length≤sizeLine∧∀p,H p=none→Q (.ref p) (upd H p (.tup [.str (Txt.partition z y).1,.str (Txt.partition z y).2.1,.str (Txt.partition z y).2.2]))):=rfl
theorem fmt_partition:MtR X "str.partition" fPartition:=by
  intro pins s σ H x xs v us Q I rx rs q
  obtain ⟨z,rfl,q1⟩:=isStr.out q
  obtain ⟨v',rfl,q2⟩:=ar1.out q1
  obtain ⟨y,rfl,hy,hz,q3⟩:=isStr.out q2
  obtain ⟨u,rfl,ru⟩:=rs.one
  obtain ⟨t',rfl⟩:=ru
  obtain ⟨t,rfl⟩:=rx
  have hf:H s.heap.objs.size=none:=I.hok.fresh (Nat.le_refl _)
  have fin:∀(a b c:Str) (ta tb tc tk:Nat),(a,b,c)=Txt.partition z y→EP X pins σ Q (.ref s.heap.objs.size) {s with heap:=s.heap.push {cls:=.type "tuple",data:=.seq #[.str a ta,.str b tb,.str c tc]},toks:=tk}:=by
    intro a b c ta tb tc tk e
    have q4:=q3 _ hf
    rw [← e] at q4
    refine ⟨.ref s.heap.objs.size,_,I.laid (t':=tk) (fun b u e=>Heap.get?_push_of_some _ e) (Nat.le_refl _) ?_,rfl,q4⟩
    exact ⟨by simp,[.str a ta,.str b tb,.str c tc],.cons ⟨_,rfl⟩ (.cons ⟨_,rfl⟩ (.cons ⟨_,rfl⟩ .nil)),⟨_,Heap.get?_push_size _ rfl,rfl,_,rfl⟩⟩
  refine call_meets F.slot_str_partition (typeIs_str _ _ _) F.entry_str_partition (F.args_str_partition_2 _ _) (meets_str_partition z y t t' hy hz) ?_
  have h':=fin
  unfold Txt.partition at h'
  revert h'
  cases Builtin.Str.occurrences z y 0 z.length 1 with
  | nil=>intro h';exact h' _ _ _ _ _ _ _ rfl
  | cons i r=>intro h';exact h' _ _ _ _ _ _ _ rfl
def tParts:List TE→St→Hp→Str→(Str→Hp→Prop)→Prop
  | [],_,H,acc,Q=>Q acc H
  | t::r,σ,H,acc,Q=>t σ H fun x H1=>isStr x fun y=>y.length≤sizeLine∧(acc++y).length≤sizeLine∧tParts r σ H1 (acc++y) Q
@[simp ↓] theorem tParts_n σ H acc Q:tParts [] σ H acc Q=Q acc H:=rfl
@[simp ↓] theorem tParts_c t r σ H acc Q:tParts (t::r) σ H acc Q=(t σ H fun x H1=>isStr x fun y=>y.length≤sizeLine∧(acc++y).length≤sizeLine∧tParts r σ H1 (acc++y) Q):=rfl
def fJoined (ts:List TE):TE:=fun σ H Q=>tParts ts σ H Str.empty fun z H1=>z.length≤sizeLine∧Q (.str z) H1
@[simp ↓] theorem fJoined_w ts σ H Q:fJoined ts σ H Q=(tParts ts σ H Str.empty fun z H1=>z.length≤sizeLine∧Q (.str z) H1):=rfl
def PF (X:Cx) (e:Expr) (t:TE):Prop:=∀(pins:List (Addr×Obj)) (s:Shared) (σ:St) (H:Hp) (Q:Str→Hp→Prop),Inv X pins σ H s→(t σ H fun x H1=>isStr x fun y=>y.length≤sizeLine∧Q y H1)→
  wpAny (model X.prog X.w) X.A (eval e X.env) (fun v s1=>∃y tk H1,v = .str y tk∧Inv X pins σ H1 s1∧Q y H1) X.xe s
theorem pf_lit {e:Expr} {t:TE} (h:PE X e t):PF X e t:=fun pins s σ H Q I hq=>
  thn (h pins s σ H _ I hq) fun v s1 ⟨x,H1,I1,r,q⟩=>by
    obtain ⟨y,rfl,_,q2⟩:=isStr.out q
    obtain ⟨tk,rfl⟩:=r
    exact ⟨y,tk,H1,rfl,I1,q2⟩
theorem pf_val {e:Expr} {pos:Pos} {t:TE} (h:PE X e t):PF X (.FormattedValue e (-1) none pos) t:=fun pins s σ H Q I hq=>
  wpAny_FormattedValue_plain (thn (h pins s σ H _ I hq) fun v s1 ⟨x,H1,I1,r,q⟩=>by
    obtain ⟨y,rfl,hy,q2⟩:=isStr.out q
    obtain ⟨tk,rfl⟩:=r
    exact wpAny_formatField_str ⟨y,_,H1,rfl,I1,q2⟩ ⟨y,_,H1,rfl,I1.tok _,q2⟩ hy)
inductive PFs (X:Cx):List Expr→List TE→Prop where
  | nil:PFs X [] []
  | cons {e:Expr} {es:List Expr} {t:TE} {ts:List TE}:PF X e t→PFs X es ts→PFs X (e::es) (t::ts)
theorem PFs.joins {es:List Expr} {ts:List TE} (h:PFs X es ts):∀(pins:List (Addr×Obj)) (s:Shared) (σ:St) (H:Hp) (acc:Str) (Q:Str→Hp→Prop) (R:Str→Shared→Prop),Inv X pins σ H s→tParts ts σ H acc Q→
    (∀out s1 H1,Inv X pins σ H1 s1→Q out H1→R out s1)→Joins (model X.prog X.w) X.A X.xe (evalEach es X.env) acc R s:=by
  induction h with
  | nil=>exact fun pins s σ H acc Q R I hq hR=>hR _ _ _ I hq
  | @cons e es t ts h hs ih=>
    intro pins s σ H acc Q R I hq hR
    show wpAny _ _ (eval e X.env) _ _ s
    refine wpAny_mono (h pins s σ H (fun y H1=>(acc++y).length≤sizeLine∧tParts ts σ H1 (acc++y) Q) I hq) (fun v s1 ⟨y,tk,H1,e1,I1,hl,q⟩=>⟨y,tk,e1,hl,ih pins s1 σ H1 _ Q R I1 q hR⟩) fun _ _ z=>z
theorem pe_joined {v₁ v₂:Expr} {rest:List Expr} {pos:Pos} {ts:List TE} (h:PFs X (v₁::v₂::rest) ts):PE X (.JoinedStr (v₁::v₂::rest) pos) (fJoined ts):=by
  intro pins s σ H Q I hq
  refine wpAny_JoinedStr (h.joins pins s σ H Str.empty _ _ I hq fun out s1 H1 I1 q=>?_)
  exact ⟨q.1,.str out,H1,I1.tok _,⟨_,rfl⟩,q.2⟩
end
end L2
namespace L2
open PySem PyProof.Rows
theorem strExt {a b:Str} (h:a.cps.toList=b.cps.toList):a=b:=Str.ext' (Array.toList_inj.mp h)
theorem cps_app (a b:Str):(a++b).cps.toList=a.cps.toList++b.cps.toList:=by
  show (a.cps++b.cps).toList=_
  simp
theorem join_two (sep x y:Str) (r:List Str):Str.join sep (x::y::r)=x++sep++Str.join sep (y::r):=rfl
theorem split_ne (x y:Str):Txt.split x y≠[]:=by
  unfold Txt.split
  split
  ·simp
  · split
    ·simp
    · intro h
      have:=congrArg List.length h
      rw [PySem.length_partsBetween] at this
      simp at this
def sp32:Str:=Str.ofString " "
def dash:Str:=Str.ofString "-"
def semi:Str:=Str.ofString "; "
def tieText (e:Str×Str):Str:=e.1++dash++e.2
def webText (xs:List Str) (ps:List (Str×Str)):Str:=if ps=[] then Txt.join sp32 xs else Txt.join sp32 xs++semi++Txt.join sp32 (ps.map tieText)
end L2
namespace L2
open PySem PySem.Spec PyProof.Rows
section
variable {X:Cx} {e:Expr} {es:List Expr} {te:TE} {t:TA}
structure PAq (X:Cx) (es:List Expr) (t:TA):Prop where
  out:PA X es t
theorem star_cons {env:Env} (h:∀a b,e≠.Starred a b):starEach (e::es) env=(false,eval e env)::starEach es env:=by
  cases e <;> first | rfl | exact absurd rfl (h _ _)
theorem paq_nil:PAq X [] tNil:=⟨pa_nil⟩
theorem paq_cons (ha:PE X e te) (hr:PAq X es t) (hn:∀a b,e≠.Starred a b:=by (intro _ _ h;cases h)):PAq X (e::es) (tCons te t):=⟨pa_cons ha hr.out (star_cons hn)⟩
end
structure PEq (X:Cx) (e:Expr) (te:TE):Prop where
  out:PE X e te
theorem peq_lst {X:Cx} {es:List Expr} {t:TA} {pos:Pos} (h:PAq X es t):PEq X (.List es pos) (tLst t):=⟨pe_lst h.out⟩
structure PSq (X:Cx) (st:Stmt) (t:TS):Prop where
  out:PS X st t
structure PSsq (X:Cx) (st:List Stmt) (t:TS):Prop where
  out:PSs X st t
section
variable {X:Cx} {st:Stmt} {rest:List Stmt} {t u:TS} {e a b:Expr} {te ta tb:TE} {pos:Pos}
theorem pssq_cons (h1:PSq X st t) (h2:PSsq X rest u):PSsq X (st::rest) (tSeq t u):=⟨pss_cons h1.out h2.out⟩
theorem psq_if {c:Expr} {p q:List Stmt} {tc:TT} (hc:PT X c tc) (ha:PSsq X p t) (hb:PSsq X q u):PSq X (.If c p q pos) (tIfS tc t u):=⟨ps_if hc ha.out hb.out⟩
theorem psq_set {i:Nat} {x:Str} {pos':Pos} (hN:X.N.Nodup) (hi:X.N[i]? = some x) (hx:Loc X.env.scope x) (he:PEq X e te) (hs:swapsWith e (some (.Name x pos')) pos.line X.env=pure false:=by rfl) (hf:X.fn x=true∨X.env.scope.names.lookup x=some .local:=by first | exact .inl rfl | exact .inr rfl | assumption) :
    PSq X (.Assign [.Name x pos'] e pos) (tAsg te (gName i)):=⟨ps_set hN hi hx he.out hs hf⟩
theorem peq_op {op:Operator} {r:R2} (ho:OpR X (binaryOp op) r) (ha:PEq X a ta) (hb:PEq X b tb):PEq X (.BinOp a op b pos) (tOp r ta tb):=⟨pe_op ho ha.out hb.out⟩
theorem peq_big (h:PEq X e te):PEq X e (big te):=⟨pe_big h.out⟩
end
section
variable {X:Cx} {ps sc:Scope} {own pN:List Str} {caps:List Nat} {N:List Str} {C:Addr} {s s':Shared} {H H':Hp} {fp:List Addr} {pn pins':List (Addr×Obj)} {xe:Value→Shared→Prop} {σ':St}
variable {elt tg iter:Expr} {ifs:List Expr} {pos:Pos} {wi:TI} {g:TG} {tt:TT} {te:TE} {E:XK}
end
end L2
namespace L2
open PySem PySem.Spec PySem.W PyProof.Rows
section
variable {prog:Program} {w:World} {A:Around} {E:Value→Shared→Prop} {K:PySem.W.Frag} {h:Heap} {g:Array GenState} {d:Drawn} {t:Nat} {os:OsState}
variable {nm q:Str} {C N:Addr} {bs bm:List Value} {hdct:Bool} {sn:List Str} {sub:List Value} {ab:Bool} {col:Option Bool} {dd:Option Addr} {k0 k1 k2 k3 k5:Option Value}
structure ExcGet (K:PySem.W.Frag) (C:Addr):Prop where
  ga:findIn K (.ref C) "__getattribute__" = some (some (.builtin "BaseException.__getattribute__"))
  gn:findIn K (.ref C) "__getattr__" = some none
  mb:mroIn K C (.type "BaseException")=some true
  hd:hasDictIn K C=true
structure ExcSet (K:PySem.W.Frag) (C PE:Addr):Prop where
  sa:findIn K (.ref C) "__setattr__" = some (some (.builtin "object.__setattr__"))
  mo:mroIn K C (.type "object")=some true
  cl:∃cd,clsIn K C=some cd∧cd.mro = .ref C::.ref PE::veMro∧cd.hasDict=true
end
end L2
namespace L2
open PySem PySem.Spec PyProof.Rows
structure XMk (K:PySem.W.Frag) (C B f:Addr):Prop where
  ob:∃nm q N bs hdct sn sub ab col dd k0 k1 k2 k3 k5,K.lookup C=some (excClassObj nm q C N bs (.ref B::veMro) hdct sn sub ab col dd k0 k1 k2 k3 k5 "ValueError.__new__")
  pe:ExcCls K B
  pm:∃cd,PySem.W.clsIn K B=some cd∧cd.mro = .ref B::veMro
  init:PySem.W.findIn K (.ref C) "__init__" = some (some (.ref f))
  fn:PySem.W.typeIn K (.ref f)=some (.type "function")
  kp:PySem.W.keepIn K (.ref C)=true
end L2
namespace L2
open PySem
theorem kit_self {K:PySem.W.Frag} {C:Addr}:PySem.W.kitOne K (.ref C) (.ref C)=some true:=by
  unfold PySem.W.kitOne
  simp
theorem kit_ref {K:PySem.W.Frag} {C D:Addr} {b:Bool} (ne:(C == D)=false) (i:PySem.W.isClsIn K D=true) (t:PySem.W.typeIn K (.ref D)=some (.type "type")) (s:PySem.W.subIn K (.ref C) (.ref D)=some b):PySem.W.kitOne K (.ref C) (.ref D)=some b:=by
  have i':(PySem.W.clsIn K D).isSome=true:=i
  have ne':C≠D:=by simpa using ne
  unfold PySem.W.kitOne PySem.W.kitCls
  rw [if_neg (by simpa using ne')]
  show (if _ then _ else _)=_
  rw [if_pos (by rw [i',t];rfl)]
  exact s
theorem kit_ve:PySem.W.kitMeta "ValueError" = true:=by decide +kernel
theorem kit_ty {K:PySem.W.Frag} {C:Addr} {T:String} {b:Bool} (m:PySem.W.kitMeta T=true) (s:PySem.W.subIn K (.ref C) (.type T)=some b):PySem.W.kitOne K (.ref C) (.type T)=some b:=by
  unfold PySem.W.kitOne PySem.W.kitCls
  rw [if_neg (by simp)]
  show (if _ then _ else _)=_
  rw [if_pos m]
  exact s
theorem ne_addr {C D:Addr} (h:(C == D)=false):C≠D:=by simpa using h
end L2
namespace L2
open PySem PySem.Spec PyProof.Rows PySem.SeqAt
structure XC (K:PySem.W.Frag) (C B:Addr):Prop where
  cl:∃cd,PySem.W.clsIn K C=some cd∧cd.mro = .ref C::.ref B::veMro∧cd.hasDict=true
  ty:PySem.W.typeIn K (.ref C)=some (.type "type")
  ga:PySem.W.findIn K (.ref C) "__getattribute__" = some (some (.builtin "BaseException.__getattribute__"))
  gn:PySem.W.findIn K (.ref C) "__getattr__" = some none
  gc:PySem.W.findIn K (.ref C) "__class__" = some (some (.builtin "object.__class__"))
  kp:PySem.W.keepIn K (.ref C)=true
section
variable {K:PySem.W.Frag} {C D B:Addr}
end
def ar3 (vs:List V) (R:V→V→V→Prop):Prop:=match vs with
  | [u,v,w]=>R u v w
  | _=>False
@[simp ↓] theorem ar3_w u v w R:ar3 [u,v,w] R=R u v w:=rfl
end L2
namespace L2
open PySem PySem.Spec PyProof.Rows
def arT (xs:List V) (R:V→V→V→Prop):Prop:=match xs with | [x,y,z]=>R x y z | _=>False
@[simp ↓] theorem arT_c x y z R:arT [x,y,z] R=R x y z:=rfl
section
variable {M:Model} {A:Around} {E:Value→Shared→Prop} {h:Heap} {g:Array GenState} {d:Drawn} {t:Nat} {os:OsState}
variable {nm q:Str} {C N:Addr} {bs bm:List Value} {hdct:Bool} {sn:List Str} {sub:List Value} {ab:Bool} {col:Option Bool} {dd:Option Addr} {k0 k1 k2 k3 k5:Option Value} {newId:String}
variable {nm' q':Str} {D N':Addr} {bs' bm':List Value} {hdct':Bool} {sn':List Str} {sub':List Value} {ab':Bool} {col':Option Bool} {dd':Option Addr} {j0 j1 j2 j3 j5:Option Value} {newId':String}
theorem exc_matchB {e:Addr} {oe:Obj} {b:Bool} {Q:Bool→Shared→Prop} (hC:h.get? C=some (excClassObj nm q C N bs bm hdct sn sub ab col dd k0 k1 k2 k3 k5 newId))
    (hD:h.get? D=some (excClassObj nm' q' D N' bs' bm' hdct' sn' sub' ab' col' dd' j0 j1 j2 j3 j5 newId')) (he:h.get? e=some oe) (hcls:oe.cls = .ref C) (hDB:(Value.ref D::bm').contains (.type "BaseException")=true) (hCD:(Value.ref C::bm).contains (.ref D)=b)
    (hq:Q b ⟨h,g,d,t,os⟩):wpAny M A (excMatches (.ref e) (.ref D)) Q E ⟨h,g,d,t,os⟩:=by
  have f:=tc_notTuple
  unfold excMatches
  cases b with
  | true=>
    repeat (first | (with_reducible refine wpAny_loadPart_at he ?_;rw [hcls]) | with_reducible refine wpAny_loadPart_at hD ?_ | (with_reducible refine wpAny_isSubtype_exc hD ?_;rw [hDB]) | (with_reducible refine wpAny_isSubtype_exc hC ?_;rw [hCD]) | wp_step)
    exact hq
  | false=>
    repeat (first | (with_reducible refine wpAny_loadPart_at he ?_;rw [hcls]) | with_reducible refine wpAny_loadPart_at hD ?_ | (with_reducible refine wpAny_isSubtype_exc hD ?_;rw [hDB]) | (with_reducible refine wpAny_isSubtype_exc hC ?_;rw [hCD]) | wp_step)
    exact hq
end
structure Clause (K:PySem.W.Frag) (D:Addr):Prop where
  ob:ExcOb K D
  be:PySem.W.mroIn K D (.type "BaseException")=some true
section
variable {prog:Program} {w:World} {A:Around} {E:Value→Shared→Prop} {s:Shared} {env:Env} {a:Addr}
theorem throw_c {α:Type} {e:Addr} {ox:Obj} {vs:Array Value} {Q:α→Shared→Prop} (hh:A.handled=some (.ref a)) (la:Lone a s.heap)
    (ex:s.heap.get? e=some ox) (dx:ox.data = .fields vs) (sz:2<vs.size) (ne:e≠a) (hE:E (.ref e) {s with heap:=s.heap.update e (Obj.mapFields (·.setIfInBounds 2 (.ref a)))}) :
    wpAny (model prog w) A (raiseNew (.ref e):Sem α) Q E s:=by
  obtain ⟨oa,us,ha,da,ua⟩:=la
  unfold raiseNew
  refine wpAny_bind (wpAny_handled ?_)
  rw [hh]
  dsimp only
  rw [if_pos (by simpa using Ne.symm ne)]
  refine wpAny_bind (wpAny_holding (wpAny_runValue (codeAny_builtin my_entry_unchain ?_)))
  unfold Builtin.«proto.unchain»
  refine wpAny_bind (wpAny_field ha da ua ?_)
  rw [if_pos (by rfl)]
  refine wpAny_bind (wpAny_pure (wpAny_pure ?_))
  show wpAny (model prog w) A (do updateField e 2 (.ref a);throw (.ref e)) Q E s
  refine wpAny_bind ?_
  unfold updateField
  refine wpAny_bind (wpAny_load ex ?_)
  rw [dx]
  dsimp only
  rw [if_pos sz]
  exact wpAny_update ex (wpAny_throw hE)
end
section
variable {prog:Program} {w:World} {A:Around} {E:Value→Shared→Prop} {env:Env} {a:Addr}
variable {nm q:Str} {C N:Addr} {bs bm bmB:List Value} {hdct:Bool} {sn:List Str} {sub:List Value} {ab:Bool} {col:Option Bool} {dd:Option Addr} {k0 k1 k2 k3 k5:Option Value} {B newId initId:String}
def RaisedC (h h':Heap) (e a:Addr) (C:Value):Prop:=(∀b o,b≠e→h.get? b=some o→h'.get? b=some o)∧∃oe vs,h'.get? e=some oe∧(oe.cls,oe.dict)=(C,none)∧oe.data = .fields vs∧vs[2]? = some (.ref a)∧vs[1]? = some .none
theorem raiseStmt_c {s:Shared} {x c:Sem Value} {Q:Flow→Shared→Prop} (hbase:bm.contains (.type "BaseException")=true) (hh:A.handled=some (.ref a))
    (h:wpAny (model prog w) A x (fun v s₁=>∃e t,v = .ref e∧e≠a∧Lone a s₁.heap∧s₁.heap.get? C=some (excClassObj nm q C N bs bm hdct sn sub ab col dd k0 k1 k2 k3 k5 newId)∧
      s₁.heap.get? e=some {cls:=.ref C,data:=.fields #[.ref t,.none,.none,.none,.bool false,.none]}∧wpAny (model prog w) A c (fun cv s₂=>cv = .none∧s₂=s₁) E s₁∧∀h',RaisedC s₁.heap h' e a (.ref C)→E (.ref e) {s₁ with heap:=h'}) E s) :
    wpAny (model prog w) A (raiseStmt env (some x) (some c)) Q E s:=by
  have hcB:(Value.ref C::bm).contains (.type "BaseException")=true:=by rw [List.contains_cons,hbase,Bool.or_true]
  unfold raiseStmt
  refine wpAny_bind (wpAny_mono h (fun v s₁ h₁=>?_) fun _ _ x=>x)
  obtain ⟨e,t,rfl,ne,la,hC,he,hc,hE⟩:=h₁
  refine wpAny_bind (wpAny_holding (wpAny_mono hc (fun cv s₂ h₂=>?_) fun _ _ x=>x))
  obtain ⟨rfl,rfl⟩:=h₂
  obtain ⟨hp,g,d,tk,os⟩:=s₂
  refine wpAny_bind (wpAny_pure ?_)
  have eC:e≠C:=fun z=>by
    subst z
    rw [hC] at he
    cases he
  repeat (first | with_reducible refine wpAny_loadPart_at he ?_ | with_reducible refine wpAny_loadPart_at hC ?_ | (with_reducible refine wpAny_isSubtype_exc hC ?_;rw [hcB]) | wp_step)
  have d1:=Obj.data_mapFields (o:={cls:=.ref C,data:=.fields #[.ref t,.none,.none,.none,.bool false,.none]}) rfl (·.setIfInBounds 3 Value.none)
  have he1:=Heap.get?_update_self (h:=hp) (f:=Obj.mapFields (·.setIfInBounds 3 Value.none)) he (Obj.isFreed_of_fields d1)
  have d2:=Obj.data_mapFields d1 (·.setIfInBounds 4 (Value.bool true))
  have he2:=Heap.get?_update_self (f:=Obj.mapFields (·.setIfInBounds 4 (Value.bool true))) he1 (Obj.isFreed_of_fields d2)
  have d3:=Obj.data_mapFields d2 (·.setIfInBounds 2 (Value.ref a))
  have he3:=Heap.get?_update_self (f:=Obj.mapFields (·.setIfInBounds 2 (Value.ref a))) he2 (Obj.isFreed_of_fields d3)
  have oth:∀b o,b≠e→hp.get? b=some o→(((hp.update e (Obj.mapFields fun x=>x.setIfInBounds 3 Value.none)).update e (Obj.mapFields fun x=>x.setIfInBounds 4 (Value.bool true))).update e (Obj.mapFields (·.setIfInBounds 2 (Value.ref a)))).get? b=some o:=fun b o nb z=>by
    rw [Heap.get?_update_other _ _ (Ne.symm nb),Heap.get?_update_other _ _ (Ne.symm nb),Heap.get?_update_other _ _ (Ne.symm nb)]
    exact z
  refine throw_c hh (la.to fun o z=>?_) he2 d2 (by simp) ne (hE _ ⟨oth,_,_,he3,?_,d3,?_,?_⟩)
  · show ((hp.update e _).update e _).get? a=some o
    rw [Heap.get?_update_other _ _ ne,Heap.get?_update_other _ _ ne]
    exact z
  ·simp only [Obj.cls_mapFields,dict_mapFields]
  ·simp
  ·simp
theorem wpAny_RaiseFrom {s:Shared} (F:ExcBaseFacts B newId initId bmB) {mN:Str→Option Value} {x:Str} {np cpos pos kp:Pos} {kk:Nat} {args:List Expr} {Q:Flow→Shared→Prop}
    (hbase:bm.contains (.type "BaseException")=true) (hh:A.handled=some (.ref a)) (hplain:(backTo cpos (starEach args env)).any (·.1)=false) (hni:mN "__init__" = none)
    (h:wpAny (model prog w) A (eval (.Name x np) env) (fun f s₁=>f = .ref C∧wpAny (model prog w) A (evalArgs (.ref C) true (backTo cpos (starEach args env)) [])
      (fun a' s₂=>a'.kw=[]∧a'.pos.length≤sizeLine∧s₂.heap.get? C=some (excClassObj nm q C N bs bm hdct sn sub ab col dd k0 k1 k2 k3 k5 newId)∧s₂.heap.Ns N mN∧OwnTail s₂.heap bmB bm∧Lone a s₂.heap∧
        ∀h' e,s₂.heap.get? e=none→RaisedC s₂.heap h' e a (.ref C)→E (.ref e) {s₂ with heap:=h'}) E s₁) E s) :
    wpAny (model prog w) A (exec (.Raise (some (.Call (.Name x np) args [] cpos)) (some (.Constant .none kk kp)) pos) env) Q E s:=by
  rw [arm_exec_Raise]
  simp only [evalOpt,Option.map]
  refine wpAny_bind (wpAny_standAt (raiseStmt_c (C:=C) (nm:=nm) (q:=q) (N:=N) (bs:=bs) (bm:=bm) (hdct:=hdct) (sn:=sn) (sub:=sub) (ab:=ab) (col:=col) (dd:=dd) (k0:=k0) (k1:=k1) (k2:=k2) (k3:=k3) (k5:=k5) (newId:=newId) hbase hh (wpAny_bind (wpAny_mono (wpAny_Call_ofName (wpAny_mono h (fun f s₁ h₁=>?_) fun _ _ x=>x)) (fun v s₃ h₃=>wpAny_bind (wpAny_standAt (wpAny_pure h₃))) fun _ _ x=>x))))
  obtain ⟨rfl,h₁⟩:=h₁
  unfold callWith
  refine wpAny_bind (wpAny_holding (wpAny_mono h₁ (fun a' s₂ h₂=>wpAny_bind (wpAny_standAt ?_)) fun _ _ x=>x))
  obtain ⟨apos,akw⟩:=a'
  obtain ⟨hkw,hlen,hC,hn,T,la,h₂⟩:=h₂
  obtain rfl:akw=[]:=hkw
  obtain ⟨hp,g,d,tk,os⟩:=s₂
  simp only [hplain]
  refine wpAny_bind (wpAny_keeperOf_exc hC ?_)
  refine wpAny_bind (wpAny_call_exc_subT (hrest:=hlen) F T hC hn hni fun h' e hm=>wpAny_bind (wpAny_holding (wpAny_point (wpAny_pure ?_))))
  obtain ⟨t,ht,_,_⟩:=hm.there
  have ea:e≠a:=fun z=>by
    obtain ⟨oa,_,y,_⟩:=la
    have:=hm.new
    rw [z,y] at this
    cases this
  refine ⟨e,t,rfl,ea,la.to fun o z=>hm.keeps _ _ z,hm.keeps _ _ hC,ht,?_,fun h'' rc=>h₂ h'' e hm.new ⟨fun b o nb z=>rc.1 b o nb (hm.keeps _ _ z),rc.2⟩⟩
  exact wpAny_bind (wpAny_Constant_none (wpAny_bind (wpAny_standAt (wpAny_pure ⟨rfl,rfl⟩))))
end
def TrcC (base h:Heap) (e:Addr) (cls:Value×Option Addr) (cv fl:Value) (T:Addr):Prop:=
  ∃oe vs oT ts,h.get? e=some oe∧(oe.cls,oe.dict)=cls∧oe.data = .fields vs∧vs[2]? = some cv∧vs[1]? = some (.ref T)∧base.get? T=none∧T≠e∧h.get? T=some oT∧oT.data = .fields ts∧ts[3]? = some fl
structure StnC (base:Heap) (l:List Env) (e:Addr) (cls:Value×Option Addr) (cv fl:Value) (h h':Heap):Prop where
  stays:base.StaysIn h'
  frames:h'.FunFrames base l
  trc:∃T,TrcC base h' e cls cv fl T
  slots:h.UpToSlots h'
section
variable {cv:Value} {M:Model} {A:Around} {E:Value→Shared→Prop} {s:Shared} {base:Heap} {env:Env} {outer l:List Env} {L e:Addr} {Q:Unit→Shared→Prop}
theorem entry_sC {oe:Obj} {vs:Array Value} {head:Value} {had:Bool} (fr:A.frames=some (env::outer)) (ff:s.heap.FunFrames base (env::outer)) (lf:env.frame=some L) (ee:s.heap.get? e=some oe)
    (st:base.StaysIn s.heap) (nb:base.get? e=none) (de:oe.data = .fields vs) (v2:vs[2]? = some cv) (hq:∀h',StnC base (env::outer) e (oe.cls,oe.dict) cv (rawInt L) s.heap h'→Q () {s with heap:=h'}) :
    wpAny M A (do let a ← frameOf env;let pl ← entryPlaceOf L had;let b ← EntryCells.newEntry head a .none (rawInt L) .none pl;setField (.ref e) 1 b) Q E s:=by
  have sz2:2<vs.size:=(Array.getElem?_eq_some_iff.mp v2).1
  have ne:e∉frs (env::outer):=fun z=>by
    obtain ⟨_,o,y,d⟩:=ff.mem z
    rw [ee] at y
    cases y
    exact d vs de
  refine wpAny_bind (wpAny_frameOf_fun fr ff lf fun g1 x1=>?_)
  refine wpAny_bind (wpAny_entryPlaceOf fun pl okp=>?_)
  unfold EntryCells.newEntry newFields
  refine wpAny_bind (wpAny_newObj_type ?_ (okp.sizeOk5 _ _ _ _ _))
  have e1:g1.get? e=some oe:=(x1.2.1 e ne).trans ee
  have st1:base.StaysIn g1:=fun b o z=>(x1.2.1 b fun y=>by rw [(ff.mem y).1] at z;cases z).trans (st b o z)
  generalize hR:({cls:=.type "traceback",dict:=none,data:=.fields ([head,.ref L,.none,rawInt L,.none]++(if pl.isEmpty then List.replicate 6 Value.none else pl)).toArray}:Obj)=R
  have dR:∃ts,R.data = .fields ts∧ts[3]? = some (rawInt L)∧R.isFreed=false:=by
    subst hR
    exact ⟨_,rfl,by simp,rfl⟩
  obtain ⟨ts,dR,tR,fR⟩:=dR
  have e2:=Heap.get?_push_of_some (h:=g1) R e1
  refine wpAny_setField e2 de (Nat.lt_of_succ_lt sz2) (hq _ ?_)
  have Te:g1.objs.size≠e:=Nat.ne_of_gt (Heap.lt_size e1)
  have keep:∀{b o},b≠e→g1.get? b=some o→((g1.push R).update e (Obj.mapFields (·.setIfInBounds 1 (Value.ref g1.objs.size)))).get? b=some o:=fun {b o} nb z=>by
    rw [Heap.get?_update_other _ _ (Ne.symm nb)]
    exact Heap.get?_push_of_some _ z
  have nr:∀{b o},s.heap.get? b=some o→(∀us,o.data≠.fields us)→b≠e:=fun {b o} z d y=>by
    rw [y,ee] at z
    cases z
    exact d vs de
  have d3:=Obj.data_mapFields de (·.setIfInBounds 1 (Value.ref g1.objs.size))
  refine ⟨fun b o z=>keep (fun y=>by rw [y,nb] at z;cases z) (st1 b o z),ff.of_keeps fun b o z d=>?_,⟨g1.objs.size,?_⟩,fun b o z d=>?_⟩
  · obtain ⟨sl,y⟩:=x1.2.2 b o z
    exact ⟨_,keep (nr z d) y,rfl⟩
  · refine ⟨_,_,R,ts,Heap.get?_update_self _ e2 (Obj.isFreed_of_fields d3),by rw [Obj.cls_mapFields,dict_mapFields],d3,?_,?_,st1.fresh,Te,?_,dR,tR⟩
    · rw [Array.getElem?_setIfInBounds_ne (by decide)]
      exact v2
    ·simp [Nat.lt_of_succ_lt sz2]
    · rw [Heap.get?_update_other _ _ (Ne.symm Te)]
      exact Heap.get?_push_size g1 fR
  · obtain ⟨sl,y⟩:=x1.2.2 b o z
    exact ⟨sl,keep (nr z d) y⟩
theorem note_firstC {oe:Obj} {vs:Array Value} (fr:A.frames=some (env::outer)) (ff:s.heap.FunFrames base (env::outer)) (lf:env.frame=some L) (ee:s.heap.get? e=some oe)
    (st:base.StaysIn s.heap) (nb:base.get? e=none) (de:oe.data = .fields vs) (v1:vs[1]? = some .none) (v2:vs[2]? = some cv) (hq:∀h',StnC base (env::outer) e (oe.cls,oe.dict) cv (rawInt L) s.heap h'→Q () {s with heap:=h'}) :
    wpAny M A (noteFrame (.ref e) env) Q E s:=by
  unfold noteFrame
  simp only [lf]
  refine wpAny_bind (wpAny_field ee de v1 ?_)
  rw [if_neg (by decide)]
  exact entry_sC fr ff lf ee st nb de v2 hq
theorem note_anyC {cls:Value×Option Addr} {fl:Value} {T:Addr} (fr:A.frames=some (env::outer)) (ff:s.heap.FunFrames base (env::outer)) (lf:env.frame=some L) (tr:TrcC base s.heap e cls cv fl T)
    (st:base.StaysIn s.heap) (nb:base.get? e=none) (hq:∀h',StnC base (env::outer) e cls cv (rawInt L) s.heap h'→Q () {s with heap:=h'}) :
    wpAny M A (noteFrame (.ref e) env) Q E s:=by
  obtain ⟨oe,vs,oT,ts,ee,rfl,de,v2,v1,nT,Te,eT,dT,t3⟩:=tr
  unfold noteFrame
  simp only [lf]
  refine wpAny_bind (wpAny_field ee de v1 ?_)
  rw [if_pos (by simp)]
  refine wpAny_bind (wpAny_field eT dT t3 ?_)
  by_cases hf:(fl == rawInt L)=true
  · rw [if_pos hf]
    have e3:fl=rawInt L:=by simpa using hf
    subst e3
    exact wpAny_pure (hq s.heap ⟨st,ff,⟨T,oe,vs,oT,ts,ee,rfl,de,v2,v1,nT,Te,eT,dT,t3⟩,fun b o z d=>⟨o.slots,z⟩⟩)
  rw [if_neg hf]
  refine wpAny_bind (wpAny_setField eT dT (Array.getElem?_eq_some_iff.mp t3).1 ?_)
  have oth:∀{b},b≠T→(s.heap.update T (Obj.mapFields (·.setIfInBounds 3 Value.none))).get? b=s.heap.get? b:=fun n=>Heap.get?_update_other _ _ (Ne.symm n)
  have nr:∀{b o},s.heap.get? b=some o→(∀us,o.data≠.fields us)→b≠T:=fun {b o} z d y=>by
    rw [y,eT] at z
    cases z
    exact d ts dT
  exact entry_sC (s:={s with heap:=s.heap.update T (Obj.mapFields (·.setIfInBounds 3 Value.none))}) fr (ff.of_keeps fun b o z d=>⟨o,(oth (nr z d)).trans z,rfl⟩) lf ((oth (Ne.symm Te)).trans ee) (fun b o z=>(oth fun y=>by rw [y,nT] at z;cases z).trans (st b o z)) nb de v2 fun h' x=>hq h' ⟨x.stays,x.frames,x.trc,fun b o z d=>x.slots b o ((oth (nr z d)).trans z) d⟩
theorem flight_sC {cls:Value×Option Addr} {fl:Value} {T:Addr} (ff:s.heap.FunFrames base l) (tr:TrcC base s.heap e cls cv fl T) (st:base.StaysIn s.heap) (hq:∀h',StnC base l e cls cv .none s.heap h'→Q () {s with heap:=h'}) :
    wpAny M A (setFlight (.ref e) none) Q E s:=by
  obtain ⟨oe,vs,oT,ts,ee,rfl,de,v2,v1,nT,Te,eT,dT,t3⟩:=tr
  have z3:3<ts.size:=(Array.getElem?_eq_some_iff.mp t3).1
  unfold setFlight
  refine wpAny_bind (wpAny_field ee de v1 ?_)
  rw [if_pos (by simp)]
  refine wpAny_setField eT dT z3 (hq _ ?_)
  have oth:∀{b} (f:Obj→Obj),b≠T→(s.heap.update T f).get? b=s.heap.get? b:=fun f n=>Heap.get?_update_other _ _ (Ne.symm n)
  have nr:∀{b o},s.heap.get? b=some o→(∀us,o.data≠.fields us)→b≠T:=fun {b o} z d y=>by
    rw [y,eT] at z
    cases z
    exact d ts dT
  refine ⟨fun b o z=>(oth _ fun y=>by rw [y,nT] at z;cases z).trans (st b o z),ff.of_keeps fun b o z d=>⟨o,(oth _ (nr z d)).trans z,rfl⟩,⟨T,oe,vs,_,_,(oth _ (Ne.symm Te)).trans ee,rfl,de,v2,v1,nT,Te,Heap.get?_update_self _ eT (Obj.isFreed_of_fields (Obj.data_mapFields dT _)),Obj.data_mapFields dT _,?_⟩,fun b o z d=>⟨o.slots,(oth _ (nr z d)).trans z⟩⟩
  simp [z3]
theorem leave_sC {cls:Value×Option Addr} (note:∀Q':Unit→Shared→Prop,(∀h',StnC base (env::outer) e cls cv (rawInt L) s.heap h'→Q' () {s with heap:=h'})→wpAny M A (noteFrame (.ref e) env) Q' E s)
    (hq:∀h',StnC base (env::outer) e cls cv .none s.heap h'→Q () {s with heap:=h'}):wpAny M A (leaving env (.ref e)) Q E s:=by
  unfold leaving
  refine wpAny_bind (note _ fun h1 x1=>?_)
  obtain ⟨T,tr⟩:=x1.trc
  exact flight_sC (s:={s with heap:=h1}) x1.frames tr x1.stays fun h2 x2=>hq h2 ⟨x2.stays,x2.frames,x2.trc,x1.slots.trans x2.slots⟩
end
def LoneC (a:Addr) (h:Heap):Prop:=∃oa us C,h.get? a=some oa∧oa.cls = .ref C∧oa.data = .fields us∧(us[2]? = some .none∨∃b ob ws D,us[2]? = some (.ref b)∧b≠a∧h.get? b=some ob∧ob.cls = .ref D∧ob.data = .fields ws∧ws[2]? = some .none)
theorem LoneC.to {a:Addr} {h h':Heap} (x:LoneC a h) (k:∀c o D,o.cls = .ref D→h.get? c=some o→h'.get? c=some o):LoneC a h':=by
  obtain ⟨oa,us,C,e,c,d,u⟩:=x
  refine ⟨oa,us,C,k _ _ _ c e,c,d,?_⟩
  rcases u with u | ⟨b,ob,ws,D,u1,u2,u3,u4,u5⟩
  ·exact .inl u
  ·exact .inr ⟨b,ob,ws,D,u1,u2,k _ _ _ u4 u3,u4,u5⟩
theorem ne_cls {h:Heap} {c it:Addr} {o oi:Obj} {D:Addr} {n:String} (z:h.get? c=some o) (hc:o.cls = .ref D) (ei:h.get? it=some oi) (ci:oi.cls = .type n):c≠it:=fun y=>by
  subst y
  rw [z] at ei
  cases ei
  rw [hc] at ci
  cases ci
section
variable {prog:Program} {w:World} {A:Around} {E:Value→Shared→Prop} {s:Shared} {a:Addr}
theorem throw_w {α:Type} {e:Addr} {ox:Obj} {vs:Array Value} {Q:α→Shared→Prop} (hh:A.handled=some (.ref a)) (la:LoneC a s.heap)
    (ex:s.heap.get? e=some ox) (dx:ox.data = .fields vs) (sz:2<vs.size) (ne:e≠a) (nc:∀D,ox.cls≠.ref D) (hE:∀h',Heap.SameBut e s.heap h'→(∃o',h'.get? e=some o'∧o'.cls=ox.cls)→E (.ref e) {s with heap:=h'}) :
    wpAny (model prog w) A (raiseNew (.ref e):Sem α) Q E s:=by
  obtain ⟨oa,us,Ca,ha,ca,da,ua⟩:=la
  unfold raiseNew
  refine wpAny_bind (wpAny_handled ?_)
  rw [hh]
  dsimp only
  rw [if_pos (by simpa using Ne.symm ne)]
  refine wpAny_bind (wpAny_holding (wpAny_runValue (codeAny_builtin my_entry_unchain ?_)))
  have fin:wpAny (model prog w) A (do updateField e 2 (.ref a);throw (.ref e)) Q E s:=by
    refine wpAny_bind ?_
    unfold updateField
    refine wpAny_bind (wpAny_load ex ?_)
    rw [dx]
    dsimp only
    rw [if_pos sz]
    refine wpAny_update ex ?_
    refine wpAny_throw (hE _ (Heap.SameBut.update ..) ⟨_,Heap.get?_update_self _ ex (Obj.isFreed_of_fields (Obj.data_mapFields dx _)),?_⟩)
    obtain ⟨c,d,dt,sl⟩:=ox
    cases dt <;> rfl
  unfold Builtin.«proto.unchain»
  rcases ua with ua | ⟨b,ob,ws,D,ua,bne,eb,cb,db,wb⟩
  · refine wpAny_bind (wpAny_field ha da ua ?_)
    rw [if_pos (by rfl)]
    refine wpAny_bind (wpAny_pure (wpAny_pure ?_))
    exact fin
  · have be:b≠e:=fun z=>by
      subst z
      rw [eb] at ex
      cases ex
      exact nc D cb
    refine wpAny_bind (wpAny_field ha da ua ?_)
    rw [if_neg (fun z=>by cases z),if_neg (by simpa using be),if_neg (by simpa using bne)]
    dsimp only
    rw [if_neg (by decide)]
    refine wpAny_bind (wpAny_pure ?_)
    refine wpAny_pure ⟨Code.quiet_builtin _ (by decide +kernel),codeAny_builtin my_entry_unchain ?_⟩
    unfold Builtin.«proto.unchain»
    refine wpAny_bind (wpAny_field eb db wb ?_)
    rw [if_pos (by rfl)]
    refine wpAny_bind (wpAny_pure (wpAny_pure ?_))
    exact fin
theorem stop_w {α:Type} {Q:α→Shared→Prop} (hh:A.handled=some (.ref a)) (la:LoneC a s.heap)
    (hE:∀h' e,(∀b o,s.heap.get? b=some o→h'.get? b=some o)→(∃o,h'.get? e=some o∧o.cls = .type "StopIteration")→E (.ref e) {s with heap:=h'}) :
    wpAny (model prog w) A (newExc (.type "StopIteration") [] >>= fun e=>(raiseNew e:Sem α)) Q E s:=by
  refine wpAny_bind ?_
  unfold newExc newTuple
  refine wpAny_bind (wpAny_newObj_type ?_ (by size_fits))
  refine wpAny_bind (m:=firstArgMember _ _) (wpAny_of_eq (a:=Value.none) (by first | rfl | (unfold firstArgMember;rfl)) ?_)
  refine wpAny_newObj_type ?_ (by size_fits)
  have lt:∀{b:Addr} {o:Obj} (o1:Obj),s.heap.get? b=some o→(s.heap.push o1).objs.size≠b:=fun {b o} o1 z=>by
    have q:=Heap.lt_size z
    rw [Heap.size_push]
    exact Nat.ne_of_gt (Nat.lt_succ_of_lt q)
  have kk:∀(o1 o2:Obj) {b:Addr} {o:Obj},s.heap.get? b=some o→((s.heap.push o1).push o2).get? b=some o:=fun o1 o2 {b o} z=>Heap.get?_push_of_some _ (Heap.get?_push_of_some _ z)
  obtain ⟨oa,us,Ca,ha,_⟩:=id la
  refine throw_w hh (la.to fun c o D _ z=>kk _ _ z) (Heap.get?_push_size _ rfl) rfl (Nat.lt_of_lt_of_le (by decide) (Nat.le_trans (Nat.le_refl 6) ?_)) (lt _ ha) (fun D z=>by cases z) fun h' sb eo=>hE h' _ (fun b o z=>(sb.2 b (Ne.symm (lt _ z))).trans (kk _ _ z)) eo
  simp
theorem nextOf_w {it l:Addr} {items:Array Value} {i:Nat} {Q:Value→Shared→Prop} (hh:A.handled=some (.ref a)) (la:LoneC a s.heap) (nit:a≠it)
    (hit:s.heap.IsListIter it l i) (hl:s.heap.IsList l items) (hx:items[i]? = none) (hE:∀h' e,Heap.ExtBut it s.heap h'→(∃o,h'.get? e=some o∧o.cls = .type "StopIteration")→E (.ref e) {s with heap:=h'}) :
    wpAny (model prog w) A (Builtin.SmallTypes.nextOf (.ref it)) Q E s:=by
  obtain ⟨oi,ei,ci,di⟩:=id hit
  obtain ⟨ol,el,_,nl,dl⟩:=hl
  unfold Builtin.SmallTypes.nextOf
  refine wpAny_bind (wpAny_callSpecial?_slot (name:=Str.ofString "__next__") hit.typeIs slot_listiter_next (wpAny_call_entry slot_listiter_next hit.typeIs entry_listiter_next ?_ (args_listiter_next _)))
  show wpAny (model prog w) _ (field (.ref it) 0 >>= _) _ _ s
  refine wpAny_bind (wpAny_field ei di (x:=.ref l) rfl ?_)
  show wpAny (model prog w) _ (if (Value.ref l == Value.none)=true then _ else _) _ _ s
  rw [if_neg (fun z=>by cases z)]
  show wpAny (model prog w) _ (field (.ref it) 1 >>= _) _ _ s
  refine wpAny_bind (wpAny_field ei di (x:=.int i 0) rfl ?_)
  show wpAny (model prog w) _ (seqItems? (.ref l) >>= _) _ _ s
  refine wpAny_bind (wpAny_seqItems el dl ?_)
  simp only [Int.toNat_natCast,hx]
  refine wpAny_bind (wpAny_rule (wpAny_bind (wpAny_setField ei di (by simp) ?_)))
  have eb:=(Heap.SameBut.update s.heap it (Obj.mapFields (·.setIfInBounds 0 Value.none))).extBut
  exact stop_w (A:=A.in1) hh (la.to fun c o D hc z=>eb _ _ (ne_cls z hc ei ci) z) fun h' e k eo=>hE h' e (fun b o nb z=>k _ _ (eb b o nb z)) eo
theorem tupEnd_w {it t:Addr} {i:Nat} {items} {Q:Option Value→Shared→Prop} (hh:A.handled=some (.ref a)) (la:LoneC a s.heap) (nit:a≠it)
    (hit:IsTupIter s.heap it t i) (ht:IsTup s.heap t items) (hx:items[i]? = none)
    (hQ:∀h',Heap.ExtBut it s.heap h'→Q none {s with heap:=h'}):wpAny (model prog w) A (pyNext (.ref it)) Q E s:=by
  obtain ⟨oi,ei,ci,di⟩:=id hit
  obtain ⟨ol,el,_,nl,dl⟩:=ht
  unfold pyNext
  refine wpAny_bind (wpAny_attempt (wpAny_callSpecial?_slot (name:=Str.ofString "__next__") hit.typeIs slot_tupleiter_next (wpAny_call_entry slot_tupleiter_next hit.typeIs entry_tupleiter_next ?_ (args_tupleiter_next _))))
  show wpAny (model prog w) _ (field (.ref it) 0 >>= _) _ _ s
  refine wpAny_bind (wpAny_field ei di (x:=.ref t) rfl ?_)
  show wpAny (model prog w) _ (if (Value.ref t == Value.none)=true then _ else _) _ _ s
  rw [if_neg (fun z=>by cases z)]
  show wpAny (model prog w) _ (field (.ref it) 1 >>= _) _ _ s
  refine wpAny_bind (wpAny_field ei di (x:=.int i 0) rfl ?_)
  show wpAny (model prog w) _ (seqItems? (.ref t) >>= _) _ _ s
  refine wpAny_bind (wpAny_seqItems el dl ?_)
  simp only [Int.toNat_natCast,hx]
  refine wpAny_bind (wpAny_rule (wpAny_bind (wpAny_setField ei di (by simp) ?_)))
  have eb:=(Heap.SameBut.update s.heap it (Obj.mapFields (·.setIfInBounds 0 Value.none))).extBut
  refine stop_w (A:=A.in1) hh (la.to fun c o D hc z=>eb _ _ (ne_cls z hc ei ci) z) fun h' e k eo=>?_
  obtain ⟨o,eo,co⟩:=eo
  refine wpAny_bind (wpAny_isInstance (b:=true) ⟨o,eo,co⟩ isSubtype_stop (wpAny_pure ?_))
  exact hQ _ fun b o nb z=>k _ _ (eb b o nb z)
theorem unpack_w {env:Env} {es:List Expr} {k1} {pos:Pos} {t:Addr} {items:Array Value} {Q:Unit→Shared→Prop} (hh:A.handled=some (.ref a)) (la:LoneC a s.heap) (ht:IsTup s.heap t items)
    (hn:(assignEach es env).length=items.size) (hst:(assignEach es env).findIdx? (·.1)=none)
    (h:∀h',Heap.ExtBut s.heap.objs.size s.heap h'→wpAny (model prog w) A (assignInOrder ((assignEach es env).map (·.2)) items.toList) Q E {s with heap:=h'}) :
    wpAny (model prog w) A (assign (.Tuple es k1 pos) env (.ref t)) Q E s:=by
  rw [PyProof.Rows.assign_Tuple]
  refine wpAny_bind (wpAny_standAt ?_)
  unfold unpack
  rw [hn,hst]
  refine wpAny_bind (wpAny_holding ?_)
  obtain ⟨oa,us,Ca,ha,_⟩:=id la
  have tl:t≠s.heap.objs.size:=by
    obtain ⟨o,z,_⟩:=ht
    exact Nat.ne_of_lt (Heap.lt_size z)
  have al:a≠s.heap.objs.size:=Nat.ne_of_lt (Heap.lt_size ha)
  unfold unpackItems notIterableAtAll
  refine wpAny_bind (wpAny_bind (wpAny_specialOf ht.typeIs slot_tuple_iter.lookup (wpAny_pure ?_)))
  simp only [Bool.false_eq_true,if_false]
  refine wpAny_bind (wpAny_holding (iter_tuple ht ?_))
  refine wpAny_bind (wpAny_holding (draw_tuple tl items.size 0 _ _ ⟨_,Heap.get?_push_size _ rfl,rfl,rfl⟩ (ht.push _) (by omega) fun h1 it1 sb1=>?_))
  have all:(items.toList.drop 0).take items.size=items.toList:=by
    rw [List.drop_zero]
    exact List.take_of_length_le (by simp)
  rw [all,if_neg (by simp)]
  refine wpAny_bind (wpAny_holding (tupEnd_w hh (la.to fun c o D hc z=>sb1.extBut c o (Nat.ne_of_lt (Heap.lt_size z)) (Heap.get?_push_of_some _ z)) al it1 ((ht.push _).extBut sb1.extBut tl) (by simp) fun h2 eb2=>?_))
  simp only [Option.isSome_none,Bool.false_eq_true,if_false]
  exact wpAny_pure (h h2 fun b o hb z=>eb2 b o hb (sb1.extBut b o hb (Heap.get?_push_of_some _ z)))
theorem zipEnd_w {z TI TO i1 i2 l1 l2:Addr} {k1 k2:Nat} {xs ys:Array Value} {p q:Value} {Q:Option Value→Shared→Prop} (hh:A.handled=some (.ref a)) (la:LoneC a s.heap) (D:ZipApart z TI TO i1 i2 l1 l2)
    (nz:a≠z) (nTO:a≠TO) (n1:a≠i1) (n2:a≠i2) (hz:IsZip s.heap z TI TO .none) (hTI:IsPair s.heap TI (.ref i1) (.ref i2)) (hTO:IsPair s.heap TO p q)
    (h1:s.heap.IsListIter i1 l1 k1) (h2:s.heap.IsListIter i2 l2 k2) (hl1:s.heap.IsList l1 xs) (hl2:s.heap.IsList l2 ys) (hend:xs[k1]? = none∨ys[k2]? = none)
    (hQ:∀h',(∀c o,c≠z→c≠TO→c≠i1→c≠i2→s.heap.get? c=some o→h'.get? c=some o)→Q none {s with heap:=h'}):wpAny (model prog w) A (pyNext (.ref z)) Q E s:=by
  have hT:s.TypeIs (.ref z) "zip" :=⟨_,hz,rfl⟩
  unfold pyNext
  refine wpAny_bind (wpAny_attempt (wpAny_callSpecial?_slot (name:=Str.ofString "__next__") hT F.slot_zip_next (wpAny_call_entry F.slot_zip_next hT F.entry_zip_next ?_ (F.args_zip_next_1 _))))
  show wpAny (model prog w) _ (field (.ref z) 2 >>= _) _ _ _
  refine wpAny_bind (wpAny_field hz rfl (x:=.bool false) rfl ?_)
  show wpAny (model prog w) _ (field (.ref z) 3 >>= _) _ _ _
  refine wpAny_bind (wpAny_field hz rfl (x:=.ref TI) rfl (wpAny_bind (wpAny_seqItems hTI rfl ?_)))
  show wpAny (model prog w) _ (Builtin.SmallTypes.ownedTupleIsFree (.ref z) >>= _) _ _ _
  refine wpAny_bind ?_
  unfold Builtin.SmallTypes.ownedTupleIsFree
  refine wpAny_bind (wpAny_field hz rfl (x:=.none) rfl (wpAny_pure ?_))
  simp only [if_true]
  refine wpAny_bind (wpAny_rule (wpAny_bind (wpAny_field hz rfl (x:=.ref TO) rfl (wpAny_bind (wpAny_setField_rec hz (by simp) fun g1 z1 s1=>?_)))))
  replace z1:IsZip g1 z TI TO .ellipsis:=z1
  have b1:=s1.extBut
  refine wpAny_bind ?_
  simp only [List.zipIdx_cons,List.zipIdx_nil,List.forIn_cons,List.forIn_nil]
  refine wpAny_bind (wpAny_bind (wpAny_onRaise ?_))
  show wpAny (model prog w) _ (Builtin.SmallTypes.nextOf (.ref i1) >>= _) _ _ _
  cases hx:xs[k1]? with
  | none=>
    refine wpAny_bind (nextOf_w (A:=A.in1) hh (la.to fun c o D hc y=>b1 c o (ne_cls y hc hz rfl) y) n1 (h1.extBut b1 D.i1z) (hl1.extBut b1 D.l1z) hx fun g2 e b2 eo=>?_)
    obtain ⟨oe,eo,co⟩:=eo
    have z2:IsZip g2 z TI TO .ellipsis:=b2 _ _ D.i1z.symm z1
    have ez:e≠z:=fun y=>by
      subst y
      rw [z2] at eo
      cases eo
      simp at co
    refine wpAny_setField_rec z2 (by simp) fun g3 _ s3=>wpAny_bind (wpAny_isInstance (b:=true) ⟨oe,s3.extBut _ _ ez eo,co⟩ isSubtype_stop (wpAny_pure ?_))
    exact hQ g3 fun c o c1 _ c3 _ y=>s3.extBut _ _ c1 (b2 _ _ c3 (b1 _ _ c1 y))
  | some x=>
    have hy:ys[k2]? = none:=hend.resolve_left fun y=>by rw [hx] at y;cases y
    refine wpAny_bind (wpAny_nextOf_list_item (h1.extBut b1 D.i1z) (hl1.extBut b1 D.l1z) hx fun g2 it2 s2=>wpAny_pure ?_)
    have b2:=s2.extBut
    obtain ⟨o1x,e1x,c1x,_⟩:=id (h1.extBut b1 D.i1z)
    have to2:IsPair g2 TO p q:=b2 _ _ D.TOi1 (b1 _ _ D.TOz hTO)
    refine wpAny_bind (wpAny_seqItems to2 rfl (wpAny_bind (wpAny_updateSeq_pair to2 fun g3 to3 s3=>?_)))
    have b3:=s3.extBut
    refine wpAny_bind (wpAny_letGo (wpAny_pure (wpAny_bind (wpAny_bind (wpAny_onRaise ?_)))))
    show wpAny (model prog w) _ (Builtin.SmallTypes.nextOf (.ref i2) >>= _) _ _ _
    refine wpAny_bind (nextOf_w (A:=A.in1) hh (la.to fun c o D hc y=>b3 c o (ne_cls (b2 c o (ne_cls (b1 c o (ne_cls y hc hz rfl) y) hc e1x c1x) (b1 c o (ne_cls y hc hz rfl) y)) hc to2 rfl) (b2 c o (ne_cls (b1 c o (ne_cls y hc hz rfl) y) hc e1x c1x) (b1 c o (ne_cls y hc hz rfl) y))) n2 (((h2.extBut b1 D.i2z).extBut b2 D.i12.symm).extBut b3 D.TOi2.symm) (((hl2.extBut b1 D.l2z).extBut b2 D.l2i1).extBut b3 D.l2TO) hy fun g4 e b4 eo=>?_)
    obtain ⟨oe,eo,co⟩:=eo
    have z4:IsZip g4 z TI TO .ellipsis:=b4 _ _ D.i2z.symm (b3 _ _ D.TOz.symm (b2 _ _ D.i1z.symm z1))
    have ez:e≠z:=fun y=>by
      subst y
      rw [z4] at eo
      cases eo
      simp at co
    refine wpAny_setField_rec z4 (by simp) fun g5 _ s5=>wpAny_bind (wpAny_isInstance (b:=true) ⟨oe,s5.extBut _ _ ez eo,co⟩ isSubtype_stop (wpAny_pure ?_))
    exact hQ g5 fun c o c1 c2 c3 c4 y=>s5.extBut _ _ c1 (b4 _ _ c4 (b3 _ _ c2 (b2 _ _ c3 (b1 _ _ c1 y))))
end
def ExcAtC (x C:Addr) (od:Option Addr) (b:Addr) (h:Heap):Prop:=∃ox vs,h.get? x=some ox∧(ox.cls,ox.dict)=(Value.ref C,od)∧ox.data = .fields vs∧vs[2]? = some (.ref b)
theorem ExcAtC.at {x C b:Addr} {od:Option Addr} {h:Heap} (e:ExcAtC x C od b h):ExcAtH x C h:=by
  obtain ⟨ox,vs,h1,h2,h3,h4⟩:=e
  exact ⟨ox,vs,h1,congrArg Prod.fst h2,h3⟩
def excC (a C:Addr) (od:Option Addr) (b:Addr):HO:=.ext fun h=>ExcAtC a C od b h
def CauC (H:Hp) (a C:Addr) (od:Option Addr):Prop:=H a=some (excX a C od)∨∃b D od',H a=some (excC a C od b)∧b≠a∧H b=some (excX b D od')
def CauA (H:Hp) (a:Addr):Prop:=∃C od,CauC H a C od
theorem CauC.same {H H':Hp} {a C:Addr} {od:Option Addr} (h:CauC H a C od) (s:Same H H'):CauC H' a C od:=by
  rcases h with h | ⟨b,D,od',h1,h2,h3⟩
  ·exact .inl (s _ _ h)
  ·exact .inr ⟨b,D,od',s _ _ h1,h2,s _ _ h3⟩
theorem CauA.ne {H:Hp} {a b:Addr} (e:CauA H a) (h:H b=none):a≠b:=fun z=>by
  subst z
  obtain ⟨C,od,e | ⟨_,_,_,e,_⟩⟩:=e <;> rw [h] at e <;> cases e
section
variable {X:Cx} {pins:List (Addr×Obj)} {σ:St} {H:Hp} {s:Shared} {a:Addr}
theorem Inv.loneC (I:Inv X pins σ H s) (e:CauA H a):LoneC a s.heap:=by
  obtain ⟨C,od,e | ⟨b,D,od',e,ne,eb⟩⟩:=e
  · obtain ⟨⟨ox,vs,h1,h2,h3,h4⟩,_⟩:=I.hok a _ e
    exact ⟨ox,vs,C,h1,congrArg Prod.fst h2,h3,.inl h4⟩
  · obtain ⟨⟨ox,vs,h1,h2,h3,h4⟩,_⟩:=I.hok a _ e
    obtain ⟨⟨oy,us,k1,k2,k3,k4⟩,_⟩:=I.hok b _ eb
    exact ⟨ox,vs,C,h1,congrArg Prod.fst h2,h3,.inr ⟨b,oy,us,D,h4,ne,k1,congrArg Prod.fst k2,k3,k4⟩⟩
def gTupC (a:Addr) (K:PySem.W.Frag) (n:Nat) (t:TGs):TG:=fun v σ H Q=>CauA H a∧fTup K n t v σ H Q
@[simp ↓] theorem gTupC_w a K n t v σ H Q:gTupC a K n t v σ H Q=(CauA H a∧fTup K n t v σ H Q):=rfl
theorem pg_tupC {K:PySem.W.Frag} (hK:X.K=K) (hh:X.A.handled=some (.ref a)) {es:List Expr} {k:Nat} {pos:Pos} {t:TGs} {n:Nat} (h:PGs X es t)
    (hn:(assignEach es X.env).length=n:=by rfl) (hst:(assignEach es X.env).findIdx? (·.1)=none:=by rfl):PG X (.Tuple es k pos) (gTupC a K n t):=by
  subst hK
  intro pins s σ H v u Q I r hw
  obtain ⟨ca,hw⟩:=hw
  obtain ⟨p,rfl,xs,hq,hl,hw⟩:=isRef.out hw
  cases r
  obtain ⟨its,rv,ht,hz⟩:=I.tuple hq
  refine unpack_w hh (I.loneC ca) ht (by simp [hn,← hl,rv.length]) hst fun h' hx=>?_
  have I1:Inv X pins σ H {s with heap:=h'}:=I.kept (t':=s.toks) fun b o e=>hx b o (Nat.ne_of_lt (Heap.lt_size e)) e
  exact h pins _ σ H xs _ Q I1 (by simpa using rv) hw
end
def ItzC (c:Addr) (K:PySem.W.Frag) (a b:Addr):It:=⟨(Itz K a b).go,(Itz K a b).yld,fun i H=>(Itz K a b).stop i H∧CauA H c⟩
theorem turn_zipC {c:Addr} {P:Program} {w:World} {K:PySem.W.Frag} {es:List Expr} {k:Nat} {pos:Pos} {z TI TO i1 i2 a b:Addr} (n12:i1≠i2) (nT:TI≠TO) :
    TurnH c P w K (.Tuple es k pos) (ItzC c K a b) [z,TI,TO,i1,i2] z (ZipSt z TI TO i1 i2 a b) where
  mem:=by simp
  obj:=fun i h st c hc=>by
    simp only [List.mem_cons,List.not_mem_nil,or_false] at hc
    rcases hc with rfl | rfl | rfl | rfl | rfl
    ·exact ⟨_,st.hz,fun v e=>nomatch e⟩
    ·exact ⟨_,st.hI,fun v e=>nomatch e⟩
    · obtain ⟨p,q,e⟩:=st.hO
      exact ⟨_,e,fun v e=>nomatch e⟩
    · obtain ⟨o,e,_,d⟩:=st.h1
      exact ⟨o,e,fun v y=>by rw [d] at y;cases y⟩
    · obtain ⟨o,e,_,d⟩:=st.h2
      exact ⟨o,e,fun v y=>by rw [d] at y;cases y⟩
  keep:=fun i h h' st kk=>by
    obtain ⟨p,q,e⟩:=st.hO
    exact ⟨kk z (by simp) _ st.hz,kk TI (by simp) _ st.hI,⟨p,q,kk TO (by simp) _ e⟩,st.h1.at fun o e=>kk i1 (by simp) o e,st.h2.at fun o e=>kk i2 (by simp) o e⟩
  item:=by
    intro X hP hw hK i pins s σ H E I hf st hg
    subst hP hw hK
    exact zip_item n12 nT I hf st hg
  done:=by
    intro X hP hw hK hh i pins s σ H E I hf st hg
    subst hP hw hK
    obtain ⟨⟨xs,ys,qa,qb,hl⟩,cau⟩:=hg
    have fne:∀d∈[z,TI,TO,i1,i2],c≠d:=fun d hd=>cau.ne (hf d hd).1
    obtain ⟨its,rv,pl,hz1⟩:=I.list qa
    obtain ⟨its',rv',pl',hz2⟩:=I.list qb
    obtain ⟨p,q,hTO⟩:=st.hO
    obtain ⟨oa,ea,ca,_⟩:=id pl.isList
    obtain ⟨ob,eb,cb,_⟩:=id pl'.isList
    obtain ⟨o1,e1,c1,_⟩:=id st.h1
    obtain ⟨o2,e2,c2,_⟩:=id st.h2
    have D:ZipApart z TI TO i1 i2 a b:=
      ⟨ne_ty st.hI st.hz rfl rfl (by decide),ne_ty hTO st.hz rfl rfl (by decide),ne_ty e1 st.hz c1 rfl (by decide),ne_ty e2 st.hz c2 rfl (by decide),nT,ne_ty st.hI e1 rfl c1 (by decide),ne_ty st.hI e2 rfl c2 (by decide),
        ne_ty hTO e1 rfl c1 (by decide),ne_ty hTO e2 rfl c2 (by decide),n12,ne_ty ea st.hz ca rfl (by decide),ne_ty ea hTO ca rfl (by decide),ne_ty ea e1 ca c1 (by decide),ne_ty ea e2 ca c2 (by decide),
        ne_ty eb st.hz cb rfl (by decide),ne_ty eb hTO cb rfl (by decide),ne_ty eb e1 cb c1 (by decide),ne_ty eb e2 cb c2 (by decide)⟩
    have l1:=rv.length
    have l2:=rv'.length
    refine zipEnd_w hh (I.loneC cau) D (fne _ (by simp)) (fne _ (by simp)) (fne _ (by simp)) (fne _ (by simp)) st.hz st.hI hTO st.h1 st.h2 pl.isList pl'.isList ?_ fun h' kk=>⟨rfl,I.turnedL (t':=s.toks) (fun c o hcm e=>?_) hf⟩
    · rcases hl with hl | hl
      ·exact .inl (by simp;omega)
      ·exact .inr (by simp;omega)
    · simp only [List.mem_cons,List.not_mem_nil,or_false,not_or] at hcm
      exact kk c o hcm.1 hcm.2.2.1 hcm.2.2.2.1 hcm.2.2.2.2 e
  self:=fun _ _ _ _ _ st h=>wpAny_pyIter_zip st.hz h
section
variable {X:Cx} {c:Addr}
def fiZipC (c:Addr) (K:PySem.W.Frag) (t:TA):TI:=fun σ H R=>t σ H fun vs H1=>ar2 vs fun x y=>isRef x fun a=>isRef y fun b=>(∃xs,SqL K H1 a xs)∧(∃ys,SqL K H1 b ys)∧R (ItzC c K a b) H1
@[simp ↓] theorem fiZipC_w c K t σ H R:fiZipC c K t σ H R=(t σ H fun vs H1=>ar2 vs fun x y=>isRef x fun a=>isRef y fun b=>(∃xs,SqL K H1 a xs)∧(∃ys,SqL K H1 b ys)∧R (ItzC c K a b) H1):=rfl
theorem pi_zipC {K:PySem.W.Frag} (hK:X.K=K) {es:List Expr} {k:Nat} {pos':Pos} {a b:Expr} {ta:TA} {p pos:Pos} (hg:Gl X "zip") (hm:X.mg "zip" = none) (ha:PA X [a,b] ta)
    (hs:starEach [a,b] X.env=[(false,eval a X.env),(false,eval b X.env)]:=by rfl) (hs2:starEach [b] X.env=[(false,eval b X.env)]:=by rfl) :
    PIH c X (.Tuple es k pos') (.Call (.Name "zip" p) [a,b] [] pos) (fiZipC c K ta):=by
  subst hK
  intro pins s σ H R I h
  refine Call_ (ld_blt I hg hm boot_zip (PyProof.Rows.callWith_type1 (thn (ha pos pins s σ H _ I h) fun us s1 zz=>?_) (by rw [hs,hs2]) (by rw [hs2];rfl)))
  obtain ⟨vs,H1,I1,r1,q1⟩:=zz
  obtain ⟨v1,v2,rfl,q1⟩:=ar2.out q1
  obtain ⟨l1,rfl,q1⟩:=isRef.out q1
  obtain ⟨l2,rfl,⟨xs,qa⟩,⟨ys,qb⟩,q⟩:=isRef.out q1
  obtain ⟨u,v,rfl,r,r'⟩:=r1.two
  obtain rfl:u=Value.ref l1:=r
  obtain rfl:v=Value.ref l2:=r'
  obtain ⟨its,rv,pl,hz1⟩:=I1.list qa
  obtain ⟨its',rv',pl',hz2⟩:=I1.list qb
  refine call_zip_2 pl.isList pl'.isList fun h' b1 b2 b3 b4 b5 b6 kk=>?_
  refine wpAny_pyIter_zip (s:={s1 with heap:=h'}) b1 ?_
  have I2:Inv X pins σ H1 {s1 with heap:=h'}:=I1.kept (t':=s1.toks) kk
  refine ⟨s1.heap.objs.size+4,[s1.heap.objs.size+4,s1.heap.objs.size+2,s1.heap.objs.size+3,s1.heap.objs.size,s1.heap.objs.size+1],_,_,H1,rfl,I2,turn_zipC (Nat.ne_of_lt (Nat.lt_succ_self _)) (Nat.ne_of_lt (Nat.lt_succ_self (s1.heap.objs.size+2))),⟨b1,b2,⟨_,_,b3⟩,b4,b5⟩,fun c hc=>?_,q⟩
  have hle:s1.heap.objs.size≤c:=by
    simp only [List.mem_cons,List.not_mem_nil,or_false] at hc
    rcases hc with rfl | rfl | rfl | rfl | rfl <;> first | exact Nat.le_add_right _ _ | exact Nat.le_refl _
  exact I1.fpOk hle (I1.hok.fresh hle)
end
section
variable {K:PySem.W.Frag} {own:List Str} {caps:List Nat} {g:TG} {tt:TT} {te:TE} {D l1 l2 c:Addr} {σ:St} {H:Hp} {Q:Hp→Prop}
theorem cmZC {d:DepC g tt te Q} (xs ys:List V) (Pv:Nat→St→Hp→Prop) (h0:Pv 0 (stC own caps σ) H) (he:xs.length=ys.length) (hl:∀i σ H,i≤xs.length→Pv i σ H→(SqL K H l1 xs∧SqL K H l2 ys)∧CauA H c)
    (hs:∀i x y t σ H,xs[i]? = some x→ys[i]? = some y→H t=none→Pv i σ H→tTurn g tt te D (Pv (i+1)) (.ref t) σ (upd H t (.tup [x,y]))) (hd:∀σ H,Pv xs.length σ H→Q H):tCm own caps (ItzC c K l1 l2) g tt te Q d D σ H:=by
  refine ⟨fun i m σ H=>m=xs.length - i∧i≤xs.length∧Pv i σ H,⟨xs.length,by simp,Nat.zero_le _,h0⟩,?_⟩
  rintro i m σ H ⟨rfl,hi,p⟩
  obtain ⟨⟨q1,q2⟩,ca⟩:=hl i σ H hi p
  by_cases hlt:i<xs.length
  · have hlt2:i<ys.length:=he▸hlt
    refine .inr ⟨⟨xs,ys,xs[i],ys[i],q1,q2,by simp [hlt],by simp [hlt2]⟩,Pv (i+1),fun σ' H' p'=>⟨xs.length - (i+1),by omega,rfl,hlt,p'⟩,fun x H' y=>?_⟩
    obtain ⟨t,u,v,rfl,ht,rfl,e1,e2⟩:=y
    exact hs i u v t σ H (e1 xs q1) (e2 ys q2) ht p
  · have e:i=xs.length:=by omega
    subst e
    exact .inl ⟨⟨⟨xs,ys,q1,q2,.inl (Nat.le_refl _)⟩,ca⟩,hd σ H p⟩
end
def fIsiC (K:PySem.W.Frag):List V→Hp→VK→Prop:=fun xs H Q=>ar2 xs fun x y=>isRef x fun a=>∃C od b,CauC H a C od∧ExcAsk K C∧kitE K C y=some b∧Q (.bl b) H
@[simp ↓] theorem fIsiC_w K xs H Q:fIsiC K xs H Q=(ar2 xs fun x y=>isRef x fun a=>∃C od b,CauC H a C od∧ExcAsk K C∧kitE K C y=some b∧Q (.bl b) H):=rfl
theorem fisiC {X:Cx} {K:PySem.W.Frag} (hK:X.K=K):CallR X (.builtin "isinstance") (fIsiC K):=by
  subst hK
  intro pins s σ H xs us Q I r h
  obtain ⟨v1,v2,rfl,h⟩:=ar2.out h
  obtain ⟨a,rfl,C,od,b,e,⟨L,cd,hcd⟩,hk,q⟩:=isRef.out h
  obtain ⟨u,v,rfl,r1,r2⟩:=r.two
  obtain rfl:u=Value.ref a:=r1
  have ex:ExcAtH a C s.heap:=by
    rcases e with e | ⟨b,D,od',e,ne,eb⟩
    · obtain ⟨ex,_⟩:=I.hok a _ e
      exact ex.at
    · obtain ⟨ex,_⟩:=I.hok a _ e
      exact ExcAtC.at ex
  have go:∀{c:Value},PySem.W.kitOne X.K (.ref C) c=some b→wpAny (model X.prog X.w) X.A (call (.builtin "isinstance") [.ref a,c]) (EP X pins σ Q) X.xe s:=fun {c} hc=>
    PySem.W.kia_one (kitx_exc hcd L) I.kIn ex hc (fun z=>by cases z) fun tk=>⟨.bl b,H,I.kept (fun _ _ e=>e),rfl,q⟩
  cases v2 with
  | ref D=>obtain rfl:v=Value.ref D:=r2;exact go hk
  | ty n=>obtain rfl:v=Value.type n:=r2;exact go hk
  | _=>cases hk
def BehB (h:Heap) (b:Addr):Prop:=∃ob D odb ws,h.get? b=some ob∧(ob.cls,ob.dict)=(Value.ref D,odb)∧ob.data = .fields ws∧ws[2]? = some .none
theorem BehB.to {h h':Heap} {b:Addr} (x:BehB h b) (k:∀o,h.get? b=some o→h'.get? b=some o):BehB h' b:=by
  obtain ⟨ob,D,odb,ws,h1,h2⟩:=x
  exact ⟨ob,D,odb,ws,k _ h1,h2⟩
structure ExcTC (h0 h:Heap) (H:Hp) (a C:Addr) (od:Option Addr) (b T:Addr):Prop where
  new:h0.get? a=none
  newT:h0.get? T=none
  newB:h0.get? b=none
  un:H a=none
  unT:H T=none
  unB:H b=none
  ba:b≠a
  bT:b≠T
  obB:BehB h b
  ob:∃oe vs oT ts,h.get? a=some oe∧(oe.cls,oe.dict)=(Value.ref C,od)∧oe.data = .fields vs∧vs[2]? = some (.ref b)∧vs[1]? = some (.ref T)∧T≠a∧h.get? T=some oT∧oT.data = .fields ts∧ts[3]? = some .none
structure ExcAC (h0 h:Heap) (H:Hp) (a C:Addr) (od:Option Addr) (b:Addr):Prop where
  new:h0.get? a=none
  newB:h0.get? b=none
  un:H a=none
  unB:H b=none
  ba:b≠a
  obB:BehB h b
  ob:∃T oe vs oT ts fl,h.get? a=some oe∧(oe.cls,oe.dict)=(Value.ref C,od)∧oe.data = .fields vs∧vs[2]? = some (.ref b)∧vs[1]? = some (.ref T)∧T≠a∧b≠T∧h0.get? T=none∧H T=none∧h.get? T=some oT∧oT.data = .fields ts∧ts[3]? = some fl
def CXc (P:Program) (w:World):CXT:=fun outer H s E e s'=>CXe P w outer H s E e s'∨∃(a C:Addr) (od:Option Addr) (H':Hp),e = .ref a∧s'.os=s.os∧AllBare s'.gens∧Un (frs outer) [] H H' s.heap s'.heap∧HOk P w H' s'.heap∧(∃b T,ExcTC s.heap s'.heap H' a C od b T)∧E (.ref C) od H'
section
variable {X:Cx} {pins:List (Addr×Obj)} {σ:St} {H:Hp} {s:Shared}
theorem left_okC (I:Inv X pins σ H s) (hex:X.ex=[]) {a C b:Addr} {od:Option Addr} {l:List Addr} (hl:∀b∈l,b∈frs X.stack∨(X.s₀.heap.get? b=none∧H b=none)) (ha:X.s₀.heap.get? a=none) (hH:H a=none) (hs:∀b∈frs X.stack,b∈l)
    (hb0:X.s₀.heap.get? b=none) (hbH:H b=none) (hba:b≠a) (obB:BehB s.heap b) (bl:b∉l)
    {E:XK} (hE:E (.ref C) od H) {h':Heap} (x:StnC (PySem.W.hideAll s.heap l) X.stack a (.ref C,od) (.ref b) .none s.heap h'):CXc X.prog X.w X.outer X.H₀ X.s₀ E (.ref a) {s with heap:=h'}:=by
  obtain ⟨k1,k2,⟨T,oe,vs,oT,ts,t1,t2,t3,t4,tt,t5,t6,t7,t8,t9⟩,k4⟩:=x
  have nl:∀{b:Addr} {o:Obj},b∉l→s.heap.get? b=some o→h'.get? b=some o:=fun hb e=>k1 _ _ (PySem.W.hideAll_get _ e hb)
  have oldL:∀{b:Addr} {o:Obj},X.s₀.heap.get? b=some o→b∉X.fs→b∉l:=fun {b o} e hb hm=>by
    rcases hl b hm with z | ⟨z,_⟩
    · rcases List.mem_cons.mp (I.stkSub b z) with z | z
      · rw [z] at e
        exact absurd (Heap.lt_size e) (Nat.not_lt.mpr I.ok.above)
      ·exact hb z
    ·rw [z] at e;cases e
  have trL:∀{b:Addr} {u:HO},H b=some u→b∉l:=fun {b u} e hm=>by
    rcases hl b hm with z | ⟨_,z⟩
    ·rw [I.stkFree b z] at e;cases e
    ·rw [z] at e;cases e
  have fsl:∀{b:Addr} {o:Obj},b∈X.fs→s.heap.get? b=some o→∃sl,h'.get? b=some {o with slots:=sl}:=fun {b o} hb e=>by
    obtain ⟨_,o2,e2,hd⟩:=I.funs.mem hb
    rw [e] at e2
    cases e2
    exact k4 b o e hd
  have nox:∀b:Addr,b∉X.ex:=fun b=>by rw [hex];simp
  have bT:b≠T:=fun z=>by
    obtain ⟨ob,_,_,_,eb,_⟩:=obB
    rw [← z,PySem.W.hideAll_get _ eb bl] at t5
    cases t5
  refine .inr ⟨a,C,od,H,rfl,I.os,I.bare,⟨fun b o e n hb _=>?_,fun b o e n hb _=>?_,fun b o e n _=>I.base.free b o e n (nox b),fun b o e _=>?_,I.base.tups,I.base.frzs,I.base.tbls⟩,fun b u e=>?_,⟨b,T,ha,?_,hb0,hH,?_,hbH,hba,bT,obB.to fun o e=>nl bl e,oe,vs,oT,ts,t1,t2,t3,t4,tt,t6,t7,t8,t9⟩,hE⟩
  ·exact nl (oldL e hb) (I.base.keep b o e n hb (nox b))
  · obtain ⟨sl,e2⟩:=I.base.slot b o e n hb (nox b)
    obtain ⟨sl',e3⟩:=fsl hb e2
    exact ⟨sl',e3⟩
  · obtain ⟨o',e2⟩:=I.base.there b o e (nox b)
    by_cases hb:b∈X.fs
    · obtain ⟨sl,e3⟩:=fsl hb e2
      exact ⟨_,e3⟩
    ·exact ⟨o',nl (oldL e hb) e2⟩
  · refine (I.hok b u e).stay (fun c v hc q=>?_) (fun c q=>q) fun c xs q=>q
    rcases hc with rfl | hc
    ·exact nl (trL e) q
    ·exact nl (trL hc) q
  all_goals
    have hT:T∉frs X.stack:=fun hm=>by
      obtain ⟨_,o2,e2,hd⟩:=k2.mem hm
      rw [t7] at e2
      cases e2
      exact hd _ t8
    have cs:s.heap.get? T=none∨(X.s₀.heap.get? T=none∧H T=none):=by
      cases q:s.heap.get? T with
      | none=>exact .inl rfl
      | some o=>
        by_cases hm:T∈l
        ·exact .inr ((hl T hm).resolve_left hT)
        · rw [PySem.W.hideAll_get _ q hm] at t5
          cases t5
  ·exact cs.elim (fun z=>I.old hex z) fun z=>z.1
  ·exact cs.elim (fun z=>hok_lt I.hok z) fun z=>z.2
theorem leave_okC (I:Inv X pins σ H s) (hst:X.stack=X.env::X.outer) (hfr:X.env.frame=some X.env.locals) (hex:X.ex=[]) {a C b:Addr} {od:Option Addr} (x:ExcAC X.s₀.heap s.heap H a C od b) {E:XK} (hE:E (.ref C) od H) {E':Value→Shared→Prop} :
    wpAny (model X.prog X.w) X.A (leaving X.env (.ref a)) (fun _ s''=>CXc X.prog X.w X.outer X.H₀ X.s₀ E (.ref a) s'') E' s:=by
  obtain ⟨new,newB,un,unB,ba,obB,T,oe,vs,oT,ts,fl,he,hc,hd,h0,h1,h2,hbT,h3,h4,h5,h6,h7⟩:=x
  have fr:=I.ok.frames
  rw [hst] at fr
  have hideF:∀l:List Addr,s.heap.FunFrames (PySem.W.hideAll s.heap (frs X.stack++l)) (X.env::X.outer):=fun l=>by
    rw [← hst]
    exact PySem.W.funFrames_hide I.stack fun env he b hb=>List.mem_append_left _ (List.mem_filterMap.mpr ⟨env,he,hb⟩)
  refine leave_sC (base:=PySem.W.hideAll s.heap (frs X.stack++[a,T])) (cls:=(.ref C,od)) (cv:=.ref b) (fun Q' q=>note_anyC fr (hideF _) hfr (T:=T) (fl:=fl) ⟨oe,vs,oT,ts,he,hc,hd,h0,h1,PySem.W.hideAll_none _ (by simp),h2,h5,h6,h7⟩ (fun b o e=>PySem.W.of_hideAll _ e) (PySem.W.hideAll_none _ (by simp)) q) fun h' hL=>?_
  rw [← hst] at hL
  refine left_okC I hex (fun b hb=>?_) new un (fun b hb=>List.mem_append_left _ hb) newB unB ba obB (fun hm=>?_) hE hL
  · rcases List.mem_append.mp hb with z | z
    ·exact .inl z
    · simp only [List.mem_cons,List.not_mem_nil,or_false] at z
      rcases z with rfl | rfl
      ·exact .inr ⟨new,un⟩
      ·exact .inr ⟨h3,h4⟩
  · rcases List.mem_append.mp hm with z | z
    · obtain ⟨_,o2,e2,hd2⟩:=I.stack.mem z
      obtain ⟨ob,_,_,ws,eb,_,db,_⟩:=obB
      rw [eb] at e2
      cases e2
      exact hd2 _ db
    · simp only [List.mem_cons,List.not_mem_nil,or_false] at z
      exact z.elim ba hbT
def LetsAC (X:Cx) (E:XK):Prop:=∀(pins:List (Addr×Obj)) (σ:St) (H:Hp) (s:Shared) (a C:Addr) (od:Option Addr) (b:Addr),Inv X pins σ H s→ExcAC X.s₀.heap s.heap H a C od b→E (.ref C) od H→X.xe (.ref a) s
theorem letsAC_cx {P:Program} {w:World} {K:PySem.W.Frag} {mg:Str→Option Value} {base:Heap} {N:List Str} {qual:Str} {scope:Scope} {f:Addr} {cd:Value} {A:Around} {outer:List Env} {s:Shared} {H:Hp} {E:XK} :
    LetsAC (cxOf (CXc P w) P w K mg base N qual scope f cd A outer s H E) E:=fun pins σ H1 s1 a C od b I x hE=>leave_okC I rfl rfl rfl x hE
theorem letsC_cx {P:Program} {w:World} {K:PySem.W.Frag} {mg:Str→Option Value} {base:Heap} {N:List Str} {qual:Str} {scope:Scope} {f:Addr} {cd:Value} {A:Around} {outer:List Env} {s:Shared} {H:Hp} {E:XK} :
    Lets (cxOf (CXc P w) P w K mg base N qual scope f cd A outer s H E) E:=fun pins σ H1 s1 a C od I x hE=>wpAny_mono (leave_ok (E':=NoE) I rfl rfl rfl x hE) (fun _ _ z=>.inl z) fun _ _ z=>z.elim
theorem Fun.okCL {P:Program} {w:World} {K:PySem.W.Frag} {mg:Str→Option Value} {base:Heap} {x qual:Str} {st:Stmt} {f:Addr} {fd:FuncData} {N ps:List Str} {k:Nat} {sp:Sp} (F:Fun K x qual st f fd) (S:FnScope N ps (defScope st)) (len:∀vs H Q E,sp vs H Q E→vs.length=ps.length)
    (hbody:∀(cdv:Value) (A:Around) (outer:List Env) (s:Shared) (H:Hp) (vs:List V) (Q:VK) (E:XK),Room k (A.deeper (envOfC qual (defScope st) s.heap.objs.size f cdv))→sp vs H Q E→
      ∃t,PSs (cxOf (CXc P w) P w K mg base N qual (defScope st) f cdv A outer s H E) (defBody st) t∧t {nx:=fun _ H'=>Q .non H',rt:=Q} (startL N vs) H):FnOk P w K mg base (CXc P w) (k+1) f fd ps sp:=by
  obtain ⟨oc,od,kV,doc,pm,an,cdv,ct,osl,rfl,lk,hcd⟩:=F.ex
  refine fn_of lk hcd S len fun A outer s H vs Q E hr hsp=>?_
  obtain ⟨t,h1,h2⟩:=hbody cdv A outer s H vs Q E hr hsp
  refine ⟨t,h1,?_⟩
  have hl:=len _ _ _ _ hsp
  have hp:ps.length≤N.length:=by have:=congrArg List.length S.pre;rw [List.length_take] at this;omega
  rw [startL_eq N vs (by omega)] at h2
  exact h2
end
def tryRz (K:PySem.W.Frag) (D C2:Addr) (E:XK) (ta:TA):St→Addr→Option Addr→Hp→Prop:=fun σ1 C od H1=>(ExcOb K C∧PySem.W.mroIn K C (.ref D)=some true)∧ta σ1 H1 fun vs H2=>vs.length≤sizeLine∧E (.ref C2) none H2
def tTryRz (K:PySem.W.Frag) (D C2:Addr) (E:XK) (ta:TA) (tb:(St→Addr→Option Addr→Hp→Prop)→TS):TS:=fun Dn σ H=>tb (tryRz K D C2 E ta) Dn σ H
@[simp ↓] theorem tTryRz_w K D C2 E ta tb Dn σ H:tTryRz K D C2 E ta tb Dn σ H=tb (tryRz K D C2 E ta) Dn σ H:=rfl
section
variable {X:Cx} {pins:List (Addr×Obj)} {σ:St} {H:Hp} {s:Shared}
theorem Inv.pinF (I:Inv X pins σ H s) {a:Addr} {o:Obj} {vs:Array Value} (e:s.heap.get? a=some o) (d:o.data = .fields vs) (un:H a=none):Inv X (pins++[(a,o)]) σ H s:=by
  refine I.pins_of fun p hp=>?_
  rcases List.mem_append.mp hp with z | z
  ·exact I.pin p (List.mem_append_right _ z)
  · rw [List.mem_singleton] at z
    subst z
    refine ⟨e,un,fun y=>?_,fun y=>?_,fun v y=>?_⟩
    · obtain ⟨m,⟨ol,es,ep,el,dl,_⟩,_⟩:=I.loc
      rw [← y,e] at el
      cases el
      rw [d] at dl
      cases dl
    · obtain ⟨_,o2,e2,hd⟩:=I.funs.mem y
      rw [e] at e2
      cases e2
      exact hd _ d
    · rw [d] at y
      cases y
theorem raised_back {E:XK} {a e C2:Addr} {h':Heap} {oa:Obj} {ws:Array Value} {D:Addr} {odb:Option Addr} (hst:X.stack=X.env::X.outer) (hfr:X.env.frame=some X.env.locals) (hex:X.ex=[]) (hL:LetsAC X E)
    (I:Inv (X.caught a) (pins++[(a,oa)]) σ H s) (I0:∀{s':Shared},Inv (X.caught a) pins σ H s'→Inv X pins σ H s') (ca:(oa.cls,oa.dict)=(Value.ref D,odb)) (da:oa.data = .fields ws) (wa:ws[2]? = some .none) (na:X.s₀.heap.get? a=none)
    (en:s.heap.get? e=none) (rc:RaisedC s.heap h' e a (.ref C2)) (hE:E (.ref C2) none H) :
    notedBy (model X.prog X.w) (X.A.mark (some (.ref a))) X.env (fun x s₂=>cameBackBy (model X.prog X.w) X.A X.env X.xe x s₂) (.ref e) {s with heap:=h'}:=by
  obtain ⟨keep,oe,vs,ee,ce,de,v2,v1⟩:=rc
  have I1:Inv (X.caught a) (pins++[(a,oa)]) σ H {s with heap:=h',toks:=s.toks}:=I.kept fun b o z=>keep b o (fun y=>by rw [y,en] at z;cases z) z
  have fr:=I1.ok.frames
  have fr':(X.A.mark (some (.ref a))).frames=some (X.env::X.outer):=by
    have:(X.A.mark (some (.ref a))).frames=some X.stack:=fr
    rw [hst] at this
    exact this
  have hexc:(X.caught a).ex=[]:=hex
  have ne0:X.s₀.heap.get? e=none:=I.old hexc en
  have neH:H e=none:=hok_lt I.hok en
  have hideF:h'.FunFrames (PySem.W.hideAll h' (frs X.stack++[e])) (X.env::X.outer):=by
    have:=PySem.W.funFrames_hide (as:=frs X.stack++[e]) I1.stack fun env he b hb=>List.mem_append_left _ (List.mem_filterMap.mpr ⟨env,he,hb⟩)
    rw [← hst]
    exact this
  unfold notedBy
  refine note_firstC (cv:=.ref a) (s:={s with heap:=h'}) (base:=PySem.W.hideAll h' (frs X.stack++[e])) fr' hideF hfr ee (fun b o z=>PySem.W.of_hideAll _ z) (PySem.W.hideAll_none _ (by simp)) de v1 v2 fun h7 x7=>?_
  obtain ⟨y1,y2,⟨T,oe7,vs7,oT,ts,u1,u2,u3,u4,u5,u6,u7,u8,u9,u10⟩,y4⟩:=x7
  have ep:∀p∈(X.caught a).pn++(pins++[(a,oa)]),p.1≠e:=fun p hp y=>by
    have z:=(I.pin p hp).1
    rw [y,en] at z
    cases z
  have I7:Inv (X.caught a) (pins++[(a,oa)]) σ H {s with heap:=h7,toks:=s.toks}:=Inv.gone (s:={s with heap:=h',toks:=s.toks}) (t':=s.toks) (h':=h7) (ch:=[e]) I1 hexc (fun b hb=>by
    rw [List.mem_singleton] at hb
    subst hb
    exact ⟨ne0,neH,fun _ _ _ _=>trivial,⟨oe,vs,ee,de⟩,ep⟩) (fun b o hb hc z=>y1 b o (PySem.W.hideAll_get _ z (by simp only [List.mem_append];exact fun q=>q.elim hb hc))) y4
  have hT:T∉frs X.stack:=fun hm=>by
    rw [← hst] at y2
    obtain ⟨_,o2,e2,hd⟩:=y2.mem hm
    rw [u8] at e2
    cases e2
    exact hd _ u9
  have nT:h'.get? T=none:=by
    cases q:h'.get? T with
    | none=>rfl
    | some o=>
      by_cases hm:T∈frs X.stack++[e]
      · rcases List.mem_append.mp hm with z | z
        ·exact absurd z hT
        ·exact absurd (List.mem_singleton.mp z) u7
      · rw [PySem.W.hideAll_get _ q hm] at u6
        cases u6
  have nT0:X.s₀.heap.get? T=none:=I1.old hexc nT
  have nTH:H T=none:=hok_lt I1.hok nT
  have Tp:∀p∈(X.caught a).pn++(pins++[(a,oa)]),p.1≠T:=fun p hp y=>by
    have z:=(I1.pin p hp).1
    rw [y] at z
    rw [show ({s with heap:=h',toks:=s.toks}:Shared).heap=h' from rfl,nT] at z
    cases z
  have z3:3<ts.size:=(Array.getElem?_eq_some_iff.mp u10).1
  unfold cameBackBy
  refine wpAny_bind (wpAny_field (s:={s with heap:=h7}) u1 u3 u5 ?_)
  rw [if_neg (by simp)]
  unfold setFlight
  refine wpAny_bind (wpAny_field (s:={s with heap:=h7}) u1 u3 u5 ?_)
  rw [if_pos (by simp)]
  refine wpAny_setField (s:={s with heap:=h7}) u8 u9 z3 ?_
  have oth:∀{b} (f:Obj→Obj),b≠T→(h7.update T f).get? b=h7.get? b:=fun f n=>Heap.get?_update_other _ _ (Ne.symm n)
  have d3:=Obj.data_mapFields u9 (·.setIfInBounds 3 (X.env.frame.elim .none fun f=>rawInt f))
  have I8:=I7.gone (t':=s.toks) (h':=h7.update T (Obj.mapFields (·.setIfInBounds 3 (X.env.frame.elim .none fun f=>rawInt f)))) (ch:=[T]) hexc (fun b hb=>by
    rw [List.mem_singleton] at hb
    subst hb
    exact ⟨nT0,nTH,fun _ _ _ _=>trivial,⟨oT,ts,u8,u9⟩,Tp⟩) (fun b o hb hc z=>(oth _ (fun y=>hc (by simp [y]))).trans z) fun b o z d=>⟨o.slots,(oth _ fun y=>by
      rw [y] at z
      have z':h7.get? T=some o:=z
      rw [u8] at z'
      cases z'
      exact d _ u9).trans z⟩
  have pa:=(I8.pin (a,oa) (List.mem_append_right _ (List.mem_append_right _ (by simp))))
  have ae:a≠e:=ep (a,oa) (List.mem_append_right _ (List.mem_append_right _ (by simp)))
  have aT:a≠T:=Tp (a,oa) (List.mem_append_right _ (List.mem_append_right _ (by simp)))
  refine hL pins σ H _ e C2 none a (I0 I8.unpinned) ⟨ne0,na,neH,pa.2.1,ae,⟨oa,D,odb,ws,pa.1,ca,da,wa⟩,T,oe7,vs7,_,_,X.env.frame.elim .none fun f=>rawInt f,(oth _ (Ne.symm u7)).trans u1,u2.trans ce,u3,u4,u5,u7,aT,nT0,nTH,Heap.get?_update_self _ u8 (Obj.isFreed_of_fields d3),d3,by simp [z3]⟩ hE
end
section
variable {X:Cx} {body:List Stmt} {c1 x:Str} {np1 hp1 pos np cpos rpos kp:Pos} {kk:Nat} {D C2:Addr} {e:Expr} {es:List Expr} {ta:TA} {E:XK} {tb:(St→Addr→Option Addr→Hp→Prop)→TS}
theorem ps_tryRz (hst:X.stack=X.env::X.outer) (hfr:X.env.frame=some X.env.locals) (hex:X.ex=[]) (hL:LetsAC X E)
    (hb:∀R pn xe,Takes X pn xe R→PSs (X.tried pn xe) body (tb R)) (hg1:Gl X c1) (hm1:X.mg c1=some (.ref D)) (cl1:ExcCls X.K D) (cb1:PySem.W.mroIn X.K D (.type "BaseException")=some true) (cl:ExcCls X.K C2) (hg:Gl X x) (hm:X.mg x=some (.ref C2)) (ha:∀a,PA (X.caught a) (e::es) ta)
    (hdb1:(c1 == ("__debug__" : Str))=false:=by decide) (hdb:(x == ("__debug__" : Str))=false:=by decide) (hs:starEach (e::es) X.env=(false,eval e X.env)::starEach es X.env:=by rfl) (hpl:(backTo cpos (starEach (e::es) X.env)).any (·.1)=false:=by rfl) :
    PS X (.Try body [.ExceptHandler (some (.Name c1 np1)) none [.Raise (some (.Call (.Name x np) (e::es) [] cpos)) (some (.Constant .none kk kp)) rpos] hp1] [] [] pos) (tTryRz X.K D C2 E ta tb):=by
  intro pins s σ H Dn I h
  refine wpAny_Try_except (wpAny_mono (hb (tryRz X.K D C2 E ta) (X.pn++pins) (fun e s1=>∃a C od T σ1 H1,e = .ref a∧Inv X pins σ1 H1 s1∧ExcT X.s₀.heap s1.heap H1 a C od T∧(∀p∈X.pn++pins,p.1≠a∧p.1≠T)∧tryRz X.K D C2 E ta σ1 C od H1) ?_ [] s σ H Dn (I.tried _) h) (fun f s1 hf=>?_) fun e s1 hx=>?_)
  · intro pins' σ1 H1 s1 a C od T J ex hp hR
    exact ⟨a,C,od,T,σ1,H1,rfl,I.untried J,ex,hp,hR⟩
  · cases f with
    | next=>obtain ⟨σ',H',J,q⟩:=hf;exact wpAny_execs_nil ⟨σ',H',I.untried J,q⟩
    | brk=>obtain ⟨σ',H',J,q⟩:=hf;exact ⟨σ',H',I.untried J,q⟩
    | cont=>obtain ⟨σ',H',J,q⟩:=hf;exact ⟨σ',H',I.untried J,q⟩
    | ret u=>obtain ⟨v,σ',H',J,r,q⟩:=hf;exact ⟨v,σ',H',I.untried J,r,q⟩
  · obtain ⟨a,C,od,T,σ1,H1,rfl,J,ex,hp,⟨clC,hCD⟩,hR⟩:=hx
    obtain ⟨new,newT,un,unT,oe,vs,oT,tts,t1',t2',t3,t4,t5,t6,t7,t8,t9⟩:=ex
    have fr:=J.ok.frames
    rw [hst] at fr
    have st0:(PySem.W.hideAll s1.heap (frs X.stack++[a,T])).StaysIn s1.heap:=fun b o e=>PySem.W.of_hideAll _ e
    have na:(PySem.W.hideAll s1.heap (frs X.stack++[a,T])).get? a=none:=PySem.W.hideAll_none _ (by simp)
    have ff:s1.heap.FunFrames (PySem.W.hideAll s1.heap (frs X.stack++[a,T])) (X.env::X.outer):=by
      rw [← hst]
      exact PySem.W.funFrames_hide J.stack fun env he b hb=>List.mem_append_left _ (List.mem_filterMap.mpr ⟨env,he,hb⟩)
    have tr0:Trc (PySem.W.hideAll s1.heap (frs X.stack++[a,T])) s1.heap a (.ref C,od) .none T:=⟨oe,vs,oT,tts,t1',t2',t3,t4,t5,PySem.W.hideAll_none _ (by simp),t6,t7,t8,t9⟩
    have gone:∀(h':Heap),(PySem.W.hideAll s1.heap (frs X.stack++[a,T])).StaysIn h'→s1.heap.UpToSlots h'→Inv X pins σ1 H1 {s1 with heap:=h'}:=fun h' k1 k2=>by
      refine J.gone (t':=s1.toks) (ch:=[a,T]) hex (fun b hb=>?_) (fun b o hf hc e=>k1 b o (PySem.W.hideAll_get _ e (by rw [List.mem_append];exact fun z=>z.elim hf hc))) fun b o e hd=>k2 b o e hd
      simp only [List.mem_cons,List.not_mem_nil,or_false] at hb
      rcases hb with rfl | rfl
      ·exact ⟨new,un,fun _ _ _ _=>trivial,⟨oe,vs,t1',t3⟩,fun p q=>(hp p q).1⟩
      ·exact ⟨newT,unT,fun _ _ _ _=>trivial,⟨oT,tts,t7,t8⟩,fun p q=>(hp p q).2⟩
    refine note_next fr ff hfr tr0 st0 na fun h4 x4=>?_
    obtain ⟨T4,tr4⟩:=x4.trc
    refine flight_s (s:={s1 with heap:=h4}) x4.frames tr4 x4.stays fun h5 x5=>?_
    obtain ⟨T5,tr5⟩:=x5.trc
    have J5:=gone h5 x5.stays (x4.slots.trans x5.slots)
    obtain ⟨oe5,vs5,oT5,ts5,u1,u2,u3,_⟩:=id tr5
    obtain ⟨bm,N,nm,q,bs,hdct,sn,sub,ab,col,dd,k0,k1,k2,k3,k5,hC,hmro⟩:=clC _ J5.kIn
    obtain ⟨bm1,N1,nm1,q1,bs1,hdct1,sn1,sub1,ab1,col1,dd1,j0,j1,j2,j3,j5,hD1,hmr1⟩:=(ExcOb.of cl1) _ J5.kIn
    refine wpAny_handleBy_cons (codeAny_handlers_test (ld_glob (J5.caught a) hg1 hm1 ?_ hdb1)) (by intro q;cases q)
    refine exc_matchB hC hD1 u1 (congrArg Prod.fst u2) (hmr1 _ _ cb1) (hmro _ _ hCD) ?_
    refine codeAny_handlers_suite ?_
    refine flight_s (s:={s1 with heap:=h5}) x5.frames tr5 x5.stays fun h6 x6=>?_
    have J6:=gone h6 x6.stays ((x4.slots.trans x5.slots).trans x6.slots)
    obtain ⟨T6,oe6,vs6,oT6,ts6,v1,v2,v3,v4,_⟩:=x6.trc
    have J7:=(J6.pinF v1 v3 un).caught a
    obtain ⟨bz,Nz,nmz,qz,bsz,hdctz,snz,subz,abz,colz,ddz,z0,z1,z2,z3,z5,mNz,hCz,hNz,hniz,T0z,_⟩:=exc_obj J7.ok.mod.kin cl
    refine wpAny_execs_cons ?_
    refine wpAny_RaiseFrom (a:=a) (bm:=bz) (N:=Nz) (nm:=nmz) (q:=qz) (bs:=bsz) (hdct:=hdctz) (sn:=snz) (sub:=subz) (ab:=abz) (col:=colz) (dd:=ddz) (k0:=z0) (k1:=z1) (k2:=z2) (k3:=z3) (k5:=z5) (mN:=mNz) (C:=C2) PySem.F.excBase_ValueError (T0z.hasType (by decide)) rfl hpl hniz ?_
    refine ld_glob J7 hg hm ⟨rfl,?_⟩ hdb
    have hpa:=fun Q q=>ha a cpos (pins++[(a,oe6)]) _ σ1 H1 Q J7 q
    have hs':starEach (e::es) (X.caught a).env=(false,eval e X.env)::starEach es X.env:=hs
    rw [hs'] at hpa
    rw [hs]
    show wpAny _ _ (evalArgs (.ref C2) true ((false,eval e X.env)::backTo cpos (starEach es X.env)) []) _ _ _
    refine Calls.evalArgs_plain (wpAny_mono (hpa _ hR) (fun us s8 zz=>?_) fun _ _ z=>False.elim z)
    obtain ⟨vs8,H8,I8,r8,hz,hE⟩:=zz
    have pa:=I8.pin (a,oe6) (List.mem_append_right _ (List.mem_append_right _ (by simp)))
    refine ⟨rfl,by rw [← r8.length];exact hz,I8.bk _ _ hCz,hNz.keeps I8.bk,T0z.keeps I8.bk,⟨oe6,vs6,pa.1,v3,v4⟩,fun h' e' en rc=>?_⟩
    exact raised_back (σ:=σ1) hst hfr hex hL I8 (fun J'=>I.uncaught J') v2 v3 v4 new en rc hE
end
def TakesC (X:Cx) (pn:List (Addr×Obj)) (xe:Value→Shared→Prop) (R:St→Addr→Option Addr→Hp→Prop):Prop:=
  ∀(pins:List (Addr×Obj)) (σ:St) (H:Hp) (s:Shared) (a C:Addr) (od:Option Addr) (b T:Addr),Inv (X.tried pn xe) pins σ H s→ExcTC X.s₀.heap s.heap H a C od b T→(∀p∈pn,p.1≠a∧p.1≠T∧p.1≠b)→R σ C od H→xe (.ref a) s
def tryRC (i:Nat) (K:PySem.W.Frag) (D:Addr) (ts:Addr→TS) (Dn:Ends):St→Addr→Option Addr→Hp→Prop:=fun σ1 C od H1=>(ExcOb K C∧PySem.W.mroIn K C (.ref D)=some true∧C≠D)∧∀a H2,H1 a=none→Same H1 H2→CauC H2 a C od→
    ts a {nx:=fun σ2 H2=>Dn.nx (σ2.set i none) H2,rt:=Dn.rt,bk:=fun σ2 H2=>Dn.bk (σ2.set i none) H2,ct:=fun σ2 H2=>Dn.ct (σ2.set i none) H2} (σ1.set i (some (.ref a))) H2
def tTryC (i:Nat) (K:PySem.W.Frag) (D:Addr) (ts:Addr→TS) (tb:(St→Addr→Option Addr→Hp→Prop)→TS):TS:=fun Dn σ H=>tb (tryRC i K D ts Dn) Dn σ H
@[simp ↓] theorem tTryC_w i K D ts tb Dn σ H:tTryC i K D ts tb Dn σ H=tb (tryRC i K D ts Dn) Dn σ H:=rfl
section
variable {X:Cx} {pins:List (Addr×Obj)} {σ:St} {H:Hp} {s:Shared}
theorem pe_callSC {k:Nat} {f:Addr} {fd:FuncData} {ps:List Str} {sp:Sp} {x:Str} {p pos:Pos} {e:Expr} {es:List Expr} {t:TA} {pn:List (Addr×Obj)} {xe:Value→Shared→Prop} {R:St→Addr→Option Addr→Hp→Prop}
    (hx:Takes X pn xe R) (hxc:TakesC X pn xe R) (hex:X.ex=[]) (F:FnOk X.prog X.w X.K X.mg X.base (CXc X.prog X.w) k f fd ps sp) (hr:Room k X.A) (hg:Gl X x) (hm:X.mg x=some (.ref f)) (hk:PySem.W.keepIn X.K (.ref f)=true) (hb:Binds X.K fd ps [])
    (ha:PA (X.tried pn xe) (e::es) t) (hdb:(x == ("__debug__" : Str))=false:=by decide) (he:starEach (e::es) X.env=(false,eval e X.env)::starEach es X.env:=by rfl) (hpl:(backTo pos (starEach es X.env)).any (·.1)=false:=by rfl) :
    PE (X.tried pn xe) (.Call (.Name x p) (e::es) [] pos) (fCallS sp R t):=by
  intro pins s σ H Q I h
  refine wpAny_Call_Name_kw (ld_glob I hg hm ?_ hdb)
  refine PySem.W.callWith_K (h₀:=X.base) I.ok.mod.kin hk (thn (ha pos pins s σ H _ I h) fun us s1 zz=>?_) he hpl
  obtain ⟨vs,H1,I1,r,q⟩:=zz
  refine ⟨I1.kIn,?_⟩
  have hl:us.length=ps.length:=by rw [← r.length];exact F.len _ _ _ _ q
  have hbd:=hb s1 us I1.kIn (by rw [List.append_nil];exact hl)
  rw [List.append_nil] at hbd
  refine wpAny_call (codeAny_mono (F.run X.A X.stack s1 H1 ⟨us,[]⟩ us vs Q _ hr I1.env0 hbd r q) fun rr s' hq=>?_)
  cases rr with
  | error e=>
    have old:∀b,s1.heap.get? b=none→X.s₀.heap.get? b=none:=fun b z=>I1.old hex z
    rcases hq with ⟨a,C,od,H',rfl,ho,hgn,un,hok,⟨T,ex⟩,C',e2,hR⟩ | ⟨a,C,od,H',rfl,ho,hgn,un,hok,⟨b,T,ex⟩,C',e2,hR⟩
    · cases e2
      have I':Inv (X.tried pn xe) pins σ H' s':=I1.call' (ch:=[]) ho un hok hgn fun b z=>(nomatch z)
      refine hx pins σ H' s' a C od T I' ⟨old _ ex.new,old _ ex.newT,ex.un,ex.unT,ex.ob⟩ (fun p hp=>?_) hR
      have e1:=(I1.pin p (List.mem_append_left _ hp)).1
      exact ⟨fun z=>(by rw [z,ex.new] at e1;cases e1),fun z=>(by rw [z,ex.newT] at e1;cases e1)⟩
    · cases e2
      have I':Inv (X.tried pn xe) pins σ H' s':=I1.call' (ch:=[]) ho un hok hgn fun b z=>(nomatch z)
      refine hxc pins σ H' s' a C od b T I' ⟨old _ ex.new,old _ ex.newT,old _ ex.newB,ex.un,ex.unT,ex.unB,ex.ba,ex.bT,ex.obB,ex.ob⟩ (fun p hp=>?_) hR
      have e1:=(I1.pin p (List.mem_append_left _ hp)).1
      exact ⟨fun z=>(by rw [z,ex.new] at e1;cases e1),fun z=>(by rw [z,ex.newT] at e1;cases e1),fun z=>(by rw [z,ex.newB] at e1;cases e1)⟩
  | ok fl=>
    cases fl with
    | ret u=>exact I1.after hq
    | next=>exact False.elim hq
    | brk=>exact False.elim hq
    | cont=>exact False.elim hq
theorem Inv.trackC {a C b:Addr} {od:Option Addr} (I:Inv X pins σ H s) (hex:X.ex=[]) (new:X.s₀.heap.get? a=none) (un:H a=none) (e:ExcAtC a C od b s.heap) (hp:∀p∈X.pn++pins,p.1≠a):Inv X pins σ (upd H a (excC a C od b)) s:=by
  have nf:∀{b o},s.heap.get? b=some o→(∀vs,o.data≠.fields vs)→b≠a:=fun {b o} eb hd z=>by
    subst z
    obtain ⟨ox,vs,h1,_,h3,_⟩:=e
    rw [eb] at h1
    cases h1
    exact hd vs h3
  have nox:∀b:Addr,b∉X.ex:=fun b=>by rw [hex];simp
  have old:∀{b o},X.s₀.heap.get? b=some o→b≠a:=fun {b o} eb z=>by
    rw [z,new] at eb
    cases eb
  have ne:∀{b:Addr} {u:HO},H b=some u→b≠a:=fun {b u} q z=>by
    rw [z,un] at q
    cases q
  refine ⟨I.ok,I.os,I.bare,⟨fun b o eb n hb hx=>I.base.keep b o eb n hb hx,I.base.slot,fun b o eb n hx=>?_,I.base.there,fun b xs q=>?_,fun b o u q=>?_,fun b ps q=>?_⟩,I.loc,I.cell,?_,fun x c q=>?_,fun p hpp=>?_,fun b u q=>?_,I.len⟩
  · rw [upd_ne (old eb)]
    exact I.base.free b o eb n hx
  · have z:=I.base.tups b xs q
    rw [upd_ne (ne z)]
    exact z
  · have z:=I.base.frzs b o u q
    rw [upd_ne (ne z)]
    exact z
  · obtain ⟨m,z⟩:=I.base.tbls b ps q
    exact ⟨m,by rw [upd_ne (ne z)];exact z⟩
  · obtain ⟨m,⟨o,es,ep,eo,d,r⟩,_⟩:=I.loc
    rw [upd_ne (nf eo fun vs y=>by rw [d] at y;cases y)]
    exact I.free
  · obtain ⟨v,o,eo,d⟩:=I.cell x c q
    rw [upd_ne (nf eo fun vs y=>by rw [d] at y;cases y)]
    exact I.freeC x c q
  · obtain ⟨f1,f2,f3⟩:=I.pin p hpp
    refine ⟨f1,?_,f3⟩
    rw [upd_ne (hp p hpp)]
    exact f2
  · by_cases hb:b=a
    · subst hb
      rw [upd_same] at q
      cases q
      obtain ⟨ox,vs,h1,h2,h3,_⟩:=id e
      exact ⟨e,⟨ox,h1⟩,fun h1 h2 ⟨ox,vs,a1,a2,a3⟩ k=>⟨ox,vs,k _ a1,a2,a3⟩⟩
    · rw [upd_ne hb] at q
      refine (I.hok b u q).stay (fun c v _ z=>z) (fun c z=>?_) fun c xs z=>?_
      ·rw [upd_ne (ne z)];exact z
      ·rw [upd_ne (ne z)];exact z
end
section
variable {X:Cx} {body suite:List Stmt} {b₀:Stmt} {i:Nat} {n cls:Str} {np hpos pos:Pos} {D:Addr} {ts:Addr→TS} {tb:(St→Addr→Option Addr→Hp→Prop)→TS}
theorem ps_tryC (hst:X.stack=X.env::X.outer) (hfr:X.env.frame=some X.env.locals) (hex:X.ex=[]) (hN:X.N.Nodup) (hi:X.N[i]? = some n) (hl:X.env.scope.names.lookup n=some .local)
    (hb:∀R pn xe,Takes X pn xe R→TakesC X pn xe R→PSs (X.tried pn xe) body (tb R)) (hg:Gl X cls) (hm:X.mg cls=some (.ref D)) (clD:ExcCls X.K D) (hsu:∀a,PSs (X.caught a) (b₀::suite) (ts a))
    (hdb:(cls == ("__debug__" : Str))=false:=by decide) :
    PS X (.Try body [.ExceptHandler (some (.Name cls np)) (some n) (b₀::suite) hpos] [] [] pos) (tTryC i X.K D ts tb):=by
  intro pins s σ H Dn I h
  have hiσ:∀{σ':St} {H':Hp} {s':Shared},Inv X pins σ' H' s'→i<σ'.length:=fun J=>by rw [J.len];exact (List.getElem?_eq_some_iff.mp hi).1
  refine wpAny_Try_except (wpAny_mono (hb (tryRC i X.K D ts Dn) (X.pn++pins) (fun e s1=>∃a C od T σ1 H1,e = .ref a∧Inv X pins σ1 H1 s1∧((ExcT X.s₀.heap s1.heap H1 a C od T∧∀p∈X.pn++pins,p.1≠a∧p.1≠T)∨∃b,ExcTC X.s₀.heap s1.heap H1 a C od b T∧∀p∈X.pn++pins,p.1≠a∧p.1≠T∧p.1≠b)∧tryRC i X.K D ts Dn σ1 C od H1) ?_ ?_ [] s σ H Dn (I.tried _) h) (fun f s1 hf=>?_) fun e s1 hx=>?_)
  · intro pins' σ1 H1 s1 a C od T J ex hp hR
    exact ⟨a,C,od,T,σ1,H1,rfl,I.untried J,.inl ⟨ex,hp⟩,hR⟩
  · intro pins' σ1 H1 s1 a C od b T J ex hp hR
    exact ⟨a,C,od,T,σ1,H1,rfl,I.untried J,.inr ⟨b,ex,hp⟩,hR⟩
  · cases f with
    | next=>obtain ⟨σ',H',J,q⟩:=hf;exact wpAny_execs_nil ⟨σ',H',I.untried J,q⟩
    | brk=>obtain ⟨σ',H',J,q⟩:=hf;exact ⟨σ',H',I.untried J,q⟩
    | cont=>obtain ⟨σ',H',J,q⟩:=hf;exact ⟨σ',H',I.untried J,q⟩
    | ret u=>obtain ⟨v,σ',H',J,r,q⟩:=hf;exact ⟨v,σ',H',I.untried J,r,q⟩
  · obtain ⟨a,C,od,T,σ1,H1,rfl,J,exc,⟨clC,hCD,hne⟩,hR⟩:=hx
    obtain ⟨cv,new,newT,un,unT,hp,⟨oe,vs,oT,tts,t1,t2,t3,t4,t5,t6,t7,t8,t9⟩,tk⟩:∃cv:Value,X.s₀.heap.get? a=none∧X.s₀.heap.get? T=none∧H1 a=none∧H1 T=none∧(∀p∈X.pn++pins,p.1≠a∧p.1≠T)∧
        (∃oe vs oT ts,s1.heap.get? a=some oe∧(oe.cls,oe.dict)=(Value.ref C,od)∧oe.data = .fields vs∧vs[2]? = some cv∧vs[1]? = some (.ref T)∧T≠a∧s1.heap.get? T=some oT∧oT.data = .fields ts∧ts[3]? = some .none)∧
        (cv = .none∨∃b,cv = .ref b∧X.s₀.heap.get? b=none∧H1 b=none∧b≠a∧b≠T∧BehB s1.heap b∧∀p∈X.pn++pins,p.1≠b):=by
      rcases exc with ⟨ex,hp⟩ | ⟨b,ex,hp⟩
      ·exact ⟨.none,ex.new,ex.newT,ex.un,ex.unT,hp,ex.ob,.inl rfl⟩
      ·exact ⟨.ref b,ex.new,ex.newT,ex.un,ex.unT,fun p h=>⟨(hp p h).1,(hp p h).2.1⟩,ex.ob,.inr ⟨b,rfl,ex.newB,ex.unB,ex.ba,ex.bT,ex.obB,fun p h=>(hp p h).2.2⟩⟩
    have fr:=J.ok.frames
    rw [hst] at fr
    have st0:(PySem.W.hideAll s1.heap (frs X.stack++[a,T])).StaysIn s1.heap:=fun b o e=>PySem.W.of_hideAll _ e
    have na:(PySem.W.hideAll s1.heap (frs X.stack++[a,T])).get? a=none:=PySem.W.hideAll_none _ (by simp)
    have ff:s1.heap.FunFrames (PySem.W.hideAll s1.heap (frs X.stack++[a,T])) (X.env::X.outer):=by
      rw [← hst]
      exact PySem.W.funFrames_hide J.stack fun env he b hb=>List.mem_append_left _ (List.mem_filterMap.mpr ⟨env,he,hb⟩)
    have tr0:TrcC (PySem.W.hideAll s1.heap (frs X.stack++[a,T])) s1.heap a (.ref C,od) cv .none T:=⟨oe,vs,oT,tts,t1,t2,t3,t4,t5,PySem.W.hideAll_none _ (by simp),t6,t7,t8,t9⟩
    have gone:∀(h':Heap),(PySem.W.hideAll s1.heap (frs X.stack++[a,T])).StaysIn h'→s1.heap.UpToSlots h'→Inv X pins σ1 H1 {s1 with heap:=h'}:=fun h' k1 k2=>by
      refine J.gone (t':=s1.toks) (ch:=[a,T]) hex (fun b hb=>?_) (fun b o hf hc e=>k1 b o (PySem.W.hideAll_get _ e (by rw [List.mem_append];exact fun z=>z.elim hf hc))) fun b o e hd=>k2 b o e hd
      simp only [List.mem_cons,List.not_mem_nil,or_false] at hb
      rcases hb with rfl | rfl
      ·exact ⟨new,un,fun _ _ _ _=>trivial,⟨oe,vs,t1,t3⟩,fun p q=>(hp p q).1⟩
      ·exact ⟨newT,unT,fun _ _ _ _=>trivial,⟨oT,tts,t7,t8⟩,fun p q=>(hp p q).2⟩
    refine note_anyC fr ff hfr tr0 st0 na fun h4 x4=>?_
    obtain ⟨T4,tr4⟩:=x4.trc
    refine flight_sC (s:={s1 with heap:=h4}) x4.frames tr4 x4.stays fun h5 x5=>?_
    obtain ⟨T5,tr5⟩:=x5.trc
    have J5:=gone h5 x5.stays (x4.slots.trans x5.slots)
    refine wpAny_handleBy_cons (codeAny_handlers_test (ld_glob (J5.caught a) hg hm ?_ hdb)) (by intro q;cases q)
    obtain ⟨oe5,vs5,oT5,ts5,u1,u2,u3,_⟩:=id tr5
    obtain ⟨bm,N,nm,q,bs,hdct,sn,sub,ab,col,dd,k0,k1,k2,k3,k5,hC,hmro⟩:=clC _ J5.kIn
    obtain ⟨bm',N',nm',q',bs',hdct',sn',sub',ab',col',dd',j0,j1,j2,j3,j5,mN',hD,hN0',hni',T0',_⟩:=exc_obj J5.kIn clD
    have hin:bm.contains (.ref D)=true:=by
      have z:=hmro _ _ hCD
      rw [List.contains_cons] at z
      rcases Bool.or_eq_true_iff.mp z with z | z
      ·exact absurd (Value.ref.inj (beq_iff_eq.mp z)).symm hne
      ·exact z
    refine exc_match hC hD u1 (congrArg Prod.fst u2) (T0'.hasType (by decide)) hin ?_
    refine codeAny_handlers_suite_as ?_
    refine flight_sC (s:={s1 with heap:=h5}) x5.frames tr5 x5.stays fun h6 x6=>?_
    have J6:=gone h6 x6.stays ((x4.slots.trans x5.slots).trans x6.slots)
    obtain ⟨T6,oe6,vs6,oT6,ts6,v1,v2,v3,v4,_⟩:=x6.trc
    obtain ⟨H7,J7,sm,cau⟩:∃H7,Inv X pins σ1 H7 {s1 with heap:=h6}∧Same H1 H7∧CauC H7 a C od:=by
      rcases tk with rfl | ⟨b,rfl,newB,unB,ba,bT,obB,pb⟩
      ·exact ⟨_,J6.track hex new un ⟨oe6,vs6,v1,v2,v3,v4⟩ fun p q=>(hp p q).1,same_upd un,.inl upd_same⟩
      · obtain ⟨ob,Db,odb,ws,eb,cb,db,wb⟩:=obB
        have bl:b∉frs X.stack++[a,T]:=fun hm=>by
          rcases List.mem_append.mp hm with z | z
          · obtain ⟨_,o2,e2,hd2⟩:=J.stack.mem z
            rw [eb] at e2
            cases e2
            exact hd2 _ db
          · simp only [List.mem_cons,List.not_mem_nil,or_false] at z
            exact z.elim ba bT
        have eb6:h6.get? b=some ob:=x6.stays _ _ (PySem.W.hideAll_get _ eb bl)
        have Jb:=J6.track (a:=b) (C:=Db) (od:=odb) hex newB unB ⟨ob,ws,eb6,cb,db,wb⟩ pb
        have un':upd H1 b (excX b Db odb) a=none:=by rw [upd_ne (Ne.symm ba)];exact un
        exact ⟨_,Jb.trackC hex new un' ⟨oe6,vs6,v1,v2,v3,v4⟩ fun p q=>(hp p q).1,(same_upd unB).trans (same_upd un'),.inr ⟨b,Db,odb,upd_same,ba,by rw [upd_ne ba];exact upd_same⟩⟩
    refine store_ok2 J7 hN hi (.inl hl) (v:=.ref a) rfl (fun s8 J8 _=>?_) (.inr hl)
    refine wpAny_mono (hsu a pins s8 _ _ _ (J8.caught a) (hR a _ un sm cau)) (fun f s9 hf=>?_) fun _ _ z=>False.elim z
    show wpAny (model X.prog X.w) X.A (do bindName X.env n .none;unbindBehindTheSuite X.env n hpos) (fun _ s₃=>SP X pins Dn f s₃) X.xe s9
    have go:∀{σ':St} {H':Hp} (Q':Shared→Prop),Inv X pins σ' H' s9→(∀s',Inv X pins (σ'.set i none) H' s'→Q' s')→wpAny (model X.prog X.w) X.A (do bindName X.env n .none;unbindBehindTheSuite X.env n hpos) (fun _ s₃=>Q' s₃) X.xe s9:=fun {σ' H'} Q' J9 hq=>by
      refine wpAny_bind ?_
      unfold bindName
      refine wpAny_bind (wpAny_holding (wpAny_point (wpAny_bind (store_ok2 J9 hN hi (.inl hl) (v:=.non) rfl (fun s10 J10 _=>wpAny_point ?_) (.inr hl)))))
      unfold unbindBehindTheSuite
      refine wpAny_onRaise (unbind_ok (v:=.non) J10 hN hi hl (List.getElem?_set_self (hiσ J9)) fun s11 J11=>?_)
      rw [List.set_set] at J11
      exact hq s11 J11
    cases f with
    | next=>obtain ⟨σ',H',J9,q⟩:=hf;exact go _ (I.uncaught J9) fun s' J'=>⟨_,H',J',q⟩
    | brk=>obtain ⟨σ',H',J9,q⟩:=hf;exact go _ (I.uncaught J9) fun s' J'=>⟨_,H',J',q⟩
    | cont=>obtain ⟨σ',H',J9,q⟩:=hf;exact go _ (I.uncaught J9) fun s' J'=>⟨_,H',J',q⟩
    | ret u=>obtain ⟨v,σ',H',J9,r,q⟩:=hf;exact go _ (I.uncaught J9) fun s' J'=>⟨v,_,H',J',r,q⟩
end
end L2
namespace L2
open PySem PySem.Spec
def fNotInS (K:PySem.W.Frag):R2:=fun x y H Q=>isStr x fun i=>isStr y fun j=>Q (.bl (!(!(Builtin.Str.occurrences j i 0 j.length 1).isEmpty))) H
@[simp ↓] theorem fNotInS_w (K:PySem.W.Frag) x y H Q:fNotInS K x y H Q=(isStr x fun i=>isStr y fun j=>Q (.bl (!(!(Builtin.Str.occurrences j i 0 j.length 1).isEmpty))) H):=rfl
theorem fNotInS_t {K:PySem.W.Frag} {x y H Q} (h:fNotInS K x y H Q):rNotInA K x y H Q:=by
  obtain ⟨i,rfl,h1⟩:=isStr.out h
  obtain ⟨j,rfl,h2⟩:=isStr.out h1
  exact .inr ⟨i,j,rfl,rfl,h2⟩
theorem fnotinS {X:Cx} {K:PySem.W.Frag} (hK:X.K=K):OpR X (compareOp .NotIn) (fNotInS K):=(notinK hK).mono fNotInS_t
end L2
namespace K14
open PySem L2
def top (i:Nat):Stmt:=PySem.Challenge.pw_pointways_k14_whole_no_web_texts.main.body.getD i (.Pass ⟨0,0,0,0⟩)
abbrev s_is_list:Stmt:=top 16
abbrev s_is_name:Stmt:=top 17
abbrev s_are_points:Stmt:=top 18
abbrev s_is_tie:Stmt:=top 19
abbrev s_are_ties:Stmt:=top 20
abbrev s_Web_init:Stmt:=inClass (top 21) 0
abbrev s_Web_points:Stmt:=inClass (top 21) 1
abbrev s_Web_ties:Stmt:=inClass (top 21) 2
abbrev s_Web_many:Stmt:=inClass (top 21) 3
abbrev s_web_text:Stmt:=top 23
abbrev s_pairs_in:Stmt:=top 24
abbrev s_read_web:Stmt:=top 25
abbrev s_pot:Stmt:=top 27
abbrev s_take:Stmt:=top 28
abbrev s_names:Stmt:=top 29
abbrev s_mixed:Stmt:=top 30
abbrev s_tie:Stmt:=top 31
abbrev s_web:Stmt:=top 32
abbrev s_classes:Stmt:=top 33
abbrev s_text:Stmt:=top 34
abbrev s_l_is_name:Stmt:=top 35
abbrev s_reading:Stmt:=top 36
abbrev s_sign:Stmt:=top 37
abbrev s_words:Stmt:=top 38
abbrev s_spoilt:Stmt:=top 39
abbrev s_right:Stmt:=top 40
abbrev s_law:Stmt:=top 41
theorem sc_is_list:FnScope ["thing"] ["thing"] (defScope s_is_list):=⟨rfl,rfl,rfl,by decide +kernel,rfl,by decide +kernel,by decide +kernel⟩
theorem sc_is_name:FnScope ["thing"] ["thing"] (defScope s_is_name):=⟨rfl,rfl,rfl,by decide +kernel,rfl,by decide +kernel,by decide +kernel⟩
theorem sc_are_points:FnScope ["thing"] ["thing"] (defScope s_are_points):=⟨rfl,rfl,rfl,by decide +kernel,rfl,by decide +kernel,by decide +kernel⟩
theorem sc_is_tie:FnScope ["thing", "points"] ["thing", "points"] (defScope s_is_tie):=⟨rfl,rfl,rfl,by decide +kernel,rfl,by decide +kernel,by decide +kernel⟩
theorem sc_are_ties:FnScope ["thing", "points"] ["thing", "points"] (defScope s_are_ties):=⟨rfl,rfl,rfl,by decide +kernel,rfl,by decide +kernel,by decide +kernel⟩
theorem sc_Web_init:FnScope ["self", "points", "ties"] ["self", "points", "ties"] (defScope s_Web_init):=⟨rfl,rfl,rfl,by decide +kernel,rfl,by decide +kernel,by decide +kernel⟩
theorem sc_Web_points:FnScope ["self"] ["self"] (defScope s_Web_points):=⟨rfl,rfl,rfl,by decide +kernel,rfl,by decide +kernel,by decide +kernel⟩
theorem sc_Web_ties:FnScope ["self"] ["self"] (defScope s_Web_ties):=⟨rfl,rfl,rfl,by decide +kernel,rfl,by decide +kernel,by decide +kernel⟩
theorem sc_Web_many:FnScope ["self"] ["self"] (defScope s_Web_many):=⟨rfl,rfl,rfl,by decide +kernel,rfl,by decide +kernel,by decide +kernel⟩
theorem sc_web_text:FnScope ["web", "points", "ties"] ["web"] (defScope s_web_text):=⟨rfl,rfl,rfl,by decide +kernel,rfl,by decide +kernel,by decide +kernel⟩
theorem sc_pairs_in:FnScope ["text"] ["text"] (defScope s_pairs_in):=⟨rfl,rfl,rfl,by decide +kernel,rfl,by decide +kernel,by decide +kernel⟩
theorem sc_read_web:FnScope ["text", "points", "mark", "ties", "web"] ["text"] (defScope s_read_web):=⟨rfl,rfl,rfl,by decide +kernel,rfl,by decide +kernel,by decide +kernel⟩
theorem sc_pot:FnScope ["_law_script", "_law_k", "_law_cell"] ["_law_script", "_law_k"] (defScope s_pot):=⟨rfl,rfl,rfl,by decide +kernel,rfl,by decide +kernel,by decide +kernel⟩
theorem sc_take:FnScope ["_law_pot_here", "_law_many", "_law_digit"] ["_law_pot_here", "_law_many"] (defScope s_take):=⟨rfl,rfl,rfl,by decide +kernel,rfl,by decide +kernel,by decide +kernel⟩
theorem sc_names:FnScope ["_law_pot_here", "_law_many", "_law_letters", "_law_begin", "_law_p", "_law_q", "_law_some", "_law_found", "_law_k", "_law_word", "_law_j"] ["_law_pot_here", "_law_many"] (defScope s_names):=⟨rfl,rfl,rfl,by decide +kernel,rfl,by decide +kernel,by decide +kernel⟩
theorem sc_mixed:FnScope ["_law_pot_here", "_law_things", "_law_found", "_law_thing"] ["_law_pot_here", "_law_things"] (defScope s_mixed):=⟨rfl,rfl,rfl,by decide +kernel,rfl,by decide +kernel,by decide +kernel⟩
theorem sc_tie:FnScope ["_law_pot_here", "_law_names_here", "_law_a", "_law_b"] ["_law_pot_here", "_law_names_here"] (defScope s_tie):=⟨rfl,rfl,rfl,by decide +kernel,rfl,by decide +kernel,by decide +kernel⟩
theorem sc_web:FnScope ["_law_pot_here", "_law_points", "_law_most", "_law_names_here", "_law_kind", "_law_ties", "_law_row", "_law_k", "_law_turns"] ["_law_pot_here", "_law_points", "_law_most"] (defScope s_web):=⟨rfl,rfl,rfl,by decide +kernel,rfl,by decide +kernel,by decide +kernel⟩
theorem sc_classes:FnScope ["_law_e", "_law_found", "_law_words_here"] ["_law_e"] (defScope s_classes):=⟨rfl,rfl,rfl,by decide +kernel,rfl,by decide +kernel,by decide +kernel⟩
theorem sc_text:FnScope ["_law_web_here"] ["_law_web_here"] (defScope s_text):=⟨rfl,rfl,rfl,by decide +kernel,rfl,by decide +kernel,by decide +kernel⟩
theorem sc_l_is_name:FnScope ["_law_word", "_law_others"] ["_law_word"] (defScope s_l_is_name):=⟨rfl,rfl,rfl,by decide +kernel,rfl,by decide +kernel,by decide +kernel⟩
theorem sc_reading:FnScope ["_law_text_here", "_law_head", "_law_parting", "_law_rest", "_law_names_here", "_law_ties"] ["_law_text_here"] (defScope s_reading):=⟨rfl,rfl,rfl,by decide +kernel,rfl,by decide +kernel,by decide +kernel⟩
theorem sc_sign:FnScope ["_law_pot_here", "_law_text_here", "_law_some", "_law_sign_here", "_law_at", "_law_kind"] ["_law_pot_here", "_law_text_here"] (defScope s_sign):=⟨rfl,rfl,rfl,by decide +kernel,rfl,by decide +kernel,by decide +kernel⟩
theorem sc_words:FnScope ["_law_pot_here", "_law_text_here", "_law_words_here", "_law_at", "_law_other"] ["_law_pot_here", "_law_text_here"] (defScope s_words):=⟨rfl,rfl,rfl,by decide +kernel,rfl,by decide +kernel,by decide +kernel⟩
theorem sc_spoilt:FnScope ["_law_pot_here", "_law_text_here", "_law_kind", "_law_some", "_law_turn"] ["_law_pot_here", "_law_text_here"] (defScope s_spoilt):=⟨rfl,rfl,rfl,by decide +kernel,rfl,by decide +kernel,by decide +kernel⟩
theorem sc_right:FnScope ["_law_thing", "_law_due", "_law_found", "_law_told", "_law_e"] ["_law_thing"] (defScope s_right):=⟨rfl,rfl,rfl,by decide +kernel,rfl,by decide +kernel,by decide +kernel⟩
theorem sc_law:FnScope ["_law_script", "_law_fixed", "_law_k", "_law_pot_here", "_law_text_here", "_law_some", "_law_odd"] ["_law_script"] (defScope s_law):=⟨rfl,rfl,rfl,by decide +kernel,rfl,by decide +kernel,by decide +kernel⟩
set_option genInjectivity false in
structure Adr where
  f_is_list:Addr
  fd_is_list:FuncData
  f_is_name:Addr
  fd_is_name:FuncData
  f_are_points:Addr
  fd_are_points:FuncData
  f_is_tie:Addr
  fd_is_tie:FuncData
  f_are_ties:Addr
  fd_are_ties:FuncData
  f_Web_init:Addr
  fd_Web_init:FuncData
  f_Web_points:Addr
  fd_Web_points:FuncData
  f_Web_ties:Addr
  fd_Web_ties:FuncData
  f_Web_many:Addr
  fd_Web_many:FuncData
  f_web_text:Addr
  fd_web_text:FuncData
  f_pairs_in:Addr
  fd_pairs_in:FuncData
  f_read_web:Addr
  fd_read_web:FuncData
  f_pot:Addr
  fd_pot:FuncData
  f_take:Addr
  fd_take:FuncData
  f_names:Addr
  fd_names:FuncData
  f_mixed:Addr
  fd_mixed:FuncData
  f_tie:Addr
  fd_tie:FuncData
  f_web:Addr
  fd_web:FuncData
  f_classes:Addr
  fd_classes:FuncData
  f_text:Addr
  fd_text:FuncData
  f_l_is_name:Addr
  fd_l_is_name:FuncData
  f_reading:Addr
  fd_reading:FuncData
  f_sign:Addr
  fd_sign:FuncData
  f_words:Addr
  fd_words:FuncData
  f_spoilt:Addr
  fd_spoilt:FuncData
  f_right:Addr
  fd_right:FuncData
  f_law:Addr
  fd_law:FuncData
  u_LETTERS:Value
  u_MOST_LETTERS:Value
  u_MOST_POINTS:Value
  u_MOST_TIES:Value
  C_Web:Addr
  C_PointError:Addr
  C_NoWeb:Addr
  C_NoText:Addr
  C_NoNumbers:Addr
  C_NoLot:Addr
  C_NoPoint:Addr
  C_NoPointing:Addr
  C_Parted:Addr
  C_Barred:Addr
  C_TooMuch:Addr
structure Txt (K:PySem.W.Frag) (mg:Str→Option Value) (a:Adr):Prop where
  F_is_list:Fun K "is_list" "is_list" s_is_list a.f_is_list a.fd_is_list
  b_is_list:Binds K a.fd_is_list ["thing"] []
  m_is_list:mg "is_list" = some (.ref a.f_is_list)
  F_is_name:Fun K "is_name" "is_name" s_is_name a.f_is_name a.fd_is_name
  b_is_name:Binds K a.fd_is_name ["thing"] []
  m_is_name:mg "is_name" = some (.ref a.f_is_name)
  F_are_points:Fun K "are_points" "are_points" s_are_points a.f_are_points a.fd_are_points
  b_are_points:Binds K a.fd_are_points ["thing"] []
  m_are_points:mg "are_points" = some (.ref a.f_are_points)
  F_is_tie:Fun K "is_tie" "is_tie" s_is_tie a.f_is_tie a.fd_is_tie
  b_is_tie:Binds K a.fd_is_tie ["thing", "points"] []
  m_is_tie:mg "is_tie" = some (.ref a.f_is_tie)
  F_are_ties:Fun K "are_ties" "are_ties" s_are_ties a.f_are_ties a.fd_are_ties
  b_are_ties:Binds K a.fd_are_ties ["thing", "points"] []
  m_are_ties:mg "are_ties" = some (.ref a.f_are_ties)
  F_Web_init:Fun K "__init__" "Web.__init__" s_Web_init a.f_Web_init a.fd_Web_init
  b_Web_init:Binds K a.fd_Web_init ["self", "points", "ties"] []
  F_Web_points:Fun K "points" "Web.points" s_Web_points a.f_Web_points a.fd_Web_points
  b_Web_points:Binds K a.fd_Web_points ["self"] []
  F_Web_ties:Fun K "ties" "Web.ties" s_Web_ties a.f_Web_ties a.fd_Web_ties
  b_Web_ties:Binds K a.fd_Web_ties ["self"] []
  F_Web_many:Fun K "many" "Web.many" s_Web_many a.f_Web_many a.fd_Web_many
  b_Web_many:Binds K a.fd_Web_many ["self"] []
  F_web_text:Fun K "web_text" "web_text" s_web_text a.f_web_text a.fd_web_text
  b_web_text:Binds K a.fd_web_text ["web"] []
  m_web_text:mg "web_text" = some (.ref a.f_web_text)
  F_pairs_in:Fun K "pairs_in" "pairs_in" s_pairs_in a.f_pairs_in a.fd_pairs_in
  b_pairs_in:Binds K a.fd_pairs_in ["text"] []
  m_pairs_in:mg "pairs_in" = some (.ref a.f_pairs_in)
  F_read_web:Fun K "read_web" "read_web" s_read_web a.f_read_web a.fd_read_web
  b_read_web:Binds K a.fd_read_web ["text"] []
  m_read_web:mg "read_web" = some (.ref a.f_read_web)
  F_pot:Fun K "_law_pot" "_law_pot" s_pot a.f_pot a.fd_pot
  b_pot:Binds K a.fd_pot ["_law_script", "_law_k"] []
  m_pot:mg "_law_pot" = some (.ref a.f_pot)
  F_take:Fun K "_law_take" "_law_take" s_take a.f_take a.fd_take
  b_take:Binds K a.fd_take ["_law_pot_here", "_law_many"] []
  m_take:mg "_law_take" = some (.ref a.f_take)
  F_names:Fun K "_law_names" "_law_names" s_names a.f_names a.fd_names
  b_names:Binds K a.fd_names ["_law_pot_here", "_law_many"] []
  m_names:mg "_law_names" = some (.ref a.f_names)
  F_mixed:Fun K "_law_mixed" "_law_mixed" s_mixed a.f_mixed a.fd_mixed
  b_mixed:Binds K a.fd_mixed ["_law_pot_here", "_law_things"] []
  m_mixed:mg "_law_mixed" = some (.ref a.f_mixed)
  F_tie:Fun K "_law_tie" "_law_tie" s_tie a.f_tie a.fd_tie
  b_tie:Binds K a.fd_tie ["_law_pot_here", "_law_names_here"] []
  m_tie:mg "_law_tie" = some (.ref a.f_tie)
  F_web:Fun K "_law_web" "_law_web" s_web a.f_web a.fd_web
  b_web:Binds K a.fd_web ["_law_pot_here", "_law_points", "_law_most"] []
  m_web:mg "_law_web" = some (.ref a.f_web)
  F_classes:Fun K "_law_classes" "_law_classes" s_classes a.f_classes a.fd_classes
  b_classes:Binds K a.fd_classes ["_law_e"] []
  m_classes:mg "_law_classes" = some (.ref a.f_classes)
  F_text:Fun K "_law_text" "_law_text" s_text a.f_text a.fd_text
  b_text:Binds K a.fd_text ["_law_web_here"] []
  m_text:mg "_law_text" = some (.ref a.f_text)
  F_l_is_name:Fun K "_law_is_name" "_law_is_name" s_l_is_name a.f_l_is_name a.fd_l_is_name
  b_l_is_name:Binds K a.fd_l_is_name ["_law_word"] []
  m_l_is_name:mg "_law_is_name" = some (.ref a.f_l_is_name)
  F_reading:Fun K "_law_reading" "_law_reading" s_reading a.f_reading a.fd_reading
  b_reading:Binds K a.fd_reading ["_law_text_here"] []
  m_reading:mg "_law_reading" = some (.ref a.f_reading)
  F_sign:Fun K "_law_sign" "_law_sign" s_sign a.f_sign a.fd_sign
  b_sign:Binds K a.fd_sign ["_law_pot_here", "_law_text_here"] []
  m_sign:mg "_law_sign" = some (.ref a.f_sign)
  F_words:Fun K "_law_words" "_law_words" s_words a.f_words a.fd_words
  b_words:Binds K a.fd_words ["_law_pot_here", "_law_text_here"] []
  m_words:mg "_law_words" = some (.ref a.f_words)
  F_spoilt:Fun K "_law_spoilt" "_law_spoilt" s_spoilt a.f_spoilt a.fd_spoilt
  b_spoilt:Binds K a.fd_spoilt ["_law_pot_here", "_law_text_here"] []
  m_spoilt:mg "_law_spoilt" = some (.ref a.f_spoilt)
  F_right:Fun K "_law_right" "_law_right" s_right a.f_right a.fd_right
  b_right:Binds K a.fd_right ["_law_thing"] []
  m_right:mg "_law_right" = some (.ref a.f_right)
  F_law:Fun K "law" "law" s_law a.f_law a.fd_law
  b_law:Binds K a.fd_law ["_law_script"] []
  m_law:mg "law" = some (.ref a.f_law)
  h_LETTERS:mg "LETTERS" = some a.u_LETTERS
  r_LETTERS:RelV (.str "abcdefghijklmnopqrstuvwxyz") a.u_LETTERS
  h_MOST_LETTERS:mg "MOST_LETTERS" = some a.u_MOST_LETTERS
  r_MOST_LETTERS:RelV (.int 4) a.u_MOST_LETTERS
  h_MOST_POINTS:mg "MOST_POINTS" = some a.u_MOST_POINTS
  r_MOST_POINTS:RelV (.int 9) a.u_MOST_POINTS
  h_MOST_TIES:mg "MOST_TIES" = some a.u_MOST_TIES
  r_MOST_TIES:RelV (.int 20) a.u_MOST_TIES
  m_Web:mg "Web" = some (.ref a.C_Web)
  c_Web:Cls K a.C_Web
  n_names:NoAttr K a.C_Web "names"
  n_pairs:NoAttr K a.C_Web "pairs"
  K_Web:Mk K a.C_Web a.f_Web_init
  M_Web_points:Meth K a.C_Web "points" a.f_Web_points
  M_Web_ties:Meth K a.C_Web "ties" a.f_Web_ties
  M_Web_many:Meth K a.C_Web "many" a.f_Web_many
  m_PointError:mg "PointError" = some (.ref a.C_PointError)
  m_NoWeb:mg "NoWeb" = some (.ref a.C_NoWeb)
  m_NoText:mg "NoText" = some (.ref a.C_NoText)
  m_NoNumbers:mg "NoNumbers" = some (.ref a.C_NoNumbers)
  m_NoLot:mg "NoLot" = some (.ref a.C_NoLot)
  m_NoPoint:mg "NoPoint" = some (.ref a.C_NoPoint)
  m_NoPointing:mg "NoPointing" = some (.ref a.C_NoPointing)
  m_Parted:mg "Parted" = some (.ref a.C_Parted)
  m_Barred:mg "Barred" = some (.ref a.C_Barred)
  m_TooMuch:mg "TooMuch" = some (.ref a.C_TooMuch)
  x_NoText:ExcCls K a.C_NoText
  x_PointError:ExcCls K a.C_PointError
  x_NoWeb:ExcCls K a.C_NoWeb
  s_NoWeb:PySem.W.mroIn K a.C_NoWeb (.ref a.C_NoWeb)=some true∧PySem.W.mroIn K a.C_NoWeb (.type "BaseException")=some true
  l_NoText:ExcAsk K a.C_NoText
  p_NoText_PointError:PySem.W.mroIn K a.C_NoText (.ref a.C_PointError)=some true∧a.C_NoText≠a.C_PointError
  k_NoText_NoWeb:kitE K a.C_NoText (.ref a.C_NoWeb)=some false
  k_NoText_NoText:kitE K a.C_NoText (.ref a.C_NoText)=some true
  k_NoText_NoNumbers:kitE K a.C_NoText (.ref a.C_NoNumbers)=some false
  k_NoText_NoLot:kitE K a.C_NoText (.ref a.C_NoLot)=some false
  k_NoText_NoPoint:kitE K a.C_NoText (.ref a.C_NoPoint)=some false
  k_NoText_NoPointing:kitE K a.C_NoText (.ref a.C_NoPointing)=some false
  k_NoText_Parted:kitE K a.C_NoText (.ref a.C_Parted)=some false
  k_NoText_Barred:kitE K a.C_NoText (.ref a.C_Barred)=some false
  k_NoText_TooMuch:kitE K a.C_NoText (.ref a.C_TooMuch)=some false
  k_NoText_ValueError:kitE K a.C_NoText (.ty "ValueError")=some true
  z_ValueError:mg "ValueError" = none
  nm:Nm mg
  nm2:Nm2 mg
  nm3:Nm3 mg
end K14
namespace K14
open PySem L2
variable {P:Program} {w:World} {K:PySem.W.Frag} {mg:Str→Option Value} {base:Heap} {a:Adr}
def Pot (H:Hp) (p:Addr):Prop:=∃x y:Int,H p=some (.lst [.int x,.int y])∧0≤x∧0≤y∧y<4294967296
def sp_pot (K:PySem.W.Frag):Sp:=fun vs H Q _=>∃(l:Addr) (ns:List Int) (k:Nat),vs=[.ref l,.int k]∧SqL K H l (ns.map V.int)∧k<100∧∀p H',H p=none→Pot H' p→But p H H'→Q (.ref p) H'
def sp_take:Sp:=fun vs H Q _=>∃(p:Addr) (m:Int),vs=[.ref p,.int m]∧Pot H p∧0<m∧m<1000000∧∀(d:Int) H',0≤d→d<m→Pot H' p→But p H H'→Q (.int d) H'
theorem ok_pot (T:Txt K mg a):FnOk P w K mg base CX0 1 a.f_pot a.fd_pot ["_law_script", "_law_k"] (sp_pot K):=by
  refine T.F_pot.okL sc_pot (fun vs H Q E h=>?_) (fun cdv A outer s H vs Q E hr h=>?_)
  · obtain ⟨l,ns,k,rfl,_⟩:=h
    rfl
  · obtain ⟨l,ns,k,rfl,hS,hk,q⟩:=h
    refine ⟨_,(pss_cons (ps_set (i:=2) sc_pot.nd rfl (Or.inl rfl) (pe_ifExp (fpt_cmpR fop_lt (fpv 1) (pe_callB (flenQk (K:=K) rfl) rfl T.nm.len PySem.boot_len (pa_cons (fpv 0) pa_nil)) (nomark _)) (pe_ix (fixQk (K:=K) rfl) (fpv 0) (fpv 1) (fun _ _=>rfl)) pe_int))
      (pss_one (ps_ret (pe_lst (pa_cons (pe_callB (fcall_max2 rfl) rfl T.nm.max boot_max (pa_cons pe_int (pa_cons (pe_op fop_sub (pe_callB fcall_abs rfl T.nm.abs boot_abs (pa_cons (fpv 2) pa_nil)) (pe_op fop_pow pe_int pe_int)) pa_nil))) (pa_cons (pe_op fop_add (pe_op fop_add (pe_op fop_mod (pe_callB fcall_abs rfl T.nm.abs boot_abs (pa_cons (fpv 2) pa_nil)) pe_int) (pe_op fop_mul pe_int (fpv 1))) pe_int) pa_nil)))))),?_⟩
    have fin:∀(x y:Int),0≤x→0≤y→y<4294967296→∀p:Addr,H p=none→Q (.ref p) (upd H p (.lst [.int x,.int y])):=fun x y h1 h2 h3 p hp=>
      q p _ hp ⟨x,y,upd_same,h1,h2,h3⟩ fun b o hb e=>by rw [upd_ne hb];exact e
    simp -dsimp[cxOf,stC,-Bool.exists_bool,-List.map_take,-Prod.forall,-Prod.exists]
    refine ⟨_,.inl hS,tBr.of (fun h=>?_) (fun h=>?_)⟩
    · have hlt:k<ns.length:=by simpa using h
      simp -dsimp[cxOf,stC,-Bool.exists_bool,-List.map_take,-Prod.forall,-Prod.exists]
      refine ⟨_,.inl hS,.int (ns[k]'hlt),atI_nat (by simp [hlt]),?_⟩
      simp -dsimp[cxOf,stC,-Bool.exists_bool,-List.map_take,-Prod.forall,-Prod.exists]
      exact fin _ _ (zpa _) (zpb _ _) (zpc _ hk)
    · simp -dsimp[cxOf,stC,-Bool.exists_bool,-List.map_take,-Prod.forall,-Prod.exists]
      exact fin _ _ (by first | omega | (split <;> omega)) (by omega) (by omega)
theorem ok_take (T:Txt K mg a):FnOk P w K mg base CX0 1 a.f_take a.fd_take ["_law_pot_here", "_law_many"] sp_take:=by
  refine T.F_take.okL sc_take (fun vs H Q E h=>?_) (fun cdv A outer s H vs Q E hr h=>?_)
  · obtain ⟨p,m,rfl,_⟩:=h
    rfl
  · obtain ⟨p,m,rfl,⟨x,y,hp,hx,hy,hy2⟩,hm,hm2,q⟩:=h
    refine ⟨_,(pss_cons (ps_if (fpt_cmpR fop_gt (pe_ix (fixQk (K:=K) rfl) (fpv 0) pe_int (fun _ _=>rfl)) pe_int (nomark _)) (pss_cons (ps_asg (pe_callB fcall_divmod rfl T.nm.divmod boot_divmod (pa_cons (pe_ix (fixQk (K:=K) rfl) (fpv 0) pe_int (fun _ _=>rfl)) (pa_cons (fpv 1) pa_nil))) (PG.eqv (pg_tupk (K:=K) (n:=2) rfl rfl (PGs.eqv (pgs_cons (pg_sub (fpv 0) pe_int fset_list) (PGs.eqv (pgs_cons (pg_name (i:=2) sc_take.nd rfl (Or.inl rfl)) (PGs.mono pgs_nil fNil_t)) (fCons_eq _ _))) (fCons_eq _ _))) (fTup_eq _ _ _)))
      (pss_one (ps_ret (fpv 2)))) pss_nil)
      (pss_cons (ps_asg (pe_op fop_mod (pe_op fop_add (pe_op fop_mul (pe_ix (fixQk (K:=K) rfl) (fpv 0) pe_int (fun _ _=>rfl)) pe_int) pe_int) pe_int) (pg_sub (fpv 0) pe_int fset_list))
      (pss_one (ps_ret (pe_op fop_mod (pe_op fop_fdiv (pe_op fop_mod (pe_op fop_mul (pe_ix (fixQk (K:=K) rfl) (fpv 0) pe_int (fun _ _=>rfl)) (pe_ix (fixQk (K:=K) rfl) (fpv 0) pe_int (fun _ _=>rfl))) pe_int) pe_int) (fpv 1)))))),?_⟩
    have hl:SqL K H p [.int x,.int y]:=SqL.of hp
    simp -dsimp[cxOf,stC,-Bool.exists_bool,-List.map_take,-Prod.forall,-Prod.exists]
    refine ⟨_,.inl hl,_,atI_nat (j:=0) rfl,?_⟩
    simp -dsimp[cxOf,stC,-Bool.exists_bool,-List.map_take,-Prod.forall,-Prod.exists]
    refine tBr.of (fun h=>?_) (fun h=>?_)
    · simp -dsimp[cxOf,stC,-Bool.exists_bool,-List.map_take,-Prod.forall,-Prod.exists]
      refine ⟨_,.inl hl,_,atI_nat (j:=0) rfl,?_⟩
      simp -dsimp[cxOf,stC,-Bool.exists_bool,-List.map_take,-Prod.forall,-Prod.exists]
      refine ⟨⟨hm,by omega⟩,fun t ht=>?_⟩
      have npt:p≠t:=ne_of_none hp ht
      refine ⟨_,SqT.of upd_same,rfl,_,(by rw [upd_ne npt];exact hp),0,rfl,?_⟩
      refine q _ _ (Int.emod_nonneg _ (by omega)) (Int.emod_lt_of_pos _ hm) ⟨_,_,upd_same,Int.ediv_nonneg hx (by omega),hy,hy2⟩ fun b o hb e=>?_
      rw [upd_ne hb,upd_ne (ne_of_none e ht)]
      exact e
    · have z0:0≤(y * 48271+12345) % 2147483647:=Int.emod_nonneg _ (by decide)
      have z1:(y * 48271+12345) % 2147483647<2147483647:=Int.emod_lt_of_pos _ (by decide)
      simp -dsimp[cxOf,stC,-Bool.exists_bool,-List.map_take,-Prod.forall,-Prod.exists]
      refine ⟨_,.inl hl,_,atI_nat (j:=1) rfl,?_⟩
      simp -dsimp[cxOf,stC,-Bool.exists_bool,-List.map_take,-Prod.forall,-Prod.exists]
      refine ⟨_,hp,1,rfl,_,.inl (SqL.of upd_same),_,atI_nat (j:=1) rfl,_,.inl (SqL.of upd_same),_,atI_nat (j:=1) rfl,?_⟩
      simp -dsimp[cxOf,stC,-Bool.exists_bool,-List.map_take,-Prod.forall,-Prod.exists]
      refine ⟨⟨by omega,by omega⟩,hm,?_⟩
      refine q _ _ (Int.emod_nonneg _ (by omega)) (Int.emod_lt_of_pos _ hm) ⟨_,_,upd_same,hx,z0,by omega⟩ fun b o hb e=>?_
      rw [upd_ne hb]
      exact e
def sp_is_list:Sp:=fun vs H Q _=>∃p xs,vs=[.ref p]∧Sq H p xs∧∀H',Same H H'→Q (.bl true) H'
theorem ok_is_list (T:Txt K mg a):FnOk P w K mg base CX0 1 a.f_is_list a.fd_is_list ["thing"] sp_is_list:=by
  refine T.F_is_list.okL sc_is_list (fun vs H Q E h=>?_) (fun cdv A outer s H vs Q E hr h=>?_)
  · obtain ⟨p,xs,rfl,_⟩:=h
    rfl
  · obtain ⟨p,xs,rfl,hp,q⟩:=h
    refine ⟨_,(pss_one (ps_ret (pe_callB (fisi2k (K:=K) rfl) rfl T.nm.isinstance boot_isinstance (pa_cons (fpv 0) (pa_cons (pe_tup (pa_cons (pe_bltn (v:=.ty "list") rfl T.nm.list boot_list rfl) (pa_cons (pe_bltn (v:=.ty "tuple") rfl T.nm.tuple boot_tuple rfl) pa_nil))) pa_nil))))),?_⟩
    simp -dsimp[cxOf,stC,-Bool.exists_bool,-List.map_take,-Prod.forall,-Prod.exists]
    refine fun t ht=>⟨_,_,upd_same,?_⟩
    rcases (hp.same (same_upd ht)).ty (K:=K) with ty | ty
    ·exact ⟨_,ty,true,by simp [W.kitAny,W.kitOne],q _ (same_upd ht)⟩
    ·exact ⟨_,ty,true,by simp [W.kitAny,W.kitOne];rfl,q _ (same_upd ht)⟩
def sp_is_name:Sp:=fun vs H Q _=>∃x,vs=[.str x]∧x.length≤sizeLine∧∀H',Same H H'→Q (.bl (nameB x)) H'
theorem ok_is_name (T:Txt K mg a):FnOk P w K mg base CX0 1 a.f_is_name a.fd_is_name ["thing"] sp_is_name:=by
  refine T.F_is_name.okL sc_is_name (fun vs H Q E h=>?_) (fun cdv A outer s H vs Q E hr h=>?_)
  · obtain ⟨x,rfl,_⟩:=h
    rfl
  · obtain ⟨x,rfl,hx,q⟩:=h
    refine ⟨_,(pss_cons (ps_if (PW.pt (pw_or (pt_not (fpt_val (pe_callB (fisiTk (K:=K) rfl) rfl T.nm.isinstance boot_isinstance (pa_cons (fpv 0) (pa_cons (pe_bltn (v:=.ty "str") rfl T.nm.str boot_str rfl) pa_nil))))) (pw_or1 (pt_not (fpt_chain fop_le fop_le pe_int (pe_callB flenTk rfl T.nm.len PySem.boot_len (pa_cons (fpv 0) pa_nil)) (pe_glob rfl T.h_MOST_LETTERS T.r_MOST_LETTERS)))))) (pss_one (ps_ret pe_bl)) pss_nil)
      (pss_one (ps_ret (pe_callB (fcall_all rfl) rfl T.nm.all boot_all' (pa_cons (pe_comp rfl rfl (show CompScope (defScope s_is_name) _ ["thing"] ["sign"] [] ["sign"] from ⟨rfl,by decide +kernel,by decide +kernel,rfl,by decide +kernel,by decide +kernel⟩) rfl (PI.eqv (pi_str (fpv 0)) (fiStr_eq _)) (fun C s H fp pn=>(pg_name (i:=0) (show (["sign"]:List Str).Nodup by decide +kernel) rfl (Or.inl rfl))) (fun C s H fp pn=>pts_nil) (fun C s H fp pn=>(pe_cmpR (finS (K:=K) rfl) (fpv 0) (pe_glob rfl T.h_LETTERS T.r_LETTERS) rfl))) pa_nil))))),?_⟩
    simp -dsimp[cxOf,stC,-Bool.exists_bool,-List.map_take,-Prod.forall,-Prod.exists]
    refine ⟨_,.str x,_,kit_str_str K,tBr.neg rfl ?_⟩
    simp -dsimp[cxOf,stC,-Bool.exists_bool,-List.map_take,-Prod.forall,-Prod.exists]
    refine ⟨hx,tBr.of (fun h1=>?_) (fun h1=>?_)⟩
    · have h1':1≤x.length:=by simp at h1;omega
      simp -dsimp[cxOf,stC,-Bool.exists_bool,-List.map_take,-Prod.forall,-Prod.exists]
      refine tBr.of (fun h2=>?_) (fun h2=>?_)
      · have h2':¬x.length≤4:=by simp at h2;omega
        have e:nameB x=false:=by
          unfold nameB
          rw [decide_eq_false h2']
          simp
        rw [e] at q
        simp -dsimp[cxOf,stC,-Bool.exists_bool,-List.map_take,-Prod.forall,-Prod.exists]
        exact q H (Same.refl H)
      · have h2':x.length≤4:=by simp at h2;omega
        simp -dsimp[cxOf,stC,-Bool.exists_bool,-List.map_take,-Prod.forall,-Prod.exists]
        refine fun D hD=>cmS (fun i σ' H'=>(∃o,σ'=[o])∧Same H H'∧H' D=some (.lst ((x.cps.toList.take i).map fun c=>.bl (isL c)))) ⟨⟨none,rfl⟩,same_upd hD,by simpa using upd_same⟩ ?_ ?_
        · rintro i c σ' H' hc ⟨⟨o,rfl⟩,sm,hDD⟩
          have h4:4<sizeLine:=by decide
          have hsz:x.cps.size=x.length:=rfl
          simp -dsimp[cxOf,stC,-Bool.exists_bool,-List.map_take,-Prod.forall,-Prod.exists]
          refine ⟨_,hDD,by simp;omega,same_upd2 sm hD,?_⟩
          rw [upd_same,take_one (l:=x.cps.toList) (x:=c) (by simpa using hc),List.map_append]
          rfl
        · rintro σ' H' ⟨⟨o,rfl⟩,sm,hDD⟩
          simp -dsimp[cxOf,stC,-Bool.exists_bool,-List.map_take,-Prod.forall,-Prod.exists]
          refine ⟨_,hDD,_,blAll_map isL _,?_⟩
          rw [all_map_id]
          have e:nameB x=(x.cps.toList.take x.cps.size).all isL:=by
            unfold nameB
            rw [decide_eq_true h1',decide_eq_true h2',show x.cps.toList.take x.cps.size=x.cps.toList from List.take_of_length_le (by simp)]
            rfl
          rw [← e]
          exact q H' sm
    · have h1':¬1≤x.length:=by simp at h1;omega
      have e:nameB x=false:=by
        unfold nameB
        rw [decide_eq_false h1']
        simp
      rw [e] at q
      simp -dsimp[cxOf,stC,-Bool.exists_bool,-List.map_take,-Prod.forall,-Prod.exists]
      exact q H (Same.refl H)
theorem str_item {xs:List Str} {i:Nat} {x:V} (h:(xs.map V.str)[i]? = some x):∃z,z∈xs∧x = .str z:=by
  rw [List.getElem?_map] at h
  cases e:xs[i]? with
  | none=>rw [e] at h;cases h
  | some z=>
    rw [e] at h
    exact ⟨z,List.mem_of_getElem? e,(Option.some.inj h).symm⟩
theorem name_short {x:Str} (h:nameB x=true):x.length≤sizeLine:=by
  unfold nameB at h
  simp at h
  have h4:4≤sizeLine:=by decide
  omega
theorem blAll_rep:∀n,blAll (List.replicate n (.bl true)) (List.replicate n true)
  | 0=>rfl
  | n+1=>⟨true,_,rfl,rfl,blAll_rep n⟩
theorem keysOf_str:∀xs:List Str,keysOf (xs.map V.str)=xs.map Sum.inr
  | []=>rfl
  | x::xs=>by
    show Sum.inr x::keysOf (xs.map V.str)=_
    rw [keysOf_str xs]
    rfl
theorem uq_str {xs:List Str} (h:xs.Nodup):(uqN (fun i=>(keysOf (xs.map V.str))[i]?.getD (Sum.inl 0)) (xs.map V.str).length).length=xs.length:=by
  rw [keysOf_str,List.length_map]
  refine (uq_all _ xs.length fun i j hi hj e=>?_).1
  simp [hi,hj] at e
  exact (List.getElem_inj h).mp e
structure Pts (xs:List Str):Prop where
  len:1≤xs.length∧xs.length≤9
  nm:∀x∈xs,nameB x=true
  nd:xs.Nodup
def sp_are_points:Sp:=fun vs H Q _=>∃p xs,vs=[.ref p]∧Sq H p (xs.map V.str)∧Pts xs∧∀H',Same H H'→Q (.bl true) H'
theorem ok_are_points (T:Txt K mg a):FnOk P w K mg base CX0 2 a.f_are_points a.fd_are_points ["thing"] sp_are_points:=by
  refine T.F_are_points.okL sc_are_points (fun vs H Q E h=>?_) (fun cdv A outer s H vs Q E hr h=>?_)
  · obtain ⟨p,xs,rfl,_⟩:=h
    rfl
  · obtain ⟨p,xs,rfl,hp,hx,q⟩:=h
    refine ⟨_,(pss_cons (ps_if (PW.pt (pw_or (pt_not (fpt_val (PE.eqv (pe_call (ok_is_list (K:=K) T) (hr.mono (by decide)) rfl T.m_is_list T.F_is_list.kp T.b_is_list .nil pass0 (pa_cons (fpv 0) pa_nil)) (fCall_eq _ _ _)))) (pw_or1 (pt_not (fpt_chain fop_le fop_le pe_int (pe_callB (flenQk (K:=K) rfl) rfl T.nm.len PySem.boot_len (pa_cons (fpv 0) pa_nil)) (pe_glob rfl T.h_MOST_POINTS T.r_MOST_POINTS)))))) (pss_one (ps_ret pe_bl)) pss_nil)
      (pss_one (ps_ret (fpe_and (pe_callB (fcall_all rfl) rfl T.nm.all boot_all' (pa_cons (pe_comp rfl rfl (show CompScope (defScope s_are_points) _ ["thing"] ["one"] [] ["one"] from ⟨rfl,by decide +kernel,by decide +kernel,rfl,by decide +kernel,by decide +kernel⟩) rfl (PI.eqv (pi_seqk (K:=K) rfl (fpv 0)) (fiSeq_eq _ _)) (fun C s H fp pn=>(pg_name (i:=0) (show (["one"]:List Str).Nodup by decide +kernel) rfl (Or.inl rfl))) (fun C s H fp pn=>pts_nil) (fun C s H fp pn=>(PE.eqv (pe_call (ok_is_name (K:=K) T) (hr.mono (by decide)) rfl T.m_is_name T.F_is_name.kp T.b_is_name .nil pass0 (pa_cons (fpv 0) pa_nil)) (fCall_eq _ _ _)))) pa_nil)) (pe_one (pe_cmpR fop_eq (pe_callB call_lenS rfl T.nm.len PySem.boot_len (pa_cons (pe_callTy (call_setK rfl) rfl T.nm.set boot_setT (pa_cons (fpv 0) pa_nil)) pa_nil)) (pe_callB (flenQk (K:=K) rfl) rfl T.nm.len PySem.boot_len (pa_cons (fpv 0) pa_nil)) (nomark _))))))),?_⟩
    have hl:=hx.len
    have h60:60<sizeLine:=by decide
    simp -dsimp[cxOf,stC,-Bool.exists_bool,-List.map_take,-Prod.forall,-Prod.exists]
    refine ⟨p,_,rfl,hp,fun H1 s1=>?_⟩
    have hp1:=hp.same s1
    simp -dsimp[cxOf,stC,-Bool.exists_bool,-List.map_take,-Prod.forall,-Prod.exists]
    refine ⟨_,hp1.q,tBr.pos (by simp;omega) ?_⟩
    simp -dsimp[cxOf,stC,-Bool.exists_bool,-List.map_take,-Prod.forall,-Prod.exists]
    refine tBr.neg (by simp;omega) ?_
    obtain ⟨b,hb⟩:=hp.b
    simp -dsimp[cxOf,stC,-Bool.exists_bool,-List.map_take,-Prod.forall,-Prod.exists]
    refine ⟨b,⟨_,hb K H1 s1⟩,fun D hD=>cmQ (xs.map V.str) (fun i σ' H'=>(∃o,σ'=[o])∧Same H1 H'∧H' D=some (.lst (List.replicate i (.bl true)))) ⟨⟨none,rfl⟩,same_upd hD,upd_same⟩ (fun i σ' H' _ h=>hb K H' (s1.trans h.2.1)) ?_ ?_⟩
    · rintro i x σ' H' hi ⟨⟨o,rfl⟩,sm,hDD⟩
      obtain ⟨z,hz,rfl⟩:=str_item hi
      have hi2:i<xs.length:=by simpa using (List.getElem?_eq_some_iff.mp hi).1
      simp -dsimp[cxOf,stC,-Bool.exists_bool,-List.map_take,-Prod.forall,-Prod.exists]
      refine ⟨z,rfl,name_short (hx.nm z hz),fun H2 s2=>?_⟩
      simp -dsimp[cxOf,stC,-Bool.exists_bool,-List.map_take,-Prod.forall,-Prod.exists]
      refine ⟨_,s2 _ _ hDD,by simp;omega,same_upd2 (sm.trans s2) hD,?_⟩
      rw [upd_same,hx.nm z hz,← List.replicate_succ']
    · rintro σ' H' ⟨⟨o,rfl⟩,sm,hDD⟩
      have hp2:=hp1.same sm
      simp -dsimp[cxOf,stC,-Bool.exists_bool,-List.map_take,-Prod.forall,-Prod.exists]
      refine ⟨_,hDD,_,blAll_rep _,?_⟩
      rw [show (List.replicate (xs.map V.str).length true).all id=true by simp]
      simp -dsimp[cxOf,stC,-Bool.exists_bool,-List.map_take,-Prod.forall,-Prod.exists]
      refine ⟨_,hp2.q,by simp [isKey],by simp;unfold scanBound;omega,fun t ht=>⟨_,upd_same,_,(hp2.same (same_upd ht)).q,?_⟩⟩
      rw [decide_eq_true (by rw [uq_str hx.nd];simp)]
      exact q _ (s1.trans (sm.trans (same_upd ht)))
theorem inV_str {x:Str} {xs:List Str} (h:x∈xs):inV (.str x) (xs.map V.str)=true:=by
  unfold inV
  rw [List.any_eq_true]
  exact ⟨.str x,List.mem_map.mpr ⟨x,h,rfl⟩,by simp [eqV]⟩
theorem flat_str (xs:List Str):(xs.map V.str).all flatV=true:=by
  rw [List.all_eq_true]
  intro v hv
  obtain ⟨x,_,rfl⟩:=List.mem_map.mp hv
  rfl
def sp_is_tie:Sp:=fun vs H Q _=>∃t p x y xs,vs=[.ref t,.ref p]∧Sq H t [.str x,.str y]∧Sq H p (xs.map V.str)∧Pts xs∧x∈xs∧y∈xs∧x≠y∧∀H',Same H H'→Q (.bl true) H'
theorem ok_is_tie (T:Txt K mg a):FnOk P w K mg base CX0 2 a.f_is_tie a.fd_is_tie ["thing", "points"] sp_is_tie:=by
  refine T.F_is_tie.okL sc_is_tie (fun vs H Q E h=>?_) (fun cdv A outer s H vs Q E hr h=>?_)
  · obtain ⟨t,p,x,y,xs,rfl,_⟩:=h
    rfl
  · obtain ⟨t,p,x,y,xs,rfl,ht,hp,hx,hxm,hym,hne,q⟩:=h
    refine ⟨_,(pss_cons (ps_if (PW.pt (pw_or (pt_not (fpt_val (PE.eqv (pe_call (ok_is_list (K:=K) T) (hr.mono (by decide)) rfl T.m_is_list T.F_is_list.kp T.b_is_list .nil pass0 (pa_cons (fpv 0) pa_nil)) (fCall_eq _ _ _)))) (pw_or1 (fpt_cmpR fop_ne (pe_callB (flenQk (K:=K) rfl) rfl T.nm.len PySem.boot_len (pa_cons (fpv 0) pa_nil)) pe_int (nomark _))))) (pss_one (ps_ret pe_bl)) pss_nil)
      (pss_cons (ps_if (pt_not (fpt_val (pe_callB (fcall_all rfl) rfl T.nm.all boot_all' (pa_cons (pe_comp rfl rfl (show CompScope (defScope s_is_tie) _ ["thing", "points"] ["end"] [1] ["end", "points"] from ⟨rfl,by decide +kernel,by decide +kernel,rfl,by decide +kernel,by decide +kernel⟩) rfl (PI.eqv (pi_seqk (K:=K) rfl (fpv 0)) (fiSeq_eq _ _)) (fun C s H fp pn=>(pg_name (i:=0) (show (["end", "points"]:List Str).Nodup by decide +kernel) rfl (Or.inl rfl))) (fun C s H fp pn=>pts_nil) (fun C s H fp pn=>(fpe_and (PE.eqv (pe_call (ok_is_name (K:=K) T) (hr.mono (by decide)) rfl T.m_is_name T.F_is_name.kp T.b_is_name .nil pass0 (pa_cons (fpv 0) pa_nil)) (fCall_eq _ _ _)) (pe_one (pe_cmpR (finK (K:=K) rfl) (fpv 0) (fpv 1) rfl))))) pa_nil)))) (pss_one (ps_ret pe_bl)) pss_nil)
      (pss_one (ps_ret (pe_cmpR fop_ne (pe_ix (fixQk (K:=K) rfl) (fpv 0) pe_int (fun _ _=>rfl)) (pe_ix (fixQk (K:=K) rfl) (fpv 0) pe_int (fun _ _=>rfl)) (nomark _)))))),?_⟩
    have h60:60<sizeLine:=by decide
    simp -dsimp[cxOf,stC,-Bool.exists_bool,-List.map_take,-Prod.forall,-Prod.exists]
    refine ⟨t,_,rfl,ht,fun H1 s1=>?_⟩
    simp -dsimp[cxOf,stC,-Bool.exists_bool,-List.map_take,-Prod.forall,-Prod.exists]
    refine ⟨_,(ht.same s1).q,false,rfl,tBr.neg rfl ?_⟩
    obtain ⟨b,hb⟩:=ht.b
    simp -dsimp[cxOf,stC,-Bool.exists_bool,-List.map_take,-Prod.forall,-Prod.exists]
    refine ⟨b,⟨_,hb K H1 s1⟩,fun D hD=>cmQ [.str x,.str y] (fun i σ' H'=>(∃o,σ'=[o,some (.ref p)])∧Same H1 H'∧H' D=some (.lst (List.replicate i (.bl true)))) ⟨⟨none,rfl⟩,same_upd hD,upd_same⟩ (fun i σ' H' _ h=>hb K H' (s1.trans h.2.1)) ?_ ?_⟩
    · rintro i v σ' H' hi ⟨⟨o,rfl⟩,sm,hDD⟩
      obtain ⟨z,hz,rfl⟩:∃z,z∈xs∧v = .str z:=by
        match i,hi with
        | 0,hi=>exact ⟨x,hxm,(Option.some.inj hi).symm⟩
        | 1,hi=>exact ⟨y,hym,(Option.some.inj hi).symm⟩
      have hi2:i<2:=(List.getElem?_eq_some_iff.mp hi).1
      simp -dsimp[cxOf,stC,-Bool.exists_bool,-List.map_take,-Prod.forall,-Prod.exists]
      refine ⟨z,rfl,name_short (hx.nm z hz),fun H2 s2=>?_⟩
      rw [hx.nm z hz]
      simp -dsimp[cxOf,stC,-Bool.exists_bool,-List.map_take,-Prod.forall,-Prod.exists]
      refine ⟨_,(hp.same (s1.trans (sm.trans s2))).q,rfl,List.all_eq_true.mp (flat_str xs),_,s2 _ _ hDD,by simp;omega,same_upd2 (sm.trans s2) hD,?_⟩
      rw [upd_same,inV_str hz,← List.replicate_succ']
    · rintro σ' H' ⟨⟨o,rfl⟩,sm,hDD⟩
      have ht2:=ht.same (s1.trans sm)
      simp -dsimp[cxOf,stC,-Bool.exists_bool,-List.map_take,-Prod.forall,-Prod.exists]
      refine ⟨_,hDD,_,blAll_rep _,?_⟩
      rw [show (List.replicate [V.str x,V.str y].length true).all id=true by simp]
      simp -dsimp[cxOf,stC,-Bool.exists_bool,-List.map_take,-Prod.forall,-Prod.exists]
      refine ⟨_,ht2.q,_,atI_nat (j:=0) rfl,_,ht2.q,_,atI_nat (j:=1) rfl,?_⟩
      simp -dsimp[cxOf,stC,-Bool.exists_bool,-List.map_take,-Prod.forall,-Prod.exists]
      refine ⟨true,by simp [hne],?_⟩
      exact q _ (s1.trans sm)
def PairAt (H:Hp) (v:V) (e:Str×Str):Prop:=∃t,v = .ref t∧Sq H t [.str e.1,.str e.2]
theorem PairAt.same {H H':Hp} {v:V} {e:Str×Str} (h:PairAt H v e) (s:Same H H'):PairAt H' v e:=by
  obtain ⟨t,rfl,h⟩:=h
  exact ⟨t,rfl,h.same s⟩
def PairsAt (H:Hp) (vs:List V) (ps:List (Str×Str)):Prop:=vs.length=ps.length∧∀(i:Nat) v e,vs[i]? = some v→ps[i]? = some e→PairAt H v e
theorem PairsAt.same {H H':Hp} {vs:List V} {ps:List (Str×Str)} (h:PairsAt H vs ps) (s:Same H H'):PairsAt H' vs ps:=⟨h.1,fun i v e h1 h2=>(h.2 i v e h1 h2).same s⟩
theorem PairsAt.at {H:Hp} {vs:List V} {ps:List (Str×Str)} (h:PairsAt H vs ps) {i:Nat} {v:V} (hv:vs[i]? = some v):∃e,ps[i]? = some e∧PairAt H v e:=by
  have hi:i<ps.length:=by rw [← h.1];exact (List.getElem?_eq_some_iff.mp hv).1
  exact ⟨ps[i],by simp [hi],h.2 i v _ hv (by simp [hi])⟩
structure Ties (xs:List Str) (ps:List (Str×Str)):Prop where
  len:ps.length≤20
  ok:∀e∈ps,e.1∈xs∧e.2∈xs∧e.1≠e.2
def sp_are_ties:Sp:=fun vs H Q _=>∃t p tv xs ps,vs=[.ref t,.ref p]∧Sq H t tv∧PairsAt H tv ps∧Sq H p (xs.map V.str)∧Pts xs∧Ties xs ps∧∀H',Same H H'→Q (.bl true) H'
theorem ok_are_ties (T:Txt K mg a):FnOk P w K mg base CX0 3 a.f_are_ties a.fd_are_ties ["thing", "points"] sp_are_ties:=by
  refine T.F_are_ties.okL sc_are_ties (fun vs H Q E h=>?_) (fun cdv A outer s H vs Q E hr h=>?_)
  · obtain ⟨t,p,tv,xs,ps,rfl,_⟩:=h
    rfl
  · obtain ⟨t,p,tv,xs,ps,rfl,ht,hpr,hp,hx,hts,q⟩:=h
    refine ⟨_,(pss_cons (ps_if (PW.pt (pw_or (pt_not (fpt_val (PE.eqv (pe_call (ok_is_list (K:=K) T) (hr.mono (by decide)) rfl T.m_is_list T.F_is_list.kp T.b_is_list .nil pass0 (pa_cons (fpv 0) pa_nil)) (fCall_eq _ _ _)))) (pw_or1 (fpt_cmpR fop_gt (pe_callB (flenQk (K:=K) rfl) rfl T.nm.len PySem.boot_len (pa_cons (fpv 0) pa_nil)) (pe_glob rfl T.h_MOST_TIES T.r_MOST_TIES) (nomark _))))) (pss_one (ps_ret pe_bl)) pss_nil)
      (pss_one (ps_ret (pe_callB (fcall_all rfl) rfl T.nm.all boot_all' (pa_cons (pe_comp rfl rfl (show CompScope (defScope s_are_ties) _ ["thing", "points"] ["one"] [1] ["one", "points"] from ⟨rfl,by decide +kernel,by decide +kernel,rfl,by decide +kernel,by decide +kernel⟩) rfl (PI.eqv (pi_seqk (K:=K) rfl (fpv 0)) (fiSeq_eq _ _)) (fun C s H fp pn=>(pg_name (i:=0) (show (["one", "points"]:List Str).Nodup by decide +kernel) rfl (Or.inl rfl))) (fun C s H fp pn=>pts_nil) (fun C s H fp pn=>(PE.eqv (pe_call (ok_is_tie (K:=K) T) (hr.mono (by decide)) rfl T.m_is_tie T.F_is_tie.kp T.b_is_tie .nil pass0 (pa_cons (fpv 0) (pa_cons (fpv 1) pa_nil))) (fCall_eq _ _ _)))) pa_nil))))),?_⟩
    have hlen:=hpr.1
    have h20:=hts.len
    have h60:60<sizeLine:=by decide
    simp -dsimp[cxOf,stC,-Bool.exists_bool,-List.map_take,-Prod.forall,-Prod.exists]
    refine ⟨t,_,rfl,ht,fun H1 s1=>?_⟩
    simp -dsimp[cxOf,stC,-Bool.exists_bool,-List.map_take,-Prod.forall,-Prod.exists]
    refine ⟨_,(ht.same s1).q,tBr.neg (by simp;omega) ?_⟩
    obtain ⟨b,hb⟩:=ht.b
    simp -dsimp[cxOf,stC,-Bool.exists_bool,-List.map_take,-Prod.forall,-Prod.exists]
    refine ⟨b,⟨_,hb K H1 s1⟩,fun D hD=>cmQ tv (fun i σ' H'=>(∃o,σ'=[o,some (.ref p)])∧Same H1 H'∧H' D=some (.lst (List.replicate i (.bl true)))) ⟨⟨none,rfl⟩,same_upd hD,upd_same⟩ (fun i σ' H' _ h=>hb K H' (s1.trans h.2.1)) ?_ ?_⟩
    · rintro i v σ' H' hi ⟨⟨o,rfl⟩,sm,hDD⟩
      obtain ⟨e,he,t2,rfl,ht2⟩:=hpr.at hi
      have hi2:i<tv.length:=(List.getElem?_eq_some_iff.mp hi).1
      obtain ⟨h1,h2,h3⟩:=hts.ok e (List.mem_of_getElem? he)
      have s2:=s1.trans sm
      simp -dsimp[cxOf,stC,-Bool.exists_bool,-List.map_take,-Prod.forall,-Prod.exists]
      refine ⟨t2,p,e.1,e.2,xs,rfl,ht2.same s2,hp.same s2,hx,h1,h2,h3,fun H2 s3=>?_⟩
      simp -dsimp[cxOf,stC,-Bool.exists_bool,-List.map_take,-Prod.forall,-Prod.exists]
      refine ⟨_,s3 _ _ hDD,by simp;omega,same_upd2 (sm.trans s3) hD,?_⟩
      rw [upd_same,← List.replicate_succ']
    · rintro σ' H' ⟨⟨o,rfl⟩,sm,hDD⟩
      simp -dsimp[cxOf,stC,-Bool.exists_bool,-List.map_take,-Prod.forall,-Prod.exists]
      refine ⟨_,hDD,_,blAll_rep _,?_⟩
      rw [show (List.replicate tv.length true).all id=true by simp]
      exact q _ (s1.trans sm)
def TupsAt (H:Hp) (vs:List V) (ps:List (Str×Str)):Prop:=vs.length=ps.length∧∀(i:Nat) v e,vs[i]? = some v→ps[i]? = some e→∃t,v = .ref t∧H t=some (.tup [.str e.1,.str e.2])
def TupKeep (H H':Hp):Prop:=∀b xs,H b=some (.tup xs)→H' b=some (.tup xs)
theorem TupsAt.keep {H H':Hp} {vs:List V} {ps:List (Str×Str)} (h:TupsAt H vs ps) (s:TupKeep H H'):TupsAt H' vs ps:=⟨h.1,fun i v e h1 h2=>by
  obtain ⟨t,rfl,e⟩:=h.2 i v e h1 h2
  exact ⟨t,rfl,s _ _ e⟩⟩
theorem TupsAt.snoc {H:Hp} {vs:List V} {ps:List (Str×Str)} {t:Addr} {e:Str×Str} (h:TupsAt H vs ps) (ht:H t=some (.tup [.str e.1,.str e.2])):TupsAt H (vs++[.ref t]) (ps++[e]):=by
  refine ⟨by simp [h.1],fun i v d h1 h2=>?_⟩
  by_cases hi:i<vs.length
  · rw [List.getElem?_append_left hi] at h1
    rw [List.getElem?_append_left (by rw [← h.1];exact hi)] at h2
    exact h.2 i v d h1 h2
  · rw [List.getElem?_append_right (by omega)] at h1
    rw [List.getElem?_append_right (by rw [← h.1];omega),← h.1] at h2
    cases hk:i - vs.length with
    | zero=>
      rw [hk] at h1 h2
      cases h1
      cases h2
      exact ⟨t,rfl,ht⟩
    | succ j=>
      rw [hk] at h1
      simp at h1
structure WebAt (C:Addr) (H:Hp) (o:Addr) (xs:List Str) (ps:List (Str×Str)):Prop where
  ex:∃dx n m tv,H o=some (.ins C dx [("names",V.ref n),("pairs",V.ref m)])∧H n=some (.tup (xs.map V.str))∧H m=some (.tup tv)∧TupsAt H tv ps∧ps.length≤20
def sp_init (C:Addr):Sp:=fun vs H Q _=>∃o dx p t tv xs ps,vs=[.ref o,.ref p,.ref t]∧H o=some (.ins C dx [])∧Sq H t tv∧PairsAt H tv ps∧Sq H p (xs.map V.str)∧Pts xs∧Ties xs ps∧
  ∀H',WebAt C H' o xs ps→But o H H'→Q .non H'
theorem ok_Web_init (T:Txt K mg a):FnOk P w K mg base CX0 4 a.f_Web_init a.fd_Web_init ["self", "points", "ties"] (sp_init a.C_Web):=by
  refine T.F_Web_init.okL sc_Web_init (fun vs H Q E h=>?_) (fun cdv A outer s H vs Q E hr h=>?_)
  · obtain ⟨o,dx,p,t,tv,xs,ps,rfl,_⟩:=h
    rfl
  · obtain ⟨o,dx,p,t,tv,xs,ps,rfl,ho,ht,hpr,hp,hx,hts,q⟩:=h
    refine ⟨_,(pss_cons (ps_if (pt_not (fpt_val (PE.eqv (pe_call (ok_are_points (K:=K) T) (hr.mono (by decide)) rfl T.m_are_points T.F_are_points.kp T.b_are_points .nil pass0 (pa_cons (fpv 1) pa_nil)) (fCall_eq _ _ _)))) (pss_one ps_never) pss_nil)
      (pss_cons (ps_if (pt_not (fpt_val (PE.eqv (pe_call (ok_are_ties (K:=K) T) (hr.mono (by decide)) rfl T.m_are_ties T.F_are_ties.kp T.b_are_ties .nil pass0 (pa_cons (fpv 2) (pa_cons (fpv 1) pa_nil))) (fCall_eq _ _ _)))) (pss_one ps_never) pss_nil)
      (pss_cons (ps_fldk (K:=K) rfl (fpv 0) (pe_callTy ftupleOfS rfl T.nm.tuple boot_tuple (pa_cons (fpv 1) pa_nil)) rfl)
      (pss_one (ps_fldk (K:=K) rfl (fpv 0) (pe_callTy ftupleOfS rfl T.nm.tuple boot_tuple (pa_cons (pe_comp rfl rfl (show CompScope (defScope s_Web_init) _ ["self", "points", "ties"] ["pair"] [] ["pair"] from ⟨rfl,by decide +kernel,by decide +kernel,rfl,by decide +kernel,by decide +kernel⟩) rfl (PI.eqv (pi_seqk (K:=K) rfl (fpv 2)) (fiSeq_eq _ _)) (fun C s H fp pn=>(pg_name (i:=0) (show (["pair"]:List Str).Nodup by decide +kernel) rfl (Or.inl rfl))) (fun C s H fp pn=>pts_nil) (fun C s H fp pn=>(pe_tup (pa_cons (pe_ix (fixQk (K:=K) rfl) (fpv 0) pe_int (fun _ _=>rfl)) (pa_cons (pe_ix (fixQk (K:=K) rfl) (fpv 0) pe_int (fun _ _=>rfl)) pa_nil))))) pa_nil)) rfl))))),?_⟩
    simp -dsimp[cxOf,stC,-Bool.exists_bool,-List.map_take,-Prod.forall,-Prod.exists]
    refine ⟨p,xs,rfl,hp,hx,fun H1 s1=>?_⟩
    simp -dsimp[cxOf,stC,-Bool.exists_bool,-List.map_take,-Prod.forall,-Prod.exists]
    refine ⟨t,p,tv,xs,ps,rfl,ht.same s1,hpr.same s1,hp.same s1,hx,hts,fun H2 s2'=>?_⟩
    have s2:=s1.trans s2'
    simp -dsimp[cxOf,stC,-Bool.exists_bool,-List.map_take,-Prod.forall,-Prod.exists]
    refine ⟨_,hp.same s2,fun n H3 hn s3'=>?_⟩
    have s3:=s2.trans s3'
    have nno:n≠o:=ne_of hn (s3 _ _ ho) (by intro z;cases z)
    refine ⟨_,_,_,s3 _ _ ho,T.c_Web,T.n_names,by simp,?_⟩
    have hto:t≠o:=by rcases ht with z | z <;> exact ne_of z ho (by intro y;cases y)
    have keepO:∀{ob:HO} {b:Addr} {u:HO},b≠o→H b=some u→upd H3 o ob b=some u:=fun hb e=>by rw [upd_ne hb];exact s3 _ _ e
    obtain ⟨b,hb⟩:∃b,∀H',(∀c u,c≠o→H c=some u→H' c=some u)→SqB b K H' t tv:=by
      rcases ht with z | z
      ·exact ⟨true,fun H' k=>SqL.of (k _ _ hto z)⟩
      ·exact ⟨false,fun H' k=>SqT.of (k _ _ hto z)⟩
    have e1:putF "names" (V.ref n) []=([("names",V.ref n)]:List (Str×V)):=rfl
    rw [e1]
    have st4:∀(c:Addr) (u:HO),c≠o→H c=some u→upd H3 o (.ins a.C_Web dx [("names",V.ref n)]) c=some u:=fun c u hc e=>keepO hc e
    generalize h4:upd H3 o (.ins a.C_Web dx [("names",V.ref n)])=H4 at st4 ⊢
    have ho4:H4 o=some (.ins a.C_Web dx [("names",V.ref n)]):=by rw [← h4];exact upd_same
    have hn4:H4 n=some (.tup (xs.map V.str)):=by rw [← h4,upd_ne nno];exact hn
    refine ⟨b,⟨_,hb H4 st4⟩,fun D hD=>cmQ tv (fun i σ' H'=>(∃o',σ'=[o'])∧Same H4 H'∧∃tvs,H' D=some (.lst tvs)∧TupsAt H' tvs (ps.take i)) ⟨⟨none,rfl⟩,same_upd hD,[],upd_same,by simp [TupsAt]⟩ (fun i σ' H' _ h=>hb H' fun c u hc e=>h.2.1 _ _ (st4 c u hc e)) ?_ ?_⟩
    · rintro i v σ' H' hi ⟨⟨o',rfl⟩,sm,tvs,hDD,htv⟩
      have hi2:i<tv.length:=(List.getElem?_eq_some_iff.mp hi).1
      have hlen:=hpr.1
      have h20:=hts.len
      obtain ⟨e,he,t2,rfl,ht2⟩:=hpr.at hi
      have t2o:t2≠o:=by rcases ht2 with z | z <;> exact ne_of z ho (by intro y;cases y)
      have ht3:Sq H' t2 [.str e.1,.str e.2]:=by
        rcases ht2 with z | z
        ·exact .inl (sm _ _ (st4 _ _ t2o z))
        ·exact .inr (sm _ _ (st4 _ _ t2o z))
      simp -dsimp[cxOf,stC,-Bool.exists_bool,-List.map_take,-Prod.forall,-Prod.exists]
      refine ⟨_,ht3.q,_,atI_nat (j:=0) rfl,_,ht3.q,_,atI_nat (j:=1) rfl,fun pt hpt=>?_⟩
      have hDp:D≠pt:=ne_of_none hDD hpt
      refine ⟨tvs,by rw [upd_ne hDp];exact hDD,?_,same_upd2 (sm.trans (same_upd hpt)) hD,_,upd_same,?_⟩
      · have h4':20<sizeLine:=by decide
        have:=htv.1
        simp at this
        omega
      · rw [take_one he]
        refine (htv.keep ?_).snoc ?_
        · intro c zs ec
          rw [upd_ne (ne_of ec hDD (by intro y;cases y)),upd_ne (ne_of_none ec hpt)]
          exact ec
        · rw [upd_ne (Ne.symm hDp)]
          exact upd_same
    · rintro σ' H' ⟨⟨o',rfl⟩,sm,tvs,hDD,htv⟩
      simp -dsimp[cxOf,stC,-Bool.exists_bool,-List.map_take,-Prod.forall,-Prod.exists]
      refine ⟨tvs,.inl hDD,fun m H5 hm s5=>⟨_,_,_,s5 _ _ (sm _ _ ho4),T.c_Web,T.n_pairs,by simp,?_⟩⟩
      have ho5:=s5 _ _ (sm _ _ ho4)
      have mno:m≠o:=ne_of hm ho5 (by intro z;cases z)
      have e2:putF "pairs" (V.ref m) ([("names",V.ref n)]:List (Str×V))=([("names",V.ref n),("pairs",V.ref m)]:List (Str×V)):=by
        show (if ("names" : Str) = "pairs" then _ else (("names" : Str),V.ref n)::putF "pairs" (V.ref m) [])=_
        rw [if_neg (by decide +kernel)]
        rfl
      rw [e2]
      refine q _ ⟨dx,n,m,tvs,upd_same,?_,?_,?_,hts.len⟩ fun c u hc e=>?_
      · rw [upd_ne nno]
        exact s5 _ _ (sm _ _ hn4)
      · rw [upd_ne mno]
        exact hm
      · have hl:=hpr.1
        rw [hl,List.take_length] at htv
        refine htv.keep fun c zs ec=>?_
        rw [upd_ne (ne_of (s5 _ _ ec) ho5 (by intro z;cases z))]
        exact s5 _ _ ec
      · rw [upd_ne hc]
        exact s5 _ _ (sm _ _ (st4 c u hc e))
def sp_points (C:Addr):Sp:=fun vs H Q _=>∃o xs ps,vs=[.ref o]∧WebAt C H o xs ps∧∀l,H l=none→Q (.ref l) (upd H l (.lst (xs.map V.str)))
theorem ok_Web_points (T:Txt K mg a):FnOk P w K mg base CX0 1 a.f_Web_points a.fd_Web_points ["self"] (sp_points a.C_Web):=by
  refine T.F_Web_points.okL sc_Web_points (fun vs H Q E h=>?_) (fun cdv A outer s H vs Q E hr h=>?_)
  · obtain ⟨o,xs,ps,rfl,_⟩:=h
    rfl
  · obtain ⟨o,xs,ps,rfl,⟨dx,n,m,tv,h1,h2,h3,h4,h5⟩,q⟩:=h
    refine ⟨_,(pss_one (ps_ret (pe_callTy (flistOfk (K:=K) rfl) rfl T.nm.list boot_list (pa_cons (PE.eqv (pe_fldk (K:=K) rfl (fpv 0) rfl) (fFld_eq _ _ _)) pa_nil)))),?_⟩
    simp -dsimp[cxOf,stC,-Bool.exists_bool,-List.map_take,-Prod.forall,-Prod.exists]
    refine ⟨_,_,_,h1,T.c_Web,T.n_names,_,rfl,_,.inr (SqT.of h2),q⟩
def sp_ties (C:Addr):Sp:=fun vs H Q _=>∃o xs ps,vs=[.ref o]∧WebAt C H o xs ps∧∀l tv,H l=none→TupsAt H tv ps→Q (.ref l) (upd H l (.lst tv))
theorem ok_Web_ties (T:Txt K mg a):FnOk P w K mg base CX0 1 a.f_Web_ties a.fd_Web_ties ["self"] (sp_ties a.C_Web):=by
  refine T.F_Web_ties.okL sc_Web_ties (fun vs H Q E h=>?_) (fun cdv A outer s H vs Q E hr h=>?_)
  · obtain ⟨o,xs,ps,rfl,_⟩:=h
    rfl
  · obtain ⟨o,xs,ps,rfl,⟨dx,n,m,tv,h1,h2,h3,h4,h5⟩,q⟩:=h
    refine ⟨_,(pss_one (ps_ret (pe_callTy (flistOfk (K:=K) rfl) rfl T.nm.list boot_list (pa_cons (PE.eqv (pe_fldk (K:=K) rfl (fpv 0) rfl) (fFld_eq _ _ _)) pa_nil)))),?_⟩
    simp -dsimp[cxOf,stC,-Bool.exists_bool,-List.map_take,-Prod.forall,-Prod.exists]
    refine ⟨_,_,_,h1,T.c_Web,T.n_pairs,_,rfl,_,.inr (SqT.of h3),fun l hl=>q l tv hl h4⟩
theorem Pot.upd {p q:Addr} {H:Hp} {u:HO} (x:Pot H p) (h:p≠q):Pot (L2.upd H q u) p:=by
  obtain ⟨a,b,e,r⟩:=x
  exact ⟨a,b,by rw [upd_ne h];exact e,r⟩
theorem Pot.ne {p q:Addr} {H:Hp} (x:Pot H p) (h:H q=none):p≠q:=by
  obtain ⟨a,b,e,r⟩:=x
  exact ne_of_none e h
theorem Pot.none {p b:Addr} {H H':Hp} (x:But p H H') (hp:Pot H' p) (h:H' b = .none):H b = .none:=by
  obtain ⟨a,b,e,r⟩:=hp
  exact x.none e h
def sp_mixed:Sp:=fun vs H Q _=>∃p l xs,vs=[.ref p,.ref l]∧Pot H p∧l≠p∧H l=some (.lst xs)∧xs.length≤100∧∀r ys H',H r=none→H' r=some (.lst ys)→ys.Perm xs→Pot H' p→But p H H'→Q (.ref r) H'
theorem ok_mixed (T:Txt K mg a):FnOk P w K mg base CX0 2 a.f_mixed a.fd_mixed ["_law_pot_here", "_law_things"] sp_mixed:=by
  refine T.F_mixed.okL sc_mixed (fun vs H Q E h=>?_) (fun cdv A outer s H vs Q E hr h=>?_)
  · obtain ⟨p,l,xs,rfl,_⟩:=h
    rfl
  · obtain ⟨p,l,xs,rfl,hp,hlp,hl,h100,q⟩:=h
    refine ⟨_,(pss_cons (ps_set (i:=2) sc_mixed.nd rfl (Or.inl rfl) (pe_lst pa_nil))
      (pss_cons (ps_for PassesOwn.never rfl (PI.eqv (pi_listk (K:=K) rfl (fpv 1)) (fiList_eq _ _)) (pg_name (i:=3) sc_mixed.nd rfl (Or.inl rfl))
      (pss_one (ps_expr (pe_bmk (K:=K) rfl PySem.F.plainAttrs_list PySem.F.slot_list_insert PySem.F.type_list_insert fmt_insert (fpv 2) (pa_cons (PE.eqv (pe_call (ok_take (K:=K) T) (hr.mono (by decide)) rfl T.m_take T.F_take.kp T.b_take .nil pass0 (pa_cons (fpv 0) (pa_cons (pe_op fop_add (pe_callB (flenQk (K:=K) rfl) rfl T.nm.len PySem.boot_len (pa_cons (fpv 2) pa_nil)) pe_int) pa_nil))) (fCall_eq _ _ _)) (pa_cons (fpv 3) pa_nil))))))
      (pss_one (ps_ret (fpv 2))))),?_⟩
    have h4':100<sizeLine:=by decide
    simp -dsimp[cxOf,stC,-Bool.exists_bool,-List.map_take,-Prod.forall,-Prod.exists]
    intro r hr0
    have hpr:p≠r:=hp.ne hr0
    refine ⟨⟨_,SqL.of (upd_old hl hr0)⟩,frL xs (fun i σ H'=>∃v ys,σ=[some (.ref p),some (.ref l),some (.ref r),v]∧H' r=some (.lst ys)∧ys.Perm (xs.take i)∧Pot H' p∧But p H H') ⟨none,[],rfl,upd_same,by simp,hp.upd hpr,(But.refl _ _).new hr0⟩ (fun i σ H' _ ⟨_,_,_,_,_,_,hb⟩=>SqL.of (hb _ _ hlp hl)) ?_ ?_⟩
    · rintro i x σ H' hi ⟨v,ys,rfl,hr',hperm,hP,hB⟩
      have hi2:i<xs.length:=(List.getElem?_eq_some_iff.mp hi).1
      have hly:ys.length=i:=by
        have:=hperm.length_eq
        simp at this
        omega
      simp -dsimp[cxOf,stC,-Bool.exists_bool,-List.map_take,-Prod.forall,-Prod.exists]
      refine ⟨⟨_,SqL.of hr'⟩,ys,.inl (SqL.of hr'),p,_,rfl,hP,by omega,by omega,fun d H1 hd0 hd1 hP1 hB1=>?_⟩
      have hr1:H1 r=some (.lst ys):=hB1 _ _ (Ne.symm hpr) hr'
      simp -dsimp[cxOf,stC,-Bool.exists_bool,-List.map_take,-Prod.forall,-Prod.exists]
      refine ⟨ys,hr1,hd0,by omega,by omega,_,upd_same,?_,hP1.upd hpr,(hB.trans hB1).new hr0⟩
      · rw [take_one hi]
        have e:(ys.take d.toNat++x::ys.drop d.toNat).Perm (x::ys):=by
          refine List.perm_middle.trans ?_
          rw [List.take_append_drop]
        exact e.trans ((List.Perm.cons x hperm).trans (List.perm_append_singleton x _).symm)
    · rintro σ H' ⟨v,ys,rfl,hr',hperm,hP,hB⟩
      rw [List.take_length] at hperm
      simp -dsimp[cxOf,stC,-Bool.exists_bool,-List.map_take,-Prod.forall,-Prod.exists]
      exact q r ys H' hr0 hr' hperm hP hB
def sp_tie:Sp:=fun vs H Q _=>∃(p l:Addr) (xs:List Str),vs=[.ref p,.ref l]∧Pot H p∧l≠p∧H l=some (.lst (xs.map V.str))∧2≤xs.length∧xs.length≤9∧xs.Nodup∧∀t x y H',H t=none→H' t=some (.tup [.str x,.str y])→x∈xs→y∈xs→x≠y→Pot H' p→But p H H'→Q (.ref t) H'
theorem ok_tie (T:Txt K mg a):FnOk P w K mg base CX0 2 a.f_tie a.fd_tie ["_law_pot_here", "_law_names_here"] sp_tie:=by
  refine T.F_tie.okL sc_tie (fun vs H Q E h=>?_) (fun cdv A outer s H vs Q E hr h=>?_)
  · obtain ⟨p,l,xs,rfl,_⟩:=h
    rfl
  · obtain ⟨p,l,xs,rfl,hp,hlp,hl,h2,h9,hnd,q⟩:=h
    refine ⟨_,(pss_cons (ps_set (i:=2) sc_tie.nd rfl (Or.inl rfl) (PE.eqv (pe_call (ok_take (K:=K) T) (hr.mono (by decide)) rfl T.m_take T.F_take.kp T.b_take .nil pass0 (pa_cons (fpv 0) (pa_cons (pe_callB (flenQk (K:=K) rfl) rfl T.nm.len PySem.boot_len (pa_cons (fpv 1) pa_nil)) pa_nil))) (fCall_eq _ _ _)))
      (pss_cons (ps_set (i:=3) sc_tie.nd rfl (Or.inl rfl) (pe_op fop_mod (pe_op fop_add (pe_op fop_add (fpv 2) pe_int) (PE.eqv (pe_call (ok_take (K:=K) T) (hr.mono (by decide)) rfl T.m_take T.F_take.kp T.b_take .nil pass0 (pa_cons (fpv 0) (pa_cons (pe_op fop_sub (pe_callB (flenQk (K:=K) rfl) rfl T.nm.len PySem.boot_len (pa_cons (fpv 1) pa_nil)) pe_int) pa_nil))) (fCall_eq _ _ _))) (pe_callB (flenQk (K:=K) rfl) rfl T.nm.len PySem.boot_len (pa_cons (fpv 1) pa_nil))))
      (pss_one (ps_ret (pe_tup (pa_cons (pe_ix (fixQk (K:=K) rfl) (fpv 1) (fpv 2) (fun _ _=>rfl)) (pa_cons (pe_ix (fixQk (K:=K) rfl) (fpv 1) (fpv 3) (fun _ _=>rfl)) pa_nil))))))),?_⟩
    simp -dsimp[cxOf,stC,-Bool.exists_bool,-List.map_take,-Prod.forall,-Prod.exists]
    refine ⟨_,.inl (SqL.of hl),p,_,rfl,hp,by simp;omega,by simp;omega,fun d H1 hd0 hd1 hP1 hB1=>?_⟩
    have hl1:=hB1 _ _ hlp hl
    simp -dsimp[cxOf,stC,-Bool.exists_bool,-List.map_take,-Prod.forall,-Prod.exists]
    refine ⟨_,.inl (SqL.of hl1),p,_,rfl,hP1,by simp;omega,by simp;omega,fun e H2 he0 he1 hP2 hB2=>?_⟩
    have hl2:=hB2 _ _ hlp hl1
    simp only [List.length_map] at hd1 he1
    obtain ⟨m0,m1,m2⟩:=mod_ne hd0 hd1 he0 he1
    obtain ⟨vx,ex,ax⟩:=atI_int (xs:=xs.map V.str) hd0 (by simpa using hd1)
    obtain ⟨vy,ey,ay⟩:=atI_int (xs:=xs.map V.str) m0 (by simpa using m1)
    obtain ⟨x,ex',rfl⟩:=str_at ex
    obtain ⟨y,ey',rfl⟩:=str_at ey
    have sl:=SqL.of (K:=K) hl2
    simp -dsimp[cxOf,stC,-Bool.exists_bool,-List.map_take,-Prod.forall,-Prod.exists]
    refine ⟨_,.inl sl,by simp;omega,_,.inl sl,_,ax,_,.inl sl,_,(by simpa using ay),fun t ht=>?_⟩
    refine q t x y _ (Pot.none (hB1.trans hB2) hP2 ht) upd_same (List.mem_of_getElem? ex') (List.mem_of_getElem? ey') (fun z=>?_) (hP2.upd (hP2.ne ht)) ((hB1.trans hB2).same (same_upd ht))
    subst z
    have:=nodup_at hnd ex' ey'
    omega
def sp_names:Sp:=fun vs H Q _=>∃(p:Addr) (m:Nat),vs=[.ref p,.int m]∧Pot H p∧1≤m∧m≤9∧∀(r:Addr) (xs:List Str) (H':Hp),H r=none→H' r=some (.lst (xs.map V.str))→Pts xs→xs.length=m→Pot H' p→But p H H'→Q (.ref r) H'
theorem ok_names (T:Txt K mg a):FnOk P w K mg base CX0 2 a.f_names a.fd_names ["_law_pot_here", "_law_many"] sp_names:=by
  refine T.F_names.okL sc_names (fun vs H Q E h=>?_) (fun cdv A outer s H vs Q E hr h=>?_)
  · obtain ⟨p,m,rfl,_⟩:=h
    rfl
  · obtain ⟨p,m,rfl,hp,h1,h9,q⟩:=h
    refine ⟨_,(pss_cons (ps_set (i:=2) sc_names.nd rfl (Or.inl rfl) pe_str)
      (pss_cons (ps_set (i:=3) sc_names.nd rfl (Or.inl rfl) (PE.eqv (pe_call (ok_take (K:=K) T) (hr.mono (by decide)) rfl T.m_take T.F_take.kp T.b_take .nil pass0 (pa_cons (fpv 0) (pa_cons pe_int pa_nil))) (fCall_eq _ _ _)))
      (pss_cons (ps_if (fpt_cmpR fop_eq (PE.eqv (pe_call (ok_take (K:=K) T) (hr.mono (by decide)) rfl T.m_take T.F_take.kp T.b_take .nil pass0 (pa_cons (fpv 0) (pa_cons pe_int pa_nil))) (fCall_eq _ _ _)) pe_int (nomark _)) (pss_cons (PS.eqv (ps_par (i:=4) (j:=5) rfl sc_names.nd rfl rfl (by decide) rfl rfl (pa_cons (pe_ix fix_str (fpv 2) (fpv 3) (fun _ _=>rfl)) (pa_cons (pe_ix fix_str (fpv 2) (pe_op fop_mod (pe_op fop_add (fpv 3) pe_int) pe_int) (fun _ _=>rfl)) pa_nil)) rfl) (fPar_eq _ _ _))
      (pss_cons (ps_set (i:=6) sc_names.nd rfl (Or.inr rfl) (pe_lst (pa_cons (fpv 4) (pa_cons (pe_op fop_add_str (fpv 4) (fpv 4)) (pa_cons (pe_op fop_add_str (fpv 4) (fpv 5)) (pa_cons (pe_op fop_add_str (pe_op fop_add_str (fpv 4) (fpv 4)) (fpv 5)) (pa_cons (fpv 5) (pa_cons (pe_op fop_add_str (fpv 5) (fpv 4)) (pa_cons (pe_op fop_add_str (pe_op fop_add_str (fpv 4) (fpv 4)) (fpv 4)) (pa_cons (pe_op fop_add_str (pe_op fop_add_str (fpv 4) (fpv 5)) (fpv 4)) (pa_cons (pe_op fop_add_str (fpv 5) (fpv 5)) (pa_cons (pe_op fop_add_str (pe_op fop_add_str (pe_op fop_add_str (fpv 4) (fpv 4)) (fpv 4)) (fpv 5)) (pa_cons (pe_op fop_add_str (pe_op fop_add_str (fpv 4) (fpv 5)) (fpv 5)) (pa_cons (pe_op fop_add_str (pe_op fop_add_str (fpv 5) (fpv 4)) (fpv 4)) pa_nil))))))))))))))
      (pss_one (ps_ret (pe_comp rfl rfl (show CompScope (defScope s_names) _ ["_law_pot_here", "_law_many", "_law_letters", "_law_begin", "_law_p", "_law_q", "_law_some", "_law_found", "_law_k", "_law_word", "_law_j"] ["_law_k"] [6,0] ["_law_k", "_law_some", "_law_pot_here"] from ⟨rfl,by decide +kernel,by decide +kernel,rfl,by decide +kernel,by decide +kernel⟩) rfl (PI.eqv (pi_range1 rfl T.nm.range (pa_cons (fpv 1) pa_nil)) (fiRng1_eq _)) (fun C s H fp pn=>(pg_name (i:=0) (show (["_law_k", "_law_some", "_law_pot_here"]:List Str).Nodup by decide +kernel) rfl (Or.inl rfl))) (fun C s H fp pn=>pts_nil) (fun C s H fp pn=>(pe_bmk (K:=K) rfl PySem.F.plainAttrs_list PySem.F.slot_list_pop PySem.F.type_list_pop mt_popAt (fpv 1) (pa_cons (PE.eqv (pe_call (ok_take (K:=K) T) (hr.mono (by decide)) rfl T.m_take T.F_take.kp T.b_take .nil pass0 (pa_cons (fpv 2) (pa_cons (pe_callB (flenQk (K:=K) rfl) rfl T.nm.len PySem.boot_len (pa_cons (fpv 1) pa_nil)) pa_nil))) (fCall_eq _ _ _)) pa_nil)))))))) pss_nil)
      (pss_cons (ps_set (i:=7) sc_names.nd rfl (Or.inl rfl) (pe_lst pa_nil))
      (pss_cons (ps_for PassesOwn.never rfl (PI.eqv (pi_range1 rfl T.nm.range (pa_cons (fpv 1) pa_nil)) (fiRng1_eq _)) (pg_name (i:=8) sc_names.nd rfl (Or.inl rfl))
      (pss_cons (ps_set (i:=9) sc_names.nd rfl (Or.inl rfl) (pe_ix fix_str (fpv 2) (pe_op fop_mod (pe_op fop_add (fpv 3) (pe_op fop_mul pe_int (fpv 8))) pe_int) (fun _ _=>rfl)))
      (pss_cons (ps_for PassesOwn.never rfl (PI.eqv (pi_range1 rfl T.nm.range (pa_cons (PE.eqv (pe_call (ok_take (K:=K) T) (hr.mono (by decide)) rfl T.m_take T.F_take.kp T.b_take .nil pass0 (pa_cons (fpv 0) (pa_cons pe_int pa_nil))) (fCall_eq _ _ _)) pa_nil)) (fiRng1_eq _)) (pg_name (i:=10) sc_names.nd rfl (Or.inl rfl))
      (pss_one (ps_set (i:=9) sc_names.nd rfl (Or.inl rfl) (pe_op fop_add_str (fpv 9) (pe_ix fix_str (fpv 2) (PE.eqv (pe_call (ok_take (K:=K) T) (hr.mono (by decide)) rfl T.m_take T.F_take.kp T.b_take .nil pass0 (pa_cons (fpv 0) (pa_cons pe_int pa_nil))) (fCall_eq _ _ _)) (fun _ _=>rfl))))))
      (pss_one (ps_expr (pe_bmk (K:=K) rfl PySem.F.plainAttrs_list PySem.F.slot_list_append PySem.F.type_list_append fmt_append (fpv 7) (pa_cons (fpv 9) pa_nil)))))))
      (pss_one (ps_ret (fpv 7)))))))),?_⟩
    simp -dsimp[cxOf,stC,-Bool.exists_bool,-List.map_take,-Prod.forall,-Prod.exists]
    refine ⟨p,_,rfl,hp,by decide,by decide,fun d H1 hd0 hd1 hP1 hB1=>?_⟩
    obtain ⟨b,rfl,hb26,hbl⟩:=letters_int hd0 hd1
    simp -dsimp[cxOf,stC,-Bool.exists_bool,-List.map_take,-Prod.forall,-Prod.exists]
    refine ⟨p,_,rfl,hP1,by decide,by decide,fun e H2 he0 he1 hP2 hB2'=>?_⟩
    have hB2:=hB1.trans hB2'
    simp -dsimp[cxOf,stC,-Bool.exists_bool,-List.map_take,-Prod.forall,-Prod.exists]
    refine tBr.of (fun he=>?_) (fun he=>?_)
    · obtain ⟨c,hc,hc26,hcl⟩:=letters_int (i:=((b:Int)+1) % 26) (by omega) (by omega)
      have hc':c=(b+1) % 26:=by omega
      have l1:∀c:Nat,(⟨#[c]⟩:Str).length=1:=fun _=>rfl
      have la:∀x y:Str,(x++y).length=x.length+y.length:=fun x y=>Array.size_append
      simp -dsimp[cxOf,stC,-Bool.exists_bool,-List.map_take,-Prod.forall,-Prod.exists,hbl,hcl,letters_len,l1,la]
      intro L hL0
      refine ⟨by omega,fun D hD0=>?_⟩
      have hW:(H2 L=none):=hL0
      have eW:([V.str ⟨#[97+b]⟩,V.str (⟨#[97+b]⟩++⟨#[97+b]⟩),V.str (⟨#[97+b]⟩++⟨#[97+c]⟩),V.str (⟨#[97+b]⟩++⟨#[97+b]⟩++⟨#[97+c]⟩),V.str ⟨#[97+c]⟩,V.str (⟨#[97+c]⟩++⟨#[97+b]⟩),V.str (⟨#[97+b]⟩++⟨#[97+b]⟩++⟨#[97+b]⟩),V.str (⟨#[97+b]⟩++⟨#[97+c]⟩++⟨#[97+b]⟩),V.str (⟨#[97+c]⟩++⟨#[97+c]⟩),V.str (⟨#[97+b]⟩++⟨#[97+b]⟩++⟨#[97+b]⟩++⟨#[97+c]⟩),V.str (⟨#[97+b]⟩++⟨#[97+c]⟩++⟨#[97+c]⟩),V.str (⟨#[97+c]⟩++⟨#[97+b]⟩++⟨#[97+b]⟩)]:List V)=(words12 (97+b) (97+c)).map V.str:=rfl
      rw [eW] at hD0 ⊢
      obtain ⟨wnd,wok⟩:=hc'▸words12_ok b hb26
      have hw12:(words12 (97+b) (97+c)).length=12:=rfl
      generalize words12 (97+b) (97+c)=W at *
      have hLD:L≠D:=fun z=>by subst z;rw [upd_same] at hD0;cases hD0
      have hD2:H2 D=none:=by rw [upd_ne hLD.symm] at hD0;exact hD0
      refine cmR (fun i σ H'=>∃v ys zs,σ=[v,some (.ref L),some (.ref p)]∧H' L=some (.lst (zs.map V.str))∧H' D=some (.lst (ys.map V.str))∧ys.length=i∧(ys++zs).Perm W∧Pot H' p∧But p H H') ⟨none,[],W,rfl,by rw [upd_ne hLD,upd_same],upd_same,rfl,by simp,(hP2.upd (hP2.ne hL0)).upd (hP2.ne hD2),(hB2.same (same_upd hL0)).same (same_upd hD0)⟩ ?_ ?_
      · rintro i σ H' hi ⟨v,ys,zs,rfl,hL,hD,hl,hpm,hP,hB⟩
        have hz:zs.length=12 - i:=by
          have:=hpm.length_eq
          simp at this
          omega
        simp -dsimp[cxOf,stC,-Bool.exists_bool,-List.map_take,-Prod.forall,-Prod.exists]
        refine ⟨⟨_,SqL.of hL⟩,_,.inl (SqL.of hL),p,_,rfl,hP,by simp;omega,by simp;omega,fun e H3 he0 he1 hP3 hB3=>?_⟩
        simp only [List.length_map] at he1
        have pL:L≠p:=fun z=>by subst z;obtain ⟨_,_,u,_⟩:=hP2;rw [hL0] at u;cases u
        have pD:D≠p:=fun z=>by subst z;obtain ⟨_,_,u,_⟩:=hP2;rw [hD2] at u;cases u
        have hL3:=hB3 _ _ pL hL
        have hD3:=hB3 _ _ pD hD
        have hek:e.toNat<zs.length:=by omega
        simp -dsimp[cxOf,stC,-Bool.exists_bool,-List.map_take,-Prod.forall,-Prod.exists]
        have hz2:zs[e.toNat]? = some (zs[e.toNat]'hek):=by simp [hek]
        refine ⟨_,hL3,by omega,by omega,e.toNat,seqIndex_pos he0 (by simpa using he1),.str (zs[e.toNat]'hek),by rw [List.getElem?_map,hz2];rfl,_,by rw [upd_ne hLD.symm];exact hD3,?_,ys++[zs[e.toNat]'hek],zs.eraseIdx e.toNat,?_,?_,by simp [hl],?_,(hP3.upd pL.symm).upd pD.symm,?_⟩
        · have h12:=of_eq_true sz12
          simp only [List.length_map]
          omega
        ·rw [upd_ne hLD,upd_same,erase_map]
        · rw [upd_same]
          simp
        · refine List.Perm.trans ?_ hpm
          rw [List.append_assoc]
          exact List.Perm.append_left ys (erase_perm hz2)
        ·exact (hB.trans hB3).new (Pot.none hB2 hP2 hL0) |>.new (Pot.none hB2 hP2 hD2)
      · rintro σ H' ⟨v,ys,zs,rfl,hL,hD,hl,hpm,hP,hB⟩
        simp -dsimp[cxOf,stC,-Bool.exists_bool,-List.map_take,-Prod.forall,-Prod.exists]
        have hnd:(ys++zs).Nodup:=hpm.nodup_iff.mpr wnd
        refine q D ys H' (Pot.none (p:=p) hB2 hP2 hD2) hD ⟨by omega,fun x hx=>wok x (hpm.mem_iff.mp (List.mem_append_left _ hx)),(List.nodup_append.mp hnd).1⟩ hl hP hB
    · simp -dsimp[cxOf,stC,-Bool.exists_bool,-List.map_take,-Prod.forall,-Prod.exists]
      intro r hr0
      refine ⟨by omega,frR (fun i σ H'=>∃v8 v9 v10 ws,σ=[some (.ref p),some (.int m),some (.str (Str.ofString "abcdefghijklmnopqrstuvwxyz")),some (.int b),none,none,none,some (.ref r),v8,v9,v10]∧H' r=some (.lst (ws.map V.str))∧ws.length=i∧(∀(j:Nat) x,ws[j]? = some x→∃k,1≤k∧k≤4∧WordOf (97+(b+5 * j) % 26) k x)∧Pot H' p∧But p H H') ⟨none,none,none,[],rfl,upd_same,rfl,fun j x e=>by simp at e,hP2.upd (hP2.ne hr0),hB2.same (same_upd hr0)⟩ ?_ ?_⟩
      · rintro i σ H' hi ⟨v8,v9,v10,ws,rfl,hr',hl,hw,hP,hB⟩
        simp -dsimp[cxOf,stC,-Bool.exists_bool,-List.map_take,-Prod.forall,-Prod.exists]
        obtain ⟨c,hc,hc26,hcl⟩:=letters_int (i:=((b:Int)+5 * i) % 26) (by omega) (by omega)
        have hc':c=(b+5 * i) % 26:=by omega
        have pr:r≠p:=fun z=>by subst z;obtain ⟨_,_,u,_⟩:=hP2;rw [hr0] at u;cases u
        refine ⟨letters_len,_,hcl,p,_,rfl,hP,by decide,by decide,fun e H3 he0 he1 hP3 hB3=>?_⟩
        simp -dsimp[cxOf,stC,-Bool.exists_bool,-List.map_take,-Prod.forall,-Prod.exists]
        refine ⟨by omega,by omega,frR (fun j σ H'=>∃v10 x,σ=[some (.ref p),some (.int m),some (.str (Str.ofString "abcdefghijklmnopqrstuvwxyz")),some (.int b),none,none,none,some (.ref r),some (.int i),some (.str x),v10]∧H' r=some (.lst (ws.map V.str))∧WordOf (97+c) (j+1) x∧Pot H' p∧But p H H') ⟨v10,_,rfl,hB3 _ _ pr hr',WordOf.one hc26,hP3,hB.trans hB3⟩ ?_ ?_⟩
        · rintro j σ H4 hj ⟨v10,x,rfl,hr4,hx,hP4,hB4⟩
          simp -dsimp[cxOf,stC,-Bool.exists_bool,-List.map_take,-Prod.forall,-Prod.exists]
          refine ⟨p,_,rfl,hP4,by decide,by decide,fun f H5 hf0 hf1 hP5 hB5=>?_⟩
          obtain ⟨n,rfl,hn26,hnl⟩:=letters_int hf0 hf1
          simp -dsimp[cxOf,stC,-Bool.exists_bool,-List.map_take,-Prod.forall,-Prod.exists,letters_len,hnl]
          have hx1:=hx.len
          have s20:=of_eq_true sz20
          refine ⟨?_,_,_,⟨rfl,rfl⟩,hB5 _ _ pr hr4,hx.snoc (by omega) hn26,hP5,hB4.trans hB5⟩
          show x.length+1≤sizeLine
          omega
        · rintro σ H4 ⟨v10,x,rfl,hr4,hx,hP4,hB4⟩
          simp -dsimp[cxOf,stC,-Bool.exists_bool,-List.map_take,-Prod.forall,-Prod.exists]
          have s20:=of_eq_true sz20
          refine ⟨⟨_,SqL.of hr4⟩,_,hr4,by simp;omega,ws++[x],by rw [upd_same];simp,by simp [hl],fun j y e=>?_,hP4.upd pr.symm,hB4.new (Pot.none hB2 hP2 hr0)⟩
          by_cases hj:j<ws.length
          · rw [List.getElem?_append_left hj] at e
            exact hw j y e
          · rw [List.getElem?_append_right (by omega)] at e
            cases hk:j - ws.length with
            | zero=>
              rw [hk] at e
              simp at e
              subst e
              have ej:j=i:=by omega
              subst ej
              exact ⟨_,by omega,by omega,hc'▸hx⟩
            | succ k=>
              rw [hk] at e
              simp at e
      · rintro σ H' ⟨v8,v9,v10,ws,rfl,hr',hl,hw,hP,hB⟩
        simp -dsimp[cxOf,stC,-Bool.exists_bool,-List.map_take,-Prod.forall,-Prod.exists]
        have nd:ws.Nodup:=by
          unfold List.Nodup
          rw [List.pairwise_iff_getElem]
          intro i j hi hj hij e
          obtain ⟨k1,_,_,w1⟩:=hw i _ (by simp [hi]:ws[i]? = some ws[i])
          obtain ⟨k2,_,_,w2⟩:=hw j _ (by simp [hj]:ws[j]? = some ws[j])
          have z:=w1.fst
          rw [e,w2.fst] at z
          simp at z
          omega
        refine q r ws H' (Pot.none hB2 hP2 hr0) hr' ⟨by omega,fun x hx=>?_,nd⟩ hl hP hB
        obtain ⟨j,hj,e⟩:=List.mem_iff_getElem.mp hx
        obtain ⟨k,k1,k4,w⟩:=hw j x (by simp [hj,e])
        exact w.name k1 k4
theorem TupsAt.perm {H:Hp} {vs ys:List V} {ps:List (Str×Str)} (h:TupsAt H vs ps) (hp:ys.Perm vs):∃qs:List (Str×Str),TupsAt H ys qs∧qs.Perm ps:=by
  have e1:vs=(vs.zip ps).map (·.1):=by rw [List.map_fst_zip (by rw [h.1];exact Nat.le_refl _)]
  have e2:ps=(vs.zip ps).map (·.2):=by rw [List.map_snd_zip (by rw [h.1];exact Nat.le_refl _)]
  obtain ⟨l',pl,e⟩:=perm_map_inv hp _ e1
  refine ⟨l'.map (·.2),⟨by rw [e];simp,fun i v d h1 h2=>?_⟩,by rw [e2];exact pl.map _⟩
  rw [e,List.getElem?_map] at h1
  rw [List.getElem?_map] at h2
  cases hz:l'[i]? with
  | none=>rw [hz] at h1;cases h1
  | some z=>
    rw [hz] at h1 h2
    cases h1
    cases h2
    have hm:z∈vs.zip ps:=pl.mem_iff.mp (List.mem_of_getElem? hz)
    obtain ⟨j,hj,ez⟩:=List.mem_iff_getElem.mp hm
    have hj':j<vs.length∧j<ps.length:=by
      simp at hj
      omega
    simp at ez
    subst ez
    exact h.2 j _ _ (by simp [hj'.1]) (by simp [hj'.2])
theorem TupsAt.at {H:Hp} {vs:List V} {ps:List (Str×Str)} (h:TupsAt H vs ps) {i:Nat} {v:V} (hv:vs[i]? = some v):∃e,ps[i]? = some e∧∃t,v = .ref t∧H t=some (.tup [.str e.1,.str e.2]):=by
  have hi:i<ps.length:=by rw [← h.1];exact (List.getElem?_eq_some_iff.mp hv).1
  exact ⟨ps[i],by simp [hi],h.2 i v _ hv (by simp [hi])⟩
theorem TupsAt.but {p:Addr} {H H':Hp} {vs:List V} {ps:List (Str×Str)} (h:TupsAt H vs ps) (hp:Pot H p) (b:But p H H'):TupsAt H' vs ps:=h.keep fun c xs e=>b c _ (fun z=>by
  subst z
  obtain ⟨_,_,u,_⟩:=hp
  rw [e] at u
  cases u) e
theorem TupsAt.same {H H':Hp} {vs:List V} {ps:List (Str×Str)} (h:TupsAt H vs ps) (b:Same H H'):TupsAt H' vs ps:=h.keep fun c xs e=>b c _ e
theorem Pot.nl {p q:Addr} {H:Hp} (x:Pot H p) (h:H q = .none):q≠p:=fun z=>(x.ne h) z.symm
def sp_web:Sp:=fun vs H Q _=>∃(p:Addr) (m k:Nat),vs=[.ref p,.int m,.int k]∧Pot H p∧1≤m∧m≤9∧m≤k∧k≤20∧∀(t n l:Addr) (xs:List Str) (tv:List V) (ps:List (Str×Str)) (H':Hp),
  H t=none→H n=none→H l=none→H' t=some (.tup [.ref n,.ref l])→H' n=some (.lst (xs.map V.str))→H' l=some (.lst tv)→TupsAt H' tv ps→Pts xs→Ties xs ps→xs.length≤m→ps.length≤k→Pot H' p→But p H H'→Q (.ref t) H'
theorem ok_web (T:Txt K mg a):FnOk P w K mg base CX0 3 a.f_web a.fd_web ["_law_pot_here", "_law_points", "_law_most"] sp_web:=by
  refine T.F_web.okL sc_web (fun vs H Q E h=>?_) (fun cdv A outer s H vs Q E hr h=>?_)
  · obtain ⟨p,m,k,rfl,_⟩:=h
    rfl
  · obtain ⟨p,m,k,rfl,hp,h1,h9,hmk,hk,q⟩:=h
    refine ⟨_,(pss_cons (ps_set (i:=3) sc_web.nd rfl (Or.inl rfl) (PE.eqv (pe_call (ok_names (K:=K) T) (hr.mono (by decide)) rfl T.m_names T.F_names.kp T.b_names .nil pass0 (pa_cons (fpv 0) (pa_cons (pe_op fop_add pe_int (PE.eqv (pe_call (ok_take (K:=K) T) (hr.mono (by decide)) rfl T.m_take T.F_take.kp T.b_take .nil pass0 (pa_cons (fpv 0) (pa_cons (fpv 1) pa_nil))) (fCall_eq _ _ _))) pa_nil))) (fCall_eq _ _ _)))
      (pss_cons (ps_set (i:=4) sc_web.nd rfl (Or.inl rfl) (PE.eqv (pe_call (ok_take (K:=K) T) (hr.mono (by decide)) rfl T.m_take T.F_take.kp T.b_take .nil pass0 (pa_cons (fpv 0) (pa_cons pe_int pa_nil))) (fCall_eq _ _ _)))
      (pss_cons (ps_set (i:=5) sc_web.nd rfl (Or.inl rfl) (pe_lst pa_nil))
      (pss_cons (ps_if (fpt_cmpR fop_gt (pe_callB (flenQk (K:=K) rfl) rfl T.nm.len PySem.boot_len (pa_cons (fpv 3) pa_nil)) pe_int (nomark _)) (pss_cons (ps_set (i:=6) sc_web.nd rfl (Or.inr rfl) (PE.eqv (pe_call (ok_mixed (K:=K) T) (hr.mono (by decide)) rfl T.m_mixed T.F_mixed.kp T.b_mixed .nil pass0 (pa_cons (fpv 0) (pa_cons (fpv 3) pa_nil))) (fCall_eq _ _ _)))
      (pss_cons (ps_if (fpt_cmpR fop_gt (fpv 4) pe_int (nomark _)) (pss_one (ps_setComp (i:=5) sc_web.nd rfl rfl rfl rfl (show CompScope (defScope s_web) _ ["_law_pot_here", "_law_points", "_law_most", "_law_names_here", "_law_kind", "_law_ties", "_law_row", "_law_k", "_law_turns"] ["_law_k"] [6] ["_law_k", "_law_row"] from ⟨rfl,by decide +kernel,by decide +kernel,rfl,by decide +kernel,by decide +kernel⟩) rfl (PI.eqv (pi_range2 rfl T.nm.range (pa_cons (pe_callTy fcall_int1 rfl T.nm.int boot_intT (pa_cons (pe_cmpR fop_eq (fpv 4) pe_int (nomark _)) pa_nil)) (pa_cons (pe_callB (flenQk (K:=K) rfl) rfl T.nm.len PySem.boot_len (pa_cons (fpv 6) pa_nil)) pa_nil))) (fiRng2_eq _)) (fun C s H fp pn=>(pg_name (i:=0) (show (["_law_k", "_law_row"]:List Str).Nodup by decide +kernel) rfl (Or.inl rfl))) (fun C s H fp pn=>pts_nil) (fun C s H fp pn=>(pe_tup (pa_cons (pe_ix (fixQk (K:=K) rfl) (fpv 1) (pe_op fop_sub (fpv 0) pe_int) (fun _ _=>rfl)) (pa_cons (pe_ix (fixQk (K:=K) rfl) (fpv 1) (fpv 0) (fun _ _=>rfl)) pa_nil)))))) pss_nil)
      (pss_one (ps_for PassesOwn.never rfl (PI.eqv (pi_range1 rfl T.nm.range (pa_cons (PE.eqv (pe_call (ok_take (K:=K) T) (hr.mono (by decide)) rfl T.m_take T.F_take.kp T.b_take .nil pass0 (pa_cons (fpv 0) (pa_cons (pe_op fop_add (pe_op fop_sub (fpv 2) (pe_callB (flenQk (K:=K) rfl) rfl T.nm.len PySem.boot_len (pa_cons (fpv 5) pa_nil))) pe_int) pa_nil))) (fCall_eq _ _ _)) pa_nil)) (fiRng1_eq _)) (pg_name (i:=7) sc_web.nd rfl (Or.inl rfl))
      (pss_one (ps_expr (pe_bmk (K:=K) rfl PySem.F.plainAttrs_list PySem.F.slot_list_append PySem.F.type_list_append fmt_append (fpv 5) (pa_cons (PE.eqv (pe_call (ok_tie (K:=K) T) (hr.mono (by decide)) rfl T.m_tie T.F_tie.kp T.b_tie .nil pass0 (pa_cons (fpv 0) (pa_cons (fpv 3) pa_nil))) (fCall_eq _ _ _)) pa_nil)))))))) pss_nil)
      (pss_cons (ps_setComp (i:=8) sc_web.nd rfl rfl rfl rfl (show CompScope (defScope s_web) _ ["_law_pot_here", "_law_points", "_law_most", "_law_names_here", "_law_kind", "_law_ties", "_law_row", "_law_k", "_law_turns"] ["_law_tie_here"] [0] ["_law_tie_here", "_law_pot_here"] from ⟨rfl,by decide +kernel,by decide +kernel,rfl,by decide +kernel,by decide +kernel⟩) rfl (PI.eqv (pi_listk (K:=K) rfl (fpv 5)) (fiList_eq _ _)) (fun C s H fp pn=>(pg_name (i:=0) (show (["_law_tie_here", "_law_pot_here"]:List Str).Nodup by decide +kernel) rfl (Or.inl rfl))) (fun C s H fp pn=>pts_nil) (fun C s H fp pn=>(PE.eqv (pe_call (ok_take (K:=K) T) (hr.mono (by decide)) rfl T.m_take T.F_take.kp T.b_take .nil pass0 (pa_cons (fpv 1) (pa_cons pe_int pa_nil))) (fCall_eq _ _ _))))
      (pss_cons (ps_setComp (i:=5) sc_web.nd rfl rfl rfl rfl (show CompScope (defScope s_web) _ ["_law_pot_here", "_law_points", "_law_most", "_law_names_here", "_law_kind", "_law_ties", "_law_row", "_law_k", "_law_turns"] ["_law_turn", "_law_a", "_law_b"] [] ["_law_turn", "_law_a", "_law_b"] from ⟨rfl,by decide +kernel,by decide +kernel,rfl,by decide +kernel,by decide +kernel⟩) rfl (PI.eqv (pi_zipk (K:=K) rfl rfl T.nm.zip (pa_cons (fpv 5) (pa_cons (fpv 8) pa_nil))) (fiZip_eq _ _)) (fun C s H fp pn=>(PG.eqv (pg_tupk (K:=K) (n:=2) rfl rfl (PGs.eqv (pgs_cons (PG.eqv (pg_tupk (K:=K) (n:=2) rfl rfl (PGs.eqv (pgs_cons (pg_name (i:=1) (show (["_law_turn", "_law_a", "_law_b"]:List Str).Nodup by decide +kernel) rfl (Or.inl rfl)) (PGs.eqv (pgs_cons (pg_name (i:=2) (show (["_law_turn", "_law_a", "_law_b"]:List Str).Nodup by decide +kernel) rfl (Or.inl rfl)) (PGs.mono pgs_nil fNil_t)) (fCons_eq _ _))) (fCons_eq _ _))) (fTup_eq _ _ _)) (PGs.eqv (pgs_cons (pg_name (i:=0) (show (["_law_turn", "_law_a", "_law_b"]:List Str).Nodup by decide +kernel) rfl (Or.inl rfl)) (PGs.mono pgs_nil fNil_t)) (fCons_eq _ _))) (fCons_eq _ _))) (fTup_eq _ _ _))) (fun C s H fp pn=>pts_nil) (fun C s H fp pn=>(pe_ix (fixQk (K:=K) rfl) (pe_lst (pa_cons (pe_tup (pa_cons (fpv 1) (pa_cons (fpv 2) pa_nil))) (pa_cons (pe_tup (pa_cons (fpv 2) (pa_cons (fpv 1) pa_nil))) pa_nil))) (fpv 0) (fun _ _=>rfl))))
      (pss_one (ps_ret (pe_tup (pa_cons (fpv 3) (pa_cons (PE.eqv (pe_call (ok_mixed (K:=K) T) (hr.mono (by decide)) rfl T.m_mixed T.F_mixed.kp T.b_mixed .nil pass0 (pa_cons (fpv 0) (pa_cons (fpv 5) pa_nil))) (fCall_eq _ _ _)) pa_nil))))))))))),?_⟩
    simp -dsimp[cxOf,stC,-Bool.exists_bool,-List.map_take,-Prod.forall,-Prod.exists]
    refine ⟨p,_,rfl,hp,zpos h1,zlt h9 (by decide),fun d H1 hd0 hd1 hP1 hB1=>?_⟩
    simp -dsimp[cxOf,stC,-Bool.exists_bool,-List.map_take,-Prod.forall,-Prod.exists]
    refine ⟨p,d.toNat+1,?_,hP1,Nat.le_add_left 1 _,ztn hd0 hd1 h9,fun n xs H2 hn hn2 hX hxl hP2 hB2'=>?_⟩
    · simp
      exact zmax hd0 1
    have hxm:xs.length≤m:=by rw [hxl];exact ztn hd0 hd1 (Nat.le_refl m)
    have hx9:=Nat.le_trans hxm h9
    have hB2:=hB1.trans hB2'
    simp -dsimp[cxOf,stC,-Bool.exists_bool,-List.map_take,-Prod.forall,-Prod.exists]
    refine ⟨p,_,rfl,hP2,by decide,by decide,fun kd H3 hk0 hk1 hP3 hB3'=>?_⟩
    have hB3:=hB2.trans hB3'
    have np:n≠p:=fun z=>by subst z;obtain ⟨_,_,u,_⟩:=hP1;rw [hn] at u;cases u
    have hn3:=hB3' _ _ np hn2
    simp -dsimp[cxOf,stC,-Bool.exists_bool,-List.map_take,-Prod.forall,-Prod.exists]
    refine fun L hL=>⟨_,.inl (SqL.of (upd_old hn3 hL)),tBr_join (fun σ H4=>∃v6 v7 L tv ps,σ=[some (.ref p),some (.int m),some (.int k),some (.ref n),some (.int kd),some (.ref L),v6,v7,none]∧H L=none∧H4 L=some (.lst tv)∧TupsAt H4 tv ps∧Ties xs ps∧ps.length≤k∧H4 n=some (.lst (xs.map V.str))∧Pot H4 p∧But p H H4) ?_ ?_⟩
    · rintro σ H4 ⟨v6,v7,L,tv,ps,rfl,hL0,hL4,htv,hts,hpk,hn4,hP4,hB4⟩
      simp -dsimp[cxOf,stC,-Bool.exists_bool,-List.map_take,-Prod.forall,-Prod.exists]
      have Lp:L≠p:=hp.nl hL0
      have hL20:tv.length≤20:=by rw [htv.1];exact Nat.le_trans hpk hk
      have s20:=of_eq_true sz20
      refine ⟨⟨_,SqL.of hL4⟩,fun D hD=>cmL tv (fun i σ H'=>∃v ds,σ=[v,some (.ref p)]∧H' D=some (.lst (ds.map V.int))∧ds.length=i∧(∀d∈ds,0≤d∧d<2)∧H' L=some (.lst tv)∧TupsAt H' tv ps∧H' n=some (.lst (xs.map V.str))∧Pot H' p∧But p H H') ⟨none,[],rfl,upd_same,rfl,by simp,upd_old hL4 hD,htv.same (same_upd hD),upd_old hn4 hD,hP4.upd (hP4.ne hD),hB4.same (same_upd hD)⟩ (fun i σ H' _ h=>by
        obtain ⟨_,_,_,_,_,_,z,_⟩:=h
        exact SqL.of z) ?_ ?_⟩
      · rintro i x σ H5 hi ⟨v,ds,rfl,hD5,hl,hds,hL5,htv5,hn5,hP5,hB5⟩
        have hi2:i<tv.length:=(List.getElem?_eq_some_iff.mp hi).1
        simp -dsimp[cxOf,stC,-Bool.exists_bool,-List.map_take,-Prod.forall,-Prod.exists]
        refine ⟨p,_,rfl,hP5,by decide,by decide,fun d H6 hd0 hd1 hP6 hB6=>?_⟩
        have Dp:D≠p:=hP4.nl hD
        have LD:L≠D:=ne_of_none hL4 hD
        have nD:n≠D:=ne_of_none hn4 hD
        have hD6:=hB6 _ _ Dp hD5
        simp -dsimp[cxOf,stC,-Bool.exists_bool,-List.map_take,-Prod.forall,-Prod.exists]
        refine ⟨_,hD6,by rw [List.length_map,hl];exact zsz hi2 hL20,ds++[d],by rw [upd_same];simp,by simp [hl],?_,by rw [upd_ne LD];exact hB6 _ _ Lp hL5,(htv5.but hP5 hB6).keep (fun c zs e=>upd_oth e hD6 (by intro z;cases z)),by rw [upd_ne nD];exact hB6 _ _ np hn5,hP6.upd (Dp.symm),(hB5.trans hB6).new (Pot.none hB4 hP4 hD)⟩
        intro z hz
        rcases List.mem_append.mp hz with y | y
        ·exact hds z y
        · simp at y
          subst y
          exact ⟨hd0,hd1⟩
      · rintro σ H5 ⟨v,ds,rfl,hD5,hl,hds,hL5,htv5,hn5,hP5,hB5⟩
        simp -dsimp[cxOf,stC,-Bool.exists_bool,-List.map_take,-Prod.forall,-Prod.exists]
        have hD0:=Pot.none hB4 hP4 hD
        have LD:L≠D:=ne_of_none hL4 hD
        refine ⟨⟨_,SqL.of hL5⟩,⟨_,SqL.of hD5⟩,fun D2 hD2=>cmZ tv (ds.map V.int) (fun i σ H'=>(∃o1 o2 o3,σ=[o1,o2,o3])∧∃tvs qs,H' D2=some (.lst tvs)∧TupsAt H' tvs qs∧qs.length=i∧(∀e∈qs,e.1∈xs∧e.2∈xs∧e.1≠e.2)∧H' L=some (.lst tv)∧H' D=some (.lst (ds.map V.int))∧TupsAt H' tv ps∧H' n=some (.lst (xs.map V.str))∧Pot H' p∧But p H H') ⟨⟨_,_,_,rfl⟩,[],[],upd_same,⟨rfl,by simp⟩,rfl,by simp,upd_old hL5 hD2,upd_old hD5 hD2,htv5.same (same_upd hD2),upd_old hn5 hD2,hP5.upd (hP5.ne hD2),hB5.same (same_upd hD2)⟩ (by simp [hl]) (fun i σ H' _ h=>by
          obtain ⟨_,_,_,_,_,_,_,z1,z2,_⟩:=h
          exact ⟨SqL.of z1,SqL.of z2⟩) ?_ ?_⟩
        · rintro i x y t σ H6 hx hy ht ⟨⟨o1,o2,o3,rfl⟩,tvs,qs,hD26,htvs,hql,hqs,hL6,hD6,htv6,hn6,hP6,hB6⟩
          simp -dsimp[cxOf,stC,-Bool.exists_bool,-List.map_take,-Prod.forall,-Prod.exists]
          obtain ⟨e,he,tt,rfl,htt⟩:=htv6.at hx
          have hi2:i<tv.length:=(List.getElem?_eq_some_iff.mp hx).1
          have hem:=List.mem_of_getElem? he
          rw [List.getElem?_map] at hy
          obtain ⟨d,hd,rfl⟩:∃d,ds[i]? = some d∧y = .int d:=by
            cases z:ds[i]? with
            | none=>rw [z] at hy;cases hy
            | some d=>rw [z] at hy;exact ⟨d,rfl,(Option.some.inj hy).symm⟩
          have hd2:=hds d (List.mem_of_getElem? hd)
          refine ⟨_,SqT.of upd_same,rfl,_,SqT.of (upd_old htt ht),rfl,?_⟩
          simp -dsimp[cxOf,stC,-Bool.exists_bool,-List.map_take,-Prod.forall,-Prod.exists]
          refine fun p1 h1 p2 h2 p3 h3=>⟨_,.inl (SqL.of upd_same),?_⟩
          have hp1:=upd_old (u:=HO.lst [V.ref p1,V.ref p2]) (upd_old (u:=HO.tup [.str e.2,.str e.1]) (upd_same (H:=upd H6 t (HO.tup [V.ref tt,V.int d])) (a:=p1) (o:=HO.tup [.str e.1,.str e.2])) h2) h3
          have hp2:=upd_old (u:=HO.lst [V.ref p1,V.ref p2]) (upd_same (H:=upd (upd H6 t (HO.tup [V.ref tt,V.int d])) p1 (HO.tup [.str e.1,.str e.2])) (a:=p2) (o:=HO.tup [.str e.2,.str e.1])) h3
          have sm:=(((same_upd (o:=HO.tup [V.ref tt,V.int d]) ht).trans (same_upd (o:=HO.tup [.str e.1,.str e.2]) h1)).trans (same_upd (o:=HO.tup [.str e.2,.str e.1]) h2)).trans (same_upd (o:=HO.lst [V.ref p1,V.ref p2]) h3)
          generalize upd (upd (upd (upd H6 t (HO.tup [V.ref tt,V.int d])) p1 (HO.tup [.str e.1,.str e.2])) p2 (HO.tup [.str e.2,.str e.1])) p3 (HO.lst [V.ref p1,V.ref p2])=H9 at hp1 hp2 sm ⊢
          have key:∃(pp:Addr) (e':Str×Str),atI [V.ref p1,V.ref p2] d=some (.ref pp)∧H9 pp=some (.tup [.str e'.1,.str e'.2])∧e'.1∈xs∧e'.2∈xs∧e'.1≠e'.2:=by
            have ⟨q1,q2,q3⟩:=hts.ok e hem
            have:d=0∨d=1:=z01 hd2.1 hd2.2
            rcases this with rfl | rfl
            ·exact ⟨p1,e,rfl,hp1,q1,q2,q3⟩
            ·exact ⟨p2,(e.2,e.1),rfl,hp2,q2,q1,Ne.symm q3⟩
          obtain ⟨pp,e',a1,hpp,k1,k2,k3⟩:=key
          have D2n:=hD2
          have D2p:D2≠p:=hP5.nl hD2
          have LD2:L≠D2:=ne_of_none hL5 hD2
          have DD2:D≠D2:=ne_of_none hD5 hD2
          have nD2:n≠D2:=ne_of_none hn5 hD2
          have hD29:=sm _ _ hD26
          have kp:TupKeep H9 (upd H9 D2 (.lst (tvs++[.ref pp]))):=fun c zs e=>upd_oth e hD29 (by intro z;cases z)
          have hP9:Pot H9 p:=by
            obtain ⟨u1,u2,u3,u4⟩:=hP6
            exact ⟨u1,u2,sm _ _ u3,u4⟩
          refine ⟨_,a1,_,hD29,?_,_,upd_same,qs++[e'],((htvs.same sm).keep kp).snoc (kp _ _ hpp),by simp [hql],?_,by rw [upd_ne LD2];exact sm _ _ hL6,by rw [upd_ne DD2];exact sm _ _ hD6,(htv6.same sm).keep kp,by rw [upd_ne nD2];exact sm _ _ hn6,hP9.upd D2p.symm,(hB6.same sm).new (Pot.none hB5 hP5 hD2)⟩
          · rw [htvs.1,hql]
            exact zsz hi2 hL20
          · intro z hz
            rcases List.mem_append.mp hz with y | y
            ·exact hqs z y
            · simp at y
              subst y
              exact ⟨k1,k2,k3⟩
        · rintro σ H6 ⟨⟨o1,o2,o3,rfl⟩,tvs,qs,hD26,htvs,hql,hqs,hL6,hD6,htv6,hn6,hP6,hB6⟩
          simp -dsimp[cxOf,stC,-Bool.exists_bool,-List.map_take,-Prod.forall,-Prod.exists]
          have D2p:D2≠p:=hP5.nl hD2
          have hD20:=Pot.none hB5 hP5 hD2
          have tl:tvs.length=tv.length:=by rw [htvs.1,hql]
          refine ⟨p,D2,_,rfl,hP6,D2p,hD26,by rw [tl];exact Nat.le_trans hL20 (by decide),fun l ys H7 hl0 hl7 hperm hP7 hB7=>?_⟩
          simp -dsimp[cxOf,stC,-Bool.exists_bool,-List.map_take,-Prod.forall,-Prod.exists]
          intro t ht
          obtain ⟨rs,hrs,hrp⟩:=(htvs.but hP6 hB7).perm hperm
          refine q t n l xs ys rs _ (Pot.none (hB6.trans hB7) hP7 ht) (Pot.none hB1 hP1 hn) (Pot.none hB6 hP6 hl0) upd_same (upd_old (hB7 _ _ np hn6) ht) (upd_old hl7 ht) (hrs.same (same_upd ht)) hX ⟨?_,fun e he=>hqs e (hrp.mem_iff.mp he)⟩ hxm ?_ (hP7.upd (hP7.ne ht)) ((hB6.trans hB7).same (same_upd ht))
          ·rw [hrp.length_eq,hql];exact hL20
          ·rw [hrp.length_eq,hql,htv.1];exact hpk
    · intro N hN
      refine tBr.of (fun h=>?_) (fun h=>?_)
      · simp -dsimp[cxOf,stC,-Bool.exists_bool,-List.map_take,-Prod.forall,-Prod.exists]
        have hx2:2≤xs.length:=by simp at h;exact z2 h
        have hn3':upd H3 L (.lst []) n=some (.lst (xs.map V.str)):=upd_old hn3 hL
        refine ⟨p,n,_,rfl,hP3.upd (hP3.ne hL),np,hn3',by rw [List.length_map];exact Nat.le_trans hx9 (by decide),fun rw ys H4 hrw hrw4 hperm hP4 hB4'=>?_⟩
        have hB4:=(hB3.same (same_upd hL)).trans hB4'
        obtain ⟨zs,hzp,rfl⟩:=perm_map_inv hperm xs rfl
        have hzl:zs.length=xs.length:=hzp.length_eq
        have hznd:zs.Nodup:=hzp.nodup_iff.mpr hX.nd
        have hn4:=hB4' _ _ np hn3'
        have hL4:H4 L=some (.lst []):=hB4' _ _ (hP3.nl hL) upd_same
        have hL0:=Pot.none hB3 hP3 hL
        simp -dsimp[cxOf,stC,-Bool.exists_bool,-List.map_take,-Prod.forall,-Prod.exists]
        refine tBr_join (fun σ H5=>∃v6 v7 L tv ps,σ=[some (.ref p),some (.int m),some (.int k),some (.ref n),some (.int kd),some (.ref L),v6,v7,none]∧H L=none∧H5 L=some (.lst tv)∧TupsAt H5 tv ps∧Ties xs ps∧ps.length≤m∧H5 n=some (.lst (xs.map V.str))∧Pot H5 p∧But p H H5) ?_ ?_
        · rintro σ H5 ⟨v6,v7,L,tv,ps,rfl,hL0,hL5,htv,hts,hpm,hn5,hP5,hB5⟩
          simp -dsimp[cxOf,stC,-Bool.exists_bool,-List.map_take,-Prod.forall,-Prod.exists]
          have Lp:L≠p:=hp.nl hL0
          have hL20:tv.length=ps.length:=htv.1
          have s20:=of_eq_true sz20
          have htk:tv.length≤k:=by rw [hL20];exact Nat.le_trans hpm hmk
          refine ⟨_,.inl (SqL.of hL5),p,_,rfl,hP5,zk1 htk,zk2 hk (by decide),fun f H6 hf0 hf1 hP6 hB6'=>?_⟩
          simp -dsimp[cxOf,stC,-Bool.exists_bool,-List.map_take,-Prod.forall,-Prod.exists]
          refine ⟨zlo hf0,Int.lt_trans hf1 (zk2 hk (by decide)),frR (fun i σ H7=>∃v7 tv ps,σ=[some (.ref p),some (.int m),some (.int k),some (.ref n),some (.int kd),some (.ref L),v6,v7,none]∧H7 L=some (.lst tv)∧TupsAt H7 tv ps∧Ties xs ps∧ps.length+f.toNat≤k+i∧H7 n=some (.lst (xs.map V.str))∧Pot H7 p∧But p H H7) ⟨v7,tv,ps,rfl,hB6' _ _ Lp hL5,htv.but hP5 hB6',hts,zk3 hf0 hf1 hL20,hB6' _ _ np hn5,hP6,hB5.trans hB6'⟩ ?_ ?_⟩
          · rintro i σ H7 hi ⟨v7,tv,ps,rfl,hL7,htv7,hts7,hpl,hn7,hP7,hB7⟩
            simp -dsimp[cxOf,stC,-Bool.exists_bool,-List.map_take,-Prod.forall,-Prod.exists]
            refine ⟨⟨_,SqL.of hL7⟩,p,n,xs,rfl,hP7,np,hn7,hx2,hx9,hX.nd,fun t x y H8 ht ht8 hx hy hxy hP8 hB8=>?_⟩
            simp -dsimp[cxOf,stC,-Bool.exists_bool,-List.map_take,-Prod.forall,-Prod.exists]
            have hL8:=hB8 _ _ Lp hL7
            have hl7:=htv7.1
            have kp:TupKeep H8 (upd H8 L (.lst (tv++[.ref t]))):=fun c zs e=>upd_oth e hL8 (by intro z;cases z)
            have nL:n≠L:=fun z=>by subst z;rw [Pot.none hB1 hP1 hn] at hL0;rw [hn7] at hL7;cases tv with
              | nil=>simp at hL7;rw [hL7] at hx2;simp at hx2
              | cons v tv=>
                obtain ⟨e,_,u,rfl,_⟩:=htv7.at (i:=0) rfl
                cases xs with
                | nil=>simp at hx2
                | cons x xs=>simp at hL7
            refine ⟨_,hL8,zk4 hl7 hpl hi hk,_,upd_same,ps++[(x,y)],((htv7.but hP7 hB8).keep kp).snoc (kp _ _ ht8),⟨by rw [List.length_append];exact Nat.succ_le_succ (zk5 hpl hi hk),?_⟩,by rw [List.length_append];exact zk6 hpl,by rw [upd_ne nL];exact hB8 _ _ np hn7,hP8.upd Lp.symm,(hB7.trans hB8).new hL0⟩
            intro e he
            rcases List.mem_append.mp he with z | z
            ·exact hts7.ok e z
            · simp at z
              subst z
              exact ⟨hx,hy,hxy⟩
          · rintro σ H7 ⟨v7,tv,ps,rfl,hL7,htv7,hts7,hpl,hn7,hP7,hB7⟩
            simp -dsimp[cxOf,stC,-Bool.exists_bool,-List.map_take,-Prod.forall,-Prod.exists]
            exact hN _ _ ⟨_,_,L,tv,ps,rfl,hL0,hL7,htv7,hts7,zk7 hpl,hn7,hP7,hB7⟩
        · intro N2 hN2
          refine tBr.of (fun h=>?_) (fun h=>?_)
          · simp -dsimp[cxOf,stC,-Bool.exists_bool,-List.map_take,-Prod.forall,-Prod.exists]
            obtain ⟨lo,hlo,lo1⟩:∃lo:Nat,(if kd=3 then (1:Int) else 0)=lo∧lo≤1:=by
              split
              ·exact ⟨1,rfl,Nat.le_refl _⟩
              ·exact ⟨0,rfl,by decide⟩
            simp only [hlo]
            have s20:=of_eq_true sz20
            refine ⟨_,.inl (SqL.of hrw4),⟨zloN,zlt lo1 (by decide),zlt (by rw [List.length_map,hzl];exact hx9) (by decide)⟩,fun D hD=>cmR (fun i σ H5=>(∃o,σ=[o,some (.ref rw)])∧∃tvs qs,H5 D=some (.lst tvs)∧TupsAt H5 tvs qs∧qs.length=i∧(∀e∈qs,e.1∈xs∧e.2∈xs∧e.1≠e.2)∧Same H4 H5) ⟨⟨_,rfl⟩,[],[],upd_same,⟨rfl,by simp⟩,rfl,by simp,same_upd hD⟩ ?_ ?_⟩
            · rintro i σ H5 hi ⟨⟨o,rfl⟩,tvs,qs,hD5,htvs,hql,hqs,sm⟩
              have hk:lo+i<zs.length:=by simp at hi;exact zsub hi
              obtain ⟨j,vx,hj,ex,ax⟩:=atI_prev (xs:=zs.map V.str) (k:=lo+i) (by rw [List.length_map,hzl];exact hx2) (by simpa using hk)
              obtain ⟨x,ex',rfl⟩:=str_at ex
              have ey':zs[lo+i]? = some (zs[lo+i]'hk):=by simp [hk]
              have ay:atI (zs.map V.str) ((lo+i:Nat):Int)=some (.str (zs[lo+i]'hk)):=atI_nat (by rw [List.getElem?_map,ey'];rfl)
              have c1:((lo+i:Nat):Int)=(lo:Int)+i:=Int.natCast_add ..
              rw [c1] at ax ay
              have sl:=SqL.of (K:=K) (sm _ _ hrw4)
              simp -dsimp[cxOf,stC,-Bool.exists_bool,-List.map_take,-Prod.forall,-Prod.exists]
              refine ⟨_,.inl sl,_,ax,_,.inl sl,_,ay,fun pt hpt=>?_⟩
              have Dpt:=ne_of_none hD5 hpt
              have hD6:upd H5 pt (.tup [.str x,.str (zs[lo+i]'hk)]) D=some (.lst tvs):=upd_old hD5 hpt
              have kp:TupKeep (upd H5 pt (.tup [.str x,.str (zs[lo+i]'hk)])) (upd (upd H5 pt (.tup [.str x,.str (zs[lo+i]'hk)])) D (.lst (tvs++[.ref pt]))):=fun c zs e=>upd_oth e hD6 (by intro z;cases z)
              have hl:=htvs.1
              refine ⟨_,hD6,by rw [hl,hql];exact zsz (Nat.lt_of_le_of_lt (Nat.le_add_left i lo) hk) (by rw [hzl];exact Nat.le_trans hx9 (by decide)),_,upd_same,qs++[(x,zs[lo+i]'hk)],((htvs.same (same_upd hpt)).keep kp).snoc (kp _ _ upd_same),by simp [hql],?_,same_upd2 (sm.trans (same_upd hpt)) hD⟩
              intro e he
              rcases List.mem_append.mp he with z | z
              ·exact hqs e z
              · simp at z
                subst z
                refine ⟨hzp.mem_iff.mp (List.mem_of_getElem? ex'),hzp.mem_iff.mp (List.mem_of_getElem? ey'),fun z=>hj ?_⟩
                simp only at z
                rw [← z] at ey'
                exact nodup_at hznd ex' ey'
            · rintro σ H5 ⟨⟨o,rfl⟩,tvs,qs,hD5,htvs,hql,hqs,sm⟩
              simp -dsimp[cxOf,stC,-Bool.exists_bool,-List.map_take,-Prod.forall,-Prod.exists]
              simp at hql
              have hqm:qs.length≤m:=by rw [hql,hzl];exact Nat.le_trans (Nat.sub_le ..) hxm
              have hP5:Pot H5 p:=by
                obtain ⟨u1,u2,u3,u4⟩:=hP4
                exact ⟨u1,u2,sm _ _ u3,u4⟩
              exact hN2 _ _ ⟨_,_,D,tvs,qs,rfl,Pot.none hB4 hP4 hD,hD5,htvs,⟨Nat.le_trans hqm (Nat.le_trans h9 (by decide)),hqs⟩,hqm,sm _ _ hn4,hP5,hB4.same sm⟩
          · simp -dsimp[cxOf,stC,-Bool.exists_bool,-List.map_take,-Prod.forall,-Prod.exists]
            exact hN2 _ _ ⟨_,_,L,[],[],rfl,hL0,hL4,⟨rfl,by simp⟩,⟨by simp,by simp⟩,by simp,hn4,hP4,hB4⟩
      · simp -dsimp[cxOf,stC,-Bool.exists_bool,-List.map_take,-Prod.forall,-Prod.exists]
        exact hN _ _ ⟨_,_,L,[],[],rfl,Pot.none hB3 hP3 hL,upd_same,⟨rfl,by simp⟩,⟨by simp,by simp⟩,by simp,upd_old hn3 hL,hP3.upd (hP3.ne hL),hB3.same (same_upd hL)⟩
theorem wf_no {m:Str} {u v:V} (h1:¬m = "names") (h2:¬m = "pairs"):∀p∈([("names",u),("pairs",v)]:List (Str×V)),¬m=p.1:=fun p hp=>by
  simp at hp
  rcases hp with rfl | rfl
  ·exact h1
  ·exact h2
theorem WebAt.same {C:Addr} {H H':Hp} {o:Addr} {xs:List Str} {ps:List (Str×Str)} (h:WebAt C H o xs ps) (s:Same H H'):WebAt C H' o xs ps:=by
  obtain ⟨dx,n,m,tv,h1,h2,h3,h4,h5⟩:=h.ex
  exact ⟨⟨dx,n,m,tv,s _ _ h1,s _ _ h2,s _ _ h3,TupsAt.same h4 s,h5⟩⟩
theorem WebAt.ins {C:Addr} {H:Hp} {o:Addr} {xs:List Str} {ps:List (Str×Str)} (h:WebAt C H o xs ps) {m:Str} (h1:¬m = "names") (h2:¬m = "pairs"):∃dx fs,H o=some (.ins C dx fs)∧∀p∈fs,¬m=p.1:=by
  obtain ⟨dx,n,mm,tv,e,_⟩:=h.ex
  exact ⟨dx,_,e,wf_no h1 h2⟩
theorem no_ties:¬(("ties" : Str) = "names")∧¬(("ties" : Str) = "pairs"):=by decide +kernel
theorem no_points:¬(("points" : Str) = "names")∧¬(("points" : Str) = "pairs"):=by decide +kernel
theorem no_many:¬(("many" : Str) = "names")∧¬(("many" : Str) = "pairs"):=by decide +kernel
def tyD:PyData→String
  | .none=> "NoneType"
  | .bool _=> "bool"
  | .int _=> "int"
  | .str _=> "str"
  | .list _=> "list"
  | .tuple _=> "tuple"
  | .dict _=> "dict"
def seqD:PyData→Bool
  | .list _=>true
  | .tuple _=>true
  | _=>false
def kids:PyData→List PyData
  | .list ds=>ds
  | .tuple ds=>ds
  | _=>[]
theorem thg_ty {H:Hp} {d:PyData} {v:V} (h:ThgX H d v):TyOf K H v (.type (tyD d)):=by
  cases d with
  | none=>simp only [ThgX] at h;subst h;exact .non
  | bool b=>simp only [ThgX] at h;subst h;exact .bl b
  | int i=>simp only [ThgX] at h;subst h;exact .int i
  | str x=>simp only [ThgX] at h;subst h;exact .str x
  | list ds=>simp only [ThgX] at h;obtain ⟨a,xs,rfl,h1,_⟩:=h;exact .lst h1
  | tuple ds=>simp only [ThgX] at h;obtain ⟨a,xs,rfl,h1,_⟩:=h;exact .tup h1
  | dict ds=>simp only [ThgX] at h;obtain ⟨a,rfl,h1⟩:=h;rcases h1 with ⟨_,_,h1⟩ | ⟨_,_,h1⟩ <;> first | exact .dK h1 | exact .dT h1
theorem kit_seq (d:PyData):W.kitAny K (.type (tyD d)) [.type "list",.type "tuple"]=some (seqD d):=by
  cases d <;> simp [W.kitAny,W.kitOne,tyD,seqD] <;> rfl
theorem thg_sq {H:Hp} {d:PyData} {v:V} (h:ThgX H d v) (hs:seqD d=true):∃t xs,v = .ref t∧Sq H t xs∧ThgXAll H (kids d) xs:=by
  cases d with
  | list ds=>simp only [ThgX] at h;obtain ⟨a,xs,rfl,h1,h2⟩:=h;exact ⟨a,xs,rfl,.inl h1,h2⟩
  | tuple ds=>simp only [ThgX] at h;obtain ⟨a,xs,rfl,h1,h2⟩:=h;exact ⟨a,xs,rfl,.inr h1,h2⟩
  | _=>cases hs
def strD:PyData→Bool
  | .str _=>true
  | _=>false
def nameD:PyData→Bool
  | .str x=>nameB x
  | _=>false
theorem kit_strD (d:PyData):W.kitOne K (.type (tyD d)) (.type "str")=some (strD d):=by
  cases d with
  | none=>exact kit_NoneType_str K
  | bool b=>exact kit_bool_str K
  | int i=>exact kit_int_str K
  | str x=>exact kit_str_str K
  | list ds=>exact kit_list_str K
  | tuple ds=>exact kit_tuple_str K
  | dict ds=>exact kit_dict_str K
def sp_is_listX:Sp:=fun vs H Q _=>∃(d:PyData) (v:V),vs=[v]∧ThgX H d v∧∀H',Same H H'→Q (.bl (seqD d)) H'
theorem ok_is_listX (T:Txt K mg a):FnOk P w K mg base CX0 1 a.f_is_list a.fd_is_list ["thing"] sp_is_listX:=by
  refine T.F_is_list.okL sc_is_list (fun vs H Q E h=>?_) (fun cdv A outer s H vs Q E hr h=>?_)
  · obtain ⟨d,v,rfl,_⟩:=h
    rfl
  · obtain ⟨d,v,rfl,hd,q⟩:=h
    refine ⟨_,(pss_one (ps_ret (pe_callB (fisi2k (K:=K) rfl) rfl T.nm.isinstance boot_isinstance (pa_cons (fpv 0) (pa_cons (pe_tup (pa_cons (pe_bltn (v:=.ty "list") rfl T.nm.list boot_list rfl) (pa_cons (pe_bltn (v:=.ty "tuple") rfl T.nm.tuple boot_tuple rfl) pa_nil))) pa_nil))))),?_⟩
    simp -dsimp[cxOf,stC,-Bool.exists_bool,-List.map_take,-Prod.forall,-Prod.exists]
    refine fun t ht=>⟨_,_,upd_same,_,thg_ty (ThgX.same (same_upd ht) d v hd),_,kit_seq d,q _ (same_upd ht)⟩
def sp_is_nameN:Sp:=fun vs H Q _=>∃(d:PyData) (v:V),vs=[v]∧ThgX H d v∧strD d=false∧Q (.bl false) H
theorem ok_is_nameN (T:Txt K mg a):FnOk P w K mg base CX0 1 a.f_is_name a.fd_is_name ["thing"] sp_is_nameN:=by
  refine T.F_is_name.okL sc_is_name (fun vs H Q E h=>?_) (fun cdv A outer s H vs Q E hr h=>?_)
  · obtain ⟨d,v,rfl,_⟩:=h
    rfl
  · obtain ⟨d,v,rfl,hd,hs,q⟩:=h
    refine ⟨_,(pss_cons (ps_if (PW.pt (pw_or (pt_not (fpt_val (pe_callB (fisiTk (K:=K) rfl) rfl T.nm.isinstance boot_isinstance (pa_cons (fpv 0) (pa_cons (pe_bltn (v:=.ty "str") rfl T.nm.str boot_str rfl) pa_nil))))) (pw_or1 (pt_not (fpt_chain fop_le fop_le pe_int (pe_callB flenTk rfl T.nm.len PySem.boot_len (pa_cons (fpv 0) pa_nil)) (pe_glob rfl T.h_MOST_LETTERS T.r_MOST_LETTERS)))))) (pss_one (ps_ret pe_bl)) pss_nil)
      (pss_one (ps_ret (pe_callB (fcall_all rfl) rfl T.nm.all boot_all' (pa_cons (pe_comp rfl rfl (show CompScope (defScope s_is_name) _ ["thing"] ["sign"] [] ["sign"] from ⟨rfl,by decide +kernel,by decide +kernel,rfl,by decide +kernel,by decide +kernel⟩) rfl (PI.eqv (pi_str (fpv 0)) (fiStr_eq _)) (fun C s H fp pn=>(pg_name (i:=0) (show (["sign"]:List Str).Nodup by decide +kernel) rfl (Or.inl rfl))) (fun C s H fp pn=>pts_nil) (fun C s H fp pn=>(pe_cmpR (finS (K:=K) rfl) (fpv 0) (pe_glob rfl T.h_LETTERS T.r_LETTERS) rfl))) pa_nil))))),?_⟩
    simp -dsimp[cxOf,stC,-Bool.exists_bool,-List.map_take,-Prod.forall,-Prod.exists]
    refine ⟨_,thg_ty hd,_,kit_strD d,?_⟩
    rw [hs]
    refine tBr.pos rfl ?_
    simp -dsimp[cxOf,stC,-Bool.exists_bool,-List.map_take,-Prod.forall,-Prod.exists]
    exact q
def shortD (d:PyData):Prop:=∀x,d = .str x→x.length≤sizeLine
def sp_is_nameT:Sp:=fun vs H Q _=>∃(d:PyData) (v:V),vs=[v]∧ThgX H d v∧shortD d∧∀H',Same H H'→Q (.bl (nameD d)) H'
theorem ok_is_nameT (T:Txt K mg a):FnOk P w K mg base CX0 1 a.f_is_name a.fd_is_name ["thing"] sp_is_nameT:=by
  refine ((ok_is_name T).or (ok_is_nameN T)).imp fun vs H Q E h=>?_
  obtain ⟨d,v,rfl,hd,hs,q⟩:=h
  cases d with
  | str x=>simp only [ThgX] at hd;subst hd;exact .inl ⟨x,rfl,hs x rfl,q⟩
  | _=>exact .inr ⟨_,v,rfl,hd,rfl,q H (Same.refl H)⟩
def strsD:List PyData→List Str
  | []=>[]
  | .str x::ds=>x::strsD ds
  | _::ds=>strsD ds
theorem strsD_all:∀{ds:List PyData},ds.all nameD=true→ds=(strsD ds).map PyData.str
  | [],_=>rfl
  | d::ds,h=>by
    rw [List.all_cons,Bool.and_eq_true] at h
    cases d with
    | str x=>simp only [strsD,List.map_cons];rw [← strsD_all h.2]
    | _=>exact absurd h.1 (by simp [nameD])
theorem thg_strs {H:Hp}:∀{c:List Str} {xs:List V},ThgXAll H (c.map PyData.str) xs→xs=c.map V.str
  | [],xs,h=>by simpa [ThgXAll] using h
  | x::c,xs,h=>by
    simp only [List.map_cons,ThgXAll] at h
    obtain ⟨v,r,rfl,h1,h2⟩:=h
    simp only [ThgX] at h1
    rw [h1,thg_strs h2]
    rfl
theorem uqN_in (val:Nat→Key):∀n,∀i<n,val i∈uqN val n
  | 0,i,h=>by omega
  | n+1,i,h=>by
    rw [uqN_succ]
    unfold uqStep
    by_cases hm:memK (uqN val n) (val n)=true
    · rw [if_pos hm]
      by_cases hi:i=n
      · subst hi
        exact memK_iff.mp hm
      ·exact uqN_in val n i (by omega)
    · rw [if_neg hm]
      by_cases hi:i=n
      · subst hi
        simp
      ·exact List.mem_append_left _ (uqN_in val n i (by omega))
theorem uq_few (val:Nat→Key):∀n,(uqN val n).length=n→∀i j,i<j→j<n→val i≠val j
  | 0,_,i,j,_,h=>by omega
  | n+1,hl,i,j,hij,hj=>by
    rw [uqN_succ] at hl
    unfold uqStep at hl
    have le:=uqN_le val n
    by_cases hm:memK (uqN val n) (val n)=true
    · rw [if_pos hm] at hl
      omega
    · rw [if_neg hm] at hl
      simp at hl
      by_cases hjn:j=n
      · subst hjn
        intro e
        exact hm (memK_iff.mpr (e▸uqN_in val j i hij))
      ·exact uq_few val n hl i j hij (by omega)
theorem uq_iff (xs:List Str):(uqN (fun i=>(keysOf (xs.map V.str))[i]?.getD (Sum.inl 0)) (xs.map V.str).length).length=xs.length↔xs.Nodup:=by
  refine ⟨fun h=>?_,uq_str⟩
  rw [keysOf_str,List.length_map] at h
  unfold List.Nodup
  rw [List.pairwise_iff_getElem]
  intro i j hi hj hij e
  refine uq_few _ _ h i j hij hj ?_
  simp [hi,hj,e]
structure OkD (d:PyData):Prop where
  len:(kids d).length≤5000
  sh:∀c∈kids d,shortD c
instance (xs:List Str):Decidable xs.Nodup:=inferInstanceAs (Decidable (List.Pairwise _ xs))
def ptsB (d:PyData):Bool:=seqD d && (decide (1≤(kids d).length∧(kids d).length≤9) && ((kids d).all nameD && decide (strsD (kids d)).Nodup))
def sp_are_pointsX:Sp:=fun vs H Q _=>∃(d:PyData) (v:V),vs=[v]∧ThgX H d v∧OkD d∧∀H',Same H H'→Q (.bl (ptsB d)) H'
theorem ok_are_pointsX (T:Txt K mg a):FnOk P w K mg base CX0 2 a.f_are_points a.fd_are_points ["thing"] sp_are_pointsX:=by
  refine T.F_are_points.okL sc_are_points (fun vs H Q E h=>?_) (fun cdv A outer s H vs Q E hr h=>?_)
  · obtain ⟨d,v,rfl,_⟩:=h
    rfl
  · obtain ⟨d,v,rfl,hd,hok,q⟩:=h
    refine ⟨_,(pss_cons (ps_if (PW.pt (pw_or (pt_not (fpt_val (PE.eqv (pe_call (ok_is_listX (K:=K) T) (hr.mono (by decide)) rfl T.m_is_list T.F_is_list.kp T.b_is_list .nil pass0 (pa_cons (fpv 0) pa_nil)) (fCall_eq _ _ _)))) (pw_or1 (pt_not (fpt_chain fop_le fop_le pe_int (pe_callB (flenQk (K:=K) rfl) rfl T.nm.len PySem.boot_len (pa_cons (fpv 0) pa_nil)) (pe_glob rfl T.h_MOST_POINTS T.r_MOST_POINTS)))))) (pss_one (ps_ret pe_bl)) pss_nil)
      (pss_one (ps_ret (fpe_and (pe_callB (fcall_all rfl) rfl T.nm.all boot_all' (pa_cons (pe_comp rfl rfl (show CompScope (defScope s_are_points) _ ["thing"] ["one"] [] ["one"] from ⟨rfl,by decide +kernel,by decide +kernel,rfl,by decide +kernel,by decide +kernel⟩) rfl (PI.eqv (pi_seqk (K:=K) rfl (fpv 0)) (fiSeq_eq _ _)) (fun C s H fp pn=>(pg_name (i:=0) (show (["one"]:List Str).Nodup by decide +kernel) rfl (Or.inl rfl))) (fun C s H fp pn=>pts_nil) (fun C s H fp pn=>(PE.eqv (pe_call (ok_is_nameT (K:=K) T) (hr.mono (by decide)) rfl T.m_is_name T.F_is_name.kp T.b_is_name .nil pass0 (pa_cons (fpv 0) pa_nil)) (fCall_eq _ _ _)))) pa_nil)) (pe_one (pe_cmpR fop_eq (pe_callB call_lenS rfl T.nm.len PySem.boot_len (pa_cons (pe_callTy (call_setK rfl) rfl T.nm.set boot_setT (pa_cons (fpv 0) pa_nil)) pa_nil)) (pe_callB (flenQk (K:=K) rfl) rfl T.nm.len PySem.boot_len (pa_cons (fpv 0) pa_nil)) (nomark _))))))),?_⟩
    have h60:60<sizeLine:=by decide
    have l50:=hok.len
    simp -dsimp[cxOf,stC,-Bool.exists_bool,-List.map_take,-Prod.forall,-Prod.exists]
    refine ⟨d,v,rfl,hd,fun H1 s1=>?_⟩
    cases hs:seqD d with
    | false=>
      have e:ptsB d=false:=by unfold ptsB;rw [hs];rfl
      rw [e] at q
      simp -dsimp[cxOf,stC,-Bool.exists_bool,-List.map_take,-Prod.forall,-Prod.exists]
      exact q _ s1
    | true=>
      obtain ⟨t,ys,rfl,hq,hall⟩:=thg_sq hd hs
      have hq1:=hq.same s1
      have hlen:=hall.length
      simp -dsimp[cxOf,stC,-Bool.exists_bool,-List.map_take,-Prod.forall,-Prod.exists]
      refine ⟨_,hq1.q,?_⟩
      by_cases hin:1≤(kids d).length∧(kids d).length≤9
      · refine tBr.pos (by simp;omega) ?_
        simp -dsimp[cxOf,stC,-Bool.exists_bool,-List.map_take,-Prod.forall,-Prod.exists]
        refine tBr.neg (by simp;omega) ?_
        obtain ⟨b,hb⟩:=hq1.b
        simp -dsimp[cxOf,stC,-Bool.exists_bool,-List.map_take,-Prod.forall,-Prod.exists]
        refine ⟨b,⟨_,hb K H1 (Same.refl _)⟩,fun D hD=>cmQ ys (fun i σ' H'=>(∃o,σ'=[o])∧Same H1 H'∧H' D=some (.lst ((((kids d).take i).map nameD).map V.bl))) ⟨⟨none,rfl⟩,same_upd hD,upd_same⟩ (fun i σ' H' _ h=>hb K H' h.2.1) ?_ ?_⟩
        · rintro i x σ' H2 hi ⟨⟨o,rfl⟩,s2,hD2⟩
          have hi2:i<ys.length:=(List.getElem?_eq_some_iff.mp hi).1
          obtain ⟨c,hc,hx⟩:=hall.at hi
          simp -dsimp[cxOf,stC,-Bool.exists_bool,-List.map_take,-Prod.forall,-Prod.exists]
          refine ⟨c,x,rfl,ThgX.same (s1.trans s2) c x hx,hok.sh c (List.mem_of_getElem? hc),fun H3 s3=>?_⟩
          simp -dsimp[cxOf,stC,-Bool.exists_bool,-List.map_take,-Prod.forall,-Prod.exists]
          refine ⟨_,s3 _ _ hD2,by simp;omega,same_upd2 (s2.trans s3) hD,?_⟩
          rw [upd_same,List.take_add_one,hc]
          simp
        · rintro σ' H2 ⟨⟨o,rfl⟩,s2,hD2⟩
          have sH2:=s1.trans s2
          simp -dsimp[cxOf,stC,-Bool.exists_bool,-List.map_take,-Prod.forall,-Prod.exists]
          refine ⟨_,hD2,_,blAll_map id _,?_⟩
          have eA:(List.map id (((kids d).take ys.length).map nameD)).all id=(kids d).all nameD:=by
            rw [← hlen,List.take_length,List.map_id,List.all_map]
            rfl
          rw [eA]
          cases hn:(kids d).all nameD with
          | false=>
            have e:ptsB d=false:=by unfold ptsB;rw [hn];simp
            rw [e] at q
            simp -dsimp[cxOf,stC,-Bool.exists_bool,-List.map_take,-Prod.forall,-Prod.exists]
            exact q _ sH2
          | true=>
            have ek:=strsD_all hn
            have e:ptsB d=decide (strsD (kids d)).Nodup:=by unfold ptsB;rw [hs,hn,decide_eq_true hin];simp
            rw [e] at q
            generalize strsD (kids d)=c at ek q
            rw [ek] at hall
            have ey:=thg_strs hall
            subst ey
            have hq2:=hq1.same s2
            rw [ek,List.length_map] at hin
            simp -dsimp[cxOf,stC,-Bool.exists_bool,-List.map_take,-Prod.forall,-Prod.exists]
            refine ⟨_,hq2.q,by simp [isKey],by simp;unfold scanBound;omega,fun t2 ht2=>⟨_,upd_same,_,(hq2.same (same_upd ht2)).q,?_⟩⟩
            rw [show decide _=decide c.Nodup from ?_]
            ·exact q _ (sH2.trans (same_upd ht2))
            · rw [decide_eq_decide,List.length_map,← uq_iff c]
              simp
              exact Int.ofNat_inj
      · have e:ptsB d=false:=by unfold ptsB;rw [decide_eq_false hin];simp
        rw [e] at q
        by_cases h1:1≤(kids d).length
        · refine tBr.pos (by simp;omega) ?_
          simp -dsimp[cxOf,stC,-Bool.exists_bool,-List.map_take,-Prod.forall,-Prod.exists]
          refine tBr.pos (by simp;omega) ?_
          simp -dsimp[cxOf,stC,-Bool.exists_bool,-List.map_take,-Prod.forall,-Prod.exists]
          exact q _ s1
        · refine tBr.neg (by simp;omega) ?_
          simp -dsimp[cxOf,stC,-Bool.exists_bool,-List.map_take,-Prod.forall,-Prod.exists]
          exact q _ s1
def endB (xs:List Str):PyData→Bool
  | .str x=>nameB x && decide (x∈xs)
  | _=>false
def twoB (ds:List PyData):Bool:=match ds with
  | [.str x,.str y]=>decide (x≠y)
  | _=>false
def tieB (xs:List Str) (d:PyData):Bool:=seqD d && (decide ((kids d).length=2) && ((kids d).all (endB xs) && twoB (kids d)))
def sp_is_tieX:Sp:=fun vs H Q _=>∃(d:PyData) (v:V) (p:Addr) (xs:List Str),vs=[v,.ref p]∧ThgX H d v∧OkD d∧Sq H p (xs.map V.str)∧∀H',Same H H'→Q (.bl (tieB xs d)) H'
theorem ok_is_tieX (T:Txt K mg a):FnOk P w K mg base CX0 2 a.f_is_tie a.fd_is_tie ["thing", "points"] sp_is_tieX:=by
  refine T.F_is_tie.okL sc_is_tie (fun vs H Q E h=>?_) (fun cdv A outer s H vs Q E hr h=>?_)
  · obtain ⟨d,v,p,xs,rfl,_⟩:=h
    rfl
  · obtain ⟨d,v,p,xs,rfl,hd,hok,hp,q⟩:=h
    refine ⟨_,(pss_cons (ps_if (PW.pt (pw_or (pt_not (fpt_val (PE.eqv (pe_call (ok_is_listX (K:=K) T) (hr.mono (by decide)) rfl T.m_is_list T.F_is_list.kp T.b_is_list .nil pass0 (pa_cons (fpv 0) pa_nil)) (fCall_eq _ _ _)))) (pw_or1 (fpt_cmpR fop_ne (pe_callB (flenQk (K:=K) rfl) rfl T.nm.len PySem.boot_len (pa_cons (fpv 0) pa_nil)) pe_int (nomark _))))) (pss_one (ps_ret pe_bl)) pss_nil)
      (pss_cons (ps_if (pt_not (fpt_val (pe_callB (fcall_all rfl) rfl T.nm.all boot_all' (pa_cons (pe_comp rfl rfl (show CompScope (defScope s_is_tie) _ ["thing", "points"] ["end"] [1] ["end", "points"] from ⟨rfl,by decide +kernel,by decide +kernel,rfl,by decide +kernel,by decide +kernel⟩) rfl (PI.eqv (pi_seqk (K:=K) rfl (fpv 0)) (fiSeq_eq _ _)) (fun C s H fp pn=>(pg_name (i:=0) (show (["end", "points"]:List Str).Nodup by decide +kernel) rfl (Or.inl rfl))) (fun C s H fp pn=>pts_nil) (fun C s H fp pn=>(fpe_and (PE.eqv (pe_call (ok_is_nameT (K:=K) T) (hr.mono (by decide)) rfl T.m_is_name T.F_is_name.kp T.b_is_name .nil pass0 (pa_cons (fpv 0) pa_nil)) (fCall_eq _ _ _)) (pe_one (pe_cmpR (finK (K:=K) rfl) (fpv 0) (fpv 1) rfl))))) pa_nil)))) (pss_one (ps_ret pe_bl)) pss_nil)
      (pss_one (ps_ret (pe_cmpR fop_ne (pe_ix (fixQk (K:=K) rfl) (fpv 0) pe_int (fun _ _=>rfl)) (pe_ix (fixQk (K:=K) rfl) (fpv 0) pe_int (fun _ _=>rfl)) (nomark _)))))),?_⟩
    have h60:60<sizeLine:=by decide
    have l50:=hok.len
    simp -dsimp[cxOf,stC,-Bool.exists_bool,-List.map_take,-Prod.forall,-Prod.exists]
    refine ⟨d,v,rfl,hd,fun H1 s1=>?_⟩
    cases hs:seqD d with
    | false=>
      have e:tieB xs d=false:=by unfold tieB;rw [hs];rfl
      rw [e] at q
      simp -dsimp[cxOf,stC,-Bool.exists_bool,-List.map_take,-Prod.forall,-Prod.exists]
      exact q _ s1
    | true=>
      obtain ⟨t,ys,rfl,hq,hall⟩:=thg_sq hd hs
      have hq1:=hq.same s1
      have hlen:=hall.length
      simp -dsimp[cxOf,stC,-Bool.exists_bool,-List.map_take,-Prod.forall,-Prod.exists]
      refine ⟨_,hq1.q,?_⟩
      by_cases h2:(kids d).length=2
      · refine ⟨false,by simp;omega,tBr.neg rfl ?_⟩
        obtain ⟨b,hb⟩:=hq1.b
        simp -dsimp[cxOf,stC,-Bool.exists_bool,-List.map_take,-Prod.forall,-Prod.exists]
        refine ⟨b,⟨_,hb K H1 (Same.refl _)⟩,fun D hD=>cmQ ys (fun i σ' H'=>(∃o,σ'=[o,some (.ref p)])∧Same H1 H'∧H' D=some (.lst ((((kids d).take i).map (endB xs)).map V.bl))) ⟨⟨none,rfl⟩,same_upd hD,upd_same⟩ (fun i σ' H' _ h=>hb K H' h.2.1) ?_ ?_⟩
        · rintro i x σ' H2 hi ⟨⟨o,rfl⟩,s2,hD2⟩
          have hi2:i<ys.length:=(List.getElem?_eq_some_iff.mp hi).1
          obtain ⟨c,hc,hx⟩:=hall.at hi
          simp -dsimp[cxOf,stC,-Bool.exists_bool,-List.map_take,-Prod.forall,-Prod.exists]
          refine ⟨c,x,rfl,ThgX.same (s1.trans s2) c x hx,hok.sh c (List.mem_of_getElem? hc),fun H3 s3=>?_⟩
          have fin:∀H4,Same H2 H4→∀bb,endB xs c=bb→∃zs,H4 D=some (HO.lst zs)∧zs.length<sizeLine∧Same H1 (upd H4 D (.lst (zs++[V.bl bb])))∧upd H4 D (.lst (zs++[V.bl bb])) D=some (.lst ((((kids d).take (i+1)).map (endB xs)).map V.bl)):=fun H4 s4 bb hbb=>
            ⟨_,s4 _ _ hD2,by simp;omega,same_upd2 (s2.trans s4) hD,by rw [upd_same,List.take_add_one,hc,← hbb];simp⟩
          cases hnm:nameD c with
          | false=>
            have hbb:endB xs c=false:=by
              cases c with
              | str z=>simp only [nameD] at hnm;simp [endB,hnm]
              | _=>rfl
            obtain ⟨zs,f1,f2,f3,f4⟩:=fin H3 s3 false hbb
            simp -dsimp[cxOf,stC,-Bool.exists_bool,-List.map_take,-Prod.forall,-Prod.exists]
            exact ⟨zs,f1,f2,f3,by simpa using f4⟩
          | true=>
            obtain ⟨z,rfl⟩:∃z,c = .str z:=by
              cases c with
              | str z=>exact ⟨z,rfl⟩
              | _=>cases hnm
            obtain rfl:x = .str z:=by simpa [ThgX] using hx
            simp -dsimp[cxOf,stC,-Bool.exists_bool,-List.map_take,-Prod.forall,-Prod.exists]
            refine ⟨_,(hp.same (s1.trans (s2.trans s3))).q,rfl,List.all_eq_true.mp (flat_strs _),?_⟩
            rw [inV_str_iff]
            have hbb:endB xs (.str z)=decide (z∈xs):=by
              have:nameB z=true:=hnm
              simp [endB,this]
            obtain ⟨zs,f1,f2,f3,f4⟩:=fin H3 s3 _ hbb
            exact ⟨zs,f1,f2,f3,by simpa using f4⟩
        · rintro σ' H2 ⟨⟨o,rfl⟩,s2,hD2⟩
          have sH2:=s1.trans s2
          simp -dsimp[cxOf,stC,-Bool.exists_bool,-List.map_take,-Prod.forall,-Prod.exists]
          refine ⟨_,hD2,_,blAll_map id _,?_⟩
          have eA:(List.map id (((kids d).take ys.length).map (endB xs))).all id=(kids d).all (endB xs):=by
            rw [← hlen,List.take_length,List.map_id,List.all_map]
            rfl
          rw [eA]
          cases hn:(kids d).all (endB xs) with
          | false=>
            have e:tieB xs d=false:=by unfold tieB;rw [hn];simp
            rw [e] at q
            simp -dsimp[cxOf,stC,-Bool.exists_bool,-List.map_take,-Prod.forall,-Prod.exists]
            exact q _ sH2
          | true=>
            obtain ⟨x,y,ek⟩:∃x y,kids d=[.str x,.str y]:=by
              match hk:kids d,h2 with
              | [c1,c2],_=>
                rw [hk] at hn
                simp only [List.all_cons,List.all_nil,Bool.and_true,Bool.and_eq_true] at hn
                cases c1 with
                | str x=>
                  cases c2 with
                  | str y=>exact ⟨x,y,rfl⟩
                  | _=>cases hn.2
                | _=>cases hn.1
            have e:tieB xs d=decide (x≠y):=by unfold tieB;rw [hs,hn,decide_eq_true h2,ek];rfl
            rw [e] at q
            rw [ek] at hall
            have ey:=thg_strs (c:=[x,y]) hall
            subst ey
            have hq2:=hq1.same s2
            simp -dsimp[cxOf,stC,-Bool.exists_bool,-List.map_take,-Prod.forall,-Prod.exists]
            refine ⟨_,hq2.q,_,atI_nat (j:=0) rfl,_,hq2.q,_,atI_nat (j:=1) rfl,?_⟩
            simp -dsimp[cxOf,stC,-Bool.exists_bool,-List.map_take,-Prod.forall,-Prod.exists]
            exact ⟨decide (x≠y),by by_cases h:x=y <;> simp [h],q _ sH2⟩
      · have e:tieB xs d=false:=by unfold tieB;rw [decide_eq_false h2];simp
        rw [e] at q
        refine ⟨true,by simp;omega,tBr.pos rfl ?_⟩
        simp -dsimp[cxOf,stC,-Bool.exists_bool,-List.map_take,-Prod.forall,-Prod.exists]
        exact q _ s1
structure OkT (d:PyData):Prop where
  len:(kids d).length≤5000
  ok:∀c∈kids d,OkD c
def tiesB (xs:List Str) (d:PyData):Bool:=seqD d && (decide ((kids d).length≤20) && (kids d).all (tieB xs))
def sp_are_tiesX:Sp:=fun vs H Q _=>∃(d:PyData) (v:V) (p:Addr) (xs:List Str),vs=[v,.ref p]∧ThgX H d v∧OkT d∧Sq H p (xs.map V.str)∧∀H',Same H H'→Q (.bl (tiesB xs d)) H'
theorem ok_are_tiesX (T:Txt K mg a):FnOk P w K mg base CX0 3 a.f_are_ties a.fd_are_ties ["thing", "points"] sp_are_tiesX:=by
  refine T.F_are_ties.okL sc_are_ties (fun vs H Q E h=>?_) (fun cdv A outer s H vs Q E hr h=>?_)
  · obtain ⟨d,v,p,xs,rfl,_⟩:=h
    rfl
  · obtain ⟨d,v,p,xs,rfl,hd,hok,hp,q⟩:=h
    refine ⟨_,(pss_cons (ps_if (PW.pt (pw_or (pt_not (fpt_val (PE.eqv (pe_call (ok_is_listX (K:=K) T) (hr.mono (by decide)) rfl T.m_is_list T.F_is_list.kp T.b_is_list .nil pass0 (pa_cons (fpv 0) pa_nil)) (fCall_eq _ _ _)))) (pw_or1 (fpt_cmpR fop_gt (pe_callB (flenQk (K:=K) rfl) rfl T.nm.len PySem.boot_len (pa_cons (fpv 0) pa_nil)) (pe_glob rfl T.h_MOST_TIES T.r_MOST_TIES) (nomark _))))) (pss_one (ps_ret pe_bl)) pss_nil)
      (pss_one (ps_ret (pe_callB (fcall_all rfl) rfl T.nm.all boot_all' (pa_cons (pe_comp rfl rfl (show CompScope (defScope s_are_ties) _ ["thing", "points"] ["one"] [1] ["one", "points"] from ⟨rfl,by decide +kernel,by decide +kernel,rfl,by decide +kernel,by decide +kernel⟩) rfl (PI.eqv (pi_seqk (K:=K) rfl (fpv 0)) (fiSeq_eq _ _)) (fun C s H fp pn=>(pg_name (i:=0) (show (["one", "points"]:List Str).Nodup by decide +kernel) rfl (Or.inl rfl))) (fun C s H fp pn=>pts_nil) (fun C s H fp pn=>(PE.eqv (pe_call (ok_is_tieX (K:=K) T) (hr.mono (by decide)) rfl T.m_is_tie T.F_is_tie.kp T.b_is_tie .nil pass0 (pa_cons (fpv 0) (pa_cons (fpv 1) pa_nil))) (fCall_eq _ _ _)))) pa_nil))))),?_⟩
    have h60:60<sizeLine:=by decide
    have l50:=hok.len
    simp -dsimp[cxOf,stC,-Bool.exists_bool,-List.map_take,-Prod.forall,-Prod.exists]
    refine ⟨d,v,rfl,hd,fun H1 s1=>?_⟩
    cases hs:seqD d with
    | false=>
      have e:tiesB xs d=false:=by unfold tiesB;rw [hs];rfl
      rw [e] at q
      simp -dsimp[cxOf,stC,-Bool.exists_bool,-List.map_take,-Prod.forall,-Prod.exists]
      exact q _ s1
    | true=>
      obtain ⟨t,ys,rfl,hq,hall⟩:=thg_sq hd hs
      have hq1:=hq.same s1
      have hlen:=hall.length
      simp -dsimp[cxOf,stC,-Bool.exists_bool,-List.map_take,-Prod.forall,-Prod.exists]
      refine ⟨_,hq1.q,?_⟩
      by_cases h2:(kids d).length≤20
      · refine tBr.neg (by simp;omega) ?_
        obtain ⟨b,hb⟩:=hq1.b
        simp -dsimp[cxOf,stC,-Bool.exists_bool,-List.map_take,-Prod.forall,-Prod.exists]
        refine ⟨b,⟨_,hb K H1 (Same.refl _)⟩,fun D hD=>cmQ ys (fun i σ' H'=>(∃o,σ'=[o,some (.ref p)])∧Same H1 H'∧H' D=some (.lst ((((kids d).take i).map (tieB xs)).map V.bl))) ⟨⟨none,rfl⟩,same_upd hD,upd_same⟩ (fun i σ' H' _ h=>hb K H' h.2.1) ?_ ?_⟩
        · rintro i x σ' H2 hi ⟨⟨o,rfl⟩,s2,hD2⟩
          have hi2:i<ys.length:=(List.getElem?_eq_some_iff.mp hi).1
          obtain ⟨c,hc,hx⟩:=hall.at hi
          simp -dsimp[cxOf,stC,-Bool.exists_bool,-List.map_take,-Prod.forall,-Prod.exists]
          refine ⟨c,x,p,xs,rfl,ThgX.same (s1.trans s2) c x hx,hok.ok c (List.mem_of_getElem? hc),hp.same (s1.trans s2),fun H3 s3=>?_⟩
          simp -dsimp[cxOf,stC,-Bool.exists_bool,-List.map_take,-Prod.forall,-Prod.exists]
          refine ⟨_,s3 _ _ hD2,by simp;omega,same_upd2 (s2.trans s3) hD,?_⟩
          rw [upd_same,List.take_add_one,hc]
          simp
        · rintro σ' H2 ⟨⟨o,rfl⟩,s2,hD2⟩
          have e:tiesB xs d=(kids d).all (tieB xs):=by unfold tiesB;rw [hs,decide_eq_true h2];rfl
          rw [e] at q
          simp -dsimp[cxOf,stC,-Bool.exists_bool,-List.map_take,-Prod.forall,-Prod.exists]
          refine ⟨_,hD2,_,blAll_map id _,?_⟩
          rw [show (List.map id (((kids d).take ys.length).map (tieB xs))).all id=(kids d).all (tieB xs) by
            rw [← hlen,List.take_length,List.map_id,List.all_map]
            rfl]
          exact q _ (s1.trans s2)
      · have e:tiesB xs d=false:=by unfold tiesB;rw [decide_eq_false h2];simp
        rw [e] at q
        refine tBr.pos (by simp;omega) ?_
        simp -dsimp[cxOf,stC,-Bool.exists_bool,-List.map_take,-Prod.forall,-Prod.exists]
        exact q _ s1
theorem toE {P:Program} {w:World} {K:PySem.W.Frag} {mg:Str→Option Value} {base:Heap} {k:Nat} {f:Addr} {fd:FuncData} {ps:List Str} {sp:Sp} (F:FnOk P w K mg base CX0 k f fd ps sp):FnOk P w K mg base (CXe P w) k f fd ps sp:=
  ⟨F.len,fun A outer s H args us vs Q E hr he hb hv hs=>codeAny_mono (F.run A outer s H args us vs Q E hr he hb hv hs) fun r s' h=>by
    cases r with
    | error e=>exact False.elim h
    | ok fl=>cases fl <;> exact h⟩
theorem thg_texts {H:Hp} {d:PyData} {v:V} (h:ThgX H d v) (hp:ptsB d=true):∃p,v = .ref p∧Sq H p ((strsD (kids d)).map V.str)∧Pts (strsD (kids d)):=by
  unfold ptsB at hp
  simp only [Bool.and_eq_true,decide_eq_true_eq] at hp
  obtain ⟨hs,hl,hn,hnd⟩:=hp
  obtain ⟨t,ys,rfl,hq,hall⟩:=thg_sq h hs
  have ek:=strsD_all hn
  rw [ek] at hall
  have ey:=thg_strs hall
  subst ey
  refine ⟨t,rfl,hq,⟨?_,fun x hx=>?_,hnd⟩⟩
  · have:(kids d).length=(strsD (kids d)).length:=by conv=>lhs;rw [ek];rw [List.length_map]
    omega
  · have hm:PyData.str x∈kids d:=by rw [ek];exact List.mem_map.mpr ⟨x,hx,rfl⟩
    exact List.all_eq_true.mp hn _ hm
def sp_initN (N:Addr):Sp:=fun vs H _ E=>∃(o:Addr) (v u:V) (d e:PyData),vs=[.ref o,v,u]∧ThgX H d v∧OkD d∧ThgX H e u∧OkT e∧(ptsB d && tiesB (strsD (kids d)) e)=false∧∀H',Same H H'→E (.ref N) none H'
theorem ok_Web_initN (T:Txt K mg a):FnOk P w K mg base (CXe P w) 4 a.f_Web_init a.fd_Web_init ["self", "points", "ties"] (sp_initN a.C_NoWeb):=by
  refine T.F_Web_init.okEL sc_Web_init (fun vs H Q E h=>?_) (fun cdv A outer s H vs Q E hr h=>?_)
  · obtain ⟨o,v,u,d,e,rfl,_⟩:=h
    rfl
  · obtain ⟨o,v,u,d,e,rfl,hd,hok,he,hoe,hno,q⟩:=h
    refine ⟨_,(pss_cons (ps_if (pt_not (fpt_val (PE.eqv (pe_call (ok_are_pointsX (K:=K) T) (hr.mono (by decide)) rfl T.m_are_points T.F_are_points.kp T.b_are_points .nil pass0 (pa_cons (fpv 1) pa_nil)) (fCall_eq _ _ _)))) (pss_one (ps_raise (E:=E) lets_cx rfl rfl T.x_NoWeb rfl T.m_NoWeb (pa_cons pe_str pa_nil))) pss_nil)
      (pss_cons (ps_if (pt_not (fpt_val (PE.eqv (pe_call (ok_are_tiesX (K:=K) T) (hr.mono (by decide)) rfl T.m_are_ties T.F_are_ties.kp T.b_are_ties .nil pass0 (pa_cons (fpv 2) (pa_cons (fpv 1) pa_nil))) (fCall_eq _ _ _)))) (pss_one (ps_raise (E:=E) lets_cx rfl rfl T.x_NoWeb rfl T.m_NoWeb (pa_cons pe_str pa_nil))) pss_nil)
      (pss_cons (ps_fldk (K:=K) rfl (fpv 0) (pe_callTy ftupleOfS rfl T.nm.tuple boot_tuple (pa_cons (fpv 1) pa_nil)) rfl)
      (pss_one (ps_fldk (K:=K) rfl (fpv 0) (pe_callTy ftupleOfS rfl T.nm.tuple boot_tuple (pa_cons (pe_comp rfl rfl (show CompScope (defScope s_Web_init) _ ["self", "points", "ties"] ["pair"] [] ["pair"] from ⟨rfl,by decide +kernel,by decide +kernel,rfl,by decide +kernel,by decide +kernel⟩) rfl (PI.eqv (pi_seqk (K:=K) rfl (fpv 2)) (fiSeq_eq _ _)) (fun C s H fp pn=>(pg_name (i:=0) (show (["pair"]:List Str).Nodup by decide +kernel) rfl (Or.inl rfl))) (fun C s H fp pn=>pts_nil) (fun C s H fp pn=>(pe_tup (pa_cons (pe_ix (fixQk (K:=K) rfl) (fpv 0) pe_int (fun _ _=>rfl)) (pa_cons (pe_ix (fixQk (K:=K) rfl) (fpv 0) pe_int (fun _ _=>rfl)) pa_nil))))) pa_nil)) rfl))))),?_⟩
    simp -dsimp[cxOf,stC,-Bool.exists_bool,-List.map_take,-Prod.forall,-Prod.exists]
    refine ⟨d,v,rfl,hd,hok,fun H1 s1=>?_⟩
    cases hp:ptsB d with
    | false=>
      simp -dsimp[cxOf,stC,-Bool.exists_bool,-List.map_take,-Prod.forall,-Prod.exists]
      exact q _ s1
    | true=>
      rw [hp,Bool.true_and] at hno
      obtain ⟨p,rfl,hq,hX⟩:=thg_texts hd hp
      simp -dsimp[cxOf,stC,-Bool.exists_bool,-List.map_take,-Prod.forall,-Prod.exists]
      refine ⟨e,u,p,_,rfl,ThgX.same s1 e u he,hoe,hq.same s1,fun H2 s2=>?_⟩
      rw [hno]
      simp -dsimp[cxOf,stC,-Bool.exists_bool,-List.map_take,-Prod.forall,-Prod.exists]
      exact q _ (s1.trans s2)
def pairsD:List PyData→List (Str×Str)
  | []=>[]
  | d::ds=>(match kids d with | [.str x,.str y]=>(x,y) | _=>((⟨#[]⟩:Str),(⟨#[]⟩:Str)))::pairsD ds
theorem pairs_at {H:Hp} {xs:List Str}:∀{ds:List PyData} {tv:List V},ThgXAll H ds tv→ds.all (tieB xs)=true→PairsAt H tv (pairsD ds)∧∀e∈pairsD ds,e.1∈xs∧e.2∈xs∧e.1≠e.2
  | [],tv,h,_=>by
    simp only [ThgXAll] at h
    subst h
    exact ⟨⟨rfl,fun i v e h1 h2=>by simp at h1⟩,fun e he=>by cases he⟩
  | d::ds,tv,h,ha=>by
    simp only [ThgXAll] at h
    obtain ⟨v,r,rfl,h1,h2⟩:=h
    rw [List.all_cons,Bool.and_eq_true] at ha
    obtain ⟨i1,i2⟩:=pairs_at h2 ha.2
    have ht:=ha.1
    unfold tieB at ht
    simp only [Bool.and_eq_true,decide_eq_true_eq] at ht
    obtain ⟨hs,hl,he,htw⟩:=ht
    obtain ⟨t,ys,rfl,hq,hall⟩:=thg_sq h1 hs
    obtain ⟨x,y,ek⟩:∃x y,kids d=[.str x,.str y]:=by
      match hk:kids d,hl with
      | [c1,c2],_=>
        rw [hk] at he
        simp only [List.all_cons,List.all_nil,Bool.and_true,Bool.and_eq_true] at he
        cases c1 with
        | str x=>
          cases c2 with
          | str y=>exact ⟨x,y,rfl⟩
          | _=>cases he.2
        | _=>cases he.1
    rw [ek] at hall he htw
    have ey:=thg_strs (c:=[x,y]) hall
    subst ey
    simp only [List.all_cons,List.all_nil,Bool.and_true,Bool.and_eq_true,endB,decide_eq_true_eq] at he
    have hxy:x≠y:=by simpa [twoB] using htw
    have ep:pairsD (d::ds)=(x,y)::pairsD ds:=by simp only [pairsD,ek]
    rw [ep]
    refine ⟨⟨by simp [i1.1],fun i v e g1 g2=>?_⟩,fun e hm=>?_⟩
    · cases i with
      | zero=>
        simp at g1 g2
        subst g1 g2
        exact ⟨t,rfl,hq⟩
      | succ i=>exact i1.2 i v e (by simpa using g1) (by simpa using g2)
    · rcases List.mem_cons.mp hm with rfl | hm
      ·exact ⟨he.1.2,he.2.2,hxy⟩
      ·exact i2 e hm
def sp_initX (C N:Addr):Sp:=fun vs H Q E=>∃(o dx:Addr) (v u:V) (d e:PyData),vs=[.ref o,v,u]∧H o=some (.ins C dx [])∧ThgX H d v∧OkD d∧ThgX H e u∧OkT e∧
  ((ptsB d && tiesB (strsD (kids d)) e)=false→∀H',Same H H'→E (.ref N) none H')∧((ptsB d && tiesB (strsD (kids d)) e)=true→Pts (strsD (kids d))→Ties (strsD (kids d)) (pairsD (kids e))→∀H',WebAt C H' o (strsD (kids d)) (pairsD (kids e))→But o H H'→Q .non H')
theorem ok_Web_initX (T:Txt K mg a):FnOk P w K mg base (CXe P w) 4 a.f_Web_init a.fd_Web_init ["self", "points", "ties"] (sp_initX a.C_Web a.C_NoWeb):=by
  refine ((toE (ok_Web_init T)).or (ok_Web_initN T)).imp fun vs H Q E h=>?_
  obtain ⟨o,dx,v,u,d,e,rfl,ho,hd,hok,he,hoe,qn,qy⟩:=h
  cases hb:(ptsB d && tiesB (strsD (kids d)) e) with
  | false=>exact .inr ⟨o,v,u,d,e,rfl,hd,hok,he,hoe,hb,qn hb⟩
  | true=>
    simp only [Bool.and_eq_true] at hb
    obtain ⟨p,rfl,hq,hX⟩:=thg_texts hd hb.1
    have ht:=hb.2
    unfold tiesB at ht
    simp only [Bool.and_eq_true,decide_eq_true_eq] at ht
    obtain ⟨hs,hl,ha⟩:=ht
    obtain ⟨t,tv,rfl,hqt,hall⟩:=thg_sq he hs
    obtain ⟨hpr,hok2⟩:=pairs_at hall ha
    have hll:(pairsD (kids e)).length≤20:=by rw [← hpr.1,← hall.length];exact hl
    exact .inl ⟨o,dx,p,t,tv,_,_,rfl,ho,hqt,hpr,hq,hX,⟨hll,hok2⟩,fun H' hW hB=>qy (by simp only [Bool.and_eq_true];exact hb) hX ⟨hll,hok2⟩ H' hW hB⟩
def sp_classes (C:Addr):Addr→Sp:=fun e vs H Q _=>vs=[.ref e]∧(∃od,CauC H e C od)∧∀l H',H l=none→H' l=some (.lst [.str "text"])→Same H H'→Q (.ref l) H'
theorem ok_classes (T:Txt K mg a):FnOkH P w K mg base 1 a.f_classes a.fd_classes ["_law_e"] (sp_classes a.C_NoText):=by
  refine T.F_classes.okHL sc_classes (fun e vs H Q E h=>?_) (fun e cdv A outer s H vs Q hr h=>?_)
  · obtain ⟨rfl,_⟩:=h
    rfl
  · obtain ⟨rfl,he,q⟩:=h
    refine ⟨_,(@PSsq.out _ _ _ (pssq_cons (PSq.mk (ps_set (i:=1) sc_classes.nd rfl (Or.inl rfl) (pe_lst (pa_cons (pe_callB (fisiC (K:=K) rfl) rfl T.nm.isinstance boot_isinstance (pa_cons (fpv 0) (pa_cons (pe_glob (v:=.ref a.C_NoWeb) rfl T.m_NoWeb rfl) pa_nil))) (pa_cons (pe_callB (fisiC (K:=K) rfl) rfl T.nm.isinstance boot_isinstance (pa_cons (fpv 0) (pa_cons (pe_glob (v:=.ref a.C_NoText) rfl T.m_NoText rfl) pa_nil))) (pa_cons (pe_callB (fisiC (K:=K) rfl) rfl T.nm.isinstance boot_isinstance (pa_cons (fpv 0) (pa_cons (pe_glob (v:=.ref a.C_NoNumbers) rfl T.m_NoNumbers rfl) pa_nil))) (pa_cons (pe_callB (fisiC (K:=K) rfl) rfl T.nm.isinstance boot_isinstance (pa_cons (fpv 0) (pa_cons (pe_glob (v:=.ref a.C_NoLot) rfl T.m_NoLot rfl) pa_nil))) pa_nil)))))))
      (pssq_cons (PSq.mk (ps_set (i:=1) sc_classes.nd rfl (Or.inl rfl) (pe_op fop_cat (fpv 1) (pe_lst (pa_cons (pe_callB (fisiC (K:=K) rfl) rfl T.nm.isinstance boot_isinstance (pa_cons (fpv 0) (pa_cons (pe_glob (v:=.ref a.C_NoPoint) rfl T.m_NoPoint rfl) pa_nil))) (pa_cons (pe_callB (fisiC (K:=K) rfl) rfl T.nm.isinstance boot_isinstance (pa_cons (fpv 0) (pa_cons (pe_glob (v:=.ref a.C_NoPointing) rfl T.m_NoPointing rfl) pa_nil))) (pa_cons (pe_callB (fisiC (K:=K) rfl) rfl T.nm.isinstance boot_isinstance (pa_cons (fpv 0) (pa_cons (pe_glob (v:=.ref a.C_Parted) rfl T.m_Parted rfl) pa_nil))) (pa_cons (pe_callB (fisiC (K:=K) rfl) rfl T.nm.isinstance boot_isinstance (pa_cons (fpv 0) (pa_cons (pe_glob (v:=.ref a.C_Barred) rfl T.m_Barred rfl) pa_nil))) pa_nil))))))))
      (pssq_cons (PSq.mk (ps_set (i:=1) sc_classes.nd rfl (Or.inl rfl) (pe_op fop_cat (fpv 1) (pe_lst (pa_cons (pe_callB (fisiC (K:=K) rfl) rfl T.nm.isinstance boot_isinstance (pa_cons (fpv 0) (pa_cons (pe_glob (v:=.ref a.C_TooMuch) rfl T.m_TooMuch rfl) pa_nil))) (pa_cons (fpe_not (pe_callB (fisiC (K:=K) rfl) rfl T.nm.isinstance boot_isinstance (pa_cons (fpv 0) (pa_cons (pe_bltn (v:=.ty "ValueError") rfl T.z_ValueError boot_ve rfl) pa_nil)))) pa_nil))))))
      (pssq_cons (psq_set (i:=2) sc_classes.nd rfl (Or.inl rfl) (peq_lst (paq_cons pe_str (paq_cons pe_str (paq_cons pe_str (paq_cons pe_str (paq_cons pe_str (paq_cons pe_str (paq_cons pe_str (paq_cons pe_str (paq_cons pe_str (paq_cons pe_str paq_nil))))))))))))
      (PSsq.mk (pss_one (ps_ret (pe_compH rfl rfl (show CompScope (defScope s_classes) _ ["_law_e", "_law_found", "_law_words_here"] ["_law_word", "_law_told"] [] ["_law_word", "_law_told"] from ⟨rfl,by decide +kernel,by decide +kernel,rfl,by decide +kernel,by decide +kernel⟩) rfl (pi_zipC (K:=K) rfl rfl T.nm.zip (pa_cons (fpv 2) (pa_cons (fpv 1) pa_nil))) (fun C s H fp pn=>(pg_tupC (K:=K) (n:=2) rfl rfl (PGs.eqv (pgs_cons (pg_name (i:=0) (show (["_law_word", "_law_told"]:List Str).Nodup by decide +kernel) rfl (Or.inl rfl)) (PGs.eqv (pgs_cons (pg_name (i:=1) (show (["_law_word", "_law_told"]:List Str).Nodup by decide +kernel) rfl (Or.inl rfl)) (PGs.mono pgs_nil fNil_t)) (fCons_eq _ _))) (fCons_eq _ _)))) (fun C s H fp pn=>(pts_one (fpt_val (fpv 1)))) (fun C s H fp pn=>(fpv 0))))))))))),?_⟩
    simp -dsimp[cxOf,stC,-Bool.exists_bool,-List.map_take,-Prod.forall,-Prod.exists]
    have L:=T.l_NoText
    have mv:∀{H':Hp},Same H H'→∃od,CauC H' e a.C_NoText od:=fun s=>by
      obtain ⟨od,h⟩:=he
      exact ⟨od,h.same s⟩
    refine ⟨_,he,L,_,T.k_NoText_NoWeb,_,he,L,_,T.k_NoText_NoText,_,he,L,_,T.k_NoText_NoNumbers,_,he,L,_,T.k_NoText_NoLot,fun p1 h1=>?_⟩
    have e1:upd H p1 (.lst [.bl false,.bl true,.bl false,.bl false]) p1=some (.lst [.bl false,.bl true,.bl false,.bl false]):=upd_same
    have s1:Same H (upd H p1 (.lst [.bl false,.bl true,.bl false,.bl false])):=same_upd h1
    generalize upd H p1 (.lst [.bl false,.bl true,.bl false,.bl false])=H1 at e1 s1 ⊢
    have he1:=mv s1
    refine ⟨_,he1,L,_,T.k_NoText_NoPoint,_,he1,L,_,T.k_NoText_NoPointing,_,he1,L,_,T.k_NoText_Parted,_,he1,L,_,T.k_NoText_Barred,fun p2 h2=>?_⟩
    have e2:upd H1 p2 (.lst [.bl false,.bl false,.bl false,.bl false]) p2=some (.lst [.bl false,.bl false,.bl false,.bl false]):=upd_same
    have s2:Same H1 (upd H1 p2 (.lst [.bl false,.bl false,.bl false,.bl false])):=same_upd h2
    generalize upd H1 p2 (.lst [.bl false,.bl false,.bl false,.bl false])=H2 at e2 s2 ⊢
    refine ⟨_,s2 _ _ e1,_,e2,by decide,fun p3 h3=>?_⟩
    have s3:Same H2 (upd H2 p3 (.lst ([.bl false,.bl true,.bl false,.bl false]++[.bl false,.bl false,.bl false,.bl false]))):=same_upd h3
    have e3:upd H2 p3 (.lst ([.bl false,.bl true,.bl false,.bl false]++[.bl false,.bl false,.bl false,.bl false])) p3=some (.lst ([.bl false,.bl true,.bl false,.bl false]++[.bl false,.bl false,.bl false,.bl false])):=upd_same
    generalize upd H2 p3 (.lst ([.bl false,.bl true,.bl false,.bl false]++[.bl false,.bl false,.bl false,.bl false]))=H3 at e3 s3 ⊢
    have sH3:=s1.trans (s2.trans s3)
    have he3:=mv sH3
    refine ⟨_,he3,L,_,T.k_NoText_TooMuch,_,he3,L,_,T.k_NoText_ValueError,?_⟩
    simp -dsimp[cxOf,stC,-Bool.exists_bool,-List.map_take,-Prod.forall,-Prod.exists]
    refine fun p4 h4=>?_
    have s4:Same H3 (upd H3 p4 (.lst [.bl false,.bl false])):=same_upd h4
    have e4:upd H3 p4 (.lst [.bl false,.bl false]) p4=some (.lst [.bl false,.bl false]):=upd_same
    generalize upd H3 p4 (.lst [.bl false,.bl false])=H4 at e4 s4 ⊢
    refine ⟨_,s4 _ _ e3,_,e4,by decide,fun p5 h5=>?_⟩
    obtain ⟨bs,hbs⟩:∃bs:List Bool,bs=[false,true,false,false,false,false,false,false,false,false]:=⟨_,rfl⟩
    have eb : [V.bl false,.bl true,.bl false,.bl false]++[.bl false,.bl false,.bl false,.bl false]++[.bl false,.bl false]=bs.map V.bl:=by rw [hbs];rfl
    rw [eb]
    have s5:Same H4 (upd H4 p5 (.lst (bs.map V.bl))):=same_upd h5
    have e5:upd H4 p5 (.lst (bs.map V.bl)) p5=some (.lst (bs.map V.bl)):=upd_same
    generalize upd H4 p5 (.lst (bs.map V.bl))=H5 at e5 s5 ⊢
    obtain ⟨ws,hws⟩:∃ws:List Str,ws=[("web" : Str), "text", "numbers", "lot", "point", "pointing", "parted", "barred", "much", "none"]:=⟨_,rfl⟩
    have ew : [V.str "web",.str "text",.str "numbers",.str "lot",.str "point",.str "pointing",.str "parted",.str "barred",.str "much",.str "none"]=ws.map V.str:=by rw [hws];rfl
    rw [ew]
    intro p6 h6
    have s6:Same H5 (upd H5 p6 (.lst (ws.map V.str))):=same_upd h6
    have e6:upd H5 p6 (.lst (ws.map V.str)) p6=some (.lst (ws.map V.str)):=upd_same
    generalize upd H5 p6 (.lst (ws.map V.str))=H6 at e6 s6 ⊢
    have sH6:=sH3.trans (s4.trans (s5.trans s6))
    have l10:ws.length=10:=by rw [hws];rfl
    have lb:bs.length=10:=by rw [hbs];rfl
    refine ⟨⟨_,SqL.of e6⟩,⟨_,SqL.of (s6 _ _ e5)⟩,fun D hD=>cmZC (ws.map V.str) (bs.map V.bl) (fun i σ H'=>(∃o1 o2,σ=[o1,o2])∧H' D=some (.lst (((ws.zip bs).take i).filterMap fun c=>if c.2 then some (V.str c.1) else none))∧Same H6 H') ⟨⟨_,_,rfl⟩,upd_same,same_upd hD⟩ (by simp [l10,lb]) (fun i σ H' _ h=>⟨⟨SqL.of (h.2.2 _ _ e6),SqL.of (h.2.2 _ _ (s6 _ _ e5))⟩,_,mv (sH6.trans h.2.2)⟩) ?_ ?_⟩
    · rintro i x y t σ H7 hx hy ht ⟨⟨o1,o2,rfl⟩,hD7,s7⟩
      rw [List.getElem?_map] at hx hy
      obtain ⟨z,hz,rfl⟩:=Option.map_eq_some_iff.mp hx
      obtain ⟨b,hb,rfl⟩:=Option.map_eq_some_iff.mp hy
      have hi:i<10:=by rw [← l10];exact (List.getElem?_eq_some_iff.mp hz).1
      have hzb:(ws.zip bs)[i]? = some (z,b):=by rw [List.getElem?_zip_eq_some];exact ⟨hz,hb⟩
      have s8:Same H7 (upd H7 t (.tup [.str z,.bl b])):=same_upd ht
      refine ⟨⟨_,mv (sH6.trans (s7.trans s8))⟩,?_⟩
      refine ⟨_,SqT.of upd_same,rfl,?_⟩
      simp -dsimp[cxOf,stC,-Bool.exists_bool,-List.map_take,-Prod.forall,-Prod.exists]
      have hfl:(((ws.zip bs).take i).filterMap fun c=>if c.2 then some (V.str c.1) else none).length≤10:=by
        refine Nat.le_trans (List.length_filterMap_le ..) (Nat.le_trans (List.length_take_le ..) (Nat.le_of_lt hi))
      have h60:60<sizeLine:=by decide
      refine tBr.of (fun h=>?_) (fun h=>?_)
      · subst h
        simp -dsimp[cxOf,stC,-Bool.exists_bool,-List.map_take,-Prod.forall,-Prod.exists]
        refine ⟨_,s8 _ _ hD7,by omega,?_,same_upd2 (s7.trans s8) hD⟩
        rw [upd_same,take_one hzb,List.filterMap_append]
        rfl
      · subst h
        refine ⟨⟨_,_,rfl⟩,?_,s7.trans s8⟩
        rw [s8 _ _ hD7,take_one hzb,List.filterMap_append]
        simp
    · rintro σ H7 ⟨⟨o1,o2,rfl⟩,hD7,s7⟩
      simp -dsimp[cxOf,stC,-Bool.exists_bool,-List.map_take,-Prod.forall,-Prod.exists]
      have e:(((ws.zip bs).take (ws.map V.str).length).filterMap fun c=>if c.2 then some (V.str c.1) else none)=[V.str "text"]:=by
        rw [hws,hbs]
        rfl
      rw [e] at hD7
      exact q D H7 (fresh_of sH6 hD) hD7 (sH6.trans s7)
def sp_many (C:Addr):Sp:=fun vs H Q _=>∃o xs ps,vs=[.ref o]∧WebAt C H o xs ps∧Q (.int ps.length) H
theorem ok_Web_many (T:Txt K mg a):FnOk P w K mg base CX0 1 a.f_Web_many a.fd_Web_many ["self"] (sp_many a.C_Web):=by
  refine T.F_Web_many.okL sc_Web_many (fun vs H Q E h=>?_) (fun cdv A outer s H vs Q E hr h=>?_)
  · obtain ⟨o,xs,ps,rfl,_⟩:=h
    rfl
  · obtain ⟨o,xs,ps,rfl,⟨dx,n,m,tv,h1,h2,h3,h4,h5⟩,q⟩:=h
    refine ⟨_,(pss_one (ps_ret (pe_callB (flenQk (K:=K) rfl) rfl T.nm.len PySem.boot_len (pa_cons (PE.eqv (pe_fldk (K:=K) rfl (fpv 0) rfl) (fFld_eq _ _ _)) pa_nil)))),?_⟩
    simp -dsimp[cxOf,stC,-Bool.exists_bool,-List.map_take,-Prod.forall,-Prod.exists]
    refine ⟨_,_,_,h1,T.c_Web,T.n_pairs,_,rfl,_,.inr (SqT.of h3),?_⟩
    rw [h4.1]
    exact q
theorem name_len {x:Str} (h:nameB x=true):x.length≤4:=by
  unfold nameB at h
  simp at h
  omega
theorem len_app (x y:Str):(x++y).length=x.length+y.length:=Array.size_append
theorem tie_len {e:Str×Str} (h:nameB e.1=true∧nameB e.2=true):(tieText e).length≤9:=by
  unfold tieText
  rw [len_app,len_app]
  have h1:=name_len h.1
  have h2:=name_len h.2
  have h3:dash.length=1:=by decide +kernel
  omega
theorem sum_le {n:Nat}:∀{ys:List Str},(∀y∈ys,y.length≤n)→(ys.map (·.length)).sum≤n * ys.length
  | [],_=>by simp
  | y::ys,h=>by
    have h1:=sum_le fun z hz=>h z (List.mem_cons_of_mem _ hz)
    have h2:=h y List.mem_cons_self
    rw [List.map_cons,List.sum_cons,List.length_cons,Nat.mul_add]
    omega
theorem join_len {n:Nat} {ys:List Str} (h:∀y∈ys,y.length≤n):(Txt.join sp32 ys).length≤n * ys.length+ys.length:=by
  have h1:(Txt.join sp32 ys).length=_:=PySem.size_glued sp32 ys
  have h2:=sum_le h
  have h3:sp32.length=1:=by decide +kernel
  rw [h1,h3]
  omega
theorem emp_app (x:Str):Str.empty++x=x:=strExt (by rw [cps_app];simp [Str.empty])
def TiesN (ps:List (Str×Str)):Prop:=∀e∈ps,nameB e.1=true∧nameB e.2=true
theorem Ties.nm {xs:List Str} {ps:List (Str×Str)} (h:Ties xs ps) (hX:Pts xs):TiesN ps:=fun e he=>⟨hX.nm _ (h.ok e he).1,hX.nm _ (h.ok e he).2.1⟩
def sp_web_text (C:Addr):Sp:=fun vs H Q _=>∃o xs ps,vs=[.ref o]∧WebAt C H o xs ps∧Pts xs∧Ties xs ps∧∀H',Same H H'→Q (.str (webText xs ps)) H'
theorem ok_web_text (T:Txt K mg a):FnOk P w K mg base CX0 2 a.f_web_text a.fd_web_text ["web"] (sp_web_text a.C_Web):=by
  refine T.F_web_text.okL sc_web_text (fun vs H Q E h=>?_) (fun cdv A outer s H vs Q E hr h=>?_)
  · obtain ⟨o,xs,ps,rfl,_⟩:=h
    rfl
  · obtain ⟨o,xs,ps,rfl,hw,hX,hTs,q⟩:=h
    refine ⟨_,(pss_cons (ps_set (i:=1) sc_web_text.nd rfl (Or.inl rfl) (pe_bmk (K:=K) rfl PySem.F.plainAttrs_str PySem.F.slot_str_join PySem.F.type_str_join fmt_join pe_str (pa_cons (PE.eqv (pe_meth0 (fpv 0) T.c_Web T.M_Web_points (ok_Web_points (K:=K) T) (hr.mono (by decide)) T.b_Web_points .nil pass0) (fMeth_eq _ _ _ _ _ _)) pa_nil)))
      (pss_cons (ps_if (fpt_cmpR fop_eq (PE.eqv (pe_meth0 (fpv 0) T.c_Web T.M_Web_many (ok_Web_many (K:=K) T) (hr.mono (by decide)) T.b_Web_many .nil pass0) (fMeth_eq _ _ _ _ _ _)) pe_int (nomark _)) (pss_one (ps_ret (fpv 1))) pss_nil)
      (pss_cons (ps_set (i:=2) sc_web_text.nd rfl (Or.inl rfl) (pe_bmk (K:=K) rfl PySem.F.plainAttrs_str PySem.F.slot_str_join PySem.F.type_str_join fmt_join pe_str (pa_cons (pe_comp rfl rfl (show CompScope (defScope s_web_text) _ ["web", "points", "ties"] ["first", "second"] [] ["first", "second"] from ⟨rfl,by decide +kernel,by decide +kernel,rfl,by decide +kernel,by decide +kernel⟩) rfl (PI.eqv (pi_listk (K:=K) rfl (PE.eqv (pe_meth0 (fpv 0) T.c_Web T.M_Web_ties (ok_Web_ties (K:=K) T) (hr.mono (by decide)) T.b_Web_ties .nil pass0) (fMeth_eq _ _ _ _ _ _))) (fiList_eq _ _)) (fun C s H fp pn=>(PG.eqv (pg_tupk (K:=K) (n:=2) rfl rfl (PGs.eqv (pgs_cons (pg_name (i:=0) (show (["first", "second"]:List Str).Nodup by decide +kernel) rfl (Or.inl rfl)) (PGs.eqv (pgs_cons (pg_name (i:=1) (show (["first", "second"]:List Str).Nodup by decide +kernel) rfl (Or.inl rfl)) (PGs.mono pgs_nil fNil_t)) (fCons_eq _ _))) (fCons_eq _ _))) (fTup_eq _ _ _))) (fun C s H fp pn=>pts_nil) (fun C s H fp pn=>(pe_joined (.cons (pf_val (fpv 0)) (.cons (pf_lit pe_str) (.cons (pf_val (fpv 1)) .nil)))))) pa_nil)))
      (pss_one (ps_ret (pe_joined (.cons (pf_val (fpv 1)) (.cons (pf_lit pe_str) (.cons (pf_val (fpv 2)) .nil))))))))),?_⟩
    have s999:999≤sizeLine:=by decide
    have l9:=hX.len
    have h20:=hTs.len
    have hN:=hTs.nm hX
    have hxl:∀x∈xs,x.length≤4:=fun x hx=>name_len (hX.nm x hx)
    have hj:=join_len hxl
    have hsx:=sum_le hxl
    have h32:sp32.length=1:=by decide +kernel
    obtain ⟨dx,fs,hi,hno⟩:=hw.ins no_points.1 no_points.2
    simp -dsimp[cxOf,stC,-Bool.exists_bool,-List.map_take,-Prod.forall,-Prod.exists]
    refine ⟨_,_,hi,hno,o,xs,ps,rfl,hw,fun l hl=>?_⟩
    have s1:Same H (upd H l (.lst (xs.map V.str))):=same_upd hl
    have el:upd H l (.lst (xs.map V.str)) l=some (.lst (xs.map V.str)):=upd_same
    generalize upd H l (.lst (xs.map V.str))=H1 at s1 el ⊢
    obtain ⟨dx,fs,hi,hno⟩:=(hw.same s1).ins no_many.1 no_many.2
    simp -dsimp[cxOf,stC,-Bool.exists_bool,-List.map_take,-Prod.forall,-Prod.exists]
    refine ⟨xs,el,by rw [show (Str.ofString " ").length=1 from h32];omega,_,_,hi,hno,o,xs,ps,rfl,hw.same s1,?_⟩
    simp -dsimp[cxOf,stC,-Bool.exists_bool,-List.map_take,-Prod.forall,-Prod.exists]
    refine tBr.of (fun h=>?_) (fun h=>?_)
    · have hp0:ps=[]:=by
        have:(ps.length:Int)=0:=by simpa using h
        exact List.length_eq_zero_iff.mp (by omega)
      have e:webText xs ps=Txt.join sp32 xs:=if_pos hp0
      rw [e] at q
      simp -dsimp[cxOf,stC,-Bool.exists_bool,-List.map_take,-Prod.forall,-Prod.exists]
      exact q _ s1
    · have hp0:ps≠[]:=by
        intro z
        subst z
        simp at h
      have e:webText xs ps=Txt.join sp32 xs++semi++Txt.join sp32 (ps.map tieText):=if_neg hp0
      obtain ⟨dx,fs,hi,hno⟩:=(hw.same s1).ins no_ties.1 no_ties.2
      simp -dsimp[cxOf,stC,-Bool.exists_bool,-List.map_take,-Prod.forall,-Prod.exists]
      refine ⟨_,_,hi,hno,o,xs,ps,rfl,hw.same s1,fun l2 tv hl2 htv=>?_⟩
      have s2:Same H1 (upd H1 l2 (.lst tv)):=same_upd hl2
      have e2:upd H1 l2 (.lst tv) l2=some (.lst tv):=upd_same
      have htv2:=TupsAt.same htv s2
      generalize upd H1 l2 (.lst tv)=H2 at s2 e2 htv2 ⊢
      have tl:=htv2.1
      simp -dsimp[cxOf,stC,-Bool.exists_bool,-List.map_take,-Prod.forall,-Prod.exists]
      refine ⟨⟨_,SqL.of e2⟩,fun D hD=>cmL tv (fun i σ H'=>(∃o1 o2,σ=[o1,o2])∧H' D=some (.lst (((ps.take i).map tieText).map V.str))∧Same H2 H') ⟨⟨_,_,rfl⟩,upd_same,same_upd hD⟩ (fun i σ H' _ h=>SqL.of (h.2.2 _ _ e2)) ?_ ?_⟩
      · rintro i x σ H3 hi ⟨⟨o1,o2,rfl⟩,hD3,s3⟩
        obtain ⟨e,he,t2,rfl,ht2⟩:=htv2.at hi
        have hi2:i<ps.length:=(List.getElem?_eq_some_iff.mp he).1
        have hn:=hN e (List.mem_of_getElem? he)
        have n1:=name_len hn.1
        have n2:=name_len hn.2
        have d1:dash.length=1:=by decide +kernel
        rw [take_one he,List.map_append,List.map_append]
        simp -dsimp[cxOf,stC,-Bool.exists_bool,-List.map_take,-Prod.forall,-Prod.exists]
        have d1':(Str.ofString "-").length=1:=d1
        have e0:Str.empty.length=0:=rfl
        have et:Str.empty++e.1++Str.ofString "-" ++e.2=tieText e:=by rw [emp_app];rfl
        refine ⟨_,SqT.of (s3 _ _ ht2),rfl,by omega,by rw [len_app];omega,by omega,by rw [len_app,len_app];omega,by omega,by rw [len_app,len_app,len_app];omega,_,hD3,by simp;omega,?_,same_upd2 s3 hD⟩
        rw [upd_same,et]
        simp
      · rintro σ H3 ⟨⟨o1,o2,rfl⟩,hD3,s3⟩
        rw [tl,List.take_length] at hD3
        have hyl:∀y∈ps.map tieText,y.length≤9:=fun y hy=>by
          obtain ⟨d,hd,rfl⟩:=List.mem_map.mp hy
          exact tie_len (hN d hd)
        have hj2:=join_len hyl
        have hs2:=sum_le hyl
        rw [List.length_map] at hj2 hs2
        have d2:(Str.ofString "; ").length=2:=by decide +kernel
        have e0:Str.empty.length=0:=rfl
        have h32':(Str.ofString " ").length=1:=h32
        have j1:(Txt.join (Str.ofString " ") xs).length≤4 * xs.length+xs.length:=hj
        have j2:(Txt.join (Str.ofString " ") (ps.map tieText)).length≤9 * ps.length+ps.length:=hj2
        have et:Str.empty++Txt.join (Str.ofString " ") xs++Str.ofString "; " ++Txt.join (Str.ofString " ") (ps.map tieText)=webText xs ps:=by rw [emp_app,e];rfl
        simp -dsimp[cxOf,stC,-Bool.exists_bool,-List.map_take,-Prod.forall,-Prod.exists]
        refine ⟨ps.map tieText,hD3,by rw [List.length_map,h32'];omega,?_⟩
        refine ⟨by omega,by rw [len_app];omega,by omega,by rw [len_app,len_app];omega,by omega,by rw [len_app,len_app,len_app];omega,?_⟩
        rw [et]
        exact q _ ((s1.trans s2).trans s3)
theorem is_tups {K:PySem.W.Frag} {H:Hp}:∀{tv:List V} {ps:List (Str×Str)},TupsAt H tv ps→IsAll K H (dPairs ps) tv
  | [],[],_=>rfl
  | [],_::_,h=>by have:=h.1;simp at this
  | _::_,[],h=>by have:=h.1;simp at this
  | v::tv,e::ps,h=>by
    obtain ⟨t,rfl,z⟩:=h.2 0 v e rfl rfl
    refine ⟨_,_,rfl,⟨t,_,rfl,SqT.of z,⟨_,_,rfl,rfl,_,_,rfl,rfl,rfl⟩⟩,is_tups ⟨by simpa using h.1,fun i v d h1 h2=>h.2 (i+1) v d (by simpa using h1) (by simpa using h2)⟩⟩
theorem eqv_pairs:∀a b:List (Str×Str),PyData.eqvAll (dPairs a) (dPairs b)=decide (a=b)
  | [],[]=>rfl
  | [],y::b=>by simp [dPairs,PyData.eqvAll]
  | x::a,[]=>by simp [dPairs,PyData.eqvAll]
  | x::a,y::b=>by
    show (PyData.eqv (.tuple [.str x.1,.str x.2]) (.tuple [.str y.1,.str y.2]) && PyData.eqvAll (dPairs a) (dPairs b))=_
    rw [eqv_pairs a b,Bool.eq_iff_iff]
    simp [PyData.eqv,PyData.eqvAll,Prod.ext_iff]
def sp_text:Sp:=fun vs H Q _=>∃(t n l:Addr) (xs:List Str) (tv:List V) (ps:List (Str×Str)),vs=[.ref t]∧H t=some (.tup [.ref n,.ref l])∧H n=some (.lst (xs.map V.str))∧H l=some (.lst tv)∧TupsAt H tv ps∧Pts xs∧Ties xs ps∧∀H',Same H H'→Q (.str (webText xs ps)) H'
theorem ok_text (T:Txt K mg a):FnOk P w K mg base CX0 1 a.f_text a.fd_text ["_law_web_here"] sp_text:=by
  refine T.F_text.okL sc_text (fun vs H Q E h=>?_) (fun cdv A outer s H vs Q E hr h=>?_)
  · obtain ⟨t,n,l,xs,tv,ps,rfl,_⟩:=h
    rfl
  · obtain ⟨t,n,l,xs,tv,ps,rfl,ht,hn,hl,htv,hX,hTs,q⟩:=h
    refine ⟨_,(pss_cons (ps_if (fpt_cmpR (fopEqD (K:=K) rfl hr.units) (pe_ix (fixQk (K:=K) rfl) (fpv 0) pe_int (fun _ _=>rfl)) (pe_lst pa_nil) (nomark _)) (pss_one (ps_ret (pe_bmk (K:=K) rfl PySem.F.plainAttrs_str PySem.F.slot_str_join PySem.F.type_str_join fmt_join pe_str (pa_cons (pe_ix (fixQk (K:=K) rfl) (fpv 0) pe_int (fun _ _=>rfl)) pa_nil)))) pss_nil)
      (pss_one (ps_ret (pe_op fop_add_str (pe_op fop_add_str (pe_bmk (K:=K) rfl PySem.F.plainAttrs_str PySem.F.slot_str_join PySem.F.type_str_join fmt_join pe_str (pa_cons (pe_ix (fixQk (K:=K) rfl) (fpv 0) pe_int (fun _ _=>rfl)) pa_nil)) pe_str) (pe_bmk (K:=K) rfl PySem.F.plainAttrs_str PySem.F.slot_str_join PySem.F.type_str_join fmt_join pe_str (pa_cons (pe_comp rfl rfl (show CompScope (defScope s_text) _ ["_law_web_here"] ["_law_a", "_law_b"] [] ["_law_a", "_law_b"] from ⟨rfl,by decide +kernel,by decide +kernel,rfl,by decide +kernel,by decide +kernel⟩) rfl (PI.eqv (pi_listk (K:=K) rfl (pe_ix (fixQk (K:=K) rfl) (fpv 0) pe_int (fun _ _=>rfl))) (fiList_eq _ _)) (fun C s H fp pn=>(PG.eqv (pg_tupk (K:=K) (n:=2) rfl rfl (PGs.eqv (pgs_cons (pg_name (i:=0) (show (["_law_a", "_law_b"]:List Str).Nodup by decide +kernel) rfl (Or.inl rfl)) (PGs.eqv (pgs_cons (pg_name (i:=1) (show (["_law_a", "_law_b"]:List Str).Nodup by decide +kernel) rfl (Or.inl rfl)) (PGs.mono pgs_nil fNil_t)) (fCons_eq _ _))) (fCons_eq _ _))) (fTup_eq _ _ _))) (fun C s H fp pn=>pts_nil) (fun C s H fp pn=>(pe_op fop_add_str (pe_op fop_add_str (fpv 0) pe_str) (fpv 1)))) pa_nil)))))),?_⟩
    have s999:999≤sizeLine:=by decide
    have l9:=hX.len
    have h20:=hTs.len
    have hN:=hTs.nm hX
    have hxl:∀x∈xs,x.length≤4:=fun x hx=>name_len (hX.nm x hx)
    have hj:=join_len hxl
    have hsx:=sum_le hxl
    have h32:(Str.ofString " ").length=1:=by decide +kernel
    have h45:(Str.ofString "-").length=1:=by decide +kernel
    have h59:(Str.ofString "; ").length=2:=by decide +kernel
    have hok:∀e∈ps,PyData.strOk e.1=true∧PyData.strOk e.2=true:=fun e he=>⟨name_ok (hN e he).1,name_ok (hN e he).2⟩
    have hcl:PyData.canLay0 (.list (dPairs ps))=true:=by simp [PyData.canLay0,lay_pairs ps hok]
    have hcd:(PyData.list (dPairs ps)).depth≤64:=by
      have:=dep_pairs ps
      simp [PyData.depth]
      omega
    have hev:PyData.eqv (.list (dPairs ps)) (.list [])=decide (ps=[]):=by
      have:=eqv_pairs ps []
      simpa [PyData.eqv,dPairs] using this
    simp -dsimp[cxOf,stC,-Bool.exists_bool,-List.map_take,-Prod.forall,-Prod.exists]
    refine ⟨_,.inr (SqT.of ht),_,atI_nat (j:=1) rfl,fun p hp=>?_⟩
    have s1:Same H (upd H p (.lst [])):=same_upd hp
    have ep:upd H p (.lst []) p=some (.lst []):=upd_same
    generalize upd H p (.lst [])=H1 at s1 ep ⊢
    refine ⟨.list (dPairs ps),⟨l,_,rfl,SqL.of (s1 _ _ hl),is_tups (TupsAt.same htv s1)⟩,.list [],⟨p,_,rfl,SqL.of ep,rfl⟩,hcl,by simp [PyData.canLay0,PyData.canLayAll0],hcd,?_⟩
    rw [hev]
    refine tBr.of (fun h=>?_) (fun h=>?_)
    · have hp0:ps=[]:=of_decide_eq_true h
      have e:webText xs ps=Txt.join sp32 xs:=if_pos hp0
      rw [e] at q
      simp -dsimp[cxOf,stC,-Bool.exists_bool,-List.map_take,-Prod.forall,-Prod.exists]
      refine ⟨_,.inr (SqT.of (s1 _ _ ht)),_,atI_nat (j:=0) rfl,?_⟩
      simp -dsimp[cxOf,stC,-Bool.exists_bool,-List.map_take,-Prod.forall,-Prod.exists]
      refine ⟨xs,s1 _ _ hn,by rw [h32];omega,?_⟩
      exact q _ s1
    · have hp0:¬ps=[]:=of_decide_eq_false h
      have e:webText xs ps=Txt.join sp32 xs++semi++Txt.join sp32 (ps.map tieText):=if_neg hp0
      have tl:=htv.1
      have hl1:=s1 _ _ hl
      have j1:(Txt.join (Str.ofString " ") xs).length≤4 * xs.length+xs.length:=hj
      simp -dsimp[cxOf,stC,-Bool.exists_bool,-List.map_take,-Prod.forall,-Prod.exists]
      refine ⟨_,.inr (SqT.of (s1 _ _ ht)),_,atI_nat (j:=0) rfl,?_⟩
      simp -dsimp[cxOf,stC,-Bool.exists_bool,-List.map_take,-Prod.forall,-Prod.exists]
      refine ⟨xs,s1 _ _ hn,by rw [h32];omega,by rw [h59];omega,_,.inr (SqT.of (s1 _ _ ht)),_,atI_nat (j:=1) rfl,?_⟩
      simp -dsimp[cxOf,stC,-Bool.exists_bool,-List.map_take,-Prod.forall,-Prod.exists]
      refine ⟨⟨_,SqL.of hl1⟩,fun D hD=>cmL tv (fun i σ H'=>(∃o1 o2,σ=[o1,o2])∧H' D=some (.lst (((ps.take i).map tieText).map V.str))∧Same H1 H') ⟨⟨_,_,rfl⟩,upd_same,same_upd hD⟩ (fun i σ H' _ h=>SqL.of (h.2.2 _ _ hl1)) ?_ ?_⟩
      · rintro i x σ H3 hi ⟨⟨o1,o2,rfl⟩,hD3,s3⟩
        obtain ⟨e,he,t2,rfl,ht2⟩:=htv.at hi
        have hi2:i<ps.length:=(List.getElem?_eq_some_iff.mp he).1
        have hn:=hN e (List.mem_of_getElem? he)
        have n1:=name_len hn.1
        have n2:=name_len hn.2
        have et:e.1++Str.ofString "-" ++e.2=tieText e:=rfl
        rw [take_one he,List.map_append,List.map_append]
        simp -dsimp[cxOf,stC,-Bool.exists_bool,-List.map_take,-Prod.forall,-Prod.exists]
        refine ⟨_,SqT.of ((s1.trans s3) _ _ ht2),rfl,?_⟩
        simp -dsimp[cxOf,stC,-Bool.exists_bool,-List.map_take,-Prod.forall,-Prod.exists]
        refine ⟨by omega,by rw [len_app];omega,_,hD3,by simp;omega,?_,same_upd2 s3 hD⟩
        rw [upd_same,et]
        simp
      · rintro σ H3 ⟨⟨o1,o2,rfl⟩,hD3,s3⟩
        rw [tl,List.take_length] at hD3
        have hyl:∀y∈ps.map tieText,y.length≤9:=fun y hy=>by
          obtain ⟨d,hd,rfl⟩:=List.mem_map.mp hy
          exact tie_len (hN d hd)
        have hj2:=join_len hyl
        have hs2:=sum_le hyl
        rw [List.length_map] at hj2 hs2
        have j2:(Txt.join (Str.ofString " ") (ps.map tieText)).length≤9 * ps.length+ps.length:=hj2
        have et:Txt.join (Str.ofString " ") xs++Str.ofString "; " ++Txt.join (Str.ofString " ") (ps.map tieText)=webText xs ps:=by rw [e];rfl
        simp -dsimp[cxOf,stC,-Bool.exists_bool,-List.map_take,-Prod.forall,-Prod.exists]
        refine ⟨ps.map tieText,hD3,by rw [List.length_map,h32];omega,by rw [len_app];omega,?_⟩
        rw [et]
        exact q _ (s1.trans s3)
def lD (xs:List Str):PyData:=.list (xs.map PyData.str)
def tD (ts:List (List Str)):PyData:=.list (ts.map lD)
def prs (r:Str):List (List Str):=if r=Str.ofString "" then [] else (Txt.split r (Str.ofString " ")).map fun p=>Txt.split p (Str.ofString "-")
theorem strs_thg {H:Hp}:∀(xs:List Str),ThgXAll H (xs.map PyData.str) (xs.map V.str)
  | []=>by simp [ThgXAll]
  | x::xs=>by
    simp only [List.map_cons,ThgXAll]
    exact ⟨_,_,rfl,by simp [ThgX],strs_thg xs⟩
theorem thgX_snoc {H:Hp} {d:PyData} {v:V} (hd:ThgX H d v):∀{ds:List PyData} {vs:List V},ThgXAll H ds vs→ThgXAll H (ds++[d]) (vs++[v])
  | [],vs,h=>by
    simp only [ThgXAll] at h
    subst h
    simp only [List.nil_append,ThgXAll]
    exact ⟨_,_,rfl,hd,rfl⟩
  | e::ds,vs,h=>by
    simp only [ThgXAll] at h
    obtain ⟨v',r,rfl,h1,h2⟩:=h
    simp only [List.cons_append,ThgXAll]
    exact ⟨_,_,rfl,h1,thgX_snoc hd h2⟩
theorem hid_put {D:Addr} {H:Hp} {u:HO}:Same (hid D H) (hid D (upd H D u)):=fun b o e=>by
  unfold hid at e ⊢
  split at e
  ·cases e
  · rename_i h
    rw [if_neg h,upd_ne h]
    exact e
theorem split_few (x y:Str) (hy:(y.length == 0)=false):(Txt.split x y).length≤x.length+1:=(parts_few x y hy).2
theorem join_parts (x y:Str):Txt.join y (Txt.split x y)=x:=(StrLaws.glued_eq_join _ _).trans (StrLaws.join_split x y)
theorem le_sum {n:Nat}:∀{l:List Nat},n∈l→n≤l.sum
  | [],h=>by cases h
  | x::l,h=>by
    rw [List.sum_cons]
    rcases List.mem_cons.mp h with rfl | h
    ·omega
    · have:=le_sum h
      omega
theorem split_short {x y p:Str} (h:p∈Txt.split x y):p.length≤x.length:=by
  have h1:(Txt.join y (Txt.split x y)).length=_:=PySem.size_glued y (Txt.split x y)
  rw [join_parts] at h1
  have h2:=le_sum (List.mem_map_of_mem (f:=fun z:Str=>z.length) h)
  have h3:((Txt.split x y).map fun z:Str=>z.length).sum=((Txt.split x y).map (·.length)).sum:=rfl
  omega
def PcsAt (H:Hp) (D:Addr) (cs:List Str):Prop:=∃tv,H D=some (.lst tv)∧ThgXAll (hid D H) (cs.map fun p=>lD (Txt.split p (Str.ofString "-"))) tv
def sp_pairs_in:Sp:=fun vs H Q _=>∃(r:Str),vs=[.str r]∧r.length≤4000∧∀l tv H',H l=none→H' l=some (.lst tv)→ThgXAll (hid l H') ((prs r).map lD) tv→Same H H'→Q (.ref l) H'
theorem ok_pairs_in (T:Txt K mg a):FnOk P w K mg base CX0 1 a.f_pairs_in a.fd_pairs_in ["text"] sp_pairs_in:=by
  refine T.F_pairs_in.okL sc_pairs_in (fun vs H Q E h=>?_) (fun cdv A outer s H vs Q E hr h=>?_)
  · obtain ⟨r,rfl,_⟩:=h
    rfl
  · obtain ⟨r,rfl,hr4,q⟩:=h
    refine ⟨_,(pss_cons (ps_if (fpt_cmpR fop_eq (fpv 0) pe_str (nomark _)) (pss_one (ps_ret (pe_lst pa_nil))) pss_nil)
      (pss_one (ps_ret (pe_comp rfl rfl (show CompScope (defScope s_pairs_in) _ ["text"] ["piece"] [] ["piece"] from ⟨rfl,by decide +kernel,by decide +kernel,rfl,by decide +kernel,by decide +kernel⟩) rfl (PI.eqv (pi_listk (K:=K) rfl (pe_bmk (K:=K) rfl PySem.F.plainAttrs_str PySem.F.slot_str_split PySem.F.type_str_split fmt_split (fpv 0) (pa_cons pe_str pa_nil))) (fiList_eq _ _)) (fun C s H fp pn=>(pg_name (i:=0) (show (["piece"]:List Str).Nodup by decide +kernel) rfl (Or.inl rfl))) (fun C s H fp pn=>pts_nil) (fun C s H fp pn=>(pe_bmk (K:=K) rfl PySem.F.plainAttrs_str PySem.F.slot_str_split PySem.F.type_str_split fmt_split (fpv 0) (pa_cons pe_str pa_nil))))))),?_⟩
    have s999:9999≤sizeLine:=by decide
    have h32:((Str.ofString " ").length == 0)=false:=by decide +kernel
    have h45:((Str.ofString "-").length == 0)=false:=by decide +kernel
    simp -dsimp[cxOf,stC,-Bool.exists_bool,-List.map_take,-Prod.forall,-Prod.exists]
    refine tBr.of (fun h=>?_) (fun h=>?_)
    · have h0:r=Str.ofString "" :=by simpa using h
      simp -dsimp[cxOf,stC,-Bool.exists_bool,-List.map_take,-Prod.forall,-Prod.exists]
      intro l hl
      refine q l [] _ hl upd_same ?_ (same_upd hl)
      simp [prs,h0,ThgXAll]
    · have h0:r≠Str.ofString "" :=by simpa using h
      have e:prs r=(Txt.split r (Str.ofString " ")).map fun p=>Txt.split p (Str.ofString "-"):=if_neg h0
      rw [e] at q
      have fw:=split_few r _ h32
      have sh:∀p∈Txt.split r (Str.ofString " "),p.length≤4000:=fun p hp=>Nat.le_trans (split_short hp) hr4
      simp -dsimp[cxOf,stC,-Bool.exists_bool,-List.map_take,-Prod.forall,-Prod.exists]
      refine ⟨by decide +kernel,by omega,?_⟩
      generalize Txt.split r (Str.ofString " ")=cs at q fw sh ⊢
      intro l hl
      have s1:Same H (upd H l (.lst (cs.map V.str))):=same_upd hl
      have el:upd H l (.lst (cs.map V.str)) l=some (.lst (cs.map V.str)):=upd_same
      generalize upd H l (.lst (cs.map V.str))=H1 at s1 el ⊢
      refine ⟨⟨_,SqL.of el⟩,fun D hD=>cmL (cs.map V.str) (fun i σ H'=>(∃o',σ=[o'])∧PcsAt H' D (cs.take i)∧Same H1 H') ⟨⟨_,rfl⟩,⟨[],upd_same,by simp [ThgXAll]⟩,same_upd hD⟩ (fun i σ H' _ h=>SqL.of (h.2.2 _ _ el)) ?_ ?_⟩
      · rintro i x σ H2 hi ⟨⟨o',rfl⟩,⟨tv,hD2,hT2⟩,s2⟩
        obtain ⟨z,hz,rfl⟩:=str_at hi
        have hi2:i<cs.length:=(List.getElem?_eq_some_iff.mp hz).1
        have zl:=sh z (List.mem_of_getElem? hz)
        have tl:=hT2.length
        rw [List.length_map,List.length_take] at tl
        rw [take_one hz]
        simp -dsimp[cxOf,stC,-Bool.exists_bool,-List.map_take,-Prod.forall,-Prod.exists]
        refine ⟨by decide +kernel,by omega,fun p hp=>?_⟩
        have Dp:D≠p:=ne_of_none hD2 hp
        have sp:Same H2 (upd H2 p (.lst ((Txt.split z (Str.ofString "-")).map V.str))):=same_upd hp
        have ep:upd H2 p (.lst ((Txt.split z (Str.ofString "-")).map V.str)) p=some (.lst ((Txt.split z (Str.ofString "-")).map V.str)):=upd_same
        have hD3:=sp _ _ hD2
        generalize upd H2 p (.lst ((Txt.split z (Str.ofString "-")).map V.str))=H3 at sp ep hD3 ⊢
        refine ⟨_,hD3,by omega,⟨_,upd_same,?_⟩,same_upd2 (s2.trans sp) hD⟩
        rw [List.map_append]
        refine thgX_snoc ?_ (ThgXAll.same ((hid_keep sp).trans hid_put) _ _ hT2)
        unfold lD
        simp only [ThgX]
        exact ⟨p,_,rfl,hid_put _ _ (hid_at Dp.symm ep),strs_thg _⟩
      · rintro σ H2 ⟨⟨o',rfl⟩,⟨tv,hD2,hT2⟩,s2⟩
        rw [List.length_map,List.take_length] at hT2
        simp -dsimp[cxOf,stC,-Bool.exists_bool,-List.map_take,-Prod.forall,-Prod.exists]
        refine q D tv H2 (fresh_of s1 hD) hD2 ?_ (s1.trans s2)
        rw [List.map_map]
        exact hT2
def prT (ts:List (List Str)):List (Str×Str):=pairsD (ts.map lD)
def readQ (z:Str) (xs:List Str) (ts:List (List Str)):Option (List Str×List (Str×Str)):=if (ptsB (lD xs) && tiesB xs (tD ts))=true then if webText xs (prT ts)=z then some (xs,prT ts) else none else none
def readP:PyData→Option (List Str×List (Str×Str))
  | .str z=>readQ z (Txt.split (Txt.partition z (Str.ofString "; ")).1 (Str.ofString " ")) (prs (Txt.partition z (Str.ofString "; ")).2.2)
  | _=>none
theorem strsD_map:∀(xs:List Str),strsD (xs.map PyData.str)=xs
  | []=>rfl
  | x::xs=>by rw [List.map_cons];simp only [strsD];rw [strsD_map xs]
theorem okD_l {xs:List Str} (h:xs.length≤5000) (hs:∀p∈xs,p.length≤4000):OkD (lD xs):=⟨by unfold lD;simp only [kids,List.length_map];exact h,fun c hc x e=>by
  unfold lD at hc
  simp only [kids] at hc
  obtain ⟨y,hy,rfl⟩:=List.mem_map.mp hc
  cases e
  exact Nat.le_trans (hs _ hy) (by decide)⟩
theorem prs_ok (r:Str) (h:r.length≤4000):OkT (tD (prs r)):=by
  unfold prs
  split
  ·exact ⟨by simp [tD,kids],fun c hc=>by simp [tD,kids] at hc⟩
  · have f1:=split_few r (Str.ofString " ") (by decide +kernel)
    refine ⟨by unfold tD;simp only [kids,List.length_map];omega,fun c hc=>?_⟩
    unfold tD at hc
    simp only [kids,List.map_map] at hc
    obtain ⟨y,hy,rfl⟩:=List.mem_map.mp hc
    have y4:=split_short hy
    have f2:=split_few y (Str.ofString "-") (by decide +kernel)
    show OkD (lD (Txt.split y (Str.ofString "-")))
    exact okD_l (by omega) fun p hp=>by have:=split_short hp;omega
def sp_read_web (C N:Addr):Sp:=fun vs H Q E=>∃(d:PyData) (v:V),vs=[v]∧ThgX H d v∧(∀z,d = .str z→z.length≤4000)∧
  (∀xs ps,readP d=some (xs,ps)→Pts xs→Ties xs ps→∀o H',H o=none→WebAt C H' o xs ps→Same H H'→Q (.ref o) H')∧(readP d=none→∀H',Same H H'→E (.ref N) none H')
theorem ok_read_web (T:Txt K mg a):FnOk P w K mg base (CXc P w) 6 a.f_read_web a.fd_read_web ["text"] (sp_read_web a.C_Web a.C_NoText):=by
  refine T.F_read_web.okCL sc_read_web (fun vs H Q E h=>?_) (fun cdv A outer s H vs Q E hr h=>?_)
  · obtain ⟨d,v,rfl,_⟩:=h
    rfl
  · obtain ⟨d,v,rfl,hd,hln,qy,qn⟩:=h
    refine ⟨_,(pss_cons (ps_if (pt_not (fpt_val (pe_callB (fisiTk (K:=K) rfl) rfl T.nm.isinstance boot_isinstance (pa_cons (fpv 0) (pa_cons (pe_bltn (v:=.ty "str") rfl T.nm.str boot_str rfl) pa_nil))))) (pss_one (ps_raise (E:=E) letsC_cx rfl rfl T.x_NoText rfl T.m_NoText (pa_cons pe_str pa_nil))) pss_nil)
      (pss_cons (ps_asg (pe_bmk (K:=K) rfl PySem.F.plainAttrs_str PySem.F.slot_str_partition PySem.F.type_str_partition fmt_partition (fpv 0) (pa_cons pe_str pa_nil)) (PG.eqv (pg_tupk (K:=K) (n:=3) rfl rfl (PGs.eqv (pgs_cons (pg_name (i:=1) sc_read_web.nd rfl (Or.inl rfl)) (PGs.eqv (pgs_cons (pg_name (i:=2) sc_read_web.nd rfl (Or.inl rfl)) (PGs.eqv (pgs_cons (pg_name (i:=3) sc_read_web.nd rfl (Or.inl rfl)) (PGs.mono pgs_nil fNil_t)) (fCons_eq _ _))) (fCons_eq _ _))) (fCons_eq _ _))) (fTup_eq _ _ _)))
      (pss_cons (ps_tryRz rfl rfl rfl letsAC_cx (fun R pn xe hx=>(pss_one (ps_set (i:=4) sc_read_web.nd rfl (Or.inl rfl) (pe_makeS hx rfl T.K_Web (ok_Web_initX (K:=K) T) (hr.mono (by decide)) rfl T.m_Web T.b_Web_init (pa_cons (pe_bmk (K:=K) rfl PySem.F.plainAttrs_str PySem.F.slot_str_split PySem.F.type_str_split fmt_split (fpv 1) (pa_cons pe_str pa_nil)) (pa_cons (PE.eqv (pe_call (ok_pairs_in (K:=K) T) (hr.mono (by decide)) rfl T.m_pairs_in T.F_pairs_in.kp T.b_pairs_in .nil pass0 (pa_cons (fpv 3) pa_nil)) (fCall_eq _ _ _)) pa_nil)))))) rfl T.m_NoWeb T.x_NoWeb T.s_NoWeb.2 T.x_NoText rfl T.m_NoText (fun _=>(pa_cons pe_str pa_nil)))
      (pss_cons (ps_if (fpt_cmpR fop_ne (PE.eqv (pe_call (ok_web_text (K:=K) T) (hr.mono (by decide)) rfl T.m_web_text T.F_web_text.kp T.b_web_text .nil pass0 (pa_cons (fpv 4) pa_nil)) (fCall_eq _ _ _)) (fpv 0) (nomark _)) (pss_one (ps_raise (E:=E) letsC_cx rfl rfl T.x_NoText rfl T.m_NoText (pa_cons pe_str pa_nil))) pss_nil)
      (pss_one (ps_ret (fpv 4))))))),?_⟩
    have s999:9999≤sizeLine:=by decide
    simp -dsimp[cxOf,stC,-Bool.exists_bool,-List.map_take,-Prod.forall,-Prod.exists]
    refine ⟨_,thg_ty hd,_,kit_strD d,?_⟩
    cases hsd:strD d with
    | false=>
      refine tBr.pos rfl ?_
      simp -dsimp[cxOf,stC,-Bool.exists_bool,-List.map_take,-Prod.forall,-Prod.exists]
      exact qn (by cases d <;> first | rfl | cases hsd) _ (Same.refl _)
    | true=>
      obtain ⟨z,rfl⟩:∃z,d = .str z:=by cases d <;> first | exact ⟨_,rfl⟩ | cases hsd
      simp only [ThgX] at hd
      subst hd
      have hz:=hln z rfl
      refine tBr.neg rfl ?_
      simp -dsimp[cxOf,stC,-Bool.exists_bool,-List.map_take,-Prod.forall,-Prod.exists]
      have hsum:=StrLaws.partition_sum z (Str.ofString "; ")
      have hRd:readP (.str z)=readQ z (Txt.split (Txt.partition z (Str.ofString "; ")).1 (Str.ofString " ")) (prs (Txt.partition z (Str.ofString "; ")).2.2):=rfl
      refine ⟨by decide +kernel,by omega,?_⟩
      generalize (Txt.partition z (Str.ofString "; ")).1=hh at hsum hRd ⊢
      generalize (Txt.partition z (Str.ofString "; ")).2.1=mk at hsum hRd ⊢
      generalize (Txt.partition z (Str.ofString "; ")).2.2=rr at hsum hRd ⊢
      have hl3:=congrArg Str.length hsum
      rw [len_app,len_app] at hl3
      intro t ht
      have s1:Same H (upd H t (.tup [.str hh,.str mk,.str rr])):=same_upd ht
      have et:upd H t (.tup [.str hh,.str mk,.str rr]) t=some (.tup [.str hh,.str mk,.str rr]):=upd_same
      generalize upd H t (.tup [.str hh,.str mk,.str rr])=H1 at s1 et ⊢
      refine ⟨_,SqT.of et,rfl,?_⟩
      simp -dsimp[cxOf,stC,-Bool.exists_bool,-List.map_take,-Prod.forall,-Prod.exists]
      refine ⟨by decide +kernel,by omega,?_⟩
      have xfew:=split_few hh (Str.ofString " ") (by decide +kernel)
      have xsh:∀p∈Txt.split hh (Str.ofString " "),p.length≤4000:=fun p hp=>Nat.le_trans (split_short hp) (by omega)
      generalize Txt.split hh (Str.ofString " ")=xs at hRd xfew xsh ⊢
      intro l hl
      have s2:Same H1 (upd H1 l (.lst (xs.map V.str))):=same_upd hl
      have el:upd H1 l (.lst (xs.map V.str)) l=some (.lst (xs.map V.str)):=upd_same
      generalize upd H1 l (.lst (xs.map V.str))=H2 at s2 el ⊢
      refine ⟨rr,rfl,by omega,fun l2 tv H3 hl20 hl23 hT3 s3=>?_⟩
      have tsok:=prs_ok rr (by omega)
      generalize prs rr=ts at hRd hT3 tsok
      simp -dsimp[cxOf,stC,-Bool.exists_bool,-List.map_take,-Prod.forall,-Prod.exists]
      intro o dx ho hdx hodx
      have so:Same H3 (upd (upd H3 dx (.own o)) o (.ins a.C_Web dx [])):=fun b u e=>by
        rw [upd_ne (ne_of_none e ho),upd_ne (ne_of_none e hdx)]
        exact e
      have eo:upd (upd H3 dx (.own o)) o (.ins a.C_Web dx []) o=some (.ins a.C_Web dx []):=upd_same
      generalize upd (upd H3 dx (.own o)) o (.ins a.C_Web dx [])=H4 at so eo ⊢
      have d1:ThgX H4 (lD xs) (.ref l):=by
        unfold lD
        simp only [ThgX]
        exact ⟨l,_,rfl,so _ _ (s3 _ _ el),strs_thg _⟩
      have d2:ThgX H4 (tD ts) (.ref l2):=by
        unfold tD
        simp only [ThgX]
        exact ⟨l2,_,rfl,so _ _ hl23,ThgXAll.same (hid_same.trans so) _ _ hT3⟩
      have S3:Same H H3:=(s1.trans s2).trans s3
      refine ⟨o,dx,.ref l,.ref l2,lD xs,tD ts,rfl,eo,d1,okD_l (by omega) xsh,d2,tsok,fun hbad H5 s5=>?_,fun hgood hX hTs H5 hW5 hB5=>⟨rfl,?_⟩⟩
      · have hz0:readP (.str z)=none:=by
          rw [hRd]
          have h2:=hbad
          rw [show strsD (kids (lD xs))=xs from strsD_map xs] at h2
          unfold readQ
          rw [if_neg (by rw [h2];decide)]
        refine ⟨_,rfl,⟨ExcOb.of T.x_NoWeb,T.s_NoWeb.1⟩,?_⟩
        simp -dsimp[cxOf,stC,-Bool.exists_bool,-List.map_take,-Prod.forall,-Prod.exists]
        exact qn hz0 _ ((S3.trans so).trans s5)
      · rw [show strsD (kids (lD xs))=xs from strsD_map xs] at hX hTs hW5 hgood
        have s5:Same H3 H5:=fun b u e=>hB5 b u (ne_of_none e ho) (so b u e)
        have S5:=S3.trans s5
        have hRd2:readP (.str z)=if webText xs (prT ts)=z then some (xs,prT ts) else none:=by
          rw [hRd]
          unfold readQ
          rw [if_pos hgood]
        simp -dsimp[cxOf,stC,-Bool.exists_bool,-List.map_take,-Prod.forall,-Prod.exists]
        refine ⟨o,xs,prT ts,rfl,hW5,hX,hTs,fun H6 s6=>?_⟩
        simp -dsimp[cxOf,stC,-Bool.exists_bool,-List.map_take,-Prod.forall,-Prod.exists]
        by_cases hwz:webText xs (prT ts)=z
        · refine ⟨false,by simp [hwz],tBr.neg rfl ?_⟩
          simp -dsimp[cxOf,stC,-Bool.exists_bool,-List.map_take,-Prod.forall,-Prod.exists]
          rw [if_pos hwz] at hRd2
          exact qy _ _ hRd2 hX hTs o H6 (fresh_of S3 ho) (hW5.same s6) (S5.trans s6)
        · refine ⟨true,by simp [hwz],tBr.pos rfl ?_⟩
          simp -dsimp[cxOf,stC,-Bool.exists_bool,-List.map_take,-Prod.forall,-Prod.exists]
          rw [if_neg hwz] at hRd2
          exact qn hRd2 _ (S5.trans s6)
def Asc (x:Str):Prop:=∀c∈x.cps.toList,c<128
theorem Asc.ok {x:Str} (h:Asc x):PyData.strOk x=true:=by
  unfold PyData.strOk
  rw [← Array.all_toList,List.all_eq_true]
  intro c hc
  have:=h c hc
  simp only [decide_eq_true_eq]
  omega
theorem Asc.app {x y:Str} (h:Asc x) (k:Asc y):Asc (x++y):=fun c hc=>by
  rw [cps_app] at hc
  rcases List.mem_append.mp hc with z | z
  ·exact h c z
  ·exact k c z
theorem Asc.left {x y:Str} (h:Asc (x++y)):Asc x:=fun c hc=>h c (by rw [cps_app];exact List.mem_append_left _ hc)
theorem Asc.right {x y:Str} (h:Asc (x++y)):Asc y:=fun c hc=>h c (by rw [cps_app];exact List.mem_append_right _ hc)
theorem join_mem {y p:Str}:∀{l:List Str},p∈l→Asc (Str.join y l)→Asc p
  | [],h,_=>by cases h
  | [q],h,k=>by
    rw [List.mem_singleton] at h
    subst h
    exact k
  | q::r::l,h,k=>by
    rw [join_two] at k
    rcases List.mem_cons.mp h with rfl | h
    ·exact k.left.left
    ·exact join_mem (l:=r::l) h k.right
theorem Asc.part {x y p:Str} (h:Asc x) (hp:p∈Txt.split x y):Asc p:=join_mem hp (by rw [StrLaws.join_split];exact h)
def sp_l_is_name:Sp:=fun vs H Q _=>∃x,vs=[.str x]∧x.length≤4000∧Asc x∧∀H',Same H H'→Q (.bl (nameB x)) H'
def othV (x:Str) (i:Nat):List V:=((x.cps.toList.take i).filter fun c=>!isL c).map fun c=>V.str ⟨#[c]⟩
theorem ok_l_is_name (T:Txt K mg a):FnOk P w K mg base CX0 1 a.f_l_is_name a.fd_l_is_name ["_law_word"] sp_l_is_name:=by
  refine T.F_l_is_name.okL sc_l_is_name (fun vs H Q E h=>?_) (fun cdv A outer s H vs Q E hr h=>?_)
  · obtain ⟨x,rfl,_⟩:=h
    rfl
  · obtain ⟨x,rfl,hx,hA,q⟩:=h
    refine ⟨_,(pss_cons (ps_setComp (i:=1) sc_l_is_name.nd rfl rfl rfl rfl (show CompScope (defScope s_l_is_name) _ ["_law_word", "_law_others"] ["_law_sign_here"] [] ["_law_sign_here"] from ⟨rfl,by decide +kernel,by decide +kernel,rfl,by decide +kernel,by decide +kernel⟩) rfl (PI.eqv (pi_str (fpv 0)) (fiStr_eq _)) (fun C s H fp pn=>(pg_name (i:=0) (show (["_law_sign_here"]:List Str).Nodup by decide +kernel) rfl (Or.inl rfl))) (fun C s H fp pn=>(pts_one (fpt_cmpR (fnotinS (K:=K) rfl) (fpv 0) pe_str rfl))) (fun C s H fp pn=>(fpv 0)))
      (pss_one (ps_ret (fpe_and (fpe_chain fop_le fop_le pe_int (pe_callB flenTk rfl T.nm.len PySem.boot_len (pa_cons (fpv 0) pa_nil)) pe_int) (pe_one (pe_cmpR (fopEqD (K:=K) rfl hr.units) (fpv 1) (pe_lst pa_nil) (nomark _))))))),?_⟩
    have s999:9999≤sizeLine:=by decide
    simp -dsimp[cxOf,stC,-Bool.exists_bool,-List.map_take,-Prod.forall,-Prod.exists]
    refine fun D hD=>cmS (fun i σ' H'=>(∃o,σ'=[o])∧Same H H'∧H' D=some (.lst (othV x i))) ⟨⟨none,rfl⟩,same_upd hD,by simpa [othV] using upd_same⟩ ?_ ?_
    · rintro i c σ' H' hc ⟨⟨o,rfl⟩,sm,hDD⟩
      have hsz:x.cps.size=x.length:=rfl
      have hi:i<x.cps.size:=(Array.getElem?_eq_some_iff.mp hc).1
      have ol:(othV x i).length≤4000:=by
        unfold othV
        rw [List.length_map]
        refine Nat.le_trans (List.length_filter_le ..) ?_
        rw [List.length_take]
        omega
      have e1:othV x (i+1)=othV x i++(if isL c then [] else [V.str ⟨#[c]⟩]):=by
        unfold othV
        rw [take_one (l:=x.cps.toList) (x:=c) (by simpa using hc),List.filter_append,List.map_append]
        cases hc2:isL c <;> simp [hc2]
      rw [e1]
      have eL:(Builtin.Str.occurrences (Str.ofString "abcdefghijklmnopqrstuvwxyz") {cps:=#[c]} 0 (Str.ofString "abcdefghijklmnopqrstuvwxyz").length 1).isEmpty = !isL c:=by
        unfold isL
        rw [Bool.not_not]
      simp -dsimp[cxOf,stC,-Bool.exists_bool,-List.map_take,-Prod.forall,-Prod.exists]
      rw [eL]
      cases hL:isL c with
      | true=>
        refine tBr.neg rfl ?_
        exact ⟨⟨_,rfl⟩,sm,by simpa using hDD⟩
      | false=>
        refine tBr.pos rfl ?_
        simp -dsimp[cxOf,stC,-Bool.exists_bool,-List.map_take,-Prod.forall,-Prod.exists]
        exact ⟨_,hDD,by omega,same_upd2 sm hD,upd_same⟩
    · rintro σ' H' ⟨⟨o,rfl⟩,sm,hDD⟩
      have hsz:x.cps.size=x.length:=rfl
      simp -dsimp[cxOf,stC,-Bool.exists_bool,-List.map_take,-Prod.forall,-Prod.exists]
      refine ⟨by omega,tBr.of (fun h1=>?_) (fun h1=>?_)⟩
      · have h1':1≤x.length:=by simp at h1;omega
        simp -dsimp[cxOf,stC,-Bool.exists_bool,-List.map_take,-Prod.forall,-Prod.exists]
        refine tBr.of (fun h2=>?_) (fun h2=>?_)
        · have h2':x.length≤4:=by simp at h2;omega
          simp -dsimp[cxOf,stC,-Bool.exists_bool,-List.map_take,-Prod.forall,-Prod.exists]
          intro p hp
          have s1:Same H' (upd H' p (.lst [])):=same_upd hp
          have ep:upd H' p (.lst []) p=some (.lst []):=upd_same
          generalize upd H' p (.lst [])=H1 at s1 ep ⊢
          have eo:othV x x.cps.size=((x.cps.toList.filter fun c=>!isL c).map fun c=>(⟨#[c]⟩:Str)).map V.str:=by
            unfold othV
            rw [show x.cps.toList.take x.cps.size=x.cps.toList from List.take_of_length_le (by simp),List.map_map]
            rfl
          rw [eo] at hDD
          generalize hcs:(x.cps.toList.filter fun c=>!isL c).map (fun c=>(⟨#[c]⟩:Str))=cs at hDD
          have ok:∀y∈cs,PyData.strOk y=true:=fun y hy=>by
            rw [← hcs] at hy
            obtain ⟨c,hc,rfl⟩:=List.mem_map.mp hy
            exact Asc.ok fun d hd=>by
              simp at hd
              rw [hd]
              exact hA c ((List.mem_filter.mp hc).1)
          refine ⟨.list (dStrs cs),⟨D,_,rfl,SqL.of (s1 _ _ hDD),is_strs _⟩,.list (dStrs []),⟨p,_,rfl,SqL.of ep,rfl⟩,by simp [PyData.canLay0,lay_strs cs ok],by simp [PyData.canLay0,dStrs,PyData.canLayAll0],?_,?_⟩
          · have:=dep_strs cs
            simp [PyData.depth]
            omega
          · have e:nameB x=PyData.eqv (.list (dStrs cs)) (.list (dStrs [])):=by
              rw [show PyData.eqv (.list (dStrs cs)) (.list (dStrs []))=decide (cs=[]) by simpa [PyData.eqv] using eqv_strs cs []]
              unfold nameB
              rw [decide_eq_true h1',decide_eq_true h2',← hcs]
              simp only [Bool.true_and,List.map_eq_nil_iff,List.filter_eq_nil_iff]
              rw [Bool.eq_iff_iff,List.all_eq_true,decide_eq_true_eq]
              constructor
              · intro h c hc
                rw [h c hc]
                decide
              · intro h c hc
                have:=h c hc
                simpa using this
            rw [← e]
            exact q _ (sm.trans s1)
        · have h2':¬x.length≤4:=by simp at h2;omega
          have e:nameB x=false:=by
            unfold nameB
            rw [decide_eq_false h2']
            simp
          rw [e] at q
          simp -dsimp[cxOf,stC,-Bool.exists_bool,-List.map_take,-Prod.forall,-Prod.exists]
          exact q _ sm
      · have h1':¬1≤x.length:=by simp at h1;omega
        have e:nameB x=false:=by
          unfold nameB
          rw [decide_eq_false h1']
          simp
        rw [e] at q
        simp -dsimp[cxOf,stC,-Bool.exists_bool,-List.map_take,-Prod.forall,-Prod.exists]
        exact q _ sm
def tsL (mk r:Str):List (List Str):=if mk=Str.ofString "" then [] else (Txt.split r (Str.ofString " ")).map fun p=>Txt.split p (Str.ofString "-")
def pr2 (t:List Str):Bool:=match t with
  | [a,b]=>decide (a≠b)
  | _=>false
def in2 (xs:List Str) (t:List Str):Bool:=match t with
  | [a,b]=>decide (a∈xs) && decide (b∈xs)
  | _=>false
def okR (xs:List Str) (ts:List (List Str)):Bool:=decide (1≤xs.length∧xs.length≤9) && (decide (ts.length≤20) && (decide xs.Nodup && (xs.all nameB && (ts.all pr2 && ts.all (in2 xs)))))
theorem tieB_is {xs t:List Str} (h:xs.all nameB=true):tieB xs (lD t)=(pr2 t && in2 xs t):=by
  unfold tieB lD
  rcases t with _ | ⟨a,_ | ⟨b,_ | ⟨c,t⟩⟩⟩
  ·rfl
  ·rfl
  · have nm:∀x,(nameB x && decide (x∈xs))=decide (x∈xs):=fun x=>by
      by_cases hx:x∈xs
      · rw [List.all_eq_true.mp h x hx]
        rfl
      ·rw [decide_eq_false hx,Bool.and_false]
    show (true && (decide (2=2) && (((nameB a && decide (a∈xs)) && ((nameB b && decide (b∈xs)) && true)) && decide (a≠b))))=(decide (a≠b) && (decide (a∈xs) && decide (b∈xs)))
    rw [nm,nm]
    cases decide (a∈xs) <;> cases decide (b∈xs) <;> cases decide (a≠b) <;> rfl
  ·simp [pr2,kids]
theorem ptsB_is (xs:List Str):ptsB (lD xs)=(decide (1≤xs.length∧xs.length≤9) && (xs.all nameB && decide xs.Nodup)):=by
  unfold ptsB lD
  have e1:(xs.map PyData.str).all nameD=xs.all nameB:=by
    rw [List.all_map]
    rfl
  simp only [kids,strsD_map,e1,List.length_map]
  rfl
theorem web_is (xs:List Str) (ts:List (List Str)):(ptsB (lD xs) && tiesB xs (tD ts))=okR xs ts:=by
  rw [ptsB_is]
  unfold okR
  cases hn:xs.all nameB with
  | false=>simp
  | true=>
    have e:tiesB xs (tD ts)=(decide (ts.length≤20) && (ts.all pr2 && ts.all (in2 xs))):=by
      unfold tiesB tD
      simp only [kids,List.length_map,List.all_map]
      have:ts.all (tieB xs ∘ lD)=(ts.all pr2 && ts.all (in2 xs)):=by
        have e2:(tieB xs ∘ lD)=fun t=>pr2 t && in2 xs t:=funext fun t=>tieB_is hn
        rw [e2]
        clear e2
        induction ts with
        | nil=>rfl
        | cons t ts ih=>
          simp only [List.all_cons,ih]
          cases pr2 t <;> cases in2 xs t <;> cases ts.all pr2 <;> cases ts.all (in2 xs) <;> rfl
      rw [this]
      rfl
    rw [e]
    cases decide (1≤xs.length∧xs.length≤9) <;> cases decide (ts.length≤20) <;> cases decide xs.Nodup <;> rfl
theorem prT_text {xs:List Str}:∀{cs:List Str},(cs.map fun p=>Txt.split p (Str.ofString "-")).all pr2=true→(prT (cs.map fun p=>Txt.split p (Str.ofString "-"))).map tieText=cs
  | [],_=>rfl
  | p::cs,h=>by
    simp only [List.map_cons,List.all_cons,Bool.and_eq_true] at h
    have ih:=prT_text (xs:=xs) (cs:=cs) h.2
    have hj:=StrLaws.join_split p (Str.ofString "-")
    have h1:=h.1
    unfold prT at ih ⊢
    simp only [List.map_cons,pairsD]
    rw [ih]
    generalize Txt.split p (Str.ofString "-")=t at hj h1
    rcases t with _ | ⟨a,_ | ⟨b,_ | ⟨c,t⟩⟩⟩
    ·cases h1
    ·cases h1
    ·congr 1
    ·cases h1
theorem readP_is (z:Str):readP (.str z)=if okR (Txt.split (Txt.partition z (Str.ofString "; ")).1 (Str.ofString " ")) (tsL (Txt.partition z (Str.ofString "; ")).2.1 (Txt.partition z (Str.ofString "; ")).2.2)=true then some (Txt.split (Txt.partition z (Str.ofString "; ")).1 (Str.ofString " "),prT (tsL (Txt.partition z (Str.ofString "; ")).2.1 (Txt.partition z (Str.ofString "; ")).2.2)) else none:=by
  show readQ z _ _=_
  have hsum:=StrLaws.partition_sum z (Str.ofString "; ")
  have hcs:((Txt.partition z (Str.ofString "; ")).2.1=Str.ofString "" ∧(Txt.partition z (Str.ofString "; ")).2.2=Str.ofString "")∨(Txt.partition z (Str.ofString "; ")).2.1=Str.ofString "; " :=by
    unfold Txt.partition
    split
    ·exact .inr rfl
    ·exact .inl ⟨rfl,rfl⟩
  generalize (Txt.partition z (Str.ofString "; ")).1=hh at hsum ⊢
  generalize (Txt.partition z (Str.ofString "; ")).2.1=mk at hsum hcs ⊢
  generalize (Txt.partition z (Str.ofString "; ")).2.2=rr at hsum hcs ⊢
  have hx:Txt.join sp32 (Txt.split hh (Str.ofString " "))=hh:=join_parts hh (Str.ofString " ")
  unfold readQ
  rcases hcs with ⟨rfl,rfl⟩ | rfl
  · have e1:tsL (Str.ofString "") (Str.ofString "")=[]:=if_pos rfl
    have e2:prs (Str.ofString "")=[]:=if_pos rfl
    rw [e1,e2,web_is]
    have hz:hh=z:=by
      rw [← hsum]
      exact strExt (by rw [cps_app,cps_app];simp [show (Str.ofString "").cps.toList=[] from by decide +kernel])
    have ew:webText (Txt.split hh (Str.ofString " ")) (prT [])=z:=by
      unfold webText
      rw [if_pos (show prT []=[] from rfl),hx,hz]
    rw [if_pos ew]
  · have hne:¬(Str.ofString "; " = Str.ofString ""):=by decide +kernel
    have e1:tsL (Str.ofString "; ") rr=(Txt.split rr (Str.ofString " ")).map fun p=>Txt.split p (Str.ofString "-"):=if_neg hne
    by_cases hr:rr=Str.ofString ""
    · subst hr
      have e2:prs (Str.ofString "")=[]:=if_pos rfl
      have e3:(Txt.split (Str.ofString "") (Str.ofString " ")).map (fun p=>Txt.split p (Str.ofString "-"))=[[Str.ofString ""]]:=by decide +kernel
      rw [e1,e2,e3]
      have ew:¬webText (Txt.split hh (Str.ofString " ")) (prT [])=z:=fun y=>by
        unfold webText at y
        rw [if_pos (show prT []=[] from rfl),hx] at y
        have h1:=congrArg Str.length hsum
        rw [len_app,len_app,← y] at h1
        have h2:(Str.ofString "; ").length=2:=by decide +kernel
        omega
      rw [if_neg ew]
      have:okR (Txt.split hh (Str.ofString " ")) [[Str.ofString ""]]=false:=by
        unfold okR
        simp [pr2]
      rw [this]
      split <;> rfl
    · have e2:prs rr=(Txt.split rr (Str.ofString " ")).map fun p=>Txt.split p (Str.ofString "-"):=if_neg hr
      rw [e1,e2,web_is]
      split
      · rename_i hok
        have hok2:=hok
        unfold okR at hok2
        simp only [Bool.and_eq_true] at hok2
        have ht:=prT_text (xs:=[]) hok2.2.2.2.2.1
        have hn0:prT ((Txt.split rr (Str.ofString " ")).map fun p=>Txt.split p (Str.ofString "-"))≠[]:=fun y=>by
          rw [y] at ht
          exact split_ne rr (Str.ofString " ") ht.symm
        have ew:webText (Txt.split hh (Str.ofString " ")) (prT ((Txt.split rr (Str.ofString " ")).map fun p=>Txt.split p (Str.ofString "-")))=z:=by
          unfold webText
          rw [if_neg hn0,hx,ht,show Txt.join sp32 (Txt.split rr (Str.ofString " "))=rr from join_parts rr (Str.ofString " ")]
          exact hsum
        rw [if_pos ew]
      ·rfl
def TsAt (H:Hp) (tv:List V) (ts:List (List Str)):Prop:=tv.length=ts.length∧∀(i:Nat) (t:List Str),ts[i]? = some t→∃b,tv[i]? = some (.ref b)∧H b=some (.tup (t.map V.str))
theorem TsAt.keep {H H':Hp} {tv:List V} {ts:List (List Str)} (h:TsAt H tv ts) (s:TupKeep H H'):TsAt H' tv ts:=⟨h.1,fun i t e=>by
  obtain ⟨b,h1,h2⟩:=h.2 i t e
  exact ⟨b,h1,s _ _ h2⟩⟩
theorem TsAt.snoc {H:Hp} {tv:List V} {ts:List (List Str)} {b:Addr} {t:List Str} (h:TsAt H tv ts) (hb:H b=some (.tup (t.map V.str))):TsAt H (tv++[.ref b]) (ts++[t]):=by
  have h1:=h.1
  refine ⟨by simp [h1],fun i u e=>?_⟩
  by_cases hi:i<ts.length
  · rw [List.getElem?_append_left hi] at e
    obtain ⟨c,z1,z2⟩:=h.2 i u e
    exact ⟨c,by rw [List.getElem?_append_left (by omega)];exact z1,z2⟩
  · rw [List.getElem?_append_right (by omega)] at e
    have hz:i - ts.length=0:=by
      have:=(List.getElem?_eq_some_iff.mp e).1
      simp at this
      omega
    rw [hz] at e
    simp at e
    subst e
    exact ⟨b,by rw [List.getElem?_append_right (by omega),show i - tv.length=0 by omega];rfl,hb⟩
def TcAt (H:Hp) (D:Addr) (cs:List Str):Prop:=∃tv,H D=some (.lst tv)∧TsAt H tv (cs.map fun p=>Txt.split p (Str.ofString "-"))
theorem inS_iff (x:Str) (xs:List Str):inV (.str x) (xs.map V.str)=decide (x∈xs):=by
  unfold inV
  rw [List.any_map,Bool.eq_iff_iff,List.any_eq_true,decide_eq_true_eq]
  constructor
  · rintro ⟨y,hy,h⟩
    simp [eqV] at h
    exact h▸hy
  · intro h
    exact ⟨x,h,by simp [eqV]⟩
theorem prT_len (ts:List (List Str)):(prT ts).length=ts.length:=by
  unfold prT
  induction ts with
  | nil=>rfl
  | cons t ts ih=>simp only [List.map_cons,pairsD,List.length_cons,ih]
theorem prT_get:∀{ts:List (List Str)} {i:Nat} {x y:Str},ts[i]? = some [x,y]→(prT ts)[i]? = some (x,y)
  | [],i,x,y,h=>by simp at h
  | t::ts,0,x,y,h=>by
    simp at h
    subst h
    rfl
  | t::ts,i+1,x,y,h=>by
    have:=prT_get (ts:=ts) (i:=i) (by simpa using h)
    simpa [prT,pairsD] using this
theorem TsAt.tups {H:Hp} {tv:List V} {ts:List (List Str)} (h:TsAt H tv ts) (hp:ts.all pr2=true):TupsAt H tv (prT ts):=by
  refine ⟨by rw [prT_len];exact h.1,fun i v e h1 h2=>?_⟩
  have hi:i<ts.length:=by rw [← h.1];exact (List.getElem?_eq_some_iff.mp h1).1
  obtain ⟨b,z1,z2⟩:=h.2 i ts[i] (by simp [hi])
  have h3:=List.all_eq_true.mp hp ts[i] (List.getElem_mem hi)
  have h4:ts[i]? = some ts[i]:=by simp [hi]
  generalize ts[i]=t at z2 h3 h4
  rcases t with _ | ⟨x1,_ | ⟨x2,_ | ⟨x3,t⟩⟩⟩
  ·cases h3
  ·cases h3
  · rw [prT_get h4] at h2
    cases h2
    rw [h1] at z1
    cases z1
    exact ⟨b,rfl,z2⟩
  ·cases h3
def sp_reading:Sp:=fun vs H Q _=>∃(d:PyData) (v:V),vs=[v]∧ThgX H d v∧(∀z,d = .str z→z.length≤4000∧Asc z)∧(readP d=none→∀H',Same H H'→Q .non H')∧
  (∀xs ps,readP d=some (xs,ps)→∀t n l tv H',H' t=some (.tup [.ref n,.ref l])→H' n=some (.lst (xs.map V.str))→H' l=some (.lst tv)→TupsAt H' tv ps→Same H H'→Q (.ref t) H')
theorem ok_reading (T:Txt K mg a):FnOk P w K mg base CX0 2 a.f_reading a.fd_reading ["_law_text_here"] sp_reading:=by
  refine T.F_reading.okL sc_reading (fun vs H Q E h=>?_) (fun cdv A outer s H vs Q E hr h=>?_)
  · obtain ⟨d,v,rfl,_⟩:=h
    rfl
  · obtain ⟨d,v,rfl,hd,hln,qn,qy⟩:=h
    refine ⟨_,(pss_cons (ps_if (pt_not (fpt_val (pe_callB (fisiTk (K:=K) rfl) rfl T.nm.isinstance boot_isinstance (pa_cons (fpv 0) (pa_cons (pe_bltn (v:=.ty "str") rfl T.nm.str boot_str rfl) pa_nil))))) (pss_one (ps_ret pe_non)) pss_nil)
      (pss_cons (ps_asg (pe_bmk (K:=K) rfl PySem.F.plainAttrs_str PySem.F.slot_str_partition PySem.F.type_str_partition fmt_partition (fpv 0) (pa_cons pe_str pa_nil)) (PG.eqv (pg_tupk (K:=K) (n:=3) rfl rfl (PGs.eqv (pgs_cons (pg_name (i:=1) sc_reading.nd rfl (Or.inl rfl)) (PGs.eqv (pgs_cons (pg_name (i:=2) sc_reading.nd rfl (Or.inl rfl)) (PGs.eqv (pgs_cons (pg_name (i:=3) sc_reading.nd rfl (Or.inl rfl)) (PGs.mono pgs_nil fNil_t)) (fCons_eq _ _))) (fCons_eq _ _))) (fCons_eq _ _))) (fTup_eq _ _ _)))
      (pss_cons (ps_set (i:=4) sc_reading.nd rfl (Or.inr rfl) (pe_bmk (K:=K) rfl PySem.F.plainAttrs_str PySem.F.slot_str_split PySem.F.type_str_split fmt_split (fpv 1) (pa_cons pe_str pa_nil)))
      (pss_cons (ps_set (i:=5) sc_reading.nd rfl (Or.inl rfl) (pe_lst pa_nil))
      (pss_cons (ps_if (fpt_cmpR fop_ne (fpv 2) pe_str (nomark _)) (pss_one (ps_setComp (i:=5) sc_reading.nd rfl rfl rfl rfl (show CompScope (defScope s_reading) _ ["_law_text_here", "_law_head", "_law_parting", "_law_rest", "_law_names_here", "_law_ties"] ["_law_word"] [] ["_law_word"] from ⟨rfl,by decide +kernel,by decide +kernel,rfl,by decide +kernel,by decide +kernel⟩) rfl (PI.eqv (pi_listk (K:=K) rfl (pe_bmk (K:=K) rfl PySem.F.plainAttrs_str PySem.F.slot_str_split PySem.F.type_str_split fmt_split (fpv 3) (pa_cons pe_str pa_nil))) (fiList_eq _ _)) (fun C s H fp pn=>(pg_name (i:=0) (show (["_law_word"]:List Str).Nodup by decide +kernel) rfl (Or.inl rfl))) (fun C s H fp pn=>pts_nil) (fun C s H fp pn=>(pe_callTy ftupleOfS rfl T.nm.tuple boot_tuple (pa_cons (pe_bmk (K:=K) rfl PySem.F.plainAttrs_str PySem.F.slot_str_split PySem.F.type_str_split fmt_split (fpv 0) (pa_cons pe_str pa_nil)) pa_nil))))) pss_nil)
      (pss_cons (ps_if (PW.pt (pw_or (pt_not (fpt_chain fop_le fop_le pe_int (pe_callB (flenQk (K:=K) rfl) rfl T.nm.len PySem.boot_len (pa_cons (fpv 4) pa_nil)) pe_int)) (pw_or (fpt_cmpR fop_gt (pe_callB (flenQk (K:=K) rfl) rfl T.nm.len PySem.boot_len (pa_cons (fpv 5) pa_nil)) pe_int (nomark _)) (pw_or1 (fpt_cmpR fop_lt (pe_callB call_lenS rfl T.nm.len PySem.boot_len (pa_cons (pe_callTy (call_setK rfl) rfl T.nm.set boot_setT (pa_cons (fpv 4) pa_nil)) pa_nil)) (pe_callB (flenQk (K:=K) rfl) rfl T.nm.len PySem.boot_len (pa_cons (fpv 4) pa_nil)) (nomark _)))))) (pss_one (ps_ret pe_non)) pss_nil)
      (pss_cons (ps_if (pt_not (fpt_val (pe_callB (fcall_all rfl) rfl T.nm.all boot_all' (pa_cons (pe_comp rfl rfl (show CompScope (defScope s_reading) _ ["_law_text_here", "_law_head", "_law_parting", "_law_rest", "_law_names_here", "_law_ties"] ["_law_name"] [] ["_law_name"] from ⟨rfl,by decide +kernel,by decide +kernel,rfl,by decide +kernel,by decide +kernel⟩) rfl (PI.eqv (pi_listk (K:=K) rfl (fpv 4)) (fiList_eq _ _)) (fun C s H fp pn=>(pg_name (i:=0) (show (["_law_name"]:List Str).Nodup by decide +kernel) rfl (Or.inl rfl))) (fun C s H fp pn=>pts_nil) (fun C s H fp pn=>(PE.eqv (pe_call (ok_l_is_name (K:=K) T) (hr.mono (by decide)) rfl T.m_l_is_name T.F_l_is_name.kp T.b_l_is_name .nil pass0 (pa_cons (fpv 0) pa_nil)) (fCall_eq _ _ _)))) pa_nil)))) (pss_one (ps_ret pe_non)) pss_nil)
      (pss_cons (ps_if (pt_not (fpt_val (pe_callB (fcall_all rfl) rfl T.nm.all boot_all' (pa_cons (pe_comp rfl rfl (show CompScope (defScope s_reading) _ ["_law_text_here", "_law_head", "_law_parting", "_law_rest", "_law_names_here", "_law_ties"] ["_law_tie_here"] [] ["_law_tie_here"] from ⟨rfl,by decide +kernel,by decide +kernel,rfl,by decide +kernel,by decide +kernel⟩) rfl (PI.eqv (pi_listk (K:=K) rfl (fpv 5)) (fiList_eq _ _)) (fun C s H fp pn=>(pg_name (i:=0) (show (["_law_tie_here"]:List Str).Nodup by decide +kernel) rfl (Or.inl rfl))) (fun C s H fp pn=>pts_nil) (fun C s H fp pn=>(fpe_and (pe_cmpR fop_eq (pe_callB (flenQk (K:=K) rfl) rfl T.nm.len PySem.boot_len (pa_cons (fpv 0) pa_nil)) pe_int (nomark _)) (pe_one (pe_cmpR fop_ne (pe_ix (fixQk (K:=K) rfl) (fpv 0) pe_int (fun _ _=>rfl)) (pe_ix (fixQk (K:=K) rfl) (fpv 0) pe_int (fun _ _=>rfl)) (nomark _)))))) pa_nil)))) (pss_one (ps_ret pe_non)) pss_nil)
      (pss_cons (ps_if (pt_not (fpt_val (pe_callB (fcall_all rfl) rfl T.nm.all boot_all' (pa_cons (pe_comp rfl rfl (show CompScope (defScope s_reading) _ ["_law_text_here", "_law_head", "_law_parting", "_law_rest", "_law_names_here", "_law_ties"] ["_law_tie_here"] [4] ["_law_tie_here", "_law_names_here"] from ⟨rfl,by decide +kernel,by decide +kernel,rfl,by decide +kernel,by decide +kernel⟩) rfl (PI.eqv (pi_listk (K:=K) rfl (fpv 5)) (fiList_eq _ _)) (fun C s H fp pn=>(pg_name (i:=0) (show (["_law_tie_here", "_law_names_here"]:List Str).Nodup by decide +kernel) rfl (Or.inl rfl))) (fun C s H fp pn=>pts_nil) (fun C s H fp pn=>(fpe_and (pe_cmpR (finK (K:=K) rfl) (pe_ix (fixQk (K:=K) rfl) (fpv 0) pe_int (fun _ _=>rfl)) (fpv 1) rfl) (pe_one (pe_cmpR (finK (K:=K) rfl) (pe_ix (fixQk (K:=K) rfl) (fpv 0) pe_int (fun _ _=>rfl)) (fpv 1) rfl))))) pa_nil)))) (pss_one (ps_ret pe_non)) pss_nil)
      (pss_one (ps_ret (pe_tup (pa_cons (fpv 4) (pa_cons (fpv 5) pa_nil)))))))))))))),?_⟩
    have s999:9999≤sizeLine:=by decide
    simp -dsimp[cxOf,stC,-Bool.exists_bool,-List.map_take,-Prod.forall,-Prod.exists]
    refine ⟨_,thg_ty hd,_,kit_strD d,?_⟩
    cases hsd:strD d with
    | false=>
      refine tBr.pos rfl ?_
      simp -dsimp[cxOf,stC,-Bool.exists_bool,-List.map_take,-Prod.forall,-Prod.exists]
      exact qn (by cases d <;> first | rfl | cases hsd) _ (Same.refl _)
    | true=>
      obtain ⟨z,rfl⟩:∃z,d = .str z:=by cases d <;> first | exact ⟨_,rfl⟩ | cases hsd
      simp only [ThgX] at hd
      subst hd
      obtain ⟨hz,hA⟩:=hln z rfl
      refine tBr.neg rfl ?_
      simp -dsimp[cxOf,stC,-Bool.exists_bool,-List.map_take,-Prod.forall,-Prod.exists]
      have hsum:=StrLaws.partition_sum z (Str.ofString "; ")
      have hRd:=readP_is z
      refine ⟨by decide +kernel,by omega,?_⟩
      generalize (Txt.partition z (Str.ofString "; ")).1=hh at hsum hRd ⊢
      generalize (Txt.partition z (Str.ofString "; ")).2.1=mk at hsum hRd ⊢
      generalize (Txt.partition z (Str.ofString "; ")).2.2=rr at hsum hRd ⊢
      have hl3:=congrArg Str.length hsum
      rw [len_app,len_app] at hl3
      have hAs:=hA
      rw [← hsum] at hAs
      intro t ht
      have s1:Same H (upd H t (.tup [.str hh,.str mk,.str rr])):=same_upd ht
      have et:upd H t (.tup [.str hh,.str mk,.str rr]) t=some (.tup [.str hh,.str mk,.str rr]):=upd_same
      generalize upd H t (.tup [.str hh,.str mk,.str rr])=H1 at s1 et ⊢
      refine ⟨_,SqT.of et,rfl,?_⟩
      simp -dsimp[cxOf,stC,-Bool.exists_bool,-List.map_take,-Prod.forall,-Prod.exists]
      refine ⟨by decide +kernel,by omega,?_⟩
      have xfew:=split_few hh (Str.ofString " ") (by decide +kernel)
      have xsh:∀p∈Txt.split hh (Str.ofString " "),p.length≤4000∧Asc p:=fun p hp=>⟨Nat.le_trans (split_short hp) (by omega),hAs.left.left.part hp⟩
      generalize Txt.split hh (Str.ofString " ")=xs at hRd xfew xsh ⊢
      intro n hn
      have s2:Same H1 (upd H1 n (.lst (xs.map V.str))):=same_upd hn
      have en:upd H1 n (.lst (xs.map V.str)) n=some (.lst (xs.map V.str)):=upd_same
      generalize upd H1 n (.lst (xs.map V.str))=H2 at s2 en ⊢
      intro l hl
      have s3:Same H2 (upd H2 l (.lst [])):=same_upd hl
      have el:upd H2 l (.lst []) l=some (.lst []):=upd_same
      generalize upd H2 l (.lst [])=H3 at s3 el ⊢
      have S2:=s1.trans s2
      have tfew:(tsL mk rr).length≤4001:=by
        unfold tsL
        split
        ·simp
        · rw [List.length_map]
          have:=split_few rr (Str.ofString " ") (by decide +kernel)
          omega
      generalize hNx:tSeq (tIfS (tOr _ _) _ _) _ _=Nx
      have tail:∀(l:Addr) (tv:List V) (H':Hp),H' l=some (.lst tv)→TsAt H' tv (tsL mk rr)→Same H2 H'→Nx [some (.str z),some (.str hh),some (.str mk),some (.str rr),some (.ref n),some (.ref l)] H':=by
        intro l tv H' el htv s'
        subst hNx
        generalize tsL mk rr=ts at hRd tfew htv
        have tl:=htv.1
        have S':=S2.trans s'
        have bad:okR xs ts=false→∀H'',Same H' H''→Q .non H'':=fun h H'' s''=>qn (by rw [hRd,h];rfl) _ (S'.trans s'')
        have en':=s' _ _ en
        simp -dsimp[cxOf,stC,-Bool.exists_bool,-List.map_take,-Prod.forall,-Prod.exists]
        refine ⟨_,.inl (SqL.of en'),?_⟩
        rw [List.length_map]
        refine tBr.of (fun h1=>?_) (fun h1=>?_)
        · have h1':1≤xs.length:=by simp at h1;omega
          simp -dsimp[cxOf,stC,-Bool.exists_bool,-List.map_take,-Prod.forall,-Prod.exists]
          refine tBr.of (fun h2=>?_) (fun h2=>?_)
          · have h2':¬xs.length≤9:=by simp at h2;omega
            simp -dsimp[cxOf,stC,-Bool.exists_bool,-List.map_take,-Prod.forall,-Prod.exists]
            exact bad (by unfold okR;simp [h2']) _ (Same.refl _)
          · have h2':xs.length≤9:=by simp at h2;omega
            simp -dsimp[cxOf,stC,-Bool.exists_bool,-List.map_take,-Prod.forall,-Prod.exists]
            refine ⟨_,.inl (SqL.of el),?_⟩
            rw [tl]
            refine tBr.of (fun h3=>?_) (fun h3=>?_)
            · have h3':¬ts.length≤20:=by simp at h3;omega
              simp -dsimp[cxOf,stC,-Bool.exists_bool,-List.map_take,-Prod.forall,-Prod.exists]
              exact bad (by unfold okR;simp [h3']) _ (Same.refl _)
            · have h3':ts.length≤20:=by simp at h3;omega
              simp -dsimp[cxOf,stC,-Bool.exists_bool,-List.map_take,-Prod.forall,-Prod.exists]
              refine ⟨_,.inl (SqL.of en'),by simp [isKey],by simp;unfold scanBound;omega,fun t2 ht2=>⟨_,upd_same,_,.inl (SqL.of (same_upd ht2 _ _ en')),?_⟩⟩
              generalize hH5:upd H' t2 _=H5
              have su:Same H' H5:=hH5▸same_upd ht2
              rw [show decide ((uqN (fun i=>(keysOf (xs.map V.str))[i]?.getD (Sum.inl 0)) (xs.map V.str).length).length<(xs.map V.str).length) = !decide xs.Nodup from ?_]
              rotate_left
              · have h4:=uqN_le (fun i=>(keysOf (xs.map V.str))[i]?.getD (Sum.inl 0)) (xs.map V.str).length
                have h5:=uq_iff xs
                by_cases hnd:xs.Nodup
                · have h6:=h5.mpr hnd
                  rw [decide_eq_true hnd,decide_eq_false (by rw [h6,List.length_map];omega)]
                  rfl
                · have h6:¬_:=fun y=>hnd (h5.mp y)
                  rw [List.length_map] at h4
                  rw [decide_eq_false hnd,decide_eq_true (by rw [List.length_map] at h6 ⊢;omega)]
                  rfl
              have en5:=su _ _ en'
              have el5:=su _ _ el
              have htv5:=TsAt.keep htv fun c zs e=>su _ _ e
              cases hnd:decide xs.Nodup with
              | false=>
                refine tBr.pos rfl ?_
                simp -dsimp[cxOf,stC,-Bool.exists_bool,-List.map_take,-Prod.forall,-Prod.exists]
                exact bad (by unfold okR;rw [hnd];simp) _ su
              | true=>
                refine tBr.neg rfl ?_
                simp -dsimp[cxOf,stC,-Bool.exists_bool,-List.map_take,-Prod.forall,-Prod.exists]
                refine ⟨⟨_,SqL.of en5⟩,fun D hD=>cmL (xs.map V.str) (fun i σ H'=>(∃o',σ=[o'])∧H' D=some (.lst ((xs.take i).map fun x=>V.bl (nameB x)))∧Same H5 H') ⟨⟨_,rfl⟩,upd_same,same_upd hD⟩ (fun i σ H' _ h=>SqL.of (h.2.2 _ _ en5)) ?_ ?_⟩
                · rintro i x σ H6 hi ⟨⟨o',rfl⟩,hD6,s6⟩
                  obtain ⟨c,hc,rfl⟩:=str_at hi
                  have hcx:=xsh c (List.mem_of_getElem? hc)
                  have hi2:i<xs.length:=(List.getElem?_eq_some_iff.mp hc).1
                  simp -dsimp[cxOf,stC,-Bool.exists_bool,-List.map_take,-Prod.forall,-Prod.exists]
                  refine ⟨c,rfl,hcx.1,hcx.2,fun H7 s7=>?_⟩
                  refine ⟨_,s7 _ _ hD6,by simp;omega,⟨_,rfl⟩,?_,same_upd2 (s6.trans s7) hD⟩
                  rw [upd_same,take_one hc,List.map_append]
                  rfl
                · rintro σ H6 ⟨⟨o',rfl⟩,hD6,s6⟩
                  rw [List.length_map,List.take_length] at hD6
                  have S6:=su.trans s6
                  simp -dsimp[cxOf,stC,-Bool.exists_bool,-List.map_take,-Prod.forall,-Prod.exists]
                  refine ⟨_,hD6,_,blAll_map nameB _,?_⟩
                  rw [all_map_id]
                  cases hnm:xs.all nameB with
                  | false=>
                    refine tBr.pos rfl ?_
                    simp -dsimp[cxOf,stC,-Bool.exists_bool,-List.map_take,-Prod.forall,-Prod.exists]
                    exact bad (by unfold okR;rw [hnm];simp) _ S6
                  | true=>
                    refine tBr.neg rfl ?_
                    simp -dsimp[cxOf,stC,-Bool.exists_bool,-List.map_take,-Prod.forall,-Prod.exists]
                    have en6:=s6 _ _ en5
                    have el6:=s6 _ _ el5
                    have htv6:=TsAt.keep htv5 fun c zs e=>s6 _ _ e
                    have at6:∀{i:Nat} {v:V},tv[i]? = some v→∃t b,ts[i]? = some t∧v = .ref b∧H6 b=some (.tup (t.map V.str)):=fun {i v} e=>by
                      have hi:i<ts.length:=by rw [← tl];exact (List.getElem?_eq_some_iff.mp e).1
                      obtain ⟨b,h1,h2⟩:=htv6.2 i ts[i] (by simp [hi])
                      rw [e] at h1
                      exact ⟨ts[i],b,by simp [hi],Option.some.inj h1,h2⟩
                    refine ⟨⟨_,SqL.of el6⟩,fun D2 hD2=>cmL tv (fun i σ H'=>(∃o',σ=[o'])∧H' D2=some (.lst ((ts.take i).map fun t=>V.bl (pr2 t)))∧Same H6 H') ⟨⟨_,rfl⟩,upd_same,same_upd hD2⟩ (fun i σ H' _ h=>SqL.of (h.2.2 _ _ el6)) ?_ ?_⟩
                    · rintro i x σ H7 hi ⟨⟨o',rfl⟩,hD7,s7⟩
                      obtain ⟨t3,b3,ht3,rfl,hb3⟩:=at6 hi
                      have hi2:i<ts.length:=(List.getElem?_eq_some_iff.mp ht3).1
                      have hb7:=s7 _ _ hb3
                      have fin:∀c:Bool,c=pr2 t3→H7 D2=some (.lst ((ts.take i).map fun t=>V.bl (pr2 t)))∧((ts.take i).map fun t=>V.bl (pr2 t)).length<sizeLine∧upd H7 D2 (.lst (((ts.take i).map fun t=>V.bl (pr2 t))++[.bl c])) D2=some (.lst ((ts.take (i+1)).map fun t=>V.bl (pr2 t)))∧Same H6 (upd H7 D2 (.lst (((ts.take i).map fun t=>V.bl (pr2 t))++[.bl c]))):=fun c hc=>by
                        refine ⟨hD7,by simp;omega,?_,same_upd2 s7 hD2⟩
                        rw [upd_same,take_one ht3,List.map_append,hc]
                        rfl
                      simp -dsimp[cxOf,stC,-Bool.exists_bool,-List.map_take,-Prod.forall,-Prod.exists]
                      refine ⟨_,.inr (SqT.of hb7),?_⟩
                      rw [List.length_map]
                      rcases t3 with _ | ⟨x1,_ | ⟨x2,_ | ⟨x3,t3⟩⟩⟩
                      · refine tBr.neg (by simp) ?_
                        simp -dsimp[cxOf,stC,-Bool.exists_bool,-List.map_take,-Prod.forall,-Prod.exists]
                        exact ⟨_,fin false rfl⟩
                      · refine tBr.neg (by simp) ?_
                        simp -dsimp[cxOf,stC,-Bool.exists_bool,-List.map_take,-Prod.forall,-Prod.exists]
                        exact ⟨_,fin false rfl⟩
                      · refine tBr.pos (by simp) ?_
                        simp -dsimp[cxOf,stC,-Bool.exists_bool,-List.map_take,-Prod.forall,-Prod.exists]
                        refine ⟨_,.inr (SqT.of hb7),_,atI_nat (j:=0) rfl,_,.inr (SqT.of hb7),_,atI_nat (j:=1) rfl,?_⟩
                        simp -dsimp[cxOf,stC,-Bool.exists_bool,-List.map_take,-Prod.forall,-Prod.exists]
                        exact ⟨!decide (x1=x2),by simp,_,fin _ (by simp [pr2])⟩
                      · refine tBr.neg (by simp;omega) ?_
                        simp -dsimp[cxOf,stC,-Bool.exists_bool,-List.map_take,-Prod.forall,-Prod.exists]
                        exact ⟨_,fin false rfl⟩
                    · rintro σ H7 ⟨⟨o',rfl⟩,hD7,s7⟩
                      rw [tl,List.take_length] at hD7
                      have S7:=S6.trans s7
                      simp -dsimp[cxOf,stC,-Bool.exists_bool,-List.map_take,-Prod.forall,-Prod.exists]
                      refine ⟨_,hD7,_,blAll_map pr2 _,?_⟩
                      rw [all_map_id]
                      cases hp2:ts.all pr2 with
                      | false=>
                        refine tBr.pos rfl ?_
                        simp -dsimp[cxOf,stC,-Bool.exists_bool,-List.map_take,-Prod.forall,-Prod.exists]
                        exact bad (by unfold okR;rw [hp2];simp) _ S7
                      | true=>
                        refine tBr.neg rfl ?_
                        simp -dsimp[cxOf,stC,-Bool.exists_bool,-List.map_take,-Prod.forall,-Prod.exists]
                        have en7:=s7 _ _ en6
                        have el7:=s7 _ _ el6
                        have two:∀{t3:List Str},t3∈ts→∃x1 x2,t3=[x1,x2]:=fun {t3} h=>by
                          have:=List.all_eq_true.mp hp2 _ h
                          rcases t3 with _ | ⟨x1,_ | ⟨x2,_ | ⟨x3,t3⟩⟩⟩
                          ·cases this
                          ·cases this
                          ·exact ⟨_,_,rfl⟩
                          ·cases this
                        refine ⟨⟨_,SqL.of el7⟩,fun D3 hD3=>cmL tv (fun i σ H'=>(∃o',σ=[o',some (.ref n)])∧H' D3=some (.lst ((ts.take i).map fun t=>V.bl (in2 xs t)))∧Same H7 H') ⟨⟨_,rfl⟩,upd_same,same_upd hD3⟩ (fun i σ H' _ h=>SqL.of (h.2.2 _ _ el7)) ?_ ?_⟩
                        · rintro i x σ H8 hi ⟨⟨o',rfl⟩,hD8,s8⟩
                          obtain ⟨t3,b3,ht3,rfl,hb3⟩:=at6 hi
                          have hi2:i<ts.length:=(List.getElem?_eq_some_iff.mp ht3).1
                          have hb8:=s8 _ _ (s7 _ _ hb3)
                          have en8:=s8 _ _ en7
                          obtain ⟨x1,x2,rfl⟩:=two (List.mem_of_getElem? ht3)
                          have fin:∀c:Bool,c=in2 xs [x1,x2]→H8 D3=some (.lst ((ts.take i).map fun t=>V.bl (in2 xs t)))∧((ts.take i).map fun t=>V.bl (in2 xs t)).length<sizeLine∧upd H8 D3 (.lst (((ts.take i).map fun t=>V.bl (in2 xs t))++[.bl c])) D3=some (.lst ((ts.take (i+1)).map fun t=>V.bl (in2 xs t)))∧Same H7 (upd H8 D3 (.lst (((ts.take i).map fun t=>V.bl (in2 xs t))++[.bl c]))):=fun c hc=>by
                            refine ⟨hD8,by simp;omega,?_,same_upd2 s8 hD3⟩
                            rw [upd_same,take_one ht3,List.map_append,hc]
                            rfl
                          simp -dsimp[cxOf,stC,-Bool.exists_bool,-List.map_take,-Prod.forall,-Prod.exists]
                          have flt:∀z∈xs.map V.str,flatV z=true:=fun z hz=>by
                            obtain ⟨y,_,rfl⟩:=List.mem_map.mp hz
                            rfl
                          refine ⟨_,.inr (SqT.of hb8),_,atI_nat (j:=0) rfl,_,.inl (SqL.of en8),rfl,flt,?_⟩
                          rw [inS_iff]
                          have ei:in2 xs [x1,x2]=(decide (x1∈xs) && decide (x2∈xs)):=rfl
                          cases hx1:decide (x1∈xs) with
                          | false=>
                            rw [hx1] at ei
                            obtain ⟨f1,f2,f3,f4⟩:=fin false (by rw [ei];rfl)
                            refine tBr.neg rfl ⟨_,f1,f2,⟨_,rfl⟩,f3,f4⟩
                          | true=>
                            rw [hx1] at ei
                            obtain ⟨f1,f2,f3,f4⟩:=fin (decide (x2∈xs)) (by rw [ei];rfl)
                            refine tBr.pos rfl ?_
                            simp -dsimp[cxOf,stC,-Bool.exists_bool,-List.map_take,-Prod.forall,-Prod.exists]
                            refine ⟨_,.inr (SqT.of hb8),_,atI_nat (j:=1) rfl,_,.inl (SqL.of en8),rfl,flt,?_⟩
                            rw [inS_iff]
                            exact ⟨_,f1,f2,f3,f4⟩
                        · rintro σ H8 ⟨⟨o',rfl⟩,hD8,s8⟩
                          rw [tl,List.take_length] at hD8
                          have S8:=S7.trans s8
                          simp -dsimp[cxOf,stC,-Bool.exists_bool,-List.map_take,-Prod.forall,-Prod.exists]
                          refine ⟨_,hD8,_,blAll_map (in2 xs) _,?_⟩
                          rw [all_map_id]
                          cases hi2:ts.all (in2 xs) with
                          | false=>
                            refine tBr.pos rfl ?_
                            simp -dsimp[cxOf,stC,-Bool.exists_bool,-List.map_take,-Prod.forall,-Prod.exists]
                            exact bad (by unfold okR;rw [hi2];simp) _ S8
                          | true=>
                            refine tBr.neg rfl ?_
                            simp -dsimp[cxOf,stC,-Bool.exists_bool,-List.map_take,-Prod.forall,-Prod.exists]
                            intro t9 ht9
                            have s9:Same H8 (upd H8 t9 (.tup [.ref n,.ref l])):=same_upd ht9
                            have S9:=s8.trans s9
                            refine qy xs (prT ts) ?_ t9 n l tv _ upd_same (S9 _ _ en7) (S9 _ _ el7) (TsAt.tups (TsAt.keep htv6 fun c zs e=>S9 _ _ (s7 _ _ e)) hp2) (S'.trans (S7.trans S9))
                            rw [hRd,if_pos]
                            unfold okR
                            rw [hi2,hp2,hnm,hnd,decide_eq_true h3',decide_eq_true (⟨h1',h2'⟩:1≤xs.length∧xs.length≤9)]
                            rfl
        · have h1':¬1≤xs.length:=by simp at h1;omega
          simp -dsimp[cxOf,stC,-Bool.exists_bool,-List.map_take,-Prod.forall,-Prod.exists]
          exact bad (by unfold okR;simp [h1']) _ (Same.refl _)
      by_cases hm:mk=Str.ofString ""
      · refine ⟨false,by simp [hm],tBr.neg rfl ?_⟩
        simp -dsimp[cxOf,stC,-Bool.exists_bool,-List.map_take,-Prod.forall,-Prod.exists]
        exact tail l [] H3 el (by rw [show tsL mk rr=[] from if_pos hm];exact ⟨rfl,by simp⟩) s3
      · refine ⟨true,by simp [hm],tBr.pos rfl ?_⟩
        simp -dsimp[cxOf,stC,-Bool.exists_bool,-List.map_take,-Prod.forall,-Prod.exists]
        refine ⟨by decide +kernel,by omega,?_⟩
        have e0:tsL mk rr=(Txt.split rr (Str.ofString " ")).map fun p=>Txt.split p (Str.ofString "-"):=if_neg hm
        rw [e0] at tail tfew
        have csh:∀p∈Txt.split rr (Str.ofString " "),p.length≤4000:=fun p hp=>Nat.le_trans (split_short hp) (by omega)
        clear hRd e0
        generalize Txt.split rr (Str.ofString " ")=cs at tail tfew csh ⊢
        rw [List.length_map] at tfew
        intro r hr0
        have s4:Same H3 (upd H3 r (.lst (cs.map V.str))):=same_upd hr0
        have er:upd H3 r (.lst (cs.map V.str)) r=some (.lst (cs.map V.str)):=upd_same
        generalize upd H3 r (.lst (cs.map V.str))=H4 at s4 er ⊢
        refine ⟨⟨_,SqL.of er⟩,fun D hD=>cmL (cs.map V.str) (fun i σ H'=>(∃o',σ=[o'])∧TcAt H' D (cs.take i)∧Same H4 H') ⟨⟨_,rfl⟩,⟨[],upd_same,rfl,by simp⟩,same_upd hD⟩ (fun i σ H' _ h=>SqL.of (h.2.2 _ _ er)) ?_ ?_⟩
        · rintro i x σ H5 hi ⟨⟨o',rfl⟩,⟨tv,hD5,hT5⟩,s5⟩
          obtain ⟨c,hc,rfl⟩:=str_at hi
          have hi2:i<cs.length:=(List.getElem?_eq_some_iff.mp hc).1
          have cl:=csh c (List.mem_of_getElem? hc)
          have tl:=hT5.1
          rw [List.length_map,List.length_take] at tl
          rw [take_one hc]
          simp -dsimp[cxOf,stC,-Bool.exists_bool,-List.map_take,-Prod.forall,-Prod.exists]
          refine ⟨by decide +kernel,by omega,fun p hp=>?_⟩
          have sp:Same H5 (upd H5 p (.lst ((Txt.split c (Str.ofString "-")).map V.str))):=same_upd hp
          have ep:upd H5 p (.lst ((Txt.split c (Str.ofString "-")).map V.str)) p=some (.lst ((Txt.split c (Str.ofString "-")).map V.str)):=upd_same
          generalize upd H5 p (.lst ((Txt.split c (Str.ofString "-")).map V.str))=H6 at sp ep ⊢
          refine ⟨_,.inl ep,fun b H7 hb s7=>?_⟩
          have hD7:=s7 _ _ (sp _ _ hD5)
          have kp:TupKeep H7 (upd H7 D (.lst (tv++[.ref b]))):=fun c zs e=>upd_oth e hD7 (by intro z;cases z)
          refine ⟨_,hD7,by omega,⟨_,upd_same,?_⟩,same_upd2 (s5.trans (sp.trans s7)) hD⟩
          rw [List.map_append]
          exact TsAt.snoc (TsAt.keep (TsAt.keep hT5 fun c zs e=>s7 _ _ (sp _ _ e)) kp) (kp _ _ hb)
        · rintro σ H5 ⟨⟨o',rfl⟩,⟨tv,hD5,hT5⟩,s5⟩
          rw [List.length_map,List.take_length] at hT5
          simp -dsimp[cxOf,stC,-Bool.exists_bool,-List.map_take,-Prod.forall,-Prod.exists]
          exact tail D tv H5 hD5 hT5 (s3.trans (s4.trans s5))
end K14
namespace L2
open PySem PySem.Spec
section
variable {σ:St} {H:Hp} {p:Addr}
variable {φ:PyData→Prop}
end
theorem cut_ix {n j:Nat} {d:Nat}:HT.sIx n d (some (j:Int))=min j n:=by
  simp [HT.sIx]
  intro h
  omega
theorem cut_to {xs:List V} {j:Nat}:cutV xs none (some (j:Int))=xs.take j:=by
  unfold cutV
  rw [cut_ix]
  simp [HT.sIx,List.take_eq_take_iff]
theorem cut_from {xs:List V} {j:Nat}:cutV xs (some (j:Int)) none=xs.drop j:=by
  unfold cutV
  rw [cut_ix]
  simp [HT.sIx]
  rw [List.take_of_length_le (by simp)]
  by_cases h:j≤xs.length
  ·rw [Nat.min_eq_left h]
  ·rw [Nat.min_eq_right (by omega),List.drop_of_length_le (Nat.le_refl _),List.drop_of_length_le (by omega)]
structure Ltr (n:Nat) (x:Str):Prop where
  cp:∀c∈x.cps.toList,c<16 ^ 8
  ln:x.length≤n
theorem cat3 {K:PySem.W.Frag} {H:Hp} {b1 r:Addr} {A R:List V} {v:V} {c:Option Int} {Q:VK} (e1:H b1=some (.lst A)) (er:H r=some (.lst R)) (hl:A.length+1+R.length≤sizeLine)
    (h:∀b H',Same H H'→H b=none→H' b=some (.lst (A++[v]++cutV R c none))→Q (.ref b) H') :
    ∀(p:Addr),H p=none→∃xs,upd H p (.lst [v]) b1=some (.lst xs)∧∃zs,upd H p (.lst [v]) p=some (.lst zs)∧xs.length+zs.length≤sizeLine∧
      ∀p1,upd H p (.lst [v]) p1=none→∃x1,SqL K (upd (upd H p (.lst [v])) p1 (.lst (xs++zs))) r x1∧
        ∀p2,upd (upd H p (.lst [v])) p1 (.lst (xs++zs)) p2=none→∃x2,upd (upd (upd H p (.lst [v])) p1 (.lst (xs++zs))) p2 (.lst (cutV x1 c none)) p1=some (.lst x2)∧
          ∃z1,upd (upd (upd H p (.lst [v])) p1 (.lst (xs++zs))) p2 (.lst (cutV x1 c none)) p2=some (.lst z1)∧x2.length+z1.length≤sizeLine∧
            ∀p3,upd (upd (upd H p (.lst [v])) p1 (.lst (xs++zs))) p2 (.lst (cutV x1 c none)) p3=none→Q (.ref p3) (upd (upd (upd (upd H p (.lst [v])) p1 (.lst (xs++zs))) p2 (.lst (cutV x1 c none))) p3 (.lst (x2++z1))):=by
  intro p hp
  have s1:Same H (upd H p (.lst [v])):=same_upd hp
  have u1:upd H p (.lst [v]) p=some (.lst [v]):=upd_same
  generalize upd H p (.lst [v])=H1 at s1 u1 ⊢
  refine ⟨A,s1 _ _ e1,[v],u1,by simp;omega,fun p1 hp1=>?_⟩
  have s2:Same H1 (upd H1 p1 (.lst (A++[v]))):=same_upd hp1
  have u2:upd H1 p1 (.lst (A++[v])) p1=some (.lst (A++[v])):=upd_same
  generalize upd H1 p1 (.lst (A++[v]))=H2 at s2 u2 ⊢
  refine ⟨R,SqL.of (s2 _ _ (s1 _ _ er)),fun p2 hp2=>?_⟩
  have s3:Same H2 (upd H2 p2 (.lst (cutV R c none))):=same_upd hp2
  have u3:upd H2 p2 (.lst (cutV R c none)) p2=some (.lst (cutV R c none)):=upd_same
  generalize upd H2 p2 (.lst (cutV R c none))=H3 at s3 u3 ⊢
  have:=cutV_length R c none
  refine ⟨_,s3 _ _ u2,_,u3,by simp;omega,fun p3 hp3=>?_⟩
  have S3:=s1.trans (s2.trans s3)
  exact h p3 _ (S3.trans (same_upd hp3)) (fresh_of S3 hp3) upd_same
end L2
namespace K14
open PySem L2
variable {P:Program} {w:World} {K:PySem.W.Frag} {mg:Str→Option Value} {base:Heap} {a:Adr}
theorem sl_mem {x:Str} {l u:Option Int} {e:Nat} (h:e∈(Txt.slice x l u).cps.toList):e∈x.cps.toList:=by
  unfold Txt.slice at h
  split at h
  ·exact h
  · rw [List.mem_filterMap] at h
    obtain ⟨i,_,h⟩:=h
    rw [Array.mem_toList_iff]
    exact Array.mem_of_getElem? h
theorem Pot.keepS {p:Addr} {H H':Hp} (x:Pot H p) (s:Same H H'):Pot H' p:=by
  obtain ⟨u1,u2,u3,u4⟩:=x
  exact ⟨u1,u2,s _ _ u3,u4⟩
theorem Asc.sl {x:Str} {l u:Option Int} (h:Asc x):Asc (Txt.slice x l u):=fun c hc=>h c (sl_mem hc)
def sgs1:Str:=Str.ofString " ;-abzA1,\n\t"
def sgs2:Str:=Str.ofString " !\"#$&'()*+,-./0123456789:;<=>?@ABCDEFGHIJKLMNOPQRSTUVWXYZ[\\]^_`" ++Str.ofString "abcdefghijklmnopqrstuvwxyz{|}~\t\n"
theorem sgs_ok {x:Str} (h:x=sgs1∨x=sgs2):1≤x.length∧x.length≤100∧Asc x:=by
  have d1:1≤sgs1.length∧sgs1.length≤100∧∀c∈sgs1.cps.toList,c<128:=by decide +kernel
  have d2:1≤sgs2.length∧sgs2.length≤100∧∀c∈sgs2.cps.toList,c<128:=by decide +kernel
  rcases h with rfl | rfl
  ·exact d1
  ·exact d2
theorem at_some {α:Type} {l:List α} {k:Int} {n:Nat} (h:l.length=n) (h0:0≤k) (h1:k<n):∃v,v∈l∧atI l k=some v:=by
  obtain ⟨j,rfl⟩:=Int.eq_ofNat_of_zero_le h0
  have hj:j<l.length:=by omega
  exact ⟨l[j],List.getElem_mem hj,atI_nat (by simp [hj])⟩
def sp_sign:Sp:=fun vs H Q _=>∃(p:Addr) (x:Str),vs=[.ref p,.str x]∧Pot H p∧x.length≤1900∧Asc x∧∀(y:Str) (H':Hp),y.length≤2 * x.length+1→Asc y→Pot H' p→But p H H'→Q (.str y) H'
theorem ok_sign (T:Txt K mg a):FnOk P w K mg base CX0 2 a.f_sign a.fd_sign ["_law_pot_here", "_law_text_here"] sp_sign:=by
  refine T.F_sign.okL sc_sign (fun vs H Q E h=>?_) (fun cdv A outer s H vs Q E hr h=>?_)
  · obtain ⟨p,x,rfl,_⟩:=h
    rfl
  · obtain ⟨p,x,rfl,hP,hx,hA,q⟩:=h
    refine ⟨_,(pss_cons (ps_set (i:=2) sc_sign.nd rfl (Or.inl rfl) pe_str)
      (pss_cons (ps_set (i:=2) sc_sign.nd rfl (Or.inl rfl) (pe_ix (fixQk (K:=K) rfl) (pe_lst (pa_cons pe_str (pa_cons (pe_op fop_add_str (fpv 2) pe_str) pa_nil))) (PE.eqv (pe_call (ok_take (K:=K) T) (hr.mono (by decide)) rfl T.m_take T.F_take.kp T.b_take .nil pass0 (pa_cons (fpv 0) (pa_cons pe_int pa_nil))) (fCall_eq _ _ _)) (fun _ _=>rfl)))
      (pss_cons (ps_set (i:=3) sc_sign.nd rfl (Or.inl rfl) (pe_ix fix_str (fpv 2) (PE.eqv (pe_call (ok_take (K:=K) T) (hr.mono (by decide)) rfl T.m_take T.F_take.kp T.b_take .nil pass0 (pa_cons (fpv 0) (pa_cons (pe_callB flenTk rfl T.nm.len PySem.boot_len (pa_cons (fpv 2) pa_nil)) pa_nil))) (fCall_eq _ _ _)) (fun _ _=>rfl)))
      (pss_cons (ps_set (i:=4) sc_sign.nd rfl (Or.inl rfl) (PE.eqv (pe_call (ok_take (K:=K) T) (hr.mono (by decide)) rfl T.m_take T.F_take.kp T.b_take .nil pass0 (pa_cons (fpv 0) (pa_cons (pe_op fop_add (pe_callB flenTk rfl T.nm.len PySem.boot_len (pa_cons (fpv 1) pa_nil)) pe_int) pa_nil))) (fCall_eq _ _ _)))
      (pss_cons (ps_set (i:=5) sc_sign.nd rfl (Or.inl rfl) (PE.eqv (pe_call (ok_take (K:=K) T) (hr.mono (by decide)) rfl T.m_take T.F_take.kp T.b_take .nil pass0 (pa_cons (fpv 0) (pa_cons pe_int pa_nil))) (fCall_eq _ _ _)))
      (pss_cons (ps_if (fpt_cmpR fop_eq (fpv 5) pe_int (nomark _)) (pss_one (ps_ret (pe_op fop_add_str (pe_slice fsl_str (fpv 1) po_none (PO.eqv (po_some (fpv 4)) (fPart_eq _))) (pe_slice fsl_str (fpv 1) (PO.eqv (po_some (pe_op fop_add (fpv 4) pe_int)) (fPart_eq _)) po_none)))) pss_nil)
      (pss_one (ps_ret (pe_op fop_add_str (pe_op fop_add_str (pe_slice fsl_str (fpv 1) po_none (PO.eqv (po_some (fpv 4)) (fPart_eq _))) (fpv 3)) (pe_slice fsl_str (fpv 1) (PO.eqv (po_some (pe_op fop_sub (pe_op fop_add (fpv 4) (fpv 5)) pe_int)) (fPart_eq _)) po_none)))))))))),?_⟩
    have s999:9999≤sizeLine:=by decide
    simp -dsimp[cxOf,stC,-Bool.exists_bool,-List.map_take,-Prod.forall,-Prod.exists]
    refine ⟨by decide +kernel,fun b hb=>?_⟩
    have s1:Same H (upd H b (.lst [.str sgs1,.str sgs2])):=same_upd hb
    have e1:upd H b (.lst [.str sgs1,.str sgs2]) b=some (.lst [.str sgs1,.str sgs2]):=upd_same
    have bp:b≠p:=(hP.ne hb).symm
    have hP1:=hP.keepS s1
    show tSp sp_take _ (upd H b (.lst [.str sgs1,.str sgs2])) _ _ _
    generalize upd H b (.lst [.str sgs1,.str sgs2])=H1 at s1 e1 hP1 ⊢
    refine ⟨p,2,rfl,hP1,by decide,by decide,fun j2 H2 hj0 hj1 hP2 hB2=>?_⟩
    obtain ⟨v,hv,hat⟩:=at_some (l:=[V.str sgs1,V.str sgs2]) rfl hj0 hj1
    obtain ⟨sg,rfl,hsg⟩:∃sg,v = .str sg∧(sg=sgs1∨sg=sgs2):=by
      simp at hv
      rcases hv with rfl | rfl
      ·exact ⟨_,rfl,.inl rfl⟩
      ·exact ⟨_,rfl,.inr rfl⟩
    obtain ⟨g1,g2,g3⟩:=sgs_ok hsg
    simp -dsimp[cxOf,stC,-Bool.exists_bool,-List.map_take,-Prod.forall,-Prod.exists]
    refine ⟨_,.inl (SqL.of (hB2 _ _ bp e1)),_,hat,?_⟩
    simp -dsimp[cxOf,stC,-Bool.exists_bool,-List.map_take,-Prod.forall,-Prod.exists]
    refine ⟨by omega,p,sg.length,rfl,hP2,by omega,by omega,fun j3 H3 hj30 hj31 hP3 hB3=>?_⟩
    obtain ⟨c,hc,hatc⟩:=at_some (l:=sg.cps.toList) (n:=sg.length) (by simp [Str.length]) hj30 hj31
    have Ac:Asc ⟨#[c]⟩:=fun d hd=>by
      simp at hd
      rw [hd]
      exact g3 c hc
    simp -dsimp[cxOf,stC,-Bool.exists_bool,-List.map_take,-Prod.forall,-Prod.exists]
    refine ⟨by omega,c,hatc,by omega,p,x.length+1,rfl,hP3,by omega,by omega,fun j4 H4 hj40 hj41 hP4 hB4=>?_⟩
    simp -dsimp[cxOf,stC,-Bool.exists_bool,-List.map_take,-Prod.forall,-Prod.exists]
    refine ⟨p,3,rfl,hP4,by decide,by decide,fun j5 H5 hj50 hj51 hP5 hB5=>?_⟩
    have B5:But p H H5:=((((But.of s1).trans hB2).trans hB3).trans hB4).trans hB5
    have hsl:∀lo hi,(Txt.slice x lo hi).length≤x.length:=fun lo hi=>Txt.slice_le x lo hi
    simp -dsimp[cxOf,stC,-Bool.exists_bool,-List.map_take,-Prod.forall,-Prod.exists]
    refine tBr.of (fun h=>?_) (fun h=>?_)
    · have l1:=hsl none (some j4)
      have l2:=hsl (some (j4+1)) none
      simp -dsimp[cxOf,stC,-Bool.exists_bool,-List.map_take,-Prod.forall,-Prod.exists]
      refine ⟨by omega,by omega,q _ _ ?_ (hA.sl.app hA.sl) hP5 B5⟩
      rw [len_app]
      omega
    · have l1:=hsl none (some j4)
      have l2:=hsl (some (j4+j5 - 1)) none
      have l3:(⟨#[c]⟩:Str).length=1:=rfl
      simp -dsimp[cxOf,stC,-Bool.exists_bool,-List.map_take,-Prod.forall,-Prod.exists]
      refine ⟨by omega,by rw [l3];omega,by omega,by rw [len_app,l3];omega,q _ _ ?_ ((hA.sl.app Ac).app hA.sl) hP5 B5⟩
      rw [len_app,len_app,l3]
      omega
theorem sum_set {l:List Nat} {i b:Nat} (h:i<l.length):(l.set i b).sum+l[i]=l.sum+b:=by
  induction l generalizing i with
  | nil=>simp at h
  | cons x l ih=>
    cases i with
    | zero=>simp;omega
    | succ i=>
      have:=ih (i:=i) (by simpa using h)
      simp at this ⊢
      omega
theorem swap_sum {α:Type} {f:α→Nat} {l:List α} {i j:Nat} (hi:i<l.length) (hj:j<l.length):(((l.set i l[j]).set j l[i]).map f).sum=(l.map f).sum:=by
  rw [List.map_set,List.map_set]
  have h1:=sum_set (l:=l.map f) (i:=i) (b:=f l[j]) (by simpa using hi)
  have h2:=sum_set (l:=(l.map f).set i (f l[j])) (i:=j) (b:=f l[i]) (by simpa using hj)
  have h3:((l.map f).set i (f l[j]))[j]'(by simpa using hj)=f l[j]:=by
    rw [List.getElem_set]
    split
    ·rfl
    ·simp
  have h4:(l.map f)[i]'(by simpa using hi)=f l[i]:=by simp
  rw [h3] at h2
  rw [h4] at h1
  omega
theorem asc_sp:Asc (Str.ofString " "):=by
  unfold Asc
  decide +kernel
theorem join_asc {y:Str} (hy:Asc y) {l:List Str} (h:∀z∈l,Asc z):Asc (Txt.join y l):=by
  rw [show Txt.join y l=Str.join y l from StrLaws.glued_eq_join _ _]
  induction l with
  | nil=>exact fun c hc=>by simp [Str.join,Str.empty] at hc
  | cons z l ih=>
    cases l with
    | nil=>exact h z (by simp)
    | cons z2 l=>
      rw [join_two]
      exact ((h z (by simp)).app hy).app (ih fun w hw=>h w (List.mem_cons_of_mem _ hw))
def sp_words:Sp:=fun vs H Q _=>∃(p:Addr) (x:Str),vs=[.ref p,.str x]∧Pot H p∧x.length≤1900∧Asc x∧∀(y:Str) (H':Hp),y.length≤2 * x.length+1→Asc y→Pot H' p→But p H H'→Q (.str y) H'
theorem ok_words (T:Txt K mg a):FnOk P w K mg base CX0 2 a.f_words a.fd_words ["_law_pot_here", "_law_text_here"] sp_words:=by
  refine T.F_words.okL sc_words (fun vs H Q E h=>?_) (fun cdv A outer s H vs Q E hr h=>?_)
  · obtain ⟨p,x,rfl,_⟩:=h
    rfl
  · obtain ⟨p,x,rfl,hP,hx,hA,q⟩:=h
    refine ⟨_,(pss_cons (ps_set (i:=2) sc_words.nd rfl (Or.inl rfl) (pe_bmk (K:=K) rfl PySem.F.plainAttrs_str PySem.F.slot_str_split PySem.F.type_str_split fmt_split (fpv 1) (pa_cons pe_str pa_nil)))
      (pss_cons (ps_set (i:=3) sc_words.nd rfl (Or.inl rfl) (PE.eqv (pe_call (ok_take (K:=K) T) (hr.mono (by decide)) rfl T.m_take T.F_take.kp T.b_take .nil pass0 (pa_cons (fpv 0) (pa_cons (pe_callB (flenQk (K:=K) rfl) rfl T.nm.len PySem.boot_len (pa_cons (fpv 2) pa_nil)) pa_nil))) (fCall_eq _ _ _)))
      (pss_cons (ps_set (i:=4) sc_words.nd rfl (Or.inl rfl) (PE.eqv (pe_call (ok_take (K:=K) T) (hr.mono (by decide)) rfl T.m_take T.F_take.kp T.b_take .nil pass0 (pa_cons (fpv 0) (pa_cons (pe_callB (flenQk (K:=K) rfl) rfl T.nm.len PySem.boot_len (pa_cons (fpv 2) pa_nil)) pa_nil))) (fCall_eq _ _ _)))
      (pss_cons (ps_if (fpt_cmpR fop_eq (PE.eqv (pe_call (ok_take (K:=K) T) (hr.mono (by decide)) rfl T.m_take T.F_take.kp T.b_take .nil pass0 (pa_cons (fpv 0) (pa_cons pe_int pa_nil))) (fCall_eq _ _ _)) pe_int (nomark _)) (pss_cons (ps_asg (pe_tup (pa_cons (pe_ix (fixQk (K:=K) rfl) (fpv 2) (fpv 4) (fun _ _=>rfl)) (pa_cons (pe_ix (fixQk (K:=K) rfl) (fpv 2) (fpv 3) (fun _ _=>rfl)) pa_nil))) (PG.eqv (pg_tupk (K:=K) (n:=2) rfl rfl (PGs.eqv (pgs_cons (pg_sub (fpv 2) (fpv 3) fset_list) (PGs.eqv (pgs_cons (pg_sub (fpv 2) (fpv 4) fset_list) (PGs.mono pgs_nil fNil_t)) (fCons_eq _ _))) (fCons_eq _ _))) (fTup_eq _ _ _)))
      (pss_one (ps_ret (pe_bmk (K:=K) rfl PySem.F.plainAttrs_str PySem.F.slot_str_join PySem.F.type_str_join fmt_join pe_str (pa_cons (fpv 2) pa_nil))))) pss_nil)
      (pss_one (ps_ret (pe_bmk (K:=K) rfl PySem.F.plainAttrs_str PySem.F.slot_str_join PySem.F.type_str_join fmt_join pe_str (pa_cons (pe_op fop_cat (pe_op fop_cat (pe_slice (fslLk (K:=K) rfl) (fpv 2) po_none (PO.eqv (po_some (fpv 3)) (fPart_eq _))) (pe_lst (pa_cons (pe_ix (fixQk (K:=K) rfl) (fpv 2) (fpv 4) (fun _ _=>rfl)) pa_nil))) (pe_slice (fslLk (K:=K) rfl) (fpv 2) (PO.eqv (po_some (fpv 3)) (fPart_eq _)) po_none)) pa_nil)))))))),?_⟩
    have s999:9999≤sizeLine:=by decide
    simp -dsimp[cxOf,stC,-Bool.exists_bool,-List.map_take,-Prod.forall,-Prod.exists]
    refine ⟨by decide +kernel,by omega,?_⟩
    have few:=split_few x (Str.ofString " ") (by decide +kernel)
    have hw0:=split_ne x (Str.ofString " ")
    have asc:∀c∈Txt.split x (Str.ofString " "),Asc c:=fun c hc=>hA.part hc
    have hsz:(Txt.join (Str.ofString " ") (Txt.split x (Str.ofString " "))).length=_:=PySem.size_glued (Str.ofString " ") (Txt.split x (Str.ofString " "))
    rw [join_parts] at hsz
    generalize Txt.split x (Str.ofString " ")=ws at few hw0 asc hsz ⊢
    intro b hb
    have s1:Same H (upd H b (.lst (ws.map V.str))):=same_upd hb
    have e1:upd H b (.lst (ws.map V.str)) b=some (.lst (ws.map V.str)):=upd_same
    have bp:b≠p:=(hP.ne hb).symm
    have hP1:=hP.keepS s1
    generalize upd H b (.lst (ws.map V.str))=H1 at s1 e1 hP1 ⊢
    have w1:1≤ws.length:=by
      cases ws with
      | nil=>exact absurd rfl hw0
      | cons _ _=>simp
    refine ⟨_,.inl (SqL.of e1),p,ws.length,by rw [List.length_map],hP1,by omega,by omega,fun j2 H2 hj0 hj1 hP2 hB2=>?_⟩
    have e2:=hB2 _ _ bp e1
    simp -dsimp[cxOf,stC,-Bool.exists_bool,-List.map_take,-Prod.forall,-Prod.exists]
    refine ⟨_,.inl (SqL.of e2),p,ws.length,by rw [List.length_map],hP2,by omega,by omega,fun j3 H3 hj30 hj31 hP3 hB3=>?_⟩
    have e3:=hB3 _ _ bp e2
    simp -dsimp[cxOf,stC,-Bool.exists_bool,-List.map_take,-Prod.forall,-Prod.exists]
    refine ⟨p,2,rfl,hP3,by decide,by decide,fun j4 H4 hj40 hj41 hP4 hB4=>?_⟩
    have e4:=hB4 _ _ bp e3
    have B4:But p H H4:=(((But.of s1).trans hB2).trans hB3).trans hB4
    obtain ⟨n2,rfl⟩:=Int.eq_ofNat_of_zero_le hj0
    obtain ⟨n3,rfl⟩:=Int.eq_ofNat_of_zero_le hj30
    have l2:n2<ws.length:=by omega
    have l3:n3<ws.length:=by omega
    have a2:atI (ws.map V.str) (n2:Int)=some (.str ws[n2]):=atI_nat (by simp [l2])
    have a3:atI (ws.map V.str) (n3:Int)=some (.str ws[n3]):=atI_nat (by simp [l3])
    simp -dsimp[cxOf,stC,-Bool.exists_bool,-List.map_take,-Prod.forall,-Prod.exists]
    refine tBr.of (fun h=>?_) (fun h=>?_)
    · simp -dsimp[cxOf,stC,-Bool.exists_bool,-List.map_take,-Prod.forall,-Prod.exists]
      refine ⟨_,.inl (SqL.of e4),_,a3,_,.inl (SqL.of e4),_,a2,fun t ht=>?_⟩
      have bt:b≠t:=ne_of_none e4 ht
      have tp:t≠p:=(hP4.ne ht).symm
      refine ⟨_,SqT.of upd_same,rfl,?_⟩
      have ix2:ixN (ws.map V.str).length (n2:Int)=some n2:=by
        rw [List.length_map]
        unfold ixN
        simp
        omega
      have ix3:ixN ((ws.map V.str).set n2 (.str ws[n3])).length (n3:Int)=some n3:=by
        rw [List.length_set,List.length_map]
        unfold ixN
        simp
        omega
      simp -dsimp[cxOf,stC,-Bool.exists_bool,-List.map_take,-Prod.forall,-Prod.exists]
      have em:((ws.map V.str).set n2 (.str ws[n3])).set n3 (.str ws[n2])=((ws.set n2 ws[n3]).set n3 ws[n2]).map V.str:=by rw [List.map_set,List.map_set]
      have hp2:=swap_sum (f:=fun z:Str=>z.length) l2 l3
      have hln:((ws.set n2 ws[n3]).set n3 ws[n2]).length=ws.length:=by simp
      have hml:∀z∈(ws.set n2 ws[n3]).set n3 ws[n2],z∈ws:=fun z hz=>by
        rcases List.mem_or_eq_of_mem_set hz with y | y
        · rcases List.mem_or_eq_of_mem_set y with y | y
          ·exact y
          ·rw [y];exact List.getElem_mem l3
        ·rw [y];exact List.getElem_mem l2
      refine ⟨_,by rw [upd_ne bt];exact e4,n2,ix2,_,upd_same,n3,ix3,(ws.set n2 ws[n3]).set n3 ws[n2],by rw [upd_same,em],?_,?_⟩
      · have h32:(Str.ofString " ").length=1:=by decide +kernel
        rw [h32] at hsz ⊢
        rw [hp2,hln]
        omega
      · refine q _ _ ?_ (fun c hc=>?_) (((hP4.upd tp.symm).upd bp.symm).upd bp.symm) (((B4.same (same_upd ht)).new hb).new hb)
        · have h5:(Txt.join (Str.ofString " ") ((ws.set n2 ws[n3]).set n3 ws[n2])).length=_:=PySem.size_glued (Str.ofString " ") ((ws.set n2 ws[n3]).set n3 ws[n2])
          rw [h5,hp2,hln]
          omega
        ·exact join_asc asc_sp (fun z hz=>asc z (hml z hz)) c hc
    · simp -dsimp[cxOf,stC,-Bool.exists_bool,-List.map_take,-Prod.forall,-Prod.exists]
      refine ⟨_,SqL.of e4,fun t ht=>?_⟩
      rw [cut_to]
      have s5:Same H4 (upd H4 t (.lst ((ws.map V.str).take n2))):=same_upd ht
      have e5:upd H4 t (.lst ((ws.map V.str).take n2)) t=some (.lst ((ws.map V.str).take n2)):=upd_same
      generalize upd H4 t (.lst ((ws.map V.str).take n2))=H5 at s5 e5 ⊢
      refine ⟨_,.inl (SqL.of (s5 _ _ e4)),_,a3,?_⟩
      refine cat3 (Q:=fun v H'=>isRef v fun l=>∃ys:List Str,H' l=some (.lst (ys.map V.str))∧(ys.map (fun x=>x.length)).sum+ys.length * (Str.ofString " ").length≤16777216∧Q (.str (Txt.join (Str.ofString " ") ys)) H') e5 (s5 _ _ e4) (by simp;omega) fun b2 H6 s6 hb2 h6=>?_
      rw [cut_from] at h6
      have e6:(ws.map V.str).take n2++[V.str ws[n3]]++(ws.map V.str).drop n2=(ws.take n2++[ws[n3]]++ws.drop n2).map V.str:=by simp
      have hp2:((ws.take n2++[ws[n3]]++ws.drop n2).map fun z:Str=>z.length).sum=(ws.map fun z:Str=>z.length).sum+ws[n3].length:=by
        have h1:(ws.map fun z:Str=>z.length).sum=((ws.take n2).map fun z:Str=>z.length).sum+((ws.drop n2).map fun z:Str=>z.length).sum:=by
          rw [← List.sum_append,← List.map_append,List.take_append_drop]
        rw [h1]
        simp
        omega
      have hln:(ws.take n2++[ws[n3]]++ws.drop n2).length=ws.length+1:=by simp;omega
      have h7:=le_sum (List.mem_map_of_mem (f:=fun z:Str=>z.length) (List.getElem_mem l3))
      have h32:(Str.ofString " ").length=1:=by decide +kernel
      have hml:∀z∈ws.take n2++[ws[n3]]++ws.drop n2,z∈ws:=fun z hz=>by
        rcases List.mem_append.mp hz with y | y
        · rcases List.mem_append.mp y with y | y
          ·exact List.mem_of_mem_take y
          ·rw [List.mem_singleton.mp y];exact List.getElem_mem l3
        ·exact List.mem_of_mem_drop y
      generalize ws.take n2++[ws[n3]]++ws.drop n2=ys at e6 hp2 hln hml
      rw [e6] at h6
      refine ⟨ys,h6,?_,?_⟩
      · rw [h32] at hsz ⊢
        have hp3:(ys.map (·.length)).sum=(ws.map (·.length)).sum+ws[n3].length:=hp2
        have h8:ws[n3].length≤(ws.map (·.length)).sum:=h7
        omega
      · have S6:=s5.trans s6
        refine q _ _ ?_ (fun c hc=>?_) (hP4.keepS S6) (B4.same S6)
        · have h5:(Txt.join (Str.ofString " ") ys).length=_:=PySem.size_glued (Str.ofString " ") ys
          have hp3:(ys.map (·.length)).sum=(ws.map (·.length)).sum+ws[n3].length:=hp2
          have h8:ws[n3].length≤(ws.map (·.length)).sum:=h7
          rw [h32] at hsz h5
          rw [h5]
          omega
        ·exact join_asc asc_sp (fun z hz=>asc z (hml z hz)) c hc
def sp_spoilt:Sp:=fun vs H Q _=>∃(p:Addr) (x:Str),vs=[.ref p,.str x]∧Pot H p∧x.length≤300∧Asc x∧∀(y:Str) (H':Hp),y.length≤4000→Asc y→Pot H' p→But p H H'→Q (.str y) H'
theorem ok_spoilt (T:Txt K mg a):FnOk P w K mg base CX0 3 a.f_spoilt a.fd_spoilt ["_law_pot_here", "_law_text_here"] sp_spoilt:=by
  refine T.F_spoilt.okL sc_spoilt (fun vs H Q E h=>?_) (fun cdv A outer s H vs Q E hr h=>?_)
  · obtain ⟨p,x,rfl,_⟩:=h
    rfl
  · obtain ⟨p,x,rfl,hP,hx,hA,q⟩:=h
    refine ⟨_,(@PSsq.out _ _ _ (pssq_cons (PSq.mk (ps_set (i:=2) sc_spoilt.nd rfl (Or.inl rfl) (PE.eqv (pe_call (ok_take (K:=K) T) (hr.mono (by decide)) rfl T.m_take T.F_take.kp T.b_take .nil pass0 (pa_cons (fpv 0) (pa_cons pe_int pa_nil))) (fCall_eq _ _ _))))
      (pssq_cons (psq_if (fpt_cmpR fop_eq (fpv 2) pe_int (nomark _)) (pssq_cons (psq_set (i:=3) sc_spoilt.nd rfl (Or.inl rfl) (peq_lst (paq_cons (pe_op fop_add_str (fpv 1) pe_str) (paq_cons (pe_op fop_add_str (fpv 1) pe_str) (paq_cons (pe_op fop_add_str pe_str (fpv 1)) (paq_cons (pe_op fop_add_str (fpv 1) pe_str) (paq_cons (pe_op fop_add_str (fpv 1) (fpv 1)) (paq_cons (pe_op fop_add_str pe_str (fpv 1)) paq_nil))))))))
      (PSsq.mk (pss_one (ps_ret (pe_ix (fixQk (K:=K) rfl) (fpv 3) (PE.eqv (pe_call (ok_take (K:=K) T) (hr.mono (by decide)) rfl T.m_take T.F_take.kp T.b_take .nil pass0 (pa_cons (fpv 0) (pa_cons pe_int pa_nil))) (fCall_eq _ _ _)) (fun _ _=>rfl)))))) (PSsq.mk pss_nil))
      (PSsq.mk (pss_cons (ps_if (fpt_cmpR fop_eq (fpv 2) pe_int (nomark _)) (pss_one (ps_ret (PE.eqv (pe_call (ok_words (K:=K) T) (hr.mono (by decide)) rfl T.m_words T.F_words.kp T.b_words .nil pass0 (pa_cons (fpv 0) (pa_cons (fpv 1) pa_nil))) (fCall_eq _ _ _)))) pss_nil)
      (pss_cons (ps_for PassesOwn.never rfl (PI.eqv (pi_range1 rfl T.nm.range (pa_cons (pe_op fop_add pe_int (PE.eqv (pe_call (ok_take (K:=K) T) (hr.mono (by decide)) rfl T.m_take T.F_take.kp T.b_take .nil pass0 (pa_cons (fpv 0) (pa_cons pe_int pa_nil))) (fCall_eq _ _ _))) pa_nil)) (fiRng1_eq _)) (pg_name (i:=4) sc_spoilt.nd rfl (Or.inl rfl))
      (pss_one (ps_set (i:=1) sc_spoilt.nd rfl (Or.inl rfl) (PE.eqv (pe_call (ok_sign (K:=K) T) (hr.mono (by decide)) rfl T.m_sign T.F_sign.kp T.b_sign .nil pass0 (pa_cons (fpv 0) (pa_cons (fpv 1) pa_nil))) (fCall_eq _ _ _)))))
      (pss_one (ps_ret (fpv 1))))))))),?_⟩
    have s999:9999≤sizeLine:=by decide
    simp -dsimp[cxOf,stC,-Bool.exists_bool,-List.map_take,-Prod.forall,-Prod.exists]
    refine ⟨p,5,rfl,hP,by decide,by decide,fun j1 H1 hj0 hj1 hP1 hB1=>?_⟩
    simp -dsimp[cxOf,stC,-Bool.exists_bool,-List.map_take,-Prod.forall,-Prod.exists]
    refine tBr.of (fun h=>?_) (fun h=>?_)
    · simp -dsimp[cxOf,stC,-Bool.exists_bool,-List.map_take,-Prod.forall,-Prod.exists]
      have c1:(Str.ofString ";").length=1∧(Str.ofString " ").length=1∧(Str.ofString "; ").length=2:=by decide +kernel
      have a1:Asc (Str.ofString ";"):=by unfold Asc;decide +kernel
      have a2:Asc (Str.ofString "; "):=by unfold Asc;decide +kernel
      refine ⟨by omega,by omega,by omega,by omega,by omega,by omega,?_⟩
      obtain ⟨ls,hls⟩:∃ls:List Str,ls=[x++Str.ofString ";",x++Str.ofString " ",Str.ofString " " ++x,x++Str.ofString "; ",x++x,Str.ofString "; " ++x]:=⟨_,rfl⟩
      have el : [V.str (x++Str.ofString ";"),V.str (x++Str.ofString " "),V.str (Str.ofString " " ++x),V.str (x++Str.ofString "; "),V.str (x++x),V.str (Str.ofString "; " ++x)]=ls.map V.str:=by rw [hls];rfl
      have ok:∀z∈ls,z.length≤4000∧Asc z:=fun z hz=>by
        rw [hls] at hz
        simp only [List.mem_cons,List.not_mem_nil,or_false] at hz
        rcases hz with rfl | rfl | rfl | rfl | rfl | rfl
        ·exact ⟨by rw [len_app];omega,hA.app a1⟩
        ·exact ⟨by rw [len_app];omega,hA.app asc_sp⟩
        ·exact ⟨by rw [len_app];omega,asc_sp.app hA⟩
        ·exact ⟨by rw [len_app];omega,hA.app a2⟩
        ·exact ⟨by rw [len_app];omega,hA.app hA⟩
        ·exact ⟨by rw [len_app];omega,a2.app hA⟩
      have l6:ls.length=6:=by rw [hls];rfl
      rw [el]
      clear el hls
      intro b hb
      have s2:Same H1 (upd H1 b (.lst (ls.map V.str))):=same_upd hb
      have e2:upd H1 b (.lst (ls.map V.str)) b=some (.lst (ls.map V.str)):=upd_same
      have bp:b≠p:=(hP1.ne hb).symm
      have hP2:=hP1.keepS s2
      generalize upd H1 b (.lst (ls.map V.str))=H2 at s2 e2 hP2 ⊢
      refine ⟨p,6,rfl,hP2,by decide,by decide,fun j3 H3 hj30 hj31 hP3 hB3=>?_⟩
      obtain ⟨v,hv,hat⟩:=at_some (l:=ls.map V.str) (n:=6) (by rw [List.length_map,l6]) hj30 hj31
      obtain ⟨z,hz,rfl⟩:=List.mem_map.mp hv
      simp -dsimp[cxOf,stC,-Bool.exists_bool,-List.map_take,-Prod.forall,-Prod.exists]
      refine ⟨_,.inl (SqL.of (hB3 _ _ bp e2)),_,hat,?_⟩
      exact q z H3 (ok z hz).1 (ok z hz).2 hP3 ((hB1.same s2).trans hB3)
    · simp -dsimp[cxOf,stC,-Bool.exists_bool,-List.map_take,-Prod.forall,-Prod.exists]
      refine tBr.of (fun h2=>?_) (fun h2=>?_)
      · simp -dsimp[cxOf,stC,-Bool.exists_bool,-List.map_take,-Prod.forall,-Prod.exists]
        refine ⟨p,x,rfl,hP1,by omega,hA,fun y H2 hy hAy hP2 hB2=>?_⟩
        simp -dsimp[cxOf,stC,-Bool.exists_bool,-List.map_take,-Prod.forall,-Prod.exists]
        exact q y H2 (by omega) hAy hP2 (hB1.trans hB2)
      · simp -dsimp[cxOf,stC,-Bool.exists_bool,-List.map_take,-Prod.forall,-Prod.exists]
        refine ⟨p,3,rfl,hP1,by decide,by decide,fun j2 H2 hj20 hj21 hP2 hB2=>?_⟩
        obtain ⟨n,rfl⟩:=Int.eq_ofNat_of_zero_le hj20
        simp -dsimp[cxOf,stC,-Bool.exists_bool,-List.map_take,-Prod.forall,-Prod.exists]
        refine ⟨by omega,by omega,frR (fun i σ H'=>(∃y o3 o4,σ=[some (.ref p),some (.str y),some (.int j1),o3,o4]∧y.length+1≤301 * 2 ^ i∧Asc y)∧i≤3∧Pot H' p∧But p H H') ⟨⟨x,_,_,rfl,by omega,hA⟩,by omega,hP2,hB1.trans hB2⟩ ?_ ?_⟩
        · rintro i σ H3 hi ⟨⟨y,o3,o4,rfl,hy,hAy⟩,hi3,hP3,hB3⟩
          have hi2:i≤2:=by omega
          have hp:2 ^ i≤4:=Nat.le_trans (Nat.pow_le_pow_right (by decide) hi2) (by decide)
          have hp1:2 ^ (i+1)=2 * 2 ^ i:=by rw [Nat.pow_succ];omega
          simp -dsimp[cxOf,stC,-Bool.exists_bool,-List.map_take,-Prod.forall,-Prod.exists]
          refine ⟨p,y,rfl,hP3,by omega,hAy,fun z H4 hz hAz hP4 hB4=>?_⟩
          simp -dsimp[cxOf,stC,-Bool.exists_bool,-List.map_take,-Prod.forall,-Prod.exists]
          exact ⟨⟨by omega,hAz⟩,hi2,hP4,hB3.trans hB4⟩
        · rintro σ H3 ⟨⟨y,o3,o4,rfl,hy,hAy⟩,hi3,hP3,hB3⟩
          have hp:2 ^ (1+(n:Int)).toNat≤8:=Nat.le_trans (Nat.pow_le_pow_right (by decide) hi3) (by decide)
          simp -dsimp[cxOf,stC,-Bool.exists_bool,-List.map_take,-Prod.forall,-Prod.exists]
          exact q y H3 (by omega) hAy hP3 hB3
def TxOk (d:PyData):Prop:=∀z,d = .str z→z.length≤4000∧Asc z
def sp_right:Sp:=fun vs H Q _=>∃(d:PyData) (v:V),vs=[v]∧ThgX H d v∧TxOk d∧∀H',Same H H'→Q (.bl true) H'
theorem ok_right (T:Txt K mg a):FnOk P w K mg base CX0 7 a.f_right a.fd_right ["_law_thing"] sp_right:=by
  refine T.F_right.okL sc_right (fun vs H Q E h=>?_) (fun cdv A outer s H vs Q E hr h=>?_)
  · obtain ⟨d,v,rfl,_⟩:=h
    rfl
  · obtain ⟨d,v,rfl,hd,hok,q⟩:=h
    refine ⟨_,(pss_cons (ps_set (i:=1) sc_right.nd rfl (Or.inl rfl) (PE.eqv (pe_call (ok_reading (K:=K) T) (hr.mono (by decide)) rfl T.m_reading T.F_reading.kp T.b_reading .nil pass0 (pa_cons (fpv 0) pa_nil)) (fCall_eq _ _ _)))
      (pss_cons (ps_set (i:=2) sc_right.nd rfl (Or.inl rfl) (pe_lst pa_nil))
      (pss_cons (ps_set (i:=3) sc_right.nd rfl (Or.inl rfl) pe_non)
      (pss_cons (ps_tryC (i:=4) rfl rfl rfl sc_right.nd rfl rfl (fun R pn xe hx hxc=>(pss_one (ps_set (i:=3) sc_right.nd rfl (Or.inl rfl) (pe_callSC hx hxc rfl (ok_read_web (K:=K) T) (hr.mono (by decide)) rfl T.m_read_web T.F_read_web.kp T.b_read_web (pa_cons (fpv 0) pa_nil))))) rfl T.m_PointError T.x_PointError (fun e=>(pss_one (ps_set (i:=2) sc_right.nd rfl (Or.inl rfl) (pe_callH (ok_classes (K:=K) T) (hr.mono (by decide)) rfl T.m_classes T.F_classes.kp T.b_classes (pa_cons (fpv 4) pa_nil))))))
      (pss_cons (ps_if (fpt_cmpR op_isN (fpv 1) pe_non (nomark _)) (pss_one (ps_ret (pe_cmpR (fopEqD (K:=K) rfl hr.units) (fpv 2) (pe_lst (pa_cons pe_str pa_nil)) (nomark _)))) pss_nil)
      (pss_one (ps_ret (fpe_and (pe_cmpR (fopEqD (K:=K) rfl hr.units) (fpv 2) (pe_lst pa_nil) (nomark _)) (pe_one (pe_cmpR (fopEqD (K:=K) rfl hr.units) (pe_tup (pa_cons (PE.eqv (pe_meth0 (fpv 3) T.c_Web T.M_Web_points (ok_Web_points (K:=K) T) (hr.mono (by decide)) T.b_Web_points .nil pass0) (fMeth_eq _ _ _ _ _ _)) (pa_cons (PE.eqv (pe_meth0 (fpv 3) T.c_Web T.M_Web_ties (ok_Web_ties (K:=K) T) (hr.mono (by decide)) T.b_Web_ties .nil pass0) (fMeth_eq _ _ _ _ _ _)) pa_nil))) (fpv 1) (nomark _))))))))))),?_⟩
    have s999:9999≤sizeLine:=by decide
    have lay1:PyData.canLay0 (.list [.str (Str.ofString "text")])=true:=by decide +kernel
    have lay0:PyData.canLay0 (.list [])=true:=by decide +kernel
    simp -dsimp[cxOf,stC,-Bool.exists_bool,-List.map_take,-Prod.forall,-Prod.exists]
    refine ⟨d,v,rfl,hd,hok,fun h0 H1 s1=>?_,fun xs ps h0 t n l tv H1 ht hn hl htv s1=>?_⟩
    · simp -dsimp[cxOf,stC,-Bool.exists_bool,-List.map_take,-Prod.forall,-Prod.exists]
      intro b hb
      have s2:Same H1 (upd H1 b (.lst [])):=same_upd hb
      generalize upd H1 b (.lst [])=H2 at s2 ⊢
      have S2:=s1.trans s2
      refine ⟨d,v,rfl,ThgX.same S2 _ _ hd,fun z e=>(hok z e).1,fun xs ps h=>?_,fun _ H3 s3=>⟨_,rfl,⟨ExcOb.of T.x_NoText,T.p_NoText_PointError.1,T.p_NoText_PointError.2⟩,fun ea H4 hea s4 cau=>?_⟩⟩
      · rw [h0] at h
        cases h
      · simp -dsimp[cxOf,stC,-Bool.exists_bool,-List.map_take,-Prod.forall,-Prod.exists]
        refine ⟨rfl,⟨_,cau⟩,fun l H5 hl el s5=>?_⟩
        simp -dsimp[cxOf,stC,-Bool.exists_bool,-List.map_take,-Prod.forall,-Prod.exists]
        intro p hp
        have s6:Same H5 (upd H5 p (.lst [.str (Str.ofString "text")])):=same_upd hp
        have e6:upd H5 p (.lst [.str (Str.ofString "text")]) p=some (.lst [.str (Str.ofString "text")]):=upd_same
        generalize upd H5 p (.lst [.str (Str.ofString "text")])=H6 at s6 e6 ⊢
        refine ⟨.list (dStrs [Str.ofString "text"]),⟨l,_,rfl,SqL.of (s6 _ _ el),is_strs [Str.ofString "text"]⟩,.list (dStrs [Str.ofString "text"]),⟨p,_,rfl,SqL.of e6,is_strs [Str.ofString "text"]⟩,lay1,lay1,by decide +kernel,?_⟩
        rw [show PyData.eqv (.list (dStrs [Str.ofString "text"])) (.list (dStrs [Str.ofString "text"]))=true by decide +kernel]
        exact q _ ((((S2.trans s3).trans s4).trans s5).trans s6)
    · simp -dsimp[cxOf,stC,-Bool.exists_bool,-List.map_take,-Prod.forall,-Prod.exists]
      intro b hb
      have s2:Same H1 (upd H1 b (.lst [])):=same_upd hb
      have eb:upd H1 b (.lst []) b=some (.lst []):=upd_same
      generalize upd H1 b (.lst [])=H2 at s2 eb ⊢
      have S2:=s1.trans s2
      refine ⟨d,v,rfl,ThgX.same S2 _ _ hd,fun z e=>(hok z e).1,fun xs' ps' h hX hTs o H3 ho hW3 s3=>?_,fun h=>?_⟩
      · rw [h0] at h
        cases h
        simp -dsimp[cxOf,stC,-Bool.exists_bool,-List.map_take,-Prod.forall,-Prod.exists]
        intro p hp
        have s4:Same H3 (upd H3 p (.lst [])):=same_upd hp
        have e4:upd H3 p (.lst []) p=some (.lst []):=upd_same
        generalize upd H3 p (.lst [])=H4 at s4 e4 ⊢
        refine ⟨.list [],⟨b,_,rfl,SqL.of (s4 _ _ (s3 _ _ eb)),rfl⟩,.list [],⟨p,_,rfl,SqL.of e4,rfl⟩,lay0,lay0,by decide +kernel,?_⟩
        refine tBr.pos (by decide +kernel) ?_
        have hW4:=hW3.same s4
        obtain ⟨dx,fs,hi,hno⟩:=hW4.ins no_points.1 no_points.2
        simp -dsimp[cxOf,stC,-Bool.exists_bool,-List.map_take,-Prod.forall,-Prod.exists]
        refine ⟨_,_,hi,hno,o,xs,ps,rfl,hW4,fun l5 hl5=>?_⟩
        have s5:Same H4 (upd H4 l5 (.lst (xs.map V.str))):=same_upd hl5
        have e5:upd H4 l5 (.lst (xs.map V.str)) l5=some (.lst (xs.map V.str)):=upd_same
        generalize upd H4 l5 (.lst (xs.map V.str))=H5 at s5 e5 ⊢
        obtain ⟨dx,fs,hi,hno⟩:=(hW4.same s5).ins no_ties.1 no_ties.2
        simp -dsimp[cxOf,stC,-Bool.exists_bool,-List.map_take,-Prod.forall,-Prod.exists]
        refine ⟨_,_,hi,hno,o,xs,ps,rfl,hW4.same s5,fun l6 tv6 hl6 htv6=>?_⟩
        have s6:Same H5 (upd H5 l6 (.lst tv6)):=same_upd hl6
        have e6:upd H5 l6 (.lst tv6) l6=some (.lst tv6):=upd_same
        have htv6':=TupsAt.same htv6 s6
        generalize upd H5 l6 (.lst tv6)=H6 at s6 e6 htv6' ⊢
        simp -dsimp[cxOf,stC,-Bool.exists_bool,-List.map_take,-Prod.forall,-Prod.exists]
        intro t7 ht7
        have s7:Same H6 (upd H6 t7 (.tup [.ref l5,.ref l6])):=same_upd ht7
        have e7:upd H6 t7 (.tup [.ref l5,.ref l6]) t7=some (.tup [.ref l5,.ref l6]):=upd_same
        generalize upd H6 t7 (.tup [.ref l5,.ref l6])=H7 at s7 e7 ⊢
        have S7:Same H1 H7:=(((((s2.trans s3).trans s4).trans s5).trans s6).trans s7)
        have hN:=hTs.nm hX
        have okp:∀e∈ps,PyData.strOk e.1=true∧PyData.strOk e.2=true:=fun e he=>⟨name_ok (hN e he).1,name_ok (hN e he).2⟩
        have lay:PyData.canLay0 (.tuple [.list (dStrs xs),.list (dPairs ps)])=true:=by
          simp [PyData.canLay0,PyData.canLayAll0,lay_pairs ps okp,lay_strs xs fun x hx=>name_ok (hX.nm x hx)]
        refine ⟨.tuple [.list (dStrs xs),.list (dPairs ps)],⟨t7,_,rfl,SqT.of e7,_,_,rfl,⟨l5,_,rfl,SqL.of (s7 _ _ (s6 _ _ e5)),is_strs xs⟩,_,_,rfl,⟨l6,_,rfl,SqL.of (s7 _ _ e6),is_tups (TupsAt.same htv6' s7)⟩,rfl⟩,.tuple [.list (dStrs xs),.list (dPairs ps)],⟨t,_,rfl,SqT.of (S7 _ _ ht),_,_,rfl,⟨n,_,rfl,SqL.of (S7 _ _ hn),is_strs xs⟩,_,_,rfl,⟨l,_,rfl,SqL.of (S7 _ _ hl),is_tups (TupsAt.same htv S7)⟩,rfl⟩,lay,lay,?_,?_⟩
        · have d1:=dep_strs xs
          have d2:=dep_pairs ps
          simp [PyData.depth,PyData.depthAll]
          omega
        · rw [show PyData.eqv (.tuple [.list (dStrs xs),.list (dPairs ps)]) (.tuple [.list (dStrs xs),.list (dPairs ps)])=true by simp [PyData.eqv,PyData.eqvAll,eqv_strs,eqv_pairs]]
          exact q _ (s1.trans S7)
      · rw [h0] at h
        cases h
def V0 (ψ:Hp→V→Prop) (t:TE) (σ:St) (H:Hp):Prop:=∀(H1:Hp) (Q:VK),Same H H1→(∀v H2,Same H1 H2→ψ H2 v→Q v H2)→t σ H1 Q
def V0s (ψ:Hp→V→Prop) (n:Nat) (t:TA) (σ:St) (H:Hp):Prop:=∀(H1:Hp) (Q:List V→Hp→Prop),Same H H1→(∀vs H2,Same H1 H2→vs.length=n→(∀v∈vs,ψ H2 v)→Q vs H2)→t σ H1 Q
def Tx (H:Hp) (v:V):Prop:=∃d,ThgX H d v∧TxOk d
theorem Tx.same {H H':Hp} {v:V} (h:Tx H v) (s:Same H H'):Tx H' v:=by
  obtain ⟨d,h1,h2⟩:=h
  exact ⟨d,ThgX.same s _ _ h1,h2⟩
theorem tx_nil {σ:St} {H:Hp}:V0s Tx 0 tNil σ H:=fun H1 Q _ q=>q [] H1 (Same.refl _) rfl fun v hv=>absurd hv (by simp)
theorem tx_cons {σ:St} {H:Hp} {ta:TE} {tr:TA} {n:Nat} (h1:V0 Tx ta σ H) (h2:V0s Tx n tr σ H):V0s Tx (n+1) (tCons ta tr) σ H:=fun H1 Q s q=>
  h1 H1 _ s fun v H2 s2 hv=>h2 H2 _ (s.trans s2) fun vs H3 s3 hl hvs=>q _ H3 (s2.trans s3) (by simp [hl]) fun u hu=>by
    rcases List.mem_cons.mp hu with rfl | hu
    ·exact hv.same s3
    ·exact hvs u hu
theorem tx_c {σ:St} {H:Hp} {v:V} (h:∀H,Tx H v):V0 Tx (tC v) σ H:=fun H1 Q s q=>q _ H1 (Same.refl _) (h _)
theorem tx_s {σ:St} {H:Hp} {x:Str} (h1:x.length≤4000:=by decide +kernel) (h2:x.cps.toList.all (fun c=>decide (c<128))=true:=by decide +kernel):V0 Tx (tC (.str x)) σ H:=tx_c fun H=>⟨.str x,by simp [ThgX],fun z e=>by
  cases e
  exact ⟨h1,fun c hc=>of_decide_eq_true (List.all_eq_true.mp h2 c hc)⟩⟩
theorem no_str {d:PyData} (h:strD d=false):TxOk d:=fun z e=>by
  subst e
  cases h
theorem tx_big {σ:St} {H:Hp} {t:TA} {n:Nat} (h:V0s Tx n t σ H) (hl:n≤sizeLine) {Q:VK} (q:∀b vs H2,Same H H2→vs.length=n→H2 b=some (.lst vs)→(∀v∈vs,Tx H2 v)→Q (.ref b) H2):big (tLst t) σ H Q:=
  ⟨h H _ (Same.refl _) fun vs H2 s2 hn hv=>⟨by rw [hn];exact hl,fun b hb=>q b vs _ (s2.trans (same_upd hb)) hn upd_same fun v h=>(hv v h).same (same_upd hb)⟩⟩
def D0 (d:PyData) (t:TE) (σ:St) (H:Hp):Prop:=∀(H1:Hp) (Q:VK),Same H H1→(∀v H2,Same H1 H2→ThgX H2 d v→Q v H2)→t σ H1 Q
def D0s (ds:List PyData) (t:TA) (σ:St) (H:Hp):Prop:=∀(H1:Hp) (Q:List V→Hp→Prop),Same H H1→(∀vs H2,Same H1 H2→ThgXAll H2 ds vs→Q vs H2)→t σ H1 Q
theorem d0_nil {σ:St} {H:Hp}:D0s [] tNil σ H:=fun H1 Q _ q=>q [] H1 (Same.refl _) (by simp [ThgXAll])
theorem d0_cons {σ:St} {H:Hp} {ta:TE} {tr:TA} {d:PyData} {ds:List PyData} (h1:D0 d ta σ H) (h2:D0s ds tr σ H):D0s (d::ds) (tCons ta tr) σ H:=fun H1 Q s q=>
  h1 H1 _ s fun v H2 s2 hv=>h2 H2 _ (s.trans s2) fun vs H3 s3 hvs=>q _ H3 (s2.trans s3) (by simp only [ThgXAll];exact ⟨v,vs,rfl,ThgX.same s3 d v hv,hvs⟩)
theorem d0_s {σ:St} {H:Hp} {x:Str}:D0 (.str x) (tC (.str x)) σ H:=fun H1 Q _ q=>q _ H1 (Same.refl _) (by simp [ThgX])
theorem d0_lst {σ:St} {H:Hp} {t:TA} {ds:List PyData} (h:D0s ds t σ H) (hl:ds.length≤sizeLine):D0 (.list ds) (tLst t) σ H:=fun H1 Q s q=>
  h H1 _ s fun vs H2 s2 hv=>⟨by rw [← hv.length];exact hl,fun b hb=>q _ _ (s2.trans (same_upd hb)) (by simp only [ThgX];exact ⟨b,vs,rfl,upd_same,ThgXAll.same (same_upd hb) ds vs hv⟩)⟩
theorem d0_tup {σ:St} {H:Hp} {t:TA} {ds:List PyData} (h:D0s ds t σ H) (hl:ds.length≤sizeLine):D0 (.tuple ds) (tTup t) σ H:=fun H1 Q s q=>
  h H1 _ s fun vs H2 s2 hv=>⟨by rw [← hv.length];exact hl,fun b hb=>q _ _ (s2.trans (same_upd hb)) (by simp only [ThgX];exact ⟨b,vs,rfl,upd_same,ThgXAll.same (same_upd hb) ds vs hv⟩)⟩
theorem d0_emp {σ:St} {H:Hp}:D0 (.dict []) tDNewK σ H:=fun H1 Q s q b hb=>q _ _ (same_upd hb) (by simp only [ThgX];exact ⟨b,rfl,.inl ⟨[],.nil,upd_same⟩⟩)
theorem tx_d {σ:St} {H:Hp} {t:TE} {d:PyData} (h:D0 d t σ H) (hs:strD d=false):V0 Tx t σ H:=fun H1 Q s q=>h H1 Q s fun v H2 s2 hv=>q v H2 s2 ⟨d,hv,no_str hs⟩
theorem web_len {xs:List Str} {ps:List (Str×Str)} (hX:Pts xs) (hTs:Ties xs ps):(webText xs ps).length≤300∧Asc (webText xs ps):=by
  have hN:=hTs.nm hX
  have l9:=hX.len
  have h20:=hTs.len
  have na:∀{x:Str},nameB x=true→Asc x:=fun {x} h c hc=>by
    unfold nameB at h
    simp only [Bool.and_eq_true] at h
    exact isL_lt (List.all_eq_true.mp h.2 c hc)
  have ad:Asc dash:=by unfold Asc;decide +kernel
  have asm:Asc semi:=by unfold Asc;decide +kernel
  have hj:=join_len (n:=4) (ys:=xs) fun x hx=>name_len (hX.nm x hx)
  have hj2:=join_len (n:=9) (ys:=ps.map tieText) fun y hy=>by
    obtain ⟨d,hd,rfl⟩:=List.mem_map.mp hy
    exact tie_len (hN d hd)
  rw [List.length_map] at hj2
  have hse:semi.length=2:=by decide +kernel
  have a1:Asc (Txt.join sp32 xs):=join_asc asc_sp fun x hx=>na (hX.nm x hx)
  have a2:Asc (Txt.join sp32 (ps.map tieText)):=join_asc asc_sp fun y hy=>by
    obtain ⟨d,hd,rfl⟩:=List.mem_map.mp hy
    exact ((na (hN d hd).1).app ad).app (na (hN d hd).2)
  unfold webText
  split
  ·exact ⟨by omega,a1⟩
  ·exact ⟨by rw [len_app,len_app];omega,(a1.app asm).app a2⟩
def SpAt (H:Hp) (D:Addr) (i:Nat):Prop:=∃ys:List Str,H D=some (.lst (ys.map V.str))∧(∀y∈ys,y.length≤4000∧Asc y)∧ys.length=i
def sp_law (K:PySem.W.Frag):Sp:=fun vs H Q _=>∃(l:Addr) (ns:List Int),vs=[.ref l]∧SqL K H l (ns.map V.int)∧ns.length≤63∧∀H',Q (.bl true) H'
theorem ok_law (T:Txt K mg a):FnOk P w K mg base CX0 9 a.f_law a.fd_law ["_law_script"] (sp_law K):=by
  refine T.F_law.okL sc_law (fun vs H Q E h=>?_) (fun cdv A outer s H vs Q E hr h=>?_)
  · obtain ⟨l,ns,rfl,_⟩:=h
    rfl
  · obtain ⟨sl,ns0,rfl,hS,hlen0,q⟩:=h
    refine ⟨_,(@PSsq.out _ _ _ (pssq_cons (psq_set (i:=1) sc_law.nd rfl (Or.inl rfl) (peq_big (peq_lst (paq_cons pe_str (paq_cons pe_str (paq_cons pe_str (paq_cons pe_str (paq_cons pe_str (paq_cons pe_str (paq_cons pe_str (paq_cons pe_str (paq_cons pe_str (paq_cons pe_str (paq_cons pe_str paq_nil))))))))))))))
      (pssq_cons (psq_set (i:=1) sc_law.nd rfl (Or.inl rfl) (peq_op fop_cat (PEq.mk (fpv 1)) (peq_big (peq_lst (paq_cons pe_str (paq_cons pe_str (paq_cons pe_str (paq_cons pe_str (paq_cons pe_str (paq_cons pe_str (paq_cons pe_str (paq_cons pe_str paq_nil))))))))))))
      (pssq_cons (PSq.mk (ps_set (i:=1) sc_law.nd rfl (Or.inl rfl) (pe_op fop_cat (fpv 1) (pe_big (pe_lst (pa_cons pe_str (pa_cons pe_str (pa_cons pe_str (pa_cons pe_str pa_nil)))))))))
      (pssq_cons (PSq.mk (ps_for PassesOwn.never rfl (PI.eqv (pi_range1 rfl T.nm.range (pa_cons (pe_callB (fcall_max2 rfl) rfl T.nm.max boot_max (pa_cons pe_int (pa_cons (pe_callB (fcall_min2 rfl) rfl T.nm.min boot_min (pa_cons (pe_callB (flenQk (K:=K) rfl) rfl T.nm.len PySem.boot_len (pa_cons (fpv 0) pa_nil)) (pa_cons pe_int pa_nil))) pa_nil))) pa_nil)) (fiRng1_eq _)) (pg_name (i:=2) sc_law.nd rfl (Or.inl rfl))
      (pss_cons (ps_set (i:=3) sc_law.nd rfl (Or.inr rfl) (PE.eqv (pe_call (ok_pot (K:=K) T) (hr.mono (by decide)) rfl T.m_pot T.F_pot.kp T.b_pot .nil pass0 (pa_cons (fpv 0) (pa_cons (fpv 2) pa_nil))) (fCall_eq _ _ _)))
      (pss_cons (ps_set (i:=4) sc_law.nd rfl (Or.inr rfl) (PE.eqv (pe_call (ok_text (K:=K) T) (hr.mono (by decide)) rfl T.m_text T.F_text.kp T.b_text .nil pass0 (pa_cons (PE.eqv (pe_call (ok_web (K:=K) T) (hr.mono (by decide)) rfl T.m_web T.F_web.kp T.b_web .nil pass0 (pa_cons (fpv 3) (pa_cons pe_int (pa_cons pe_int pa_nil)))) (fCall_eq _ _ _)) pa_nil)) (fCall_eq _ _ _)))
      (pss_cons (ps_setComp (i:=5) sc_law.nd rfl rfl rfl rfl (show CompScope (defScope s_law) _ ["_law_script", "_law_fixed", "_law_k", "_law_pot_here", "_law_text_here", "_law_some", "_law_odd"] ["_law_turn"] [3,4] ["_law_turn", "_law_pot_here", "_law_text_here"] from ⟨rfl,by decide +kernel,by decide +kernel,rfl,by decide +kernel,by decide +kernel⟩) rfl (PI.eqv (pi_range1 rfl T.nm.range (pa_cons (pe_op fop_add pe_int (PE.eqv (pe_call (ok_take (K:=K) T) (hr.mono (by decide)) rfl T.m_take T.F_take.kp T.b_take .nil pass0 (pa_cons (fpv 3) (pa_cons pe_int pa_nil))) (fCall_eq _ _ _))) pa_nil)) (fiRng1_eq _)) (fun C s H fp pn=>(pg_name (i:=0) (show (["_law_turn", "_law_pot_here", "_law_text_here"]:List Str).Nodup by decide +kernel) rfl (Or.inl rfl))) (fun C s H fp pn=>pts_nil) (fun C s H fp pn=>(PE.eqv (pe_call (ok_spoilt (K:=K) T) (hr.mono (by decide)) rfl T.m_spoilt T.F_spoilt.kp T.b_spoilt .nil pass0 (pa_cons (fpv 1) (pa_cons (fpv 2) pa_nil))) (fCall_eq _ _ _))))
      (pss_one (ps_if (pt_not (fpt_val (pe_callB (fcall_all rfl) rfl T.nm.all boot_all' (pa_cons (pe_comp rfl rfl (show CompScope (defScope s_law) _ ["_law_script", "_law_fixed", "_law_k", "_law_pot_here", "_law_text_here", "_law_some", "_law_odd"] ["_law_thing"] [] ["_law_thing"] from ⟨rfl,by decide +kernel,by decide +kernel,rfl,by decide +kernel,by decide +kernel⟩) rfl (PI.eqv (pi_listk (K:=K) rfl (pe_op fop_cat (fpv 5) (pe_lst (pa_cons (fpv 4) pa_nil)))) (fiList_eq _ _)) (fun C s H fp pn=>(pg_name (i:=0) (show (["_law_thing"]:List Str).Nodup by decide +kernel) rfl (Or.inl rfl))) (fun C s H fp pn=>pts_nil) (fun C s H fp pn=>(PE.eqv (pe_call (ok_right (K:=K) T) (hr.mono (by decide)) rfl T.m_right T.F_right.kp T.b_right .nil pass0 (pa_cons (fpv 0) pa_nil)) (fCall_eq _ _ _)))) pa_nil)))) (pss_one (ps_ret pe_bl)) pss_nil)))))))
      (pssq_cons (psq_set (i:=6) sc_law.nd rfl (Or.inl rfl) (peq_big (peq_lst (paq_cons pe_non (paq_cons pe_int (paq_cons pe_bl (paq_cons (pe_tup pa_nil) (paq_cons (pe_lst (pa_cons pe_str pa_nil)) (paq_cons (pe_tup (pa_cons pe_str (pa_cons pe_str pa_nil))) (paq_cons pe_dnewK (paq_cons (pe_lst (pa_cons (pe_lst (pa_cons pe_str pa_nil)) (pa_cons (pe_lst pa_nil) pa_nil))) (paq_cons pe_int (paq_cons (pe_un fun_neg pe_int) paq_nil)))))))))))))
      (PSsq.mk (pss_one (ps_ret (pe_callB (fcall_all rfl) rfl T.nm.all boot_all' (pa_cons (pe_comp rfl rfl (show CompScope (defScope s_law) _ ["_law_script", "_law_fixed", "_law_k", "_law_pot_here", "_law_text_here", "_law_some", "_law_odd"] ["_law_thing"] [] ["_law_thing"] from ⟨rfl,by decide +kernel,by decide +kernel,rfl,by decide +kernel,by decide +kernel⟩) rfl (PI.eqv (pi_listk (K:=K) rfl (pe_op fop_cat (fpv 1) (fpv 6))) (fiList_eq _ _)) (fun C s H fp pn=>(pg_name (i:=0) (show (["_law_thing"]:List Str).Nodup by decide +kernel) rfl (Or.inl rfl))) (fun C s H fp pn=>pts_nil) (fun C s H fp pn=>(PE.eqv (pe_call (ok_right (K:=K) T) (hr.mono (by decide)) rfl T.m_right T.F_right.kp T.b_right .nil pass0 (pa_cons (fpv 0) pa_nil)) (fCall_eq _ _ _)))) pa_nil))))))))))),?_⟩
    have s60:9999≤sizeLine:=by decide
    simp -dsimp[cxOf,stC,-Bool.exists_bool,-List.map_take,-Prod.forall,-Prod.exists]
    refine tx_big (n:=11) (tx_cons tx_s <| tx_cons tx_s <| tx_cons tx_s <| tx_cons tx_s <| tx_cons tx_s <| tx_cons tx_s <| tx_cons tx_s <| tx_cons tx_s <| tx_cons tx_s <| tx_cons tx_s <| tx_cons tx_s tx_nil) (by decide) fun b1 vs1 H1 s1 n1 e1 t1=>?_
    simp -dsimp[cxOf,stC,-Bool.exists_bool,-List.map_take,-Prod.forall,-Prod.exists]
    refine tx_big (n:=8) (tx_cons tx_s <| tx_cons tx_s <| tx_cons tx_s <| tx_cons tx_s <| tx_cons tx_s <| tx_cons tx_s <| tx_cons tx_s <| tx_cons tx_s tx_nil) (by decide) fun b2 vs2 H2 s2 n2 e2 t2=>?_
    refine ⟨_,s2 _ _ e1,_,e2,by omega,fun p3 hp3=>?_⟩
    have s3:Same H2 (upd H2 p3 (.lst (vs1++vs2))):=same_upd hp3
    have e3:upd H2 p3 (.lst (vs1++vs2)) p3=some (.lst (vs1++vs2)):=upd_same
    generalize upd H2 p3 (.lst (vs1++vs2))=H3 at s3 e3 ⊢
    refine tx_big (n:=4) (tx_cons tx_s <| tx_cons tx_s <| tx_cons tx_s <| tx_cons tx_s tx_nil) (by decide) fun b4 vs4 H4 s4 n4 e4 t4=>?_
    refine ⟨_,s4 _ _ e3,_,e4,by simp;omega,fun p5 hp5=>?_⟩
    have s5:Same H4 (upd H4 p5 (.lst (vs1++vs2++vs4))):=same_upd hp5
    have e5:upd H4 p5 (.lst (vs1++vs2++vs4)) p5=some (.lst (vs1++vs2++vs4)):=upd_same
    generalize upd H4 p5 (.lst (vs1++vs2++vs4))=H5 at s5 e5 ⊢
    have t5:∀v∈vs1++vs2++vs4,Tx H5 v:=fun v hv=>by
      rcases List.mem_append.mp hv with hv | hv
      · rcases List.mem_append.mp hv with hv | hv
        ·exact (t1 v hv).same ((s2.trans s3).trans (s4.trans s5))
        ·exact (t2 v hv).same (s3.trans (s4.trans s5))
      ·exact (t4 v hv).same s5
    have l5:(vs1++vs2++vs4).length≤50:=by simp;omega
    have S5:Same H H5:=((s1.trans s2).trans s3).trans (s4.trans s5)
    generalize vs1++vs2++vs4=fx at e5 t5 l5
    refine ⟨_,.inl (S5.seq hS),?_⟩
    simp only [List.length_map]
    obtain ⟨m,hm,hm8⟩:∃m:Nat,(if 3<if 8<(ns0.length:Int) then 8 else (ns0.length:Int) then if 8<(ns0.length:Int) then 8 else (ns0.length:Int) else 3)=m∧m≤8:=by
      by_cases h1:8<(ns0.length:Int)
      · rw [if_pos h1]
        exact ⟨8,rfl,by decide⟩
      · rw [if_neg h1]
        by_cases h2:3<(ns0.length:Int)
        ·exact ⟨ns0.length,by rw [if_pos h2],by omega⟩
        ·exact ⟨3,by rw [if_neg h2];rfl,by decide⟩
    simp only [hm,Int.toNat_natCast]
    refine ⟨by omega,by omega,frR (fun i σ H'=>(∃o2 o3 o4 o5 o6,σ=[some (.ref sl),some (.ref p5),o2,o3,o4,o5,o6])∧Same H5 H') ⟨⟨_,_,_,_,_,rfl⟩,Same.refl _⟩ ?_ ?_⟩
    · rintro i σ H6 hi ⟨⟨o2,o3,o4,o5,o6,rfl⟩,s6⟩
      simp -dsimp[cxOf,stC,-Bool.exists_bool,-List.map_take,-Prod.forall,-Prod.exists]
      refine ⟨sl,ns0,i,rfl,(S5.trans s6).seq hS,by omega,fun p H7 hp0 hP7 hB7=>?_⟩
      have s7:Same H6 H7:=fun b o e=>hB7 b o (ne_of_none e hp0) e
      simp -dsimp[cxOf,stC,-Bool.exists_bool,-List.map_take,-Prod.forall,-Prod.exists]
      refine ⟨p,9,20,rfl,hP7,by decide,by decide,by decide,by decide,fun t n l xs tv ps H8 ht0 hn0 hl0 ht8 hn8 hl8 htv8 hX hTs _ _ hP8 hB8=>?_⟩
      simp -dsimp[cxOf,stC,-Bool.exists_bool,-List.map_take,-Prod.forall,-Prod.exists]
      refine ⟨t,n,l,xs,tv,ps,rfl,ht8,hn8,hl8,htv8,hX,hTs,fun H9 s9=>?_⟩
      obtain ⟨wl,wa⟩:=web_len hX hTs
      generalize webText xs ps=tx at wl wa ⊢
      have hP9:=hP8.keepS s9
      have B9:But p H7 H9:=hB8.same s9
      simp -dsimp[cxOf,stC,-Bool.exists_bool,-List.map_take,-Prod.forall,-Prod.exists]
      refine ⟨p,5,rfl,hP9,by decide,by decide,fun j10 H10 hj0 hj1 hP10 hB10=>?_⟩
      obtain ⟨nn,rfl⟩:=Int.eq_ofNat_of_zero_le hj0
      simp -dsimp[cxOf,stC,-Bool.exists_bool,-List.map_take,-Prod.forall,-Prod.exists]
      have hP11:Pot H10 p:=hP10
      refine ⟨by omega,by omega,fun D hD=>?_⟩
      have Dp:D≠p:=(hP10.ne hD).symm
      refine cmR (fun j σ H'=>(∃o',σ=[o',some (.ref p),some (.str tx)])∧SpAt H' D j∧Pot H' p∧But p H10 H') ⟨⟨_,rfl⟩,⟨[],upd_same,by simp,rfl⟩,hP10.upd Dp.symm,(But.refl _ _).new hD⟩ ?_ ?_
      · rintro j σ H11 hj ⟨⟨o',rfl⟩,⟨ys,eD,hys,hyl⟩,hP11,hB11⟩
        simp -dsimp[cxOf,stC,-Bool.exists_bool,-List.map_take,-Prod.forall,-Prod.exists]
        refine ⟨p,tx,rfl,hP11,wl,wa,fun y H12 hy hay hP12 hB12=>?_⟩
        refine ⟨_,hB12 _ _ Dp eD,by simp;omega,⟨_,rfl⟩,⟨ys++[y],by rw [upd_same];simp,fun z hz=>?_,by simp [hyl]⟩,hP12.upd Dp.symm,((hB11.trans hB12).new hD)⟩
        rcases List.mem_append.mp hz with hz | hz
        ·exact hys z hz
        · rw [List.mem_singleton] at hz
          rw [hz]
          exact ⟨hy,hay⟩
      · rintro σ H11 ⟨⟨o',rfl⟩,⟨ys,eD,hys,hyl⟩,hP11,hB11⟩
        simp -dsimp[cxOf,stC,-Bool.exists_bool,-List.map_take,-Prod.forall,-Prod.exists]
        intro p12 hp12
        have s12:Same H11 (upd H11 p12 (.lst [.str tx])):=same_upd hp12
        have e12:upd H11 p12 (.lst [.str tx]) p12=some (.lst [.str tx]):=upd_same
        generalize upd H11 p12 (.lst [.str tx])=H12 at s12 e12 ⊢
        refine ⟨_,s12 _ _ eD,_,e12,by simp;omega,fun p13 hp13=>?_⟩
        have s13:Same H12 (upd H12 p13 (.lst (ys.map V.str++[.str tx]))):=same_upd hp13
        have e13:upd H12 p13 (.lst (ys.map V.str++[.str tx])) p13=some (.lst (ys.map V.str++[.str tx])):=upd_same
        generalize upd H12 p13 (.lst (ys.map V.str++[.str tx]))=H13 at s13 e13 ⊢
        have t13:∀v∈ys.map V.str++[V.str tx],Tx H13 v:=fun v hv=>by
          rcases List.mem_append.mp hv with hv | hv
          · obtain ⟨y,hy,rfl⟩:=List.mem_map.mp hv
            exact ⟨.str y,by simp [ThgX],fun z e=>by cases e;exact hys y hy⟩
          · rw [List.mem_singleton] at hv
            subst hv
            exact ⟨.str tx,by simp [ThgX],fun z e=>by cases e;exact ⟨by omega,wa⟩⟩
        have l13:(ys.map V.str++[V.str tx]).length≤100:=by simp;omega
        generalize ys.map V.str++[V.str tx]=us at e13 t13 l13
        refine ⟨⟨_,SqL.of e13⟩,fun D3 hD3=>cmL us (fun i σ H'=>(∃o',σ=[o'])∧H' D3=some (.lst ((us.take i).map fun _=>V.bl true))∧Same H13 H') ⟨⟨_,rfl⟩,upd_same,same_upd hD3⟩ (fun i σ H' _ h=>SqL.of (h.2.2 _ _ e13)) ?_ ?_⟩
        · rintro i x σ H14 hx ⟨⟨o',rfl⟩,hD14,s14⟩
          have hi2:i<us.length:=(List.getElem?_eq_some_iff.mp hx).1
          obtain ⟨d,h1,h2⟩:=(t13 x (List.mem_of_getElem? hx)).same s14
          simp -dsimp[cxOf,stC,-Bool.exists_bool,-List.map_take,-Prod.forall,-Prod.exists]
          refine ⟨d,x,rfl,h1,h2,fun H15 s15=>?_⟩
          refine ⟨_,s15 _ _ hD14,by simp;omega,⟨_,rfl⟩,?_,same_upd2 (s14.trans s15) hD3⟩
          rw [upd_same,take_one hx,List.map_append]
          rfl
        · rintro σ H14 ⟨⟨o',rfl⟩,hD14,s14⟩
          rw [List.take_length] at hD14
          simp -dsimp[cxOf,stC,-Bool.exists_bool,-List.map_take,-Prod.forall,-Prod.exists]
          refine ⟨_,hD14,_,blAll_map (fun _=>true) _,?_⟩
          rw [all_map_id,show us.all (fun _=>true)=true by simp]
          refine tBr.neg rfl ?_
          simp -dsimp[cxOf,stC,-Bool.exists_bool,-List.map_take,-Prod.forall,-Prod.exists]
          have B:But p H7 H14:=((B9.trans hB10).trans hB11).same ((s12.trans s13).trans s14)
          exact s6.trans fun b u e=>B b u (ne_of_none e hp0) (s7 b u e)
    · rintro σ H6 ⟨⟨o2,o3,o4,o5,o6,rfl⟩,s6⟩
      simp -dsimp[cxOf,stC,-Bool.exists_bool,-List.map_take,-Prod.forall,-Prod.exists]
      refine tx_big (n:=10) (
        tx_cons (tx_c fun H=>⟨.none,by simp [ThgX],no_str rfl⟩) <|
        tx_cons (tx_c fun H=>⟨.int 3,by simp [ThgX],no_str rfl⟩) <|
        tx_cons (tx_c fun H=>⟨.bool true,by simp [ThgX],no_str rfl⟩) <|
        tx_cons (tx_d (d0_tup d0_nil (by decide)) rfl) <|
        tx_cons (tx_d (d0_lst (d0_cons d0_s d0_nil) (by decide)) rfl) <|
        tx_cons (tx_d (d0_tup (d0_cons d0_s (d0_cons d0_s d0_nil)) (by decide)) rfl) <|
        tx_cons (tx_d d0_emp rfl) <|
        tx_cons (tx_d (d0_lst (d0_cons (d0_lst (d0_cons d0_s d0_nil) (by decide)) (d0_cons (d0_lst d0_nil (by decide)) d0_nil)) (by decide)) rfl) <|
        tx_cons (tx_c fun H=>⟨.int 0,by simp [ThgX],no_str rfl⟩) <|
        tx_cons (fun H1 Q' s' q'=>by
          simp -dsimp[cxOf,stC,-Bool.exists_bool,-List.map_take,-Prod.forall,-Prod.exists]
          exact q' _ _ (Same.refl _) ⟨.int (-1),by simp [ThgX],no_str rfl⟩) tx_nil) (by decide) fun b7 vs7 H7 s7 n7 e7 t7=>?_
      refine ⟨_,s7 _ _ (s6 _ _ e5),_,e7,by omega,fun p8 hp8=>?_⟩
      have s8:Same H7 (upd H7 p8 (.lst (fx++vs7))):=same_upd hp8
      have e8:upd H7 p8 (.lst (fx++vs7)) p8=some (.lst (fx++vs7)):=upd_same
      generalize upd H7 p8 (.lst (fx++vs7))=H8 at s8 e8 ⊢
      have t8:∀v∈fx++vs7,Tx H8 v:=fun v hv=>by
        rcases List.mem_append.mp hv with hv | hv
        ·exact (t5 v hv).same ((s6.trans s7).trans s8)
        ·exact (t7 v hv).same s8
      have l8:(fx++vs7).length≤100:=by simp;omega
      generalize fx++vs7=us at e8 t8 l8
      refine ⟨⟨_,SqL.of e8⟩,fun D hD=>cmL us (fun i σ H'=>(∃o',σ=[o'])∧H' D=some (.lst ((us.take i).map fun _=>V.bl true))∧Same H8 H') ⟨⟨_,rfl⟩,upd_same,same_upd hD⟩ (fun i σ H' _ h=>SqL.of (h.2.2 _ _ e8)) ?_ ?_⟩
      · rintro i x σ H9 hx ⟨⟨o',rfl⟩,hD9,s9⟩
        have hi2:i<us.length:=(List.getElem?_eq_some_iff.mp hx).1
        obtain ⟨d,h1,h2⟩:=(t8 x (List.mem_of_getElem? hx)).same s9
        simp -dsimp[cxOf,stC,-Bool.exists_bool,-List.map_take,-Prod.forall,-Prod.exists]
        refine ⟨d,x,rfl,h1,h2,fun H10 s10=>?_⟩
        refine ⟨_,s10 _ _ hD9,by simp;omega,⟨_,rfl⟩,?_,same_upd2 (s9.trans s10) hD⟩
        rw [upd_same,take_one hx,List.map_append]
        rfl
      · rintro σ H9 ⟨⟨o',rfl⟩,hD9,s9⟩
        rw [List.take_length] at hD9
        simp -dsimp[cxOf,stC,-Bool.exists_bool,-List.map_take,-Prod.forall,-Prod.exists]
        refine ⟨_,hD9,_,blAll_map (fun _=>true) _,?_⟩
        rw [all_map_id,show us.all (fun _=>true)=true by simp]
        exact q _
end K14
namespace K14
open PySem L2
theorem unc {α:Type} {n:Nat} (l:List α) (h:l.length=n+1):∃a r,l=a::r:=by
  cases l with
  | nil=>cases h
  | cons a r=>exact ⟨a,r,rfl⟩
theorem byLen1 {fd:FuncData} {ps:List Str} (h:∀v0,bindArgs fd {pos:=[v0]}=pure (ps.zip [v0])):∀us:List Value,us.length=1→bindArgs fd {pos:=us}=pure (ps.zip us):=by
  intro us hl
  obtain ⟨v0,us,rfl⟩:=unc us hl
  replace hl:=Nat.succ.inj hl
  obtain rfl:=List.eq_nil_of_length_eq_zero hl
  exact h v0
theorem byLen2 {fd:FuncData} {ps:List Str} (h:∀v0 v1,bindArgs fd {pos:=[v0,v1]}=pure (ps.zip [v0,v1])):∀us:List Value,us.length=2→bindArgs fd {pos:=us}=pure (ps.zip us):=by
  intro us hl
  obtain ⟨v0,us,rfl⟩:=unc us hl
  replace hl:=Nat.succ.inj hl
  obtain ⟨v1,us,rfl⟩:=unc us hl
  replace hl:=Nat.succ.inj hl
  obtain rfl:=List.eq_nil_of_length_eq_zero hl
  exact h v0 v1
theorem byLen3 {fd:FuncData} {ps:List Str} (h:∀v0 v1 v2,bindArgs fd {pos:=[v0,v1,v2]}=pure (ps.zip [v0,v1,v2])):∀us:List Value,us.length=3→bindArgs fd {pos:=us}=pure (ps.zip us):=by
  intro us hl
  obtain ⟨v0,us,rfl⟩:=unc us hl
  replace hl:=Nat.succ.inj hl
  obtain ⟨v1,us,rfl⟩:=unc us hl
  replace hl:=Nat.succ.inj hl
  obtain ⟨v2,us,rfl⟩:=unc us hl
  replace hl:=Nat.succ.inj hl
  obtain rfl:=List.eq_nil_of_length_eq_zero hl
  exact h v0 v1 v2
theorem all_mk {l:PySem.W.OpenLaw} {w:World} {K:PySem.W.Frag} {h:Heap} {mg:Str→Option Value} {fa C_Web f_is_list f_is_name f_are_points f_is_tie f_are_ties f_Web_init f_Web_points f_Web_ties f_Web_many f_web_text f_pairs_in f_read_web f_pot f_take f_names f_mixed f_tie f_web f_classes f_text f_l_is_name f_reading f_sign f_words f_spoilt f_right f_law C_PointError C_NoWeb C_NoText C_NoNumbers C_NoLot C_NoPoint C_NoPointing C_Parted C_Barred C_TooMuch:Addr} (X:K.In h) (G:h.Ns mainGlobals mg) (hfa:mg "law" = some (.ref fa))
    {fd1 fd2 fd3 fd4 fd5 fd6 fd7 fd8 fd9 fd10 fd11 fd12 fd13 fd14 fd15 fd16 fd17 fd18 fd19 fd20 fd21 fd22 fd23 fd24 fd25 fd26:FuncData}
    {od27 an27:Option Addr} {sl27:Array (Option Value)} {oc27 kV27 dc27 pm27 cd27 ct27:Value} {tk_LETTERS tk_MOST_LETTERS tk_MOST_POINTS tk_MOST_TIES:Tok}
    (aC_Web:PySem.W.nsIn K mainGlobals "Web" = some (some (.ref C_Web)))
    (a1:PySem.W.nsIn K mainGlobals "is_list" = some (some (.ref f_is_list)))
    (F1:Fun K "is_list" "is_list" s_is_list f_is_list fd1)
    (a2:PySem.W.nsIn K mainGlobals "is_name" = some (some (.ref f_is_name)))
    (F2:Fun K "is_name" "is_name" s_is_name f_is_name fd2)
    (a3:PySem.W.nsIn K mainGlobals "are_points" = some (some (.ref f_are_points)))
    (F3:Fun K "are_points" "are_points" s_are_points f_are_points fd3)
    (a4:PySem.W.nsIn K mainGlobals "is_tie" = some (some (.ref f_is_tie)))
    (F4:Fun K "is_tie" "is_tie" s_is_tie f_is_tie fd4)
    (a5:PySem.W.nsIn K mainGlobals "are_ties" = some (some (.ref f_are_ties)))
    (F5:Fun K "are_ties" "are_ties" s_are_ties f_are_ties fd5)
    (a6:PySem.W.findIn K (.ref C_Web) "__init__" = some (some (.ref f_Web_init))) (i6:PySem.W.isFn K (.ref f_Web_init)=true)
    (F6:Fun K "__init__" "Web.__init__" s_Web_init f_Web_init fd6)
    (a7:PySem.W.findIn K (.ref C_Web) "points" = some (some (.ref f_Web_points))) (i7:PySem.W.isFn K (.ref f_Web_points)=true)
    (F7:Fun K "points" "Web.points" s_Web_points f_Web_points fd7)
    (a8:PySem.W.findIn K (.ref C_Web) "ties" = some (some (.ref f_Web_ties))) (i8:PySem.W.isFn K (.ref f_Web_ties)=true)
    (F8:Fun K "ties" "Web.ties" s_Web_ties f_Web_ties fd8)
    (a9:PySem.W.findIn K (.ref C_Web) "many" = some (some (.ref f_Web_many))) (i9:PySem.W.isFn K (.ref f_Web_many)=true)
    (F9:Fun K "many" "Web.many" s_Web_many f_Web_many fd9)
    (a10:PySem.W.nsIn K mainGlobals "web_text" = some (some (.ref f_web_text)))
    (F10:Fun K "web_text" "web_text" s_web_text f_web_text fd10)
    (a11:PySem.W.nsIn K mainGlobals "pairs_in" = some (some (.ref f_pairs_in)))
    (F11:Fun K "pairs_in" "pairs_in" s_pairs_in f_pairs_in fd11)
    (a12:PySem.W.nsIn K mainGlobals "read_web" = some (some (.ref f_read_web)))
    (F12:Fun K "read_web" "read_web" s_read_web f_read_web fd12)
    (a13:PySem.W.nsIn K mainGlobals "_law_pot" = some (some (.ref f_pot)))
    (F13:Fun K "_law_pot" "_law_pot" s_pot f_pot fd13)
    (a14:PySem.W.nsIn K mainGlobals "_law_take" = some (some (.ref f_take)))
    (F14:Fun K "_law_take" "_law_take" s_take f_take fd14)
    (a15:PySem.W.nsIn K mainGlobals "_law_names" = some (some (.ref f_names)))
    (F15:Fun K "_law_names" "_law_names" s_names f_names fd15)
    (a16:PySem.W.nsIn K mainGlobals "_law_mixed" = some (some (.ref f_mixed)))
    (F16:Fun K "_law_mixed" "_law_mixed" s_mixed f_mixed fd16)
    (a17:PySem.W.nsIn K mainGlobals "_law_tie" = some (some (.ref f_tie)))
    (F17:Fun K "_law_tie" "_law_tie" s_tie f_tie fd17)
    (a18:PySem.W.nsIn K mainGlobals "_law_web" = some (some (.ref f_web)))
    (F18:Fun K "_law_web" "_law_web" s_web f_web fd18)
    (a19:PySem.W.nsIn K mainGlobals "_law_classes" = some (some (.ref f_classes)))
    (F19:Fun K "_law_classes" "_law_classes" s_classes f_classes fd19)
    (a20:PySem.W.nsIn K mainGlobals "_law_text" = some (some (.ref f_text)))
    (F20:Fun K "_law_text" "_law_text" s_text f_text fd20)
    (a21:PySem.W.nsIn K mainGlobals "_law_is_name" = some (some (.ref f_l_is_name)))
    (F21:Fun K "_law_is_name" "_law_is_name" s_l_is_name f_l_is_name fd21)
    (a22:PySem.W.nsIn K mainGlobals "_law_reading" = some (some (.ref f_reading)))
    (F22:Fun K "_law_reading" "_law_reading" s_reading f_reading fd22)
    (a23:PySem.W.nsIn K mainGlobals "_law_sign" = some (some (.ref f_sign)))
    (F23:Fun K "_law_sign" "_law_sign" s_sign f_sign fd23)
    (a24:PySem.W.nsIn K mainGlobals "_law_words" = some (some (.ref f_words)))
    (F24:Fun K "_law_words" "_law_words" s_words f_words fd24)
    (a25:PySem.W.nsIn K mainGlobals "_law_spoilt" = some (some (.ref f_spoilt)))
    (F25:Fun K "_law_spoilt" "_law_spoilt" s_spoilt f_spoilt fd25)
    (a26:PySem.W.nsIn K mainGlobals "_law_right" = some (some (.ref f_right)))
    (F26:Fun K "_law_right" "_law_right" s_right f_right fd26)
    (a27:PySem.W.nsIn K mainGlobals "law" = some (some (.ref f_law)))
    (l27:K.lookup f_law=some ⟨oc27,od27,.func (PySem.W.fnOf "law" "law" (defArgs s_law) (defBody s_law) (defScope s_law) .none kV27 dc27 pm27 an27 cd27 ct27),sl27⟩) (c27:PySem.W.codeIn K cd27 "law" = true) (k27:PySem.W.keepIn K (.ref f_law)=true)
    (u_LETTERS:PySem.W.nsIn K mainGlobals "LETTERS" = some (some (.str "abcdefghijklmnopqrstuvwxyz" tk_LETTERS)))
    (u_MOST_LETTERS:PySem.W.nsIn K mainGlobals "MOST_LETTERS" = some (some (.int 4 tk_MOST_LETTERS)))
    (u_MOST_POINTS:PySem.W.nsIn K mainGlobals "MOST_POINTS" = some (some (.int 9 tk_MOST_POINTS)))
    (u_MOST_TIES:PySem.W.nsIn K mainGlobals "MOST_TIES" = some (some (.int 20 tk_MOST_TIES)))
    (pg_Web:PySem.W.plainGet K C_Web Str.empty=true) (hd_Web:PySem.W.hasDictIn K C_Web=true) (po_Web:PySem.W.plainOver K C_Web=true) (sa_Web:PySem.W.findIn K (.ref C_Web) "__setattr__" = some (some (.builtin "object.__setattr__"))) (mk_Web:PySem.W.makesIn K C_Web=true) (kc_Web:PySem.W.keepIn K (.ref C_Web)=true)
    (na_names:PySem.W.findIn K (.ref C_Web) "names" = some none)
    (na_pairs:PySem.W.findIn K (.ref C_Web) "pairs" = some none)
    (z_len:PySem.W.nsIn K mainGlobals "len" = some none)
    (z_max:PySem.W.nsIn K mainGlobals "max" = some none)
    (z_min:PySem.W.nsIn K mainGlobals "min" = some none)
    (z_abs:PySem.W.nsIn K mainGlobals "abs" = some none)
    (z_divmod:PySem.W.nsIn K mainGlobals "divmod" = some none)
    (z_range:PySem.W.nsIn K mainGlobals "range" = some none)
    (z_zip:PySem.W.nsIn K mainGlobals "zip" = some none)
    (z_list:PySem.W.nsIn K mainGlobals "list" = some none)
    (z_tuple:PySem.W.nsIn K mainGlobals "tuple" = some none)
    (z_int:PySem.W.nsIn K mainGlobals "int" = some none)
    (z_str:PySem.W.nsIn K mainGlobals "str" = some none)
    (z_set:PySem.W.nsIn K mainGlobals "set" = some none)
    (z_all:PySem.W.nsIn K mainGlobals "all" = some none)
    (z_isinstance:PySem.W.nsIn K mainGlobals "isinstance" = some none)
    (z_enumerate:PySem.W.nsIn K mainGlobals "enumerate" = some none)
    (z_any:PySem.W.nsIn K mainGlobals "any" = some none)
    (z_dict:PySem.W.nsIn K mainGlobals "dict" = some none)
    (z_sorted:PySem.W.nsIn K mainGlobals "sorted" = some none)
    (z_repr:PySem.W.nsIn K mainGlobals "repr" = some none)
    (z_bool:PySem.W.nsIn K mainGlobals "bool" = some none)
    (z_sum:PySem.W.nsIn K mainGlobals "sum" = some none)
    (aC_PointError:PySem.W.nsIn K mainGlobals "PointError" = some (some (.ref C_PointError)))
    (aC_NoWeb:PySem.W.nsIn K mainGlobals "NoWeb" = some (some (.ref C_NoWeb)))
    (aC_NoText:PySem.W.nsIn K mainGlobals "NoText" = some (some (.ref C_NoText)))
    (aC_NoNumbers:PySem.W.nsIn K mainGlobals "NoNumbers" = some (some (.ref C_NoNumbers)))
    (aC_NoLot:PySem.W.nsIn K mainGlobals "NoLot" = some (some (.ref C_NoLot)))
    (aC_NoPoint:PySem.W.nsIn K mainGlobals "NoPoint" = some (some (.ref C_NoPoint)))
    (aC_NoPointing:PySem.W.nsIn K mainGlobals "NoPointing" = some (some (.ref C_NoPointing)))
    (aC_Parted:PySem.W.nsIn K mainGlobals "Parted" = some (some (.ref C_Parted)))
    (aC_Barred:PySem.W.nsIn K mainGlobals "Barred" = some (some (.ref C_Barred)))
    (aC_TooMuch:PySem.W.nsIn K mainGlobals "TooMuch" = some (some (.ref C_TooMuch)))
    (x_NoText:PySem.W.excIn K C_NoText veMro "ValueError.__new__" = true)
    (x_PointError:PySem.W.excIn K C_PointError veMro "ValueError.__new__" = true)
    (x_NoWeb:PySem.W.excIn K C_NoWeb veMro "ValueError.__new__" = true) (ms_NoWeb:PySem.W.mroIn K C_NoWeb (.ref C_NoWeb)=some true) (mb_NoWeb:PySem.W.mroIn K C_NoWeb (.type "BaseException")=some true)
    (sp_oc:PySem.W.specialIn K (.builtin "object.__class__") "__get__" = some (some (.builtin "getset_descriptor.__get__"))) (tk_oc:PySem.W.takesIn K (.builtin "object.__class__")=some true)
    (ga_NoText:PySem.W.findIn K (.ref C_NoText) "__getattribute__" = some (some (.builtin "BaseException.__getattribute__"))) (gn_NoText:PySem.W.findIn K (.ref C_NoText) "__getattr__" = some none) (gc_NoText:PySem.W.findIn K (.ref C_NoText) "__class__" = some (some (.builtin "object.__class__"))) (mo_NoText:PySem.W.mroIn K C_NoText (.type "object")=some true) (mb_NoText:PySem.W.mroIn K C_NoText (.type "BaseException")=some true) (cs_NoText:PySem.W.isClsIn K C_NoText=true)
    (pm_NoText_PointError:PySem.W.mroIn K C_NoText (.ref C_PointError)=some true) (pn_NoText_PointError:(C_NoText == C_PointError)=false)
    (kn_NoText_NoWeb:(C_NoText == C_NoWeb)=false) (ks_NoText_NoWeb:PySem.W.subIn K (.ref C_NoText) (.ref C_NoWeb)=some false)
    (kn_NoText_NoNumbers:(C_NoText == C_NoNumbers)=false) (ks_NoText_NoNumbers:PySem.W.subIn K (.ref C_NoText) (.ref C_NoNumbers)=some false)
    (kn_NoText_NoLot:(C_NoText == C_NoLot)=false) (ks_NoText_NoLot:PySem.W.subIn K (.ref C_NoText) (.ref C_NoLot)=some false)
    (kn_NoText_NoPoint:(C_NoText == C_NoPoint)=false) (ks_NoText_NoPoint:PySem.W.subIn K (.ref C_NoText) (.ref C_NoPoint)=some false)
    (kn_NoText_NoPointing:(C_NoText == C_NoPointing)=false) (ks_NoText_NoPointing:PySem.W.subIn K (.ref C_NoText) (.ref C_NoPointing)=some false)
    (kn_NoText_Parted:(C_NoText == C_Parted)=false) (ks_NoText_Parted:PySem.W.subIn K (.ref C_NoText) (.ref C_Parted)=some false)
    (kn_NoText_Barred:(C_NoText == C_Barred)=false) (ks_NoText_Barred:PySem.W.subIn K (.ref C_NoText) (.ref C_Barred)=some false)
    (kn_NoText_TooMuch:(C_NoText == C_TooMuch)=false) (ks_NoText_TooMuch:PySem.W.subIn K (.ref C_NoText) (.ref C_TooMuch)=some false)
    (ks_NoText_VE:PySem.W.subIn K (.ref C_NoText) (.type "ValueError")=some true)
    (ki_NoWeb:PySem.W.isClsIn K C_NoWeb=true) (kt_NoWeb:PySem.W.typeIn K (.ref C_NoWeb)=some (.type "type"))
    (ki_NoText:PySem.W.isClsIn K C_NoText=true) (kt_NoText:PySem.W.typeIn K (.ref C_NoText)=some (.type "type"))
    (ki_NoNumbers:PySem.W.isClsIn K C_NoNumbers=true) (kt_NoNumbers:PySem.W.typeIn K (.ref C_NoNumbers)=some (.type "type"))
    (ki_NoLot:PySem.W.isClsIn K C_NoLot=true) (kt_NoLot:PySem.W.typeIn K (.ref C_NoLot)=some (.type "type"))
    (ki_NoPoint:PySem.W.isClsIn K C_NoPoint=true) (kt_NoPoint:PySem.W.typeIn K (.ref C_NoPoint)=some (.type "type"))
    (ki_NoPointing:PySem.W.isClsIn K C_NoPointing=true) (kt_NoPointing:PySem.W.typeIn K (.ref C_NoPointing)=some (.type "type"))
    (ki_Parted:PySem.W.isClsIn K C_Parted=true) (kt_Parted:PySem.W.typeIn K (.ref C_Parted)=some (.type "type"))
    (ki_Barred:PySem.W.isClsIn K C_Barred=true) (kt_Barred:PySem.W.typeIn K (.ref C_Barred)=some (.type "type"))
    (ki_TooMuch:PySem.W.isClsIn K C_TooMuch=true) (kt_TooMuch:PySem.W.typeIn K (.ref C_TooMuch)=some (.type "type"))
    (z_ValueError:PySem.W.nsIn K mainGlobals "ValueError" = some none)
    : ∃fd:FuncData,(∀(s:Shared) (v:Value),BindsTo s fd ⟨[v],[]⟩ [("_law_script",v)])∧∀base:Heap,K.In base→base.Ns mainGlobals mg→FnOk l.prog w K mg base CX0 9 fa fd ["_law_script"] (sp_law K):=by
  have e:=hfa.symm.trans (PySem.W.mg_of X G a27)
  cases e
  have b1:=F1.binds (ps:=["thing"]) fun _ _ _ _ _ _=>byLen1 fun _=>rfl
  have b2:=F2.binds (ps:=["thing"]) fun _ _ _ _ _ _=>byLen1 fun _=>rfl
  have b3:=F3.binds (ps:=["thing"]) fun _ _ _ _ _ _=>byLen1 fun _=>rfl
  have b4:=F4.binds (ps:=["thing", "points"]) fun _ _ _ _ _ _=>byLen2 fun _ _=>rfl
  have b5:=F5.binds (ps:=["thing", "points"]) fun _ _ _ _ _ _=>byLen2 fun _ _=>rfl
  have b6:=F6.binds (ps:=["self", "points", "ties"]) fun _ _ _ _ _ _=>byLen3 fun _ _ _=>rfl
  have b7:=F7.binds (ps:=["self"]) fun _ _ _ _ _ _=>byLen1 fun _=>rfl
  have b8:=F8.binds (ps:=["self"]) fun _ _ _ _ _ _=>byLen1 fun _=>rfl
  have b9:=F9.binds (ps:=["self"]) fun _ _ _ _ _ _=>byLen1 fun _=>rfl
  have b10:=F10.binds (ps:=["web"]) fun _ _ _ _ _ _=>byLen1 fun _=>rfl
  have b11:=F11.binds (ps:=["text"]) fun _ _ _ _ _ _=>byLen1 fun _=>rfl
  have b12:=F12.binds (ps:=["text"]) fun _ _ _ _ _ _=>byLen1 fun _=>rfl
  have b13:=F13.binds (ps:=["_law_script", "_law_k"]) fun _ _ _ _ _ _=>byLen2 fun _ _=>rfl
  have b14:=F14.binds (ps:=["_law_pot_here", "_law_many"]) fun _ _ _ _ _ _=>byLen2 fun _ _=>rfl
  have b15:=F15.binds (ps:=["_law_pot_here", "_law_many"]) fun _ _ _ _ _ _=>byLen2 fun _ _=>rfl
  have b16:=F16.binds (ps:=["_law_pot_here", "_law_things"]) fun _ _ _ _ _ _=>byLen2 fun _ _=>rfl
  have b17:=F17.binds (ps:=["_law_pot_here", "_law_names_here"]) fun _ _ _ _ _ _=>byLen2 fun _ _=>rfl
  have b18:=F18.binds (ps:=["_law_pot_here", "_law_points", "_law_most"]) fun _ _ _ _ _ _=>byLen3 fun _ _ _=>rfl
  have b19:=F19.binds (ps:=["_law_e"]) fun _ _ _ _ _ _=>byLen1 fun _=>rfl
  have b20:=F20.binds (ps:=["_law_web_here"]) fun _ _ _ _ _ _=>byLen1 fun _=>rfl
  have b21:=F21.binds (ps:=["_law_word"]) fun _ _ _ _ _ _=>byLen1 fun _=>rfl
  have b22:=F22.binds (ps:=["_law_text_here"]) fun _ _ _ _ _ _=>byLen1 fun _=>rfl
  have b23:=F23.binds (ps:=["_law_pot_here", "_law_text_here"]) fun _ _ _ _ _ _=>byLen2 fun _ _=>rfl
  have b24:=F24.binds (ps:=["_law_pot_here", "_law_text_here"]) fun _ _ _ _ _ _=>byLen2 fun _ _=>rfl
  have b25:=F25.binds (ps:=["_law_pot_here", "_law_text_here"]) fun _ _ _ _ _ _=>byLen2 fun _ _=>rfl
  have b26:=F26.binds (ps:=["_law_thing"]) fun _ _ _ _ _ _=>byLen1 fun _=>rfl
  have F27:=fun_mk (st:=s_law) l27 c27 k27
  have b27:=F27.binds (ps:=["_law_script"]) fun _ _ _ _ _ _=>byLen1 fun _=>rfl
  have T:Txt K mg {f_is_list:=f_is_list,fd_is_list:=fd1,f_is_name:=f_is_name,fd_is_name:=fd2,f_are_points:=f_are_points,fd_are_points:=fd3,f_is_tie:=f_is_tie,fd_is_tie:=fd4,f_are_ties:=f_are_ties,fd_are_ties:=fd5,f_Web_init:=f_Web_init,fd_Web_init:=fd6,f_Web_points:=f_Web_points,fd_Web_points:=fd7,f_Web_ties:=f_Web_ties,fd_Web_ties:=fd8,f_Web_many:=f_Web_many,fd_Web_many:=fd9,f_web_text:=f_web_text,fd_web_text:=fd10,f_pairs_in:=f_pairs_in,fd_pairs_in:=fd11,f_read_web:=f_read_web,fd_read_web:=fd12,f_pot:=f_pot,fd_pot:=fd13,f_take:=f_take,fd_take:=fd14,f_names:=f_names,fd_names:=fd15,f_mixed:=f_mixed,fd_mixed:=fd16,f_tie:=f_tie,fd_tie:=fd17,f_web:=f_web,fd_web:=fd18,f_classes:=f_classes,fd_classes:=fd19,f_text:=f_text,fd_text:=fd20,f_l_is_name:=f_l_is_name,fd_l_is_name:=fd21,f_reading:=f_reading,fd_reading:=fd22,f_sign:=f_sign,fd_sign:=fd23,f_words:=f_words,fd_words:=fd24,f_spoilt:=f_spoilt,fd_spoilt:=fd25,f_right:=f_right,fd_right:=fd26,f_law:=fa,fd_law:=PySem.W.fnOf "law" "law" (defArgs s_law) (defBody s_law) (defScope s_law) .none kV27 dc27 pm27 an27 cd27 ct27,u_LETTERS:=.str "abcdefghijklmnopqrstuvwxyz" tk_LETTERS,u_MOST_LETTERS:=.int 4 tk_MOST_LETTERS,u_MOST_POINTS:=.int 9 tk_MOST_POINTS,u_MOST_TIES:=.int 20 tk_MOST_TIES,C_Web:=C_Web,C_PointError:=C_PointError,C_NoWeb:=C_NoWeb,C_NoText:=C_NoText,C_NoNumbers:=C_NoNumbers,C_NoLot:=C_NoLot,C_NoPoint:=C_NoPoint,C_NoPointing:=C_NoPointing,C_Parted:=C_Parted,C_Barred:=C_Barred,C_TooMuch:=C_TooMuch}:={F_is_list:=F1,b_is_list:=b1,m_is_list:=PySem.W.mg_of X G a1,F_is_name:=F2,b_is_name:=b2,m_is_name:=PySem.W.mg_of X G a2,F_are_points:=F3,b_are_points:=b3,m_are_points:=PySem.W.mg_of X G a3,F_is_tie:=F4,b_is_tie:=b4,m_is_tie:=PySem.W.mg_of X G a4,F_are_ties:=F5,b_are_ties:=b5,m_are_ties:=PySem.W.mg_of X G a5,F_Web_init:=F6,b_Web_init:=b6,F_Web_points:=F7,b_Web_points:=b7,M_Web_points:=⟨a7,i7,F7.kp⟩,F_Web_ties:=F8,b_Web_ties:=b8,M_Web_ties:=⟨a8,i8,F8.kp⟩,F_Web_many:=F9,b_Web_many:=b9,M_Web_many:=⟨a9,i9,F9.kp⟩,F_web_text:=F10,b_web_text:=b10,m_web_text:=PySem.W.mg_of X G a10,F_pairs_in:=F11,b_pairs_in:=b11,m_pairs_in:=PySem.W.mg_of X G a11,F_read_web:=F12,b_read_web:=b12,m_read_web:=PySem.W.mg_of X G a12,F_pot:=F13,b_pot:=b13,m_pot:=PySem.W.mg_of X G a13,F_take:=F14,b_take:=b14,m_take:=PySem.W.mg_of X G a14,F_names:=F15,b_names:=b15,m_names:=PySem.W.mg_of X G a15,F_mixed:=F16,b_mixed:=b16,m_mixed:=PySem.W.mg_of X G a16,F_tie:=F17,b_tie:=b17,m_tie:=PySem.W.mg_of X G a17,F_web:=F18,b_web:=b18,m_web:=PySem.W.mg_of X G a18,F_classes:=F19,b_classes:=b19,m_classes:=PySem.W.mg_of X G a19,F_text:=F20,b_text:=b20,m_text:=PySem.W.mg_of X G a20,F_l_is_name:=F21,b_l_is_name:=b21,m_l_is_name:=PySem.W.mg_of X G a21,F_reading:=F22,b_reading:=b22,m_reading:=PySem.W.mg_of X G a22,F_sign:=F23,b_sign:=b23,m_sign:=PySem.W.mg_of X G a23,F_words:=F24,b_words:=b24,m_words:=PySem.W.mg_of X G a24,F_spoilt:=F25,b_spoilt:=b25,m_spoilt:=PySem.W.mg_of X G a25,F_right:=F26,b_right:=b26,m_right:=PySem.W.mg_of X G a26,F_law:=F27,b_law:=b27,m_law:=PySem.W.mg_of X G a27,h_LETTERS:=PySem.W.mg_of X G u_LETTERS,r_LETTERS:=⟨tk_LETTERS,rfl⟩,h_MOST_LETTERS:=PySem.W.mg_of X G u_MOST_LETTERS,r_MOST_LETTERS:=⟨tk_MOST_LETTERS,rfl⟩,h_MOST_POINTS:=PySem.W.mg_of X G u_MOST_POINTS,r_MOST_POINTS:=⟨tk_MOST_POINTS,rfl⟩,h_MOST_TIES:=PySem.W.mg_of X G u_MOST_TIES,r_MOST_TIES:=⟨tk_MOST_TIES,rfl⟩,n_names:=na_names,n_pairs:=na_pairs,m_Web:=PySem.W.mg_of X G aC_Web,c_Web:=⟨pg_Web,hd_Web,po_Web,sa_Web⟩,K_Web:=⟨mk_Web,a6,i6,kc_Web⟩,nm:=⟨PySem.W.mg_none_of X G z_len,PySem.W.mg_none_of X G z_max,PySem.W.mg_none_of X G z_min,PySem.W.mg_none_of X G z_abs,PySem.W.mg_none_of X G z_divmod,PySem.W.mg_none_of X G z_range,PySem.W.mg_none_of X G z_zip,PySem.W.mg_none_of X G z_list,PySem.W.mg_none_of X G z_tuple,PySem.W.mg_none_of X G z_int,PySem.W.mg_none_of X G z_str,PySem.W.mg_none_of X G z_set,PySem.W.mg_none_of X G z_all,PySem.W.mg_none_of X G z_isinstance⟩,nm2:=⟨PySem.W.mg_none_of X G z_enumerate,PySem.W.mg_none_of X G z_any,PySem.W.mg_none_of X G z_dict,PySem.W.mg_none_of X G z_sorted,PySem.W.mg_none_of X G z_repr,PySem.W.mg_none_of X G z_bool⟩,nm3:=⟨PySem.W.mg_none_of X G z_sum⟩,m_PointError:=PySem.W.mg_of X G aC_PointError,m_NoWeb:=PySem.W.mg_of X G aC_NoWeb,m_NoText:=PySem.W.mg_of X G aC_NoText,m_NoNumbers:=PySem.W.mg_of X G aC_NoNumbers,m_NoLot:=PySem.W.mg_of X G aC_NoLot,m_NoPoint:=PySem.W.mg_of X G aC_NoPoint,m_NoPointing:=PySem.W.mg_of X G aC_NoPointing,m_Parted:=PySem.W.mg_of X G aC_Parted,m_Barred:=PySem.W.mg_of X G aC_Barred,m_TooMuch:=PySem.W.mg_of X G aC_TooMuch,x_NoText:=x_NoText,x_PointError:=x_PointError,x_NoWeb:=x_NoWeb,s_NoWeb:=⟨ms_NoWeb,mb_NoWeb⟩,l_NoText:=⟨⟨ga_NoText,gn_NoText,gc_NoText,sp_oc,tk_oc,mo_NoText,mb_NoText⟩,Option.isSome_iff_exists.mp (show (PySem.W.clsIn K C_NoText).isSome=true from cs_NoText)⟩,p_NoText_PointError:=⟨pm_NoText_PointError,ne_addr pn_NoText_PointError⟩,k_NoText_NoWeb:=kit_ref kn_NoText_NoWeb ki_NoWeb kt_NoWeb ks_NoText_NoWeb,k_NoText_NoText:=kit_self,k_NoText_NoNumbers:=kit_ref kn_NoText_NoNumbers ki_NoNumbers kt_NoNumbers ks_NoText_NoNumbers,k_NoText_NoLot:=kit_ref kn_NoText_NoLot ki_NoLot kt_NoLot ks_NoText_NoLot,k_NoText_NoPoint:=kit_ref kn_NoText_NoPoint ki_NoPoint kt_NoPoint ks_NoText_NoPoint,k_NoText_NoPointing:=kit_ref kn_NoText_NoPointing ki_NoPointing kt_NoPointing ks_NoText_NoPointing,k_NoText_Parted:=kit_ref kn_NoText_Parted ki_Parted kt_Parted ks_NoText_Parted,k_NoText_Barred:=kit_ref kn_NoText_Barred ki_Barred kt_Barred ks_NoText_Barred,k_NoText_TooMuch:=kit_ref kn_NoText_TooMuch ki_TooMuch kt_TooMuch ks_NoText_TooMuch,k_NoText_ValueError:=kit_ty kit_ve ks_NoText_VE,z_ValueError:=PySem.W.mg_none_of X G z_ValueError}
  exact ⟨_,fun s v=>.of_eq rfl,fun base _ _=>ok_law T⟩
theorem walk {l:PySem.W.OpenLaw} {q:Program} {loose:List Str} {XP:(Str→Option Value)→Heap→Prop} {YP:World→Heap→Prop} {d:DefRec} {K:Params→PySem.W.Frag} (hn:l.most=some 63) (hdf:d.params.defaults=[])
    (hY:∀(w:World) (h:Heap),YP w h→(K w.params).In h)
    (F:∀(w:World) (mg:Str→Option Value) (fa:Addr) (h:Heap),(K w.params).In h→h.Ns mainGlobals mg→mg d.name=some (.ref fa)→
      ∃fd:FuncData,(∀(s:Shared) (u:Value),BindsTo s fd ⟨[u],[]⟩ [("_law_script",u)])∧∀base:Heap,(K w.params).In base→base.Ns mainGlobals mg→FnOk l.prog w (K w.params) mg base CX0 9 fa fd ["_law_script"] (sp_law (K w.params))) :
    PySem.W.WalkO q loose XP YP l.row.toRowW d [] (fun f vs=>PySem.call f vs):=
  L2.walk_of (n:=63) (k:=9) (x:= "_law_script") (CX:=fun _=>CX0) (sp:=fun w=>sp_law (K w.params)) hn (by decide) hdf ⟨rfl,by decide,by decide,rfl⟩ hY F (fun _ _ a ns hl _ hS=>⟨a,ns,rfl,hS,hl,fun _=>rfl⟩) fun _ _ _ _ _ z=>z
end K14
end
set_option Elab.async false
set_option maxRecDepth 100000
set_option maxHeartbeats 4000000
open PySem PySem.W PyProof.Rows
namespace PySem.W.Fast
def tw13455162134331238207:=0
def tw655023877873093536:=0
def tw298388573281500389:=0
def tw761028953842963343:=0
def tw4716639137888350081:=0
def tw6526675959167659024:=0
def tw1489654830244877607:=0
def tw4244656170602903976:=0
def tw2640572684975958953:=0
def tw4862165785756334316:=0
def tw1678298050921506462:=0
def tw9426441009325020746:=0
def tw8275092856557718842:=0
def tw17099519918272927166:=0
def tw12567531396068588664:=0
def tw5514785756586796085:=0
def tw2080871046963622781:=0
def tw16606336944901877547:=0
def tw8257761846651081230:=0
def tw12256048453154399413:=0
def tw6408153268949069280:=0
def tw8881667000903775271:=0
def tw8777201219550247701:=0
def tw18211513429219920613:=0
def tw11877089920359825582:=0
def tw6527871206909629516:=0
def tw6366216056416271564:=0
def tw3264818262655608396:=0
def tw1734354730868800352:=0
def tw6167555300195849167:=0
def tw8878128443733743128:=0
def tw11306992957501946206:=0
def tw2370989672224508986:=0
def tw10960660844285612554:=0
def tw11952135492354206006:=0
def tw15138025406824995348:=0
def tw17474679281425809823:=0
def tw12501787694940920542:=0
def tw14584230405949311180:=0
def tw997626865977914316:=0
def tw3038307581718041571:=0
def tw8529461194992382387:=0
def tw12535947073189197932:=0
def tw6936285983988537483:=0
def tw9477483035396154375:=0
def tw18036986300130397689:=0
def tw18066308550782820228:=0
def tw123340660966764247:=0
def tw11245478342742403120:=0
def tw14263978268669272498:=0
def tw7330921503280940439:=0
def tw17302863714869241190:=0
def tw13529036728752627311:=0
def tw2911365580697958348:=0
def tw7666681532855365908:=0
def tw14414863793202437650:=0
def tw10959774566267581124:=0
def tw680643416040170628:=0
def tw4972757835103777837:=0
def tw18149463168452255701:=0
end PySem.W.Fast
set_option maxRecDepth 100000 in
set_option maxHeartbeats 0 in
theorem PySem.Challenge.cw_pointways_k14_whole_no_web_texts_holds : PySem.Challenge.rw_pointways_k14_whole_no_web_texts.Holds := by
  w_on;o_law;k_head;(case hw=>w_witness2)
  k_fill
  refine' K14.walk (l:=PySem.Challenge.rw_pointways_k14_whole_no_web_texts) rfl rfl (fun w h Y=>PySem.W.kIn_of Y) ?F
  case F=>
    intro w mg fa h KX G hmg
    refine' K14.all_mk KX G hmg ?aC_Web ?a1 ?F1 ?a2 ?F2 ?a3 ?F3 ?a4 ?F4 ?a5 ?F5 ?a6 ?i6 ?F6 ?a7 ?i7 ?F7 ?a8 ?i8 ?F8 ?a9 ?i9 ?F9 ?a10 ?F10 ?a11 ?F11 ?a12 ?F12 ?a13 ?F13 ?a14 ?F14 ?a15 ?F15 ?a16 ?F16 ?a17 ?F17 ?a18 ?F18 ?a19 ?F19 ?a20 ?F20 ?a21 ?F21 ?a22 ?F22 ?a23 ?F23 ?a24 ?F24 ?a25 ?F25 ?a26 ?F26 ?a27 ?l27 ?c27 ?k27 ?u_LETTERS ?u_MOST_LETTERS ?u_MOST_POINTS ?u_MOST_TIES ?pg_Web ?hd_Web ?po_Web ?sa_Web ?mk_Web ?kc_Web ?na_names ?na_pairs ?z_len ?z_max ?z_min ?z_abs ?z_divmod ?z_range ?z_zip ?z_list ?z_tuple ?z_int ?z_str ?z_set ?z_all ?z_isinstance ?z_enumerate ?z_any ?z_dict ?z_sorted ?z_repr ?z_bool ?z_sum ?aC_PointError ?aC_NoWeb ?aC_NoText ?aC_NoNumbers ?aC_NoLot ?aC_NoPoint ?aC_NoPointing ?aC_Parted ?aC_Barred ?aC_TooMuch ?x_NoText ?x_PointError ?x_NoWeb ?ms_NoWeb ?mb_NoWeb ?sp_oc ?tk_oc ?ga_NoText ?gn_NoText ?gc_NoText ?mo_NoText ?mb_NoText ?cs_NoText ?pm_NoText_PointError ?pn_NoText_PointError ?kn_NoText_NoWeb ?ks_NoText_NoWeb ?kn_NoText_NoNumbers ?ks_NoText_NoNumbers ?kn_NoText_NoLot ?ks_NoText_NoLot ?kn_NoText_NoPoint ?ks_NoText_NoPoint ?kn_NoText_NoPointing ?ks_NoText_NoPointing ?kn_NoText_Parted ?ks_NoText_Parted ?kn_NoText_Barred ?ks_NoText_Barred ?kn_NoText_TooMuch ?ks_NoText_TooMuch ?ks_NoText_VE ?ki_NoWeb ?kt_NoWeb ?ki_NoText ?kt_NoText ?ki_NoNumbers ?kt_NoNumbers ?ki_NoLot ?kt_NoLot ?ki_NoPoint ?kt_NoPoint ?ki_NoPointing ?kt_NoPointing ?ki_Parted ?kt_Parted ?ki_Barred ?kt_Barred ?ki_TooMuch ?kt_TooMuch ?z_ValueError
    case aC_Web | a1 | a2 | a3 | a4 | a5 | a6 | i6 | a7 | i7 | a8 | i8 | a9 | i9 | a10 | a11 | a12 | a13 | a14 | a15 | a16 | a17 | a18 | a19 | a20 | a21 | a22 | a23 | a24 | a25 | a26 | a27 | l27 | c27 | k27 | u_LETTERS | u_MOST_LETTERS | u_MOST_POINTS | u_MOST_TIES | pg_Web | hd_Web | po_Web | sa_Web | mk_Web | kc_Web | na_names | na_pairs | z_len | z_max | z_min | z_abs | z_divmod | z_range | z_zip | z_list | z_tuple | z_int | z_str | z_set | z_all | z_isinstance | z_enumerate | z_any | z_dict | z_sorted | z_repr | z_bool | z_sum | aC_PointError | aC_NoWeb | aC_NoText | aC_NoNumbers | aC_NoLot | aC_NoPoint | aC_NoPointing | aC_Parted | aC_Barred | aC_TooMuch | ms_NoWeb | mb_NoWeb | sp_oc | tk_oc | ga_NoText | gn_NoText | gc_NoText | mo_NoText | mb_NoText | cs_NoText | pm_NoText_PointError | ks_NoText_NoWeb | ks_NoText_NoNumbers | ks_NoText_NoLot | ks_NoText_NoPoint | ks_NoText_NoPointing | ks_NoText_Parted | ks_NoText_Barred | ks_NoText_TooMuch | ks_NoText_VE | ki_NoWeb | kt_NoWeb | ki_NoText | kt_NoText | ki_NoNumbers | kt_NoNumbers | ki_NoLot | kt_NoLot | ki_NoPoint | kt_NoPoint | ki_NoPointing | kt_NoPointing | ki_Parted | kt_Parted | ki_Barred | kt_Barred | ki_TooMuch | kt_TooMuch | z_ValueError=>k_is
    case F1 | F2 | F3 | F4 | F5 | F6 | F7 | F8 | F9 | F10 | F11 | F12 | F13 | F14 | F15 | F16 | F17 | F18 | F19 | F20 | F21 | F22 | F23 | F24 | F25 | F26=>refine' L2.fun_mk ?l ?c ?k;(case l=>k_is);(case c=>k_is);(case k=>k_is)
    case x_NoText | x_PointError | x_NoWeb=>k_exc
    case pn_NoText_PointError | kn_NoText_NoWeb | kn_NoText_NoNumbers | kn_NoText_NoLot | kn_NoText_NoPoint | kn_NoText_NoPointing | kn_NoText_Parted | kn_NoText_Barred | kn_NoText_TooMuch=>decide +kernel


