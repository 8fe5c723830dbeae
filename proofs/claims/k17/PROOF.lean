import PyProof.Rows.All
import Wide.All
import OpenK.AllK
import Wide.FinOn
import Lean
import PyProof.EqAt
import PyProof.EqKinds
import PyProof.TupleCall
import PyProof.NeData
import PyProof.AttrMissHeap
import PyProof.FactsAll.enumerate_1
import KE.KDictOf
import PyProof.EnumMake
import PyProof.Rows.SumAny
import PyProof.Rows.StrJoin2
import PyProof.Rows.CountFlat
import PyProof.Rows.FoldWordsD
import PyProof.Rows.SeqMore2
import PyProof.Rows.MinMaxN
import PyProof.Rows.StrInSeq3
import PyProof.Rows.ReprR
import PyProof.StrLawsRepr
import PySem.Challenge.RW_pointways_k17_refusals_made
set_option genSizeOfSpec false
noncomputable section
set_option Elab.async false
set_option linter.all false
set_option maxRecDepth 100000
namespace L2
open PySem PySem.Spec PyProof.Rows
abbrev Key := Sum Int Str
def keyIs : Key → Value → Bool
  | .inl k, v => Value.isInt k v
  | .inr x, v => Value.isStrOf x v
def keyH (w : World) : Key → Int
  | .inl k => hashInt k
  | .inr x => hashStr w x
theorem keyIs_shape : ∀ {k : Key} {v : Value}, keyIs k v = true → (∃ i t, k = Sum.inl i ∧ v = Value.int i t) ∨ (∃ x t, k = Sum.inr x ∧ v = Value.str x t)
  | .inl i, v, h => by
    obtain ⟨t, e⟩ := Value.isInt_shape (k := i) (v := v) h
    exact .inl ⟨i, t, rfl, e⟩
  | .inr x, v, h => by
    obtain ⟨t, e⟩ := Value.isStrOf_shape (x := x) (v := v) h
    exact .inr ⟨x, t, rfl, e⟩
theorem key_ll (a b : Int) : decide ((Sum.inl a : Key) = Sum.inl b) = (a == b) := by
  by_cases e : a = b
  · subst e; simp
  · have h : ¬ (Sum.inl a : Key) = Sum.inl b := fun q => e (Sum.inl.inj q)
    rw [decide_eq_false h]
    exact (beq_eq_false_iff_ne.mpr e).symm
theorem key_rr (a b : Str) : decide ((Sum.inr a : Key) = Sum.inr b) = decide (a = b) := by
  by_cases e : a = b
  · subst e; simp
  · have h : ¬ (Sum.inr a : Key) = Sum.inr b := fun q => e (Sum.inr.inj q)
    rw [decide_eq_false h, decide_eq_false e]
theorem key_lr (a : Int) (b : Str) : decide ((Sum.inl a : Key) = Sum.inr b) = false := decide_eq_false (fun q => nomatch q)
theorem key_rl (a : Str) (b : Int) : decide ((Sum.inr a : Key) = Sum.inl b) = false := decide_eq_false (fun q => nomatch q)
def mixKind (prog : Program) (w : World) : PySem.KeyKind prog w Key where
  is := keyIs
  hash := keyH w
  inj := fun v a b ha hb => by
    rcases keyIs_shape ha with ⟨i, t, rfl, rfl⟩ | ⟨x, t, rfl, rfl⟩
    · rcases keyIs_shape hb with ⟨j, u, rfl, e⟩ | ⟨y, u, rfl, e⟩
      · injection e with e1 _; rw [e1]
      · exact nomatch e
    · rcases keyIs_shape hb with ⟨j, u, rfl, e⟩ | ⟨y, u, rfl, e⟩
      · exact nomatch e
      · injection e with e1 _; rw [e1]
  byValue := fun k v h => by
    rcases keyIs_shape h with ⟨i, t, rfl, rfl⟩ | ⟨x, t, rfl, rfl⟩ <;> rfl
  pyHash := fun hv h => by
    rcases keyIs_shape hv with ⟨i, t, rfl, rfl⟩ | ⟨x, t, rfl, rfl⟩
    · exact wpAny_pyHash_int h
    · exact wpAny_pyHash_str h
  eqBool := fun hu hv h => by
    rcases keyIs_shape hu with ⟨i, t, rfl, rfl⟩ | ⟨x, t, rfl, rfl⟩
    · rcases keyIs_shape hv with ⟨j, u, rfl, rfl⟩ | ⟨y, u, rfl, rfl⟩
      · rw [key_ll] at h; exact wpAny_eqBool_int h
      · rw [key_lr] at h; exact SeqAt.EqAt.int_str i t y u _ _ _ _ h
    · rcases keyIs_shape hv with ⟨j, u, rfl, rfl⟩ | ⟨y, u, rfl, rfl⟩
      · rw [key_rl] at h; exact SeqAt.EqAt.str_int x t j u _ _ _ _ h
      · rw [key_rr] at h; exact wpAny_eqBool_str h
  «strs» := fun k x t v h => by
    rcases keyIs_shape h with ⟨i, u, rfl, e⟩ | ⟨y, u, rfl, e⟩
    · exact nomatch e
    · injection e with e1 _
      subst e1
      cases v <;> rfl
end L2
namespace L2
open PySem PySem.Spec PyProof.Rows
inductive V where
  | non | bl (b : Bool) | int (i : Int) | str (x : Str) | byt (b : Array UInt8) | flt (b : UInt64) | ref (a : Addr) | ty (n : String)
  deriving DecidableEq
def RelV : V → Value → Prop
  | .non, u => u = Value.none
  | .bl b, u => u = Value.bool b
  | .int i, u => ∃ t, u = Value.int i t
  | .str x, u => ∃ t, u = Value.str x t
  | .byt b, u => ∃ t, u = Value.bytes b t
  | .flt b, u => ∃ t, u = Value.float b t
  | .ref a, u => u = Value.ref a
  | .ty n, u => u = Value.type n
abbrev Vals : List V → List Value → Prop := Paired RelV
theorem Vals.length {xs : List V} {us : List Value} (r : Vals xs us) : xs.length = us.length := Paired.length r
theorem Vals.get : ∀ {xs : List V} {us : List Value} {i : Nat} {x : V}, Vals xs us → xs[i]? = some x → ∃ u, us[i]? = some u ∧ RelV x u
  | _, _, _, _, .nil, e => by simp at e
  | _, _, 0, _, .cons r _, e => by simp at e; subst e; exact ⟨_, rfl, r⟩
  | _, _, i + 1, x, .cons _ t, e => by
    obtain ⟨u, h1, h2⟩ := Vals.get (i := i) (x := x) t (by simpa using e)
    exact ⟨u, by simpa using h1, h2⟩
theorem Vals.set {x : V} {u : Value} (r : RelV x u) : ∀ {xs : List V} {us : List Value} (i : Nat), Vals xs us → Vals (xs.set i x) (us.set i u)
  | _, _, _, .nil => .nil
  | _, _, 0, .cons _ t => .cons r t
  | _, _, i + 1, .cons q t => .cons q (Vals.set r i t)
theorem Vals.append : ∀ {xs ys : List V} {us ws : List Value}, Vals xs us → Vals ys ws → Vals (xs ++ ys) (us ++ ws)
  | _, _, _, _, .nil, s => s
  | _, _, _, _, .cons r t, s => .cons r (Vals.append t s)
def RelO : Option V → Option Value → Prop
  | some v, some u => RelV v u
  | none, none => True
  | _, _ => False
def KV {κ : Type} : List (κ × V) → List (κ × Value) → Prop := Paired fun (p : κ × V) (q : κ × Value) => p.1 = q.1 ∧ RelV p.2 q.2
def kV : Key → V
  | .inl i => .int i
  | .inr x => .str x
inductive HO where
  | lst (xs : List V)
  | tup (xs : List V)
  | dK (kvs : List (Key × V)) | dT (kvs : List (List Key × V))
  | set (S : Int → Bool) (n : Nat)
  | ins (C dx : Addr) (fs : List (Str × V))
  | own (x : Addr)
  | xd (fs : List (Str × V))
  | met (f x : Addr)
  | rng (lo hi : Int)
  | frz (o : Obj) (u : HO)
  | tbl (ps : Array Value)
  | ext (φ : Heap → Prop)
abbrev Hp := Addr → Option HO
def upd (H : Hp) (a : Addr) (o : HO) : Hp := fun b => if b = a then some o else H b
theorem upd_same {H : Hp} {a : Addr} {o : HO} : upd H a o a = some o := by unfold upd; rw [if_pos rfl]
theorem upd_ne {H : Hp} {a b : Addr} {o : HO} (h : b ≠ a) : upd H a o b = H b := by unfold upd; rw [if_neg h]
theorem ne_of_none {H : Hp} {a b : Addr} {o : HO} (h : H a = some o) (h' : H b = none) : a ≠ b := by
  intro e; subst e; rw [h] at h'; cases h'
section
variable (P : Program) (w : World)
def ObjOk (H : Hp) (h : Heap) (a : Addr) : HO → Prop
  | .lst xs => xs.length ≤ sizeLine ∧ ∃ (its : List Value) (n : Nat), Vals xs its ∧ h.get? a = some { cls := .type "list", data := .seq its.toArray n }
  | .tup xs => xs.length ≤ sizeLine ∧ ∃ its : List Value, Vals xs its ∧ IsTup h a its.toArray
  | .dK kvs => kvs.length ≤ sizeLine ∧ (a == sysModules) = false ∧ ∃ vs, KV kvs vs ∧ h.DictOf (mixKind P w) a vs
  | .dT kvs => kvs.length ≤ sizeLine ∧ (a == sysModules) = false ∧ ∃ xs : List (List Key × Addr × Value),
      Paired (fun (p : List Key × V) (q : List Key × Addr × Value) => p.1 = q.1 ∧ H q.2.1 = some (.tup (p.1.map kV)) ∧ RelV p.2 q.2.2) kvs xs ∧
      ∃ o es ep, h.get? a = some o ∧ o.ExactDict ∧ o.data = .dict es ep ∧ es.toList = xs.map (entryOfKey (tupleKind (mixKind P w))) ∧ (xs.map (·.1)).Nodup
  | .set S n => h.SetOf (intKind P w) a S n
  | .ins C dx fs => H dx = some (.own a) ∧ fs.length ≤ 1000 ∧ dx ≠ a ∧ h.get? a = some (PySem.W.instObj C dx) ∧
      ∃ mA, h.Ns1 dx mA ∧ (∀ f, RelO (fs.lookup f) (mA f)) ∧ PySem.Within mA (fs.map (·.1))
  | .own _ => ∃ o, h.get? a = some o
  | .xd fs => ∃ mA, h.Ns1 a mA ∧ ∀ f, RelO (fs.lookup f) (mA f)
  | .rng lo hi => ∃ t u v, h.get? a = some { cls := .type "range", data := .fields #[.int lo t, .int hi u, .int 1 v] }
  | .frz o u => h.get? a = some o ∧ ObjOk H h a u
  | .tbl ps => h.get? a = some { cls := .none, data := .fields ps }
  | .met f x => h.get? a = some (PySem.W.methodObj (.ref f) (.ref x))
  | .ext φ => φ h ∧ (∃ o, h.get? a = some o) ∧ ∀ h1 h2 : Heap, φ h1 → (∀ o, h1.get? a = some o → h2.get? a = some o) → φ h2
def HOk (H : Hp) (h : Heap) : Prop := ∀ a o, H a = some o → ObjOk P w H h a o
end
section
variable {P : Program} {w : World} {H H' : Hp} {h h' : Heap} {a : Addr} {o : HO}
theorem ObjOk.lt (x : ObjOk P w H h a o) : a < h.objs.size := by
  cases o with
  | lst xs => obtain ⟨_, _, _, _, e⟩ := x; exact Heap.lt_size e
  | tup xs => obtain ⟨_, _, _, p⟩ := x; exact p.lt
  | dK kvs => obtain ⟨_, _, _, _, o, _, _, e, _⟩ := x; exact Heap.lt_size e
  | dT kvs => obtain ⟨_, _, _, _, o, _, _, e, _⟩ := x; exact Heap.lt_size e
  | set S n => obtain ⟨o, _, _, _, e, _⟩ := x; exact Heap.lt_size e
  | ins C dx fs => obtain ⟨_, _, _, e, _⟩ := x; exact Heap.lt_size e
  | own y => obtain ⟨_, e⟩ := x; exact Heap.lt_size e
  | xd fs => obtain ⟨_, ⟨_, _, _, e, _⟩, _⟩ := x; exact Heap.lt_size e
  | rng lo hi => obtain ⟨_, _, _, e⟩ := x; exact Heap.lt_size e
  | frz ob u => obtain ⟨e, _⟩ := x; exact Heap.lt_size e
  | tbl ps => exact Heap.lt_size (show h.get? a = some _ from x)
  | met f y => exact Heap.lt_size (show h.get? a = some _ from x)
  | ext φ => obtain ⟨_, ⟨_, e⟩, _⟩ := x; exact Heap.lt_size e
theorem Paired.mapP {α β : Type} {F G : α → β → Prop} : ∀ {l₁ : List α} {l₂ : List β}, Paired F l₁ l₂ → (∀ a b, F a b → G a b) → Paired G l₁ l₂
  | _, _, .nil, _ => .nil
  | _, _, .cons r t, f => .cons (f _ _ r) (Paired.mapP t f)
theorem ObjOk.stay (x : ObjOk P w H h a o) (k : ∀ b u, (b = a ∨ H b = some (.own a)) → h.get? b = some u → h'.get? b = some u)
    (ho : ∀ b, H b = some (.own a) → H' b = some (.own a)) (ht : ∀ b xs, H b = some (.tup xs) → H' b = some (.tup xs)) : ObjOk P w H' h' a o := by
  induction o with
  | lst xs => obtain ⟨z, its, n, r, e⟩ := x; exact ⟨z, its, n, r, k _ _ (.inl rfl) e⟩
  | tup xs => obtain ⟨z, its, r, ob, e, c⟩ := x; exact ⟨z, its, r, ob, k _ _ (.inl rfl) e, c⟩
  | dK kvs => obtain ⟨z, y, vs, r, ob, es, ep, e, c⟩ := x; exact ⟨z, y, vs, r, ob, es, ep, k _ _ (.inl rfl) e, c⟩
  | dT kvs =>
    obtain ⟨z, y, xs, r, ob, es, ep, e, c⟩ := x
    exact ⟨z, y, xs, Paired.mapP r fun p q z => ⟨z.1, ht _ _ z.2.1, z.2.2⟩, ob, es, ep, k _ _ (.inl rfl) e, c⟩
  | set S n => obtain ⟨ob, es, ep, t, e, c⟩ := x; exact ⟨ob, es, ep, t, k _ _ (.inl rfl) e, c⟩
  | ins C dx fs =>
    obtain ⟨d, z, ne, e, mA, ⟨od, es, ep, e2, c⟩, r⟩ := x
    exact ⟨ho _ d, z, ne, k _ _ (.inl rfl) e, mA, ⟨od, es, ep, k _ _ (.inr d) e2, c⟩, r⟩
  | own y => obtain ⟨ob, e⟩ := x; exact ⟨ob, k _ _ (.inl rfl) e⟩
  | xd fs => obtain ⟨mA, ⟨od, es, ep, e, c⟩, r⟩ := x; exact ⟨mA, ⟨od, es, ep, k _ _ (.inl rfl) e, c⟩, r⟩
  | rng lo hi => obtain ⟨t, u, v, e⟩ := x; exact ⟨t, u, v, k _ _ (.inl rfl) e⟩
  | frz ob u ih => obtain ⟨e, q⟩ := x; exact ⟨k _ _ (.inl rfl) e, ih q⟩
  | tbl ps =>
    have e : h.get? a = some { cls := .none, data := .fields ps } := x
    show h'.get? a = some { cls := .none, data := .fields ps }
    exact k a _ (.inl rfl) e
  | met f y =>
    have e : h.get? a = some (PySem.W.methodObj (.ref f) (.ref y)) := x
    show h'.get? a = some (PySem.W.methodObj (.ref f) (.ref y))
    exact k a _ (.inl rfl) e
  | ext φ => obtain ⟨p, ⟨o, e⟩, st⟩ := x; exact ⟨st _ _ p fun o q => k _ _ (.inl rfl) q, ⟨o, k _ _ (.inl rfl) e⟩, st⟩
theorem HOk.lt (x : HOk P w H h) (e : H a = some o) : a < h.objs.size := (x a o e).lt
theorem HOk.fresh (x : HOk P w H h) (e : h.objs.size ≤ a) : H a = none := by
  cases q : H a with
  | none => rfl
  | some u => exact absurd (Nat.lt_of_lt_of_le (x.lt q) e) (Nat.lt_irrefl _)
theorem HOk.kept (x : HOk P w H h) (k : ∀ b u, h.get? b = some u → h'.get? b = some u) : HOk P w H h' := fun a o e =>
  (x a o e).stay (fun b u _ q => k b u q) (fun _ q => q) fun _ _ q => q
theorem HOk.laid (x : HOk P w H h) (k : ∀ b u, h.get? b = some u → h'.get? b = some u) (hp : h.objs.size ≤ a) (new : ObjOk P w (upd H a o) h' a o) : HOk P w (upd H a o) h' := fun b u e => by
  have hn := x.fresh hp
  by_cases hb : b = a
  · subst hb; rw [upd_same] at e; cases e; exact new
  · rw [upd_ne hb] at e
    exact (x b u e).stay (fun c v _ q => k c v q) (fun c q => by rw [upd_ne (ne_of_none q hn)]; exact q) fun c xs q => by rw [upd_ne (ne_of_none q hn)]; exact q
end
def Rd (H : Hp) (a : Addr) (u : HO) : Prop := H a = some u ∨ ∃ o, H a = some (.frz o u)
theorem Rd.ok {P : Program} {w : World} {H : Hp} {h : Heap} {a : Addr} {u : HO} (r : Rd H a u) (x : HOk P w H h) : ObjOk P w H h a u := by
  rcases r with r | ⟨o, r⟩
  · exact x a u r
  · obtain ⟨_, q⟩ := x a _ r
    exact q
def Mut : Option HO → Prop
  | some (.lst _) => True
  | some (.dK _) => True
  | some (.dT _) => True
  | some (.set _ _) => True
  | some (.ins _ _ _) => True
  | some (.ext _) => True
  | _ => False
section
variable {P : Program} {w : World} {H : Hp} {h h' : Heap} {x e : Addr} {o' : HO}
theorem HOk.write (ok : HOk P w H h) (mu : Mut (H x)) (he : e = x ∨ H e = some (.own x)) (k : ∀ b u, b ≠ e → h.get? b = some u → h'.get? b = some u) (heo : ∃ u, h'.get? e = some u)
    (new : ObjOk P w (upd H x o') h' x o') : HOk P w (upd H x o') h' := fun b u q => by
  have nown : ∀ c y, H c = some (.own y) → c ≠ x := fun c y r z => by subst z; rw [r] at mu; exact mu
  have ntup : ∀ c xs, H c = some (.tup xs) → c ≠ x := fun c xs r z => by subst z; rw [r] at mu; exact mu
  by_cases hb : b = x
  · subst hb; rw [upd_same] at q; cases q; exact new
  · rw [upd_ne hb] at q
    by_cases hbe : b = e
    · have q' : H b = some (.own x) := by
        rcases he with z | z
        · exact absurd (hbe.trans z) hb
        · rw [hbe]; exact z
      rw [q] at q'; cases q'
      obtain ⟨v, hv⟩ := heo
      exact ⟨v, by rw [hbe]; exact hv⟩
    · refine (ok b u q).stay (fun c v hc r => k c v ?_ r) (fun c r => by rw [upd_ne (nown c b r)]; exact r) fun c xs r => by rw [upd_ne (ntup c xs r)]; exact r
      rcases hc with rfl | hc
      · exact hbe
      · rintro rfl
        rcases he with z | z
        · exact nown c b hc z
        · rw [hc] at z; cases z; exact hb rfl
end
structure Un (fs ex : List Addr) (H H' : Hp) (h h' : Heap) : Prop where
  keep : ∀ b o, h.get? b = some o → H b = none → b ∉ fs → b ∉ ex → h'.get? b = some o
  slot : ∀ b o, h.get? b = some o → H b = none → b ∈ fs → b ∉ ex → ∃ sl, h'.get? b = some { o with slots := sl }
  free : ∀ b o, h.get? b = some o → H b = none → b ∉ ex → H' b = none
  there : ∀ b o, h.get? b = some o → b ∉ ex → ∃ o', h'.get? b = some o'
  tups : ∀ b xs, H b = some (.tup xs) → H' b = some (.tup xs)
  frzs : ∀ b o u, H b = some (.frz o u) → H' b = some (.frz o u)
  tbls : ∀ b ps, H b = some (.tbl ps) → ∃ more, H' b = some (.tbl (ps ++ more))
section
variable {fs fs' ex ex' : List Addr} {H H1 H2 : Hp} {h h1 h2 h' : Heap} {a x e : Addr} {o : HO}
theorem Un.any (u : Un fs ex H H1 h h1) {b : Addr} {ob : Obj} (q : h.get? b = some ob) (n : H b = none) (hx : b ∉ ex) : ∃ sl, h1.get? b = some { ob with slots := sl } := by
  by_cases hb : b ∈ fs
  · exact u.slot b ob q n hb hx
  · exact ⟨ob.slots, u.keep b ob q n hb hx⟩
theorem Un.kept (k : ∀ b u, h.get? b = some u → h'.get? b = some u) : Un fs ex H H h h' :=
  ⟨fun b ob q _ _ _ => k b ob q, fun b ob q _ _ _ => ⟨ob.slots, k b ob q⟩, fun _ _ _ n _ => n, fun b ob q _ => ⟨ob, k b ob q⟩, fun _ _ q => q, fun _ _ _ q => q, fun _ ps q => ⟨#[], by rw [q]; simp⟩⟩
theorem Un.refl : Un fs ex H H h h := Un.kept fun _ _ q => q
theorem Un.laid (k : ∀ b u, h.get? b = some u → h'.get? b = some u) (hp : h.objs.size ≤ a) (hn : H a = none) : Un fs ex H (upd H a o) h h' where
  keep := fun b u q _ _ _ => k b u q
  slot := fun b u q _ _ _ => ⟨u.slots, k b u q⟩
  free := fun b u q n _ => by rw [upd_ne (Nat.ne_of_lt (Nat.lt_of_lt_of_le (Heap.lt_size q) hp))]; exact n
  there := fun b u q _ => ⟨u, k b u q⟩
  tups := fun b xs q => by rw [upd_ne (ne_of_none q hn)]; exact q
  frzs := fun b u xs q => by rw [upd_ne (ne_of_none q hn)]; exact q
  tbls := fun b ps q => ⟨#[], by rw [upd_ne (ne_of_none q hn), q]; simp⟩
theorem Un.write (mu : Mut (H x)) (he : e = x ∨ H e = some (.own x)) (k : ∀ b u, b ≠ e → h.get? b = some u → h'.get? b = some u) (heo : ∃ u, h'.get? e = some u) : Un fs ex H (upd H x o) h h' := by
  have hx : ∀ b, H b = none → b ≠ x := fun b n z => by subst z; rw [n] at mu; exact mu
  have hb : ∀ b, H b = none → b ≠ e := fun b n z => by
    subst z
    rcases he with r | r
    · exact hx b n r
    · rw [n] at r; cases r
  have hm : ∀ b u, H b = some u → ¬ Mut (some u) → b ≠ x := fun b u q nm z => by subst z; rw [q] at mu; exact nm mu
  refine ⟨fun b u q n _ _ => k b u (hb b n) q, fun b u q n _ _ => ⟨u.slots, k b u (hb b n) q⟩, fun b u q n _ => by rw [upd_ne (hx b n)]; exact n, fun b u q _ => ?_,
    fun b xs q => by rw [upd_ne (hm b _ q fun z => z)]; exact q, fun b u xs q => by rw [upd_ne (hm b _ q fun z => z)]; exact q, fun b ps q => ⟨#[], by rw [upd_ne (hm b _ q fun z => z), q]; simp⟩⟩
  by_cases hbe : b = e
  · subst hbe; exact heo
  · exact ⟨u, k b u hbe q⟩
end
def trk (h : Heap) (H : Hp) : List Addr := (List.range h.objs.size).filter fun a => (H a).isSome
def hidT (h : Heap) (H : Hp) : Heap := PySem.W.hideAll h (trk h H)
theorem hidT_size (h : Heap) (H : Hp) : (hidT h H).objs.size = h.objs.size := PySem.W.hideAll_size _ _
theorem hidT_get {h : Heap} {H : Hp} {b : Addr} {o : Obj} (e : h.get? b = some o) (n : H b = none) : (hidT h H).get? b = some o :=
  PySem.W.hideAll_get _ e fun hm => by
    have q : (H b).isSome = true := (List.mem_filter.mp hm).2
    rw [n] at q; simp at q
theorem of_hidT {h : Heap} {H : Hp} {b : Addr} {o : Obj} (e : (hidT h H).get? b = some o) : h.get? b = some o ∧ H b = none := by
  have e' : h.get? b = some o := PySem.W.of_hideAll (trk h H) e
  refine ⟨e', ?_⟩
  cases q : H b with
  | none => rfl
  | some x =>
    have hm : b ∈ trk h H := List.mem_filter.mpr ⟨List.mem_range.mpr (Heap.lt_size e'), by simp [q]⟩
    have z : (hidT h H).get? b = none := PySem.W.hideAll_none (trk h H) hm
    rw [z] at e; cases e
def allNews (g h : Heap) (L : Addr) : List (Addr × Obj) := (List.range h.objs.size).filterMap fun a => if a = L ∨ (g.get? a).isSome = true then none else (h.get? a).map fun o => (a, o)
def rest (g h : Heap) (L d : Addr) : List (Addr × Obj) := (allNews g h L).filter fun p => decide (p.1 ≠ d)
end L2
namespace L2
open PySem PySem.Spec PyProof.Rows
structure Mod (K : PySem.W.Frag) (mg : Str → Option Value) (base : Heap) : Prop where
  kin : K.In base
  glob : base.Ns mainGlobals mg
  blt : ∃ mb, base.Ns builtinsNs mb ∧ ∀ x : Str, x ≠ "__name__" → mb x = bootBuiltins x
  nolimit : base.NoLimit
set_option genInjectivity false in
structure Cx where
  prog : Program
  w : World
  K : PySem.W.Frag
  mg : Str → Option Value
  base : Heap
  A : Around
  N : List Str
  s₀ : Shared
  H₀ : Hp
  env : Env
  outer : List Env
  stack : List Env
  ex : List Addr
  fn : Str → Bool
  calm : Bool
  pn : List (Addr × Obj)
  xe : Value → Shared → Prop
def frs (l : List Env) : List Addr := l.filterMap (·.frame)
abbrev Cx.fs (X : Cx) : List Addr := frs X.outer
def Vis (sc : Scope) (x : Str) : Prop := sc.names.lookup x = some .local ∨ sc.names.lookup x = some .cell ∨ sc.names.lookup x = some .free
def Loc (sc : Scope) (x : Str) : Prop := sc.names.lookup x = some .local ∨ sc.names.lookup x = some .cell
def Look (env : Env) (h : Heap) (m : Str → Option Value) (x : Str) (u : Value) : Prop :=
  (env.kindOf x = some .local ∧ m x = some u) ∨ ((env.kindOf x = some .cell ∨ env.kindOf x = some .free) ∧ ∃ c, env.cells.lookup x = some c ∧ h.IsCell c (some u))
structure Cx.Ok (X : Cx) : Prop where
  mod : Mod X.K X.mg X.base
  kind : X.env.scope.kind = .function
  glob : X.env.globals = mainGlobals
  blt : X.env.builtins = builtinsNs
  above : X.s₀.heap.objs.size ≤ X.env.locals
  inj : ∀ x y c, X.env.cells.lookup x = some c → X.env.cells.lookup y = some c → x = y
  has : ∀ x, (X.env.kindOf x = some .cell ∨ X.env.kindOf x = some .free) → ∃ c, X.env.cells.lookup x = some c
  cab : ∀ x c, X.fn x = true → X.env.cells.lookup x = some c → X.s₀.heap.objs.size ≤ c
  hd : X.calm = true → X.A.handled = none
  frames : X.A.frames = some X.stack
  stk : X.stack = X.outer ∨ (X.stack = X.env :: X.outer ∧ X.env.frame = some X.env.locals)
  exf : ∀ b ∈ X.ex, b ≠ X.env.locals ∧ ∀ x c, X.env.cells.lookup x = some c → c ≠ b
  bs : ∀ b o, X.base.get? b = some o → X.s₀.heap.get? b = some o ∧ X.H₀ b = none
  bsz : X.base.objs.size ≤ X.s₀.heap.objs.size
  noex : ∀ b o, X.base.get? b = some o → b ∉ X.ex
  exfs : ∀ b ∈ X.ex, b ∉ X.fs
  funs : X.s₀.heap.FunFrames X.base X.outer
  frf : ∀ b ∈ X.fs, X.H₀ b = none
structure Inv (X : Cx) (pins : List (Addr × Obj)) (σ : List (Option V)) (H : Hp) (s : Shared) : Prop where
  ok : X.Ok
  os : s.os = X.s₀.os
  bare : AllBare s.gens
  base : Un X.fs X.ex X.H₀ H X.s₀.heap s.heap
  loc : ∃ m, s.heap.Ns X.env.locals m ∧ ∀ (i : Nat) (x : Str) (v : V), X.N[i]? = some x → σ[i]? = some (some v) → Vis X.env.scope x → ∃ u, RelV v u ∧ Look X.env s.heap m x u
  cell : ∀ x c, X.env.cells.lookup x = some c → ∃ v, s.heap.IsCell c v
  free : H X.env.locals = none
  freeC : ∀ x c, X.env.cells.lookup x = some c → H c = none
  pin : ∀ p ∈ X.pn ++ pins, s.heap.get? p.1 = some p.2 ∧ H p.1 = none ∧ p.1 ≠ X.env.locals ∧ p.1 ∉ X.fs ∧ ∀ v, p.2.data ≠ .cell v
  hok : HOk X.prog X.w H s.heap
  len : σ.length = X.N.length
section
variable {X : Cx} {pins : List (Addr × Obj)} {σ : List (Option V)} {H H' : Hp} {s : Shared} {h' : Heap}
theorem Cx.Ok.nofr (ok : X.Ok) {b : Addr} {o : Obj} (e : X.base.get? b = some o) : b ∉ X.fs := fun hb => by
  have := (ok.funs.mem hb).1
  rw [e] at this; cases this
theorem Inv.bs (I : Inv X pins σ H s) : ∀ b o, X.base.get? b = some o → s.heap.get? b = some o ∧ H b = none := fun b o e =>
  ⟨I.base.keep b o (I.ok.bs b o e).1 (I.ok.bs b o e).2 (I.ok.nofr e) (I.ok.noex b o e), I.base.free b o (I.ok.bs b o e).1 (I.ok.bs b o e).2 (I.ok.noex b o e)⟩
theorem Inv.bk (I : Inv X pins σ H s) : ∀ b o, X.base.get? b = some o → s.heap.get? b = some o := fun b o e => (I.bs b o e).1
theorem Inv.mod (I : Inv X pins σ H s) : Mod X.K X.mg X.base := I.ok.mod
theorem Inv.kIn (I : Inv X pins σ H s) : X.K.In s.heap := I.ok.mod.kin.keeps I.bk
theorem Inv.lt (I : Inv X pins σ H s) : X.env.locals < s.heap.objs.size := let ⟨_, hn, _⟩ := I.loc; hn.lt
theorem Inv.sz (I : Inv X pins σ H s) : X.s₀.heap.objs.size ≤ s.heap.objs.size := Nat.le_trans I.ok.above (Nat.le_of_lt I.lt)
theorem Inv.nofs (I : Inv X pins σ H s) {a : Addr} (h : s.heap.objs.size ≤ a) : a ∉ X.fs := fun hb => by
  obtain ⟨_, o, ho, _⟩ := I.ok.funs.mem hb
  exact absurd (Nat.lt_of_lt_of_le (Heap.lt_size ho) (Nat.le_trans I.sz h)) (Nat.lt_irrefl _)
theorem Inv.cne (I : Inv X pins σ H s) : ∀ x c, X.env.cells.lookup x = some c → c ≠ X.env.locals := fun x c e z => by
  obtain ⟨v, o, ho, hd⟩ := I.cell x c e
  obtain ⟨m, ⟨o', es, ep, ho', hd', _⟩, _⟩ := I.loc
  rw [z, ho'] at ho; cases ho; rw [hd'] at hd; cases hd
theorem Inv.funs (I : Inv X pins σ H s) : s.heap.FunFrames X.base X.outer := by
  have all : ∀ (l : List Env), (∀ b ∈ frs l, b ∈ X.fs) → X.s₀.heap.FunFrames X.base l → s.heap.FunFrames X.base l := by
    intro l
    induction l with
    | nil => intro _ _; trivial
    | cons env r ih =>
      intro hs hl
      obtain ⟨hk, ⟨L, o, hf, hn, ho, hd⟩, hr⟩ := hl
      have hL : L ∈ X.fs := hs L (by unfold frs; rw [List.filterMap_cons, hf]; exact List.mem_cons_self)
      obtain ⟨sl, e⟩ := I.base.slot L o ho (I.ok.frf L hL) hL fun z => I.ok.exfs L z hL
      exact ⟨hk, ⟨L, _, hf, hn, e, hd⟩, ih (fun b hb => hs b (by unfold frs; rw [List.filterMap_cons, hf]; exact List.mem_cons_of_mem _ hb)) hr⟩
  exact all X.outer (fun _ hb => hb) I.ok.funs
theorem Inv.stack (I : Inv X pins σ H s) : s.heap.FunFrames X.base X.stack := by
  rcases I.ok.stk with e | ⟨e, hf⟩
  · rw [e]; exact I.funs
  · rw [e]
    obtain ⟨m, hn, _⟩ := I.loc
    refine .cons (by rw [I.ok.kind]; decide) hf hn ?_ I.funs
    exact Heap.get?_none_of_le (Nat.le_trans I.ok.bsz I.ok.above)
theorem Inv.stkSub (I : Inv X pins σ H s) : ∀ b ∈ frs X.stack, b ∈ X.env.locals :: X.fs := fun b hb => by
  rcases I.ok.stk with e | ⟨e, hf⟩
  · rw [e] at hb; exact List.mem_cons_of_mem _ hb
  · rw [e] at hb
    unfold frs at hb
    rw [List.filterMap_cons, hf] at hb
    exact hb
theorem Inv.stkFree (I : Inv X pins σ H s) : ∀ b ∈ frs X.stack, H b = none := fun b hb => by
  rcases List.mem_cons.mp (I.stkSub b hb) with e | hb
  · rw [e]; exact I.free
  · obtain ⟨_, o, ho, _⟩ := I.ok.funs.mem hb
    exact I.base.free b o ho (I.ok.frf b hb) fun z => I.ok.exfs b z hb
theorem Inv.step {g' : Array GenState} {t' : Nat} {d' : Drawn} {ch : List Addr} (I : Inv X pins σ H s)
    (hch : ∀ b ∈ ch, (b ∈ X.ex ∨ X.s₀.heap.objs.size ≤ b) ∧ b ≠ X.env.locals ∧ (∀ x c, X.env.cells.lookup x = some c → c ≠ b) ∧ ∀ p ∈ X.pn ++ pins, p.1 ≠ b)
    (keep : ∀ b o, b ≠ X.env.locals → b ∉ X.fs → b ∉ ch → s.heap.get? b = some o → H b = none → h'.get? b = some o)
    (slot : ∀ b o, b ≠ X.env.locals → b ∈ X.fs → b ∉ ch → s.heap.get? b = some o → H b = none → ∃ sl, h'.get? b = some { o with slots := sl }) (free : ∀ b o, b ∉ ch → s.heap.get? b = some o → H b = none → H' b = none)
    (there : ∀ b o, b ∉ ch → s.heap.get? b = some o → ∃ o', h'.get? b = some o')
    (tups : ∀ b xs, H b = some (.tup xs) → H' b = some (.tup xs)) (frzs : ∀ b o u, H b = some (.frz o u) → H' b = some (.frz o u)) (tbls : ∀ b ps, H b = some (.tbl ps) → ∃ more, H' b = some (.tbl (ps ++ more)))
    (ns : ∀ m, s.heap.Ns X.env.locals m → h'.Ns X.env.locals m) (hok : HOk X.prog X.w H' h') (hg : AllBare g') :
    Inv X pins σ H' { s with heap := h', gens := g', drawn := d', toks := t' } := by
  have neL : ∀ b o, X.s₀.heap.get? b = some o → b ≠ X.env.locals := fun b o e => Nat.ne_of_lt (Nat.lt_of_lt_of_le (Heap.lt_size e) I.ok.above)
  have neC : ∀ b o, X.s₀.heap.get? b = some o → b ∉ X.ex → b ∉ ch := fun b o e hx hb => by
    rcases (hch b hb).1 with z | z
    · exact hx z
    · exact absurd (Nat.lt_of_lt_of_le (Heap.lt_size e) z) (Nat.lt_irrefl _)
  have cellK : ∀ x c, X.env.cells.lookup x = some c → ∀ v, s.heap.IsCell c v → h'.IsCell c v := fun x c e v ⟨o, ho, hd⟩ => by
    have nch : c ∉ ch := fun z => (hch c z).2.2.1 x c e rfl
    by_cases hc : c ∈ X.fs
    · obtain ⟨sl, q⟩ := slot c o (I.cne x c e) hc nch ho (I.freeC x c e)
      exact ⟨_, q, hd⟩
    · exact ⟨o, keep c o (I.cne x c e) hc nch ho (I.freeC x c e), hd⟩
  refine ⟨I.ok, I.os, hg, ⟨fun b o e n hb hx => ?_, fun b o e n hb hx => ?_, fun b o e n hx => ?_, fun b o e hx => ?_, fun b xs e => tups b xs (I.base.tups b xs e), fun b o xs e => frzs b o xs (I.base.frzs b o xs e), fun b ps e => ?_⟩, ?_, fun x c e => ?_, ?_, fun x c e => ?_, fun p hp => ?_, hok, I.len⟩
  · exact keep b o (neL b o e) hb (neC b o e hx) (I.base.keep b o e n hb hx) (I.base.free b o e n hx)
  · obtain ⟨sl, e1⟩ := I.base.slot b o e n hb hx
    obtain ⟨sl', e2⟩ := slot b _ (neL b o e) hb (neC b o e hx) e1 (I.base.free b o e n hx)
    exact ⟨sl', e2⟩
  · obtain ⟨o', e1⟩ := I.base.there b o e hx
    exact free b o' (neC b o e hx) e1 (I.base.free b o e n hx)
  · obtain ⟨o', e1⟩ := I.base.there b o e hx
    exact there b o' (neC b o e hx) e1
  · obtain ⟨m1, e1⟩ := I.base.tbls b ps e
    obtain ⟨m2, e2⟩ := tbls b _ e1
    exact ⟨m1 ++ m2, by rw [e2, Array.append_assoc]⟩
  · obtain ⟨m, hn, hl⟩ := I.loc
    refine ⟨m, ns m hn, fun i x v e1 e2 e3 => ?_⟩
    obtain ⟨u, r, l⟩ := hl i x v e1 e2 e3
    refine ⟨u, r, ?_⟩
    rcases l with l | ⟨k, c, e, z⟩
    · exact .inl l
    · exact .inr ⟨k, c, e, cellK x c e _ z⟩
  · obtain ⟨v, z⟩ := I.cell x c e
    exact ⟨v, cellK x c e v z⟩
  · obtain ⟨m, ⟨o, _, _, ho, _⟩, _⟩ := I.loc
    exact free _ o (fun z => (hch _ z).2.1 rfl) ho I.free
  · obtain ⟨v, o, ho, hd⟩ := I.cell x c e
    exact free c o (fun z => (hch c z).2.2.1 x c e rfl) ho (I.freeC x c e)
  · obtain ⟨e, n, ne, nf, d⟩ := I.pin p hp
    have nch : p.1 ∉ ch := fun z => (hch p.1 z).2.2.2 p hp rfl
    exact ⟨keep p.1 p.2 ne nf nch e n, free p.1 p.2 nch e n, ne, nf, d⟩
theorem Inv.un {t' : Nat} (I : Inv X pins σ H s) (u : Un X.fs [] H H' s.heap h') (hok : HOk X.prog X.w H' h') : Inv X pins σ H' { s with heap := h', toks := t' } := by
  obtain ⟨m, ⟨o, es, ep, ho, r⟩, _⟩ := id I.loc
  obtain ⟨sl, hL⟩ := u.any ho I.free (by simp)
  exact I.step (g' := s.gens) (d' := s.drawn) (ch := []) (fun _ z => nomatch z) (fun b o _ hb _ e n => u.keep b o e n hb (by simp)) (fun b o _ hb _ e n => u.slot b o e n hb (by simp)) (fun b o _ e n => u.free b o e n (by simp)) (fun b o _ e => u.there b o e (by simp)) u.tups u.frzs u.tbls (fun m' hm => by
    obtain ⟨o', es', ep', ho', r'⟩ := hm
    rw [ho] at ho'; cases ho'
    exact ⟨_, es', ep', hL, r'⟩) hok I.bare
theorem Inv.call {g' : Array GenState} {t' : Nat} {d' : Drawn} {ch : List Addr} (I : Inv X pins σ H s) (u : Un (frs X.stack) ch H H' s.heap h') (hok : HOk X.prog X.w H' h') (hg : AllBare g')
    (hch : ∀ b ∈ ch, (b ∈ X.ex ∨ X.s₀.heap.objs.size ≤ b) ∧ b ≠ X.env.locals ∧ (∀ x c, X.env.cells.lookup x = some c → c ≠ b) ∧ ∀ p ∈ X.pn ++ pins, p.1 ≠ b) :
    Inv X pins σ H' { s with heap := h', gens := g', drawn := d', toks := t' } := by
  obtain ⟨m, ⟨o, es, ep, ho, r⟩, _⟩ := id I.loc
  obtain ⟨sl, hL⟩ := u.any ho I.free fun z => (hch _ z).2.1 rfl
  exact I.step (ch := ch) hch (fun b o hL hb hc e n => u.keep b o e n (fun z => (List.mem_cons.mp (I.stkSub b z)).elim hL hb) hc) (fun b o _ _ hc e n => u.any e n hc) (fun b o hc e n => u.free b o e n hc) (fun b o hc e => u.there b o e hc) u.tups u.frzs u.tbls (fun m' hm => by
    obtain ⟨o', es', ep', ho', r'⟩ := hm
    rw [ho] at ho'; cases ho'
    exact ⟨_, es', ep', hL, r'⟩) hok hg
theorem Inv.turned {t' : Nat} {it : Addr} (I : Inv X pins σ H s) (k : ∀ b o, b ≠ it → s.heap.get? b = some o → h'.get? b = some o) (hn : H it = none) (hL : it ≠ X.env.locals)
    (h1 : it ∈ X.ex ∨ X.s₀.heap.objs.size ≤ it) (h2 : ∀ x c, X.env.cells.lookup x = some c → c ≠ it) (h3 : ∀ p ∈ X.pn ++ pins, p.1 ≠ it) : Inv X pins σ H { s with heap := h', toks := t' } := by
  have nit : ∀ b u, H b = some u → b ≠ it := fun b u e z => by rw [z, hn] at e; cases e
  refine I.step (g' := s.gens) (d' := s.drawn) (ch := [it]) (fun b hb => ?_) (fun b o _ _ hc e _ => k b o (fun z => hc (by simp [z])) e) (fun b o _ _ hc e _ => ⟨o.slots, k b o (fun z => hc (by simp [z])) e⟩) (fun _ _ _ _ n => n)
    (fun b o hc e => ⟨o, k b o (fun z => hc (by simp [z])) e⟩) (fun _ _ e => e) (fun _ _ _ e => e) (fun b ps e => ⟨#[], by rw [e]; simp⟩) (fun m hm => ?_) (fun b u e => ?_) I.bare
  · have e : b = it := by simpa using hb
    subst e
    exact ⟨h1, hL, h2, h3⟩
  · obtain ⟨o, es, ep, ho, r⟩ := hm
    exact ⟨o, es, ep, k _ o (Ne.symm hL) ho, r⟩
  · refine (I.hok b u e).stay (fun c v hc q => k c v ?_ q) (fun _ q => q) fun _ _ q => q
    rcases hc with z | z
    · rw [z]; exact nit b u e
    · exact nit c _ z
theorem Inv.tok (I : Inv X pins σ H s) (t : Nat) : Inv X pins σ H { s with toks := t } := I.un (h' := s.heap) (t' := t) Un.refl I.hok
theorem Inv.kept {t' : Nat} (I : Inv X pins σ H s) (k : ∀ b u, s.heap.get? b = some u → h'.get? b = some u) : Inv X pins σ H { s with heap := h', toks := t' } := I.un (Un.kept k) (I.hok.kept k)
theorem Inv.laid {a : Addr} {o : HO} {t' : Nat} (I : Inv X pins σ H s) (k : ∀ b u, s.heap.get? b = some u → h'.get? b = some u) (hp : s.heap.objs.size ≤ a) (new : ObjOk X.prog X.w (upd H a o) h' a o) :
    Inv X pins σ (upd H a o) { s with heap := h', toks := t' } := I.un (Un.laid k hp (I.hok.fresh hp)) (I.hok.laid k hp new)
theorem Inv.write {x e : Addr} {o : HO} {t' : Nat} (I : Inv X pins σ H s) (mu : Mut (H x)) (he : e = x ∨ H e = some (.own x)) (k : ∀ b u, b ≠ e → s.heap.get? b = some u → h'.get? b = some u) (heo : ∃ u, h'.get? e = some u)
    (new : ObjOk X.prog X.w (upd H x o) h' x o) : Inv X pins σ (upd H x o) { s with heap := h', toks := t' } := I.un (Un.write mu he k heo) (I.hok.write mu he k heo new)
theorem Inv.pins_of {pins' : List (Addr × Obj)} (I : Inv X pins σ H s) (h : ∀ p ∈ pins', s.heap.get? p.1 = some p.2 ∧ H p.1 = none ∧ p.1 ≠ X.env.locals ∧ p.1 ∉ X.fs ∧ ∀ v, p.2.data ≠ .cell v) : Inv X pins' σ H s :=
  ⟨I.ok, I.os, I.bare, I.base, I.loc, I.cell, I.free, I.freeC, fun p hp => (List.mem_append.mp hp).elim (fun z => I.pin p (List.mem_append_left _ z)) (h p), I.hok, I.len⟩
theorem nodup_ix {N : List Str} (hN : N.Nodup) {i j : Nat} {x : Str} (a : N[i]? = some x) (b : N[j]? = some x) : i = j := by
  obtain ⟨h1, e1⟩ := List.getElem?_eq_some_iff.mp a
  obtain ⟨h2, e2⟩ := List.getElem?_eq_some_iff.mp b
  exact (List.getElem_inj hN).mp (e1.trans e2.symm)
theorem store_ok2 {M : Model} {A : Around} {E : Value → Shared → Prop} {i : Nat} {x : Str} {v : V} {u : Value} {Q : Unit → Shared → Prop} (I : Inv X pins σ H s) (hN : X.N.Nodup) (hi : X.N[i]? = some x) (hx : Loc X.env.scope x) (r : RelV v u)
    (h : ∀ s', Inv X pins (σ.set i (some v)) H s' → (∃ a, Heap.SameBut a s.heap s'.heap ∧ (a = X.env.locals ∨ X.env.cells.lookup x = some a)) → Q () s') (hf : X.fn x = true ∨ X.env.scope.names.lookup x = some .local := by first | exact .inl rfl | exact .inr rfl | assumption) : wpAny M A (storeName X.env x u) Q E s := by
  obtain ⟨m, hn, hl⟩ := id I.loc
  have hcls : (X.env.scope.kind == .class || (X.env.scope.kind == .module && X.env.locals != X.env.globals)) = false := by rw [I.ok.kind]; rfl
  have hiσ : i < σ.length := by rw [I.len]; exact (List.getElem?_eq_some_iff.mp hi).1
  have cne := I.cne
  have tracked : ∀ {a : Addr} {h' : Heap}, (∃ o, s.heap.get? a = some o ∧ H a = none) → Heap.SameBut a s.heap h' → HOk X.prog X.w H h' := fun {a h'} ha hs b ob e => by
    obtain ⟨_, _, hfree⟩ := ha
    refine (I.hok b ob e).stay (fun c w' hc q => (hs.2 c ?_).trans q) (fun _ q => q) fun _ _ q => q
    rintro rfl
    rcases hc with rfl | hc
    · rw [hfree] at e; cases e
    · rw [hfree] at hc; cases hc
  rcases hx with hk | hk
  · refine wpAny_storeName_local hk hn (fun h' hn' hs => ?_) hcls
    obtain ⟨oL, _, _, hoL, _⟩ := id hn
    refine h _ ⟨I.ok, I.os, I.bare, ⟨fun b o e n hb hx => ?_, fun b o e n hb hx => ?_, I.base.free, fun b o e hx => ?_, I.base.tups, I.base.frzs, I.base.tbls⟩, ⟨_, hn', fun j y v' e1 e2 e3 => ?_⟩, fun y c e => ?_, I.free, I.freeC, fun p hp => ?_, tracked ⟨oL, hoL, I.free⟩ hs, by simpa using I.len⟩ ⟨_, hs, .inl rfl⟩
    · exact (hs.2 b (Nat.ne_of_lt (Nat.lt_of_lt_of_le (Heap.lt_size e) I.ok.above))).trans (I.base.keep b o e n hb hx)
    · obtain ⟨sl, e1⟩ := I.base.slot b o e n hb hx
      exact ⟨sl, (hs.2 b (Nat.ne_of_lt (Nat.lt_of_lt_of_le (Heap.lt_size e) I.ok.above))).trans e1⟩
    · obtain ⟨o', e1⟩ := I.base.there b o e hx
      exact ⟨o', (hs.2 b (Nat.ne_of_lt (Nat.lt_of_lt_of_le (Heap.lt_size e) I.ok.above))).trans e1⟩
    · by_cases hj : j = i
      · subst hj
        rw [hi] at e1; cases e1
        rw [List.getElem?_set_self hiσ] at e2
        cases e2
        exact ⟨u, r, .inl ⟨hk, by simp⟩⟩
      · rw [List.getElem?_set_ne (Ne.symm hj)] at e2
        obtain ⟨u', r', q⟩ := hl j y v' e1 e2 e3
        refine ⟨u', r', ?_⟩
        rcases q with ⟨k, e⟩ | ⟨k, c, e, z⟩
        · refine .inl ⟨k, ?_⟩
          have : y ≠ x := fun e => hj (nodup_ix hN e1 (e ▸ hi))
          simp [this, e]
        · exact .inr ⟨k, c, e, z.sameBut hs (cne y c e)⟩
    · obtain ⟨w', z⟩ := I.cell y c e
      exact ⟨w', z.sameBut hs (cne y c e)⟩
    · obtain ⟨e, n, ne, nf, d⟩ := I.pin p hp
      exact ⟨(hs.2 p.1 ne).trans e, n, ne, nf, d⟩
  · have hfn : X.fn x = true := by
      rcases hf with z | z
      · exact z
      · rw [z] at hk; cases hk
    obtain ⟨c, hc⟩ := I.ok.has x (.inl hk)
    obtain ⟨w', z⟩ := I.cell x c hc
    refine wpAny_storeName_cell I.ok.kind hk hc z (fun h' hc' hs => ?_)
    obtain ⟨oc, hoc, hocd⟩ := id z
    refine h { s with heap := h' } ⟨I.ok, I.os, I.bare, ⟨fun b o e n hb hx => ?_, fun b o e n hb hx => ?_, I.base.free, fun b o e hx => ?_, I.base.tups, I.base.frzs, I.base.tbls⟩, ⟨m, hn.sameBut hs (Ne.symm (cne x c hc)), fun j y v' e1 e2 e3 => ?_⟩, fun y c' e => ?_, I.free, I.freeC, fun p hp => ?_, tracked ⟨oc, hoc, I.freeC x c hc⟩ hs, by simpa using I.len⟩ ⟨c, hs, .inr hc⟩
    · exact (hs.2 b (Nat.ne_of_lt (Nat.lt_of_lt_of_le (Heap.lt_size e) (I.ok.cab x c hfn hc)))).trans (I.base.keep b o e n hb hx)
    · obtain ⟨sl, e1⟩ := I.base.slot b o e n hb hx
      exact ⟨sl, (hs.2 b (Nat.ne_of_lt (Nat.lt_of_lt_of_le (Heap.lt_size e) (I.ok.cab x c hfn hc)))).trans e1⟩
    · obtain ⟨o', e1⟩ := I.base.there b o e hx
      exact ⟨o', (hs.2 b (Nat.ne_of_lt (Nat.lt_of_lt_of_le (Heap.lt_size e) (I.ok.cab x c hfn hc)))).trans e1⟩
    · by_cases hj : j = i
      · subst hj
        rw [hi] at e1; cases e1
        rw [List.getElem?_set_self hiσ] at e2
        cases e2
        exact ⟨u, r, .inr ⟨.inl hk, c, hc, hc'⟩⟩
      · rw [List.getElem?_set_ne (Ne.symm hj)] at e2
        obtain ⟨u', r', q⟩ := hl j y v' e1 e2 e3
        refine ⟨u', r', ?_⟩
        rcases q with q | ⟨k, c', e, z'⟩
        · exact .inl q
        · refine .inr ⟨k, c', e, z'.sameBut hs ?_⟩
          rintro rfl
          exact hj (nodup_ix hN e1 (I.ok.inj _ _ _ e hc ▸ hi))
    · by_cases hcc : c' = c
      · subst hcc; exact ⟨_, hc'⟩
      · obtain ⟨w2, z2⟩ := I.cell y c' e
        exact ⟨w2, z2.sameBut hs hcc⟩
    · obtain ⟨e, n, ne, nf, d⟩ := I.pin p hp
      refine ⟨(hs.2 p.1 ?_).trans e, n, ne, nf, d⟩
      intro q
      rw [q, hoc] at e
      have q' : oc = p.2 := Option.some.inj e
      exact d w' (by rw [← q']; exact hocd)
theorem store_ok {M : Model} {A : Around} {E : Value → Shared → Prop} {i : Nat} {x : Str} {v : V} {u : Value} {Q : Unit → Shared → Prop} (I : Inv X pins σ H s) (hN : X.N.Nodup) (hi : X.N[i]? = some x) (hx : Loc X.env.scope x) (r : RelV v u)
    (h : ∀ s', Inv X pins (σ.set i (some v)) H s' → Q () s') (hf : X.fn x = true ∨ X.env.scope.names.lookup x = some .local := by first | exact .inl rfl | exact .inr rfl | assumption) : wpAny M A (storeName X.env x u) Q E s :=
  store_ok2 I hN hi hx r (fun s' I' _ => h s' I') hf
end
abbrev XK := Value → Option Addr → Hp → Prop
abbrev St := List (Option V)
abbrev VK := V → Hp → Prop
abbrev TE := St → Hp → VK → Prop
abbrev TT := St → Hp → (Bool → Hp → Prop) → Prop
abbrev TA := St → Hp → (List V → Hp → Prop) → Prop
structure Ends where
  nx : St → Hp → Prop
  rt : VK
  bk : St → Hp → Prop := fun _ _ => False
  ct : St → Hp → Prop := fun _ _ => False
abbrev TS := Ends → St → Hp → Prop
def EP (X : Cx) (pins : List (Addr × Obj)) (σ : St) (Q : VK) (u : Value) (s' : Shared) : Prop := ∃ v H', Inv X pins σ H' s' ∧ RelV v u ∧ Q v H'
def TP (X : Cx) (pins : List (Addr × Obj)) (σ : St) (Q : Bool → Hp → Prop) (b : Bool) (s' : Shared) : Prop := ∃ H', Inv X pins σ H' s' ∧ Q b H'
def AP (X : Cx) (pins : List (Addr × Obj)) (σ : St) (Q : List V → Hp → Prop) (us : List Value) (s' : Shared) : Prop := ∃ vs H', Inv X pins σ H' s' ∧ Vals vs us ∧ Q vs H'
def SP (X : Cx) (pins : List (Addr × Obj)) (D : Ends) (f : Flow) (s' : Shared) : Prop :=
  match f with
  | .next => ∃ σ' H', Inv X pins σ' H' s' ∧ D.nx σ' H'
  | .brk => ∃ σ' H', Inv X pins σ' H' s' ∧ D.bk σ' H'
  | .cont => ∃ σ' H', Inv X pins σ' H' s' ∧ D.ct σ' H'
  | .ret u => ∃ v σ' H', Inv X pins σ' H' s' ∧ RelV v u ∧ D.rt v H'
def PE (X : Cx) (e : Expr) (t : TE) : Prop :=
  ∀ (pins : List (Addr × Obj)) (s : Shared) (σ : St) (H : Hp) (Q : VK), Inv X pins σ H s → t σ H Q → wpAny (model X.prog X.w) X.A (eval e X.env) (EP X pins σ Q) X.xe s
def PT (X : Cx) (e : Expr) (t : TT) : Prop :=
  ∀ (pins : List (Addr × Obj)) (s : Shared) (σ : St) (H : Hp) (Q : Bool → Hp → Prop), Inv X pins σ H s → t σ H Q → wpAny (model X.prog X.w) X.A (isTrue e X.env (eval e X.env)) (TP X pins σ Q) X.xe s
def PW (X : Cx) (e : Expr) (t : TT) : Prop :=
  ∀ (whole : Sem Value) (pins : List (Addr × Obj)) (s : Shared) (σ : St) (H : Hp) (Q : Bool → Hp → Prop), Inv X pins σ H s → t σ H Q → wpAny (model X.prog X.w) X.A (isTrue e X.env whole) (TP X pins σ Q) X.xe s
theorem PW.pt {X : Cx} {e : Expr} {t : TT} (h : PW X e t) : PT X e t := h _
def PA (X : Cx) (es : List Expr) (t : TA) : Prop :=
  ∀ (pos : Pos) (pins : List (Addr × Obj)) (s : Shared) (σ : St) (H : Hp) (Q : List V → Hp → Prop), Inv X pins σ H s → t σ H Q → wpAny (model X.prog X.w) X.A (spliced (backTo pos (starEach es X.env))) (AP X pins σ Q) X.xe s
def PS (X : Cx) (st : Stmt) (t : TS) : Prop :=
  ∀ (pins : List (Addr × Obj)) (s : Shared) (σ : St) (H : Hp) (D : Ends), Inv X pins σ H s → t D σ H → wpAny (model X.prog X.w) X.A (exec st X.env) (SP X pins D) X.xe s
def PSs (X : Cx) (st : List Stmt) (t : TS) : Prop :=
  ∀ (pins : List (Addr × Obj)) (s : Shared) (σ : St) (H : Hp) (D : Ends), Inv X pins σ H s → t D σ H → wpAny (model X.prog X.w) X.A (execs st X.env) (SP X pins D) X.xe s
theorem thn {α : Type} {t : Sem α} {Q Q' : α → Shared → Prop} {M : Model} {A : Around} {E : Value → Shared → Prop} {s : Shared} (h : wpAny M A t Q E s) (hQ : ∀ a s, Q a s → Q' a s) : wpAny M A t Q' E s := wpAny_mono h hQ fun _ _ x => x
end L2
namespace L2
open PySem PySem.Spec PyProof.Rows
section
variable {X : Cx}
def tVar (i : Nat) : TE := fun σ H Q => ∃ v, σ[i]? = some (some v) ∧ Q v H
def tC (v : V) : TE := fun _ H Q => Q v H
theorem pe_var {i : Nat} {x : Str} {pos : Pos} (hN : X.N[i]? = some x) (hv : Vis X.env.scope x) (hd : (x == ("__debug__" : Str)) = false := by decide) (hcd : (x == ("__classdict__" : Str)) = false := by decide) : PE X (.Name x pos) (tVar i) := by
  intro pins s σ H Q I h
  obtain ⟨v, e, h⟩ := h
  obtain ⟨m, hn, hl⟩ := I.loc
  obtain ⟨u, r, l⟩ := hl i x v hN e hv
  have fin : EP X pins σ Q u s := ⟨v, H, I, r, h⟩
  rcases l with ⟨hk, hm⟩ | ⟨hk, c, hc, hcell⟩
  · exact wpAny_Name (wpAny_loadName_local I.ok.kind hk hn hm fin) hd
  · rcases hk with hk | hk
    · exact wpAny_Name (wpAny_loadName_cell I.ok.kind hk hc hcell fin) hd
    · exact wpAny_Name (wpAny_loadName_free I.ok.kind hk hc hcell fin hcd) hd
theorem pe_int {i j pos} : PE X (.Constant (.int i) j pos) (tC (.int i)) := fun _ _ _ H _ I h => wpAny_Constant_int ⟨.int i, H, I.tok _, ⟨_, rfl⟩, h⟩
theorem pe_bl {b j pos} : PE X (.Constant (.bool b) j pos) (tC (.bl b)) := fun _ _ _ H _ I h => Constant_bool ⟨.bl b, H, I, rfl, h⟩
theorem pe_str {x j pos} : PE X (.Constant (.str x) j pos) (tC (.str x)) := fun _ _ _ H _ I h => Calls.Constant_str ⟨.str x, H, I.tok _, ⟨_, rfl⟩, h⟩
def Gl (X : Cx) (x : Str) : Prop := X.env.kindOf x = some .globalImplicit
theorem ld_glob {E : Value → Shared → Prop} {pins : List (Addr × Obj)} {s : Shared} {σ : St} {H : Hp} {x : Str} {u : Value} {pos : Pos} {Q : Value → Shared → Prop} (I : Inv X pins σ H s) (hg : Gl X x) (hm : X.mg x = some u) (h : Q u s)
    (hd : (x == ("__debug__" : Str)) = false := by decide) : wpAny (model X.prog X.w) X.A (eval (.Name x pos) X.env) Q E s :=
  Calls.Name_function_global I.ok.kind hg (Calls.loadGlobal_global (by rw [I.ok.glob]; exact I.mod.glob.keeps I.bk) hm h) hd
theorem ld_blt {E : Value → Shared → Prop} {pins : List (Addr × Obj)} {s : Shared} {σ : St} {H : Hp} {x : Str} {u : Value} {pos : Pos} {Q : Value → Shared → Prop} (I : Inv X pins σ H s) (hg : Gl X x) (hm : X.mg x = none) (hv : bootBuiltins x = some u) (h : Q u s)
    (hn : x ≠ "__name__" := by decide) (hd : (x == ("__debug__" : Str)) = false := by decide) : wpAny (model X.prog X.w) X.A (eval (.Name x pos) X.env) Q E s := by
  obtain ⟨mb, h1, h2⟩ := I.mod.blt
  exact Calls.Name_function_global I.ok.kind hg (Calls.loadGlobal_builtin (by rw [I.ok.glob]; exact I.mod.glob.keeps I.bk) hm (by rw [I.ok.blt]; exact h1.keeps I.bk) ((h2 x hn).trans hv) h) hd
theorem pe_glob {x : Str} {v : V} {u : Value} {pos : Pos} (hg : Gl X x) (hm : X.mg x = some u) (r : RelV v u) (hd : (x == ("__debug__" : Str)) = false := by decide) : PE X (.Name x pos) (tC v) :=
  fun _ _ _ H _ I h => ld_glob I hg hm ⟨v, H, I, r, h⟩ hd
theorem pe_bltn {x : Str} {v : V} {u : Value} {pos : Pos} (hg : Gl X x) (hm : X.mg x = none) (hv : bootBuiltins x = some u) (r : RelV v u) (hn : x ≠ "__name__" := by decide) (hd : (x == ("__debug__" : Str)) = false := by decide) : PE X (.Name x pos) (tC v) :=
  fun _ _ _ H _ I h => ld_blt I hg hm hv ⟨v, H, I, r, h⟩ hn hd
variable {a b : Expr} {ta tb : TE} {pos : Pos}
def tB (t : TE) : TT := fun σ H Q => t σ H fun x H1 => ∃ c, x = .bl c ∧ Q c H1
theorem pt_val {e : Expr} {t : TE} (h : PE X e t) (he : ∀ whole, isTrue e X.env whole = (do let v ← whole; standAt e.pos; holding [v] (truthy v)) := by intro _; rfl) : PT X e (tB t) := by
  intro pins s σ H Q I hw
  refine isTrue_plain (thn (h pins s σ H _ I hw) fun v s1 zz => ?_) (he _)
  obtain ⟨x, H1, I1, r1, q1⟩ := zz
  obtain ⟨d, rfl, q⟩ := q1
  cases r1
  exact wpAny_truthy_bool ⟨H1, I1, q⟩
variable {tA tB' : TT} {rest : List Expr}
def tOr (t u : TT) : TT := fun σ H Q => t σ H fun c H1 => if c = true then Q true H1 else u σ H1 Q
def tNot (t : TT) : TT := fun σ H Q => t σ H fun c H1 => Q (!c) H1
theorem pw_or1 (ha : PT X a tA) : PW X (.BoolOp .Or [a] pos) tA := by
  intro wh pins s σ H Q I h
  refine isTrue_or (thn (ha pins s σ H Q I h) fun c s1 e => ?_)
  cases c with
  | false => exact isTrue_or_nil e
  | true => exact e
theorem pw_or (ha : PT X a tA) (hb : PW X (.BoolOp .Or (b :: rest) pos) tB') : PW X (.BoolOp .Or (a :: b :: rest) pos) (tOr tA tB') := by
  intro wh pins s σ H Q I h
  refine isTrue_or (thn (ha pins s σ H _ I h) fun c s1 zz => ?_)
  obtain ⟨H1, I1, q1⟩ := zz
  cases c with
  | true => exact ⟨H1, I1, q1⟩
  | false => exact hb wh pins s1 σ H1 Q I1 q1
theorem pt_not (ha : PT X a tA) : PT X (.UnaryOp .Not a pos) (tNot tA) := by
  intro pins s σ H Q I h
  exact isTrue_not (ha pins s σ H (fun c H1 => Q (!c) H1) I h)
def tIf (t : TT) (ta tb : TE) : TE := fun σ H Q => t σ H fun c H1 => if c = true then ta σ H1 Q else tb σ H1 Q
theorem pe_ifExp {c : Expr} (hc : PT X c tA) (ha : PE X a ta) (hb : PE X b tb) : PE X (.IfExp c a b pos) (tIf tA ta tb) := by
  intro pins s σ H Q I h
  refine wpAny_IfExp (thn (hc pins s σ H _ I h) fun d s1 zz => ?_)
  obtain ⟨H1, I1, q1⟩ := zz
  cases d with
  | true => exact ha pins s1 σ H1 Q I1 q1
  | false => exact hb pins s1 σ H1 Q I1 q1
end
end L2
namespace L2
open PySem PySem.Spec PyProof.Rows
def SqL (K : PySem.W.Frag) (H : Hp) (a : Addr) (xs : List V) : Prop :=
  Rd H a (.lst xs) ∨
    ∃ (o : Obj) (its : Array Value) (n : Nat), K.lookup a = some o ∧ o.cls = .type "list" ∧ o.dict = none ∧ o.data = .seq its n ∧ its.size ≤ sizeLine ∧ Vals xs its.toList
def SqT (K : PySem.W.Frag) (H : Hp) (a : Addr) (xs : List V) : Prop :=
  Rd H a (.tup xs) ∨
    ∃ (o : Obj) (its : Array Value) (n : Nat), K.lookup a = some o ∧ o.cls = .type "tuple" ∧ o.data = .seq its n ∧ its.size ≤ sizeLine ∧ Vals xs its.toList
def absV : Value → Option V
  | .none => some .non
  | .bool b => some (.bl b)
  | .int i _ => some (.int i)
  | .str x _ => some (.str x)
  | .bytes b _ => some (.byt b)
  | .float b _ => some (.flt b)
  | .ref a => some (.ref a)
  | .type n => some (.ty n)
  | _ => none
theorem RelV.abs {x : V} {u : Value} (r : RelV x u) : absV u = some x := by
  cases x with
  | non => cases r; rfl
  | bl _ => cases r; rfl
  | int _ => obtain ⟨t, rfl⟩ := r; rfl
  | str _ => obtain ⟨t, rfl⟩ := r; rfl
  | byt _ => obtain ⟨t, rfl⟩ := r; rfl
  | flt _ => obtain ⟨t, rfl⟩ := r; rfl
  | ref _ => cases r; rfl
  | ty _ => cases r; rfl
theorem RelV.inj {x y : V} {u : Value} (r : RelV x u) (q : RelV y u) : x = y := Option.some.inj (r.abs.symm.trans q.abs)
theorem Vals.inj : ∀ {xs ys : List V} {us : List Value}, Vals xs us → Vals ys us → xs = ys
  | _, _, _, .nil, .nil => rfl
  | _, _, _, .cons r t, .cons r' t' => by rw [r.inj r', Vals.inj t t']
section
variable {X : Cx} {pins : List (Addr × Obj)} {σ : St} {H : Hp} {s : Shared} {a : Addr} {xs ys : List V}
theorem SqL.of {K : PySem.W.Frag} (h : H a = some (.lst xs)) : SqL K H a xs := .inl (.inl h)
theorem SqT.of {K : PySem.W.Frag} (h : H a = some (.tup xs)) : SqT K H a xs := .inl (.inl h)
theorem Inv.list (I : Inv X pins σ H s) (h : SqL X.K H a xs) : ∃ its : List Value, Vals xs its ∧ PlainL s.heap a its.toArray ∧ xs.length ≤ sizeLine := by
  rcases h with h | ⟨o, its, n, hk, hc, hd, hs, hz, r⟩
  · obtain ⟨z, its, n, r, e⟩ := h.ok I.hok
    exact ⟨its, r, ⟨_, n, e, rfl, rfl, rfl⟩, z⟩
  · refine ⟨its.toList, r, ⟨o, n, I.kIn a o hk, hc, hd, by simpa using hs⟩, ?_⟩
    have e := r.length
    simp only [Array.length_toList] at e
    omega
theorem Inv.tuple (I : Inv X pins σ H s) (h : SqT X.K H a xs) : ∃ its : List Value, Vals xs its ∧ IsTup s.heap a its.toArray ∧ xs.length ≤ sizeLine := by
  rcases h with h | ⟨o, its, n, hk, hc, hs, hz, r⟩
  · obtain ⟨z, its, r, p⟩ := h.ok I.hok
    exact ⟨its, r, p, z⟩
  · refine ⟨its.toList, r, ⟨o, I.kIn a o hk, hc, n, by simpa using hs⟩, ?_⟩
    have e := r.length
    simp only [Array.length_toList] at e
    omega
theorem Inv.list_inj (I : Inv X pins σ H s) (h : SqL X.K H a xs) (h' : SqL X.K H a ys) : xs = ys := by
  obtain ⟨its, r, ⟨o, n, e, _, _, d⟩, _⟩ := I.list h
  obtain ⟨its', r', ⟨o', n', e', _, _, d'⟩, _⟩ := I.list h'
  rw [e] at e'; cases e'
  rw [d] at d'
  injection d' with d1 _
  have : its = its' := by simpa using congrArg Array.toList d1
  subst this
  exact r.inj r'
end
abbrev Cx.wish (X : Cx) (E : Value → Shared → Prop) : Cx := { X with xe := E }
abbrev Cx.nox (X : Cx) : Cx := X.wish fun _ _ => False
theorem Cx.Ok.wish {X : Cx} (ok : X.Ok) (E : Value → Shared → Prop) : (X.wish E).Ok :=
  ⟨ok.mod, ok.kind, ok.glob, ok.blt, ok.above, ok.inj, ok.has, ok.cab, ok.hd, ok.frames, ok.stk, ok.exf, ok.bs, ok.bsz, ok.noex, ok.exfs, ok.funs, ok.frf⟩
theorem Cx.Ok.unwish {X : Cx} {E : Value → Shared → Prop} (ok : (X.wish E).Ok) : X.Ok :=
  ⟨ok.mod, ok.kind, ok.glob, ok.blt, ok.above, ok.inj, ok.has, ok.cab, ok.hd, ok.frames, ok.stk, ok.exf, ok.bs, ok.bsz, ok.noex, ok.exfs, ok.funs, ok.frf⟩
section
variable {X : Cx} {pins : List (Addr × Obj)} {σ : St} {H : Hp} {s : Shared} {E : Value → Shared → Prop}
theorem Inv.wish (I : Inv X pins σ H s) (E : Value → Shared → Prop) : Inv (X.wish E) pins σ H s := ⟨I.ok.wish E, I.os, I.bare, I.base, I.loc, I.cell, I.free, I.freeC, I.pin, I.hok, I.len⟩
theorem Inv.unwish (I : Inv (X.wish E) pins σ H s) : Inv X pins σ H s := ⟨I.ok.unwish, I.os, I.bare, I.base, I.loc, I.cell, I.free, I.freeC, I.pin, I.hok, I.len⟩
theorem SP.unwish {D : Ends} {f : Flow} {s' : Shared} (h : SP (X.wish E) pins D f s') : SP X pins D f s' := by
  cases f with
  | next => obtain ⟨σ', H', I, q⟩ := h; exact ⟨σ', H', I.unwish, q⟩
  | brk => obtain ⟨σ', H', I, q⟩ := h; exact ⟨σ', H', I.unwish, q⟩
  | cont => obtain ⟨σ', H', I, q⟩ := h; exact ⟨σ', H', I.unwish, q⟩
  | ret u => obtain ⟨v, σ', H', I, r, q⟩ := h; exact ⟨v, σ', H', I.unwish, r, q⟩
theorem PSs.nox {st : List Stmt} {t : TS} (h : PSs X.nox st t) : PSs X st t := fun pins s σ H D I hw =>
  wpAny_mono (h pins s σ H D (I.wish _) hw) (fun _ _ q => q.unwish) fun _ _ z => False.elim z
end
section
variable {X : Cx} {st : Stmt} {rest : List Stmt} {t u : TS} {e : Expr} {te : TE} {pos : Pos}
def tNext : TS := fun D σ H => D.nx σ H
def tSeq (t u : TS) : TS := fun D σ H => t { D with nx := u D } σ H
theorem pss_nil : PSs X [] tNext := fun _ _ σ H _ I h => wpAny_execs_nil ⟨σ, H, I, h⟩
theorem pss_cons (h1 : PS X st t) (h2 : PSs X rest u) : PSs X (st :: rest) (tSeq t u) := by
  intro pins s σ H D I h
  refine wpAny_execs_cons (thn (h1 pins s σ H { D with nx := u D } I h) fun f s1 q => ?_)
  cases f with
  | next =>
    obtain ⟨σ', H', I', q⟩ := q
    exact h2 pins s1 σ' H' D I' q
  | ret v => exact q
  | brk => exact q
  | cont => exact q
theorem pss_one (h1 : PS X st t) : PSs X [st] t := by
  intro pins s σ H D I h
  refine wpAny_execs_cons (thn (h1 pins s σ H D I h) fun f s1 q => ?_)
  cases f with
  | next => exact wpAny_execs_nil q
  | ret v => exact q
  | brk => exact q
  | cont => exact q
theorem Inv.quiet {pins : List (Addr × Obj)} {σ : St} {H : Hp} {s : Shared} (I : Inv X pins σ H s) : interactive X.env = false := by simp [interactive, I.ok.kind]
def tDrop (te : TE) : TS := fun D σ H => te σ H fun _ H1 => D.nx σ H1
theorem ps_expr (he : PE X e te) (hs : swapsWith e none pos.line X.env = pure false := by rfl) : PS X (.Expr e pos) (tDrop te) := by
  intro pins s σ H D I h
  refine wpAny_Expr_any (thn (he pins s σ H _ I h) fun v s1 zz => ?_) I.quiet hs
  obtain ⟨x, H1, I1, r1, q1⟩ := zz
  exact ⟨σ, H1, I1, q1⟩
def tRet (te : TE) : TS := fun D σ H => te σ H D.rt
theorem ps_ret (he : PE X e te) : PS X (.Return (some e) pos) (tRet te) := by
  intro pins s σ H D I h
  refine wpAny_Return_some (thn (he pins s σ H _ I h) fun v s1 zz => ?_)
  obtain ⟨x, H1, I1, r1, q1⟩ := zz
  exact ⟨x, σ, H1, I1, r1, q1⟩
def tIfS (c : TT) (t u : TS) : TS := fun D σ H => c σ H fun b H1 => if b = true then t D σ H1 else u D σ H1
theorem ps_if {c : Expr} {a b : List Stmt} {tc : TT} (hc : PT X c tc) (ha : PSs X a t) (hb : PSs X b u) : PS X (.If c a b pos) (tIfS tc t u) := by
  intro pins s σ H D I h
  refine wpAny_If (thn (hc pins s σ H _ I h) fun d s1 zz => ?_)
  obtain ⟨H1, I1, q1⟩ := zz
  cases d with
  | true => exact ha pins s1 σ H1 D I1 q1
  | false => exact hb pins s1 σ H1 D I1 q1
end
abbrev TG := V → St → Hp → (St → Hp → Prop) → Prop
abbrev TGs := List V → St → Hp → (St → Hp → Prop) → Prop
def PG (X : Cx) (target : Expr) (t : TG) : Prop :=
  ∀ (pins : List (Addr × Obj)) (s : Shared) (σ : St) (H : Hp) (v : V) (u : Value) (Q : St → Hp → Prop), Inv X pins σ H s → RelV v u → t v σ H Q →
    wpAny (model X.prog X.w) X.A (assign target X.env u) (fun _ s' => ∃ σ' H', Inv X pins σ' H' s' ∧ Q σ' H') X.xe s
def PGs (X : Cx) (ts : List Expr) (t : TGs) : Prop :=
  ∀ (pins : List (Addr × Obj)) (s : Shared) (σ : St) (H : Hp) (vs : List V) (us : List Value) (Q : St → Hp → Prop), Inv X pins σ H s → Vals vs us → t vs σ H Q →
    wpAny (model X.prog X.w) X.A (assignInOrder ((assignEach ts X.env).map (·.2)) us) (fun _ s' => ∃ σ' H', Inv X pins σ' H' s' ∧ Q σ' H') X.xe s
abbrev TSet := V → V → V → Hp → (Hp → Prop) → Prop
def PSet (X : Cx) (t : TSet) : Prop :=
  ∀ (pins : List (Addr × Obj)) (s : Shared) (σ : St) (H : Hp) (o i v : V) (ov iv u : Value) (Q : Hp → Prop), Inv X pins σ H s → RelV o ov → RelV i iv → RelV v u → t o i v H Q →
    wpAny (model X.prog X.w) X.A (setItem ov iv u) (fun _ s' => ∃ H', Inv X pins σ H' s' ∧ Q H') X.xe s
section
variable {X : Cx} {pos : Pos}
def gName (i : Nat) : TG := fun v σ H Q => Q (σ.set i (some v)) H
theorem pg_name {i : Nat} {x : Str} (hN : X.N.Nodup) (hi : X.N[i]? = some x) (hx : Loc X.env.scope x) (hf : X.fn x = true ∨ X.env.scope.names.lookup x = some .local := by first | exact .inl rfl | exact .inr rfl | assumption) : PG X (.Name x pos) (gName i) := by
  intro pins s σ H v u Q I r h
  exact wpAny_assign_Name (store_ok I hN hi hx r (fun s' I' => ⟨_, H, I', h⟩) hf)
def gNil : TGs := fun vs σ H Q => vs = [] ∧ Q σ H
def gCons (t : TG) (u : TGs) : TGs := fun vs σ H Q => ∃ v r, vs = v :: r ∧ t v σ H fun σ' H' => u r σ' H' Q
theorem pgs_nil : PGs X [] gNil := by
  intro pins s σ H vs us Q I r h
  obtain ⟨e, h⟩ := h
  subst e
  cases r
  exact assignInOrder_nil ⟨σ, H, I, h⟩
theorem pgs_cons {e : Expr} {es : List Expr} {t : TG} {u : TGs} (h1 : PG X e t) (h2 : PGs X es u)
    (hs : (assignEach (e :: es) X.env).map (·.2) = assign e X.env :: (assignEach es X.env).map (·.2) := by rfl) : PGs X (e :: es) (gCons t u) := by
  intro pins s σ H vs us Q I r h
  obtain ⟨v, vr, e1, h⟩ := h
  subst e1
  cases r with
  | cons r rr =>
    rw [hs]
    refine assignInOrder_cons (thn (h1 pins s σ H _ _ _ I r h) fun _ s1 zz => ?_)
    obtain ⟨σ1, H1, I1, q1⟩ := zz
    exact h2 pins s1 σ1 H1 _ _ Q I1 rr q1
def gTup (K : PySem.W.Frag) (n : Nat) (t : TGs) : TG := fun v σ H Q => ∃ a xs, v = .ref a ∧ SqT K H a xs ∧ xs.length = n ∧ t xs σ H Q
theorem pg_tup {es : List Expr} {k : Nat} {t : TGs} {n : Nat} (hc : X.calm = true) (h : PGs X es t)
    (hn : (assignEach es X.env).length = n := by rfl) (hst : (assignEach es X.env).findIdx? (·.1) = none := by rfl) : PG X (.Tuple es k pos) (gTup X.K n t) := by
  intro pins s σ H v u Q I r hw
  obtain ⟨a, xs, e1, hq, hl, hw⟩ := hw
  subst e1
  cases r
  obtain ⟨its, rv, ht, hz⟩ := I.tuple hq
  refine assign_Tuple_tuple (I.ok.hd hc) ht (by simp [hn, ← hl, rv.length]) hst fun h' hx => ?_
  have I1 : Inv X pins σ H { s with heap := h' } := I.kept (t' := s.toks) fun b o e => hx b o (Nat.ne_of_lt (Heap.lt_size e)) e
  exact h pins _ σ H xs _ Q I1 (by simpa using rv) hw
def gSub (to ti : TE) (t : TSet) : TG := fun v σ H Q => to σ H fun o H1 => ti σ H1 fun i H2 => t o i v H2 fun H3 => Q σ H3
theorem pg_sub {o i : Expr} {to ti : TE} {t : TSet} (ho : PE X o to) (hi : PE X i ti) (hs : PSet X t)
    (ha : ∀ v, assign (.Subscript o i pos) X.env v = (do
      let ov ← holding [v] (eval o X.env)
      let iv ← holding [v, ov] (eval i X.env)
      standAt pos
      holding [v, ov, iv] (setItem ov iv v)
      release [v, ov, iv] []) := by intro _; rfl) : PG X (.Subscript o i pos) (gSub to ti t) := by
  intro pins s σ H v u Q I r h
  rw [ha]
  refine wpAny_bind (wpAny_holding (thn (ho pins s σ H _ I h) fun ov s1 zz => ?_))
  obtain ⟨x, H1, I1, r1, q1⟩ := zz
  refine wpAny_bind (wpAny_holding (thn (hi pins s1 σ H1 _ I1 q1) fun iv s2 zz => ?_))
  obtain ⟨y, H2, I2, r2, q2⟩ := zz
  refine wpAny_bind (wpAny_standAt (wpAny_bind (wpAny_holding (thn (hs pins s2 σ H2 x y v ov iv u _ I2 r1 r2 r q2) fun _ s3 zz => ?_))))
  obtain ⟨H3, I3, q3⟩ := zz
  exact wpAny_release ⟨σ, H3, I3, q3⟩
def tAsg (te : TE) (g : TG) : TS := fun D σ H => te σ H fun x H1 => g x σ H1 D.nx
theorem ps_asg {tg e : Expr} {te : TE} {g : TG} (he : PE X e te) (hg : PG X tg g) (hs : swapsWithSole [tg] e pos.line X.env = pure false := by rfl) (hw : swappedStores [tg] e X.env = pure none := by rfl)
    (h1 : (assignEach [tg] X.env).map (·.2) = [assign tg X.env] := by rfl) : PS X (.Assign [tg] e pos) (tAsg te g) := by
  intro pins s σ H D I h
  refine wpAny_Assign_stores (thn (he pins s σ H _ I h) fun v s1 zz => ?_) hs hw
  obtain ⟨x, H1, I1, r1, q1⟩ := zz
  rw [h1]
  exact thn (hg pins s1 σ H1 x v _ I1 r1 q1) fun _ s2 q => q
theorem ps_set {i : Nat} {x : Str} {e : Expr} {te : TE} {pos' : Pos} (hN : X.N.Nodup) (hi : X.N[i]? = some x) (hx : Loc X.env.scope x) (he : PE X e te) (hs : swapsWith e (some (.Name x pos')) pos.line X.env = pure false := by rfl) (hf : X.fn x = true ∨ X.env.scope.names.lookup x = some .local := by first | exact .inl rfl | exact .inr rfl | assumption) :
    PS X (.Assign [.Name x pos'] e pos) (tAsg te (gName i)) := by
  intro pins s σ H D I h
  refine wpAny_Assign_Name (thn (he pins s σ H _ I h) fun v s1 zz => ?_) hs
  obtain ⟨y, H1, I1, r1, q1⟩ := zz
  exact store_ok I1 hN hi hx r1 (fun s2 I2 => ⟨_, H1, I2, q1⟩) hf
def tPar (i j : Nat) (ta : TA) : TS := fun D σ H => ta σ H fun vs H1 => ∃ v w, vs = [v, w] ∧ D.nx ((σ.set i (some v)).set j (some w)) H1
theorem ps_par {i j : Nat} {x y : Str} {a b : Expr} {ta : TA} {px py pt : Pos} {kt k2 pt2} (hc : X.calm = true) (hN : X.N.Nodup) (hi : X.N[i]? = some x) (hj : X.N[j]? = some y) (hij : i ≠ j)
    (hx : X.env.scope.names.lookup x = some .local) (hy : X.env.scope.names.lookup y = some .local) (ha : PA X [a, b] ta)
    (hw : swappedStores [.Tuple [.Name x px, .Name y py] kt pt] (.Tuple [a, b] k2 pt2) X.env = pure (some [x, y]))
    (hs : swapsWithSole [.Tuple [.Name x px, .Name y py] kt pt] (.Tuple [a, b] k2 pt2) pos.line X.env = pure false := by rfl) :
    PS X (.Assign [.Tuple [.Name x px, .Name y py] kt pt] (.Tuple [a, b] k2 pt2) pos) (tPar i j ta) := by
  intro pins s σ H D I h
  rw [exec_Assign_arm]
  refine wpAny_bind (wpAny_standAt ?_)
  rw [hs]
  refine wpAny_bind (wpAny_pure ?_)
  rw [if_neg (by decide)]
  refine wpAny_bind (Tuple_ (thn (ha _ pins s σ H _ I h) fun us s1 zz => ?_))
  obtain ⟨vs, H1, I1, r1, q1⟩ := zz
  obtain ⟨v, w, e1, q1⟩ := q1
  subst e1
  obtain ⟨u1, u2, rfl, rv, rw'⟩ : ∃ u1 u2, us = [u1, u2] ∧ RelV v u1 ∧ RelV w u2 := by
    cases r1 with
    | cons p q =>
      cases q with
      | cons p' q' =>
        cases q'
        exact ⟨_, _, rfl, p, p'⟩
  refine wpAny_newObj_type ?_ (by show 2 ≤ sizeLine; decide)
  have I2 : Inv X pins σ H1 { s1 with heap := s1.heap.push { cls := .type "tuple", data := .seq [u1, u2].toArray } } := I1.kept (t' := s1.toks) fun b o e => Heap.get?_push_of_some _ e
  rw [hw]
  refine wpAny_bind (wpAny_pure ?_)
  show wpAny (model X.prog X.w) X.A (do rule "assign.swapped-stores"; let items ← unpackItems (.ref s1.heap.objs.size) 2 none; assignInOrder [fun v => bindName X.env y v, fun v => bindName X.env x v] items.reverse; pure Flow.next) _ _ _
  refine wpAny_bind (wpAny_rule (wpAny_bind (unpackItems_tuple (items := #[u1, u2]) (I.ok.hd hc) (IsTup.new s1.heap _) fun h' hx' => ?_)))
  have I3 := I2.kept (h' := h') (t' := s1.toks) fun b o e => hx' b o (Nat.ne_of_lt (Heap.lt_size e)) e
  show wpAny _ _ (assignInOrder [fun v => bindName X.env y v, fun v => bindName X.env x v] [u2, u1] >>= fun _ => pure Flow.next) _ _ _
  refine wpAny_bind (assignInOrder_cons (wpAny_bindName (store_ok I3 hN hj (.inl hy) rw' (fun s2 I4 => ?_) (.inr hy))))
  refine assignInOrder_cons (wpAny_bindName (store_ok I4 hN hi (.inl hx) rv (fun s3 I5 => assignInOrder_nil (wpAny_pure ?_)) (.inr hx)))
  rw [List.set_comm _ _ (Ne.symm hij)] at I5
  exact ⟨_, H1, I5, q1⟩
end
structure It where
  go : Nat → Hp → Prop
  yld : Nat → Hp → V → Hp → Prop
  stop : Nat → Hp → Prop
def FpOk (X : Cx) (pins : List (Addr × Obj)) (H : Hp) (b : Addr) : Prop :=
  H b = none ∧ b ≠ X.env.locals ∧ b ∉ X.fs ∧ (b ∈ X.ex ∨ X.s₀.heap.objs.size ≤ b) ∧ (∀ x c, X.env.cells.lookup x = some c → c ≠ b) ∧ ∀ p ∈ X.pn ++ pins, p.1 ≠ b
theorem Inv.fpOk {X : Cx} {pins : List (Addr × Obj)} {σ : St} {H H' : Hp} {s : Shared} {b : Addr} (I : Inv X pins σ H s) (hb : s.heap.objs.size ≤ b) (hn : H' b = none) : FpOk X pins H' b := by
  refine ⟨hn, Nat.ne_of_gt (Nat.lt_of_lt_of_le I.lt hb), I.nofs hb, .inr (Nat.le_trans I.sz hb), fun x c e z => ?_, fun p hp z => ?_⟩
  · obtain ⟨v, q⟩ := I.cell x c e
    exact absurd (Nat.lt_of_lt_of_le q.lt (by rw [z]; exact hb)) (Nat.lt_irrefl _)
  · exact absurd (Nat.lt_of_lt_of_le (Heap.lt_size (I.pin p hp).1) (by rw [z]; exact hb)) (Nat.lt_irrefl _)
structure Turn (P : Program) (w : World) (K : PySem.W.Frag) (tg : Expr) (J : It) (fp : List Addr) (it : Addr) (tn : Nat → Heap → Prop) : Prop where
  mem : it ∈ fp
  obj : ∀ i h, tn i h → ∀ b ∈ fp, ∃ o, h.get? b = some o ∧ ∀ v, o.data ≠ .cell v
  keep : ∀ i h h', tn i h → (∀ b ∈ fp, ∀ o, h.get? b = some o → h'.get? b = some o) → tn i h'
  item : ∀ (X : Cx), X.prog = P → X.w = w → X.K = K → X.calm = true → ∀ (i : Nat) (pins : List (Addr × Obj)) (s : Shared) (σ : St) (H : Hp) (E : Value → Shared → Prop), Inv X pins σ H s → (∀ b ∈ fp, FpOk X pins H b) → tn i s.heap → J.go i H →
    wpAny (model P w) X.A (pyNext (.ref it)) (fun r s1 => ∃ u, r = some u ∧
      wpAny (model P w) X.A (letOwnedTupleGo tg (.ref it) u) (fun _ s2 => ∃ x H', Inv X pins σ H' s2 ∧ RelV x u ∧ J.yld i H x H' ∧ tn (i + 1) s2.heap ∧ ∀ b ∈ fp, H' b = none) E s1) E s
  done : ∀ (X : Cx), X.prog = P → X.w = w → X.K = K → X.calm = true → ∀ (i : Nat) (pins : List (Addr × Obj)) (s : Shared) (σ : St) (H : Hp) (E : Value → Shared → Prop), Inv X pins σ H s → (∀ b ∈ fp, FpOk X pins H b) → tn i s.heap → J.stop i H →
    wpAny (model P w) X.A (pyNext (.ref it)) (fun r s1 => r = none ∧ Inv X pins σ H s1) E s
  self : ∀ (A : Around) (i : Nat) (s : Shared) (Q : Value → Shared → Prop) (E : Value → Shared → Prop), tn i s.heap → Q (.ref it) s → wpAny (model P w) A (pyIter (.ref it)) Q E s
abbrev TI := St → Hp → (It → Hp → Prop) → Prop
def PIE (X : Cx) (pins : List (Addr × Obj)) (σ : St) (tg : Expr) (R : It → Hp → Prop) (itv : Value) (s2 : Shared) : Prop :=
  ∃ (it : Addr) (fp : List Addr) (tn : Nat → Heap → Prop) (J : It) (H' : Hp), itv = .ref it ∧ Inv X pins σ H' s2 ∧ Turn X.prog X.w X.K tg J fp it tn ∧ tn 0 s2.heap ∧ (∀ b ∈ fp, FpOk X pins H' b) ∧ R J H'
def PI (X : Cx) (tg iter : Expr) (wi : TI) : Prop :=
  ∀ (pins : List (Addr × Obj)) (s : Shared) (σ : St) (H : Hp) (R : It → Hp → Prop), Inv X pins σ H s → wi σ H R →
    wpAny (model X.prog X.w) X.A (eval iter X.env) (fun v s1 => wpAny (model X.prog X.w) X.A (pyIter v) (PIE X pins σ tg R) X.xe s1) X.xe s
theorem go_of {M : Model} {A : Around} {E : Value → Shared → Prop} {s : Shared} {tg : Expr} {it : Addr} {u : Value} {o : Obj} {n : String} {vs : Array Value} {Q : Unit → Shared → Prop} (ho : s.heap.get? it = some o) (hc : o.cls = .type n) (hd : o.data = .fields vs)
    (hn : ["enumerate", "zip", "dict_itemiterator", "dict_reverseitemiterator", "odict_iterator", "itertools.zip_longest", "itertools.pairwise"].contains n = false) (hQ : Q () s) : wpAny M A (letOwnedTupleGo tg (.ref it) u) Q E s := by
  unfold letOwnedTupleGo
  cases tg <;> first
    | exact wpAny_pure hQ
    | (cases u <;> first
        | exact wpAny_pure hQ
        | (refine wpAny_bind (wpAny_load ho ?_)
           rw [hc, hd]
           show wpAny M A (if (["enumerate", "zip", "dict_itemiterator", "dict_reverseitemiterator", "odict_iterator", "itertools.zip_longest", "itertools.pairwise"].contains n && vs[0]? == some (rawInt _)) = true then _ else _) Q E s
           rw [if_neg (by intro h; rw [hn, Bool.false_and] at h; cases h)]
           exact wpAny_pure hQ))
def Itr (lo : Int) (n : Nat) : It := ⟨fun i _ => i < n, fun i H x H' => H' = H ∧ x = .int (lo + i), fun i _ => n ≤ i⟩
theorem turn_range {P : Program} {w : World} {K : PySem.W.Frag} {tg : Expr} (it : Addr) (lo : Int) (n : Nat) : Turn P w K tg (Itr lo n) [it] it (fun i h => IsRangeIter h it (lo + (i : Nat) * 1) ((n : Int) - (i : Nat)) 1) where
  mem := by simp
  obj := fun i h st b hb => by
    have e : b = it := by simpa using hb
    subst e
    exact ⟨_, st, fun v z => by
      have z' : Data.fields _ = Data.cell v := z
      cases z'⟩
  keep := fun i h h' st k => k it (by simp) _ st
  item := by
    intro X hP hw hK hc i pins s σ H E I hf st hg
    subst hP hw hK
    obtain ⟨f0, f1, f2, f3, f4, f5⟩ := hf it (by simp)
    have W := Walks.range (prog := X.prog) (w := X.w) (I.ok.hd hc) it lo 1 n
    refine W.item i s _ _ hg st fun v h' tk hv st' kk => ?_
    obtain ⟨t, rfl⟩ := hv
    have I1 : Inv X pins σ H { s with heap := h', toks := tk } := I.turned (fun b o hb e => kk b o (by simpa using hb) e) f0 f1 f3 f4 f5
    refine ⟨_, rfl, go_of (s := { s with heap := h', toks := tk }) (n := "range_iterator") st' rfl rfl (by decide) ⟨.int (lo + i), H, I1, ⟨t, ?_⟩, ⟨rfl, rfl⟩, st', fun b hb => (hf b hb).1⟩⟩
    rw [Int.mul_one]
  done := by
    intro X hP hw hK hc i pins s σ H E I hf st hg
    subst hP hw hK
    obtain ⟨f0, f1, f2, f3, f4, f5⟩ := hf it (by simp)
    exact wpAny_pyNext_range_end (I.ok.hd hc) st (by have : n ≤ i := hg; omega) fun h' eb => ⟨rfl, I.turned (t' := s.toks) (fun b o hb e => eb b o hb e) f0 f1 f3 f4 f5⟩
  self := fun _ _ _ _ _ st h => wpAny_pyIter_rangeiter st h
end L2
namespace L2
open PySem PySem.Spec PyProof.Rows
section
variable {X : Cx} {tg : Expr}
theorem range_it {pins : List (Addr × Obj)} {σ : St} {H : Hp} {s : Shared} {R : It → Hp → Prop} {E : Value → Shared → Prop} {lo hi : Int} {t u v : Tok} {tk : Nat} (I : Inv X pins σ H s) (h1 : -(2 ^ 62) ≤ lo) (h2 : lo < 2 ^ 62) (h3 : -(2 ^ 62) ≤ hi) (h4 : hi < 2 ^ 62)
    (q : R (Itr lo (hi - lo).toNat) H) : wpAny (model X.prog X.w) X.A (pyIter (.ref s.heap.objs.size)) (PIE X pins σ tg R) E { s with heap := s.heap.push { cls := .type "range", data := .fields #[.int lo t, .int hi u, .int 1 v] }, toks := tk } := by
  refine wpAny_pyIter_range (IsRange.new ..) (small_one h1 h2 h3 h4) ?_
  have I1 : Inv X pins σ H { s with heap := s.heap.push { cls := .type "range", data := .fields #[.int lo t, .int hi u, .int 1 v] }, toks := tk } := I.kept fun b o e => Heap.get?_push_of_some _ e
  refine ⟨(s.heap.push { cls := .type "range", data := .fields #[.int lo t, .int hi u, .int 1 v] }).objs.size, [(s.heap.push { cls := .type "range", data := .fields #[.int lo t, .int hi u, .int 1 v] }).objs.size], _, _, H, rfl,
    I1.kept (t' := tk) fun b o e => Heap.get?_push_of_some _ e, turn_range _ lo (hi - lo).toNat, ?_, fun b hb => ?_, q⟩
  · have e1 : lo + ((0 : Nat) : Int) * 1 = lo := by simp
    have e2 : (((hi - lo).toNat : Nat) : Int) - ((0 : Nat) : Int) = Builtin.Range.rangeSize lo hi 1 := by rw [rangeSize_one]; split <;> omega
    show IsRangeIter _ _ (lo + ((0 : Nat) : Int) * 1) ((((hi - lo).toNat : Nat) : Int) - ((0 : Nat) : Int)) 1
    rw [e1, e2]
    exact Heap.get?_push_size _ rfl
  · have e : b = (s.heap.push { cls := .type "range", data := .fields #[.int lo t, .int hi u, .int 1 v] }).objs.size := by simpa using hb
    subst e
    exact I1.fpOk (Nat.le_refl _) (I1.hok.fresh (Nat.le_refl _))
def iRng1 (ta : TA) : TI := fun σ H R => ta σ H fun vs H1 => ∃ j : Int, vs = [.int j] ∧ -(2 ^ 62) ≤ j ∧ j < 2 ^ 62 ∧ R (Itr 0 j.toNat) H1
theorem pi_range1 {a : Expr} {ta : TA} {p pos : Pos} (hg : Gl X "range") (hm : X.mg "range" = none) (ha : PA X [a] ta) (hs : starEach [a] X.env = [(false, eval a X.env)] := by rfl) : PI X tg (.Call (.Name "range" p) [a] [] pos) (iRng1 ta) := by
  intro pins s σ H R I h
  refine Call_ (ld_blt I hg hm boot_range (PyProof.Rows.callWith_type1 (thn (ha pos pins s σ H _ I h) fun us s1 zz => ?_) hs rfl))
  obtain ⟨vs, H1, I1, r1, q1⟩ := zz
  obtain ⟨j, e, q1, q2, q⟩ := q1
  subst e
  cases r1 with
  | cons r rr =>
    cases rr
    obtain ⟨t, rfl⟩ := r
    exact call_range_1 (range_it I1 (by omega) (by omega) q1 q2 (by simpa using q))
def tFor (wi : TI) (g : TG) (tb : TS) : TS := fun D σ H => wi σ H fun J H1 => ∃ W : Nat → Nat → St → Hp → Prop, (∃ m, W 0 m σ H1) ∧ ∀ i m σ H, W i m σ H →
  (J.stop i H ∧ D.nx σ H) ∨ (J.go i H ∧ ∃ N : St → Hp → Prop, (∀ σ' H', N σ' H' → ∃ m', m' < m ∧ W (i + 1) m' σ' H') ∧ ∀ x H', J.yld i H x H' → g x σ H' fun σ2 H2 => tb { D with nx := N, ct := N, bk := D.nx } σ2 H2)
def pinsAt (fp : List Addr) (h : Heap) : List (Addr × Obj) := fp.filterMap fun b => (h.get? b).map fun o => (b, o)
theorem mem_pinsAt {fp : List Addr} {h : Heap} {b : Addr} {o : Obj} (hb : b ∈ fp) (e : h.get? b = some o) : (b, o) ∈ pinsAt fp h := List.mem_filterMap.mpr ⟨b, hb, by rw [e]; rfl⟩
theorem of_pinsAt {fp : List Addr} {h : Heap} {p : Addr × Obj} (hp : p ∈ pinsAt fp h) : p.1 ∈ fp ∧ h.get? p.1 = some p.2 := by
  obtain ⟨b, hb, e⟩ := List.mem_filterMap.mp hp
  cases q : h.get? b with
  | none => rw [q] at e; cases e
  | some o =>
    rw [q] at e
    have e' : (b, o) = p := Option.some.inj e
    subst e'
    exact ⟨hb, q⟩
theorem Inv.pinned {pins : List (Addr × Obj)} {σ : St} {H : Hp} {s : Shared} {fp : List Addr} (I : Inv X pins σ H s) (hf : ∀ b ∈ fp, FpOk X pins H b) (ho : ∀ b ∈ fp, ∃ o, s.heap.get? b = some o ∧ ∀ v, o.data ≠ .cell v) : Inv X (pins ++ pinsAt fp s.heap) σ H s :=
  I.pins_of fun p hp => (List.mem_append.mp hp).elim (fun z => I.pin p (List.mem_append_right _ z)) fun z => by
    obtain ⟨hb, e⟩ := of_pinsAt z
    obtain ⟨f0, f1, f2, _⟩ := hf p.1 hb
    obtain ⟨o, e', d⟩ := ho p.1 hb
    rw [e] at e'; cases e'
    exact ⟨e, f0, f1, f2, d⟩
theorem Inv.unpinned {pins pl : List (Addr × Obj)} {σ : St} {H : Hp} {s : Shared} (I : Inv X (pins ++ pl) σ H s) : Inv X pins σ H s := I.pins_of fun p hp => I.pin p (List.mem_append_right _ (List.mem_append_left _ hp))
theorem ps_for {iter : Expr} {body : List Stmt} {wi : TI} {g : TG} {tb : TS} {pos : Pos} (hp : PassesOwn (model X.prog X.w) X.A X.env X.xe) (hc : X.calm = true) (hi : PI X tg iter wi) (hg : PG X tg g) (hb : PSs X body tb)
    (hs : ∀ x, foldedSetIterable iter X.env x = pure x := by intro _; rfl) : PS X (.For tg iter body [] pos) (tFor wi g tb) := by
  intro pins s σ H D I h
  refine wpAny_For (thn (hi pins s σ H _ I h) fun v s1 h1 => thn h1 fun itv s2 h2 => ?_) hs
  obtain ⟨it, fp, tn, J, H2, e, I2, T, st2, f2, W, ⟨m0, w0⟩, turn⟩ := h2
  subst e
  have stat : ∀ {H' : Hp}, (∀ b ∈ fp, H' b = none) → ∀ b ∈ fp, FpOk X pins H' b := fun hn b hb => ⟨hn b hb, (f2 b hb).2⟩
  refine codeAny_forLoop_any (fun n s' => ∃ i σ' H', Inv X pins σ' H' s' ∧ tn i s'.heap ∧ (∀ b ∈ fp, H' b = none) ∧ W i n σ' H') ?_ m0 ⟨0, σ, H2, I2, st2, fun b hb => (f2 b hb).1, w0⟩
  rintro n s3 ⟨i, σ3, H3, I3, st3, fr3, w3⟩
  rcases turn i n σ3 H3 w3 with ⟨stop, qn⟩ | ⟨go, N, hN, step⟩
  · refine wpAny_passesOwn hp (thn (T.done X rfl rfl rfl hc i pins s3 σ3 H3 X.xe I3 (stat fr3) st3 stop) fun r s4 zz => ?_)
    obtain ⟨hr, I4⟩ := zz
    subst hr
    exact wpAny_execs_nil ⟨σ3, H3, I4, qn⟩
  · refine wpAny_passesOwn hp (thn (T.item X rfl rfl rfl hc i pins s3 σ3 H3 X.xe I3 (stat fr3) st3 go) fun r s4 zz => ?_)
    obtain ⟨u, hr, h4⟩ := zz
    subst hr
    refine wpAny_passesOwn hp (thn h4 fun _ s5 zz => ?_)
    obtain ⟨x, H5, I5, r5, y5, st5, fr5⟩ := zz
    have I5' := I5.pinned (stat fr5) (T.obj _ _ st5)
    refine wpAny_passesOwn hp (thn (hg _ s5 σ3 H5 x u _ I5' r5 (step x H5 y5)) fun _ s6 zz => ?_)
    obtain ⟨σ6, H6, I6, q6⟩ := zz
    refine wpAny_passesOwn hp (thn (hb _ s6 σ6 H6 _ I6 q6) fun f s7 q7 => ?_)
    have again : ∀ {σ7 : St} {H7 : Hp}, Inv X (pins ++ pinsAt fp s5.heap) σ7 H7 s7 → N σ7 H7 → ∃ m, m < n ∧ ∃ i σ' H', Inv X pins σ' H' s7 ∧ tn i s7.heap ∧ (∀ b ∈ fp, H' b = none) ∧ W i m σ' H' := fun {σ7 H7} I7 n7 => by
      obtain ⟨m', hm, w7⟩ := hN σ7 H7 n7
      refine ⟨m', hm, i + 1, σ7, H7, I7.unpinned, T.keep _ _ _ st5 fun b hb o e => (I7.pin (b, o) (List.mem_append_right _ (List.mem_append_right _ (mem_pinsAt hb e)))).1, fun b hb => ?_, w7⟩
      obtain ⟨o, e, d⟩ := T.obj _ _ st5 b hb
      exact (I7.pin (b, o) (List.mem_append_right _ (List.mem_append_right _ (mem_pinsAt hb e)))).2.1
    cases f with
    | next => obtain ⟨σ7, H7, I7, n7⟩ := q7; exact again I7 n7
    | cont => obtain ⟨σ7, H7, I7, n7⟩ := q7; exact again I7 n7
    | brk => obtain ⟨σ7, H7, I7, q7⟩ := q7; exact ⟨σ7, H7, I7.unpinned, q7⟩
    | ret v => obtain ⟨x7, σ7, H7, I7, r7, q7⟩ := q7; exact ⟨x7, σ7, H7, I7.unpinned, r7, q7⟩
end
theorem for_range {lo : Int} {n : Nat} {g : TG} {tb : TS} {D : Ends} {σ : St} {H : Hp} (Pv : Nat → St → Hp → Prop) (h0 : Pv 0 σ H)
    (hs : ∀ i σ H, i < n → Pv i σ H → g (.int (lo + i)) σ H fun σ2 H2 => tb { D with nx := Pv (i + 1), ct := Pv (i + 1), bk := D.nx } σ2 H2) (hd : ∀ σ H, Pv n σ H → D.nx σ H) :
    ∃ W : Nat → Nat → St → Hp → Prop, (∃ m, W 0 m σ H) ∧ ∀ i m σ H, W i m σ H →
      ((Itr lo n).stop i H ∧ D.nx σ H) ∨ ((Itr lo n).go i H ∧ ∃ N : St → Hp → Prop, (∀ σ' H', N σ' H' → ∃ m', m' < m ∧ W (i + 1) m' σ' H') ∧ ∀ x H', (Itr lo n).yld i H x H' → g x σ H' fun σ2 H2 => tb { D with nx := N, ct := N, bk := D.nx } σ2 H2) := by
  refine ⟨fun i m σ H => m = n - i ∧ i ≤ n ∧ Pv i σ H, ⟨n, by simp, Nat.zero_le _, h0⟩, ?_⟩
  rintro i m σ H ⟨rfl, hi, p⟩
  by_cases hlt : i < n
  · refine .inr ⟨hlt, Pv (i + 1), fun σ' H' p' => ⟨n - (i + 1), by omega, rfl, hlt, p'⟩, fun x H' y => ?_⟩
    obtain ⟨e, y⟩ := y
    subst e y
    exact hs i σ _ hlt p
  · have e : i = n := by omega
    subst e
    exact .inl ⟨Nat.le_refl _, hd σ H p⟩
end L2
namespace L2
open PySem PySem.Spec PyProof.Rows
abbrev R2 := V → V → Hp → VK → Prop
def OpR (X : Cx) (f : Value → Value → Sem Value) (r : R2) : Prop :=
  ∀ (pins : List (Addr × Obj)) (s : Shared) (σ : St) (H : Hp) (x y : V) (v u : Value) (Q : VK), Inv X pins σ H s → RelV x v → RelV y u → r x y H Q →
    wpAny (model X.prog X.w) X.A (f v u) (EP X pins σ Q) X.xe s
def CallR (X : Cx) (f : Value) (r : List V → Hp → VK → Prop) : Prop :=
  ∀ (pins : List (Addr × Obj)) (s : Shared) (σ : St) (H : Hp) (xs : List V) (us : List Value) (Q : VK), Inv X pins σ H s → Vals xs us → r xs H Q →
    wpAny (model X.prog X.w) X.A (call f us) (EP X pins σ Q) X.xe s
def tOp (r : R2) (ta tb : TE) : TE := fun σ H Q => ta σ H fun x H1 => tb σ H1 fun y H2 => r x y H2 Q
def rI (C : Int → Int → Prop) (g : Int → Int → V) : R2 := fun x y H Q => ∃ i j, x = .int i ∧ y = .int j ∧ C i j ∧ Q (g i j) H
def rI0 (g : Int → Int → V) : R2 := fun x y H Q => ∃ i j, x = .int i ∧ y = .int j ∧ Q (g i j) H
section
variable {X : Cx} {a b c : Expr} {ta tb tc : TE} {pos : Pos}
theorem binT (ha : PE X a ta) (hb : PE X b tb) {pins : List (Addr × Obj)} {s : Shared} {σ : St} {H : Hp} {R : V → V → Hp → Prop} (I : Inv X pins σ H s)
    (h : ta σ H fun x H1 => tb σ H1 fun y H2 => R x y H2) {Q : Value → Shared → Prop} {f : Value → Value → Sem Value}
    (hf : ∀ v u s2 x y H2, Inv X pins σ H2 s2 → RelV x v → RelV y u → R x y H2 → wpAny (model X.prog X.w) X.A (f v u) Q X.xe s2) :
    wpAny (model X.prog X.w) X.A (eval a X.env) (fun v s₁ => wpAny (model X.prog X.w) X.A (eval b X.env) (fun u s₂ => wpAny (model X.prog X.w) X.A (f v u) Q X.xe s₂) X.xe s₁) X.xe s := by
  refine thn (ha pins s σ H _ I h) fun v s1 zz => ?_
  obtain ⟨x, H1, I1, r1, q1⟩ := zz
  refine thn (hb pins s1 σ H1 _ I1 q1) fun u s2 zz => ?_
  obtain ⟨y, H2, I2, r2, q2⟩ := zz
  exact hf v u s2 x y H2 I2 r1 r2 q2
theorem pe_op {op : Operator} {r : R2} (ho : OpR X (binaryOp op) r) (ha : PE X a ta) (hb : PE X b tb) : PE X (.BinOp a op b pos) (tOp r ta tb) := by
  intro pins s σ H Q I h
  exact wpAny_BinOp (binT ha hb I h fun v u s2 x y H2 I2 rx ry q => ho pins s2 σ H2 x y v u Q I2 rx ry q)
theorem opI {f : Value → Value → Sem Value} {C : Int → Int → Prop} {g : Int → Int → Int}
    (rule : ∀ (i j : Int) (t u : Tok) (s : Shared) (Q : Value → Shared → Prop) (E : Value → Shared → Prop), C i j → Q (.int (g i j) s.toks) { s with toks := s.toks + 1 } → wpAny (model X.prog X.w) X.A (f (.int i t) (.int j u)) Q E s) :
    OpR X f (rI C fun i j => .int (g i j)) := by
  intro pins s σ H x y v u Q I rx ry h
  obtain ⟨i, j, rfl, rfl, hc, q⟩ := h
  obtain ⟨t, rfl⟩ := rx
  obtain ⟨t', rfl⟩ := ry
  exact rule i j t t' s _ _ hc ⟨.int (g i j), H, I.tok _, ⟨_, rfl⟩, q⟩
theorem opI0 {f : Value → Value → Sem Value} {g : Int → Int → Int}
    (rule : ∀ (i j : Int) (t u : Tok) (s : Shared) (Q : Value → Shared → Prop) (E : Value → Shared → Prop), Q (.int (g i j) s.toks) { s with toks := s.toks + 1 } → wpAny (model X.prog X.w) X.A (f (.int i t) (.int j u)) Q E s) :
    OpR X f (rI0 fun i j => .int (g i j)) := by
  intro pins s σ H x y v u Q I rx ry h
  obtain ⟨i, j, rfl, rfl, q⟩ := h
  obtain ⟨t, rfl⟩ := rx
  obtain ⟨t', rfl⟩ := ry
  exact rule i j t t' s _ _ ⟨.int (g i j), H, I.tok _, ⟨_, rfl⟩, q⟩
theorem opB0 {f : Value → Value → Sem Value} {g : Int → Int → Bool}
    (rule : ∀ (i j : Int) (t u : Tok) (s : Shared) (Q : Value → Shared → Prop) (E : Value → Shared → Prop), Q (.bool (g i j)) s → wpAny (model X.prog X.w) X.A (f (.int i t) (.int j u)) Q E s) :
    OpR X f (rI0 fun i j => .bl (g i j)) := by
  intro pins s σ H x y v u Q I rx ry h
  obtain ⟨i, j, rfl, rfl, q⟩ := h
  obtain ⟨t, rfl⟩ := rx
  obtain ⟨t', rfl⟩ := ry
  exact rule i j t t' s _ _ ⟨.bl (g i j), H, I, rfl, q⟩
def CDiv (i j : Int) : Prop := 0 < j ∧ j < 1073741824
def CPow (i j : Int) : Prop := 0 ≤ j ∧ j ≤ 1000000 ∧ i.natAbs < 2 ^ 64
def CMul (i j : Int) : Prop := (-(2 ^ 64) < i ∧ i < 2 ^ 64) ∨ (-(2 ^ 64) < j ∧ j < 2 ^ 64)
theorem CMul.ok {i j : Int} (h : CMul i j) : IntMulOk i j := by
  rcases h with ⟨h1, h2⟩ | ⟨h1, h2⟩
  · exact .of_left (intBits_le_64 h1 h2)
  · exact .of_right (intBits_le_64 h1 h2)
theorem op_add : OpR X (binaryOp .Add) (rI0 fun i j => .int (i + j)) := opI0 fun _ _ _ _ _ _ _ q => add_int q
theorem op_sub : OpR X (binaryOp .Sub) (rI0 fun i j => .int (i - j)) := opI0 fun _ _ _ _ _ _ _ q => sub_int q
theorem op_mul : OpR X (binaryOp .Mult) (rI CMul fun i j => .int (i * j)) := opI fun _ _ _ _ _ _ _ hc q => mul_int q hc.ok
theorem op_fdiv : OpR X (binaryOp .FloorDiv) (rI CDiv fun i j => .int (i / j)) := opI fun i j _ _ _ _ _ hc q => by
  have h1 : (0 : Int) < j := hc.1
  have h2 : j < 1073741824 := hc.2
  exact floordiv_int (by omega) (by rw [Int.fdiv_eq_ediv_of_nonneg i (by omega)]; exact q) (.inl (PyProof.noPylong_small (by omega)))
theorem op_mod : OpR X (binaryOp .Mod) (rI (fun _ j => 0 < j) fun i j => .int (i % j)) := opI fun i j _ _ _ _ _ hc q => by
  have h1 : (0 : Int) < j := hc
  exact mod_int' (by omega) (by rw [Int.fmod_eq_emod_of_nonneg i (by omega)]; exact q)
theorem op_pow : OpR X (binaryOp .Pow) (rI CPow fun i j => .int (i ^ j.toNat)) := opI fun _ _ _ _ _ _ _ hc q => pow_int_small hc.1 hc.2.1 hc.2.2 q
end
def scal : V → V → Bool
  | .non, .non => true | .non, .int _ => true | .int _, .non => true | .non, .bl _ => true | .bl _, .non => true | .non, .str _ => true | .str _, .non => true
  | .int _, .int _ => true | .bl _, .bl _ => true | .str _, .str _ => true | .byt _, .byt _ => true
  | .int _, .str _ => true | .str _, .int _ => true | .bl _, .str _ => true | .str _, .bl _ => true
  | _, _ => false
def rNe : R2 := fun x y H Q => scal x y = true ∧ Q (.bl (!decide (x = y))) H
theorem dec_int {i j : Int} : decide (V.int i = V.int j) = (i == j) := by
  rw [Bool.eq_iff_iff]
  simp
theorem dec_bl {i j : Bool} : decide (V.bl i = V.bl j) = (i == j) := by
  rw [Bool.eq_iff_iff]
  simp
theorem dec_str {i j : Str} : decide (V.str i = V.str j) = (i == j) := by
  rw [Bool.eq_iff_iff]
  simp
theorem dec_byt {i j : Array UInt8} : decide (V.byt i = V.byt j) = (i.toList == j.toList) := by
  rw [Bool.eq_iff_iff]
  cases i
  cases j
  simp
section
variable {X : Cx} {a b c : Expr} {ta tb tc : TE} {pos : Pos}
theorem fin_bl {pins : List (Addr × Obj)} {σ : St} {H : Hp} {s : Shared} {Q : VK} {k k' : Bool} (I : Inv X pins σ H s) (q : Q (.bl k) H) (e : k = k') : EP X pins σ Q (.bool k') s := by
  subst e
  exact ⟨.bl k, H, I, rfl, q⟩
theorem op_ne : OpR X (compareOp .NotEq) rNe := by
  intro pins s σ H x y v u Q I rx ry h
  obtain ⟨hs, q⟩ := h
  cases x with
  | non =>
    cases rx
    cases y with
    | non => cases ry; exact PySem.EqNone.ne_none_none (fin_bl I q (by simp))
    | bl j => cases ry; exact PySem.EqNone.ne_none_bool (fin_bl I q (by simp))
    | int j => obtain ⟨t', rfl⟩ := ry; exact PySem.EqNone.ne_none_int (fin_bl I q (by simp))
    | str j => obtain ⟨t', rfl⟩ := ry; exact PySem.EqNone.ne_none_str (fin_bl I q (by simp))
    | _ => exact absurd (show false = true from hs) Bool.false_ne_true
  | bl i =>
    cases rx
    cases y with
    | non => cases ry; exact PySem.EqNone.ne_bool_none (fin_bl I q (by simp))
    | bl j => cases ry; exact ne_bool (fin_bl I q (congrArg not dec_bl))
    | str j => obtain ⟨t', rfl⟩ := ry; exact PySem.EqMixed.ne_bool_str (fin_bl I q (by simp))
    | _ => exact absurd (show false = true from hs) Bool.false_ne_true
  | int i =>
    obtain ⟨t, rfl⟩ := rx
    cases y with
    | non => cases ry; exact PySem.EqNone.ne_int_none (fin_bl I q (by simp))
    | int j => obtain ⟨t', rfl⟩ := ry; exact ne_int (fin_bl I q (congrArg not dec_int))
    | str j => obtain ⟨t', rfl⟩ := ry; exact PySem.EqMixed.ne_int_str (fin_bl I q (by simp))
    | _ => exact absurd (show false = true from hs) Bool.false_ne_true
  | str i =>
    obtain ⟨t, rfl⟩ := rx
    cases y with
    | non => cases ry; exact PySem.EqNone.ne_str_none (fin_bl I q (by simp))
    | bl j => cases ry; exact PySem.EqMixed.ne_str_bool (fin_bl I q (by simp))
    | int j => obtain ⟨t', rfl⟩ := ry; exact PySem.EqMixed.ne_str_int (fin_bl I q (by simp))
    | str j => obtain ⟨t', rfl⟩ := ry; exact ne_str (fin_bl I q (congrArg not dec_str))
    | _ => exact absurd (show false = true from hs) Bool.false_ne_true
  | byt i =>
    obtain ⟨t, rfl⟩ := rx
    cases y with
    | byt j => obtain ⟨t', rfl⟩ := ry; exact PySem.W.ne_bytes (fin_bl I q (congrArg not dec_byt))
    | _ => exact absurd (show false = true from hs) Bool.false_ne_true
  | _ => cases y <;> exact absurd (show false = true from hs) Bool.false_ne_true
theorem op_lt : OpR X (compareOp .Lt) (rI0 fun i j => .bl (decide (i < j))) := opB0 fun _ _ _ _ _ _ _ q => lt_int q
theorem op_gt : OpR X (compareOp .Gt) (rI0 fun i j => .bl (decide (j < i))) := opB0 fun _ _ _ _ _ _ _ q => gt_int q
theorem nomark (b : Expr) {op : CmpOp} (h : op ≠ .In := by decide) (h2 : op ≠ .NotIn := by decide) : behindInMarks op b = false := by
  have e1 : (op == CmpOp.In) = false := by cases op <;> first | rfl | exact absurd rfl h
  have e2 : (op == CmpOp.NotIn) = false := by cases op <;> first | rfl | exact absurd rfl h2
  cases b <;> simp [behindInMarks, e1, e2]
def tTest (t : TE) : TT := fun σ H Q => t σ H fun x H' => ∃ k, x = .bl k ∧ Q k H'
theorem pt_cmpR {op : CmpOp} {r : R2} (ho : OpR X (compareOp op) r) (ha : PE X a ta) (hb : PE X b tb) (hm : behindInMarks op b = false) : PT X (.Compare a [op] [b] pos) (tTest (tOp r ta tb)) := by
  intro pins s σ H Q I h
  refine wpAny_isTrue_Compare1 (thn (ha pins s σ H _ I h) fun v s1 ⟨x, H1, I1, r1, q1⟩ => thn (hb pins s1 σ H1 _ I1 q1) fun u s2 ⟨y, H2, I2, r2, q2⟩ =>
    thn (ho pins s2 σ H2 x y v u _ I2 r1 r2 q2) fun c s3 ⟨z, H3, I3, r3, k, e, q3⟩ => ?_) hm
  subst e
  cases r3
  exact wpAny_truthy_bool ⟨H3, I3, q3⟩
theorem line63 : (sizeLine : Nat) < 2 ^ 63 := by rw [sizeLine_eq]; decide
theorem op_add_str : OpR X (binaryOp .Add) (fun x y H Q => ∃ i j, x = .str i ∧ y = .str j ∧ i.length + j.length ≤ sizeLine ∧ Q (.str (i ++ j)) H) := by
  intro pins s σ H x y v u Q I rx ry h
  obtain ⟨i, j, rfl, rfl, hz, q⟩ := h
  obtain ⟨t, rfl⟩ := rx
  obtain ⟨t', rfl⟩ := ry
  exact add_str (fun t' tk => ⟨.str (i ++ j), H, I.tok _, ⟨_, rfl⟩, q⟩) hz
theorem vals1 {x : V} {us : List Value} (r : Vals [x] us) : ∃ u, us = [u] ∧ RelV x u := by
  cases r with
  | cons r1 r2 => cases r2; exact ⟨_, rfl, r1⟩
theorem vals2 {x y : V} {us : List Value} (r : Vals [x, y] us) : ∃ u w', us = [u, w'] ∧ RelV x u ∧ RelV y w' := by
  cases r with
  | cons r1 r2 =>
    cases r2 with
    | cons r3 r4 => cases r4; exact ⟨_, _, rfl, r1, r3⟩
theorem call_abs : CallR X (.builtin "abs") (fun xs H Q => ∃ i, xs = [.int i] ∧ Q (.int (if i < 0 then -i else i)) H) := by
  intro pins s σ H xs us Q I r h
  obtain ⟨i, rfl, q⟩ := h
  obtain ⟨u, rfl, t, rfl⟩ := vals1 r
  exact call_abs_int fun u tk => ⟨.int (if i < 0 then -i else i), H, I.tok _, ⟨_, rfl⟩, q⟩
theorem call_max2 (hc : X.calm = true) : CallR X (.builtin "max") (fun xs H Q => ∃ i j, xs = [.int i, .int j] ∧ Q (.int (if j > i then j else i)) H) := by
  intro pins s σ H xs us Q I r h
  obtain ⟨i, j, rfl, q⟩ := h
  obtain ⟨u, w', rfl, ⟨t, rfl⟩, ⟨t', rfl⟩⟩ := vals2 r
  refine max_two_ints (I.ok.hd hc) fun h' tk k => ⟨_, H, I.kept k, ?_, q⟩
  by_cases hj : j > i
  · rw [if_pos hj, if_pos hj]; exact ⟨_, rfl⟩
  · rw [if_neg hj, if_neg hj]; exact ⟨_, rfl⟩
theorem call_min2 (hc : X.calm = true) : CallR X (.builtin "min") (fun xs H Q => ∃ i j, xs = [.int i, .int j] ∧ Q (.int (if j < i then j else i)) H) := by
  intro pins s σ H xs us Q I r h
  obtain ⟨i, j, rfl, q⟩ := h
  obtain ⟨u, w', rfl, ⟨t, rfl⟩, ⟨t', rfl⟩⟩ := vals2 r
  refine min_two_ints (I.ok.hd hc) fun h' tk k => ⟨_, H, I.kept k, ?_, q⟩
  by_cases hj : j < i
  · rw [if_pos hj, if_pos hj]; exact ⟨_, rfl⟩
  · rw [if_neg hj, if_neg hj]; exact ⟨_, rfl⟩
theorem call_divmod : CallR X (.builtin "divmod") (fun xs H Q => ∃ i j, xs = [.int i, .int j] ∧ CDiv i j ∧ ∀ p, H p = none → Q (.ref p) (upd H p (.tup [.int (i / j), .int (i % j)]))) := by
  intro pins s σ H xs us Q I r h
  obtain ⟨i, j, rfl, ⟨h1, h2⟩, q⟩ := h
  obtain ⟨u, w', rfl, ⟨t, rfl⟩, ⟨t', rfl⟩⟩ := vals2 r
  refine divmod_int (by omega) ?_ (.inl (PyProof.noPylong_small (by omega)))
  rw [Int.fdiv_eq_ediv_of_nonneg i (by omega), Int.fmod_eq_emod_of_nonneg i (by omega)]
  have hn : H s.heap.objs.size = none := I.hok.fresh (Nat.le_refl _)
  refine ⟨.ref s.heap.objs.size, _, ?_, rfl, q _ hn⟩
  refine I.laid (fun b o e => Heap.get?_push_of_some _ e) (Nat.le_refl _) ⟨by simp only [List.length_cons, List.length_nil]; rw [sizeLine_eq]; decide, [.int (i / j) s.toks, .int (i % j) (s.toks + 1)], .cons ⟨_, rfl⟩ (.cons ⟨_, rfl⟩ .nil), ?_⟩
  exact ⟨_, Heap.get?_push_size s.heap rfl, rfl, 0, rfl⟩
end
end L2
namespace L2
open PySem PySem.Spec PyProof.Rows
structure ObjM (h : Heap) (x dx C : Addr) (mA : Str → Option Value) : Prop where
  obj : h.get? x = some (PySem.W.instObj C dx)
  ns : h.Ns1 dx mA
  ne : dx ≠ x
theorem lookIn_ns {h : Heap} {dx : Addr} {mA : Str → Option Value} (n : h.Ns1 dx mA) : ∃ od, h.get? dx = some od ∧ ∀ name, PySem.W.lookIn name od = some (mA name) := by
  obtain ⟨o, es, ep, ho, hd, hk, _, hm⟩ := n
  refine ⟨o, ho, fun name => ?_⟩
  have e := hm name
  unfold nsFind findBy at e
  rw [← Array.find?_toList] at e
  unfold PySem.W.lookIn
  rw [hd]
  dsimp only
  split
  · rename_i y q
    rw [q] at e
    exact congrArg some e
  · rename_i q
    rw [q] at e
    have a : es.toList.any (·.refKey) = false := by
      rw [List.any_eq_false]
      intro y hy
      obtain ⟨z, t, hkey⟩ := hk y (Array.mem_toList_iff.mp hy)
      simp [DictEntry.refKey, hkey]
    have a' : ¬ es.toList.any (·.refKey) = true := by rw [a]; exact Bool.false_ne_true
    rw [if_neg a']
    exact congrArg some e
def putF (f : Str) (v : V) : List (Str × V) → List (Str × V)
  | [] => [(f, v)]
  | (g, x) :: r => if g = f then (g, v) :: r else (g, x) :: putF f v r
theorem lookup_putF (f g : Str) (v : V) : ∀ fs : List (Str × V), (putF f v fs).lookup g = if g = f then some v else fs.lookup g
  | [] => by
    show List.lookup g [(f, v)] = _
    by_cases h : g = f
    · have hb : (g == f) = true := beq_iff_eq.mpr h
      simp only [List.lookup, hb, if_pos h]
    · have hb : (g == f) = false := beq_eq_false_iff_ne.mpr h
      simp only [List.lookup, hb, if_neg h]
  | (k, x) :: r => by
    have ih := lookup_putF f g v r
    rw [show putF f v ((k, x) :: r) = (if k = f then (k, v) :: r else (k, x) :: putF f v r) from rfl]
    by_cases hk : k = f
    · rw [if_pos hk]
      by_cases h : g = k
      · have hb : (g == k) = true := beq_iff_eq.mpr h
        simp only [List.lookup, hb, if_pos (h.trans hk)]
      · have hb : (g == k) = false := beq_eq_false_iff_ne.mpr h
        simp only [List.lookup, hb, if_neg (fun e : g = f => h (e.trans hk.symm))]
    · rw [if_neg hk]
      by_cases h : g = k
      · have hb : (g == k) = true := beq_iff_eq.mpr h
        simp only [List.lookup, hb, if_neg (fun e : g = f => hk (h.symm.trans e))]
      · have hb : (g == k) = false := beq_eq_false_iff_ne.mpr h
        simp only [List.lookup, hb]
        exact ih
theorem keys_putF (f : Str) (v : V) : ∀ fs : List (Str × V), f ∈ (putF f v fs).map (·.1) ∧ ∀ g, g ∈ fs.map (·.1) → g ∈ (putF f v fs).map (·.1)
  | [] => ⟨by simp [putF], fun g h => by simp at h⟩
  | (k, x) :: r => by
    obtain ⟨i1, i2⟩ := keys_putF f v r
    rw [show putF f v ((k, x) :: r) = (if k = f then (k, v) :: r else (k, x) :: putF f v r) from rfl]
    by_cases hk : k = f
    · rw [if_pos hk]
      subst hk
      exact ⟨by simp, fun g h => by simpa using h⟩
    · rw [if_neg hk]
      refine ⟨?_, fun g h => ?_⟩
      · rw [List.map_cons]
        exact List.mem_cons_of_mem _ i1
      · rw [List.map_cons] at h ⊢
        rcases List.mem_cons.mp h with e | e
        · exact List.mem_cons.mpr (.inl e)
        · exact List.mem_cons_of_mem _ (i2 g e)
theorem length_putF (f : Str) (v : V) : ∀ fs : List (Str × V), (putF f v fs).length ≤ fs.length + 1
  | [] => by simp [putF]
  | (k, x) :: r => by
    have ih := length_putF f v r
    rw [show putF f v ((k, x) :: r) = (if k = f then (k, v) :: r else (k, x) :: putF f v r) from rfl]
    by_cases hk : k = f
    · rw [if_pos hk, List.length_cons, List.length_cons]; omega
    · rw [if_neg hk, List.length_cons, List.length_cons]; omega
theorem RelO.some_of {v : V} {o : Option Value} (r : RelO (some v) o) : ∃ u, o = some u ∧ RelV v u := by
  cases o with
  | none => exact (show False from r).elim
  | some u => exact ⟨u, rfl, r⟩
theorem handed_of {v : V} {u : Value} (r : RelV v u) : PySem.W.handedIn u = true := by
  cases v with
  | non => cases (show u = Value.none from r); rfl
  | bl b => cases (show u = Value.bool b from r); rfl
  | int i => obtain ⟨t, e⟩ := (show ∃ t, u = Value.int i t from r); cases e; rfl
  | str x => obtain ⟨t, e⟩ := (show ∃ t, u = Value.str x t from r); cases e; rfl
  | byt b => obtain ⟨t, e⟩ := (show ∃ t, u = Value.bytes b t from r); cases e; rfl
  | flt b => obtain ⟨t, e⟩ := (show ∃ t, u = Value.float b t from r); cases e; rfl
  | ref a => cases (show u = Value.ref a from r); rfl
  | ty n => cases (show u = Value.type n from r); rfl
section
variable {P : Program} {w : World} {H H' : Hp} {h h' : Heap} {a C dx : Addr} {fs fs' : List (Str × V)}
end
structure Cls (K : PySem.W.Frag) (C : Addr) : Prop where
  pg : PySem.W.plainGet K C Str.empty = true
  hd : PySem.W.hasDictIn K C = true
  po : PySem.W.plainOver K C = true
  sa : PySem.W.findIn K (.ref C) "__setattr__" = some (some (.builtin "object.__setattr__"))
section
variable {X : Cx} {pins : List (Addr × Obj)} {σ : St} {H : Hp} {s : Shared} {a C dx : Addr} {fs : List (Str × V)} {f : Str} {v : V} {A : Around} {E : Value → Shared → Prop}
theorem attr_of {prog : Program} {w : World} {env : Env} {e : Expr} {f : Str} {pos : Pos} {s : Shared} {Q : Value → Shared → Prop} (hb : attributeBase e f env (eval e env) = eval e env)
    (h : wpAny (model prog w) A (eval e env) (fun o s₁ => wpAny (model prog w) A (getAttr o f true) Q E s₁) E s) : wpAny (model prog w) A (eval (.Attribute e f pos) env) Q E s :=
  Attribute_any_ h (by rw [arm_eval_Attribute, hb])
end
section
variable {X : Cx} {pins : List (Addr × Obj)} {σ : St} {H : Hp} {s : Shared} {A : Around} {E : Value → Shared → Prop} {Q : Value → Shared → Prop} {c : Value} {b : Bool}
inductive TyOf (K : PySem.W.Frag) (H : Hp) : V → Value → Prop where
  | non : TyOf K H .non (.type "NoneType")
  | bl (x : Bool) : TyOf K H (.bl x) (.type "bool")
  | int (i : Int) : TyOf K H (.int i) (.type "int")
  | str (x : Str) : TyOf K H (.str x) (.type "str")
  | flt (x : UInt64) : TyOf K H (.flt x) (.type "float")
  | lst {a : Addr} {xs : List V} (e : H a = some (.lst xs)) : TyOf K H (.ref a) (.type "list")
  | frz {a : Addr} {o : Obj} {xs : List V} (e : H a = some (.frz o (.lst xs))) : TyOf K H (.ref a) (.type "list")
  | tup {a : Addr} {xs : List V} (e : H a = some (.tup xs)) : TyOf K H (.ref a) (.type "tuple")
  | dK {a : Addr} {kvs : List (Key × V)} (e : H a = some (.dK kvs)) : TyOf K H (.ref a) (.type "dict")
  | dT {a : Addr} {kvs : List (List Key × V)} (e : H a = some (.dT kvs)) : TyOf K H (.ref a) (.type "dict")
  | ins {a C dx : Addr} {fs : List (Str × V)} (e : H a = some (.ins C dx fs)) (cl : Cls K C) (ha : PySem.W.findIn K (.ref C) "__class__" = some (some (.builtin "object.__class__")))
      (hn : PySem.W.specialIn K (.builtin "object.__class__") "__get__" = some (some (.builtin "getset_descriptor.__get__"))) (htk : PySem.W.takesIn K (.builtin "object.__class__") = some true)
      (hm : PySem.W.mroIn K C (.type "object") = some true) : TyOf K H (.ref a) (.ref C)
end
end L2
namespace L2
open PySem PySem.Spec PyProof.Rows
structure Room (k : Nat) (A : Around) : Prop where
  hd : A.handled = none
  dp : A.depth + 3 * k + 5 < recursionLimit
  un : A.units + 16 * k + 200 < cLine
  gd : A.guards = some []
theorem Room.mono {j k : Nat} {A : Around} (r : Room k A) (h : j ≤ k) : Room j A := ⟨r.hd, by have := r.dp; omega, by have := r.un; omega, r.gd⟩
theorem Room.deeper {k : Nat} {A : Around} (r : Room (k + 1) A) (env : Env) : Room k (A.deeper env) :=
  ⟨r.hd, by have := r.dp; show A.depth + 1 + 3 * k + 5 < _; omega, by have := r.un; show A.units + 3 + 16 * k + 200 < _; omega, r.gd⟩
theorem make_depth {A : Around} {C : Addr} {us : List Value} {kw : List (Str × Value)} : (A.under (.builtin "type.__call__" ⟨.ref C :: us, kw⟩)).depth = A.depth + 1 := by
  first | rfl | simp [Around.under, Code.weight, Code.isCreation, Code.isGuard, Code.isCaller, Code.frames, Code.isFrame, guardIds]
theorem make_units {A : Around} {C : Addr} {us : List Value} {kw : List (Str × Value)} : (A.under (.builtin "type.__call__" ⟨.ref C :: us, kw⟩)).units = A.units + 1 := by
  first | rfl | simp [Around.under, Code.cUnits, Code.frames, Code.isFrame]
theorem make_guards {A : Around} {C : Addr} {us : List Value} {kw : List (Str × Value)} : (A.under (.builtin "type.__call__" ⟨.ref C :: us, kw⟩)).guards = A.guards := by
  first | rfl | simp [Around.under, Code.isGuard, guardIds]
theorem Room.make {k : Nat} {A : Around} (r : Room (k + 1) A) (C : Addr) (us : List Value) (kw : List (Str × Value)) : Room k (A.under (.builtin "type.__call__" ⟨.ref C :: us, kw⟩)) :=
  ⟨r.hd, by have := r.dp; rw [make_depth]; omega, by have := r.un; rw [make_units]; omega, by rw [make_guards]; exact r.gd⟩
theorem Room.depth {k : Nat} {A : Around} (r : Room k A) : A.depth < recursionLimit := by have := r.dp; omega
theorem Room.units {k : Nat} {A : Around} (r : Room k A) : A.units + 64 < cLine := by have := r.un; omega
def tNil : TA := fun _ H Q => Q [] H
def tCons (ta : TE) (tr : TA) : TA := fun σ H Q => ta σ H fun x H1 => tr σ H1 fun xs H2 => Q (x :: xs) H2
section
variable {X : Cx} {e : Expr} {es : List Expr} {te : TE} {t : TA} {pos : Pos}
theorem pa_nil : PA X [] tNil := fun _ _ _ _ H Q I h => Calls.spliced_nil ⟨[], H, I, .nil, h⟩
theorem pa_cons (ha : PE X e te) (hr : PA X es t) (hs : starEach (e :: es) X.env = (false, eval e X.env) :: starEach es X.env := by rfl) : PA X (e :: es) (tCons te t) := by
  intro pos pins s σ H Q I h
  rw [hs]
  show wpAny _ _ (spliced ((false, eval e X.env) :: backTo pos (starEach es X.env))) _ _ s
  refine Calls.spliced_cons (thn (ha pins s σ H _ I h) fun u s1 zz => ?_)
  obtain ⟨x, H1, I1, r1, q1⟩ := zz
  refine thn (hr pos pins s1 σ H1 _ I1 q1) fun us s2 zz => ?_
  obtain ⟨xs, H2, I2, r2, q2⟩ := zz
  exact ⟨x :: xs, H2, I2, .cons r1 r2, q2⟩
def tTup (t : TA) : TE := fun σ H Q => t σ H fun xs H1 => xs.length ≤ sizeLine ∧ ∀ p, H1 p = none → Q (.ref p) (upd H1 p (.tup xs))
def tLst (t : TA) : TE := fun σ H Q => t σ H fun xs H1 => xs.length ≤ sizeLine ∧ ∀ p, H1 p = none → Q (.ref p) (upd H1 p (.lst xs))
theorem pe_tup {x1} (h : PA X es t) : PE X (.Tuple es x1 pos) (tTup t) := by
  intro pins s σ H Q I hq
  refine wpAny_Tuple_spliced (thn (h pos pins s σ H _ I hq) fun us s1 zz => ?_)
  obtain ⟨xs, H1, I1, r, z, q⟩ := zz
  refine ⟨by rw [← r.length]; exact z, ?_⟩
  have hf : H1 s1.heap.objs.size = none := I1.hok.fresh (Nat.le_refl _)
  refine ⟨.ref s1.heap.objs.size, upd H1 s1.heap.objs.size (.tup xs), I1.laid (t' := s1.toks) (fun b u e => Heap.get?_push_of_some _ e) (Nat.le_refl _) ?_, rfl, q _ hf⟩
  exact ⟨z, us, r, ⟨_, Heap.get?_push_size _ rfl, rfl, _, rfl⟩⟩
theorem pe_lst (h : PA X es t) : PE X (.List es pos) (tLst t) := by
  intro pins s σ H Q I hq
  refine wpAny_List_spliced (thn (h pos pins s σ H _ I hq) fun us s1 zz => ?_)
  obtain ⟨xs, H1, I1, r, z, q⟩ := zz
  refine ⟨by rw [← r.length]; exact z, ?_⟩
  have hf : H1 s1.heap.objs.size = none := I1.hok.fresh (Nat.le_refl _)
  refine ⟨.ref s1.heap.objs.size, upd H1 s1.heap.objs.size (.lst xs), I1.laid (t' := s1.toks) (fun b u e => Heap.get?_push_of_some _ e) (Nat.le_refl _) ?_, rfl, q _ hf⟩
  exact ⟨z, us, 0, r, Heap.get?_push_size _ rfl⟩
end
abbrev Sp := List V → Hp → VK → XK → Prop
abbrev CXT := List Env → Hp → Shared → XK → Value → Shared → Prop
structure Env0 (P : Program) (w : World) (K : PySem.W.Frag) (mg : Str → Option Value) (base : Heap) (A : Around) (outer : List Env) (s : Shared) (H : Hp) : Prop where
  frames : A.frames = some outer
  mod : Mod K mg base
  bs : ∀ b o, base.get? b = some o → s.heap.get? b = some o ∧ H b = none
  bsz : base.objs.size ≤ s.heap.objs.size
  funs : s.heap.FunFrames base outer
  frf : ∀ b ∈ frs outer, H b = none
  hok : HOk P w H s.heap
  bare : AllBare s.gens
def CE (outer : List Env) (P : Program) (w : World) (H : Hp) (s : Shared) (Q : VK) (u : Value) (s' : Shared) : Prop :=
  ∃ v H', s'.os = s.os ∧ AllBare s'.gens ∧ Un (frs outer) [] H H' s.heap s'.heap ∧ HOk P w H' s'.heap ∧ RelV v u ∧ Q v H'
def CR (CX : CXT) (outer : List Env) (P : Program) (w : World) (H : Hp) (s : Shared) (Q : VK) (E : XK) (r : Result) (s' : Shared) : Prop :=
  match r with
  | .ok (.ret u) => CE outer P w H s Q u s'
  | .ok _ => False
  | .error e => CX outer H s E e s'
structure FnOk (P : Program) (w : World) (K : PySem.W.Frag) (mg : Str → Option Value) (base : Heap) (CX : CXT) (k : Nat) (f : Addr) (fd : FuncData) (ps : List Str) (sp : Sp) : Prop where
  len : ∀ vs H Q E, sp vs H Q E → vs.length = ps.length
  run : ∀ (A : Around) (outer : List Env) (s : Shared) (H : Hp) (args : Args) (us : List Value) (vs : List V) (Q : VK) (E : XK), Room k A → Env0 P w K mg base A outer s H → BindsTo s fd args (ps.zip us) → Vals vs us → sp vs H Q E →
    codeAny (model P w) A (.call (.ref f) args) (CR CX outer P w H s Q E) s
theorem Env0.make {P : Program} {w : World} {K : PySem.W.Frag} {mg : Str → Option Value} {base : Heap} {A : Around} {outer : List Env} {s : Shared} {H : Hp} (e : Env0 P w K mg base A outer s H) (C : Addr) (us : List Value) (kw : List (Str × Value)) :
    Env0 P w K mg base (A.under (.builtin "type.__call__" ⟨.ref C :: us, kw⟩)) outer s H := ⟨by first | exact e.frames | (simpa [Around.under, Code.envs, Code.isFrame, pushEnvs] using e.frames), e.mod, e.bs, e.bsz, e.funs, e.frf, e.hok, e.bare⟩
section
variable {X : Cx} {pins : List (Addr × Obj)} {σ : St} {H : Hp} {s s' : Shared}
theorem Inv.env0 (I : Inv X pins σ H s) : Env0 X.prog X.w X.K X.mg X.base X.A X.stack s H :=
  ⟨I.ok.frames, I.ok.mod, I.bs, Nat.le_trans I.ok.bsz I.sz, I.stack, I.stkFree, I.hok, I.bare⟩
theorem Inv.after {Q : VK} {u : Value} (I : Inv X pins σ H s) (h : CE X.stack X.prog X.w H s Q u s') : EP X pins σ Q u s' := by
  obtain ⟨v, H', os, bare, un, hok, r, q⟩ := h
  obtain ⟨hh, g, d, t, os'⟩ := s'
  obtain rfl : os' = s.os := os
  exact ⟨v, H', I.call (h' := hh) (g' := g) (d' := d) (t' := t) (ch := []) un hok bare (fun b z => absurd z (by simp)), r, q⟩
end
def tCall (sp : Sp) (dvs : List V) (E : XK) (t : TA) : TE := fun σ H Q => t σ H fun vs H1 => sp (vs ++ dvs) H1 Q E
def Binds (K : PySem.W.Frag) (fd : FuncData) (ps : List Str) (ds : List Value) : Prop :=
  ∀ (s : Shared) (us : List Value), K.In s.heap → (us ++ ds).length = ps.length → BindsTo s fd ⟨us, []⟩ (ps.zip (us ++ ds))
theorem Binds.all {K : PySem.W.Frag} {fd : FuncData} {ps : List Str} (h : ∀ us : List Value, us.length = ps.length → bindArgs fd ⟨us, []⟩ = pure (ps.zip us)) : Binds K fd ps [] := fun s us _ hl => by
  rw [List.append_nil] at hl ⊢
  exact .of_eq (h us hl)
def Passes (CX : CXT) (X : Cx) (E : XK) : Prop := ∀ (pins : List (Addr × Obj)) (σ : St) (H : Hp) (s : Shared) (e : Value) (s' : Shared), Inv X pins σ H s → CX X.stack H s E e s' → X.xe e s'
section
variable {X : Cx} {CX : CXT} {k : Nat} {f C : Addr} {fd : FuncData} {ps : List Str} {sp : Sp} {dvs : List V} {ds : List Value} {E : XK} {x m : Str} {p pos apos : Pos} {e o : Expr} {es : List Expr} {ta : TE} {t : TA}
theorem run_fn {pins : List (Addr × Obj)} {σ : St} {H : Hp} {s : Shared} {Q : VK} {us : List Value} {vs : List V} (F : FnOk X.prog X.w X.K X.mg X.base CX k f fd ps sp) (hr : Room k X.A) (hb : Binds X.K fd ps ds) (hd : Vals dvs ds) (hx : Passes CX X E)
    (I : Inv X pins σ H s) (r : Vals vs us) (h : sp (vs ++ dvs) H Q E) : wpAny (model X.prog X.w) X.A (call (.ref f) us) (EP X pins σ Q) X.xe s := by
  have r2 : Vals (vs ++ dvs) (us ++ ds) := r.append hd
  have hl : (us ++ ds).length = ps.length := by rw [← r2.length]; exact F.len _ _ _ _ h
  refine wpAny_call (codeAny_mono (F.run X.A X.stack s H ⟨us, []⟩ (us ++ ds) (vs ++ dvs) Q E hr I.env0 (hb s us I.kIn hl) r2 h) fun r s' hq => ?_)
  cases r with
  | error e => exact hx pins σ H s e s' I hq
  | ok fl =>
    cases fl with
    | ret u => exact I.after hq
    | next => exact False.elim hq
    | brk => exact False.elim hq
    | cont => exact False.elim hq
theorem pe_call (F : FnOk X.prog X.w X.K X.mg X.base CX k f fd ps sp) (hr : Room k X.A) (hg : Gl X x) (hm : X.mg x = some (.ref f)) (hk : PySem.W.keepIn X.K (.ref f) = true) (hb : Binds X.K fd ps ds) (hd : Vals dvs ds) (hx : Passes CX X E)
    (ha : PA X (e :: es) t) (hdb : (x == ("__debug__" : Str)) = false := by decide) (he : starEach (e :: es) X.env = (false, eval e X.env) :: starEach es X.env := by rfl) (hpl : (backTo pos (starEach es X.env)).any (·.1) = false := by rfl) :
    PE X (.Call (.Name x p) (e :: es) [] pos) (tCall sp dvs E t) := by
  intro pins s σ H Q I h
  refine wpAny_Call_Name_kw (ld_glob I hg hm ?_ hdb)
  refine PySem.W.callWith_K (h₀ := X.base) I.ok.mod.kin hk (thn (ha pos pins s σ H _ I h) fun us s1 zz => ?_) he hpl
  obtain ⟨vs, H1, I1, r, q⟩ := zz
  refine ⟨I1.kIn, ?_⟩
  exact run_fn F hr hb hd hx I1 r q
theorem pe_call0 (F : FnOk X.prog X.w X.K X.mg X.base CX k f fd ps sp) (hr : Room k X.A) (hg : Gl X x) (hm : X.mg x = some (.ref f)) (hk : PySem.W.keepIn X.K (.ref f) = true) (hb : Binds X.K fd ps ds) (hd : Vals dvs ds) (hx : Passes CX X E)
    (hdb : (x == ("__debug__" : Str)) = false := by decide) : PE X (.Call (.Name x p) [] [] pos) (tCall sp dvs E tNil) := by
  intro pins s σ H Q I h
  refine wpAny_Call_Name_kw (ld_glob I hg hm ?_ hdb)
  exact PySem.W.callWith_K0 I.kIn hk (run_fn (us := []) F hr hb hd hx I .nil h)
end
structure FnScope (N P : List Str) (sc : Scope) : Prop where
  kind : sc.kind = .function
  co : sc.isCoroutine = false
  gen : sc.isGenerator = false
  nd : N.Nodup
  pre : N.take P.length = P
  par : ∀ x ∈ P, sc.names.lookup x = some .local ∨ sc.names.lookup x = some .cell
  nofree : ∀ y ∈ sc.names, y.2 ≠ .free
theorem bindL_out {kindOf : Str → Option NameKind} {x : Str} : ∀ {binds : List (Str × Value)} {m : Str → Option Value}, (∀ v, (x, v) ∉ binds) → bindL kindOf binds m x = m x
  | [], _, _ => rfl
  | (n, v) :: r, m, h => by
    unfold bindL
    rw [bindL_out fun w hw => h w (List.mem_cons_of_mem _ hw)]
    split
    · have : x ≠ n := by rintro rfl; exact h v List.mem_cons_self
      simp [this]
    · rfl
theorem bindC_out {kindOf : Str → Option NameKind} {x : Str} : ∀ {binds : List (Str × Value)} {m : Str → Option Value}, (∀ v, (x, v) ∉ binds) → bindC kindOf binds m x = m x
  | [], _, _ => rfl
  | (n, v) :: r, m, h => by
    unfold bindC
    rw [bindC_out fun w hw => h w (List.mem_cons_of_mem _ hw)]
    split
    · rfl
    · have : x ≠ n := by rintro rfl; exact h v List.mem_cons_self
      simp [this]
theorem bindL_get {kindOf : Str → Option NameKind} {x : Str} {v : Value} : ∀ {P : List Str} {vs : List Value} {i : Nat} {m : Str → Option Value}, P.Nodup → P[i]? = some x → vs[i]? = some v → kindOf x = some .local →
    bindL kindOf (P.zip vs) m x = some v
  | [], _, _, _, _, h, _, _ => by simp at h
  | _ :: _, [], _, _, _, _, h, _ => by simp at h
  | p :: P, w :: vs, 0, m, nd, h1, h2, hk => by
    simp at h1 h2; subst h1; subst h2
    show bindL kindOf ((p, w) :: P.zip vs) m p = _
    unfold bindL
    rw [bindL_out fun v hv => (List.nodup_cons.mp nd).1 (List.of_mem_zip hv).1, if_pos hk]
    simp
  | p :: P, w :: vs, i + 1, m, nd, h1, h2, hk => by
    show bindL kindOf ((p, w) :: P.zip vs) m x = _
    unfold bindL
    exact bindL_get (i := i) (List.nodup_cons.mp nd).2 (by simpa using h1) (by simpa using h2) hk
theorem bindC_get {kindOf : Str → Option NameKind} {x : Str} {v : Value} : ∀ {P : List Str} {vs : List Value} {i : Nat} {m : Str → Option Value}, P.Nodup → P[i]? = some x → vs[i]? = some v → kindOf x ≠ some .local →
    bindC kindOf (P.zip vs) m x = some v
  | [], _, _, _, _, h, _, _ => by simp at h
  | _ :: _, [], _, _, _, _, h, _ => by simp at h
  | p :: P, w :: vs, 0, m, nd, h1, h2, hk => by
    simp at h1 h2; subst h1; subst h2
    show bindC kindOf ((p, w) :: P.zip vs) m p = _
    unfold bindC
    rw [bindC_out fun v hv => (List.nodup_cons.mp nd).1 (List.of_mem_zip hv).1, if_neg hk]
    simp
  | p :: P, w :: vs, i + 1, m, nd, h1, h2, hk => by
    show bindC kindOf ((p, w) :: P.zip vs) m x = _
    unfold bindC
    exact bindC_get (i := i) (List.nodup_cons.mp nd).2 (by simpa using h1) (by simpa using h2) hk
def start (N : List Str) (vs : List V) : St := vs.map some ++ List.replicate (N.length - vs.length) none
def cxOf (CX : CXT) (P : Program) (w : World) (K : PySem.W.Frag) (mg : Str → Option Value) (base : Heap) (N : List Str) (qual : Str) (scope : Scope) (f : Addr) (cd : Value) (A : Around) (outer : List Env) (s : Shared) (H : Hp) (E : XK) : Cx where
  prog := P
  w := w
  K := K
  mg := mg
  base := base
  A := A.deeper (envOfC qual scope s.heap.objs.size f cd)
  N := N
  s₀ := s
  H₀ := H
  env := envOfC qual scope s.heap.objs.size f cd
  outer := outer
  stack := envOfC qual scope s.heap.objs.size f cd :: outer
  ex := []
  calm := true
  fn := fun _ => true
  pn := []
  xe := fun e s' => wpAny (model P w) (A.deeper (envOfC qual scope s.heap.objs.size f cd)) (leaving (envOfC qual scope s.heap.objs.size f cd) e) (fun _ s'' => CX outer H s E e s'') (fun e' s'' => CX outer H s E e' s'') s'
theorem cell_has {sc : Scope} {n : Nat} {x : Str} (h : sc.names.lookup x = some .cell) : ∃ c, (cellsFrom n sc.names []).lookup x = some c := by
  have q := PySem.W.cellsFrom_some sc.names n [] (.inl h)
  exact Option.isSome_iff_exists.mp q
theorem inv_start {CX : CXT} {P : Program} {w : World} {K : PySem.W.Frag} {mg : Str → Option Value} {base : Heap} {N ps : List Str} {qual : Str} {scope : Scope} {f : Addr} {cd : Value} {A : Around} {outer : List Env} {s s1 : Shared} {H : Hp} {E : XK} {us : List Value} {vs : List V}
    (S : FnScope N ps scope) (hd : A.handled = none) (e0 : Env0 P w K mg base A outer s H) (hl : vs.length = ps.length) (r : Vals vs us)
    (x : InCallC s s.heap.objs.size (bindL (envOfC qual scope s.heap.objs.size f cd).kindOf (ps.zip us) fun _ => none) (cellsFrom (s.heap.objs.size + 1) scope.names []) (bindC (envOfC qual scope s.heap.objs.size f cd).kindOf (ps.zip us) fun _ => none) s1) :
    Inv (cxOf CX P w K mg base N qual scope f cd A outer s H E) [] (start N vs) H s1 := by
  have hpl : ps.length ≤ N.length := by have := congrArg List.length S.pre; rw [List.length_take] at this; omega
  obtain ⟨h1, tk, rfl, hk⟩ := x.done
  have noA : ∀ b : Addr, b ∉ (cxOf CX P w K mg base N qual scope f cd A outer s H E).ex := fun b z => absurd (show b ∈ ([] : List Addr) from z) (by simp)
  refine ⟨⟨e0.mod, S.kind, rfl, rfl, Nat.le_refl _, fun y z c h1 h2 => ?_, fun y hy => ?_, fun y c _ h => ?_, fun _ => hd, Around.frames_deeper e0.frames, .inr ⟨rfl, rfl⟩, fun b z => absurd z (noA b), e0.bs, e0.bsz, fun b _ _ => noA b, fun b z => absurd z (noA b), e0.funs, e0.frf⟩,
    rfl, e0.bare, Un.kept hk, ⟨_, x.toInCall.ns, fun i y v h1 h2 h3 => ?_⟩, fun y c h => ⟨_, x.cell y c h⟩, e0.hok.fresh (Nat.le_refl _), fun y c h => ?_, fun p hp => absurd (show p ∈ ([] : List (Addr × Obj)) from hp) (by simp), e0.hok.kept hk, ?_⟩
  · exact name_of_addr x.apart (PySem.mem_of_lookup h1) (PySem.mem_of_lookup h2)
  · have hy : scope.names.lookup y = some .cell ∨ scope.names.lookup y = some .free := hy
    rcases hy with hy | hy
    · exact cell_has hy
    · exact absurd rfl (S.nofree _ (PySem.mem_of_lookup hy))
  · exact Nat.le_of_lt (x.above y c (PySem.mem_of_lookup h))
  · have hi : i < vs.length := by
      unfold start at h2
      by_cases hi : i < vs.length
      · exact hi
      · rw [List.getElem?_append_right (by simpa using hi)] at h2
        rw [List.getElem?_replicate] at h2
        split at h2 <;> cases h2
    have ha : vs[i]? = some v := by
      unfold start at h2
      rw [List.getElem?_append_left (by simpa using hi), List.getElem?_map] at h2
      cases e : vs[i]? with
      | none => rw [e] at h2; cases h2
      | some a => rw [e] at h2; cases h2; rfl
    obtain ⟨u, hu, rv⟩ := r.get ha
    have hp : ps[i]? = some y := by
      rw [← S.pre, List.getElem?_take_of_lt (by omega)]; exact h1
    have ndP : ps.Nodup := by rw [← S.pre]; exact S.nd.sublist (List.take_sublist _ _)
    refine ⟨u, rv, ?_⟩
    rcases S.par y (List.mem_of_getElem? hp) with k | k
    · exact .inl ⟨k, bindL_get ndP hp hu k⟩
    · obtain ⟨c, e⟩ := cell_has (n := s.heap.objs.size + 1) k
      refine .inr ⟨.inl k, c, e, ?_⟩
      have q := x.cell y c e
      rw [bindC_get ndP hp hu (by show scope.names.lookup y ≠ _; rw [k]; decide)] at q
      exact q
  · exact e0.hok.fresh (Nat.le_of_lt (x.above y c (PySem.mem_of_lookup h)))
  · unfold start
    show _ = N.length
    rw [List.length_append, List.length_map, List.length_replicate]
    omega
theorem fn_of {CX : CXT} {P : Program} {w : World} {K : PySem.W.Frag} {mg : Str → Option Value} {base : Heap} {k : Nat} {f : Addr} {name qual : Str} {params : Arguments} {body : List Stmt} {scope : Scope} {dV kV doc pm cdv ct oc : Value} {an od : Option Addr}
    {osl : Array (Option Value)} {N ps : List Str} {sp : Sp} (lk : K.lookup f = some ⟨oc, od, .func (PySem.W.fnOf name qual params body scope dV kV doc pm an cdv ct), osl⟩) (hcd : PySem.W.codeIn K cdv qual = true) (S : FnScope N ps scope)
    (len : ∀ vs H Q E, sp vs H Q E → vs.length = ps.length)
    (hbody : ∀ (A : Around) (outer : List Env) (s : Shared) (H : Hp) (vs : List V) (Q : VK) (E : XK), Room k (A.deeper (envOfC qual scope s.heap.objs.size f cdv)) → sp vs H Q E →
      ∃ t, PSs (cxOf CX P w K mg base N qual scope f cdv A outer s H E) body t ∧ t { nx := fun _ H' => Q .non H', rt := Q } (start N vs) H) :
    FnOk P w K mg base CX (k + 1) f (PySem.W.fnOf name qual params body scope dV kV doc pm an cdv ct) ps sp := by
  refine ⟨len, fun A outer s H args us vs Q E hr e0 hb r hsp => ?_⟩
  have hl := len _ _ _ _ hsp
  have KX : K.In s.heap := e0.mod.kin.keeps fun b o e => (e0.bs b o e).1
  have lim : s.heap.NoLimit := e0.mod.nolimit.keeps fun b o e => (e0.bs b o e).1
  have hkind : ∀ y ∈ ps.zip us, scope.names.lookup y.1 = some .local ∨ (scope.names.lookup y.1 = some .cell ∧ ((cellsFrom (s.heap.objs.size + 1) scope.names []).lookup y.1).isSome = true) := fun ⟨n, v⟩ hy => by
    rcases S.par n (List.of_mem_zip hy).1 with q | q
    · exact .inl q
    · exact .inr ⟨q, PySem.W.cellsFrom_some _ _ _ (.inl q)⟩
  refine codeAny_call_function hr.depth (KX _ _ lk) rfl S.co S.gen rfl (PySem.W.codeRec_of KX hcd) (hb _ _ _ _ ?_)
  refine wpAny_newFunctionEnv_cells S.kind hkind fun env he s1 x => ?_
  subst he
  refine ⟨lim.keeps x.toInCall.keep, codeAny_func ?_⟩
  obtain ⟨t, ht, hq⟩ := hbody A outer s H vs Q E (hr.deeper _) hsp
  have I : Inv (cxOf CX P w K mg base N qual scope f cdv A outer s H E) [] (start N vs) H s1 := inv_start S hr.hd e0 hl r x
  refine wpAny_mono (ht [] s1 (start N vs) H _ I hq) (fun fl s' hs => ?_) fun e s' hs => hs
  have fin : ∀ {σ' : St} {H' : Hp} {v : V} {u : Value}, Inv (cxOf CX P w K mg base N qual scope f cdv A outer s H E) [] σ' H' s' → RelV v u → Q v H' → CE outer P w H s Q u s' :=
    fun {σ' H' v u} J rv q => ⟨v, H', J.os, J.bare, J.base, J.hok, rv, q⟩
  cases fl with
  | ret u =>
    obtain ⟨v, σ', H', J, rv, q⟩ := hs
    exact fin J rv q
  | next =>
    obtain ⟨σ', H', J, q⟩ := hs
    exact fin (v := V.non) (u := Value.none) J rfl q
  | brk =>
    obtain ⟨_, _, _, q⟩ := hs
    exact False.elim q
  | cont =>
    obtain ⟨_, _, _, q⟩ := hs
    exact False.elim q
end L2
namespace L2
open PySem PySem.Spec PyProof.Rows
section
variable {X : Cx} {x : Str} {p pos : Pos} {e : Expr} {es : List Expr} {t : TA} {id T : String} {r : List V → Hp → VK → Prop}
def tCB (r : List V → Hp → VK → Prop) (t : TA) : TE := fun σ H Q => t σ H fun vs H1 => r vs H1 Q
theorem pe_callB (hc : CallR X (.builtin id) r) (hg : Gl X x) (hm : X.mg x = none) (hv : bootBuiltins x = some (.builtin id)) (ha : PA X (e :: es) t) (hn : x ≠ "__name__" := by decide) (hdb : (x == ("__debug__" : Str)) = false := by decide)
    (he : starEach (e :: es) X.env = (false, eval e X.env) :: starEach es X.env := by rfl) (hpl : (backTo pos (starEach es X.env)).any (·.1) = false := by rfl) : PE X (.Call (.Name x p) (e :: es) [] pos) (tCB r t) := by
  intro pins s σ H Q I h
  refine wpAny_Call_Name_kw (ld_blt I hg hm hv ?_ hn hdb)
  refine PyProof.Rows.callWith_builtin1 (thn (ha pos pins s σ H _ I h) fun us s1 zz => ?_) he hpl
  obtain ⟨vs, H1, I1, r1, q1⟩ := zz
  exact hc pins s1 σ H1 vs us Q I1 r1 q1
theorem pe_callTy (hc : CallR X (.type T) r) (hg : Gl X x) (hm : X.mg x = none) (hv : bootBuiltins x = some (.type T)) (ha : PA X (e :: es) t) (hn : x ≠ "__name__" := by decide) (hdb : (x == ("__debug__" : Str)) = false := by decide)
    (he : starEach (e :: es) X.env = (false, eval e X.env) :: starEach es X.env := by rfl) (hpl : (backTo pos (starEach es X.env)).any (·.1) = false := by rfl) : PE X (.Call (.Name x p) (e :: es) [] pos) (tCB r t) := by
  intro pins s σ H Q I h
  refine wpAny_Call_Name_kw (ld_blt I hg hm hv ?_ hn hdb)
  refine PyProof.Rows.callWith_type1 (thn (ha pos pins s σ H _ I h) fun us s1 zz => ?_) he hpl
  obtain ⟨vs, H1, I1, r1, q1⟩ := zz
  exact hc pins s1 σ H1 vs us Q I1 r1 q1
end
end L2
namespace L2
open PySem PySem.Spec PyProof.Rows
abbrev TO := St → Hp → (Option Int → Hp → Prop) → Prop
section
variable {X : Cx} {e : Expr} {te : TE} {lo hi : Option Expr} {tl th : TO} {pos p2 : Pos}
end
end L2
namespace L2
open PySem PySem.Spec PyProof.Rows
def ixN (n : Nat) (i : Int) : Option Nat := if 0 ≤ i then (if i < n then some i.toNat else none) else if -(n : Int) ≤ i then some (i + n).toNat else none
def atI {α : Type} (xs : List α) (i : Int) : Option α := (ixN xs.length i).bind fun j => xs[j]?
theorem ixN_seq {n : Nat} {i : Int} {j : Nat} (h : ixN n i = some j) : seqIndex? i n = some j ∧ j < n ∧ -(n : Int) ≤ i ∧ i < n := by
  unfold ixN at h
  by_cases h0 : 0 ≤ i
  · rw [if_pos h0] at h
    by_cases h1 : i < n
    · rw [if_pos h1] at h
      have e : i.toNat = j := Option.some.inj h
      exact ⟨by rw [seqIndex_of h0 h1, e], by omega, by omega, h1⟩
    · rw [if_neg h1] at h; cases h
  · rw [if_neg h0] at h
    by_cases h1 : -(n : Int) ≤ i
    · rw [if_pos h1] at h
      have e : (i + n).toNat = j := Option.some.inj h
      exact ⟨by rw [seqIndex_neg (by omega) h1, e], by omega, h1, by omega⟩
    · rw [if_neg h1] at h; cases h
theorem atI_get {α : Type} {xs : List α} {i : Int} {v : α} (h : atI xs i = some v) : ∃ j, seqIndex? i xs.length = some j ∧ xs[j]? = some v ∧ j < xs.length ∧ -(xs.length : Int) ≤ i ∧ i < xs.length := by
  unfold atI at h
  cases e : ixN xs.length i with
  | none => rw [e] at h; cases h
  | some j =>
    rw [e] at h
    obtain ⟨h1, h2, h3, h4⟩ := ixN_seq e
    exact ⟨j, h1, h, h2, h3, h4⟩
theorem atI_nat {α : Type} {xs : List α} {j : Nat} {v : α} (h : xs[j]? = some v) : atI xs (j : Int) = some v := by
  have hj : j < xs.length := (List.getElem?_eq_some_iff.mp h).1
  have e : ixN xs.length (j : Int) = some j := by
    unfold ixN
    rw [if_pos (by omega), if_pos (by omega)]; simp
  unfold atI; rw [e]; exact h
def PlainIx (b : Expr) : Prop := ∀ o i, subscripted b false o i = operate [o, i] (getItem o i)
def IxR (X : Cx) (r : R2) : Prop :=
  ∀ (value slice : Expr) (pins : List (Addr × Obj)) (s : Shared) (σ : St) (H : Hp) (x y : V) (v u : Value) (Q : VK), Inv X pins σ H s → RelV x v → RelV y u → r x y H Q →
    subscripted slice false v u = operate [v, u] (getItem v u) → wpAny (model X.prog X.w) X.A (subscriptTail value slice v u) (EP X pins σ Q) X.xe s
def MtR (X : Cx) (id : String) (r : V → List V → Hp → VK → Prop) : Prop :=
  ∀ (pins : List (Addr × Obj)) (s : Shared) (σ : St) (H : Hp) (x : V) (xs : List V) (v : Value) (us : List Value) (Q : VK), Inv X pins σ H s → RelV x v → Vals xs us → r x xs H Q →
    wpAny (model X.prog X.w) X.A (call (.builtin id) (v :: us)) (EP X pins σ Q) X.xe s
section
variable {X : Cx} {a b : Expr} {ta tb : TE} {pos : Pos}
theorem pe_ix {r : R2} (hr : IxR X r) (ha : PE X a ta) (hb : PE X b tb) (hs : PlainIx b) : PE X (.Subscript a b pos) (tOp r ta tb) := by
  intro pins s σ H Q I h
  exact Subscript_ (binT ha hb I h fun v u s2 x y H2 I2 rx ry q => hr a b pins s2 σ H2 x y v u Q I2 rx ry q (hs _ _))
def rIxL (K : PySem.W.Frag) : R2 := fun x y H Q => ∃ p xs i v, x = .ref p ∧ y = .int i ∧ SqL K H p xs ∧ atI xs i = some v ∧ Q v H
def rIxT (K : PySem.W.Frag) : R2 := fun x y H Q => ∃ p xs i v, x = .ref p ∧ y = .int i ∧ SqT K H p xs ∧ atI xs i = some v ∧ Q v H
def rIxS : R2 := fun x y H Q => ∃ z i c, x = .str z ∧ y = .int i ∧ z.length ≤ sizeLine ∧ atI z.cps.toList i = some c ∧ Q (.str ⟨#[c]⟩) H
theorem ix_list : IxR X (rIxL X.K) := by
  intro value slice pins s σ H x y v u Q I rx ry h hs
  obtain ⟨p, xs, i, z, rfl, rfl, hq, he, q⟩ := h
  cases rx
  obtain ⟨t, rfl⟩ := ry
  obtain ⟨its, r, pl, hz⟩ := I.list hq
  obtain ⟨j, h1, h2, h3, h4, h5⟩ := atI_get he
  obtain ⟨w, ew, rw'⟩ := r.get h2
  have hl := r.length
  have hn := line63
  have fin : EP X pins σ Q w s := ⟨z, H, I, rw', q⟩
  by_cases h0 : 0 ≤ i
  · have hj : i.toNat = j := by
      rw [seqIndex_of h0 h5] at h1
      exact Option.some.inj h1
    exact item_listR pl.isList h0 (by omega) (by rw [hj]; simpa using ew) fin hs
  · have hj : (i + (its.toArray.size : Int)).toNat = j := by
      rw [seqIndex_neg (by omega) h4] at h1
      rw [List.size_toArray, ← hl]
      exact Option.some.inj h1
    exact subscriptTail_builtinR (x := w) pl.isList.typeIs slot_list_getitem.lookup
      (wpAny_getItem_list_neg (Q := fun r s' => r = w ∧ EP X pins σ Q r s') pl.isList (by omega) (by rw [List.size_toArray] <;> omega) (by omega) (by rw [hj]; simpa using ew) ⟨rfl, fin⟩) hs
theorem ix_tup : IxR X (rIxT X.K) := by
  intro value slice pins s σ H x y v u Q I rx ry h hs
  obtain ⟨p, xs, i, z, rfl, rfl, hq, he, q⟩ := h
  cases rx
  obtain ⟨t, rfl⟩ := ry
  obtain ⟨its, r, pl, hz⟩ := I.tuple hq
  obtain ⟨j, h1, h2, h3, h4, h5⟩ := atI_get he
  obtain ⟨w, ew, rw'⟩ := r.get h2
  have hl := r.length
  have hn := line63
  have fin : EP X pins σ Q w s := ⟨z, H, I, rw', q⟩
  exact subscriptTail_builtinR (x := w) pl.typeIs slot_tuple_getitem.lookup
    (getItem_tuple (j := j) (Q := fun r s' => r = w ∧ EP X pins σ Q r s') pl (by omega) (by omega) (by rw [List.size_toArray, ← hl]; exact h1) (by simpa using ew) ⟨rfl, fin⟩) hs
theorem ix_str : IxR X rIxS := by
  intro value slice pins s σ H x y v u Q I rx ry h hs
  obtain ⟨z, i, c, rfl, rfl, hz, he, q⟩ := h
  obtain ⟨t, rfl⟩ := rx
  obtain ⟨t', rfl⟩ := ry
  obtain ⟨j, h1, h2, h3, h4, h5⟩ := atI_get he
  have hl : z.cps.toList.length = z.length := by simp [Str.length]
  rw [hl] at h1 h4 h5
  have hn := line63
  exact tail_any (typeIs_str s z t) slot_str_getitem.lookup (getItem_str (c := c) (by
    have e1 : decide (i < -(2 ^ 63 : Int)) = false := decide_eq_false (by omega)
    have e2 : decide (i ≥ 2 ^ 63) = false := decide_eq_false (by omega)
    rw [e1, e2, Bool.or_false]) (by rw [h1]; simpa using h2) ⟨.str ⟨#[c]⟩, H, I.tok _, ⟨_, rfl⟩, q⟩) hs
theorem mapSeq_set (its : List Value) (n j : Nat) (u : Value) : Obj.mapSeq (·.setIfInBounds j u) { cls := .type "list", data := .seq its.toArray n } = { cls := .type "list", data := .seq (its.set j u).toArray n } := by
  simp [Obj.mapSeq]
theorem Inv.lst {pins : List (Addr × Obj)} {σ : St} {H : Hp} {s : Shared} {p : Addr} {xs : List V} (I : Inv X pins σ H s) (h : H p = some (.lst xs)) :
    ∃ (its : List Value) (n : Nat), Vals xs its ∧ s.heap.get? p = some { cls := .type "list", data := .seq its.toArray n } ∧ xs.length ≤ sizeLine := by
  obtain ⟨z, its, n, r, e⟩ := I.hok p _ h
  exact ⟨its, n, r, e, z⟩
theorem Inv.lstUpd {pins : List (Addr × Obj)} {σ : St} {H : Hp} {s : Shared} {p : Addr} {xs ys : List V} {its its' : List Value} {n n' : Nat} {f : Obj → Obj} (I : Inv X pins σ H s) (h : H p = some (.lst xs))
    (ho : s.heap.get? p = some { cls := .type "list", data := .seq its.toArray n }) (hf : f { cls := .type "list", data := .seq its.toArray n } = { cls := .type "list", data := .seq its'.toArray n' }) (r : Vals ys its') (hz : ys.length ≤ sizeLine) (t : Nat) :
    Inv X pins σ (upd H p (.lst ys)) { s with heap := s.heap.update p f, toks := t } := by
  have e : (s.heap.update p f).get? p = some { cls := .type "list", data := .seq its'.toArray n' } := by
    rw [Heap.get?_update_self f ho (by rw [hf] <;> rfl), hf]
  refine I.write (x := p) (e := p) (by rw [h]; trivial) (.inl rfl) (fun b u hb q => (Heap.get?_update_other _ _ (Ne.symm hb)).trans q) ⟨_, e⟩ ?_
  exact ⟨hz, its', n', r, e⟩
def rSetL : V → V → V → Hp → (Hp → Prop) → Prop := fun o i v H Q => ∃ p xs k j, o = .ref p ∧ i = .int k ∧ H p = some (.lst xs) ∧ ixN xs.length k = some j ∧ Q (upd H p (.lst (xs.set j v)))
theorem set_list : PSet X rSetL := by
  intro pins s σ H o i v ov iv u Q I ro ri rv h
  obtain ⟨p, xs, k, j, rfl, rfl, hp, hj, q⟩ := h
  cases ro
  obtain ⟨t, rfl⟩ := ri
  obtain ⟨its, n, r, ho, hz⟩ := I.lst hp
  obtain ⟨h1, h2, h3, h4⟩ := ixN_seq hj
  have hl := r.length
  have hn := line63
  have I' : Inv X pins σ (upd H p (.lst (xs.set j v))) { s with heap := s.heap.update p (Obj.mapSeq (·.setIfInBounds j u)) } :=
    I.lstUpd hp ho (mapSeq_set its n j u) (r.set rv j) (by rw [List.length_set]; exact hz) s.toks
  by_cases h0 : 0 ≤ k
  · have hk : k.toNat = j := by
      rw [seqIndex_of h0 h4] at h1
      exact Option.some.inj h1
    exact PySem.W.ki_setAt ho h0 (by omega) (by rw [List.size_toArray, ← hl]; exact h4) (by rw [hk]; exact ⟨_, I', q⟩)
  · have hk : (k + (its.toArray.size : Int)).toNat = j := by
      rw [seqIndex_neg (by omega) h3] at h1
      rw [List.size_toArray, ← hl]
      exact Option.some.inj h1
    exact PySem.W.ki_setBack ho (by omega) (by rw [List.size_toArray, ← hl]; exact h3) (by omega) (by rw [hk]; exact ⟨_, I', q⟩)
theorem call_len_seq : CallR X (.builtin "len") (fun xs H Q => ∃ p ys, xs = [.ref p] ∧ (SqL X.K H p ys ∨ SqT X.K H p ys) ∧ Q (.int ys.length) H) := by
  intro pins s σ H xs us Q I r h
  obtain ⟨p, ys, rfl, hq, q⟩ := h
  obtain ⟨u, rfl, rx⟩ := vals1 r
  cases rx
  have hn := line63
  rcases hq with hq | hq
  · obtain ⟨its, r', pl, hz⟩ := I.list hq
    have hlen := r'.length
    exact Calls.call_len_list pl.isList (by simp only [List.size_toArray] <;> omega) ⟨.int ys.length, H, I.tok _, ⟨s.toks + 1, by rw [List.size_toArray, hlen]⟩, q⟩
  · obtain ⟨its, r', pl, hz⟩ := I.tuple hq
    have hlen := r'.length
    exact len_tuple pl (by simp only [List.size_toArray] <;> omega) ⟨.int ys.length, H, I.tok _, ⟨s.toks + 1, by rw [List.size_toArray, hlen]⟩, q⟩
theorem call_list_of : CallR X (.type "list") (fun xs H Q => ∃ p ys, xs = [.ref p] ∧ (SqL X.K H p ys ∨ SqT X.K H p ys) ∧ ∀ l, H l = none → Q (.ref l) (upd H l (.lst ys))) := by
  intro pins s σ H xs us Q I r h
  obtain ⟨p, ys, rfl, hq, q⟩ := h
  obtain ⟨u, rfl, rx⟩ := vals1 r
  cases rx
  have fin : ∀ (its : List Value), Vals ys its → ys.length ≤ sizeLine → ∀ (h' : Heap) (c' : Nat), (∀ b o', s.heap.get? b = some o' → h'.get? b = some o') →
      h'.get? s.heap.objs.size = some { cls := .type "list", dict := none, data := .seq its.toArray c', slots := #[] } → EP X pins σ Q (.ref s.heap.objs.size) { s with heap := h' } := fun its r' hz h' c' kp e =>
    ⟨.ref s.heap.objs.size, _, I.laid (t' := s.toks) kp (Nat.le_refl _) (show ObjOk X.prog X.w _ h' _ (.lst ys) from ⟨hz, its, c', r', e⟩), rfl, q _ (I.hok.fresh (Nat.le_refl _))⟩
  rcases hq with hq | hq
  · obtain ⟨its, r', pl, hz⟩ := I.list hq
    have hlen := r'.length
    obtain ⟨o, ho, hc, n, hd⟩ := pl.isList
    exact call_list_seq p (.inl rfl) ho hc hd (fun h' c' kp e => fin its r' hz h' c' kp e) (by simp only [List.size_toArray] <;> omega)
  · obtain ⟨its, r', pl, hz⟩ := I.tuple hq
    have hlen := r'.length
    obtain ⟨o, ho, hc, n, hd⟩ := pl
    exact call_list_seq p (.inr rfl) ho hc hd (fun h' c' kp e => fin its r' hz h' c' kp e) (by simp only [List.size_toArray] <;> omega)
def tyV (K : PySem.W.Frag) (T : String) (x : V) (H : Hp) : Prop := match x with
  | .str _ => T = "str"
  | .int _ => T = "int"
  | .ref p => (T = "list" ∧ ∃ xs, SqL K H p xs) ∨ (T = "tuple" ∧ ∃ o, K.lookup p = some o ∧ o.cls = .type "tuple" ∧ o.dict = none) ∨
      (T = "dict" ∧ ((∃ kvs, H p = some (.dK kvs)) ∨ ∃ kvs, H p = some (.dT kvs))) ∨ (T = "set" ∧ ∃ S n, H p = some (.set S n))
  | _ => False
theorem tyV_is {pins : List (Addr × Obj)} {σ : St} {H : Hp} {s : Shared} {T : String} {x : V} {v : Value} (I : Inv X pins σ H s) (r : RelV x v) (ty : tyV X.K T x H) :
    s.TypeIs v T ∧ ∀ a, v = .ref a → ∃ ob, s.heap.get? a = some ob ∧ ob.dict = none := by
  cases x with
  | str z =>
    obtain ⟨t, rfl⟩ := r
    cases (show T = "str" from ty)
    exact ⟨typeIs_str s z t, fun _ e => nomatch e⟩
  | int i =>
    obtain ⟨t, rfl⟩ := r
    cases (show T = "int" from ty)
    exact ⟨typeIs_int s i t, fun _ e => nomatch e⟩
  | ref p =>
    cases r
    rcases ty with ⟨rfl, xs, hq⟩ | ⟨rfl, o, hk, hc, hd⟩ | ⟨rfl, hk⟩ | ⟨rfl, S, n, hk⟩
    · obtain ⟨its, _, pl, _⟩ := I.list hq
      refine ⟨pl.isList.typeIs, fun a e => ?_⟩
      cases e
      obtain ⟨o, n, e, c, hd, _⟩ := pl
      exact ⟨o, e, hd⟩
    · refine ⟨⟨o, I.kIn p o hk, hc⟩, fun a e => ?_⟩
      cases e
      exact ⟨o, I.kIn _ o hk, hd⟩
    · have z : ∃ o, s.heap.get? p = some o ∧ o.ExactDict := by
        rcases hk with ⟨kvs, hk⟩ | ⟨kvs, hk⟩
        · obtain ⟨_, _, _, _, o, _, _, e, ex, _⟩ := I.hok p _ hk
          exact ⟨o, e, ex⟩
        · obtain ⟨_, _, _, _, o, _, _, e, ex, _⟩ := I.hok p _ hk
          exact ⟨o, e, ex⟩
      obtain ⟨o, e, ex⟩ := z
      refine ⟨⟨o, e, ex.1⟩, fun a e2 => ?_⟩
      cases e2
      exact ⟨o, e, ex.2.1⟩
    · obtain ⟨o, _, _, _, e, ex, _⟩ := I.hok p _ hk
      refine ⟨⟨o, e, ex.1⟩, fun a e2 => ?_⟩
      cases e2
      exact ⟨o, e, ex.2.1⟩
  | _ => exact False.elim ty
def tBM (K : PySem.W.Frag) (T : String) (r : V → List V → Hp → VK → Prop) (to : TE) (t : TA) : TE := fun σ H Q => to σ H fun x H1 => tyV K T x H1 ∧ t σ H1 fun xs H2 => r x xs H2 Q
variable {o e : Expr} {es : List Expr} {to : TE} {t : TA} {name : Str} {apos cpos : Pos} {T id : String} {r : V → List V → Hp → VK → Prop}
theorem pe_bm (pa : PlainAttrs T) (slot : Slot T name id) (hty : typeOf (.builtin id) = pure (.type "method_descriptor")) (hm : MtR X id r) (ho : PE X o to) (ha : PA X (e :: es) t)
    (hbase : attributeBase o name X.env (eval o X.env) = eval o X.env := by rfl)
    (hfew : ((backTo cpos (starEach (e :: es) X.env)).all (fun x => !x.1) && (backToKw cpos (keywordEach [] X.env)).all (fun x => x.1.isSome)
      && decide ((e :: es).length + ([] : List Keyword).length + (if ([] : List Keyword).isEmpty then 0 else 1) < 30)) = true := by rfl)
    (hline : (apos.endLine == cpos.line) = true := by rfl) (hs : starEach (e :: es) X.env = (false, eval e X.env) :: starEach es X.env := by rfl) (hplain : (backTo cpos (starEach es X.env)).any (·.1) = false := by rfl) :
    PE X (.Call (.Attribute o name apos) (e :: es) [] cpos) (tBM X.K T r to t) := by
  intro pins s σ H Q I h
  refine wpAny_Call_method_late hbase hfew hline rfl (thn (ho pins s σ H _ I h) fun v s1 zz => ?_)
  obtain ⟨x, H1, I1, r1, ty, q1⟩ := zz
  obtain ⟨h1, h2⟩ := tyV_is I1 r1 ty
  refine ⟨T, id, pa, slot, hty, h1, h2, ?_⟩
  have hA := ha cpos pins s1 σ H1 _ I1 q1
  rw [hs] at hA ⊢
  refine Calls.callWith_builtin (by show (false || (backTo cpos (starEach es X.env)).any (·.1)) = false; rw [hplain] <;> rfl) (Calls.evalArgs_plain ?_)
  refine thn hA fun us s2 zz => ?_
  obtain ⟨vs, H2, I2, r2, q2⟩ := zz
  exact hm pins s2 σ H2 x vs v us Q I2 r1 r2 q2
end
end L2
namespace L2
open PySem PySem.Spec PyProof.Rows
def MtM (X : Cx) (id : String) (r : V → List V → Hp → VK → Prop) : Prop :=
  ∀ (pins : List (Addr × Obj)) (s : Shared) (σ : St) (H : Hp) (x : V) (xs : List V) (v : Value) (us : List Value) (Q : VK), Inv X pins σ H s → RelV x v → Vals xs us → r x xs H Q →
    wpAny (model X.prog X.w) X.A (call (.builtin id) (v :: us)) (EP X pins σ Q) X.xe s
theorem Vals.one {x : V} {us : List Value} (h : Vals [x] us) : ∃ u, us = [u] ∧ RelV x u := vals1 h
theorem Vals.two {x y : V} {us : List Value} (h : Vals [x, y] us) : ∃ u v, us = [u, v] ∧ RelV x u ∧ RelV y v := vals2 h
theorem Vals.rep {xs : List V} {us : List Value} (h : Vals xs us) : ∀ k : Nat, Vals (List.replicate k xs).flatten (List.replicate k us).flatten
  | 0 => .nil
  | k + 1 => by
    rw [List.replicate_succ, List.replicate_succ, List.flatten_cons, List.flatten_cons]
    exact Vals.append h (Vals.rep h k)
theorem foldl_rep (its : List Value) : ∀ (k : Nat) (acc : List Value),
    List.foldl (fun x1 x2 => x1 ++ x2) acc.toArray (List.replicate k its.toArray) = (acc ++ (List.replicate k its).flatten).toArray
  | 0, acc => by simp
  | k + 1, acc => by
    have e : acc.toArray ++ its.toArray = (acc ++ its).toArray := by simp
    have e2 : (acc ++ its) ++ (List.replicate k its).flatten = acc ++ (List.replicate (k + 1) its).flatten := by
      rw [List.replicate_succ, List.flatten_cons, List.append_assoc]
    rw [← e2, ← foldl_rep its k (acc ++ its), ← e, List.replicate_succ, List.foldl_cons]
section
variable {X : Cx} {pins : List (Addr × Obj)} {σ : St} {H : Hp} {s : Shared} {l b : Addr} {xs ys zs : List V}
theorem Inv.lset {its its' : List Value} {n : Nat} {f : Array Value → Array Value} {t' : Nat} (I : Inv X pins σ H s) (hH : H l = some (.lst xs))
    (e : s.heap.get? l = some { cls := .type "list", data := .seq its.toArray n }) (hf : f its.toArray = its'.toArray) (hv : Vals ys its') (hz : ys.length ≤ sizeLine) :
    Inv X pins σ (upd H l (.lst ys)) { s with heap := s.heap.update l (Obj.mapSeq f), toks := t' } := by
  have q := PySem.IsL.update e f
  rw [hf] at q
  refine I.write (x := l) (e := l) (by rw [hH]; exact trivial) (.inl rfl) (fun b' u hb hu => (Heap.get?_update_other s.heap (Obj.mapSeq f) (Ne.symm hb)).trans hu) ⟨_, q⟩ ?_
  exact ⟨hz, its', _, hv, q⟩
theorem Inv.lnew {its : List Value} {t' : Nat} (I : Inv X pins σ H s) (hv : Vals ys its) (hz : ys.length ≤ sizeLine) :
    Inv X pins σ (upd H s.heap.objs.size (.lst ys)) { s with heap := s.heap.push { cls := .type "list", data := .seq its.toArray }, toks := t' } :=
  I.laid (fun _ _ q => Heap.get?_push_of_some _ q) (Nat.le_refl _) ⟨hz, its, 0, hv, Heap.get?_push_size _ rfl⟩
theorem Inv.fresh (I : Inv X pins σ H s) : H s.heap.objs.size = none := I.hok.fresh (Nat.le_refl _)
theorem Inv.lstM (I : Inv X pins σ H s) (hH : H l = some (.lst xs)) : xs.length ≤ sizeLine ∧ ∃ (its : List Value) (n : Nat), Vals xs its ∧ xs.length = its.length ∧ s.heap.get? l = some { cls := .type "list", data := .seq its.toArray n } := by
  obtain ⟨z, its, n, r, e⟩ := I.hok l _ hH
  exact ⟨z, its, n, r, r.length, e⟩
theorem notLongL {n : Nat} (h : n ≤ sizeLine) : Builtin.List.listTooLong n = false := by
  unfold Builtin.List.listTooLong
  exact decide_eq_false (by omega)
end
section
variable {X : Cx}
def rAppend : V → List V → Hp → VK → Prop := fun x vs H Q => ∃ l xs y, x = .ref l ∧ vs = [y] ∧ H l = some (.lst xs) ∧ xs.length < sizeLine ∧ Q .non (upd H l (.lst (xs ++ [y])))
theorem mt_append : MtM X "list.append" rAppend := by
  intro pins s σ H x vs v us Q I rx rv h
  obtain ⟨l, xs, y, rfl, rfl, hH, hz, q⟩ := h
  cases rx
  obtain ⟨u, rfl, ru⟩ := rv.one
  obtain ⟨z, its, n, r, hl, e⟩ := I.lstM hH
  refine call_meets F.slot_list_append ⟨_, e, rfl⟩ F.entry_list_append (F.args_list_append_2 _ _) (PySem.list_append l its.toArray n u (by rw [List.size_toArray]; omega)) ⟨e, ?_⟩
  refine ⟨.non, _, I.lset (its' := its ++ [u]) hH e (by simp) (r.append (.cons ru .nil)) ?_, rfl, q⟩
  rw [List.length_append, List.length_singleton]
  omega
def rCat : R2 := fun x y H Q => ∃ l b xs zs, x = .ref l ∧ y = .ref b ∧ H l = some (.lst xs) ∧ H b = some (.lst zs) ∧ xs.length + zs.length ≤ sizeLine ∧ ∀ p, H p = none → Q (.ref p) (upd H p (.lst (xs ++ zs)))
theorem op_cat : OpR X (binaryOp .Add) rCat := by
  intro pins s σ H x y v u Q I rx ry h
  obtain ⟨l, b, xs, zs, rfl, rfl, hH, hB, hz, q⟩ := h
  cases rx
  cases ry
  obtain ⟨z, its, n, r, hl, e⟩ := I.lstM hH
  obtain ⟨z2, its2, n2, r2, hl2, e2⟩ := I.lstM hB
  refine PySem.P.add_list e e2 ?_ (by rw [List.size_toArray, List.size_toArray]; omega)
  have ea : its.toArray ++ its2.toArray = (its ++ its2).toArray := by simp
  rw [ea]
  exact ⟨.ref _, _, I.lnew (t' := s.toks) (r.append r2) (by rw [List.length_append]; omega), rfl, q _ I.fresh⟩
def rRep : R2 := fun x y H Q => ∃ l k xs, x = .ref l ∧ y = .int k ∧ H l = some (.lst xs) ∧ -(2 ^ 63) ≤ k ∧ k < 2 ^ 63 ∧ xs.length * k.toNat ≤ sizeLine ∧
  ∀ p, H p = none → Q (.ref p) (upd H p (.lst (List.replicate k.toNat xs).flatten))
theorem len_rep {α : Type} (xs : List α) (k : Nat) : (List.replicate k xs).flatten.length = k * xs.length := by
  induction k with
  | zero => simp
  | succ k ih => rw [List.replicate_succ, List.flatten_cons, List.length_append, ih, Nat.succ_mul, Nat.add_comm]
theorem op_rep : OpR X (binaryOp .Mult) rRep := by
  intro pins s σ H x y v u Q I rx ry h
  obtain ⟨l, k, xs, rfl, rfl, hH, h1, h2, hz, q⟩ := h
  cases rx
  obtain ⟨t, rfl⟩ := ry
  obtain ⟨z, its, n, r, hl, e⟩ := I.lstM hH
  have hlen : its.toArray.size * k.toNat ≤ sizeLine := by rw [List.size_toArray, ← hl]; exact hz
  have hcap : ¬ its.toArray.size * k.toNat > (2 ^ 63 - 1) / 8 := by
    have : (sizeLine : Nat) ≤ (2 ^ 63 - 1) / 8 := by decide
    omega
  have hfit : ¬ (!Builtin.List.listFitsIndex k) = true := by
    rw [fitsIndex_both h1 h2]
    exact Bool.false_ne_true
  have hlong : ¬ Builtin.List.listTooLong (its.toArray.size * k.toNat) = true := by
    rw [notLongL hlen]
    exact Bool.false_ne_true
  have hnew : List.foldl (fun x1 x2 => x1 ++ x2) #[] (List.replicate (if its.toArray.isEmpty = true then 0 else k.toNat) its.toArray) = (List.replicate k.toNat its).flatten.toArray := by
    have f0 : ∀ m : Nat, List.foldl (fun x1 x2 => x1 ++ x2) #[] (List.replicate m its.toArray) = (List.replicate m its).flatten.toArray := fun m => by
      have := foldl_rep its m []
      rw [List.nil_append] at this
      exact this
    rw [f0]
    cases its with
    | nil => simp
    | cons a r' => rw [if_neg (by simp)]
  refine wpAny_binaryOp_repeat_ref (T := "list") (U := "int") (by decide) ⟨_, e, rfl⟩ (fun s' => typeIs_int s' k t) noFill_list_mul F.fills_int_mul F.slot_int_rmul repeat_list F.slot_int_index.lookup
    (call_meets F.slot_int_rmul (typeIs_int s k t) F.entry_int_rmul (F.args_int_rmul_2 _ _) (int___rmul___int_list k t l its.toArray n)
      ⟨e, rfl, ⟨_, e, rfl⟩, call_meets F.slot_list_mul ⟨_, e, rfl⟩ F.entry_list_mul (F.args_list_mul_2 _ _) (AutoListH.list___mul___list_int_3 l its.toArray n k t hfit hcap hlong) ⟨e, ?_⟩⟩)
  rw [hnew]
  exact ⟨.ref _, _, I.lnew (t' := s.toks) (r.rep k.toNat) (by rw [len_rep, Nat.mul_comm]; exact hz), rfl, q _ I.fresh⟩
end
end L2
namespace Att
open PySem PySem.W PySem.Calls PyProof.Rows
theorem ints_of_wellAll {P : Params} {h : Heap} : ∀ (ns : List Int) (vs : List Value), WellAll P h vs (ns.map WData.int) → IntsAre vs ns := by
  intro ns
  induction ns with
  | nil =>
    intro vs w
    rw [List.map_nil] at w
    cases w
    exact .nil
  | cons n ns ih =>
    intro vs w
    rw [List.map_cons] at w
    cases w with
    | cons a b =>
      cases a
      exact .cons _ _ (ih _ b)
theorem script_of {l : OpenLaw} {n : Nat} (hn : l.most = some n) {P : Params} {h : Heap} {args : List WData} {vals : List Value}
    (hpre : l.row.toRowW.claim.pre args = true) (hwl : WellAll P h vals args) :
    ∃ a vs ns, vals = [Value.ref a] ∧ args = [WData.list (ns.map WData.int)] ∧ h.get? a = some { cls := .type "list", data := .seq vs.toArray } ∧ IntsAre vs ns ∧ ns.length ≤ n := by
  have hsh : WShape.hasAll [] args [.list .int] = true := (pre_splitW hpre).1
  have hc : l.pre.holds [] { args := args } = true := (pre_splitW hpre).2
  obtain ⟨d, r, rfl, h1, h2⟩ := hasAllW_cons hsh
  obtain rfl := hasAllW_nil h2
  obtain ⟨xs, rfl, h3⟩ := hasW_list h1
  obtain ⟨ns, rfl⟩ := items_int h3
  have hlen : ns.length ≤ n := by
    unfold OpenLaw.pre at hc
    have h4 : (WTm.not (.lt (.lit (.int (n : Int))) (.len (.arg 0)))).holds [] { args := [.list (ns.map .int)] } = true := by
      have h4 := (holds_andW hc).1
      rw [hn] at h4
      exact h4
    have h5 := condW_of h4 (w_not (w_lt w_lit (w_len_list (w_arg rfl))))
    rw [List.length_map] at h5
    refine Nat.le_of_not_lt fun q => ?_
    have q' : (n : Int) < ((ns.length : Nat) : Int) := by omega
    first
      | (rw [decide_eq_true q'] at h5; exact absurd h5 (by decide))
      | (simp at h5; omega)
  cases hwl with
  | cons w1 w2 =>
    cases w2
    cases w1 with
    | list ho hall => exact ⟨_, _, ns, rfl, rfl, ho, ints_of_wellAll ns _ hall, hlen⟩
theorem post_true (l : OpenLaw) (args : List WData) : l.row.toRowW.claim.post args (.bool true) args = true :=
  postW_of (r := l.row.toRowW) (X := (true == true))
    (show WShape.has [] (.bool true) .bool = true by first | rfl | decide | simp [WShape.has, WShape.arms, WShape.armsAll])
    (show (WTm.eq .res (.lit (.bool true))).value [] { args := args, res := some (.bool true), after := args } = some (.bool (true == true)) from w_eq_bool (w_res rfl) w_lit) rfl
theorem attach_call {l : OpenLaw} {n : Nat} {q : Program} {loose : List Str} {XP : (Str → Option Value) → Heap → Prop} {YP : World → Heap → Prop} {d : DefRec}
    (hn : l.most = some n) (hdf : d.params.defaults = [])
    (call : ∀ (w : World) (s₀ s₁ : Shared) (mg mb : Str → Option Value) (fa : Addr) (o : Obj) (pm cd doc : Value) (a : Addr) (vs : List Value) (ns : List Int),
      Ground q loose [] XP w s₀ mg mb s₁.heap → YP w s₁.heap →
      s₁.heap.get? fa = some o → o.data = .func (docDef d.name d.params d.body d.scope pm cd doc) → s₁.heap.CodeRec cd d.name → mg d.name = some (.ref fa) →
      s₁.heap.get? a = some { cls := .type "list", data := .seq vs.toArray } → IntsAre vs ns → ns.length ≤ n → s₁.gens = #[] →
      codeAny (model l.prog w) callerA (.call (.ref fa) ⟨[.ref a], []⟩) (fun r s' => r = .ok (.ret (.bool true)) ∧ OldK s₁.heap s'.heap ∧ s'.os = s₁.os ∧ AllBare s'.gens) s₁) :
    WalkO q loose XP YP l.row.toRowW d [] (fun f vs => PySem.call f vs) := by
  intro w s₀ s₁ mg mb G Y fa o pm cd doc dV kV ho hd hcd hD hmg hg args vals as hpre hlay hrd hwl hlo
  obtain rfl : dV = .none := Dflts.none hD hdf
  obtain rfl : kV = .none := Dflts.noKw hD
  obtain ⟨a, vs, ns, rfl, rfl, hobj, hints, hlen⟩ := script_of hn hpre hwl
  refine enter_call (codeAny_mono (call w s₀ s₁ mg mb fa o pm cd doc a vs ns G Y ho (fd_plain hd) hcd hmg hobj hints hlen hg) fun r s' hq => ?_)
  obtain ⟨rfl, h2, h3, h4⟩ := hq
  exact ⟨.inl ⟨.bool true, .bool true, [], rfl, fun _ => rfl, .bool true, post_true l _, fun _ => ⟨List.Pairwise.nil, fun _ hm => (nomatch hm)⟩⟩, h2, h3, h4⟩
end Att
namespace L2
open PySem PySem.Spec PyProof.Rows
theorem vals_ints : ∀ {vs : List Value} {ns : List Int}, IntsAre vs ns → Vals (ns.map V.int) vs
  | _, _, .nil => .nil
  | _, _, .cons n t h => .cons ⟨t, rfl⟩ (vals_ints h)
def Only (H : Hp) : Prop := ∀ b, H b = none ∨ ∃ o xs, H b = some (.frz o (.lst xs))
theorem law_call {P : Program} {w : World} {K : PySem.W.Frag} {mg mb : Str → Option Value} {CX : CXT} {k : Nat} {fa a : Addr} {fd : FuncData} {x : Str} {sp : Sp} {s₁ : Shared} {vs : List Value} {ns : List Int}
    (KX : K.In s₁.heap) (hns : s₁.heap.Ns mainGlobals mg) (hb : s₁.heap.Ns builtinsNs mb) (hbb : ∀ x : Str, x ≠ "__name__" → mb x = bootBuiltins x) (hlim : s₁.heap.NoLimit) (hg : s₁.gens = #[])
    (ha : s₁.heap.get? a = some { cls := .type "list", data := .seq vs.toArray }) (hi : IntsAre vs ns) (hl : ns.length ≤ sizeLine) (hr : Room k callerA)
    (F : ∀ base : Heap, K.In base → base.Ns mainGlobals mg → FnOk P w K mg base CX k fa fd [x] sp) (hbind : ∀ (s : Shared) (u : Value), BindsTo s fd ⟨[u], []⟩ [(x, u)])
    (hsp : ∀ H : Hp, Only H → SqL K H a (ns.map V.int) → sp [.ref a] H (fun v _ => v = .bl true) fun _ _ _ => False)
    (hCX : ∀ H e s', CX [] H s₁ (fun _ _ _ => False) e s' → False) :
    codeAny (model P w) callerA (.call (.ref fa) ⟨[.ref a], []⟩) (fun r s' => r = .ok (.ret (.bool true)) ∧ OldK s₁.heap s'.heap ∧ s'.os = s₁.os ∧ AllBare s'.gens) s₁ := by
  have rv := vals_ints hi
  have lenV := hi.length
  have core : ∀ H : Hp, Only H → SqL K H a (ns.map V.int) → HOk P w H s₁.heap → (∀ b, H b ≠ none → b = a) → (H a ≠ none → K.lookup a = none) →
      codeAny (model P w) callerA (.call (.ref fa) ⟨[.ref a], []⟩) (fun r s' => r = .ok (.ret (.bool true)) ∧ OldK s₁.heap s'.heap ∧ s'.os = s₁.os ∧ AllBare s'.gens) s₁ := by
    intro H hO hS hok hA hK
    have base_of : ∀ {b : Addr} {o : Obj}, s₁.heap.get? b = some o → H b = none → (hidT s₁.heap H).get? b = some o := fun e n => hidT_get e n
    have noA : ∀ {b : Addr} {o : Obj} {es : Array DictEntry} {ep : Nat}, s₁.heap.get? b = some o → o.data = .dict es ep → H b = none := fun {b o es ep} e d => by
      cases q : H b with
      | none => rfl
      | some u =>
        have e' : b = a := hA b (by rw [q]; simp)
        subst e'
        rw [ha] at e; cases e
        have d' : Data.seq vs.toArray _ = Data.dict es ep := d
        cases d'
    have nsK : ∀ {b : Addr} {m : Str → Option Value}, s₁.heap.Ns b m → (hidT s₁.heap H).Ns b m := fun {b m} ⟨o, es, ep, e, d, r⟩ => ⟨o, es, ep, base_of e (noA e d), d, r⟩
    have hKb : K.In (hidT s₁.heap H) := fun b o e => base_of (KX b o e) (by
      cases q : H b with
      | none => rfl
      | some u =>
        have e' : b = a := hA b (by rw [q]; simp)
        subst e'
        rw [hK (by rw [q]; simp)] at e; cases e)
    have hM : Mod K mg (hidT s₁.heap H) := ⟨hKb, nsK hns, ⟨mb, nsK hb, hbb⟩, let ⟨mc, h1, h2⟩ := hlim; ⟨mc, nsK h1, h2⟩⟩
    have e0 : Env0 P w K mg (hidT s₁.heap H) callerA [] s₁ H := ⟨rfl, hM, fun b o e => of_hidT e, Nat.le_of_eq (hidT_size _ _), trivial, fun b hb => absurd (show b ∈ ([] : List Addr) from hb) (by simp), hok, .of_eq hg⟩
    refine codeAny_mono ((F _ hKb (nsK hns)).run callerA [] s₁ H ⟨[.ref a], []⟩ [.ref a] [.ref a] _ _ hr e0 (hbind s₁ (.ref a)) (.cons rfl .nil) (hsp H hO hS)) fun r s' h => ?_
    cases r with
    | error e => exact (hCX H e s' h).elim
    | ok fl =>
      cases fl with
      | next => exact False.elim h
      | brk => exact False.elim h
      | cont => exact False.elim h
      | ret u =>
        obtain ⟨v, H', os, bare, un, hok', r', q⟩ := h
        have q' : v = .bl true := q
        subst q'
        obtain rfl : u = Value.bool true := r'
        refine ⟨rfl, OldK.of_keep fun b o e => ?_, os, bare⟩
        cases q : H b with
        | none => exact un.keep b o e q (by intro z; exact absurd (show b ∈ ([] : List Addr) from z) (by simp)) (by simp)
        | some u =>
          rcases hO b with z | ⟨ob, xs, z⟩
          · rw [q] at z; cases z
          · have z2 := un.frzs b ob _ z
            obtain ⟨e1, _⟩ := hok b _ z
            obtain ⟨e2, _⟩ := hok' b _ z2
            rw [e] at e1; cases e1
            exact e2
  cases hk : K.lookup a with
  | some o =>
    have e := KX a o hk
    rw [ha] at e
    cases e
    refine core (fun _ => none) (fun _ => .inl rfl) (.inr ⟨_, vs.toArray, _, hk, rfl, rfl, rfl, by rw [List.size_toArray, lenV]; exact hl, by simpa using rv⟩) (fun b u z => by have z' : (none : Option HO) = some u := z; cases z') (fun b z => absurd rfl z) fun z => absurd rfl z
  | none =>
    refine core (fun b => if b = a then some (.frz { cls := .type "list", data := .seq vs.toArray } (.lst (ns.map V.int))) else none) (fun b => ?_) (.inl (.inr ⟨{ cls := .type "list", data := .seq vs.toArray }, if_pos rfl⟩)) (fun b u z => ?_) (fun b z => ?_) fun _ => hk
    · by_cases hb : b = a
      · exact .inr ⟨_, _, if_pos hb⟩
      · exact .inl (if_neg hb)
    · by_cases hb : b = a
      · have z' := (if_pos hb).symm.trans z
        cases z'
        subst hb
        exact ⟨ha, by rw [List.length_map]; exact hl, vs, _, rv, ha⟩
      · have z' := (if_neg hb).symm.trans z
        cases z'
    · by_cases hb : b = a
      · exact hb
      · exact absurd (if_neg hb) z
end L2
namespace L2
open PySem PySem.Spec PyProof.Rows
theorem walk_of {l : PySem.W.OpenLaw} {n k : Nat} {q : Program} {loose : List Str} {XP : (Str → Option Value) → Heap → Prop} {YP : World → Heap → Prop} {d : DefRec} {K : Params → PySem.W.Frag} {CX : World → CXT} {sp : World → Sp} {x : Str}
    (hn : l.most = some n) (hn2 : n ≤ sizeLine) (hdf : d.params.defaults = []) (hr : Room k callerA)
    (hY : ∀ (w : World) (h : Heap), YP w h → (K w.params).In h)
    (F : ∀ (w : World) (mg : Str → Option Value) (fa : Addr) (h : Heap), (K w.params).In h → h.Ns mainGlobals mg → mg d.name = some (.ref fa) →
      ∃ fd : FuncData, (∀ (s : Shared) (u : Value), BindsTo s fd ⟨[u], []⟩ [(x, u)]) ∧
        ∀ base : Heap, (K w.params).In base → base.Ns mainGlobals mg → FnOk l.prog w (K w.params) mg base (CX w) k fa fd [x] (sp w))
    (hsp : ∀ (w : World) (H : Hp) (a : Addr) (ns : List Int), ns.length ≤ n → Only H → SqL (K w.params) H a (ns.map V.int) → sp w [.ref a] H (fun v _ => v = .bl true) fun _ _ _ => False)
    (hCX : ∀ (w : World) (H : Hp) (s : Shared) (e : Value) (s' : Shared), CX w [] H s (fun _ _ _ => False) e s' → False) :
    PySem.W.WalkO q loose XP YP l.row.toRowW d [] (fun f vs => PySem.call f vs) := by
  refine Att.attach_call hn hdf fun w s₀ s₁ mg mb fa o pm cd doc a vs ns G Y ho hd hcd hmg hobj hints hlen hg => ?_
  have KX := hY w _ Y
  obtain ⟨fd, hb, hF⟩ := F w mg fa _ KX G.T.g hmg
  exact law_call KX G.T.g G.T.b G.T.builtins G.T.nolimit hg hobj hints (Nat.le_trans hlen hn2) hr hF hb (fun H hO hS => hsp w H a ns hlen hO hS) fun H e s' => hCX w H s₁ e s'
end L2
namespace L2
open PySem PySem.Spec PyProof.Rows
def inClass (s : Stmt) (j : Nat) : Stmt := match s with
  | .ClassDef _ _ _ body _ _ _ _ _ _ _ => body.getD j (.Pass ⟨0, 0, 0, 0⟩)
  | _ => .Pass ⟨0, 0, 0, 0⟩
def defArgs (s : Stmt) : Arguments := match s with
  | .FunctionDef _ a _ _ _ _ _ _ _ _ => a
  | _ => { posonlyargs := [], args := [], vararg := none, kwonlyargs := [], kw_defaults := [], kwarg := none, defaults := [] }
def defBody (s : Stmt) : List Stmt := match s with
  | .FunctionDef _ _ b _ _ _ _ _ _ _ => b
  | _ => []
def defScope (s : Stmt) : Scope := match s with
  | .FunctionDef _ _ _ _ _ _ sc _ _ _ => sc
  | _ => { kind := .function, names := [], isGenerator := false, isCoroutine := false }
abbrev CX0 : CXT := fun _ _ _ _ _ _ => False
abbrev E0 : XK := fun _ _ _ => False
theorem pass0 {X : Cx} : Passes CX0 X E0 := fun _ _ _ _ _ _ _ h => h.elim
structure Fun (K : PySem.W.Frag) (x qual : Str) (st : Stmt) (f : Addr) (fd : FuncData) : Prop where
  ex : ∃ (oc : Value) (od : Option Addr) (kV doc pm : Value) (an : Option Addr) (cdv ct : Value) (osl : Array (Option Value)),
    fd = PySem.W.fnOf x qual (defArgs st) (defBody st) (defScope st) .none kV doc pm an cdv ct ∧ K.lookup f = some ⟨oc, od, .func fd, osl⟩ ∧ PySem.W.codeIn K cdv qual = true
  kp : PySem.W.keepIn K (.ref f) = true
section
variable {P : Program} {w : World} {K : PySem.W.Frag} {mg : Str → Option Value} {base : Heap}
theorem Fun.ok {x qual : Str} {st : Stmt} {f : Addr} {fd : FuncData} {N ps : List Str} {k : Nat} {sp : Sp} (F : Fun K x qual st f fd) (S : FnScope N ps (defScope st)) (len : ∀ vs H Q E, sp vs H Q E → vs.length = ps.length)
    (hbody : ∀ (cdv : Value) (A : Around) (outer : List Env) (s : Shared) (H : Hp) (vs : List V) (Q : VK) (E : XK), Room k (A.deeper (envOfC qual (defScope st) s.heap.objs.size f cdv)) → sp vs H Q E →
      ∃ t, PSs (cxOf CX0 P w K mg base N qual (defScope st) f cdv A outer s H E).nox (defBody st) t ∧ t { nx := fun _ H' => Q .non H', rt := Q } (start N vs) H) : FnOk P w K mg base CX0 (k + 1) f fd ps sp := by
  obtain ⟨oc, od, kV, doc, pm, an, cdv, ct, osl, rfl, lk, hcd⟩ := F.ex
  refine fn_of lk hcd S len fun A outer s H vs Q E hr hsp => ?_
  obtain ⟨t, h, q⟩ := hbody cdv A outer s H vs Q E hr hsp
  exact ⟨t, h.nox, q⟩
theorem Fun.binds {x qual : Str} {st : Stmt} {f : Addr} {fd : FuncData} {ps : List Str} (F : Fun K x qual st f fd)
    (h : ∀ (kV doc pm : Value) (an : Option Addr) (cdv ct : Value) (us : List Value), us.length = ps.length → bindArgs (PySem.W.fnOf x qual (defArgs st) (defBody st) (defScope st) .none kV doc pm an cdv ct) ⟨us, []⟩ = pure (ps.zip us)) : Binds K fd ps [] := by
  obtain ⟨oc, od, kV, doc, pm, an, cdv, ct, osl, rfl, lk, hcd⟩ := F.ex
  exact .all (h kV doc pm an cdv ct)
theorem fun_mk {x qual : Str} {st : Stmt} {f : Addr} {oc : Value} {od an : Option Addr} {osl : Array (Option Value)} {kV doc pm cdv ct : Value} (l : K.lookup f = some ⟨oc, od, .func (PySem.W.fnOf x qual (defArgs st) (defBody st) (defScope st) .none kV doc pm an cdv ct), osl⟩)
    (c : PySem.W.codeIn K cdv qual = true) (k : PySem.W.keepIn K (.ref f) = true) : Fun K x qual st f (PySem.W.fnOf x qual (defArgs st) (defBody st) (defScope st) .none kV doc pm an cdv ct) := ⟨⟨oc, od, kV, doc, pm, an, cdv, ct, osl, rfl, l, c⟩, k⟩
end
def Same (H H' : Hp) : Prop := ∀ b o, H b = some o → H' b = some o
theorem Same.refl (H : Hp) : Same H H := fun _ _ h => h
theorem Same.trans {H H1 H2 : Hp} (a : Same H H1) (b : Same H1 H2) : Same H H2 := fun c o h => b c o (a c o h)
theorem Same.seq {K : PySem.W.Frag} {H H' : Hp} {a : Addr} {xs : List V} (e : Same H H') (h : SqL K H a xs) : SqL K H' a xs := by
  rcases h with (h | ⟨o, h⟩) | h
  · exact .inl (.inl (e _ _ h))
  · exact .inl (.inr ⟨o, e _ _ h⟩)
  · exact .inr h
end L2
set_option Elab.async false
set_option linter.all false
set_option maxRecDepth 100000
namespace L2
open PySem PySem.Spec PyProof.Rows
structure CompScope (ps sc : Scope) (pN own : List Str) (caps : List Nat) (N : List Str) : Prop where
  kind : sc.kind = .function
  uniq : ∀ p ∈ sc.names, sc.names.lookup p.1 = some p.2
  nd : N.Nodup
  names : N = own ++ caps.map fun j => pN.getD j ""
  free : ∀ p ∈ sc.names, p.2 = .free → ps.names.lookup p.1 = some .cell ∨ ps.names.lookup p.1 = some .free
  capF : ∀ j ∈ caps, j < pN.length ∧ sc.names.lookup (pN.getD j "") = some .free
def stC (own : List Str) (caps : List Nat) (σ : St) : St := own.map (fun _ => none) ++ caps.map fun j => (σ[j]?).getD none
section
variable {X : Cx} {pins : List (Addr × Obj)} {σ : St} {H : Hp} {s : Shared} {ps sc : Scope} {own pN : List Str} {caps : List Nat} {N : List Str} {fp : List Addr}
end
end L2
set_option Elab.async false
set_option linter.all false
set_option maxRecDepth 100000
namespace L2
open PySem PySem.Spec PyProof.Rows
section
variable {X : Cx} {pins : List (Addr × Obj)} {σ : St} {H : Hp} {s : Shared} {h' : Heap}
theorem Inv.turnedL {t' : Nat} {ch : List Addr} (I : Inv X pins σ H s) (k : ∀ b o, b ∉ ch → s.heap.get? b = some o → h'.get? b = some o) (hf : ∀ b ∈ ch, FpOk X pins H b) : Inv X pins σ H { s with heap := h', toks := t' } := by
  refine I.step (g' := s.gens) (d' := s.drawn) (ch := ch) (fun b hb => ⟨(hf b hb).2.2.2.1, (hf b hb).2.1, (hf b hb).2.2.2.2.1, (hf b hb).2.2.2.2.2⟩) (fun b o _ _ hc e _ => k b o hc e) (fun b o _ _ hc e _ => ⟨o.slots, k b o hc e⟩) (fun _ _ _ _ n => n)
    (fun b o hc e => ⟨o, k b o hc e⟩) (fun _ _ e => e) (fun _ _ _ e => e) (fun b ps e => ⟨#[], by rw [e]; simp⟩) (fun m hm => ?_) (fun b u e => ?_) I.bare
  · obtain ⟨o, es, ep, ho, r⟩ := hm
    exact ⟨o, es, ep, k _ o (fun z => (hf _ z).2.1 rfl) ho, r⟩
  · refine (I.hok b u e).stay (fun c v hc q => k c v (fun z => ?_) q) (fun _ q => q) fun _ _ q => q
    have hn := (hf c z).1
    rcases hc with y | y
    · rw [y, e] at hn; cases hn
    · rw [y] at hn; cases hn
end
end L2
set_option Elab.async false
set_option linter.all false
set_option maxRecDepth 100000
namespace L2
open PySem PySem.Spec PyProof.Rows
section
variable {X : Cx} {pins : List (Addr × Obj)} {σ : St} {H : Hp} {s : Shared}
theorem boot_isinstance : bootBuiltins "isinstance" = some (.builtin "isinstance") := by decide +kernel
theorem boot_list : bootBuiltins "list" = some (.type "list") := by decide +kernel
end
mutual
def Is (K : PySem.W.Frag) (H : Hp) : PyData → V → Prop
  | .none, v => v = .non
  | .bool b, v => v = .bl b
  | .int i, v => v = .int i
  | .str x, v => v = .str x
  | .list ds, v => ∃ a xs, v = .ref a ∧ SqL K H a xs ∧ IsAll K H ds xs
  | .tuple ds, v => ∃ a xs, v = .ref a ∧ SqT K H a xs ∧ IsAll K H ds xs
  | .dict _, _ => False
def IsAll (K : PySem.W.Frag) (H : Hp) : List PyData → List V → Prop
  | [], vs => vs = []
  | d :: ds, vs => ∃ v r, vs = v :: r ∧ Is K H d v ∧ IsAll K H ds r
end
section
variable {X : Cx} {pins : List (Addr × Obj)} {σ : St} {H : Hp} {s : Shared}
mutual
theorem Is.reads (I : Inv X pins σ H s) : ∀ (d : PyData) (v : V) (u : Value), Is X.K H d v → RelV v u → ∃ as, Reads s.heap u d as
  | .none, v, u, h, r => by
    simp only [Is] at h; subst h; cases r; exact ⟨_, .none⟩
  | .bool b, v, u, h, r => by
    simp only [Is] at h; subst h; cases r; exact ⟨_, .bool b⟩
  | .int i, v, u, h, r => by
    simp only [Is] at h; subst h; obtain ⟨t, rfl⟩ := r; exact ⟨_, .int i t⟩
  | .str x, v, u, h, r => by
    simp only [Is] at h; subst h; obtain ⟨t, rfl⟩ := r; exact ⟨_, .str x t⟩
  | .list ds, v, u, h, r => by
    simp only [Is] at h
    obtain ⟨a, xs, rfl, hq, hs⟩ := h
    cases r
    obtain ⟨its, rv, pl, hz⟩ := I.list hq
    obtain ⟨o, e, c, n, dt⟩ := pl.isList
    obtain ⟨as, ra⟩ := IsAll.reads I ds xs its hs rv
    exact ⟨_, .list e c dt (by simpa using ra)⟩
  | .tuple ds, v, u, h, r => by
    simp only [Is] at h
    obtain ⟨a, xs, rfl, hq, hs⟩ := h
    cases r
    obtain ⟨its, rv, pl, hz⟩ := I.tuple hq
    obtain ⟨o, e, c, n, dt⟩ := pl
    obtain ⟨as, ra⟩ := IsAll.reads I ds xs its hs rv
    exact ⟨_, .tuple e c dt (by simpa using ra)⟩
  | .dict _, v, u, h, r => by
    simp only [Is] at h
theorem IsAll.reads (I : Inv X pins σ H s) : ∀ (ds : List PyData) (vs : List V) (us : List Value), IsAll X.K H ds vs → Vals vs us → ∃ as, ReadsAll s.heap us ds as
  | [], vs, us, h, r => by
    simp only [IsAll] at h; subst h; cases r; exact ⟨_, .nil⟩
  | d :: ds, vs, us, h, r => by
    simp only [IsAll] at h
    obtain ⟨v, vr, rfl, h1, h2⟩ := h
    cases r with
    | cons r1 r2 =>
      obtain ⟨as, ra⟩ := Is.reads I d v _ h1 r1
      obtain ⟨bs, rb⟩ := IsAll.reads I ds vr _ h2 r2
      exact ⟨_, .cons ra rb⟩
end
theorem op_neD : OpR X (compareOp .NotEq) (fun x y H Q => ∃ d e, Is X.K H d x ∧ Is X.K H e y ∧ d.canLay0 = true ∧ e.canLay0 = true ∧ X.A.units + min d.depth e.depth < cLine ∧ Q (.bl (!PyData.eqv d e)) H) := by
  intro pins s σ H x y v u Q I rx ry h
  obtain ⟨d, e, hx, hy, h1, h2, hu, q⟩ := h
  obtain ⟨as, ra⟩ := hx.reads I d x v rx
  obtain ⟨bs, rb⟩ := hy.reads I e y u ry
  exact SeqAt.compareNe_reads ra rb h1 h2 hu ⟨.bl _, H, I, rfl, q⟩
end
section
variable {X : Cx}
end
section
variable {X : Cx}
end
end L2
set_option Elab.async false
set_option linter.all false
set_option maxRecDepth 100000
namespace L2
open PySem PySem.Spec PyProof.Rows
end L2
set_option Elab.async false
set_option linter.all false
set_option maxRecDepth 100000
namespace L2
open PySem PySem.Spec PyProof.Rows
section
variable {X : Cx}
def rAddS : R2 := fun x y H Q => ∃ i j, x = .str i ∧ y = .str j ∧ i.length + j.length ≤ sizeLine ∧ Q (.str (i ++ j)) H
def rIxQ (K : PySem.W.Frag) : R2 := fun x y H Q => ∃ p xs i v, x = .ref p ∧ y = .int i ∧ (SqL K H p xs ∨ SqT K H p xs) ∧ atI xs i = some v ∧ Q v H
theorem ixQ : IxR X (rIxQ X.K) := by
  intro value slice pins s σ H x y v u Q I rx ry h hs
  obtain ⟨p, xs, i, z, e1, e2, hq | hq, e3, q⟩ := h
  · exact ix_list value slice pins s σ H x y v u Q I rx ry ⟨p, xs, i, z, e1, e2, hq, e3, q⟩ hs
  · exact ix_tup value slice pins s σ H x y v u Q I rx ry ⟨p, xs, i, z, e1, e2, hq, e3, q⟩ hs
def rLenQ (K : PySem.W.Frag) : List V → Hp → VK → Prop := fun xs H Q => ∃ p ys, xs = [.ref p] ∧ (SqL K H p ys ∨ SqT K H p ys) ∧ Q (.int ys.length) H
variable {K : PySem.W.Frag}
theorem ixQk (hK : X.K = K) : IxR X (rIxQ K) := by subst hK; exact ixQ
theorem lenQk (hK : X.K = K) : CallR X (.builtin "len") (rLenQ K) := by subst hK; exact call_len_seq
def rListOf (K : PySem.W.Frag) : List V → Hp → VK → Prop := fun xs H Q => ∃ p ys, xs = [.ref p] ∧ (SqL K H p ys ∨ SqT K H p ys) ∧ ∀ l, H l = none → Q (.ref l) (upd H l (.lst ys))
theorem listOfk (hK : X.K = K) : CallR X (.type "list") (rListOf K) := by subst hK; exact call_list_of
theorem pg_tupk (hK : X.K = K) {es : List Expr} {k : Nat} {pos : Pos} {t : TGs} {n : Nat} (hc : X.calm = true) (h : PGs X es t)
    (hn : (assignEach es X.env).length = n := by rfl) (hst : (assignEach es X.env).findIdx? (·.1) = none := by rfl) : PG X (.Tuple es k pos) (gTup K n t) := by subst hK; exact pg_tup hc h hn hst
theorem pe_bmk (hK : X.K = K) {o e : Expr} {es : List Expr} {to : TE} {t : TA} {name : Str} {apos cpos : Pos} {T id : String} {r : V → List V → Hp → VK → Prop} (pa : PlainAttrs T) (slot : Slot T name id) (hty : typeOf (.builtin id) = pure (.type "method_descriptor")) (hm : MtR X id r) (ho : PE X o to) (ha : PA X (e :: es) t)
    (hbase : attributeBase o name X.env (eval o X.env) = eval o X.env := by rfl)
    (hfew : ((backTo cpos (starEach (e :: es) X.env)).all (fun x => !x.1) && (backToKw cpos (keywordEach [] X.env)).all (fun x => x.1.isSome)
      && decide ((e :: es).length + ([] : List Keyword).length + (if ([] : List Keyword).isEmpty then 0 else 1) < 30)) = true := by rfl)
    (hline : (apos.endLine == cpos.line) = true := by rfl) (hs : starEach (e :: es) X.env = (false, eval e X.env) :: starEach es X.env := by rfl) (hplain : (backTo cpos (starEach es X.env)).any (·.1) = false := by rfl) :
    PE X (.Call (.Attribute o name apos) (e :: es) [] cpos) (tBM K T r to t) := by subst hK; exact pe_bm pa slot hty hm ho ha hbase hfew hline hs hplain
theorem boot_max : bootBuiltins "max" = some (.builtin "max") := by decide +kernel
theorem boot_min : bootBuiltins "min" = some (.builtin "min") := by decide +kernel
theorem boot_abs : bootBuiltins "abs" = some (.builtin "abs") := by decide +kernel
theorem boot_divmod : bootBuiltins "divmod" = some (.builtin "divmod") := by decide +kernel
end
structure Nm (mg : Str → Option Value) : Prop where
  len : mg "len" = none
  max : mg "max" = none
  min : mg "min" = none
  abs : mg "abs" = none
  divmod : mg "divmod" = none
  range : mg "range" = none
  zip : mg "zip" = none
  list : mg "list" = none
  tuple : mg "tuple" = none
  int : mg "int" = none
  str : mg "str" = none
  set : mg "set" = none
  all : mg "all" = none
  isinstance : mg "isinstance" = none
end L2
set_option Elab.async false
set_option linter.all false
set_option maxRecDepth 100000
namespace L2
open PySem PySem.Spec PyProof.Rows
theorem same_upd {H : Hp} {p : Addr} {o : HO} (h : H p = none) : Same H (upd H p o) := fun b u e => by rw [upd_ne (ne_of_none e h)]; exact e
end L2
set_option Elab.async false
set_option linter.all false
set_option maxRecDepth 100000
namespace L2
open PySem PySem.Spec PyProof.Rows
def tForAt (J : It) (g : TG) (tb : TS) : TS := fun D σ H => ∃ W : Nat → Nat → St → Hp → Prop, (∃ m, W 0 m σ H) ∧ ∀ i m σ H, W i m σ H →
      (J.stop i H ∧ D.nx σ H) ∨ (J.go i H ∧ ∃ N : St → Hp → Prop, (∀ σ' H', N σ' H' → ∃ m', m' < m ∧ W (i + 1) m' σ' H') ∧ ∀ x H', J.yld i H x H' → g x σ H' fun σ2 H2 => tb { D with nx := N, ct := N, bk := D.nx } σ2 H2)
theorem fresh_of {H H' : Hp} {b : Addr} (s : Same H H') (h : H' b = none) : H b = none := by
  cases e : H b with
  | none => rfl
  | some o => rw [s b o e] at h; cases h
def But (p : Addr) (H H' : Hp) : Prop := ∀ b o, b ≠ p → H b = some o → H' b = some o
theorem But.trans {p : Addr} {H H1 H2 : Hp} (x : But p H H1) (y : But p H1 H2) : But p H H2 := fun b o hb e => y b o hb (x b o hb e)
theorem But.of {p : Addr} {H H' : Hp} (x : Same H H') : But p H H' := fun b o _ e => x b o e
end L2
set_option Elab.async false
set_option linter.all false
set_option maxRecDepth 100000
namespace L2
open PySem PySem.Spec PyProof.Rows
end L2
set_option Elab.async false
set_option linter.all false
set_option maxRecDepth 100000
namespace L2
open PySem PySem.Spec PyProof.Rows
def isL (c : Nat) : Bool := !(Builtin.Str.occurrences ("abcdefghijklmnopqrstuvwxyz" : Str) ⟨#[c]⟩ 0 ("abcdefghijklmnopqrstuvwxyz" : Str).length 1).isEmpty
theorem letters_at : ∀ n : Nat, n < 26 → atI (Str.ofString "abcdefghijklmnopqrstuvwxyz").cps.toList (n : Int) = some (97 + n) := by decide +kernel
theorem letters_len : (Str.ofString "abcdefghijklmnopqrstuvwxyz").length ≤ sizeLine := by decide +kernel
theorem letters_int {i : Int} (h0 : 0 ≤ i) (h1 : i < 26) : ∃ n : Nat, i = n ∧ n < 26 ∧ atI (Str.ofString "abcdefghijklmnopqrstuvwxyz").cps.toList i = some (97 + n) :=
  ⟨i.toNat, by omega, by omega, by
    obtain ⟨n, rfl⟩ : ∃ n : Nat, i = n := ⟨i.toNat, by omega⟩
    exact letters_at n (by omega)⟩
structure WordOf (c : Nat) (k : Nat) (x : Str) : Prop where
  len : x.length = k
  fst : x.cps[0]? = some c
  all : x.cps.toList.all isL = true
end L2
set_option Elab.async false
set_option linter.all false
set_option maxRecDepth 100000
namespace L2
open PySem PySem.Spec PyProof.Rows
section
variable {κ : Type} [DecidableEq κ]
end
section
variable {P : Program} {w : World} {H : Hp} {h : Heap} {a : Addr}
theorem rd_of {u : HO} (ok : HOk P w H h) (e : Rd H a u) : ObjOk P w H h a u := e.ok ok
theorem dk_rd {kvs : List (Key × V)} (ok : HOk P w H h) (e : Rd H a (.dK kvs)) : kvs.length ≤ sizeLine ∧ (a == sysModules) = false ∧ ∃ vs, KV kvs vs ∧ h.DictOf (mixKind P w) a vs :=
  show ObjOk P w H h a (.dK kvs) from rd_of ok e
theorem dk_of {kvs : List (Key × V)} (ok : HOk P w H h) (e : H a = some (.dK kvs)) : kvs.length ≤ sizeLine ∧ (a == sysModules) = false ∧ ∃ vs, KV kvs vs ∧ h.DictOf (mixKind P w) a vs := dk_rd ok (.inl e)
end
section
variable {X : Cx} {pins : List (Addr × Obj)} {σ : St} {H : Hp} {s : Shared} {a : Addr} {y v : V} {u r : Value} {o : Option V} {A : Around} {E : Value → Shared → Prop}
end
structure M1 (X : Cx) (o : Expr) (m : Str) (apos : Pos) (e : Expr) (cpos : Pos) : Prop where
  base : attributeBase o m X.env (eval o X.env) = eval o X.env
  few : ((backTo cpos (starEach [e] X.env)).all (fun x => !x.1) && (backToKw cpos (keywordEach [] X.env)).all (fun x => x.1.isSome)
    && decide (([e] : List Expr).length + ([] : List Keyword).length + (if ([] : List Keyword).isEmpty then 0 else 1) < 30)) = true
  line : (apos.endLine == cpos.line) = true
  trees : backTo cpos (starEach [e] X.env) = [(false, eval e X.env)]
structure M2 (X : Cx) (o : Expr) (m : Str) (apos : Pos) (e f : Expr) (cpos : Pos) : Prop where
  base : attributeBase o m X.env (eval o X.env) = eval o X.env
  few : ((backTo cpos (starEach [e, f] X.env)).all (fun x => !x.1) && (backToKw cpos (keywordEach [] X.env)).all (fun x => x.1.isSome)
    && decide (([e, f] : List Expr).length + ([] : List Keyword).length + (if ([] : List Keyword).isEmpty then 0 else 1) < 30)) = true
  line : (apos.endLine == cpos.line) = true
  trees : backTo cpos (starEach [e, f] X.env) = [(false, eval e X.env), (false, eval f X.env)]
end L2
set_option Elab.async false
set_option linter.all false
set_option maxRecDepth 100000
namespace L2
open PySem PySem.Spec PyProof.Rows
structure Nm2 (mg : Str → Option Value) : Prop where
  enumerate : mg "enumerate" = none
  any : mg "any" = none
  dict : mg "dict" = none
  sorted : mg "sorted" = none
  repr : mg "repr" = none
  bool : mg "bool" = none
theorem Inv.pairNew {X : Cx} {pins : List (Addr × Obj)} {σ : St} {H : Hp} {s : Shared} {h2 : Heap} {t' : Nat} {x y : V} {u u' : Value} (I : Inv X pins σ H s) (I1 : Inv X pins σ H { s with heap := h2, toks := t' }) (ru : RelV x u) (ru' : RelV y u')
    (hpair : h2.get? s.heap.objs.size = some { cls := .type "tuple", data := .seq #[u, u'] }) : Inv X pins σ (upd H s.heap.objs.size (.tup [x, y])) { s with heap := h2, toks := t' } := by
  have hfr : H s.heap.objs.size = none := I.hok.fresh (Nat.le_refl _)
  refine ⟨I1.ok, I1.os, I1.bare, ⟨I1.base.keep, I1.base.slot, fun c o e n hx => ?_, I1.base.there, fun c zs e => ?_, fun c o v e => ?_, fun c qs e => ?_⟩, I1.loc, I1.cell, ?_, fun v c e => ?_, fun v hv => ?_, ?_, I1.len⟩
  · rw [upd_ne (fun e' => ?_)]
    · exact I1.base.free c o e n hx
    · exact absurd (Nat.lt_of_lt_of_le (Heap.lt_size e) I.sz) (by rw [e']; exact Nat.lt_irrefl _)
  · have e' := I1.base.tups c zs e
    rw [upd_ne (ne_of_none e' hfr)]; exact e'
  · have e' := I1.base.frzs c o v e
    rw [upd_ne (ne_of_none e' hfr)]; exact e'
  · obtain ⟨m, e'⟩ := I1.base.tbls c qs e
    exact ⟨m, by rw [upd_ne (ne_of_none e' hfr)]; exact e'⟩
  · rw [upd_ne (Nat.ne_of_lt I.lt)]; exact I1.free
  · obtain ⟨w', qc⟩ := I.cell v c e
    rw [upd_ne (Nat.ne_of_lt qc.lt)]; exact I1.freeC v c e
  · obtain ⟨f1, f2, f3⟩ := I1.pin v hv
    refine ⟨f1, ?_, f3⟩
    rw [upd_ne (Nat.ne_of_lt (Heap.lt_size (I.pin v hv).1))]; exact f2
  · intro c v e
    by_cases hcs : c = s.heap.objs.size
    · subst hcs
      rw [upd_same] at e
      cases e
      exact ⟨by show 2 ≤ sizeLine; rw [sizeLine_eq]; decide, [u, u'], .cons ru (.cons ru' .nil), ⟨_, hpair, rfl, 0, rfl⟩⟩
    · rw [upd_ne hcs] at e
      refine (I1.hok c v e).stay (fun _ _ _ qq => qq) (fun d qd => ?_) fun d zs qd => ?_
      · rw [upd_ne (ne_of_none qd hfr)]; exact qd
      · rw [upd_ne (ne_of_none qd hfr)]; exact qd
def Ite (K : PySem.W.Frag) (a : Addr) : It :=
  ⟨fun i H => ∃ xs x, SqL K H a xs ∧ xs[i]? = some x,
   fun i H v H' => ∃ t x, v = .ref t ∧ H t = none ∧ H' = upd H t (.tup [.int i, x]) ∧ ∀ xs, SqL K H a xs → xs[i]? = some x,
   fun i H => ∃ xs, SqL K H a xs ∧ xs.length ≤ i⟩
structure EnumSt (e it a : Addr) (i : Nat) (h : Heap) : Prop where
  he : ∃ old, IsEnum h e it i old
  hi : h.IsListIter it a i
theorem turn_enum {P : Program} {w : World} {K : PySem.W.Frag} {es : List Expr} {k : Nat} {pos : Pos} {e it a : Addr} (nei : e ≠ it) :
    Turn P w K (.Tuple es k pos) (Ite K a) [e, it] e (EnumSt e it a) where
  mem := by simp
  obj := fun i h st c hc => by
    simp only [List.mem_cons, List.not_mem_nil, or_false] at hc
    rcases hc with rfl | rfl
    · obtain ⟨old, q⟩ := st.he
      exact ⟨_, q, fun v e => nomatch e⟩
    · obtain ⟨o, e, _, d⟩ := st.hi
      exact ⟨o, e, fun v y => by rw [d] at y; cases y⟩
  keep := fun i h h' st kk => by
    obtain ⟨old, q⟩ := st.he
    exact ⟨⟨old, kk e (by simp) _ q⟩, st.hi.at fun o z => kk it (by simp) o z⟩
  item := by
    intro X hP hw hK hc i pins s σ H E I hf st hg
    subst hP hw hK
    obtain ⟨xs, x, qa, hx⟩ := hg
    obtain ⟨its, rv, pl, hz1⟩ := I.list qa
    obtain ⟨u, hu, ru⟩ := rv.get hx
    obtain ⟨old, hE⟩ := st.he
    obtain ⟨o1, e1, c1, _⟩ := id st.hi
    refine wpAny_pyNext_enum_item hE st.hi pl.isList (x := u) (by simpa using hu) nei fun h' a1 a2 a3 a4 kk => ?_
    refine ⟨_, rfl, wpAny_letOwnedTupleGo_enum a1 fun h2 b1 sb => ?_⟩
    have lt : ∀ {c o}, s.heap.get? c = some o → s.heap.objs.size ≠ c := fun e => Nat.ne_of_gt (Heap.lt_size e)
    have hn : H s.heap.objs.size = none := I.hok.fresh (Nat.le_refl _)
    have kk2 : ∀ c o, c ∉ [e, it] → s.heap.get? c = some o → h2.get? c = some o := fun c o hc z => by
      simp only [List.mem_cons, List.not_mem_nil, or_false, not_or] at hc
      exact (sb.2 c hc.1).trans (kk c o hc.1 hc.2 z)
    have I1 : Inv X pins σ H { s with heap := h2, toks := s.toks + 1 } := I.turnedL kk2 hf
    have hpair := sb.extBut _ _ (lt hE) a3
    have I2 : Inv X pins σ (upd H s.heap.objs.size (.tup [.int i, x])) { s with heap := h2, toks := s.toks + 1 } := I.pairNew I1 ⟨_, rfl⟩ ru hpair
    refine ⟨.ref s.heap.objs.size, _, I2, rfl, ⟨s.heap.objs.size, x, rfl, hn, rfl, fun xs' q' => by rw [I.list_inj q' qa]; exact hx⟩, ?_, fun c hcm => ?_⟩
    · exact ⟨⟨_, b1⟩, a2.extBut sb.extBut nei.symm⟩
    · have hne : c ≠ s.heap.objs.size := by
        simp only [List.mem_cons, List.not_mem_nil, or_false] at hcm
        rcases hcm with rfl | rfl
        · exact (lt hE).symm
        · exact (lt e1).symm
      rw [upd_ne hne]
      exact (hf c hcm).1
  done := by
    intro X hP hw hK hc i pins s σ H E I hf st hg
    subst hP hw hK
    obtain ⟨xs, qa, hl⟩ := hg
    obtain ⟨its, rv, pl, hz1⟩ := I.list qa
    obtain ⟨old, hE⟩ := st.he
    have l1 := rv.length
    refine wpAny_pyNext_enum_end (I.ok.hd hc) hE st.hi pl.isList (by simp; omega) fun h' kk => ⟨rfl, I.turnedL (t' := s.toks) (fun c o hcm z => ?_) hf⟩
    simp only [List.mem_cons, List.not_mem_nil, or_false, not_or] at hcm
    exact kk c o hcm.2 z
  self := fun _ _ _ _ _ st h => by
    obtain ⟨old, q⟩ := st.he
    exact wpAny_pyIter_enum q h
section
variable {X : Cx} {K : PySem.W.Frag}
def iEnum (K : PySem.W.Frag) (t : TA) : TI := fun σ H R => t σ H fun vs H1 => ∃ a xs, vs = [.ref a] ∧ SqL K H1 a xs ∧ R (Ite K a) H1
theorem boot_enum : bootBuiltins "enumerate" = some (.type "enumerate") := by decide +kernel
theorem pi_enum (hK : X.K = K) {es : List Expr} {k : Nat} {pos' : Pos} {a : Expr} {ta : TA} {p pos : Pos} (hg : Gl X "enumerate") (hm : X.mg "enumerate" = none) (ha : PA X [a] ta)
    (hs : starEach [a] X.env = [(false, eval a X.env)] := by rfl) :
    PI X (.Tuple es k pos') (.Call (.Name "enumerate" p) [a] [] pos) (iEnum K ta) := by
  subst hK
  intro pins s σ H R I h
  refine Call_ (ld_blt I hg hm boot_enum (PyProof.Rows.callWith_type1 (thn (ha pos pins s σ H _ I h) fun us s1 zz => ?_) (by rw [hs]; rfl) (by rfl)))
  obtain ⟨vs, H1, I1, r1, q1⟩ := zz
  obtain ⟨l1, xs, e, qa, q⟩ := q1
  subst e
  obtain ⟨u, rfl, r⟩ := vals1 r1
  obtain rfl : u = Value.ref l1 := r
  obtain ⟨its, rv, pl, hz1⟩ := I1.list qa
  refine call_enumerate_list pl.isList fun h' b1 b2 b3 kk => ?_
  refine wpAny_pyIter_enum (s := { s1 with heap := h' }) b1 ?_
  have I2 : Inv X pins σ H1 { s1 with heap := h' } := I1.kept (t' := s1.toks) kk
  refine ⟨s1.heap.objs.size + 1, [s1.heap.objs.size + 1, s1.heap.objs.size], _, _, H1, rfl, I2, turn_enum (Nat.succ_ne_self _), ⟨⟨_, b1⟩, b2⟩, fun c hc => ?_, q⟩
  have hle : s1.heap.objs.size ≤ c := by
    simp only [List.mem_cons, List.not_mem_nil, or_false] at hc
    rcases hc with rfl | rfl <;> first | exact Nat.le_add_right _ _ | exact Nat.le_refl _
  exact I1.fpOk hle (I1.hok.fresh hle)
end
end L2
set_option Elab.async false
set_option linter.all false
set_option maxRecDepth 100000
set_option Elab.async false
set_option linter.all false
set_option maxRecDepth 100000
namespace L2
open PySem PySem.Spec PyProof.Rows
@[simp ↓] theorem tVar_w (i : Nat) σ H Q : tVar i σ H Q = (∃ v, σ[i]? = some (some v) ∧ Q v H) := rfl
@[simp ↓] theorem tC_w (v : V) z0 H Q : tC v z0 H Q = (Q v H) := rfl
@[simp ↓] theorem tB_w (t : TE) σ H Q : tB t σ H Q = (t σ H fun x H1 => ∃ c, x = .bl c ∧ Q c H1) := rfl
@[simp ↓] theorem tNot_w (t : TT) σ H Q : tNot t σ H Q = (t σ H fun c H1 => Q (!c) H1) := rfl
@[simp ↓] theorem tNext_w D σ H : tNext  D σ H = (D.nx σ H) := rfl
@[simp ↓] theorem tSeq_w (t u : TS) D σ H : tSeq t u D σ H = (t { D with nx := u D } σ H) := rfl
@[simp ↓] theorem tDrop_w (te : TE) D σ H : tDrop te D σ H = (te σ H fun _ H1 => D.nx σ H1) := rfl
@[simp ↓] theorem tRet_w (te : TE) D σ H : tRet te D σ H = (te σ H D.rt) := rfl
@[simp ↓] theorem gName_w (i : Nat) v σ H Q : gName i v σ H Q = (Q (σ.set i (some v)) H) := rfl
@[simp ↓] theorem gNil_w vs σ H Q : gNil  vs σ H Q = (vs = [] ∧ Q σ H) := rfl
@[simp ↓] theorem gCons_w (t : TG) (u : TGs) vs σ H Q : gCons t u vs σ H Q = (∃ v r, vs = v :: r ∧ t v σ H fun σ' H' => u r σ' H' Q) := rfl
@[simp ↓] theorem gTup_w (K : PySem.W.Frag) (n : Nat) (t : TGs) v σ H Q : gTup K n t v σ H Q = (∃ a xs, v = .ref a ∧ SqT K H a xs ∧ xs.length = n ∧ t xs σ H Q) := rfl
@[simp ↓] theorem gSub_w (to ti : TE) (t : TSet) v σ H Q : gSub to ti t v σ H Q = (to σ H fun o H1 => ti σ H1 fun i H2 => t o i v H2 fun H3 => Q σ H3) := rfl
@[simp ↓] theorem tAsg_w (te : TE) (g : TG) D σ H : tAsg te g D σ H = (te σ H fun x H1 => g x σ H1 D.nx) := rfl
@[simp ↓] theorem tPar_w (i j : Nat) (ta : TA) D σ H : tPar i j ta D σ H = (ta σ H fun vs H1 => ∃ v w, vs = [v, w] ∧ D.nx ((σ.set i (some v)).set j (some w)) H1) := rfl
@[simp ↓] theorem iRng1_w (ta : TA) σ H R : iRng1 ta σ H R = (ta σ H fun vs H1 => ∃ j : Int, vs = [.int j] ∧ -(2 ^ 62) ≤ j ∧ j < 2 ^ 62 ∧ R (Itr 0 j.toNat) H1) := rfl
@[simp ↓] theorem tOp_w (r : R2) (ta tb : TE) σ H Q : tOp r ta tb σ H Q = (ta σ H fun x H1 => tb σ H1 fun y H2 => r x y H2 Q) := rfl
@[simp ↓] theorem rI_w (C : Int → Int → Prop) (g : Int → Int → V) x y H Q : rI C g x y H Q = (∃ i j, x = .int i ∧ y = .int j ∧ C i j ∧ Q (g i j) H) := rfl
@[simp ↓] theorem rI0_w (g : Int → Int → V) x y H Q : rI0 g x y H Q = (∃ i j, x = .int i ∧ y = .int j ∧ Q (g i j) H) := rfl
@[simp ↓] theorem rNe_w x y H Q : rNe  x y H Q = (scal x y = true ∧ Q (.bl (!decide (x = y))) H) := rfl
@[simp ↓] theorem tTest_w (t : TE) σ H Q : tTest t σ H Q = (t σ H fun x H' => ∃ k, x = .bl k ∧ Q k H') := rfl
@[simp ↓] theorem tNil_w z0 H Q : tNil  z0 H Q = (Q [] H) := rfl
@[simp ↓] theorem tCons_w (ta : TE) (tr : TA) σ H Q : tCons ta tr σ H Q = (ta σ H fun x H1 => tr σ H1 fun xs H2 => Q (x :: xs) H2) := rfl
@[simp ↓] theorem tTup_w (t : TA) σ H Q : tTup t σ H Q = (t σ H fun xs H1 => xs.length ≤ sizeLine ∧ ∀ p, H1 p = none → Q (.ref p) (upd H1 p (.tup xs))) := rfl
@[simp ↓] theorem tLst_w (t : TA) σ H Q : tLst t σ H Q = (t σ H fun xs H1 => xs.length ≤ sizeLine ∧ ∀ p, H1 p = none → Q (.ref p) (upd H1 p (.lst xs))) := rfl
@[simp ↓] theorem tCB_w (r : List V → Hp → VK → Prop) (t : TA) σ H Q : tCB r t σ H Q = (t σ H fun vs H1 => r vs H1 Q) := rfl
@[simp ↓] theorem rIxL_w (K : PySem.W.Frag) x y H Q : rIxL K x y H Q = (∃ p xs i v, x = .ref p ∧ y = .int i ∧ SqL K H p xs ∧ atI xs i = some v ∧ Q v H) := rfl
@[simp ↓] theorem rIxT_w (K : PySem.W.Frag) x y H Q : rIxT K x y H Q = (∃ p xs i v, x = .ref p ∧ y = .int i ∧ SqT K H p xs ∧ atI xs i = some v ∧ Q v H) := rfl
@[simp ↓] theorem rIxS_w x y H Q : rIxS  x y H Q = (∃ z i c, x = .str z ∧ y = .int i ∧ z.length ≤ sizeLine ∧ atI z.cps.toList i = some c ∧ Q (.str ⟨#[c]⟩) H) := rfl
@[simp ↓] theorem rSetL_w o i v H Q : rSetL  o i v H Q = (∃ p xs k j, o = .ref p ∧ i = .int k ∧ H p = some (.lst xs) ∧ ixN xs.length k = some j ∧ Q (upd H p (.lst (xs.set j v)))) := rfl
@[simp ↓] theorem tBM_w (K : PySem.W.Frag) (T : String) (r : V → List V → Hp → VK → Prop) (to : TE) (t : TA) σ H Q : tBM K T r to t σ H Q = (to σ H fun x H1 => tyV K T x H1 ∧ t σ H1 fun xs H2 => r x xs H2 Q) := rfl
@[simp ↓] theorem rAppend_w x vs H Q : rAppend  x vs H Q = (∃ l xs y, x = .ref l ∧ vs = [y] ∧ H l = some (.lst xs) ∧ xs.length < sizeLine ∧ Q .non (upd H l (.lst (xs ++ [y])))) := rfl
@[simp ↓] theorem rCat_w x y H Q : rCat  x y H Q = (∃ l b xs zs, x = .ref l ∧ y = .ref b ∧ H l = some (.lst xs) ∧ H b = some (.lst zs) ∧ xs.length + zs.length ≤ sizeLine ∧ ∀ p, H p = none → Q (.ref p) (upd H p (.lst (xs ++ zs)))) := rfl
@[simp ↓] theorem rRep_w x y H Q : rRep  x y H Q = (∃ l k xs, x = .ref l ∧ y = .int k ∧ H l = some (.lst xs) ∧ -(2 ^ 63) ≤ k ∧ k < 2 ^ 63 ∧ xs.length * k.toNat ≤ sizeLine ∧ ∀ p, H p = none → Q (.ref p) (upd H p (.lst (List.replicate k.toNat xs).flatten))) := rfl
@[simp ↓] theorem rAddS_w x y H Q : rAddS  x y H Q = (∃ i j, x = .str i ∧ y = .str j ∧ i.length + j.length ≤ sizeLine ∧ Q (.str (i ++ j)) H) := rfl
@[simp ↓] theorem rIxQ_w (K : PySem.W.Frag) x y H Q : rIxQ K x y H Q = (∃ p xs i v, x = .ref p ∧ y = .int i ∧ (SqL K H p xs ∨ SqT K H p xs) ∧ atI xs i = some v ∧ Q v H) := rfl
@[simp ↓] theorem rLenQ_w (K : PySem.W.Frag) xs H Q : rLenQ K xs H Q = (∃ p ys, xs = [.ref p] ∧ (SqL K H p ys ∨ SqT K H p ys) ∧ Q (.int ys.length) H) := rfl
@[simp ↓] theorem rListOf_w (K : PySem.W.Frag) xs H Q : rListOf K xs H Q = (∃ p ys, xs = [.ref p] ∧ (SqL K H p ys ∨ SqT K H p ys) ∧ ∀ l, H l = none → Q (.ref l) (upd H l (.lst ys))) := rfl
structure DepQ (Q : VK) where
  n : Nat
structure DepF (g : TG) (tb : TS) (D : Ends) where
  n : Nat
structure DepW (c : TT) (tb : TS) (D : Ends) where
  n : Nat
structure DepC (g : TG) (tt : TT) (te : TE) (Q : Hp → Prop) where
  n : Nat
structure DepB (A B : Prop) where
  n : Nat
def tSp (sp : Sp) (vs : List V) (H : Hp) (Q : VK) (d : DepQ Q) (E : XK) : Prop := sp vs H Q E
def tFr (J : It) (g : TG) (tb : TS) (D : Ends) (d : DepF g tb D) (σ : St) (H : Hp) : Prop := tForAt J g tb D σ H
def tBr (b : Bool) (A B : Prop) (d : DepB A B) : Prop := if b = true then A else B
@[simp] theorem tBr_t (A B : Prop) (d : DepB A B) : tBr true A B d = A := rfl
@[simp] theorem tBr_f (A B : Prop) (d : DepB A B) : tBr false A B d = B := rfl
theorem tBr.of {b : Bool} {A B : Prop} {d : DepB A B} (h1 : b = true → A) (h2 : b = false → B) : tBr b A B d := by
  cases b with
  | true => exact h1 rfl
  | false => exact h2 rfl
theorem tBr.neg {b : Bool} {A B : Prop} {d : DepB A B} (h : b = false) (h1 : B) : tBr b A B d := by subst h; exact h1
@[simp ↓] theorem tCall_w (sp : Sp) (dvs : List V) (E : XK) (t : TA) (σ : St) (H : Hp) (Q : VK) : tCall sp dvs E t σ H Q = t σ H fun vs H1 => tSp sp (vs ++ dvs) H1 Q ⟨0⟩ E := rfl
@[simp ↓] theorem tFor_w (wi : TI) (g : TG) (tb : TS) (D : Ends) (σ : St) (H : Hp) : tFor wi g tb D σ H = wi σ H fun J H1 => tFr J g tb D ⟨0⟩ σ H1 := rfl
@[simp ↓] theorem tIfS_w (c : TT) (t u : TS) (D : Ends) (σ : St) (H : Hp) : tIfS c t u D σ H = c σ H fun b H1 => tBr b (t D σ H1) (u D σ H1) ⟨0⟩ := rfl
@[simp ↓] theorem tIf_w (c : TT) (t u : TE) (σ : St) (H : Hp) (Q : VK) : tIf c t u σ H Q = c σ H fun b H1 => tBr b (t σ H1 Q) (u σ H1 Q) ⟨0⟩ := rfl
@[simp ↓] theorem tOr_w (t u : TT) (σ : St) (H : Hp) (Q : Bool → Hp → Prop) : tOr t u σ H Q = t σ H fun c H1 => tBr c (Q true H1) (u σ H1 Q) ⟨0⟩ := rfl
@[simp ↓] theorem ex_par {α : Type} (a b : α) (R : α → α → Prop) : (∃ v w, [a, b] = [v, w] ∧ R v w) = R a b := by
  refine propext ⟨?_, fun h => ⟨a, b, rfl, h⟩⟩
  rintro ⟨_, _, e, h⟩
  cases e
  exact h
@[simp] theorem ex_and2 {α β : Type} (a : α) (b : β) (R : α → β → Prop) : (∃ v w, (a = v ∧ b = w) ∧ R v w) = R a b := by
  refine propext ⟨?_, fun h => ⟨a, b, ⟨rfl, rfl⟩, h⟩⟩
  rintro ⟨_, _, ⟨rfl, rfl⟩, h⟩
  exact h
@[simp] theorem sz0 : (0 ≤ sizeLine) = True := eq_true (by decide)
@[simp] theorem sz1 : (1 ≤ sizeLine) = True := eq_true (by decide)
@[simp] theorem sz2 : (2 ≤ sizeLine) = True := eq_true (by decide)
@[simp] theorem sz3 : (3 ≤ sizeLine) = True := eq_true (by decide)
@[simp] theorem sz4 : (4 ≤ sizeLine) = True := eq_true (by decide)
@[simp] theorem sz5 : (5 ≤ sizeLine) = True := eq_true (by decide)
@[simp] theorem sz6 : (6 ≤ sizeLine) = True := eq_true (by decide)
@[simp] theorem sz7 : (7 ≤ sizeLine) = True := eq_true (by decide)
@[simp] theorem sz8 : (8 ≤ sizeLine) = True := eq_true (by decide)
@[simp] theorem sz9 : (9 ≤ sizeLine) = True := eq_true (by decide)
@[simp] theorem sz10 : (10 ≤ sizeLine) = True := eq_true (by decide)
@[simp] theorem sz11 : (11 ≤ sizeLine) = True := eq_true (by decide)
@[simp] theorem sz12 : (12 ≤ sizeLine) = True := eq_true (by decide)
@[simp] theorem sz13 : (13 ≤ sizeLine) = True := eq_true (by decide)
@[simp] theorem sz14 : (14 ≤ sizeLine) = True := eq_true (by decide)
@[simp] theorem sz15 : (15 ≤ sizeLine) = True := eq_true (by decide)
@[simp] theorem sz16 : (16 ≤ sizeLine) = True := eq_true (by decide)
@[simp] theorem sz17 : (17 ≤ sizeLine) = True := eq_true (by decide)
@[simp] theorem sz18 : (18 ≤ sizeLine) = True := eq_true (by decide)
@[simp] theorem sz19 : (19 ≤ sizeLine) = True := eq_true (by decide)
@[simp] theorem sz20 : (20 ≤ sizeLine) = True := eq_true (by decide)
@[simp] theorem scal_ii (i j : Int) : scal (.int i) (.int j) = true := rfl
@[simp] theorem scal_ss (i j : Str) : scal (.str i) (.str j) = true := rfl
@[simp] theorem scal_bb (i j : Bool) : scal (.bl i) (.bl j) = true := rfl
@[simp] theorem scal_is (i : Int) (j : Str) : scal (.int i) (.str j) = true := rfl
@[simp] theorem scal_si (i : Int) (j : Str) : scal (.str j) (.int i) = true := rfl
@[simp] theorem tyV_list (K : PySem.W.Frag) (p : Addr) (H : Hp) : tyV K "list" (.ref p) H = (∃ xs, SqL K H p xs) := by simp [tyV]
@[simp] theorem tyV_str (K : PySem.W.Frag) (p : Str) (H : Hp) : tyV K "str" (.str p) H = True := by simp [tyV]
section
variable {K : PySem.W.Frag} {l : Addr} {xs : List V} {g : TG} {tb : TS} {D : Ends} {d : DepF g tb D} {σ : St} {H : Hp}
theorem frR {lo : Int} {n : Nat} (Pv : Nat → St → Hp → Prop) (h0 : Pv 0 σ H)
    (hs : ∀ i σ H, i < n → Pv i σ H → g (.int (lo + i)) σ H fun σ2 H2 => tb { D with nx := Pv (i + 1), ct := Pv (i + 1), bk := D.nx } σ2 H2) (hd : ∀ σ H, Pv n σ H → D.nx σ H) : tFr (Itr lo n) g tb D d σ H := for_range Pv h0 hs hd
end
end L2
set_option Elab.async false
set_option linter.all false
set_option maxRecDepth 100000
set_option Elab.async false
set_option linter.all false
set_option Elab.async false
set_option linter.all false
set_option maxRecDepth 100000
namespace L2
open PySem PySem.Spec PyProof.Rows
section
variable {X : Cx} {K : PySem.W.Frag}
def rNeD (K : PySem.W.Frag) : R2 := fun x y H Q => ∃ d e, Is K H d x ∧ Is K H e y ∧ d.canLay0 = true ∧ e.canLay0 = true ∧ d.depth ≤ 64 ∧ Q (.bl (!PyData.eqv d e)) H
theorem opNeDk (hK : X.K = K) (hu : X.A.units + 64 < cLine) : OpR X (compareOp .NotEq) (rNeD K) := by
  subst hK
  intro pins s σ H x y v u Q I rx ry h
  obtain ⟨d, e, h1, h2, h3, h4, h5, q⟩ := h
  exact op_neD pins s σ H x y v u Q I rx ry ⟨d, e, h1, h2, h3, h4, by omega, q⟩
@[simp ↓] theorem rNeD_w (K : PySem.W.Frag) (x y : V) (H : Hp) (Q : VK) : rNeD K x y H Q = ∃ d e, Is K H d x ∧ Is K H e y ∧ d.canLay0 = true ∧ e.canLay0 = true ∧ d.depth ≤ 64 ∧ Q (.bl (!PyData.eqv d e)) H := rfl
end
def dStrs (xs : List Str) : List PyData := xs.map PyData.str
theorem is_strs {K : PySem.W.Frag} {H : Hp} : ∀ xs : List Str, IsAll K H (dStrs xs) (xs.map V.str)
  | [] => rfl
  | x :: xs => ⟨_, _, rfl, rfl, is_strs xs⟩
theorem lay_strs : ∀ xs : List Str, (∀ x ∈ xs, PyData.strOk x = true) → PyData.canLayAll0 (dStrs xs) = true
  | [], _ => by simp [dStrs, PyData.canLayAll0]
  | x :: xs, h => by
    have := lay_strs xs fun y hy => h y (List.mem_cons_of_mem _ hy)
    simp [dStrs] at this
    simp [dStrs, PyData.canLayAll0, PyData.canLay0, this, h x List.mem_cons_self]
theorem dep_strs : ∀ xs : List Str, PyData.depthAll (dStrs xs) ≤ 1
  | [] => by simp [dStrs, PyData.depthAll]
  | x :: xs => by
    have := dep_strs xs
    simp [dStrs] at this
    simp [dStrs, PyData.depthAll, PyData.depth, this]
end L2
set_option Elab.async false
set_option linter.all false
set_option maxRecDepth 100000
namespace L2
open PySem PySem.Spec PyProof.Rows
@[simp ↓] theorem iEnum_w (K : PySem.W.Frag) (t : TA) (σ : St) (H : Hp) (R : It → Hp → Prop) : iEnum K t σ H R = (t σ H fun vs H1 => ∃ a xs, vs = [.ref a] ∧ SqL K H1 a xs ∧ R (Ite K a) H1) := rfl
section
variable {K : PySem.W.Frag} {l : Addr} {g : TG} {tb : TS} {D : Ends} {d : DepF g tb D} {σ : St} {H : Hp}
theorem frE (xs : List V) (Pv : Nat → St → Hp → Prop) (h0 : Pv 0 σ H) (hl : ∀ i σ H, i ≤ xs.length → Pv i σ H → SqL K H l xs)
    (hs : ∀ i x t σ H, xs[i]? = some x → H t = none → Pv i σ H → g (.ref t) σ (upd H t (.tup [.int i, x])) fun σ2 H2 => tb { D with nx := Pv (i + 1), ct := Pv (i + 1), bk := D.nx } σ2 H2) (hd : ∀ σ H, Pv xs.length σ H → D.nx σ H) : tFr (Ite K l) g tb D d σ H := by
  refine ⟨fun i m σ H => m = xs.length - i ∧ i ≤ xs.length ∧ Pv i σ H, ⟨xs.length, by simp, Nat.zero_le _, h0⟩, ?_⟩
  rintro i m σ H ⟨rfl, hi, p⟩
  have q := hl i σ H hi p
  by_cases hlt : i < xs.length
  · refine .inr ⟨⟨xs, xs[i], q, by simp [hlt]⟩, Pv (i + 1), fun σ' H' p' => ⟨xs.length - (i + 1), by omega, rfl, hlt, p'⟩, fun x H' y => ?_⟩
    obtain ⟨t, u, rfl, ht, rfl, e⟩ := y
    exact hs i u t σ H (e xs q) ht p
  · have e : i = xs.length := by omega
    subst e
    exact .inl ⟨⟨xs, q, Nat.le_refl _⟩, hd σ H p⟩
end
end L2
set_option Elab.async false
set_option linter.all false
set_option maxRecDepth 100000
namespace L2
open PySem
inductive RT {α : Type} (R : α → α → Prop) : α → α → Prop where
  | refl (a : α) : RT R a a
  | tail {a b c : α} : RT R a b → R b c → RT R a c
abbrev Stp := Nat × Str × Str
def Along (S : List Stp) (a b : Str) : Prop := ∃ n, (n, a, b) ∈ S
end L2
set_option Elab.async false
set_option linter.all false
set_option maxRecDepth 100000
namespace L2
open PySem PySem.Spec PyProof.Rows
section
variable {β : Type} {R : Hp → V → β → Prop} {H H' : Hp} {vs : List V} {bs : List β}
end
end L2
set_option Elab.async false
set_option linter.all false
set_option maxRecDepth 100000
namespace L2
open PySem
inductive PathV (S : List Stp) (a : Str) : List Nat → List Str → Str → Prop where
  | nil : PathV S a [] [a] a
  | snoc {w : List Nat} {vs : List Str} {b c : Str} {n : Nat} : PathV S a w vs b → (n, b, c) ∈ S → PathV S a (w ++ [n]) (vs ++ [c]) c
inductive Walk (S : List Stp) (a : Str) : Nat → Str → Prop where
  | nil : Walk S a 0 a
  | snoc {k : Nat} {b c : Str} {n : Nat} : Walk S a k b → (n, b, c) ∈ S → Walk S a (k + 1) c
abbrev BR := List (Str × List Nat)
structure Bfs (S : List Stp) (a : Str) (at_ : Nat) (R : BR) : Prop where
  st : R[0]? = some (a, [])
  nd : (R.map (·.1)).Nodup
  pth : ∀ y w, (y, w) ∈ R → ∃ vs, PathV S a w vs y ∧ vs.Nodup ∧ ∀ v ∈ vs, v ∈ R.map (·.1)
  cl : ∀ (i : Nat) y w, i < at_ → R[i]? = some (y, w) → ∀ n c, (n, y, c) ∈ S → ∃ w', (c, w') ∈ R ∧ w'.length ≤ w.length + 1
  mono : ∀ (i j : Nat) y w z u, i ≤ j → R[i]? = some (y, w) → R[j]? = some (z, u) → w.length ≤ u.length
  bd : ∀ (y : Str) (w : List Nat) z u, R[at_]? = some (y, w) → (z, u) ∈ R → u.length ≤ w.length + 1
def WayR (H : Hp) (kv : Key × V) (yw : Str × List Nat) : Prop := kv.1 = Sum.inr yw.1 ∧ ∃ p, kv.2 = .ref p ∧ H p = some (.lst (yw.2.map fun n : Nat => V.int n))
structure WaysAt (H : Hp) (kvs : List (Key × V)) (R : BR) : Prop where
  len : kvs.length = R.length
  ok : ∀ (i : Nat) kv yw, kvs[i]? = some kv → R[i]? = some yw → WayR H kv yw
end L2
set_option Elab.async false
set_option linter.all false
set_option maxRecDepth 100000
namespace L2
open PySem PySem.Spec PyProof.Rows
@[simp] theorem scal_in (i : Int) : scal (.int i) .non = true := rfl
@[simp] theorem scal_ni (i : Int) : scal .non (.int i) = true := rfl
@[simp] theorem scal_sn (i : Str) : scal (.str i) .non = true := rfl
end L2
namespace L2
open PySem
end L2
namespace L2
open PySem
end L2
set_option Elab.async false
set_option linter.all false
set_option maxRecDepth 100000
set_option maxHeartbeats 2000000
namespace L2
open PySem PySem.Spec PyProof.Rows
section
variable {prog : Program} {w : World} {A : Around} {E : Value → Shared → Prop} {s : Shared}
end
end L2
set_option Elab.async false
set_option linter.all false
set_option maxRecDepth 100000
set_option maxHeartbeats 2000000
set_option Elab.async false
set_option linter.all false
set_option maxRecDepth 100000
set_option maxHeartbeats 2000000
set_option Elab.async false
set_option linter.all false
set_option maxRecDepth 100000
set_option maxHeartbeats 2000000
set_option Elab.async false
set_option linter.all false
set_option maxRecDepth 100000
set_option maxHeartbeats 2000000
set_option Elab.async false
set_option linter.all false
namespace L2
open PySem PySem.Spec PyProof.Rows
structure Nm3 (mg : Str → Option Value) : Prop where
  sum : mg "sum" = none
end L2
set_option Elab.async false
set_option linter.all false
set_option maxRecDepth 100000
set_option maxHeartbeats 2000000
set_option Elab.async false
set_option linter.all false
set_option maxRecDepth 100000
set_option maxHeartbeats 2000000
set_option Elab.async false
set_option linter.all false
set_option maxRecDepth 100000
set_option maxHeartbeats 2000000
set_option Elab.async false
set_option linter.all false
set_option maxRecDepth 100000
set_option maxHeartbeats 2000000
namespace L2
open PySem PySem.Spec PyProof.Rows
def isInt (x : V) (R : Int → Prop) : Prop := match x with | .int i => R i | _ => False
def isStr (x : V) (R : Str → Prop) : Prop := match x with | .str i => R i | _ => False
def isBl (x : V) (R : Bool → Prop) : Prop := match x with | .bl i => R i | _ => False
def isRef (x : V) (R : Addr → Prop) : Prop := match x with | .ref i => R i | _ => False
def isTy (x : V) (R : String → Prop) : Prop := match x with | .ty n => R n | _ => False
def ar0 (xs : List V) (R : Prop) : Prop := match xs with | [] => R | _ => False
def ar1 (xs : List V) (R : V → Prop) : Prop := match xs with | [x] => R x | _ => False
def ar2 (xs : List V) (R : V → V → Prop) : Prop := match xs with | [x, y] => R x y | _ => False
def arH (xs : List V) (R : V → List V → Prop) : Prop := match xs with | x :: r => R x r | [] => False
def getSt : St → Nat → (V → Prop) → Prop
  | [], _, _ => False
  | o :: _, 0, R => match o with | some v => R v | none => False
  | _ :: σ, n + 1, R => getSt σ n R
@[simp ↓] theorem isInt_c (i : Int) R : isInt (.int i) R = R i := rfl
@[simp ↓] theorem isStr_c (i : Str) R : isStr (.str i) R = R i := rfl
@[simp ↓] theorem isBl_c (i : Bool) R : isBl (.bl i) R = R i := rfl
@[simp ↓] theorem isRef_c (i : Addr) R : isRef (.ref i) R = R i := rfl
@[simp ↓] theorem isTy_c (i : String) R : isTy (.ty i) R = R i := rfl
@[simp ↓] theorem ar0_c R : ar0 [] R = R := rfl
@[simp ↓] theorem ar1_c x R : ar1 [x] R = R x := rfl
@[simp ↓] theorem ar2_c x y R : ar2 [x, y] R = R x y := rfl
@[simp ↓] theorem arH_c x r R : arH (x :: r) R = R x r := rfl
@[simp ↓] theorem getSt_z v σ R : getSt (some v :: σ) 0 R = R v := rfl
@[simp ↓] theorem getSt_s o σ n R : getSt (o :: σ) (n + 1) R = getSt σ n R := rfl
theorem isInt.out {x : V} {R} (h : isInt x R) : ∃ i, x = .int i ∧ R i := by cases x <;> first | exact ⟨_, rfl, h⟩ | exact h.elim
theorem isStr.out {x : V} {R} (h : isStr x R) : ∃ i, x = .str i ∧ R i := by cases x <;> first | exact ⟨_, rfl, h⟩ | exact h.elim
theorem isBl.out {x : V} {R} (h : isBl x R) : ∃ i, x = .bl i ∧ R i := by cases x <;> first | exact ⟨_, rfl, h⟩ | exact h.elim
theorem isRef.out {x : V} {R} (h : isRef x R) : ∃ i, x = .ref i ∧ R i := by cases x <;> first | exact ⟨_, rfl, h⟩ | exact h.elim
theorem ar0.out {xs : List V} {R} (h : ar0 xs R) : xs = [] ∧ R := by cases xs <;> first | exact ⟨rfl, h⟩ | exact h.elim
theorem ar1.out {xs : List V} {R} (h : ar1 xs R) : ∃ x, xs = [x] ∧ R x := by
  match xs, h with
  | [x], h => exact ⟨x, rfl, h⟩
theorem ar2.out {xs : List V} {R} (h : ar2 xs R) : ∃ x y, xs = [x, y] ∧ R x y := by
  match xs, h with
  | [x, y], h => exact ⟨x, y, rfl, h⟩
theorem arH.out {xs : List V} {R} (h : arH xs R) : ∃ x r, xs = x :: r ∧ R x r := by cases xs <;> first | exact ⟨_, _, rfl, h⟩ | exact h.elim
theorem getSt.out : ∀ {σ : St} {i : Nat} {R}, getSt σ i R → ∃ v, σ[i]? = some (some v) ∧ R v
  | [], _, _, h => h.elim
  | some v :: _, 0, _, h => ⟨v, rfl, h⟩
  | none :: _, 0, _, h => h.elim
  | _ :: σ, n + 1, R, h => by
    obtain ⟨v, e, q⟩ := getSt.out (σ := σ) (i := n) h
    exact ⟨v, by simpa using e, q⟩
section
variable {X : Cx}
theorem PE.mono {e : Expr} {t t' : TE} (o : PE X e t) (h : ∀ {σ H Q}, t' σ H Q → t σ H Q) : PE X e t' := fun pins s σ H Q I q => o pins s σ H Q I (h q)
theorem PGs.mono {e : List Expr} {t t' : TGs} (o : PGs X e t) (h : ∀ {v σ H Q}, t' v σ H Q → t v σ H Q) : PGs X e t' := fun pins s σ H v u Q I r q => o pins s σ H v u Q I r (h q)
theorem OpR.mono {f : Value → Value → Sem Value} {r r' : R2} (o : OpR X f r) (h : ∀ {x y H Q}, r' x y H Q → r x y H Q) : OpR X f r' := fun pins s σ H x y v u Q I rx ry q => o pins s σ H x y v u Q I rx ry (h q)
theorem CallR.mono {f : Value} {r r' : List V → Hp → VK → Prop} (o : CallR X f r) (h : ∀ {x H Q}, r' x H Q → r x H Q) : CallR X f r' := fun pins s σ H x v Q I rx q => o pins s σ H x v Q I rx (h q)
theorem MtR.mono {f : String} {r r' : V → List V → Hp → VK → Prop} (o : MtR X f r) (h : ∀ {x y H Q}, r' x y H Q → r x y H Q) : MtR X f r' := fun pins s σ H x y v u Q I rx ry q => o pins s σ H x y v u Q I rx ry (h q)
theorem IxR.mono {r r' : R2} (o : IxR X r) (h : ∀ {x y H Q}, r' x y H Q → r x y H Q) : IxR X r' := fun a b pins s σ H x y v u Q I rx ry q z => o a b pins s σ H x y v u Q I rx ry (h q) z
theorem PSet.mono {r r' : TSet} (o : PSet X r) (h : ∀ {x y z H Q}, r' x y z H Q → r x y z H Q) : PSet X r' := fun pins s σ H o' i v ov iv u Q I a b c q => o pins s σ H o' i v ov iv u Q I a b c (h q)
end
def fVar (i : Nat) : TE := fun σ H Q => getSt σ i fun v => Q v H
@[simp ↓] theorem fVar_w (i : Nat) σ H Q : fVar i σ H Q = getSt σ i (fun v => Q v H) := rfl
theorem fVar_t {i : Nat} {σ H Q} (h : fVar i σ H Q) : tVar i σ H Q := getSt.out h
def startL : List Str → List V → St
  | _ :: N, v :: vs => some v :: startL N vs
  | _ :: N, [] => none :: startL N []
  | [], _ => []
@[simp ↓] theorem startL_cc n N v vs : startL (n :: N) (v :: vs) = some v :: startL N vs := rfl
@[simp ↓] theorem startL_cn n N : startL (n :: N) [] = none :: startL N [] := rfl
@[simp ↓] theorem startL_n vs : startL [] vs = [] := by cases vs <;> rfl
theorem startL_eq : ∀ (N : List Str) (vs : List V), vs.length ≤ N.length → startL N vs = start N vs
  | [], [], _ => rfl
  | [], _ :: _, h => by simp at h
  | n :: N, [], _ => by
    rw [startL, startL_eq N [] (by simp)]
    simp [start, List.replicate_succ]
  | n :: N, v :: vs, h => by
    rw [startL, startL_eq N vs (by simpa using h)]
    simp [start]
def fI0 (g : Int → Int → V) : R2 := fun x y H Q => isInt x fun i => isInt y fun j => Q (g i j) H
def fI (C : Int → Int → Prop) (g : Int → Int → V) : R2 := fun x y H Q => isInt x fun i => isInt y fun j => C i j ∧ Q (g i j) H
@[simp ↓] theorem fI0_w g x y H Q : fI0 g x y H Q = (isInt x fun i => isInt y fun j => Q (g i j) H) := rfl
@[simp ↓] theorem fI_w C g x y H Q : fI C g x y H Q = (isInt x fun i => isInt y fun j => C i j ∧ Q (g i j) H) := rfl
theorem fI0_t {g : Int → Int → V} {x y H Q} (h : fI0 g x y H Q) : rI0 g x y H Q := by
  obtain ⟨i, rfl, h1⟩ := isInt.out h; obtain ⟨j, rfl, h2⟩ := isInt.out h1
  exact ⟨i, j, rfl, rfl, h2⟩
theorem fI_t {C} {g : Int → Int → V} {x y H Q} (h : fI C g x y H Q) : rI C g x y H Q := by
  obtain ⟨i, rfl, h1⟩ := isInt.out h; obtain ⟨j, rfl, h2⟩ := isInt.out h1
  exact ⟨i, j, rfl, rfl, h2⟩
def fNe : R2 := fun x y H Q => match x, y with
  | .int i, .int j => ∃ k, decide (i = j) = !k ∧ Q (.bl k) H
  | .str i, .str j => ∃ k, decide (i = j) = !k ∧ Q (.bl k) H
  | .bl i, .bl j => ∃ k, decide (i = j) = !k ∧ Q (.bl k) H
  | x, y => scal x y = true ∧ ∃ k, decide (x = y) = !k ∧ Q (.bl k) H
@[simp ↓] theorem fNe_i i j H Q : fNe (.int i) (.int j) H Q = ∃ k, decide (i = j) = !k ∧ Q (.bl k) H := rfl
@[simp ↓] theorem fNe_s i j H Q : fNe (.str i) (.str j) H Q = ∃ k, decide (i = j) = !k ∧ Q (.bl k) H := rfl
@[simp ↓] theorem fNe_b i j H Q : fNe (.bl i) (.bl j) H Q = ∃ k, decide (i = j) = !k ∧ Q (.bl k) H := rfl
theorem ne_out {b : Bool} {R : Bool → Prop} (h : ∃ k, b = !k ∧ R k) : R (!b) := by
  obtain ⟨k, e, q⟩ := h
  rw [e, Bool.not_not]
  exact q
theorem fNe_t {x y H Q} (h : fNe x y H Q) : rNe x y H Q := by
  unfold fNe at h
  split at h
  · exact ⟨rfl, by simpa using ne_out (R := fun k => Q (.bl k) H) h⟩
  · exact ⟨rfl, by simpa using ne_out (R := fun k => Q (.bl k) H) h⟩
  · exact ⟨rfl, by simpa using ne_out (R := fun k => Q (.bl k) H) h⟩
  · exact ⟨h.1, ne_out (R := fun k => Q (.bl k) H) h.2⟩
def fAddS : R2 := fun x y H Q => isStr x fun i => isStr y fun j => i.length + j.length ≤ sizeLine ∧ Q (.str (i ++ j)) H
@[simp ↓] theorem fAddS_w x y H Q : fAddS x y H Q = (isStr x fun i => isStr y fun j => i.length + j.length ≤ sizeLine ∧ Q (.str (i ++ j)) H) := rfl
theorem fAddS_t {x y H Q} (h : fAddS x y H Q) : rAddS x y H Q := by
  obtain ⟨i, rfl, h1⟩ := isStr.out h; obtain ⟨j, rfl, h2⟩ := isStr.out h1
  exact ⟨i, j, rfl, rfl, h2⟩
def fCat : R2 := fun x y H Q => isRef x fun l => isRef y fun b => ∃ xs, H l = some (.lst xs) ∧ ∃ zs, H b = some (.lst zs) ∧ xs.length + zs.length ≤ sizeLine ∧ ∀ p, H p = none → Q (.ref p) (upd H p (.lst (xs ++ zs)))
@[simp ↓] theorem fCat_w x y H Q : fCat x y H Q = (isRef x fun l => isRef y fun b => ∃ xs, H l = some (.lst xs) ∧ ∃ zs, H b = some (.lst zs) ∧ xs.length + zs.length ≤ sizeLine ∧ ∀ p, H p = none → Q (.ref p) (upd H p (.lst (xs ++ zs)))) := rfl
theorem fCat_t {x y H Q} (h : fCat x y H Q) : rCat x y H Q := by
  obtain ⟨i, rfl, h0⟩ := isRef.out h; obtain ⟨j, rfl, xs, h1, zs, h2, h3⟩ := isRef.out h0
  exact ⟨i, j, xs, zs, rfl, rfl, h1, h2, h3⟩
def fTest (t : TE) : TT := fun σ H Q => t σ H fun x H' => isBl x fun k => Q k H'
@[simp ↓] theorem fTest_w (t : TE) σ H Q : fTest t σ H Q = (t σ H fun x H' => isBl x fun k => Q k H') := rfl
section
variable {X : Cx} {K : PySem.W.Frag} {a b c : Expr} {ta tb tc : TE} {tA : TT} {pos : Pos}
theorem fpv (i : Nat) {x : Str} {pos : Pos} (hN : X.N[i]? = some x := by rfl) (hv : Vis X.env.scope x := by first | exact Or.inl rfl | exact Or.inr (Or.inl rfl) | exact Or.inr (Or.inr rfl)) (hd : (x == ("__debug__" : Str)) = false := by decide)
    (hcd : (x == ("__classdict__" : Str)) = false := by decide) : PE X (.Name x pos) (fVar i) := (pe_var hN hv hd hcd).mono fVar_t
theorem fop_add : OpR X (binaryOp .Add) (fI0 fun i j => .int (i + j)) := op_add.mono fI0_t
theorem fop_sub : OpR X (binaryOp .Sub) (fI0 fun i j => .int (i - j)) := op_sub.mono fI0_t
theorem fop_lt : OpR X (compareOp .Lt) (fI0 fun i j => .bl (decide (i < j))) := op_lt.mono fI0_t
theorem fop_gt : OpR X (compareOp .Gt) (fI0 fun i j => .bl (decide (j < i))) := op_gt.mono fI0_t
theorem fop_ne : OpR X (compareOp .NotEq) fNe := op_ne.mono fNe_t
theorem fop_add_str : OpR X (binaryOp .Add) fAddS := op_add_str.mono fAddS_t
theorem fop_cat : OpR X (binaryOp .Add) fCat := op_cat.mono fCat_t
theorem isBl_ex (x : V) (R : Bool → Prop) : isBl x R = (∃ k, x = .bl k ∧ R k) := propext ⟨isBl.out, fun ⟨k, e, q⟩ => by subst e; exact q⟩
theorem ar2_ex (x : List V) (R : V → V → Prop) : ar2 x R = (∃ k j, x = [k, j] ∧ R k j) := propext ⟨ar2.out, fun ⟨k, j, e, q⟩ => by subst e; exact q⟩
theorem arH_ex (x : List V) (R : V → List V → Prop) : arH x R = (∃ k j, x = k :: j ∧ R k j) := propext ⟨arH.out, fun ⟨k, j, e, q⟩ => by subst e; exact q⟩
theorem fTest_eq (t : TE) : fTest t = tTest t := by
  funext σ H Q
  exact congrArg (t σ H) (funext fun x => funext fun H' => isBl_ex _ _)
theorem fB_eq (t : TE) : fTest t = tB t := by
  funext σ H Q
  exact congrArg (t σ H) (funext fun x => funext fun H' => isBl_ex _ _)
theorem fpt_cmpR {op : CmpOp} {r : R2} (ho : OpR X (compareOp op) r) (ha : PE X a ta) (hb : PE X b tb) (hm : behindInMarks op b = false) : PT X (.Compare a [op] [b] pos) (fTest (tOp r ta tb)) := fTest_eq _ ▸ pt_cmpR ho ha hb hm
theorem fpt_val {e : Expr} {t : TE} (h : PE X e t) (he : ∀ whole, isTrue e X.env whole = (do let v ← whole; standAt e.pos; holding [v] (truthy v)) := by intro _; rfl) : PT X e (fTest t) := fB_eq _ ▸ pt_val h he
end
def fIxQ (K : PySem.W.Frag) : R2 := fun x y H Q => isRef x fun p => isInt y fun i => ∃ xs, (SqL K H p xs ∨ SqT K H p xs) ∧ ∃ v, atI xs i = some v ∧ Q v H
@[simp ↓] theorem fIxQ_w (K : PySem.W.Frag) x y H Q : fIxQ K x y H Q = (isRef x fun p => isInt y fun i => ∃ xs, (SqL K H p xs ∨ SqT K H p xs) ∧ ∃ v, atI xs i = some v ∧ Q v H) := rfl
theorem fIxQ_t {K : PySem.W.Frag} {x y H Q} (h : fIxQ K x y H Q) : rIxQ K x y H Q := by
  obtain ⟨p, rfl, h1⟩ := isRef.out h
  obtain ⟨i, rfl, xs, h2, v, h3, h4⟩ := isInt.out h1
  exact ⟨p, xs, i, v, rfl, rfl, h2, h3, h4⟩
def fIxS  : R2 := fun x y H Q => isStr x fun z => isInt y fun i => z.length ≤ sizeLine ∧ ∃ c, atI z.cps.toList i = some c ∧ Q (.str ⟨#[c]⟩) H
@[simp ↓] theorem fIxS_w  x y H Q : fIxS x y H Q = (isStr x fun z => isInt y fun i => z.length ≤ sizeLine ∧ ∃ c, atI z.cps.toList i = some c ∧ Q (.str ⟨#[c]⟩) H) := rfl
theorem fIxS_t  {x y H Q} (h : fIxS x y H Q) : rIxS x y H Q := by
  obtain ⟨z, rfl, h1⟩ := isStr.out h
  obtain ⟨i, rfl, h2, c, h3, h4⟩ := isInt.out h1
  exact ⟨z, i, c, rfl, rfl, h2, h3, h4⟩
def fLenQ (K : PySem.W.Frag) : List V → Hp → VK → Prop := fun xs H Q => ar1 xs fun x => isRef x fun p => ∃ ys, (SqL K H p ys ∨ SqT K H p ys) ∧ Q (.int ys.length) H
@[simp ↓] theorem fLenQ_w (K : PySem.W.Frag) xs H Q : fLenQ K xs H Q = (ar1 xs fun x => isRef x fun p => ∃ ys, (SqL K H p ys ∨ SqT K H p ys) ∧ Q (.int ys.length) H) := rfl
theorem fLenQ_t {K : PySem.W.Frag} {xs H Q} (h : fLenQ K xs H Q) : rLenQ K xs H Q := by
  obtain ⟨x, rfl, h1⟩ := ar1.out h
  obtain ⟨p, rfl, ys, h2, h3⟩ := isRef.out h1
  exact ⟨p, ys, rfl, h2, h3⟩
def fListOf (K : PySem.W.Frag) : List V → Hp → VK → Prop := fun xs H Q => ar1 xs fun x => isRef x fun p => ∃ ys, (SqL K H p ys ∨ SqT K H p ys) ∧ ∀ l, H l = none → Q (.ref l) (upd H l (.lst ys))
@[simp ↓] theorem fListOf_w (K : PySem.W.Frag) xs H Q : fListOf K xs H Q = (ar1 xs fun x => isRef x fun p => ∃ ys, (SqL K H p ys ∨ SqT K H p ys) ∧ ∀ l, H l = none → Q (.ref l) (upd H l (.lst ys))) := rfl
theorem fListOf_t {K : PySem.W.Frag} {xs H Q} (h : fListOf K xs H Q) : rListOf K xs H Q := by
  obtain ⟨x, rfl, h1⟩ := ar1.out h
  obtain ⟨p, rfl, ys, h2, h3⟩ := isRef.out h1
  exact ⟨p, ys, rfl, h2, h3⟩
def fAppend  : V → List V → Hp → VK → Prop := fun x vs H Q => isRef x fun l => ar1 vs fun y => ∃ xs, H l = some (.lst xs) ∧ xs.length < sizeLine ∧ Q .non (upd H l (.lst (xs ++ [y])))
@[simp ↓] theorem fAppend_w  x vs H Q : fAppend x vs H Q = (isRef x fun l => ar1 vs fun y => ∃ xs, H l = some (.lst xs) ∧ xs.length < sizeLine ∧ Q .non (upd H l (.lst (xs ++ [y])))) := rfl
theorem fAppend_t  {x vs H Q} (h : fAppend x vs H Q) : rAppend x vs H Q := by
  obtain ⟨l, rfl, h1⟩ := isRef.out h
  obtain ⟨y, rfl, xs, h2, h3⟩ := ar1.out h1
  exact ⟨l, xs, y, rfl, rfl, h2, h3⟩
def fNeD (K : PySem.W.Frag) : R2 := fun x y H Q => ∃ d, Is K H d x ∧ ∃ e, Is K H e y ∧ d.canLay0 = true ∧ e.canLay0 = true ∧ d.depth ≤ 64 ∧ ∃ k, PyData.eqv d e = !k ∧ Q (.bl k) H
@[simp ↓] theorem fNeD_w (K : PySem.W.Frag) x y H Q : fNeD K x y H Q = (∃ d, Is K H d x ∧ ∃ e, Is K H e y ∧ d.canLay0 = true ∧ e.canLay0 = true ∧ d.depth ≤ 64 ∧ ∃ k, PyData.eqv d e = !k ∧ Q (.bl k) H) := rfl
theorem fNeD_t {K : PySem.W.Frag} {x y H Q} (h : fNeD K x y H Q) : rNeD K x y H Q := by
  obtain ⟨d, h1, e, h2, h3, h4, h5, h6⟩ := h
  exact ⟨d, e, h1, h2, h3, h4, h5, ne_out (R := fun k => Q (.bl k) H) h6⟩
def fAbs  : List V → Hp → VK → Prop := fun xs H Q => ar1 xs fun x => isInt x fun i => Q (.int (if i < 0 then -i else i)) H
@[simp ↓] theorem fAbs_w  xs H Q : fAbs xs H Q = (ar1 xs fun x => isInt x fun i => Q (.int (if i < 0 then -i else i)) H) := rfl
theorem fAbs_t  {xs H Q} (h : fAbs xs H Q) : (fun xs H Q => ∃ i, xs = [.int i] ∧ Q (.int (if i < 0 then -i else i)) H : List V → Hp → VK → Prop) xs H Q := by
  obtain ⟨x, rfl, h1⟩ := ar1.out h
  obtain ⟨i, rfl, h2⟩ := isInt.out h1
  exact ⟨i, rfl, h2⟩
def fMax2  : List V → Hp → VK → Prop := fun xs H Q => ar2 xs fun x y => isInt x fun i => isInt y fun j => Q (.int (if j > i then j else i)) H
@[simp ↓] theorem fMax2_w  xs H Q : fMax2 xs H Q = (ar2 xs fun x y => isInt x fun i => isInt y fun j => Q (.int (if j > i then j else i)) H) := rfl
theorem fMax2_t  {xs H Q} (h : fMax2 xs H Q) : (fun xs H Q => ∃ i j, xs = [.int i, .int j] ∧ Q (.int (if j > i then j else i)) H : List V → Hp → VK → Prop) xs H Q := by
  obtain ⟨x, y, rfl, h1⟩ := ar2.out h
  obtain ⟨i, rfl, h2⟩ := isInt.out h1
  obtain ⟨j, rfl, h3⟩ := isInt.out h2
  exact ⟨i, j, rfl, h3⟩
def fMin2  : List V → Hp → VK → Prop := fun xs H Q => ar2 xs fun x y => isInt x fun i => isInt y fun j => Q (.int (if j < i then j else i)) H
@[simp ↓] theorem fMin2_w  xs H Q : fMin2 xs H Q = (ar2 xs fun x y => isInt x fun i => isInt y fun j => Q (.int (if j < i then j else i)) H) := rfl
theorem fMin2_t  {xs H Q} (h : fMin2 xs H Q) : (fun xs H Q => ∃ i j, xs = [.int i, .int j] ∧ Q (.int (if j < i then j else i)) H : List V → Hp → VK → Prop) xs H Q := by
  obtain ⟨x, y, rfl, h1⟩ := ar2.out h
  obtain ⟨i, rfl, h2⟩ := isInt.out h1
  obtain ⟨j, rfl, h3⟩ := isInt.out h2
  exact ⟨i, j, rfl, h3⟩
def fDivmod  : List V → Hp → VK → Prop := fun xs H Q => ar2 xs fun x y => isInt x fun i => isInt y fun j => CDiv i j ∧ ∀ p, H p = none → Q (.ref p) (upd H p (.tup [.int (i / j), .int (i % j)]))
@[simp ↓] theorem fDivmod_w  xs H Q : fDivmod xs H Q = (ar2 xs fun x y => isInt x fun i => isInt y fun j => CDiv i j ∧ ∀ p, H p = none → Q (.ref p) (upd H p (.tup [.int (i / j), .int (i % j)]))) := rfl
theorem fDivmod_t  {xs H Q} (h : fDivmod xs H Q) : (fun xs H Q => ∃ i j, xs = [.int i, .int j] ∧ CDiv i j ∧ ∀ p, H p = none → Q (.ref p) (upd H p (.tup [.int (i / j), .int (i % j)])) : List V → Hp → VK → Prop) xs H Q := by
  obtain ⟨x, y, rfl, h1⟩ := ar2.out h
  obtain ⟨i, rfl, h2⟩ := isInt.out h1
  obtain ⟨j, rfl, h3⟩ := isInt.out h2
  exact ⟨i, j, rfl, h3⟩
def fSetL : TSet := fun o i v H Q => isRef o fun p => isInt i fun k => ∃ xs, H p = some (.lst xs) ∧ ∃ j, ixN xs.length k = some j ∧ Q (upd H p (.lst (xs.set j v)))
@[simp ↓] theorem fSetL_w o i v H Q : fSetL o i v H Q = (isRef o fun p => isInt i fun k => ∃ xs, H p = some (.lst xs) ∧ ∃ j, ixN xs.length k = some j ∧ Q (upd H p (.lst (xs.set j v)))) := rfl
theorem fSetL_t {o i v H Q} (h : fSetL o i v H Q) : rSetL o i v H Q := by
  obtain ⟨p, rfl, h1⟩ := isRef.out h
  obtain ⟨k, rfl, xs, h2, j, h3, h4⟩ := isInt.out h1
  exact ⟨p, xs, k, j, rfl, rfl, h2, h3, h4⟩
def fNil : TGs := fun vs σ H Q => ar0 vs (Q σ H)
def fCons (t : TG) (u : TGs) : TGs := fun vs σ H Q => arH vs fun v r => t v σ H fun σ' H' => u r σ' H' Q
def fTup (K : PySem.W.Frag) (n : Nat) (t : TGs) : TG := fun v σ H Q => isRef v fun a => ∃ xs, SqT K H a xs ∧ xs.length = n ∧ t xs σ H Q
@[simp ↓] theorem fNil_w vs σ H Q : fNil vs σ H Q = ar0 vs (Q σ H) := rfl
@[simp ↓] theorem fCons_w t u vs σ H Q : fCons t u vs σ H Q = (arH vs fun v r => t v σ H fun σ' H' => u r σ' H' Q) := rfl
@[simp ↓] theorem fTup_w K n t v σ H Q : fTup K n t v σ H Q = (isRef v fun a => ∃ xs, SqT K H a xs ∧ xs.length = n ∧ t xs σ H Q) := rfl
theorem fNil_t {vs σ H Q} (h : fNil vs σ H Q) : gNil vs σ H Q := ar0.out h
theorem fCons_eq (t : TG) (u : TGs) : fCons t u = gCons t u := by
  funext vs σ H Q
  exact arH_ex _ _
theorem fTup_eq (K : PySem.W.Frag) (n : Nat) (t : TGs) : fTup K n t = gTup K n t := by
  funext v σ H Q
  refine propext ⟨fun h => ?_, fun ⟨a, xs, e, h⟩ => by subst e; exact ⟨xs, h⟩⟩
  obtain ⟨a, rfl, xs, h1⟩ := isRef.out h
  exact ⟨a, xs, rfl, h1⟩
def fPar (i j : Nat) (ta : TA) : TS := fun D σ H => ta σ H fun vs H1 => ar2 vs fun v w => D.nx ((σ.set i (some v)).set j (some w)) H1
@[simp ↓] theorem fPar_w i j ta D σ H : fPar i j ta D σ H = (ta σ H fun vs H1 => ar2 vs fun v w => D.nx ((σ.set i (some v)).set j (some w)) H1) := rfl
theorem fPar_eq (i j : Nat) (ta : TA) : fPar i j ta = tPar i j ta := by
  funext D σ H
  exact congrArg (ta σ H) (funext fun vs => funext fun H1 => ar2_ex _ _)
def fiRng1 (ta : TA) : TI := fun σ H R => ta σ H fun vs H1 => ar1 vs fun v => isInt v fun j => -(2 ^ 62) ≤ j ∧ j < 2 ^ 62 ∧ R (Itr 0 j.toNat) H1
def fiEnum (K : PySem.W.Frag) (t : TA) : TI := fun σ H R => t σ H fun vs H1 => ar1 vs fun x => isRef x fun a => (∃ xs, SqL K H1 a xs) ∧ R (Ite K a) H1
@[simp ↓] theorem fiRng1_w ta σ H R : fiRng1 ta σ H R = (ta σ H fun vs H1 => ar1 vs fun v => isInt v fun j => -(2 ^ 62) ≤ j ∧ j < 2 ^ 62 ∧ R (Itr 0 j.toNat) H1) := rfl
@[simp ↓] theorem fiEnum_w K t σ H R : fiEnum K t σ H R = (t σ H fun vs H1 => ar1 vs fun x => isRef x fun a => (∃ xs, SqL K H1 a xs) ∧ R (Ite K a) H1) := rfl
theorem fiRng1_eq (ta : TA) : fiRng1 ta = iRng1 ta := by
  funext σ H R
  refine congrArg (ta σ H) (funext fun x => funext fun H1 => propext ⟨fun h => ?_, fun ⟨b, e, h⟩ => by subst e; exact h⟩)
  obtain ⟨v, rfl, h1⟩ := ar1.out h
  obtain ⟨i, rfl, h2⟩ := isInt.out h1
  exact ⟨i, rfl, h2⟩
theorem fiEnum_eq (K : PySem.W.Frag) (t : TA) : fiEnum K t = iEnum K t := by
  funext σ H R
  refine congrArg (t σ H) (funext fun x => funext fun H1 => propext ⟨fun h => ?_, fun ⟨a, xs, e, h1, h3⟩ => by subst e; exact ⟨⟨xs, h1⟩, h3⟩⟩)
  obtain ⟨v, rfl, h1⟩ := ar1.out h
  obtain ⟨i, rfl, ⟨xs, h3⟩, h5⟩ := isRef.out h1
  exact ⟨i, xs, rfl, h3, h5⟩
def fCall (sp : Sp) (E : XK) (t : TA) : TE := fun σ H Q => t σ H fun vs H1 => tSp sp vs H1 Q ⟨0⟩ E
@[simp ↓] theorem fCall_w sp E t σ H Q : fCall sp E t σ H Q = (t σ H fun vs H1 => tSp sp vs H1 Q ⟨0⟩ E) := rfl
theorem fCall_eq (sp : Sp) (E : XK) (t : TA) : fCall sp E t = tCall sp [] E t := by
  funext σ H Q
  exact congrArg (t σ H) (funext fun vs => funext fun H1 => by rw [List.append_nil]; rfl)
section
variable {X : Cx} {K : PySem.W.Frag}
theorem PE.eqv {e : Expr} {t t' : TE} (o : PE X e t) (h : t' = t) : PE X e t' := h ▸ o
theorem PS.eqv {e : Stmt} {t t' : TS} (o : PS X e t) (h : t' = t) : PS X e t' := h ▸ o
theorem PG.eqv {e : Expr} {t t' : TG} (o : PG X e t) (h : t' = t) : PG X e t' := h ▸ o
theorem PGs.eqv {e : List Expr} {t t' : TGs} (o : PGs X e t) (h : t' = t) : PGs X e t' := h ▸ o
theorem PI.eqv {tg e : Expr} {t t' : TI} (o : PI X tg e t) (h : t' = t) : PI X tg e t' := h ▸ o
theorem fop_mul : OpR X (binaryOp .Mult) (fI CMul fun i j => .int (i * j)) := op_mul.mono fI_t
theorem fop_fdiv : OpR X (binaryOp .FloorDiv) (fI CDiv fun i j => .int (i / j)) := op_fdiv.mono fI_t
theorem fop_mod : OpR X (binaryOp .Mod) (fI (fun _ j => 0 < j) fun i j => .int (i % j)) := op_mod.mono fI_t
theorem fop_pow : OpR X (binaryOp .Pow) (fI CPow fun i j => .int (i ^ j.toNat)) := op_pow.mono fI_t
theorem fixQk (hK : X.K = K) : IxR X (fIxQ K) := (ixQk hK).mono fIxQ_t
theorem fix_str : IxR X fIxS := ix_str.mono fIxS_t
theorem fopNeD (hK : X.K = K) (hu : X.A.units + 64 < cLine) : OpR X (compareOp .NotEq) (fNeD K) := (opNeDk hK hu).mono fNeD_t
theorem flenQk (hK : X.K = K) : CallR X (.builtin "len") (fLenQ K) := (lenQk hK).mono fLenQ_t
theorem flistOfk (hK : X.K = K) : CallR X (.type "list") (fListOf K) := (listOfk hK).mono fListOf_t
theorem fcall_abs : CallR X (.builtin "abs") fAbs := call_abs.mono fAbs_t
theorem fcall_max2 (hc : X.calm = true) : CallR X (.builtin "max") fMax2 := (call_max2 hc).mono fMax2_t
theorem fcall_min2 (hc : X.calm = true) : CallR X (.builtin "min") fMin2 := (call_min2 hc).mono fMin2_t
theorem fcall_divmod : CallR X (.builtin "divmod") fDivmod := call_divmod.mono fDivmod_t
theorem fmt_append : MtR X "list.append" fAppend := MtR.mono (r := rAppend) mt_append fAppend_t
theorem fset_list : PSet X fSetL := set_list.mono fSetL_t
end
theorem Fun.okL {P : Program} {w : World} {K : PySem.W.Frag} {mg : Str → Option Value} {base : Heap} {x qual : Str} {st : Stmt} {f : Addr} {fd : FuncData} {N ps : List Str} {k : Nat} {sp : Sp} (F : Fun K x qual st f fd) (S : FnScope N ps (defScope st)) (len : ∀ vs H Q E, sp vs H Q E → vs.length = ps.length)
    (hbody : ∀ (cdv : Value) (A : Around) (outer : List Env) (s : Shared) (H : Hp) (vs : List V) (Q : VK) (E : XK), Room k (A.deeper (envOfC qual (defScope st) s.heap.objs.size f cdv)) → sp vs H Q E →
      ∃ t, PSs (cxOf CX0 P w K mg base N qual (defScope st) f cdv A outer s H E).nox (defBody st) t ∧ t { nx := fun _ H' => Q .non H', rt := Q } (startL N vs) H) : FnOk P w K mg base CX0 (k + 1) f fd ps sp := by
  refine F.ok S len fun cdv A outer s H vs Q E hr h => ?_
  obtain ⟨t, h1, h2⟩ := hbody cdv A outer s H vs Q E hr h
  refine ⟨t, h1, ?_⟩
  have hl := len _ _ _ _ h
  have hp : ps.length ≤ N.length := by have := congrArg List.length S.pre; rw [List.length_take] at this; omega
  rw [startL_eq N vs (by omega)] at h2
  exact h2
end L2
set_option Elab.async false
set_option linter.all false
set_option maxRecDepth 100000
set_option maxHeartbeats 2000000
namespace L2
open PySem
end L2
set_option Elab.async false
set_option linter.all false
set_option maxRecDepth 100000
set_option maxHeartbeats 2000000
set_option Elab.async false
set_option linter.all false
set_option maxRecDepth 100000
set_option maxHeartbeats 2000000
namespace L2
open PySem
structure Rch (S : List Stp) (x : Str) (f : List Str) : Prop where
  st : x ∈ f
  nd : f.Nodup
  rt : ∀ y ∈ f, RT (Along S) x y
end L2
set_option Elab.async false
set_option linter.all false
namespace L2
open PySem
theorem z2 {n : Nat} (h : (1 : Int) < n) : 2 ≤ n := by omega
theorem zpa (c : Int) : 0 ≤ if 1000000000000000000 < c then c - 1000000000000000000 else 0 := by split <;> omega
theorem zpb (c : Int) (k : Nat) : 0 ≤ c % 2147483629 + 977 * (k : Int) + 1 := by omega
theorem zpc (c : Int) {k : Nat} (h : k < 100) : c % 2147483629 + 977 * (k : Int) + 1 < 4294967296 := by omega
end L2
set_option Elab.async false
set_option linter.all false
set_option maxRecDepth 100000
set_option maxHeartbeats 4000000
namespace L2
open PySem PySem.Spec PyProof.Rows
mutual
def Thg (H : Hp) : PyData → V → Prop
  | .none, v => v = .non
  | .bool b, v => v = .bl b
  | .int i, v => v = .int i
  | .str x, v => v = .str x
  | .list ds, v => ∃ a xs, v = .ref a ∧ H a = some (.lst xs) ∧ ThgAll H ds xs
  | .tuple ds, v => ∃ a xs, v = .ref a ∧ H a = some (.tup xs) ∧ ThgAll H ds xs
  | .dict kvs, v => kvs = [] ∧ ∃ a, v = .ref a ∧ H a = some (.dK [])
def ThgAll (H : Hp) : List PyData → List V → Prop
  | [], vs => vs = []
  | d :: ds, vs => ∃ v r, vs = v :: r ∧ Thg H d v ∧ ThgAll H ds r
end
mutual
theorem Thg.same {H H' : Hp} (s : Same H H') : ∀ (d : PyData) (v : V), Thg H d v → Thg H' d v
  | .none, v, h => by simp only [Thg] at h ⊢; exact h
  | .bool b, v, h => by simp only [Thg] at h ⊢; exact h
  | .int i, v, h => by simp only [Thg] at h ⊢; exact h
  | .str x, v, h => by simp only [Thg] at h ⊢; exact h
  | .list ds, v, h => by
    simp only [Thg] at h ⊢
    obtain ⟨a, xs, e, h1, h2⟩ := h
    exact ⟨a, xs, e, s _ _ h1, ThgAll.same s ds xs h2⟩
  | .tuple ds, v, h => by
    simp only [Thg] at h ⊢
    obtain ⟨a, xs, e, h1, h2⟩ := h
    exact ⟨a, xs, e, s _ _ h1, ThgAll.same s ds xs h2⟩
  | .dict kvs, v, h => by
    simp only [Thg] at h ⊢
    obtain ⟨e0, a, e, h1⟩ := h
    exact ⟨e0, a, e, s _ _ h1⟩
theorem ThgAll.same {H H' : Hp} (s : Same H H') : ∀ (ds : List PyData) (vs : List V), ThgAll H ds vs → ThgAll H' ds vs
  | [], vs, h => by simp only [ThgAll] at h ⊢; exact h
  | d :: ds, vs, h => by
    simp only [ThgAll] at h ⊢
    obtain ⟨v, r, e, h1, h2⟩ := h
    exact ⟨v, r, e, Thg.same s d v h1, ThgAll.same s ds r h2⟩
end
section
variable {X : Cx} {pins : List (Addr × Obj)} {σ : St} {H : Hp} {s : Shared} {K : PySem.W.Frag}
theorem dict_reads {P : Program} {w : World} {h : Heap} {a : Addr} (ok : HOk P w H h) (e : H a = some (.dK [])) : Reads h (.ref a) (.dict []) [a] ∧ (a == sysModules) = false := by
  obtain ⟨_, hd, vs, kv, o, es, ep, h1, h2, h3, _, h5, _⟩ := dk_of ok e
  refine ⟨?_, hd⟩
  have ev : vs = [] := by cases kv; rfl
  subst ev
  have el : es.toList = [] := by
    generalize es.toList = l at h5
    cases h5
    rfl
  have := Reads.dict (kvs := []) (as := []) (bs := []) h1 h2.1 h3 (by rw [el]; exact .nil) (by rw [el]; exact .nil)
  exact this
mutual
theorem Thg.reads (I : Inv X pins σ H s) : ∀ (d : PyData) (v : V) (u : Value), Thg H d v → RelV v u → ∃ as, Reads s.heap u d as
  | .none, v, u, h, r => by
    simp only [Thg] at h; subst h; cases r; exact ⟨_, .none⟩
  | .bool b, v, u, h, r => by
    simp only [Thg] at h; subst h; cases r; exact ⟨_, .bool b⟩
  | .int i, v, u, h, r => by
    simp only [Thg] at h; subst h; obtain ⟨t, rfl⟩ := r; exact ⟨_, .int i t⟩
  | .str x, v, u, h, r => by
    simp only [Thg] at h; subst h; obtain ⟨t, rfl⟩ := r; exact ⟨_, .str x t⟩
  | .list ds, v, u, h, r => by
    simp only [Thg] at h
    obtain ⟨a, xs, rfl, hq, hs⟩ := h
    cases r
    obtain ⟨its, rv, pl, hz⟩ := I.list (SqL.of hq)
    obtain ⟨o, e, c, n, dt⟩ := pl.isList
    obtain ⟨as, ra⟩ := ThgAll.reads I ds xs its hs rv
    exact ⟨_, .list e c dt (by simpa using ra)⟩
  | .tuple ds, v, u, h, r => by
    simp only [Thg] at h
    obtain ⟨a, xs, rfl, hq, hs⟩ := h
    cases r
    obtain ⟨its, rv, pl, hz⟩ := I.tuple (SqT.of hq)
    obtain ⟨o, e, c, n, dt⟩ := pl
    obtain ⟨as, ra⟩ := ThgAll.reads I ds xs its hs rv
    exact ⟨_, .tuple e c dt (by simpa using ra)⟩
  | .dict kvs, v, u, h, r => by
    simp only [Thg] at h
    obtain ⟨rfl, a, rfl, h1⟩ := h
    cases r
    exact ⟨_, (dict_reads I.hok h1).1⟩
theorem ThgAll.reads (I : Inv X pins σ H s) : ∀ (ds : List PyData) (vs : List V) (us : List Value), ThgAll H ds vs → Vals vs us → ∃ as, ReadsAll s.heap us ds as
  | [], vs, us, h, r => by
    simp only [ThgAll] at h; subst h; cases r; exact ⟨_, .nil⟩
  | d :: ds, vs, us, h, r => by
    simp only [ThgAll] at h
    obtain ⟨v, vr, rfl, h1, h2⟩ := h
    cases r with
    | cons r1 r2 =>
      obtain ⟨as, ra⟩ := Thg.reads I d v _ h1 r1
      obtain ⟨bs, rb⟩ := ThgAll.reads I ds vr _ h2 r2
      exact ⟨_, .cons ra rb⟩
end
end
end L2
set_option Elab.async false
set_option linter.all false
set_option maxRecDepth 100000
set_option maxHeartbeats 4000000
namespace L2
open PySem PySem.Spec PyProof.Rows
end L2
set_option Elab.async false
set_option linter.all false
set_option maxRecDepth 100000
set_option maxHeartbeats 4000000
set_option Elab.async false
set_option linter.all false
set_option maxRecDepth 100000
set_option maxHeartbeats 4000000
namespace L2
open PySem PySem.Spec PyProof.Rows
structure ExcIn (h0 h : Heap) (H : Hp) (a C : Addr) : Prop where
  new : h0.get? a = none
  un : H a = none
  ob : ∃ oe vs, h.get? a = some oe ∧ oe.cls = .ref C ∧ oe.data = .fields vs ∧ vs[2]? = some .none ∧ (vs[1]? = some .none ∨
    ∃ T oT ts, vs[1]? = some (.ref T) ∧ T ≠ a ∧ h0.get? T = none ∧ H T = none ∧ h.get? T = some oT ∧ oT.data = .fields ts ∧ ts[3]? = some .none)
structure ExcT (h0 h : Heap) (H : Hp) (a C T : Addr) : Prop where
  new : h0.get? a = none
  newT : h0.get? T = none
  un : H a = none
  unT : H T = none
  ob : ∃ oe vs oT ts, h.get? a = some oe ∧ oe.cls = .ref C ∧ oe.data = .fields vs ∧ vs[2]? = some .none ∧ vs[1]? = some (.ref T) ∧ T ≠ a ∧ h.get? T = some oT ∧ oT.data = .fields ts ∧ ts[3]? = some .none
theorem hok_lt {P : Program} {w : World} {H : Hp} {h : Heap} (x : HOk P w H h) {b : Addr} (e : h.get? b = none) : H b = none := by
  cases q : H b with
  | none => rfl
  | some u =>
    obtain ⟨o, eo⟩ : ∃ o, h.get? b = some o := by
      have := x b u q
      cases u with
      | lst xs => obtain ⟨_, _, _, _, e⟩ := this; exact ⟨_, e⟩
      | tup xs => obtain ⟨_, _, _, o, e, _⟩ := this; exact ⟨_, e⟩
      | dK kvs => obtain ⟨_, _, _, _, o, _, _, e, _⟩ := this; exact ⟨_, e⟩
      | dT kvs => obtain ⟨_, _, _, _, o, _, _, e, _⟩ := this; exact ⟨_, e⟩
      | set S n => obtain ⟨o, _, _, _, e, _⟩ := this; exact ⟨_, e⟩
      | ins C dx fs => obtain ⟨_, _, _, e, _⟩ := this; exact ⟨_, e⟩
      | own y => obtain ⟨_, e⟩ := this; exact ⟨_, e⟩
      | xd fs => obtain ⟨_, ⟨_, _, _, e, _⟩, _⟩ := this; exact ⟨_, e⟩
      | rng lo hi => obtain ⟨_, _, _, e⟩ := this; exact ⟨_, e⟩
      | frz ob u => obtain ⟨e, _⟩ := this; exact ⟨_, e⟩
      | tbl ps => exact ⟨_, (show h.get? b = some _ from this)⟩
      | met f y => exact ⟨_, (show h.get? b = some _ from this)⟩
      | ext φ => obtain ⟨_, ⟨o, e⟩, _⟩ := this; exact ⟨_, e⟩
    rw [e] at eo
    cases eo
section
variable {X : Cx} {pins : List (Addr × Obj)} {σ : St} {H : Hp} {s : Shared}
theorem Inv.old (I : Inv X pins σ H s) (hex : X.ex = []) {b : Addr} (e : s.heap.get? b = none) : X.s₀.heap.get? b = none := by
  cases q : X.s₀.heap.get? b with
  | none => rfl
  | some o =>
    obtain ⟨o', eo⟩ := I.base.there b o q (by rw [hex]; simp)
    rw [e] at eo
    cases eo
theorem exc_obj {K : PySem.W.Frag} {h : Heap} {C : Addr} {bmB : List Value} {newId : String} (X : K.In h) (q : PySem.W.excIn K C bmB newId = true) :
    ∃ bm N nm q bs hdct sn sub ab col dd k0 k1 k2 k3 k5 mN, h.get? C = some (excClassObj nm q C N bs bm hdct sn sub ab col dd k0 k1 k2 k3 k5 newId) ∧ h.Ns N mN ∧ mN "__init__" = none ∧ OwnTail h bmB bm ∧ ∀ v b, PySem.W.mroIn K C v = some b → (Value.ref C :: bm).contains v = b := by
  unfold PySem.W.excIn at q
  split at q
  · rename_i dd cd sl ho
    split at q
    · rename_i C' bm k0 k1 k2 k3 n k5 hm hs
      simp only [Bool.and_eq_true, beq_iff_eq, Bool.not_eq_true'] at q
      obtain ⟨⟨⟨⟨⟨rfl, rfl⟩, hdel⟩, ht⟩, hok⟩, hni⟩ := q
      obtain ⟨nm, bs, mro, ns, qn, hd, sn, sub, ab, col, del⟩ := cd
      dsimp only at hm hdel hok hni
      subst hm hdel
      obtain rfl : sl = #[k0, k1, k2, k3, some (.builtin n), k5] := by
        obtain ⟨l⟩ := sl
        simp only at hs
        rw [hs]
      exact ⟨bm, ns, nm, qn, bs, hd, sn, sub, ab, col, dd, k0, k1, k2, k3, k5, _, X _ _ ho, .of_isNs (PySem.W.isNs_of_in X hok), PySem.W.nsMap_none_of_in X hok hni, PySem.W.tail_of_in X ht, fun v b e => by
        unfold PySem.W.mroIn PySem.W.clsIn at e
        rw [ho] at e
        simpa using e⟩
    · cases q
  · cases q
abbrev veMro : List Value := [.type "ValueError", .type "Exception", .type "BaseException", .type "object"]
def ExcCls (K : PySem.W.Frag) (C : Addr) : Prop := PySem.W.excIn K C veMro "ValueError.__new__" = true
end
end L2
set_option Elab.async false
set_option linter.all false
set_option maxRecDepth 100000
set_option maxHeartbeats 4000000
namespace L2
open PySem PySem.Spec PySem.W PyProof.Rows
section
variable {prog : Program} {w : World} {A : Around} {E : Value → Shared → Prop} {K : PySem.W.Frag} {h : Heap} {g : Array GenState} {d : Drawn} {t : Nat} {os : OsState} {x C : Addr}
structure ExcLook (K : PySem.W.Frag) (C : Addr) : Prop where
  ga : findIn K (.ref C) "__getattribute__" = some (some (.builtin "BaseException.__getattribute__"))
  gn : findIn K (.ref C) "__getattr__" = some none
  cl : findIn K (.ref C) "__class__" = some (some (.builtin "object.__class__"))
  sp : specialIn K (.builtin "object.__class__") "__get__" = some (some (.builtin "getset_descriptor.__get__"))
  tk : takesIn K (.builtin "object.__class__") = some true
  mo : mroIn K C (.type "object") = some true
  mb : mroIn K C (.type "BaseException") = some true
def ExcAtH (x C : Addr) (h : Heap) : Prop := ∃ ox vs, h.get? x = some ox ∧ ox.cls = .ref C ∧ ox.data = .fields vs ∧ vs[2]? = some .none
theorem ExcAtH.type {M : Model} (e : ExcAtH x C h) : Looks M h (typeOf (.ref x)) (.ref C) := by
  obtain ⟨ox, vs, h1, h2, _⟩ := e
  exact h2 ▸ (Looks.ld h1).andThen .now
theorem exc_get {R : Result → Shared → Prop} {tp : Value} (X : K.In h) (I : ExcAtH x C h) (L : ExcLook K C) (hq : R (.ok (.ret (.ref C))) ⟨h, g, d, t, os⟩) :
    codeAny (model prog w) A (.call (.builtin "getset_descriptor.__get__") ⟨[.builtin "object.__class__", .ref x, tp], []⟩) R ⟨h, g, d, t, os⟩ := by
  have L0 := I.type (M := model prog w)
  have L1 := looks_mroIn (M := model prog w) X L.mo
  have hT5 : (⟨h, g, d, t, os⟩ : Shared).TypeIs (.builtin "object.__class__") "getset_descriptor" := F.typeOf_object_class
  refine codeAny_call_builtin F.slot_gs_get.plain F.entry_gs_get (F.slot_gs_get.check _ _ _ _ _ _ _ _ hT5 (F.args_gs_get _ _ _) ?_)
  repeat (any_goals (first | assumption | with_reducible refine L0.at ?_ | with_reducible refine L1.at ?_ | wp_step))
  rw [show (".".intercalate ("object.__class__".cutAt '.').dropLast) = "object" by decide +kernel]
  refine L1.at ?_
  repeat (any_goals (first | assumption | with_reducible refine L0.at ?_ | wp_step))
  refine ⟨Code.quiet_builtin _ (by decide +kernel), codeAny_builtin KF.entry_class ?_⟩
  unfold Builtin.«object.__class__»
  repeat (any_goals (first | assumption | with_reducible refine L0.at ?_ | wp_step))
theorem exc_entry {tk : Tok} {Q : PySem.Fin → Shared → Prop} (X : K.In h) (I : ExcAtH x C h) (L : ExcLook K C) (hq : Q (.done (.ret (.ref C))) ⟨h, g, d, t, os⟩) :
    wpAny (model prog w) A (Builtin.«object.__getattribute__» ⟨[.ref x, .str "__class__" tk], []⟩) Q E ⟨h, g, d, t, os⟩ := by
  have L0 := I.type (M := model prog w)
  have L1 := looks_findIn (M := model prog w) X L.cl
  have hT5 : (⟨h, g, d, t, os⟩ : Shared).TypeIs (.builtin "object.__class__") "getset_descriptor" := F.typeOf_object_class
  have f5 := F.typeOf_object_class
  have f6 := F.slot_gs_get.lookup
  have f7 := F.slot_gs_set.lookup
  repeat (any_goals (first | assumption | with_reducible refine L0.at ?_ | with_reducible refine L1.at ?_ | wp_step))
  refine exc_get X I L ?_
  repeat (any_goals (first | assumption | wp_step))
theorem exc_check {M : Model} {nameV : Value} {Q : Unit → Shared → Prop} (X : K.In h) (I : ExcAtH x C h) (L : ExcLook K C) (hq : Q () ⟨h, g, d, t, os⟩) :
    wpAny M A (checkBuiltinCall "BaseException.__getattribute__" ⟨[.ref x, nameV], []⟩) Q E ⟨h, g, d, t, os⟩ := by
  have hk : builtinKind "BaseException.__getattribute__" = some .slot := by decide +kernel
  have hs : splitId "BaseException.__getattribute__" = some ("BaseException", "__getattribute__") := by decide +kernel
  have L0 := I.type (M := M)
  have L1 := looks_mroIn (M := M) X L.mb
  have ha := F.args_bexc_ga (.ref x) nameV
  simp only [checkBuiltinCall, hk, hs]
  refine wpAny_bind ?_
  unfold isInstance
  repeat (first | with_reducible refine L0.at ?_ | with_reducible refine L1.at ?_ | wp_step)
  exact hq
theorem exc_by {tk : Tok} {fill : Bool} {Q : Value → Shared → Prop} (X : K.In h) (I : ExcAtH x C h) (L : ExcLook K C) (hq : Q (.ref C) ⟨h, g, d, t, os⟩) :
    wpAny (model prog w) A (getAttrBy (.ref x) (.str "__class__" tk) fill) Q E ⟨h, g, d, t, os⟩ := by
  have L0 := I.type (M := model prog w)
  have L1 := looks_findIn (M := model prog w) X L.ga
  have L2 := looks_findIn (M := model prog w) X L.gn
  have f3 := (F.attrBase_ValueError.ga).bind (.ref x)
  have hx2 : (Value.builtin "BaseException.__getattribute__" == Value.builtin "object.__getattribute__") = false := by decide +kernel
  have hx1 : (onTheHeap (Value.ref C) && Value.builtin "BaseException.__getattribute__" == Value.builtin "object.__getattribute__") = false := by rw [hx2]; rfl
  repeat (any_goals (first | assumption | with_reducible refine L0.at ?_ | with_reducible refine L1.at ?_ | with_reducible refine L2.at ?_ | wp_step))
  refine codeAny_call_builtin F.attrBase_ValueError.ga.plain F.entry_bexc_ga (exc_check X I L (exc_entry X I L ?_))
  repeat (any_goals (first | assumption | wp_step))
theorem exc_class {s : Shared} {Q : Option Value → Shared → Prop} (X : K.In s.heap) (I : ExcAtH x C s.heap) (L : ExcLook K C) (hq : Q (some (.ref C)) { s with toks := s.toks + 1 }) :
    wpAny (model prog w) A (getAttr? (.ref x) "__class__") Q E s := by
  obtain ⟨h, g, d, t, os⟩ := s
  unfold getAttr? getAttrBy?
  repeat (any_goals (first | assumption | with_reducible apply exc_by X I L | wp_step))
end
theorem kitx_exc {K : PySem.W.Frag} {x C : Addr} {cd : ClassData} (hcd : clsIn K C = some cd) (L : ExcLook K C) : KitX K (.ref x) (.ref C) (ExcAtH x C) where
  ty := fun M h _ e => e.type
  it := fun _ _ X _ => by
    unfold clsIn at hcd
    split at hcd
    · rename_i c' d' cd' sl' ho
      intro A' Q' E' s' k q
      unfold isType loadHead
      exact wpAny_bind (wpAny_loadPart (k _ _ (X _ _ ho)) (wpAny_pure q))
    · cases hcd
  ne := fun h tp dd its n sl X htp => by
    refine Bool.eq_false_iff.mpr fun q => ?_
    have e : C = tp := Value.ref.inj (beq_iff_eq.mp q)
    subst e
    unfold clsIn at hcd
    split at hcd
    · rename_i c' d' cd' sl' ho
      have z := (X _ _ ho).symm.trans htp
      cases z
    · cases hcd
  ca := fun X e k => exc_class X e L k
end L2
set_option Elab.async false
set_option linter.all false
set_option maxRecDepth 100000
set_option maxHeartbeats 4000000
namespace L2
open PySem PySem.Spec PyProof.Rows
section
variable {X : Cx} {pins : List (Addr × Obj)} {σ : St} {H : Hp} {s : Shared}
end
end L2
set_option Elab.async false
set_option linter.all false
set_option maxRecDepth 100000
set_option maxHeartbeats 4000000
namespace L2
open PySem PySem.Spec PyProof.Rows
end L2
set_option Elab.async false
set_option linter.all false
set_option maxRecDepth 100000
set_option maxHeartbeats 4000000
namespace L2
open PySem PySem.Spec PyProof.Rows
section
variable {X : Cx} {pins : List (Addr × Obj)} {σ : St} {H : Hp} {s : Shared} {a : Addr}
end
def ExcAsk (K : PySem.W.Frag) (C : Addr) : Prop := ExcLook K C ∧ ∃ cd, PySem.W.clsIn K C = some cd
def kitE (K : PySem.W.Frag) (C : Addr) : V → Option Bool
  | .ref D => PySem.W.kitOne K (.ref C) (.ref D)
  | .ty n => PySem.W.kitOne K (.ref C) (.type n)
  | _ => none
end L2
set_option Elab.async false
set_option linter.all false
set_option maxRecDepth 100000
set_option maxHeartbeats 4000000
namespace L2
open PySem PySem.Spec PyProof.Rows
theorem boot_ve : bootBuiltins "ValueError" = some (.type "ValueError") := by decide +kernel
end L2
set_option Elab.async false
set_option linter.all false
set_option maxRecDepth 100000
set_option maxHeartbeats 4000000
namespace L2
open PySem PySem.Spec PyProof.Rows
inductive Lf : V → PyData → Prop
  | non : Lf .non .none
  | bl (b) : Lf (.bl b) (.bool b)
  | int (i) : Lf (.int i) (.int i)
  | str (x) : Lf (.str x) (.str x)
inductive LfAll : List (Str × V) → List (PyData × PyData) → Prop
  | nil : LfAll [] []
  | cons {x v d ks kvs} : Lf v d → LfAll ks kvs → LfAll ((x, v) :: ks) ((.str x, d) :: kvs)
section
variable {X : Cx} {pins : List (Addr × Obj)} {σ : St} {H : Hp} {s : Shared}
inductive Shw (H : Hp) : PyData → V → Prop
  | thg {d v} : Thg H d v → d.hasDict = false → Shw H d v
  | dic {a ks kvs} : LfAll ks kvs → H a = some (.dK (ks.map fun e => ((Sum.inr e.1 : Key), e.2))) → Shw H (.dict kvs) (.ref a)
end
structure Sml (k n : Nat) (d : PyData) : Prop where
  sh : d.showable = true
  dp : d.depth ≤ k
  ln : d.shown.length ≤ n
end L2
set_option Elab.async false
set_option linter.all false
set_option maxRecDepth 100000
set_option maxHeartbeats 4000000
set_option Elab.async false
set_option linter.all false
set_option maxRecDepth 100000
set_option maxHeartbeats 4000000
namespace L2
open PySem PySem.Spec
section
variable {σ : St} {H : Hp} {p : Addr}
theorem getSt.of : ∀ {σ : St} {i : Nat} {v : V} {R : V → Prop}, σ[i]? = some (some v) → R v → getSt σ i R
  | [], _, _, _, h, _ => by simp at h
  | o :: _, 0, v, R, h, r => by simp at h; subst h; exact r
  | _ :: σ, n + 1, v, R, h, r => getSt.of (σ := σ) (i := n) (by simpa using h) r
variable {φ : PyData → Prop}
structure big (t : TE) (σ : St) (H : Hp) (Q : VK) : Prop where
  out : t σ H Q
theorem pe_big {X : Cx} {e : Expr} {t : TE} (h : PE X e t) : PE X e (big t) := PE.mono h fun h => h.out
end
end L2
set_option Elab.async false
set_option linter.all false
set_option maxRecDepth 100000
set_option maxHeartbeats 4000000
namespace L2
open PySem PySem.Spec PySem.W PyProof.Rows
section
variable {prog : Program} {w : World} {A : Around} {E : Value → Shared → Prop} {K : PySem.W.Frag} {h : Heap} {g : Array GenState} {d : Drawn} {t : Nat} {os : OsState}
variable {nm q : Str} {C N : Addr} {bs bm : List Value} {hdct : Bool} {sn : List Str} {sub : List Value} {ab : Bool} {col : Option Bool} {dd : Option Addr} {k0 k1 k2 k3 k5 : Option Value}
theorem vx_type_call {rest : List Value} {f : Addr} {Q : PySem.Fin → Shared → Prop} (X : K.In h) (T : OwnTail h veMro bm) (hi : findIn K (.ref C) "__init__" = some (some (.ref f))) (hf : typeIn K (.ref f) = some (.type "function"))
    (hC : h.get? C = some (excClassObj nm q C N bs bm hdct sn sub ab col dd k0 k1 k2 k3 k5 "ValueError.__new__"))
    (hq : ∀ h' e, Heap.MadeExcOf h h' e (.ref C) rest → wpAny (model prog w) A (call (.ref f) (.ref e :: rest)) (fun r s' => r = .none ∧ Q (.done (.ret (.ref e))) s') E ⟨h', g, d, t, os⟩) (hz : rest.length ≤ sizeLine) :
    wpAny (model prog w) A (Builtin.«type.__call__» ⟨.ref C :: rest, []⟩) Q E ⟨h, g, d, t, os⟩ := by
  have F := PySem.F.excBase_ValueError
  repeat (first | with_reducible refine wpAny_loadPart_at hC ?_ | with_reducible refine wpAny_madeBy_exc hC ?_ | wp_step)
  refine codeAny_call_builtin_code (Code.quiet_builtin _ F.quiet) (wpAny_check_new_subT F T hC (codeAny_exc_new_subT F T hC ?_ hz))
  show wpAny _ _ _ _ _ _
  generalize hG : (h.push { cls := .type "tuple", data := .seq rest.toArray }).push { cls := .ref C, data := .fields #[.ref h.objs.size, .none, .none, .none, .bool false, .none] } = G
  have kp : ∀ b o, h.get? b = some o → G.get? b = some o := fun b o e => by
    rw [← hG]
    exact Heap.get?_push_of_some _ (Heap.get?_push_of_some _ e)
  have hget : G.get? (h.objs.size + 1) = some { cls := .ref C, data := .fields #[.ref h.objs.size, .none, .none, .none, .bool false, .none] } := by
    rw [← hG]
    heap_get
  have hT : G.get? h.objs.size = some { cls := .type "tuple", data := .seq rest.toArray } := by
    rw [← hG]
    exact Heap.get?_push_of_some _ (Heap.get?_push_at rfl rfl)
  have X1 : K.In G := fun b o e => kp b o (X b o e)
  have hC1 := kp _ _ hC
  have hcC : (Value.ref C :: bm).contains (.ref C) = true := by simp
  unfold isInstance
  repeat (first | with_reducible refine wpAny_loadPart_at hget ?_ | (with_reducible refine wpAny_isSubtype_exc hC1 ?_; rw [hcC]) | wp_step)
  show wpAny _ _ (typeLookup (.ref C) _) _ _ _
  refine (looks_findIn (M := model prog w) X1 hi).at ?_
  refine wpAny_holding (wpAny_bind ?_)
  unfold bindSpecial
  refine wpAny_bind ((looks_typeIn (M := model prog w) X1 hf).at ?_)
  rw [if_pos (by decide)]
  refine wpAny_pure (wpAny_bind (wpAny_mono (hq G (h.objs.size + 1) ⟨kp, Heap.get?_none_of_le (Nat.le_succ _), h.objs.size, hget, Heap.get?_none_of_le (Nat.le_refl _), hT⟩) (fun r s' hr => ?_) fun _ _ x => x))
  obtain ⟨rfl, hQ⟩ := hr
  wp_walk
  exact hQ
theorem vx_call {rest : List Value} {f : Addr} {Q : Value → Shared → Prop} (X : K.In h) (T : OwnTail h veMro bm) (hi : findIn K (.ref C) "__init__" = some (some (.ref f))) (hf : typeIn K (.ref f) = some (.type "function"))
    (hC : h.get? C = some (excClassObj nm q C N bs bm hdct sn sub ab col dd k0 k1 k2 k3 k5 "ValueError.__new__"))
    (hq : ∀ h' e, Heap.MadeExcOf h h' e (.ref C) rest → wpAny (model prog w) (A.under (.builtin "type.__call__" ⟨.ref C :: rest, []⟩)) (call (.ref f) (.ref e :: rest)) (fun r s' => r = .none ∧ Q (.ref e) s') E ⟨h', g, d, t, os⟩) (hz : rest.length ≤ sizeLine) :
    wpAny (model prog w) A (call (.ref C) rest) Q E ⟨h, g, d, t, os⟩ := by
  have f1 := tc_lookup
  have f2 := tc_bind (.ref C)
  have hT : (⟨h, g, d, t, os⟩ : Shared).TypeIs (.ref C) "type" := ⟨_, hC, rfl⟩
  refine wpAny_call (codeAny_of_tree ?_)
  show wpAny _ _ (callAny (.ref C) _) _ _ _
  repeat (any_goals (first | assumption | with_reducible refine wpAny_loadPart_at hC ?_ | wp_step))
  refine ⟨rfl, codeAny_call_builtin_at (Code.quiet_builtin _ (by decide +kernel)) entry_typeCall (wpAny_check_type_call_sub hC (vx_type_call X T hi hf hC (fun h' e hm => ?_) hz))⟩
  exact hq h' e hm
theorem vx_init {rest : List Value} {e t0 : Addr} {oe : Obj} {vs : Array Value} {Q : Value → Shared → Prop} (T : OwnTail h veMro bm)
    (hC : h.get? C = some (excClassObj nm q C N bs bm hdct sn sub ab col dd k0 k1 k2 k3 k5 "ValueError.__new__")) (he : h.get? e = some oe) (hc : oe.cls = .ref C) (hd : oe.data = .fields vs) (h0 : vs[0]? = some (.ref t0))
    (hq : ∀ h' t1, (∀ b o, b ≠ e → h.get? b = some o → h'.get? b = some o) → h'.get? e = some { oe with data := .fields (vs.setIfInBounds 0 (.ref t1)) } → Q .none ⟨h', g, d, t, os⟩) (hz : rest.length ≤ sizeLine) :
    wpAny (model prog w) A (call (.builtin "ValueError.__init__") (.ref e :: rest)) Q E ⟨h, g, d, t, os⟩ := by
  have F := PySem.F.excBase_ValueError
  refine wpAny_call (codeAny_call_builtin F.init.plain F.initEntry (wpAny_check_init_subT F T hC he hc ?_))
  have he1 : (h.push { cls := .type "tuple", data := .seq rest.toArray }).get? e = some oe := Heap.get?_push_of_some _ he
  unfold Builtin.«BaseException.__init__» Builtin.BaseException.bexcPut
  repeat (first | with_reducible refine wpAny_field he1 hd h0 ?_ | with_reducible refine wpAny_setField he1 hd (Array.getElem?_eq_some_iff.mp h0).1 ?_ | wp_step)
  have d3 := Obj.data_mapFields hd (·.setIfInBounds 0 (Value.ref h.objs.size))
  refine hq _ h.objs.size (fun b o hb z => ?_) ?_
  · rw [Heap.get?_update_other _ _ (Ne.symm hb)]
    exact Heap.get?_push_of_some _ z
  · refine (Heap.get?_update_self _ he1 (Obj.isFreed_of_fields d3)).trans (congrArg some ?_)
    obtain ⟨c, dct, dat, sl⟩ := oe
    cases hd
    rfl
def ExcN (x C : Addr) (od : Option Addr) (h : Heap) : Prop := ∃ ox vs t0, h.get? x = some ox ∧ ox.cls = .ref C ∧ ox.data = .fields vs ∧ vs[0]? = some (.ref t0) ∧ vs[1]? = some .none ∧ vs[2]? = some .none ∧ ox.dict = od
theorem ExcN.at {x C : Addr} {od : Option Addr} {h : Heap} (e : ExcN x C od h) : ExcAtH x C h := by
  obtain ⟨ox, vs, t0, h1, h2, h3, _, _, h5, _⟩ := e
  exact ⟨ox, vs, h1, h2, h3, h5⟩
structure ExcGet (K : PySem.W.Frag) (C : Addr) : Prop where
  ga : findIn K (.ref C) "__getattribute__" = some (some (.builtin "BaseException.__getattribute__"))
  gn : findIn K (.ref C) "__getattr__" = some none
  mb : mroIn K C (.type "BaseException") = some true
  hd : hasDictIn K C = true
theorem vx_check {M : Model} {x : Addr} {nameV : Value} {Q : Unit → Shared → Prop} (X : K.In h) (I : ExcAtH x C h) (hb : mroIn K C (.type "BaseException") = some true) (hq : Q () ⟨h, g, d, t, os⟩) :
    wpAny M A (checkBuiltinCall "BaseException.__getattribute__" ⟨[.ref x, nameV], []⟩) Q E ⟨h, g, d, t, os⟩ := by
  have hk : builtinKind "BaseException.__getattribute__" = some .slot := by decide +kernel
  have hs : splitId "BaseException.__getattribute__" = some ("BaseException", "__getattribute__") := by decide +kernel
  have L0 := I.type (M := M)
  have L1 := looks_mroIn (M := M) X hb
  have ha := F.args_bexc_ga (.ref x) nameV
  simp only [checkBuiltinCall, hk, hs]
  refine wpAny_bind ?_
  unfold isInstance
  repeat (first | with_reducible refine L0.at ?_ | with_reducible refine L1.at ?_ | wp_step)
  exact hq
theorem vx_look {x dx : Addr} {mA : Str → Option Value} (e : ExcN x C (some dx) h) (hn : h.Ns1 dx mA) : ∃ ox od, PySem.W.InstAt h x ox C (some od) ∧ ∀ name, PySem.W.lookIn name od = some (mA name) := by
  obtain ⟨ox, vs, t0, h1, h2, h3, _, _, _, h6⟩ := e
  obtain ⟨od, ho, hl⟩ := lookIn_ns hn
  refine ⟨ox, od, ⟨h1, h2, ?_, ?_⟩, hl⟩
  · unfold PySem.W.notCls
    rw [h3]
  · rw [h6]
    exact ho
theorem vx_get {x dx : Addr} {mA : Str → Option Value} {name : Str} {v : Value} {expr : Bool} {Q : Value → Shared → Prop} {s : Shared} (X : K.In s.heap) (e : ExcN x C (some dx) s.heap) (hn : s.heap.Ns1 dx mA) (G : ExcGet K C) (ha : findIn K (.ref C) name = some none)
    (hv : mA name = some v) (hv' : handedIn v = true) (h : Q v { s with toks := s.toks + 1 }) : wpAny (model prog w) A (getAttr (.ref x) name expr) Q E s := by
  obtain ⟨ox, od, I, hl⟩ := vx_look e hn
  obtain ⟨hp, g, d, t, os⟩ := s
  dsimp only at X e hn h I
  have hf : findObj K C (some od) name = some (.value v) := findObj_own G.hd ha rfl (by rw [hl, hv])
  have L0 := I.type (M := model prog w)
  have L1 := looks_findIn (M := model prog w) X G.ga
  have L2 := looks_findIn (M := model prog w) X G.gn
  have L3 := looks_find (M := model prog w) X I hf
  have f3 := (F.attrBase_ValueError.ga).bind (.ref x)
  have hx2 : (Value.builtin "BaseException.__getattribute__" == Value.builtin "object.__getattribute__") = false := by decide +kernel
  have hx1 : (onTheHeap (Value.ref C) && Value.builtin "BaseException.__getattribute__" == Value.builtin "object.__getattribute__") = false := by rw [hx2]; rfl
  unfold getAttr getAttrBy
  repeat (any_goals (first | assumption | with_reducible refine L0.at ?_ | with_reducible refine L1.at ?_ | with_reducible refine L2.at ?_ | wp_step))
  rw [show (expr && onTheHeap (Value.builtin "BaseException.__getattribute__")) = false from Bool.and_false _, if_neg (by decide)]
  unfold boundAndCalled
  rw [f3]
  refine wpAny_bind (wpAny_pure ?_)
  show wpAny _ _ (call (.builtin "BaseException.__getattribute__") [.ref x, .str name t]) _ _ _
  refine wpAny_call (codeAny_call_builtin F.attrBase_ValueError.ga.plain F.entry_bexc_ga (vx_check X e.at G.mb ?_))
  repeat (any_goals (first | assumption | with_reducible refine L0.at ?_ | with_reducible refine L3.at ?_ | wp_step))
  show wpAny _ _ (handedOut v) _ _ _
  rw [handedOut_of hv']
  exact wpAny_pure h
structure ExcSet (K : PySem.W.Frag) (C PE : Addr) : Prop where
  sa : findIn K (.ref C) "__setattr__" = some (some (.builtin "object.__setattr__"))
  mo : mroIn K C (.type "object") = some true
  cl : ∃ cd, clsIn K C = some cd ∧ cd.mro = .ref C :: .ref PE :: veMro ∧ cd.hasDict = true
theorem vx_osa {x PE : Addr} {name : Str} {tk : Tok} {v : Value} {R : Result → Shared → Prop} (X : K.In h) (I : ExcAtH x C h) (S : ExcSet K C PE) (ha : findIn K (.ref C) name = some none)
    (hq : wpAny (model prog w) A.in1 (Builtin.ObjectAttr.storeInOwnDict (.ref x) (.ref C) (.str name tk) name v false)
      (fun fin s' => match fin with | .done f => R (.ok f) s' | .again c' => c'.quiet = true ∧ codeAny (model prog w) A c' R s') (fun e s' => R (.error e) s') ⟨h, g, d, t, os⟩) :
    codeAny (model prog w) A (.call (.builtin "object.__setattr__") ⟨[.ref x, .str name tk, v], []⟩) R ⟨h, g, d, t, os⟩ := by
  have SF := PySem.F.store_object
  obtain ⟨cd, hc, hm, _⟩ := S.cl
  have L0 := I.type (M := model prog w)
  have sub : Looks (model prog w) h (isInstance (.ref x) (.type "object")) true := L0.andThen (looks_mroIn X S.mo)
  refine codeAny_call_builtin SF.slot.plain SF.entry (@check_slot (model prog w) _ _ ⟨h, g, d, t, os⟩ "object.__setattr__" "object" "__setattr__" (.ref x) [.str name tk, v] [] _ SF.kind SF.split sub (SF.args (.ref x) (.str name tk) v) ?_)
  have Lm : Looks (model prog w) h (mroOf (.ref C)) cd.mro := (looks_clsIn X hc).andThen .now
  rw [osa_eq, refuse_eq]
  refine wpAny_bind (wpAny_bind (Looks.here (s := ⟨h, g, d, t, os⟩) L0 (wpAny_bind (Looks.here (s := ⟨h, g, d, t, os⟩) Lm ?_))))
  rw [hm, refuseLoop_ref, refuseLoop_ref, PySem.F.store_ValueError.passes]
  exact wpAny_pure (wpAny_bind (Looks.here (s := ⟨h, g, d, t, os⟩) L0 (wpAny_bind (Looks.here (s := ⟨h, g, d, t, os⟩) (looks_findIn X ha) (wpAny_bind (wpAny_pure hq))))))
theorem vx_set {x PE : Addr} {name : Str} {v : Value} {Q : Unit → Shared → Prop} {s : Shared} (X : K.In s.heap) (I : ExcAtH x C s.heap) (S : ExcSet K C PE) (ha : findIn K (.ref C) name = some none)
    (hq : ∀ A' : Around, wpAny (model prog w) A' (Builtin.ObjectAttr.storeInOwnDict (.ref x) (.ref C) (.str name s.toks) name v false) (fun fin s' => fin = .done (.ret .none) ∧ Q () s') (fun e s' => False) { s with toks := s.toks + 1 }) :
    wpAny (model prog w) A (setAttr (.ref x) name v) Q E s := by
  have L0 := I.type (M := model prog w)
  refine wpAny_bind (wpAny_mkText (wpAny_bind (wpAny_bind (wpAny_bind (L0 _ _ _ _ (fun _ _ e => e) (looks_findIn X S.sa _ _ _ _ (fun _ _ e => e) (wpAny_holding ?_)))))))
  rw [PySem.F.store_object.slot.bind]
  refine wpAny_bind (wpAny_pure (wpAny_bind (wpAny_call (codeAny_mono (vx_osa (A := A) (tk := s.toks) (v := v) (R := fun r s' => match r with | .ok (.ret _) => Q () s' | .ok _ => False | .error e => False) X I S ha (wpAny_mono (hq _) (fun fin s' z => ?_) fun e s' z => z)) fun r s' z => ?_))))
  · obtain ⟨rfl, z⟩ := z
    exact z
  · rcases r with e | (v | _ | _ | _) <;> first | exact z.elim | exact wpAny_pure (wpAny_pure z)
theorem vx_put1 {x dx : Addr} {ns : List Str} {mA : Str → Option Value} {name : Str} {tk : Tok} {v : Value} {Q : PySem.Fin → Shared → Prop} {cd : ClassData} (X : K.In h) (e : ExcN x C (some dx) h) (hn : h.Ns1 dx mA) (hc : clsIn K C = some cd) (hd : cd.hasDict = true)
    (hw : PySem.Within mA ns) (hsz : ns.length ≤ sizeLine) (hq : ∀ h' t', h'.Ns1 dx (fun y => if y = name then some v else mA y) → Heap.SameBut dx h h' → Q (.done (.ret .none)) ⟨h', g, d, t', os⟩) :
    wpAny (model prog w) A (Builtin.ObjectAttr.storeInOwnDict (.ref x) (.ref C) (.str name tk) name v false) Q E ⟨h, g, d, t, os⟩ := by
  obtain ⟨ox, vs, t0, h1, h2, h3, _, _, _, h6⟩ := e
  obtain ⟨oc, odi, oda, osl⟩ := ox
  cases h2
  cases h3
  cases h6
  refine wpAny_bind (wpAny_pure (wpAny_bind (wpAny_bind (wpAny_loadPart h1 (wpAny_bind (Looks.here (s := ⟨h, g, d, t, os⟩) (looks_clsIn X hc) ?_))))))
  rw [hd]
  refine wpAny_pure (a := some dx) (wpAny_bind (wpAny_pure (wpAny_bind ?_)))
  refine wpAny_nsSet1 (s := ⟨h, g, d, t, os⟩) hn fun h' hn2 hs2 => ?_
  obtain ⟨oD, esD, epD, hoD, hdD, hcD⟩ := hn2.count (PySem.Within.cons name v hw)
  refine wpAny_bind (wpAny_lookBehind hoD (by rw [hdD]; exact pastItsLine_dict (Nat.le_trans hcD (by rw [List.length_cons]; omega))) ?_)
  exact wpAny_pure (hq _ _ hn2 hs2)
theorem vx_put0 {x : Addr} {name : Str} {tk : Tok} {v : Value} {Q : PySem.Fin → Shared → Prop} {cd : ClassData} (X : K.In h) (e : ExcN x C none h) (hc : clsIn K C = some cd) (hd : cd.hasDict = true)
    (hq : ∀ h' t', h'.Ns1 h.objs.size (fun y => if y = name then some v else none) → (∀ b o, b ≠ x → h.get? b = some o → h'.get? b = some o) → ExcN x C (some h.objs.size) h' → Q (.done (.ret .none)) ⟨h', g, d, t', os⟩) :
    wpAny (model prog w) A (Builtin.ObjectAttr.storeInOwnDict (.ref x) (.ref C) (.str name tk) name v false) Q E ⟨h, g, d, t, os⟩ := by
  obtain ⟨ox, vs, t0, h1, h2, h3, h40, h41, h42, h6⟩ := e
  obtain ⟨oc, odi, oda, osl⟩ := ox
  cases h2
  cases h3
  cases h6
  refine wpAny_bind (wpAny_pure (wpAny_bind (wpAny_bind (wpAny_loadPart h1 (wpAny_bind (Looks.here (s := ⟨h, g, d, t, os⟩) (looks_clsIn X hc) ?_))))))
  rw [hd, if_neg (by decide)]
  show wpAny _ _ (if (!true || !typeHasDict (Value.ref C)) = true then pure none else _) _ _ _
  rw [if_neg (by simp [typeHasDict])]
  have hxs : x ≠ h.objs.size := Nat.ne_of_lt (Heap.lt_size h1)
  have h1' : (h.push { cls := .type "dict", data := .dict #[] }).get? x = some ⟨.ref C, none, .fields vs, osl⟩ := Heap.get?_push_of_some _ h1
  refine wpAny_bind (wpAny_alloc' ?_)
  refine wpAny_bind (wpAny_update' h1' ?_)
  refine wpAny_pure ?_
  generalize hG : ((h.push { cls := .type "dict", data := .dict #[] }).update x fun o => { cls := o.cls, dict := some h.objs.size, data := o.data, slots := o.slots }) = G
  have g1 : G.get? h.objs.size = some { cls := .type "dict", data := .dict #[] } := by
    rw [← hG]
    exact (Heap.get?_update_ne _ _ _ _ hxs.symm).trans (Heap.get?_push_at rfl rfl)
  have g2 : G.get? x = some ⟨.ref C, some h.objs.size, .fields vs, osl⟩ := by
    rw [← hG]
    exact Heap.get?_update_self _ h1' rfl
  have g3 : ∀ b o, b ≠ x → h.get? b = some o → G.get? b = some o := fun b o hb z => by
    rw [← hG]
    exact (Heap.get?_update_ne _ _ _ _ hb).trans (Heap.get?_push_of_some _ z)
  have hnd : G.Ns h.objs.size (fun _ => none) := ⟨_, #[], _, g1, rfl, fun e he => absurd he (by simp), fun _ => rfl⟩
  show wpAny _ _ (Builtin.ObjectAttr.storeInDict h.objs.size (.str name tk) name v) _ _ _
  unfold Builtin.ObjectAttr.storeInDict Builtin.ObjectAttr.newKeyGuard
  refine wpAny_bind (wpAny_pure (wpAny_bind (wpAny_nsSet1 (Heap.Ns1.of_empty hnd) fun h' hn' hs => ?_)))
  obtain ⟨oD, esD, epD, hoD, hdD, hcD⟩ := hn'.count (Within.cons name v Within.nil)
  refine wpAny_bind (wpAny_lookBehind hoD (by rw [hdD]; exact pastItsLine_dict (Nat.le_trans hcD (by rw [List.length_cons, List.length_nil, sizeLine_eq]; omega))) ?_)
  exact wpAny_pure (hq _ _ hn' (fun b o hb z => (hs.2 b (Nat.ne_of_lt (Heap.lt_size z))).trans (g3 b o hb z)) ⟨_, vs, t0, (hs.2 x hxs).trans g2, rfl, rfl, h40, h41, h42, rfl⟩)
end
end L2
set_option Elab.async false
set_option linter.all false
set_option maxRecDepth 100000
set_option maxHeartbeats 4000000
namespace L2
open PySem PySem.Spec PyProof.Rows
def excN (x C : Addr) (od : Option Addr) : HO := .ext fun h => ExcN x C od h
def dicE (dx : Addr) (fs : List (Str × V)) : HO := .ext fun h => fs.length ≤ 1000 ∧ ∃ mA, h.Ns1 dx mA ∧ (∀ f, RelO (fs.lookup f) (mA f)) ∧ PySem.Within mA (fs.map (·.1))
section
variable {P : Program} {w : World} {H : Hp} {h : Heap} {x C dx : Addr} {od : Option Addr} {fs : List (Str × V)}
theorem excN_ok (e : ExcN x C od h) : ObjOk P w H h x (excN x C od) := by
  obtain ⟨ox, vs, t0, h1, h2⟩ := id e
  exact ⟨e, ⟨ox, h1⟩, fun g1 g2 ⟨ox, vs, t0, a1, a2⟩ k => ⟨ox, vs, t0, k _ a1, a2⟩⟩
theorem excN_at (ok : HOk P w H h) (e : H x = some (excN x C od)) : ExcN x C od h := ((show ObjOk P w H h x (excN x C od) from ok _ _ e)).1
theorem dicE_ok {mA : Str → Option Value} (hl : fs.length ≤ 1000) (hn : h.Ns1 dx mA) (hr : ∀ f, RelO (fs.lookup f) (mA f)) (hw : PySem.Within mA (fs.map (·.1))) : ObjOk P w H h dx (dicE dx fs) := by
  obtain ⟨o, es, ep, h1, h2⟩ := id hn
  exact ⟨⟨hl, mA, hn, hr, hw⟩, ⟨o, h1⟩, fun g1 g2 ⟨c, mB, ⟨o, es, ep, a1, a2⟩, b⟩ k => ⟨c, mB, ⟨o, es, ep, k _ a1, a2⟩, b⟩⟩
theorem dicE_at (ok : HOk P w H h) (e : H dx = some (dicE dx fs)) : fs.length ≤ 1000 ∧ ∃ mA, h.Ns1 dx mA ∧ (∀ f, RelO (fs.lookup f) (mA f)) ∧ PySem.Within mA (fs.map (·.1)) := ((show ObjOk P w H h dx (dicE dx fs) from ok _ _ e)).1
theorem upd_id {o : HO} (e : H x = some o) : upd H x o = H := funext fun b => by
  by_cases hb : b = x
  · subst hb; rw [upd_same, e]
  · rw [upd_ne hb]
end
section
variable {X : Cx} {pins : List (Addr × Obj)} {σ : St} {H : Hp} {s : Shared}
theorem Inv.trackF {a : Addr} {ob : HO} (I : Inv X pins σ H s) (hex : X.ex = []) (new : X.s₀.heap.get? a = none) (un : H a = none) (e : ∃ ox vs, s.heap.get? a = some ox ∧ ox.data = .fields vs) (ok : ObjOk X.prog X.w (upd H a ob) s.heap a ob) (hp : ∀ p ∈ X.pn ++ pins, p.1 ≠ a) : Inv X pins σ (upd H a ob) s := by
  have nf : ∀ {b o}, s.heap.get? b = some o → (∀ vs, o.data ≠ .fields vs) → b ≠ a := fun {b o} eb hd z => by
    subst z
    obtain ⟨ox, vs, h1, h3⟩ := e
    rw [eb] at h1
    cases h1
    exact hd vs h3
  have old : ∀ {b o}, X.s₀.heap.get? b = some o → b ≠ a := fun {b o} eb z => by
    rw [z, new] at eb
    cases eb
  have ne : ∀ {b : Addr} {u : HO}, H b = some u → b ≠ a := fun {b u} q z => by
    rw [z, un] at q
    cases q
  refine ⟨I.ok, I.os, I.bare, ⟨fun b o eb n hb hx => I.base.keep b o eb n hb hx, I.base.slot, fun b o eb n hx => ?_, I.base.there, fun b xs q => ?_, fun b o u q => ?_, fun b ps q => ?_⟩, I.loc, I.cell, ?_, fun x c q => ?_, fun p hpp => ?_, fun b u q => ?_, I.len⟩
  · rw [upd_ne (old eb)]
    exact I.base.free b o eb n hx
  · have z := I.base.tups b xs q
    rw [upd_ne (ne z)]
    exact z
  · have z := I.base.frzs b o u q
    rw [upd_ne (ne z)]
    exact z
  · obtain ⟨m, z⟩ := I.base.tbls b ps q
    exact ⟨m, by rw [upd_ne (ne z)]; exact z⟩
  · obtain ⟨m, ⟨o, es, ep, eo, d, r⟩, _⟩ := I.loc
    rw [upd_ne (nf eo fun vs y => by rw [d] at y; cases y)]
    exact I.free
  · obtain ⟨v, o, eo, d⟩ := I.cell x c q
    rw [upd_ne (nf eo fun vs y => by rw [d] at y; cases y)]
    exact I.freeC x c q
  · obtain ⟨f1, f2, f3⟩ := I.pin p hpp
    refine ⟨f1, ?_, f3⟩
    rw [upd_ne (hp p hpp)]
    exact f2
  · by_cases hb : b = a
    · subst hb
      rw [upd_same] at q
      cases q
      exact ok
    · rw [upd_ne hb] at q
      refine (I.hok b u q).stay (fun c v _ z => z) (fun c z => ?_) fun c xs z => ?_
      · rw [upd_ne (ne z)]; exact z
      · rw [upd_ne (ne z)]; exact z
theorem Inv.madeX {e C : Addr} {args : List Value} {h' : Heap} (I : Inv X pins σ H s) (hex : X.ex = []) (mk : Heap.MadeExcOf s.heap h' e (.ref C) args) : H e = none ∧ Inv X pins σ (upd H e (excN e C none)) { s with heap := h' } := by
  have un := hok_lt I.hok mk.new
  obtain ⟨t0, ht, _⟩ := mk.there
  have I2 : Inv X pins σ H { s with heap := h', toks := s.toks } := I.kept mk.keeps
  refine ⟨un, I2.trackF hex (I.old hex mk.new) un ⟨_, _, ht, rfl⟩ (excN_ok ⟨_, _, t0, ht, rfl, rfl, rfl, rfl, rfl, rfl⟩) fun p hp z => ?_⟩
  have e1 := (I.pin p hp).1
  rw [z, mk.new] at e1
  cases e1
end
section
variable {X : Cx} {C : Addr} {x : Str} {p pos : Pos} {e : Expr} {es : List Expr} {t : TA}
def fExcNew (C : Addr) (t : TA) : TE := fun σ H Q => t σ H fun vs H1 => vs.length ≤ sizeLine ∧ ∀ e, H1 e = none → Q (.ref e) (upd H1 e (excN e C none))
@[simp ↓] theorem fExcNew_w C t σ H Q : fExcNew C t σ H Q = t σ H fun vs H1 => vs.length ≤ sizeLine ∧ ∀ e, H1 e = none → Q (.ref e) (upd H1 e (excN e C none)) := rfl
theorem run_excNew {pins : List (Addr × Obj)} {σ : St} {H : Hp} {s : Shared} {us : List Value} {Q : VK} (hex : X.ex = []) (cl : ExcCls X.K C) (I : Inv X pins σ H s) (hz : us.length ≤ sizeLine) (q : ∀ e, H e = none → Q (.ref e) (upd H e (excN e C none))) :
    wpAny (model X.prog X.w) X.A (call (.ref C) us) (EP X pins σ Q) X.xe s := by
  obtain ⟨bm, N, nm, qn, bs, hdct, sn, sub, ab, col, dd, k0, k1, k2, k3, k5, mN, hC0, hN0, hni, T0, _⟩ := exc_obj I.kIn cl
  obtain ⟨h, g, d, t, os⟩ := s
  refine wpAny_call_exc_subT PySem.F.excBase_ValueError T0 hC0 hN0 hni (fun h' e mk => ?_) hz
  obtain ⟨un, I2⟩ := I.madeX hex mk
  exact ⟨.ref e, _, I2, rfl, q e un⟩
theorem pe_excNew (hex : X.ex = []) (cl : ExcCls X.K C) (kp : PySem.W.keepIn X.K (.ref C) = true) (hg : Gl X x) (hm : X.mg x = some (.ref C)) (ha : PA X (e :: es) t) (hdb : (x == ("__debug__" : Str)) = false := by decide)
    (he : starEach (e :: es) X.env = (false, eval e X.env) :: starEach es X.env := by rfl) (hpl : (backTo pos (starEach es X.env)).any (·.1) = false := by rfl) : PE X (.Call (.Name x p) (e :: es) [] pos) (fExcNew C t) := by
  intro pins s σ H Q I h
  refine wpAny_Call_Name_kw (ld_glob I hg hm ?_ hdb)
  refine PySem.W.callWith_K (h₀ := X.base) I.ok.mod.kin kp (thn (ha pos pins s σ H _ I h) fun us s1 zz => ?_) he hpl
  obtain ⟨vs, H1, I1, r, hz, q⟩ := zz
  exact ⟨I1.kIn, run_excNew hex cl I1 (by show us.length ≤ _; rw [← r.length]; exact hz) q⟩
theorem pe_excNew0 (hex : X.ex = []) (cl : ExcCls X.K C) (kp : PySem.W.keepIn X.K (.ref C) = true) (hg : Gl X x) (hm : X.mg x = some (.ref C)) (hdb : (x == ("__debug__" : Str)) = false := by decide) : PE X (.Call (.Name x p) [] [] pos) (fExcNew C tNil) := by
  intro pins s σ H Q I h
  refine wpAny_Call_Name_kw (ld_glob I hg hm ?_ hdb)
  obtain ⟨hz, q⟩ := h
  exact PySem.W.callWith_K0 I.kIn kp (run_excNew (us := []) hex cl I hz q)
end
structure XMk (K : PySem.W.Frag) (C B f : Addr) : Prop where
  ob : ∃ nm q N bs hdct sn sub ab col dd k0 k1 k2 k3 k5, K.lookup C = some (excClassObj nm q C N bs (.ref B :: veMro) hdct sn sub ab col dd k0 k1 k2 k3 k5 "ValueError.__new__")
  pe : ExcCls K B
  pm : ∃ cd, PySem.W.clsIn K B = some cd ∧ cd.mro = .ref B :: veMro
  init : PySem.W.findIn K (.ref C) "__init__" = some (some (.ref f))
  fn : PySem.W.typeIn K (.ref f) = some (.type "function")
  kp : PySem.W.keepIn K (.ref C) = true
theorem XMk.tail {K : PySem.W.Frag} {C B f : Addr} {h : Heap} (M : XMk K C B f) (X : K.In h) : OwnTail h veMro (.ref B :: veMro) := by
  obtain ⟨bm, N, nm, qn, bs, hdct, sn, sub, ab, col, dd, k0, k1, k2, k3, k5, mN, hC0, hN0, hni, T0, _⟩ := exc_obj X M.pe
  obtain ⟨cd, h1, h2⟩ := M.pm
  have e : bm = veMro := by
    unfold PySem.W.clsIn at h1
    split at h1
    · rename_i c' d' cd' sl' ho
      cases h1
      have z := X _ _ ho
      rw [hC0] at z
      cases z
      simpa using h2
    · cases h1
  subst e
  exact .own hC0 hN0 hni .base
section
variable {X : Cx} {k : Nat} {C B f : Addr} {fd : FuncData} {ps : List Str} {sp : Sp} {x : Str} {p pos : Pos} {e : Expr} {es : List Expr} {t : TA}
def fMakeX (C : Addr) (sp : Sp) (t : TA) : TE := fun σ H Q => t σ H fun vs H1 => vs.length ≤ sizeLine ∧ ∀ e, H1 e = none → tSp sp (.ref e :: vs) (upd H1 e (excN e C none)) (fun v H2 => v = .non ∧ Q (.ref e) H2) ⟨0⟩ E0
@[simp ↓] theorem fMakeX_w C sp t σ H Q : fMakeX C sp t σ H Q = t σ H fun vs H1 => vs.length ≤ sizeLine ∧ ∀ e, H1 e = none → tSp sp (.ref e :: vs) (upd H1 e (excN e C none)) (fun v H2 => v = .non ∧ Q (.ref e) H2) ⟨0⟩ E0 := rfl
theorem pe_makeX (hex : X.ex = []) (M : XMk X.K C B f) (F : FnOk X.prog X.w X.K X.mg X.base CX0 k f fd ps sp) (hr : Room (k + 1) X.A) (hg : Gl X x) (hm : X.mg x = some (.ref C)) (hb : Binds X.K fd ps [])
    (ha : PA X (e :: es) t) (hdb : (x == ("__debug__" : Str)) = false := by decide) (he : starEach (e :: es) X.env = (false, eval e X.env) :: starEach es X.env := by rfl) (hpl : (backTo pos (starEach es X.env)).any (·.1) = false := by rfl) :
    PE X (.Call (.Name x p) (e :: es) [] pos) (fMakeX C sp t) := by
  intro pins s σ H Q I h
  refine wpAny_Call_Name_kw (ld_glob I hg hm ?_ hdb)
  refine PySem.W.callWith_K (h₀ := X.base) I.ok.mod.kin M.kp (thn (ha pos pins s σ H _ I h) fun us s1 zz => ?_) he hpl
  obtain ⟨vs, H1, I1, r, hz, q⟩ := zz
  refine ⟨I1.kIn, ?_⟩
  obtain ⟨nm, qn, N, bs, hdct, sn, sub, ab, col, dd, k0, k1, k2, k3, k5, hC⟩ := M.ob
  have T := M.tail I1.kIn
  have hC1 := I1.kIn _ _ hC
  have kin := I1.kIn
  obtain ⟨hh, g, d, tk, os⟩ := s1
  refine vx_call kin T M.init M.fn hC1 (fun h' a mk => ?_) (by show us.length ≤ _; rw [← r.length]; exact hz)
  obtain ⟨un, I2⟩ := I1.madeX hex mk
  have hq := q a un
  have r2 : Vals (V.ref a :: vs) (Value.ref a :: us) := .cons rfl r
  have hl : (Value.ref a :: us).length = ps.length := by rw [← r2.length]; exact F.len _ _ _ _ hq
  have hbd := hb _ (Value.ref a :: us) I2.kIn (by rw [List.append_nil]; exact hl)
  rw [List.append_nil] at hbd
  refine wpAny_call (codeAny_mono (F.run _ X.stack _ _ ⟨Value.ref a :: us, []⟩ (Value.ref a :: us) _ _ _ (hr.make C us []) (I2.env0.make C us []) hbd r2 hq) fun rr s' hq' => ?_)
  cases rr with
  | error z => exact False.elim hq'
  | ok fl =>
    cases fl with
    | ret u =>
      obtain ⟨v, H', I3, rv, ev, q3⟩ := I2.after hq'
      subst ev
      exact ⟨rv, ⟨V.ref a, H', I3, rfl, q3⟩⟩
    | next => exact False.elim hq'
    | brk => exact False.elim hq'
    | cont => exact False.elim hq'
end
section
variable {X : Cx} {C B f : Addr} {x : Str} {np p pos apos : Pos} {e : Expr} {es : List Expr} {t : TA}
structure XIni (K : PySem.W.Frag) (B : Addr) : Prop where
  sg : PySem.W.specialIn K (.ref B) "__getattribute__" = some (some (.builtin "type.__getattribute__"))
  rd : PySem.W.readsIn K B (.type "type") = true
  fc : PySem.W.findCls K (.ref B) (.type "type") "__init__" = some (.val (.builtin "ValueError.__init__"))
def fXIni (C : Addr) (t : TA) : TE := fun σ H Q => t σ H fun vs H1 => ar2 vs fun v y => isRef v fun a => ∃ od, H1 a = some (excN a C od) ∧ Q .non H1
@[simp ↓] theorem fXIni_w C t σ H Q : fXIni C t σ H Q = t σ H fun vs H1 => ar2 vs fun v y => isRef v fun a => ∃ od, H1 a = some (excN a C od) ∧ Q .non H1 := rfl
theorem pe_xini {pl : Sem Bool} (M : XMk X.K C B f) (N : XIni X.K B) (hg : Gl X x) (hm : X.mg x = some (.ref B)) (ha : PA X (e :: es) t) (hdb : (x == ("__debug__" : Str)) = false := by decide)
    (he : starEach (e :: es) X.env = (false, eval e X.env) :: starEach es X.env := by rfl) (hpl : (backTo pos (starEach es X.env)).any (·.1) = false := by rfl)
    (ht : eval (.Call (.Attribute (.Name x np) "__init__" apos) (e :: es) [] pos) X.env = (do
      let ov ← eval (.Name x np) X.env
      standAt apos.atName
      let (f, first) ← holding [ov] (getMethod ov "__init__" pl)
      callWith pos f first (backTo pos (starEach (e :: es) X.env)) (backToKw pos (keywordEach [] X.env))) := by rfl) :
    PE X (.Call (.Attribute (.Name x np) "__init__" apos) (e :: es) [] pos) (fXIni C t) := by
  intro pins s σ H Q I h
  refine PySem.W.methodCall_KW (pl := pl) (ld_glob I hg hm ?_ hdb) ht
  refine PySem.W.method_cls I.kIn N.sg (PySem.W.cls_value I.kIn N.rd N.fc rfl ?_)
  have I0 : Inv X pins σ H { s with toks := s.toks + 1 } := I.tok _
  refine PyProof.Rows.callWith_builtin1 (thn (ha pos pins _ σ H _ I0 h) fun us s1 zz => ?_) he hpl
  obtain ⟨vs, H1, I1, r, q⟩ := zz
  obtain ⟨v, y, rfl, q⟩ := ar2.out q
  obtain ⟨a, rfl, od, ea, q⟩ := isRef.out q
  obtain ⟨u1, u2, rfl, r1, r2⟩ := r.two
  obtain rfl : u1 = Value.ref a := r1
  obtain ⟨nm, qn, N, bs, hdct, sn, sub, ab, col, dd, k0, k1, k2, k3, k5, hC⟩ := M.ob
  have T := M.tail I1.kIn
  have hC1 := I1.kIn _ _ hC
  obtain ⟨ox, vs, t0, h1, h2, h3, h4, h5, h6, h7⟩ := excN_at I1.hok ea
  obtain ⟨hh, g, d, tk, os⟩ := s1
  refine vx_init T hC1 h1 h2 h3 h4 (fun h' t1 keep he' => ?_) (by show 1 ≤ sizeLine; decide)
  have sz : 0 < vs.size := (Array.getElem?_eq_some_iff.mp h4).1
  have new : ExcN a C od h' := ⟨_, vs.setIfInBounds 0 (.ref t1), t1, he', h2, rfl, by simp [sz], by rw [Array.getElem?_setIfInBounds_ne (by decide)]; exact h5, by rw [Array.getElem?_setIfInBounds_ne (by decide)]; exact h6, h7⟩
  have I2 : Inv X pins σ (upd H1 a (excN a C od)) { (⟨hh, g, d, tk, os⟩ : Shared) with heap := h', toks := tk } := I1.write (x := a) (e := a) (by rw [ea]; exact True.intro) (.inl rfl) keep ⟨_, he'⟩ (excN_ok new)
  rw [upd_id ea] at I2
  exact ⟨.non, H1, I2, rfl, q⟩
end
section
variable {X : Cx} {C B : Addr} {o value : Expr} {f : Str} {pos pos' : Pos} {ta tv : TE}
def sX0 (C : Addr) (ta tv : TE) (f : Str) : TS := fun D σ H => tv σ H fun y H1 => ta σ H1 fun x H2 => isRef x fun a => H2 a = some (excN a C none) ∧ ∀ dx, H2 dx = none → D.nx σ (upd (upd H2 dx (dicE dx [(f, y)])) a (excN a C (some dx)))
@[simp ↓] theorem sX0_w C ta tv f D σ H : sX0 C ta tv f D σ H = tv σ H fun y H1 => ta σ H1 fun x H2 => isRef x fun a => H2 a = some (excN a C none) ∧ ∀ dx, H2 dx = none → D.nx σ (upd (upd H2 dx (dicE dx [(f, y)])) a (excN a C (some dx))) := rfl
theorem ps_x0 (S : ExcSet X.K C B) (hn : PySem.W.findIn X.K (.ref C) f = some none) (ha : PE X o ta) (hv : PE X value tv) (hs : swapsWith value (some (.Attribute o f pos')) pos.line X.env = pure false) : PS X (.Assign [.Attribute o f pos'] value pos) (sX0 C ta tv f) := by
  intro pins s σ H D I h
  refine plainObj_wpAny_Assign_Attribute (thn (hv pins s σ H _ I h) fun u s1 z1 => ?_) hs
  obtain ⟨y, H1, I1, ry, q⟩ := z1
  refine thn (ha pins s1 σ H1 _ I1 q) fun ov s2 z2 => ?_
  obtain ⟨x, H2, I2, rx, q2⟩ := z2
  obtain ⟨a, rfl, ea, q2⟩ := isRef.out q2
  obtain rfl : ov = Value.ref a := rx
  have E0 := excN_at I2.hok ea
  obtain ⟨cd, hc, _, hd⟩ := S.cl
  have kin := I2.kIn
  refine vx_set kin E0.at S hn fun A' => ?_
  obtain ⟨hh, g, d, tk, os⟩ := s2
  refine vx_put0 kin E0 hc hd fun h' t' hns keep E1 => ⟨rfl, ?_⟩
  have hf : H2 hh.objs.size = none := I2.hok.fresh (Nat.le_refl _)
  obtain ⟨oD, es, ep, eD, rest⟩ := id hns
  obtain ⟨ox, _, _, ex1, _⟩ := id E0
  have axs : a ≠ hh.objs.size := Nat.ne_of_lt (Heap.lt_size ex1)
  have nfr : oD.isFreed = false := (Heap.get?_some_iff.mp eD).2
  have hgD : (hh.push oD).get? hh.objs.size = some oD := Heap.get?_push_size hh nfr
  have hns' : (hh.push oD).Ns1 hh.objs.size (fun y' => if y' = f then some u else none) := ⟨oD, es, ep, hgD, rest⟩
  have rel : ∀ f', RelO ([(f, y)].lookup f') (if f' = f then some u else none) := fun f' => by
    have e := lookup_putF f f' y []
    rw [show [(f, y)].lookup f' = (putF f y []).lookup f' from rfl, e]
    by_cases z : f' = f
    · rw [if_pos z, if_pos z]; exact ry
    · rw [if_neg z, if_neg z]; exact True.intro
  have wi : PySem.Within (fun y' => if y' = f then some u else none) ([(f, y)].map (·.1)) := Within.cons f u Within.nil
  have I3 : Inv X pins σ (upd H2 hh.objs.size (dicE hh.objs.size [(f, y)])) { (⟨hh, g, d, tk, os⟩ : Shared) with heap := hh.push oD, toks := tk } := I2.laid (fun b o z => Heap.get?_push_of_some _ z) (Nat.le_refl _) (dicE_ok (by show (1 : Nat) ≤ 1000; decide) hns' rel wi)
  have I4 : Inv X pins σ (upd (upd H2 hh.objs.size (dicE hh.objs.size [(f, y)])) a (excN a C (some hh.objs.size))) { (⟨hh.push oD, g, d, tk, os⟩ : Shared) with heap := h', toks := t' } := by
    refine I3.write (x := a) (e := a) (by rw [upd_ne axs, ea]; exact True.intro) (.inl rfl) (fun b o hb z => ?_) ?_ (excN_ok E1)
    · by_cases hbs : b = hh.objs.size
      · subst hbs
        rw [hgD] at z
        cases z
        exact eD
      · rw [Heap.get?_push_ne _ _ _ hbs] at z
        exact keep b o hb z
    · obtain ⟨ox', _, _, z, _⟩ := id E1
      exact ⟨_, z⟩
  exact ⟨σ, _, I4, q2 _ hf⟩
def sX1 (C : Addr) (ta tv : TE) (f : Str) : TS := fun D σ H => tv σ H fun y H1 => ta σ H1 fun x H2 => isRef x fun a => ∃ dx fs, H2 a = some (excN a C (some dx)) ∧ H2 dx = some (dicE dx fs) ∧ fs.length < 1000 ∧ D.nx σ (upd H2 dx (dicE dx (putF f y fs)))
@[simp ↓] theorem sX1_w C ta tv f D σ H : sX1 C ta tv f D σ H = tv σ H fun y H1 => ta σ H1 fun x H2 => isRef x fun a => ∃ dx fs, H2 a = some (excN a C (some dx)) ∧ H2 dx = some (dicE dx fs) ∧ fs.length < 1000 ∧ D.nx σ (upd H2 dx (dicE dx (putF f y fs))) := rfl
theorem ps_x1 (S : ExcSet X.K C B) (hn : PySem.W.findIn X.K (.ref C) f = some none) (ha : PE X o ta) (hv : PE X value tv) (hs : swapsWith value (some (.Attribute o f pos')) pos.line X.env = pure false) : PS X (.Assign [.Attribute o f pos'] value pos) (sX1 C ta tv f) := by
  intro pins s σ H D I h
  refine plainObj_wpAny_Assign_Attribute (thn (hv pins s σ H _ I h) fun u s1 z1 => ?_) hs
  obtain ⟨y, H1, I1, ry, q⟩ := z1
  refine thn (ha pins s1 σ H1 _ I1 q) fun ov s2 z2 => ?_
  obtain ⟨x, H2, I2, rx, q2⟩ := z2
  obtain ⟨a, rfl, dx, fs, ea, ed, hl, q2⟩ := isRef.out q2
  obtain rfl : ov = Value.ref a := rx
  have E0 := excN_at I2.hok ea
  obtain ⟨hl0, mA, hns, hr, hw⟩ := dicE_at I2.hok ed
  obtain ⟨cd, hc, _, hd⟩ := S.cl
  have kin := I2.kIn
  refine vx_set kin E0.at S hn fun A' => ?_
  obtain ⟨hh, g, d, tk, os⟩ := s2
  refine vx_put1 kin E0 hns hc hd hw (by rw [List.length_map, sizeLine_eq]; omega) fun h' t' hns' sb => ⟨rfl, ?_⟩
  have he : ∃ o, h'.get? dx = some o := let ⟨o, _, _, e', _⟩ := hns'; ⟨o, e'⟩
  have I4 : Inv X pins σ (upd H2 dx (dicE dx (putF f y fs))) { (⟨hh, g, d, tk, os⟩ : Shared) with heap := h', toks := t' } := by
    refine I2.write (x := dx) (e := dx) (by rw [ed]; exact True.intro) (.inl rfl) (fun b o hb z => (sb.2 b hb).trans z) he (dicE_ok ?_ hns' (fun g' => ?_) fun g' hg => ?_)
    · have := length_putF f y fs
      omega
    · show RelO ((putF f y fs).lookup g') (if g' = f then some u else mA g')
      rw [lookup_putF]
      by_cases z : g' = f
      · rw [if_pos z, if_pos z]; exact ry
      · rw [if_neg z, if_neg z]; exact hr g'
    · by_cases z : g' = f
      · rw [z]; exact (keys_putF f y fs).1
      · refine (keys_putF f y fs).2 g' (hw g' fun y' => hg ?_)
        show (if g' = f then some u else mA g') = none
        rw [if_neg z]
        exact y'
  exact ⟨σ, _, I4, q2⟩
def fXGet (C : Addr) (ta : TE) (f : Str) : TE := fun σ H Q => ta σ H fun x H1 => isRef x fun a => ∃ dx fs, H1 a = some (excN a C (some dx)) ∧ H1 dx = some (dicE dx fs) ∧ ∃ v, fs.lookup f = some v ∧ Q v H1
@[simp ↓] theorem fXGet_w C ta f σ H Q : fXGet C ta f σ H Q = ta σ H fun x H1 => isRef x fun a => ∃ dx fs, H1 a = some (excN a C (some dx)) ∧ H1 dx = some (dicE dx fs) ∧ ∃ v, fs.lookup f = some v ∧ Q v H1 := rfl
theorem pe_xget (G : ExcGet X.K C) (hn : PySem.W.findIn X.K (.ref C) f = some none) (he : PE X o ta) (hb : attributeBase o f X.env (eval o X.env) = eval o X.env) : PE X (.Attribute o f pos) (fXGet C ta f) := by
  intro pins s σ H Q I h
  refine attr_of hb (thn (he pins s σ H _ I h) fun u s1 z1 => ?_)
  obtain ⟨x, H1, I1, rx, q⟩ := z1
  obtain ⟨a, rfl, dx, fs, ea, ed, v, hv, q⟩ := isRef.out q
  obtain rfl : u = Value.ref a := rx
  obtain ⟨hl0, mA, hns, hr, hw⟩ := dicE_at I1.hok ed
  obtain ⟨u', hu, ru⟩ := RelO.some_of (v := v) (o := mA f) (by rw [← hv]; exact hr f)
  exact vx_get I1.kIn (excN_at I1.hok ea) hns G hn hu (handed_of ru) ⟨v, H1, I1.tok _, ru, q⟩
end
section
def fIsiN (K : PySem.W.Frag) : List V → Hp → VK → Prop := fun xs H Q => ar2 xs fun x y => isRef x fun a => ∃ C od b, H a = some (excN a C od) ∧ ExcAsk K C ∧ kitE K C y = some b ∧ Q (.bl b) H
@[simp ↓] theorem fIsiN_w K xs H Q : fIsiN K xs H Q = (ar2 xs fun x y => isRef x fun a => ∃ C od b, H a = some (excN a C od) ∧ ExcAsk K C ∧ kitE K C y = some b ∧ Q (.bl b) H) := rfl
theorem fisiN {X : Cx} {K : PySem.W.Frag} (hK : X.K = K) : CallR X (.builtin "isinstance") (fIsiN K) := by
  subst hK
  intro pins s σ H xs us Q I r h
  obtain ⟨v1, v2, rfl, h⟩ := ar2.out h
  obtain ⟨a, rfl, C, od, b, e, ⟨L, cd, hcd⟩, hk, q⟩ := isRef.out h
  obtain ⟨u, v, rfl, r1, r2⟩ := r.two
  obtain rfl : u = Value.ref a := r1
  have ex := (excN_at I.hok e).at
  have go : ∀ {c : Value}, PySem.W.kitOne X.K (.ref C) c = some b → wpAny (model X.prog X.w) X.A (call (.builtin "isinstance") [.ref a, c]) (EP X pins σ Q) X.xe s := fun {c} hc =>
    PySem.W.kia_one (kitx_exc hcd L) I.kIn ex hc (fun z => by cases z) fun tk => ⟨.bl b, H, I.kept (fun _ _ e => e), rfl, q⟩
  cases v2 with
  | ref D => obtain rfl : v = Value.ref D := r2; exact go hk
  | ty n => obtain rfl : v = Value.type n := r2; exact go hk
  | _ => cases hk
end
end L2
set_option Elab.async false
set_option linter.all false
namespace L2
open PySem
theorem kit_self {K : PySem.W.Frag} {C : Addr} : PySem.W.kitOne K (.ref C) (.ref C) = some true := by
  unfold PySem.W.kitOne
  simp
theorem kit_ref {K : PySem.W.Frag} {C D : Addr} {b : Bool} (ne : (C == D) = false) (i : PySem.W.isClsIn K D = true) (t : PySem.W.typeIn K (.ref D) = some (.type "type")) (s : PySem.W.subIn K (.ref C) (.ref D) = some b) : PySem.W.kitOne K (.ref C) (.ref D) = some b := by
  have i' : (PySem.W.clsIn K D).isSome = true := i
  have ne' : C ≠ D := by simpa using ne
  unfold PySem.W.kitOne PySem.W.kitCls
  rw [if_neg (by simpa using ne')]
  show (if _ then _ else _) = _
  rw [if_pos (by rw [i', t]; rfl)]
  exact s
theorem kit_ve : PySem.W.kitMeta "ValueError" = true := by decide +kernel
theorem kit_ty {K : PySem.W.Frag} {C : Addr} {T : String} {b : Bool} (m : PySem.W.kitMeta T = true) (s : PySem.W.subIn K (.ref C) (.type T) = some b) : PySem.W.kitOne K (.ref C) (.type T) = some b := by
  unfold PySem.W.kitOne PySem.W.kitCls
  rw [if_neg (by simp)]
  show (if _ then _ else _) = _
  rw [if_pos m]
  exact s
end L2
set_option Elab.async false
set_option linter.all false
set_option maxRecDepth 100000
set_option maxHeartbeats 4000000
namespace L2
open PySem PySem.Spec PyProof.Rows PySem.SeqAt
section
variable {X : Cx} {K : PySem.W.Frag}
theorem vals_bools : ∀ {bs : List Bool} {its : List Value}, Vals (bs.map V.bl) its → its = bs.map Value.bool
  | [], _, r => by rw [List.map_nil] at r; cases r; rfl
  | b :: bs, _, r => by
    rw [List.map_cons] at r
    cases r with
    | cons r1 r2 =>
      rw [vals_bools r2]
      cases (show _ = Value.bool b from r1)
      rfl
def fCountB (K : PySem.W.Frag) : V → List V → Hp → VK → Prop := fun x vs H Q => isRef x fun l => ar1 vs fun y => isBl y fun k => ∃ bs : List Bool, SqL K H l (bs.map V.bl) ∧ Q (.int (bs.count k : Nat)) H
@[simp ↓] theorem fCountB_w (K : PySem.W.Frag) x vs H Q : fCountB K x vs H Q = (isRef x fun l => ar1 vs fun y => isBl y fun k => ∃ bs : List Bool, SqL K H l (bs.map V.bl) ∧ Q (.int (bs.count k : Nat)) H) := rfl
theorem fmt_countB (hK : X.K = K) : MtR X "list.count" (fCountB K) := by
  subst hK
  intro pins s σ H x xs v us Q I rx rs q
  obtain ⟨l, rfl, q⟩ := isRef.out q
  obtain ⟨y, rfl, q⟩ := ar1.out q
  obtain ⟨k, rfl, bs, hl, q⟩ := isBl.out q
  obtain ⟨u, rfl, ru⟩ := rs.one
  cases (show u = Value.bool k from ru)
  obtain rfl : v = Value.ref l := rx
  obtain ⟨its, rv, pl, hz1⟩ := I.list hl
  have hi := vals_bools rv
  subst hi
  obtain ⟨⟨cls, dd, data, sl⟩, ho, hc, n, hd⟩ := pl.isList
  simp only at hc hd
  subst hc hd
  refine call_meets PySem.F.slot_list_count ⟨_, ho, rfl⟩ PySem.F.entry_list_count (PySem.F.args_list_count_2 _ _) (list_countAt l _ n dd sl (.bool k) (isBoolOf k)) ⟨ho, fun y hy => ?_, ?_⟩
  · simp at hy
    rcases hy with ⟨_, rfl⟩ | ⟨_, rfl⟩
    · exact EqAt.bool_bool false k
    · exact EqAt.bool_bool true k
  · have e : ((bs.map Value.bool).toArray.toList.countP (isBoolOf k) : Nat) = bs.count k := by
      show (bs.map Value.bool).countP (isBoolOf k) = _
      rw [List.countP_map]
      rfl
    rw [e]
    exact ⟨.int _, H, I.tok _, ⟨_, rfl⟩, q⟩
theorem idx_beforeB {k : Bool} : ∀ {bs : List Bool} {j : Nat}, j < bs.idxOf k → ∀ hj : j < bs.length, (bs[j] == k) = false
  | [], j, h, hj => by simp at hj
  | b :: bs, 0, h, hj => by
    rw [List.idxOf_cons] at h
    cases e : (b == k) with
    | true => rw [e] at h; simp at h
    | false => simpa using e
  | b :: bs, j + 1, h, hj => by
    rw [List.idxOf_cons] at h
    cases e : (b == k) with
    | true => rw [e] at h; simp at h
    | false =>
      rw [e] at h
      simp only [cond_false] at h
      simpa using idx_beforeB (bs := bs) (j := j) (by omega) (by simpa using hj)
def fIndexB (K : PySem.W.Frag) : V → List V → Hp → VK → Prop := fun x vs H Q => isRef x fun l => ar1 vs fun y => isBl y fun k => ∃ bs : List Bool, SqL K H l (bs.map V.bl) ∧ k ∈ bs ∧ Q (.int (bs.idxOf k : Nat)) H
@[simp ↓] theorem fIndexB_w (K : PySem.W.Frag) x vs H Q : fIndexB K x vs H Q = (isRef x fun l => ar1 vs fun y => isBl y fun k => ∃ bs : List Bool, SqL K H l (bs.map V.bl) ∧ k ∈ bs ∧ Q (.int (bs.idxOf k : Nat)) H) := rfl
theorem fmt_indexB (hK : X.K = K) : MtR X "list.index" (fIndexB K) := by
  subst hK
  intro pins s σ H x xs v us Q I rx rs q
  obtain ⟨l, rfl, q⟩ := isRef.out q
  obtain ⟨y, rfl, q⟩ := ar1.out q
  obtain ⟨k, rfl, bs, hl, hk, q⟩ := isBl.out q
  obtain ⟨u, rfl, ru⟩ := rs.one
  cases (show u = Value.bool k from ru)
  obtain rfl : v = Value.ref l := rx
  obtain ⟨its, rv, pl, hz1⟩ := I.list hl
  have hi := vals_bools rv
  subst hi
  obtain ⟨⟨cls, dd, data, sl⟩, ho, hc, n, hd⟩ := pl.isList
  simp only at hc hd
  subst hc hd
  have hj : bs.idxOf k < bs.length := List.idxOf_lt_length_iff.mpr hk
  have hz2 : bs.length ≤ sizeLine := by simpa using hz1
  have hs : sizeLine = 2 ^ 24 := rfl
  refine call_meets PySem.F.slot_list_index ⟨_, ho, rfl⟩ PySem.F.entry_list_index (PySem.F.args_list_index_2 _ _)
    (list_indexAt l _ n dd sl (.bool k) (isBoolOf k) (bs.idxOf k) (by simpa using hj) (by omega) ?_ ?_) ⟨ho, fun y hy => ?_, ⟨.int _, H, I.tok _, ⟨_, rfl⟩, q⟩⟩
  · simp [isBoolOf]
  · intro j hjs hlt
    have h := idx_beforeB hlt (by simpa using hjs)
    simpa [isBoolOf] using h
  · simp at hy
    rcases hy with ⟨_, rfl⟩ | ⟨_, rfl⟩
    · exact EqAt.bool_bool false k
    · exact EqAt.bool_bool true k
end
structure XC (K : PySem.W.Frag) (C B : Addr) : Prop where
  cl : ∃ cd, PySem.W.clsIn K C = some cd ∧ cd.mro = .ref C :: .ref B :: veMro ∧ cd.hasDict = true
  ty : PySem.W.typeIn K (.ref C) = some (.type "type")
  ga : PySem.W.findIn K (.ref C) "__getattribute__" = some (some (.builtin "BaseException.__getattribute__"))
  gn : PySem.W.findIn K (.ref C) "__getattr__" = some none
  gc : PySem.W.findIn K (.ref C) "__class__" = some (some (.builtin "object.__class__"))
  kp : PySem.W.keepIn K (.ref C) = true
section
variable {K : PySem.W.Frag} {C D B : Addr}
theorem XC.mro (c : XC K C B) (v : Value) : PySem.W.mroIn K C v = some ((Value.ref C :: Value.ref B :: veMro).contains v) := by
  obtain ⟨cd, h1, h2, _⟩ := c.cl
  unfold PySem.W.mroIn
  rw [h1, Option.bind_some, h2]
  rfl
theorem XC.is (c : XC K C B) : PySem.W.isClsIn K C = true := by
  obtain ⟨cd, h1, _⟩ := c.cl
  unfold PySem.W.isClsIn
  rw [h1]
  rfl
theorem XC.ask (c : XC K C B) (sp : PySem.W.specialIn K (.builtin "object.__class__") "__get__" = some (some (.builtin "getset_descriptor.__get__"))) (tk : PySem.W.takesIn K (.builtin "object.__class__") = some true) : ExcAsk K C := by
  obtain ⟨cd, h1, _⟩ := c.cl
  exact ⟨⟨c.ga, c.gn, c.gc, sp, tk, by rw [c.mro]; simp, by rw [c.mro]; simp⟩, cd, h1⟩
theorem XC.get (c : XC K C B) : ExcGet K C := by
  obtain ⟨cd, h1, _, h3⟩ := c.cl
  refine ⟨c.ga, c.gn, by rw [c.mro]; simp, ?_⟩
  unfold PySem.W.hasDictIn
  rw [h1]
  exact h3
theorem XC.set (c : XC K C B) (sa : PySem.W.findIn K (.ref C) "__setattr__" = some (some (.builtin "object.__setattr__"))) : ExcSet K C B := by
  obtain ⟨cd, h1, h2, h3⟩ := c.cl
  exact ⟨sa, by rw [c.mro]; simp, cd, h1, h2, h3⟩
theorem XC.kit (c : XC K C B) (d : XC K D B) (hB : D ≠ B) : kitE K C (.ref D) = some (decide (C = D)) := by
  show PySem.W.kitOne K (.ref C) (.ref D) = _
  by_cases h : C = D
  · subst h
    rw [kit_self, decide_eq_true rfl]
  · rw [decide_eq_false h]
    refine kit_ref (by simpa using h) d.is d.ty ?_
    show PySem.W.mroIn K C (.ref D) = _
    rw [c.mro]
    have h' : D ≠ C := fun z => h z.symm
    simp [h', hB]
theorem XC.kitB (c : XC K C B) (i : PySem.W.isClsIn K B = true) (t : PySem.W.typeIn K (.ref B) = some (.type "type")) (h : C ≠ B) : kitE K C (.ref B) = some true := by
  refine kit_ref (by simpa using h) i t ?_
  show PySem.W.mroIn K C (.ref B) = _
  rw [c.mro]
  simp
theorem XC.kitV (c : XC K C B) : kitE K C (.ty "ValueError") = some true := by
  refine kit_ty kit_ve ?_
  show PySem.W.mroIn K C (.type "ValueError") = _
  rw [c.mro]
  simp
end
def nodupB : List Addr → Bool
  | [] => true
  | a :: l => !l.contains a && nodupB l
theorem nodupB_ok : ∀ {l : List Addr}, nodupB l = true → l.Nodup
  | [], _ => List.Pairwise.nil
  | a :: l, h => by
    simp only [nodupB, Bool.and_eq_true, Bool.not_eq_true', List.contains_eq_mem, decide_eq_false_iff_not] at h
    exact List.nodup_cons.mpr ⟨h.1, nodupB_ok h.2⟩
def ExsAt (H : Hp) : List V → List Addr → Prop
  | [], [] => True
  | v :: vs, C :: Cs => (∃ e od, v = .ref e ∧ H e = some (excN e C od)) ∧ ExsAt H vs Cs
  | _, _ => False
theorem ExsAt.same {H H' : Hp} (s : Same H H') : ∀ {vs : List V} {Cs : List Addr}, ExsAt H vs Cs → ExsAt H' vs Cs
  | [], [], _ => True.intro
  | v :: vs, C :: Cs, h => by
    obtain ⟨⟨e, od, h1, h2⟩, h3⟩ := h
    exact ⟨⟨e, od, h1, s _ _ h2⟩, ExsAt.same s h3⟩
  | [], _ :: _, h => h.elim
  | _ :: _, [], h => h.elim
theorem ExsAt.app {H : Hp} : ∀ {vs us : List V} {Cs Ds : List Addr}, ExsAt H vs Cs → ExsAt H us Ds → ExsAt H (vs ++ us) (Cs ++ Ds)
  | [], us, [], Ds, _, k => k
  | v :: vs, us, C :: Cs, Ds, h, k => ⟨h.1, ExsAt.app h.2 k⟩
  | [], _, _ :: _, _, h, _ => h.elim
  | _ :: _, _, [], _, h, _ => h.elim
theorem ExsAt.length {H : Hp} : ∀ {vs : List V} {Cs : List Addr}, ExsAt H vs Cs → vs.length = Cs.length
  | [], [], _ => rfl
  | v :: vs, C :: Cs, h => by simp [ExsAt.length h.2]
  | [], _ :: _, h => h.elim
  | _ :: _, [], h => h.elim
theorem ExsAt.at {H : Hp} : ∀ {vs : List V} {Cs : List Addr} {i : Nat} {v : V}, ExsAt H vs Cs → vs[i]? = some v → ∃ C e od, Cs[i]? = some C ∧ v = .ref e ∧ H e = some (excN e C od)
  | v :: vs, C :: Cs, 0, u, h, e => by
    simp at e
    subst e
    obtain ⟨⟨e, od, h1, h2⟩, _⟩ := h
    exact ⟨C, e, od, rfl, h1, h2⟩
  | v :: vs, C :: Cs, i + 1, u, h, e => ExsAt.at (i := i) h.2 (by simpa using e)
  | [], [], i, u, _, e => by simp at e
  | [], _ :: _, _, _, h, _ => h.elim
  | _ :: _, [], _, _, h, _ => h.elim
def XNs (t : TA) (σ : St) (Cs : List Addr) : Prop := ∀ (H : Hp) (Q : List V → Hp → Prop), (∀ vs H', Same H H' → ExsAt H' vs Cs → Q vs H') → t σ H Q
theorem xns_nil {σ : St} : XNs tNil σ [] := fun H Q q => q [] H (Same.refl _) True.intro
theorem xns_cons {σ : St} {t r : TA} {C : Addr} {Cs : List Addr} (ht : ∀ H Q, (∀ vs, vs.length ≤ 1 → Q vs H) → t σ H Q) (hr : XNs r σ Cs) : XNs (tCons (fExcNew C t) r) σ (C :: Cs) := fun H Q q =>
  ht H _ fun vs hv => ⟨Nat.le_trans hv (by decide), fun e he => hr _ _ fun us H' s h => q _ H' ((same_upd he).trans s) ⟨⟨e, none, rfl, s _ _ upd_same⟩, h⟩⟩
theorem big_lstN {σ : St} {t : TA} {Cs : List Addr} {H : Hp} (h : XNs t σ Cs) (hl : Cs.length ≤ sizeLine) {Q : VK} (q : ∀ b vs H', H b = none → Same H H' → H' b = some (.lst vs) → ExsAt H' vs Cs → Q (.ref b) H') : big (tLst t) σ H Q :=
  ⟨h H _ fun vs H' s hv => ⟨by rw [hv.length]; exact hl, fun b hb => q b vs _ (fresh_of s hb) (s.trans (same_upd hb)) upd_same (hv.same (same_upd hb))⟩⟩
def ar3 (vs : List V) (R : V → V → V → Prop) : Prop := match vs with
  | [u, v, w] => R u v w
  | _ => False
@[simp ↓] theorem ar3_w u v w R : ar3 [u, v, w] R = R u v w := rfl
theorem ar3.out {vs : List V} {R : V → V → V → Prop} (h : ar3 vs R) : ∃ u v w, vs = [u, v, w] ∧ R u v w := by
  match vs, h with
  | [u, v, w], h => exact ⟨u, v, w, rfl, h⟩
section
variable {X : Cx} {pos : Pos}
def fPar3 (i j k : Nat) (ta : TA) : TS := fun D σ H => ta σ H fun vs H1 => ar3 vs fun u v w => D.nx (((σ.set i (some u)).set j (some v)).set k (some w)) H1
@[simp ↓] theorem fPar3_w i j k ta D σ H : fPar3 i j k ta D σ H = (ta σ H fun vs H1 => ar3 vs fun u v w => D.nx (((σ.set i (some u)).set j (some v)).set k (some w)) H1) := rfl
theorem ps_par3 {i j k : Nat} {x y z : Str} {a b c : Expr} {ta : TA} {px py pz pt : Pos} {kt k2 pt2} (hc : X.calm = true) (hN : X.N.Nodup) (hi : X.N[i]? = some x) (hj : X.N[j]? = some y) (hk : X.N[k]? = some z) (hij : i ≠ j) (hik : i ≠ k) (hjk : j ≠ k)
    (hx : X.env.scope.names.lookup x = some .local) (hy : X.env.scope.names.lookup y = some .local) (hz : X.env.scope.names.lookup z = some .local) (ha : PA X [a, b, c] ta)
    (hw : swappedStores [.Tuple [.Name x px, .Name y py, .Name z pz] kt pt] (.Tuple [a, b, c] k2 pt2) X.env = pure (some [x, y, z]))
    (hs : swapsWithSole [.Tuple [.Name x px, .Name y py, .Name z pz] kt pt] (.Tuple [a, b, c] k2 pt2) pos.line X.env = pure false := by rfl) :
    PS X (.Assign [.Tuple [.Name x px, .Name y py, .Name z pz] kt pt] (.Tuple [a, b, c] k2 pt2) pos) (fPar3 i j k ta) := by
  intro pins s σ H D I h
  rw [exec_Assign_arm]
  refine wpAny_bind (wpAny_standAt ?_)
  rw [hs]
  refine wpAny_bind (wpAny_pure ?_)
  rw [if_neg (by decide)]
  refine wpAny_bind (Tuple_ (thn (ha _ pins s σ H _ I h) fun us s1 zz => ?_))
  obtain ⟨vs, H1, I1, r1, q1⟩ := zz
  obtain ⟨u, v, w, rfl, q1⟩ := ar3.out q1
  obtain ⟨u1, u2, u3, rfl, ru, rv, rw'⟩ : ∃ u1 u2 u3, us = [u1, u2, u3] ∧ RelV u u1 ∧ RelV v u2 ∧ RelV w u3 := by
    cases r1 with
    | cons p q =>
      cases q with
      | cons p' q' =>
        cases q' with
        | cons p2 q2 =>
          cases q2
          exact ⟨_, _, _, rfl, p, p', p2⟩
  refine wpAny_newObj_type ?_ (by show 3 ≤ sizeLine; decide)
  have I2 : Inv X pins σ H1 { s1 with heap := s1.heap.push { cls := .type "tuple", data := .seq [u1, u2, u3].toArray } } := I1.kept (t' := s1.toks) fun b o e => Heap.get?_push_of_some _ e
  rw [hw]
  refine wpAny_bind (wpAny_pure ?_)
  show wpAny (model X.prog X.w) X.A (do rule "assign.swapped-stores"; let items ← unpackItems (.ref s1.heap.objs.size) 3 none; assignInOrder [fun v => bindName X.env z v, fun v => bindName X.env y v, fun v => bindName X.env x v] items.reverse; pure Flow.next) _ _ _
  refine wpAny_bind (wpAny_rule (wpAny_bind (unpackItems_tuple (items := #[u1, u2, u3]) (I.ok.hd hc) (IsTup.new s1.heap _) fun h' hx' => ?_)))
  have I3 := I2.kept (h' := h') (t' := s1.toks) fun b o e => hx' b o (Nat.ne_of_lt (Heap.lt_size e)) e
  show wpAny _ _ (assignInOrder [fun v => bindName X.env z v, fun v => bindName X.env y v, fun v => bindName X.env x v] [u3, u2, u1] >>= fun _ => pure Flow.next) _ _ _
  refine wpAny_bind (assignInOrder_cons (wpAny_bindName (store_ok I3 hN hk (.inl hz) rw' (fun s2 I4 => ?_) (.inr hz))))
  refine assignInOrder_cons (wpAny_bindName (store_ok I4 hN hj (.inl hy) rv (fun s3 I5 => ?_) (.inr hy)))
  refine assignInOrder_cons (wpAny_bindName (store_ok I5 hN hi (.inl hx) ru (fun s4 I6 => assignInOrder_nil (wpAny_pure ?_)) (.inr hx)))
  rw [List.set_comm _ _ (Ne.symm hjk), List.set_comm _ _ (Ne.symm hik), List.set_comm _ _ (Ne.symm hij)] at I6
  exact ⟨_, H1, I6, q1⟩
end
end L2
set_option Elab.async false
set_option linter.all false
set_option maxRecDepth 100000
set_option maxHeartbeats 4000000
namespace L2
open PySem PySem.Spec PyProof.Rows
section
variable {X : Cx} {e : Expr} {es : List Expr} {te : TE} {t : TA}
structure PAq (X : Cx) (es : List Expr) (t : TA) : Prop where
  out : PA X es t
theorem star_cons {env : Env} (h : ∀ a b, e ≠ .Starred a b) : starEach (e :: es) env = (false, eval e env) :: starEach es env := by
  cases e <;> first | rfl | exact absurd rfl (h _ _)
theorem paq_nil : PAq X [] tNil := ⟨pa_nil⟩
theorem paq_cons (ha : PE X e te) (hr : PAq X es t) (hn : ∀ a b, e ≠ .Starred a b := by (intro _ _ h; cases h)) : PAq X (e :: es) (tCons te t) := ⟨pa_cons ha hr.out (star_cons hn)⟩
end
end L2
namespace L2
open PySem PySem.Spec PyProof.Rows
structure PEq (X : Cx) (e : Expr) (te : TE) : Prop where
  out : PE X e te
theorem peq_lst {X : Cx} {es : List Expr} {t : TA} {pos : Pos} (h : PAq X es t) : PEq X (.List es pos) (tLst t) := ⟨pe_lst h.out⟩
end L2
namespace L2
open PySem PySem.Spec PyProof.Rows
structure PSq (X : Cx) (st : Stmt) (t : TS) : Prop where
  out : PS X st t
structure PSsq (X : Cx) (st : List Stmt) (t : TS) : Prop where
  out : PSs X st t
section
variable {X : Cx} {st : Stmt} {rest : List Stmt} {t u : TS} {e a b : Expr} {te ta tb : TE} {pos : Pos}
theorem pssq_cons (h1 : PSq X st t) (h2 : PSsq X rest u) : PSsq X (st :: rest) (tSeq t u) := ⟨pss_cons h1.out h2.out⟩
theorem psq_set {i : Nat} {x : Str} {pos' : Pos} (hN : X.N.Nodup) (hi : X.N[i]? = some x) (hx : Loc X.env.scope x) (he : PEq X e te) (hs : swapsWith e (some (.Name x pos')) pos.line X.env = pure false := by rfl) (hf : X.fn x = true ∨ X.env.scope.names.lookup x = some .local := by first | exact .inl rfl | exact .inr rfl | assumption) :
    PSq X (.Assign [.Name x pos'] e pos) (tAsg te (gName i)) := ⟨ps_set hN hi hx he.out hs hf⟩
theorem peq_big (h : PEq X e te) : PEq X e (big te) := ⟨pe_big h.out⟩
end
end L2
set_option Elab.async false
set_option linter.all false
set_option maxRecDepth 100000
set_option maxHeartbeats 4000000
namespace K17
open PySem L2
def top (i : Nat) : Stmt := PySem.Challenge.pw_pointways_k17_refusals_made.main.body.getD i (.Pass ⟨0, 0, 0, 0⟩)
abbrev s_Parted_init : Stmt := inClass (top 14) 0
abbrev s_Shut_init : Stmt := inClass (top 15) 0
abbrev s_Thin_init : Stmt := inClass (top 16) 0
abbrev s_Barred_init : Stmt := inClass (top 17) 0
abbrev s_NoIns_init : Stmt := inClass (top 18) 0
abbrev s_pot : Stmt := top 20
abbrev s_take : Stmt := top 21
abbrev s_names : Stmt := top 22
abbrev s_kinds : Stmt := top 23
abbrev s_of_nothing : Stmt := top 24
abbrev s_of_text : Stmt := top 25
abbrev s_are_kinds : Stmt := top 26
abbrev s_law : Stmt := top 27
theorem sc_Parted_init : FnScope ["self", "lot"] ["self", "lot"] (defScope s_Parted_init) := ⟨rfl, rfl, rfl, by decide +kernel, rfl, by decide +kernel, by decide +kernel⟩
theorem sc_Shut_init : FnScope ["self", "lot"] ["self", "lot"] (defScope s_Shut_init) := ⟨rfl, rfl, rfl, by decide +kernel, rfl, by decide +kernel, by decide +kernel⟩
theorem sc_Thin_init : FnScope ["self", "lot"] ["self", "lot"] (defScope s_Thin_init) := ⟨rfl, rfl, rfl, by decide +kernel, rfl, by decide +kernel, by decide +kernel⟩
theorem sc_Barred_init : FnScope ["self", "tie", "lot"] ["self", "tie", "lot"] (defScope s_Barred_init) := ⟨rfl, rfl, rfl, by decide +kernel, rfl, by decide +kernel, by decide +kernel⟩
theorem sc_NoIns_init : FnScope ["self", "word", "part"] ["self", "word", "part"] (defScope s_NoIns_init) := ⟨rfl, rfl, rfl, by decide +kernel, rfl, by decide +kernel, by decide +kernel⟩
theorem sc_pot : FnScope ["_law_script", "_law_k", "_law_cell"] ["_law_script", "_law_k"] (defScope s_pot) := ⟨rfl, rfl, rfl, by decide +kernel, rfl, by decide +kernel, by decide +kernel⟩
theorem sc_take : FnScope ["_law_pot_here", "_law_many", "_law_digit"] ["_law_pot_here", "_law_many"] (defScope s_take) := ⟨rfl, rfl, rfl, by decide +kernel, rfl, by decide +kernel, by decide +kernel⟩
theorem sc_names : FnScope ["_law_pot_here", "_law_many", "_law_letters", "_law_begin", "_law_found", "_law_k", "_law_word", "_law_j"] ["_law_pot_here", "_law_many"] (defScope s_names) := ⟨rfl, rfl, rfl, by decide +kernel, rfl, by decide +kernel, by decide +kernel⟩
theorem sc_kinds : FnScope ["_law_e", "_law_found"] ["_law_e"] (defScope s_kinds) := ⟨rfl, rfl, rfl, by decide +kernel, rfl, by decide +kernel, by decide +kernel⟩
theorem sc_of_nothing : FnScope ["_law_some"] [] (defScope s_of_nothing) := ⟨rfl, rfl, rfl, by decide +kernel, rfl, by decide +kernel, by decide +kernel⟩
theorem sc_of_text : FnScope ["_law_text", "_law_some"] ["_law_text"] (defScope s_of_text) := ⟨rfl, rfl, rfl, by decide +kernel, rfl, by decide +kernel, by decide +kernel⟩
theorem sc_are_kinds : FnScope ["_law_some", "_law_first", "_law_k", "_law_e", "_law_kinds_here"] ["_law_some", "_law_first"] (defScope s_are_kinds) := ⟨rfl, rfl, rfl, by decide +kernel, rfl, by decide +kernel, by decide +kernel⟩
theorem sc_law : FnScope ["_law_script", "_law_k", "_law_pot_here", "_law_lot", "_law_tie", "_law_word", "_law_one", "_law_two", "_law_three", "_law_four", "_law_five"] ["_law_script"] (defScope s_law) := ⟨rfl, rfl, rfl, by decide +kernel, rfl, by decide +kernel, by decide +kernel⟩
set_option genInjectivity false in
structure Adr where
  f_Parted_init : Addr
  fd_Parted_init : FuncData
  f_Shut_init : Addr
  fd_Shut_init : FuncData
  f_Thin_init : Addr
  fd_Thin_init : FuncData
  f_Barred_init : Addr
  fd_Barred_init : FuncData
  f_NoIns_init : Addr
  fd_NoIns_init : FuncData
  f_pot : Addr
  fd_pot : FuncData
  f_take : Addr
  fd_take : FuncData
  f_names : Addr
  fd_names : FuncData
  f_kinds : Addr
  fd_kinds : FuncData
  f_of_nothing : Addr
  fd_of_nothing : FuncData
  f_of_text : Addr
  fd_of_text : FuncData
  f_are_kinds : Addr
  fd_are_kinds : FuncData
  f_law : Addr
  fd_law : FuncData
  C_PointError : Addr
  C_NoWeb : Addr
  C_NoText : Addr
  C_NoNumbers : Addr
  C_NoLot : Addr
  C_NoPoint : Addr
  C_NoPointing : Addr
  C_NoEars : Addr
  C_NoFixed : Addr
  C_NoNumber : Addr
  C_Unlike : Addr
  C_NotOver : Addr
  C_TooMuch : Addr
  C_Parted : Addr
  C_Shut : Addr
  C_Thin : Addr
  C_Barred : Addr
  C_NoIns : Addr
def clsL (a : Adr) : List Addr := [a.C_NoWeb, a.C_NoText, a.C_NoNumbers, a.C_NoLot, a.C_NoPoint, a.C_NoPointing, a.C_NoEars, a.C_NoFixed, a.C_NoNumber, a.C_Unlike, a.C_NotOver, a.C_TooMuch, a.C_Parted, a.C_Shut, a.C_Thin, a.C_Barred, a.C_NoIns]
structure Txt (K : PySem.W.Frag) (mg : Str → Option Value) (a : Adr) : Prop where
  F_Parted_init : Fun K "__init__" "Parted.__init__" s_Parted_init a.f_Parted_init a.fd_Parted_init
  b_Parted_init : Binds K a.fd_Parted_init ["self", "lot"] []
  F_Shut_init : Fun K "__init__" "Shut.__init__" s_Shut_init a.f_Shut_init a.fd_Shut_init
  b_Shut_init : Binds K a.fd_Shut_init ["self", "lot"] []
  F_Thin_init : Fun K "__init__" "Thin.__init__" s_Thin_init a.f_Thin_init a.fd_Thin_init
  b_Thin_init : Binds K a.fd_Thin_init ["self", "lot"] []
  F_Barred_init : Fun K "__init__" "Barred.__init__" s_Barred_init a.f_Barred_init a.fd_Barred_init
  b_Barred_init : Binds K a.fd_Barred_init ["self", "tie", "lot"] []
  F_NoIns_init : Fun K "__init__" "NoIns.__init__" s_NoIns_init a.f_NoIns_init a.fd_NoIns_init
  b_NoIns_init : Binds K a.fd_NoIns_init ["self", "word", "part"] []
  F_pot : Fun K "_law_pot" "_law_pot" s_pot a.f_pot a.fd_pot
  b_pot : Binds K a.fd_pot ["_law_script", "_law_k"] []
  m_pot : mg "_law_pot" = some (.ref a.f_pot)
  F_take : Fun K "_law_take" "_law_take" s_take a.f_take a.fd_take
  b_take : Binds K a.fd_take ["_law_pot_here", "_law_many"] []
  m_take : mg "_law_take" = some (.ref a.f_take)
  F_names : Fun K "_law_names" "_law_names" s_names a.f_names a.fd_names
  b_names : Binds K a.fd_names ["_law_pot_here", "_law_many"] []
  m_names : mg "_law_names" = some (.ref a.f_names)
  F_kinds : Fun K "_law_kinds" "_law_kinds" s_kinds a.f_kinds a.fd_kinds
  b_kinds : Binds K a.fd_kinds ["_law_e"] []
  m_kinds : mg "_law_kinds" = some (.ref a.f_kinds)
  F_of_nothing : Fun K "_law_of_nothing" "_law_of_nothing" s_of_nothing a.f_of_nothing a.fd_of_nothing
  b_of_nothing : Binds K a.fd_of_nothing [] []
  m_of_nothing : mg "_law_of_nothing" = some (.ref a.f_of_nothing)
  F_of_text : Fun K "_law_of_text" "_law_of_text" s_of_text a.f_of_text a.fd_of_text
  b_of_text : Binds K a.fd_of_text ["_law_text"] []
  m_of_text : mg "_law_of_text" = some (.ref a.f_of_text)
  F_are_kinds : Fun K "_law_are_kinds" "_law_are_kinds" s_are_kinds a.f_are_kinds a.fd_are_kinds
  b_are_kinds : Binds K a.fd_are_kinds ["_law_some", "_law_first"] []
  m_are_kinds : mg "_law_are_kinds" = some (.ref a.f_are_kinds)
  F_law : Fun K "law" "law" s_law a.f_law a.fd_law
  b_law : Binds K a.fd_law ["_law_script"] []
  m_law : mg "law" = some (.ref a.f_law)
  m_PointError : mg "PointError" = some (.ref a.C_PointError)
  m_NoWeb : mg "NoWeb" = some (.ref a.C_NoWeb)
  m_NoText : mg "NoText" = some (.ref a.C_NoText)
  m_NoNumbers : mg "NoNumbers" = some (.ref a.C_NoNumbers)
  m_NoLot : mg "NoLot" = some (.ref a.C_NoLot)
  m_NoPoint : mg "NoPoint" = some (.ref a.C_NoPoint)
  m_NoPointing : mg "NoPointing" = some (.ref a.C_NoPointing)
  m_NoEars : mg "NoEars" = some (.ref a.C_NoEars)
  m_NoFixed : mg "NoFixed" = some (.ref a.C_NoFixed)
  m_NoNumber : mg "NoNumber" = some (.ref a.C_NoNumber)
  m_Unlike : mg "Unlike" = some (.ref a.C_Unlike)
  m_NotOver : mg "NotOver" = some (.ref a.C_NotOver)
  m_TooMuch : mg "TooMuch" = some (.ref a.C_TooMuch)
  m_Parted : mg "Parted" = some (.ref a.C_Parted)
  m_Shut : mg "Shut" = some (.ref a.C_Shut)
  m_Thin : mg "Thin" = some (.ref a.C_Thin)
  m_Barred : mg "Barred" = some (.ref a.C_Barred)
  m_NoIns : mg "NoIns" = some (.ref a.C_NoIns)
  x_PointError : ExcCls K a.C_PointError
  x_NoWeb : ExcCls K a.C_NoWeb
  x_NoText : ExcCls K a.C_NoText
  x_NoNumbers : ExcCls K a.C_NoNumbers
  x_NoLot : ExcCls K a.C_NoLot
  x_NoPoint : ExcCls K a.C_NoPoint
  x_NoPointing : ExcCls K a.C_NoPointing
  x_NoEars : ExcCls K a.C_NoEars
  x_NoFixed : ExcCls K a.C_NoFixed
  x_NoNumber : ExcCls K a.C_NoNumber
  x_Unlike : ExcCls K a.C_Unlike
  x_NotOver : ExcCls K a.C_NotOver
  x_TooMuch : ExcCls K a.C_TooMuch
  xc_NoWeb : XC K a.C_NoWeb a.C_PointError
  xc_NoText : XC K a.C_NoText a.C_PointError
  xc_NoNumbers : XC K a.C_NoNumbers a.C_PointError
  xc_NoLot : XC K a.C_NoLot a.C_PointError
  xc_NoPoint : XC K a.C_NoPoint a.C_PointError
  xc_NoPointing : XC K a.C_NoPointing a.C_PointError
  xc_NoEars : XC K a.C_NoEars a.C_PointError
  xc_NoFixed : XC K a.C_NoFixed a.C_PointError
  xc_NoNumber : XC K a.C_NoNumber a.C_PointError
  xc_Unlike : XC K a.C_Unlike a.C_PointError
  xc_NotOver : XC K a.C_NotOver a.C_PointError
  xc_TooMuch : XC K a.C_TooMuch a.C_PointError
  xc_Parted : XC K a.C_Parted a.C_PointError
  xc_Shut : XC K a.C_Shut a.C_PointError
  xc_Thin : XC K a.C_Thin a.C_PointError
  xc_Barred : XC K a.C_Barred a.C_PointError
  xc_NoIns : XC K a.C_NoIns a.C_PointError
  ib : PySem.W.isClsIn K a.C_PointError = true
  tb : PySem.W.typeIn K (.ref a.C_PointError) = some (.type "type")
  ini : XIni K a.C_PointError
  sp_oc : PySem.W.specialIn K (.builtin "object.__class__") "__get__" = some (some (.builtin "getset_descriptor.__get__"))
  tk_oc : PySem.W.takesIn K (.builtin "object.__class__") = some true
  nd : (a.C_PointError :: clsL a).Nodup
  z_ValueError : mg "ValueError" = none
  mk_Parted : XMk K a.C_Parted a.C_PointError a.f_Parted_init
  es_Parted : ExcSet K a.C_Parted a.C_PointError
  na_Parted_lot : PySem.W.findIn K (.ref a.C_Parted) "lot" = some none
  mk_Shut : XMk K a.C_Shut a.C_PointError a.f_Shut_init
  es_Shut : ExcSet K a.C_Shut a.C_PointError
  na_Shut_lot : PySem.W.findIn K (.ref a.C_Shut) "lot" = some none
  mk_Thin : XMk K a.C_Thin a.C_PointError a.f_Thin_init
  es_Thin : ExcSet K a.C_Thin a.C_PointError
  na_Thin_lot : PySem.W.findIn K (.ref a.C_Thin) "lot" = some none
  mk_Barred : XMk K a.C_Barred a.C_PointError a.f_Barred_init
  es_Barred : ExcSet K a.C_Barred a.C_PointError
  na_Barred_tie : PySem.W.findIn K (.ref a.C_Barred) "tie" = some none
  na_Barred_lot : PySem.W.findIn K (.ref a.C_Barred) "lot" = some none
  mk_NoIns : XMk K a.C_NoIns a.C_PointError a.f_NoIns_init
  es_NoIns : ExcSet K a.C_NoIns a.C_PointError
  na_NoIns_word : PySem.W.findIn K (.ref a.C_NoIns) "word" = some none
  na_NoIns_part : PySem.W.findIn K (.ref a.C_NoIns) "part" = some none
  nm : Nm mg
  nm2 : Nm2 mg
  nm3 : Nm3 mg
end K17
set_option Elab.async false
set_option linter.all false
set_option maxRecDepth 100000
set_option maxHeartbeats 4000000
namespace K17
open PySem L2
variable {P : Program} {w : World} {K : PySem.W.Frag} {mg : Str → Option Value} {base : Heap} {a : Adr}
def Pot (H : Hp) (p : Addr) : Prop := ∃ x y : Int, H p = some (.lst [.int x, .int y]) ∧ 0 ≤ x ∧ 0 ≤ y ∧ y < 4294967296
def sp_pot (K : PySem.W.Frag) : Sp := fun vs H Q _ => ∃ (l : Addr) (ns : List Int) (k : Nat), vs = [.ref l, .int k] ∧ SqL K H l (ns.map V.int) ∧ k < 100 ∧ ∀ p H', H p = none → Pot H' p → But p H H' → Q (.ref p) H'
def sp_take : Sp := fun vs H Q _ => ∃ (p : Addr) (m : Int), vs = [.ref p, .int m] ∧ Pot H p ∧ 0 < m ∧ m < 1000000 ∧ ∀ (d : Int) H', 0 ≤ d → d < m → Pot H' p → But p H H' → Q (.int d) H'
theorem ok_pot (T : Txt K mg a) : FnOk P w K mg base CX0 1 a.f_pot a.fd_pot ["_law_script", "_law_k"] (sp_pot K) := by
  refine T.F_pot.okL sc_pot (fun vs H Q E h => ?_) (fun cdv A outer s H vs Q E hr h => ?_)
  · obtain ⟨l, ns, k, rfl, _⟩ := h
    rfl
  · obtain ⟨l, ns, k, rfl, hS, hk, q⟩ := h
    refine ⟨_, (pss_cons (ps_set (i := 2) sc_pot.nd rfl (Or.inl rfl) (pe_ifExp (fpt_cmpR fop_lt (fpv 1) (pe_callB (flenQk (K := K) rfl) rfl T.nm.len PySem.boot_len (pa_cons (fpv 0) pa_nil)) (nomark _)) (pe_ix (fixQk (K := K) rfl) (fpv 0) (fpv 1) (fun _ _ => rfl)) pe_int))
      (pss_one (ps_ret (pe_lst (pa_cons (pe_callB (fcall_max2 rfl) rfl T.nm.max boot_max (pa_cons pe_int (pa_cons (pe_op fop_sub (pe_callB fcall_abs rfl T.nm.abs boot_abs (pa_cons (fpv 2) pa_nil)) (pe_op fop_pow pe_int pe_int)) pa_nil))) (pa_cons (pe_op fop_add (pe_op fop_add (pe_op fop_mod (pe_callB fcall_abs rfl T.nm.abs boot_abs (pa_cons (fpv 2) pa_nil)) pe_int) (pe_op fop_mul pe_int (fpv 1))) pe_int) pa_nil)))))), ?_⟩
    have fin : ∀ (x y : Int), 0 ≤ x → 0 ≤ y → y < 4294967296 → ∀ p : Addr, H p = none → Q (.ref p) (upd H p (.lst [.int x, .int y])) := fun x y h1 h2 h3 p hp =>
      q p _ hp ⟨x, y, upd_same, h1, h2, h3⟩ fun b o hb e => by rw [upd_ne hb]; exact e
    simp (config := { dsimp := false }) [CPow, CMul, CDiv, cxOf, stC, -Bool.exists_bool, -List.map_take, -Prod.forall, -Prod.exists]
    refine ⟨_, .inl hS, tBr.of (fun h => ?_) (fun h => ?_)⟩
    · have hlt : k < ns.length := by simpa using h
      simp (config := { dsimp := false }) [CPow, CMul, CDiv, cxOf, stC, -Bool.exists_bool, -List.map_take, -Prod.forall, -Prod.exists]
      refine ⟨_, .inl hS, .int (ns[k]'hlt), atI_nat (by simp [hlt]), ?_⟩
      simp (config := { dsimp := false }) [CPow, CMul, CDiv, cxOf, stC, -Bool.exists_bool, -List.map_take, -Prod.forall, -Prod.exists]
      exact fin _ _ (zpa _) (zpb _ _) (zpc _ hk)
    · simp (config := { dsimp := false }) [CPow, CMul, CDiv, cxOf, stC, -Bool.exists_bool, -List.map_take, -Prod.forall, -Prod.exists]
      exact fin _ _ (by first | omega | (split <;> omega)) (by omega) (by omega)
theorem ok_take (T : Txt K mg a) : FnOk P w K mg base CX0 1 a.f_take a.fd_take ["_law_pot_here", "_law_many"] sp_take := by
  refine T.F_take.okL sc_take (fun vs H Q E h => ?_) (fun cdv A outer s H vs Q E hr h => ?_)
  · obtain ⟨p, m, rfl, _⟩ := h
    rfl
  · obtain ⟨p, m, rfl, ⟨x, y, hp, hx, hy, hy2⟩, hm, hm2, q⟩ := h
    refine ⟨_, (pss_cons (ps_if (fpt_cmpR fop_gt (pe_ix (fixQk (K := K) rfl) (fpv 0) pe_int (fun _ _ => rfl)) pe_int (nomark _)) (pss_cons (ps_asg (pe_callB fcall_divmod rfl T.nm.divmod boot_divmod (pa_cons (pe_ix (fixQk (K := K) rfl) (fpv 0) pe_int (fun _ _ => rfl)) (pa_cons (fpv 1) pa_nil))) (PG.eqv (pg_tupk (K := K) (n := 2) rfl rfl (PGs.eqv (pgs_cons (pg_sub (fpv 0) pe_int fset_list) (PGs.eqv (pgs_cons (pg_name (i := 2) sc_take.nd rfl (Or.inl rfl)) (PGs.mono pgs_nil fNil_t)) (fCons_eq _ _))) (fCons_eq _ _))) (fTup_eq _ _ _)))
      (pss_one (ps_ret (fpv 2)))) pss_nil)
      (pss_cons (ps_asg (pe_op fop_mod (pe_op fop_add (pe_op fop_mul (pe_ix (fixQk (K := K) rfl) (fpv 0) pe_int (fun _ _ => rfl)) pe_int) pe_int) pe_int) (pg_sub (fpv 0) pe_int fset_list))
      (pss_one (ps_ret (pe_op fop_mod (pe_op fop_fdiv (pe_op fop_mod (pe_op fop_mul (pe_ix (fixQk (K := K) rfl) (fpv 0) pe_int (fun _ _ => rfl)) (pe_ix (fixQk (K := K) rfl) (fpv 0) pe_int (fun _ _ => rfl))) pe_int) pe_int) (fpv 1)))))), ?_⟩
    have hl : SqL K H p [.int x, .int y] := SqL.of hp
    simp (config := { dsimp := false }) [CPow, CMul, CDiv, cxOf, stC, -Bool.exists_bool, -List.map_take, -Prod.forall, -Prod.exists]
    refine ⟨_, .inl hl, _, atI_nat (j := 0) rfl, ?_⟩
    simp (config := { dsimp := false }) [CPow, CMul, CDiv, cxOf, stC, -Bool.exists_bool, -List.map_take, -Prod.forall, -Prod.exists]
    refine tBr.of (fun h => ?_) (fun h => ?_)
    · simp (config := { dsimp := false }) [CPow, CMul, CDiv, cxOf, stC, -Bool.exists_bool, -List.map_take, -Prod.forall, -Prod.exists]
      refine ⟨_, .inl hl, _, atI_nat (j := 0) rfl, ?_⟩
      simp (config := { dsimp := false }) [CPow, CMul, CDiv, cxOf, stC, -Bool.exists_bool, -List.map_take, -Prod.forall, -Prod.exists]
      refine ⟨⟨hm, by omega⟩, fun t ht => ?_⟩
      have npt : p ≠ t := ne_of_none hp ht
      refine ⟨_, SqT.of upd_same, rfl, _, (by rw [upd_ne npt]; exact hp), 0, rfl, ?_⟩
      refine q _ _ (Int.emod_nonneg _ (by omega)) (Int.emod_lt_of_pos _ hm) ⟨_, _, upd_same, Int.ediv_nonneg hx (by omega), hy, hy2⟩ fun b o hb e => ?_
      rw [upd_ne hb, upd_ne (ne_of_none e ht)]
      exact e
    · have z0 : 0 ≤ (y * 48271 + 12345) % 2147483647 := Int.emod_nonneg _ (by decide)
      have z1 : (y * 48271 + 12345) % 2147483647 < 2147483647 := Int.emod_lt_of_pos _ (by decide)
      simp (config := { dsimp := false }) [CPow, CMul, CDiv, cxOf, stC, -Bool.exists_bool, -List.map_take, -Prod.forall, -Prod.exists]
      refine ⟨_, .inl hl, _, atI_nat (j := 1) rfl, ?_⟩
      simp (config := { dsimp := false }) [CPow, CMul, CDiv, cxOf, stC, -Bool.exists_bool, -List.map_take, -Prod.forall, -Prod.exists]
      refine ⟨_, hp, 1, rfl, _, .inl (SqL.of upd_same), _, atI_nat (j := 1) rfl, _, .inl (SqL.of upd_same), _, atI_nat (j := 1) rfl, ?_⟩
      simp (config := { dsimp := false }) [CPow, CMul, CDiv, cxOf, stC, -Bool.exists_bool, -List.map_take, -Prod.forall, -Prod.exists]
      refine ⟨⟨by omega, by omega⟩, hm, ?_⟩
      refine q _ _ (Int.emod_nonneg _ (by omega)) (Int.emod_lt_of_pos _ hm) ⟨_, _, upd_same, hx, z0, by omega⟩ fun b o hb e => ?_
      rw [upd_ne hb]
      exact e
end K17
set_option Elab.async false
set_option linter.all false
set_option maxRecDepth 100000
set_option maxHeartbeats 4000000
namespace K17
open PySem L2
variable {P : Program} {w : World} {K : PySem.W.Frag} {mg : Str → Option Value} {base : Heap} {a : Adr}
def Bears (H : Hp) (e C : Addr) (fs : List (Str × V)) : Prop := ∃ dx, dx ≠ e ∧ H e = some (excN e C (some dx)) ∧ H dx = some (dicE dx fs)
theorem Bears.same {H H' : Hp} {e C : Addr} {fs : List (Str × V)} (h : Bears H e C fs) (s : Same H H') : Bears H' e C fs := by
  obtain ⟨dx, h0, h1, h2⟩ := h
  exact ⟨dx, h0, s _ _ h1, s _ _ h2⟩
def sp_init1 (C : Addr) (f : Str) : Sp := fun vs H Q _ => ∃ (e l : Addr) (xs : List V), vs = [.ref e, .ref l] ∧ H e = some (excN e C none) ∧ H l = some (.lst xs) ∧
  ∀ (b : Addr) (H' : Hp), H b = none → H' b = some (.lst xs) → Bears H' e C [(f, .ref b)] → But e H H' → Q .non H'
theorem init1_close {H : Hp} {e l C : Addr} {xs : List V} {f : Str} {Q : VK} {K : PySem.W.Frag} (he : H e = some (excN e C none)) (hl : H l = some (.lst xs)) (q : ∀ (b : Addr) (H' : Hp), H b = none → H' b = some (.lst xs) → Bears H' e C [(f, .ref b)] → But e H H' → Q .non H') :
    (∃ x, H e = some (excN e C x)) ∧ ∃ ys, (SqL K H l ys ∨ SqT K H l ys) ∧ ∀ (l : Addr), H l = none → upd H l (.lst ys) e = some (excN e C none) ∧ ∀ dx, upd H l (.lst ys) dx = none → Q .non (upd (upd (upd H l (.lst ys)) dx (dicE dx [(f, .ref l)])) e (excN e C (some dx))) := by
  refine ⟨⟨_, he⟩, xs, .inl (SqL.of hl), fun b hb => ?_⟩
  have s1 : Same H (upd H b (.lst xs)) := same_upd hb
  have e1 : upd H b (.lst xs) b = some (.lst xs) := upd_same
  generalize upd H b (.lst xs) = H1 at s1 e1 ⊢
  refine ⟨s1 _ _ he, fun dx hdx => ?_⟩
  have ne : dx ≠ e := fun z => by rw [z, s1 _ _ he] at hdx; cases hdx
  have be : b ≠ e := fun z => by rw [z, he] at hb; cases hb
  have bd : b ≠ dx := fun z => by rw [← z, e1] at hdx; cases hdx
  refine q b _ hb (by rw [upd_ne be, upd_ne bd]; exact e1) ⟨dx, ne, upd_same, by rw [upd_ne ne]; exact upd_same⟩ fun c o hc z => ?_
  rw [upd_ne hc, upd_ne (fun y => by rw [← y, s1 _ _ z] at hdx; cases hdx)]
  exact s1 _ _ z
theorem init2_close {H : Hp} {e l C : Addr} {xs : List V} {f g : Str} {y : V} {Q : VK} {K : PySem.W.Frag} (fg : g ≠ f) (he : H e = some (excN e C none)) (hl : H l = some (.lst xs)) (q : ∀ (b : Addr) (H' : Hp), H b = none → H' b = some (.lst xs) → Bears H' e C [(f, y), (g, .ref b)] → But e H H' → Q .non H') :
    (∃ x, H e = some (excN e C x)) ∧ H e = some (excN e C none) ∧ ∀ dx, H dx = none → ∃ ys, (SqL K (upd (upd H dx (dicE dx [(f, y)])) e (excN e C (some dx))) l ys ∨ SqT K (upd (upd H dx (dicE dx [(f, y)])) e (excN e C (some dx))) l ys) ∧
      ∀ (l : Addr), upd (upd H dx (dicE dx [(f, y)])) e (excN e C (some dx)) l = none → ∃ d2, upd (upd (upd H dx (dicE dx [(f, y)])) e (excN e C (some dx))) l (.lst ys) e = some (excN e C (some d2)) ∧ ∃ fs, upd (upd (upd H dx (dicE dx [(f, y)])) e (excN e C (some dx))) l (.lst ys) d2 = some (dicE d2 fs) ∧ fs.length < 1000 ∧
        Q .non (upd (upd (upd (upd H dx (dicE dx [(f, y)])) e (excN e C (some dx))) l (.lst ys)) d2 (dicE d2 (putF g (.ref l) fs))) := by
  refine ⟨⟨_, he⟩, he, fun dx hdx => ?_⟩
  have ne : dx ≠ e := fun z => by rw [z, he] at hdx; cases hdx
  have le : l ≠ e := fun z => by rw [z, he] at hl; cases hl
  have ld : l ≠ dx := fun z => by rw [z, hdx] at hl; cases hl
  have e1 : upd (upd H dx (dicE dx [(f, y)])) e (excN e C (some dx)) e = some (excN e C (some dx)) := upd_same
  have d1 : upd (upd H dx (dicE dx [(f, y)])) e (excN e C (some dx)) dx = some (dicE dx [(f, y)]) := by rw [upd_ne ne]; exact upd_same
  have b1 : But e H (upd (upd H dx (dicE dx [(f, y)])) e (excN e C (some dx))) := fun c o hc z => by
    rw [upd_ne hc, upd_ne (fun y => by rw [y, hdx] at z; cases z)]
    exact z
  generalize upd (upd H dx (dicE dx [(f, y)])) e (excN e C (some dx)) = H1 at e1 d1 b1 ⊢
  refine ⟨xs, .inl (SqL.of (b1 _ _ le hl)), fun b hb => ?_⟩
  have s2 : Same H1 (upd H1 b (.lst xs)) := same_upd hb
  have e2 : upd H1 b (.lst xs) b = some (.lst xs) := upd_same
  generalize upd H1 b (.lst xs) = H2 at s2 e2 ⊢
  refine ⟨dx, s2 _ _ e1, _, s2 _ _ d1, by show (1 : Nat) < 1000; decide, ?_⟩
  have bd : b ≠ dx := fun z => by rw [z, d1] at hb; cases hb
  have be : b ≠ e := fun z => by rw [z, e1] at hb; cases hb
  have hb0 : H b = none := by
    cases z : H b with
    | none => rfl
    | some o => rw [b1 _ _ be z] at hb; cases hb
  have ep : putF g (.ref b) [(f, y)] = [(f, y), (g, .ref b)] := by
    show (if f = g then _ else _) = _
    rw [if_neg (fun z => fg z.symm)]
    rfl
  rw [ep]
  refine q b _ hb0 (by rw [upd_ne bd]; exact e2) ⟨dx, ne, by rw [upd_ne (Ne.symm ne)]; exact s2 _ _ e1, upd_same⟩ fun c o hc z => ?_
  rw [upd_ne (fun y => by rw [y, hdx] at z; cases z)]
  exact s2 _ _ (b1 _ _ hc z)
def sp_init2 (C : Addr) (f g : Str) : Sp := fun vs H Q _ => ∃ (e l : Addr) (y : V) (xs : List V), vs = [.ref e, y, .ref l] ∧ H e = some (excN e C none) ∧ H l = some (.lst xs) ∧
  ∀ (b : Addr) (H' : Hp), H b = none → H' b = some (.lst xs) → Bears H' e C [(f, y), (g, .ref b)] → But e H H' → Q .non H'
theorem ok_Parted_init (T : Txt K mg a) : FnOk P w K mg base CX0 1 a.f_Parted_init a.fd_Parted_init ["self", "lot"] (sp_init1 a.C_Parted "lot") := by
  refine T.F_Parted_init.okL sc_Parted_init (fun vs H Q E h => ?_) (fun cdv A outer s H vs Q E hr h => ?_)
  · obtain ⟨e, l, xs, rfl, _⟩ := h
    rfl
  · obtain ⟨e, l, xs, rfl, he, hl, q⟩ := h
    refine ⟨_, (pss_cons (ps_expr (pe_xini T.mk_Parted T.ini rfl T.m_PointError (pa_cons (fpv 0) (pa_cons pe_str pa_nil))))
      (pss_one (ps_x0 T.es_Parted T.na_Parted_lot (fpv 0) (pe_callTy (flistOfk (K := K) rfl) rfl T.nm.list boot_list (pa_cons (fpv 1) pa_nil)) rfl))), ?_⟩
    simp (config := { dsimp := false }) [CPow, CMul, CDiv, cxOf, stC, -Bool.exists_bool, -List.map_take, -Prod.forall, -Prod.exists]
    exact init1_close he hl q
theorem ok_Shut_init (T : Txt K mg a) : FnOk P w K mg base CX0 1 a.f_Shut_init a.fd_Shut_init ["self", "lot"] (sp_init1 a.C_Shut "lot") := by
  refine T.F_Shut_init.okL sc_Shut_init (fun vs H Q E h => ?_) (fun cdv A outer s H vs Q E hr h => ?_)
  · obtain ⟨e, l, xs, rfl, _⟩ := h
    rfl
  · obtain ⟨e, l, xs, rfl, he, hl, q⟩ := h
    refine ⟨_, (pss_cons (ps_expr (pe_xini T.mk_Shut T.ini rfl T.m_PointError (pa_cons (fpv 0) (pa_cons pe_str pa_nil))))
      (pss_one (ps_x0 T.es_Shut T.na_Shut_lot (fpv 0) (pe_callTy (flistOfk (K := K) rfl) rfl T.nm.list boot_list (pa_cons (fpv 1) pa_nil)) rfl))), ?_⟩
    simp (config := { dsimp := false }) [CPow, CMul, CDiv, cxOf, stC, -Bool.exists_bool, -List.map_take, -Prod.forall, -Prod.exists]
    exact init1_close he hl q
theorem ok_Thin_init (T : Txt K mg a) : FnOk P w K mg base CX0 1 a.f_Thin_init a.fd_Thin_init ["self", "lot"] (sp_init1 a.C_Thin "lot") := by
  refine T.F_Thin_init.okL sc_Thin_init (fun vs H Q E h => ?_) (fun cdv A outer s H vs Q E hr h => ?_)
  · obtain ⟨e, l, xs, rfl, _⟩ := h
    rfl
  · obtain ⟨e, l, xs, rfl, he, hl, q⟩ := h
    refine ⟨_, (pss_cons (ps_expr (pe_xini T.mk_Thin T.ini rfl T.m_PointError (pa_cons (fpv 0) (pa_cons pe_str pa_nil))))
      (pss_one (ps_x0 T.es_Thin T.na_Thin_lot (fpv 0) (pe_callTy (flistOfk (K := K) rfl) rfl T.nm.list boot_list (pa_cons (fpv 1) pa_nil)) rfl))), ?_⟩
    simp (config := { dsimp := false }) [CPow, CMul, CDiv, cxOf, stC, -Bool.exists_bool, -List.map_take, -Prod.forall, -Prod.exists]
    exact init1_close he hl q
theorem ok_Barred_init (T : Txt K mg a) : FnOk P w K mg base CX0 1 a.f_Barred_init a.fd_Barred_init ["self", "tie", "lot"] (sp_init2 a.C_Barred "tie" "lot") := by
  refine T.F_Barred_init.okL sc_Barred_init (fun vs H Q E h => ?_) (fun cdv A outer s H vs Q E hr h => ?_)
  · obtain ⟨e, l, y, xs, rfl, _⟩ := h
    rfl
  · obtain ⟨e, l, y, xs, rfl, he, hl, q⟩ := h
    refine ⟨_, (pss_cons (ps_expr (pe_xini T.mk_Barred T.ini rfl T.m_PointError (pa_cons (fpv 0) (pa_cons pe_str pa_nil))))
      (pss_cons (ps_x0 T.es_Barred T.na_Barred_tie (fpv 0) (fpv 1) rfl)
      (pss_one (ps_x1 T.es_Barred T.na_Barred_lot (fpv 0) (pe_callTy (flistOfk (K := K) rfl) rfl T.nm.list boot_list (pa_cons (fpv 2) pa_nil)) rfl)))), ?_⟩
    simp (config := { dsimp := false }) [CPow, CMul, CDiv, cxOf, stC, -Bool.exists_bool, -List.map_take, -Prod.forall, -Prod.exists]
    exact init2_close (by decide) he hl q
theorem ok_NoIns_init (T : Txt K mg a) : FnOk P w K mg base CX0 1 a.f_NoIns_init a.fd_NoIns_init ["self", "word", "part"] (sp_init2 a.C_NoIns "word" "part") := by
  refine T.F_NoIns_init.okL sc_NoIns_init (fun vs H Q E h => ?_) (fun cdv A outer s H vs Q E hr h => ?_)
  · obtain ⟨e, l, y, xs, rfl, _⟩ := h
    rfl
  · obtain ⟨e, l, y, xs, rfl, he, hl, q⟩ := h
    refine ⟨_, (pss_cons (ps_expr (pe_xini T.mk_NoIns T.ini rfl T.m_PointError (pa_cons (fpv 0) (pa_cons pe_str pa_nil))))
      (pss_cons (ps_x0 T.es_NoIns T.na_NoIns_word (fpv 0) (fpv 1) rfl)
      (pss_one (ps_x1 T.es_NoIns T.na_NoIns_part (fpv 0) (pe_callTy (flistOfk (K := K) rfl) rfl T.nm.list boot_list (pa_cons (fpv 2) pa_nil)) rfl)))), ?_⟩
    simp (config := { dsimp := false }) [CPow, CMul, CDiv, cxOf, stC, -Bool.exists_bool, -List.map_take, -Prod.forall, -Prod.exists]
    exact init2_close (by decide) he hl q
end K17
set_option Elab.async false
set_option linter.all false
set_option maxRecDepth 100000
set_option maxHeartbeats 4000000
namespace K17
open PySem L2
variable {P : Program} {w : World} {K : PySem.W.Frag} {mg : Str → Option Value} {base : Heap} {a : Adr}
theorem Pot.keepS {H H' : Hp} {p : Addr} (h : Pot H p) (s : Same H H') : Pot H' p := by
  obtain ⟨x, y, e, z⟩ := h
  exact ⟨x, y, s _ _ e, z⟩
theorem ok_app {x y : Str} (h : PyData.strOk x = true) (k : PyData.strOk y = true) : PyData.strOk (x ++ y) = true := by
  unfold PyData.strOk at *
  show (x.cps ++ y.cps).all _ = true
  rw [Array.all_append, h, k]
  rfl
theorem ok_one {n : Nat} (h : n < 26) : PyData.strOk (⟨#[97 + n]⟩ : Str) = true := by
  unfold PyData.strOk
  simp
  omega
def sp_names : Sp := fun vs H Q _ => ∃ (p : Addr) (m : Nat), vs = [.ref p, .int m] ∧ Pot H p ∧ 1 ≤ m ∧ m ≤ 9 ∧ ∀ (r : Addr) (xs : List Str) (H' : Hp), H r = none → H' r = some (.lst (xs.map V.str)) → (∀ x ∈ xs, PyData.strOk x = true) → xs.length = m → Pot H' p → But p H H' → Q (.ref r) H'
theorem ok_names (T : Txt K mg a) : FnOk P w K mg base CX0 2 a.f_names a.fd_names ["_law_pot_here", "_law_many"] sp_names := by
  refine T.F_names.okL sc_names (fun vs H Q E h => ?_) (fun cdv A outer s H vs Q E hr h => ?_)
  · obtain ⟨p, m, rfl, _⟩ := h
    rfl
  · obtain ⟨p, m, rfl, hp, h1, h9, q⟩ := h
    refine ⟨_, (pss_cons (ps_set (i := 2) sc_names.nd rfl (Or.inl rfl) pe_str)
      (pss_cons (ps_set (i := 3) sc_names.nd rfl (Or.inl rfl) (PE.eqv (pe_call (ok_take (K := K) T) (hr.mono (by decide)) rfl T.m_take T.F_take.kp T.b_take .nil pass0 (pa_cons (fpv 0) (pa_cons pe_int pa_nil))) (fCall_eq _ _ _)))
      (pss_cons (ps_set (i := 4) sc_names.nd rfl (Or.inl rfl) (pe_lst pa_nil))
      (pss_cons (ps_for PassesOwn.never rfl (PI.eqv (pi_range1 rfl T.nm.range (pa_cons (fpv 1) pa_nil)) (fiRng1_eq _)) (pg_name (i := 5) sc_names.nd rfl (Or.inl rfl))
      (pss_cons (ps_set (i := 6) sc_names.nd rfl (Or.inl rfl) (pe_ix fix_str (fpv 2) (pe_op fop_mod (pe_op fop_add (fpv 3) (pe_op fop_mul pe_int (fpv 5))) pe_int) (fun _ _ => rfl)))
      (pss_cons (ps_for PassesOwn.never rfl (PI.eqv (pi_range1 rfl T.nm.range (pa_cons (PE.eqv (pe_call (ok_take (K := K) T) (hr.mono (by decide)) rfl T.m_take T.F_take.kp T.b_take .nil pass0 (pa_cons (fpv 0) (pa_cons pe_int pa_nil))) (fCall_eq _ _ _)) pa_nil)) (fiRng1_eq _)) (pg_name (i := 7) sc_names.nd rfl (Or.inl rfl))
      (pss_one (ps_set (i := 6) sc_names.nd rfl (Or.inl rfl) (pe_op fop_add_str (fpv 6) (pe_ix fix_str (fpv 2) (PE.eqv (pe_call (ok_take (K := K) T) (hr.mono (by decide)) rfl T.m_take T.F_take.kp T.b_take .nil pass0 (pa_cons (fpv 0) (pa_cons pe_int pa_nil))) (fCall_eq _ _ _)) (fun _ _ => rfl))))))
      (pss_one (ps_expr (pe_bmk (K := K) rfl PySem.F.plainAttrs_list PySem.F.slot_list_append PySem.F.type_list_append fmt_append (fpv 4) (pa_cons (fpv 6) pa_nil)))))))
      (pss_one (ps_ret (fpv 4))))))), ?_⟩
    simp (config := { dsimp := false }) [CPow, CMul, CDiv, cxOf, stC, -Bool.exists_bool, -List.map_take, -Prod.forall, -Prod.exists]
    refine ⟨p, _, rfl, hp, by decide, by decide, fun d H1 hd0 hd1 hP1 hB1 => ?_⟩
    obtain ⟨b, rfl, hb26, hbl⟩ := letters_int hd0 hd1
    simp (config := { dsimp := false }) [CPow, CMul, CDiv, cxOf, stC, -Bool.exists_bool, -List.map_take, -Prod.forall, -Prod.exists]
    intro r hr0
    have pr : r ≠ p := fun z => by subst z; obtain ⟨_, _, u, _⟩ := hP1; rw [hr0] at u; cases u
    have s20 := of_eq_true sz20
    refine ⟨by omega, frR (fun i σ H' => ∃ v8 v9 v10 ws, σ = [some (.ref p), some (.int m), some (.str (Str.ofString "abcdefghijklmnopqrstuvwxyz")), some (.int b), some (.ref r), v8, v9, v10] ∧ H' r = some (.lst (ws.map V.str)) ∧ ws.length = i ∧ (∀ x ∈ ws, PyData.strOk x = true) ∧ Pot H' p ∧ But p H H') ⟨none, none, none, [], rfl, upd_same, rfl, by simp, hP1.keepS (same_upd hr0), hB1.trans (But.of (same_upd hr0))⟩ ?_ ?_⟩
    · rintro i σ H' hi ⟨v8, v9, v10, ws, rfl, hr', hl, hok, hP, hB⟩
      simp (config := { dsimp := false }) [CPow, CMul, CDiv, cxOf, stC, -Bool.exists_bool, -List.map_take, -Prod.forall, -Prod.exists]
      obtain ⟨c, hc, hc26, hcl⟩ := letters_int (i := ((b : Int) + 5 * i) % 26) (by omega) (by omega)
      refine ⟨letters_len, _, hcl, p, _, rfl, hP, by decide, by decide, fun e H3 he0 he1 hP3 hB3 => ?_⟩
      simp (config := { dsimp := false }) [CPow, CMul, CDiv, cxOf, stC, -Bool.exists_bool, -List.map_take, -Prod.forall, -Prod.exists]
      refine ⟨by omega, by omega, frR (fun j σ H' => ∃ v10 x, σ = [some (.ref p), some (.int m), some (.str (Str.ofString "abcdefghijklmnopqrstuvwxyz")), some (.int b), some (.ref r), some (.int i), some (.str x), v10] ∧ H' r = some (.lst (ws.map V.str)) ∧ x.length = j + 1 ∧ PyData.strOk x = true ∧ Pot H' p ∧ But p H H') ⟨v10, _, rfl, hB3 _ _ pr hr', rfl, ok_one hc26, hP3, hB.trans hB3⟩ ?_ ?_⟩
      · rintro j σ H4 hj ⟨v10, x, rfl, hr4, hx, hxo, hP4, hB4⟩
        simp (config := { dsimp := false }) [CPow, CMul, CDiv, cxOf, stC, -Bool.exists_bool, -List.map_take, -Prod.forall, -Prod.exists]
        refine ⟨p, _, rfl, hP4, by decide, by decide, fun f H5 hf0 hf1 hP5 hB5 => ?_⟩
        obtain ⟨n, rfl, hn26, hnl⟩ := letters_int hf0 hf1
        simp (config := { dsimp := false }) [CPow, CMul, CDiv, cxOf, stC, -Bool.exists_bool, -List.map_take, -Prod.forall, -Prod.exists, letters_len, hnl]
        refine ⟨?_, _, _, ⟨rfl, rfl⟩, hB5 _ _ pr hr4, ?_, ok_app hxo (ok_one hn26), hP5, hB4.trans hB5⟩
        · show x.length + 1 ≤ sizeLine
          omega
        · have la : ∀ x y : Str, (x ++ y).length = x.length + y.length := fun x y => Array.size_append
          rw [la, hx]
          rfl
      · rintro σ H4 ⟨v10, x, rfl, hr4, hx, hxo, hP4, hB4⟩
        simp (config := { dsimp := false }) [CPow, CMul, CDiv, cxOf, stC, -Bool.exists_bool, -List.map_take, -Prod.forall, -Prod.exists]
        refine ⟨⟨_, SqL.of hr4⟩, _, hr4, by simp; omega, ws ++ [x], by rw [upd_same]; simp, by simp [hl], fun y hy => (List.mem_append.mp hy).elim (hok y) fun h => by rw [List.mem_singleton] at h; rw [h]; exact hxo, ?_, fun c o hc z => ?_⟩
        · obtain ⟨x1, y1, u, z⟩ := hP4
          exact ⟨x1, y1, by rw [upd_ne (Ne.symm pr)]; exact u, z⟩
        · have cr : c ≠ r := fun y => by rw [y] at z; rw [hB1 _ _ pr z] at hr0; cases hr0
          rw [upd_ne cr]
          exact hB4 _ _ hc z
    · rintro σ H' ⟨v8, v9, v10, ws, rfl, hr', hl, hok, hP, hB⟩
      simp (config := { dsimp := false }) [CPow, CMul, CDiv, cxOf, stC, -Bool.exists_bool, -List.map_take, -Prod.forall, -Prod.exists]
      have hrH : H r = none := by
        cases z : H r with
        | none => rfl
        | some o => rw [hB1 _ _ pr z] at hr0; cases hr0
      exact q r ws H' hrH hr' hok hl hP hB
end K17
set_option Elab.async false
set_option linter.all false
set_option maxRecDepth 100000
set_option maxHeartbeats 4000000
namespace K17
open PySem L2
variable {P : Program} {w : World} {K : PySem.W.Frag} {mg : Str → Option Value} {base : Heap} {a : Adr}
def kindsB (a : Adr) (C : Addr) : List Bool := (clsL a).map fun D => decide (C = D)
def sp_kinds (a : Adr) : Sp := fun vs H Q _ => ∃ (e C : Addr) (od : Option Addr), vs = [.ref e] ∧ H e = some (excN e C od) ∧ C ∈ clsL a ∧ ∀ (r : Addr) (H' : Hp), H r = none → H' r = some (.lst ((kindsB a C).map V.bl)) → Same H H' → Q (.ref r) H'
theorem xc_all (T : Txt K mg a) : ∀ C ∈ clsL a, XC K C a.C_PointError := by
  intro C h
  simp only [clsL, List.mem_cons, List.not_mem_nil, or_false] at h
  rcases h with rfl | rfl | rfl | rfl | rfl | rfl | rfl | rfl | rfl | rfl | rfl | rfl | rfl | rfl | rfl | rfl | rfl
  · exact T.xc_NoWeb
  · exact T.xc_NoText
  · exact T.xc_NoNumbers
  · exact T.xc_NoLot
  · exact T.xc_NoPoint
  · exact T.xc_NoPointing
  · exact T.xc_NoEars
  · exact T.xc_NoFixed
  · exact T.xc_NoNumber
  · exact T.xc_Unlike
  · exact T.xc_NotOver
  · exact T.xc_TooMuch
  · exact T.xc_Parted
  · exact T.xc_Shut
  · exact T.xc_Thin
  · exact T.xc_Barred
  · exact T.xc_NoIns
theorem kit_all (T : Txt K mg a) {C D : Addr} (hC : C ∈ clsL a) (hD : D ∈ clsL a) : kitE K C (.ref D) = some (decide (C = D)) :=
  (xc_all T C hC).kit (xc_all T D hD) fun z => (List.nodup_cons.mp T.nd).1 (z ▸ hD)
theorem ok_kinds (T : Txt K mg a) : FnOk P w K mg base CX0 1 a.f_kinds a.fd_kinds ["_law_e"] (sp_kinds a) := by
  refine T.F_kinds.okL sc_kinds (fun vs H Q E h => ?_) (fun cdv A outer s H vs Q E hr h => ?_)
  · obtain ⟨e, C, od, rfl, _⟩ := h
    rfl
  · obtain ⟨e, C, od, rfl, he, hC, q⟩ := h
    refine ⟨_, (pss_cons (ps_set (i := 1) sc_kinds.nd rfl (Or.inl rfl) (pe_lst (pa_cons (pe_callB (fisiN (K := K) rfl) rfl T.nm.isinstance boot_isinstance (pa_cons (fpv 0) (pa_cons (pe_glob (v := .ref a.C_NoWeb) rfl T.m_NoWeb rfl) pa_nil))) (pa_cons (pe_callB (fisiN (K := K) rfl) rfl T.nm.isinstance boot_isinstance (pa_cons (fpv 0) (pa_cons (pe_glob (v := .ref a.C_NoText) rfl T.m_NoText rfl) pa_nil))) (pa_cons (pe_callB (fisiN (K := K) rfl) rfl T.nm.isinstance boot_isinstance (pa_cons (fpv 0) (pa_cons (pe_glob (v := .ref a.C_NoNumbers) rfl T.m_NoNumbers rfl) pa_nil))) (pa_cons (pe_callB (fisiN (K := K) rfl) rfl T.nm.isinstance boot_isinstance (pa_cons (fpv 0) (pa_cons (pe_glob (v := .ref a.C_NoLot) rfl T.m_NoLot rfl) pa_nil))) pa_nil))))))
      (pss_cons (ps_set (i := 1) sc_kinds.nd rfl (Or.inl rfl) (pe_op fop_cat (fpv 1) (pe_lst (pa_cons (pe_callB (fisiN (K := K) rfl) rfl T.nm.isinstance boot_isinstance (pa_cons (fpv 0) (pa_cons (pe_glob (v := .ref a.C_NoPoint) rfl T.m_NoPoint rfl) pa_nil))) (pa_cons (pe_callB (fisiN (K := K) rfl) rfl T.nm.isinstance boot_isinstance (pa_cons (fpv 0) (pa_cons (pe_glob (v := .ref a.C_NoPointing) rfl T.m_NoPointing rfl) pa_nil))) (pa_cons (pe_callB (fisiN (K := K) rfl) rfl T.nm.isinstance boot_isinstance (pa_cons (fpv 0) (pa_cons (pe_glob (v := .ref a.C_NoEars) rfl T.m_NoEars rfl) pa_nil))) (pa_cons (pe_callB (fisiN (K := K) rfl) rfl T.nm.isinstance boot_isinstance (pa_cons (fpv 0) (pa_cons (pe_glob (v := .ref a.C_NoFixed) rfl T.m_NoFixed rfl) pa_nil))) pa_nil)))))))
      (pss_cons (ps_set (i := 1) sc_kinds.nd rfl (Or.inl rfl) (pe_op fop_cat (fpv 1) (pe_lst (pa_cons (pe_callB (fisiN (K := K) rfl) rfl T.nm.isinstance boot_isinstance (pa_cons (fpv 0) (pa_cons (pe_glob (v := .ref a.C_NoNumber) rfl T.m_NoNumber rfl) pa_nil))) (pa_cons (pe_callB (fisiN (K := K) rfl) rfl T.nm.isinstance boot_isinstance (pa_cons (fpv 0) (pa_cons (pe_glob (v := .ref a.C_Unlike) rfl T.m_Unlike rfl) pa_nil))) (pa_cons (pe_callB (fisiN (K := K) rfl) rfl T.nm.isinstance boot_isinstance (pa_cons (fpv 0) (pa_cons (pe_glob (v := .ref a.C_NotOver) rfl T.m_NotOver rfl) pa_nil))) (pa_cons (pe_callB (fisiN (K := K) rfl) rfl T.nm.isinstance boot_isinstance (pa_cons (fpv 0) (pa_cons (pe_glob (v := .ref a.C_TooMuch) rfl T.m_TooMuch rfl) pa_nil))) pa_nil)))))))
      (pss_cons (ps_set (i := 1) sc_kinds.nd rfl (Or.inl rfl) (pe_op fop_cat (fpv 1) (pe_lst (pa_cons (pe_callB (fisiN (K := K) rfl) rfl T.nm.isinstance boot_isinstance (pa_cons (fpv 0) (pa_cons (pe_glob (v := .ref a.C_Parted) rfl T.m_Parted rfl) pa_nil))) (pa_cons (pe_callB (fisiN (K := K) rfl) rfl T.nm.isinstance boot_isinstance (pa_cons (fpv 0) (pa_cons (pe_glob (v := .ref a.C_Shut) rfl T.m_Shut rfl) pa_nil))) (pa_cons (pe_callB (fisiN (K := K) rfl) rfl T.nm.isinstance boot_isinstance (pa_cons (fpv 0) (pa_cons (pe_glob (v := .ref a.C_Thin) rfl T.m_Thin rfl) pa_nil))) (pa_cons (pe_callB (fisiN (K := K) rfl) rfl T.nm.isinstance boot_isinstance (pa_cons (fpv 0) (pa_cons (pe_glob (v := .ref a.C_Barred) rfl T.m_Barred rfl) pa_nil))) pa_nil)))))))
      (pss_one (ps_ret (pe_op fop_cat (fpv 1) (pe_lst (pa_cons (pe_callB (fisiN (K := K) rfl) rfl T.nm.isinstance boot_isinstance (pa_cons (fpv 0) (pa_cons (pe_glob (v := .ref a.C_NoIns) rfl T.m_NoIns rfl) pa_nil))) pa_nil))))))))), ?_⟩
    have ask := (xc_all T C hC).ask T.sp_oc T.tk_oc
    have k : ∀ D ∈ clsL a, kitE K C (.ref D) = some (decide (C = D)) := fun D hD => kit_all T hC hD
    have s60 : 60 ≤ sizeLine := by decide
    simp (config := { dsimp := false }) [CPow, CMul, CDiv, cxOf, stC, -Bool.exists_bool, -List.map_take, -Prod.forall, -Prod.exists]
    have he0 := he
    refine ⟨C, ⟨_, he0⟩, ask, _, k a.C_NoWeb (by simp [clsL]), C, ⟨_, he0⟩, ask, _, k a.C_NoText (by simp [clsL]), C, ⟨_, he0⟩, ask, _, k a.C_NoNumbers (by simp [clsL]), C, ⟨_, he0⟩, ask, _, k a.C_NoLot (by simp [clsL]), fun p0 hp0 => ?_⟩
    have s0a : Same H (upd H p0 (.lst [V.bl (decide (C = a.C_NoWeb)), V.bl (decide (C = a.C_NoText)), V.bl (decide (C = a.C_NoNumbers)), V.bl (decide (C = a.C_NoLot))])) := same_upd hp0
    have e0a : upd H p0 (.lst [V.bl (decide (C = a.C_NoWeb)), V.bl (decide (C = a.C_NoText)), V.bl (decide (C = a.C_NoNumbers)), V.bl (decide (C = a.C_NoLot))]) p0 = some (.lst [V.bl (decide (C = a.C_NoWeb)), V.bl (decide (C = a.C_NoText)), V.bl (decide (C = a.C_NoNumbers)), V.bl (decide (C = a.C_NoLot))]) := upd_same
    generalize upd H p0 (.lst [V.bl (decide (C = a.C_NoWeb)), V.bl (decide (C = a.C_NoText)), V.bl (decide (C = a.C_NoNumbers)), V.bl (decide (C = a.C_NoLot))]) = G0a at s0a e0a ⊢
    have S0a : Same H G0a := s0a
    have S0 := S0a
    have he1 := S0 _ _ he
    refine ⟨C, ⟨_, he1⟩, ask, _, k a.C_NoPoint (by simp [clsL]), C, ⟨_, he1⟩, ask, _, k a.C_NoPointing (by simp [clsL]), C, ⟨_, he1⟩, ask, _, k a.C_NoEars (by simp [clsL]), C, ⟨_, he1⟩, ask, _, k a.C_NoFixed (by simp [clsL]), fun p1 hp1 => ?_⟩
    have s1a : Same G0a (upd G0a p1 (.lst [V.bl (decide (C = a.C_NoPoint)), V.bl (decide (C = a.C_NoPointing)), V.bl (decide (C = a.C_NoEars)), V.bl (decide (C = a.C_NoFixed))])) := same_upd hp1
    have e1a : upd G0a p1 (.lst [V.bl (decide (C = a.C_NoPoint)), V.bl (decide (C = a.C_NoPointing)), V.bl (decide (C = a.C_NoEars)), V.bl (decide (C = a.C_NoFixed))]) p1 = some (.lst [V.bl (decide (C = a.C_NoPoint)), V.bl (decide (C = a.C_NoPointing)), V.bl (decide (C = a.C_NoEars)), V.bl (decide (C = a.C_NoFixed))]) := upd_same
    generalize upd G0a p1 (.lst [V.bl (decide (C = a.C_NoPoint)), V.bl (decide (C = a.C_NoPointing)), V.bl (decide (C = a.C_NoEars)), V.bl (decide (C = a.C_NoFixed))]) = G1a at s1a e1a ⊢
    have S1a : Same H G1a := S0.trans s1a
    refine ⟨_, s1a _ _ e0a, _, e1a, by simp, fun q1 hq1 => ?_⟩
    have s1b : Same G1a (upd G1a q1 (.lst ([V.bl (decide (C = a.C_NoWeb)), V.bl (decide (C = a.C_NoText)), V.bl (decide (C = a.C_NoNumbers)), V.bl (decide (C = a.C_NoLot))] ++ [V.bl (decide (C = a.C_NoPoint)), V.bl (decide (C = a.C_NoPointing)), V.bl (decide (C = a.C_NoEars)), V.bl (decide (C = a.C_NoFixed))]))) := same_upd hq1
    have e1b : upd G1a q1 (.lst ([V.bl (decide (C = a.C_NoWeb)), V.bl (decide (C = a.C_NoText)), V.bl (decide (C = a.C_NoNumbers)), V.bl (decide (C = a.C_NoLot))] ++ [V.bl (decide (C = a.C_NoPoint)), V.bl (decide (C = a.C_NoPointing)), V.bl (decide (C = a.C_NoEars)), V.bl (decide (C = a.C_NoFixed))])) q1 = some (.lst ([V.bl (decide (C = a.C_NoWeb)), V.bl (decide (C = a.C_NoText)), V.bl (decide (C = a.C_NoNumbers)), V.bl (decide (C = a.C_NoLot))] ++ [V.bl (decide (C = a.C_NoPoint)), V.bl (decide (C = a.C_NoPointing)), V.bl (decide (C = a.C_NoEars)), V.bl (decide (C = a.C_NoFixed))])) := upd_same
    generalize upd G1a q1 (.lst ([V.bl (decide (C = a.C_NoWeb)), V.bl (decide (C = a.C_NoText)), V.bl (decide (C = a.C_NoNumbers)), V.bl (decide (C = a.C_NoLot))] ++ [V.bl (decide (C = a.C_NoPoint)), V.bl (decide (C = a.C_NoPointing)), V.bl (decide (C = a.C_NoEars)), V.bl (decide (C = a.C_NoFixed))])) = G1b at s1b e1b ⊢
    have S1 : Same H G1b := S1a.trans s1b
    have he2 := S1 _ _ he
    refine ⟨C, ⟨_, he2⟩, ask, _, k a.C_NoNumber (by simp [clsL]), C, ⟨_, he2⟩, ask, _, k a.C_Unlike (by simp [clsL]), C, ⟨_, he2⟩, ask, _, k a.C_NotOver (by simp [clsL]), C, ⟨_, he2⟩, ask, _, k a.C_TooMuch (by simp [clsL]), fun p2 hp2 => ?_⟩
    have s2a : Same G1b (upd G1b p2 (.lst [V.bl (decide (C = a.C_NoNumber)), V.bl (decide (C = a.C_Unlike)), V.bl (decide (C = a.C_NotOver)), V.bl (decide (C = a.C_TooMuch))])) := same_upd hp2
    have e2a : upd G1b p2 (.lst [V.bl (decide (C = a.C_NoNumber)), V.bl (decide (C = a.C_Unlike)), V.bl (decide (C = a.C_NotOver)), V.bl (decide (C = a.C_TooMuch))]) p2 = some (.lst [V.bl (decide (C = a.C_NoNumber)), V.bl (decide (C = a.C_Unlike)), V.bl (decide (C = a.C_NotOver)), V.bl (decide (C = a.C_TooMuch))]) := upd_same
    generalize upd G1b p2 (.lst [V.bl (decide (C = a.C_NoNumber)), V.bl (decide (C = a.C_Unlike)), V.bl (decide (C = a.C_NotOver)), V.bl (decide (C = a.C_TooMuch))]) = G2a at s2a e2a ⊢
    have S2a : Same H G2a := S1.trans s2a
    refine ⟨_, s2a _ _ e1b, _, e2a, by simp, fun q2 hq2 => ?_⟩
    have s2b : Same G2a (upd G2a q2 (.lst ([V.bl (decide (C = a.C_NoWeb)), V.bl (decide (C = a.C_NoText)), V.bl (decide (C = a.C_NoNumbers)), V.bl (decide (C = a.C_NoLot))] ++ [V.bl (decide (C = a.C_NoPoint)), V.bl (decide (C = a.C_NoPointing)), V.bl (decide (C = a.C_NoEars)), V.bl (decide (C = a.C_NoFixed))] ++ [V.bl (decide (C = a.C_NoNumber)), V.bl (decide (C = a.C_Unlike)), V.bl (decide (C = a.C_NotOver)), V.bl (decide (C = a.C_TooMuch))]))) := same_upd hq2
    have e2b : upd G2a q2 (.lst ([V.bl (decide (C = a.C_NoWeb)), V.bl (decide (C = a.C_NoText)), V.bl (decide (C = a.C_NoNumbers)), V.bl (decide (C = a.C_NoLot))] ++ [V.bl (decide (C = a.C_NoPoint)), V.bl (decide (C = a.C_NoPointing)), V.bl (decide (C = a.C_NoEars)), V.bl (decide (C = a.C_NoFixed))] ++ [V.bl (decide (C = a.C_NoNumber)), V.bl (decide (C = a.C_Unlike)), V.bl (decide (C = a.C_NotOver)), V.bl (decide (C = a.C_TooMuch))])) q2 = some (.lst ([V.bl (decide (C = a.C_NoWeb)), V.bl (decide (C = a.C_NoText)), V.bl (decide (C = a.C_NoNumbers)), V.bl (decide (C = a.C_NoLot))] ++ [V.bl (decide (C = a.C_NoPoint)), V.bl (decide (C = a.C_NoPointing)), V.bl (decide (C = a.C_NoEars)), V.bl (decide (C = a.C_NoFixed))] ++ [V.bl (decide (C = a.C_NoNumber)), V.bl (decide (C = a.C_Unlike)), V.bl (decide (C = a.C_NotOver)), V.bl (decide (C = a.C_TooMuch))])) := upd_same
    generalize upd G2a q2 (.lst ([V.bl (decide (C = a.C_NoWeb)), V.bl (decide (C = a.C_NoText)), V.bl (decide (C = a.C_NoNumbers)), V.bl (decide (C = a.C_NoLot))] ++ [V.bl (decide (C = a.C_NoPoint)), V.bl (decide (C = a.C_NoPointing)), V.bl (decide (C = a.C_NoEars)), V.bl (decide (C = a.C_NoFixed))] ++ [V.bl (decide (C = a.C_NoNumber)), V.bl (decide (C = a.C_Unlike)), V.bl (decide (C = a.C_NotOver)), V.bl (decide (C = a.C_TooMuch))])) = G2b at s2b e2b ⊢
    have S2 : Same H G2b := S2a.trans s2b
    have he3 := S2 _ _ he
    refine ⟨C, ⟨_, he3⟩, ask, _, k a.C_Parted (by simp [clsL]), C, ⟨_, he3⟩, ask, _, k a.C_Shut (by simp [clsL]), C, ⟨_, he3⟩, ask, _, k a.C_Thin (by simp [clsL]), C, ⟨_, he3⟩, ask, _, k a.C_Barred (by simp [clsL]), fun p3 hp3 => ?_⟩
    have s3a : Same G2b (upd G2b p3 (.lst [V.bl (decide (C = a.C_Parted)), V.bl (decide (C = a.C_Shut)), V.bl (decide (C = a.C_Thin)), V.bl (decide (C = a.C_Barred))])) := same_upd hp3
    have e3a : upd G2b p3 (.lst [V.bl (decide (C = a.C_Parted)), V.bl (decide (C = a.C_Shut)), V.bl (decide (C = a.C_Thin)), V.bl (decide (C = a.C_Barred))]) p3 = some (.lst [V.bl (decide (C = a.C_Parted)), V.bl (decide (C = a.C_Shut)), V.bl (decide (C = a.C_Thin)), V.bl (decide (C = a.C_Barred))]) := upd_same
    generalize upd G2b p3 (.lst [V.bl (decide (C = a.C_Parted)), V.bl (decide (C = a.C_Shut)), V.bl (decide (C = a.C_Thin)), V.bl (decide (C = a.C_Barred))]) = G3a at s3a e3a ⊢
    have S3a : Same H G3a := S2.trans s3a
    refine ⟨_, s3a _ _ e2b, _, e3a, by simp, fun q3 hq3 => ?_⟩
    have s3b : Same G3a (upd G3a q3 (.lst ([V.bl (decide (C = a.C_NoWeb)), V.bl (decide (C = a.C_NoText)), V.bl (decide (C = a.C_NoNumbers)), V.bl (decide (C = a.C_NoLot))] ++ [V.bl (decide (C = a.C_NoPoint)), V.bl (decide (C = a.C_NoPointing)), V.bl (decide (C = a.C_NoEars)), V.bl (decide (C = a.C_NoFixed))] ++ [V.bl (decide (C = a.C_NoNumber)), V.bl (decide (C = a.C_Unlike)), V.bl (decide (C = a.C_NotOver)), V.bl (decide (C = a.C_TooMuch))] ++ [V.bl (decide (C = a.C_Parted)), V.bl (decide (C = a.C_Shut)), V.bl (decide (C = a.C_Thin)), V.bl (decide (C = a.C_Barred))]))) := same_upd hq3
    have e3b : upd G3a q3 (.lst ([V.bl (decide (C = a.C_NoWeb)), V.bl (decide (C = a.C_NoText)), V.bl (decide (C = a.C_NoNumbers)), V.bl (decide (C = a.C_NoLot))] ++ [V.bl (decide (C = a.C_NoPoint)), V.bl (decide (C = a.C_NoPointing)), V.bl (decide (C = a.C_NoEars)), V.bl (decide (C = a.C_NoFixed))] ++ [V.bl (decide (C = a.C_NoNumber)), V.bl (decide (C = a.C_Unlike)), V.bl (decide (C = a.C_NotOver)), V.bl (decide (C = a.C_TooMuch))] ++ [V.bl (decide (C = a.C_Parted)), V.bl (decide (C = a.C_Shut)), V.bl (decide (C = a.C_Thin)), V.bl (decide (C = a.C_Barred))])) q3 = some (.lst ([V.bl (decide (C = a.C_NoWeb)), V.bl (decide (C = a.C_NoText)), V.bl (decide (C = a.C_NoNumbers)), V.bl (decide (C = a.C_NoLot))] ++ [V.bl (decide (C = a.C_NoPoint)), V.bl (decide (C = a.C_NoPointing)), V.bl (decide (C = a.C_NoEars)), V.bl (decide (C = a.C_NoFixed))] ++ [V.bl (decide (C = a.C_NoNumber)), V.bl (decide (C = a.C_Unlike)), V.bl (decide (C = a.C_NotOver)), V.bl (decide (C = a.C_TooMuch))] ++ [V.bl (decide (C = a.C_Parted)), V.bl (decide (C = a.C_Shut)), V.bl (decide (C = a.C_Thin)), V.bl (decide (C = a.C_Barred))])) := upd_same
    generalize upd G3a q3 (.lst ([V.bl (decide (C = a.C_NoWeb)), V.bl (decide (C = a.C_NoText)), V.bl (decide (C = a.C_NoNumbers)), V.bl (decide (C = a.C_NoLot))] ++ [V.bl (decide (C = a.C_NoPoint)), V.bl (decide (C = a.C_NoPointing)), V.bl (decide (C = a.C_NoEars)), V.bl (decide (C = a.C_NoFixed))] ++ [V.bl (decide (C = a.C_NoNumber)), V.bl (decide (C = a.C_Unlike)), V.bl (decide (C = a.C_NotOver)), V.bl (decide (C = a.C_TooMuch))] ++ [V.bl (decide (C = a.C_Parted)), V.bl (decide (C = a.C_Shut)), V.bl (decide (C = a.C_Thin)), V.bl (decide (C = a.C_Barred))])) = G3b at s3b e3b ⊢
    have S3 : Same H G3b := S3a.trans s3b
    have he4 := S3 _ _ he
    refine ⟨C, ⟨_, he4⟩, ask, _, k a.C_NoIns (by simp [clsL]), fun p4 hp4 => ?_⟩
    have s4a : Same G3b (upd G3b p4 (.lst [V.bl (decide (C = a.C_NoIns))])) := same_upd hp4
    have e4a : upd G3b p4 (.lst [V.bl (decide (C = a.C_NoIns))]) p4 = some (.lst [V.bl (decide (C = a.C_NoIns))]) := upd_same
    generalize upd G3b p4 (.lst [V.bl (decide (C = a.C_NoIns))]) = G4a at s4a e4a ⊢
    have S4a : Same H G4a := S3.trans s4a
    refine ⟨_, s4a _ _ e3b, _, e4a, by simp, fun q4 hq4 => ?_⟩
    have s4b : Same G4a (upd G4a q4 (.lst ([V.bl (decide (C = a.C_NoWeb)), V.bl (decide (C = a.C_NoText)), V.bl (decide (C = a.C_NoNumbers)), V.bl (decide (C = a.C_NoLot))] ++ [V.bl (decide (C = a.C_NoPoint)), V.bl (decide (C = a.C_NoPointing)), V.bl (decide (C = a.C_NoEars)), V.bl (decide (C = a.C_NoFixed))] ++ [V.bl (decide (C = a.C_NoNumber)), V.bl (decide (C = a.C_Unlike)), V.bl (decide (C = a.C_NotOver)), V.bl (decide (C = a.C_TooMuch))] ++ [V.bl (decide (C = a.C_Parted)), V.bl (decide (C = a.C_Shut)), V.bl (decide (C = a.C_Thin)), V.bl (decide (C = a.C_Barred))] ++ [V.bl (decide (C = a.C_NoIns))]))) := same_upd hq4
    have e4b : upd G4a q4 (.lst ([V.bl (decide (C = a.C_NoWeb)), V.bl (decide (C = a.C_NoText)), V.bl (decide (C = a.C_NoNumbers)), V.bl (decide (C = a.C_NoLot))] ++ [V.bl (decide (C = a.C_NoPoint)), V.bl (decide (C = a.C_NoPointing)), V.bl (decide (C = a.C_NoEars)), V.bl (decide (C = a.C_NoFixed))] ++ [V.bl (decide (C = a.C_NoNumber)), V.bl (decide (C = a.C_Unlike)), V.bl (decide (C = a.C_NotOver)), V.bl (decide (C = a.C_TooMuch))] ++ [V.bl (decide (C = a.C_Parted)), V.bl (decide (C = a.C_Shut)), V.bl (decide (C = a.C_Thin)), V.bl (decide (C = a.C_Barred))] ++ [V.bl (decide (C = a.C_NoIns))])) q4 = some (.lst ([V.bl (decide (C = a.C_NoWeb)), V.bl (decide (C = a.C_NoText)), V.bl (decide (C = a.C_NoNumbers)), V.bl (decide (C = a.C_NoLot))] ++ [V.bl (decide (C = a.C_NoPoint)), V.bl (decide (C = a.C_NoPointing)), V.bl (decide (C = a.C_NoEars)), V.bl (decide (C = a.C_NoFixed))] ++ [V.bl (decide (C = a.C_NoNumber)), V.bl (decide (C = a.C_Unlike)), V.bl (decide (C = a.C_NotOver)), V.bl (decide (C = a.C_TooMuch))] ++ [V.bl (decide (C = a.C_Parted)), V.bl (decide (C = a.C_Shut)), V.bl (decide (C = a.C_Thin)), V.bl (decide (C = a.C_Barred))] ++ [V.bl (decide (C = a.C_NoIns))])) := upd_same
    exact q q4 _ (fresh_of S4a hq4) (by rw [upd_same]; rfl) (S4a.trans s4b)
end K17
set_option Elab.async false
set_option linter.all false
set_option maxRecDepth 100000
set_option maxHeartbeats 4000000
namespace K17
open PySem L2
variable {P : Program} {w : World} {K : PySem.W.Frag} {mg : Str → Option Value} {base : Heap} {a : Adr}
def plainL (a : Adr) : List Addr := [a.C_NoWeb, a.C_NoText, a.C_NoNumbers, a.C_NoLot, a.C_NoPoint, a.C_NoPointing, a.C_NoEars, a.C_NoFixed, a.C_NoNumber, a.C_Unlike, a.C_NotOver, a.C_TooMuch]
theorem tNil1 {σ : St} : ∀ (H : Hp) (Q : List V → Hp → Prop), (∀ vs, vs.length ≤ 1 → Q vs H) → tNil σ H Q := fun H Q q => q [] (by simp)
theorem tOne {σ : St} {i : Nat} {v : V} (h : σ[i]? = some (some v)) : ∀ (H : Hp) (Q : List V → Hp → Prop), (∀ vs, vs.length ≤ 1 → Q vs H) → tCons (fVar i) tNil σ H Q := fun H Q q => getSt.of h (q [v] (by simp))
def sp_of_nothing (a : Adr) : Sp := fun vs H Q _ => vs = [] ∧ ∀ (r : Addr) (us : List V) (H' : Hp), H r = none → H' r = some (.lst us) → ExsAt H' us (plainL a) → Same H H' → Q (.ref r) H'
theorem ok_of_nothing (T : Txt K mg a) : FnOk P w K mg base CX0 1 a.f_of_nothing a.fd_of_nothing [] (sp_of_nothing a) := by
  refine T.F_of_nothing.okL sc_of_nothing (fun vs H Q E h => ?_) (fun cdv A outer s H vs Q E hr h => ?_)
  · obtain ⟨rfl, _⟩ := h
    rfl
  · obtain ⟨rfl, q⟩ := h
    refine ⟨_, (@PSsq.out _ _ _ (pssq_cons (psq_set (i := 0) sc_of_nothing.nd rfl (Or.inl rfl) (peq_big (peq_lst (paq_cons (pe_excNew0 rfl T.x_NoWeb T.xc_NoWeb.kp rfl T.m_NoWeb) (paq_cons (pe_excNew0 rfl T.x_NoText T.xc_NoText.kp rfl T.m_NoText) (paq_cons (pe_excNew0 rfl T.x_NoNumbers T.xc_NoNumbers.kp rfl T.m_NoNumbers) (paq_cons (pe_excNew0 rfl T.x_NoLot T.xc_NoLot.kp rfl T.m_NoLot) (paq_cons (pe_excNew0 rfl T.x_NoPoint T.xc_NoPoint.kp rfl T.m_NoPoint) (paq_cons (pe_excNew0 rfl T.x_NoPointing T.xc_NoPointing.kp rfl T.m_NoPointing) (paq_cons (pe_excNew0 rfl T.x_NoEars T.xc_NoEars.kp rfl T.m_NoEars) (paq_cons (pe_excNew0 rfl T.x_NoFixed T.xc_NoFixed.kp rfl T.m_NoFixed) (paq_cons (pe_excNew0 rfl T.x_NoNumber T.xc_NoNumber.kp rfl T.m_NoNumber) paq_nil))))))))))))
      (PSsq.mk (pss_one (ps_ret (pe_op fop_cat (fpv 0) (pe_big (pe_lst (pa_cons (pe_excNew0 rfl T.x_Unlike T.xc_Unlike.kp rfl T.m_Unlike) (pa_cons (pe_excNew0 rfl T.x_NotOver T.xc_NotOver.kp rfl T.m_NotOver) (pa_cons (pe_excNew0 rfl T.x_TooMuch T.xc_TooMuch.kp rfl T.m_TooMuch) pa_nil))))))))))), ?_⟩
    simp (config := { dsimp := false }) [CPow, CMul, CDiv, cxOf, stC, -Bool.exists_bool, -List.map_take, -Prod.forall, -Prod.exists]
    refine big_lstN (xns_cons tNil1 (xns_cons tNil1 (xns_cons tNil1 (xns_cons tNil1 (xns_cons tNil1 (xns_cons tNil1 (xns_cons tNil1 (xns_cons tNil1 (xns_cons tNil1 xns_nil))))))))) (by show (9 : Nat) ≤ sizeLine; decide) fun b1 w1 H1 hb1 s1 e1 x1 => ?_
    simp (config := { dsimp := false }) [CPow, CMul, CDiv, cxOf, stC, -Bool.exists_bool, -List.map_take, -Prod.forall, -Prod.exists]
    refine big_lstN (xns_cons tNil1 (xns_cons tNil1 (xns_cons tNil1 xns_nil))) (by show (3 : Nat) ≤ sizeLine; decide) fun b2 w2 H2 hb2 s2 e2 x2 => ?_
    simp (config := { dsimp := false }) [CPow, CMul, CDiv, cxOf, stC, -Bool.exists_bool, -List.map_take, -Prod.forall, -Prod.exists]
    refine ⟨_, s2 _ _ e1, _, e2, by rw [x1.length, x2.length]; show (12 : Nat) ≤ sizeLine; decide, fun b3 hb3 => ?_⟩
    have S2 := s1.trans s2
    exact q b3 _ _ (fresh_of S2 hb3) upd_same ((x1.same (s2.trans (same_upd hb3))).app (x2.same (same_upd hb3))) (S2.trans (same_upd hb3))
def sp_of_text (a : Adr) : Sp := fun vs H Q _ => ∃ x : Str, vs = [.str x] ∧ ∀ (r : Addr) (us : List V) (H' : Hp), H r = none → H' r = some (.lst us) → ExsAt H' us (plainL a) → Same H H' → Q (.ref r) H'
theorem ok_of_text (T : Txt K mg a) : FnOk P w K mg base CX0 1 a.f_of_text a.fd_of_text ["_law_text"] (sp_of_text a) := by
  refine T.F_of_text.okL sc_of_text (fun vs H Q E h => ?_) (fun cdv A outer s H vs Q E hr h => ?_)
  · obtain ⟨x, rfl, _⟩ := h
    rfl
  · obtain ⟨x, rfl, q⟩ := h
    refine ⟨_, (@PSsq.out _ _ _ (pssq_cons (psq_set (i := 1) sc_of_text.nd rfl (Or.inl rfl) (peq_big (peq_lst (paq_cons (pe_excNew rfl T.x_NoWeb T.xc_NoWeb.kp rfl T.m_NoWeb (pa_cons (fpv 0) pa_nil)) (paq_cons (pe_excNew rfl T.x_NoText T.xc_NoText.kp rfl T.m_NoText (pa_cons (fpv 0) pa_nil)) (paq_cons (pe_excNew rfl T.x_NoNumbers T.xc_NoNumbers.kp rfl T.m_NoNumbers (pa_cons (fpv 0) pa_nil)) (paq_cons (pe_excNew rfl T.x_NoLot T.xc_NoLot.kp rfl T.m_NoLot (pa_cons (fpv 0) pa_nil)) (paq_cons (pe_excNew rfl T.x_NoPoint T.xc_NoPoint.kp rfl T.m_NoPoint (pa_cons (fpv 0) pa_nil)) (paq_cons (pe_excNew rfl T.x_NoPointing T.xc_NoPointing.kp rfl T.m_NoPointing (pa_cons (fpv 0) pa_nil)) (paq_cons (pe_excNew rfl T.x_NoEars T.xc_NoEars.kp rfl T.m_NoEars (pa_cons (fpv 0) pa_nil)) paq_nil))))))))))
      (PSsq.mk (pss_one (ps_ret (pe_op fop_cat (fpv 1) (pe_big (pe_lst (pa_cons (pe_excNew rfl T.x_NoFixed T.xc_NoFixed.kp rfl T.m_NoFixed (pa_cons (fpv 0) pa_nil)) (pa_cons (pe_excNew rfl T.x_NoNumber T.xc_NoNumber.kp rfl T.m_NoNumber (pa_cons (fpv 0) pa_nil)) (pa_cons (pe_excNew rfl T.x_Unlike T.xc_Unlike.kp rfl T.m_Unlike (pa_cons (fpv 0) pa_nil)) (pa_cons (pe_excNew rfl T.x_NotOver T.xc_NotOver.kp rfl T.m_NotOver (pa_cons (fpv 0) pa_nil)) (pa_cons (pe_excNew rfl T.x_TooMuch T.xc_TooMuch.kp rfl T.m_TooMuch (pa_cons (fpv 0) pa_nil)) pa_nil))))))))))))), ?_⟩
    simp (config := { dsimp := false }) [CPow, CMul, CDiv, cxOf, stC, -Bool.exists_bool, -List.map_take, -Prod.forall, -Prod.exists]
    have t1 : ∀ {o : Option V} (H : Hp) (Q : List V → Hp → Prop), (∀ vs, vs.length ≤ 1 → Q vs H) → tCons (fVar 0) tNil [some (V.str x), o] H Q := tOne rfl
    refine big_lstN (xns_cons t1 (xns_cons t1 (xns_cons t1 (xns_cons t1 (xns_cons t1 (xns_cons t1 (xns_cons t1 xns_nil))))))) (by show (7 : Nat) ≤ sizeLine; decide) fun b1 w1 H1 hb1 s1 e1 x1 => ?_
    simp (config := { dsimp := false }) [CPow, CMul, CDiv, cxOf, stC, -Bool.exists_bool, -List.map_take, -Prod.forall, -Prod.exists]
    refine big_lstN (xns_cons t1 (xns_cons t1 (xns_cons t1 (xns_cons t1 (xns_cons t1 xns_nil))))) (by show (5 : Nat) ≤ sizeLine; decide) fun b2 w2 H2 hb2 s2 e2 x2 => ?_
    simp (config := { dsimp := false }) [CPow, CMul, CDiv, cxOf, stC, -Bool.exists_bool, -List.map_take, -Prod.forall, -Prod.exists]
    refine ⟨_, s2 _ _ e1, _, e2, by rw [x1.length, x2.length]; show (12 : Nat) ≤ sizeLine; decide, fun b3 hb3 => ?_⟩
    have S2 := s1.trans s2
    exact q b3 _ _ (fresh_of S2 hb3) upd_same ((x1.same (s2.trans (same_upd hb3))).app (x2.same (same_upd hb3))) (S2.trans (same_upd hb3))
end K17
set_option Elab.async false
set_option linter.all false
set_option maxRecDepth 100000
set_option maxHeartbeats 4000000
namespace K17
open PySem L2
variable {P : Program} {w : World} {K : PySem.W.Frag} {mg : Str → Option Value} {base : Heap} {a : Adr}
theorem kinds_one {a : Adr} (nd : (clsL a).Nodup) {j : Nat} {C : Addr} (h : (clsL a)[j]? = some C) : (kindsB a C).count true = 1 ∧ true ∈ kindsB a C ∧ (kindsB a C).idxOf true = j := by
  have key : ∀ {l : List Addr} {j : Nat}, l.Nodup → l[j]? = some C → (l.map fun D => decide (C = D)).count true = 1 ∧ true ∈ l.map (fun D => decide (C = D)) ∧ (l.map fun D => decide (C = D)).idxOf true = j := by
    intro l
    induction l with
    | nil => intro j _ h; simp at h
    | cons D l ih =>
      intro j nd h
      obtain ⟨n1, n2⟩ := List.nodup_cons.mp nd
      cases j with
      | zero =>
        simp at h
        subst h
        have z : (l.map fun D' => decide (D = D')).count true = 0 := by
          rw [List.count_eq_zero]
          intro m
          obtain ⟨D', h1, h2⟩ := List.mem_map.mp m
          have := of_decide_eq_true h2
          exact n1 (this ▸ h1)
        refine ⟨by rw [List.map_cons, List.count_cons, z]; simp, by simp, by simp⟩
      | succ j =>
        have h' : l[j]? = some C := by simpa using h
        obtain ⟨i1, i2, i3⟩ := ih n2 h'
        have ne : C ≠ D := fun z => n1 (z ▸ List.mem_of_getElem? h')
        have e : decide (C = D) = false := decide_eq_false ne
        refine ⟨?_, ?_, ?_⟩
        · rw [List.map_cons, e, List.count_cons, i1]; simp
        · rw [List.map_cons]; exact List.mem_cons_of_mem _ i2
        · rw [List.map_cons, e, List.idxOf_cons, i3]; simp
  exact key nd h
def sp_are_kinds (a : Adr) : Sp := fun vs H Q _ => ∃ (r : Addr) (f : Nat) (us : List V) (Cs : List Addr), vs = [.ref r, .int f] ∧ H r = some (.lst us) ∧ ExsAt H us Cs ∧ Cs.length ≤ 20 ∧ f ≤ 100 ∧ (∀ i C, Cs[i]? = some C → (clsL a)[f + i]? = some C) ∧ ∀ H', Same H H' → Q (.bl true) H'
theorem ok_are_kinds (T : Txt K mg a) : FnOk P w K mg base CX0 2 a.f_are_kinds a.fd_are_kinds ["_law_some", "_law_first"] (sp_are_kinds a) := by
  refine T.F_are_kinds.okL sc_are_kinds (fun vs H Q E h => ?_) (fun cdv A outer s H vs Q E hr h => ?_)
  · obtain ⟨r, f, us, Cs, rfl, _⟩ := h
    rfl
  · obtain ⟨r, f, us, Cs, rfl, hr0, hx, hl, hf, hC, q⟩ := h
    refine ⟨_, (pss_cons (ps_for PassesOwn.never rfl (PI.eqv (pi_enum (K := K) rfl rfl T.nm2.enumerate (pa_cons (fpv 0) pa_nil)) (fiEnum_eq _ _)) (PG.eqv (pg_tupk (K := K) (n := 2) rfl rfl (PGs.eqv (pgs_cons (pg_name (i := 2) sc_are_kinds.nd rfl (Or.inl rfl)) (PGs.eqv (pgs_cons (pg_name (i := 3) sc_are_kinds.nd rfl (Or.inl rfl)) (PGs.mono pgs_nil fNil_t)) (fCons_eq _ _))) (fCons_eq _ _))) (fTup_eq _ _ _))
      (pss_cons (ps_set (i := 4) sc_are_kinds.nd rfl (Or.inl rfl) (PE.eqv (pe_call (ok_kinds (K := K) T) (hr.mono (by decide)) rfl T.m_kinds T.F_kinds.kp T.b_kinds .nil pass0 (pa_cons (fpv 3) pa_nil)) (fCall_eq _ _ _)))
      (pss_cons (ps_if (PW.pt (pw_or (pt_not (fpt_val (pe_callB (fisiN (K := K) rfl) rfl T.nm.isinstance boot_isinstance (pa_cons (fpv 3) (pa_cons (pe_glob (v := .ref a.C_PointError) rfl T.m_PointError rfl) pa_nil))))) (pw_or (pt_not (fpt_val (pe_callB (fisiN (K := K) rfl) rfl T.nm.isinstance boot_isinstance (pa_cons (fpv 3) (pa_cons (pe_bltn (v := .ty "ValueError") rfl T.z_ValueError boot_ve rfl) pa_nil))))) (pw_or1 (fpt_cmpR fop_ne (pe_bmk (K := K) rfl PySem.F.plainAttrs_list PySem.F.slot_list_count PySem.F.type_list_count (fmt_countB (K := K) rfl) (fpv 4) (pa_cons pe_bl pa_nil)) pe_int (nomark _)))))) (pss_one (ps_ret pe_bl)) pss_nil)
      (pss_one (ps_if (fpt_cmpR fop_ne (pe_bmk (K := K) rfl PySem.F.plainAttrs_list PySem.F.slot_list_index PySem.F.type_list_index (fmt_indexB (K := K) rfl) (fpv 4) (pa_cons pe_bl pa_nil)) (pe_op fop_add (fpv 1) (fpv 2)) (nomark _)) (pss_one (ps_ret pe_bl)) pss_nil)))))
      (pss_one (ps_ret pe_bl))), ?_⟩
    have ndL := (List.nodup_cons.mp T.nd).2
    have nB := (List.nodup_cons.mp T.nd).1
    simp (config := { dsimp := false }) [CPow, CMul, CDiv, cxOf, stC, -Bool.exists_bool, -List.map_take, -Prod.forall, -Prod.exists]
    refine ⟨⟨_, SqL.of hr0⟩, frE us (fun i σ H' => (∃ o2 o3 o4, σ = [some (.ref r), some (.int f), o2, o3, o4]) ∧ Same H H') ⟨⟨_, _, _, rfl⟩, Same.refl _⟩ (fun i σ H' _ h => SqL.of (h.2 _ _ hr0)) ?_ ?_⟩
    · rintro i x t σ H1 hi ht ⟨⟨o2, o3, o4, rfl⟩, s1⟩
      obtain ⟨C, e, od, hCi, rfl, he⟩ := hx.at hi
      have hj := hC i C hCi
      have hm : C ∈ clsL a := List.mem_of_getElem? hj
      obtain ⟨c1, c2, c3⟩ := kinds_one ndL hj
      have xc := xc_all T C hm
      have ask := xc.ask T.sp_oc T.tk_oc
      have hil : i < us.length := (List.getElem?_eq_some_iff.mp hi).1
      have hul := hx.length
      have s2 : Same H1 (upd H1 t (.tup [.int i, .ref e])) := same_upd ht
      have e2 : upd H1 t (.tup [.int i, .ref e]) t = some (.tup [.int i, .ref e]) := upd_same
      generalize upd H1 t (.tup [.int i, .ref e]) = H2 at s2 e2 ⊢
      have S2 := s1.trans s2
      refine ⟨_, SqT.of e2, rfl, ?_⟩
      simp (config := { dsimp := false }) [CPow, CMul, CDiv, cxOf, stC, -Bool.exists_bool, -List.map_take, -Prod.forall, -Prod.exists]
      refine ⟨e, C, od, rfl, S2 _ _ he, hm, fun b H3 hb0 hb3 s3 => ?_⟩
      have S3 := S2.trans s3
      simp (config := { dsimp := false }) [CPow, CMul, CDiv, cxOf, stC, -Bool.exists_bool, -List.map_take, -Prod.forall, -Prod.exists]
      refine ⟨C, ⟨_, S3 _ _ he⟩, ask, _, xc.kitB T.ib T.tb (fun z => nB (z ▸ hm)), ?_⟩
      simp (config := { dsimp := false }) [CPow, CMul, CDiv, cxOf, stC, -Bool.exists_bool, -List.map_take, -Prod.forall, -Prod.exists]
      refine ⟨C, ⟨_, S3 _ _ he⟩, ask, _, xc.kitV, ?_⟩
      simp (config := { dsimp := false }) [CPow, CMul, CDiv, cxOf, stC, -Bool.exists_bool, -List.map_take, -Prod.forall, -Prod.exists]
      refine ⟨⟨_, SqL.of hb3⟩, _, SqL.of hb3, false, by rw [c1]; rfl, tBr.neg rfl ?_⟩
      simp (config := { dsimp := false }) [CPow, CMul, CDiv, cxOf, stC, -Bool.exists_bool, -List.map_take, -Prod.forall, -Prod.exists]
      refine ⟨⟨_, SqL.of hb3⟩, _, SqL.of hb3, c2, ?_⟩
      rw [c3]
      refine ⟨false, by simp, tBr.neg rfl ?_⟩
      simp (config := { dsimp := false }) [CPow, CMul, CDiv, cxOf, stC, -Bool.exists_bool, -List.map_take, -Prod.forall, -Prod.exists]
      exact S3
    · rintro σ H1 ⟨⟨o2, o3, o4, rfl⟩, s1⟩
      simp (config := { dsimp := false }) [CPow, CMul, CDiv, cxOf, stC, -Bool.exists_bool, -List.map_take, -Prod.forall, -Prod.exists]
      exact q _ s1
theorem ok_words : PyData.strOk (Str.ofString "within") = true ∧ PyData.strOk (Str.ofString "touching") = true := by decide +kernel
def valL (a : Adr) : List Addr := [a.C_Parted, a.C_Shut, a.C_Thin, a.C_Barred, a.C_NoIns]
theorem plain_at (a : Adr) : ∀ i C, (plainL a)[i]? = some C → (clsL a)[0 + i]? = some C := by
  intro i C h
  rw [Nat.zero_add]
  have e : clsL a = plainL a ++ valL a := rfl
  rw [e, List.getElem?_append_left (List.getElem?_eq_some_iff.mp h).1]
  exact h
theorem val_at (a : Adr) : ∀ i C, (valL a)[i]? = some C → (clsL a)[12 + i]? = some C := by
  intro i C h
  have e : clsL a = plainL a ++ valL a := rfl
  have l : (plainL a).length = 12 := rfl
  rw [e, List.getElem?_append_right (by omega), l]
  simpa using h
def sp_law (K : PySem.W.Frag) : Sp := fun vs H Q _ => ∃ (l : Addr) (ns : List Int), vs = [.ref l] ∧ SqL K H l (ns.map V.int) ∧ ns.length ≤ 63 ∧ ∀ H', Q (.bl true) H'
theorem ok_law (T : Txt K mg a) : FnOk P w K mg base CX0 5 a.f_law a.fd_law ["_law_script"] (sp_law K) := by
  refine T.F_law.okL sc_law (fun vs H Q E h => ?_) (fun cdv A outer s H vs Q E hr h => ?_)
  · obtain ⟨l, ns, rfl, _⟩ := h
    rfl
  · obtain ⟨sl, ns0, rfl, hS, hlen0, q⟩ := h
    refine ⟨_, (pss_cons (ps_for PassesOwn.never rfl (PI.eqv (pi_range1 rfl T.nm.range (pa_cons (pe_callB (fcall_max2 rfl) rfl T.nm.max boot_max (pa_cons pe_int (pa_cons (pe_callB (fcall_min2 rfl) rfl T.nm.min boot_min (pa_cons (pe_callB (flenQk (K := K) rfl) rfl T.nm.len PySem.boot_len (pa_cons (fpv 0) pa_nil)) (pa_cons pe_int pa_nil))) pa_nil))) pa_nil)) (fiRng1_eq _)) (pg_name (i := 1) sc_law.nd rfl (Or.inl rfl))
      (pss_cons (ps_set (i := 2) sc_law.nd rfl (Or.inl rfl) (PE.eqv (pe_call (ok_pot (K := K) T) (hr.mono (by decide)) rfl T.m_pot T.F_pot.kp T.b_pot .nil pass0 (pa_cons (fpv 0) (pa_cons (fpv 1) pa_nil))) (fCall_eq _ _ _)))
      (pss_cons (ps_set (i := 3) sc_law.nd rfl (Or.inl rfl) (PE.eqv (pe_call (ok_names (K := K) T) (hr.mono (by decide)) rfl T.m_names T.F_names.kp T.b_names .nil pass0 (pa_cons (fpv 2) (pa_cons (pe_op fop_add pe_int (PE.eqv (pe_call (ok_take (K := K) T) (hr.mono (by decide)) rfl T.m_take T.F_take.kp T.b_take .nil pass0 (pa_cons (fpv 2) (pa_cons pe_int pa_nil))) (fCall_eq _ _ _))) pa_nil))) (fCall_eq _ _ _)))
      (pss_cons (ps_set (i := 4) sc_law.nd rfl (Or.inl rfl) (PE.eqv (pe_call (ok_take (K := K) T) (hr.mono (by decide)) rfl T.m_take T.F_take.kp T.b_take .nil pass0 (pa_cons (fpv 2) (pa_cons pe_int pa_nil))) (fCall_eq _ _ _)))
      (pss_cons (ps_set (i := 5) sc_law.nd rfl (Or.inl rfl) (pe_ix (fixQk (K := K) rfl) (pe_lst (pa_cons pe_str (pa_cons pe_str pa_nil))) (PE.eqv (pe_call (ok_take (K := K) T) (hr.mono (by decide)) rfl T.m_take T.F_take.kp T.b_take .nil pass0 (pa_cons (fpv 2) (pa_cons pe_int pa_nil))) (fCall_eq _ _ _)) (fun _ _ => rfl)))
      (pss_cons (ps_par3 (i := 6) (j := 7) (k := 8) rfl sc_law.nd rfl rfl rfl (by decide) (by decide) (by decide) rfl rfl rfl (pa_cons (pe_makeX rfl T.mk_Parted (ok_Parted_init (K := K) T) (hr.mono (by decide)) rfl T.m_Parted T.b_Parted_init (pa_cons (pe_callTy (flistOfk (K := K) rfl) rfl T.nm.list boot_list (pa_cons (fpv 3) pa_nil)) pa_nil)) (pa_cons (pe_makeX rfl T.mk_Shut (ok_Shut_init (K := K) T) (hr.mono (by decide)) rfl T.m_Shut T.b_Shut_init (pa_cons (pe_callTy (flistOfk (K := K) rfl) rfl T.nm.list boot_list (pa_cons (fpv 3) pa_nil)) pa_nil)) (pa_cons (pe_makeX rfl T.mk_Thin (ok_Thin_init (K := K) T) (hr.mono (by decide)) rfl T.m_Thin T.b_Thin_init (pa_cons (pe_callTy (flistOfk (K := K) rfl) rfl T.nm.list boot_list (pa_cons (fpv 3) pa_nil)) pa_nil)) pa_nil))) rfl)
      (pss_cons (PS.eqv (ps_par (i := 9) (j := 10) rfl sc_law.nd rfl rfl (by decide) rfl rfl (pa_cons (pe_makeX rfl T.mk_Barred (ok_Barred_init (K := K) T) (hr.mono (by decide)) rfl T.m_Barred T.b_Barred_init (pa_cons (fpv 4) (pa_cons (pe_callTy (flistOfk (K := K) rfl) rfl T.nm.list boot_list (pa_cons (fpv 3) pa_nil)) pa_nil))) (pa_cons (pe_makeX rfl T.mk_NoIns (ok_NoIns_init (K := K) T) (hr.mono (by decide)) rfl T.m_NoIns T.b_NoIns_init (pa_cons (fpv 5) (pa_cons (pe_callTy (flistOfk (K := K) rfl) rfl T.nm.list boot_list (pa_cons (fpv 3) pa_nil)) pa_nil))) pa_nil)) rfl) (fPar_eq _ _ _))
      (pss_cons (ps_if (PW.pt (pw_or (pt_not (fpt_val (PE.eqv (pe_call (ok_are_kinds (K := K) T) (hr.mono (by decide)) rfl T.m_are_kinds T.F_are_kinds.kp T.b_are_kinds .nil pass0 (pa_cons (PE.eqv (pe_call0 (ok_of_nothing (K := K) T) (hr.mono (by decide)) rfl T.m_of_nothing T.F_of_nothing.kp T.b_of_nothing .nil pass0) (fCall_eq _ _ _)) (pa_cons pe_int pa_nil))) (fCall_eq _ _ _)))) (pw_or1 (pt_not (fpt_val (PE.eqv (pe_call (ok_are_kinds (K := K) T) (hr.mono (by decide)) rfl T.m_are_kinds T.F_are_kinds.kp T.b_are_kinds .nil pass0 (pa_cons (PE.eqv (pe_call (ok_of_text (K := K) T) (hr.mono (by decide)) rfl T.m_of_text T.F_of_text.kp T.b_of_text .nil pass0 (pa_cons (fpv 5) pa_nil)) (fCall_eq _ _ _)) (pa_cons pe_int pa_nil))) (fCall_eq _ _ _))))))) (pss_one (ps_ret pe_bl)) pss_nil)
      (pss_cons (ps_if (pt_not (fpt_val (PE.eqv (pe_call (ok_are_kinds (K := K) T) (hr.mono (by decide)) rfl T.m_are_kinds T.F_are_kinds.kp T.b_are_kinds .nil pass0 (pa_cons (pe_lst (pa_cons (fpv 6) (pa_cons (fpv 7) (pa_cons (fpv 8) (pa_cons (fpv 9) (pa_cons (fpv 10) pa_nil)))))) (pa_cons pe_int pa_nil))) (fCall_eq _ _ _)))) (pss_one (ps_ret pe_bl)) pss_nil)
      (pss_one (ps_if (PW.pt (pw_or (fpt_cmpR (fopNeD (K := K) rfl hr.units) (pe_lst (pa_cons (pe_xget T.xc_Parted.get T.na_Parted_lot (fpv 6) rfl) (pa_cons (pe_xget T.xc_Shut.get T.na_Shut_lot (fpv 7) rfl) (pa_cons (pe_xget T.xc_Thin.get T.na_Thin_lot (fpv 8) rfl) (pa_cons (pe_xget T.xc_Barred.get T.na_Barred_lot (fpv 9) rfl) (pa_cons (pe_xget T.xc_NoIns.get T.na_NoIns_part (fpv 10) rfl) pa_nil)))))) (pe_op op_rep (pe_lst (pa_cons (fpv 3) pa_nil)) pe_int) (nomark _)) (pw_or1 (fpt_cmpR (fopNeD (K := K) rfl hr.units) (pe_tup (pa_cons (pe_xget T.xc_Barred.get T.na_Barred_tie (fpv 9) rfl) (pa_cons (pe_xget T.xc_NoIns.get T.na_NoIns_word (fpv 10) rfl) pa_nil))) (pe_tup (pa_cons (fpv 4) (pa_cons (fpv 5) pa_nil))) (nomark _))))) (pss_one (ps_ret pe_bl)) pss_nil)))))))))))
      (pss_one (ps_ret pe_bl))), ?_⟩
    have s60 : 60 ≤ sizeLine := by decide
    simp (config := { dsimp := false }) [CPow, CMul, CDiv, cxOf, stC, -Bool.exists_bool, -List.map_take, -Prod.forall, -Prod.exists]
    refine ⟨_, .inl hS, ?_⟩
    simp only [List.length_map]
    obtain ⟨m, hm, hm6⟩ : ∃ m : Nat, (if 1 < if 6 < (ns0.length : Int) then 6 else (ns0.length : Int) then if 6 < (ns0.length : Int) then 6 else (ns0.length : Int) else 1) = m ∧ m ≤ 6 := by
      by_cases h1 : 6 < (ns0.length : Int)
      · rw [if_pos h1]
        exact ⟨6, rfl, by decide⟩
      · rw [if_neg h1]
        by_cases h2 : 1 < (ns0.length : Int)
        · exact ⟨ns0.length, by rw [if_pos h2], by omega⟩
        · exact ⟨1, by rw [if_neg h2]; rfl, by decide⟩
    simp only [hm, Int.toNat_natCast]
    refine ⟨by omega, by omega, frR (fun i σ H' => (∃ o1 o2 o3 o4 o5 o6 o7 o8 o9 o10, σ = [some (.ref sl), o1, o2, o3, o4, o5, o6, o7, o8, o9, o10]) ∧ Same H H') ⟨⟨_, _, _, _, _, _, _, _, _, _, rfl⟩, Same.refl _⟩ ?_ ?_⟩
    · rintro i σ H0 hi ⟨⟨o1, o2, o3, o4, o5, o6, o7, o8, o9, o10, rfl⟩, s0⟩
      simp (config := { dsimp := false }) [CPow, CMul, CDiv, cxOf, stC, -Bool.exists_bool, -List.map_take, -Prod.forall, -Prod.exists]
      refine ⟨sl, ns0, i, rfl, s0.seq hS, by omega, fun p Hp hp0 hPp hBp => ?_⟩
      have sp1 : Same H0 Hp := fun b o e => hBp b o (ne_of_none e hp0) e
      simp (config := { dsimp := false }) [CPow, CMul, CDiv, cxOf, stC, -Bool.exists_bool, -List.map_take, -Prod.forall, -Prod.exists]
      refine ⟨p, _, rfl, hPp, by decide, by decide, fun d H1 hd0 hd1 hP1 hB1 => ?_⟩
      simp (config := { dsimp := false }) [CPow, CMul, CDiv, cxOf, stC, -Bool.exists_bool, -List.map_take, -Prod.forall, -Prod.exists]
      refine ⟨p, (1 + d).toNat, by simp; omega, hP1, by omega, by omega, fun r xs H2 hr0 hr2 hxo hxl hP2 hB2 => ?_⟩
      simp (config := { dsimp := false }) [CPow, CMul, CDiv, cxOf, stC, -Bool.exists_bool, -List.map_take, -Prod.forall, -Prod.exists]
      refine ⟨p, _, rfl, hP2, by decide, by decide, fun ti H3 ht0 ht1 hP3 hB3 => ?_⟩
      have rp : r ≠ p := fun z => by
        obtain ⟨_, _, u, _⟩ := hP1
        rw [z, u] at hr0
        cases hr0
      have hr3 := hB3 _ _ rp hr2
      have B3 : But p Hp H3 := (hB1.trans hB2).trans hB3
      simp (config := { dsimp := false }) [CPow, CMul, CDiv, cxOf, stC, -Bool.exists_bool, -List.map_take, -Prod.forall, -Prod.exists]
      intro b0 hb0
      have s3 : Same H3 (upd H3 b0 (.lst [V.str (Str.ofString "within"), V.str (Str.ofString "touching")])) := same_upd hb0
      have e3 : upd H3 b0 (.lst [V.str (Str.ofString "within"), V.str (Str.ofString "touching")]) b0 = some (.lst [V.str (Str.ofString "within"), V.str (Str.ofString "touching")]) := upd_same
      generalize upd H3 b0 (.lst [V.str (Str.ofString "within"), V.str (Str.ofString "touching")]) = H3' at s3 e3 ⊢
      refine ⟨p, _, rfl, hP3.keepS s3, by decide, by decide, fun wi H4 hw0 hw1 hP4 hB4 => ?_⟩
      have b0p : b0 ≠ p := fun z => by
        obtain ⟨_, _, u, _⟩ := hP3
        rw [z, u] at hb0
        cases hb0
      obtain ⟨wd, hat, hwo⟩ : ∃ wd : Str, atI [V.str (Str.ofString "within"), V.str (Str.ofString "touching")] wi = some (.str wd) ∧ PyData.strOk wd = true := by
        have hz : wi = ((0 : Nat) : Int) ∨ wi = ((1 : Nat) : Int) := by omega
        rcases hz with rfl | rfl
        · exact ⟨_, atI_nat (j := 0) rfl, ok_words.1⟩
        · exact ⟨_, atI_nat (j := 1) rfl, ok_words.2⟩
      have hr4 := hB4 _ _ rp (s3 _ _ hr3)
      have B4 : But p Hp H4 := (B3.trans (But.of s3)).trans hB4
      simp (config := { dsimp := false }) [CPow, CMul, CDiv, cxOf, stC, -Bool.exists_bool, -List.map_take, -Prod.forall, -Prod.exists]
      refine ⟨_, .inl (SqL.of (hB4 _ _ b0p e3)), _, hat, ?_⟩
      refine ⟨_, .inl (SqL.of hr4), fun l1 hl1 => ?_⟩
      have u1 : Same H4 (upd H4 l1 (.lst (xs.map V.str))) := same_upd hl1
      have v1 : upd H4 l1 (.lst (xs.map V.str)) l1 = some (.lst (xs.map V.str)) := upd_same
      generalize upd H4 l1 (.lst (xs.map V.str)) = M1a at u1 v1 ⊢
      refine fun e1 he1 => ?_
      refine ⟨e1, l1, _, rfl, upd_same, by rw [upd_ne (ne_of_none v1 he1)]; exact v1, fun b1 M1 hb1 hL1 bear1 but1 => ⟨rfl, ?_⟩⟩
      have w1 : Same H4 M1 := fun c o z => but1 c o (ne_of_none (u1 _ _ z) he1) (by rw [upd_ne (ne_of_none (u1 _ _ z) he1)]; exact u1 _ _ z)
      have hr5 := w1 _ _ hr4
      simp (config := { dsimp := false }) [CPow, CMul, CDiv, cxOf, stC, -Bool.exists_bool, -List.map_take, -Prod.forall, -Prod.exists]
      refine ⟨_, .inl (SqL.of hr5), fun l2 hl2 => ?_⟩
      have u2 : Same M1 (upd M1 l2 (.lst (xs.map V.str))) := same_upd hl2
      have v2 : upd M1 l2 (.lst (xs.map V.str)) l2 = some (.lst (xs.map V.str)) := upd_same
      generalize upd M1 l2 (.lst (xs.map V.str)) = M2a at u2 v2 ⊢
      refine fun e2 he2 => ?_
      refine ⟨e2, l2, _, rfl, upd_same, by rw [upd_ne (ne_of_none v2 he2)]; exact v2, fun b2 M2 hb2 hL2 bear2 but2 => ⟨rfl, ?_⟩⟩
      have w2 : Same M1 M2 := fun c o z => but2 c o (ne_of_none (u2 _ _ z) he2) (by rw [upd_ne (ne_of_none (u2 _ _ z) he2)]; exact u2 _ _ z)
      have hr6 := w2 _ _ hr5
      simp (config := { dsimp := false }) [CPow, CMul, CDiv, cxOf, stC, -Bool.exists_bool, -List.map_take, -Prod.forall, -Prod.exists]
      refine ⟨_, .inl (SqL.of hr6), fun l3 hl3 => ?_⟩
      have u3 : Same M2 (upd M2 l3 (.lst (xs.map V.str))) := same_upd hl3
      have v3 : upd M2 l3 (.lst (xs.map V.str)) l3 = some (.lst (xs.map V.str)) := upd_same
      generalize upd M2 l3 (.lst (xs.map V.str)) = M3a at u3 v3 ⊢
      refine fun e3 he3 => ?_
      refine ⟨e3, l3, _, rfl, upd_same, by rw [upd_ne (ne_of_none v3 he3)]; exact v3, fun b3 M3 hb3 hL3 bear3 but3 => ⟨rfl, ?_⟩⟩
      have w3 : Same M2 M3 := fun c o z => but3 c o (ne_of_none (u3 _ _ z) he3) (by rw [upd_ne (ne_of_none (u3 _ _ z) he3)]; exact u3 _ _ z)
      have hr7 := w3 _ _ hr6
      simp (config := { dsimp := false }) [CPow, CMul, CDiv, cxOf, stC, -Bool.exists_bool, -List.map_take, -Prod.forall, -Prod.exists]
      refine ⟨_, .inl (SqL.of hr7), fun l4 hl4 => ?_⟩
      have u4 : Same M3 (upd M3 l4 (.lst (xs.map V.str))) := same_upd hl4
      have v4 : upd M3 l4 (.lst (xs.map V.str)) l4 = some (.lst (xs.map V.str)) := upd_same
      generalize upd M3 l4 (.lst (xs.map V.str)) = M4a at u4 v4 ⊢
      refine fun e4 he4 => ?_
      refine ⟨e4, l4, _, _, rfl, upd_same, by rw [upd_ne (ne_of_none v4 he4)]; exact v4, fun b4 M4 hb4 hL4 bear4 but4 => ⟨rfl, ?_⟩⟩
      have w4 : Same M3 M4 := fun c o z => but4 c o (ne_of_none (u4 _ _ z) he4) (by rw [upd_ne (ne_of_none (u4 _ _ z) he4)]; exact u4 _ _ z)
      have hr8 := w4 _ _ hr7
      simp (config := { dsimp := false }) [CPow, CMul, CDiv, cxOf, stC, -Bool.exists_bool, -List.map_take, -Prod.forall, -Prod.exists]
      refine ⟨_, .inl (SqL.of hr8), fun l5 hl5 => ?_⟩
      have u5 : Same M4 (upd M4 l5 (.lst (xs.map V.str))) := same_upd hl5
      have v5 : upd M4 l5 (.lst (xs.map V.str)) l5 = some (.lst (xs.map V.str)) := upd_same
      generalize upd M4 l5 (.lst (xs.map V.str)) = M5a at u5 v5 ⊢
      refine fun e5 he5 => ?_
      refine ⟨e5, l5, _, _, rfl, upd_same, by rw [upd_ne (ne_of_none v5 he5)]; exact v5, fun b5 M5 hb5 hL5 bear5 but5 => ⟨rfl, ?_⟩⟩
      have w5 : Same M4 M5 := fun c o z => but5 c o (ne_of_none (u5 _ _ z) he5) (by rw [upd_ne (ne_of_none (u5 _ _ z) he5)]; exact u5 _ _ z)
      have hr9 := w5 _ _ hr8
      simp (config := { dsimp := false }) [CPow, CMul, CDiv, cxOf, stC, -Bool.exists_bool, -List.map_take, -Prod.forall, -Prod.exists]
      have B1 := bear1.same (w2.trans (w3.trans (w4.trans w5)))
      have B2 := bear2.same (w3.trans (w4.trans w5))
      have B3' := bear3.same (w4.trans w5)
      have B4' := bear4.same w5
      have LL1 := (w2.trans (w3.trans (w4.trans w5))) _ _ hL1
      have LL2 := (w3.trans (w4.trans w5)) _ _ hL2
      have LL3 := (w4.trans w5) _ _ hL3
      have LL4 := w5 _ _ hL4
      refine ⟨rfl, fun r1 us1 N1 h1 hr1 x1 t1 => ?_⟩
      simp (config := { dsimp := false }) [CPow, CMul, CDiv, cxOf, stC, -Bool.exists_bool, -List.map_take, -Prod.forall, -Prod.exists]
      refine ⟨r1, 0, us1, plainL a, rfl, hr1, x1, by show (12 : Nat) ≤ 20; decide, by decide, plain_at a, fun N2 t2 => ?_⟩
      simp (config := { dsimp := false }) [CPow, CMul, CDiv, cxOf, stC, -Bool.exists_bool, -List.map_take, -Prod.forall, -Prod.exists]
      refine ⟨wd, rfl, fun r3 us3 N3 h3 hr3' x3 t3 => ?_⟩
      simp (config := { dsimp := false }) [CPow, CMul, CDiv, cxOf, stC, -Bool.exists_bool, -List.map_take, -Prod.forall, -Prod.exists]
      refine ⟨r3, 0, us3, plainL a, rfl, hr3', x3, by show (12 : Nat) ≤ 20; decide, by decide, plain_at a, fun N4 t4 => ?_⟩
      simp (config := { dsimp := false }) [CPow, CMul, CDiv, cxOf, stC, -Bool.exists_bool, -List.map_take, -Prod.forall, -Prod.exists]
      intro l5 hl5'
      have t5 : Same N4 (upd N4 l5 (.lst [.ref e1, .ref e2, .ref e3, .ref e4, .ref e5])) := same_upd hl5'
      have y5 : upd N4 l5 (.lst [.ref e1, .ref e2, .ref e3, .ref e4, .ref e5]) l5 = some (.lst [.ref e1, .ref e2, .ref e3, .ref e4, .ref e5]) := upd_same
      generalize upd N4 l5 (.lst [.ref e1, .ref e2, .ref e3, .ref e4, .ref e5]) = N5 at t5 y5 ⊢
      have TT := t1.trans (t2.trans (t3.trans (t4.trans t5)))
      have D1 := B1.same TT
      have D2 := B2.same TT
      have D3 := B3'.same TT
      have D4 := B4'.same TT
      have D5 := bear5.same TT
      have xv : ExsAt N5 [.ref e1, .ref e2, .ref e3, .ref e4, .ref e5] (valL a) := by
        obtain ⟨d1, _, g1, _⟩ := D1
        obtain ⟨d2, _, g2, _⟩ := D2
        obtain ⟨d3, _, g3, _⟩ := D3
        obtain ⟨d4, _, g4, _⟩ := D4
        obtain ⟨d5, _, g5, _⟩ := D5
        exact ⟨⟨_, _, rfl, g1⟩, ⟨_, _, rfl, g2⟩, ⟨_, _, rfl, g3⟩, ⟨_, _, rfl, g4⟩, ⟨_, _, rfl, g5⟩, True.intro⟩
      refine ⟨l5, 12, _, valL a, rfl, y5, xv, by show (5 : Nat) ≤ 20; decide, by decide, val_at a, fun N6 t6 => ?_⟩
      simp (config := { dsimp := false }) [CPow, CMul, CDiv, cxOf, stC, -Bool.exists_bool, -List.map_take, -Prod.forall, -Prod.exists]
      have T6 := TT.trans t6
      obtain ⟨d1, _, g1, f1⟩ := D1.same t6
      obtain ⟨d2, _, g2, f2⟩ := D2.same t6
      obtain ⟨d3, _, g3, f3⟩ := D3.same t6
      obtain ⟨d4, _, g4, f4⟩ := D4.same t6
      obtain ⟨d5, _, g5, f5⟩ := D5.same t6
      refine ⟨d1, g1, _, f1, _, rfl, d2, g2, _, f2, _, rfl, d3, g3, _, f3, _, rfl, d4, g4, _, f4, _, rfl, d5, g5, _, f5, _, rfl, fun c1 hc1 => ?_⟩
      have z1 : Same N6 (upd N6 c1 (.lst [.ref b1, .ref b2, .ref b3, .ref b4, .ref b5])) := same_upd hc1
      have x1' : upd N6 c1 (.lst [.ref b1, .ref b2, .ref b3, .ref b4, .ref b5]) c1 = some (.lst [.ref b1, .ref b2, .ref b3, .ref b4, .ref b5]) := upd_same
      generalize upd N6 c1 (.lst [.ref b1, .ref b2, .ref b3, .ref b4, .ref b5]) = N7 at z1 x1' ⊢
      intro c2 hc2
      have z2 : Same N7 (upd N7 c2 (.lst [.ref r])) := same_upd hc2
      have x2' : upd N7 c2 (.lst [.ref r]) c2 = some (.lst [.ref r]) := upd_same
      generalize upd N7 c2 (.lst [.ref r]) = N8 at z2 x2' ⊢
      refine ⟨_, x2', by show 1 * 5 ≤ _; omega, fun c3 hc3 => ?_⟩
      have z3 : Same N8 (upd N8 c3 (.lst [.ref r, .ref r, .ref r, .ref r, .ref r])) := same_upd hc3
      have x3' : upd N8 c3 (.lst [.ref r, .ref r, .ref r, .ref r, .ref r]) c3 = some (.lst [.ref r, .ref r, .ref r, .ref r, .ref r]) := upd_same
      have lx := lay_strs xs hxo
      have dx := dep_strs xs
      have T9 := T6.trans (z1.trans (z2.trans z3))
      have i1 : ∀ {b : Addr} {H' : _root_.L2.Hp}, H' b = some (.lst (xs.map V.str)) → Is K H' (.list (dStrs xs)) (.ref b) := fun h => ⟨_, _, rfl, SqL.of h, is_strs xs⟩
      refine ⟨.list [.list (dStrs xs), .list (dStrs xs), .list (dStrs xs), .list (dStrs xs), .list (dStrs xs)], ⟨c1, _, rfl, SqL.of ((z2.trans z3) _ _ x1'), _, _, rfl, i1 (T9 _ _ LL1), _, _, rfl, i1 (T9 _ _ LL2), _, _, rfl, i1 (T9 _ _ LL3), _, _, rfl, i1 (T9 _ _ LL4), _, _, rfl, i1 (T9 _ _ hL5), rfl⟩,
        .list [.list (dStrs xs), .list (dStrs xs), .list (dStrs xs), .list (dStrs xs), .list (dStrs xs)], ⟨c3, _, rfl, SqL.of x3', _, _, rfl, i1 (T9 _ _ hr9), _, _, rfl, i1 (T9 _ _ hr9), _, _, rfl, i1 (T9 _ _ hr9), _, _, rfl, i1 (T9 _ _ hr9), _, _, rfl, i1 (T9 _ _ hr9), rfl⟩, by simp [PyData.canLay0, PyData.canLayAll0, lx], by simp [PyData.canLay0, PyData.canLayAll0, lx], by simp [PyData.depth, PyData.depthAll]; omega, false, ?_, tBr.neg rfl ?_⟩
      · exact SeqAt.eqv_refl _ (by simp [PyData.canLay0, PyData.canLayAll0, lx])
      simp (config := { dsimp := false }) [CPow, CMul, CDiv, cxOf, stC, -Bool.exists_bool, -List.map_take, -Prod.forall, -Prod.exists]
      have Z := z1.trans (z2.trans z3)
      refine ⟨d4, Z _ _ g4, _, Z _ _ f4, _, rfl, d5, Z _ _ g5, _, Z _ _ f5, _, rfl, fun c4 hc4 => ?_⟩
      have z4 := Same.trans z3 (same_upd (o := .tup [.int ti, .str wd]) hc4)
      have x4' : upd (upd N8 c3 (.lst [.ref r, .ref r, .ref r, .ref r, .ref r])) c4 (.tup [.int ti, .str wd]) c4 = some (.tup [.int ti, .str wd]) := upd_same
      intro c5 hc5
      have z45 := same_upd (o := HO.tup [.int ti, .str wd]) hc5
      have z5 := Same.trans z4 z45
      have x5' : upd (upd (upd N8 c3 (.lst [.ref r, .ref r, .ref r, .ref r, .ref r])) c4 (.tup [.int ti, .str wd])) c5 (.tup [.int ti, .str wd]) c5 = some (.tup [.int ti, .str wd]) := upd_same
      refine ⟨.tuple [.int ti, .str wd], ⟨c4, _, rfl, SqT.of (z45 _ _ x4'), _, _, rfl, rfl, _, _, rfl, rfl, rfl⟩, .tuple [.int ti, .str wd], ⟨c5, _, rfl, SqT.of x5', _, _, rfl, rfl, _, _, rfl, rfl, rfl⟩, by simp [PyData.canLay0, PyData.canLayAll0, hwo], by simp [PyData.canLay0, PyData.canLayAll0, hwo], by simp [PyData.depth, PyData.depthAll], false, SeqAt.eqv_refl _ (by simp [PyData.canLay0, PyData.canLayAll0, hwo]), tBr.neg rfl ?_⟩
      simp (config := { dsimp := false }) [CPow, CMul, CDiv, cxOf, stC, -Bool.exists_bool, -List.map_take, -Prod.forall, -Prod.exists]
      have W5 := w1.trans (w2.trans (w3.trans (w4.trans w5)))
      have F := W5.trans (T6.trans (z1.trans (z2.trans z5)))
      exact s0.trans fun b u e => F b u (B4 b u (ne_of_none e hp0) (sp1 b u e))
    · rintro σ H1 ⟨⟨o1, o2, o3, o4, o5, o6, o7, o8, o9, o10, rfl⟩, s1⟩
      simp (config := { dsimp := false }) [CPow, CMul, CDiv, cxOf, stC, -Bool.exists_bool, -List.map_take, -Prod.forall, -Prod.exists]
      exact q _
end K17
set_option Elab.async false
set_option linter.all false
set_option maxRecDepth 100000
set_option maxHeartbeats 4000000
namespace K17
open PySem L2
theorem unc {α : Type} {n : Nat} (l : List α) (h : l.length = n + 1) : ∃ a r, l = a :: r := by
  cases l with
  | nil => cases h
  | cons a r => exact ⟨a, r, rfl⟩
theorem byLen1 {fd : FuncData} {ps : List Str} (h : ∀ v0, bindArgs fd { pos := [v0] } = pure (ps.zip [v0])) : ∀ us : List Value, us.length = 1 → bindArgs fd { pos := us } = pure (ps.zip us) := by
  intro us hl
  obtain ⟨v0, us, rfl⟩ := unc us hl
  replace hl := Nat.succ.inj hl
  obtain rfl := List.eq_nil_of_length_eq_zero hl
  exact h v0
theorem byLen2 {fd : FuncData} {ps : List Str} (h : ∀ v0 v1, bindArgs fd { pos := [v0, v1] } = pure (ps.zip [v0, v1])) : ∀ us : List Value, us.length = 2 → bindArgs fd { pos := us } = pure (ps.zip us) := by
  intro us hl
  obtain ⟨v0, us, rfl⟩ := unc us hl
  replace hl := Nat.succ.inj hl
  obtain ⟨v1, us, rfl⟩ := unc us hl
  replace hl := Nat.succ.inj hl
  obtain rfl := List.eq_nil_of_length_eq_zero hl
  exact h v0 v1
theorem byLen3 {fd : FuncData} {ps : List Str} (h : ∀ v0 v1 v2, bindArgs fd { pos := [v0, v1, v2] } = pure (ps.zip [v0, v1, v2])) : ∀ us : List Value, us.length = 3 → bindArgs fd { pos := us } = pure (ps.zip us) := by
  intro us hl
  obtain ⟨v0, us, rfl⟩ := unc us hl
  replace hl := Nat.succ.inj hl
  obtain ⟨v1, us, rfl⟩ := unc us hl
  replace hl := Nat.succ.inj hl
  obtain ⟨v2, us, rfl⟩ := unc us hl
  replace hl := Nat.succ.inj hl
  obtain rfl := List.eq_nil_of_length_eq_zero hl
  exact h v0 v1 v2
theorem all_mk {l : PySem.W.OpenLaw} {w : World} {K : PySem.W.Frag} {h : Heap} {mg : Str → Option Value} {fa C_PointError C_NoWeb C_NoText C_NoNumbers C_NoLot C_NoPoint C_NoPointing C_NoEars C_NoFixed C_NoNumber C_Unlike C_NotOver C_TooMuch C_Parted C_Shut C_Thin C_Barred C_NoIns f_Parted_init f_Shut_init f_Thin_init f_Barred_init f_NoIns_init f_pot f_take f_names f_kinds f_of_nothing f_of_text f_are_kinds f_law : Addr} (X : K.In h) (G : h.Ns mainGlobals mg) (hfa : mg "law" = some (.ref fa))
    {od1 an1 od2 an2 od3 an3 od4 an4 od5 an5 od6 an6 od7 an7 od8 an8 od9 an9 od10 an10 od11 an11 od12 an12 od13 an13 : Option Addr} {sl1 sl2 sl3 sl4 sl5 sl6 sl7 sl8 sl9 sl10 sl11 sl12 sl13 : Array (Option Value)} {oc1 kV1 dc1 pm1 cd1 ct1 oc2 kV2 dc2 pm2 cd2 ct2 oc3 kV3 dc3 pm3 cd3 ct3 oc4 kV4 dc4 pm4 cd4 ct4 oc5 kV5 dc5 pm5 cd5 ct5 oc6 kV6 dc6 pm6 cd6 ct6 oc7 kV7 dc7 pm7 cd7 ct7 oc8 kV8 dc8 pm8 cd8 ct8 oc9 kV9 dc9 pm9 cd9 ct9 oc10 kV10 dc10 pm10 cd10 ct10 oc11 kV11 dc11 pm11 cd11 ct11 oc12 kV12 dc12 pm12 cd12 ct12 oc13 kV13 dc13 pm13 cd13 ct13 : Value}
    {cd_PointError cd_NoWeb cd_NoText cd_NoNumbers cd_NoLot cd_NoPoint cd_NoPointing cd_NoEars cd_NoFixed cd_NoNumber cd_Unlike cd_NotOver cd_TooMuch cd_Parted cd_Shut cd_Thin cd_Barred cd_NoIns : ClassData} {nm_Parted qn_Parted : Str} {N_Parted : Addr} {bs_Parted sub_Parted : List Value} {hd_Parted ab_Parted : Bool} {sn_Parted : List Str} {col_Parted : Option Bool} {dd_Parted : Option Addr} {k0_Parted k1_Parted k2_Parted k3_Parted k5_Parted : Option Value} {nm_Shut qn_Shut : Str} {N_Shut : Addr} {bs_Shut sub_Shut : List Value} {hd_Shut ab_Shut : Bool} {sn_Shut : List Str} {col_Shut : Option Bool} {dd_Shut : Option Addr} {k0_Shut k1_Shut k2_Shut k3_Shut k5_Shut : Option Value} {nm_Thin qn_Thin : Str} {N_Thin : Addr} {bs_Thin sub_Thin : List Value} {hd_Thin ab_Thin : Bool} {sn_Thin : List Str} {col_Thin : Option Bool} {dd_Thin : Option Addr} {k0_Thin k1_Thin k2_Thin k3_Thin k5_Thin : Option Value} {nm_Barred qn_Barred : Str} {N_Barred : Addr} {bs_Barred sub_Barred : List Value} {hd_Barred ab_Barred : Bool} {sn_Barred : List Str} {col_Barred : Option Bool} {dd_Barred : Option Addr} {k0_Barred k1_Barred k2_Barred k3_Barred k5_Barred : Option Value} {nm_NoIns qn_NoIns : Str} {N_NoIns : Addr} {bs_NoIns sub_NoIns : List Value} {hd_NoIns ab_NoIns : Bool} {sn_NoIns : List Str} {col_NoIns : Option Bool} {dd_NoIns : Option Addr} {k0_NoIns k1_NoIns k2_NoIns k3_NoIns k5_NoIns : Option Value}
    (aC_PointError : PySem.W.nsIn K mainGlobals "PointError" = some (some (.ref C_PointError)))
    (aC_NoWeb : PySem.W.nsIn K mainGlobals "NoWeb" = some (some (.ref C_NoWeb)))
    (aC_NoText : PySem.W.nsIn K mainGlobals "NoText" = some (some (.ref C_NoText)))
    (aC_NoNumbers : PySem.W.nsIn K mainGlobals "NoNumbers" = some (some (.ref C_NoNumbers)))
    (aC_NoLot : PySem.W.nsIn K mainGlobals "NoLot" = some (some (.ref C_NoLot)))
    (aC_NoPoint : PySem.W.nsIn K mainGlobals "NoPoint" = some (some (.ref C_NoPoint)))
    (aC_NoPointing : PySem.W.nsIn K mainGlobals "NoPointing" = some (some (.ref C_NoPointing)))
    (aC_NoEars : PySem.W.nsIn K mainGlobals "NoEars" = some (some (.ref C_NoEars)))
    (aC_NoFixed : PySem.W.nsIn K mainGlobals "NoFixed" = some (some (.ref C_NoFixed)))
    (aC_NoNumber : PySem.W.nsIn K mainGlobals "NoNumber" = some (some (.ref C_NoNumber)))
    (aC_Unlike : PySem.W.nsIn K mainGlobals "Unlike" = some (some (.ref C_Unlike)))
    (aC_NotOver : PySem.W.nsIn K mainGlobals "NotOver" = some (some (.ref C_NotOver)))
    (aC_TooMuch : PySem.W.nsIn K mainGlobals "TooMuch" = some (some (.ref C_TooMuch)))
    (aC_Parted : PySem.W.nsIn K mainGlobals "Parted" = some (some (.ref C_Parted)))
    (aC_Shut : PySem.W.nsIn K mainGlobals "Shut" = some (some (.ref C_Shut)))
    (aC_Thin : PySem.W.nsIn K mainGlobals "Thin" = some (some (.ref C_Thin)))
    (aC_Barred : PySem.W.nsIn K mainGlobals "Barred" = some (some (.ref C_Barred)))
    (aC_NoIns : PySem.W.nsIn K mainGlobals "NoIns" = some (some (.ref C_NoIns)))
    (a1 : PySem.W.findIn K (.ref C_Parted) "__init__" = some (some (.ref f_Parted_init))) (i1 : PySem.W.isFn K (.ref f_Parted_init) = true)
    (l1 : K.lookup f_Parted_init = some ⟨oc1, od1, .func (PySem.W.fnOf "__init__" "Parted.__init__" (defArgs s_Parted_init) (defBody s_Parted_init) (defScope s_Parted_init) .none kV1 dc1 pm1 an1 cd1 ct1), sl1⟩) (c1 : PySem.W.codeIn K cd1 "Parted.__init__" = true) (k1 : PySem.W.keepIn K (.ref f_Parted_init) = true)
    (a2 : PySem.W.findIn K (.ref C_Shut) "__init__" = some (some (.ref f_Shut_init))) (i2 : PySem.W.isFn K (.ref f_Shut_init) = true)
    (l2 : K.lookup f_Shut_init = some ⟨oc2, od2, .func (PySem.W.fnOf "__init__" "Shut.__init__" (defArgs s_Shut_init) (defBody s_Shut_init) (defScope s_Shut_init) .none kV2 dc2 pm2 an2 cd2 ct2), sl2⟩) (c2 : PySem.W.codeIn K cd2 "Shut.__init__" = true) (k2 : PySem.W.keepIn K (.ref f_Shut_init) = true)
    (a3 : PySem.W.findIn K (.ref C_Thin) "__init__" = some (some (.ref f_Thin_init))) (i3 : PySem.W.isFn K (.ref f_Thin_init) = true)
    (l3 : K.lookup f_Thin_init = some ⟨oc3, od3, .func (PySem.W.fnOf "__init__" "Thin.__init__" (defArgs s_Thin_init) (defBody s_Thin_init) (defScope s_Thin_init) .none kV3 dc3 pm3 an3 cd3 ct3), sl3⟩) (c3 : PySem.W.codeIn K cd3 "Thin.__init__" = true) (k3 : PySem.W.keepIn K (.ref f_Thin_init) = true)
    (a4 : PySem.W.findIn K (.ref C_Barred) "__init__" = some (some (.ref f_Barred_init))) (i4 : PySem.W.isFn K (.ref f_Barred_init) = true)
    (l4 : K.lookup f_Barred_init = some ⟨oc4, od4, .func (PySem.W.fnOf "__init__" "Barred.__init__" (defArgs s_Barred_init) (defBody s_Barred_init) (defScope s_Barred_init) .none kV4 dc4 pm4 an4 cd4 ct4), sl4⟩) (c4 : PySem.W.codeIn K cd4 "Barred.__init__" = true) (k4 : PySem.W.keepIn K (.ref f_Barred_init) = true)
    (a5 : PySem.W.findIn K (.ref C_NoIns) "__init__" = some (some (.ref f_NoIns_init))) (i5 : PySem.W.isFn K (.ref f_NoIns_init) = true)
    (l5 : K.lookup f_NoIns_init = some ⟨oc5, od5, .func (PySem.W.fnOf "__init__" "NoIns.__init__" (defArgs s_NoIns_init) (defBody s_NoIns_init) (defScope s_NoIns_init) .none kV5 dc5 pm5 an5 cd5 ct5), sl5⟩) (c5 : PySem.W.codeIn K cd5 "NoIns.__init__" = true) (k5 : PySem.W.keepIn K (.ref f_NoIns_init) = true)
    (a6 : PySem.W.nsIn K mainGlobals "_law_pot" = some (some (.ref f_pot)))
    (l6 : K.lookup f_pot = some ⟨oc6, od6, .func (PySem.W.fnOf "_law_pot" "_law_pot" (defArgs s_pot) (defBody s_pot) (defScope s_pot) .none kV6 dc6 pm6 an6 cd6 ct6), sl6⟩) (c6 : PySem.W.codeIn K cd6 "_law_pot" = true) (k6 : PySem.W.keepIn K (.ref f_pot) = true)
    (a7 : PySem.W.nsIn K mainGlobals "_law_take" = some (some (.ref f_take)))
    (l7 : K.lookup f_take = some ⟨oc7, od7, .func (PySem.W.fnOf "_law_take" "_law_take" (defArgs s_take) (defBody s_take) (defScope s_take) .none kV7 dc7 pm7 an7 cd7 ct7), sl7⟩) (c7 : PySem.W.codeIn K cd7 "_law_take" = true) (k7 : PySem.W.keepIn K (.ref f_take) = true)
    (a8 : PySem.W.nsIn K mainGlobals "_law_names" = some (some (.ref f_names)))
    (l8 : K.lookup f_names = some ⟨oc8, od8, .func (PySem.W.fnOf "_law_names" "_law_names" (defArgs s_names) (defBody s_names) (defScope s_names) .none kV8 dc8 pm8 an8 cd8 ct8), sl8⟩) (c8 : PySem.W.codeIn K cd8 "_law_names" = true) (k8 : PySem.W.keepIn K (.ref f_names) = true)
    (a9 : PySem.W.nsIn K mainGlobals "_law_kinds" = some (some (.ref f_kinds)))
    (l9 : K.lookup f_kinds = some ⟨oc9, od9, .func (PySem.W.fnOf "_law_kinds" "_law_kinds" (defArgs s_kinds) (defBody s_kinds) (defScope s_kinds) .none kV9 dc9 pm9 an9 cd9 ct9), sl9⟩) (c9 : PySem.W.codeIn K cd9 "_law_kinds" = true) (k9 : PySem.W.keepIn K (.ref f_kinds) = true)
    (a10 : PySem.W.nsIn K mainGlobals "_law_of_nothing" = some (some (.ref f_of_nothing)))
    (l10 : K.lookup f_of_nothing = some ⟨oc10, od10, .func (PySem.W.fnOf "_law_of_nothing" "_law_of_nothing" (defArgs s_of_nothing) (defBody s_of_nothing) (defScope s_of_nothing) .none kV10 dc10 pm10 an10 cd10 ct10), sl10⟩) (c10 : PySem.W.codeIn K cd10 "_law_of_nothing" = true) (k10 : PySem.W.keepIn K (.ref f_of_nothing) = true)
    (a11 : PySem.W.nsIn K mainGlobals "_law_of_text" = some (some (.ref f_of_text)))
    (l11 : K.lookup f_of_text = some ⟨oc11, od11, .func (PySem.W.fnOf "_law_of_text" "_law_of_text" (defArgs s_of_text) (defBody s_of_text) (defScope s_of_text) .none kV11 dc11 pm11 an11 cd11 ct11), sl11⟩) (c11 : PySem.W.codeIn K cd11 "_law_of_text" = true) (k11 : PySem.W.keepIn K (.ref f_of_text) = true)
    (a12 : PySem.W.nsIn K mainGlobals "_law_are_kinds" = some (some (.ref f_are_kinds)))
    (l12 : K.lookup f_are_kinds = some ⟨oc12, od12, .func (PySem.W.fnOf "_law_are_kinds" "_law_are_kinds" (defArgs s_are_kinds) (defBody s_are_kinds) (defScope s_are_kinds) .none kV12 dc12 pm12 an12 cd12 ct12), sl12⟩) (c12 : PySem.W.codeIn K cd12 "_law_are_kinds" = true) (k12 : PySem.W.keepIn K (.ref f_are_kinds) = true)
    (a13 : PySem.W.nsIn K mainGlobals "law" = some (some (.ref f_law)))
    (l13 : K.lookup f_law = some ⟨oc13, od13, .func (PySem.W.fnOf "law" "law" (defArgs s_law) (defBody s_law) (defScope s_law) .none kV13 dc13 pm13 an13 cd13 ct13), sl13⟩) (c13 : PySem.W.codeIn K cd13 "law" = true) (k13 : PySem.W.keepIn K (.ref f_law) = true)
    (z_len : PySem.W.nsIn K mainGlobals "len" = some none)
    (z_max : PySem.W.nsIn K mainGlobals "max" = some none)
    (z_min : PySem.W.nsIn K mainGlobals "min" = some none)
    (z_abs : PySem.W.nsIn K mainGlobals "abs" = some none)
    (z_divmod : PySem.W.nsIn K mainGlobals "divmod" = some none)
    (z_range : PySem.W.nsIn K mainGlobals "range" = some none)
    (z_zip : PySem.W.nsIn K mainGlobals "zip" = some none)
    (z_list : PySem.W.nsIn K mainGlobals "list" = some none)
    (z_tuple : PySem.W.nsIn K mainGlobals "tuple" = some none)
    (z_int : PySem.W.nsIn K mainGlobals "int" = some none)
    (z_str : PySem.W.nsIn K mainGlobals "str" = some none)
    (z_set : PySem.W.nsIn K mainGlobals "set" = some none)
    (z_all : PySem.W.nsIn K mainGlobals "all" = some none)
    (z_isinstance : PySem.W.nsIn K mainGlobals "isinstance" = some none)
    (z_enumerate : PySem.W.nsIn K mainGlobals "enumerate" = some none)
    (z_any : PySem.W.nsIn K mainGlobals "any" = some none)
    (z_dict : PySem.W.nsIn K mainGlobals "dict" = some none)
    (z_sorted : PySem.W.nsIn K mainGlobals "sorted" = some none)
    (z_repr : PySem.W.nsIn K mainGlobals "repr" = some none)
    (z_bool : PySem.W.nsIn K mainGlobals "bool" = some none)
    (z_sum : PySem.W.nsIn K mainGlobals "sum" = some none)
    (cl_PointError : PySem.W.clsIn K C_PointError = some cd_PointError) (cm_PointError : cd_PointError.mro = [.ref C_PointError, .type "ValueError", .type "Exception", .type "BaseException", .type "object"]) (kt_PointError : PySem.W.typeIn K (.ref C_PointError) = some (.type "type"))
    (cl_NoWeb : PySem.W.clsIn K C_NoWeb = some cd_NoWeb) (cm_NoWeb : cd_NoWeb.mro = [.ref C_NoWeb, .ref C_PointError, .type "ValueError", .type "Exception", .type "BaseException", .type "object"]) (kt_NoWeb : PySem.W.typeIn K (.ref C_NoWeb) = some (.type "type"))
    (cl_NoText : PySem.W.clsIn K C_NoText = some cd_NoText) (cm_NoText : cd_NoText.mro = [.ref C_NoText, .ref C_PointError, .type "ValueError", .type "Exception", .type "BaseException", .type "object"]) (kt_NoText : PySem.W.typeIn K (.ref C_NoText) = some (.type "type"))
    (cl_NoNumbers : PySem.W.clsIn K C_NoNumbers = some cd_NoNumbers) (cm_NoNumbers : cd_NoNumbers.mro = [.ref C_NoNumbers, .ref C_PointError, .type "ValueError", .type "Exception", .type "BaseException", .type "object"]) (kt_NoNumbers : PySem.W.typeIn K (.ref C_NoNumbers) = some (.type "type"))
    (cl_NoLot : PySem.W.clsIn K C_NoLot = some cd_NoLot) (cm_NoLot : cd_NoLot.mro = [.ref C_NoLot, .ref C_PointError, .type "ValueError", .type "Exception", .type "BaseException", .type "object"]) (kt_NoLot : PySem.W.typeIn K (.ref C_NoLot) = some (.type "type"))
    (cl_NoPoint : PySem.W.clsIn K C_NoPoint = some cd_NoPoint) (cm_NoPoint : cd_NoPoint.mro = [.ref C_NoPoint, .ref C_PointError, .type "ValueError", .type "Exception", .type "BaseException", .type "object"]) (kt_NoPoint : PySem.W.typeIn K (.ref C_NoPoint) = some (.type "type"))
    (cl_NoPointing : PySem.W.clsIn K C_NoPointing = some cd_NoPointing) (cm_NoPointing : cd_NoPointing.mro = [.ref C_NoPointing, .ref C_PointError, .type "ValueError", .type "Exception", .type "BaseException", .type "object"]) (kt_NoPointing : PySem.W.typeIn K (.ref C_NoPointing) = some (.type "type"))
    (cl_NoEars : PySem.W.clsIn K C_NoEars = some cd_NoEars) (cm_NoEars : cd_NoEars.mro = [.ref C_NoEars, .ref C_PointError, .type "ValueError", .type "Exception", .type "BaseException", .type "object"]) (kt_NoEars : PySem.W.typeIn K (.ref C_NoEars) = some (.type "type"))
    (cl_NoFixed : PySem.W.clsIn K C_NoFixed = some cd_NoFixed) (cm_NoFixed : cd_NoFixed.mro = [.ref C_NoFixed, .ref C_PointError, .type "ValueError", .type "Exception", .type "BaseException", .type "object"]) (kt_NoFixed : PySem.W.typeIn K (.ref C_NoFixed) = some (.type "type"))
    (cl_NoNumber : PySem.W.clsIn K C_NoNumber = some cd_NoNumber) (cm_NoNumber : cd_NoNumber.mro = [.ref C_NoNumber, .ref C_PointError, .type "ValueError", .type "Exception", .type "BaseException", .type "object"]) (kt_NoNumber : PySem.W.typeIn K (.ref C_NoNumber) = some (.type "type"))
    (cl_Unlike : PySem.W.clsIn K C_Unlike = some cd_Unlike) (cm_Unlike : cd_Unlike.mro = [.ref C_Unlike, .ref C_PointError, .type "ValueError", .type "Exception", .type "BaseException", .type "object"]) (kt_Unlike : PySem.W.typeIn K (.ref C_Unlike) = some (.type "type"))
    (cl_NotOver : PySem.W.clsIn K C_NotOver = some cd_NotOver) (cm_NotOver : cd_NotOver.mro = [.ref C_NotOver, .ref C_PointError, .type "ValueError", .type "Exception", .type "BaseException", .type "object"]) (kt_NotOver : PySem.W.typeIn K (.ref C_NotOver) = some (.type "type"))
    (cl_TooMuch : PySem.W.clsIn K C_TooMuch = some cd_TooMuch) (cm_TooMuch : cd_TooMuch.mro = [.ref C_TooMuch, .ref C_PointError, .type "ValueError", .type "Exception", .type "BaseException", .type "object"]) (kt_TooMuch : PySem.W.typeIn K (.ref C_TooMuch) = some (.type "type"))
    (cl_Parted : PySem.W.clsIn K C_Parted = some cd_Parted) (cm_Parted : cd_Parted.mro = [.ref C_Parted, .ref C_PointError, .type "ValueError", .type "Exception", .type "BaseException", .type "object"]) (kt_Parted : PySem.W.typeIn K (.ref C_Parted) = some (.type "type"))
    (cl_Shut : PySem.W.clsIn K C_Shut = some cd_Shut) (cm_Shut : cd_Shut.mro = [.ref C_Shut, .ref C_PointError, .type "ValueError", .type "Exception", .type "BaseException", .type "object"]) (kt_Shut : PySem.W.typeIn K (.ref C_Shut) = some (.type "type"))
    (cl_Thin : PySem.W.clsIn K C_Thin = some cd_Thin) (cm_Thin : cd_Thin.mro = [.ref C_Thin, .ref C_PointError, .type "ValueError", .type "Exception", .type "BaseException", .type "object"]) (kt_Thin : PySem.W.typeIn K (.ref C_Thin) = some (.type "type"))
    (cl_Barred : PySem.W.clsIn K C_Barred = some cd_Barred) (cm_Barred : cd_Barred.mro = [.ref C_Barred, .ref C_PointError, .type "ValueError", .type "Exception", .type "BaseException", .type "object"]) (kt_Barred : PySem.W.typeIn K (.ref C_Barred) = some (.type "type"))
    (cl_NoIns : PySem.W.clsIn K C_NoIns = some cd_NoIns) (cm_NoIns : cd_NoIns.mro = [.ref C_NoIns, .ref C_PointError, .type "ValueError", .type "Exception", .type "BaseException", .type "object"]) (kt_NoIns : PySem.W.typeIn K (.ref C_NoIns) = some (.type "type"))
    (x_PointError : PySem.W.excIn K C_PointError veMro "ValueError.__new__" = true)
    (x_NoWeb : PySem.W.excIn K C_NoWeb veMro "ValueError.__new__" = true)
    (x_NoText : PySem.W.excIn K C_NoText veMro "ValueError.__new__" = true)
    (x_NoNumbers : PySem.W.excIn K C_NoNumbers veMro "ValueError.__new__" = true)
    (x_NoLot : PySem.W.excIn K C_NoLot veMro "ValueError.__new__" = true)
    (x_NoPoint : PySem.W.excIn K C_NoPoint veMro "ValueError.__new__" = true)
    (x_NoPointing : PySem.W.excIn K C_NoPointing veMro "ValueError.__new__" = true)
    (x_NoEars : PySem.W.excIn K C_NoEars veMro "ValueError.__new__" = true)
    (x_NoFixed : PySem.W.excIn K C_NoFixed veMro "ValueError.__new__" = true)
    (x_NoNumber : PySem.W.excIn K C_NoNumber veMro "ValueError.__new__" = true)
    (x_Unlike : PySem.W.excIn K C_Unlike veMro "ValueError.__new__" = true)
    (x_NotOver : PySem.W.excIn K C_NotOver veMro "ValueError.__new__" = true)
    (x_TooMuch : PySem.W.excIn K C_TooMuch veMro "ValueError.__new__" = true)
    (ki_PointError : PySem.W.isClsIn K C_PointError = true) (sg_B : PySem.W.specialIn K (.ref C_PointError) "__getattribute__" = some (some (.builtin "type.__getattribute__"))) (rd_B : PySem.W.readsIn K C_PointError (.type "type") = true) (fc_B : PySem.W.findCls K (.ref C_PointError) (.type "type") "__init__" = some (.val (.builtin "ValueError.__init__")))
    (sp_oc : PySem.W.specialIn K (.builtin "object.__class__") "__get__" = some (some (.builtin "getset_descriptor.__get__"))) (tk_oc : PySem.W.takesIn K (.builtin "object.__class__") = some true)
    (nd_all : nodupB [C_PointError, C_NoWeb, C_NoText, C_NoNumbers, C_NoLot, C_NoPoint, C_NoPointing, C_NoEars, C_NoFixed, C_NoNumber, C_Unlike, C_NotOver, C_TooMuch, C_Parted, C_Shut, C_Thin, C_Barred, C_NoIns] = true)
    (ch_NoWeb : cd_NoWeb.hasDict = true) (ga_NoWeb : PySem.W.findIn K (.ref C_NoWeb) "__getattribute__" = some (some (.builtin "BaseException.__getattribute__"))) (gn_NoWeb : PySem.W.findIn K (.ref C_NoWeb) "__getattr__" = some none) (gc_NoWeb : PySem.W.findIn K (.ref C_NoWeb) "__class__" = some (some (.builtin "object.__class__"))) (kc_NoWeb : PySem.W.keepIn K (.ref C_NoWeb) = true)
    (ch_NoText : cd_NoText.hasDict = true) (ga_NoText : PySem.W.findIn K (.ref C_NoText) "__getattribute__" = some (some (.builtin "BaseException.__getattribute__"))) (gn_NoText : PySem.W.findIn K (.ref C_NoText) "__getattr__" = some none) (gc_NoText : PySem.W.findIn K (.ref C_NoText) "__class__" = some (some (.builtin "object.__class__"))) (kc_NoText : PySem.W.keepIn K (.ref C_NoText) = true)
    (ch_NoNumbers : cd_NoNumbers.hasDict = true) (ga_NoNumbers : PySem.W.findIn K (.ref C_NoNumbers) "__getattribute__" = some (some (.builtin "BaseException.__getattribute__"))) (gn_NoNumbers : PySem.W.findIn K (.ref C_NoNumbers) "__getattr__" = some none) (gc_NoNumbers : PySem.W.findIn K (.ref C_NoNumbers) "__class__" = some (some (.builtin "object.__class__"))) (kc_NoNumbers : PySem.W.keepIn K (.ref C_NoNumbers) = true)
    (ch_NoLot : cd_NoLot.hasDict = true) (ga_NoLot : PySem.W.findIn K (.ref C_NoLot) "__getattribute__" = some (some (.builtin "BaseException.__getattribute__"))) (gn_NoLot : PySem.W.findIn K (.ref C_NoLot) "__getattr__" = some none) (gc_NoLot : PySem.W.findIn K (.ref C_NoLot) "__class__" = some (some (.builtin "object.__class__"))) (kc_NoLot : PySem.W.keepIn K (.ref C_NoLot) = true)
    (ch_NoPoint : cd_NoPoint.hasDict = true) (ga_NoPoint : PySem.W.findIn K (.ref C_NoPoint) "__getattribute__" = some (some (.builtin "BaseException.__getattribute__"))) (gn_NoPoint : PySem.W.findIn K (.ref C_NoPoint) "__getattr__" = some none) (gc_NoPoint : PySem.W.findIn K (.ref C_NoPoint) "__class__" = some (some (.builtin "object.__class__"))) (kc_NoPoint : PySem.W.keepIn K (.ref C_NoPoint) = true)
    (ch_NoPointing : cd_NoPointing.hasDict = true) (ga_NoPointing : PySem.W.findIn K (.ref C_NoPointing) "__getattribute__" = some (some (.builtin "BaseException.__getattribute__"))) (gn_NoPointing : PySem.W.findIn K (.ref C_NoPointing) "__getattr__" = some none) (gc_NoPointing : PySem.W.findIn K (.ref C_NoPointing) "__class__" = some (some (.builtin "object.__class__"))) (kc_NoPointing : PySem.W.keepIn K (.ref C_NoPointing) = true)
    (ch_NoEars : cd_NoEars.hasDict = true) (ga_NoEars : PySem.W.findIn K (.ref C_NoEars) "__getattribute__" = some (some (.builtin "BaseException.__getattribute__"))) (gn_NoEars : PySem.W.findIn K (.ref C_NoEars) "__getattr__" = some none) (gc_NoEars : PySem.W.findIn K (.ref C_NoEars) "__class__" = some (some (.builtin "object.__class__"))) (kc_NoEars : PySem.W.keepIn K (.ref C_NoEars) = true)
    (ch_NoFixed : cd_NoFixed.hasDict = true) (ga_NoFixed : PySem.W.findIn K (.ref C_NoFixed) "__getattribute__" = some (some (.builtin "BaseException.__getattribute__"))) (gn_NoFixed : PySem.W.findIn K (.ref C_NoFixed) "__getattr__" = some none) (gc_NoFixed : PySem.W.findIn K (.ref C_NoFixed) "__class__" = some (some (.builtin "object.__class__"))) (kc_NoFixed : PySem.W.keepIn K (.ref C_NoFixed) = true)
    (ch_NoNumber : cd_NoNumber.hasDict = true) (ga_NoNumber : PySem.W.findIn K (.ref C_NoNumber) "__getattribute__" = some (some (.builtin "BaseException.__getattribute__"))) (gn_NoNumber : PySem.W.findIn K (.ref C_NoNumber) "__getattr__" = some none) (gc_NoNumber : PySem.W.findIn K (.ref C_NoNumber) "__class__" = some (some (.builtin "object.__class__"))) (kc_NoNumber : PySem.W.keepIn K (.ref C_NoNumber) = true)
    (ch_Unlike : cd_Unlike.hasDict = true) (ga_Unlike : PySem.W.findIn K (.ref C_Unlike) "__getattribute__" = some (some (.builtin "BaseException.__getattribute__"))) (gn_Unlike : PySem.W.findIn K (.ref C_Unlike) "__getattr__" = some none) (gc_Unlike : PySem.W.findIn K (.ref C_Unlike) "__class__" = some (some (.builtin "object.__class__"))) (kc_Unlike : PySem.W.keepIn K (.ref C_Unlike) = true)
    (ch_NotOver : cd_NotOver.hasDict = true) (ga_NotOver : PySem.W.findIn K (.ref C_NotOver) "__getattribute__" = some (some (.builtin "BaseException.__getattribute__"))) (gn_NotOver : PySem.W.findIn K (.ref C_NotOver) "__getattr__" = some none) (gc_NotOver : PySem.W.findIn K (.ref C_NotOver) "__class__" = some (some (.builtin "object.__class__"))) (kc_NotOver : PySem.W.keepIn K (.ref C_NotOver) = true)
    (ch_TooMuch : cd_TooMuch.hasDict = true) (ga_TooMuch : PySem.W.findIn K (.ref C_TooMuch) "__getattribute__" = some (some (.builtin "BaseException.__getattribute__"))) (gn_TooMuch : PySem.W.findIn K (.ref C_TooMuch) "__getattr__" = some none) (gc_TooMuch : PySem.W.findIn K (.ref C_TooMuch) "__class__" = some (some (.builtin "object.__class__"))) (kc_TooMuch : PySem.W.keepIn K (.ref C_TooMuch) = true)
    (ch_Parted : cd_Parted.hasDict = true) (ga_Parted : PySem.W.findIn K (.ref C_Parted) "__getattribute__" = some (some (.builtin "BaseException.__getattribute__"))) (gn_Parted : PySem.W.findIn K (.ref C_Parted) "__getattr__" = some none) (gc_Parted : PySem.W.findIn K (.ref C_Parted) "__class__" = some (some (.builtin "object.__class__"))) (kc_Parted : PySem.W.keepIn K (.ref C_Parted) = true)
    (ch_Shut : cd_Shut.hasDict = true) (ga_Shut : PySem.W.findIn K (.ref C_Shut) "__getattribute__" = some (some (.builtin "BaseException.__getattribute__"))) (gn_Shut : PySem.W.findIn K (.ref C_Shut) "__getattr__" = some none) (gc_Shut : PySem.W.findIn K (.ref C_Shut) "__class__" = some (some (.builtin "object.__class__"))) (kc_Shut : PySem.W.keepIn K (.ref C_Shut) = true)
    (ch_Thin : cd_Thin.hasDict = true) (ga_Thin : PySem.W.findIn K (.ref C_Thin) "__getattribute__" = some (some (.builtin "BaseException.__getattribute__"))) (gn_Thin : PySem.W.findIn K (.ref C_Thin) "__getattr__" = some none) (gc_Thin : PySem.W.findIn K (.ref C_Thin) "__class__" = some (some (.builtin "object.__class__"))) (kc_Thin : PySem.W.keepIn K (.ref C_Thin) = true)
    (ch_Barred : cd_Barred.hasDict = true) (ga_Barred : PySem.W.findIn K (.ref C_Barred) "__getattribute__" = some (some (.builtin "BaseException.__getattribute__"))) (gn_Barred : PySem.W.findIn K (.ref C_Barred) "__getattr__" = some none) (gc_Barred : PySem.W.findIn K (.ref C_Barred) "__class__" = some (some (.builtin "object.__class__"))) (kc_Barred : PySem.W.keepIn K (.ref C_Barred) = true)
    (ch_NoIns : cd_NoIns.hasDict = true) (ga_NoIns : PySem.W.findIn K (.ref C_NoIns) "__getattribute__" = some (some (.builtin "BaseException.__getattribute__"))) (gn_NoIns : PySem.W.findIn K (.ref C_NoIns) "__getattr__" = some none) (gc_NoIns : PySem.W.findIn K (.ref C_NoIns) "__class__" = some (some (.builtin "object.__class__"))) (kc_NoIns : PySem.W.keepIn K (.ref C_NoIns) = true)
    (lk_Parted : K.lookup C_Parted = some (excClassObj nm_Parted qn_Parted C_Parted N_Parted bs_Parted [.ref C_PointError, .type "ValueError", .type "Exception", .type "BaseException", .type "object"] hd_Parted sn_Parted sub_Parted ab_Parted col_Parted dd_Parted k0_Parted k1_Parted k2_Parted k3_Parted k5_Parted "ValueError.__new__")) (sa_Parted : PySem.W.findIn K (.ref C_Parted) "__setattr__" = some (some (.builtin "object.__setattr__")))
    (na_Parted_lot : PySem.W.findIn K (.ref C_Parted) "lot" = some none)
    (lk_Shut : K.lookup C_Shut = some (excClassObj nm_Shut qn_Shut C_Shut N_Shut bs_Shut [.ref C_PointError, .type "ValueError", .type "Exception", .type "BaseException", .type "object"] hd_Shut sn_Shut sub_Shut ab_Shut col_Shut dd_Shut k0_Shut k1_Shut k2_Shut k3_Shut k5_Shut "ValueError.__new__")) (sa_Shut : PySem.W.findIn K (.ref C_Shut) "__setattr__" = some (some (.builtin "object.__setattr__")))
    (na_Shut_lot : PySem.W.findIn K (.ref C_Shut) "lot" = some none)
    (lk_Thin : K.lookup C_Thin = some (excClassObj nm_Thin qn_Thin C_Thin N_Thin bs_Thin [.ref C_PointError, .type "ValueError", .type "Exception", .type "BaseException", .type "object"] hd_Thin sn_Thin sub_Thin ab_Thin col_Thin dd_Thin k0_Thin k1_Thin k2_Thin k3_Thin k5_Thin "ValueError.__new__")) (sa_Thin : PySem.W.findIn K (.ref C_Thin) "__setattr__" = some (some (.builtin "object.__setattr__")))
    (na_Thin_lot : PySem.W.findIn K (.ref C_Thin) "lot" = some none)
    (lk_Barred : K.lookup C_Barred = some (excClassObj nm_Barred qn_Barred C_Barred N_Barred bs_Barred [.ref C_PointError, .type "ValueError", .type "Exception", .type "BaseException", .type "object"] hd_Barred sn_Barred sub_Barred ab_Barred col_Barred dd_Barred k0_Barred k1_Barred k2_Barred k3_Barred k5_Barred "ValueError.__new__")) (sa_Barred : PySem.W.findIn K (.ref C_Barred) "__setattr__" = some (some (.builtin "object.__setattr__")))
    (na_Barred_tie : PySem.W.findIn K (.ref C_Barred) "tie" = some none)
    (na_Barred_lot : PySem.W.findIn K (.ref C_Barred) "lot" = some none)
    (lk_NoIns : K.lookup C_NoIns = some (excClassObj nm_NoIns qn_NoIns C_NoIns N_NoIns bs_NoIns [.ref C_PointError, .type "ValueError", .type "Exception", .type "BaseException", .type "object"] hd_NoIns sn_NoIns sub_NoIns ab_NoIns col_NoIns dd_NoIns k0_NoIns k1_NoIns k2_NoIns k3_NoIns k5_NoIns "ValueError.__new__")) (sa_NoIns : PySem.W.findIn K (.ref C_NoIns) "__setattr__" = some (some (.builtin "object.__setattr__")))
    (na_NoIns_word : PySem.W.findIn K (.ref C_NoIns) "word" = some none)
    (na_NoIns_part : PySem.W.findIn K (.ref C_NoIns) "part" = some none)
    (z_ValueError : PySem.W.nsIn K mainGlobals "ValueError" = some none)
    : ∃ fd : FuncData, (∀ (s : Shared) (v : Value), BindsTo s fd ⟨[v], []⟩ [("_law_script", v)]) ∧ ∀ base : Heap, K.In base → base.Ns mainGlobals mg → FnOk l.prog w K mg base CX0 5 fa fd ["_law_script"] (sp_law K) := by
  have e := hfa.symm.trans (PySem.W.mg_of X G a13)
  cases e
  have F1 := fun_mk (st := s_Parted_init) l1 c1 k1
  have b1 := F1.binds (ps := ["self", "lot"]) fun _ _ _ _ _ _ => byLen2 fun _ _ => rfl
  have F2 := fun_mk (st := s_Shut_init) l2 c2 k2
  have b2 := F2.binds (ps := ["self", "lot"]) fun _ _ _ _ _ _ => byLen2 fun _ _ => rfl
  have F3 := fun_mk (st := s_Thin_init) l3 c3 k3
  have b3 := F3.binds (ps := ["self", "lot"]) fun _ _ _ _ _ _ => byLen2 fun _ _ => rfl
  have F4 := fun_mk (st := s_Barred_init) l4 c4 k4
  have b4 := F4.binds (ps := ["self", "tie", "lot"]) fun _ _ _ _ _ _ => byLen3 fun _ _ _ => rfl
  have F5 := fun_mk (st := s_NoIns_init) l5 c5 k5
  have b5 := F5.binds (ps := ["self", "word", "part"]) fun _ _ _ _ _ _ => byLen3 fun _ _ _ => rfl
  have F6 := fun_mk (st := s_pot) l6 c6 k6
  have b6 := F6.binds (ps := ["_law_script", "_law_k"]) fun _ _ _ _ _ _ => byLen2 fun _ _ => rfl
  have F7 := fun_mk (st := s_take) l7 c7 k7
  have b7 := F7.binds (ps := ["_law_pot_here", "_law_many"]) fun _ _ _ _ _ _ => byLen2 fun _ _ => rfl
  have F8 := fun_mk (st := s_names) l8 c8 k8
  have b8 := F8.binds (ps := ["_law_pot_here", "_law_many"]) fun _ _ _ _ _ _ => byLen2 fun _ _ => rfl
  have F9 := fun_mk (st := s_kinds) l9 c9 k9
  have b9 := F9.binds (ps := ["_law_e"]) fun _ _ _ _ _ _ => byLen1 fun _ => rfl
  have F10 := fun_mk (st := s_of_nothing) l10 c10 k10
  have b10 := F10.binds (ps := []) fun _ _ _ _ _ _ us hl => match us, hl with | [], _ => rfl
  have F11 := fun_mk (st := s_of_text) l11 c11 k11
  have b11 := F11.binds (ps := ["_law_text"]) fun _ _ _ _ _ _ => byLen1 fun _ => rfl
  have F12 := fun_mk (st := s_are_kinds) l12 c12 k12
  have b12 := F12.binds (ps := ["_law_some", "_law_first"]) fun _ _ _ _ _ _ => byLen2 fun _ _ => rfl
  have F13 := fun_mk (st := s_law) l13 c13 k13
  have b13 := F13.binds (ps := ["_law_script"]) fun _ _ _ _ _ _ => byLen1 fun _ => rfl
  have T : Txt K mg { f_Parted_init := f_Parted_init, fd_Parted_init := PySem.W.fnOf "__init__" "Parted.__init__" (defArgs s_Parted_init) (defBody s_Parted_init) (defScope s_Parted_init) .none kV1 dc1 pm1 an1 cd1 ct1, f_Shut_init := f_Shut_init, fd_Shut_init := PySem.W.fnOf "__init__" "Shut.__init__" (defArgs s_Shut_init) (defBody s_Shut_init) (defScope s_Shut_init) .none kV2 dc2 pm2 an2 cd2 ct2, f_Thin_init := f_Thin_init, fd_Thin_init := PySem.W.fnOf "__init__" "Thin.__init__" (defArgs s_Thin_init) (defBody s_Thin_init) (defScope s_Thin_init) .none kV3 dc3 pm3 an3 cd3 ct3, f_Barred_init := f_Barred_init, fd_Barred_init := PySem.W.fnOf "__init__" "Barred.__init__" (defArgs s_Barred_init) (defBody s_Barred_init) (defScope s_Barred_init) .none kV4 dc4 pm4 an4 cd4 ct4, f_NoIns_init := f_NoIns_init, fd_NoIns_init := PySem.W.fnOf "__init__" "NoIns.__init__" (defArgs s_NoIns_init) (defBody s_NoIns_init) (defScope s_NoIns_init) .none kV5 dc5 pm5 an5 cd5 ct5, f_pot := f_pot, fd_pot := PySem.W.fnOf "_law_pot" "_law_pot" (defArgs s_pot) (defBody s_pot) (defScope s_pot) .none kV6 dc6 pm6 an6 cd6 ct6, f_take := f_take, fd_take := PySem.W.fnOf "_law_take" "_law_take" (defArgs s_take) (defBody s_take) (defScope s_take) .none kV7 dc7 pm7 an7 cd7 ct7, f_names := f_names, fd_names := PySem.W.fnOf "_law_names" "_law_names" (defArgs s_names) (defBody s_names) (defScope s_names) .none kV8 dc8 pm8 an8 cd8 ct8, f_kinds := f_kinds, fd_kinds := PySem.W.fnOf "_law_kinds" "_law_kinds" (defArgs s_kinds) (defBody s_kinds) (defScope s_kinds) .none kV9 dc9 pm9 an9 cd9 ct9, f_of_nothing := f_of_nothing, fd_of_nothing := PySem.W.fnOf "_law_of_nothing" "_law_of_nothing" (defArgs s_of_nothing) (defBody s_of_nothing) (defScope s_of_nothing) .none kV10 dc10 pm10 an10 cd10 ct10, f_of_text := f_of_text, fd_of_text := PySem.W.fnOf "_law_of_text" "_law_of_text" (defArgs s_of_text) (defBody s_of_text) (defScope s_of_text) .none kV11 dc11 pm11 an11 cd11 ct11, f_are_kinds := f_are_kinds, fd_are_kinds := PySem.W.fnOf "_law_are_kinds" "_law_are_kinds" (defArgs s_are_kinds) (defBody s_are_kinds) (defScope s_are_kinds) .none kV12 dc12 pm12 an12 cd12 ct12, f_law := fa, fd_law := PySem.W.fnOf "law" "law" (defArgs s_law) (defBody s_law) (defScope s_law) .none kV13 dc13 pm13 an13 cd13 ct13, C_PointError := C_PointError, C_NoWeb := C_NoWeb, C_NoText := C_NoText, C_NoNumbers := C_NoNumbers, C_NoLot := C_NoLot, C_NoPoint := C_NoPoint, C_NoPointing := C_NoPointing, C_NoEars := C_NoEars, C_NoFixed := C_NoFixed, C_NoNumber := C_NoNumber, C_Unlike := C_Unlike, C_NotOver := C_NotOver, C_TooMuch := C_TooMuch, C_Parted := C_Parted, C_Shut := C_Shut, C_Thin := C_Thin, C_Barred := C_Barred, C_NoIns := C_NoIns } := { F_Parted_init := F1, b_Parted_init := b1, F_Shut_init := F2, b_Shut_init := b2, F_Thin_init := F3, b_Thin_init := b3, F_Barred_init := F4, b_Barred_init := b4, F_NoIns_init := F5, b_NoIns_init := b5, F_pot := F6, b_pot := b6, m_pot := PySem.W.mg_of X G a6, F_take := F7, b_take := b7, m_take := PySem.W.mg_of X G a7, F_names := F8, b_names := b8, m_names := PySem.W.mg_of X G a8, F_kinds := F9, b_kinds := b9, m_kinds := PySem.W.mg_of X G a9, F_of_nothing := F10, b_of_nothing := b10, m_of_nothing := PySem.W.mg_of X G a10, F_of_text := F11, b_of_text := b11, m_of_text := PySem.W.mg_of X G a11, F_are_kinds := F12, b_are_kinds := b12, m_are_kinds := PySem.W.mg_of X G a12, F_law := F13, b_law := b13, m_law := PySem.W.mg_of X G a13, nm := ⟨PySem.W.mg_none_of X G z_len, PySem.W.mg_none_of X G z_max, PySem.W.mg_none_of X G z_min, PySem.W.mg_none_of X G z_abs, PySem.W.mg_none_of X G z_divmod, PySem.W.mg_none_of X G z_range, PySem.W.mg_none_of X G z_zip, PySem.W.mg_none_of X G z_list, PySem.W.mg_none_of X G z_tuple, PySem.W.mg_none_of X G z_int, PySem.W.mg_none_of X G z_str, PySem.W.mg_none_of X G z_set, PySem.W.mg_none_of X G z_all, PySem.W.mg_none_of X G z_isinstance⟩, nm2 := ⟨PySem.W.mg_none_of X G z_enumerate, PySem.W.mg_none_of X G z_any, PySem.W.mg_none_of X G z_dict, PySem.W.mg_none_of X G z_sorted, PySem.W.mg_none_of X G z_repr, PySem.W.mg_none_of X G z_bool⟩, nm3 := ⟨PySem.W.mg_none_of X G z_sum⟩, m_PointError := PySem.W.mg_of X G aC_PointError, m_NoWeb := PySem.W.mg_of X G aC_NoWeb, m_NoText := PySem.W.mg_of X G aC_NoText, m_NoNumbers := PySem.W.mg_of X G aC_NoNumbers, m_NoLot := PySem.W.mg_of X G aC_NoLot, m_NoPoint := PySem.W.mg_of X G aC_NoPoint, m_NoPointing := PySem.W.mg_of X G aC_NoPointing, m_NoEars := PySem.W.mg_of X G aC_NoEars, m_NoFixed := PySem.W.mg_of X G aC_NoFixed, m_NoNumber := PySem.W.mg_of X G aC_NoNumber, m_Unlike := PySem.W.mg_of X G aC_Unlike, m_NotOver := PySem.W.mg_of X G aC_NotOver, m_TooMuch := PySem.W.mg_of X G aC_TooMuch, m_Parted := PySem.W.mg_of X G aC_Parted, m_Shut := PySem.W.mg_of X G aC_Shut, m_Thin := PySem.W.mg_of X G aC_Thin, m_Barred := PySem.W.mg_of X G aC_Barred, m_NoIns := PySem.W.mg_of X G aC_NoIns, x_PointError := x_PointError, x_NoWeb := x_NoWeb, x_NoText := x_NoText, x_NoNumbers := x_NoNumbers, x_NoLot := x_NoLot, x_NoPoint := x_NoPoint, x_NoPointing := x_NoPointing, x_NoEars := x_NoEars, x_NoFixed := x_NoFixed, x_NoNumber := x_NoNumber, x_Unlike := x_Unlike, x_NotOver := x_NotOver, x_TooMuch := x_TooMuch, ib := ki_PointError, tb := kt_PointError, ini := ⟨sg_B, rd_B, fc_B⟩, sp_oc := sp_oc, tk_oc := tk_oc, nd := nodupB_ok nd_all, xc_NoWeb := ⟨⟨_, cl_NoWeb, cm_NoWeb, ch_NoWeb⟩, kt_NoWeb, ga_NoWeb, gn_NoWeb, gc_NoWeb, kc_NoWeb⟩, xc_NoText := ⟨⟨_, cl_NoText, cm_NoText, ch_NoText⟩, kt_NoText, ga_NoText, gn_NoText, gc_NoText, kc_NoText⟩, xc_NoNumbers := ⟨⟨_, cl_NoNumbers, cm_NoNumbers, ch_NoNumbers⟩, kt_NoNumbers, ga_NoNumbers, gn_NoNumbers, gc_NoNumbers, kc_NoNumbers⟩, xc_NoLot := ⟨⟨_, cl_NoLot, cm_NoLot, ch_NoLot⟩, kt_NoLot, ga_NoLot, gn_NoLot, gc_NoLot, kc_NoLot⟩, xc_NoPoint := ⟨⟨_, cl_NoPoint, cm_NoPoint, ch_NoPoint⟩, kt_NoPoint, ga_NoPoint, gn_NoPoint, gc_NoPoint, kc_NoPoint⟩, xc_NoPointing := ⟨⟨_, cl_NoPointing, cm_NoPointing, ch_NoPointing⟩, kt_NoPointing, ga_NoPointing, gn_NoPointing, gc_NoPointing, kc_NoPointing⟩, xc_NoEars := ⟨⟨_, cl_NoEars, cm_NoEars, ch_NoEars⟩, kt_NoEars, ga_NoEars, gn_NoEars, gc_NoEars, kc_NoEars⟩, xc_NoFixed := ⟨⟨_, cl_NoFixed, cm_NoFixed, ch_NoFixed⟩, kt_NoFixed, ga_NoFixed, gn_NoFixed, gc_NoFixed, kc_NoFixed⟩, xc_NoNumber := ⟨⟨_, cl_NoNumber, cm_NoNumber, ch_NoNumber⟩, kt_NoNumber, ga_NoNumber, gn_NoNumber, gc_NoNumber, kc_NoNumber⟩, xc_Unlike := ⟨⟨_, cl_Unlike, cm_Unlike, ch_Unlike⟩, kt_Unlike, ga_Unlike, gn_Unlike, gc_Unlike, kc_Unlike⟩, xc_NotOver := ⟨⟨_, cl_NotOver, cm_NotOver, ch_NotOver⟩, kt_NotOver, ga_NotOver, gn_NotOver, gc_NotOver, kc_NotOver⟩, xc_TooMuch := ⟨⟨_, cl_TooMuch, cm_TooMuch, ch_TooMuch⟩, kt_TooMuch, ga_TooMuch, gn_TooMuch, gc_TooMuch, kc_TooMuch⟩, xc_Parted := ⟨⟨_, cl_Parted, cm_Parted, ch_Parted⟩, kt_Parted, ga_Parted, gn_Parted, gc_Parted, kc_Parted⟩, xc_Shut := ⟨⟨_, cl_Shut, cm_Shut, ch_Shut⟩, kt_Shut, ga_Shut, gn_Shut, gc_Shut, kc_Shut⟩, xc_Thin := ⟨⟨_, cl_Thin, cm_Thin, ch_Thin⟩, kt_Thin, ga_Thin, gn_Thin, gc_Thin, kc_Thin⟩, xc_Barred := ⟨⟨_, cl_Barred, cm_Barred, ch_Barred⟩, kt_Barred, ga_Barred, gn_Barred, gc_Barred, kc_Barred⟩, xc_NoIns := ⟨⟨_, cl_NoIns, cm_NoIns, ch_NoIns⟩, kt_NoIns, ga_NoIns, gn_NoIns, gc_NoIns, kc_NoIns⟩, mk_Parted := ⟨⟨_, _, _, _, _, _, _, _, _, _, _, _, _, _, _, lk_Parted⟩, x_PointError, ⟨_, cl_PointError, cm_PointError⟩, a1, beq_iff_eq.mp i1, kc_Parted⟩, es_Parted := XC.set ⟨⟨_, cl_Parted, cm_Parted, ch_Parted⟩, kt_Parted, ga_Parted, gn_Parted, gc_Parted, kc_Parted⟩ sa_Parted, na_Parted_lot := na_Parted_lot, mk_Shut := ⟨⟨_, _, _, _, _, _, _, _, _, _, _, _, _, _, _, lk_Shut⟩, x_PointError, ⟨_, cl_PointError, cm_PointError⟩, a2, beq_iff_eq.mp i2, kc_Shut⟩, es_Shut := XC.set ⟨⟨_, cl_Shut, cm_Shut, ch_Shut⟩, kt_Shut, ga_Shut, gn_Shut, gc_Shut, kc_Shut⟩ sa_Shut, na_Shut_lot := na_Shut_lot, mk_Thin := ⟨⟨_, _, _, _, _, _, _, _, _, _, _, _, _, _, _, lk_Thin⟩, x_PointError, ⟨_, cl_PointError, cm_PointError⟩, a3, beq_iff_eq.mp i3, kc_Thin⟩, es_Thin := XC.set ⟨⟨_, cl_Thin, cm_Thin, ch_Thin⟩, kt_Thin, ga_Thin, gn_Thin, gc_Thin, kc_Thin⟩ sa_Thin, na_Thin_lot := na_Thin_lot, mk_Barred := ⟨⟨_, _, _, _, _, _, _, _, _, _, _, _, _, _, _, lk_Barred⟩, x_PointError, ⟨_, cl_PointError, cm_PointError⟩, a4, beq_iff_eq.mp i4, kc_Barred⟩, es_Barred := XC.set ⟨⟨_, cl_Barred, cm_Barred, ch_Barred⟩, kt_Barred, ga_Barred, gn_Barred, gc_Barred, kc_Barred⟩ sa_Barred, na_Barred_tie := na_Barred_tie, na_Barred_lot := na_Barred_lot, mk_NoIns := ⟨⟨_, _, _, _, _, _, _, _, _, _, _, _, _, _, _, lk_NoIns⟩, x_PointError, ⟨_, cl_PointError, cm_PointError⟩, a5, beq_iff_eq.mp i5, kc_NoIns⟩, es_NoIns := XC.set ⟨⟨_, cl_NoIns, cm_NoIns, ch_NoIns⟩, kt_NoIns, ga_NoIns, gn_NoIns, gc_NoIns, kc_NoIns⟩ sa_NoIns, na_NoIns_word := na_NoIns_word, na_NoIns_part := na_NoIns_part, z_ValueError := PySem.W.mg_none_of X G z_ValueError }
  exact ⟨_, fun s v => .of_eq rfl, fun base _ _ => ok_law T⟩
theorem walk {l : PySem.W.OpenLaw} {q : Program} {loose : List Str} {XP : (Str → Option Value) → Heap → Prop} {YP : World → Heap → Prop} {d : DefRec} {K : Params → PySem.W.Frag} (hn : l.most = some 63) (hdf : d.params.defaults = [])
    (hY : ∀ (w : World) (h : Heap), YP w h → (K w.params).In h)
    (F : ∀ (w : World) (mg : Str → Option Value) (fa : Addr) (h : Heap), (K w.params).In h → h.Ns mainGlobals mg → mg d.name = some (.ref fa) →
      ∃ fd : FuncData, (∀ (s : Shared) (u : Value), BindsTo s fd ⟨[u], []⟩ [("_law_script", u)]) ∧ ∀ base : Heap, (K w.params).In base → base.Ns mainGlobals mg → FnOk l.prog w (K w.params) mg base CX0 5 fa fd ["_law_script"] (sp_law (K w.params))) :
    PySem.W.WalkO q loose XP YP l.row.toRowW d [] (fun f vs => PySem.call f vs) :=
  L2.walk_of (n := 63) (k := 5) (x := "_law_script") (CX := fun _ => CX0) (sp := fun w => sp_law (K w.params)) hn (by decide) hdf ⟨rfl, by decide, by decide, rfl⟩ hY F (fun _ _ a ns hl _ hS => ⟨a, ns, rfl, hS, hl, fun _ => rfl⟩) fun _ _ _ _ _ z => z
end K17
end
set_option Elab.async false
set_option maxRecDepth 100000
set_option maxHeartbeats 4000000
open PySem PySem.W PyProof.Rows
set_option maxRecDepth 100000 in
set_option maxHeartbeats 0 in
theorem PySem.Challenge.cw_pointways_k17_refusals_made_holds : PySem.Challenge.rw_pointways_k17_refusals_made.Holds := by
  w_on; o_law; k_head; (case hw => w_witness2)
  k_fill
  refine K17.walk (l := PySem.Challenge.rw_pointways_k17_refusals_made) rfl rfl (fun w h Y => PySem.W.kIn_of Y) ?F
  case F =>
    intro w mg fa h KX G hmg
    refine' K17.all_mk KX G hmg ?aC_PointError ?aC_NoWeb ?aC_NoText ?aC_NoNumbers ?aC_NoLot ?aC_NoPoint ?aC_NoPointing ?aC_NoEars ?aC_NoFixed ?aC_NoNumber ?aC_Unlike ?aC_NotOver ?aC_TooMuch ?aC_Parted ?aC_Shut ?aC_Thin ?aC_Barred ?aC_NoIns ?a1 ?i1 ?l1 ?c1 ?k1 ?a2 ?i2 ?l2 ?c2 ?k2 ?a3 ?i3 ?l3 ?c3 ?k3 ?a4 ?i4 ?l4 ?c4 ?k4 ?a5 ?i5 ?l5 ?c5 ?k5 ?a6 ?l6 ?c6 ?k6 ?a7 ?l7 ?c7 ?k7 ?a8 ?l8 ?c8 ?k8 ?a9 ?l9 ?c9 ?k9 ?a10 ?l10 ?c10 ?k10 ?a11 ?l11 ?c11 ?k11 ?a12 ?l12 ?c12 ?k12 ?a13 ?l13 ?c13 ?k13 ?z_len ?z_max ?z_min ?z_abs ?z_divmod ?z_range ?z_zip ?z_list ?z_tuple ?z_int ?z_str ?z_set ?z_all ?z_isinstance ?z_enumerate ?z_any ?z_dict ?z_sorted ?z_repr ?z_bool ?z_sum ?cl_PointError ?cm_PointError ?kt_PointError ?cl_NoWeb ?cm_NoWeb ?kt_NoWeb ?cl_NoText ?cm_NoText ?kt_NoText ?cl_NoNumbers ?cm_NoNumbers ?kt_NoNumbers ?cl_NoLot ?cm_NoLot ?kt_NoLot ?cl_NoPoint ?cm_NoPoint ?kt_NoPoint ?cl_NoPointing ?cm_NoPointing ?kt_NoPointing ?cl_NoEars ?cm_NoEars ?kt_NoEars ?cl_NoFixed ?cm_NoFixed ?kt_NoFixed ?cl_NoNumber ?cm_NoNumber ?kt_NoNumber ?cl_Unlike ?cm_Unlike ?kt_Unlike ?cl_NotOver ?cm_NotOver ?kt_NotOver ?cl_TooMuch ?cm_TooMuch ?kt_TooMuch ?cl_Parted ?cm_Parted ?kt_Parted ?cl_Shut ?cm_Shut ?kt_Shut ?cl_Thin ?cm_Thin ?kt_Thin ?cl_Barred ?cm_Barred ?kt_Barred ?cl_NoIns ?cm_NoIns ?kt_NoIns ?x_PointError ?x_NoWeb ?x_NoText ?x_NoNumbers ?x_NoLot ?x_NoPoint ?x_NoPointing ?x_NoEars ?x_NoFixed ?x_NoNumber ?x_Unlike ?x_NotOver ?x_TooMuch ?ki_PointError ?sg_B ?rd_B ?fc_B ?sp_oc ?tk_oc ?nd_all ?ch_NoWeb ?ga_NoWeb ?gn_NoWeb ?gc_NoWeb ?kc_NoWeb ?ch_NoText ?ga_NoText ?gn_NoText ?gc_NoText ?kc_NoText ?ch_NoNumbers ?ga_NoNumbers ?gn_NoNumbers ?gc_NoNumbers ?kc_NoNumbers ?ch_NoLot ?ga_NoLot ?gn_NoLot ?gc_NoLot ?kc_NoLot ?ch_NoPoint ?ga_NoPoint ?gn_NoPoint ?gc_NoPoint ?kc_NoPoint ?ch_NoPointing ?ga_NoPointing ?gn_NoPointing ?gc_NoPointing ?kc_NoPointing ?ch_NoEars ?ga_NoEars ?gn_NoEars ?gc_NoEars ?kc_NoEars ?ch_NoFixed ?ga_NoFixed ?gn_NoFixed ?gc_NoFixed ?kc_NoFixed ?ch_NoNumber ?ga_NoNumber ?gn_NoNumber ?gc_NoNumber ?kc_NoNumber ?ch_Unlike ?ga_Unlike ?gn_Unlike ?gc_Unlike ?kc_Unlike ?ch_NotOver ?ga_NotOver ?gn_NotOver ?gc_NotOver ?kc_NotOver ?ch_TooMuch ?ga_TooMuch ?gn_TooMuch ?gc_TooMuch ?kc_TooMuch ?ch_Parted ?ga_Parted ?gn_Parted ?gc_Parted ?kc_Parted ?ch_Shut ?ga_Shut ?gn_Shut ?gc_Shut ?kc_Shut ?ch_Thin ?ga_Thin ?gn_Thin ?gc_Thin ?kc_Thin ?ch_Barred ?ga_Barred ?gn_Barred ?gc_Barred ?kc_Barred ?ch_NoIns ?ga_NoIns ?gn_NoIns ?gc_NoIns ?kc_NoIns ?lk_Parted ?sa_Parted ?na_Parted_lot ?lk_Shut ?sa_Shut ?na_Shut_lot ?lk_Thin ?sa_Thin ?na_Thin_lot ?lk_Barred ?sa_Barred ?na_Barred_tie ?na_Barred_lot ?lk_NoIns ?sa_NoIns ?na_NoIns_word ?na_NoIns_part ?z_ValueError
    (case aC_PointError => k_is)
    (case aC_NoWeb => k_is)
    (case aC_NoText => k_is)
    (case aC_NoNumbers => k_is)
    (case aC_NoLot => k_is)
    (case aC_NoPoint => k_is)
    (case aC_NoPointing => k_is)
    (case aC_NoEars => k_is)
    (case aC_NoFixed => k_is)
    (case aC_NoNumber => k_is)
    (case aC_Unlike => k_is)
    (case aC_NotOver => k_is)
    (case aC_TooMuch => k_is)
    (case aC_Parted => k_is)
    (case aC_Shut => k_is)
    (case aC_Thin => k_is)
    (case aC_Barred => k_is)
    (case aC_NoIns => k_is)
    (case a1 => k_is)
    (case i1 => k_is)
    (case l1 => k_is)
    (case c1 => k_is)
    (case k1 => k_is)
    (case a2 => k_is)
    (case i2 => k_is)
    (case l2 => k_is)
    (case c2 => k_is)
    (case k2 => k_is)
    (case a3 => k_is)
    (case i3 => k_is)
    (case l3 => k_is)
    (case c3 => k_is)
    (case k3 => k_is)
    (case a4 => k_is)
    (case i4 => k_is)
    (case l4 => k_is)
    (case c4 => k_is)
    (case k4 => k_is)
    (case a5 => k_is)
    (case i5 => k_is)
    (case l5 => k_is)
    (case c5 => k_is)
    (case k5 => k_is)
    (case a6 => k_is)
    (case l6 => k_is)
    (case c6 => k_is)
    (case k6 => k_is)
    (case a7 => k_is)
    (case l7 => k_is)
    (case c7 => k_is)
    (case k7 => k_is)
    (case a8 => k_is)
    (case l8 => k_is)
    (case c8 => k_is)
    (case k8 => k_is)
    (case a9 => k_is)
    (case l9 => k_is)
    (case c9 => k_is)
    (case k9 => k_is)
    (case a10 => k_is)
    (case l10 => k_is)
    (case c10 => k_is)
    (case k10 => k_is)
    (case a11 => k_is)
    (case l11 => k_is)
    (case c11 => k_is)
    (case k11 => k_is)
    (case a12 => k_is)
    (case l12 => k_is)
    (case c12 => k_is)
    (case k12 => k_is)
    (case a13 => k_is)
    (case l13 => k_is)
    (case c13 => k_is)
    (case k13 => k_is)
    (case z_len => k_is)
    (case z_max => k_is)
    (case z_min => k_is)
    (case z_abs => k_is)
    (case z_divmod => k_is)
    (case z_range => k_is)
    (case z_zip => k_is)
    (case z_list => k_is)
    (case z_tuple => k_is)
    (case z_int => k_is)
    (case z_str => k_is)
    (case z_set => k_is)
    (case z_all => k_is)
    (case z_isinstance => k_is)
    (case z_enumerate => k_is)
    (case z_any => k_is)
    (case z_dict => k_is)
    (case z_sorted => k_is)
    (case z_repr => k_is)
    (case z_bool => k_is)
    (case z_sum => k_is)
    (case cl_PointError => k_is)
    (case cm_PointError => rfl)
    (case kt_PointError => k_is)
    (case cl_NoWeb => k_is)
    (case cm_NoWeb => rfl)
    (case kt_NoWeb => k_is)
    (case cl_NoText => k_is)
    (case cm_NoText => rfl)
    (case kt_NoText => k_is)
    (case cl_NoNumbers => k_is)
    (case cm_NoNumbers => rfl)
    (case kt_NoNumbers => k_is)
    (case cl_NoLot => k_is)
    (case cm_NoLot => rfl)
    (case kt_NoLot => k_is)
    (case cl_NoPoint => k_is)
    (case cm_NoPoint => rfl)
    (case kt_NoPoint => k_is)
    (case cl_NoPointing => k_is)
    (case cm_NoPointing => rfl)
    (case kt_NoPointing => k_is)
    (case cl_NoEars => k_is)
    (case cm_NoEars => rfl)
    (case kt_NoEars => k_is)
    (case cl_NoFixed => k_is)
    (case cm_NoFixed => rfl)
    (case kt_NoFixed => k_is)
    (case cl_NoNumber => k_is)
    (case cm_NoNumber => rfl)
    (case kt_NoNumber => k_is)
    (case cl_Unlike => k_is)
    (case cm_Unlike => rfl)
    (case kt_Unlike => k_is)
    (case cl_NotOver => k_is)
    (case cm_NotOver => rfl)
    (case kt_NotOver => k_is)
    (case cl_TooMuch => k_is)
    (case cm_TooMuch => rfl)
    (case kt_TooMuch => k_is)
    (case cl_Parted => k_is)
    (case cm_Parted => rfl)
    (case kt_Parted => k_is)
    (case cl_Shut => k_is)
    (case cm_Shut => rfl)
    (case kt_Shut => k_is)
    (case cl_Thin => k_is)
    (case cm_Thin => rfl)
    (case kt_Thin => k_is)
    (case cl_Barred => k_is)
    (case cm_Barred => rfl)
    (case kt_Barred => k_is)
    (case cl_NoIns => k_is)
    (case cm_NoIns => rfl)
    (case kt_NoIns => k_is)
    (case x_PointError => k_exc)
    (case x_NoWeb => k_exc)
    (case x_NoText => k_exc)
    (case x_NoNumbers => k_exc)
    (case x_NoLot => k_exc)
    (case x_NoPoint => k_exc)
    (case x_NoPointing => k_exc)
    (case x_NoEars => k_exc)
    (case x_NoFixed => k_exc)
    (case x_NoNumber => k_exc)
    (case x_Unlike => k_exc)
    (case x_NotOver => k_exc)
    (case x_TooMuch => k_exc)
    (case ki_PointError => k_is)
    (case sg_B => k_is)
    (case rd_B => k_is)
    (case fc_B => k_is)
    (case sp_oc => k_is)
    (case tk_oc => k_is)
    (case nd_all => decide +kernel)
    (case ch_NoWeb => rfl)
    (case ga_NoWeb => k_is)
    (case gn_NoWeb => k_is)
    (case gc_NoWeb => k_is)
    (case kc_NoWeb => k_is)
    (case ch_NoText => rfl)
    (case ga_NoText => k_is)
    (case gn_NoText => k_is)
    (case gc_NoText => k_is)
    (case kc_NoText => k_is)
    (case ch_NoNumbers => rfl)
    (case ga_NoNumbers => k_is)
    (case gn_NoNumbers => k_is)
    (case gc_NoNumbers => k_is)
    (case kc_NoNumbers => k_is)
    (case ch_NoLot => rfl)
    (case ga_NoLot => k_is)
    (case gn_NoLot => k_is)
    (case gc_NoLot => k_is)
    (case kc_NoLot => k_is)
    (case ch_NoPoint => rfl)
    (case ga_NoPoint => k_is)
    (case gn_NoPoint => k_is)
    (case gc_NoPoint => k_is)
    (case kc_NoPoint => k_is)
    (case ch_NoPointing => rfl)
    (case ga_NoPointing => k_is)
    (case gn_NoPointing => k_is)
    (case gc_NoPointing => k_is)
    (case kc_NoPointing => k_is)
    (case ch_NoEars => rfl)
    (case ga_NoEars => k_is)
    (case gn_NoEars => k_is)
    (case gc_NoEars => k_is)
    (case kc_NoEars => k_is)
    (case ch_NoFixed => rfl)
    (case ga_NoFixed => k_is)
    (case gn_NoFixed => k_is)
    (case gc_NoFixed => k_is)
    (case kc_NoFixed => k_is)
    (case ch_NoNumber => rfl)
    (case ga_NoNumber => k_is)
    (case gn_NoNumber => k_is)
    (case gc_NoNumber => k_is)
    (case kc_NoNumber => k_is)
    (case ch_Unlike => rfl)
    (case ga_Unlike => k_is)
    (case gn_Unlike => k_is)
    (case gc_Unlike => k_is)
    (case kc_Unlike => k_is)
    (case ch_NotOver => rfl)
    (case ga_NotOver => k_is)
    (case gn_NotOver => k_is)
    (case gc_NotOver => k_is)
    (case kc_NotOver => k_is)
    (case ch_TooMuch => rfl)
    (case ga_TooMuch => k_is)
    (case gn_TooMuch => k_is)
    (case gc_TooMuch => k_is)
    (case kc_TooMuch => k_is)
    (case ch_Parted => rfl)
    (case ga_Parted => k_is)
    (case gn_Parted => k_is)
    (case gc_Parted => k_is)
    (case kc_Parted => k_is)
    (case ch_Shut => rfl)
    (case ga_Shut => k_is)
    (case gn_Shut => k_is)
    (case gc_Shut => k_is)
    (case kc_Shut => k_is)
    (case ch_Thin => rfl)
    (case ga_Thin => k_is)
    (case gn_Thin => k_is)
    (case gc_Thin => k_is)
    (case kc_Thin => k_is)
    (case ch_Barred => rfl)
    (case ga_Barred => k_is)
    (case gn_Barred => k_is)
    (case gc_Barred => k_is)
    (case kc_Barred => k_is)
    (case ch_NoIns => rfl)
    (case ga_NoIns => k_is)
    (case gn_NoIns => k_is)
    (case gc_NoIns => k_is)
    (case kc_NoIns => k_is)
    (case lk_Parted => k_is)
    (case sa_Parted => k_is)
    (case na_Parted_lot => k_is)
    (case lk_Shut => k_is)
    (case sa_Shut => k_is)
    (case na_Shut_lot => k_is)
    (case lk_Thin => k_is)
    (case sa_Thin => k_is)
    (case na_Thin_lot => k_is)
    (case lk_Barred => k_is)
    (case sa_Barred => k_is)
    (case na_Barred_tie => k_is)
    (case na_Barred_lot => k_is)
    (case lk_NoIns => k_is)
    (case sa_NoIns => k_is)
    (case na_NoIns_word => k_is)
    (case na_NoIns_part => k_is)
    (case z_ValueError => k_is)


