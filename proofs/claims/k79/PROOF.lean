import PyProof.Rows.All
import Wide.All
import OpenK.AllK
import Wide.FinOn
import Lean
import PyProof.EqAt
import PyProof.EqKinds
import PyProof.TupleCall
import KE.KDictList
import KE.KDictOf
import KE.KIntText
import KE.KItemsList
import KE.KSortKey
import KE.KSortTup
import KE.KTryMore
import PyProof.AttrMissHeap
import PyProof.AutoSeq1
import PyProof.ExcAttrAll.ValueError
import PyProof.FitsBits
import PyProof.MinMaxWalk
import PyProof.P3Eq
import PyProof.P3In
import PyProof.ReprLen
import PyProof.Rows.DictRows
import PyProof.Rows.Own
import PyProof.Rows.RuleB_bool
import PyProof.Rows.TupIter
import PyProof.SeqI3
import PyProof.StrBlockG
import PyProof.StrOps2
import PyProof.StrWalks
import PyProof.SumWalkG
import PyProof.WalkInts
import PySem.Challenge.RW_allsome_k79_trees_written_and_read
set_option Elab.async false
set_option compiler.extract_closed false
set_option bootstrap.genMatcherCode false
set_option linter.all false
set_option maxRecDepth 100000
namespace L2
open PySem PySem.Spec PyProof.Rows
noncomputable abbrev Key := Sum Int Str
noncomputable def keyIs : Key → Value → Bool
  | .inl k, v => Value.isInt k v
  | .inr x, v => Value.isStrOf x v
noncomputable def keyH (w : World) : Key → Int
  | .inl k => hashInt k
  | .inr x => hashStr w x
theorem keyIs_shape : ∀ {k : Key} {v : Value}, keyIs k v = true → (∃ i t, k = Sum.inl i ∧ v = Value.int i t) ∨ (∃ x t, k = Sum.inr x ∧ v = Value.str x t)
  | .inl i, v, h => by
    obtain ⟨t, e⟩ := Value.isInt_shape (k := i) (v := v) h
    exact .inl ⟨i, t, rfl, e⟩
  | .inr x, v, h => by
    obtain ⟨t, e⟩ := Value.isStrOf_shape (x := x) (v := v) h
    exact .inr ⟨x, t, rfl, e⟩
theorem key_ll (a b : Int) : decide ((Sum.inl a : Key) = Sum.inl b) = (a == b) := by
  by_cases e : a = b
  · subst e; simp
  · have h : ¬ (Sum.inl a : Key) = Sum.inl b := fun q => e (Sum.inl.inj q)
    rw [decide_eq_false h]
    exact (beq_eq_false_iff_ne.mpr e).symm
theorem key_rr (a b : Str) : decide ((Sum.inr a : Key) = Sum.inr b) = decide (a = b) := by
  by_cases e : a = b
  · subst e; simp
  · have h : ¬ (Sum.inr a : Key) = Sum.inr b := fun q => e (Sum.inr.inj q)
    rw [decide_eq_false h, decide_eq_false e]
theorem key_lr (a : Int) (b : Str) : decide ((Sum.inl a : Key) = Sum.inr b) = false := decide_eq_false (fun q => nomatch q)
theorem key_rl (a : Str) (b : Int) : decide ((Sum.inr a : Key) = Sum.inl b) = false := decide_eq_false (fun q => nomatch q)
noncomputable def mixKind (prog : Program) (w : World) : PySem.KeyKind prog w Key where
  is := keyIs
  hash := keyH w
  inj := fun v a b ha hb => by
    rcases keyIs_shape ha with ⟨i, t, rfl, rfl⟩ | ⟨x, t, rfl, rfl⟩
    · rcases keyIs_shape hb with ⟨j, u, rfl, e⟩ | ⟨y, u, rfl, e⟩
      · injection e with e1 _; rw [e1]
      · exact nomatch e
    · rcases keyIs_shape hb with ⟨j, u, rfl, e⟩ | ⟨y, u, rfl, e⟩
      · exact nomatch e
      · injection e with e1 _; rw [e1]
  byValue := fun k v h => by
    rcases keyIs_shape h with ⟨i, t, rfl, rfl⟩ | ⟨x, t, rfl, rfl⟩ <;> rfl
  pyHash := fun hv h => by
    rcases keyIs_shape hv with ⟨i, t, rfl, rfl⟩ | ⟨x, t, rfl, rfl⟩
    · exact wpAny_pyHash_int h
    · exact wpAny_pyHash_str h
  eqBool := fun hu hv h => by
    rcases keyIs_shape hu with ⟨i, t, rfl, rfl⟩ | ⟨x, t, rfl, rfl⟩
    · rcases keyIs_shape hv with ⟨j, u, rfl, rfl⟩ | ⟨y, u, rfl, rfl⟩
      · rw [key_ll] at h; exact wpAny_eqBool_int h
      · rw [key_lr] at h; exact SeqAt.EqAt.int_str i t y u _ _ _ _ h
    · rcases keyIs_shape hv with ⟨j, u, rfl, rfl⟩ | ⟨y, u, rfl, rfl⟩
      · rw [key_rl] at h; exact SeqAt.EqAt.str_int x t j u _ _ _ _ h
      · rw [key_rr] at h; exact wpAny_eqBool_str h
  «strs» := fun k x t v h => by
    rcases keyIs_shape h with ⟨i, u, rfl, e⟩ | ⟨y, u, rfl, e⟩
    · exact nomatch e
    · injection e with e1 _
      subst e1
      cases v <;> rfl
end L2
namespace L2
open PySem PySem.Spec PyProof.Rows
inductive V where
  | non | bl (b : Bool) | int (i : Int) | str (x : Str) | byt (b : Array UInt8) | flt (b : UInt64) | ref (a : Addr) | ty (n : String)
noncomputable def RelV : V → Value → Prop
  | .non, u => u = Value.none
  | .bl b, u => u = Value.bool b
  | .int i, u => ∃ t, u = Value.int i t
  | .str x, u => ∃ t, u = Value.str x t
  | .byt b, u => ∃ t, u = Value.bytes b t
  | .flt b, u => ∃ t, u = Value.float b t
  | .ref a, u => u = Value.ref a
  | .ty n, u => u = Value.type n
noncomputable abbrev Vals : List V → List Value → Prop := Paired RelV
theorem Vals.length {xs : List V} {us : List Value} (r : Vals xs us) : xs.length = us.length := Paired.length r
theorem Vals.get : ∀ {xs : List V} {us : List Value} {i : Nat} {x : V}, Vals xs us → xs[i]? = some x → ∃ u, us[i]? = some u ∧ RelV x u
  | _, _, _, _, .nil, e => by simp at e
  | _, _, 0, _, .cons r _, e => by simp at e; subst e; exact ⟨_, rfl, r⟩
  | _, _, i + 1, x, .cons _ t, e => by
    obtain ⟨u, h1, h2⟩ := Vals.get (i := i) (x := x) t (by simpa using e)
    exact ⟨u, by simpa using h1, h2⟩
theorem Vals.append : ∀ {xs ys : List V} {us ws : List Value}, Vals xs us → Vals ys ws → Vals (xs ++ ys) (us ++ ws)
  | _, _, _, _, .nil, s => s
  | _, _, _, _, .cons r t, s => .cons r (Vals.append t s)
theorem Vals.take : ∀ {xs : List V} {us : List Value} (n : Nat), Vals xs us → Vals (xs.take n) (us.take n)
  | _, _, 0, _ => .nil
  | _, _, _ + 1, .nil => .nil
  | _, _, n + 1, .cons r t => .cons r (Vals.take n t)
theorem Vals.drop : ∀ {xs : List V} {us : List Value} (n : Nat), Vals xs us → Vals (xs.drop n) (us.drop n)
  | _, _, 0, r => r
  | _, _, _ + 1, .nil => .nil
  | _, _, n + 1, .cons _ t => Vals.drop n t
noncomputable def RelO : Option V → Option Value → Prop
  | some v, some u => RelV v u
  | none, none => True
  | _, _ => False
noncomputable def KV {κ : Type} : List (κ × V) → List (κ × Value) → Prop := Paired fun (p : κ × V) (q : κ × Value) => p.1 = q.1 ∧ RelV p.2 q.2
noncomputable def kV : Key → V
  | .inl i => .int i
  | .inr x => .str x
inductive HO where
  | lst (xs : List V)
  | tup (xs : List V)
  | dK (kvs : List (Key × V)) | dT (kvs : List (List Key × V))
  | set (S : Int → Bool) (n : Nat)
  | ins (C dx : Addr) (fs : List (Str × V))
  | own (x : Addr)
  | xd (fs : List (Str × V))
  | met (f x : Addr)
  | rng (lo hi : Int)
  | frz (o : Obj) (u : HO)
  | tbl (ps : Array Value)
  | ext (φ : Heap → Prop)
noncomputable abbrev Hp := Addr → Option HO
noncomputable def upd (H : Hp) (a : Addr) (o : HO) : Hp := fun b => if b = a then some o else H b
theorem upd_same {H : Hp} {a : Addr} {o : HO} : upd H a o a = some o := by unfold upd; rw [if_pos rfl]
theorem upd_ne {H : Hp} {a b : Addr} {o : HO} (h : b ≠ a) : upd H a o b = H b := by unfold upd; rw [if_neg h]
theorem ne_of {H : Hp} {a b : Addr} {o u : HO} (h : H a = some o) (h' : H b = some u) (d : o ≠ u) : a ≠ b := by
  intro e; subst e; rw [h] at h'; exact d (Option.some.inj h')
theorem ne_of_none {H : Hp} {a b : Addr} {o : HO} (h : H a = some o) (h' : H b = none) : a ≠ b := by
  intro e; subst e; rw [h] at h'; cases h'
noncomputable def IsTuN (h : Heap) (a : Addr) (items : Array Value) : Prop := ∃ o, h.get? a = some o ∧ o.cls = .type "tuple" ∧ (∃ n, o.data = .seq items n) ∧ o.dict = none
theorem IsTuN.new (h : Heap) (items : Array Value) : IsTuN (h.push { cls := .type "tuple", data := .seq items }) h.objs.size items := ⟨_, Heap.get?_push_size _ rfl, rfl, ⟨_, rfl⟩, rfl⟩
theorem IsTuN.tup {h : Heap} {a : Addr} {items : Array Value} (x : IsTuN h a items) : IsTup h a items := let ⟨o, e, c, d, _⟩ := x; ⟨o, e, c, d⟩
section
variable (P : Program) (w : World)
noncomputable def ObjOk (H : Hp) (h : Heap) (a : Addr) : HO → Prop
  | .lst xs => xs.length ≤ sizeLine ∧ ∃ (its : List Value) (n : Nat), Vals xs its ∧ h.get? a = some { cls := .type "list", data := .seq its.toArray n }
  | .tup xs => xs.length ≤ sizeLine ∧ ∃ its : List Value, Vals xs its ∧ IsTuN h a its.toArray
  | .dK kvs => kvs.length ≤ sizeLine ∧ (a == sysModules) = false ∧ ∃ vs, KV kvs vs ∧ h.DictOf (mixKind P w) a vs
  | .dT kvs => kvs.length ≤ sizeLine ∧ (a == sysModules) = false ∧ ∃ xs : List (List Key × Addr × Value),
      Paired (fun (p : List Key × V) (q : List Key × Addr × Value) => p.1 = q.1 ∧ H q.2.1 = some (.tup (p.1.map kV)) ∧ RelV p.2 q.2.2) kvs xs ∧
      ∃ o es ep, h.get? a = some o ∧ o.ExactDict ∧ o.data = .dict es ep ∧ es.toList = xs.map (entryOfKey (tupleKind (mixKind P w))) ∧ (xs.map (·.1)).Nodup
  | .set S n => h.SetOf (intKind P w) a S n
  | .ins C dx fs => H dx = some (.own a) ∧ fs.length ≤ 1000 ∧ dx ≠ a ∧ h.get? a = some (PySem.W.instObj C dx) ∧
      ∃ mA, h.Ns1 dx mA ∧ (∀ f, RelO (fs.lookup f) (mA f)) ∧ PySem.Within mA (fs.map (·.1))
  | .own _ => ∃ o, h.get? a = some o
  | .xd fs => ∃ mA, h.Ns1 a mA ∧ ∀ f, RelO (fs.lookup f) (mA f)
  | .rng lo hi => ∃ t u v, h.get? a = some { cls := .type "range", data := .fields #[.int lo t, .int hi u, .int 1 v] }
  | .frz o u => h.get? a = some o ∧ ObjOk H h a u
  | .tbl ps => h.get? a = some { cls := .none, data := .fields ps }
  | .met f x => h.get? a = some (PySem.W.methodObj (.ref f) (.ref x))
  | .ext φ => φ h ∧ (∃ o, h.get? a = some o) ∧ ∀ h1 h2 : Heap, φ h1 → (∀ o, h1.get? a = some o → h2.get? a = some o) → φ h2
noncomputable def HOk (H : Hp) (h : Heap) : Prop := ∀ a o, H a = some o → ObjOk P w H h a o
end
section
variable {P : Program} {w : World} {H H' : Hp} {h h' : Heap} {a : Addr} {o : HO}
theorem ObjOk.lt (x : ObjOk P w H h a o) : a < h.objs.size := by
  cases o with
  | lst xs => obtain ⟨_, _, _, _, e⟩ := x; exact Heap.lt_size e
  | tup xs => obtain ⟨_, _, _, p⟩ := x; exact p.tup.lt
  | dK kvs => obtain ⟨_, _, _, _, o, _, _, e, _⟩ := x; exact Heap.lt_size e
  | dT kvs => obtain ⟨_, _, _, _, o, _, _, e, _⟩ := x; exact Heap.lt_size e
  | set S n => obtain ⟨o, _, _, _, e, _⟩ := x; exact Heap.lt_size e
  | ins C dx fs => obtain ⟨_, _, _, e, _⟩ := x; exact Heap.lt_size e
  | own y => obtain ⟨_, e⟩ := x; exact Heap.lt_size e
  | xd fs => obtain ⟨_, ⟨_, _, _, e, _⟩, _⟩ := x; exact Heap.lt_size e
  | rng lo hi => obtain ⟨_, _, _, e⟩ := x; exact Heap.lt_size e
  | frz ob u => obtain ⟨e, _⟩ := x; exact Heap.lt_size e
  | tbl ps => exact Heap.lt_size (show h.get? a = some _ from x)
  | met f y => exact Heap.lt_size (show h.get? a = some _ from x)
  | ext φ => obtain ⟨_, ⟨_, e⟩, _⟩ := x; exact Heap.lt_size e
theorem Paired.mapP {α β : Type} {F G : α → β → Prop} : ∀ {l₁ : List α} {l₂ : List β}, Paired F l₁ l₂ → (∀ a b, F a b → G a b) → Paired G l₁ l₂
  | _, _, .nil, _ => .nil
  | _, _, .cons r t, f => .cons (f _ _ r) (Paired.mapP t f)
theorem ObjOk.stay (x : ObjOk P w H h a o) (k : ∀ b u, (b = a ∨ H b = some (.own a)) → h.get? b = some u → h'.get? b = some u)
    (ho : ∀ b, H b = some (.own a) → H' b = some (.own a)) (ht : ∀ b xs, H b = some (.tup xs) → H' b = some (.tup xs)) : ObjOk P w H' h' a o := by
  induction o with
  | lst xs => obtain ⟨z, its, n, r, e⟩ := x; exact ⟨z, its, n, r, k _ _ (.inl rfl) e⟩
  | tup xs => obtain ⟨z, its, r, ob, e, c⟩ := x; exact ⟨z, its, r, ob, k _ _ (.inl rfl) e, c⟩
  | dK kvs => obtain ⟨z, y, vs, r, ob, es, ep, e, c⟩ := x; exact ⟨z, y, vs, r, ob, es, ep, k _ _ (.inl rfl) e, c⟩
  | dT kvs =>
    obtain ⟨z, y, xs, r, ob, es, ep, e, c⟩ := x
    exact ⟨z, y, xs, Paired.mapP r fun p q z => ⟨z.1, ht _ _ z.2.1, z.2.2⟩, ob, es, ep, k _ _ (.inl rfl) e, c⟩
  | set S n => obtain ⟨ob, es, ep, t, e, c⟩ := x; exact ⟨ob, es, ep, t, k _ _ (.inl rfl) e, c⟩
  | ins C dx fs =>
    obtain ⟨d, z, ne, e, mA, ⟨od, es, ep, e2, c⟩, r⟩ := x
    exact ⟨ho _ d, z, ne, k _ _ (.inl rfl) e, mA, ⟨od, es, ep, k _ _ (.inr d) e2, c⟩, r⟩
  | own y => obtain ⟨ob, e⟩ := x; exact ⟨ob, k _ _ (.inl rfl) e⟩
  | xd fs => obtain ⟨mA, ⟨od, es, ep, e, c⟩, r⟩ := x; exact ⟨mA, ⟨od, es, ep, k _ _ (.inl rfl) e, c⟩, r⟩
  | rng lo hi => obtain ⟨t, u, v, e⟩ := x; exact ⟨t, u, v, k _ _ (.inl rfl) e⟩
  | frz ob u ih => obtain ⟨e, q⟩ := x; exact ⟨k _ _ (.inl rfl) e, ih q⟩
  | tbl ps =>
    have e : h.get? a = some { cls := .none, data := .fields ps } := x
    show h'.get? a = some { cls := .none, data := .fields ps }
    exact k a _ (.inl rfl) e
  | met f y =>
    have e : h.get? a = some (PySem.W.methodObj (.ref f) (.ref y)) := x
    show h'.get? a = some (PySem.W.methodObj (.ref f) (.ref y))
    exact k a _ (.inl rfl) e
  | ext φ => obtain ⟨p, ⟨o, e⟩, st⟩ := x; exact ⟨st _ _ p fun o q => k _ _ (.inl rfl) q, ⟨o, k _ _ (.inl rfl) e⟩, st⟩
theorem HOk.lt (x : HOk P w H h) (e : H a = some o) : a < h.objs.size := (x a o e).lt
theorem HOk.fresh (x : HOk P w H h) (e : h.objs.size ≤ a) : H a = none := by
  cases q : H a with
  | none => rfl
  | some u => exact absurd (Nat.lt_of_lt_of_le (x.lt q) e) (Nat.lt_irrefl _)
theorem HOk.kept (x : HOk P w H h) (k : ∀ b u, h.get? b = some u → h'.get? b = some u) : HOk P w H h' := fun a o e =>
  (x a o e).stay (fun b u _ q => k b u q) (fun _ q => q) fun _ _ q => q
theorem HOk.laid (x : HOk P w H h) (k : ∀ b u, h.get? b = some u → h'.get? b = some u) (hp : h.objs.size ≤ a) (new : ObjOk P w (upd H a o) h' a o) : HOk P w (upd H a o) h' := fun b u e => by
  have hn := x.fresh hp
  by_cases hb : b = a
  · subst hb; rw [upd_same] at e; cases e; exact new
  · rw [upd_ne hb] at e
    exact (x b u e).stay (fun c v _ q => k c v q) (fun c q => by rw [upd_ne (ne_of_none q hn)]; exact q) fun c xs q => by rw [upd_ne (ne_of_none q hn)]; exact q
end
noncomputable def Rd (H : Hp) (a : Addr) (u : HO) : Prop := H a = some u ∨ ∃ o, H a = some (.frz o u)
theorem Rd.ok {P : Program} {w : World} {H : Hp} {h : Heap} {a : Addr} {u : HO} (r : Rd H a u) (x : HOk P w H h) : ObjOk P w H h a u := by
  rcases r with r | ⟨o, r⟩
  · exact x a u r
  · obtain ⟨_, q⟩ := x a _ r
    exact q
noncomputable def Mut : Option HO → Prop
  | some (.lst _) => True
  | some (.dK _) => True
  | some (.dT _) => True
  | some (.set _ _) => True
  | some (.ins _ _ _) => True
  | some (.ext _) => True
  | _ => False
section
variable {P : Program} {w : World} {H : Hp} {h h' : Heap} {x e : Addr} {o' : HO}
theorem HOk.write (ok : HOk P w H h) (mu : Mut (H x)) (he : e = x ∨ H e = some (.own x)) (k : ∀ b u, b ≠ e → h.get? b = some u → h'.get? b = some u) (heo : ∃ u, h'.get? e = some u)
    (new : ObjOk P w (upd H x o') h' x o') : HOk P w (upd H x o') h' := fun b u q => by
  have nown : ∀ c y, H c = some (.own y) → c ≠ x := fun c y r z => by subst z; rw [r] at mu; exact mu
  have ntup : ∀ c xs, H c = some (.tup xs) → c ≠ x := fun c xs r z => by subst z; rw [r] at mu; exact mu
  by_cases hb : b = x
  · subst hb; rw [upd_same] at q; cases q; exact new
  · rw [upd_ne hb] at q
    by_cases hbe : b = e
    · have q' : H b = some (.own x) := by
        rcases he with z | z
        · exact absurd (hbe.trans z) hb
        · rw [hbe]; exact z
      rw [q] at q'; cases q'
      obtain ⟨v, hv⟩ := heo
      exact ⟨v, by rw [hbe]; exact hv⟩
    · refine (ok b u q).stay (fun c v hc r => k c v ?_ r) (fun c r => by rw [upd_ne (nown c b r)]; exact r) fun c xs r => by rw [upd_ne (ntup c xs r)]; exact r
      rcases hc with rfl | hc
      · exact hbe
      · rintro rfl
        rcases he with z | z
        · exact nown c b hc z
        · rw [hc] at z; cases z; exact hb rfl
end
structure Un (fs ex : List Addr) (H H' : Hp) (h h' : Heap) : Prop where
  keep : ∀ b o, h.get? b = some o → H b = none → b ∉ fs → b ∉ ex → h'.get? b = some o
  slot : ∀ b o, h.get? b = some o → H b = none → b ∈ fs → b ∉ ex → ∃ sl, h'.get? b = some { o with slots := sl }
  free : ∀ b o, h.get? b = some o → H b = none → b ∉ ex → H' b = none
  there : ∀ b o, h.get? b = some o → b ∉ ex → ∃ o', h'.get? b = some o'
  tups : ∀ b xs, H b = some (.tup xs) → H' b = some (.tup xs)
  frzs : ∀ b o u, H b = some (.frz o u) → H' b = some (.frz o u)
  tbls : ∀ b ps, H b = some (.tbl ps) → ∃ more, H' b = some (.tbl (ps ++ more))
section
variable {fs fs' ex ex' : List Addr} {H H1 H2 : Hp} {h h1 h2 h' : Heap} {a x e : Addr} {o : HO}
theorem Un.any (u : Un fs ex H H1 h h1) {b : Addr} {ob : Obj} (q : h.get? b = some ob) (n : H b = none) (hx : b ∉ ex) : ∃ sl, h1.get? b = some { ob with slots := sl } := by
  by_cases hb : b ∈ fs
  · exact u.slot b ob q n hb hx
  · exact ⟨ob.slots, u.keep b ob q n hb hx⟩
theorem Un.kept (k : ∀ b u, h.get? b = some u → h'.get? b = some u) : Un fs ex H H h h' :=
  ⟨fun b ob q _ _ _ => k b ob q, fun b ob q _ _ _ => ⟨ob.slots, k b ob q⟩, fun _ _ _ n _ => n, fun b ob q _ => ⟨ob, k b ob q⟩, fun _ _ q => q, fun _ _ _ q => q, fun _ ps q => ⟨#[], by rw [q]; simp⟩⟩
theorem Un.refl : Un fs ex H H h h := Un.kept fun _ _ q => q
theorem Un.laid (k : ∀ b u, h.get? b = some u → h'.get? b = some u) (hp : h.objs.size ≤ a) (hn : H a = none) : Un fs ex H (upd H a o) h h' where
  keep := fun b u q _ _ _ => k b u q
  slot := fun b u q _ _ _ => ⟨u.slots, k b u q⟩
  free := fun b u q n _ => by rw [upd_ne (Nat.ne_of_lt (Nat.lt_of_lt_of_le (Heap.lt_size q) hp))]; exact n
  there := fun b u q _ => ⟨u, k b u q⟩
  tups := fun b xs q => by rw [upd_ne (ne_of_none q hn)]; exact q
  frzs := fun b u xs q => by rw [upd_ne (ne_of_none q hn)]; exact q
  tbls := fun b ps q => ⟨#[], by rw [upd_ne (ne_of_none q hn), q]; simp⟩
theorem Un.write (mu : Mut (H x)) (he : e = x ∨ H e = some (.own x)) (k : ∀ b u, b ≠ e → h.get? b = some u → h'.get? b = some u) (heo : ∃ u, h'.get? e = some u) : Un fs ex H (upd H x o) h h' := by
  have hx : ∀ b, H b = none → b ≠ x := fun b n z => by subst z; rw [n] at mu; exact mu
  have hb : ∀ b, H b = none → b ≠ e := fun b n z => by
    subst z
    rcases he with r | r
    · exact hx b n r
    · rw [n] at r; cases r
  have hm : ∀ b u, H b = some u → ¬ Mut (some u) → b ≠ x := fun b u q nm z => by subst z; rw [q] at mu; exact nm mu
  refine ⟨fun b u q n _ _ => k b u (hb b n) q, fun b u q n _ _ => ⟨u.slots, k b u (hb b n) q⟩, fun b u q n _ => by rw [upd_ne (hx b n)]; exact n, fun b u q _ => ?_,
    fun b xs q => by rw [upd_ne (hm b _ q fun z => z)]; exact q, fun b u xs q => by rw [upd_ne (hm b _ q fun z => z)]; exact q, fun b ps q => ⟨#[], by rw [upd_ne (hm b _ q fun z => z), q]; simp⟩⟩
  by_cases hbe : b = e
  · subst hbe; exact heo
  · exact ⟨u, k b u hbe q⟩
end
noncomputable def trk (h : Heap) (H : Hp) : List Addr := (List.range h.objs.size).filter fun a => (H a).isSome
noncomputable def hidT (h : Heap) (H : Hp) : Heap := PySem.W.hideAll h (trk h H)
theorem hidT_size (h : Heap) (H : Hp) : (hidT h H).objs.size = h.objs.size := PySem.W.hideAll_size _ _
theorem hidT_get {h : Heap} {H : Hp} {b : Addr} {o : Obj} (e : h.get? b = some o) (n : H b = none) : (hidT h H).get? b = some o :=
  PySem.W.hideAll_get _ e fun hm => by
    have q : (H b).isSome = true := (List.mem_filter.mp hm).2
    rw [n] at q; simp at q
theorem of_hidT {h : Heap} {H : Hp} {b : Addr} {o : Obj} (e : (hidT h H).get? b = some o) : h.get? b = some o ∧ H b = none := by
  have e' : h.get? b = some o := PySem.W.of_hideAll (trk h H) e
  refine ⟨e', ?_⟩
  cases q : H b with
  | none => rfl
  | some x =>
    have hm : b ∈ trk h H := List.mem_filter.mpr ⟨List.mem_range.mpr (Heap.lt_size e'), by simp [q]⟩
    have z : (hidT h H).get? b = none := PySem.W.hideAll_none (trk h H) hm
    rw [z] at e; cases e
noncomputable def allNews (g h : Heap) (L : Addr) : List (Addr × Obj) := (List.range h.objs.size).filterMap fun a => if a = L ∨ (g.get? a).isSome = true then none else (h.get? a).map fun o => (a, o)
end L2
namespace L2
open PySem PySem.Spec PyProof.Rows
structure Mod (K : PySem.W.Frag) (mg : Str → Option Value) (base : Heap) : Prop where
  kin : K.In base
  glob : base.Ns mainGlobals mg
  blt : ∃ mb, base.Ns builtinsNs mb ∧ ∀ x : Str, x ≠ "__name__" → mb x = bootBuiltins x
  nolimit : base.NoLimit
structure Cx where
  prog : Program
  w : World
  K : PySem.W.Frag
  mg : Str → Option Value
  base : Heap
  A : Around
  N : List Str
  s₀ : Shared
  H₀ : Hp
  env : Env
  outer : List Env
  stack : List Env
  ex : List Addr
  fn : Str → Bool
  calm : Bool
  pn : List (Addr × Obj)
  xe : Value → Shared → Prop
noncomputable def frs (l : List Env) : List Addr := l.filterMap (·.frame)
noncomputable abbrev Cx.fs (X : Cx) : List Addr := frs X.outer
noncomputable def Vis (sc : Scope) (x : Str) : Prop := sc.names.lookup x = some .local ∨ sc.names.lookup x = some .cell ∨ sc.names.lookup x = some .free
noncomputable def Loc (sc : Scope) (x : Str) : Prop := sc.names.lookup x = some .local ∨ sc.names.lookup x = some .cell
noncomputable def Look (env : Env) (h : Heap) (m : Str → Option Value) (x : Str) (u : Value) : Prop :=
  (env.kindOf x = some .local ∧ m x = some u) ∨ ((env.kindOf x = some .cell ∨ env.kindOf x = some .free) ∧ ∃ c, env.cells.lookup x = some c ∧ h.IsCell c (some u))
structure Cx.Ok (X : Cx) : Prop where
  mod : Mod X.K X.mg X.base
  kind : X.env.scope.kind = .function
  glob : X.env.globals = mainGlobals
  blt : X.env.builtins = builtinsNs
  above : X.s₀.heap.objs.size ≤ X.env.locals
  inj : ∀ x y c, X.env.cells.lookup x = some c → X.env.cells.lookup y = some c → x = y
  has : ∀ x, (X.env.kindOf x = some .cell ∨ X.env.kindOf x = some .free) → ∃ c, X.env.cells.lookup x = some c
  cab : ∀ x c, X.fn x = true → X.env.cells.lookup x = some c → X.s₀.heap.objs.size ≤ c
  hd : X.calm = true → X.A.handled = none
  frames : X.A.frames = some X.stack
  stk : X.stack = X.outer ∨ (X.stack = X.env :: X.outer ∧ X.env.frame = some X.env.locals)
  exf : ∀ b ∈ X.ex, b ≠ X.env.locals ∧ ∀ x c, X.env.cells.lookup x = some c → c ≠ b
  bs : ∀ b o, X.base.get? b = some o → X.s₀.heap.get? b = some o ∧ X.H₀ b = none
  bsz : X.base.objs.size ≤ X.s₀.heap.objs.size
  noex : ∀ b o, X.base.get? b = some o → b ∉ X.ex
  exfs : ∀ b ∈ X.ex, b ∉ X.fs
  funs : X.s₀.heap.FunFrames X.base X.outer
  frf : ∀ b ∈ X.fs, X.H₀ b = none
structure Inv (X : Cx) (pins : List (Addr × Obj)) (σ : List (Option V)) (H : Hp) (s : Shared) : Prop where
  ok : X.Ok
  os : s.os = X.s₀.os
  bare : AllBare s.gens
  base : Un X.fs X.ex X.H₀ H X.s₀.heap s.heap
  loc : ∃ m, s.heap.Ns X.env.locals m ∧ ∀ (i : Nat) (x : Str) (v : V), X.N[i]? = some x → σ[i]? = some (some v) → Vis X.env.scope x → ∃ u, RelV v u ∧ Look X.env s.heap m x u
  cell : ∀ x c, X.env.cells.lookup x = some c → ∃ v, s.heap.IsCell c v
  free : H X.env.locals = none
  freeC : ∀ x c, X.env.cells.lookup x = some c → H c = none
  pin : ∀ p ∈ X.pn ++ pins, s.heap.get? p.1 = some p.2 ∧ H p.1 = none ∧ p.1 ≠ X.env.locals ∧ p.1 ∉ X.fs ∧ ∀ v, p.2.data ≠ .cell v
  hok : HOk X.prog X.w H s.heap
  len : σ.length = X.N.length
section
variable {X : Cx} {pins : List (Addr × Obj)} {σ : List (Option V)} {H H' : Hp} {s : Shared} {h' : Heap}
theorem Cx.Ok.nofr (ok : X.Ok) {b : Addr} {o : Obj} (e : X.base.get? b = some o) : b ∉ X.fs := fun hb => by
  have := (ok.funs.mem hb).1
  rw [e] at this; cases this
theorem Inv.bs (I : Inv X pins σ H s) : ∀ b o, X.base.get? b = some o → s.heap.get? b = some o ∧ H b = none := fun b o e =>
  ⟨I.base.keep b o (I.ok.bs b o e).1 (I.ok.bs b o e).2 (I.ok.nofr e) (I.ok.noex b o e), I.base.free b o (I.ok.bs b o e).1 (I.ok.bs b o e).2 (I.ok.noex b o e)⟩
theorem Inv.bk (I : Inv X pins σ H s) : ∀ b o, X.base.get? b = some o → s.heap.get? b = some o := fun b o e => (I.bs b o e).1
theorem Inv.mod (I : Inv X pins σ H s) : Mod X.K X.mg X.base := I.ok.mod
theorem Inv.kIn (I : Inv X pins σ H s) : X.K.In s.heap := I.ok.mod.kin.keeps I.bk
theorem Inv.lt (I : Inv X pins σ H s) : X.env.locals < s.heap.objs.size := let ⟨_, hn, _⟩ := I.loc; hn.lt
theorem Inv.sz (I : Inv X pins σ H s) : X.s₀.heap.objs.size ≤ s.heap.objs.size := Nat.le_trans I.ok.above (Nat.le_of_lt I.lt)
theorem Inv.nofs (I : Inv X pins σ H s) {a : Addr} (h : s.heap.objs.size ≤ a) : a ∉ X.fs := fun hb => by
  obtain ⟨_, o, ho, _⟩ := I.ok.funs.mem hb
  exact absurd (Nat.lt_of_lt_of_le (Heap.lt_size ho) (Nat.le_trans I.sz h)) (Nat.lt_irrefl _)
theorem Inv.cne (I : Inv X pins σ H s) : ∀ x c, X.env.cells.lookup x = some c → c ≠ X.env.locals := fun x c e z => by
  obtain ⟨v, o, ho, hd⟩ := I.cell x c e
  obtain ⟨m, ⟨o', es, ep, ho', hd', _⟩, _⟩ := I.loc
  rw [z, ho'] at ho; cases ho; rw [hd'] at hd; cases hd
theorem Inv.funs (I : Inv X pins σ H s) : s.heap.FunFrames X.base X.outer := by
  have all : ∀ (l : List Env), (∀ b ∈ frs l, b ∈ X.fs) → X.s₀.heap.FunFrames X.base l → s.heap.FunFrames X.base l := by
    intro l
    induction l with
    | nil => intro _ _; trivial
    | cons env r ih =>
      intro hs hl
      obtain ⟨hk, ⟨L, o, hf, hn, ho, hd⟩, hr⟩ := hl
      have hL : L ∈ X.fs := hs L (by unfold frs; rw [List.filterMap_cons, hf]; exact List.mem_cons_self)
      obtain ⟨sl, e⟩ := I.base.slot L o ho (I.ok.frf L hL) hL fun z => I.ok.exfs L z hL
      exact ⟨hk, ⟨L, _, hf, hn, e, hd⟩, ih (fun b hb => hs b (by unfold frs; rw [List.filterMap_cons, hf]; exact List.mem_cons_of_mem _ hb)) hr⟩
  exact all X.outer (fun _ hb => hb) I.ok.funs
theorem Inv.stack (I : Inv X pins σ H s) : s.heap.FunFrames X.base X.stack := by
  rcases I.ok.stk with e | ⟨e, hf⟩
  · rw [e]; exact I.funs
  · rw [e]
    obtain ⟨m, hn, _⟩ := I.loc
    refine .cons (by rw [I.ok.kind]; decide) hf hn ?_ I.funs
    exact Heap.get?_none_of_le (Nat.le_trans I.ok.bsz I.ok.above)
theorem Inv.stkSub (I : Inv X pins σ H s) : ∀ b ∈ frs X.stack, b ∈ X.env.locals :: X.fs := fun b hb => by
  rcases I.ok.stk with e | ⟨e, hf⟩
  · rw [e] at hb; exact List.mem_cons_of_mem _ hb
  · rw [e] at hb
    unfold frs at hb
    rw [List.filterMap_cons, hf] at hb
    exact hb
theorem Inv.stkFree (I : Inv X pins σ H s) : ∀ b ∈ frs X.stack, H b = none := fun b hb => by
  rcases List.mem_cons.mp (I.stkSub b hb) with e | hb
  · rw [e]; exact I.free
  · obtain ⟨_, o, ho, _⟩ := I.ok.funs.mem hb
    exact I.base.free b o ho (I.ok.frf b hb) fun z => I.ok.exfs b z hb
theorem Inv.step {g' : Array GenState} {t' : Nat} {d' : Drawn} {ch : List Addr} (I : Inv X pins σ H s)
    (hch : ∀ b ∈ ch, (b ∈ X.ex ∨ X.s₀.heap.objs.size ≤ b) ∧ b ≠ X.env.locals ∧ (∀ x c, X.env.cells.lookup x = some c → c ≠ b) ∧ ∀ p ∈ X.pn ++ pins, p.1 ≠ b)
    (keep : ∀ b o, b ≠ X.env.locals → b ∉ X.fs → b ∉ ch → s.heap.get? b = some o → H b = none → h'.get? b = some o)
    (slot : ∀ b o, b ≠ X.env.locals → b ∈ X.fs → b ∉ ch → s.heap.get? b = some o → H b = none → ∃ sl, h'.get? b = some { o with slots := sl }) (free : ∀ b o, b ∉ ch → s.heap.get? b = some o → H b = none → H' b = none)
    (there : ∀ b o, b ∉ ch → s.heap.get? b = some o → ∃ o', h'.get? b = some o')
    (tups : ∀ b xs, H b = some (.tup xs) → H' b = some (.tup xs)) (frzs : ∀ b o u, H b = some (.frz o u) → H' b = some (.frz o u)) (tbls : ∀ b ps, H b = some (.tbl ps) → ∃ more, H' b = some (.tbl (ps ++ more)))
    (ns : ∀ m, s.heap.Ns X.env.locals m → h'.Ns X.env.locals m) (hok : HOk X.prog X.w H' h') (hg : AllBare g') :
    Inv X pins σ H' { s with heap := h', gens := g', drawn := d', toks := t' } := by
  have neL : ∀ b o, X.s₀.heap.get? b = some o → b ≠ X.env.locals := fun b o e => Nat.ne_of_lt (Nat.lt_of_lt_of_le (Heap.lt_size e) I.ok.above)
  have neC : ∀ b o, X.s₀.heap.get? b = some o → b ∉ X.ex → b ∉ ch := fun b o e hx hb => by
    rcases (hch b hb).1 with z | z
    · exact hx z
    · exact absurd (Nat.lt_of_lt_of_le (Heap.lt_size e) z) (Nat.lt_irrefl _)
  have cellK : ∀ x c, X.env.cells.lookup x = some c → ∀ v, s.heap.IsCell c v → h'.IsCell c v := fun x c e v ⟨o, ho, hd⟩ => by
    have nch : c ∉ ch := fun z => (hch c z).2.2.1 x c e rfl
    by_cases hc : c ∈ X.fs
    · obtain ⟨sl, q⟩ := slot c o (I.cne x c e) hc nch ho (I.freeC x c e)
      exact ⟨_, q, hd⟩
    · exact ⟨o, keep c o (I.cne x c e) hc nch ho (I.freeC x c e), hd⟩
  refine ⟨I.ok, I.os, hg, ⟨fun b o e n hb hx => ?_, fun b o e n hb hx => ?_, fun b o e n hx => ?_, fun b o e hx => ?_, fun b xs e => tups b xs (I.base.tups b xs e), fun b o xs e => frzs b o xs (I.base.frzs b o xs e), fun b ps e => ?_⟩, ?_, fun x c e => ?_, ?_, fun x c e => ?_, fun p hp => ?_, hok, I.len⟩
  · exact keep b o (neL b o e) hb (neC b o e hx) (I.base.keep b o e n hb hx) (I.base.free b o e n hx)
  · obtain ⟨sl, e1⟩ := I.base.slot b o e n hb hx
    obtain ⟨sl', e2⟩ := slot b _ (neL b o e) hb (neC b o e hx) e1 (I.base.free b o e n hx)
    exact ⟨sl', e2⟩
  · obtain ⟨o', e1⟩ := I.base.there b o e hx
    exact free b o' (neC b o e hx) e1 (I.base.free b o e n hx)
  · obtain ⟨o', e1⟩ := I.base.there b o e hx
    exact there b o' (neC b o e hx) e1
  · obtain ⟨m1, e1⟩ := I.base.tbls b ps e
    obtain ⟨m2, e2⟩ := tbls b _ e1
    exact ⟨m1 ++ m2, by rw [e2, Array.append_assoc]⟩
  · obtain ⟨m, hn, hl⟩ := I.loc
    refine ⟨m, ns m hn, fun i x v e1 e2 e3 => ?_⟩
    obtain ⟨u, r, l⟩ := hl i x v e1 e2 e3
    refine ⟨u, r, ?_⟩
    rcases l with l | ⟨k, c, e, z⟩
    · exact .inl l
    · exact .inr ⟨k, c, e, cellK x c e _ z⟩
  · obtain ⟨v, z⟩ := I.cell x c e
    exact ⟨v, cellK x c e v z⟩
  · obtain ⟨m, ⟨o, _, _, ho, _⟩, _⟩ := I.loc
    exact free _ o (fun z => (hch _ z).2.1 rfl) ho I.free
  · obtain ⟨v, o, ho, hd⟩ := I.cell x c e
    exact free c o (fun z => (hch c z).2.2.1 x c e rfl) ho (I.freeC x c e)
  · obtain ⟨e, n, ne, nf, d⟩ := I.pin p hp
    have nch : p.1 ∉ ch := fun z => (hch p.1 z).2.2.2 p hp rfl
    exact ⟨keep p.1 p.2 ne nf nch e n, free p.1 p.2 nch e n, ne, nf, d⟩
theorem Inv.un {t' : Nat} (I : Inv X pins σ H s) (u : Un X.fs [] H H' s.heap h') (hok : HOk X.prog X.w H' h') : Inv X pins σ H' { s with heap := h', toks := t' } := by
  obtain ⟨m, ⟨o, es, ep, ho, r⟩, _⟩ := id I.loc
  obtain ⟨sl, hL⟩ := u.any ho I.free (by simp)
  exact I.step (g' := s.gens) (d' := s.drawn) (ch := []) (fun _ z => nomatch z) (fun b o _ hb _ e n => u.keep b o e n hb (by simp)) (fun b o _ hb _ e n => u.slot b o e n hb (by simp)) (fun b o _ e n => u.free b o e n (by simp)) (fun b o _ e => u.there b o e (by simp)) u.tups u.frzs u.tbls (fun m' hm => by
    obtain ⟨o', es', ep', ho', r'⟩ := hm
    rw [ho] at ho'; cases ho'
    exact ⟨_, es', ep', hL, r'⟩) hok I.bare
theorem Inv.call {g' : Array GenState} {t' : Nat} {d' : Drawn} {ch : List Addr} (I : Inv X pins σ H s) (u : Un (frs X.stack) ch H H' s.heap h') (hok : HOk X.prog X.w H' h') (hg : AllBare g')
    (hch : ∀ b ∈ ch, (b ∈ X.ex ∨ X.s₀.heap.objs.size ≤ b) ∧ b ≠ X.env.locals ∧ (∀ x c, X.env.cells.lookup x = some c → c ≠ b) ∧ ∀ p ∈ X.pn ++ pins, p.1 ≠ b) :
    Inv X pins σ H' { s with heap := h', gens := g', drawn := d', toks := t' } := by
  obtain ⟨m, ⟨o, es, ep, ho, r⟩, _⟩ := id I.loc
  obtain ⟨sl, hL⟩ := u.any ho I.free fun z => (hch _ z).2.1 rfl
  exact I.step (ch := ch) hch (fun b o hL hb hc e n => u.keep b o e n (fun z => (List.mem_cons.mp (I.stkSub b z)).elim hL hb) hc) (fun b o _ _ hc e n => u.any e n hc) (fun b o hc e n => u.free b o e n hc) (fun b o hc e => u.there b o e hc) u.tups u.frzs u.tbls (fun m' hm => by
    obtain ⟨o', es', ep', ho', r'⟩ := hm
    rw [ho] at ho'; cases ho'
    exact ⟨_, es', ep', hL, r'⟩) hok hg
theorem Inv.turned {t' : Nat} {it : Addr} (I : Inv X pins σ H s) (k : ∀ b o, b ≠ it → s.heap.get? b = some o → h'.get? b = some o) (hn : H it = none) (hL : it ≠ X.env.locals)
    (h1 : it ∈ X.ex ∨ X.s₀.heap.objs.size ≤ it) (h2 : ∀ x c, X.env.cells.lookup x = some c → c ≠ it) (h3 : ∀ p ∈ X.pn ++ pins, p.1 ≠ it) : Inv X pins σ H { s with heap := h', toks := t' } := by
  have nit : ∀ b u, H b = some u → b ≠ it := fun b u e z => by rw [z, hn] at e; cases e
  refine I.step (g' := s.gens) (d' := s.drawn) (ch := [it]) (fun b hb => ?_) (fun b o _ _ hc e _ => k b o (fun z => hc (by simp [z])) e) (fun b o _ _ hc e _ => ⟨o.slots, k b o (fun z => hc (by simp [z])) e⟩) (fun _ _ _ _ n => n)
    (fun b o hc e => ⟨o, k b o (fun z => hc (by simp [z])) e⟩) (fun _ _ e => e) (fun _ _ _ e => e) (fun b ps e => ⟨#[], by rw [e]; simp⟩) (fun m hm => ?_) (fun b u e => ?_) I.bare
  · have e : b = it := by simpa using hb
    subst e
    exact ⟨h1, hL, h2, h3⟩
  · obtain ⟨o, es, ep, ho, r⟩ := hm
    exact ⟨o, es, ep, k _ o (Ne.symm hL) ho, r⟩
  · refine (I.hok b u e).stay (fun c v hc q => k c v ?_ q) (fun _ q => q) fun _ _ q => q
    rcases hc with z | z
    · rw [z]; exact nit b u e
    · exact nit c _ z
theorem Inv.tok (I : Inv X pins σ H s) (t : Nat) : Inv X pins σ H { s with toks := t } := I.un (h' := s.heap) (t' := t) Un.refl I.hok
theorem Inv.kept {t' : Nat} (I : Inv X pins σ H s) (k : ∀ b u, s.heap.get? b = some u → h'.get? b = some u) : Inv X pins σ H { s with heap := h', toks := t' } := I.un (Un.kept k) (I.hok.kept k)
theorem Inv.laid {a : Addr} {o : HO} {t' : Nat} (I : Inv X pins σ H s) (k : ∀ b u, s.heap.get? b = some u → h'.get? b = some u) (hp : s.heap.objs.size ≤ a) (new : ObjOk X.prog X.w (upd H a o) h' a o) :
    Inv X pins σ (upd H a o) { s with heap := h', toks := t' } := I.un (Un.laid k hp (I.hok.fresh hp)) (I.hok.laid k hp new)
theorem Inv.write {x e : Addr} {o : HO} {t' : Nat} (I : Inv X pins σ H s) (mu : Mut (H x)) (he : e = x ∨ H e = some (.own x)) (k : ∀ b u, b ≠ e → s.heap.get? b = some u → h'.get? b = some u) (heo : ∃ u, h'.get? e = some u)
    (new : ObjOk X.prog X.w (upd H x o) h' x o) : Inv X pins σ (upd H x o) { s with heap := h', toks := t' } := I.un (Un.write mu he k heo) (I.hok.write mu he k heo new)
theorem Inv.pins_of {pins' : List (Addr × Obj)} (I : Inv X pins σ H s) (h : ∀ p ∈ pins', s.heap.get? p.1 = some p.2 ∧ H p.1 = none ∧ p.1 ≠ X.env.locals ∧ p.1 ∉ X.fs ∧ ∀ v, p.2.data ≠ .cell v) : Inv X pins' σ H s :=
  ⟨I.ok, I.os, I.bare, I.base, I.loc, I.cell, I.free, I.freeC, fun p hp => (List.mem_append.mp hp).elim (fun z => I.pin p (List.mem_append_left _ z)) (h p), I.hok, I.len⟩
theorem nodup_ix {N : List Str} (hN : N.Nodup) {i j : Nat} {x : Str} (a : N[i]? = some x) (b : N[j]? = some x) : i = j := by
  obtain ⟨h1, e1⟩ := List.getElem?_eq_some_iff.mp a
  obtain ⟨h2, e2⟩ := List.getElem?_eq_some_iff.mp b
  exact (List.getElem_inj hN).mp (e1.trans e2.symm)
theorem store_ok2 {M : Model} {A : Around} {E : Value → Shared → Prop} {i : Nat} {x : Str} {v : V} {u : Value} {Q : Unit → Shared → Prop} (I : Inv X pins σ H s) (hN : X.N.Nodup) (hi : X.N[i]? = some x) (hx : Loc X.env.scope x) (r : RelV v u)
    (h : ∀ s', Inv X pins (σ.set i (some v)) H s' → (∃ a, Heap.SameBut a s.heap s'.heap ∧ (a = X.env.locals ∨ X.env.cells.lookup x = some a)) → Q () s') (hf : X.fn x = true ∨ X.env.scope.names.lookup x = some .local := by first | exact .inl rfl | exact .inr rfl | assumption) : wpAny M A (storeName X.env x u) Q E s := by
  obtain ⟨m, hn, hl⟩ := id I.loc
  have hcls : (X.env.scope.kind == .class || (X.env.scope.kind == .module && X.env.locals != X.env.globals)) = false := by rw [I.ok.kind]; rfl
  have hiσ : i < σ.length := by rw [I.len]; exact (List.getElem?_eq_some_iff.mp hi).1
  have cne := I.cne
  have tracked : ∀ {a : Addr} {h' : Heap}, (∃ o, s.heap.get? a = some o ∧ H a = none) → Heap.SameBut a s.heap h' → HOk X.prog X.w H h' := fun {a h'} ha hs b ob e => by
    obtain ⟨_, _, hfree⟩ := ha
    refine (I.hok b ob e).stay (fun c w' hc q => (hs.2 c ?_).trans q) (fun _ q => q) fun _ _ q => q
    rintro rfl
    rcases hc with rfl | hc
    · rw [hfree] at e; cases e
    · rw [hfree] at hc; cases hc
  rcases hx with hk | hk
  · refine wpAny_storeName_local hk hn (fun h' hn' hs => ?_) hcls
    obtain ⟨oL, _, _, hoL, _⟩ := id hn
    refine h _ ⟨I.ok, I.os, I.bare, ⟨fun b o e n hb hx => ?_, fun b o e n hb hx => ?_, I.base.free, fun b o e hx => ?_, I.base.tups, I.base.frzs, I.base.tbls⟩, ⟨_, hn', fun j y v' e1 e2 e3 => ?_⟩, fun y c e => ?_, I.free, I.freeC, fun p hp => ?_, tracked ⟨oL, hoL, I.free⟩ hs, by simpa using I.len⟩ ⟨_, hs, .inl rfl⟩
    · exact (hs.2 b (Nat.ne_of_lt (Nat.lt_of_lt_of_le (Heap.lt_size e) I.ok.above))).trans (I.base.keep b o e n hb hx)
    · obtain ⟨sl, e1⟩ := I.base.slot b o e n hb hx
      exact ⟨sl, (hs.2 b (Nat.ne_of_lt (Nat.lt_of_lt_of_le (Heap.lt_size e) I.ok.above))).trans e1⟩
    · obtain ⟨o', e1⟩ := I.base.there b o e hx
      exact ⟨o', (hs.2 b (Nat.ne_of_lt (Nat.lt_of_lt_of_le (Heap.lt_size e) I.ok.above))).trans e1⟩
    · by_cases hj : j = i
      · subst hj
        rw [hi] at e1; cases e1
        rw [List.getElem?_set_self hiσ] at e2
        cases e2
        exact ⟨u, r, .inl ⟨hk, by simp⟩⟩
      · rw [List.getElem?_set_ne (Ne.symm hj)] at e2
        obtain ⟨u', r', q⟩ := hl j y v' e1 e2 e3
        refine ⟨u', r', ?_⟩
        rcases q with ⟨k, e⟩ | ⟨k, c, e, z⟩
        · refine .inl ⟨k, ?_⟩
          have : y ≠ x := fun e => hj (nodup_ix hN e1 (e ▸ hi))
          simp [this, e]
        · exact .inr ⟨k, c, e, z.sameBut hs (cne y c e)⟩
    · obtain ⟨w', z⟩ := I.cell y c e
      exact ⟨w', z.sameBut hs (cne y c e)⟩
    · obtain ⟨e, n, ne, nf, d⟩ := I.pin p hp
      exact ⟨(hs.2 p.1 ne).trans e, n, ne, nf, d⟩
  · have hfn : X.fn x = true := by
      rcases hf with z | z
      · exact z
      · rw [z] at hk; cases hk
    obtain ⟨c, hc⟩ := I.ok.has x (.inl hk)
    obtain ⟨w', z⟩ := I.cell x c hc
    refine wpAny_storeName_cell I.ok.kind hk hc z (fun h' hc' hs => ?_)
    obtain ⟨oc, hoc, hocd⟩ := id z
    refine h { s with heap := h' } ⟨I.ok, I.os, I.bare, ⟨fun b o e n hb hx => ?_, fun b o e n hb hx => ?_, I.base.free, fun b o e hx => ?_, I.base.tups, I.base.frzs, I.base.tbls⟩, ⟨m, hn.sameBut hs (Ne.symm (cne x c hc)), fun j y v' e1 e2 e3 => ?_⟩, fun y c' e => ?_, I.free, I.freeC, fun p hp => ?_, tracked ⟨oc, hoc, I.freeC x c hc⟩ hs, by simpa using I.len⟩ ⟨c, hs, .inr hc⟩
    · exact (hs.2 b (Nat.ne_of_lt (Nat.lt_of_lt_of_le (Heap.lt_size e) (I.ok.cab x c hfn hc)))).trans (I.base.keep b o e n hb hx)
    · obtain ⟨sl, e1⟩ := I.base.slot b o e n hb hx
      exact ⟨sl, (hs.2 b (Nat.ne_of_lt (Nat.lt_of_lt_of_le (Heap.lt_size e) (I.ok.cab x c hfn hc)))).trans e1⟩
    · obtain ⟨o', e1⟩ := I.base.there b o e hx
      exact ⟨o', (hs.2 b (Nat.ne_of_lt (Nat.lt_of_lt_of_le (Heap.lt_size e) (I.ok.cab x c hfn hc)))).trans e1⟩
    · by_cases hj : j = i
      · subst hj
        rw [hi] at e1; cases e1
        rw [List.getElem?_set_self hiσ] at e2
        cases e2
        exact ⟨u, r, .inr ⟨.inl hk, c, hc, hc'⟩⟩
      · rw [List.getElem?_set_ne (Ne.symm hj)] at e2
        obtain ⟨u', r', q⟩ := hl j y v' e1 e2 e3
        refine ⟨u', r', ?_⟩
        rcases q with q | ⟨k, c', e, z'⟩
        · exact .inl q
        · refine .inr ⟨k, c', e, z'.sameBut hs ?_⟩
          rintro rfl
          exact hj (nodup_ix hN e1 (I.ok.inj _ _ _ e hc ▸ hi))
    · by_cases hcc : c' = c
      · subst hcc; exact ⟨_, hc'⟩
      · obtain ⟨w2, z2⟩ := I.cell y c' e
        exact ⟨w2, z2.sameBut hs hcc⟩
    · obtain ⟨e, n, ne, nf, d⟩ := I.pin p hp
      refine ⟨(hs.2 p.1 ?_).trans e, n, ne, nf, d⟩
      intro q
      rw [q, hoc] at e
      have q' : oc = p.2 := Option.some.inj e
      exact d w' (by rw [← q']; exact hocd)
theorem store_ok {M : Model} {A : Around} {E : Value → Shared → Prop} {i : Nat} {x : Str} {v : V} {u : Value} {Q : Unit → Shared → Prop} (I : Inv X pins σ H s) (hN : X.N.Nodup) (hi : X.N[i]? = some x) (hx : Loc X.env.scope x) (r : RelV v u)
    (h : ∀ s', Inv X pins (σ.set i (some v)) H s' → Q () s') (hf : X.fn x = true ∨ X.env.scope.names.lookup x = some .local := by first | exact .inl rfl | exact .inr rfl | assumption) : wpAny M A (storeName X.env x u) Q E s :=
  store_ok2 I hN hi hx r (fun s' I' _ => h s' I') hf
theorem Inv.call' {s' : Shared} {ch : List Addr} (I : Inv X pins σ H s) (ho : s'.os = s.os) (u : Un (frs X.stack) ch H H' s.heap s'.heap) (hok : HOk X.prog X.w H' s'.heap) (hg : AllBare s'.gens)
    (hch : ∀ b ∈ ch, (b ∈ X.ex ∨ X.s₀.heap.objs.size ≤ b) ∧ b ≠ X.env.locals ∧ (∀ x c, X.env.cells.lookup x = some c → c ≠ b) ∧ ∀ p ∈ X.pn ++ pins, p.1 ≠ b) : Inv X pins σ H' s' := by
  obtain ⟨h', g', d', t', o'⟩ := s'
  have e : o' = s.os := ho
  subst e
  exact I.call (g' := g') (t' := t') (d' := d') u hok hg hch
end
noncomputable abbrev XK := Value → Option Addr → Hp → Prop
noncomputable abbrev St := List (Option V)
noncomputable abbrev VK := V → Hp → Prop
noncomputable abbrev TE := St → Hp → VK → Prop
noncomputable abbrev TT := St → Hp → (Bool → Hp → Prop) → Prop
noncomputable abbrev TA := St → Hp → (List V → Hp → Prop) → Prop
structure Ends where
  nx : St → Hp → Prop
  rt : VK
  bk : St → Hp → Prop := fun _ _ => False
  ct : St → Hp → Prop := fun _ _ => False
noncomputable abbrev TS := Ends → St → Hp → Prop
noncomputable def EP (X : Cx) (pins : List (Addr × Obj)) (σ : St) (Q : VK) (u : Value) (s' : Shared) : Prop := ∃ v H', Inv X pins σ H' s' ∧ RelV v u ∧ Q v H'
noncomputable def TP (X : Cx) (pins : List (Addr × Obj)) (σ : St) (Q : Bool → Hp → Prop) (b : Bool) (s' : Shared) : Prop := ∃ H', Inv X pins σ H' s' ∧ Q b H'
noncomputable def AP (X : Cx) (pins : List (Addr × Obj)) (σ : St) (Q : List V → Hp → Prop) (us : List Value) (s' : Shared) : Prop := ∃ vs H', Inv X pins σ H' s' ∧ Vals vs us ∧ Q vs H'
noncomputable def SP (X : Cx) (pins : List (Addr × Obj)) (D : Ends) (f : Flow) (s' : Shared) : Prop :=
  match f with
  | .next => ∃ σ' H', Inv X pins σ' H' s' ∧ D.nx σ' H'
  | .brk => ∃ σ' H', Inv X pins σ' H' s' ∧ D.bk σ' H'
  | .cont => ∃ σ' H', Inv X pins σ' H' s' ∧ D.ct σ' H'
  | .ret u => ∃ v σ' H', Inv X pins σ' H' s' ∧ RelV v u ∧ D.rt v H'
noncomputable def PE (X : Cx) (e : Expr) (t : TE) : Prop :=
  ∀ (pins : List (Addr × Obj)) (s : Shared) (σ : St) (H : Hp) (Q : VK), Inv X pins σ H s → t σ H Q → wpAny (model X.prog X.w) X.A (eval e X.env) (EP X pins σ Q) X.xe s
noncomputable def PT (X : Cx) (e : Expr) (t : TT) : Prop :=
  ∀ (pins : List (Addr × Obj)) (s : Shared) (σ : St) (H : Hp) (Q : Bool → Hp → Prop), Inv X pins σ H s → t σ H Q → wpAny (model X.prog X.w) X.A (isTrue e X.env (eval e X.env)) (TP X pins σ Q) X.xe s
noncomputable def PW (X : Cx) (e : Expr) (t : TT) : Prop :=
  ∀ (whole : Sem Value) (pins : List (Addr × Obj)) (s : Shared) (σ : St) (H : Hp) (Q : Bool → Hp → Prop), Inv X pins σ H s → t σ H Q → wpAny (model X.prog X.w) X.A (isTrue e X.env whole) (TP X pins σ Q) X.xe s
noncomputable def PA (X : Cx) (es : List Expr) (t : TA) : Prop :=
  ∀ (pos : Pos) (pins : List (Addr × Obj)) (s : Shared) (σ : St) (H : Hp) (Q : List V → Hp → Prop), Inv X pins σ H s → t σ H Q → wpAny (model X.prog X.w) X.A (spliced (backTo pos (starEach es X.env))) (AP X pins σ Q) X.xe s
noncomputable def PS (X : Cx) (st : Stmt) (t : TS) : Prop :=
  ∀ (pins : List (Addr × Obj)) (s : Shared) (σ : St) (H : Hp) (D : Ends), Inv X pins σ H s → t D σ H → wpAny (model X.prog X.w) X.A (exec st X.env) (SP X pins D) X.xe s
noncomputable def PSs (X : Cx) (st : List Stmt) (t : TS) : Prop :=
  ∀ (pins : List (Addr × Obj)) (s : Shared) (σ : St) (H : Hp) (D : Ends), Inv X pins σ H s → t D σ H → wpAny (model X.prog X.w) X.A (execs st X.env) (SP X pins D) X.xe s
theorem thn {α : Type} {t : Sem α} {Q Q' : α → Shared → Prop} {M : Model} {A : Around} {E : Value → Shared → Prop} {s : Shared} (h : wpAny M A t Q E s) (hQ : ∀ a s, Q a s → Q' a s) : wpAny M A t Q' E s := wpAny_mono h hQ fun _ _ x => x
end L2
namespace L2
open PySem PySem.Spec PyProof.Rows
section
variable {X : Cx}
noncomputable def tVar (i : Nat) : TE := fun σ H Q => ∃ v, σ[i]? = some (some v) ∧ Q v H
noncomputable def tC (v : V) : TE := fun _ H Q => Q v H
theorem pe_var {i : Nat} {x : Str} {pos : Pos} (hN : X.N[i]? = some x) (hv : Vis X.env.scope x) (hd : (x == ("__debug__" : Str)) = false := by decide) (hcd : (x == ("__classdict__" : Str)) = false := by decide) : PE X (.Name x pos) (tVar i) := by
  intro pins s σ H Q I h
  obtain ⟨v, e, h⟩ := h
  obtain ⟨m, hn, hl⟩ := I.loc
  obtain ⟨u, r, l⟩ := hl i x v hN e hv
  have fin : EP X pins σ Q u s := ⟨v, H, I, r, h⟩
  rcases l with ⟨hk, hm⟩ | ⟨hk, c, hc, hcell⟩
  · exact wpAny_Name (wpAny_loadName_local I.ok.kind hk hn hm fin) hd
  · rcases hk with hk | hk
    · exact wpAny_Name (wpAny_loadName_cell I.ok.kind hk hc hcell fin) hd
    · exact wpAny_Name (wpAny_loadName_free I.ok.kind hk hc hcell fin hcd) hd
theorem pe_int {i j pos} : PE X (.Constant (.int i) j pos) (tC (.int i)) := fun _ _ _ H _ I h => wpAny_Constant_int ⟨.int i, H, I.tok _, ⟨_, rfl⟩, h⟩
theorem pe_bl {b j pos} : PE X (.Constant (.bool b) j pos) (tC (.bl b)) := fun _ _ _ H _ I h => Constant_bool ⟨.bl b, H, I, rfl, h⟩
theorem pe_non {j pos} : PE X (.Constant .none j pos) (tC .non) := fun _ _ _ H _ I h => Constant_none ⟨.non, H, I, rfl, h⟩
theorem pe_str {x j pos} : PE X (.Constant (.str x) j pos) (tC (.str x)) := fun _ _ _ H _ I h => Calls.Constant_str ⟨.str x, H, I.tok _, ⟨_, rfl⟩, h⟩
noncomputable def Gl (X : Cx) (x : Str) : Prop := X.env.kindOf x = some .globalImplicit
theorem ld_glob {E : Value → Shared → Prop} {pins : List (Addr × Obj)} {s : Shared} {σ : St} {H : Hp} {x : Str} {u : Value} {pos : Pos} {Q : Value → Shared → Prop} (I : Inv X pins σ H s) (hg : Gl X x) (hm : X.mg x = some u) (h : Q u s)
    (hd : (x == ("__debug__" : Str)) = false := by decide) : wpAny (model X.prog X.w) X.A (eval (.Name x pos) X.env) Q E s :=
  Calls.Name_function_global I.ok.kind hg (Calls.loadGlobal_global (by rw [I.ok.glob]; exact I.mod.glob.keeps I.bk) hm h) hd
theorem ld_blt {E : Value → Shared → Prop} {pins : List (Addr × Obj)} {s : Shared} {σ : St} {H : Hp} {x : Str} {u : Value} {pos : Pos} {Q : Value → Shared → Prop} (I : Inv X pins σ H s) (hg : Gl X x) (hm : X.mg x = none) (hv : bootBuiltins x = some u) (h : Q u s)
    (hn : x ≠ "__name__" := by decide) (hd : (x == ("__debug__" : Str)) = false := by decide) : wpAny (model X.prog X.w) X.A (eval (.Name x pos) X.env) Q E s := by
  obtain ⟨mb, h1, h2⟩ := I.mod.blt
  exact Calls.Name_function_global I.ok.kind hg (Calls.loadGlobal_builtin (by rw [I.ok.glob]; exact I.mod.glob.keeps I.bk) hm (by rw [I.ok.blt]; exact h1.keeps I.bk) ((h2 x hn).trans hv) h) hd
theorem pe_glob {x : Str} {v : V} {u : Value} {pos : Pos} (hg : Gl X x) (hm : X.mg x = some u) (r : RelV v u) (hd : (x == ("__debug__" : Str)) = false := by decide) : PE X (.Name x pos) (tC v) :=
  fun _ _ _ H _ I h => ld_glob I hg hm ⟨v, H, I, r, h⟩ hd
theorem pe_bltn {x : Str} {v : V} {u : Value} {pos : Pos} (hg : Gl X x) (hm : X.mg x = none) (hv : bootBuiltins x = some u) (r : RelV v u) (hn : x ≠ "__name__" := by decide) (hd : (x == ("__debug__" : Str)) = false := by decide) : PE X (.Name x pos) (tC v) :=
  fun _ _ _ H _ I h => ld_blt I hg hm hv ⟨v, H, I, r, h⟩ hn hd
variable {a b : Expr} {ta tb : TE} {pos : Pos}
variable {tA tB' : TT} {rest : List Expr}
noncomputable def tAnd (t u : TT) : TT := fun σ H Q => t σ H fun c H1 => if c = true then u σ H1 Q else Q false H1
noncomputable def tOr (t u : TT) : TT := fun σ H Q => t σ H fun c H1 => if c = true then Q true H1 else u σ H1 Q
noncomputable def tNot (t : TT) : TT := fun σ H Q => t σ H fun c H1 => Q (!c) H1
theorem pw_and1 (ha : PT X a tA) : PW X (.BoolOp .And [a] pos) tA := by
  intro wh pins s σ H Q I h
  refine isTrue_and (thn (ha pins s σ H Q I h) fun c s1 e => ?_)
  cases c with
  | true => exact isTrue_and_nil e
  | false => exact e
theorem pw_or1 (ha : PT X a tA) : PW X (.BoolOp .Or [a] pos) tA := by
  intro wh pins s σ H Q I h
  refine isTrue_or (thn (ha pins s σ H Q I h) fun c s1 e => ?_)
  cases c with
  | false => exact isTrue_or_nil e
  | true => exact e
theorem pw_and (ha : PT X a tA) (hb : PW X (.BoolOp .And (b :: rest) pos) tB') : PW X (.BoolOp .And (a :: b :: rest) pos) (tAnd tA tB') := by
  intro wh pins s σ H Q I h
  refine isTrue_and (thn (ha pins s σ H _ I h) fun c s1 zz => ?_)
  obtain ⟨H1, I1, q1⟩ := zz
  cases c with
  | true => exact hb wh pins s1 σ H1 Q I1 q1
  | false => exact ⟨H1, I1, q1⟩
theorem pw_or (ha : PT X a tA) (hb : PW X (.BoolOp .Or (b :: rest) pos) tB') : PW X (.BoolOp .Or (a :: b :: rest) pos) (tOr tA tB') := by
  intro wh pins s σ H Q I h
  refine isTrue_or (thn (ha pins s σ H _ I h) fun c s1 zz => ?_)
  obtain ⟨H1, I1, q1⟩ := zz
  cases c with
  | true => exact ⟨H1, I1, q1⟩
  | false => exact hb wh pins s1 σ H1 Q I1 q1
theorem pt_not (ha : PT X a tA) : PT X (.UnaryOp .Not a pos) (tNot tA) := by
  intro pins s σ H Q I h
  exact isTrue_not (ha pins s σ H (fun c H1 => Q (!c) H1) I h)
noncomputable def tAndV (ta tb : TE) : TE := fun σ H Q => ta σ H fun x H1 => ∃ c, x = .bl c ∧ if c = true then tb σ H1 Q else Q (.bl false) H1
theorem pe_one {op} {t : TE} (h : PE X a t) : PE X (.BoolOp op [a] pos) t := fun pins s σ H Q I hw => BoolOp_one (h pins s σ H Q I hw)
theorem pe_and (ha : PE X a ta) (hb : PE X (.BoolOp .And (b :: rest) pos) tb) : PE X (.BoolOp .And (a :: b :: rest) pos) (tAndV ta tb) := by
  intro pins s σ H Q I h
  refine BoolOp_and (thn (ha pins s σ H _ I h) fun v s1 zz => ?_)
  obtain ⟨x, H1, I1, r1, q1⟩ := zz
  obtain ⟨c, rfl, q1⟩ := q1
  cases r1
  refine wpAny_truthy_bool ?_
  cases c with
  | true => exact hb pins s1 σ H1 Q I1 q1
  | false => exact ⟨.bl false, H1, I1, rfl, q1⟩
noncomputable def tIf (t : TT) (ta tb : TE) : TE := fun σ H Q => t σ H fun c H1 => if c = true then ta σ H1 Q else tb σ H1 Q
theorem pe_ifExp {c : Expr} (hc : PT X c tA) (ha : PE X a ta) (hb : PE X b tb) : PE X (.IfExp c a b pos) (tIf tA ta tb) := by
  intro pins s σ H Q I h
  refine wpAny_IfExp (thn (hc pins s σ H _ I h) fun d s1 zz => ?_)
  obtain ⟨H1, I1, q1⟩ := zz
  cases d with
  | true => exact ha pins s1 σ H1 Q I1 q1
  | false => exact hb pins s1 σ H1 Q I1 q1
end
end L2
namespace L2
open PySem PySem.Spec PyProof.Rows
noncomputable def SqL (K : PySem.W.Frag) (H : Hp) (a : Addr) (xs : List V) : Prop :=
  Rd H a (.lst xs) ∨
    ∃ (o : Obj) (its : Array Value) (n : Nat), K.lookup a = some o ∧ o.cls = .type "list" ∧ o.dict = none ∧ o.data = .seq its n ∧ its.size ≤ sizeLine ∧ Vals xs its.toList
noncomputable def SqT (K : PySem.W.Frag) (H : Hp) (a : Addr) (xs : List V) : Prop :=
  Rd H a (.tup xs) ∨
    ∃ (o : Obj) (its : Array Value) (n : Nat), K.lookup a = some o ∧ o.cls = .type "tuple" ∧ o.data = .seq its n ∧ its.size ≤ sizeLine ∧ Vals xs its.toList ∧ o.dict = none
noncomputable def absV : Value → Option V
  | .none => some .non
  | .bool b => some (.bl b)
  | .int i _ => some (.int i)
  | .str x _ => some (.str x)
  | .bytes b _ => some (.byt b)
  | .float b _ => some (.flt b)
  | .ref a => some (.ref a)
  | .type n => some (.ty n)
  | _ => none
theorem RelV.abs {x : V} {u : Value} (r : RelV x u) : absV u = some x := by
  cases x with
  | non => cases r; rfl
  | bl _ => cases r; rfl
  | int _ => obtain ⟨t, rfl⟩ := r; rfl
  | str _ => obtain ⟨t, rfl⟩ := r; rfl
  | byt _ => obtain ⟨t, rfl⟩ := r; rfl
  | flt _ => obtain ⟨t, rfl⟩ := r; rfl
  | ref _ => cases r; rfl
  | ty _ => cases r; rfl
theorem RelV.inj {x y : V} {u : Value} (r : RelV x u) (q : RelV y u) : x = y := Option.some.inj (r.abs.symm.trans q.abs)
theorem Vals.inj : ∀ {xs ys : List V} {us : List Value}, Vals xs us → Vals ys us → xs = ys := by
  intro xs ys us h
  induction h generalizing ys with
  | nil => intro h'; cases h'; rfl
  | cons r t ih =>
    intro h'
    cases h' with
    | cons r' t' => rw [r.inj r', ih t']
section
variable {X : Cx} {pins : List (Addr × Obj)} {σ : St} {H : Hp} {s : Shared} {a : Addr} {xs ys : List V}
theorem SqL.of {K : PySem.W.Frag} (h : H a = some (.lst xs)) : SqL K H a xs := .inl (.inl h)
theorem SqT.of {K : PySem.W.Frag} (h : H a = some (.tup xs)) : SqT K H a xs := .inl (.inl h)
theorem Inv.list (I : Inv X pins σ H s) (h : SqL X.K H a xs) : ∃ its : List Value, Vals xs its ∧ PlainL s.heap a its.toArray ∧ xs.length ≤ sizeLine := by
  rcases h with h | ⟨o, its, n, hk, hc, hd, hs, hz, r⟩
  · obtain ⟨z, its, n, r, e⟩ := h.ok I.hok
    exact ⟨its, r, ⟨_, n, e, rfl, rfl, rfl⟩, z⟩
  · refine ⟨its.toList, r, ⟨o, n, I.kIn a o hk, hc, hd, by simpa using hs⟩, ?_⟩
    have e := r.length
    simp only [Array.length_toList] at e
    omega
theorem Inv.tuple (I : Inv X pins σ H s) (h : SqT X.K H a xs) : ∃ its : List Value, Vals xs its ∧ IsTup s.heap a its.toArray ∧ xs.length ≤ sizeLine := by
  rcases h with h | ⟨o, its, n, hk, hc, hs, hz, r, _⟩
  · obtain ⟨z, its, r, p⟩ := h.ok I.hok
    exact ⟨its, r, p.tup, z⟩
  · refine ⟨its.toList, r, ⟨o, I.kIn a o hk, hc, n, by simpa using hs⟩, ?_⟩
    have e := r.length
    simp only [Array.length_toList] at e
    omega
theorem Inv.list_inj (I : Inv X pins σ H s) (h : SqL X.K H a xs) (h' : SqL X.K H a ys) : xs = ys := by
  obtain ⟨its, r, ⟨o, n, e, _, _, d⟩, _⟩ := I.list h
  obtain ⟨its', r', ⟨o', n', e', _, _, d'⟩, _⟩ := I.list h'
  rw [e] at e'; cases e'
  rw [d] at d'
  injection d' with d1 _
  have : its = its' := by simpa using congrArg Array.toList d1
  subst this
  exact r.inj r'
theorem Inv.tuple_inj (I : Inv X pins σ H s) (h : SqT X.K H a xs) (h' : SqT X.K H a ys) : xs = ys := by
  obtain ⟨its, r, ⟨o, e, _, n, d⟩, _⟩ := I.tuple h
  obtain ⟨its', r', ⟨o', e', _, n', d'⟩, _⟩ := I.tuple h'
  rw [e] at e'; cases e'
  rw [d] at d'
  injection d' with d1 _
  have : its = its' := by simpa using congrArg Array.toList d1
  subst this
  exact r.inj r'
end
noncomputable abbrev Cx.wish (X : Cx) (E : Value → Shared → Prop) : Cx := { X with xe := E }
noncomputable abbrev Cx.nox (X : Cx) : Cx := X.wish fun _ _ => False
theorem Cx.Ok.wish {X : Cx} (ok : X.Ok) (E : Value → Shared → Prop) : (X.wish E).Ok :=
  ⟨ok.mod, ok.kind, ok.glob, ok.blt, ok.above, ok.inj, ok.has, ok.cab, ok.hd, ok.frames, ok.stk, ok.exf, ok.bs, ok.bsz, ok.noex, ok.exfs, ok.funs, ok.frf⟩
theorem Cx.Ok.unwish {X : Cx} {E : Value → Shared → Prop} (ok : (X.wish E).Ok) : X.Ok :=
  ⟨ok.mod, ok.kind, ok.glob, ok.blt, ok.above, ok.inj, ok.has, ok.cab, ok.hd, ok.frames, ok.stk, ok.exf, ok.bs, ok.bsz, ok.noex, ok.exfs, ok.funs, ok.frf⟩
section
variable {X : Cx} {pins : List (Addr × Obj)} {σ : St} {H : Hp} {s : Shared} {E : Value → Shared → Prop}
theorem Inv.wish (I : Inv X pins σ H s) (E : Value → Shared → Prop) : Inv (X.wish E) pins σ H s := ⟨I.ok.wish E, I.os, I.bare, I.base, I.loc, I.cell, I.free, I.freeC, I.pin, I.hok, I.len⟩
theorem Inv.unwish (I : Inv (X.wish E) pins σ H s) : Inv X pins σ H s := ⟨I.ok.unwish, I.os, I.bare, I.base, I.loc, I.cell, I.free, I.freeC, I.pin, I.hok, I.len⟩
theorem SP.unwish {D : Ends} {f : Flow} {s' : Shared} (h : SP (X.wish E) pins D f s') : SP X pins D f s' := by
  cases f with
  | next => obtain ⟨σ', H', I, q⟩ := h; exact ⟨σ', H', I.unwish, q⟩
  | brk => obtain ⟨σ', H', I, q⟩ := h; exact ⟨σ', H', I.unwish, q⟩
  | cont => obtain ⟨σ', H', I, q⟩ := h; exact ⟨σ', H', I.unwish, q⟩
  | ret u => obtain ⟨v, σ', H', I, r, q⟩ := h; exact ⟨v, σ', H', I.unwish, r, q⟩
theorem PSs.nox {st : List Stmt} {t : TS} (h : PSs X.nox st t) : PSs X st t := fun pins s σ H D I hw =>
  wpAny_mono (h pins s σ H D (I.wish _) hw) (fun _ _ q => q.unwish) fun _ _ z => False.elim z
end
section
variable {X : Cx} {st : Stmt} {rest : List Stmt} {t u : TS} {e : Expr} {te : TE} {pos : Pos}
noncomputable def tNext : TS := fun D σ H => D.nx σ H
noncomputable def tSeq (t u : TS) : TS := fun D σ H => t { D with nx := u D } σ H
theorem pss_nil : PSs X [] tNext := fun _ _ σ H _ I h => wpAny_execs_nil ⟨σ, H, I, h⟩
theorem pss_cons (h1 : PS X st t) (h2 : PSs X rest u) : PSs X (st :: rest) (tSeq t u) := by
  intro pins s σ H D I h
  refine wpAny_execs_cons (thn (h1 pins s σ H { D with nx := u D } I h) fun f s1 q => ?_)
  cases f with
  | next =>
    obtain ⟨σ', H', I', q⟩ := q
    exact h2 pins s1 σ' H' D I' q
  | ret v => exact q
  | brk => exact q
  | cont => exact q
theorem Inv.quiet {pins : List (Addr × Obj)} {σ : St} {H : Hp} {s : Shared} (I : Inv X pins σ H s) : interactive X.env = false := by simp [interactive, I.ok.kind]
noncomputable def tDrop (te : TE) : TS := fun D σ H => te σ H fun _ H1 => D.nx σ H1
theorem ps_expr (he : PE X e te) (hs : swapsWith e none pos.line X.env = pure false := by rfl) : PS X (.Expr e pos) (tDrop te) := by
  intro pins s σ H D I h
  exact wpAny_Expr_any (thn (he pins s σ H _ I h) fun v s1 ⟨x, H1, I1, r1, q1⟩ => ⟨σ, H1, I1, q1⟩) I.quiet hs
noncomputable def tRet (te : TE) : TS := fun D σ H => te σ H D.rt
theorem ps_ret (he : PE X e te) : PS X (.Return (some e) pos) (tRet te) := by
  intro pins s σ H D I h
  exact wpAny_Return_some (thn (he pins s σ H _ I h) fun v s1 ⟨x, H1, I1, r1, q1⟩ => ⟨x, σ, H1, I1, r1, q1⟩)
noncomputable def tIfS (c : TT) (t u : TS) : TS := fun D σ H => c σ H fun b H1 => if b = true then t D σ H1 else u D σ H1
theorem ps_if {c : Expr} {a b : List Stmt} {tc : TT} (hc : PT X c tc) (ha : PSs X a t) (hb : PSs X b u) : PS X (.If c a b pos) (tIfS tc t u) := by
  intro pins s σ H D I h
  refine wpAny_If (thn (hc pins s σ H _ I h) fun d s1 zz => ?_)
  obtain ⟨H1, I1, q1⟩ := zz
  cases d with
  | true => exact ha pins s1 σ H1 D I1 q1
  | false => exact hb pins s1 σ H1 D I1 q1
end
noncomputable abbrev TG := V → St → Hp → (St → Hp → Prop) → Prop
noncomputable abbrev TGs := List V → St → Hp → (St → Hp → Prop) → Prop
noncomputable def PG (X : Cx) (target : Expr) (t : TG) : Prop :=
  ∀ (pins : List (Addr × Obj)) (s : Shared) (σ : St) (H : Hp) (v : V) (u : Value) (Q : St → Hp → Prop), Inv X pins σ H s → RelV v u → t v σ H Q →
    wpAny (model X.prog X.w) X.A (assign target X.env u) (fun _ s' => ∃ σ' H', Inv X pins σ' H' s' ∧ Q σ' H') X.xe s
noncomputable def PGs (X : Cx) (ts : List Expr) (t : TGs) : Prop :=
  ∀ (pins : List (Addr × Obj)) (s : Shared) (σ : St) (H : Hp) (vs : List V) (us : List Value) (Q : St → Hp → Prop), Inv X pins σ H s → Vals vs us → t vs σ H Q →
    wpAny (model X.prog X.w) X.A (assignInOrder ((assignEach ts X.env).map (·.2)) us) (fun _ s' => ∃ σ' H', Inv X pins σ' H' s' ∧ Q σ' H') X.xe s
noncomputable abbrev TIp := V → V → Hp → VK → Prop
noncomputable def PIp (X : Cx) (op : Operator) (t : TIp) : Prop :=
  ∀ (pins : List (Addr × Obj)) (s : Shared) (σ : St) (H : Hp) (x y : V) (v u : Value) (Q : VK), Inv X pins σ H s → RelV x v → RelV y u → t x y H Q →
    wpAny (model X.prog X.w) X.A (inplaceOp op v u) (EP X pins σ Q) X.xe s
section
variable {X : Cx} {pos : Pos}
noncomputable def gName (i : Nat) : TG := fun v σ H Q => Q (σ.set i (some v)) H
theorem pg_name {i : Nat} {x : Str} (hN : X.N.Nodup) (hi : X.N[i]? = some x) (hx : Loc X.env.scope x) (hf : X.fn x = true ∨ X.env.scope.names.lookup x = some .local := by first | exact .inl rfl | exact .inr rfl | assumption) : PG X (.Name x pos) (gName i) := by
  intro pins s σ H v u Q I r h
  exact wpAny_assign_Name (store_ok I hN hi hx r (fun s' I' => ⟨_, H, I', h⟩) hf)
noncomputable def gNil : TGs := fun vs σ H Q => vs = [] ∧ Q σ H
noncomputable def gCons (t : TG) (u : TGs) : TGs := fun vs σ H Q => ∃ v r, vs = v :: r ∧ t v σ H fun σ' H' => u r σ' H' Q
theorem pgs_nil : PGs X [] gNil := by
  intro pins s σ H vs us Q I r h
  obtain ⟨e, h⟩ := h
  subst e
  cases r
  exact assignInOrder_nil ⟨σ, H, I, h⟩
theorem pgs_cons {e : Expr} {es : List Expr} {t : TG} {u : TGs} (h1 : PG X e t) (h2 : PGs X es u)
    (hs : (assignEach (e :: es) X.env).map (·.2) = assign e X.env :: (assignEach es X.env).map (·.2) := by rfl) : PGs X (e :: es) (gCons t u) := by
  intro pins s σ H vs us Q I r h
  obtain ⟨v, vr, e1, h⟩ := h
  subst e1
  cases r with
  | cons r rr =>
    rw [hs]
    refine assignInOrder_cons (thn (h1 pins s σ H _ _ _ I r h) fun _ s1 zz => ?_)
    obtain ⟨σ1, H1, I1, q1⟩ := zz
    exact h2 pins s1 σ1 H1 _ _ Q I1 rr q1
noncomputable def gTup (K : PySem.W.Frag) (n : Nat) (t : TGs) : TG := fun v σ H Q => ∃ a xs, v = .ref a ∧ SqT K H a xs ∧ xs.length = n ∧ t xs σ H Q
theorem pg_tup {es : List Expr} {k : Nat} {t : TGs} {n : Nat} (hc : X.calm = true) (h : PGs X es t)
    (hn : (assignEach es X.env).length = n := by rfl) (hst : (assignEach es X.env).findIdx? (·.1) = none := by rfl) : PG X (.Tuple es k pos) (gTup X.K n t) := by
  intro pins s σ H v u Q I r hw
  obtain ⟨a, xs, e1, hq, hl, hw⟩ := hw
  subst e1
  cases r
  obtain ⟨its, rv, ht, hz⟩ := I.tuple hq
  refine assign_Tuple_tuple (I.ok.hd hc) ht (by simp [hn, ← hl, rv.length]) hst fun h' hx => ?_
  have I1 : Inv X pins σ H { s with heap := h' } := I.kept (t' := s.toks) fun b o e => hx b o (Nat.ne_of_lt (Heap.lt_size e)) e
  exact h pins _ σ H xs _ Q I1 (by simpa using rv) hw
noncomputable def tAsg (te : TE) (g : TG) : TS := fun D σ H => te σ H fun x H1 => g x σ H1 D.nx
theorem ps_set {i : Nat} {x : Str} {e : Expr} {te : TE} {pos' : Pos} (hN : X.N.Nodup) (hi : X.N[i]? = some x) (hx : Loc X.env.scope x) (he : PE X e te) (hs : swapsWith e (some (.Name x pos')) pos.line X.env = pure false := by rfl) (hf : X.fn x = true ∨ X.env.scope.names.lookup x = some .local := by first | exact .inl rfl | exact .inr rfl | assumption) :
    PS X (.Assign [.Name x pos'] e pos) (tAsg te (gName i)) := by
  intro pins s σ H D I h
  refine wpAny_Assign_Name (thn (he pins s σ H _ I h) fun v s1 ⟨y, H1, I1, r1, q1⟩ => ?_) hs
  exact store_ok I1 hN hi hx r1 (fun s2 I2 => ⟨_, H1, I2, q1⟩) hf
noncomputable def tAug (i : Nat) (te : TE) (ti : TIp) : TS := fun D σ H => ∃ x, σ[i]? = some (some x) ∧ te σ H fun y H1 => ti x y H1 fun z H2 => D.nx (σ.set i (some z)) H2
theorem ps_aug {i : Nat} {x : Str} {e : Expr} {te : TE} {op : Operator} {ti : TIp} {pos' : Pos} (hN : X.N.Nodup) (hi : X.N[i]? = some x) (hx : Loc X.env.scope x) (he : PE X e te) (ho : PIp X op ti) (hf : X.fn x = true ∨ X.env.scope.names.lookup x = some .local := by first | exact .inl rfl | exact .inr rfl | assumption) :
    PS X (.AugAssign (.Name x pos') op e pos) (tAug i te ti) := by
  intro pins s σ H D I h
  obtain ⟨v, e1, h⟩ := h
  obtain ⟨m, hn, hl⟩ := I.loc
  have vis : Vis X.env.scope x := by rcases hx with k | k; exact .inl k; exact .inr (.inl k)
  obtain ⟨u, r, l⟩ := hl i x v hi e1 vis
  refine wpAny_AugAssign_Name ?_
  have go : wpAny (model X.prog X.w) X.A (eval e X.env) (fun w s₂ => wpAny (model X.prog X.w) X.A (inplaceOp op u w) (fun r s₃ => wpAny (model X.prog X.w) X.A (storeName X.env x r) (fun _ => SP X pins D .next) X.xe s₃) X.xe s₂) X.xe s := by
    refine thn (he pins s σ H _ I h) fun w s1 zz => ?_
    obtain ⟨y, H1, I1, r1, q1⟩ := zz
    refine thn (ho pins s1 σ H1 v y u w _ I1 r r1 q1) fun z s2 zz => ?_
    obtain ⟨zv, H2, I2, r2, q2⟩ := zz
    exact store_ok I2 hN hi hx r2 (fun s3 I3 => ⟨_, H2, I3, q2⟩) hf
  rcases l with ⟨hk, hm⟩ | ⟨hk, c, hc, hcell⟩
  · exact wpAny_loadName_local I.ok.kind hk hn hm go
  · rcases hk with hk | hk
    · exact wpAny_loadName_cell I.ok.kind hk hc hcell go
    · rcases hx with k | k
      · have : X.env.scope.names.lookup x = some .free := hk
        rw [k] at this; cases this
      · have : X.env.scope.names.lookup x = some .free := hk
        rw [k] at this; cases this
noncomputable def ipI (f : Int → Int → Int) : TIp := fun x y H Q => ∃ i j, x = .int i ∧ y = .int j ∧ Q (.int (f i j)) H
theorem ip_add : PIp X .Add (ipI fun i j => i + j) := by
  intro pins s σ H x y v u Q I r1 r2 h
  obtain ⟨i, j, e1, e2, q⟩ := h
  subst e1; subst e2
  obtain ⟨t, rfl⟩ := r1
  obtain ⟨t', rfl⟩ := r2
  exact iadd_int ⟨.int _, H, I.tok _, ⟨_, rfl⟩, q⟩
end
section
variable {X : Cx} {pos : Pos}
noncomputable def tWhile (c : TT) (tb : TS) : TS := fun D σ H => ∃ W : Nat → St → Hp → Prop, (∃ m, W m σ H) ∧ ∀ m σ H, W m σ H →
  c σ H fun b H1 => if b = true then ∃ N : St → Hp → Prop, (∀ σ' H', N σ' H' → ∃ m', m' < m ∧ W m' σ' H') ∧ tb { D with nx := N, ct := N, bk := D.nx } σ H1 else D.nx σ H1
theorem ps_while {c : Expr} {body : List Stmt} {tc : TT} {tb : TS} (hp : PassesOwn (model X.prog X.w) X.A X.env X.xe) (hc : PT X c tc) (hb : PSs X body tb) : PS X (.While c body [] pos) (tWhile tc tb) := by
  intro pins s σ H D I h
  obtain ⟨W, ⟨m0, w0⟩, turn⟩ := h
  refine wpAny_While (codeAny_whileLoop (fun n s' => ∃ σ' H', Inv X pins σ' H' s' ∧ W n σ' H') ?_ m0 ⟨σ, H, I, w0⟩)
  rintro n s1 ⟨σ1, H1, I1, w1⟩
  refine wpAny_passesOwn hp (thn (hc pins s1 σ1 H1 _ I1 (turn n σ1 H1 w1)) fun b s2 zz => ?_)
  obtain ⟨H2, I2, q2⟩ := zz
  cases b with
  | true =>
    obtain ⟨N, hN, q2⟩ := q2
    rw [if_pos rfl]
    refine wpAny_passesOwn hp (thn (hb pins s2 σ1 H2 _ I2 q2) fun f s3 q3 => ?_)
    cases f with
    | next =>
      obtain ⟨σ3, H3, I3, n3⟩ := q3
      obtain ⟨m', hm, w3⟩ := hN σ3 H3 n3
      exact ⟨m', hm, σ3, H3, I3, w3⟩
    | cont =>
      obtain ⟨σ3, H3, I3, n3⟩ := q3
      obtain ⟨m', hm, w3⟩ := hN σ3 H3 n3
      exact ⟨m', hm, σ3, H3, I3, w3⟩
    | brk => exact q3
    | ret v => exact q3
  | false =>
    rw [if_neg Bool.false_ne_true]
    exact wpAny_execs_nil ⟨σ1, H2, I2, q2⟩
end
structure It where
  go : Nat → Hp → Prop
  yld : Nat → Hp → V → Hp → Prop
  stop : Nat → Hp → Prop
noncomputable def FpOk (X : Cx) (pins : List (Addr × Obj)) (H : Hp) (b : Addr) : Prop :=
  H b = none ∧ b ≠ X.env.locals ∧ b ∉ X.fs ∧ (b ∈ X.ex ∨ X.s₀.heap.objs.size ≤ b) ∧ (∀ x c, X.env.cells.lookup x = some c → c ≠ b) ∧ ∀ p ∈ X.pn ++ pins, p.1 ≠ b
theorem Inv.fpOk {X : Cx} {pins : List (Addr × Obj)} {σ : St} {H H' : Hp} {s : Shared} {b : Addr} (I : Inv X pins σ H s) (hb : s.heap.objs.size ≤ b) (hn : H' b = none) : FpOk X pins H' b := by
  refine ⟨hn, Nat.ne_of_gt (Nat.lt_of_lt_of_le I.lt hb), I.nofs hb, .inr (Nat.le_trans I.sz hb), fun x c e z => ?_, fun p hp z => ?_⟩
  · obtain ⟨v, q⟩ := I.cell x c e
    exact absurd (Nat.lt_of_lt_of_le q.lt (by rw [z]; exact hb)) (Nat.lt_irrefl _)
  · exact absurd (Nat.lt_of_lt_of_le (Heap.lt_size (I.pin p hp).1) (by rw [z]; exact hb)) (Nat.lt_irrefl _)
structure Turn (P : Program) (w : World) (K : PySem.W.Frag) (tg : Expr) (J : It) (fp : List Addr) (it : Addr) (tn : Nat → Heap → Prop) : Prop where
  mem : it ∈ fp
  obj : ∀ i h, tn i h → ∀ b ∈ fp, ∃ o, h.get? b = some o ∧ ∀ v, o.data ≠ .cell v
  keep : ∀ i h h', tn i h → (∀ b ∈ fp, ∀ o, h.get? b = some o → h'.get? b = some o) → tn i h'
  item : ∀ (X : Cx), X.prog = P → X.w = w → X.K = K → X.calm = true → ∀ (i : Nat) (pins : List (Addr × Obj)) (s : Shared) (σ : St) (H : Hp) (E : Value → Shared → Prop), Inv X pins σ H s → (∀ b ∈ fp, FpOk X pins H b) → tn i s.heap → J.go i H →
    wpAny (model P w) X.A (pyNext (.ref it)) (fun r s1 => ∃ u, r = some u ∧
      wpAny (model P w) X.A (letOwnedTupleGo tg (.ref it) u) (fun _ s2 => ∃ x H', Inv X pins σ H' s2 ∧ RelV x u ∧ J.yld i H x H' ∧ tn (i + 1) s2.heap ∧ ∀ b ∈ fp, H' b = none) E s1) E s
  done : ∀ (X : Cx), X.prog = P → X.w = w → X.K = K → X.calm = true → ∀ (i : Nat) (pins : List (Addr × Obj)) (s : Shared) (σ : St) (H : Hp) (E : Value → Shared → Prop), Inv X pins σ H s → (∀ b ∈ fp, FpOk X pins H b) → tn i s.heap → J.stop i H →
    wpAny (model P w) X.A (pyNext (.ref it)) (fun r s1 => r = none ∧ Inv X pins σ H s1) E s
  self : ∀ (A : Around) (i : Nat) (s : Shared) (Q : Value → Shared → Prop) (E : Value → Shared → Prop), tn i s.heap → Q (.ref it) s → wpAny (model P w) A (pyIter (.ref it)) Q E s
noncomputable abbrev TI := St → Hp → (It → Hp → Prop) → Prop
noncomputable def PIE (X : Cx) (pins : List (Addr × Obj)) (σ : St) (tg : Expr) (R : It → Hp → Prop) (itv : Value) (s2 : Shared) : Prop :=
  ∃ (it : Addr) (fp : List Addr) (tn : Nat → Heap → Prop) (J : It) (H' : Hp), itv = .ref it ∧ Inv X pins σ H' s2 ∧ Turn X.prog X.w X.K tg J fp it tn ∧ tn 0 s2.heap ∧ (∀ b ∈ fp, FpOk X pins H' b) ∧ R J H'
noncomputable def PI (X : Cx) (tg iter : Expr) (wi : TI) : Prop :=
  ∀ (pins : List (Addr × Obj)) (s : Shared) (σ : St) (H : Hp) (R : It → Hp → Prop), Inv X pins σ H s → wi σ H R →
    wpAny (model X.prog X.w) X.A (eval iter X.env) (fun v s1 => wpAny (model X.prog X.w) X.A (pyIter v) (PIE X pins σ tg R) X.xe s1) X.xe s
theorem go_of {M : Model} {A : Around} {E : Value → Shared → Prop} {s : Shared} {tg : Expr} {it : Addr} {u : Value} {o : Obj} {n : String} {vs : Array Value} {Q : Unit → Shared → Prop} (ho : s.heap.get? it = some o) (hc : o.cls = .type n) (hd : o.data = .fields vs)
    (hn : ["enumerate", "zip", "dict_itemiterator", "dict_reverseitemiterator", "odict_iterator", "itertools.zip_longest", "itertools.pairwise"].contains n = false) (hQ : Q () s) : wpAny M A (letOwnedTupleGo tg (.ref it) u) Q E s := by
  unfold letOwnedTupleGo
  cases tg <;> first
    | exact wpAny_pure hQ
    | (cases u <;> first
        | exact wpAny_pure hQ
        | (refine wpAny_bind (wpAny_load ho ?_)
           rw [hc, hd]
           show wpAny M A (if (["enumerate", "zip", "dict_itemiterator", "dict_reverseitemiterator", "odict_iterator", "itertools.zip_longest", "itertools.pairwise"].contains n && vs[0]? == some (rawInt _)) = true then _ else _) Q E s
           rw [if_neg (by intro h; rw [hn, Bool.false_and] at h; cases h)]
           exact wpAny_pure hQ))
noncomputable def Itl (K : PySem.W.Frag) (a : Addr) : It :=
  ⟨fun i H => ∃ xs x, SqL K H a xs ∧ xs[i]? = some x, fun i H x H' => H' = H ∧ ∀ xs, SqL K H a xs → xs[i]? = some x, fun i H => ∃ xs, SqL K H a xs ∧ xs.length ≤ i⟩
noncomputable def Itt (K : PySem.W.Frag) (a : Addr) : It :=
  ⟨fun i H => ∃ xs x, SqT K H a xs ∧ xs[i]? = some x, fun i H x H' => H' = H ∧ ∀ xs, SqT K H a xs → xs[i]? = some x, fun i H => ∃ xs, SqT K H a xs ∧ xs.length ≤ i⟩
noncomputable def Itr (lo : Int) (n : Nat) : It := ⟨fun i _ => i < n, fun i H x H' => H' = H ∧ x = .int (lo + i), fun i _ => n ≤ i⟩
theorem turn_list {P : Program} {w : World} {K : PySem.W.Frag} {tg : Expr} (a it : Addr) : Turn P w K tg (Itl K a) [it] it (fun i h => h.IsListIter it a i) where
  mem := by simp
  obj := fun i h st b hb => by
    have e : b = it := by simpa using hb
    subst e
    obtain ⟨o, e, c, d⟩ := st
    exact ⟨o, e, fun v z => by rw [d] at z; cases z⟩
  keep := fun i h h' st k => st.at fun o e => k it (by simp) o e
  item := by
    intro X hP hw hK hc i pins s σ H E I hf st hg
    subst hP hw hK
    obtain ⟨xs, x, hq, hx⟩ := hg
    obtain ⟨its, rv, p, hz⟩ := I.list hq
    obtain ⟨u, hu, ru⟩ := rv.get hx
    obtain ⟨f0, f1, f2, f3, f4, f5⟩ := hf it (by simp)
    refine wpAny_pyNext_list_item st p.isList (x := u) (by simpa using hu) fun h' st' sb => ?_
    have I1 : Inv X pins σ H { s with heap := h' } := I.turned (t' := s.toks) (fun b o hb e => (sb.2 b hb).trans e) f0 f1 f3 f4 f5
    obtain ⟨o, e, c, d⟩ := id st'
    exact ⟨u, rfl, go_of (s := { s with heap := h' }) e c d (by decide) ⟨x, H, I1, ru, ⟨rfl, fun ys hy => by rw [I.list_inj hy hq]; exact hx⟩, st', fun b hb => (hf b hb).1⟩⟩
  done := by
    intro X hP hw hK hc i pins s σ H E I hf st hg
    subst hP hw hK
    obtain ⟨xs, hq, hx⟩ := hg
    obtain ⟨its, rv, p, hz⟩ := I.list hq
    obtain ⟨f0, f1, f2, f3, f4, f5⟩ := hf it (by simp)
    have hl := rv.length
    exact wpAny_pyNext_list_end (I.ok.hd hc) st p.isList (by simp; omega) fun h' eb => ⟨rfl, I.turned (t' := s.toks) (fun b o hb e => eb b o hb e) f0 f1 f3 f4 f5⟩
  self := fun _ _ _ _ _ st h => wpAny_pyIter_listiter st h
theorem turn_tuple {P : Program} {w : World} {K : PySem.W.Frag} {tg : Expr} (a it : Addr) : Turn P w K tg (Itt K a) [it] it (fun i h => h.IsTupleIter it a i) where
  mem := by simp
  obj := fun i h st b hb => by
    have e : b = it := by simpa using hb
    subst e
    obtain ⟨o, e, c, d⟩ := st
    exact ⟨o, e, fun v z => by rw [d] at z; cases z⟩
  keep := fun i h h' st k => st.at fun o e => k it (by simp) o e
  item := by
    intro X hP hw hK hc i pins s σ H E I hf st hg
    subst hP hw hK
    obtain ⟨xs, x, hq, hx⟩ := hg
    obtain ⟨its, rv, p, hz⟩ := I.tuple hq
    obtain ⟨u, hu, ru⟩ := rv.get hx
    obtain ⟨f0, f1, f2, f3, f4, f5⟩ := hf it (by simp)
    refine wpAny_pyNext_tuple_item st (show s.heap.IsTuple a its.toArray from p) (x := u) (by simpa using hu) fun h' st' sb => ?_
    have I1 : Inv X pins σ H { s with heap := h' } := I.turned (t' := s.toks) (fun b o hb e => (sb.2 b hb).trans e) f0 f1 f3 f4 f5
    obtain ⟨o, e, c, d⟩ := id st'
    exact ⟨u, rfl, go_of (s := { s with heap := h' }) e c d (by decide) ⟨x, H, I1, ru, ⟨rfl, fun ys hy => by rw [I.tuple_inj hy hq]; exact hx⟩, st', fun b hb => (hf b hb).1⟩⟩
  done := by
    intro X hP hw hK hc i pins s σ H E I hf st hg
    subst hP hw hK
    obtain ⟨xs, hq, hx⟩ := hg
    obtain ⟨its, rv, p, hz⟩ := I.tuple hq
    obtain ⟨f0, f1, f2, f3, f4, f5⟩ := hf it (by simp)
    have hl := rv.length
    exact wpAny_pyNext_tuple_end (I.ok.hd hc) st (show s.heap.IsTuple a its.toArray from p) (by simp; omega) fun h' eb => ⟨rfl, I.turned (t' := s.toks) (fun b o hb e => eb b o hb e) f0 f1 f3 f4 f5⟩
  self := fun _ _ _ _ _ st h => wpAny_pyIter_tupleiter st h
theorem turn_range {P : Program} {w : World} {K : PySem.W.Frag} {tg : Expr} (it : Addr) (lo : Int) (n : Nat) : Turn P w K tg (Itr lo n) [it] it (fun i h => IsRangeIter h it (lo + (i : Nat) * 1) ((n : Int) - (i : Nat)) 1) where
  mem := by simp
  obj := fun i h st b hb => by
    have e : b = it := by simpa using hb
    subst e
    exact ⟨_, st, fun v z => by
      have z' : Data.fields _ = Data.cell v := z
      cases z'⟩
  keep := fun i h h' st k => k it (by simp) _ st
  item := by
    intro X hP hw hK hc i pins s σ H E I hf st hg
    subst hP hw hK
    obtain ⟨f0, f1, f2, f3, f4, f5⟩ := hf it (by simp)
    have W := Walks.range (prog := X.prog) (w := X.w) (I.ok.hd hc) it lo 1 n
    refine W.item i s _ _ hg st fun v h' tk hv st' kk => ?_
    obtain ⟨t, rfl⟩ := hv
    have I1 : Inv X pins σ H { s with heap := h', toks := tk } := I.turned (fun b o hb e => kk b o (by simpa using hb) e) f0 f1 f3 f4 f5
    refine ⟨_, rfl, go_of (s := { s with heap := h', toks := tk }) (n := "range_iterator") st' rfl rfl (by decide) ⟨.int (lo + i), H, I1, ⟨t, ?_⟩, ⟨rfl, rfl⟩, st', fun b hb => (hf b hb).1⟩⟩
    rw [Int.mul_one]
  done := by
    intro X hP hw hK hc i pins s σ H E I hf st hg
    subst hP hw hK
    obtain ⟨f0, f1, f2, f3, f4, f5⟩ := hf it (by simp)
    exact wpAny_pyNext_range_end (I.ok.hd hc) st (by have : n ≤ i := hg; omega) fun h' eb => ⟨rfl, I.turned (t' := s.toks) (fun b o hb e => eb b o hb e) f0 f1 f3 f4 f5⟩
  self := fun _ _ _ _ _ st h => wpAny_pyIter_rangeiter st h
end L2
namespace L2
open PySem PySem.Spec PyProof.Rows
section
variable {X : Cx} {tg : Expr}
theorem range_it {pins : List (Addr × Obj)} {σ : St} {H : Hp} {s : Shared} {R : It → Hp → Prop} {E : Value → Shared → Prop} {lo hi : Int} {t u v : Tok} {tk : Nat} (I : Inv X pins σ H s) (h1 : -(2 ^ 62) ≤ lo) (h2 : lo < 2 ^ 62) (h3 : -(2 ^ 62) ≤ hi) (h4 : hi < 2 ^ 62)
    (q : R (Itr lo (hi - lo).toNat) H) : wpAny (model X.prog X.w) X.A (pyIter (.ref s.heap.objs.size)) (PIE X pins σ tg R) E { s with heap := s.heap.push { cls := .type "range", data := .fields #[.int lo t, .int hi u, .int 1 v] }, toks := tk } := by
  refine wpAny_pyIter_range (IsRange.new ..) (small_one h1 h2 h3 h4) ?_
  have I1 : Inv X pins σ H { s with heap := s.heap.push { cls := .type "range", data := .fields #[.int lo t, .int hi u, .int 1 v] }, toks := tk } := I.kept fun b o e => Heap.get?_push_of_some _ e
  refine ⟨(s.heap.push { cls := .type "range", data := .fields #[.int lo t, .int hi u, .int 1 v] }).objs.size, [(s.heap.push { cls := .type "range", data := .fields #[.int lo t, .int hi u, .int 1 v] }).objs.size], _, _, H, rfl,
    I1.kept (t' := tk) fun b o e => Heap.get?_push_of_some _ e, turn_range _ lo (hi - lo).toNat, ?_, fun b hb => ?_, q⟩
  · have e1 : lo + ((0 : Nat) : Int) * 1 = lo := by simp
    have e2 : (((hi - lo).toNat : Nat) : Int) - ((0 : Nat) : Int) = Builtin.Range.rangeSize lo hi 1 := by rw [rangeSize_one]; split <;> omega
    show IsRangeIter _ _ (lo + ((0 : Nat) : Int) * 1) ((((hi - lo).toNat : Nat) : Int) - ((0 : Nat) : Int)) 1
    rw [e1, e2]
    exact Heap.get?_push_size _ rfl
  · have e : b = (s.heap.push { cls := .type "range", data := .fields #[.int lo t, .int hi u, .int 1 v] }).objs.size := by simpa using hb
    subst e
    exact I1.fpOk (Nat.le_refl _) (I1.hok.fresh (Nat.le_refl _))
noncomputable def iRng1 (ta : TA) : TI := fun σ H R => ta σ H fun vs H1 => ∃ j : Int, vs = [.int j] ∧ -(2 ^ 62) ≤ j ∧ j < 2 ^ 62 ∧ R (Itr 0 j.toNat) H1
theorem pi_range1 {a : Expr} {ta : TA} {p pos : Pos} (hg : Gl X "range") (hm : X.mg "range" = none) (ha : PA X [a] ta) (hs : starEach [a] X.env = [(false, eval a X.env)] := by rfl) : PI X tg (.Call (.Name "range" p) [a] [] pos) (iRng1 ta) := by
  intro pins s σ H R I h
  refine Call_ (ld_blt I hg hm boot_range (PyProof.Rows.callWith_type1 (thn (ha pos pins s σ H _ I h) fun us s1 ⟨vs, H1, I1, r1, q1⟩ => ?_) hs rfl))
  obtain ⟨j, e, q1, q2, q⟩ := q1
  subst e
  cases r1 with
  | cons r rr =>
    cases rr
    obtain ⟨t, rfl⟩ := r
    exact call_range_1 (range_it I1 (by omega) (by omega) q1 q2 (by simpa using q))
noncomputable def tFor (wi : TI) (g : TG) (tb : TS) : TS := fun D σ H => wi σ H fun J H1 => ∃ W : Nat → Nat → St → Hp → Prop, (∃ m, W 0 m σ H1) ∧ ∀ i m σ H, W i m σ H →
  (J.stop i H ∧ D.nx σ H) ∨ (J.go i H ∧ ∃ N : St → Hp → Prop, (∀ σ' H', N σ' H' → ∃ m', m' < m ∧ W (i + 1) m' σ' H') ∧ ∀ x H', J.yld i H x H' → g x σ H' fun σ2 H2 => tb { D with nx := N, ct := N, bk := D.nx } σ2 H2)
noncomputable def pinsAt (fp : List Addr) (h : Heap) : List (Addr × Obj) := fp.filterMap fun b => (h.get? b).map fun o => (b, o)
theorem mem_pinsAt {fp : List Addr} {h : Heap} {b : Addr} {o : Obj} (hb : b ∈ fp) (e : h.get? b = some o) : (b, o) ∈ pinsAt fp h := List.mem_filterMap.mpr ⟨b, hb, by rw [e]; rfl⟩
theorem of_pinsAt {fp : List Addr} {h : Heap} {p : Addr × Obj} (hp : p ∈ pinsAt fp h) : p.1 ∈ fp ∧ h.get? p.1 = some p.2 := by
  obtain ⟨b, hb, e⟩ := List.mem_filterMap.mp hp
  cases q : h.get? b with
  | none => rw [q] at e; cases e
  | some o =>
    rw [q] at e
    have e' : (b, o) = p := Option.some.inj e
    subst e'
    exact ⟨hb, q⟩
theorem Inv.pinned {pins : List (Addr × Obj)} {σ : St} {H : Hp} {s : Shared} {fp : List Addr} (I : Inv X pins σ H s) (hf : ∀ b ∈ fp, FpOk X pins H b) (ho : ∀ b ∈ fp, ∃ o, s.heap.get? b = some o ∧ ∀ v, o.data ≠ .cell v) : Inv X (pins ++ pinsAt fp s.heap) σ H s :=
  I.pins_of fun p hp => (List.mem_append.mp hp).elim (fun z => I.pin p (List.mem_append_right _ z)) fun z => by
    obtain ⟨hb, e⟩ := of_pinsAt z
    obtain ⟨f0, f1, f2, _⟩ := hf p.1 hb
    obtain ⟨o, e', d⟩ := ho p.1 hb
    rw [e] at e'; cases e'
    exact ⟨e, f0, f1, f2, d⟩
theorem Inv.unpinned {pins pl : List (Addr × Obj)} {σ : St} {H : Hp} {s : Shared} (I : Inv X (pins ++ pl) σ H s) : Inv X pins σ H s := I.pins_of fun p hp => I.pin p (List.mem_append_right _ (List.mem_append_left _ hp))
theorem ps_for {iter : Expr} {body : List Stmt} {wi : TI} {g : TG} {tb : TS} {pos : Pos} (hp : PassesOwn (model X.prog X.w) X.A X.env X.xe) (hc : X.calm = true) (hi : PI X tg iter wi) (hg : PG X tg g) (hb : PSs X body tb)
    (hs : ∀ x, foldedSetIterable iter X.env x = pure x := by intro _; rfl) : PS X (.For tg iter body [] pos) (tFor wi g tb) := by
  intro pins s σ H D I h
  refine wpAny_For (thn (hi pins s σ H _ I h) fun v s1 h1 => thn h1 fun itv s2 h2 => ?_) hs
  obtain ⟨it, fp, tn, J, H2, e, I2, T, st2, f2, W, ⟨m0, w0⟩, turn⟩ := h2
  subst e
  -- what stays true of the iterator's objects through the loop
  have stat : ∀ {H' : Hp}, (∀ b ∈ fp, H' b = none) → ∀ b ∈ fp, FpOk X pins H' b := fun hn b hb => ⟨hn b hb, (f2 b hb).2⟩
  refine codeAny_forLoop_any (fun n s' => ∃ i σ' H', Inv X pins σ' H' s' ∧ tn i s'.heap ∧ (∀ b ∈ fp, H' b = none) ∧ W i n σ' H') ?_ m0 ⟨0, σ, H2, I2, st2, fun b hb => (f2 b hb).1, w0⟩
  rintro n s3 ⟨i, σ3, H3, I3, st3, fr3, w3⟩
  rcases turn i n σ3 H3 w3 with ⟨stop, qn⟩ | ⟨go, N, hN, step⟩
  · refine wpAny_passesOwn hp (thn (T.done X rfl rfl rfl hc i pins s3 σ3 H3 X.xe I3 (stat fr3) st3 stop) fun r s4 zz => ?_)
    obtain ⟨hr, I4⟩ := zz
    subst hr
    exact wpAny_execs_nil ⟨σ3, H3, I4, qn⟩
  · refine wpAny_passesOwn hp (thn (T.item X rfl rfl rfl hc i pins s3 σ3 H3 X.xe I3 (stat fr3) st3 go) fun r s4 zz => ?_)
    obtain ⟨u, hr, h4⟩ := zz
    subst hr
    refine wpAny_passesOwn hp (thn h4 fun _ s5 zz => ?_)
    obtain ⟨x, H5, I5, r5, y5, st5, fr5⟩ := zz
    have I5' := I5.pinned (stat fr5) (T.obj _ _ st5)
    refine wpAny_passesOwn hp (thn (hg _ s5 σ3 H5 x u _ I5' r5 (step x H5 y5)) fun _ s6 zz => ?_)
    obtain ⟨σ6, H6, I6, q6⟩ := zz
    refine wpAny_passesOwn hp (thn (hb _ s6 σ6 H6 _ I6 q6) fun f s7 q7 => ?_)
    have again : ∀ {σ7 : St} {H7 : Hp}, Inv X (pins ++ pinsAt fp s5.heap) σ7 H7 s7 → N σ7 H7 → ∃ m, m < n ∧ ∃ i σ' H', Inv X pins σ' H' s7 ∧ tn i s7.heap ∧ (∀ b ∈ fp, H' b = none) ∧ W i m σ' H' := fun {σ7 H7} I7 n7 => by
      obtain ⟨m', hm, w7⟩ := hN σ7 H7 n7
      refine ⟨m', hm, i + 1, σ7, H7, I7.unpinned, T.keep _ _ _ st5 fun b hb o e => (I7.pin (b, o) (List.mem_append_right _ (List.mem_append_right _ (mem_pinsAt hb e)))).1, fun b hb => ?_, w7⟩
      obtain ⟨o, e, d⟩ := T.obj _ _ st5 b hb
      exact (I7.pin (b, o) (List.mem_append_right _ (List.mem_append_right _ (mem_pinsAt hb e)))).2.1
    cases f with
    | next => obtain ⟨σ7, H7, I7, n7⟩ := q7; exact again I7 n7
    | cont => obtain ⟨σ7, H7, I7, n7⟩ := q7; exact again I7 n7
    | brk => obtain ⟨σ7, H7, I7, q7⟩ := q7; exact ⟨σ7, H7, I7.unpinned, q7⟩
    | ret v => obtain ⟨x7, σ7, H7, I7, r7, q7⟩ := q7; exact ⟨x7, σ7, H7, I7.unpinned, r7, q7⟩
end
end L2
namespace L2
open PySem PySem.Spec PyProof.Rows
noncomputable abbrev R2 := V → V → Hp → VK → Prop
noncomputable def OpR (X : Cx) (f : Value → Value → Sem Value) (r : R2) : Prop :=
  ∀ (pins : List (Addr × Obj)) (s : Shared) (σ : St) (H : Hp) (x y : V) (v u : Value) (Q : VK), Inv X pins σ H s → RelV x v → RelV y u → r x y H Q →
    wpAny (model X.prog X.w) X.A (f v u) (EP X pins σ Q) X.xe s
noncomputable def UnR (X : Cx) (f : Value → Sem Value) (r : V → Hp → VK → Prop) : Prop :=
  ∀ (pins : List (Addr × Obj)) (s : Shared) (σ : St) (H : Hp) (x : V) (v : Value) (Q : VK), Inv X pins σ H s → RelV x v → r x H Q →
    wpAny (model X.prog X.w) X.A (f v) (EP X pins σ Q) X.xe s
noncomputable def CallR (X : Cx) (f : Value) (r : List V → Hp → VK → Prop) : Prop :=
  ∀ (pins : List (Addr × Obj)) (s : Shared) (σ : St) (H : Hp) (xs : List V) (us : List Value) (Q : VK), Inv X pins σ H s → Vals xs us → r xs H Q →
    wpAny (model X.prog X.w) X.A (call f us) (EP X pins σ Q) X.xe s
noncomputable def TruR (X : Cx) (r : V → Hp → (Bool → Hp → Prop) → Prop) : Prop :=
  ∀ (pins : List (Addr × Obj)) (s : Shared) (σ : St) (H : Hp) (x : V) (v : Value) (Q : Bool → Hp → Prop), Inv X pins σ H s → RelV x v → r x H Q →
    wpAny (model X.prog X.w) X.A (truthy v) (TP X pins σ Q) X.xe s
noncomputable def tOp (r : R2) (ta tb : TE) : TE := fun σ H Q => ta σ H fun x H1 => tb σ H1 fun y H2 => r x y H2 Q
noncomputable def tUn (r : V → Hp → VK → Prop) (ta : TE) : TE := fun σ H Q => ta σ H fun x H1 => r x H1 Q
noncomputable def rI (C : Int → Int → Prop) (g : Int → Int → V) : R2 := fun x y H Q => ∃ i j, x = .int i ∧ y = .int j ∧ C i j ∧ Q (g i j) H
noncomputable def rI0 (g : Int → Int → V) : R2 := fun x y H Q => ∃ i j, x = .int i ∧ y = .int j ∧ Q (g i j) H
noncomputable def rU (g : Int → V) : V → Hp → VK → Prop := fun x H Q => ∃ i, x = .int i ∧ Q (g i) H
section
variable {X : Cx} {a b c : Expr} {ta tb tc : TE} {pos : Pos}
theorem binT (ha : PE X a ta) (hb : PE X b tb) {pins : List (Addr × Obj)} {s : Shared} {σ : St} {H : Hp} {R : V → V → Hp → Prop} (I : Inv X pins σ H s)
    (h : ta σ H fun x H1 => tb σ H1 fun y H2 => R x y H2) {Q : Value → Shared → Prop} {f : Value → Value → Sem Value}
    (hf : ∀ v u s2 x y H2, Inv X pins σ H2 s2 → RelV x v → RelV y u → R x y H2 → wpAny (model X.prog X.w) X.A (f v u) Q X.xe s2) :
    wpAny (model X.prog X.w) X.A (eval a X.env) (fun v s₁ => wpAny (model X.prog X.w) X.A (eval b X.env) (fun u s₂ => wpAny (model X.prog X.w) X.A (f v u) Q X.xe s₂) X.xe s₁) X.xe s := by
  refine thn (ha pins s σ H _ I h) fun v s1 zz => ?_
  obtain ⟨x, H1, I1, r1, q1⟩ := zz
  refine thn (hb pins s1 σ H1 _ I1 q1) fun u s2 zz => ?_
  obtain ⟨y, H2, I2, r2, q2⟩ := zz
  exact hf v u s2 x y H2 I2 r1 r2 q2
theorem pe_op {op : Operator} {r : R2} (ho : OpR X (binaryOp op) r) (ha : PE X a ta) (hb : PE X b tb) : PE X (.BinOp a op b pos) (tOp r ta tb) := by
  intro pins s σ H Q I h
  exact wpAny_BinOp (binT ha hb I h fun v u s2 x y H2 I2 rx ry q => ho pins s2 σ H2 x y v u Q I2 rx ry q)
theorem pe_un {op : UnaryOp} {r : V → Hp → VK → Prop} (ho : UnR X (unaryOp op) r) (ha : PE X a ta) : PE X (.UnaryOp op a pos) (tUn r ta) := by
  intro pins s σ H Q I h
  exact UnaryOp_ (thn (ha pins s σ H _ I h) fun v s1 ⟨x, H1, I1, r1, q1⟩ => ho pins s1 σ H1 x v Q I1 r1 q1)
theorem opI {f : Value → Value → Sem Value} {C : Int → Int → Prop} {g : Int → Int → Int}
    (rule : ∀ (i j : Int) (t u : Tok) (s : Shared) (Q : Value → Shared → Prop) (E : Value → Shared → Prop), C i j → Q (.int (g i j) s.toks) { s with toks := s.toks + 1 } → wpAny (model X.prog X.w) X.A (f (.int i t) (.int j u)) Q E s) :
    OpR X f (rI C fun i j => .int (g i j)) := by
  intro pins s σ H x y v u Q I rx ry h
  obtain ⟨i, j, rfl, rfl, hc, q⟩ := h
  obtain ⟨t, rfl⟩ := rx
  obtain ⟨t', rfl⟩ := ry
  exact rule i j t t' s _ _ hc ⟨.int (g i j), H, I.tok _, ⟨_, rfl⟩, q⟩
theorem opI0 {f : Value → Value → Sem Value} {g : Int → Int → Int}
    (rule : ∀ (i j : Int) (t u : Tok) (s : Shared) (Q : Value → Shared → Prop) (E : Value → Shared → Prop), Q (.int (g i j) s.toks) { s with toks := s.toks + 1 } → wpAny (model X.prog X.w) X.A (f (.int i t) (.int j u)) Q E s) :
    OpR X f (rI0 fun i j => .int (g i j)) := by
  intro pins s σ H x y v u Q I rx ry h
  obtain ⟨i, j, rfl, rfl, q⟩ := h
  obtain ⟨t, rfl⟩ := rx
  obtain ⟨t', rfl⟩ := ry
  exact rule i j t t' s _ _ ⟨.int (g i j), H, I.tok _, ⟨_, rfl⟩, q⟩
theorem opB0 {f : Value → Value → Sem Value} {g : Int → Int → Bool}
    (rule : ∀ (i j : Int) (t u : Tok) (s : Shared) (Q : Value → Shared → Prop) (E : Value → Shared → Prop), Q (.bool (g i j)) s → wpAny (model X.prog X.w) X.A (f (.int i t) (.int j u)) Q E s) :
    OpR X f (rI0 fun i j => .bl (g i j)) := by
  intro pins s σ H x y v u Q I rx ry h
  obtain ⟨i, j, rfl, rfl, q⟩ := h
  obtain ⟨t, rfl⟩ := rx
  obtain ⟨t', rfl⟩ := ry
  exact rule i j t t' s _ _ ⟨.bl (g i j), H, I, rfl, q⟩
noncomputable def CDiv (i j : Int) : Prop := 0 < j ∧ j < 1073741824
noncomputable def CPow (i j : Int) : Prop := 0 ≤ j ∧ j ≤ 1000000 ∧ i.natAbs < 2 ^ 64
noncomputable def CMul (i j : Int) : Prop := (-(2 ^ 64) < i ∧ i < 2 ^ 64) ∨ (-(2 ^ 64) < j ∧ j < 2 ^ 64)
theorem CMul.ok {i j : Int} (h : CMul i j) : IntMulOk i j := by
  rcases h with ⟨h1, h2⟩ | ⟨h1, h2⟩
  · exact .of_left (intBits_le_64 h1 h2)
  · exact .of_right (intBits_le_64 h1 h2)
theorem op_add : OpR X (binaryOp .Add) (rI0 fun i j => .int (i + j)) := opI0 fun _ _ _ _ _ _ _ q => add_int q
theorem op_sub : OpR X (binaryOp .Sub) (rI0 fun i j => .int (i - j)) := opI0 fun _ _ _ _ _ _ _ q => sub_int q
theorem op_mul : OpR X (binaryOp .Mult) (rI CMul fun i j => .int (i * j)) := opI fun _ _ _ _ _ _ _ hc q => mul_int q hc.ok
theorem op_fdiv : OpR X (binaryOp .FloorDiv) (rI CDiv fun i j => .int (i / j)) := opI fun i j _ _ _ _ _ hc q => by
  have h1 : (0 : Int) < j := hc.1
  have h2 : j < 1073741824 := hc.2
  exact floordiv_int (by omega) (by rw [Int.fdiv_eq_ediv_of_nonneg i (by omega)]; exact q) (.inl (PyProof.noPylong_small (by omega)))
theorem op_mod : OpR X (binaryOp .Mod) (rI (fun _ j => 0 < j) fun i j => .int (i % j)) := opI fun i j _ _ _ _ _ hc q => by
  have h1 : (0 : Int) < j := hc
  exact mod_int' (by omega) (by rw [Int.fmod_eq_emod_of_nonneg i (by omega)]; exact q)
theorem op_pow : OpR X (binaryOp .Pow) (rI CPow fun i j => .int (i ^ j.toNat)) := opI fun _ _ _ _ _ _ _ hc q => pow_int_small hc.1 hc.2.1 hc.2.2 q
theorem unI {f : Value → Sem Value} {g : Int → Int}
    (rule : ∀ (i : Int) (t : Tok) (s : Shared) (Q : Value → Shared → Prop) (E : Value → Shared → Prop), Q (.int (g i) s.toks) { s with toks := s.toks + 1 } → wpAny (model X.prog X.w) X.A (f (.int i t)) Q E s) :
    UnR X f (rU fun i => .int (g i)) := by
  intro pins s σ H x v Q I rx h
  obtain ⟨i, rfl, q⟩ := h
  obtain ⟨t, rfl⟩ := rx
  exact rule i t s _ _ ⟨.int (g i), H, I.tok _, ⟨_, rfl⟩, q⟩
theorem un_neg : UnR X (unaryOp .USub) (rU fun i => .int (-i)) := unI fun _ _ _ _ _ q => neg_int q
end
section
variable {X : Cx} {a b c : Expr} {ta tb tc : TE} {pos : Pos}
theorem fin_bl {pins : List (Addr × Obj)} {σ : St} {H : Hp} {s : Shared} {Q : VK} {k k' : Bool} (I : Inv X pins σ H s) (q : Q (.bl k) H) (e : k = k') : EP X pins σ Q (.bool k') s := by
  subst e
  exact ⟨.bl k, H, I, rfl, q⟩
theorem op_lt : OpR X (compareOp .Lt) (rI0 fun i j => .bl (decide (i < j))) := opB0 fun _ _ _ _ _ _ _ q => lt_int q
theorem op_le : OpR X (compareOp .LtE) (rI0 fun i j => .bl (decide (i ≤ j))) := opB0 fun _ _ _ _ _ _ _ q => le_int q
theorem op_gt : OpR X (compareOp .Gt) (rI0 fun i j => .bl (decide (j < i))) := opB0 fun _ _ _ _ _ _ _ q => gt_int q
theorem op_ge : OpR X (compareOp .GtE) (rI0 fun i j => .bl (decide (j ≤ i))) := opB0 fun _ _ _ _ _ _ _ q => ge_int q
theorem op_in_str : OpR X (compareOp .In) (fun x y H Q => ∃ i j, x = .str i ∧ y = .str j ∧ Q (.bl (!(Builtin.Str.occurrences j i 0 j.length 1).isEmpty)) H) := by
  intro pins s σ H x y v u Q I rx ry h
  obtain ⟨i, j, rfl, rfl, q⟩ := h
  obtain ⟨t, rfl⟩ := rx
  obtain ⟨t', rfl⟩ := ry
  exact in_str (fin_bl I q rfl)
theorem op_notin_str : OpR X (compareOp .NotIn) (fun x y H Q => ∃ i j, x = .str i ∧ y = .str j ∧ Q (.bl (!(!(Builtin.Str.occurrences j i 0 j.length 1).isEmpty))) H) := by
  intro pins s σ H x y v u Q I rx ry h
  obtain ⟨i, j, rfl, rfl, q⟩ := h
  obtain ⟨t, rfl⟩ := rx
  obtain ⟨t', rfl⟩ := ry
  exact notIn_str (fin_bl I q rfl)
theorem nomark (b : Expr) {op : CmpOp} (h : op ≠ .In := by decide) (h2 : op ≠ .NotIn := by decide) : behindInMarks op b = false := by
  have e1 : (op == CmpOp.In) = false := by cases op <;> first | rfl | exact absurd rfl h
  have e2 : (op == CmpOp.NotIn) = false := by cases op <;> first | rfl | exact absurd rfl h2
  cases b <;> simp [behindInMarks, e1, e2]
theorem pe_cmpR {op : CmpOp} {r : R2} (ho : OpR X (compareOp op) r) (ha : PE X a ta) (hb : PE X b tb) (hm : behindInMarks op b = false) : PE X (.Compare a [op] [b] pos) (tOp r ta tb) := by
  intro pins s σ H Q I h
  exact wpAny_Compare1 (binT ha hb I h fun v u s2 x y H2 I2 rx ry q => ho pins s2 σ H2 x y v u Q I2 rx ry q) hm
noncomputable def tTest (t : TE) : TT := fun σ H Q => t σ H fun x H' => ∃ k, x = .bl k ∧ Q k H'
theorem pt_cmpR {op : CmpOp} {r : R2} (ho : OpR X (compareOp op) r) (ha : PE X a ta) (hb : PE X b tb) (hm : behindInMarks op b = false) : PT X (.Compare a [op] [b] pos) (tTest (tOp r ta tb)) := by
  intro pins s σ H Q I h
  refine wpAny_isTrue_Compare1 (thn (ha pins s σ H _ I h) fun v s1 ⟨x, H1, I1, r1, q1⟩ => thn (hb pins s1 σ H1 _ I1 q1) fun u s2 ⟨y, H2, I2, r2, q2⟩ =>
    thn (ho pins s2 σ H2 x y v u _ I2 r1 r2 q2) fun c s3 ⟨z, H3, I3, r3, k, e, q3⟩ => ?_) hm
  subst e
  cases r3
  exact wpAny_truthy_bool ⟨H3, I3, q3⟩
noncomputable def TruV (K : PySem.W.Frag) (x : V) (H : Hp) (k : Bool) : Prop :=
  match x with
  | .non => k = false
  | .bl b => k = b
  | .int i => k = (i != 0)
  | .str y => y.length ≤ sizeLine ∧ k = ((y.length : Int) != 0)
  | .byt y => y.size ≤ sizeLine ∧ k = ((y.size : Int) != 0)
  | .ref p => (∃ xs, SqL K H p xs ∧ k = !xs.isEmpty) ∨ (∃ xs, SqT K H p xs ∧ k = !xs.isEmpty) ∨ ∃ kvs, H p = some (.dK kvs) ∧ k = !kvs.isEmpty
  | _ => False
theorem isEmpty_kv {κ : Type} {kvs : List (κ × V)} {vs : List (κ × Value)} (r : KV kvs vs) : (!vs.isEmpty) = !kvs.isEmpty := by
  cases r <;> rfl
theorem isEmpty_of {xs : List V} {its : List Value} (r : Vals xs its) : (!its.toArray.isEmpty) = !xs.isEmpty := by
  cases r <;> simp
theorem line63 : (sizeLine : Nat) < 2 ^ 63 := by rw [sizeLine_eq]; decide
theorem tru_ok : TruR X (fun x H Q => ∃ k, TruV X.K x H k ∧ Q k H) := by
  intro pins s σ H x v Q I rx h
  obtain ⟨k, e, q⟩ := h
  have hl := line63
  have hs : sizeLine = 16777216 := sizeLine_eq
  cases x with
  | non =>
    cases rx
    have e' : k = false := e
    subst e'
    exact truthy_none ⟨H, I, q⟩
  | bl b =>
    cases rx
    have e' : k = b := e
    subst e'
    exact wpAny_truthy_bool ⟨H, I, q⟩
  | int i =>
    obtain ⟨t, rfl⟩ := rx
    have e' : k = (i != 0) := e
    subst e'
    exact PySem.P.truthy_int ⟨H, I, q⟩
  | str y =>
    obtain ⟨t, rfl⟩ := rx
    obtain ⟨hy, e'⟩ : y.length ≤ sizeLine ∧ k = ((y.length : Int) != 0) := e
    subst e'
    exact PySem.P.truthy_str (by omega) ⟨H, I.tok _, q⟩
  | byt y =>
    obtain ⟨t, rfl⟩ := rx
    obtain ⟨hy, e'⟩ : y.size ≤ sizeLine ∧ k = ((y.size : Int) != 0) := e
    subst e'
    exact PySem.W.truthy_bytes (by omega) ⟨H, I.tok _, q⟩
  | ref p =>
    cases rx
    have e' : (∃ xs, SqL X.K H p xs ∧ k = !xs.isEmpty) ∨ (∃ xs, SqT X.K H p xs ∧ k = !xs.isEmpty) ∨ ∃ kvs, H p = some (.dK kvs) ∧ k = !kvs.isEmpty := e
    rcases e' with ⟨xs, hx, e'⟩ | ⟨xs, hx, e'⟩ | ⟨kvs, hx, e'⟩
    · subst e'
      obtain ⟨its, r, pl, hz⟩ := I.list hx
      have hlen := r.length
      exact wpAny_truthy_list pl.isList (by simp only [List.size_toArray]; omega) ⟨H, I.tok _, by rw [isEmpty_of r]; exact q⟩
    · subst e'
      obtain ⟨its, r, pl, hz⟩ := I.tuple hx
      have hlen := r.length
      exact truthy_tuple pl (by simp only [List.size_toArray]; omega) ⟨H, I.tok _, by rw [isEmpty_of r]; exact q⟩
    · subst e'
      obtain ⟨hz, hS, vs, r, m⟩ : kvs.length ≤ sizeLine ∧ (p == sysModules) = false ∧ ∃ vs, KV kvs vs ∧ s.heap.DictOf (mixKind X.prog X.w) p vs := I.hok p _ hx
      have hlen : kvs.length = vs.length := Paired.length r
      exact wpAny_truthy_dict hS m (by omega) ⟨H, I.tok _, by rw [isEmpty_kv r]; exact q⟩
  | _ => exact (show False from e).elim
theorem pt_truth (ha : PE X a ta) (he : ∀ whole, isTrue a X.env whole = (do let v ← whole; standAt a.pos; holding [v] (truthy v))) :
    PT X a (fun σ H Q => ta σ H fun x H' => ∃ k, TruV X.K x H' k ∧ Q k H') := by
  intro pins s σ H Q I h
  exact isTrue_plain (thn (ha pins s σ H _ I h) fun v s1 ⟨x, H1, I1, r1, q1⟩ => tru_ok pins s1 σ H1 x v Q I1 r1 q1) (he _)
theorem op_add_str : OpR X (binaryOp .Add) (fun x y H Q => ∃ i j, x = .str i ∧ y = .str j ∧ i.length + j.length ≤ sizeLine ∧ Q (.str (i ++ j)) H) := by
  intro pins s σ H x y v u Q I rx ry h
  obtain ⟨i, j, rfl, rfl, hz, q⟩ := h
  obtain ⟨t, rfl⟩ := rx
  obtain ⟨t', rfl⟩ := ry
  exact add_str (fun t' tk => ⟨.str (i ++ j), H, I.tok _, ⟨_, rfl⟩, q⟩) hz
theorem vals1 {x : V} {us : List Value} (r : Vals [x] us) : ∃ u, us = [u] ∧ RelV x u := by
  cases r with
  | cons r1 r2 => cases r2; exact ⟨_, rfl, r1⟩
theorem vals2 {x y : V} {us : List Value} (r : Vals [x, y] us) : ∃ u w', us = [u, w'] ∧ RelV x u ∧ RelV y w' := by
  cases r with
  | cons r1 r2 =>
    cases r2 with
    | cons r3 r4 => cases r4; exact ⟨_, _, rfl, r1, r3⟩
theorem call_abs : CallR X (.builtin "abs") (fun xs H Q => ∃ i, xs = [.int i] ∧ Q (.int (if i < 0 then -i else i)) H) := by
  intro pins s σ H xs us Q I r h
  obtain ⟨i, rfl, q⟩ := h
  obtain ⟨u, rfl, t, rfl⟩ := vals1 r
  exact call_abs_int fun u tk => ⟨.int (if i < 0 then -i else i), H, I.tok _, ⟨_, rfl⟩, q⟩
theorem call_max2 (hc : X.calm = true) : CallR X (.builtin "max") (fun xs H Q => ∃ i j, xs = [.int i, .int j] ∧ Q (.int (if j > i then j else i)) H) := by
  intro pins s σ H xs us Q I r h
  obtain ⟨i, j, rfl, q⟩ := h
  obtain ⟨u, w', rfl, ⟨t, rfl⟩, ⟨t', rfl⟩⟩ := vals2 r
  refine max_two_ints (I.ok.hd hc) fun h' tk k => ⟨_, H, I.kept k, ?_, q⟩
  by_cases hj : j > i
  · rw [if_pos hj, if_pos hj]; exact ⟨_, rfl⟩
  · rw [if_neg hj, if_neg hj]; exact ⟨_, rfl⟩
theorem call_min2 (hc : X.calm = true) : CallR X (.builtin "min") (fun xs H Q => ∃ i j, xs = [.int i, .int j] ∧ Q (.int (if j < i then j else i)) H) := by
  intro pins s σ H xs us Q I r h
  obtain ⟨i, j, rfl, q⟩ := h
  obtain ⟨u, w', rfl, ⟨t, rfl⟩, ⟨t', rfl⟩⟩ := vals2 r
  refine min_two_ints (I.ok.hd hc) fun h' tk k => ⟨_, H, I.kept k, ?_, q⟩
  by_cases hj : j < i
  · rw [if_pos hj, if_pos hj]; exact ⟨_, rfl⟩
  · rw [if_neg hj, if_neg hj]; exact ⟨_, rfl⟩
theorem call_int1 : CallR X (.type "int") (fun xs H Q => (∃ i, xs = [.int i] ∧ Q (.int i) H) ∨ ∃ k, xs = [.bl k] ∧ Q (.int (if k then 1 else 0)) H) := by
  intro pins s σ H xs us Q I r h
  rcases h with ⟨i, rfl, q⟩ | ⟨k, rfl, q⟩
  · obtain ⟨u, rfl, t, rfl⟩ := vals1 r
    exact call_int_int ⟨.int i, H, I, ⟨_, rfl⟩, q⟩
  · obtain ⟨u, rfl, r1⟩ := vals1 r
    cases r1
    exact call_int_bool ⟨.int (if k then 1 else 0), H, I.tok _, ⟨_, rfl⟩, q⟩
theorem call_str_int : CallR X (.type "str") (fun xs H Q => ∃ i, xs = [.int i] ∧ i.natAbs.log2 < 1920 ∧ Q (.str (toString i)) H) := by
  intro pins s σ H xs us Q I r h
  obtain ⟨i, rfl, hz, q⟩ := h
  obtain ⟨u, rfl, t, rfl⟩ := vals1 r
  exact PySem.P.str_of_int hz ⟨.str _, H, I.tok _, ⟨_, rfl⟩, q⟩
end
end L2
namespace L2
open PySem PySem.Spec PyProof.Rows
structure Room (k : Nat) (A : Around) : Prop where
  hd : A.handled = none
  dp : A.depth + 3 * k + 5 < recursionLimit
  un : A.units + 16 * k + 200 < cLine
  gd : A.guards = some []
theorem Room.mono {j k : Nat} {A : Around} (r : Room k A) (h : j ≤ k) : Room j A := ⟨r.hd, by have := r.dp; omega, by have := r.un; omega, r.gd⟩
theorem Room.deeper {k : Nat} {A : Around} (r : Room (k + 1) A) (env : Env) : Room k (A.deeper env) :=
  ⟨r.hd, by have := r.dp; show A.depth + 1 + 3 * k + 5 < _; omega, by have := r.un; show A.units + 3 + 16 * k + 200 < _; omega, r.gd⟩
theorem Room.depth {k : Nat} {A : Around} (r : Room k A) : A.depth < recursionLimit := by have := r.dp; omega
theorem Room.units {k : Nat} {A : Around} (r : Room k A) : A.units + 64 < cLine := by have := r.un; omega
noncomputable def tNil : TA := fun _ H Q => Q [] H
noncomputable def tCons (ta : TE) (tr : TA) : TA := fun σ H Q => ta σ H fun x H1 => tr σ H1 fun xs H2 => Q (x :: xs) H2
section
variable {X : Cx} {e : Expr} {es : List Expr} {te : TE} {t : TA} {pos : Pos}
theorem pa_nil : PA X [] tNil := fun _ _ _ _ H Q I h => Calls.spliced_nil ⟨[], H, I, .nil, h⟩
theorem pa_cons (ha : PE X e te) (hr : PA X es t) (hs : starEach (e :: es) X.env = (false, eval e X.env) :: starEach es X.env := by rfl) : PA X (e :: es) (tCons te t) := by
  intro pos pins s σ H Q I h
  rw [hs]
  show wpAny _ _ (spliced ((false, eval e X.env) :: backTo pos (starEach es X.env))) _ _ s
  refine Calls.spliced_cons (thn (ha pins s σ H _ I h) fun u s1 zz => ?_)
  obtain ⟨x, H1, I1, r1, q1⟩ := zz
  exact thn (hr pos pins s1 σ H1 _ I1 q1) fun us s2 ⟨xs, H2, I2, r2, q2⟩ => ⟨x :: xs, H2, I2, .cons r1 r2, q2⟩
noncomputable def tTup (t : TA) : TE := fun σ H Q => t σ H fun xs H1 => xs.length ≤ sizeLine ∧ ∀ p, H1 p = none → Q (.ref p) (upd H1 p (.tup xs))
noncomputable def tLst (t : TA) : TE := fun σ H Q => t σ H fun xs H1 => xs.length ≤ sizeLine ∧ ∀ p, H1 p = none → Q (.ref p) (upd H1 p (.lst xs))
theorem pe_tup {x1} (h : PA X es t) : PE X (.Tuple es x1 pos) (tTup t) := by
  intro pins s σ H Q I hq
  refine wpAny_Tuple_spliced (thn (h pos pins s σ H _ I hq) fun us s1 ⟨xs, H1, I1, r, z, q⟩ => ⟨by rw [← r.length]; exact z, ?_⟩)
  have hf : H1 s1.heap.objs.size = none := I1.hok.fresh (Nat.le_refl _)
  refine ⟨.ref s1.heap.objs.size, upd H1 s1.heap.objs.size (.tup xs), I1.laid (t' := s1.toks) (fun b u e => Heap.get?_push_of_some _ e) (Nat.le_refl _) ?_, rfl, q _ hf⟩
  exact ⟨z, us, r, ⟨_, Heap.get?_push_size _ rfl, rfl, ⟨_, rfl⟩, rfl⟩⟩
theorem pe_lst (h : PA X es t) : PE X (.List es pos) (tLst t) := by
  intro pins s σ H Q I hq
  refine wpAny_List_spliced (thn (h pos pins s σ H _ I hq) fun us s1 ⟨xs, H1, I1, r, z, q⟩ => ⟨by rw [← r.length]; exact z, ?_⟩)
  have hf : H1 s1.heap.objs.size = none := I1.hok.fresh (Nat.le_refl _)
  refine ⟨.ref s1.heap.objs.size, upd H1 s1.heap.objs.size (.lst xs), I1.laid (t' := s1.toks) (fun b u e => Heap.get?_push_of_some _ e) (Nat.le_refl _) ?_, rfl, q _ hf⟩
  exact ⟨z, us, 0, r, Heap.get?_push_size _ rfl⟩
end
noncomputable abbrev Sp := List V → Hp → VK → XK → Prop
noncomputable abbrev CXT := List Env → Hp → Shared → XK → Value → Shared → Prop
structure Env0 (P : Program) (w : World) (K : PySem.W.Frag) (mg : Str → Option Value) (base : Heap) (A : Around) (outer : List Env) (s : Shared) (H : Hp) : Prop where
  frames : A.frames = some outer
  mod : Mod K mg base
  bs : ∀ b o, base.get? b = some o → s.heap.get? b = some o ∧ H b = none
  bsz : base.objs.size ≤ s.heap.objs.size
  funs : s.heap.FunFrames base outer
  frf : ∀ b ∈ frs outer, H b = none
  hok : HOk P w H s.heap
  bare : AllBare s.gens
noncomputable def CE (outer : List Env) (P : Program) (w : World) (H : Hp) (s : Shared) (Q : VK) (u : Value) (s' : Shared) : Prop :=
  ∃ v H', s'.os = s.os ∧ AllBare s'.gens ∧ Un (frs outer) [] H H' s.heap s'.heap ∧ HOk P w H' s'.heap ∧ RelV v u ∧ Q v H'
noncomputable def CR (CX : CXT) (outer : List Env) (P : Program) (w : World) (H : Hp) (s : Shared) (Q : VK) (E : XK) (r : Result) (s' : Shared) : Prop :=
  match r with
  | .ok (.ret u) => CE outer P w H s Q u s'
  | .ok _ => False
  | .error e => CX outer H s E e s'
structure FnOk (P : Program) (w : World) (K : PySem.W.Frag) (mg : Str → Option Value) (base : Heap) (CX : CXT) (k : Nat) (f : Addr) (fd : FuncData) (ps : List Str) (sp : Sp) : Prop where
  len : ∀ vs H Q E, sp vs H Q E → vs.length = ps.length
  run : ∀ (A : Around) (outer : List Env) (s : Shared) (H : Hp) (args : Args) (us : List Value) (vs : List V) (Q : VK) (E : XK), Room k A → Env0 P w K mg base A outer s H → BindsTo s fd args (ps.zip us) → Vals vs us → sp vs H Q E →
    codeAny (model P w) A (.call (.ref f) args) (CR CX outer P w H s Q E) s
section
variable {X : Cx} {pins : List (Addr × Obj)} {σ : St} {H : Hp} {s s' : Shared}
theorem Inv.env0 (I : Inv X pins σ H s) : Env0 X.prog X.w X.K X.mg X.base X.A X.stack s H :=
  ⟨I.ok.frames, I.ok.mod, I.bs, Nat.le_trans I.ok.bsz I.sz, I.stack, I.stkFree, I.hok, I.bare⟩
theorem Inv.after {Q : VK} {u : Value} (I : Inv X pins σ H s) (h : CE X.stack X.prog X.w H s Q u s') : EP X pins σ Q u s' := by
  obtain ⟨v, H', os, bare, un, hok, r, q⟩ := h
  obtain ⟨hh, g, d, t, os'⟩ := s'
  obtain rfl : os' = s.os := os
  exact ⟨v, H', I.call (h' := hh) (g' := g) (d' := d) (t' := t) (ch := []) un hok bare (fun b z => absurd z (by simp)), r, q⟩
end
noncomputable def tCall (sp : Sp) (dvs : List V) (E : XK) (t : TA) : TE := fun σ H Q => t σ H fun vs H1 => sp (vs ++ dvs) H1 Q E
noncomputable def Binds (K : PySem.W.Frag) (fd : FuncData) (ps : List Str) (ds : List Value) : Prop :=
  ∀ (s : Shared) (us : List Value), K.In s.heap → (us ++ ds).length = ps.length → BindsTo s fd ⟨us, []⟩ (ps.zip (us ++ ds))
theorem Binds.all {K : PySem.W.Frag} {fd : FuncData} {ps : List Str} (h : ∀ us : List Value, us.length = ps.length → bindArgs fd ⟨us, []⟩ = pure (ps.zip us)) : Binds K fd ps [] := fun s us _ hl => by
  rw [List.append_nil] at hl ⊢
  exact .of_eq (h us hl)
noncomputable def Passes (CX : CXT) (X : Cx) (E : XK) : Prop := ∀ (pins : List (Addr × Obj)) (σ : St) (H : Hp) (s : Shared) (e : Value) (s' : Shared), Inv X pins σ H s → CX X.stack H s E e s' → X.xe e s'
section
variable {X : Cx} {CX : CXT} {k : Nat} {f C : Addr} {fd : FuncData} {ps : List Str} {sp : Sp} {dvs : List V} {ds : List Value} {E : XK} {x m : Str} {p pos apos : Pos} {e o : Expr} {es : List Expr} {ta : TE} {t : TA}
theorem run_fn {pins : List (Addr × Obj)} {σ : St} {H : Hp} {s : Shared} {Q : VK} {us : List Value} {vs : List V} (F : FnOk X.prog X.w X.K X.mg X.base CX k f fd ps sp) (hr : Room k X.A) (hb : Binds X.K fd ps ds) (hd : Vals dvs ds) (hx : Passes CX X E)
    (I : Inv X pins σ H s) (r : Vals vs us) (h : sp (vs ++ dvs) H Q E) : wpAny (model X.prog X.w) X.A (call (.ref f) us) (EP X pins σ Q) X.xe s := by
  have r2 : Vals (vs ++ dvs) (us ++ ds) := r.append hd
  have hl : (us ++ ds).length = ps.length := by rw [← r2.length]; exact F.len _ _ _ _ h
  refine wpAny_call (codeAny_mono (F.run X.A X.stack s H ⟨us, []⟩ (us ++ ds) (vs ++ dvs) Q E hr I.env0 (hb s us I.kIn hl) r2 h) fun r s' hq => ?_)
  cases r with
  | error e => exact hx pins σ H s e s' I hq
  | ok fl =>
    cases fl with
    | ret u => exact I.after hq
    | next => exact False.elim hq
    | brk => exact False.elim hq
    | cont => exact False.elim hq
theorem pe_call (F : FnOk X.prog X.w X.K X.mg X.base CX k f fd ps sp) (hr : Room k X.A) (hg : Gl X x) (hm : X.mg x = some (.ref f)) (hk : PySem.W.keepIn X.K (.ref f) = true) (hb : Binds X.K fd ps ds) (hd : Vals dvs ds) (hx : Passes CX X E)
    (ha : PA X (e :: es) t) (hdb : (x == ("__debug__" : Str)) = false := by decide) (he : starEach (e :: es) X.env = (false, eval e X.env) :: starEach es X.env := by rfl) (hpl : (backTo pos (starEach es X.env)).any (·.1) = false := by rfl) :
    PE X (.Call (.Name x p) (e :: es) [] pos) (tCall sp dvs E t) := by
  intro pins s σ H Q I h
  refine wpAny_Call_Name_kw (ld_glob I hg hm ?_ hdb)
  refine PySem.W.callWith_K (h₀ := X.base) I.ok.mod.kin hk (thn (ha pos pins s σ H _ I h) fun us s1 ⟨vs, H1, I1, r, q⟩ => ⟨I1.kIn, ?_⟩) he hpl
  exact run_fn F hr hb hd hx I1 r q
end
structure FnScope (N P : List Str) (sc : Scope) : Prop where
  kind : sc.kind = .function
  co : sc.isCoroutine = false
  gen : sc.isGenerator = false
  nd : N.Nodup
  pre : N.take P.length = P
  par : ∀ x ∈ P, sc.names.lookup x = some .local ∨ sc.names.lookup x = some .cell
  nofree : ∀ y ∈ sc.names, y.2 ≠ .free
theorem bindL_out {kindOf : Str → Option NameKind} {x : Str} : ∀ {binds : List (Str × Value)} {m : Str → Option Value}, (∀ v, (x, v) ∉ binds) → bindL kindOf binds m x = m x
  | [], _, _ => rfl
  | (n, v) :: r, m, h => by
    unfold bindL
    rw [bindL_out fun w hw => h w (List.mem_cons_of_mem _ hw)]
    split
    · have : x ≠ n := by rintro rfl; exact h v List.mem_cons_self
      simp [this]
    · rfl
theorem bindC_out {kindOf : Str → Option NameKind} {x : Str} : ∀ {binds : List (Str × Value)} {m : Str → Option Value}, (∀ v, (x, v) ∉ binds) → bindC kindOf binds m x = m x
  | [], _, _ => rfl
  | (n, v) :: r, m, h => by
    unfold bindC
    rw [bindC_out fun w hw => h w (List.mem_cons_of_mem _ hw)]
    split
    · rfl
    · have : x ≠ n := by rintro rfl; exact h v List.mem_cons_self
      simp [this]
theorem bindL_get {kindOf : Str → Option NameKind} {x : Str} {v : Value} : ∀ {P : List Str} {vs : List Value} {i : Nat} {m : Str → Option Value}, P.Nodup → P[i]? = some x → vs[i]? = some v → kindOf x = some .local →
    bindL kindOf (P.zip vs) m x = some v
  | [], _, _, _, _, h, _, _ => by simp at h
  | _ :: _, [], _, _, _, _, h, _ => by simp at h
  | p :: P, w :: vs, 0, m, nd, h1, h2, hk => by
    simp at h1 h2; subst h1; subst h2
    show bindL kindOf ((p, w) :: P.zip vs) m p = _
    unfold bindL
    rw [bindL_out fun v hv => (List.nodup_cons.mp nd).1 (List.of_mem_zip hv).1, if_pos hk]
    simp
  | p :: P, w :: vs, i + 1, m, nd, h1, h2, hk => by
    show bindL kindOf ((p, w) :: P.zip vs) m x = _
    unfold bindL
    exact bindL_get (i := i) (List.nodup_cons.mp nd).2 (by simpa using h1) (by simpa using h2) hk
theorem bindC_get {kindOf : Str → Option NameKind} {x : Str} {v : Value} : ∀ {P : List Str} {vs : List Value} {i : Nat} {m : Str → Option Value}, P.Nodup → P[i]? = some x → vs[i]? = some v → kindOf x ≠ some .local →
    bindC kindOf (P.zip vs) m x = some v
  | [], _, _, _, _, h, _, _ => by simp at h
  | _ :: _, [], _, _, _, _, h, _ => by simp at h
  | p :: P, w :: vs, 0, m, nd, h1, h2, hk => by
    simp at h1 h2; subst h1; subst h2
    show bindC kindOf ((p, w) :: P.zip vs) m p = _
    unfold bindC
    rw [bindC_out fun v hv => (List.nodup_cons.mp nd).1 (List.of_mem_zip hv).1, if_neg hk]
    simp
  | p :: P, w :: vs, i + 1, m, nd, h1, h2, hk => by
    show bindC kindOf ((p, w) :: P.zip vs) m x = _
    unfold bindC
    exact bindC_get (i := i) (List.nodup_cons.mp nd).2 (by simpa using h1) (by simpa using h2) hk
noncomputable def start (N : List Str) (vs : List V) : St := vs.map some ++ List.replicate (N.length - vs.length) none
noncomputable def cxOf (CX : CXT) (P : Program) (w : World) (K : PySem.W.Frag) (mg : Str → Option Value) (base : Heap) (N : List Str) (qual : Str) (scope : Scope) (f : Addr) (cd : Value) (A : Around) (outer : List Env) (s : Shared) (H : Hp) (E : XK) : Cx where
  prog := P
  w := w
  K := K
  mg := mg
  base := base
  A := A.deeper (envOfC qual scope s.heap.objs.size f cd)
  N := N
  s₀ := s
  H₀ := H
  env := envOfC qual scope s.heap.objs.size f cd
  outer := outer
  stack := envOfC qual scope s.heap.objs.size f cd :: outer
  ex := []
  calm := true
  fn := fun _ => true
  pn := []
  xe := fun e s' => wpAny (model P w) (A.deeper (envOfC qual scope s.heap.objs.size f cd)) (leaving (envOfC qual scope s.heap.objs.size f cd) e) (fun _ s'' => CX outer H s E e s'') (fun e' s'' => CX outer H s E e' s'') s'
theorem cell_has {sc : Scope} {n : Nat} {x : Str} (h : sc.names.lookup x = some .cell) : ∃ c, (cellsFrom n sc.names []).lookup x = some c := by
  have q := PySem.W.cellsFrom_some sc.names n [] (.inl h)
  exact Option.isSome_iff_exists.mp q
theorem inv_start {CX : CXT} {P : Program} {w : World} {K : PySem.W.Frag} {mg : Str → Option Value} {base : Heap} {N ps : List Str} {qual : Str} {scope : Scope} {f : Addr} {cd : Value} {A : Around} {outer : List Env} {s s1 : Shared} {H : Hp} {E : XK} {us : List Value} {vs : List V}
    (S : FnScope N ps scope) (hd : A.handled = none) (e0 : Env0 P w K mg base A outer s H) (hl : vs.length = ps.length) (r : Vals vs us)
    (x : InCallC s s.heap.objs.size (bindL (envOfC qual scope s.heap.objs.size f cd).kindOf (ps.zip us) fun _ => none) (cellsFrom (s.heap.objs.size + 1) scope.names []) (bindC (envOfC qual scope s.heap.objs.size f cd).kindOf (ps.zip us) fun _ => none) s1) :
    Inv (cxOf CX P w K mg base N qual scope f cd A outer s H E) [] (start N vs) H s1 := by
  have hpl : ps.length ≤ N.length := by have := congrArg List.length S.pre; rw [List.length_take] at this; omega
  obtain ⟨h1, tk, rfl, hk⟩ := x.done
  have noA : ∀ b : Addr, b ∉ (cxOf CX P w K mg base N qual scope f cd A outer s H E).ex := fun b z => absurd (show b ∈ ([] : List Addr) from z) (by simp)
  refine ⟨⟨e0.mod, S.kind, rfl, rfl, Nat.le_refl _, fun y z c h1 h2 => ?_, fun y hy => ?_, fun y c _ h => ?_, fun _ => hd, Around.frames_deeper e0.frames, .inr ⟨rfl, rfl⟩, fun b z => absurd z (noA b), e0.bs, e0.bsz, fun b _ _ => noA b, fun b z => absurd z (noA b), e0.funs, e0.frf⟩,
    rfl, e0.bare, Un.kept hk, ⟨_, x.toInCall.ns, fun i y v h1 h2 h3 => ?_⟩, fun y c h => ⟨_, x.cell y c h⟩, e0.hok.fresh (Nat.le_refl _), fun y c h => ?_, fun p hp => absurd (show p ∈ ([] : List (Addr × Obj)) from hp) (by simp), e0.hok.kept hk, ?_⟩
  · exact name_of_addr x.apart (PySem.mem_of_lookup h1) (PySem.mem_of_lookup h2)
  · have hy : scope.names.lookup y = some .cell ∨ scope.names.lookup y = some .free := hy
    rcases hy with hy | hy
    · exact cell_has hy
    · exact absurd rfl (S.nofree _ (PySem.mem_of_lookup hy))
  · exact Nat.le_of_lt (x.above y c (PySem.mem_of_lookup h))
  · have hi : i < vs.length := by
      unfold start at h2
      by_cases hi : i < vs.length
      · exact hi
      · rw [List.getElem?_append_right (by simpa using hi)] at h2
        rw [List.getElem?_replicate] at h2
        split at h2 <;> cases h2
    have ha : vs[i]? = some v := by
      unfold start at h2
      rw [List.getElem?_append_left (by simpa using hi), List.getElem?_map] at h2
      cases e : vs[i]? with
      | none => rw [e] at h2; cases h2
      | some a => rw [e] at h2; cases h2; rfl
    obtain ⟨u, hu, rv⟩ := r.get ha
    have hp : ps[i]? = some y := by
      rw [← S.pre, List.getElem?_take_of_lt (by omega)]; exact h1
    have ndP : ps.Nodup := by rw [← S.pre]; exact S.nd.sublist (List.take_sublist _ _)
    refine ⟨u, rv, ?_⟩
    rcases S.par y (List.mem_of_getElem? hp) with k | k
    · exact .inl ⟨k, bindL_get ndP hp hu k⟩
    · obtain ⟨c, e⟩ := cell_has (n := s.heap.objs.size + 1) k
      refine .inr ⟨.inl k, c, e, ?_⟩
      have q := x.cell y c e
      rw [bindC_get ndP hp hu (by show scope.names.lookup y ≠ _; rw [k]; decide)] at q
      exact q
  · exact e0.hok.fresh (Nat.le_of_lt (x.above y c (PySem.mem_of_lookup h)))
  · unfold start
    show _ = N.length
    rw [List.length_append, List.length_map, List.length_replicate]
    omega
theorem fn_of {CX : CXT} {P : Program} {w : World} {K : PySem.W.Frag} {mg : Str → Option Value} {base : Heap} {k : Nat} {f : Addr} {name qual : Str} {params : Arguments} {body : List Stmt} {scope : Scope} {dV kV doc pm cdv ct oc : Value} {an od : Option Addr}
    {osl : Array (Option Value)} {N ps : List Str} {sp : Sp} (lk : K.lookup f = some ⟨oc, od, .func (PySem.W.fnOf name qual params body scope dV kV doc pm an cdv ct), osl⟩) (hcd : PySem.W.codeIn K cdv qual = true) (S : FnScope N ps scope)
    (len : ∀ vs H Q E, sp vs H Q E → vs.length = ps.length)
    (hbody : ∀ (A : Around) (outer : List Env) (s : Shared) (H : Hp) (vs : List V) (Q : VK) (E : XK), Room k (A.deeper (envOfC qual scope s.heap.objs.size f cdv)) → sp vs H Q E →
      ∃ t, PSs (cxOf CX P w K mg base N qual scope f cdv A outer s H E) body t ∧ t { nx := fun _ H' => Q .non H', rt := Q } (start N vs) H) :
    FnOk P w K mg base CX (k + 1) f (PySem.W.fnOf name qual params body scope dV kV doc pm an cdv ct) ps sp := by
  refine ⟨len, fun A outer s H args us vs Q E hr e0 hb r hsp => ?_⟩
  have hl := len _ _ _ _ hsp
  have KX : K.In s.heap := e0.mod.kin.keeps fun b o e => (e0.bs b o e).1
  have lim : s.heap.NoLimit := e0.mod.nolimit.keeps fun b o e => (e0.bs b o e).1
  have hkind : ∀ y ∈ ps.zip us, scope.names.lookup y.1 = some .local ∨ (scope.names.lookup y.1 = some .cell ∧ ((cellsFrom (s.heap.objs.size + 1) scope.names []).lookup y.1).isSome = true) := fun ⟨n, v⟩ hy => by
    rcases S.par n (List.of_mem_zip hy).1 with q | q
    · exact .inl q
    · exact .inr ⟨q, PySem.W.cellsFrom_some _ _ _ (.inl q)⟩
  refine codeAny_call_function hr.depth (KX _ _ lk) rfl S.co S.gen rfl (PySem.W.codeRec_of KX hcd) (hb _ _ _ _ ?_)
  refine wpAny_newFunctionEnv_cells S.kind hkind fun env he s1 x => ?_
  subst he
  refine ⟨lim.keeps x.toInCall.keep, codeAny_func ?_⟩
  obtain ⟨t, ht, hq⟩ := hbody A outer s H vs Q E (hr.deeper _) hsp
  have I : Inv (cxOf CX P w K mg base N qual scope f cdv A outer s H E) [] (start N vs) H s1 := inv_start S hr.hd e0 hl r x
  refine wpAny_mono (ht [] s1 (start N vs) H _ I hq) (fun fl s' hs => ?_) fun e s' hs => hs
  have fin : ∀ {σ' : St} {H' : Hp} {v : V} {u : Value}, Inv (cxOf CX P w K mg base N qual scope f cdv A outer s H E) [] σ' H' s' → RelV v u → Q v H' → CE outer P w H s Q u s' :=
    fun {σ' H' v u} J rv q => ⟨v, H', J.os, J.bare, J.base, J.hok, rv, q⟩
  cases fl with
  | ret u =>
    obtain ⟨v, σ', H', J, rv, q⟩ := hs
    exact fin J rv q
  | next =>
    obtain ⟨σ', H', J, q⟩ := hs
    exact fin (v := V.non) (u := Value.none) J rfl q
  | brk =>
    obtain ⟨_, _, _, q⟩ := hs
    exact False.elim q
  | cont =>
    obtain ⟨_, _, _, q⟩ := hs
    exact False.elim q
end L2
namespace L2
open PySem PySem.Spec PyProof.Rows
section
variable {X : Cx} {x : Str} {p pos : Pos} {e : Expr} {es : List Expr} {t : TA} {id T : String} {r : List V → Hp → VK → Prop}
noncomputable def tCB (r : List V → Hp → VK → Prop) (t : TA) : TE := fun σ H Q => t σ H fun vs H1 => r vs H1 Q
theorem pe_callB (hc : CallR X (.builtin id) r) (hg : Gl X x) (hm : X.mg x = none) (hv : bootBuiltins x = some (.builtin id)) (ha : PA X (e :: es) t) (hn : x ≠ "__name__" := by decide) (hdb : (x == ("__debug__" : Str)) = false := by decide)
    (he : starEach (e :: es) X.env = (false, eval e X.env) :: starEach es X.env := by rfl) (hpl : (backTo pos (starEach es X.env)).any (·.1) = false := by rfl) : PE X (.Call (.Name x p) (e :: es) [] pos) (tCB r t) := by
  intro pins s σ H Q I h
  refine wpAny_Call_Name_kw (ld_blt I hg hm hv ?_ hn hdb)
  exact PyProof.Rows.callWith_builtin1 (thn (ha pos pins s σ H _ I h) fun us s1 ⟨vs, H1, I1, r1, q1⟩ => hc pins s1 σ H1 vs us Q I1 r1 q1) he hpl
theorem pe_callTy (hc : CallR X (.type T) r) (hg : Gl X x) (hm : X.mg x = none) (hv : bootBuiltins x = some (.type T)) (ha : PA X (e :: es) t) (hn : x ≠ "__name__" := by decide) (hdb : (x == ("__debug__" : Str)) = false := by decide)
    (he : starEach (e :: es) X.env = (false, eval e X.env) :: starEach es X.env := by rfl) (hpl : (backTo pos (starEach es X.env)).any (·.1) = false := by rfl) : PE X (.Call (.Name x p) (e :: es) [] pos) (tCB r t) := by
  intro pins s σ H Q I h
  refine wpAny_Call_Name_kw (ld_blt I hg hm hv ?_ hn hdb)
  exact PyProof.Rows.callWith_type1 (thn (ha pos pins s σ H _ I h) fun us s1 ⟨vs, H1, I1, r1, q1⟩ => hc pins s1 σ H1 vs us Q I1 r1 q1) he hpl
end
end L2
namespace HT
open PySem PyProof.Rows
section
variable {prog : Program} {w : World} {A : Around} {E : Value → Shared → Prop} {s : Shared}
theorem cat_tup {t b : Addr} {vs ws : List Value} {Q : Value → Shared → Prop} (ht : IsTup s.heap t vs.toArray) (hb : IsTup s.heap b ws.toArray) (hv : vs ≠ [])
    (h1 : ws = [] → Q (.ref t) s) (h2 : ws ≠ [] → Q (.ref s.heap.objs.size) { s with heap := s.heap.push { cls := .type "tuple", data := .seq (vs ++ ws).toArray } })
    (hsz : vs.length + ws.length ≤ sizeLine) : wpAny (model prog w) A (binaryOp .Add (.ref t) (.ref b)) Q E s := by
  obtain ⟨⟨cls, dd, data, sl⟩, ho, hc, n, hd⟩ := id ht
  obtain ⟨⟨cls2, dd2, data2, sl2⟩, ho2, hc2, n2, hd2⟩ := id hb
  simp only at hc hd hc2 hd2
  subst hc hd hc2 hd2
  have e : vs.toArray ++ ws.toArray = (vs ++ ws).toArray := by simp
  by_cases hw : ws = []
  · exact concat_meets ⟨_, ho, rfl⟩ ⟨_, ho2, rfl⟩ noFill_tuple_add seq_tuple_add PySem.F.slot_tuple_add PySem.F.entry_tuple_add (PySem.F.args_tuple_add_2 _ _)
      (tuple_addW1 t b vs.toArray ws.toArray n n2 dd dd2 sl sl2 (by simpa using hv) (by simp [hw])) ⟨ho, ho2, h1 hw⟩
  · refine concat_meets ⟨_, ho, rfl⟩ ⟨_, ho2, rfl⟩ noFill_tuple_add seq_tuple_add PySem.F.slot_tuple_add PySem.F.entry_tuple_add (PySem.F.args_tuple_add_2 _ _)
      (tuple_addW2 t b vs.toArray ws.toArray n n2 dd dd2 sl sl2 (by simpa using hv) (by simpa using hw) (by rw [List.size_toArray, List.size_toArray]; exact hsz)) ⟨ho, ho2, ?_⟩
    rw [e]
    exact h2 hw
noncomputable def sIx (n d : Nat) : Option Int → Nat
  | none => d
  | some v => if v < 0 then (v + (n : Int)).toNat else min v.toNat n
theorem sIx_le (n d : Nat) (hd : d ≤ n) (o : Option Int) : sIx n d o ≤ n := by
  cases o with
  | none => exact hd
  | some v =>
    show (if v < 0 then (v + (n : Int)).toNat else min v.toNat n) ≤ n
    by_cases hv : v < 0
    · rw [if_pos hv]; omega
    · rw [if_neg hv]; exact Nat.min_le_right _ _
theorem clip_eq (v : Int) (n d : Nat) : (if v < 0 then max (v + (n : Int)) 0 else min v (n : Int)) = ((sIx n d (some v) : Nat) : Int) := by
  show (if v < 0 then max (v + (n : Int)) 0 else min v (n : Int)) = (((if v < 0 then (v + (n : Int)).toNat else min v.toNat n) : Nat) : Int)
  by_cases hv : v < 0
  · simp only [if_pos hv]; omega
  · simp only [if_neg hv]; omega
theorem adjust_gen (lo hi : Option Int) (n : Nat) : Builtin.Slice.sliceAdjust lo hi 1 (n : Int) = (((sIx n 0 lo : Nat) : Int), ((sIx n n hi : Nat) : Int)) := by
  have h1 : ¬ ((1 : Int) < 0) := by omega
  unfold Builtin.Slice.sliceAdjust
  simp only [h1, if_false]
  refine Prod.ext ?_ ?_
  · cases lo with
    | none => rfl
    | some v => exact clip_eq v n 0
  · cases hi with
    | none => rfl
    | some v => exact clip_eq v n n
theorem places_gen (i j : Nat) : Builtin.Slice.slicePlaces (i : Int) (j : Int) 1 = j - i := by
  unfold Builtin.Slice.slicePlaces
  have h1 : (1 : Int) > 0 := by omega
  simp only [h1, if_true, Int.ediv_one]
  split <;> omega
theorem slicePart_ {v : Value} {o : Option Int} {Q : Option Int → Shared → Prop} (p : IsPart v o) (h : Q o s) : wpAny (model prog w) A (Builtin.Slice.slicePartIndex v) Q E s := by
  cases p with
  | none => exact slicePart_none h
  | int i t => exact slicePart_int h
theorem sliceApplied_gen {sl : Addr} {vl vu : Value} {lo hi : Option Int} {n : Nat} {Q : Int × Int × Nat → Shared → Prop} (hs : s.heap.IsSliceOf sl vl vu .none) (pl : IsPart vl lo) (pu : IsPart vu hi)
    (h : Q (((sIx n 0 lo : Nat) : Int), 1, sIx n n hi - sIx n 0 lo) s) : wpAny (model prog w) A (Builtin.Slice.sliceApplied (.ref sl) (pure (n : Int))) Q E s := by
  obtain ⟨os, hos, hcs, hds⟩ := id hs
  unfold Builtin.Slice.sliceApplied Builtin.Slice.sliceFields
  refine wpAny_bind (wpAny_bind (wpAny_field hos hds (x := vl) rfl (wpAny_bind (wpAny_field hos hds (x := vu) rfl (wpAny_bind (wpAny_field hos hds (x := .none) rfl (wpAny_pure ?_)))))))
  refine wpAny_bind (slicePart_none ?_)
  show wpAny _ _ (if ((1 : Int) == 0) = true then _ else _) _ _ s
  rw [if_neg (by decide)]
  refine wpAny_bind (slicePart_ pl (wpAny_bind (slicePart_ pu (wpAny_bind (wpAny_pure ?_)))))
  show wpAny _ _ (match Builtin.Slice.sliceAdjust lo hi 1 (n : Int) with | (lo, hi) => pure (lo, (1 : Int), Builtin.Slice.slicePlaces lo hi 1)) _ _ s
  rw [adjust_gen lo hi n]
  show wpAny _ _ (pure (((sIx n 0 lo : Nat) : Int), (1 : Int), Builtin.Slice.slicePlaces ((sIx n 0 lo : Nat) : Int) ((sIx n n hi : Nat) : Int) 1)) _ _ s
  rw [places_gen]
  exact wpAny_pure h
theorem pick_gen (xs : Array Value) (i k : Nat) : ((List.range k).filterMap fun (m : Nat) => xs[((i : Int) + (m : Int) * 1).toNat]?).toArray = ((xs.toList.drop i).take k).toArray := by
  have e : (fun (m : Nat) => xs[((i : Int) + (m : Int) * 1).toNat]?) = fun m => xs[i + m]? := by
    funext m
    have : ((i : Int) + (m : Int) * 1).toNat = i + m := by omega
    rw [this]
  rw [e]
  have := pick_run xs i k
  rw [List.filterMap_map] at this
  have e2 : ((fun x => xs[x]?) ∘ fun x => i + x) = fun m => xs[i + m]? := rfl
  rw [e2] at this
  rw [this]
theorem getItem_tuple_cut {t sl : Addr} {items : Array Value} {vl vu : Value} {lo hi : Option Int} {Q : Value → Shared → Prop} (ht : IsTup s.heap t items) (hs : s.heap.IsSliceOf sl vl vu .none) (pl : IsPart vl lo) (pu : IsPart vu hi)
    (hw : ¬ (sIx items.size 0 lo = 0 ∧ sIx items.size items.size hi = items.size))
    (h : Q (.ref s.heap.objs.size) { s with heap := s.heap.push { cls := .type "tuple", data := .seq ((items.toList.drop (sIx items.size 0 lo)).take (sIx items.size items.size hi - sIx items.size 0 lo)).toArray } })
    (hsz : items.size ≤ sizeLine) : wpAny (model prog w) A (getItem (.ref t) (.ref sl)) Q E s := by
  have htake : sizeOk (.seq ((items.toList.drop (sIx items.size 0 lo)).take (sIx items.size items.size hi - sIx items.size 0 lo)).toArray) := by
    show ((items.toList.drop (sIx items.size 0 lo)).take (sIx items.size items.size hi - sIx items.size 0 lo)).toArray.size ≤ sizeLine
    rw [List.size_toArray, List.length_take, List.length_drop, Array.length_toList]
    omega
  have hj : sIx items.size items.size hi ≤ items.size := sIx_le _ _ (Nat.le_refl _) hi
  obtain ⟨os, hos, hcs, hds⟩ := id hs
  have hTs : s.TypeIs (.ref sl) "slice" := ⟨os, hos, hcs⟩
  unfold getItem
  try with_reducible refine wpAny_holding ?_
  first | refine wpAny_bind (wpAny_pure ?_) | skip
  refine wpAny_bind (wpAny_sequenceKey ht.typeIs (by decide) ?_)
  refine wpAny_bind (wpAny_callSpecial?_slot (name := Str.ofString "__getitem__") ht.typeIs PyProof.Rows.slot_tuple_getitem
    (wpAny_call_entry PyProof.Rows.slot_tuple_getitem ht.typeIs entry_tuple_getitem ?_ (args_tuple_getitem _ _)))
  show wpAny _ _ (Builtin.Tuple.tupleItemsOf (.ref t) >>= _) _ _ s
  refine wpAny_bind (tupleItemsOf_ ht ?_)
  refine wpAny_bind (wpAny_typeOf hTs ?_)
  rw [if_pos (by decide)]
  refine wpAny_bind (sliceApplied_gen hs pl pu ?_)
  have hno : ¬ ((((sIx items.size 0 lo : Nat) : Int) == 0 && (1 : Int) == 1 && (sIx items.size items.size hi - sIx items.size 0 lo) == items.size) = true) := by
    intro q
    rw [Bool.and_eq_true, Bool.and_eq_true] at q
    have q1 : ((sIx items.size 0 lo : Nat) : Int) = 0 := eq_of_beq q.1.1
    have q2 : sIx items.size items.size hi - sIx items.size 0 lo = items.size := eq_of_beq q.2
    exact hw ⟨by omega, by omega⟩
  show wpAny _ _ (if (((sIx items.size 0 lo : Nat) : Int) == 0 && (1 : Int) == 1 && (sIx items.size items.size hi - sIx items.size 0 lo) == items.size) = true then _ else _) _ _ s
  rw [if_neg hno, pick_gen]
  first
    | exact wpAny_bind (m := Builtin.Tuple.tupleExact _) (wpAny_newObj_type (wpAny_pure ⟨_, rfl, wpAny_pure h⟩) htake)
    | exact wpAny_bind (m := Builtin.Tuple.tupleExact _) (wpAny_newObj_type (wpAny_bind (wpAny_pure (wpAny_pure ⟨_, rfl, wpAny_pure h⟩))) htake)
    | exact wpAny_bind (wpAny_bind (m := Builtin.Tuple.tupleExact _) (wpAny_newObj_type (wpAny_pure (wpAny_pure ⟨_, rfl, wpAny_pure h⟩)) htake))
    | exact wpAny_bind (wpAny_bind (m := Builtin.Tuple.tupleExact _) (wpAny_newObj_type (wpAny_pure ⟨_, rfl, wpAny_pure h⟩) htake))
end
end HT
namespace L2
open PySem PySem.Spec PyProof.Rows
noncomputable abbrev TO := St → Hp → (Option Int → Hp → Prop) → Prop
noncomputable def PO (X : Cx) (e : Option Expr) (t : TO) : Prop :=
  ∀ (pins : List (Addr × Obj)) (s : Shared) (σ : St) (H : Hp) (Q : Option Int → Hp → Prop), Inv X pins σ H s → t σ H Q →
    wpAny (model X.prog X.w) X.A (evalPart e X.env) (fun u s' => ∃ o H', Inv X pins σ H' s' ∧ IsPart u o ∧ Q o H') X.xe s
noncomputable def tNoPart : TO := fun _ H Q => Q none H
noncomputable def tPart (t : TE) : TO := fun σ H Q => t σ H fun x H1 => ∃ i, x = .int i ∧ Q (some i) H1
section
variable {X : Cx} {e : Expr} {te : TE} {lo hi : Option Expr} {tl th : TO} {pos p2 : Pos}
theorem po_none : PO X none tNoPart := by
  intro pins s σ H Q I h
  rw [evalPart_none]
  exact wpAny_pure ⟨none, H, I, .none, h⟩
theorem po_some (h : PE X e te) : PO X (some e) (tPart te) := by
  intro pins s σ H Q I hw
  rw [evalPart_some]
  refine thn (h pins s σ H _ I hw) fun u s1 zz => ?_
  obtain ⟨x, H1, I1, r1, q1⟩ := zz
  obtain ⟨i, rfl, q⟩ := q1
  obtain ⟨t, rfl⟩ := r1
  exact ⟨some i, H1, I1, .int i t, q⟩
noncomputable def SlR (X : Cx) (r : V → Option Int → Option Int → Hp → VK → Prop) : Prop :=
  ∀ (pins : List (Addr × Obj)) (s : Shared) (σ : St) (H : Hp) (x : V) (v vl vu : Value) (lo hi : Option Int) (sl : Addr) (Q : VK), Inv X pins σ H s → RelV x v → s.heap.IsSliceOf sl vl vu .none → IsPart vl lo → IsPart vu hi → r x lo hi H Q →
    ∃ T id, typeLookup (.type T) "__getitem__" = pure (some (.builtin id)) ∧ s.TypeIs v T ∧ wpAny (model X.prog X.w) X.A (getItem v (.ref sl)) (EP X pins σ Q) X.xe s
noncomputable def tSl (r : V → Option Int → Option Int → Hp → VK → Prop) (te : TE) (tl th : TO) : TE := fun σ H Q => te σ H fun x H1 => tl σ H1 fun l H2 => th σ H2 fun u H3 => r x l u H3 Q
theorem pe_slice {r : V → Option Int → Option Int → Hp → VK → Prop} (hr : SlR X r) (he : PE X e te) (hl : PO X lo tl) (hu : PO X hi th) : PE X (.Subscript e (.Slice lo hi none p2) pos) (tSl r te tl th) := by
  intro pins s σ H Q I h
  refine Subscript_ (thn (he pins s σ H _ I h) fun v s1 zz => ?_)
  obtain ⟨x, H1, I1, r1, q1⟩ := zz
  refine wpAny_Slice (thn (hl pins s1 σ H1 _ I1 q1) fun vl s2 ⟨l, H2, I2, pl, q2⟩ => thn (hu pins s2 σ H2 _ I2 q2) fun vu s3 zz => ?_)
  obtain ⟨u, H3, I3, pu, q3⟩ := zz
  rw [evalPart_none]
  refine wpAny_pure ?_
  have I4 : Inv X pins σ H3 { s3 with heap := s3.heap.push { cls := .type "slice", data := .fields #[vl, vu, .none] } } := I3.kept (t' := s3.toks) fun b ob q => Heap.get?_push_of_some _ q
  obtain ⟨T, id, hT, ht, hg⟩ := hr pins { s3 with heap := s3.heap.push { cls := .type "slice", data := .fields #[vl, vu, .none] } } σ H3 x v vl vu l u s3.heap.objs.size Q I4 r1 (Heap.IsSliceOf.new ..) pl pu q3
  show wpAny (model X.prog X.w) X.A (subscriptTail e (.Slice lo hi none p2) v (.ref s3.heap.objs.size)) (EP X pins σ Q) X.xe { s3 with heap := s3.heap.push { cls := .type "slice", data := .fields #[vl, vu, .none] } }
  exact tail_any (ops := [.ref s3.heap.objs.size, v]) ht hT hg (by with_unfolding_all rfl)
noncomputable def cutV (xs : List V) (lo hi : Option Int) : List V := (xs.drop (HT.sIx xs.length 0 lo)).take (HT.sIx xs.length xs.length hi - HT.sIx xs.length 0 lo)
theorem cutV_length (xs : List V) (lo hi : Option Int) : (cutV xs lo hi).length ≤ xs.length := by
  unfold cutV
  rw [List.length_take, List.length_drop]
  omega
noncomputable def rSlT (K : PySem.W.Frag) : V → Option Int → Option Int → Hp → VK → Prop := fun x lo hi H Q => ∃ a xs, x = .ref a ∧ SqT K H a xs ∧
  ¬ (HT.sIx xs.length 0 lo = 0 ∧ HT.sIx xs.length xs.length hi = xs.length) ∧ ∀ p, H p = none → Q (.ref p) (upd H p (.tup (cutV xs lo hi)))
theorem sl_tup : SlR X (rSlT X.K) := by
  intro pins s σ H x v vl vu lo hi sl Q I rx hs pl pu h
  obtain ⟨a, xs, rfl, hx, hw, q⟩ := h
  cases rx
  obtain ⟨its, r, ht, hz⟩ := I.tuple hx
  have hlen : its.toArray.size = xs.length := by rw [List.size_toArray]; exact r.length.symm
  refine ⟨"tuple", _, PyProof.Rows.slot_tuple_getitem.lookup, ht.typeIs, ?_⟩
  refine HT.getItem_tuple_cut ht hs pl pu (by rw [hlen]; exact hw) ?_ (by rw [hlen]; exact hz)
  rw [hlen]
  refine ⟨.ref s.heap.objs.size, _, I.laid (t' := s.toks) (o := .tup (cutV xs lo hi)) (fun b ob q => Heap.get?_push_of_some _ q) (Nat.le_refl _) ?_, rfl, q _ (I.hok.fresh (Nat.le_refl _))⟩
  exact ⟨Nat.le_trans (cutV_length xs lo hi) hz, _, (r.drop (HT.sIx xs.length 0 lo)).take (HT.sIx xs.length xs.length hi - HT.sIx xs.length 0 lo), IsTuN.new _ _⟩
noncomputable def rCatT (K : PySem.W.Frag) : R2 := fun x y H Q => ∃ a b xs ys, x = .ref a ∧ y = .ref b ∧ SqT K H a xs ∧ SqT K H b ys ∧ xs ≠ [] ∧ xs.length + ys.length ≤ sizeLine ∧
  (ys = [] → Q (.ref a) H) ∧ (ys ≠ [] → ∀ p, H p = none → Q (.ref p) (upd H p (.tup (xs ++ ys))))
theorem Vals.nil_iff {xs : List V} {us : List Value} (r : Vals xs us) : us = [] ↔ xs = [] := by
  cases r with
  | nil => simp
  | cons _ _ => simp
theorem op_catT : OpR X (binaryOp .Add) (rCatT X.K) := by
  intro pins s σ H x y v u Q I rx ry h
  obtain ⟨a, b, xs, ys, rfl, rfl, ha, hb, hx, hz, q1, q2⟩ := h
  cases rx
  cases ry
  obtain ⟨its, r1, p1, _⟩ := I.tuple ha
  obtain ⟨its2, r2, p2, _⟩ := I.tuple hb
  refine HT.cat_tup p1 p2 (fun z => hx (r1.nil_iff.mp z)) (fun z => ⟨.ref a, H, I, rfl, q1 (r2.nil_iff.mp z)⟩) (fun z => ?_) (by rw [← r1.length, ← r2.length]; exact hz)
  refine ⟨.ref s.heap.objs.size, _, I.laid (t' := s.toks) (o := .tup (xs ++ ys)) (fun b ob q => Heap.get?_push_of_some _ q) (Nat.le_refl _) ?_, rfl, q2 (fun w => z (r2.nil_iff.mpr w)) _ (I.hok.fresh (Nat.le_refl _))⟩
  exact ⟨by rw [List.length_append]; exact hz, _, r1.append r2, IsTuN.new _ _⟩
end
end L2
namespace L2
open PySem PySem.Spec PyProof.Rows
noncomputable def ixN (n : Nat) (i : Int) : Option Nat := if 0 ≤ i then (if i < n then some i.toNat else none) else if -(n : Int) ≤ i then some (i + n).toNat else none
noncomputable def atI {α : Type} (xs : List α) (i : Int) : Option α := (ixN xs.length i).bind fun j => xs[j]?
theorem ixN_seq {n : Nat} {i : Int} {j : Nat} (h : ixN n i = some j) : seqIndex? i n = some j ∧ j < n ∧ -(n : Int) ≤ i ∧ i < n := by
  unfold ixN at h
  by_cases h0 : 0 ≤ i
  · rw [if_pos h0] at h
    by_cases h1 : i < n
    · rw [if_pos h1] at h
      have e : i.toNat = j := Option.some.inj h
      exact ⟨by rw [seqIndex_of h0 h1, e], by omega, by omega, h1⟩
    · rw [if_neg h1] at h; cases h
  · rw [if_neg h0] at h
    by_cases h1 : -(n : Int) ≤ i
    · rw [if_pos h1] at h
      have e : (i + n).toNat = j := Option.some.inj h
      exact ⟨by rw [seqIndex_neg (by omega) h1, e], by omega, h1, by omega⟩
    · rw [if_neg h1] at h; cases h
theorem atI_get {α : Type} {xs : List α} {i : Int} {v : α} (h : atI xs i = some v) : ∃ j, seqIndex? i xs.length = some j ∧ xs[j]? = some v ∧ j < xs.length ∧ -(xs.length : Int) ≤ i ∧ i < xs.length := by
  unfold atI at h
  cases e : ixN xs.length i with
  | none => rw [e] at h; cases h
  | some j =>
    rw [e] at h
    obtain ⟨h1, h2, h3, h4⟩ := ixN_seq e
    exact ⟨j, h1, h, h2, h3, h4⟩
theorem atI_nat {α : Type} {xs : List α} {j : Nat} {v : α} (h : xs[j]? = some v) : atI xs (j : Int) = some v := by
  have hj : j < xs.length := (List.getElem?_eq_some_iff.mp h).1
  have e : ixN xs.length (j : Int) = some j := by
    unfold ixN
    rw [if_pos (by omega), if_pos (by omega)]; simp
  unfold atI; rw [e]; exact h
noncomputable def PlainIx (b : Expr) : Prop := ∀ o i, subscripted b false o i = operate [o, i] (getItem o i)
noncomputable def IxR (X : Cx) (r : R2) : Prop :=
  ∀ (value slice : Expr) (pins : List (Addr × Obj)) (s : Shared) (σ : St) (H : Hp) (x y : V) (v u : Value) (Q : VK), Inv X pins σ H s → RelV x v → RelV y u → r x y H Q →
    subscripted slice false v u = operate [v, u] (getItem v u) → wpAny (model X.prog X.w) X.A (subscriptTail value slice v u) (EP X pins σ Q) X.xe s
noncomputable def MtR (X : Cx) (id : String) (r : V → List V → Hp → VK → Prop) : Prop :=
  ∀ (pins : List (Addr × Obj)) (s : Shared) (σ : St) (H : Hp) (x : V) (xs : List V) (v : Value) (us : List Value) (Q : VK), Inv X pins σ H s → RelV x v → Vals xs us → r x xs H Q →
    wpAny (model X.prog X.w) X.A (call (.builtin id) (v :: us)) (EP X pins σ Q) X.xe s
section
variable {X : Cx} {a b : Expr} {ta tb : TE} {pos : Pos}
theorem pe_ix {r : R2} (hr : IxR X r) (ha : PE X a ta) (hb : PE X b tb) (hs : PlainIx b) : PE X (.Subscript a b pos) (tOp r ta tb) := by
  intro pins s σ H Q I h
  exact Subscript_ (binT ha hb I h fun v u s2 x y H2 I2 rx ry q => hr a b pins s2 σ H2 x y v u Q I2 rx ry q (hs _ _))
noncomputable def rIxL (K : PySem.W.Frag) : R2 := fun x y H Q => ∃ p xs i v, x = .ref p ∧ y = .int i ∧ SqL K H p xs ∧ atI xs i = some v ∧ Q v H
noncomputable def rIxT (K : PySem.W.Frag) : R2 := fun x y H Q => ∃ p xs i v, x = .ref p ∧ y = .int i ∧ SqT K H p xs ∧ atI xs i = some v ∧ Q v H
noncomputable def rIxS : R2 := fun x y H Q => ∃ z i c, x = .str z ∧ y = .int i ∧ z.length ≤ sizeLine ∧ atI z.cps.toList i = some c ∧ Q (.str ⟨#[c]⟩) H
theorem ix_list : IxR X (rIxL X.K) := by
  intro value slice pins s σ H x y v u Q I rx ry h hs
  obtain ⟨p, xs, i, z, rfl, rfl, hq, he, q⟩ := h
  cases rx
  obtain ⟨t, rfl⟩ := ry
  obtain ⟨its, r, pl, hz⟩ := I.list hq
  obtain ⟨j, h1, h2, h3, h4, h5⟩ := atI_get he
  obtain ⟨w, ew, rw'⟩ := r.get h2
  have hl := r.length
  have hn := line63
  have fin : EP X pins σ Q w s := ⟨z, H, I, rw', q⟩
  by_cases h0 : 0 ≤ i
  · have hj : i.toNat = j := by
      rw [seqIndex_of h0 h5] at h1
      exact Option.some.inj h1
    exact item_listR pl.isList h0 (by omega) (by rw [hj]; simpa using ew) fin hs
  · have hj : (i + (its.toArray.size : Int)).toNat = j := by
      rw [seqIndex_neg (by omega) h4] at h1
      rw [List.size_toArray, ← hl]
      exact Option.some.inj h1
    exact subscriptTail_builtinR (x := w) pl.isList.typeIs slot_list_getitem.lookup
      (wpAny_getItem_list_neg (Q := fun r s' => r = w ∧ EP X pins σ Q r s') pl.isList (by omega) (by rw [List.size_toArray] <;> omega) (by omega) (by rw [hj]; simpa using ew) ⟨rfl, fin⟩) hs
theorem ix_tup : IxR X (rIxT X.K) := by
  intro value slice pins s σ H x y v u Q I rx ry h hs
  obtain ⟨p, xs, i, z, rfl, rfl, hq, he, q⟩ := h
  cases rx
  obtain ⟨t, rfl⟩ := ry
  obtain ⟨its, r, pl, hz⟩ := I.tuple hq
  obtain ⟨j, h1, h2, h3, h4, h5⟩ := atI_get he
  obtain ⟨w, ew, rw'⟩ := r.get h2
  have hl := r.length
  have hn := line63
  have fin : EP X pins σ Q w s := ⟨z, H, I, rw', q⟩
  exact subscriptTail_builtinR (x := w) pl.typeIs slot_tuple_getitem.lookup
    (getItem_tuple (j := j) (Q := fun r s' => r = w ∧ EP X pins σ Q r s') pl (by omega) (by omega) (by rw [List.size_toArray, ← hl]; exact h1) (by simpa using ew) ⟨rfl, fin⟩) hs
theorem ix_str : IxR X rIxS := by
  intro value slice pins s σ H x y v u Q I rx ry h hs
  obtain ⟨z, i, c, rfl, rfl, hz, he, q⟩ := h
  obtain ⟨t, rfl⟩ := rx
  obtain ⟨t', rfl⟩ := ry
  obtain ⟨j, h1, h2, h3, h4, h5⟩ := atI_get he
  have hl : z.cps.toList.length = z.length := by simp [Str.length]
  rw [hl] at h1 h4 h5
  have hn := line63
  exact tail_any (typeIs_str s z t) slot_str_getitem.lookup (getItem_str (c := c) (by
    have e1 : decide (i < -(2 ^ 63 : Int)) = false := decide_eq_false (by omega)
    have e2 : decide (i ≥ 2 ^ 63) = false := decide_eq_false (by omega)
    rw [e1, e2, Bool.or_false]) (by rw [h1]; simpa using h2) ⟨.str ⟨#[c]⟩, H, I.tok _, ⟨_, rfl⟩, q⟩) hs
theorem slice_bounds (lo hi : Option Int) (n : Nat) : (sliceBounds lo hi none n).1 = ((HT.sIx n 0 lo : Nat) : Int) ∧ (sliceBounds lo hi none n).2.1 = ((HT.sIx n n hi : Nat) : Int) ∧ (sliceBounds lo hi none n).2.2 = 1 := by
  refine ⟨?_, ?_, rfl⟩
  · cases lo with
    | none => simp [sliceBounds, HT.sIx]
    | some i =>
      simp only [sliceBounds, HT.sIx, Option.getD_none, show (1 : Int) > 0 by decide, if_true]
      by_cases h : i < 0
      · simp only [h, if_true] <;> omega
      · simp only [h, if_false] <;> omega
  · cases hi with
    | none => simp [sliceBounds, HT.sIx]
    | some i =>
      simp only [sliceBounds, HT.sIx, Option.getD_none, show (1 : Int) > 0 by decide, if_true]
      by_cases h : i < 0
      · simp only [h, if_true] <;> omega
      · simp only [h, if_false] <;> omega
theorem slicePick_cut (its : List Value) (lo hi : Option Int) : slicePick its.toArray lo hi none = ((its.drop (HT.sIx its.length 0 lo)).take (HT.sIx its.length its.length hi - HT.sIx its.length 0 lo)).toArray := by
  obtain ⟨h1, h2, h3⟩ := slice_bounds lo hi its.toArray.size
  unfold slicePick
  rw [h1, h2, h3]
  simp only [sliceRange_one, pick_run, List.size_toArray] <;> rfl
noncomputable def rSlL (K : PySem.W.Frag) : V → Option Int → Option Int → Hp → VK → Prop := fun x lo hi H Q => ∃ a xs, x = .ref a ∧ SqL K H a xs ∧ ∀ p, H p = none → Q (.ref p) (upd H p (.lst (cutV xs lo hi)))
theorem sl_list : SlR X (rSlL X.K) := by
  intro pins s σ H x v vl vu lo hi sl Q I rx hs pl pu h
  obtain ⟨a, xs, rfl, hx, q⟩ := h
  cases rx
  obtain ⟨its, r, ht, hz⟩ := I.list hx
  have hlen := r.length
  refine ⟨"list", _, slot_list_getitem.lookup, ht.isList.typeIs, ?_⟩
  refine wpAny_getItem_list_slice ht.isList hs pl pu .none (by simp) ?_ (by rw [List.size_toArray] <;> omega)
  rw [slicePick_cut, ← hlen]
  refine ⟨.ref s.heap.objs.size, _, I.laid (t' := s.toks) (o := .lst (cutV xs lo hi)) (fun b ob q => Heap.get?_push_of_some _ q) (Nat.le_refl _) ?_, rfl, q _ (I.hok.fresh (Nat.le_refl _))⟩
  exact ⟨Nat.le_trans (cutV_length xs lo hi) hz, _, 0, (r.drop (HT.sIx xs.length 0 lo)).take (HT.sIx xs.length xs.length hi - HT.sIx xs.length 0 lo), Heap.get?_push_size _ rfl⟩
theorem call_len_seq : CallR X (.builtin "len") (fun xs H Q => ∃ p ys, xs = [.ref p] ∧ (SqL X.K H p ys ∨ SqT X.K H p ys) ∧ Q (.int ys.length) H) := by
  intro pins s σ H xs us Q I r h
  obtain ⟨p, ys, rfl, hq, q⟩ := h
  obtain ⟨u, rfl, rx⟩ := vals1 r
  cases rx
  have hn := line63
  rcases hq with hq | hq
  · obtain ⟨its, r', pl, hz⟩ := I.list hq
    have hlen := r'.length
    exact Calls.call_len_list pl.isList (by simp only [List.size_toArray] <;> omega) ⟨.int ys.length, H, I.tok _, ⟨s.toks + 1, by rw [List.size_toArray, hlen]⟩, q⟩
  · obtain ⟨its, r', pl, hz⟩ := I.tuple hq
    have hlen := r'.length
    exact len_tuple pl (by simp only [List.size_toArray] <;> omega) ⟨.int ys.length, H, I.tok _, ⟨s.toks + 1, by rw [List.size_toArray, hlen]⟩, q⟩
theorem call_len_str : CallR X (.builtin "len") (fun xs H Q => ∃ z, xs = [.str z] ∧ z.length ≤ sizeLine ∧ Q (.int z.length) H) := by
  intro pins s σ H xs us Q I r h
  obtain ⟨z, rfl, hz, q⟩ := h
  obtain ⟨u, rfl, t, rfl⟩ := vals1 r
  have hn := line63
  exact len_str (by omega) ⟨.int z.length, H, I.tok _, ⟨_, rfl⟩, q⟩
theorem call_list_of : CallR X (.type "list") (fun xs H Q => ∃ p ys, xs = [.ref p] ∧ (SqL X.K H p ys ∨ SqT X.K H p ys) ∧ ∀ l, H l = none → Q (.ref l) (upd H l (.lst ys))) := by
  intro pins s σ H xs us Q I r h
  obtain ⟨p, ys, rfl, hq, q⟩ := h
  obtain ⟨u, rfl, rx⟩ := vals1 r
  cases rx
  have fin : ∀ (its : List Value), Vals ys its → ys.length ≤ sizeLine → ∀ (h' : Heap) (c' : Nat), (∀ b o', s.heap.get? b = some o' → h'.get? b = some o') →
      h'.get? s.heap.objs.size = some { cls := .type "list", dict := none, data := .seq its.toArray c', slots := #[] } → EP X pins σ Q (.ref s.heap.objs.size) { s with heap := h' } := fun its r' hz h' c' kp e =>
    ⟨.ref s.heap.objs.size, _, I.laid (t' := s.toks) kp (Nat.le_refl _) (show ObjOk X.prog X.w _ h' _ (.lst ys) from ⟨hz, its, c', r', e⟩), rfl, q _ (I.hok.fresh (Nat.le_refl _))⟩
  rcases hq with hq | hq
  · obtain ⟨its, r', pl, hz⟩ := I.list hq
    have hlen := r'.length
    obtain ⟨o, ho, hc, n, hd⟩ := pl.isList
    exact call_list_seq p (.inl rfl) ho hc hd (fun h' c' kp e => fin its r' hz h' c' kp e) (by simp only [List.size_toArray] <;> omega)
  · obtain ⟨its, r', pl, hz⟩ := I.tuple hq
    have hlen := r'.length
    obtain ⟨o, ho, hc, n, hd⟩ := pl
    exact call_list_seq p (.inr rfl) ho hc hd (fun h' c' kp e => fin its r' hz h' c' kp e) (by simp only [List.size_toArray] <;> omega)
theorem call_tuple_of : CallR X (.type "tuple") (fun xs H Q => ∃ p ys, xs = [.ref p] ∧ ((SqL X.K H p ys ∧ ∀ l, H l = none → Q (.ref l) (upd H l (.tup ys))) ∨ (SqT X.K H p ys ∧ Q (.ref p) H))) := by
  intro pins s σ H xs us Q I r h
  obtain ⟨p, ys, rfl, h⟩ := h
  obtain ⟨u, rfl, rx⟩ := vals1 r
  cases rx
  rcases h with ⟨hq, q⟩ | ⟨hq, q⟩
  · obtain ⟨its, r', pl, hz⟩ := I.list hq
    have hlen := r'.length
    refine call_tuple_list pl.isList (fun h' kp => ?_) (by simp only [List.size_toArray] <;> omega)
    have I1 : Inv X pins σ H { s with heap := h' } := I.kept (t' := s.toks) kp
    have I2 : Inv X pins σ (upd H h'.objs.size (.tup ys)) { s with heap := h'.push { cls := .type "tuple", data := .seq its.toArray } } :=
      I1.laid (t' := s.toks) (fun b o e => Heap.get?_push_of_some _ e) (Nat.le_refl _) (show ObjOk X.prog X.w _ _ _ (.tup ys) from ⟨hz, its, r', IsTuN.new _ _⟩)
    exact ⟨.ref h'.objs.size, _, I2, rfl, q _ (I1.hok.fresh (Nat.le_refl _))⟩
  · obtain ⟨its, r', pl, hz⟩ := I.tuple hq
    exact call_tuple_same pl ⟨.ref p, H, I, rfl, q⟩
noncomputable def tyV (K : PySem.W.Frag) (T : String) (x : V) (H : Hp) : Prop := match x with
  | .str _ => T = "str"
  | .int _ => T = "int"
  | .ref p => (T = "list" ∧ ∃ xs, SqL K H p xs) ∨ (T = "tuple" ∧ ∃ o, K.lookup p = some o ∧ o.cls = .type "tuple" ∧ o.dict = none) ∨
      (T = "dict" ∧ ((∃ kvs, H p = some (.dK kvs)) ∨ ∃ kvs, H p = some (.dT kvs))) ∨ (T = "set" ∧ ∃ S n, H p = some (.set S n))
  | _ => False
theorem tyV_is {pins : List (Addr × Obj)} {σ : St} {H : Hp} {s : Shared} {T : String} {x : V} {v : Value} (I : Inv X pins σ H s) (r : RelV x v) (ty : tyV X.K T x H) :
    s.TypeIs v T ∧ ∀ a, v = .ref a → ∃ ob, s.heap.get? a = some ob ∧ ob.dict = none := by
  cases x with
  | str z =>
    obtain ⟨t, rfl⟩ := r
    cases (show T = "str" from ty)
    exact ⟨typeIs_str s z t, fun _ e => nomatch e⟩
  | int i =>
    obtain ⟨t, rfl⟩ := r
    cases (show T = "int" from ty)
    exact ⟨typeIs_int s i t, fun _ e => nomatch e⟩
  | ref p =>
    cases r
    rcases ty with ⟨rfl, xs, hq⟩ | ⟨rfl, o, hk, hc, hd⟩ | ⟨rfl, hk⟩ | ⟨rfl, S, n, hk⟩
    · obtain ⟨its, _, pl, _⟩ := I.list hq
      refine ⟨pl.isList.typeIs, fun a e => ?_⟩
      cases e
      obtain ⟨o, n, e, c, hd, _⟩ := pl
      exact ⟨o, e, hd⟩
    · refine ⟨⟨o, I.kIn p o hk, hc⟩, fun a e => ?_⟩
      cases e
      exact ⟨o, I.kIn _ o hk, hd⟩
    · have z : ∃ o, s.heap.get? p = some o ∧ o.ExactDict := by
        rcases hk with ⟨kvs, hk⟩ | ⟨kvs, hk⟩
        · obtain ⟨_, _, _, _, o, _, _, e, ex, _⟩ := I.hok p _ hk
          exact ⟨o, e, ex⟩
        · obtain ⟨_, _, _, _, o, _, _, e, ex, _⟩ := I.hok p _ hk
          exact ⟨o, e, ex⟩
      obtain ⟨o, e, ex⟩ := z
      refine ⟨⟨o, e, ex.1⟩, fun a e2 => ?_⟩
      cases e2
      exact ⟨o, e, ex.2.1⟩
    · obtain ⟨o, _, _, _, e, ex, _⟩ := I.hok p _ hk
      refine ⟨⟨o, e, ex.1⟩, fun a e2 => ?_⟩
      cases e2
      exact ⟨o, e, ex.2.1⟩
  | _ => exact False.elim ty
noncomputable def tBM (K : PySem.W.Frag) (T : String) (r : V → List V → Hp → VK → Prop) (to : TE) (t : TA) : TE := fun σ H Q => to σ H fun x H1 => tyV K T x H1 ∧ t σ H1 fun xs H2 => r x xs H2 Q
variable {o e : Expr} {es : List Expr} {to : TE} {t : TA} {name : Str} {apos cpos : Pos} {T id : String} {r : V → List V → Hp → VK → Prop}
theorem pe_bm (pa : PlainAttrs T) (slot : Slot T name id) (hty : typeOf (.builtin id) = pure (.type "method_descriptor")) (hm : MtR X id r) (ho : PE X o to) (ha : PA X (e :: es) t)
    (hbase : attributeBase o name X.env (eval o X.env) = eval o X.env := by rfl)
    (hfew : ((backTo cpos (starEach (e :: es) X.env)).all (fun x => !x.1) && (backToKw cpos (keywordEach [] X.env)).all (fun x => x.1.isSome)
      && decide ((e :: es).length + ([] : List Keyword).length + (if ([] : List Keyword).isEmpty then 0 else 1) < 30)) = true := by rfl)
    (hline : (apos.endLine == cpos.line) = true := by rfl) (hs : starEach (e :: es) X.env = (false, eval e X.env) :: starEach es X.env := by rfl) (hplain : (backTo cpos (starEach es X.env)).any (·.1) = false := by rfl) :
    PE X (.Call (.Attribute o name apos) (e :: es) [] cpos) (tBM X.K T r to t) := by
  intro pins s σ H Q I h
  refine wpAny_Call_method_late hbase hfew hline rfl (thn (ho pins s σ H _ I h) fun v s1 zz => ?_)
  obtain ⟨x, H1, I1, r1, ty, q1⟩ := zz
  obtain ⟨h1, h2⟩ := tyV_is I1 r1 ty
  refine ⟨T, id, pa, slot, hty, h1, h2, ?_⟩
  have hA := ha cpos pins s1 σ H1 _ I1 q1
  rw [hs] at hA ⊢
  refine Calls.callWith_builtin (by show (false || (backTo cpos (starEach es X.env)).any (·.1)) = false; rw [hplain] <;> rfl) (Calls.evalArgs_plain ?_)
  exact thn hA fun us s2 ⟨vs, H2, I2, r2, q2⟩ => hm pins s2 σ H2 x vs v us Q I2 r1 r2 q2
end
end L2
namespace L2
open PySem PySem.Spec PyProof.Rows
noncomputable def MtM (X : Cx) (id : String) (r : V → List V → Hp → VK → Prop) : Prop :=
  ∀ (pins : List (Addr × Obj)) (s : Shared) (σ : St) (H : Hp) (x : V) (xs : List V) (v : Value) (us : List Value) (Q : VK), Inv X pins σ H s → RelV x v → Vals xs us → r x xs H Q →
    wpAny (model X.prog X.w) X.A (call (.builtin id) (v :: us)) (EP X pins σ Q) X.xe s
theorem Vals.one : ∀ {x : V} {us : List Value}, Vals [x] us → ∃ u, us = [u] ∧ RelV x u := by
  intro x us h
  cases h with
  | cons r t => cases t; exact ⟨_, rfl, r⟩
theorem Vals.eraseIdx : ∀ {xs : List V} {us : List Value} (i : Nat), Vals xs us → Vals (xs.eraseIdx i) (us.eraseIdx i)
  | _, _, _, .nil => .nil
  | _, _, 0, .cons _ t => t
  | _, _, i + 1, .cons r t => .cons r (Vals.eraseIdx i t)
theorem Vals.rep {xs : List V} {us : List Value} (h : Vals xs us) : ∀ k : Nat, Vals (List.replicate k xs).flatten (List.replicate k us).flatten
  | 0 => .nil
  | k + 1 => by
    rw [List.replicate_succ, List.replicate_succ, List.flatten_cons, List.flatten_cons]
    exact Vals.append h (Vals.rep h k)
theorem len_erase {α : Type} : ∀ (l : List α) (i : Nat), (l.eraseIdx i).length ≤ l.length
  | [], _ => Nat.le_refl _
  | _ :: _, 0 => Nat.le_succ _
  | _ :: r, i + 1 => Nat.succ_le_succ (len_erase r i)
theorem foldl_rep (its : List Value) : ∀ (k : Nat) (acc : List Value),
    List.foldl (fun x1 x2 => x1 ++ x2) acc.toArray (List.replicate k its.toArray) = (acc ++ (List.replicate k its).flatten).toArray
  | 0, acc => by simp
  | k + 1, acc => by
    have e : acc.toArray ++ its.toArray = (acc ++ its).toArray := by simp
    have e2 : (acc ++ its) ++ (List.replicate k its).flatten = acc ++ (List.replicate (k + 1) its).flatten := by
      rw [List.replicate_succ, List.flatten_cons, List.append_assoc]
    rw [← e2, ← foldl_rep its k (acc ++ its), ← e, List.replicate_succ, List.foldl_cons]
section
variable {X : Cx} {pins : List (Addr × Obj)} {σ : St} {H : Hp} {s : Shared} {l b : Addr} {xs ys zs : List V}
theorem Inv.lset {its its' : List Value} {n : Nat} {f : Array Value → Array Value} {t' : Nat} (I : Inv X pins σ H s) (hH : H l = some (.lst xs))
    (e : s.heap.get? l = some { cls := .type "list", data := .seq its.toArray n }) (hf : f its.toArray = its'.toArray) (hv : Vals ys its') (hz : ys.length ≤ sizeLine) :
    Inv X pins σ (upd H l (.lst ys)) { s with heap := s.heap.update l (Obj.mapSeq f), toks := t' } := by
  have q := PySem.IsL.update e f
  rw [hf] at q
  refine I.write (x := l) (e := l) (by rw [hH]; exact trivial) (.inl rfl) (fun b' u hb hu => (Heap.get?_update_other s.heap (Obj.mapSeq f) (Ne.symm hb)).trans hu) ⟨_, q⟩ ?_
  exact ⟨hz, its', _, hv, q⟩
theorem Inv.lnew {its : List Value} {t' : Nat} (I : Inv X pins σ H s) (hv : Vals ys its) (hz : ys.length ≤ sizeLine) :
    Inv X pins σ (upd H s.heap.objs.size (.lst ys)) { s with heap := s.heap.push { cls := .type "list", data := .seq its.toArray }, toks := t' } :=
  I.laid (fun _ _ q => Heap.get?_push_of_some _ q) (Nat.le_refl _) ⟨hz, its, 0, hv, Heap.get?_push_size _ rfl⟩
theorem Inv.fresh (I : Inv X pins σ H s) : H s.heap.objs.size = none := I.hok.fresh (Nat.le_refl _)
theorem Inv.lstM (I : Inv X pins σ H s) (hH : H l = some (.lst xs)) : xs.length ≤ sizeLine ∧ ∃ (its : List Value) (n : Nat), Vals xs its ∧ xs.length = its.length ∧ s.heap.get? l = some { cls := .type "list", data := .seq its.toArray n } := by
  obtain ⟨z, its, n, r, e⟩ := I.hok l _ hH
  exact ⟨z, its, n, r, r.length, e⟩
theorem notLongL {n : Nat} (h : n ≤ sizeLine) : Builtin.List.listTooLong n = false := by
  unfold Builtin.List.listTooLong
  exact decide_eq_false (by omega)
end
section
variable {X : Cx}
noncomputable def rAppend : V → List V → Hp → VK → Prop := fun x vs H Q => ∃ l xs y, x = .ref l ∧ vs = [y] ∧ H l = some (.lst xs) ∧ xs.length < sizeLine ∧ Q .non (upd H l (.lst (xs ++ [y])))
theorem mt_append : MtM X "list.append" rAppend := by
  intro pins s σ H x vs v us Q I rx rv h
  obtain ⟨l, xs, y, rfl, rfl, hH, hz, q⟩ := h
  cases rx
  obtain ⟨u, rfl, ru⟩ := rv.one
  obtain ⟨z, its, n, r, hl, e⟩ := I.lstM hH
  refine call_meets F.slot_list_append ⟨_, e, rfl⟩ F.entry_list_append (F.args_list_append_2 _ _) (PySem.list_append l its.toArray n u (by rw [List.size_toArray]; omega)) ⟨e, ?_⟩
  refine ⟨.non, _, I.lset (its' := its ++ [u]) hH e (by simp) (r.append (.cons ru .nil)) ?_, rfl, q⟩
  rw [List.length_append, List.length_singleton]
  omega
noncomputable def rPopAt : V → List V → Hp → VK → Prop := fun x vs H Q => ∃ l xs i k y, x = .ref l ∧ vs = [.int i] ∧ H l = some (.lst xs) ∧ -(2 ^ 63) ≤ i ∧ i < 2 ^ 63 ∧ seqIndex? i xs.length = some k ∧ xs[k]? = some y ∧ Q y (upd H l (.lst (xs.eraseIdx k)))
theorem mt_popAt : MtM X "list.pop" rPopAt := by
  intro pins s σ H x vs v us Q I rx rv h
  obtain ⟨l, xs, i, k, y, rfl, rfl, hH, h1, h2, hk, hy, q⟩ := h
  cases rx
  obtain ⟨u, rfl, ru⟩ := rv.one
  obtain ⟨t, rfl⟩ := ru
  obtain ⟨z, its, n, r, hl, e⟩ := I.lstM hH
  obtain ⟨w, hw, rw'⟩ := r.get hy
  refine call_meets F.slot_list_pop ⟨_, e, rfl⟩ F.entry_list_pop (F.args_list_pop_2 _ _)
    (MeetsSeq.list_pop_at l its.toArray n i t k w (fitsIndex_both h1 h2) (by rw [List.size_toArray, ← hl]; exact hk) (by rw [← Array.getElem?_toList]; exact hw) (by rw [List.size_toArray]; omega)) ⟨e, ?_⟩
  refine ⟨y, _, I.lset (its' := its.eraseIdx k) hH e ?_ (r.eraseIdx k) ?_, rw', q⟩
  · show its.toArray.eraseIdxIfInBounds k = (its.eraseIdx k).toArray
    rw [List.eraseIdxIfInBounds_toArray]
  · have := len_erase xs k
    omega
noncomputable def rCat : R2 := fun x y H Q => ∃ l b xs zs, x = .ref l ∧ y = .ref b ∧ H l = some (.lst xs) ∧ H b = some (.lst zs) ∧ xs.length + zs.length ≤ sizeLine ∧ ∀ p, H p = none → Q (.ref p) (upd H p (.lst (xs ++ zs)))
theorem op_cat : OpR X (binaryOp .Add) rCat := by
  intro pins s σ H x y v u Q I rx ry h
  obtain ⟨l, b, xs, zs, rfl, rfl, hH, hB, hz, q⟩ := h
  cases rx
  cases ry
  obtain ⟨z, its, n, r, hl, e⟩ := I.lstM hH
  obtain ⟨z2, its2, n2, r2, hl2, e2⟩ := I.lstM hB
  refine PySem.P.add_list e e2 ?_ (by rw [List.size_toArray, List.size_toArray]; omega)
  have ea : its.toArray ++ its2.toArray = (its ++ its2).toArray := by simp
  rw [ea]
  exact ⟨.ref _, _, I.lnew (t' := s.toks) (r.append r2) (by rw [List.length_append]; omega), rfl, q _ I.fresh⟩
noncomputable def rRep : R2 := fun x y H Q => ∃ l k xs, x = .ref l ∧ y = .int k ∧ H l = some (.lst xs) ∧ -(2 ^ 63) ≤ k ∧ k < 2 ^ 63 ∧ xs.length * k.toNat ≤ sizeLine ∧
  ∀ p, H p = none → Q (.ref p) (upd H p (.lst (List.replicate k.toNat xs).flatten))
theorem len_rep {α : Type} (xs : List α) (k : Nat) : (List.replicate k xs).flatten.length = k * xs.length := by
  induction k with
  | zero => simp
  | succ k ih => rw [List.replicate_succ, List.flatten_cons, List.length_append, ih, Nat.succ_mul, Nat.add_comm]
theorem op_rep : OpR X (binaryOp .Mult) rRep := by
  intro pins s σ H x y v u Q I rx ry h
  obtain ⟨l, k, xs, rfl, rfl, hH, h1, h2, hz, q⟩ := h
  cases rx
  obtain ⟨t, rfl⟩ := ry
  obtain ⟨z, its, n, r, hl, e⟩ := I.lstM hH
  have hlen : its.toArray.size * k.toNat ≤ sizeLine := by rw [List.size_toArray, ← hl]; exact hz
  have hcap : ¬ its.toArray.size * k.toNat > (2 ^ 63 - 1) / 8 := by
    have : (sizeLine : Nat) ≤ (2 ^ 63 - 1) / 8 := by decide
    omega
  have hfit : ¬ (!Builtin.List.listFitsIndex k) = true := by
    rw [fitsIndex_both h1 h2]
    exact Bool.false_ne_true
  have hlong : ¬ Builtin.List.listTooLong (its.toArray.size * k.toNat) = true := by
    rw [notLongL hlen]
    exact Bool.false_ne_true
  have hnew : List.foldl (fun x1 x2 => x1 ++ x2) #[] (List.replicate (if its.toArray.isEmpty = true then 0 else k.toNat) its.toArray) = (List.replicate k.toNat its).flatten.toArray := by
    have f0 : ∀ m : Nat, List.foldl (fun x1 x2 => x1 ++ x2) #[] (List.replicate m its.toArray) = (List.replicate m its).flatten.toArray := fun m => by
      have := foldl_rep its m []
      rw [List.nil_append] at this
      exact this
    rw [f0]
    cases its with
    | nil => simp
    | cons a r' => rw [if_neg (by simp)]
  refine wpAny_binaryOp_repeat_ref (T := "list") (U := "int") (by decide) ⟨_, e, rfl⟩ (fun s' => typeIs_int s' k t) noFill_list_mul F.fills_int_mul F.slot_int_rmul repeat_list F.slot_int_index.lookup
    (call_meets F.slot_int_rmul (typeIs_int s k t) F.entry_int_rmul (F.args_int_rmul_2 _ _) (int___rmul___int_list k t l its.toArray n)
      ⟨e, rfl, ⟨_, e, rfl⟩, call_meets F.slot_list_mul ⟨_, e, rfl⟩ F.entry_list_mul (F.args_list_mul_2 _ _) (AutoListH.list___mul___list_int_3 l its.toArray n k t hfit hcap hlong) ⟨e, ?_⟩⟩)
  rw [hnew]
  exact ⟨.ref _, _, I.lnew (t' := s.toks) (r.rep k.toNat) (by rw [len_rep, Nat.mul_comm]; exact hz), rfl, q _ I.fresh⟩
end
section
variable {prog : Program} {w : World} {A : Around} {E : Value → Shared → Prop} {s : Shared}
set_option maxRecDepth 100000 in
end
end L2
namespace Att
open PySem PySem.W PySem.Calls PyProof.Rows
theorem ints_of_wellAll {P : Params} {h : Heap} : ∀ (ns : List Int) (vs : List Value), WellAll P h vs (ns.map WData.int) → IntsAre vs ns := by
  intro ns
  induction ns with
  | nil =>
    intro vs w
    rw [List.map_nil] at w
    cases w
    exact .nil
  | cons n ns ih =>
    intro vs w
    rw [List.map_cons] at w
    cases w with
    | cons a b =>
      cases a
      exact .cons _ _ (ih _ b)
theorem script_of {l : OpenLaw} {n : Nat} (hn : l.most = some n) {P : Params} {h : Heap} {args : List WData} {vals : List Value}
    (hpre : l.row.toRowW.claim.pre args = true) (hwl : WellAll P h vals args) :
    ∃ a vs ns, vals = [Value.ref a] ∧ args = [WData.list (ns.map WData.int)] ∧ h.get? a = some { cls := .type "list", data := .seq vs.toArray } ∧ IntsAre vs ns ∧ ns.length ≤ n := by
  have hsh : WShape.hasAll [] args [.list .int] = true := (pre_splitW hpre).1
  have hc : l.pre.holds [] { args := args } = true := (pre_splitW hpre).2
  obtain ⟨d, r, rfl, h1, h2⟩ := hasAllW_cons hsh
  obtain rfl := hasAllW_nil h2
  obtain ⟨xs, rfl, h3⟩ := hasW_list h1
  obtain ⟨ns, rfl⟩ := items_int h3
  have hlen : ns.length ≤ n := by
    unfold OpenLaw.pre at hc
    have h4 : (WTm.not (.lt (.lit (.int (n : Int))) (.len (.arg 0)))).holds [] { args := [.list (ns.map .int)] } = true := by
      have h4 := (holds_andW hc).1
      rw [hn] at h4
      exact h4
    have h5 := condW_of h4 (w_not (w_lt w_lit (w_len_list (w_arg rfl))))
    rw [List.length_map] at h5
    refine Nat.le_of_not_lt fun q => ?_
    have q' : (n : Int) < ((ns.length : Nat) : Int) := by omega
    first
      | (rw [decide_eq_true q'] at h5; exact absurd h5 (by decide))
      | (simp at h5; omega)
  cases hwl with
  | cons w1 w2 =>
    cases w2
    cases w1 with
    | list ho hall => exact ⟨_, _, ns, rfl, rfl, ho, ints_of_wellAll ns _ hall, hlen⟩
theorem post_true (l : OpenLaw) (args : List WData) : l.row.toRowW.claim.post args (.bool true) args = true :=
  postW_of (r := l.row.toRowW) (X := (true == true))
    (show WShape.has [] (.bool true) .bool = true by first | rfl | decide | simp [WShape.has, WShape.arms, WShape.armsAll])
    (show (WTm.eq .res (.lit (.bool true))).value [] { args := args, res := some (.bool true), after := args } = some (.bool (true == true)) from w_eq_bool (w_res rfl) w_lit) rfl
theorem attach_call {l : OpenLaw} {n : Nat} {q : Program} {loose : List Str} {XP : (Str → Option Value) → Heap → Prop} {YP : World → Heap → Prop} {d : DefRec}
    (hn : l.most = some n) (hdf : d.params.defaults = [])
    (call : ∀ (w : World) (s₀ s₁ : Shared) (mg mb : Str → Option Value) (fa : Addr) (o : Obj) (pm cd doc : Value) (a : Addr) (vs : List Value) (ns : List Int),
      Ground q loose [] XP w s₀ mg mb s₁.heap → YP w s₁.heap →
      s₁.heap.get? fa = some o → o.data = .func (docDef d.name d.params d.body d.scope pm cd doc) → s₁.heap.CodeRec cd d.name → mg d.name = some (.ref fa) →
      s₁.heap.get? a = some { cls := .type "list", data := .seq vs.toArray } → IntsAre vs ns → ns.length ≤ n → s₁.gens = #[] →
      codeAny (model l.prog w) callerA (.call (.ref fa) ⟨[.ref a], []⟩) (fun r s' => r = .ok (.ret (.bool true)) ∧ OldK s₁.heap s'.heap ∧ s'.os = s₁.os ∧ AllBare s'.gens) s₁) :
    WalkO q loose XP YP l.row.toRowW d [] (fun f vs => PySem.call f vs) := by
  intro w s₀ s₁ mg mb G Y fa o pm cd doc dV kV ho hd hcd hD hmg hg args vals as hpre hlay hrd hwl hlo
  obtain rfl : dV = .none := Dflts.none hD hdf
  obtain rfl : kV = .none := Dflts.noKw hD
  obtain ⟨a, vs, ns, rfl, rfl, hobj, hints, hlen⟩ := script_of hn hpre hwl
  refine enter_call (codeAny_mono (call w s₀ s₁ mg mb fa o pm cd doc a vs ns G Y ho (fd_plain hd) hcd hmg hobj hints hlen hg) fun r s' hq => ?_)
  obtain ⟨rfl, h2, h3, h4⟩ := hq
  exact ⟨.inl ⟨.bool true, .bool true, [], rfl, fun _ => rfl, .bool true, post_true l _, fun _ => ⟨List.Pairwise.nil, fun _ hm => (nomatch hm)⟩⟩, h2, h3, h4⟩
end Att
namespace L2
open PySem PySem.Spec PyProof.Rows
theorem vals_ints : ∀ {vs : List Value} {ns : List Int}, IntsAre vs ns → Vals (ns.map V.int) vs
  | _, _, .nil => .nil
  | _, _, .cons n t h => .cons ⟨t, rfl⟩ (vals_ints h)
noncomputable def Only (H : Hp) : Prop := ∀ b, H b = none ∨ ∃ o xs, H b = some (.frz o (.lst xs))
theorem law_call {P : Program} {w : World} {K : PySem.W.Frag} {mg mb : Str → Option Value} {CX : CXT} {k : Nat} {fa a : Addr} {fd : FuncData} {x : Str} {sp : Sp} {s₁ : Shared} {vs : List Value} {ns : List Int}
    (KX : K.In s₁.heap) (hns : s₁.heap.Ns mainGlobals mg) (hb : s₁.heap.Ns builtinsNs mb) (hbb : ∀ x : Str, x ≠ "__name__" → mb x = bootBuiltins x) (hlim : s₁.heap.NoLimit) (hg : s₁.gens = #[])
    (ha : s₁.heap.get? a = some { cls := .type "list", data := .seq vs.toArray }) (hi : IntsAre vs ns) (hl : ns.length ≤ sizeLine) (hr : Room k callerA)
    (F : ∀ base : Heap, K.In base → base.Ns mainGlobals mg → FnOk P w K mg base CX k fa fd [x] sp) (hbind : ∀ (s : Shared) (u : Value), BindsTo s fd ⟨[u], []⟩ [(x, u)])
    (hsp : ∀ H : Hp, Only H → SqL K H a (ns.map V.int) → sp [.ref a] H (fun v _ => v = .bl true) fun _ _ _ => False)
    (hCX : ∀ H e s', CX [] H s₁ (fun _ _ _ => False) e s' → False) :
    codeAny (model P w) callerA (.call (.ref fa) ⟨[.ref a], []⟩) (fun r s' => r = .ok (.ret (.bool true)) ∧ OldK s₁.heap s'.heap ∧ s'.os = s₁.os ∧ AllBare s'.gens) s₁ := by
  have rv := vals_ints hi
  have lenV := hi.length
  -- from an abstract heap in which nothing but the script may be tracked
  have core : ∀ H : Hp, Only H → SqL K H a (ns.map V.int) → HOk P w H s₁.heap → (∀ b, H b ≠ none → b = a) → (H a ≠ none → K.lookup a = none) →
      codeAny (model P w) callerA (.call (.ref fa) ⟨[.ref a], []⟩) (fun r s' => r = .ok (.ret (.bool true)) ∧ OldK s₁.heap s'.heap ∧ s'.os = s₁.os ∧ AllBare s'.gens) s₁ := by
    intro H hO hS hok hA hK
    have base_of : ∀ {b : Addr} {o : Obj}, s₁.heap.get? b = some o → H b = none → (hidT s₁.heap H).get? b = some o := fun e n => hidT_get e n
    have noA : ∀ {b : Addr} {o : Obj} {es : Array DictEntry} {ep : Nat}, s₁.heap.get? b = some o → o.data = .dict es ep → H b = none := fun {b o es ep} e d => by
      cases q : H b with
      | none => rfl
      | some u =>
        have e' : b = a := hA b (by rw [q]; simp)
        subst e'
        rw [ha] at e; cases e
        have d' : Data.seq vs.toArray _ = Data.dict es ep := d
        cases d'
    have nsK : ∀ {b : Addr} {m : Str → Option Value}, s₁.heap.Ns b m → (hidT s₁.heap H).Ns b m := fun {b m} ⟨o, es, ep, e, d, r⟩ => ⟨o, es, ep, base_of e (noA e d), d, r⟩
    have hKb : K.In (hidT s₁.heap H) := fun b o e => base_of (KX b o e) (by
      cases q : H b with
      | none => rfl
      | some u =>
        have e' : b = a := hA b (by rw [q]; simp)
        subst e'
        rw [hK (by rw [q]; simp)] at e; cases e)
    have hM : Mod K mg (hidT s₁.heap H) := ⟨hKb, nsK hns, ⟨mb, nsK hb, hbb⟩, let ⟨mc, h1, h2⟩ := hlim; ⟨mc, nsK h1, h2⟩⟩
    have e0 : Env0 P w K mg (hidT s₁.heap H) callerA [] s₁ H := ⟨rfl, hM, fun b o e => of_hidT e, Nat.le_of_eq (hidT_size _ _), trivial, fun b hb => absurd (show b ∈ ([] : List Addr) from hb) (by simp), hok, .of_eq hg⟩
    refine codeAny_mono ((F _ hKb (nsK hns)).run callerA [] s₁ H ⟨[.ref a], []⟩ [.ref a] [.ref a] _ _ hr e0 (hbind s₁ (.ref a)) (.cons rfl .nil) (hsp H hO hS)) fun r s' h => ?_
    cases r with
    | error e => exact (hCX H e s' h).elim
    | ok fl =>
      cases fl with
      | next => exact False.elim h
      | brk => exact False.elim h
      | cont => exact False.elim h
      | ret u =>
        obtain ⟨v, H', os, bare, un, hok', r', q⟩ := h
        have q' : v = .bl true := q
        subst q'
        obtain rfl : u = Value.bool true := r'
        refine ⟨rfl, OldK.of_keep fun b o e => ?_, os, bare⟩
        cases q : H b with
        | none => exact un.keep b o e q (by intro z; exact absurd (show b ∈ ([] : List Addr) from z) (by simp)) (by simp)
        | some u =>
          rcases hO b with z | ⟨ob, xs, z⟩
          · rw [q] at z; cases z
          · have z2 := un.frzs b ob _ z
            obtain ⟨e1, _⟩ := hok b _ z
            obtain ⟨e2, _⟩ := hok' b _ z2
            rw [e] at e1; cases e1
            exact e2
  cases hk : K.lookup a with
  | some o =>
    -- the script is one of the module's own objects
    have e := KX a o hk
    rw [ha] at e
    cases e
    refine core (fun _ => none) (fun _ => .inl rfl) (.inr ⟨_, vs.toArray, _, hk, rfl, rfl, rfl, by rw [List.size_toArray, lenV]; exact hl, by simpa using rv⟩) (fun b u z => by have z' : (none : Option HO) = some u := z; cases z') (fun b z => absurd rfl z) fun z => absurd rfl z
  | none =>
    refine core (fun b => if b = a then some (.frz { cls := .type "list", data := .seq vs.toArray } (.lst (ns.map V.int))) else none) (fun b => ?_) (.inl (.inr ⟨{ cls := .type "list", data := .seq vs.toArray }, if_pos rfl⟩)) (fun b u z => ?_) (fun b z => ?_) fun _ => hk
    · by_cases hb : b = a
      · exact .inr ⟨_, _, if_pos hb⟩
      · exact .inl (if_neg hb)
    · by_cases hb : b = a
      · have z' := (if_pos hb).symm.trans z
        cases z'
        subst hb
        exact ⟨ha, by rw [List.length_map]; exact hl, vs, _, rv, ha⟩
      · have z' := (if_neg hb).symm.trans z
        cases z'
    · by_cases hb : b = a
      · exact hb
      · exact absurd (if_neg hb) z
end L2
namespace L2
open PySem PySem.Spec PyProof.Rows
noncomputable abbrev KOf {K : PySem.W.Frag} {h : Heap} (_ : K.In h) : PySem.W.Frag := K
theorem walk_of {l : PySem.W.OpenLaw} {n k : Nat} {q : Program} {loose : List Str} {XP : (Str → Option Value) → Heap → Prop} {YP : World → Heap → Prop} {d : DefRec} {K : Params → PySem.W.Frag} {CX : World → CXT} {sp : World → Sp} {x : Str}
    (hn : l.most = some n) (hn2 : n ≤ sizeLine) (hdf : d.params.defaults = []) (hr : Room k callerA)
    (hY : ∀ (w : World) (h : Heap), YP w h → (K w.params).In h)
    (F : ∀ (w : World) (mg : Str → Option Value) (fa : Addr) (h : Heap), (K w.params).In h → h.Ns mainGlobals mg → mg d.name = some (.ref fa) →
      ∃ fd : FuncData, (∀ (s : Shared) (u : Value), BindsTo s fd ⟨[u], []⟩ [(x, u)]) ∧
        ∀ base : Heap, (K w.params).In base → base.Ns mainGlobals mg → FnOk l.prog w (K w.params) mg base (CX w) k fa fd [x] (sp w))
    (hsp : ∀ (w : World) (H : Hp) (a : Addr) (ns : List Int), ns.length ≤ n → Only H → SqL (K w.params) H a (ns.map V.int) → sp w [.ref a] H (fun v _ => v = .bl true) fun _ _ _ => False)
    (hCX : ∀ (w : World) (H : Hp) (s : Shared) (e : Value) (s' : Shared), CX w [] H s (fun _ _ _ => False) e s' → False) :
    PySem.W.WalkO q loose XP YP l.row.toRowW d [] (fun f vs => PySem.call f vs) := by
  refine Att.attach_call hn hdf fun w s₀ s₁ mg mb fa o pm cd doc a vs ns G Y ho hd hcd hmg hobj hints hlen hg => ?_
  have KX := hY w _ Y
  obtain ⟨fd, hb, hF⟩ := F w mg fa _ KX G.T.g hmg
  exact law_call KX G.T.g G.T.b G.T.builtins G.T.nolimit hg hobj hints (Nat.le_trans hlen hn2) hr hF hb (fun H hO hS => hsp w H a ns hlen hO hS) fun H e s' => hCX w H s₁ e s'
theorem walk_ofK {l : PySem.W.OpenLaw} {n k : Nat} {q : Program} {loose : List Str} {XP : (Str → Option Value) → Heap → Prop} {YP : World → Heap → Prop} {d : DefRec} {K : Params → PySem.W.Frag} {CX : CXT} {sp : PySem.W.Frag → Sp} {x : Str}
    (hn : l.most = some n) (hn2 : n ≤ sizeLine) (hdf : d.params.defaults = []) (hr : Room k callerA)
    (hY : ∀ (w : World) (h : Heap), YP w h → (K w.params).In h)
    (F : ∀ (w : World) (mg : Str → Option Value) (fa : Addr) (h : Heap), (K w.params).In h → h.Ns mainGlobals mg → mg d.name = some (.ref fa) →
      ∃ fd : FuncData, (∀ (s : Shared) (u : Value), BindsTo s fd ⟨[u], []⟩ [(x, u)]) ∧
        ∀ base : Heap, (K w.params).In base → base.Ns mainGlobals mg → FnOk l.prog w (K w.params) mg base CX k fa fd [x] (sp (K w.params)))
    (hsp : ∀ (K : PySem.W.Frag) (H : Hp) (a : Addr) (ns : List Int), ns.length ≤ n → Only H → SqL K H a (ns.map V.int) → sp K [.ref a] H (fun v _ => v = .bl true) fun _ _ _ => False)
    (hCX : ∀ (H : Hp) (s : Shared) (e : Value) (s' : Shared), CX [] H s (fun _ _ _ => False) e s' → False) :
    PySem.W.WalkO q loose XP YP l.row.toRowW d [] (fun f vs => PySem.call f vs) :=
  walk_of (K := K) (CX := fun _ => CX) (sp := fun w => sp (K w.params)) hn hn2 hdf hr hY F (fun w H a ns h1 h2 h3 => hsp (K w.params) H a ns h1 h2 h3) fun _ H s e s' => hCX H s e s'
end L2
namespace L2
open PySem PySem.Spec PyProof.Rows
noncomputable def defArgs (s : Stmt) : Arguments := match s with
  | .FunctionDef _ a _ _ _ _ _ _ _ _ => a
  | _ => { posonlyargs := [], args := [], vararg := none, kwonlyargs := [], kw_defaults := [], kwarg := none, defaults := [] }
noncomputable def defBody (s : Stmt) : List Stmt := match s with
  | .FunctionDef _ _ b _ _ _ _ _ _ _ => b
  | _ => []
noncomputable def defScope (s : Stmt) : Scope := match s with
  | .FunctionDef _ _ _ _ _ _ sc _ _ _ => sc
  | _ => { kind := .function, names := [], isGenerator := false, isCoroutine := false }
noncomputable abbrev CX0 : CXT := fun _ _ _ _ _ _ => False
noncomputable abbrev E0 : XK := fun _ _ _ => False
theorem pass0 {X : Cx} : Passes CX0 X E0 := fun _ _ _ _ _ _ _ h => h.elim
structure Fun (K : PySem.W.Frag) (x qual : Str) (st : Stmt) (f : Addr) (fd : FuncData) : Prop where
  ex : ∃ (oc : Value) (od : Option Addr) (kV doc pm : Value) (an : Option Addr) (cdv ct : Value) (osl : Array (Option Value)),
    fd = PySem.W.fnOf x qual (defArgs st) (defBody st) (defScope st) .none kV doc pm an cdv ct ∧ K.lookup f = some ⟨oc, od, .func fd, osl⟩ ∧ PySem.W.codeIn K cdv qual = true
  kp : PySem.W.keepIn K (.ref f) = true
section
variable {P : Program} {w : World} {K : PySem.W.Frag} {mg : Str → Option Value} {base : Heap}
theorem Fun.ok {x qual : Str} {st : Stmt} {f : Addr} {fd : FuncData} {N ps : List Str} {k : Nat} {sp : Sp} (F : Fun K x qual st f fd) (S : FnScope N ps (defScope st)) (len : ∀ vs H Q E, sp vs H Q E → vs.length = ps.length)
    (hbody : ∀ (cdv : Value) (A : Around) (outer : List Env) (s : Shared) (H : Hp) (vs : List V) (Q : VK) (E : XK), Room k (A.deeper (envOfC qual (defScope st) s.heap.objs.size f cdv)) → sp vs H Q E →
      ∃ t, PSs (cxOf CX0 P w K mg base N qual (defScope st) f cdv A outer s H E).nox (defBody st) t ∧ t { nx := fun _ H' => Q .non H', rt := Q } (start N vs) H) : FnOk P w K mg base CX0 (k + 1) f fd ps sp := by
  obtain ⟨oc, od, kV, doc, pm, an, cdv, ct, osl, rfl, lk, hcd⟩ := F.ex
  refine fn_of lk hcd S len fun A outer s H vs Q E hr hsp => ?_
  obtain ⟨t, h, q⟩ := hbody cdv A outer s H vs Q E hr hsp
  exact ⟨t, h.nox, q⟩
theorem Fun.binds {x qual : Str} {st : Stmt} {f : Addr} {fd : FuncData} {ps : List Str} (F : Fun K x qual st f fd)
    (h : ∀ (kV doc pm : Value) (an : Option Addr) (cdv ct : Value) (us : List Value), us.length = ps.length → bindArgs (PySem.W.fnOf x qual (defArgs st) (defBody st) (defScope st) .none kV doc pm an cdv ct) ⟨us, []⟩ = pure (ps.zip us)) : Binds K fd ps [] := by
  obtain ⟨oc, od, kV, doc, pm, an, cdv, ct, osl, rfl, lk, hcd⟩ := F.ex
  exact .all (h kV doc pm an cdv ct)
theorem fun_mk {x qual : Str} {st : Stmt} {f : Addr} {oc : Value} {od an : Option Addr} {osl : Array (Option Value)} {kV doc pm cdv ct : Value} (l : K.lookup f = some ⟨oc, od, .func (PySem.W.fnOf x qual (defArgs st) (defBody st) (defScope st) .none kV doc pm an cdv ct), osl⟩)
    (c : PySem.W.codeIn K cdv qual = true) (k : PySem.W.keepIn K (.ref f) = true) : Fun K x qual st f (PySem.W.fnOf x qual (defArgs st) (defBody st) (defScope st) .none kV doc pm an cdv ct) := ⟨⟨oc, od, kV, doc, pm, an, cdv, ct, osl, rfl, l, c⟩, k⟩
end
section
variable {X : Cx}
theorem pv (i : Nat) {x : Str} {pos : Pos} (hN : X.N[i]? = some x := by rfl) (hv : Vis X.env.scope x := by first | exact Or.inl rfl | exact Or.inr (Or.inl rfl) | exact Or.inr (Or.inr rfl)) (hd : (x == ("__debug__" : Str)) = false := by decide)
    (hcd : (x == ("__classdict__" : Str)) = false := by decide) : PE X (.Name x pos) (tVar i) := pe_var hN hv hd hcd
end
end L2
set_option maxHeartbeats 4000000
set_option autoImplicit false
namespace DL
open PySem PySem.Spec PyProof.Rows L2
noncomputable def numOf : Value → Option Int
  | .int i _ => some i
  | .bool b => some (if b then 1 else 0)
  | _ => none
noncomputable def numIs (k : Int) (v : Value) : Bool := numOf v == some k
theorem numIs_shape {k : Int} {v : Value} (h : numIs k v = true) : (∃ t, v = .int k t) ∨ ∃ b, v = .bool b ∧ k = (if b then 1 else 0) := by
  have h : numOf v = some k := eq_of_beq h
  cases v with
  | int i t => exact .inl ⟨t, by cases h; rfl⟩
  | bool b => exact .inr ⟨b, rfl, (Option.some.inj h).symm⟩
  | _ => cases h
section
variable {prog : Program} {w : World} {A : Around} {E : Value → Shared → Prop} {s : Shared}
theorem pyHash_bool {b : Bool} {Q : Int → Shared → Prop} (h : Q (hashInt (if b then 1 else 0)) { s with toks := s.toks + 1 }) : wpAny (model prog w) A (pyHash (.bool b)) Q E s := by
  have hr := rawHash_range (if b then 1 else 0)
  have tb : s.TypeIs (.bool b) "bool" := rfl
  unfold pyHash
  have hv : [Value.bool b].any Value.onHeap = false := rfl
  refine wpAny_bind ?_
  rw [cRoomFor, if_neg (by rw [hv]; exact Bool.false_ne_true)]; refine wpAny_pure ?_
  refine wpAny_bind (wpAny_specialOf tb F.slot_bool_hash.lookup ?_)
  show wpAny _ _ (if (some (Value.builtin "int.__hash__") == some Value.none) = true then _ else _) Q E s
  rw [if_neg (by rw [beq_builtin_none]; exact Bool.false_ne_true)]
  refine wpAny_bind (wpAny_specialOf tb F.slot_bool_hash.lookup ?_)
  show wpAny _ _ (callSpecialIfBoundUnlessNone? (.bool b) "__hash__" _ >>= _) Q E s
  refine wpAny_bind (wpAny_callSpecialIfBoundUnlessNone?_slot tb F.slot_bool_hash
    (wpAny_call_entry F.slot_bool_hash tb entry_int_hash
      (show wpAny _ _ (do ret (← mkInt (rawHash (if b then 1 else 0)))) _ _ s from wpAny_ret_mkInt ?_) (args_int_hash _)))
  show wpAny _ _ (if (decide (-(2 : Int) ^ 63 ≤ rawHash (if b then 1 else 0)) && decide (rawHash (if b then 1 else 0) < 2 ^ 63)) = true then _ else _) Q E _
  rw [if_pos (by rw [decide_eq_true hr.1, decide_eq_true hr.2]; rfl)]
  exact wpAny_pure h
end
noncomputable def numKind (prog : Program) (w : World) : KeyKind prog w Int where
  is := numIs
  hash := hashInt
  inj := fun v a b ha hb => by
    unfold numIs at ha hb
    have := (eq_of_beq ha).symm.trans (eq_of_beq hb)
    exact Option.some.inj this
  byValue := fun k v h => by rcases numIs_shape h with ⟨t, rfl⟩ | ⟨b, rfl, _⟩ <;> rfl
  pyHash := fun hv h => by
    rcases numIs_shape hv with ⟨t, rfl⟩ | ⟨b, rfl, rfl⟩
    · exact wpAny_pyHash_int h
    · exact pyHash_bool h
  eqBool := fun {A E s a b u v Q} hu hv h => by
    rcases numIs_shape hu with ⟨t, rfl⟩ | ⟨c, rfl, rfl⟩ <;> rcases numIs_shape hv with ⟨t', rfl⟩ | ⟨c', rfl, rfl⟩
    · exact wpAny_eqBool_int h
    · exact PySem.SeqAt.EqAt.int_bool _ _ _ prog w E Q h
    · exact PySem.SeqAt.EqAt.bool_int _ _ _ prog w E Q h
    · refine PySem.SeqAt.EqAt.bool_bool _ _ prog w E Q ?_
      have e : (c == c') = decide ((if c then (1 : Int) else 0) = (if c' then 1 else 0)) := by cases c <;> cases c' <;> rfl
      rw [e]; exact h
  «strs» := fun k x t v h => by simp [numIs, numOf] at h
end DL
namespace DL
open PySem PySem.Spec PyProof.Rows L2
inductive D where
  | non | bl (b : Bool) | int (i : Int) | str (x : Str) | ty (n : String) | tup (xs : List D) | fl (xs : List D) | ref (n : Nat)
inductive DO where
  | lst (xs : List D) | dic (kvs : List (D × D)) (fz : Bool) | dci (kvs : List (Int × D)) | dcn (kvs : List (D × D))
noncomputable abbrev HD := List DO
noncomputable abbrev SD := List (Option D)
noncomputable def FzL (K : PySem.W.Frag) (H : Hp) (a : Addr) (xs : List V) : Prop :=
  (∃ o, H a = some (.frz o (.lst xs))) ∨
    ∃ (o : Obj) (its : Array Value) (n : Nat), K.lookup a = some o ∧ o.cls = .type "list" ∧ o.dict = none ∧ o.data = .seq its n ∧ its.size ≤ sizeLine ∧ Vals xs its.toList
theorem FzL.sq {K : PySem.W.Frag} {H : Hp} {a : Addr} {xs : List V} (h : FzL K H a xs) : SqL K H a xs := by
  rcases h with h | h
  · exact .inl (.inr h)
  · exact .inr h
mutual
noncomputable def Rep (K : PySem.W.Frag) (H : Hp) (ι : List Addr) : D → V → Prop
  | .non, v => v = .non
  | .bl b, v => v = .bl b
  | .int i, v => v = .int i
  | .str x, v => v = .str x
  | .ty n, v => v = .ty n
  | .tup ds, v => ∃ a vs, v = .ref a ∧ SqT K H a vs ∧ RepL K H ι ds vs
  | .fl ds, v => ∃ a vs, v = .ref a ∧ FzL K H a vs ∧ RepL K H ι ds vs
  | .ref n, v => ∃ a, v = .ref a ∧ ι[n]? = some a
noncomputable def RepL (K : PySem.W.Frag) (H : Hp) (ι : List Addr) : List D → List V → Prop
  | [], vs => vs = []
  | d :: ds, vs => ∃ v r, vs = v :: r ∧ Rep K H ι d v ∧ RepL K H ι ds r
end
section
variable {α β : Type} {F G : α → β → Prop}
theorem Prd.len : ∀ {xs : List α} {us : List β}, Paired F xs us → xs.length = us.length
  | _, _, .nil => rfl
  | _, _, .cons _ t => by simp [Prd.len t]
theorem Prd.get : ∀ {xs : List α} {us : List β} {i : Nat} {x : α}, Paired F xs us → xs[i]? = some x → ∃ u, us[i]? = some u ∧ F x u
  | _, _, _, _, .nil, e => by simp at e
  | _, _, 0, _, .cons r _, e => by simp at e; subst e; exact ⟨_, rfl, r⟩
  | _, _, i + 1, x, .cons _ t, e => by
    obtain ⟨u, h1, h2⟩ := Prd.get (i := i) (x := x) t (by simpa using e)
    exact ⟨u, by simpa using h1, h2⟩
theorem Prd.append : ∀ {xs ys : List α} {us ws : List β}, Paired F xs us → Paired F ys ws → Paired F (xs ++ ys) (us ++ ws)
  | _, _, _, _, .nil, s => s
  | _, _, _, _, .cons r t, s => .cons r (Prd.append t s)
theorem Prd.take : ∀ {xs : List α} {us : List β} (n : Nat), Paired F xs us → Paired F (xs.take n) (us.take n)
  | _, _, 0, _ => .nil
  | _, _, _ + 1, .nil => .nil
  | _, _, n + 1, .cons r t => .cons r (Prd.take n t)
theorem Prd.drop : ∀ {xs : List α} {us : List β} (n : Nat), Paired F xs us → Paired F (xs.drop n) (us.drop n)
  | _, _, 0, r => r
  | _, _, _ + 1, .nil => .nil
  | _, _, n + 1, .cons _ t => Prd.drop n t
theorem Prd.eraseIdx : ∀ {xs : List α} {us : List β} (i : Nat), Paired F xs us → Paired F (xs.eraseIdx i) (us.eraseIdx i)
  | _, _, _, .nil => .nil
  | _, _, 0, .cons _ t => t
  | _, _, i + 1, .cons r t => .cons r (Prd.eraseIdx i t)
theorem Prd.rep {xs : List α} {us : List β} (h : Paired F xs us) : ∀ k : Nat, Paired F (List.replicate k xs).flatten (List.replicate k us).flatten
  | 0 => .nil
  | k + 1 => by
    rw [List.replicate_succ, List.flatten_cons, List.replicate_succ, List.flatten_cons]
    exact Prd.append h (Prd.rep h k)
theorem Prd.imp : ∀ {xs : List α} {us : List β}, Paired F xs us → (∀ a b, a ∈ xs → F a b → G a b) → Paired G xs us
  | _, _, .nil, _ => .nil
  | _, _, .cons r t, f => .cons (f _ _ (by simp) r) (Prd.imp t fun a b h => f a b (by simp [h]))
end
section
variable {K : PySem.W.Frag} {H H' : Hp} {ι ι' : List Addr}
theorem repL_iff : ∀ {ds : List D} {vs : List V}, RepL K H ι ds vs ↔ Paired (Rep K H ι) ds vs
  | [], vs => by
    constructor
    · intro h; rw [RepL] at h; subst h; exact .nil
    · intro h; cases h; rw [RepL]
  | d :: ds, vs => by
    constructor
    · intro h; rw [RepL] at h
      obtain ⟨v, r, rfl, h1, h2⟩ := h
      exact .cons h1 (repL_iff.mp h2)
    · intro h
      cases h with
      | cons h1 h2 => rw [RepL]; exact ⟨_, _, rfl, h1, repL_iff.mpr h2⟩
@[simp] theorem rep_non {v : V} : Rep K H ι .non v ↔ v = .non := by rw [Rep]
@[simp] theorem rep_bl {b : Bool} {v : V} : Rep K H ι (.bl b) v ↔ v = .bl b := by rw [Rep]
@[simp] theorem rep_int {i : Int} {v : V} : Rep K H ι (.int i) v ↔ v = .int i := by rw [Rep]
@[simp] theorem rep_str {x : Str} {v : V} : Rep K H ι (.str x) v ↔ v = .str x := by rw [Rep]
@[simp] theorem rep_ty {n : String} {v : V} : Rep K H ι (.ty n) v ↔ v = .ty n := by rw [Rep]
theorem rep_tup {ds : List D} {v : V} : Rep K H ι (.tup ds) v ↔ ∃ a vs, v = .ref a ∧ SqT K H a vs ∧ Paired (Rep K H ι) ds vs := by
  rw [Rep]
  constructor
  · rintro ⟨a, vs, h1, h2, h3⟩; exact ⟨a, vs, h1, h2, repL_iff.mp h3⟩
  · rintro ⟨a, vs, h1, h2, h3⟩; exact ⟨a, vs, h1, h2, repL_iff.mpr h3⟩
theorem rep_fl {ds : List D} {v : V} : Rep K H ι (.fl ds) v ↔ ∃ a vs, v = .ref a ∧ FzL K H a vs ∧ Paired (Rep K H ι) ds vs := by
  rw [Rep]
  constructor
  · rintro ⟨a, vs, h1, h2, h3⟩; exact ⟨a, vs, h1, h2, repL_iff.mp h3⟩
  · rintro ⟨a, vs, h1, h2, h3⟩; exact ⟨a, vs, h1, h2, repL_iff.mpr h3⟩
theorem rep_ref {n : Nat} {v : V} : Rep K H ι (.ref n) v ↔ ∃ a, v = .ref a ∧ ι[n]? = some a := by rw [Rep]
structure Lw (K : PySem.W.Frag) (H : Hp) (ι : List Addr) (H' : Hp) (ι' : List Addr) : Prop where
  tup : ∀ a xs, SqT K H a xs → SqT K H' a xs
  fz : ∀ a xs, FzL K H a xs → FzL K H' a xs
  pre : ∃ t, ι' = ι ++ t
  fr : ∀ a o u, H a = some (.frz o u) → H' a = some (.frz o u)
structure Le (K : PySem.W.Frag) (H : Hp) (ι : List Addr) (H' : Hp) (ι' : List Addr) : Prop extends Lw K H ι H' ι' where
  frame : ∀ a o, H a = some o → a ∉ ι → H' a = some o ∧ a ∉ ι'
theorem Le.refl : Le K H ι H ι := ⟨⟨fun _ _ h => h, fun _ _ h => h, ⟨[], by simp⟩, fun _ _ _ h => h⟩, fun _ _ h n => ⟨h, n⟩⟩
theorem Le.trans {H1 H2 : Hp} {ι1 ι2 : List Addr} (a : Le K H ι H1 ι1) (b : Le K H1 ι1 H2 ι2) : Le K H ι H2 ι2 := by
  refine ⟨⟨fun x xs h => b.tup x xs (a.tup x xs h), fun x xs h => b.fz x xs (a.fz x xs h), ?_, fun x o u h => b.fr x o u (a.fr x o u h)⟩, fun x o h n => ?_⟩
  · obtain ⟨t, e⟩ := a.pre
    obtain ⟨u, e'⟩ := b.pre
    exact ⟨t ++ u, by rw [e', e, List.append_assoc]⟩
  · obtain ⟨h1, n1⟩ := a.frame x o h n
    exact b.frame x o h1 n1
theorem Lw.get (l : Lw K H ι H' ι') {n : Nat} {a : Addr} (h : ι[n]? = some a) : ι'[n]? = some a := by
  obtain ⟨t, e⟩ := l.pre
  rw [e, List.getElem?_append_left (by exact (List.getElem?_eq_some_iff.mp h).1), h]
mutual
theorem Rep.monoW (l : Lw K H ι H' ι') : ∀ {d : D} {v : V}, Rep K H ι d v → Rep K H' ι' d v
  | .non, v, h => by rw [Rep] at h ⊢; exact h
  | .bl _, v, h => by rw [Rep] at h ⊢; exact h
  | .int _, v, h => by rw [Rep] at h ⊢; exact h
  | .str _, v, h => by rw [Rep] at h ⊢; exact h
  | .ty _, v, h => by rw [Rep] at h ⊢; exact h
  | .tup ds, v, h => by
    rw [Rep] at h ⊢
    obtain ⟨a, vs, h1, h2, h3⟩ := h
    exact ⟨a, vs, h1, l.tup a vs h2, RepL.monoW l h3⟩
  | .fl ds, v, h => by
    rw [Rep] at h ⊢
    obtain ⟨a, vs, h1, h2, h3⟩ := h
    exact ⟨a, vs, h1, l.fz a vs h2, RepL.monoW l h3⟩
  | .ref n, v, h => by
    rw [Rep] at h ⊢
    obtain ⟨a, h1, h2⟩ := h
    exact ⟨a, h1, l.get h2⟩
theorem RepL.monoW (l : Lw K H ι H' ι') : ∀ {ds : List D} {vs : List V}, RepL K H ι ds vs → RepL K H' ι' ds vs
  | [], vs, h => by rw [RepL] at h ⊢; exact h
  | d :: ds, vs, h => by
    rw [RepL] at h ⊢
    obtain ⟨v, r, h1, h2, h3⟩ := h
    exact ⟨v, r, h1, Rep.monoW l h2, RepL.monoW l h3⟩
end
theorem Rep.mono (l : Le K H ι H' ι') {d : D} {v : V} (h : Rep K H ι d v) : Rep K H' ι' d v := Rep.monoW l.toLw h
theorem Prd.monoW (l : Lw K H ι H' ι') {ds : List D} {vs : List V} (h : Paired (Rep K H ι) ds vs) : Paired (Rep K H' ι') ds vs := repL_iff.mp (RepL.monoW l (repL_iff.mpr h))
theorem Prd.mono (l : Le K H ι H' ι') {ds : List D} {vs : List V} (h : Paired (Rep K H ι) ds vs) : Paired (Rep K H' ι') ds vs := Prd.monoW l.toLw h
noncomputable def nkOf : D → Option Int
  | .int i => some i
  | .bl b => some (if b then 1 else 0)
  | _ => none
noncomputable def nksOf : List D → Option (List Int)
  | [] => some []
  | d :: r => (nkOf d).bind fun k => (nksOf r).map fun ks => k :: ks
noncomputable def nk : D → Option (List Int)
  | .tup ds => nksOf ds
  | _ => none
noncomputable def kHash (ks : List Int) : Int := reduceHash (Builtin.Tuple.tupleHashOf (ks.map hashInt))
noncomputable def DicAt (a : Addr) (xs : List (List Int × Addr × Value)) (h : Heap) : Prop :=
  ∃ o es ep, h.get? a = some o ∧ o.ExactDict ∧ o.data = .dict es ep ∧ es.toList = xs.map (fun x => (⟨kHash x.1, .ref x.2.1, x.2.2⟩ : DictEntry)) ∧ (xs.map (·.1)).Nodup
theorem DicAt.keep {a : Addr} {xs : List (List Int × Addr × Value)} {h1 h2 : Heap} (d : DicAt a xs h1) (k : ∀ o, h1.get? a = some o → h2.get? a = some o) : DicAt a xs h2 := by
  obtain ⟨o, es, ep, e, r⟩ := d
  exact ⟨o, es, ep, k o e, r⟩
noncomputable def KRep (K : PySem.W.Frag) (H : Hp) (ι : List Addr) (p : D × D) (x : List Int × Addr × Value) : Prop := nk p.1 = some x.1 ∧ Rep K H ι p.1 (.ref x.2.1) ∧ ∃ v, RelV v x.2.2 ∧ Rep K H ι p.2 v
noncomputable def DciAt (a : Addr) (xs : List (Int × Value)) (h : Heap) : Prop := ∀ (p : Program) (w : World), h.DictOf (numKind p w) a xs
noncomputable def IRep (K : PySem.W.Frag) (H : Hp) (ι : List Addr) (p : Int × D) (x : Int × Value) : Prop := p.1 = x.1 ∧ ∃ v, RelV v x.2 ∧ Rep K H ι p.2 v
noncomputable def nk2 : D → Option (Int × List Int)
  | .tup [a, b] => (nkOf a).bind fun i => (nk b).map fun ks => (i, ks)
  | _ => none
noncomputable def nHash (k : Int × List Int) : Int := reduceHash (Builtin.Tuple.tupleHashOf [hashInt k.1, kHash k.2])
noncomputable def DcnAt (a : Addr) (xs : List ((Int × List Int) × Addr × Value)) (h : Heap) : Prop :=
  ∃ o es ep, h.get? a = some o ∧ o.ExactDict ∧ o.data = .dict es ep ∧ es.toList = xs.map (fun x => (⟨nHash x.1, .ref x.2.1, x.2.2⟩ : DictEntry)) ∧ (xs.map (·.1)).Nodup
noncomputable def NRep (K : PySem.W.Frag) (H : Hp) (ι : List Addr) (p : D × D) (x : (Int × List Int) × Addr × Value) : Prop := nk2 p.1 = some x.1 ∧ Rep K H ι p.1 (.ref x.2.1) ∧ ∃ v, RelV v x.2.2 ∧ Rep K H ι p.2 v
noncomputable def ORep (K : PySem.W.Frag) (H : Hp) (ι : List Addr) (a : Addr) : DO → Prop
  | .lst ds => ∃ vs, H a = some (.lst vs) ∧ Paired (Rep K H ι) ds vs
  | .dic kvs fz => (a == sysModules) = false ∧ kvs.length ≤ sizeLine ∧ ∃ xs, (if fz = true then ∃ o, H a = some (.frz o (.ext (DicAt a xs))) else H a = some (.ext (DicAt a xs))) ∧ Paired (KRep K H ι) kvs xs
  | .dci kvs => (a == sysModules) = false ∧ kvs.length ≤ sizeLine ∧ ∃ xs, H a = some (.ext (DciAt a xs)) ∧ Paired (IRep K H ι) kvs xs
  | .dcn kvs => (a == sysModules) = false ∧ kvs.length ≤ sizeLine ∧ ∃ xs, H a = some (.ext (DcnAt a xs)) ∧ Paired (NRep K H ι) kvs xs
structure HRep (K : PySem.W.Frag) (H : Hp) (ι : List Addr) (Hd : HD) : Prop where
  len : ι.length = Hd.length
  nd : ι.Nodup
  obj : ∀ (n : Nat) (a : Addr) (o : DO), ι[n]? = some a → Hd[n]? = some o → ORep K H ι a o
theorem ORep.there {a : Addr} {o : DO} (h : ORep K H ι a o) : H a ≠ none := by
  cases o with
  | lst ds => obtain ⟨vs, e, _⟩ := h; rw [e]; simp
  | dic kv fz =>
    obtain ⟨_, _, xs, e, _⟩ := h
    cases fz with
    | true => rw [if_pos rfl] at e; obtain ⟨ob, e⟩ := e; rw [e]; simp
    | false => rw [if_neg (by simp)] at e; rw [e]; simp
  | dci kv => obtain ⟨_, _, xs, e, _⟩ := h; rw [e]; simp
  | dcn kv => obtain ⟨_, _, xs, e, _⟩ := h; rw [e]; simp
theorem ORep.step {a : Addr} {o : DO} (h : ORep K H ι a o) (l : Lw K H ι H' ι') (e : H' a = H a) : ORep K H' ι' a o := by
  cases o with
  | lst ds => obtain ⟨vs, q, r⟩ := h; exact ⟨vs, by rw [e, q], Prd.monoW l r⟩
  | dic kv fz => obtain ⟨h1, h2, xs, q, r⟩ := h; exact ⟨h1, h2, xs, by rw [e]; exact q, Prd.imp r fun p x _ z => ⟨z.1, Rep.monoW l z.2.1, let ⟨v, z1, z2⟩ := z.2.2; ⟨v, z1, Rep.monoW l z2⟩⟩⟩
  | dci kv => obtain ⟨h1, h2, xs, q, r⟩ := h; exact ⟨h1, h2, xs, by rw [e]; exact q, Prd.imp r fun p x _ z => ⟨z.1, let ⟨v, z1, z2⟩ := z.2; ⟨v, z1, Rep.monoW l z2⟩⟩⟩
  | dcn kv => obtain ⟨h1, h2, xs, q, r⟩ := h; exact ⟨h1, h2, xs, by rw [e]; exact q, Prd.imp r fun p x _ z => ⟨z.1, Rep.monoW l z.2.1, let ⟨v, z1, z2⟩ := z.2.2; ⟨v, z1, Rep.monoW l z2⟩⟩⟩
theorem HRep.has {Hd : HD} (h : HRep K H ι Hd) {a : Addr} (hm : a ∈ ι) : ∃ (n : Nat) (o : DO), ι[n]? = some a ∧ Hd[n]? = some o ∧ ORep K H ι a o := by
  obtain ⟨n, hn⟩ := List.mem_iff_getElem?.mp hm
  have hl : n < Hd.length := by rw [← h.len]; exact (List.getElem?_eq_some_iff.mp hn).1
  exact ⟨n, Hd[n], hn, by simp [hl], h.obj n a Hd[n] hn (by simp [hl])⟩
theorem HRep.fresh {Hd : HD} (h : HRep K H ι Hd) {p : Addr} (hp : H p = none) : p ∉ ι := fun hm => by
  obtain ⟨_, _, _, _, o⟩ := h.has hm
  exact o.there hp
theorem HRep.keep {Hd : HD} (h : HRep K H ι Hd) (l : Lw K H ι H' ι) (e : ∀ a ∈ ι, H' a = H a) : HRep K H' ι Hd :=
  ⟨h.len, h.nd, fun n a o h1 h2 => (h.obj n a o h1 h2).step l (e a (List.mem_of_getElem? h1))⟩
theorem Lw.fresh {p : Addr} (hp : H p = none) (o : HO) : Lw K H ι (upd H p o) ι where
  tup := fun a xs h => by
    rcases h with (h | ⟨ob, h⟩) | h
    · exact .inl (.inl (by rw [upd_ne (ne_of_none h hp)]; exact h))
    · exact .inl (.inr ⟨ob, by rw [upd_ne (ne_of_none h hp)]; exact h⟩)
    · exact .inr h
  fz := fun a xs h => by
    rcases h with ⟨ob, h⟩ | h
    · exact .inl ⟨ob, by rw [upd_ne (ne_of_none h hp)]; exact h⟩
    · exact .inr h
  pre := ⟨[], by simp⟩
  fr := fun a ob u h => by rw [upd_ne (ne_of_none h hp)]; exact h
theorem Le.fresh {p : Addr} (hp : H p = none) (o : HO) : Le K H ι (upd H p o) ι := ⟨Lw.fresh hp o, fun a ob h n => ⟨by rw [upd_ne (ne_of_none h hp)]; exact h, n⟩⟩
theorem Le.fresh1 {p : Addr} (hp : H p = none) (o : HO) : Le K H ι (upd H p o) (ι ++ [p]) where
  tup := (Le.fresh (ι := ι) hp o).tup
  fz := (Le.fresh (ι := ι) hp o).fz
  pre := ⟨[p], rfl⟩
  fr := (Le.fresh (K := K) (ι := ι) hp o).fr
  frame := fun a ob h n => ⟨by rw [upd_ne (ne_of_none h hp)]; exact h, by
    have := ne_of_none h hp
    simp [n, this]⟩
theorem HRep.tup {Hd : HD} (h : HRep K H ι Hd) {p : Addr} (hp : H p = none) (o : HO) : HRep K (upd H p o) ι Hd :=
  h.keep (Lw.fresh hp o) fun a ha => upd_ne fun z => by subst z; exact h.fresh hp ha
theorem HRep.new {Hd : HD} (h : HRep K H ι Hd) {p : Addr} (hp : H p = none) {u : HO} {o : DO} (ho : ORep K (upd H p u) (ι ++ [p]) p o) : HRep K (upd H p u) (ι ++ [p]) (Hd ++ [o]) := by
  have hf := h.fresh hp
  refine ⟨by simp [h.len], by simp only [List.nodup_append, h.nd, true_and]; exact ⟨by simp, fun a ha b hb e => hf (by simp at hb; rw [← hb, ← e]; exact ha)⟩, fun n a ob h1 h2 => ?_⟩
  by_cases hn : n < ι.length
  · rw [List.getElem?_append_left hn] at h1
    rw [List.getElem?_append_left (by rw [← h.len]; exact hn)] at h2
    have ha : a ∈ ι := List.mem_of_getElem? h1
    exact (h.obj n a ob h1 h2).step (Le.fresh1 hp u).toLw (upd_ne fun z => by subst z; exact hf ha)
  · rw [List.getElem?_append_right (by omega)] at h1
    rw [List.getElem?_append_right (by rw [← h.len]; omega)] at h2
    rw [← h.len] at h2
    have : n - ι.length = 0 := by
      have := (List.getElem?_eq_some_iff.mp h1).1
      simp at this; omega
    rw [this] at h1 h2
    simp at h1 h2
    subst h1; subst h2
    exact ho
noncomputable def Loose : HO → Prop
  | .lst _ => True
  | .ext _ => True
  | _ => False
theorem Le.upd {a : Addr} (ha : a ∈ ι) {o : HO} (e : H a = some o) (lo : Loose o) (u : HO) : Le K H ι (upd H a u) ι where
  tup := fun b xs h => by
    rcases h with (h | ⟨ob, h⟩) | h
    · refine .inl (.inl ?_)
      rw [upd_ne (ne_of h e (by rintro rfl; exact lo))]; exact h
    · refine .inl (.inr ⟨ob, ?_⟩)
      rw [upd_ne (ne_of h e (by rintro rfl; exact lo))]; exact h
    · exact .inr h
  fz := fun b xs h => by
    rcases h with ⟨ob, h⟩ | h
    · refine .inl ⟨ob, ?_⟩
      rw [upd_ne (ne_of h e (by rintro rfl; exact lo))]; exact h
    · exact .inr h
  pre := ⟨[], by simp⟩
  fr := fun b ob w h => by rw [upd_ne (ne_of h e (by rintro rfl; exact lo))]; exact h
  frame := fun b ob h n => ⟨by rw [upd_ne (by rintro rfl; exact n ha)]; exact h, n⟩
theorem HRep.upd {Hd : HD} (h : HRep K H ι Hd) {n : Nat} {a : Addr} (hn : ι[n]? = some a) {o u : HO} (e : H a = some o) (lo : Loose o) {ob : DO} (ho : ORep K (upd H a u) ι a ob) : HRep K (upd H a u) ι (Hd.set n ob) := by
  refine ⟨by simp [h.len], h.nd, fun m b oc h1 h2 => ?_⟩
  by_cases hm : n = m
  · subst hm
    rw [hn] at h1; cases h1
    rw [List.getElem?_set] at h2
    rw [if_pos rfl] at h2
    split at h2
    · cases h2; exact ho
    · cases h2
  · rw [List.getElem?_set_ne hm] at h2
    have hb : b ≠ a := fun z => by
      subst z
      have l1 := (List.getElem?_eq_some_iff.mp hn).1
      exact hm ((List.getElem?_inj l1 h.nd).mp (hn.trans h1.symm))
    exact (h.obj m b oc h1 h2).step (Le.upd (List.mem_of_getElem? hn) e lo u).toLw (upd_ne hb)
theorem HRep.add {Hd : HD} (h : HRep K H ι Hd) {p : Addr} (hp : p ∉ ι) {o : DO} (ho : ORep K H (ι ++ [p]) p o) : HRep K H (ι ++ [p]) (Hd ++ [o]) := by
  refine ⟨by simp [h.len], by simp only [List.nodup_append, h.nd, true_and]; exact ⟨by simp, fun a ha b hb e => hp (by simp at hb; rw [← hb, ← e]; exact ha)⟩, fun n a ob h1 h2 => ?_⟩
  by_cases hn : n < ι.length
  · rw [List.getElem?_append_left hn] at h1
    rw [List.getElem?_append_left (by rw [← h.len]; exact hn)] at h2
    exact (h.obj n a ob h1 h2).step ⟨fun _ _ z => z, fun _ _ z => z, ⟨[p], rfl⟩, fun _ _ _ z => z⟩ rfl
  · rw [List.getElem?_append_right (by omega)] at h1
    rw [List.getElem?_append_right (by rw [← h.len]; omega)] at h2
    rw [← h.len] at h2
    have : n - ι.length = 0 := by
      have := (List.getElem?_eq_some_iff.mp h1).1
      simp at this; omega
    rw [this] at h1 h2
    simp at h1 h2
    subst h1; subst h2
    exact ho
theorem Lw.side {p : Addr} {ys : List V} (hp : H p = some (.lst ys)) (u : HO) : Lw K H ι (L2.upd H p u) ι where
  tup := fun a xs h => by
    rcases h with (h | ⟨ob, h⟩) | h
    · refine .inl (.inl ?_)
      rw [upd_ne (ne_of h hp (by intro z; cases z))]; exact h
    · refine .inl (.inr ⟨ob, ?_⟩)
      rw [upd_ne (ne_of h hp (by intro z; cases z))]; exact h
    · exact .inr h
  fz := fun a xs h => by
    rcases h with ⟨ob, h⟩ | h
    · refine .inl ⟨ob, ?_⟩
      rw [upd_ne (ne_of h hp (by intro z; cases z))]; exact h
    · exact .inr h
  pre := ⟨[], by simp⟩
  fr := fun a ob w h => by rw [upd_ne (ne_of h hp (by intro z; cases z))]; exact h
theorem Lw.trans {H1 H2 : Hp} {ι1 ι2 : List Addr} (a : Lw K H ι H1 ι1) (b : Lw K H1 ι1 H2 ι2) : Lw K H ι H2 ι2 := by
  refine ⟨fun x xs h => b.tup x xs (a.tup x xs h), fun x xs h => b.fz x xs (a.fz x xs h), ?_, fun x o u h => b.fr x o u (a.fr x o u h)⟩
  obtain ⟨t, e⟩ := a.pre
  obtain ⟨u, e'⟩ := b.pre
  exact ⟨t ++ u, by rw [e', e, List.append_assoc]⟩
theorem Le.side {H1 : Hp} {ι1 : List Addr} {p : Addr} {ys : List V} (l : Le K H ι H1 ι1) (h0 : H p = none) (h1 : H1 p = some (.lst ys)) (u : HO) : Le K H ι (L2.upd H1 p u) ι1 :=
  ⟨l.toLw.trans (Lw.side h1 u), fun a o h n => by
    obtain ⟨q, m⟩ := l.frame a o h n
    exact ⟨by rw [upd_ne (ne_of_none h h0)]; exact q, m⟩⟩
structure SRep (K : PySem.W.Frag) (H : Hp) (ι : List Addr) (σ : L2.St) (σd : SD) : Prop where
  len : σ.length = σd.length
  var : ∀ (i : Nat) (d : D), σd[i]? = some (some d) → ∃ v, σ[i]? = some (some v) ∧ Rep K H ι d v
theorem SRep.mono {σ : L2.St} {σd : SD} (s : SRep K H ι σ σd) (l : Le K H ι H' ι') : SRep K H' ι' σ σd :=
  ⟨s.len, fun i d h => let ⟨v, h1, h2⟩ := s.var i d h; ⟨v, h1, h2.mono l⟩⟩
theorem SRep.set {σ : L2.St} {σd : SD} {d : D} {v : V} (s : SRep K H ι σ σd) (r : Rep K H ι d v) (i : Nat) : SRep K H ι (σ.set i (some v)) (σd.set i (some d)) := by
  refine ⟨by simp [s.len], fun j e h => ?_⟩
  by_cases hj : i = j
  · subst hj
    rw [List.getElem?_set] at h ⊢
    rw [if_pos rfl] at h ⊢
    split at h
    · rename_i hl
      rw [if_pos (by rw [s.len]; exact hl)]
      cases h
      exact ⟨v, rfl, r⟩
    · cases h
  · rw [List.getElem?_set_ne hj] at h ⊢
    exact s.var j e h
end
noncomputable def noStar : Expr → Bool
  | .Starred _ _ => false
  | _ => true
theorem star_cons {e : Expr} {es : List Expr} {env : Env} (h : noStar e = true) : starEach (e :: es) env = (false, eval e env) :: starEach es env := by
  cases e <;> first | rfl | cases h
theorem star_any {pos : Pos} {env : Env} : ∀ {es : List Expr}, es.all noStar = true → (backTo pos (starEach es env)).any (·.1) = false
  | [], _ => rfl
  | e :: es, h => by
    rw [List.all_cons, Bool.and_eq_true] at h
    rw [star_cons h.1]
    show (false || (backTo pos (starEach es env)).any (·.1)) = false
    rw [star_any h.2]
    rfl
theorem star_few {pos : Pos} {env : Env} {es : List Expr} (h : es.all noStar = true) (hl : es.length < 30) : ((backTo pos (starEach es env)).all (fun x => !x.1) && (backToKw pos (keywordEach [] env)).all (fun x => x.1.isSome)
      && decide (es.length + ([] : List Keyword).length + (if ([] : List Keyword).isEmpty then 0 else 1) < 30)) = true := by
  have h1 := star_any (pos := pos) (env := env) h
  have h2 : (backTo pos (starEach es env)).all (fun x => !x.1) = true := by
    rw [List.all_eq_true]
    intro x hx
    rw [List.any_eq_false] at h1
    have := h1 x hx
    simpa using this
  have h3 : decide (es.length + ([] : List Keyword).length + (if ([] : List Keyword).isEmpty then 0 else 1) < 30) = true := by
    rw [decide_eq_true_eq]
    simpa using hl
  rw [h2, h3]
  rfl
end DL
namespace DL
open PySem PySem.Spec PyProof.Rows L2
noncomputable abbrev EF := SD → HD → Option (D × HD)
noncomputable abbrev TF := SD → HD → Option (Bool × HD)
noncomputable abbrev AF := SD → HD → Option (List D × HD)
inductive FD where
  | nx | bk | ct | rt (d : D)
noncomputable abbrev SF := SD → HD → Option (FD × SD × HD)
noncomputable abbrev GF := D → SD → HD → Option (SD × HD)
noncomputable abbrev FF := List D → HD → Option (D × HD)
noncomputable abbrev F2 := D → D → HD → Option (D × HD)
noncomputable def QE (K : PySem.W.Frag) (H : Hp) (ι : List Addr) (d : D) (Hd' : HD) (Q : VK) : Prop := ∀ v H' ι', Le K H ι H' ι' → HRep K H' ι' Hd' → Rep K H' ι' d v → Q v H'
noncomputable def rdE (K : PySem.W.Frag) (f : EF) : TE := fun σ H Q => ∃ ι σd Hd d Hd', SRep K H ι σ σd ∧ HRep K H ι Hd ∧ f σd Hd = some (d, Hd') ∧ QE K H ι d Hd' Q
noncomputable def rdT (K : PySem.W.Frag) (f : TF) : TT := fun σ H Q => ∃ ι σd Hd b Hd', SRep K H ι σ σd ∧ HRep K H ι Hd ∧ f σd Hd = some (b, Hd') ∧ ∀ H' ι', Le K H ι H' ι' → HRep K H' ι' Hd' → Q b H'
noncomputable def rdA (K : PySem.W.Frag) (f : AF) : TA := fun σ H Q => ∃ ι σd Hd ds Hd', SRep K H ι σ σd ∧ HRep K H ι Hd ∧ f σd Hd = some (ds, Hd') ∧ ∀ vs H' ι', Le K H ι H' ι' → HRep K H' ι' Hd' → Paired (Rep K H' ι') ds vs → Q vs H'
noncomputable def QS (K : PySem.W.Frag) (H : Hp) (ι : List Addr) (fl : FD) (σd' : SD) (Hd' : HD) (E : Ends) : Prop := ∀ σ' H' ι', Le K H ι H' ι' → HRep K H' ι' Hd' → SRep K H' ι' σ' σd' →
  match fl with
  | .nx => E.nx σ' H'
  | .bk => E.bk σ' H'
  | .ct => E.ct σ' H'
  | .rt d => ∀ v, Rep K H' ι' d v → E.rt v H'
noncomputable def rdS (K : PySem.W.Frag) (f : SF) : TS := fun E σ H => ∃ ι σd Hd fl σd' Hd', SRep K H ι σ σd ∧ HRep K H ι Hd ∧ f σd Hd = some (fl, σd', Hd') ∧ QS K H ι fl σd' Hd' E
noncomputable def rdG (K : PySem.W.Frag) (g : GF) : TG := fun v σ H Q => ∃ ι σd Hd d σd' Hd', SRep K H ι σ σd ∧ HRep K H ι Hd ∧ Rep K H ι d v ∧ g d σd Hd = some (σd', Hd') ∧
  ∀ σ' H' ι', Le K H ι H' ι' → HRep K H' ι' Hd' → SRep K H' ι' σ' σd' → Q σ' H'
noncomputable def rd2 (K : PySem.W.Frag) (g : F2) : R2 := fun x y H Q => ∃ ι dx dy Hd d Hd', HRep K H ι Hd ∧ Rep K H ι dx x ∧ Rep K H ι dy y ∧ g dx dy Hd = some (d, Hd') ∧ QE K H ι d Hd' Q
noncomputable def rd1 (K : PySem.W.Frag) (g : D → HD → Option (D × HD)) : V → Hp → VK → Prop := fun x H Q => ∃ ι dx Hd d Hd', HRep K H ι Hd ∧ Rep K H ι dx x ∧ g dx Hd = some (d, Hd') ∧ QE K H ι d Hd' Q
noncomputable def rdC (K : PySem.W.Frag) (g : FF) : List V → Hp → VK → Prop := fun vs H Q => ∃ ι ds Hd d Hd', HRep K H ι Hd ∧ Paired (Rep K H ι) ds vs ∧ g ds Hd = some (d, Hd') ∧ QE K H ι d Hd' Q
noncomputable def rdM (K : PySem.W.Frag) (g : D → List D → HD → Option (D × HD)) : V → List V → Hp → VK → Prop := fun v vs H Q => ∃ ι x ds Hd d Hd', HRep K H ι Hd ∧ Rep K H ι x v ∧ Paired (Rep K H ι) ds vs ∧ g x ds Hd = some (d, Hd') ∧ QE K H ι d Hd' Q
noncomputable def PEf (X : Cx) (e : Expr) (f : EF) : Prop := PE X e (rdE X.K f)
noncomputable def PTf (X : Cx) (e : Expr) (f : TF) : Prop := PT X e (rdT X.K f)
noncomputable def PWf (X : Cx) (e : Expr) (f : TF) : Prop := PW X e (rdT X.K f)
noncomputable def PAf (X : Cx) (es : List Expr) (f : AF) : Prop := PA X es (rdA X.K f)
noncomputable def PSf (X : Cx) (st : Stmt) (f : SF) : Prop := PS X st (rdS X.K f)
noncomputable def PSsf (X : Cx) (st : List Stmt) (f : SF) : Prop := PSs X st (rdS X.K f)
noncomputable def PGf (X : Cx) (tg : Expr) (g : GF) : Prop := PG X tg (rdG X.K g)
noncomputable def OpF (X : Cx) (f : Value → Value → Sem Value) (g : F2) : Prop := OpR X f (rd2 X.K g)
noncomputable def UnF (X : Cx) (f : Value → Sem Value) (g : D → HD → Option (D × HD)) : Prop := UnR X f (rd1 X.K g)
noncomputable def CallF (X : Cx) (f : Value) (g : FF) : Prop := CallR X f (rdC X.K g)
noncomputable def IxF (X : Cx) (g : F2) : Prop := IxR X (rd2 X.K g)
noncomputable def MtF (X : Cx) (id : String) (g : D → List D → HD → Option (D × HD)) : Prop := MtR X id (rdM X.K g)
section
variable {X : Cx} {e a b c : Expr} {es : List Expr} {pos : Pos} {st : Stmt} {sts : List Stmt}
theorem PEi {t t' : TE} (h : PE X e t) (i : ∀ σ H Q, t' σ H Q → t σ H Q) : PE X e t' := fun pins s σ H Q I q => h pins s σ H Q I (i σ H Q q)
theorem PTi {t t' : TT} (h : PT X e t) (i : ∀ σ H Q, t' σ H Q → t σ H Q) : PT X e t' := fun pins s σ H Q I q => h pins s σ H Q I (i σ H Q q)
theorem PWi {t t' : TT} (h : PW X e t) (i : ∀ σ H Q, t' σ H Q → t σ H Q) : PW X e t' := fun wh pins s σ H Q I q => h wh pins s σ H Q I (i σ H Q q)
theorem PAi {t t' : TA} (h : PA X es t) (i : ∀ σ H Q, t' σ H Q → t σ H Q) : PA X es t' := fun ps pins s σ H Q I q => h ps pins s σ H Q I (i σ H Q q)
theorem PSi {t t' : TS} (h : PS X st t) (i : ∀ E σ H, t' E σ H → t E σ H) : PS X st t' := fun pins s σ H E I q => h pins s σ H E I (i E σ H q)
theorem PSsi {t t' : TS} (h : PSs X sts t) (i : ∀ E σ H, t' E σ H → t E σ H) : PSs X sts t' := fun pins s σ H E I q => h pins s σ H E I (i E σ H q)
theorem PGi {t t' : TG} (h : PG X e t) (i : ∀ v σ H Q, t' v σ H Q → t v σ H Q) : PG X e t' := fun pins s σ H v u Q I r q => h pins s σ H v u Q I r (i v σ H Q q)
theorem OpRi {f : Value → Value → Sem Value} {t t' : R2} (h : OpR X f t) (i : ∀ x y H Q, t' x y H Q → t x y H Q) : OpR X f t' := fun pins s σ H x y v u Q I r1 r2 q => h pins s σ H x y v u Q I r1 r2 (i x y H Q q)
noncomputable def eVar (i : Nat) : EF := fun σ H => (σ[i]?).join.map fun d => (d, H)
noncomputable def eC (d : D) : EF := fun _ H => some (d, H)
theorem pef_var {i : Nat} {x : Str} (h : PE X (.Name x pos) (tVar i)) : PEf X (.Name x pos) (eVar i) := by
  refine PEi h fun σ H Q zz => ?_
  obtain ⟨ι, σd, Hd, d, Hd', s, hr, e, q⟩ := zz
  unfold eVar at e
  cases hx : σd[i]? with
  | none => rw [hx] at e; cases e
  | some o =>
    cases o with
    | none => rw [hx] at e; cases e
    | some d0 =>
      rw [hx] at e
      have e' : (d0, Hd) = (d, Hd') := Option.some.inj e
      obtain ⟨rfl, rfl⟩ := Prod.mk.inj e'
      obtain ⟨v, h1, h2⟩ := s.var i d0 hx
      exact ⟨v, h1, q v H ι Le.refl hr h2⟩
theorem pef_C {v : V} {d : D} (h : PE X e (tC v)) (r : ∀ H ι, Rep X.K H ι d v) : PEf X e (eC d) := by
  refine PEi h fun σ H Q zz => ?_
  obtain ⟨ι, σd, Hd, d', Hd', s, hr, e, q⟩ := zz
  cases e
  exact q v H ι Le.refl hr (r H ι)
theorem pef_int {i j} : PEf X (.Constant (.int i) j pos) (eC (.int i)) := pef_C pe_int fun _ _ => by simp
theorem pef_bl {b j} : PEf X (.Constant (.bool b) j pos) (eC (.bl b)) := pef_C pe_bl fun _ _ => by simp
theorem pef_non {j} : PEf X (.Constant .none j pos) (eC .non) := pef_C pe_non fun _ _ => by simp
theorem pef_str {x j} : PEf X (.Constant (.str x) j pos) (eC (.str x)) := pef_C pe_str fun _ _ => by simp
theorem pef_ty {x : Str} {n : String} (hg : Gl X x) (hm : X.mg x = none) (hv : bootBuiltins x = some (.type n)) (hn : x ≠ "__name__" := by decide) (hd : (x == ("__debug__" : Str)) = false := by decide) : PEf X (.Name x pos) (eC (.ty n)) :=
  pef_C (pe_bltn (v := .ty n) hg hm hv rfl hn hd) fun _ _ => by simp
noncomputable def eOp (g : F2) (fa fb : EF) : EF := fun σ H => (fa σ H).bind fun p => (fb σ p.2).bind fun q => g p.1 q.1 q.2
theorem rd_op {fa fb : EF} {g : F2} {σ : L2.St} {H : Hp} {Q : VK} {K : PySem.W.Frag} (h : rdE K (eOp g fa fb) σ H Q) : tOp (rd2 K g) (rdE K fa) (rdE K fb) σ H Q := by
  obtain ⟨ι, σd, Hd, d, Hd', s, hr, e, q⟩ := h
  obtain ⟨⟨x, H1⟩, e1, e⟩ := Option.bind_eq_some_iff.mp e
  obtain ⟨⟨y, H2⟩, e2, e⟩ := Option.bind_eq_some_iff.mp e
  exact ⟨ι, σd, Hd, x, H1, s, hr, e1, fun v1 H1' ι1 l1 h1 r1 => ⟨ι1, σd, H1, y, H2, s.mono l1, h1, e2, fun v2 H2' ι2 l2 h2 r2 =>
    ⟨ι2, x, y, H2, d, Hd', h2, r1.mono l2, r2, e, fun v H' ι' l h r => q v H' ι' ((l1.trans l2).trans l) h r⟩⟩⟩
theorem pef_op {op : Operator} {g : F2} {fa fb : EF} (ho : OpF X (binaryOp op) g) (ha : PEf X a fa) (hb : PEf X b fb) : PEf X (.BinOp a op b pos) (eOp g fa fb) :=
  PEi (pe_op ho ha hb) fun _ _ _ h => rd_op h
theorem pef_cmp {op : CmpOp} {g : F2} {fa fb : EF} (ho : OpF X (compareOp op) g) (ha : PEf X a fa) (hb : PEf X b fb) (hm : behindInMarks op b = false) : PEf X (.Compare a [op] [b] pos) (eOp g fa fb) :=
  PEi (pe_cmpR ho ha hb hm) fun _ _ _ h => rd_op h
theorem pef_ix {g : F2} {fa fb : EF} (ho : IxF X g) (ha : PEf X a fa) (hb : PEf X b fb) (hs : PlainIx b) : PEf X (.Subscript a b pos) (eOp g fa fb) :=
  PEi (pe_ix ho ha hb hs) fun _ _ _ h => rd_op h
noncomputable def eUn (g : D → HD → Option (D × HD)) (fa : EF) : EF := fun σ H => (fa σ H).bind fun p => g p.1 p.2
theorem pef_un {op : UnaryOp} {g : D → HD → Option (D × HD)} {fa : EF} (ho : UnF X (unaryOp op) g) (ha : PEf X a fa) : PEf X (.UnaryOp op a pos) (eUn g fa) := by
  refine PEi (pe_un ho ha) fun σ H Q zz => ?_
  obtain ⟨ι, σd, Hd, d, Hd', s, hr, e, q⟩ := zz
  obtain ⟨⟨x, H1⟩, e1, e⟩ := Option.bind_eq_some_iff.mp e
  exact ⟨ι, σd, Hd, x, H1, s, hr, e1, fun v1 H1' ι1 l1 h1 r1 => ⟨ι1, x, H1, d, Hd', h1, r1, e, fun v H' ι' l h r => q v H' ι' (l1.trans l) h r⟩⟩
noncomputable def blD : D → Option Bool
  | .bl b => some b
  | _ => none
noncomputable def tOf (f : EF) : TF := fun σ H => (f σ H).bind fun p => (blD p.1).map fun b => (b, p.2)
theorem rep_blD {K : PySem.W.Frag} {H : Hp} {ι : List Addr} {d : D} {b : Bool} {v : V} (e : blD d = some b) (r : Rep K H ι d v) : v = .bl b := by
  cases d <;> simp [blD] at e
  subst e
  simpa using r
theorem ptf_cmp {op : CmpOp} {g : F2} {fa fb : EF} (ho : OpF X (compareOp op) g) (ha : PEf X a fa) (hb : PEf X b fb) (hm : behindInMarks op b = false) : PTf X (.Compare a [op] [b] pos) (tOf (eOp g fa fb)) := by
  refine PTi (pt_cmpR ho ha hb hm) fun σ H Q zz => ?_
  obtain ⟨ι, σd, Hd, bb, Hd', s, hr, e, q⟩ := zz
  obtain ⟨⟨x, H1⟩, e1, e⟩ := Option.bind_eq_some_iff.mp e
  obtain ⟨b', eb, e⟩ := Option.map_eq_some_iff.mp e
  cases e
  exact rd_op ⟨ι, σd, Hd, x, H1, s, hr, e1, fun v H' ι' l h r => ⟨bb, rep_blD eb r, q H' ι' l h⟩⟩
noncomputable def truD : D → HD → Option Bool
  | .non, _ => some false
  | .bl b, _ => some b
  | .int i, _ => some (i != 0)
  | .tup xs, _ => some (!xs.isEmpty)
  | .fl xs, _ => some (!xs.isEmpty)
  | .str x, _ => if x.length ≤ sizeLine then some ((x.length : Int) != 0) else none
  | .ref n, H => match H[n]? with
    | some (.lst xs) => some (!xs.isEmpty)
    | _ => none
  | _, _ => none
theorem prd_empty {α β : Type} {F : α → β → Prop} {xs : List α} {us : List β} (r : Paired F xs us) : (!us.isEmpty) = !xs.isEmpty := by cases r <;> rfl
theorem truV_of {K : PySem.W.Frag} {H : Hp} {ι : List Addr} {Hd : HD} {d : D} {k : Bool} {v : V} (hr : HRep K H ι Hd) (r : Rep K H ι d v) (e : truD d Hd = some k) : TruV K v H k := by
  cases d with
  | non => simp at r; subst r; simp [truD] at e; subst e; exact rfl
  | bl b => simp at r; subst r; simp [truD] at e; subst e; exact rfl
  | int i => simp at r; subst r; simp [truD] at e; subst e; exact rfl
  | ty n => simp [truD] at e
  | str x =>
    simp at r; subst r
    simp only [truD] at e
    split at e
    · rename_i hl
      cases e
      exact ⟨hl, rfl⟩
    · cases e
  | tup xs =>
    obtain ⟨ad, vs, rfl, h, p⟩ := rep_tup.mp r
    cases (show some (!xs.isEmpty) = some k from e)
    exact .inr (.inl ⟨vs, h, by rw [prd_empty p]⟩)
  | fl xs =>
    obtain ⟨ad, vs, rfl, h, p⟩ := rep_fl.mp r
    cases (show some (!xs.isEmpty) = some k from e)
    exact .inl ⟨vs, h.sq, by rw [prd_empty p]⟩
  | ref n =>
    obtain ⟨ad, rfl, h⟩ := rep_ref.mp r
    simp only [truD] at e
    split at e
    · rename_i xs ho
      cases e
      obtain ⟨vs, h1, p⟩ := hr.obj n ad _ h ho
      exact .inl ⟨vs, SqL.of h1, by rw [prd_empty p]⟩
    · cases e
noncomputable def tTru (f : EF) : TF := fun σ H => (f σ H).bind fun p => (truD p.1 p.2).map fun b => (b, p.2)
theorem ptf_truth {fa : EF} (ha : PEf X a fa) (he : ∀ whole, isTrue a X.env whole = (do let v ← whole; standAt a.pos; holding [v] (truthy v))) : PTf X a (tTru fa) := by
  refine PTi (pt_truth ha he) fun σ H Q zz => ?_
  obtain ⟨ι, σd, Hd, bb, Hd', s, hr, e, q⟩ := zz
  obtain ⟨⟨x, H1⟩, e1, e⟩ := Option.bind_eq_some_iff.mp e
  obtain ⟨b', eb, e⟩ := Option.map_eq_some_iff.mp e
  cases e
  exact ⟨ι, σd, Hd, x, H1, s, hr, e1, fun v H' ι' l h r => ⟨bb, truV_of h r eb, q H' ι' l h⟩⟩
noncomputable def tNo (t : TF) : TF := fun σ H => (t σ H).map fun p => (!p.1, p.2)
noncomputable def tAn (t u : TF) : TF := fun σ H => (t σ H).bind fun p => if p.1 = true then u σ p.2 else some (false, p.2)
noncomputable def tOrr (t u : TF) : TF := fun σ H => (t σ H).bind fun p => if p.1 = true then some (true, p.2) else u σ p.2
theorem ptf_not {t : TF} (h : PTf X a t) : PTf X (.UnaryOp .Not a pos) (tNo t) := by
  refine PTi (pt_not h) fun σ H Q zz => ?_
  obtain ⟨ι, σd, Hd, bb, Hd', s, hr, e, q⟩ := zz
  obtain ⟨⟨x, H1⟩, e1, e⟩ := Option.map_eq_some_iff.mp e
  cases e
  exact ⟨ι, σd, Hd, x, H1, s, hr, e1, fun H' ι' l h => q H' ι' l h⟩
theorem pwf_and1 {t : TF} (h : PTf X a t) : PWf X (.BoolOp .And [a] pos) t := pw_and1 h
theorem pwf_or1 {t : TF} (h : PTf X a t) : PWf X (.BoolOp .Or [a] pos) t := pw_or1 h
theorem pwf_and {t u : TF} (h : PTf X a t) (h2 : PWf X (.BoolOp .And (b :: es) pos) u) : PWf X (.BoolOp .And (a :: b :: es) pos) (tAn t u) := by
  refine PWi (pw_and h h2) fun σ H Q zz => ?_
  obtain ⟨ι, σd, Hd, bb, Hd', s, hr, e, q⟩ := zz
  obtain ⟨⟨x, H1⟩, e1, e⟩ := Option.bind_eq_some_iff.mp e
  refine ⟨ι, σd, Hd, x, H1, s, hr, e1, fun H' ι' l h => ?_⟩
  cases x with
  | true =>
    rw [if_pos rfl]
    exact ⟨ι', σd, H1, bb, Hd', s.mono l, h, by simpa using e, fun H2 ι2 l2 h2 => q H2 ι2 (l.trans l2) h2⟩
  | false =>
    rw [if_neg (by simp)]
    simp at e
    obtain ⟨rfl, rfl⟩ := e
    exact q H' ι' l h
theorem pwf_or {t u : TF} (h : PTf X a t) (h2 : PWf X (.BoolOp .Or (b :: es) pos) u) : PWf X (.BoolOp .Or (a :: b :: es) pos) (tOrr t u) := by
  refine PWi (pw_or h h2) fun σ H Q zz => ?_
  obtain ⟨ι, σd, Hd, bb, Hd', s, hr, e, q⟩ := zz
  obtain ⟨⟨x, H1⟩, e1, e⟩ := Option.bind_eq_some_iff.mp e
  refine ⟨ι, σd, Hd, x, H1, s, hr, e1, fun H' ι' l h => ?_⟩
  cases x with
  | true =>
    rw [if_pos rfl]
    simp at e
    obtain ⟨rfl, rfl⟩ := e
    exact q H' ι' l h
  | false =>
    rw [if_neg (by simp)]
    exact ⟨ι', σd, H1, bb, Hd', s.mono l, h, by simpa using e, fun H2 ι2 l2 h2 => q H2 ι2 (l.trans l2) h2⟩
theorem PWf.pt {t : TF} (h : PWf X a t) : PTf X a t := h _
noncomputable def eAn (f g : EF) : EF := fun σ H => (f σ H).bind fun p => (blD p.1).bind fun b => if b = true then g σ p.2 else some (.bl false, p.2)
noncomputable def eIf (t : TF) (f g : EF) : EF := fun σ H => (t σ H).bind fun p => if p.1 = true then f σ p.2 else g σ p.2
theorem pef_one {op} {f : EF} (h : PEf X a f) : PEf X (.BoolOp op [a] pos) f := pe_one h
theorem pef_and {f g : EF} (h : PEf X a f) (h2 : PEf X (.BoolOp .And (b :: es) pos) g) : PEf X (.BoolOp .And (a :: b :: es) pos) (eAn f g) := by
  refine PEi (pe_and h h2) fun σ H Q zz => ?_
  obtain ⟨ι, σd, Hd, d, Hd', s, hr, e, q⟩ := zz
  obtain ⟨⟨x, H1⟩, e1, e⟩ := Option.bind_eq_some_iff.mp e
  obtain ⟨b', eb, e⟩ := Option.bind_eq_some_iff.mp e
  refine ⟨ι, σd, Hd, x, H1, s, hr, e1, fun v H' ι' l h r => ⟨b', rep_blD eb r, ?_⟩⟩
  cases b' with
  | true =>
    rw [if_pos rfl]
    exact ⟨ι', σd, H1, d, Hd', s.mono l, h, by simpa using e, fun v2 H2 ι2 l2 h2 r2 => q v2 H2 ι2 (l.trans l2) h2 r2⟩
  | false =>
    rw [if_neg (by simp)]
    simp at e
    obtain ⟨rfl, rfl⟩ := e
    exact q _ H' ι' l h (by simp)
theorem pef_if {t : TF} {f g : EF} (hc : PTf X c t) (ha : PEf X a f) (hb : PEf X b g) : PEf X (.IfExp c a b pos) (eIf t f g) := by
  refine PEi (pe_ifExp hc ha hb) fun σ H Q zz => ?_
  obtain ⟨ι, σd, Hd, d, Hd', s, hr, e, q⟩ := zz
  obtain ⟨⟨x, H1⟩, e1, e⟩ := Option.bind_eq_some_iff.mp e
  refine ⟨ι, σd, Hd, x, H1, s, hr, e1, fun H' ι' l h => ?_⟩
  cases x with
  | true =>
    rw [if_pos rfl]
    exact ⟨ι', σd, H1, d, Hd', s.mono l, h, by simpa using e, fun v2 H2 ι2 l2 h2 r2 => q v2 H2 ι2 (l.trans l2) h2 r2⟩
  | false =>
    rw [if_neg (by simp)]
    exact ⟨ι', σd, H1, d, Hd', s.mono l, h, by simpa using e, fun v2 H2 ι2 l2 h2 r2 => q v2 H2 ι2 (l.trans l2) h2 r2⟩
noncomputable def aNil : AF := fun _ H => some ([], H)
noncomputable def aCons (f : EF) (g : AF) : AF := fun σ H => (f σ H).bind fun p => (g σ p.2).map fun q => (p.1 :: q.1, q.2)
theorem paf_nil : PAf X [] aNil := by
  refine PAi pa_nil fun σ H Q zz => ?_
  obtain ⟨ι, σd, Hd, d, Hd', s, hr, e, q⟩ := zz
  cases e
  exact q [] H ι Le.refl hr .nil
theorem paf_cons {f : EF} {g : AF} (ha : PEf X e f) (hr : PAf X es g) (hs : starEach (e :: es) X.env = (false, eval e X.env) :: starEach es X.env := by exact star_cons rfl) : PAf X (e :: es) (aCons f g) := by
  refine PAi (pa_cons ha hr hs) fun σ H Q zz => ?_
  obtain ⟨ι, σd, Hd, d, Hd', s, hr, e, q⟩ := zz
  obtain ⟨⟨x, H1⟩, e1, e⟩ := Option.bind_eq_some_iff.mp e
  obtain ⟨⟨y, H2⟩, e2, e⟩ := Option.map_eq_some_iff.mp e
  cases e
  exact ⟨ι, σd, Hd, x, H1, s, hr, e1, fun v1 H1' ι1 l1 h1 r1 => ⟨ι1, σd, H1, y, H2, s.mono l1, h1, e2, fun vs H2' ι2 l2 h2 r2 => q _ H2' ι2 (l1.trans l2) h2 (.cons (r1.mono l2) r2)⟩⟩
noncomputable def mkT (xs : List D) (H : HD) : Option (D × HD) := if xs.length ≤ sizeLine then some (.tup xs, H) else none
noncomputable def mkL (xs : List D) (H : HD) : Option (D × HD) := if xs.length ≤ sizeLine then some (.ref H.length, H ++ [.lst xs]) else none
theorem mkT_some {xs : List D} {H : HD} {r : D × HD} (h : mkT xs H = some r) : xs.length ≤ sizeLine ∧ r = (.tup xs, H) := by
  unfold mkT at h
  split at h
  · rename_i hl; cases h; exact ⟨hl, rfl⟩
  · cases h
theorem mkL_some {xs : List D} {H : HD} {r : D × HD} (h : mkL xs H = some r) : xs.length ≤ sizeLine ∧ r = (.ref H.length, H ++ [.lst xs]) := by
  unfold mkL at h
  split at h
  · rename_i hl; cases h; exact ⟨hl, rfl⟩
  · cases h
theorem new_tup {K : PySem.W.Frag} {H : Hp} {ι : List Addr} {Hd Hd' : HD} {xs : List D} {vs : List V} {d : D} {Q : VK} (hr : HRep K H ι Hd) (r : Paired (Rep K H ι) xs vs) (e : mkT xs Hd = some (d, Hd')) (q : QE K H ι d Hd' Q) :
    vs.length ≤ sizeLine ∧ ∀ p, H p = none → Q (.ref p) (upd H p (.tup vs)) := by
  obtain ⟨hl, e⟩ := mkT_some e
  cases e
  refine ⟨by rw [← Prd.len r]; exact hl, fun p hp => ?_⟩
  exact q _ _ ι (Le.fresh hp _) (hr.tup hp _) (rep_tup.mpr ⟨p, vs, rfl, SqT.of upd_same, Prd.mono (Le.fresh hp _) r⟩)
theorem new_lst {K : PySem.W.Frag} {H : Hp} {ι : List Addr} {Hd Hd' : HD} {xs : List D} {vs : List V} {d : D} {Q : VK} (hr : HRep K H ι Hd) (r : Paired (Rep K H ι) xs vs) (e : mkL xs Hd = some (d, Hd')) (q : QE K H ι d Hd' Q) :
    vs.length ≤ sizeLine ∧ ∀ p, H p = none → Q (.ref p) (upd H p (.lst vs)) := by
  obtain ⟨hl, e⟩ := mkL_some e
  cases e
  refine ⟨by rw [← Prd.len r]; exact hl, fun p hp => ?_⟩
  refine q _ _ (ι ++ [p]) (Le.fresh1 hp _) (hr.new hp ⟨vs, upd_same, Prd.mono (Le.fresh1 hp _) r⟩) (rep_ref.mpr ⟨p, rfl, ?_⟩)
  rw [← hr.len]; simp
noncomputable def eTup (f : AF) : EF := fun σ H => (f σ H).bind fun p => mkT p.1 p.2
noncomputable def eLst (f : AF) : EF := fun σ H => (f σ H).bind fun p => mkL p.1 p.2
theorem pef_tup {f : AF} {x1} (h : PAf X es f) : PEf X (.Tuple es x1 pos) (eTup f) := by
  refine PEi (pe_tup h) fun σ H Q zz => ?_
  obtain ⟨ι, σd, Hd, d, Hd', s, hr, e, q⟩ := zz
  obtain ⟨⟨x, H1⟩, e1, e⟩ := Option.bind_eq_some_iff.mp e
  exact ⟨ι, σd, Hd, x, H1, s, hr, e1, fun vs H' ι' l h r => new_tup h r e fun v2 H2 ι2 l2 h2 r2 => q v2 H2 ι2 (l.trans l2) h2 r2⟩
theorem pef_lst {f : AF} (h : PAf X es f) : PEf X (.List es pos) (eLst f) := by
  refine PEi (pe_lst h) fun σ H Q zz => ?_
  obtain ⟨ι, σd, Hd, d, Hd', s, hr, e, q⟩ := zz
  obtain ⟨⟨x, H1⟩, e1, e⟩ := Option.bind_eq_some_iff.mp e
  exact ⟨ι, σd, Hd, x, H1, s, hr, e1, fun vs H' ι' l h r => new_lst h r e fun v2 H2 ι2 l2 h2 r2 => q v2 H2 ι2 (l.trans l2) h2 r2⟩
noncomputable def eCB (g : FF) (f : AF) : EF := fun σ H => (f σ H).bind fun p => g p.1 p.2
theorem rd_cb {f : AF} {g : FF} {σ : L2.St} {H : Hp} {Q : VK} {K : PySem.W.Frag} (h : rdE K (eCB g f) σ H Q) : tCB (rdC K g) (rdA K f) σ H Q := by
  obtain ⟨ι, σd, Hd, d, Hd', s, hr, e, q⟩ := h
  obtain ⟨⟨x, H1⟩, e1, e⟩ := Option.bind_eq_some_iff.mp e
  exact ⟨ι, σd, Hd, x, H1, s, hr, e1, fun vs H' ι' l h r => ⟨ι', x, H1, d, Hd', h, r, e, fun v2 H2 ι2 l2 h2 r2 => q v2 H2 ι2 (l.trans l2) h2 r2⟩⟩
theorem pef_callB {x : Str} {id : String} {g : FF} {f : AF} {p : Pos} (hc : CallF X (.builtin id) g) (hg : Gl X x) (hm : X.mg x = none) (hv : bootBuiltins x = some (.builtin id)) (ha : PAf X (e :: es) f) (hn : x ≠ "__name__" := by decide) (hdb : (x == ("__debug__" : Str)) = false := by decide)
    (he : starEach (e :: es) X.env = (false, eval e X.env) :: starEach es X.env := by exact star_cons rfl) (hpl : (backTo pos (starEach es X.env)).any (·.1) = false := by exact star_any rfl) : PEf X (.Call (.Name x p) (e :: es) [] pos) (eCB g f) :=
  PEi (pe_callB hc hg hm hv ha hn hdb he hpl) fun _ _ _ h => rd_cb h
theorem pef_callTy {x : Str} {T : String} {g : FF} {f : AF} {p : Pos} (hc : CallF X (.type T) g) (hg : Gl X x) (hm : X.mg x = none) (hv : bootBuiltins x = some (.type T)) (ha : PAf X (e :: es) f) (hn : x ≠ "__name__" := by decide) (hdb : (x == ("__debug__" : Str)) = false := by decide)
    (he : starEach (e :: es) X.env = (false, eval e X.env) :: starEach es X.env := by exact star_cons rfl) (hpl : (backTo pos (starEach es X.env)).any (·.1) = false := by exact star_any rfl) : PEf X (.Call (.Name x p) (e :: es) [] pos) (eCB g f) :=
  PEi (pe_callTy hc hg hm hv ha hn hdb he hpl) fun _ _ _ h => rd_cb h
noncomputable def spF (K : PySem.W.Frag) (n : Nat) (F : FF) : Sp := fun vs H Q _ => ∃ ι ds Hd d Hd', ds.length = n ∧ HRep K H ι Hd ∧ Paired (Rep K H ι) ds vs ∧ F ds Hd = some (d, Hd') ∧ QE K H ι d Hd' Q
noncomputable def eCall (n : Nat) (F : FF) (f : AF) : EF := fun σ H => (f σ H).bind fun p => if p.1.length = n then F p.1 p.2 else none
theorem pef_call {k n : Nat} {f : Addr} {fd : FuncData} {ps : List Str} {x : Str} {p : Pos} {F : FF} {fa : AF} (G : FnOk X.prog X.w X.K X.mg X.base CX0 k f fd ps (spF X.K n F)) (hr : Room k X.A) (hg : Gl X x) (hm : X.mg x = some (.ref f)) (hk : PySem.W.keepIn X.K (.ref f) = true)
    (hb : Binds X.K fd ps []) (ha : PAf X (e :: es) fa) (hdb : (x == ("__debug__" : Str)) = false := by decide) (he : starEach (e :: es) X.env = (false, eval e X.env) :: starEach es X.env := by exact star_cons rfl) (hpl : (backTo pos (starEach es X.env)).any (·.1) = false := by exact star_any rfl) :
    PEf X (.Call (.Name x p) (e :: es) [] pos) (eCall n F fa) := by
  refine PEi (pe_call (E := E0) G hr hg hm hk hb .nil pass0 ha hdb he hpl) fun σ H Q zz => ?_
  obtain ⟨ι, σd, Hd, d, Hd', s, hr, e, q⟩ := zz
  obtain ⟨⟨x, H1⟩, e1, e⟩ := Option.bind_eq_some_iff.mp e
  refine ⟨ι, σd, Hd, x, H1, s, hr, e1, fun vs H' ι' l h r => ?_⟩
  dsimp only at e
  split at e
  · rename_i hl
    exact ⟨ι', x, H1, d, Hd', hl, h, by simpa using r, e, fun v2 H2 ι2 l2 h2 r2 => q v2 H2 ι2 (l.trans l2) h2 r2⟩
  · cases e
noncomputable def isLst : D → HD → Bool
  | .ref n, H => match H[n]? with
    | some (.lst _) => true
    | _ => false
  | _, _ => false
theorem isLst_ty {K : PySem.W.Frag} {H : Hp} {ι : List Addr} {Hd : HD} {d : D} {v : V} (hr : HRep K H ι Hd) (r : Rep K H ι d v) (e : isLst d Hd = true) : tyV K "list" v H := by
  cases d with
  | ref n =>
    obtain ⟨ad, rfl, h⟩ := rep_ref.mp r
    simp only [isLst] at e
    split at e
    · rename_i xs ho
      obtain ⟨vs, h1, p⟩ := hr.obj n ad _ h ho
      exact .inl ⟨rfl, vs, SqL.of h1⟩
    · cases e
  | _ => simp [isLst] at e
noncomputable def eLM (g : D → List D → HD → Option (D × HD)) (fo : EF) (f : AF) : EF := fun σ H => (fo σ H).bind fun o => if isLst o.1 o.2 = true then (f σ o.2).bind fun p => g o.1 p.1 p.2 else none
theorem pef_lm {o : Expr} {name : Str} {apos cpos : Pos} {id : String} {g : D → List D → HD → Option (D × HD)} {fo : EF} {f : AF} (slot : Slot "list" name id) (hty : typeOf (.builtin id) = pure (.type "method_descriptor")) (hm : MtF X id g) (ho : PEf X o fo) (ha : PAf X (e :: es) f)
    (hbase : attributeBase o name X.env (eval o X.env) = eval o X.env := by rfl)
    (hfew : ((backTo cpos (starEach (e :: es) X.env)).all (fun x => !x.1) && (backToKw cpos (keywordEach [] X.env)).all (fun x => x.1.isSome)
      && decide ((e :: es).length + ([] : List Keyword).length + (if ([] : List Keyword).isEmpty then 0 else 1) < 30)) = true := by exact star_few rfl (by decide))
    (hline : (apos.endLine == cpos.line) = true := by rfl) (hs : starEach (e :: es) X.env = (false, eval e X.env) :: starEach es X.env := by exact star_cons rfl) (hplain : (backTo cpos (starEach es X.env)).any (·.1) = false := by exact star_any rfl) :
    PEf X (.Call (.Attribute o name apos) (e :: es) [] cpos) (eLM g fo f) := by
  refine PEi (pe_bm PySem.F.plainAttrs_list slot hty hm ho ha hbase hfew hline hs hplain) fun σ H Q zz => ?_
  obtain ⟨ι, σd, Hd, d, Hd', s, hr, e, q⟩ := zz
  obtain ⟨⟨x, H1⟩, e1, e⟩ := Option.bind_eq_some_iff.mp e
  dsimp only at e
  split at e
  · rename_i hl
    obtain ⟨⟨y, H2⟩, e2, e⟩ := Option.bind_eq_some_iff.mp e
    exact ⟨ι, σd, Hd, x, H1, s, hr, e1, fun v1 H1' ι1 l1 h1 r1 => ⟨isLst_ty h1 r1 hl, ι1, σd, H1, y, H2, s.mono l1, h1, e2, fun vs H2' ι2 l2 h2 r2 =>
      ⟨ι2, x, y, H2, d, Hd', h2, r1.mono l2, r2, e, fun v H' ι' l h r => q v H' ι' ((l1.trans l2).trans l) h r⟩⟩⟩
  · cases e
noncomputable def sNil : SF := fun σ H => some (.nx, σ, H)
noncomputable def sSeq (f g : SF) : SF := fun σ H => (f σ H).bind fun r => match r.1 with
  | .nx => g r.2.1 r.2.2
  | _ => some r
theorem pssf_nil : PSsf X [] sNil := by
  refine PSsi pss_nil fun E σ H zz => ?_
  obtain ⟨ι, σd, Hd, fl, σd', Hd', s, hr, e, q⟩ := zz
  cases e
  exact q σ H ι Le.refl hr s
theorem pssf_cons {f g : SF} (h1 : PSf X st f) (h2 : PSsf X sts g) : PSsf X (st :: sts) (sSeq f g) := by
  refine PSsi (pss_cons h1 h2) fun E σ H zz => ?_
  obtain ⟨ι, σd, Hd, fl, σd', Hd', s, hr, e, q⟩ := zz
  obtain ⟨⟨f1, σ1, H1⟩, e1, e⟩ := Option.bind_eq_some_iff.mp e
  refine ⟨ι, σd, Hd, f1, σ1, H1, s, hr, e1, fun σ' H' ι' l h ss => ?_⟩
  cases f1 with
  | nx => exact ⟨ι', σ1, H1, fl, σd', Hd', ss, h, e, fun σ2 H2 ι2 l2 h2 s2 => q σ2 H2 ι2 (l.trans l2) h2 s2⟩
  | bk => cases e; exact q σ' H' ι' l h ss
  | ct => cases e; exact q σ' H' ι' l h ss
  | rt d => cases e; exact q σ' H' ι' l h ss
noncomputable def sRet (f : EF) : SF := fun σ H => (f σ H).map fun p => (.rt p.1, σ, p.2)
theorem psf_ret {f : EF} (he : PEf X e f) : PSf X (.Return (some e) pos) (sRet f) := by
  refine PSi (ps_ret he) fun E σ H zz => ?_
  obtain ⟨ι, σd, Hd, fl, σd', Hd', s, hr, e, q⟩ := zz
  obtain ⟨⟨x, H1⟩, e1, e⟩ := Option.map_eq_some_iff.mp e
  cases e
  exact ⟨ι, σd, Hd, x, H1, s, hr, e1, fun v H' ι' l h r => q σ H' ι' l h (s.mono l) v r⟩
noncomputable def sExpr (f : EF) : SF := fun σ H => (f σ H).map fun p => (.nx, σ, p.2)
theorem psf_expr {f : EF} (he : PEf X e f) (hs : swapsWith e none pos.line X.env = pure false := by rfl) : PSf X (.Expr e pos) (sExpr f) := by
  refine PSi (ps_expr he hs) fun E σ H zz => ?_
  obtain ⟨ι, σd, Hd, fl, σd', Hd', s, hr, e, q⟩ := zz
  obtain ⟨⟨x, H1⟩, e1, e⟩ := Option.map_eq_some_iff.mp e
  cases e
  exact ⟨ι, σd, Hd, x, H1, s, hr, e1, fun v H' ι' l h r => q σ H' ι' l h (s.mono l)⟩
noncomputable def sIf (t : TF) (f g : SF) : SF := fun σ H => (t σ H).bind fun p => if p.1 = true then f σ p.2 else g σ p.2
theorem psf_if {t : TF} {f g : SF} {as bs : List Stmt} (hc : PTf X c t) (ha : PSsf X as f) (hb : PSsf X bs g) : PSf X (.If c as bs pos) (sIf t f g) := by
  refine PSi (ps_if hc ha hb) fun E σ H zz => ?_
  obtain ⟨ι, σd, Hd, fl, σd', Hd', s, hr, e, q⟩ := zz
  obtain ⟨⟨x, H1⟩, e1, e⟩ := Option.bind_eq_some_iff.mp e
  refine ⟨ι, σd, Hd, x, H1, s, hr, e1, fun H' ι' l h => ?_⟩
  cases x with
  | true =>
    rw [if_pos rfl]
    exact ⟨ι', σd, H1, fl, σd', Hd', s.mono l, h, by simpa using e, fun σ2 H2 ι2 l2 h2 s2 => q σ2 H2 ι2 (l.trans l2) h2 s2⟩
  | false =>
    rw [if_neg (by simp)]
    exact ⟨ι', σd, H1, fl, σd', Hd', s.mono l, h, by simpa using e, fun σ2 H2 ι2 l2 h2 s2 => q σ2 H2 ι2 (l.trans l2) h2 s2⟩
noncomputable def sSet (i : Nat) (f : EF) : SF := fun σ H => (f σ H).map fun p => (.nx, σ.set i (some p.1), p.2)
theorem psf_set {i : Nat} {x : Str} {f : EF} {pos' : Pos} (hN : X.N.Nodup) (hi : X.N[i]? = some x) (hx : Loc X.env.scope x) (he : PEf X e f) (hs : swapsWith e (some (.Name x pos')) pos.line X.env = pure false := by rfl) (hf : X.fn x = true ∨ X.env.scope.names.lookup x = some .local := by first | exact .inl rfl | exact .inr rfl | assumption) :
    PSf X (.Assign [.Name x pos'] e pos) (sSet i f) := by
  refine PSi (ps_set hN hi hx he hs hf) fun E σ H zz => ?_
  obtain ⟨ι, σd, Hd, fl, σd', Hd', s, hr, e, q⟩ := zz
  obtain ⟨⟨x, H1⟩, e1, e⟩ := Option.map_eq_some_iff.mp e
  cases e
  exact ⟨ι, σd, Hd, x, H1, s, hr, e1, fun v H' ι' l h r => q _ H' ι' l h ((s.mono l).set r i)⟩
noncomputable def gNm (i : Nat) : GF := fun d σ H => some (σ.set i (some d), H)
theorem pgf_name {i : Nat} {x : Str} (hN : X.N.Nodup) (hi : X.N[i]? = some x) (hx : Loc X.env.scope x) (hf : X.fn x = true ∨ X.env.scope.names.lookup x = some .local := by first | exact .inl rfl | exact .inr rfl | assumption) : PGf X (.Name x pos) (gNm i) := by
  refine PGi (pg_name hN hi hx hf) fun v σ H Q zz => ?_
  obtain ⟨ι, σd, Hd, d, σd', Hd', s, hr, r, e, q⟩ := zz
  cases e
  exact q _ H ι Le.refl hr (s.set r i)
noncomputable abbrev GFs := List D → SD → HD → Option (SD × HD)
noncomputable def rdGs (K : PySem.W.Frag) (g : GFs) : TGs := fun vs σ H Q => ∃ ι σd Hd ds σd' Hd', SRep K H ι σ σd ∧ HRep K H ι Hd ∧ Paired (Rep K H ι) ds vs ∧ g ds σd Hd = some (σd', Hd') ∧
  ∀ σ' H' ι', Le K H ι H' ι' → HRep K H' ι' Hd' → SRep K H' ι' σ' σd' → Q σ' H'
noncomputable def PGsf (X : Cx) (ts : List Expr) (g : GFs) : Prop := PGs X ts (rdGs X.K g)
noncomputable def gNl : GFs := fun ds σ H => match ds with
  | [] => some (σ, H)
  | _ => none
noncomputable def gCn (g : GF) (h : GFs) : GFs := fun ds σ H => match ds with
  | d :: r => (g d σ H).bind fun p => h r p.1 p.2
  | [] => none
theorem PGsi {ts : List Expr} {t t' : TGs} (h : PGs X ts t) (i : ∀ v σ H Q, t' v σ H Q → t v σ H Q) : PGs X ts t' := fun pins s σ H v u Q I r q => h pins s σ H v u Q I r (i v σ H Q q)
theorem pgsf_nil : PGsf X [] gNl := by
  refine PGsi pgs_nil fun vs σ H Q zz => ?_
  obtain ⟨ι, σd, Hd, ds, σd', Hd', s, hr, r, e, q⟩ := zz
  cases r with
  | nil => cases e; exact ⟨rfl, q σ H ι Le.refl hr s⟩
  | cons _ _ => cases e
theorem pgsf_cons {g : GF} {h : GFs} (h1 : PGf X e g) (h2 : PGsf X es h) (hs : (assignEach (e :: es) X.env).map (·.2) = assign e X.env :: (assignEach es X.env).map (·.2) := by rfl) : PGsf X (e :: es) (gCn g h) := by
  refine PGsi (pgs_cons h1 h2 hs) fun vs σ H Q zz => ?_
  obtain ⟨ι, σd, Hd, ds, σd', Hd', s, hr, r, e, q⟩ := zz
  cases r with
  | nil => cases e
  | cons r rr =>
    obtain ⟨⟨σ1, H1⟩, e1, e⟩ := Option.bind_eq_some_iff.mp e
    exact ⟨_, _, rfl, ι, σd, Hd, _, σ1, H1, s, hr, r, e1, fun σ' H' ι' l h ss => ⟨ι', σ1, H1, _, σd', Hd', ss, h, Prd.mono l rr, e, fun σ2 H2 ι2 l2 h2 s2 => q σ2 H2 ι2 (l.trans l2) h2 s2⟩⟩
noncomputable def gTp (n : Nat) (g : GFs) : GF := fun d σ H => match d with
  | .tup ds => if ds.length = n then g ds σ H else none
  | _ => none
theorem pgf_tup {k n : Nat} {g : GFs} (hc : X.calm = true) (h : PGsf X es g) (hn : (assignEach es X.env).length = n := by rfl) (hst : (assignEach es X.env).findIdx? (·.1) = none := by rfl) : PGf X (.Tuple es k pos) (gTp n g) := by
  refine PGi (pg_tup hc h hn hst) fun v σ H Q zz => ?_
  obtain ⟨ι, σd, Hd, d, σd', Hd', s, hr, r, e, q⟩ := zz
  cases d with
  | tup ds =>
    obtain ⟨a, vs, rfl, h1, p⟩ := rep_tup.mp r
    simp only [gTp] at e
    split at e
    · rename_i hl
      exact ⟨a, vs, rfl, h1, by rw [← Prd.len p]; exact hl, ι, σd, Hd, ds, σd', Hd', s, hr, p, e, q⟩
    · cases e
  | _ => simp [gTp] at e
noncomputable abbrev OwnD := List (Nat × DO)
noncomputable def okOwn (own : OwnD) (H : HD) : Prop := ∀ p ∈ own, H[p.1]? = some p.2
noncomputable abbrev ItF := SD → HD → Option ((List D × OwnD) × HD)
structure ItRep (K : PySem.W.Frag) (J : It) (xs : List D) (own : OwnD) (H0 : Hp) (ι0 : List Addr) : Prop where
  go : ∀ i H ι Hd, Le K H0 ι0 H ι → HRep K H ι Hd → okOwn own Hd → i < xs.length → J.go i H
  yld : ∀ i H ι Hd d x H', Le K H0 ι0 H ι → HRep K H ι Hd → okOwn own Hd → xs[i]? = some d → J.yld i H x H' → ∃ ι', Le K H ι H' ι' ∧ HRep K H' ι' Hd ∧ Rep K H' ι' d x
  stop : ∀ i H ι Hd, Le K H0 ι0 H ι → HRep K H ι Hd → okOwn own Hd → xs.length ≤ i → J.stop i H
noncomputable def rdI (K : PySem.W.Frag) (f : ItF) : TI := fun σ H R => ∃ ι σd Hd xs own Hd', SRep K H ι σ σd ∧ HRep K H ι Hd ∧ f σd Hd = some ((xs, own), Hd') ∧ ∀ J H' ι', Le K H ι H' ι' → HRep K H' ι' Hd' → ItRep K J xs own H' ι' → R J H'
noncomputable def PIf (X : Cx) (tg iter : Expr) (f : ItF) : Prop := PI X tg iter (rdI X.K f)
theorem PIi {tg iter : Expr} {t t' : TI} (h : PI X tg iter t) (i : ∀ σ H R, t' σ H R → t σ H R) : PI X tg iter t' := fun pins s σ H R I q => h pins s σ H R I (i σ H R q)
open Classical in
noncomputable def forL (own : OwnD) (g : GF) (body : SF) : List D → SF
  | [], σ, H => if okOwn own H then some (.nx, σ, H) else none
  | x :: r, σ, H => if okOwn own H then (g x σ H).bind fun p => (body p.1 p.2).bind fun q => match q.1 with
      | .nx => forL own g body r q.2.1 q.2.2
      | .ct => forL own g body r q.2.1 q.2.2
      | .bk => some (.nx, q.2.1, q.2.2)
      | .rt d => some (.rt d, q.2.1, q.2.2)
    else none
noncomputable def sFor (it : ItF) (g : GF) (body : SF) : SF := fun σ H => (it σ H).bind fun p => forL p.1.2 g body p.1.1 σ p.2
theorem psf_for {tg iter : Expr} {body : List Stmt} {f : ItF} {g : GF} {b : SF} (hp : PassesOwn (model X.prog X.w) X.A X.env X.xe) (hc : X.calm = true) (hi : PIf X tg iter f) (hg : PGf X tg g) (hb : PSsf X body b)
    (hs : ∀ x, foldedSetIterable iter X.env x = pure x := by intro _; rfl) : PSf X (.For tg iter body [] pos) (sFor f g b) := by
  refine PSi (ps_for hp hc hi hg hb hs) fun E σ H zz => ?_
  obtain ⟨ι, σd, Hd, fl, σf, Hf, s, hr, e, q⟩ := zz
  obtain ⟨⟨⟨xs, own⟩, H1⟩, e1, e⟩ := Option.bind_eq_some_iff.mp e
  refine ⟨ι, σd, Hd, xs, own, H1, s, hr, e1, fun J H0 ι0 l0 h0 it => ?_⟩
  refine ⟨fun i m σ H => m = xs.length - i ∧ i ≤ xs.length ∧ ∃ ι σd Hd, Le X.K H0 ι0 H ι ∧ SRep X.K H ι σ σd ∧ HRep X.K H ι Hd ∧ forL own g b (xs.drop i) σd Hd = some (fl, σf, Hf),
    ⟨xs.length, by simp, Nat.zero_le _, ι0, σd, H1, Le.refl, s.mono l0, h0, by simpa using e⟩, ?_⟩
  rintro i m σ2 H2 ⟨rfl, hi, ι2, σd2, Hd2, l2, s2, h2, e2⟩
  by_cases hlt : i < xs.length
  · have ed : xs.drop i = xs[i] :: xs.drop (i + 1) := List.drop_eq_getElem_cons hlt
    rw [ed, forL] at e2
    split at e2
    · rename_i ok
      obtain ⟨⟨σ3, H3⟩, e3, e2⟩ := Option.bind_eq_some_iff.mp e2
      obtain ⟨⟨f4, σ4, H4⟩, e4, e2⟩ := Option.bind_eq_some_iff.mp e2
      refine .inr ⟨it.go i H2 ι2 Hd2 l2 h2 ok hlt, fun σ' H' => (xs.length - (i + 1) = xs.length - (i + 1) ∧ i + 1 ≤ xs.length ∧ ∃ ι σd Hd, Le X.K H0 ι0 H' ι ∧ SRep X.K H' ι σ' σd ∧ HRep X.K H' ι Hd ∧ forL own g b (xs.drop (i + 1)) σd Hd = some (fl, σf, Hf)),
        fun σ' H' p => ⟨_, by omega, p⟩, fun x H' y => ?_⟩
      obtain ⟨ι3, l3, h3, r3⟩ := it.yld i H2 ι2 Hd2 xs[i] x H' l2 h2 ok (by simp [hlt]) y
      refine ⟨ι3, σd2, Hd2, xs[i], σ3, H3, s2.mono l3, h3, r3, e3, fun σ5 H5 ι5 l5 h5 s5 => ?_⟩
      refine ⟨ι5, σ3, H3, f4, σ4, H4, s5, h5, e4, fun σ6 H6 ι6 l6 h6 s6 => ?_⟩
      have L : Le X.K H0 ι0 H6 ι6 := ((l2.trans l3).trans l5).trans l6
      cases f4 with
      | nx => exact ⟨rfl, hlt, ι6, σ4, H4, L, s6, h6, e2⟩
      | ct => exact ⟨rfl, hlt, ι6, σ4, H4, L, s6, h6, e2⟩
      | bk => cases e2; exact q σ6 H6 ι6 (l0.trans L) h6 s6
      | rt d => cases e2; exact q σ6 H6 ι6 (l0.trans L) h6 s6
    · cases e2
  · have hi' : i = xs.length := by omega
    rw [List.drop_eq_nil_of_le (by omega), forL] at e2
    split at e2
    · rename_i ok
      have e3 : (FD.nx, σd2, Hd2) = (fl, σf, Hf) := Option.some.inj e2
      obtain ⟨rfl, e4⟩ := Prod.mk.inj e3
      obtain ⟨rfl, rfl⟩ := Prod.mk.inj e4
      exact .inl ⟨it.stop i H2 ι2 _ l2 h2 ok (by omega), q σ2 H2 ι2 (l0.trans l2) h2 s2⟩
    · cases e2
end
noncomputable def runB (n N : Nat) (b : SF) : FF := fun ds H => if ds.length = n then (b (ds.map some ++ List.replicate (N - ds.length) none) H).bind fun r => match r.1 with
    | .rt d => some (d, r.2.2)
    | .nx => some (.non, r.2.2)
    | _ => none
  else none
section
variable {P : Program} {w : World} {K : PySem.W.Frag} {mg : Str → Option Value} {base : Heap}
theorem fn_f {x qual : Str} {st : Stmt} {f : Addr} {fd : FuncData} {N ps : List Str} {k : Nat} {b : SF} (F : Fun K x qual st f fd) (S : FnScope N ps (defScope st))
    (hb : ∀ (cdv : Value) (A : Around) (outer : List Env) (s : Shared) (H : Hp) (E : XK), Room k (A.deeper (envOfC qual (defScope st) s.heap.objs.size f cdv)) →
      PSsf (cxOf CX0 P w K mg base N qual (defScope st) f cdv A outer s H E).nox (defBody st) b) : FnOk P w K mg base CX0 (k + 1) f fd ps (spF K ps.length (runB ps.length N.length b)) := by
  refine F.ok S (fun vs H Q E h => ?_) (fun cdv A outer s H vs Q E hr h => ?_)
  · obtain ⟨ι, ds, Hd, d, Hd', hl, _, r, _⟩ := h
    rw [← Prd.len r]; exact hl
  · obtain ⟨ι, ds, Hd, d, Hd', hl, hh, r, e, q⟩ := h
    refine ⟨_, hb cdv A outer s H E hr, ?_⟩
    unfold runB at e
    rw [if_pos hl] at e
    obtain ⟨⟨fl, σ1, H1⟩, e1, e⟩ := Option.bind_eq_some_iff.mp e
    refine ⟨ι, _, Hd, fl, σ1, H1, ?_, hh, e1, fun σ' H' ι' l h ss => ?_⟩
    · refine ⟨by simp [L2.start, Prd.len r], fun i d0 h0 => ?_⟩
      unfold L2.start
      by_cases hi : i < ds.length
      · rw [List.getElem?_append_left (by simpa using hi), List.getElem?_map] at h0
        cases ed : ds[i]? with
        | none => rw [ed] at h0; cases h0
        | some d1 =>
          rw [ed] at h0
          cases h0
          obtain ⟨v, hv, rv⟩ := Prd.get r ed
          refine ⟨v, ?_, rv⟩
          rw [List.getElem?_append_left (by rw [List.length_map, ← Prd.len r]; exact hi), List.getElem?_map, hv]
          rfl
      · rw [List.getElem?_append_right (by simpa using hi), List.getElem?_replicate] at h0
        split at h0 <;> cases h0
    · cases fl with
      | rt d1 => cases e; exact fun v rv => q v H' ι' l h rv
      | nx => cases e; exact q .non H' ι' l h (by simp)
      | bk => cases e
      | ct => cases e
end
end DL
namespace DL
open PySem PySem.Spec PyProof.Rows L2
noncomputable def clOf (env : Env) : List (Str × NameKind) → List (Str × Addr) → List (Str × Addr)
  | [], cs => cs
  | (n, k) :: r, cs => clOf env r (if k = .free then (match env.cells.lookup n with | some a => (n, a) :: cs | none => cs) else cs)
theorem closure_eq (env : Env) (scope : Scope) (h : ∀ y ∈ scope.names, y.2 = .free → (env.cells.lookup y.1).isSome = true) : closureFor scope env = pure (clOf env scope.names []) := by
  have key : ∀ (ns : List (Str × NameKind)) (cs : List (Str × Addr)), (∀ y ∈ ns, y.2 = .free → (env.cells.lookup y.1).isSome = true) →
      (forIn ns cs fun (x : Str × NameKind) cs => match x with
        | (name, kind) => if (kind == .free) = true then (do let a ← cellOf env name; pure (ForInStep.yield ((name, a) :: cs))) else pure (ForInStep.yield cs) : Sem (List (Str × Addr))) = pure (clOf env ns cs) := by
    intro ns
    induction ns with
    | nil => intro cs _; rfl
    | cons x r ih =>
      intro cs hh
      obtain ⟨n, k⟩ := x
      have hr := ih
      rw [List.forIn_cons]
      by_cases hk : k = .free
      · subst hk
        have q := hh (n, .free) (by simp) rfl
        cases e : env.cells.lookup n with
        | none => rw [e] at q; cases q
        | some a =>
          have e2 : cellOf env n = pure a := by unfold cellOf; rw [e]
          simp only [beq_self_eq_true, if_true, e2, pure_bind, clOf, e]
          exact ih _ fun y hy => hh y (List.mem_cons_of_mem _ hy)
      · have hb : (k == NameKind.free) = false := by simpa using hk
        simp only [hb, Bool.false_eq_true, if_false, pure_bind, clOf, hk]
        exact ih _ fun y hy => hh y (List.mem_cons_of_mem _ hy)
  have e : closureFor scope env = ((forIn scope.names [] fun (x : Str × NameKind) cs => match x with
        | (name, kind) => if (kind == .free) = true then (do let a ← cellOf env name; pure (ForInStep.yield ((name, a) :: cs))) else pure (ForInStep.yield cs) : Sem (List (Str × Addr))) >>= pure) := rfl
  rw [e, bind_pure]
  exact key scope.names [] h
theorem clOf_sub (env : Env) : ∀ (ns : List (Str × NameKind)) (cs : List (Str × Addr)), (∀ x c, cs.lookup x = some c → env.cells.lookup x = some c) → ∀ x c, (clOf env ns cs).lookup x = some c → env.cells.lookup x = some c
  | [], cs, h => h
  | (n, k) :: r, cs, h => by
    unfold clOf
    refine clOf_sub env r _ ?_
    split
    · cases e : env.cells.lookup n with
      | none => exact h
      | some a =>
        intro x c q
        dsimp only at q
        rw [List.lookup_cons] at q
        split at q
        · rename_i hb
          have hb' : x = n := by simpa using hb
          subst hb'; cases q; exact e
        · exact h x c q
    · exact h
theorem clOf_has (env : Env) : ∀ (ns : List (Str × NameKind)) (cs : List (Str × Addr)) (x : Str), ((cs.lookup x).isSome = true ∨ ((x, NameKind.free) ∈ ns ∧ (env.cells.lookup x).isSome = true)) → ((clOf env ns cs).lookup x).isSome = true
  | [], cs, x, h => by
    rcases h with h | ⟨h, _⟩
    · exact h
    · simp at h
  | (n, k) :: r, cs, x, h => by
    unfold clOf
    refine clOf_has env r _ x ?_
    by_cases hk : k = .free
    · rw [if_pos hk]
      cases e : env.cells.lookup n with
      | none =>
        rcases h with h | ⟨h, h2⟩
        · exact .inl h
        · rcases List.mem_cons.mp h with h | h
          · cases h; rw [e] at h2; cases h2
          · exact .inr ⟨h, h2⟩
      | some a =>
        dsimp only
        rw [List.lookup_cons]
        by_cases hx : x = n
        · subst hx; simp
        · have : (x == n) = false := by simpa using hx
          rw [this]
          rcases h with h | ⟨h, h2⟩
          · exact .inl h
          · rcases List.mem_cons.mp h with h | h
            · cases h; exact absurd rfl hx
            · exact .inr ⟨h, h2⟩
    · rw [if_neg hk]
      rcases h with h | ⟨h, h2⟩
      · exact .inl h
      · rcases List.mem_cons.mp h with h | h
        · cases h; exact absurd rfl hk
        · exact .inr ⟨h, h2⟩
theorem relabel_vis {env : Env} : ∀ {names : List (Str × NameKind)} {x : Str}, names.lookup x = some .free →
    ((names.map fun (n, k) => if (k == NameKind.free && env.scope.kind == .function && env.kindOf n == some .cell) then (n, NameKind.cell) else (n, k)).lookup x = some .cell ∨
     (names.map fun (n, k) => if (k == NameKind.free && env.scope.kind == .function && env.kindOf n == some .cell) then (n, NameKind.cell) else (n, k)).lookup x = some .free)
  | [], _, h => by simp at h
  | (n, k) :: r, x, h => by
    have ih := @relabel_vis env r x
    show List.lookup x ((if (k == NameKind.free && env.scope.kind == .function && env.kindOf n == some .cell) = true then (n, NameKind.cell) else (n, k)) :: _) = _ ∨ List.lookup x ((if (k == NameKind.free && env.scope.kind == .function && env.kindOf n == some .cell) = true then (n, NameKind.cell) else (n, k)) :: _) = _
    cases hx : x == n with
    | true =>
      simp only [List.lookup_cons, hx] at h
      cases h
      by_cases hc : (NameKind.free == NameKind.free && env.scope.kind == .function && env.kindOf n == some .cell) = true
      · rw [if_pos hc]; simp only [List.lookup_cons, hx]; simp
      · rw [if_neg hc]; simp only [List.lookup_cons, hx]; simp
    | false =>
      simp only [List.lookup_cons, hx] at h
      by_cases hc : (k == NameKind.free && env.scope.kind == .function && env.kindOf n == some .cell) = true
      · rw [if_pos hc]; simp only [List.lookup_cons, hx]; exact ih h
      · rw [if_neg hc]; simp only [List.lookup_cons, hx]; exact ih h
theorem relabel_free {env : Env} : ∀ {names : List (Str × NameKind)} {x : Str}, (∀ y ∈ names, y.2 ≠ .cell) →
    ((names.map fun (n, k) => if (k == NameKind.free && env.scope.kind == .function && env.kindOf n == some .cell) then (n, NameKind.cell) else (n, k)).lookup x = some .cell ∨
     (names.map fun (n, k) => if (k == NameKind.free && env.scope.kind == .function && env.kindOf n == some .cell) then (n, NameKind.cell) else (n, k)).lookup x = some .free) → (x, NameKind.free) ∈ names
  | [], _, _, h => by simp at h
  | (n, k) :: r, x, hn, h => by
    have ih := @relabel_free env r x (fun y hy => hn y (List.mem_cons_of_mem _ hy))
    have h : List.lookup x ((if (k == NameKind.free && env.scope.kind == .function && env.kindOf n == some .cell) = true then (n, NameKind.cell) else (n, k)) :: _) = _ ∨ List.lookup x ((if (k == NameKind.free && env.scope.kind == .function && env.kindOf n == some .cell) = true then (n, NameKind.cell) else (n, k)) :: _) = _ := h
    cases hx : x == n with
    | true =>
      have hx' : x = n := by simpa using hx
      subst hx'
      by_cases hc : (k == NameKind.free && env.scope.kind == .function && env.kindOf x == some .cell) = true
      · have hk : k = .free := by
          rw [Bool.and_eq_true, Bool.and_eq_true] at hc
          simpa using hc.1.1
        subst hk; simp
      · rw [if_neg hc] at h
        simp only [List.lookup_cons, hx] at h
        rcases h with h | h
        · cases h; exact absurd rfl (hn (x, .cell) (by simp))
        · cases h; simp
    | false =>
      refine List.mem_cons_of_mem _ (ih ?_)
      by_cases hc : (k == NameKind.free && env.scope.kind == .function && env.kindOf n == some .cell) = true
      · rw [if_pos hc] at h; simp only [List.lookup_cons, hx] at h; exact h
      · rw [if_neg hc] at h; simp only [List.lookup_cons, hx] at h; exact h
noncomputable def blk (X : Cx) (scope : Scope) (N : List Str) (cl : List (Str × Addr)) (C : Addr) (s : Shared) (H : Hp) (fp : List Addr) (pn : List (Addr × Obj)) : Cx where
  prog := X.prog
  w := X.w
  K := X.K
  mg := X.mg
  base := X.base
  A := X.A
  N := N
  s₀ := s
  H₀ := H
  env := compEnvC scope cl C X.env
  outer := X.stack
  stack := X.stack
  ex := fp
  fn := fun _ => false
  calm := X.calm
  pn := pn
  xe := fun _ _ => False
structure BlkOk (X : Cx) (scope : Scope) (x : Str) (cn : List Str) (ci : List Nat) : Prop where
  kind : scope.kind = .function
  nocell : ∀ y ∈ scope.names, y.2 ≠ .cell
  names : ∀ y ∈ scope.names, y.2 = .local → scope.names.lookup y.1 = some .local
  tgt : scope.names.lookup x = some .local
  free : ∀ y ∈ scope.names, y.2 = .free → (X.env.cells.lookup y.1).isSome = true
  nd : (x :: cn).Nodup
  len : ci.length = cn.length
  cap : ∀ (j : Nat) (y : Str), cn[j]? = some y → ∃ i, ci[j]? = some i ∧ X.N[i]? = some y ∧ scope.names.lookup y = some .free ∧ (X.env.kindOf y = some .cell ∨ X.env.kindOf y = some .free)
noncomputable def capS (ci : List Nat) (σ : L2.St) : L2.St := ci.map fun i => (σ[i]?).join
section
variable {X : Cx} {pins : List (Addr × Obj)} {σ : L2.St} {H : Hp} {s : Shared} {scope : Scope} {x : Str} {cn : List Str} {ci : List Nat} {fp : List Addr}
theorem inv_blk {h₁ : Heap} {tk : Nat} {o₁ : Obj} (I : Inv X pins σ H s) (B : BlkOk X scope x cn ci) (hf : ∀ b ∈ fp, FpOk X pins H b) (hlt : ∀ b ∈ fp, b < s.heap.objs.size)
    (hns : h₁.Ns s.heap.objs.size (fun _ => none)) (hsb : Heap.SameBut s.heap.objs.size (s.heap.push o₁) h₁) :
    Inv (blk X scope (x :: cn) (clOf X.env scope.names []) s.heap.objs.size s H fp (X.pn ++ pins)) [] (none :: capS ci σ) H { s with heap := h₁, toks := tk } := by
  have old : ∀ b o, s.heap.get? b = some o → h₁.get? b = some o := fun b o e => hsb.extBut b o (Nat.ne_of_lt (Heap.lt_size e)) (Heap.get?_push_of_some _ e)
  have sub := clOf_sub X.env scope.names [] (by intro x c h; simp at h)
  have has : ∀ y, (y, NameKind.free) ∈ scope.names → ∃ c, (clOf X.env scope.names []).lookup y = some c := fun y hy =>
    Option.isSome_iff_exists.mp (clOf_has X.env scope.names [] y (.inr ⟨hy, B.free _ hy rfl⟩))
  refine ⟨⟨I.ok.mod, B.kind, I.ok.glob, I.ok.blt, Nat.le_refl _, fun y z c h1 h2 => I.ok.inj y z c (sub y c h1) (sub z c h2), fun y hy => has y (relabel_free B.nocell hy), fun y c hy => absurd hy (by show ¬ (false = true); simp), I.ok.hd, I.ok.frames, .inl rfl,
      fun b hb => ⟨Nat.ne_of_lt (hlt b hb), fun y c e => (hf b hb).2.2.2.2.1 y c (sub y c e)⟩, I.bs, Nat.le_trans I.ok.bsz I.sz, fun b o e hb => ?_, fun b hb z => ?_, I.stack, I.stkFree⟩,
    rfl, I.bare, Un.kept old, ⟨_, hns, fun i y v h1 h2 h3 => ?_⟩, fun y c e => ?_, I.hok.fresh (Nat.le_refl _), fun y c e => I.freeC y c (sub y c e), fun p hp => ?_, I.hok.kept old, ?_⟩
  · rcases (hf b hb).2.2.2.1 with z | z
    · exact I.ok.noex b o e z
    · exact absurd (Nat.lt_of_lt_of_le (Heap.lt_size e) (Nat.le_trans I.ok.bsz z)) (Nat.lt_irrefl _)
  · exact (List.mem_cons.mp (I.stkSub b z)).elim (hf b hb).2.1 (hf b hb).2.2.1
  · cases i with
    | zero => simp at h2
    | succ j =>
      have h1' : cn[j]? = some y := by simpa [blk] using h1
      have h2' : (capS ci σ)[j]? = some (some v) := by simpa using h2
      obtain ⟨i, e1, e2, e3, e4⟩ := B.cap j y h1'
      have e5 : σ[i]? = some (some v) := by
        unfold capS at h2'
        rw [List.getElem?_map, e1] at h2'
        simp at h2'
        cases e : σ[i]? with
        | none => rw [e] at h2'; cases h2'
        | some o => rw [e] at h2'; simp at h2'; rw [h2']
      obtain ⟨m, hn, hl⟩ := I.loc
      have hv : Vis X.env.scope y := by
        rcases e4 with e4 | e4
        · exact .inr (.inl e4)
        · exact .inr (.inr e4)
      obtain ⟨u, r, l⟩ := hl i y v e2 e5 hv
      refine ⟨u, r, .inr ⟨relabel_vis e3, ?_⟩⟩
      obtain ⟨c, ec⟩ := has y (PySem.mem_of_lookup e3)
      refine ⟨c, ec, ?_⟩
      rcases l with ⟨l, _⟩ | ⟨_, c', ec', hc⟩
      · rcases e4 with e4 | e4 <;> rw [e4] at l <;> cases l
      · rw [sub y c ec] at ec'
        cases ec'
        obtain ⟨ob, q1, q2⟩ := hc
        exact ⟨ob, old _ _ q1, q2⟩
  · obtain ⟨v, ob, q1, q2⟩ := I.cell y c (sub y c e)
    exact ⟨v, ob, old _ _ q1, q2⟩
  · have hp' : p ∈ X.pn ++ pins := by simpa [blk] using hp
    obtain ⟨q1, q2, q3, q4, q5⟩ := I.pin p hp'
    refine ⟨old _ _ q1, q2, Nat.ne_of_lt (Heap.lt_size q1), fun z => ?_, q5⟩
    exact (List.mem_cons.mp (I.stkSub p.1 z)).elim q3 q4
  · simp [blk, capS, B.len]
noncomputable def PTs (X : Cx) (ifs : List Expr) (t : TT) : Prop :=
  ∀ (pins : List (Addr × Obj)) (s : Shared) (σ : L2.St) (H : Hp) (Q : Bool → Hp → Prop), Inv X pins σ H s → t σ H Q →
    wpAny (model X.prog X.w) X.A (forIn ifs true fun c r => if r = true then do let ok ← isTrue c X.env (eval c X.env); pure (ForInStep.yield ok) else pure (ForInStep.yield r)) (TP X pins σ Q) X.xe s
theorem pts_nil : PTs X [] (fun _ H Q => Q true H) := fun _ _ _ H _ I h => wpAny_tests_nil ⟨H, I, h⟩
theorem pts_one {c : Expr} {t : TT} (h : PT X c t) : PTs X [c] t := fun pins s σ H Q I q => wpAny_tests_one (h pins s σ H Q I q)
noncomputable def LcW (J : It) (ci : List Nat) (tt : TT) (te : TE) (σ : L2.St) (Q : VK) (H1 : Hp) : Prop := ∀ p, H1 p = none → ∃ W : Nat → Nat → List V → Hp → Prop, (∃ m, W 0 m [] (upd H1 p (.lst []))) ∧ ∀ i m ys H, W i m ys H →
  H p = some (.lst ys) ∧ ((J.stop i H ∧ Q (.ref p) H) ∨ (J.go i H ∧ ∀ v H', J.yld i H v H' → tt (some v :: capS ci σ) H' fun b H2 =>
    if b = true then te (some v :: capS ci σ) H2 fun y H3 => H3 p = some (.lst ys) ∧ ys.length < sizeLine ∧ ∃ m', m' < m ∧ W (i + 1) m' (ys ++ [y]) (upd H3 p (.lst (ys ++ [y])))
    else ∃ m', m' < m ∧ W (i + 1) m' ys H2))
structure Gone (X : Cx) (pins : List (Addr × Obj)) (H : Hp) (s : Shared) (C : Addr) : Prop where
  ns : ∃ m, s.heap.Ns C m
  free : H C = none
  nl : C ≠ X.env.locals
  up : X.s₀.heap.objs.size ≤ C
  nc : ∀ x c, X.env.cells.lookup x = some c → c ≠ C
  np : ∀ p ∈ X.pn ++ pins, p.1 ≠ C
theorem Gone.go {σ : L2.St} {h' : Heap} {C : Addr} (g : Gone X pins H s C) (I : Inv X pins σ H s) (hs : Heap.SameBut C s.heap h') : Inv X pins σ H { s with heap := h' } :=
  I.turned (t' := s.toks) (fun b o hb e => hs.extBut b o hb e) g.free g.nl (.inr g.up) g.nc g.np
theorem lc_block {elt iter : Expr} {px pos : Pos} {ifs : List Expr} {tt : TT} {te : TE} {Q : VK} {E : Value → Shared → Prop} {RR : Value → Addr → Result → Shared → Prop} {it : Addr} {tn : Nat → Heap → Prop} {J : It}
    (I : Inv X pins σ H s) (hc : X.calm = true) (B : BlkOk X scope x cn ci) (T : Turn X.prog X.w X.K (.Name x px) J fp it tn) (st : tn 0 s.heap) (hf : ∀ b ∈ fp, FpOk X pins H b)
    (ht : ∀ cl C s H fp pn, PTs (blk X scope (x :: cn) cl C s H fp pn) ifs tt) (he : ∀ cl C s H fp pn, PE (blk X scope (x :: cn) cl C s H fp pn) elt te)
    (hw : LcW J ci tt te σ Q H) (hRR : ∀ p C H' s', Inv X pins σ H' s' → Gone X pins H' s' C → Q (.ref p) H' → RR (.ref p) C (.ok .next) s') :
    wpAny (model X.prog X.w) X.A (newList []) (fun acc s₃ => wpAny (model X.prog X.w) X.A (newFunctionEnv scope X.env.globals (clOf X.env scope.names []) [] X.env.qual none .none (some X.env)) (fun cenv s₄ =>
      codeAny (model X.prog X.w) X.A (.compStart (.ListComp elt [⟨.Name x px, iter, ifs, 0⟩] scope pos) 0 (.ref it) acc { cenv with scope := relabel scope X.env }) (RR acc cenv.locals) s₄) E s₃) E s := by
  have hp0 : H s.heap.objs.size = none := I.hok.fresh (Nat.le_refl _)
  obtain ⟨W, ⟨m0, w0⟩, turn⟩ := hw _ hp0
  refine wpAny_newObj_type (wpAny_newFunctionEnv B.nocell (by intro y hy; simp at hy) (fun h₁ hns₁ hsb₁ => ?_) B.kind)
  dsimp only at hns₁ hsb₁ ⊢
  have I3 : Inv X pins σ (upd H s.heap.objs.size (.lst [])) { s with heap := s.heap.push { cls := .type "list", dict := none, data := .seq ([] : List Value).toArray } } :=
    I.laid (t' := s.toks) (fun b u e => Heap.get?_push_of_some _ e) (Nat.le_refl _) ⟨Nat.zero_le _, [], 0, .nil, Heap.get?_push_size _ rfl⟩
  generalize hH3 : s.heap.push { cls := .type "list", dict := none, data := .seq ([] : List Value).toArray } = hp3 at hns₁ hsb₁ I3 ⊢
  have flt : ∀ b ∈ fp, b < s.heap.objs.size := fun b hb => by
    obtain ⟨o, e, _⟩ := T.obj 0 _ st b hb
    exact Heap.lt_size e
  have sz3 : hp3.objs.size = s.heap.objs.size + 1 := by rw [← hH3, Heap.size_push]
  have f3 : ∀ b ∈ fp, FpOk X pins (upd H s.heap.objs.size (.lst [])) b := fun b hb => ⟨by rw [upd_ne (Nat.ne_of_lt (flt b hb))]; exact (hf b hb).1, (hf b hb).2⟩
  have old3 : ∀ b o, s.heap.get? b = some o → hp3.get? b = some o := fun b o e => by rw [← hH3]; exact Heap.get?_push_of_some _ e
  have I4 := inv_blk (s := { s with heap := hp3 }) (tk := s.toks + ([] : List (Str × Value)).length) I3 B f3 (fun b hb => by show b < hp3.objs.size; rw [sz3]; exact Nat.lt_succ_of_lt (flt b hb)) (by simpa using hns₁) hsb₁
  have old4 : ∀ b o, hp3.get? b = some o → h₁.get? b = some o := fun b o e => hsb₁.extBut b o (Nat.ne_of_lt (Heap.lt_size e)) (Heap.get?_push_of_some _ e)
  generalize hX' : blk X scope (x :: cn) (clOf X.env scope.names []) hp3.objs.size { s with heap := hp3 } (upd H s.heap.objs.size (.lst [])) fp (X.pn ++ pins) = X' at I4
  have ePr : X'.prog = X.prog := by rw [← hX']; rfl
  have eW : X'.w = X.w := by rw [← hX']; rfl
  have eK : X'.K = X.K := by rw [← hX']; rfl
  have eA : X'.A = X.A := by rw [← hX']; rfl
  have eEnv : X'.env = compEnvC scope (clOf X.env scope.names []) hp3.objs.size X.env := by rw [← hX']; rfl
  have eEx : X'.ex = fp := by rw [← hX']; rfl
  have ht' : PTs X' ifs tt := by rw [← hX']; exact ht _ _ _ _ _ _
  have he' : PE X' elt te := by rw [← hX']; exact he _ _ _ _ _ _
  have eXe : X'.xe = fun _ _ => False := by rw [← hX']; rfl
  have hg' : PG X' (.Name x px) (gName 0) := by
    rw [← hX']
    exact pg_name (X := blk X scope (x :: cn) _ _ _ _ _ _) B.nd rfl (.inl (lookup_relabel_local B.tgt)) (.inr (lookup_relabel_local B.tgt))
  -- the iterator's objects, seen from the block
  have stat : ∀ {H' : Hp}, (∀ b ∈ fp, H' b = none) → ∀ b ∈ fp, FpOk X' [] H' b := fun {H'} hn b hb => by
    rw [← hX']
    refine ⟨hn b hb, (by show b ≠ hp3.objs.size; rw [sz3]; exact Nat.ne_of_lt (Nat.lt_succ_of_lt (flt b hb))), fun z => (List.mem_cons.mp (I3.stkSub b z)).elim (hf b hb).2.1 (hf b hb).2.2.1, .inl hb, fun y c e => ?_, fun p hp => ?_⟩
    · exact (hf b hb).2.2.2.2.1 y c (clOf_sub X.env scope.names [] (by intro x c h; simp at h) y c e)
    · exact (hf b hb).2.2.2.2.2 p (by simpa [blk] using hp)
  have back : ∀ {σ' : L2.St} {H' : Hp} {s' : Shared}, Inv X' [] σ' H' s' → Inv X pins σ H' s' ∧ Gone X pins H' s' hp3.objs.size := fun {σ' H' s'} I5 => by
    have u : Un (frs X.stack) fp (upd H s.heap.objs.size (.lst [])) H' hp3 s'.heap := by
      have := I5.base
      rw [← hX'] at this
      exact this
    have hok : HOk X.prog X.w H' s'.heap := by have := I5.hok; rw [ePr, eW] at this; exact this
    have ho : s'.os = s.os := by have := I5.os; rw [← hX'] at this; exact this
    refine ⟨I3.call' ho u hok I5.bare fun b hb => ⟨(hf b hb).2.2.2.1, (hf b hb).2.1, (hf b hb).2.2.2.2.1, (hf b hb).2.2.2.2.2⟩, ?_, ?_, ?_, ?_, fun y c e z => ?_, fun p hp z => ?_⟩
    · obtain ⟨m, hn, _⟩ := I5.loc
      rw [eEnv] at hn
      exact ⟨m, hn⟩
    · have := I5.free
      rw [eEnv] at this
      exact this
    · exact Nat.ne_of_gt (I3.lt)
    · exact I3.sz
    · obtain ⟨v, q⟩ := I3.cell y c e
      exact absurd (Nat.lt_of_lt_of_le q.lt (by rw [z]; exact Nat.le_refl _)) (Nat.lt_irrefl _)
    · have := Heap.lt_size (I3.pin p hp).1
      rw [z] at this
      exact Nat.lt_irrefl _ this
  have loop : codeAny (model X.prog X.w) X.A (.compLoop (.ListComp elt [⟨.Name x px, iter, ifs, 0⟩] scope pos) 0 (.ref it) (.ref s.heap.objs.size) (compEnvC scope (clOf X.env scope.names []) hp3.objs.size X.env))
      (RR (.ref s.heap.objs.size) hp3.objs.size) { s with heap := h₁, toks := s.toks + ([] : List (Str × Value)).length } := by
    refine codeAny_loop rfl (fun n s' => ∃ i o ys H', Inv X' [] (o :: capS ci σ) H' s' ∧ tn i s'.heap ∧ (∀ b ∈ fp, H' b = none) ∧ W i n ys H') (fun n s' hI => ?_) m0
      ⟨0, none, [], _, I4, T.keep _ _ _ st (fun b hb o e => old4 b o (old3 b o e)), fun b hb => (f3 b hb).1, w0⟩
    obtain ⟨i, o, ys, H', I5, st5, fr5, w5⟩ := hI
    show wpAny _ X.A ((compTurn (.ListComp elt [⟨.Name x px, iter, ifs, 0⟩] scope pos) 0 (.ref it) (.ref s.heap.objs.size) (compEnvC scope (clOf X.env scope.names []) hp3.objs.size X.env)).onRaise (fun x => do noteFrame x (compEnvC scope (clOf X.env scope.names []) hp3.objs.size X.env); theTreesLotGoes x)) _ _ s'
    refine wpAny_noted ?_
    rw [compTurn_list, ← eEnv, ← ePr, ← eW, ← eA]
    refine wpAny_mono (E := fun _ _ => False) ?_ (fun _ _ q => q) (fun _ _ z => z.elim)
    obtain ⟨hpl, wt⟩ := turn i n ys H' w5
    refine wpAny_bind (wpAny_standAt (wpAny_bind ?_))
    rcases wt with ⟨stop, q⟩ | ⟨go, step⟩
    · have z := T.done X' ePr eW eK (by rw [← hX']; exact hc) i [] s' _ H' (fun _ _ => False) I5 (stat fr5) st5 stop
      rw [← ePr, ← eW] at z
      refine thn z fun r s6 zz => ?_
      obtain ⟨hr, I6⟩ := zz
      subst hr
      obtain ⟨J1, g1⟩ := back I6
      exact wpAny_pure (hRR _ _ H' s6 J1 g1 q)
    · have z := T.item X' ePr eW eK (by rw [← hX']; exact hc) i [] s' _ H' (fun _ _ => False) I5 (stat fr5) st5 go
      rw [← ePr, ← eW] at z
      refine thn z fun r s6 zz => ?_
      obtain ⟨u, hr, h6⟩ := zz
      subst hr
      refine wpAny_bind (thn h6 fun _ s7 zz => ?_)
      obtain ⟨v, H7, I7, r7, y7, st7, fr7⟩ := zz
      have I7' := I7.pinned (stat fr7) (T.obj _ _ st7)
      rw [← eXe]
      refine wpAny_bind (thn (hg' _ s7 _ H7 v u _ I7' r7 (show gName 0 v (o :: capS ci σ) H7 (fun σ8 H8 => σ8 = some v :: capS ci σ ∧ H8 = H7) from ⟨rfl, rfl⟩)) fun _ s8 zz => ?_)
      obtain ⟨σ8, H8, I8, e8, e8'⟩ := zz
      subst e8 e8'
      refine wpAny_bind (thn (ht' _ s8 _ _ _ I8 (step v _ y7)) fun b s9 zz => ?_)
      obtain ⟨H9, I9, q9⟩ := zz
      have tnK : ∀ {σ' : L2.St} {H' : Hp} {s' : Shared}, Inv X' (([] : List (Addr × Obj)) ++ pinsAt fp s7.heap) σ' H' s' → tn (i + 1) s'.heap ∧ ∀ b ∈ fp, H' b = none := fun {σ' H' s'} I' =>
        ⟨T.keep _ _ _ st7 fun b hb o e => (I'.pin (b, o) (List.mem_append_right _ (List.mem_append_right _ (mem_pinsAt hb e)))).1, fun b hb => by
          obtain ⟨ob, e, d⟩ := T.obj _ _ st7 b hb
          exact (I'.pin (b, ob) (List.mem_append_right _ (List.mem_append_right _ (mem_pinsAt hb e)))).2.1⟩
      cases b with
      | false =>
        obtain ⟨m', hm, w9⟩ := q9
        obtain ⟨t9, f9⟩ := tnK I9
        exact wpAny_pure ⟨rfl, m', hm, i + 1, _, ys, H9, I9.unpinned, t9, f9, w9⟩
      | true =>
        refine wpAny_bind (wpAny_bind (thn (he' _ s9 _ _ _ I9 q9) fun yv s10 zz => ?_))
        obtain ⟨y, H10, I10, r10, hp10, hz10, m', hm, w10⟩ := zz
        refine wpAny_bind (thn (mt_append (X := X') _ s10 _ H10 (.ref s.heap.objs.size) [y] (.ref s.heap.objs.size) [yv] (fun _ H11 => H11 = upd H10 s.heap.objs.size (.lst (ys ++ [y]))) I10 rfl (.cons r10 .nil) ⟨_, ys, y, rfl, rfl, hp10, hz10, rfl⟩) fun _ s11 zz => ?_)
        obtain ⟨_, H11, I11, _, e11⟩ := zz
        subst e11
        obtain ⟨t11, f11⟩ := tnK I11
        exact wpAny_pure (wpAny_pure ⟨rfl, m', hm, i + 1, _, ys ++ [y], _, I11.unpinned, t11, f11, w10⟩)
  exact codeAny_compStart_list loop (T.self _ 0 _ _ _ (T.keep _ _ _ st (fun b hb o e => old4 b o (old3 b o e))) loop)
noncomputable def tLC (wi : TI) (ci : List Nat) (tt : TT) (te : TE) : TE := fun σ H Q => wi σ H fun J H1 => LcW J ci tt te σ Q H1
theorem pe_lc {elt iter : Expr} {px pos : Pos} {ifs : List Expr} {wi : TI} {tt : TT} {te : TE} (hc : X.calm = true) (B : BlkOk X scope x cn ci) (hi : PI X (.Name x px) iter wi)
    (ht : ∀ cl C s H fp pn, PTs (blk X scope (x :: cn) cl C s H fp pn) ifs tt) (he : ∀ cl C s H fp pn, PE (blk X scope (x :: cn) cl C s H fp pn) elt te)
    (hs : ∀ x, foldedSetIterable iter X.env x = pure x := by rintro _; rfl) : PE X (.ListComp elt [⟨.Name x px, iter, ifs, 0⟩] scope pos) (tLC wi ci tt te) := by
  intro pins s σ H Q I h
  rw [eval_ListComp]
  refine wpAny_comprehension_free (use := none) rfl hs (closure_eq X.env scope B.free) B.kind B.names ?_
  refine thn (hi pins s σ H _ I h) fun v s1 h1 => thn h1 fun itv s2 h2 => ?_
  obtain ⟨it, fp, tn, J, H2, e, I2, T, st2, f2, w2⟩ := h2
  subst e
  refine lc_block (RR := fun acc C => compPost (model X.prog X.w) X.A X.xe none (EP X pins σ Q) acc C) I2 hc B T st2 f2 ht he w2 fun p C H' s' I' g q => ?_
  obtain ⟨m, hn⟩ := g.ns
  exact ⟨m, hn, fun h' hs' => ⟨.ref p, H', g.go I' hs', rfl, q⟩⟩
theorem ps_lcset {elt iter : Expr} {px py pos spos : Pos} {ifs : List Expr} {wi : TI} {tt : TT} {te : TE} {i : Nat} {y : Str} (hc : X.calm = true) (B : BlkOk X scope x cn ci) (hi : PI X (.Name x px) iter wi)
    (ht : ∀ cl C s H fp pn, PTs (blk X scope (x :: cn) cl C s H fp pn) ifs tt) (he : ∀ cl C s H fp pn, PE (blk X scope (x :: cn) cl C s H fp pn) elt te)
    (hN : X.N.Nodup) (hiN : X.N[i]? = some y) (hy : X.env.scope.names.lookup y = some .local)
    (hsw : swapsWith (.ListComp elt [⟨.Name x px, iter, ifs, 0⟩] scope pos) (some (.Name y py)) spos.line X.env = pure true := by rfl)
    (hs : ∀ x, foldedSetIterable iter X.env x = pure x := by rintro _; rfl) : PS X (.Assign [.Name y py] (.ListComp elt [⟨.Name x px, iter, ifs, 0⟩] scope pos) spos) (tAsg (tLC wi ci tt te) (gName i)) := by
  intro pins s σ H E I h
  rw [exec_Assign_Name_used _ _ _ _ hsw]
  refine wpAny_bind (wpAny_standAt (wpAny_bind ?_))
  show wpAny _ X.A (do let _ ← comprehension (.ListComp elt [⟨.Name x px, iter, ifs, 0⟩] scope pos) scope X.env _ (newList []) false (eval iter X.env) (some (assign (.Name y py) X.env))) _ _ s
  refine wpAny_bind (wpAny_mono (wpAny_comprehension_free (use := some (assign (.Name y py) X.env)) (Q := fun _ s' => SP X pins E .next s') rfl hs (closure_eq X.env scope B.free) B.kind B.names ?_) (fun _ s' hq => wpAny_pure (wpAny_pure hq)) fun _ _ e => e)
  refine thn (hi pins s σ H _ I h) fun v s1 h1 => thn h1 fun itv s2 h2 => ?_
  obtain ⟨it, fp, tn, J, H2, e, I2, T, st2, f2, w2⟩ := h2
  subst e
  refine lc_block (RR := fun acc C => compPost (model X.prog X.w) X.A X.xe (some (assign (.Name y py) X.env)) (fun _ s' => SP X pins E .next s') acc C) I2 hc B T st2 f2 ht he w2 fun p C H' s' I' g q => ?_
  show wpAny _ X.A (assign (.Name y py) X.env (.ref p)) _ _ _
  have hk : X.env.kindOf y = some .local := hy
  refine wpAny_assign_Name (store_ok2 I' hN hiN (.inl hy) (v := .ref p) (u := .ref p) rfl (fun s'' I'' ch => ?_) (.inr hy))
  obtain ⟨m, hn⟩ := g.ns
  obtain ⟨a, hsb, ha⟩ := ch
  have haC : C ≠ a := by
    rcases ha with ha | ha
    · rw [ha]; exact g.nl
    · exact Ne.symm (g.nc y a ha)
  have hn2 : s''.heap.Ns C m := hn.sameBut hsb haC
  exact ⟨m, hn2, fun h' hs' => ⟨_, H', Gone.go ⟨⟨m, hn2⟩, g.free, g.nl, g.up, g.nc, g.np⟩ I'' hs', q⟩⟩
end
noncomputable def capD (ci : List Nat) (σd : SD) : SD := ci.map fun i => (σd[i]?).join
open Classical in
noncomputable def compL (own : OwnD) (c0 : SD) (tt : TF) (te : EF) : List D → HD → Option (List D × HD)
  | [], H => if okOwn own H then some ([], H) else none
  | x :: r, H => if okOwn own H then (tt (some x :: c0) H).bind fun t => if t.1 = true then (te (some x :: c0) t.2).bind fun e => (compL own c0 tt te r e.2).map fun q => (e.1 :: q.1, q.2) else compL own c0 tt te r t.2 else none
noncomputable def eLC (it : ItF) (ci : List Nat) (tt : TF) (te : EF) : EF := fun σ H => (it σ H).bind fun p => (compL p.1.2 (capD ci σ) tt te p.1.1 p.2).bind fun q => mkL q.1 q.2
noncomputable def tYes : TF := fun _ H => some (true, H)
noncomputable def PTsf (X : Cx) (ifs : List Expr) (t : TF) : Prop := PTs X ifs (rdT X.K t)
section
variable {X : Cx} {scope : Scope} {x : Str} {cn : List Str} {ci : List Nat}
theorem ptsf_nil : PTsf X [] tYes := by
  rintro pins s σ H Q I ⟨ι, σd, Hd, b, Hd', sr, hr, e, q⟩
  cases e
  exact pts_nil pins s σ H Q I (q H ι Le.refl hr)
theorem ptsf_one {c : Expr} {t : TF} (h : PTf X c t) : PTsf X [c] t := pts_one h
theorem SRep.cap {K : PySem.W.Frag} {H : Hp} {ι : List Addr} {σ : L2.St} {σd : SD} {d : D} {v : V} (s : SRep K H ι σ σd) (r : Rep K H ι d v) : SRep K H ι (some v :: capS ci σ) (some d :: capD ci σd) := by
  refine ⟨by simp [capS, capD], fun i e h => ?_⟩
  cases i with
  | zero => simp at h; subst h; exact ⟨v, rfl, r⟩
  | succ j =>
    simp only [List.getElem?_cons_succ, capS, capD, List.getElem?_map] at h ⊢
    cases ej : ci[j]? with
    | none => rw [ej] at h; simp at h
    | some i =>
      rw [ej] at h
      simp only [Option.map_some, Option.some.injEq] at h ⊢
      cases es : σd[i]? with
      | none => rw [es] at h; simp at h
      | some o =>
        rw [es] at h
        simp at h
        subst h
        obtain ⟨u, h1, h2⟩ := s.var i e es
        exact ⟨u, by rw [h1]; rfl, h2⟩
theorem rd_lc {K : PySem.W.Frag} {it : ItF} {tt : TF} {te : EF} {σ : L2.St} {H : Hp} {Q : VK} (h : rdE K (eLC it ci tt te) σ H Q) : tLC (rdI K it) ci (rdT K tt) (rdE K te) σ H Q := by
  obtain ⟨ι, σd, Hd, d, Hd', s, hr, e, q⟩ := h
  obtain ⟨⟨⟨xs, own⟩, H1⟩, e1, e⟩ := Option.bind_eq_some_iff.mp e
  obtain ⟨⟨ds, H2⟩, e2, e⟩ := Option.bind_eq_some_iff.mp e
  obtain ⟨hz, e⟩ := mkL_some e
  cases e
  dsimp only at e2 hz
  refine ⟨ι, σd, Hd, xs, own, H1, s, hr, e1, fun J H0 ι0 l0 h0 itr p hp => ?_⟩
  have s0 := s.mono l0
  refine ⟨fun i m ys H => m = xs.length - i ∧ i ≤ xs.length ∧ H p = some (.lst ys) ∧ ∃ ι Hd done rest, Le K H0 ι0 H ι ∧ p ∉ ι ∧ HRep K H ι Hd ∧ Paired (Rep K H ι) done ys ∧ compL own (capD ci σd) tt te (xs.drop i) Hd = some (rest, H2) ∧ ds = done ++ rest,
    ⟨xs.length, by simp, Nat.zero_le _, upd_same, ι0, H1, [], ds, Le.fresh hp _, h0.fresh hp, h0.tup hp _, .nil, by simpa using e2, by simp⟩, ?_⟩
  rintro i m ys H5 ⟨rfl, hi, hpl, ι5, Hd5, done, rest, l5, np5, h5, pd5, e5, eds⟩
  refine ⟨hpl, ?_⟩
  by_cases hlt : i < xs.length
  · have ed : xs.drop i = xs[i] :: xs.drop (i + 1) := List.drop_eq_getElem_cons hlt
    rw [ed, compL] at e5
    split at e5
    · rename_i ok
      obtain ⟨⟨b6, H6⟩, e6, e5⟩ := Option.bind_eq_some_iff.mp e5
      refine .inr ⟨itr.go i H5 ι5 Hd5 l5 h5 ok hlt, fun v H' y => ?_⟩
      obtain ⟨ι6, l6, h6, r6⟩ := itr.yld i H5 ι5 Hd5 xs[i] v H' l5 h5 ok (by simp [hlt]) y
      obtain ⟨hp6, np6⟩ := l6.frame p _ hpl np5
      have s6 := SRep.cap (ci := ci) (s0.mono (l5.trans l6)) r6
      refine ⟨ι6, _, Hd5, b6, H6, s6, h6, e6, fun H7 ι7 l7 h7 => ?_⟩
      obtain ⟨hp7, np7⟩ := l7.frame p _ hp6 np6
      have L7 := (l5.trans l6).trans l7
      cases b6 with
      | true =>
        rw [if_pos rfl]
        dsimp only at e5
        rw [if_pos rfl] at e5
        obtain ⟨⟨d8, H8⟩, e8, e5⟩ := Option.bind_eq_some_iff.mp e5
        obtain ⟨⟨r9, H9⟩, e9, e5⟩ := Option.map_eq_some_iff.mp e5
        cases e5
        refine ⟨ι7, _, H6, d8, H8, s6.mono l7, h7, e8, fun v8 H8' ι8 l8 h8 rr8 => ?_⟩
        obtain ⟨hp8, np8⟩ := l8.frame p _ hp7 np7
        have ly : ys.length < sizeLine := by
          rw [← Prd.len pd5]
          rw [eds] at hz
          simp at hz
          omega
        have w8 : Lw K H8' ι8 (upd H8' p (.lst (ys ++ [v8]))) ι8 := Lw.side hp8 _
        refine ⟨hp8, ly, xs.length - (i + 1), by omega, rfl, hlt, upd_same, ι8, H8, done ++ [d8], r9, (L7.trans l8).side hp hp8 _, np8, h8.keep w8 (fun a ha => upd_ne fun z => by subst z; exact np8 ha), ?_, e9, by rw [eds]; simp⟩
        exact Prd.append (Prd.monoW w8 (Prd.mono ((l6.trans l7).trans l8) pd5)) (.cons (Rep.monoW w8 rr8) .nil)
      | false =>
        rw [if_neg (by simp)]
        dsimp only at e5
        rw [if_neg (by simp)] at e5
        exact ⟨xs.length - (i + 1), by omega, rfl, hlt, hp7, ι7, H6, done, rest, L7, np7, h7, Prd.mono (l6.trans l7) pd5, e5, eds⟩
    · cases e5
  · rw [List.drop_eq_nil_of_le (by omega), compL] at e5
    split at e5
    · rename_i ok
      have e6 : (([] : List D), Hd5) = (rest, H2) := Option.some.inj e5
      obtain ⟨rfl, rfl⟩ := Prod.mk.inj e6
      refine .inl ⟨itr.stop i H5 ι5 _ l5 h5 ok (by omega), ?_⟩
      have w5 : Lw K H5 ι5 H5 (ι5 ++ [p]) := ⟨fun _ _ z => z, fun _ _ z => z, ⟨[p], rfl⟩, fun _ _ _ z => z⟩
      have L := l0.trans l5
      simp at eds
      subst eds
      refine q _ H5 (ι5 ++ [p]) ⟨L.toLw.trans w5, fun a o ha na => ?_⟩ (h5.add np5 ⟨ys, hpl, Prd.monoW w5 pd5⟩) (rep_ref.mpr ⟨p, rfl, by rw [← h5.len]; simp⟩)
      obtain ⟨q1, q2⟩ := L.frame a o ha na
      refine ⟨q1, ?_⟩
      have : a ≠ p := fun z => by
        subst z
        have := (l0.frame a o ha na).1
        rw [hp] at this; cases this
      simp [q2, this]
    · cases e5
theorem pef_lc {elt iter : Expr} {px pos : Pos} {ifs : List Expr} {it : ItF} {tt : TF} {te : EF} (hc : X.calm = true) (B : BlkOk X scope x cn ci) (hi : PIf X (.Name x px) iter it)
    (ht : ∀ cl C s H fp pn, PTsf (blk X scope (x :: cn) cl C s H fp pn) ifs tt) (he : ∀ cl C s H fp pn, PEf (blk X scope (x :: cn) cl C s H fp pn) elt te)
    (hs : ∀ x, foldedSetIterable iter X.env x = pure x := by rintro _; rfl) : PEf X (.ListComp elt [⟨.Name x px, iter, ifs, 0⟩] scope pos) (eLC it ci tt te) :=
  PEi (pe_lc (tt := rdT X.K tt) (te := rdE X.K te) hc B hi ht he hs) fun _ _ _ h => rd_lc h
theorem psf_lcset {elt iter : Expr} {px py pos spos : Pos} {ifs : List Expr} {it : ItF} {tt : TF} {te : EF} {i : Nat} {y : Str} (hc : X.calm = true) (B : BlkOk X scope x cn ci) (hi : PIf X (.Name x px) iter it)
    (ht : ∀ cl C s H fp pn, PTsf (blk X scope (x :: cn) cl C s H fp pn) ifs tt) (he : ∀ cl C s H fp pn, PEf (blk X scope (x :: cn) cl C s H fp pn) elt te)
    (hN : X.N.Nodup) (hiN : X.N[i]? = some y) (hy : X.env.scope.names.lookup y = some .local)
    (hsw : swapsWith (.ListComp elt [⟨.Name x px, iter, ifs, 0⟩] scope pos) (some (.Name y py)) spos.line X.env = pure true := by rfl)
    (hs : ∀ x, foldedSetIterable iter X.env x = pure x := by rintro _; rfl) : PSf X (.Assign [.Name y py] (.ListComp elt [⟨.Name x px, iter, ifs, 0⟩] scope pos) spos) (sSet i (eLC it ci tt te)) := by
  refine PSi (ps_lcset (tt := rdT X.K tt) (te := rdE X.K te) hc B hi ht he hN hiN hy hsw hs) fun E σ H zz => ?_
  obtain ⟨ι, σd, Hd, fl, σd', Hd', s, hr, e, q⟩ := zz
  obtain ⟨⟨x, H1⟩, e1, e⟩ := Option.map_eq_some_iff.mp e
  cases e
  exact rd_lc ⟨ι, σd, Hd, x, H1, s, hr, e1, fun v H' ι' l h r => q _ H' ι' l h ((s.mono l).set r i)⟩
end
end DL
namespace DL
open PySem PySem.Spec PyProof.Rows L2
theorem noFillT : fillsNumberSlot (.type "tuple") "mul" = pure false :=
  PySem.fillsNumberSlot_seq (id := "tuple.__mul__") (r := some (.builtin "tuple.__rmul__")) F.slot_tuple_mul.lookup (by decide +kernel) F.slot_tuple_rmul.lookup (by decide +kernel)
theorem repT : seqRepeat? (.type "tuple") = pure (some (.builtin "tuple.__mul__")) := by
  unfold seqRepeat?
  rw [PySem.seqSlot_of (T := "tuple") (name := "__mul__") (id := "tuple.__mul__") F.slot_tuple_mul.lookup (by decide +kernel), PySem.seqSlot_of (T := "tuple") (name := "__rmul__") (id := "tuple.__rmul__") F.slot_tuple_rmul.lookup (by decide +kernel)]
  rfl
section
variable {dd : Option Addr} {sl : Array (Option Value)}
theorem rmulT (a : Int) (t : Tok) (l : Addr) (items : Array Value) (n : Nat) :
    Meets (Builtin.«int.__rmul__» ⟨[.int a t, .ref l], []⟩) (fun _ R s => s.heap.get? l = some { cls := .type "tuple", dict := dd, data := .seq items n, slots := sl } ∧ R (.ok (.ret Value.notImplemented)) s) :=
  .of_wp fun prog w A R s h => by obtain ⟨hp, g, d, tk, os⟩ := s; obtain ⟨hl, h⟩ := h; wp_walk; exact ⟨_, rfl, h⟩
theorem mulT_same (l : Addr) (items : Array Value) (n : Nat) (x : Int) (u : Tok) (h1 : (decide (x < -(2 ^ 63)) || decide (x ≥ 2 ^ 63)) = false) (h2 : (items.isEmpty || x == 1) = true) :
    Meets (Builtin.«tuple.__mul__» ⟨[.ref l, .int x u], []⟩) (fun _ R s => s.heap.get? l = some { cls := .type "tuple", dict := dd, data := .seq items n, slots := sl } ∧ R (.ok (.ret (.ref l))) s) :=
  .of_wp fun prog w A R s h => by
    obtain ⟨hp, g, d, tk, os⟩ := s; obtain ⟨hl, h⟩ := h
    have f1 := AutoSeq1.idx_int
    wp_walk
    simp only [h1, Bool.false_eq_true, if_false]
    wp_walk using wpAny_loadPart' hl
    simp only [h2, if_true]
    wp_walk using wpAny_loadPart' hl
    exact ⟨_, rfl, h⟩
theorem mulT_none (l : Addr) (items : Array Value) (n : Nat) (x : Int) (u : Tok) (h1 : (decide (x < -(2 ^ 63)) || decide (x ≥ 2 ^ 63)) = false) (h2 : (items.isEmpty || x == 1) = false) (h3 : (decide (x ≤ 0) || items.isEmpty) = true) :
    Meets (Builtin.«tuple.__mul__» ⟨[.ref l, .int x u], []⟩) (fun _ R s => s.heap.get? l = some { cls := .type "tuple", dict := dd, data := .seq items n, slots := sl } ∧ R (.ok (.ret (.ref s.heap.objs.size))) { s with heap := s.heap.push { cls := Value.type "tuple", data := Data.seq #[] } }) :=
  .of_wp fun prog w A R s h => by
    obtain ⟨hp, g, d, tk, os⟩ := s; obtain ⟨hl, h⟩ := h
    have f1 := AutoSeq1.idx_int
    wp_walk
    simp only [h1, Bool.false_eq_true, if_false]
    wp_walk using wpAny_loadPart' hl
    try simp only [h2, h3, Bool.false_eq_true, if_false, if_true]
    try (wp_walk using wpAny_loadPart' hl)
    exact ⟨_, rfl, h⟩
theorem mulT_new (l : Addr) (items : Array Value) (n : Nat) (x : Int) (u : Tok) (h1 : (decide (x < -(2 ^ 63)) || decide (x ≥ 2 ^ 63)) = false) (h2 : (items.isEmpty || x == 1) = false) (h3 : (decide (x ≤ 0) || items.isEmpty) = false) (h4 : ¬ (items.size * x : Int) > (2 ^ 63 - 1) / 8) (h5 : Builtin.Tuple.tupleTooMany (items.size * x) = false)
    (hs : (List.foldl (fun x1 x2 => x1 ++ x2) #[] (List.replicate x.toNat items)).size ≤ sizeLine) :
    Meets (Builtin.«tuple.__mul__» ⟨[.ref l, .int x u], []⟩) (fun _ R s => s.heap.get? l = some { cls := .type "tuple", dict := dd, data := .seq items n, slots := sl } ∧ R (.ok (.ret (.ref s.heap.objs.size))) { s with heap := s.heap.push { cls := Value.type "tuple", data := Data.seq (List.foldl (fun x1 x2 => x1 ++ x2) #[] (List.replicate x.toNat items)) } }) :=
  .of_wp fun prog w A R s h => by
    obtain ⟨hp, g, d, tk, os⟩ := s; obtain ⟨hl, h⟩ := h
    have f1 := AutoSeq1.idx_int
    wp_walk
    simp only [h1, Bool.false_eq_true, if_false]
    wp_walk using wpAny_loadPart' hl
    simp only [h2, h3, h5, Bool.false_eq_true, if_false, if_neg h4]
    wp_walk using wpAny_loadPart' hl
    exact ⟨_, rfl, h⟩
end
theorem foldl_reps (its : List Value) (m : Nat) : List.foldl (fun x1 x2 => x1 ++ x2) #[] (List.replicate m its.toArray) = (List.replicate m its).flatten.toArray := by
  have := foldl_rep its m []
  rw [List.nil_append] at this
  exact this
section
variable {prog : Program} {w : World} {A : Around} {E : Value → Shared → Prop} {s : Shared}
theorem mul_tup {l : Addr} {its : List Value} {k : Int} {t : Tok} {Q : Value → Shared → Prop} (p : IsTup s.heap l its.toArray) (h1 : -(2 ^ 63) ≤ k) (h2 : k < 2 ^ 63) (hz : its.length * k.toNat ≤ sizeLine)
    (qs : (its = [] ∨ k = 1) → Q (.ref l) s) (qn : its ≠ [] → k ≠ 1 → Q (.ref s.heap.objs.size) { s with heap := s.heap.push { cls := .type "tuple", data := .seq (List.replicate k.toNat its).flatten.toArray } }) :
    wpAny (model prog w) A (binaryOp .Mult (.ref l) (.int k t)) Q E s := by
  obtain ⟨o, e, hc, n, hd⟩ := p
  obtain ⟨c, dd, da, sl⟩ := o
  have hc' : c = .type "tuple" := hc
  have hd' : da = .seq its.toArray n := hd
  subst hc' hd'
  have b1 : (decide (k < -(2 ^ 63)) || decide (k ≥ 2 ^ 63)) = false := by simp; omega
  refine wpAny_binaryOp_repeat_ref (T := "tuple") (U := "int") (by decide) ⟨_, e, rfl⟩ (fun s' => typeIs_int s' k t) noFillT F.fills_int_mul F.slot_int_rmul repT F.slot_int_index.lookup
    (call_meets F.slot_int_rmul (typeIs_int s k t) F.entry_int_rmul (F.args_int_rmul_2 _ _) (rmulT k t l its.toArray n) ⟨e, rfl, ⟨_, e, rfl⟩, ?_⟩)
  by_cases hs : its = [] ∨ k = 1
  · exact call_meets F.slot_tuple_mul ⟨_, e, rfl⟩ F.entry_tuple_mul (F.args_tuple_mul_2 _ _) (mulT_same l its.toArray n k t b1 (by rcases hs with h | h <;> simp [h])) ⟨e, qs hs⟩
  · have hne : its ≠ [] := fun h => hs (.inl h)
    have hk : k ≠ 1 := fun h => hs (.inr h)
    have b2 : (its.toArray.isEmpty || k == 1) = false := by cases its <;> simp_all
    have new := qn hne hk
    by_cases h0 : k ≤ 0
    · have z : k.toNat = 0 := by omega
      rw [z] at new
      exact call_meets F.slot_tuple_mul ⟨_, e, rfl⟩ F.entry_tuple_mul (F.args_tuple_mul_2 _ _) (mulT_none l its.toArray n k t b1 b2 (by simp [h0])) ⟨e, new⟩
    · have sz : sizeLine = 16777216 := PySem.sizeLine_eq
      have hm : (its.toArray.size : Int) * k ≤ 16777216 := by
        have e1 : k = (k.toNat : Int) := by omega
        rw [List.size_toArray, e1, ← Int.natCast_mul]
        omega
      have b3 : (decide (k ≤ 0) || its.toArray.isEmpty) = false := by cases its <;> simp_all
      refine call_meets F.slot_tuple_mul ⟨_, e, rfl⟩ F.entry_tuple_mul (F.args_tuple_mul_2 _ _) (mulT_new l its.toArray n k t b1 b2 b3 (by omega) (by simp only [Builtin.Tuple.tupleTooMany, decide_eq_false_iff_not, sz]; omega) ?_) ⟨e, ?_⟩
      · rw [foldl_reps, List.size_toArray, len_rep, Nat.mul_comm]; exact hz
      · rw [foldl_reps]; exact new
end
variable {X : Cx}
noncomputable def rRepT (K : PySem.W.Frag) : R2 := fun x y H Q => ∃ l k xs, x = .ref l ∧ y = .int k ∧ SqT K H l xs ∧ -(2 ^ 63) ≤ k ∧ k < 2 ^ 63 ∧ xs.length * k.toNat ≤ sizeLine ∧ ((xs = [] ∨ k = 1) → Q (.ref l) H) ∧
  (xs ≠ [] → k ≠ 1 → ∀ p, H p = none → Q (.ref p) (upd H p (.tup (List.replicate k.toNat xs).flatten)))
theorem op_repT : OpR X (binaryOp .Mult) (rRepT X.K) := by
  intro pins s σ H x y v u Q I rx ry h
  obtain ⟨l, k, xs, rfl, rfl, ha, h1, h2, hz, q1, q2⟩ := h
  cases rx
  obtain ⟨t, rfl⟩ := ry
  obtain ⟨its, r1, p1, _⟩ := I.tuple ha
  refine mul_tup p1 h1 h2 (by rw [← r1.length]; exact hz) (fun z => ⟨.ref l, H, I, rfl, q1 (z.imp r1.nil_iff.mp id)⟩) (fun z zk => ?_)
  refine ⟨.ref s.heap.objs.size, _, I.laid (t' := s.toks) (o := .tup (List.replicate k.toNat xs).flatten) (fun b ob q => Heap.get?_push_of_some _ q) (Nat.le_refl _) ?_, rfl, q2 (fun w => z (r1.nil_iff.mpr w)) zk _ (I.hok.fresh (Nat.le_refl _))⟩
  exact ⟨by rw [len_rep, Nat.mul_comm]; exact hz, _, r1.rep k.toNat, IsTuN.new _ _⟩
end DL
namespace DL
open PySem PySem.Spec PyProof.Rows L2
section
variable {X : Cx}
noncomputable def iiD (C : Int → Int → Prop) [∀ i j, Decidable (C i j)] (g : Int → Int → D) : F2 := fun x y H => match x, y with
  | .int i, .int j => if C i j then some (g i j, H) else none
  | _, _ => none
theorem opf_ii {f : Value → Value → Sem Value} {C : Int → Int → Prop} [∀ i j, Decidable (C i j)] {g : Int → Int → Int} (h : OpR X f (rI C fun i j => .int (g i j))) : OpF X f (iiD C fun i j => .int (g i j)) := by
  refine OpRi h fun x y H Q zz => ?_
  obtain ⟨ι, dx, dy, Hd, d, Hd', hr, r1, r2, e, q⟩ := zz
  cases dx <;> cases dy <;> simp only [iiD] at e <;> try cases e
  rename_i i j
  split at e
  · rename_i hc
    cases e
    simp at r1 r2
    exact ⟨i, j, r1, r2, hc, q _ H ι Le.refl hr (by simp)⟩
  · cases e
noncomputable def CT (_ _ : Int) : Prop := True
instance : ∀ i j, Decidable (CT i j) := fun _ _ => instDecidableTrue
theorem rI0_of {f : Value → Value → Sem Value} {g : Int → Int → V} (h : OpR X f (rI0 g)) : OpR X f (rI CT g) := OpRi h fun x y H Q ⟨i, j, e1, e2, _, q⟩ => ⟨i, j, e1, e2, q⟩
theorem opf_ib {f : Value → Value → Sem Value} {g : Int → Int → Bool} (h : OpR X f (rI0 fun i j => .bl (g i j))) : OpF X f (iiD CT fun i j => .bl (g i j)) := by
  refine OpRi h fun x y H Q zz => ?_
  obtain ⟨ι, dx, dy, Hd, d, Hd', hr, r1, r2, e, q⟩ := zz
  cases dx <;> cases dy <;> simp only [iiD] at e <;> try cases e
  rename_i i j
  simp at r1 r2
  exact ⟨i, j, r1, r2, q _ H ι Le.refl hr (by simp)⟩
instance (i j : Int) : Decidable (CDiv i j) := by unfold CDiv; exact inferInstance
instance (i j : Int) : Decidable (CMul i j) := by unfold CMul; exact inferInstance
instance (i j : Int) : Decidable (CPow i j) := by unfold CPow; exact inferInstance
noncomputable def CPos (_ j : Int) : Prop := 0 < j
instance (i j : Int) : Decidable (CPos i j) := by unfold CPos; exact inferInstance
noncomputable def subD : F2 := iiD CT fun i j => .int (i - j)
noncomputable def fdivD : F2 := iiD CDiv fun i j => .int (i / j)
noncomputable def modD : F2 := iiD CPos fun i j => .int (i % j)
noncomputable def powD : F2 := iiD CPow fun i j => .int (i ^ j.toNat)
noncomputable def ltD : F2 := iiD CT fun i j => .bl (decide (i < j))
noncomputable def leD : F2 := iiD CT fun i j => .bl (decide (i ≤ j))
noncomputable def gtD : F2 := iiD CT fun i j => .bl (decide (j < i))
noncomputable def geD : F2 := iiD CT fun i j => .bl (decide (j ≤ i))
theorem opf_sub : OpF X (binaryOp .Sub) subD := opf_ii (rI0_of op_sub)
theorem opf_fdiv : OpF X (binaryOp .FloorDiv) fdivD := opf_ii op_fdiv
theorem opf_mod : OpF X (binaryOp .Mod) modD := opf_ii (C := CPos) op_mod
theorem opf_pow : OpF X (binaryOp .Pow) powD := opf_ii op_pow
theorem opf_lt : OpF X (compareOp .Lt) ltD := opf_ib op_lt
theorem opf_le : OpF X (compareOp .LtE) leD := opf_ib op_le
theorem opf_gt : OpF X (compareOp .Gt) gtD := opf_ib op_gt
theorem opf_ge : OpF X (compareOp .GtE) geD := opf_ib op_ge
noncomputable def negD : D → HD → Option (D × HD) := fun x H => match x with
  | .int i => some (.int (-i), H)
  | _ => none
theorem unf_neg : UnF X (unaryOp .USub) negD := by
  rintro pins s σ H x v Q I rx ⟨ι, dx, Hd, d, Hd', hr, r1, e, q⟩
  cases dx <;> simp only [negD] at e <;> try cases e
  simp at r1
  exact un_neg pins s σ H x v Q I rx ⟨_, r1, q _ H ι Le.refl hr (by simp)⟩
theorem cat_tup0 {prog : Program} {w : World} {A : Around} {E : Value → Shared → Prop} {s : Shared} {t b : Addr} {ws : List Value} {Q : Value → Shared → Prop} (ht : IsTup s.heap t #[]) (hb : IsTup s.heap b ws.toArray)
    (h1 : Q (.ref b) s) : wpAny (model prog w) A (binaryOp .Add (.ref t) (.ref b)) Q E s := by
  obtain ⟨⟨cls, dd, data, sl⟩, ho, hc, n, hd⟩ := id ht
  obtain ⟨⟨cls2, dd2, data2, sl2⟩, ho2, hc2, n2, hd2⟩ := id hb
  simp only at hc hd hc2 hd2
  subst hc hd hc2 hd2
  exact concat_meets ⟨_, ho, rfl⟩ ⟨_, ho2, rfl⟩ noFill_tuple_add seq_tuple_add PySem.F.slot_tuple_add PySem.F.entry_tuple_add (PySem.F.args_tuple_add_2 _ _)
      (tuple_addW0 t b #[] ws.toArray n n2 dd dd2 sl sl2 (by simp)) ⟨ho, ho2, h1⟩
noncomputable def addD : F2 := fun x y H => match x, y with
  | .int i, .int j => some (.int (i + j), H)
  | .str a, .str b => if a.length + b.length ≤ sizeLine then some (.str (a ++ b), H) else none
  | .tup a, .tup b => mkT (a ++ b) H
  | .ref n, .ref m => match H[n]?, H[m]? with
    | some (.lst a), some (.lst b) => mkL (a ++ b) H
    | _, _ => none
  | _, _ => none
theorem opf_add : OpF X (binaryOp .Add) addD := by
  rintro pins s σ H x y v u Q I rx ry ⟨ι, dx, dy, Hd, d, Hd', hr, r1, r2, e, q⟩
  cases dx <;> cases dy <;> simp only [addD] at e <;> try cases e
  · simp at r1 r2
    exact op_add pins s σ H x y v u Q I rx ry ⟨_, _, r1, r2, q _ H ι Le.refl hr (by simp)⟩
  · simp at r1 r2
    split at e
    · rename_i hl
      cases e
      exact op_add_str pins s σ H x y v u Q I rx ry ⟨_, _, r1, r2, hl, q _ H ι Le.refl hr (by simp)⟩
    · cases e
  · rename_i as bs
    obtain ⟨a, vs, rfl, h1, p1⟩ := rep_tup.mp r1
    obtain ⟨b, ws, rfl, h2, p2⟩ := rep_tup.mp r2
    cases p1 with
    | nil =>
      obtain ⟨hl, e⟩ := mkT_some e
      simp only [List.nil_append, Prod.mk.injEq] at e
      obtain ⟨rfl, rfl⟩ := e
      cases rx
      cases ry
      obtain ⟨its, q1, t1, _⟩ := I.tuple h1
      obtain ⟨its2, q2, t2, _⟩ := I.tuple h2
      cases q1
      exact cat_tup0 t1 t2 ⟨.ref b, H, I, rfl, q _ H ι Le.refl hr r2⟩
    | cons p p' =>
      have P := Prd.append (.cons p p') p2
      obtain ⟨hl, e'⟩ := mkT_some e
      cases p2 with
      | nil =>
        simp only [List.append_nil, Prod.mk.injEq] at e'
        obtain ⟨rfl, rfl⟩ := e'
        refine op_catT pins s σ H _ _ v u Q I rx ry ⟨a, b, _, _, rfl, rfl, h1, h2, by simp, ?_, fun _ => q _ H ι Le.refl hr r1, fun z => absurd rfl z⟩
        have := Prd.len P
        simp only [List.append_nil] at this hl
        simp only [List.length_nil]
        omega
      | cons p3 p4 =>
        obtain ⟨k1, k2⟩ := new_tup hr P e q
        refine op_catT pins s σ H _ _ v u Q I rx ry ⟨a, b, _, _, rfl, rfl, h1, h2, by simp, ?_, fun z => absurd z (by simp), fun _ => k2⟩
        rw [← List.length_append]; exact k1
  · rename_i n m
    obtain ⟨a, rfl, ha⟩ := rep_ref.mp r1
    obtain ⟨b, rfl, hb⟩ := rep_ref.mp r2
    split at e
    · rename_i as bs e1 e2
      obtain ⟨vs, h1, p1⟩ := hr.obj n a _ ha e1
      obtain ⟨ws, h2, p2⟩ := hr.obj m b _ hb e2
      obtain ⟨k1, k2⟩ := new_lst hr (Prd.append p1 p2) e q
      exact op_cat pins s σ H _ _ v u Q I rx ry ⟨a, b, vs, ws, rfl, rfl, h1, h2, by rw [← List.length_append]; exact k1, k2⟩
    · cases e
noncomputable def mulD : F2 := fun x y H => match x, y with
  | .int i, .int j => if CMul i j then some (.int (i * j), H) else none
  | .ref n, .int k => match H[n]? with
    | some (.lst a) => if -(2 ^ 63) ≤ k ∧ k < 2 ^ 63 ∧ a.length * k.toNat ≤ sizeLine then mkL (List.replicate k.toNat a).flatten H else none
    | _ => none
  | .tup a, .int k => if -(2 ^ 63) ≤ k ∧ k < 2 ^ 63 ∧ a.length * k.toNat ≤ sizeLine then mkT (List.replicate k.toNat a).flatten H else none
  | _, _ => none
theorem opf_mul : OpF X (binaryOp .Mult) mulD := by
  rintro pins s σ H x y v u Q I rx ry ⟨ι, dx, dy, Hd, d, Hd', hr, r1, r2, e, q⟩
  cases dx <;> cases dy <;> simp only [mulD] at e <;> try cases e
  · simp at r1 r2
    split at e
    · rename_i hc
      cases e
      exact op_mul pins s σ H x y v u Q I rx ry ⟨_, _, r1, r2, hc, q _ H ι Le.refl hr (by simp)⟩
    · cases e
  · rename_i as k
    obtain ⟨a, vs, rfl, h1, p1⟩ := rep_tup.mp r1
    simp at r2
    split at e
    · rename_i hc
      have hlen := Prd.len p1
      obtain ⟨k1, k2⟩ := new_tup hr (Prd.rep p1 k.toNat) e q
      refine op_repT pins s σ H _ _ v u Q I rx ry ⟨a, k, vs, rfl, r2, h1, hc.1, hc.2.1, by rw [← hlen]; exact hc.2.2, fun z => ?_, fun _ _ => k2⟩
      obtain ⟨_, e'⟩ := mkT_some e
      have hf : (List.replicate k.toNat as).flatten = as := by
        rcases z with z | z
        · have : as = [] := List.eq_nil_of_length_eq_zero (by rw [hlen, z]; rfl)
          subst this
          simp
        · subst z
          simp
      rw [hf] at e'
      cases e'
      exact q _ H ι Le.refl hr r1
    · cases e
  · rename_i n k
    obtain ⟨a, rfl, ha⟩ := rep_ref.mp r1
    simp at r2
    split at e
    · rename_i as e1
      obtain ⟨vs, h1, p1⟩ := hr.obj n a _ ha e1
      split at e
      · rename_i hc
        obtain ⟨k1, k2⟩ := new_lst hr (Prd.rep p1 _) e q
        exact op_rep pins s σ H _ _ v u Q I rx ry ⟨a, k, vs, rfl, r2, h1, hc.1, hc.2.1, by rw [← Prd.len p1]; exact hc.2.2, k2⟩
      · cases e
    · cases e
noncomputable def seqD : D → HD → Option (List D)
  | .tup xs, _ => some xs
  | .fl xs, _ => some xs
  | .ref n, H => match H[n]? with
    | some (.lst xs) => some xs
    | _ => none
  | _, _ => none
theorem seq_rd {K : PySem.W.Frag} {H : Hp} {ι : List Addr} {Hd : HD} {d : D} {xs : List D} {v : V} (hr : HRep K H ι Hd) (r : Rep K H ι d v) (e : seqD d Hd = some xs) : ∃ p vs, v = .ref p ∧ (SqL K H p vs ∨ SqT K H p vs) ∧ Paired (Rep K H ι) xs vs := by
  cases d with
  | tup ys => cases e; obtain ⟨a, vs, rfl, h, p⟩ := rep_tup.mp r; exact ⟨a, vs, rfl, .inr h, p⟩
  | fl ys => cases e; obtain ⟨a, vs, rfl, h, p⟩ := rep_fl.mp r; exact ⟨a, vs, rfl, .inl h.sq, p⟩
  | ref n =>
    obtain ⟨a, rfl, ha⟩ := rep_ref.mp r
    simp only [seqD] at e
    split at e
    · rename_i ys e1
      cases e
      obtain ⟨vs, h1, p1⟩ := hr.obj n a _ ha e1
      exact ⟨a, vs, rfl, .inl (SqL.of h1), p1⟩
    · cases e
  | _ => simp [seqD] at e
theorem prd_atI {α β : Type} {F : α → β → Prop} {xs : List α} {us : List β} {i : Int} {x : α} (r : Paired F xs us) (h : atI xs i = some x) : ∃ u, atI us i = some u ∧ F x u := by
  unfold atI at h ⊢
  rw [← Prd.len r]
  obtain ⟨j, h1, h2⟩ := Option.bind_eq_some_iff.mp h
  obtain ⟨u, h3, h4⟩ := Prd.get r h2
  exact ⟨u, by rw [h1]; exact h3, h4⟩
noncomputable def ixD : F2 := fun x y H => match y with
  | .int i => (seqD x H).bind fun xs => (atI xs i).map fun d => (d, H)
  | _ => none
theorem ixf : IxF X ixD := by
  rintro va sl pins s σ H x y v u Q I rx ry ⟨ι, dx, dy, Hd, d, Hd', hr, r1, r2, e, q⟩ hs
  cases dy <;> simp only [ixD] at e <;> try cases e
  rename_i i
  simp at r2
  obtain ⟨xs, e1, e⟩ := Option.bind_eq_some_iff.mp e
  obtain ⟨d', e2, e⟩ := Option.map_eq_some_iff.mp e
  obtain ⟨rfl, rfl⟩ := Prod.mk.inj e
  obtain ⟨p, vs, rfl, h, P⟩ := seq_rd hr r1 e1
  obtain ⟨z, hz, rz⟩ := prd_atI P e2
  rcases h with h | h
  · exact ix_list va sl pins s σ H _ _ v u Q I rx ry ⟨p, vs, i, z, rfl, r2, h, hz, q _ H ι Le.refl hr rz⟩ hs
  · exact ix_tup va sl pins s σ H _ _ v u Q I rx ry ⟨p, vs, i, z, rfl, r2, h, hz, q _ H ι Le.refl hr rz⟩ hs
noncomputable def cutD (xs : List D) (lo hi : Option Int) : List D := (xs.drop (HT.sIx xs.length 0 lo)).take (HT.sIx xs.length xs.length hi - HT.sIx xs.length 0 lo)
theorem prd_cut {K : PySem.W.Frag} {H : Hp} {ι : List Addr} {xs : List D} {vs : List V} (P : Paired (Rep K H ι) xs vs) (lo hi : Option Int) : Paired (Rep K H ι) (cutD xs lo hi) (cutV vs lo hi) := by
  unfold cutD cutV
  rw [← Prd.len P]
  exact Prd.take _ (Prd.drop _ P)
noncomputable abbrev OF := SD → HD → Option (Option Int × HD)
noncomputable def rdO (K : PySem.W.Frag) (f : OF) : TO := fun σ H Q => ∃ ι σd Hd o Hd', SRep K H ι σ σd ∧ HRep K H ι Hd ∧ f σd Hd = some (o, Hd') ∧ ∀ H' ι', Le K H ι H' ι' → HRep K H' ι' Hd' → Q o H'
noncomputable def POf (X : Cx) (e : Option Expr) (f : OF) : Prop := PO X e (rdO X.K f)
noncomputable def oNone : OF := fun _ H => some (none, H)
noncomputable def oSome (f : EF) : OF := fun σ H => (f σ H).bind fun p => match p.1 with
  | .int i => some (some i, p.2)
  | _ => none
theorem pof_none : POf X none oNone := by
  rintro pins s σ H Q I ⟨ι, σd, Hd, o, Hd', sr, hr, e, q⟩
  cases e
  exact po_none pins s σ H Q I (q H ι Le.refl hr)
theorem pof_some {e : Expr} {f : EF} (h : PEf X e f) : POf X (some e) (oSome f) := by
  rintro pins s σ H Q I ⟨ι, σd, Hd, o, Hd', sr, hr, e, q⟩
  obtain ⟨⟨d, H1⟩, e1, e⟩ := Option.bind_eq_some_iff.mp e
  cases d <;> try cases e
  rename_i i
  exact po_some h pins s σ H Q I ⟨ι, σd, Hd, _, _, sr, hr, e1, fun v H' ι' l h r => ⟨i, by simpa using r, q H' ι' l h⟩⟩
noncomputable def slD (x : D) (lo hi : Option Int) (H : HD) : Option (D × HD) := match x with
  | .tup xs => some (.tup (cutD xs lo hi), H)
  | .fl xs => some (.ref H.length, H ++ [.lst (cutD xs lo hi)])
  | .ref n => match H[n]? with
    | some (.lst xs) => some (.ref H.length, H ++ [.lst (cutD xs lo hi)])
    | _ => none
  | _ => none
theorem getItem_tuple_whole {prog : Program} {w : World} {A : Around} {E : Value → Shared → Prop} {s : Shared} {t sl : Addr} {items : Array Value} {vl vu : Value} {lo hi : Option Int} {Q : Value → Shared → Prop} (ht : IsTup s.heap t items) (hs : s.heap.IsSliceOf sl vl vu .none) (pl : IsPart vl lo) (pu : IsPart vu hi)
    (hw : HT.sIx items.size 0 lo = 0 ∧ HT.sIx items.size items.size hi = items.size) (h : Q (.ref t) s) : wpAny (model prog w) A (getItem (.ref t) (.ref sl)) Q E s := by
  obtain ⟨os, hos, hcs, hds⟩ := id hs
  have hTs : s.TypeIs (.ref sl) "slice" := ⟨os, hos, hcs⟩
  obtain ⟨ot, hot, hct, nt, hdt⟩ := id ht
  unfold getItem
  try with_reducible refine wpAny_holding ?_
  first | refine wpAny_bind (wpAny_pure ?_) | skip
  refine wpAny_bind (wpAny_sequenceKey ht.typeIs (by decide) ?_)
  refine wpAny_bind (wpAny_callSpecial?_slot (name := Str.ofString "__getitem__") ht.typeIs PyProof.Rows.slot_tuple_getitem
    (wpAny_call_entry PyProof.Rows.slot_tuple_getitem ht.typeIs entry_tuple_getitem ?_ (args_tuple_getitem _ _)))
  show wpAny _ _ (Builtin.Tuple.tupleItemsOf (.ref t) >>= _) _ _ s
  refine wpAny_bind (tupleItemsOf_ ht ?_)
  refine wpAny_bind (wpAny_typeOf hTs ?_)
  rw [if_pos (by decide)]
  refine wpAny_bind (HT.sliceApplied_gen hs pl pu ?_)
  show wpAny _ _ (if (((HT.sIx items.size 0 lo : Nat) : Int) == 0 && (1 : Int) == 1 && (HT.sIx items.size items.size hi - HT.sIx items.size 0 lo) == items.size) = true then _ else _) _ _ s
  rw [if_pos (by rw [hw.1, hw.2]; simp)]
  show wpAny _ _ (Builtin.Tuple.tupleIsExact (Value.ref t) >>= _) _ _ s
  unfold Builtin.Tuple.tupleIsExact
  refine wpAny_bind (wpAny_bind (wpAny_typeOf ht.typeIs (wpAny_pure ?_)))
  rw [if_pos (by decide)]
  exact wpAny_bind (wpAny_rule (wpAny_pure ⟨_, rfl, wpAny_pure h⟩))
theorem cutD_whole {xs : List D} {lo hi : Option Int} (h : HT.sIx xs.length 0 lo = 0 ∧ HT.sIx xs.length xs.length hi = xs.length) : cutD xs lo hi = xs := by
  unfold cutD
  rw [h.1, h.2]; simp
noncomputable def rdSl (K : PySem.W.Frag) : V → Option Int → Option Int → Hp → VK → Prop := fun x lo hi H Q => ∃ ι dx Hd d Hd', HRep K H ι Hd ∧ Rep K H ι dx x ∧ slD dx lo hi Hd = some (d, Hd') ∧ QE K H ι d Hd' Q
theorem slf : SlR X (rdSl X.K) := by
  rintro pins s σ H x v vl vu lo hi sl Q I rx hs pl pu ⟨ι, dx, Hd, d, Hd', hr, r, e, q⟩
  have lists : ∀ {a : Addr} {xs : List D} {vs : List V}, x = .ref a → SqL X.K H a vs → Paired (Rep X.K H ι) xs vs → (D.ref Hd.length, Hd ++ [DO.lst (cutD xs lo hi)]) = (d, Hd') →
      ∃ T id, typeLookup (.type T) "__getitem__" = pure (some (.builtin id)) ∧ s.TypeIs v T ∧ wpAny (model X.prog X.w) X.A (getItem v (.ref sl)) (EP X pins σ Q) X.xe s := fun {a xs vs} ex h P e => by
    obtain ⟨_, _, _, hz⟩ := I.list h
    have hz2 : (cutD xs lo hi).length ≤ sizeLine := by
      rw [Prd.len (prd_cut P lo hi)]
      exact Nat.le_trans (cutV_length vs lo hi) hz
    obtain ⟨k1, k2⟩ := new_lst hr (prd_cut P lo hi) (show mkL (cutD xs lo hi) Hd = some (d, Hd') by unfold mkL; rw [if_pos hz2, e]) q
    exact sl_list pins s σ H x v vl vu lo hi sl Q I rx hs pl pu ⟨a, vs, ex, h, k2⟩
  cases dx with
  | tup xs =>
    obtain ⟨a, vs, rfl, h, P⟩ := rep_tup.mp r
    simp only [slD, Option.some.injEq] at e
    obtain ⟨its, rv, ht, hz⟩ := I.tuple h
    have hlen : its.toArray.size = vs.length := by rw [List.size_toArray]; exact rv.length.symm
    by_cases hw : HT.sIx vs.length 0 lo = 0 ∧ HT.sIx vs.length vs.length hi = vs.length
    · cases rx
      refine ⟨"tuple", _, PyProof.Rows.slot_tuple_getitem.lookup, ht.typeIs, getItem_tuple_whole ht hs pl pu (by rw [hlen]; exact hw) ?_⟩
      rw [cutD_whole (by rw [Prd.len P]; exact hw)] at e
      obtain ⟨rfl, rfl⟩ := Prod.mk.inj e
      exact ⟨.ref a, H, I, rfl, q _ H ι Le.refl hr r⟩
    · have hz2 : (cutD xs lo hi).length ≤ sizeLine := by
        rw [Prd.len (prd_cut P lo hi)]
        exact Nat.le_trans (cutV_length vs lo hi) hz
      obtain ⟨k1, k2⟩ := new_tup hr (prd_cut P lo hi) (show mkT (cutD xs lo hi) Hd = some (d, Hd') by unfold mkT; rw [if_pos hz2, e]) q
      exact sl_tup pins s σ H _ v vl vu lo hi sl Q I rx hs pl pu ⟨a, vs, rfl, h, hw, k2⟩
  | fl xs =>
    obtain ⟨a, vs, rfl, h, P⟩ := rep_fl.mp r
    simp only [slD, Option.some.injEq] at e
    exact lists rfl h.sq P e
  | ref n =>
    obtain ⟨a, rfl, ha⟩ := rep_ref.mp r
    simp only [slD] at e
    split at e
    · rename_i xs e1
      obtain ⟨vs, h1, P⟩ := hr.obj n a _ ha e1
      exact lists rfl (SqL.of h1) P (Option.some.inj e)
    · cases e
  | _ => simp [slD] at e
noncomputable def eSl (fe : EF) (fl fh : OF) : EF := fun σ H => (fe σ H).bind fun p => (fl σ p.2).bind fun l => (fh σ l.2).bind fun h => slD p.1 l.1 h.1 h.2
theorem pef_slice {e : Expr} {lo hi : Option Expr} {fe : EF} {fl fh : OF} {pos p2 : Pos} (he : PEf X e fe) (hl : POf X lo fl) (hu : POf X hi fh) : PEf X (.Subscript e (.Slice lo hi none p2) pos) (eSl fe fl fh) := by
  refine PEi (pe_slice slf he hl hu) fun σ H Q zz => ?_
  obtain ⟨ι, σd, Hd, d, Hd', s, hr, e, q⟩ := zz
  obtain ⟨⟨x, H1⟩, e1, e⟩ := Option.bind_eq_some_iff.mp e
  obtain ⟨⟨y, H2⟩, e2, e⟩ := Option.bind_eq_some_iff.mp e
  obtain ⟨⟨z, H3⟩, e3, e⟩ := Option.bind_eq_some_iff.mp e
  exact ⟨ι, σd, Hd, x, H1, s, hr, e1, fun v1 H1' ι1 l1 h1 r1 => ⟨ι1, σd, H1, y, H2, s.mono l1, h1, e2, fun H2' ι2 l2 h2 => ⟨ι2, σd, H2, z, H3, s.mono (l1.trans l2), h2, e3, fun H3' ι3 l3 h3 =>
    ⟨ι3, x, H3, d, Hd', h3, r1.mono (l2.trans l3), e, fun v H' ι' l h r => q v H' ι' (((l1.trans l2).trans l3).trans l) h r⟩⟩⟩⟩
noncomputable def lenD : FF := fun ds H => match ds with
  | [.str x] => if x.length ≤ sizeLine then some (.int x.length, H) else none
  | [d] => (seqD d H).map fun xs => (.int xs.length, H)
  | _ => none
theorem prd1 {K : PySem.W.Frag} {H : Hp} {ι : List Addr} {d : D} {vs : List V} (P : Paired (Rep K H ι) [d] vs) : ∃ v, vs = [v] ∧ Rep K H ι d v := by
  cases P with
  | cons r t => cases t; exact ⟨_, rfl, r⟩
theorem prd2 {K : PySem.W.Frag} {H : Hp} {ι : List Addr} {d d' : D} {vs : List V} (P : Paired (Rep K H ι) [d, d'] vs) : ∃ v v', vs = [v, v'] ∧ Rep K H ι d v ∧ Rep K H ι d' v' := by
  cases P with
  | cons r t => obtain ⟨v, rfl, r'⟩ := prd1 t; exact ⟨_, _, rfl, r, r'⟩
theorem callf_len : CallF X (.builtin "len") lenD := by
  rintro pins s σ H xs us Q I rv ⟨ι, ds, Hd, d, Hd', hr, P, e, q⟩
  unfold lenD at e
  split at e
  · obtain ⟨v, rfl, r⟩ := prd1 P
    simp at r
    subst r
    split at e
    · rename_i hl
      cases e
      exact call_len_str pins s σ H _ us Q I rv ⟨_, rfl, hl, q _ H ι Le.refl hr (by simp)⟩
    · cases e
  · obtain ⟨v, rfl, r⟩ := prd1 P
    obtain ⟨ys, e1, e⟩ := Option.map_eq_some_iff.mp e
    obtain ⟨rfl, rfl⟩ := Prod.mk.inj e
    obtain ⟨p, vs, rfl, h, P2⟩ := seq_rd hr r e1
    exact call_len_seq pins s σ H _ us Q I rv ⟨p, vs, rfl, h, q _ H ι Le.refl hr (by simp [Prd.len P2])⟩
  · cases e
noncomputable def absD : FF := fun ds H => match ds with
  | [.int i] => some (.int (if i < 0 then -i else i), H)
  | _ => none
theorem callf_abs : CallF X (.builtin "abs") absD := by
  rintro pins s σ H xs us Q I rv ⟨ι, ds, Hd, d, Hd', hr, P, e, q⟩
  unfold absD at e
  split at e
  · obtain ⟨v, rfl, r⟩ := prd1 P
    simp at r
    subst r
    cases e
    exact call_abs pins s σ H _ us Q I rv ⟨_, rfl, q _ H ι Le.refl hr (by simp)⟩
  · cases e
noncomputable def maxD : FF := fun ds H => match ds with
  | [.int i, .int j] => some (.int (if j > i then j else i), H)
  | _ => none
noncomputable def minD : FF := fun ds H => match ds with
  | [.int i, .int j] => some (.int (if j < i then j else i), H)
  | _ => none
theorem callf_max (hc : X.calm = true) : CallF X (.builtin "max") maxD := by
  rintro pins s σ H xs us Q I rv ⟨ι, ds, Hd, d, Hd', hr, P, e, q⟩
  unfold maxD at e
  split at e
  · obtain ⟨v, v', rfl, r, r'⟩ := prd2 P
    simp at r r'
    subst r r'
    cases e
    exact call_max2 hc pins s σ H _ us Q I rv ⟨_, _, rfl, q _ H ι Le.refl hr (by simp)⟩
  · cases e
theorem callf_min (hc : X.calm = true) : CallF X (.builtin "min") minD := by
  rintro pins s σ H xs us Q I rv ⟨ι, ds, Hd, d, Hd', hr, P, e, q⟩
  unfold minD at e
  split at e
  · obtain ⟨v, v', rfl, r, r'⟩ := prd2 P
    simp at r r'
    subst r r'
    cases e
    exact call_min2 hc pins s σ H _ us Q I rv ⟨_, _, rfl, q _ H ι Le.refl hr (by simp)⟩
  · cases e
noncomputable def intD : FF := fun ds H => match ds with
  | [.int i] => some (.int i, H)
  | [.bl b] => some (.int (if b then 1 else 0), H)
  | _ => none
theorem callf_int : CallF X (.type "int") intD := by
  rintro pins s σ H xs us Q I rv ⟨ι, ds, Hd, d, Hd', hr, P, e, q⟩
  unfold intD at e
  split at e
  · obtain ⟨v, rfl, r⟩ := prd1 P
    simp at r
    subst r
    cases e
    exact call_int1 pins s σ H _ us Q I rv (.inl ⟨_, rfl, q _ H ι Le.refl hr (by simp)⟩)
  · obtain ⟨v, rfl, r⟩ := prd1 P
    simp at r
    subst r
    cases e
    exact call_int1 pins s σ H _ us Q I rv (.inr ⟨_, rfl, q _ H ι Le.refl hr (by simp)⟩)
  · cases e
noncomputable def listD : FF := fun ds H => match ds with
  | [d] => (seqD d H).map fun xs => (.ref H.length, H ++ [.lst xs])
  | _ => none
theorem seq_size {pins : List (Addr × Obj)} {s : Shared} {σ : L2.St} {H : Hp} {p : Addr} {vs : List V} (I : Inv X pins σ H s) (h : SqL X.K H p vs ∨ SqT X.K H p vs) : vs.length ≤ sizeLine := by
  rcases h with h | h
  · obtain ⟨_, _, _, z⟩ := I.list h; exact z
  · obtain ⟨_, _, _, z⟩ := I.tuple h; exact z
theorem callf_list : CallF X (.type "list") listD := by
  rintro pins s σ H xs us Q I rv ⟨ι, ds, Hd, d, Hd', hr, P, e, q⟩
  unfold listD at e
  split at e
  · obtain ⟨v, rfl, r⟩ := prd1 P
    obtain ⟨ys, e1, e⟩ := Option.map_eq_some_iff.mp e
    obtain ⟨p, vs, rfl, h, P2⟩ := seq_rd hr r e1
    obtain ⟨k1, k2⟩ := new_lst hr P2 (show mkL ys Hd = some (d, Hd') by unfold mkL; rw [if_pos (by rw [Prd.len P2]; exact seq_size I h), e]) q
    exact call_list_of pins s σ H _ us Q I rv ⟨p, vs, rfl, h, k2⟩
  · cases e
noncomputable def tupleD : FF := fun ds H => match ds with
  | [d] => (seqD d H).map fun xs => (.tup xs, H)
  | _ => none
theorem callf_tuple : CallF X (.type "tuple") tupleD := by
  rintro pins s σ H xs us Q I rv ⟨ι, ds, Hd, d, Hd', hr, P, e, q⟩
  unfold tupleD at e
  split at e
  · rename_i d0
    obtain ⟨v, rfl, r⟩ := prd1 P
    obtain ⟨ys, e1, e⟩ := Option.map_eq_some_iff.mp e
    obtain ⟨p, vs, rfl, h, P2⟩ := seq_rd hr r e1
    obtain ⟨k1, k2⟩ := new_tup hr P2 (show mkT ys Hd = some (d, Hd') by unfold mkT; rw [if_pos (by rw [Prd.len P2]; exact seq_size I h), e]) q
    refine call_tuple_of pins s σ H _ us Q I rv ⟨p, vs, rfl, ?_⟩
    rcases h with h | h
    · exact .inl ⟨h, k2⟩
    · obtain ⟨rfl, rfl⟩ := Prod.mk.inj e
      exact .inr ⟨h, q _ H ι Le.refl hr (rep_tup.mpr ⟨p, vs, rfl, h, P2⟩)⟩
  · cases e
noncomputable def appendD (x : D) (ds : List D) (H : HD) : Option (D × HD) := match x, ds with
  | .ref n, [d] => match H[n]? with
    | some (.lst xs) => if xs.length < sizeLine then some (.non, H.set n (.lst (xs ++ [d]))) else none
    | _ => none
  | _, _ => none
theorem mtf_append : MtF X "list.append" appendD := by
  rintro pins s σ H x xs v us Q I rx rv ⟨ι, dx, ds, Hd, d, Hd', hr, r1, P, e, q⟩
  unfold appendD at e
  split at e
  · rename_i n d1
    obtain ⟨a, rfl, ha⟩ := rep_ref.mp r1
    obtain ⟨z, rfl, rz⟩ := prd1 P
    split at e
    · rename_i ys e1
      split at e
      · rename_i hl
        cases e
        obtain ⟨vs, h1, P1⟩ := hr.obj n a _ ha e1
        refine mt_append pins s σ H _ _ v us Q I rx rv ⟨a, vs, z, rfl, rfl, h1, by rw [← Prd.len P1]; exact hl, ?_⟩
        have L : Le X.K H ι (upd H a (.lst (vs ++ [z]))) ι := Le.upd (List.mem_of_getElem? ha) h1 trivial _
        exact q _ _ ι L (hr.upd ha h1 trivial ⟨_, upd_same, Prd.append (Prd.mono L P1) (.cons (rz.mono L) .nil)⟩) (by simp)
      · cases e
    · cases e
  · cases e
noncomputable def popD (x : D) (ds : List D) (H : HD) : Option (D × HD) := match x, ds with
  | .ref n, [.int i] => match H[n]? with
    | some (.lst xs) => if -(2 ^ 63) ≤ i ∧ i < 2 ^ 63 then (seqIndex? i xs.length).bind fun k => (xs[k]?).map fun d => (d, H.set n (.lst (xs.eraseIdx k))) else none
    | _ => none
  | _, _ => none
theorem mtf_pop : MtF X "list.pop" popD := by
  rintro pins s σ H x xs v us Q I rx rv ⟨ι, dx, ds, Hd, d, Hd', hr, r1, P, e, q⟩
  unfold popD at e
  split at e
  · rename_i n i
    obtain ⟨a, rfl, ha⟩ := rep_ref.mp r1
    obtain ⟨z, rfl, rz⟩ := prd1 P
    simp at rz
    subst rz
    split at e
    · rename_i ys e1
      split at e
      · rename_i hl
        obtain ⟨k, e2, e⟩ := Option.bind_eq_some_iff.mp e
        obtain ⟨d1, e3, e⟩ := Option.map_eq_some_iff.mp e
        obtain ⟨rfl, rfl⟩ := Prod.mk.inj e
        obtain ⟨vs, h1, P1⟩ := hr.obj n a _ ha e1
        obtain ⟨u, hu, ru⟩ := Prd.get P1 e3
        refine mt_popAt pins s σ H _ _ v us Q I rx rv ⟨a, vs, i, k, u, rfl, rfl, h1, hl.1, hl.2, by rw [← Prd.len P1]; exact e2, hu, ?_⟩
        have L : Le X.K H ι (upd H a (.lst (vs.eraseIdx k))) ι := Le.upd (List.mem_of_getElem? ha) h1 trivial _
        exact q _ _ ι L (hr.upd ha h1 trivial ⟨_, upd_same, Prd.eraseIdx k (Prd.mono L P1)⟩) (ru.mono L)
      · cases e
    · cases e
  · cases e
end
end DL
namespace DL
open PySem PySem.Spec PyProof.Rows L2
mutual
noncomputable def toP (H : HD) : Nat → D → Option PyData
  | _, .non => some .none
  | _, .bl b => some (.bool b)
  | _, .int i => some (.int i)
  | _, .str x => some (.str x)
  | _, .ty _ => none
  | n, .tup xs => (toPs H n xs).map .tuple
  | n, .fl xs => (toPs H n xs).map .list
  | 0, .ref _ => none
  | n + 1, .ref k => match H[k]? with
    | some (.lst xs) => (toPs H n xs).map .list
    | _ => none
termination_by n d => (n, sizeOf d)
noncomputable def toPs (H : HD) : Nat → List D → Option (List PyData)
  | _, [] => some []
  | n, d :: ds => (toP H n d).bind fun x => (toPs H n ds).map fun r => x :: r
termination_by n ds => (n, sizeOf ds)
end
section
variable {X : Cx} {pins : List (Addr × Obj)} {σ : L2.St} {H : Hp} {s : Shared} {ι : List Addr} {Hd : HD}
mutual
theorem reads_of (I : Inv X pins σ H s) (hr : HRep X.K H ι Hd) : ∀ (n : Nat) (d : D) {x : PyData} {v : V} {u : Value}, toP Hd n d = some x → Rep X.K H ι d v → RelV v u → ∃ as, Reads s.heap u x as
  | n, .non, x, v, u, e, r, q => by
    rw [toP] at e; cases e; simp at r; subst r; cases q; exact ⟨_, .none⟩
  | n, .bl b, x, v, u, e, r, q => by
    rw [toP] at e; cases e; simp at r; subst r; cases q; exact ⟨_, .bool b⟩
  | n, .int i, x, v, u, e, r, q => by
    rw [toP] at e; cases e; simp at r; subst r; obtain ⟨t, rfl⟩ := q; exact ⟨_, .int i t⟩
  | n, .str z, x, v, u, e, r, q => by
    rw [toP] at e; cases e; simp at r; subst r; obtain ⟨t, rfl⟩ := q; exact ⟨_, .str z t⟩
  | n, .ty _, x, v, u, e, r, q => by rw [toP] at e; cases e
  | n, .tup xs, x, v, u, e, r, q => by
    rw [toP] at e
    obtain ⟨ps, e1, rfl⟩ := Option.map_eq_some_iff.mp e
    obtain ⟨a, vs, rfl, h, P⟩ := rep_tup.mp r
    cases q
    obtain ⟨its, rv, ⟨o, ho, hc, m, hd⟩, hz⟩ := I.tuple h
    obtain ⟨as, ra⟩ := readsAll_of I hr n xs e1 P rv
    exact ⟨_, .tuple ho hc hd (by simpa using ra)⟩
  | n, .fl xs, x, v, u, e, r, q => by
    rw [toP] at e
    obtain ⟨ps, e1, rfl⟩ := Option.map_eq_some_iff.mp e
    obtain ⟨a, vs, rfl, h, P⟩ := rep_fl.mp r
    cases q
    obtain ⟨its, rv, pl, hz⟩ := I.list h.sq
    obtain ⟨o, ho, hc, m, hd⟩ := pl.isList
    obtain ⟨as, ra⟩ := readsAll_of I hr n xs e1 P rv
    exact ⟨_, .list ho hc hd (by simpa using ra)⟩
  | 0, .ref k, x, v, u, e, r, q => by rw [toP] at e; cases e
  | n + 1, .ref k, x, v, u, e, r, q => by
    rw [toP] at e
    split at e
    · rename_i xs eo
      obtain ⟨ps, e1, rfl⟩ := Option.map_eq_some_iff.mp e
      obtain ⟨a, rfl, ha⟩ := rep_ref.mp r
      cases q
      obtain ⟨vs, h1, P⟩ := hr.obj k a _ ha eo
      obtain ⟨its, rv, pl, hz⟩ := I.list (SqL.of h1)
      obtain ⟨o, ho, hc, m, hd⟩ := pl.isList
      obtain ⟨as, ra⟩ := readsAll_of I hr n xs e1 P rv
      exact ⟨_, .list ho hc hd (by simpa using ra)⟩
    · cases e
termination_by n d => (n, sizeOf d)
theorem readsAll_of (I : Inv X pins σ H s) (hr : HRep X.K H ι Hd) : ∀ (n : Nat) (ds : List D) {xs : List PyData} {vs : List V} {us : List Value}, toPs Hd n ds = some xs → Paired (Rep X.K H ι) ds vs → Vals vs us → ∃ as, ReadsAll s.heap us xs as
  | n, [], xs, vs, us, e, P, q => by
    rw [toPs] at e; cases e; cases P; cases q; exact ⟨_, .nil⟩
  | n, d :: ds, xs, vs, us, e, P, q => by
    rw [toPs] at e
    obtain ⟨x, e1, e⟩ := Option.bind_eq_some_iff.mp e
    obtain ⟨r, e2, rfl⟩ := Option.map_eq_some_iff.mp e
    cases P with
    | cons p P =>
      cases q with
      | cons q Q =>
        obtain ⟨as, ra⟩ := reads_of I hr n d e1 p q
        obtain ⟨bs, rb⟩ := readsAll_of I hr n ds e2 P Q
        exact ⟨_, .cons ra rb⟩
termination_by n ds => (n, sizeOf ds)
end
noncomputable def okP (x : PyData) : Bool := x.canLay0 && decide (x.depth ≤ 30)
noncomputable def dat (d : D) (H : HD) : Option PyData := (toP H 30 d).bind fun x => if okP x = true then some x else none
theorem dat_some {d : D} {x : PyData} (e : dat d Hd = some x) : toP Hd 30 d = some x ∧ x.canLay0 = true ∧ x.depth ≤ 30 := by
  obtain ⟨y, e1, e⟩ := Option.bind_eq_some_iff.mp e
  split at e
  · rename_i h
    cases e
    rw [okP, Bool.and_eq_true, decide_eq_true_eq] at h
    exact ⟨e1, h⟩
  · cases e
noncomputable def twoS : D → D → Option (Str × Str)
  | .str a, .str b => some (a, b)
  | _, _ => none
theorem twoS_some {x y : D} {a b : Str} (h : twoS x y = some (a, b)) : x = .str a ∧ y = .str b := by
  unfold twoS at h
  split at h
  · cases h; exact ⟨rfl, rfl⟩
  · cases h
noncomputable def eqD : F2 := fun x y H => match twoS x y with
  | some (a, b) => some (.bl (a == b), H)
  | none => (dat x H).bind fun p => (dat y H).map fun q => (.bl (PyData.eqv p q), H)
noncomputable def neD : F2 := fun x y H => match twoS x y with
  | some (a, b) => some (.bl (a != b), H)
  | none => (dat x H).bind fun p => (dat y H).map fun q => (.bl (!PyData.eqv p q), H)
theorem opf_eq (hu : X.A.units + 64 < cLine) : OpF X (compareOp .Eq) eqD := by
  rintro pins s σ H x y v u Q I rx ry ⟨ι, dx, dy, Hd, d, Hd', hr, r1, r2, e, q⟩
  unfold eqD at e
  split at e
  · rename_i a b es
    obtain ⟨rfl, rfl⟩ := twoS_some es
    obtain ⟨rfl, rfl⟩ := Prod.mk.inj (Option.some.inj e)
    simp at r1 r2
    subst r1 r2
    obtain ⟨t1, rfl⟩ := rx
    obtain ⟨t2, rfl⟩ := ry
    exact PyProof.Rows.eq_str ⟨.bl _, H, I, rfl, q _ H ι Le.refl hr (by simp)⟩
  · obtain ⟨p, e1, e⟩ := Option.bind_eq_some_iff.mp e
    obtain ⟨p2, e2, e⟩ := Option.map_eq_some_iff.mp e
    obtain ⟨rfl, rfl⟩ := Prod.mk.inj e
    obtain ⟨t1, c1, d1⟩ := dat_some e1
    obtain ⟨t2, c2, d2⟩ := dat_some e2
    obtain ⟨as, ra⟩ := reads_of I hr _ _ t1 r1 rx
    obtain ⟨bs, rb⟩ := reads_of I hr _ _ t2 r2 ry
    exact SeqAt.compareEq_reads ra rb c1 c2 (by omega) ⟨.bl _, H, I, rfl, q _ H ι Le.refl hr (by simp)⟩
theorem opf_ne (hu : X.A.units + 64 < cLine) : OpF X (compareOp .NotEq) neD := by
  rintro pins s σ H x y v u Q I rx ry ⟨ι, dx, dy, Hd, d, Hd', hr, r1, r2, e, q⟩
  unfold neD at e
  split at e
  · rename_i a b es
    obtain ⟨rfl, rfl⟩ := twoS_some es
    obtain ⟨rfl, rfl⟩ := Prod.mk.inj (Option.some.inj e)
    simp at r1 r2
    subst r1 r2
    obtain ⟨t1, rfl⟩ := rx
    obtain ⟨t2, rfl⟩ := ry
    exact PyProof.Rows.ne_str ⟨.bl _, H, I, rfl, q _ H ι Le.refl hr (by simp)⟩
  · obtain ⟨p, e1, e⟩ := Option.bind_eq_some_iff.mp e
    obtain ⟨p2, e2, e⟩ := Option.map_eq_some_iff.mp e
    obtain ⟨rfl, rfl⟩ := Prod.mk.inj e
    obtain ⟨t1, c1, d1⟩ := dat_some e1
    obtain ⟨t2, c2, d2⟩ := dat_some e2
    obtain ⟨as, ra⟩ := reads_of I hr _ _ t1 r1 rx
    obtain ⟨bs, rb⟩ := reads_of I hr _ _ t2 r2 ry
    exact SeqAt.compareNe_reads ra rb c1 c2 (by omega) ⟨.bl _, H, I, rfl, q _ H ι Le.refl hr (by simp)⟩
noncomputable def itemsP : PyData → Option (List PyData)
  | .list xs => some xs
  | .tuple xs => some xs
  | _ => none
noncomputable def inD : F2 := fun x y H => (dat x H).bind fun p => (dat y H).bind fun q => (itemsP q).map fun xs => (.bl (xs.any fun z => PyData.eqv z p), H)
noncomputable def niD : F2 := fun x y H => (dat x H).bind fun p => (dat y H).bind fun q => (itemsP q).map fun xs => (.bl (!xs.any fun z => PyData.eqv z p), H)
theorem opf_in (hu : X.A.units + 64 < cLine) : OpF X (compareOp .In) inD := by
  rintro pins s σ H x y v u Q I rx ry ⟨ι, dx, dy, Hd, d, Hd', hr, r1, r2, e, q⟩
  obtain ⟨p, e1, e⟩ := Option.bind_eq_some_iff.mp e
  obtain ⟨p2, e2, e⟩ := Option.bind_eq_some_iff.mp e
  obtain ⟨xs, e3, e⟩ := Option.map_eq_some_iff.mp e
  obtain ⟨rfl, rfl⟩ := Prod.mk.inj e
  obtain ⟨t1, c1, d1⟩ := dat_some e1
  obtain ⟨t2, c2, d2⟩ := dat_some e2
  obtain ⟨as, ra⟩ := reads_of I hr _ _ t1 r1 rx
  obtain ⟨bs, rb⟩ := reads_of I hr _ _ t2 r2 ry
  have fin : EP X pins σ Q (.bool (xs.any fun z => PyData.eqv z p)) s := ⟨.bl _, H, I, rfl, q _ H ι Le.refl hr (by simp)⟩
  cases p2 with
  | list ys =>
    cases e3
    simp only [PyData.canLay0] at c2
    simp only [PyData.depth] at d2
    exact SeqAt.in_list_reads rb ra c2 c1 (by omega) fin
  | tuple ys =>
    cases e3
    simp only [PyData.canLay0] at c2
    simp only [PyData.depth] at d2
    exact SeqAt.in_tuple_reads rb ra c2 c1 (by omega) fin
  | _ => simp [itemsP] at e3
theorem opf_ni (hu : X.A.units + 64 < cLine) : OpF X (compareOp .NotIn) niD := by
  rintro pins s σ H x y v u Q I rx ry ⟨ι, dx, dy, Hd, d, Hd', hr, r1, r2, e, q⟩
  obtain ⟨p, e1, e⟩ := Option.bind_eq_some_iff.mp e
  obtain ⟨p2, e2, e⟩ := Option.bind_eq_some_iff.mp e
  obtain ⟨xs, e3, e⟩ := Option.map_eq_some_iff.mp e
  obtain ⟨rfl, rfl⟩ := Prod.mk.inj e
  obtain ⟨t1, c1, d1⟩ := dat_some e1
  obtain ⟨t2, c2, d2⟩ := dat_some e2
  obtain ⟨as, ra⟩ := reads_of I hr _ _ t1 r1 rx
  obtain ⟨bs, rb⟩ := reads_of I hr _ _ t2 r2 ry
  have fin : EP X pins σ Q (.bool (!xs.any fun z => PyData.eqv z p)) s := ⟨.bl _, H, I, rfl, q _ H ι Le.refl hr (by simp)⟩
  cases p2 with
  | list ys =>
    cases e3
    simp only [PyData.canLay0] at c2
    simp only [PyData.depth] at d2
    exact SeqAt.notIn_list_reads rb ra c2 c1 (by omega) fin
  | tuple ys =>
    cases e3
    simp only [PyData.canLay0] at c2
    simp only [PyData.depth] at d2
    exact SeqAt.notIn_tuple_reads rb ra c2 c1 (by omega) fin
  | _ => simp [itemsP] at e3
noncomputable def isB (x y : D) : Option Bool := match y, x with
  | .non, .non => some true
  | .non, _ => some false
  | .bl b, .bl c => some (c == b)
  | .bl _, _ => some false
  | _, _ => none
noncomputable def isD : F2 := fun x y H => (isB x y).map fun b => (.bl b, H)
noncomputable def isnD : F2 := fun x y H => (isB x y).map fun b => (.bl (!b), H)
theorem is_bool_gen {M : Model} {A : Around} {E : Value → Shared → Prop} {s : Shared} {Q : Value → Shared → Prop} {v : Value} {b : Bool} (hv : ∀ i, v ≠ .builtin i) (h : Q (.bool (v == .bool b)) s) : wpAny M A (compareOp .Is v (.bool b)) Q E s := by
  cases v <;> first | exact wpAny_pure h | exact absurd rfl (hv _)
theorem isnot_bool_gen {M : Model} {A : Around} {E : Value → Shared → Prop} {s : Shared} {Q : Value → Shared → Prop} {v : Value} {b : Bool} (hv : ∀ i, v ≠ .builtin i) (h : Q (.bool (!(v == .bool b))) s) : wpAny M A (compareOp .IsNot v (.bool b)) Q E s := by
  cases v <;> first | exact wpAny_pure h | exact absurd rfl (hv _)
theorem relV_nb {x : V} {v : Value} (r : RelV x v) : ∀ i, v ≠ .builtin i := by
  intro i
  cases x with
  | non => cases r; intro z; cases z
  | bl _ => cases r; intro z; cases z
  | int _ => obtain ⟨t, rfl⟩ := r; intro z; cases z
  | str _ => obtain ⟨t, rfl⟩ := r; intro z; cases z
  | byt _ => obtain ⟨t, rfl⟩ := r; intro z; cases z
  | flt _ => obtain ⟨t, rfl⟩ := r; intro z; cases z
  | ref _ => cases r; intro z; cases z
  | ty _ => cases r; intro z; cases z
theorem isB_ok {dx dy : D} {x y : V} {v u : Value} {b : Bool} (r1 : Rep X.K H ι dx x) (r2 : Rep X.K H ι dy y) (rx : RelV x v) (ry : RelV y u) (e : isB dx dy = some b) :
    (u = .none ∧ b = (v == .none)) ∨ ∃ c, u = .bool c ∧ b = (v == .bool c) := by
  cases dy with
  | non =>
    simp at r2; subst r2; cases ry
    refine .inl ⟨rfl, ?_⟩
    cases dx with
    | non => simp at r1; subst r1; cases rx; cases e; rfl
    | bl _ => simp at r1; subst r1; cases rx; cases e; rfl
    | int _ => simp at r1; subst r1; obtain ⟨t, rfl⟩ := rx; cases e; rfl
    | str _ => simp at r1; subst r1; obtain ⟨t, rfl⟩ := rx; cases e; rfl
    | ty _ => simp at r1; subst r1; cases rx; cases e; rfl
    | tup _ => obtain ⟨a, _, rfl, _⟩ := rep_tup.mp r1; cases rx; cases e; rfl
    | fl _ => obtain ⟨a, _, rfl, _⟩ := rep_fl.mp r1; cases rx; cases e; rfl
    | ref _ => obtain ⟨a, rfl, _⟩ := rep_ref.mp r1; cases rx; cases e; rfl
  | bl c =>
    simp at r2; subst r2; cases ry
    refine .inr ⟨c, rfl, ?_⟩
    cases dx with
    | non => simp at r1; subst r1; cases rx; cases e; rfl
    | bl z => simp at r1; subst r1; cases rx; cases e; cases z <;> cases c <;> rfl
    | int _ => simp at r1; subst r1; obtain ⟨t, rfl⟩ := rx; cases e; rfl
    | str _ => simp at r1; subst r1; obtain ⟨t, rfl⟩ := rx; cases e; rfl
    | ty _ => simp at r1; subst r1; cases rx; cases e; rfl
    | tup _ => obtain ⟨a, _, rfl, _⟩ := rep_tup.mp r1; cases rx; cases e; rfl
    | fl _ => obtain ⟨a, _, rfl, _⟩ := rep_fl.mp r1; cases rx; cases e; rfl
    | ref _ => obtain ⟨a, rfl, _⟩ := rep_ref.mp r1; cases rx; cases e; rfl
  | _ => simp [isB] at e
theorem opf_is : OpF X (compareOp .Is) isD := by
  rintro pins s σ H x y v u Q I rx ry ⟨ι, dx, dy, Hd, d, Hd', hr, r1, r2, e, q⟩
  obtain ⟨b, e1, e⟩ := Option.map_eq_some_iff.mp e
  obtain ⟨rfl, rfl⟩ := Prod.mk.inj e
  have fin : EP X pins σ Q (.bool b) s := ⟨.bl _, H, I, rfl, q _ H ι Le.refl hr (by simp)⟩
  rcases isB_ok r1 r2 rx ry e1 with ⟨rfl, rfl⟩ | ⟨c, rfl, rfl⟩
  · exact is_none_gen fin
  · exact is_bool_gen (relV_nb rx) fin
theorem opf_isn : OpF X (compareOp .IsNot) isnD := by
  rintro pins s σ H x y v u Q I rx ry ⟨ι, dx, dy, Hd, d, Hd', hr, r1, r2, e, q⟩
  obtain ⟨b, e1, e⟩ := Option.map_eq_some_iff.mp e
  obtain ⟨rfl, rfl⟩ := Prod.mk.inj e
  have fin : EP X pins σ Q (.bool (!b)) s := ⟨.bl _, H, I, rfl, q _ H ι Le.refl hr (by simp)⟩
  rcases isB_ok r1 r2 rx ry e1 with ⟨rfl, rfl⟩ | ⟨c, rfl, rfl⟩
  · exact isnot_none_gen fin
  · exact isnot_bool_gen (relV_nb rx) fin
noncomputable def tyD : D → HD → Option String
  | .non, _ => some "NoneType"
  | .bl _, _ => some "bool"
  | .int _, _ => some "int"
  | .str _, _ => some "str"
  | .tup _, _ => some "tuple"
  | .fl _, _ => some "list"
  | .ref n, H => match H[n]? with
    | some (.lst _) => some "list"
    | _ => none
  | _, _ => none
noncomputable def asked (c : String) : Bool := c == "bool" || c == "int" || c == "str" || c == "tuple" || c == "list"
noncomputable def isiD : FF := fun ds H => match ds with
  | [x, .ty c] => if asked c = true then (tyD x H).map fun t => (.bl (t == c || (t == "bool" && c == "int")), H) else none
  | _ => none
noncomputable def tys : List String := ["NoneType", "bool", "int", "str", "tuple", "list"]
theorem tyD_mem {d : D} {t : String} (e : tyD d Hd = some t) : t ∈ tys := by
  cases d with
  | ref n =>
    simp only [tyD] at e
    split at e
    · cases e; decide
    · cases e
  | ty n => simp [tyD] at e
  | _ => simp only [tyD] at e; cases e; decide
theorem kit_ok (K : PySem.W.Frag) {t c : String} (ht : t ∈ tys) (hc : asked c = true) : PySem.W.kitOne K (.type t) (.type c) = some (t == c || (t == "bool" && c == "int")) := by
  have hc' : c = "bool" ∨ c = "int" ∨ c = "str" ∨ c = "tuple" ∨ c = "list" := by
    simpa [asked, or_assoc] using hc
  simp only [tys, List.mem_cons, List.not_mem_nil, or_false] at ht
  rcases ht with rfl | rfl | rfl | rfl | rfl | rfl <;> rcases hc' with rfl | rfl | rfl | rfl | rfl <;> first | rfl | (with_unfolding_all rfl) | kernel_rfl
theorem callf_isi : CallF X (.builtin "isinstance") isiD := by
  rintro pins s σ H xs us Q I rv ⟨ι, ds, Hd, d, Hd', hr, P, e, q⟩
  unfold isiD at e
  split at e
  · rename_i x c
    split at e
    · rename_i hc
      obtain ⟨t, e1, e⟩ := Option.map_eq_some_iff.mp e
      obtain ⟨rfl, rfl⟩ := Prod.mk.inj e
      obtain ⟨v, v', rfl, r, r'⟩ := prd2 P
      obtain ⟨u, u', rfl, ru, ru'⟩ := vals2 rv
      simp at r'
      subst r'
      cases ru'
      have k := kit_ok X.K (tyD_mem e1) hc
      have fin : ∀ tk, EP X pins σ Q (.bool (t == c || (t == "bool" && c == "int"))) { s with toks := tk } := fun tk => ⟨.bl _, H, I.tok tk, rfl, q _ H ι Le.refl hr (by simp)⟩
      cases x with
      | non => simp at r; subst r; cases ru; cases e1; exact PySem.W.kia_one PySem.W.kitx_none I.kIn True.intro k (fun z => nomatch z) fin
      | bl y => simp at r; subst r; cases ru; cases e1; exact PySem.W.kia_one PySem.W.kitx_bool I.kIn True.intro k (fun z => nomatch z) fin
      | int y => simp at r; subst r; obtain ⟨t, rfl⟩ := ru; cases e1; exact PySem.W.kia_one PySem.W.kitx_int I.kIn True.intro k (fun z => nomatch z) fin
      | str y => simp at r; subst r; obtain ⟨t, rfl⟩ := ru; cases e1; exact PySem.W.kia_one PySem.W.kitx_str I.kIn True.intro k (fun z => nomatch z) fin
      | ty _ => simp [tyD] at e1
      | tup ys =>
        obtain ⟨a, vs, rfl, h, _⟩ := rep_tup.mp r
        cases ru; cases e1
        obtain ⟨its, _, ⟨o, ho, hcl, _⟩, _⟩ := I.tuple h
        exact PySem.W.kia_one PySem.W.kitx_tuple I.kIn ⟨o, ho, hcl⟩ k (fun z => nomatch z) fin
      | fl ys =>
        obtain ⟨a, vs, rfl, h, _⟩ := rep_fl.mp r
        cases ru; cases e1
        obtain ⟨its, _, pl, _⟩ := I.list h.sq
        obtain ⟨o, ho, hcl, _⟩ := pl.isList
        exact PySem.W.kia_one PySem.W.kitx_list I.kIn ⟨o, ho, hcl⟩ k (fun z => nomatch z) fin
      | ref n =>
        obtain ⟨a, rfl, ha⟩ := rep_ref.mp r
        cases ru
        simp only [tyD] at e1
        split at e1
        · rename_i ys eo
          cases e1
          obtain ⟨vs, h1, _⟩ := hr.obj n a _ ha eo
          obtain ⟨its, _, pl, _⟩ := I.list (SqL.of h1)
          obtain ⟨o, ho, hcl, _⟩ := pl.isList
          exact PySem.W.kia_one PySem.W.kitx_list I.kIn ⟨o, ho, hcl⟩ k (fun z => nomatch z) fin
        · cases e1
    · cases e
  · cases e
end
section
variable {X : Cx} {tg : Expr}
noncomputable def itemsD : D → HD → Option (List D × OwnD)
  | .tup xs, _ => some (xs, [])
  | .fl xs, _ => some (xs, [])
  | .ref n, H => match H[n]? with
    | some (.lst xs) => some (xs, [(n, .lst xs)])
    | _ => none
  | _, _ => none
noncomputable def smallI (i : Int) : Prop := -(2 ^ 62) ≤ i ∧ i < 2 ^ 62
instance (i : Int) : Decidable (smallI i) := by unfold smallI; exact inferInstance
noncomputable def rangeL (lo : Int) (n : Nat) : List D := (List.range n).map fun k : Nat => .int (lo + (k : Int))
theorem rangeL_get {lo : Int} {n i : Nat} {d : D} (h : (rangeL lo n)[i]? = some d) : i < n ∧ d = .int (lo + i) := by
  unfold rangeL at h
  rw [List.getElem?_map] at h
  obtain ⟨k, h1, rfl⟩ := Option.map_eq_some_iff.mp h
  rw [List.getElem?_eq_some_iff] at h1
  obtain ⟨hl, h1⟩ := h1
  simp at h1 hl
  subst h1
  exact ⟨hl, rfl⟩
theorem itr_range {K : PySem.W.Frag} {H0 : Hp} {ι0 : List Addr} (lo : Int) (n : Nat) : ItRep K (Itr lo n) (rangeL lo n) [] H0 ι0 := by
  refine ⟨fun i H2 ι2 Hd2 l2 h2 _ hi => (show i < n by simpa [rangeL] using hi), fun i H2 ι2 Hd2 d x H3 l2 h2 _ hd y => ?_, fun i H2 ι2 Hd2 l2 h2 _ hi => (show n ≤ i by simpa [rangeL] using hi)⟩
  obtain ⟨rfl, rfl⟩ := y
  obtain ⟨_, rfl⟩ := rangeL_get hd
  exact ⟨ι2, Le.refl, h2, by simp⟩
noncomputable def iR1 (f : AF) : ItF := fun σ H => (f σ H).bind fun p => match p.1 with
  | [.int j] => if smallI j then some ((rangeL 0 j.toNat, []), p.2) else none
  | _ => none
theorem pif_range1 {a : Expr} {f : AF} {p pos : Pos} (hg : Gl X "range") (hm : X.mg "range" = none) (ha : PAf X [a] f) (hs : starEach [a] X.env = [(false, eval a X.env)] := by rfl) : PIf X tg (.Call (.Name "range" p) [a] [] pos) (iR1 f) := by
  refine PIi (pi_range1 hg hm ha hs) fun σ H R zz => ?_
  obtain ⟨ι, σd, Hd, xs, own, Hd', s, hr, e, q⟩ := zz
  obtain ⟨⟨ds, H1⟩, e1, e⟩ := Option.bind_eq_some_iff.mp e
  dsimp only at e
  split at e
  · rename_i j
    split at e
    · rename_i hj
      cases e
      refine ⟨ι, σd, Hd, _, _, s, hr, e1, fun vs H' ι' l h P => ?_⟩
      obtain ⟨v, rfl, r⟩ := prd1 P
      simp at r
      subst r
      exact ⟨j, rfl, hj.1, hj.2, q _ H' ι' l h (itr_range 0 _)⟩
    · cases e
  · cases e
end
end DL
namespace DL
open PySem PySem.Spec PyProof.Rows L2
open Builtin.SmallTypes (nextOf)
section
variable {prog : Program} {w : World} {A : Around} {E : Value → Shared → Prop} {s : Shared}
theorem nxt_item {j t : Addr} {i : Nat} {its : Array Value} {x : Value} {Q : Value → Shared → Prop} (hj : s.heap.IsTupleIter j t i) (ht : s.heap.IsTuple t its) (hx : its[i]? = some x)
    (hQ : ∀ h', h'.IsTupleIter j t (i + 1) → Heap.SameBut j s.heap h' → Q x { s with heap := h' }) : wpAny (model prog w) A (nextOf (.ref j)) Q E s := by
  obtain ⟨oj, ho, hcj, hdj⟩ := id hj
  obtain ⟨ot, hot, _, nt, hdt⟩ := ht
  unfold nextOf
  refine wpAny_bind (wpAny_callSpecial?_slot (name := Str.ofString "__next__") hj.typeIs F.slot_tuple_iterator_next (wpAny_call_entry F.slot_tuple_iterator_next hj.typeIs F.entry_tuple_iterator_next ?_ (F.args_tuple_iterator_next_1 _)))
  show wpAny _ _ (field (.ref j) 0 >>= _) _ _ s
  refine wpAny_bind (wpAny_field ho hdj (x := .ref t) rfl ?_)
  show wpAny _ _ (if (Value.ref t == Value.none) = true then _ else _) _ _ s
  rw [if_neg (show ¬ ((Value.ref t == Value.none) = true) by intro z; cases z)]
  show wpAny _ _ (field (.ref j) 1 >>= _) _ _ s
  refine wpAny_bind (wpAny_field ho hdj (x := .int i 0) rfl ?_)
  show wpAny _ _ (seqItems? (.ref t) >>= _) _ _ s
  refine wpAny_bind (wpAny_seqItems hot hdt ?_)
  simp only [Int.toNat_natCast, hx]
  refine wpAny_bind (wpAny_setField ho hdj (by simp) (wpAny_pure ⟨x, rfl, wpAny_pure (hQ _ ⟨_, Heap.get?_update_self _ ho (Obj.isFreed_of_fields (Obj.data_mapFields hdj _)), (Obj.cls_mapFields ..).trans hcj, ?_⟩ (Heap.SameBut.update ..))⟩))
  rw [Obj.data_mapFields hdj]; simp [rawInt]
theorem nxt_end {j t : Addr} {i : Nat} {its : Array Value} {Q : Value → Shared → Prop} (hh : A.handled = none) (hj : s.heap.IsTupleIter j t i) (ht : s.heap.IsTuple t its) (hx : its[i]? = none)
    (hE : ∀ h' e, Heap.ExtBut j s.heap h' → (∃ o, h'.get? e = some o ∧ o.cls = .type "StopIteration") → E (.ref e) { s with heap := h' }) : wpAny (model prog w) A (nextOf (.ref j)) Q E s := by
  obtain ⟨oj, ho, hcj, hdj⟩ := id hj
  obtain ⟨ot, hot, _, nt, hdt⟩ := ht
  unfold nextOf
  refine wpAny_bind (wpAny_callSpecial?_slot (name := Str.ofString "__next__") hj.typeIs F.slot_tuple_iterator_next (wpAny_call_entry F.slot_tuple_iterator_next hj.typeIs F.entry_tuple_iterator_next ?_ (F.args_tuple_iterator_next_1 _)))
  show wpAny _ _ (field (.ref j) 0 >>= _) _ _ s
  refine wpAny_bind (wpAny_field ho hdj (x := .ref t) rfl ?_)
  show wpAny _ _ (if (Value.ref t == Value.none) = true then _ else _) _ _ s
  rw [if_neg (show ¬ ((Value.ref t == Value.none) = true) by intro z; cases z)]
  show wpAny _ _ (field (.ref j) 1 >>= _) _ _ s
  refine wpAny_bind (wpAny_field ho hdj (x := .int i 0) rfl ?_)
  show wpAny _ _ (seqItems? (.ref t) >>= _) _ _ s
  refine wpAny_bind (wpAny_seqItems hot hdt ?_)
  simp only [Int.toNat_natCast, hx]
  refine wpAny_bind (wpAny_rule (wpAny_bind (wpAny_setField ho hdj (by simp) ?_)))
  show wpAny _ _ (newExc (.type "StopIteration") [] >>= _) _ _ _
  refine wpAny_bind ?_
  simp only [newExc, newTuple]
  refine wpAny_bind (wpAny_newObj_type ?_ (by size_fits))
  refine wpAny_bind (m := firstArgMember _ _) (wpAny_of_eq (a := Value.none) (by first | rfl | (simp only [firstArgMember]; rfl)) (wpAny_newObj_type ?_ (by size_fits)))
  simp only [raiseNew]
  refine wpAny_bind (wpAny_handled ?_)
  first | rw [show A.in1.handled = none from hh] | rw [hh]
  exact wpAny_bind (wpAny_pure (wpAny_throw (hE _ _ (((Heap.SameBut.update ..).extBut.push _).push _) ⟨_, Heap.get?_push_size _ rfl, rfl⟩)))
theorem enum_step {e j t : Addr} {i : Nat} {c : Int} {its : Array Value} {x old : Value} {Q : Option Value → Shared → Prop} (he : IsEnum s.heap e j c old) (hj : s.heap.IsTupleIter j t i) (ht : s.heap.IsTuple t its) (hx : its[i]? = some x) (hne : e ≠ j)
    (hQ : ∀ h' tk, IsEnumOut h' e j (c + 1) x s.heap.objs.size → h'.IsTupleIter j t (i + 1) → h'.get? s.heap.objs.size = some { cls := .type "tuple", data := .seq #[.int c tk, x] } → h'.objs.size = s.heap.objs.size + 1 →
      (∀ b o, b ≠ e → b ≠ j → s.heap.get? b = some o → h'.get? b = some o) → Q (some (.ref s.heap.objs.size)) { s with heap := h', toks := s.toks + 1 }) :
    wpAny (model prog w) A (pyNext (.ref e)) Q E s := by
  have hT : s.TypeIs (.ref e) "enumerate" := ⟨_, he, rfl⟩
  unfold pyNext
  refine wpAny_bind (wpAny_attempt (wpAny_callSpecial?_slot (name := Str.ofString "__next__") hT F.slot_enumerate_next (wpAny_call_entry F.slot_enumerate_next hT F.entry_enumerate_next ?_ (F.args_enumerate_next_1 _))))
  obtain ⟨hp, g, d, tk, os⟩ := s
  show wpAny _ _ (field (.ref e) 2 >>= _) _ _ _
  refine wpAny_bind (wpAny_field he rfl (x := .ref j) rfl (wpAny_bind (nxt_item hj ht hx fun h1 j1 s1 => ?_)))
  replace s1 : Heap.SameBut j hp h1 := s1
  have e1 : IsEnum h1 e j c old := (s1.2 e hne).trans he
  show wpAny _ _ (field (.ref e) 3 >>= _) _ _ ⟨h1, g, d, tk, os⟩
  refine wpAny_bind (wpAny_field e1 rfl (x := rawInt c) rfl ?_)
  show wpAny _ _ (field (.ref e) 4 >>= _) _ _ ⟨h1, g, d, tk, os⟩
  refine wpAny_bind (wpAny_field e1 rfl (x := .none) rfl ?_)
  show wpAny _ _ (mkInt c >>= _) _ _ ⟨h1, g, d, tk, os⟩
  refine wpAny_bind (wpAny_mkInt ?_)
  show wpAny _ _ (setField (.ref e) 3 (rawInt (c + 1)) >>= _) _ _ ⟨h1, g, d, tk + 1, os⟩
  refine wpAny_bind (wpAny_setField_rec e1 (by simp) fun h2 e2 s2 => ?_)
  replace s2 : Heap.SameBut e h1 h2 := s2
  replace e2 : IsEnum h2 e j (c + 1) old := e2
  show wpAny _ _ (setField (.ref e) 4 .none >>= _) _ _ ⟨h2, g, d, tk + 1, os⟩
  refine wpAny_bind (wpAny_setField_rec e2 (by simp) fun h3 e3 s3 => ?_)
  replace s3 : Heap.SameBut e h2 h3 := s3
  replace e3 : IsEnum h3 e j (c + 1) old := e3
  show wpAny _ _ (newTuple [.int c tk, x] >>= _) _ _ ⟨h3, g, d, tk + 1, os⟩
  refine wpAny_bind (wpAny_newTuple ?_)
  have e4 : IsEnum (h3.push { cls := .type "tuple", data := .seq #[.int c tk, x] }) e j (c + 1) old := Heap.get?_push_of_some _ e3
  generalize q4 : h3.push { cls := .type "tuple", data := .seq #[.int c tk, x] } = h4 at e4
  have zz : h3.objs.size = hp.objs.size := by rw [s3.1, s2.1, s1.1]
  have lt : e < hp.objs.size := Heap.lt_size he
  have t4 : h4.get? hp.objs.size = some { cls := .type "tuple", data := .seq #[.int c tk, x] } := by rw [← q4, ← zz]; exact Heap.get?_push_size _ rfl
  have z4 : h4.objs.size = hp.objs.size + 1 := by rw [← q4, Heap.size_push, zz]
  have k4 : ∀ b o, b ≠ e → b ≠ j → hp.get? b = some o → h4.get? b = some o := fun b o n1 n2 q => by
    rw [← q4]; exact Heap.get?_push_of_some _ (s3.extBut b o n1 (s2.extBut b o n1 (s1.extBut b o n2 q)))
  have j4 : h4.IsTupleIter j t (i + 1) := by
    obtain ⟨o, ho, r⟩ := id j1
    exact ⟨o, by rw [← q4]; exact Heap.get?_push_of_some _ (s3.extBut j o (Ne.symm hne) (s2.extBut j o (Ne.symm hne) ho)), r⟩
  show wpAny _ _ (Builtin.SmallTypes.ownedTupleIsFree (.ref e) >>= _) _ _ ⟨h4, g, d, tk + 1, os⟩
  rw [zz]
  clear q4 e3 s3 e2 s2 e1 s1 j1 zz h3 h2 h1
  refine wpAny_bind ?_
  unfold Builtin.SmallTypes.ownedTupleIsFree
  refine wpAny_bind (wpAny_field e4 rfl (x := .none) rfl (wpAny_pure ?_))
  simp only [if_true]
  refine wpAny_bind (wpAny_rule (wpAny_bind (wpAny_field e4 rfl (x := old) rfl (wpAny_bind (wpAny_setField_rec e4 (by simp) fun h5 e5 s5 => ?_)))))
  replace s5 : Heap.SameBut e h4 h5 := s5
  replace e5 : IsEnum h5 e j (c + 1) x := e5
  show wpAny _ _ (Builtin.SmallTypes.ownedTupleHandOut (.ref e) (.ref hp.objs.size) >>= _) _ _ ⟨h5, g, d, tk + 1, os⟩
  refine wpAny_bind ?_
  unfold Builtin.SmallTypes.ownedTupleHandOut
  refine wpAny_bind (wpAny_setField_rec e5 (by simp) fun h6 e6 s6 => ?_)
  replace s6 : Heap.SameBut e h5 h6 := s6
  replace e6 : IsEnumOut h6 e j (c + 1) x hp.objs.size := e6
  refine wpAny_setField_rec e6 (by simp) fun h7 e7 s7 => ?_
  replace s7 : Heap.SameBut e h6 h7 := s7
  replace e7 : IsEnumOut h7 e j (c + 1) x hp.objs.size := e7
  have up : ∀ b o, b ≠ e → h4.get? b = some o → h7.get? b = some o := fun b o n q => s7.extBut b o n (s6.extBut b o n (s5.extBut b o n q))
  refine wpAny_bind (wpAny_letGo (wpAny_pure ⟨_, rfl, wpAny_pure (hQ h7 tk e7 ?_ (up _ _ (Nat.ne_of_gt lt) t4) (by rw [s7.1, s6.1, s5.1, z4]) fun b o n1 n2 q => up b o n1 (k4 b o n1 n2 q))⟩))
  obtain ⟨o, ho, r⟩ := id j4
  exact ⟨o, up j o (Ne.symm hne) ho, r⟩
theorem enum_stop {e j t : Addr} {i : Nat} {c : Int} {its : Array Value} {old : Value} {Q : Option Value → Shared → Prop} (hh : A.handled = none) (he : IsEnum s.heap e j c old) (hj : s.heap.IsTupleIter j t i) (ht : s.heap.IsTuple t its) (hx : its[i]? = none)
    (hQ : ∀ h', Heap.ExtBut j s.heap h' → Q none { s with heap := h' }) : wpAny (model prog w) A (pyNext (.ref e)) Q E s := by
  have hT : s.TypeIs (.ref e) "enumerate" := ⟨_, he, rfl⟩
  unfold pyNext
  refine wpAny_bind (wpAny_attempt (wpAny_callSpecial?_slot (name := Str.ofString "__next__") hT F.slot_enumerate_next (wpAny_call_entry F.slot_enumerate_next hT F.entry_enumerate_next ?_ (F.args_enumerate_next_1 _))))
  show wpAny _ _ (field (.ref e) 2 >>= _) _ _ _
  refine wpAny_bind (wpAny_field he rfl (x := .ref j) rfl (wpAny_bind (nxt_end hh hj ht hx fun h' z he' zz => ?_)))
  obtain ⟨o, ho, hc⟩ := zz
  exact wpAny_bind (wpAny_isInstance (T := "StopIteration") (b := true) ⟨o, ho, hc⟩ isSubtype_stop (wpAny_pure (hQ _ he')))
open AutoSeq1 (wpAny_loadPart') in
theorem enum_newT (t : Addr) (its : Array Value) (n : Nat) (dct : Option Addr) (sl : Array (Option Value)) :
    Meets (Builtin.«enumerate.__new__» ⟨[.type "enumerate", .ref t], []⟩) (fun _ R s => s.heap.get? t = some { cls := .type "tuple", dict := dct, data := .seq its n, slots := sl } ∧
      R (.ok (.ret (.ref (s.heap.push { cls := .type "tuple_iterator", data := .fields #[.ref t, .int 0 0] }).objs.size)))
        { s with heap := (s.heap.push { cls := .type "tuple_iterator", data := .fields #[.ref t, .int 0 0] }).push { cls := .type "enumerate", data := .fields #[.none, .bool false, .ref s.heap.objs.size, rawInt 0, .none, .none] } }) :=
  .of_wp fun prog w A R s h => by
    obtain ⟨hp, g, d, tk, os⟩ := s; obtain ⟨hl, h⟩ := h
    have hsub := sub_enumerate
    have hL : Heap.IsTuple (Shared.heap ⟨hp, g, d, tk, os⟩) t its := ⟨_, hl, rfl, n, rfl⟩
    wp_walk using wpAny_loadPart' hl
    refine wpAny_stack_any fun st => wpAny_pure ?_
    split
    · rename_i k _ _ _ _ _
      cases (k == Value.type "enumerate") <;> (wp_walk using wpAny_loadPart' hl, wpAny_pyIter_tuple hL; exact ⟨_, rfl, h⟩)
    · wp_walk using wpAny_loadPart' hl, wpAny_pyIter_tuple hL
      exact ⟨_, rfl, h⟩
theorem call_enumT {t : Addr} {its : Array Value} {Q : Value → Shared → Prop} (hL : s.heap.IsTuple t its)
    (h : ∀ h', IsEnum h' (s.heap.objs.size + 1) s.heap.objs.size 0 .none → h'.IsTupleIter s.heap.objs.size t 0 → h'.objs.size = s.heap.objs.size + 2 →
      (∀ b o, s.heap.get? b = some o → h'.get? b = some o) → Q (.ref (s.heap.objs.size + 1)) { s with heap := h' }) :
    wpAny (model prog w) A (call (.type "enumerate") [.ref t]) Q E s := by
  obtain ⟨⟨k, dct, dt, sl⟩, hl, hc, n, hd⟩ := hL
  replace hc : k = .type "tuple" := hc
  replace hd : dt = .seq its n := hd
  subst hc hd
  refine callType_new F.called_enumerate (by decide) (F.typeCall_enumerate_1 _) (F.newCall_enumerate_1 _) (fun obj => F.args_object_init_2 obj _) F.entry_enumerate_new (enum_newT t its n dct sl) ⟨hl, ?_⟩
  have hz : (s.heap.push { cls := .type "tuple_iterator", data := .fields #[.ref t, .int 0 0] }).objs.size = s.heap.objs.size + 1 := Heap.size_push ..
  show _ ∧ _
  rw [hz]
  have he : IsEnum ((s.heap.push { cls := .type "tuple_iterator", data := .fields #[.ref t, .int 0 0] }).push { cls := .type "enumerate", data := .fields #[.none, .bool false, .ref s.heap.objs.size, rawInt 0, .none, .none] }) (s.heap.objs.size + 1) s.heap.objs.size 0 .none := by
    have q := Heap.get?_push_size (s.heap.push { cls := .type "tuple_iterator", data := .fields #[.ref t, .int 0 0] }) (o := { cls := .type "enumerate", data := .fields #[.none, .bool false, .ref s.heap.objs.size, rawInt 0, .none, .none] }) rfl
    rw [hz] at q; exact q
  exact ⟨⟨_, he, rfl⟩, h _ he ⟨_, Heap.get?_push_of_some _ (Heap.get?_push_size _ rfl), rfl, rfl⟩ (by rw [Heap.size_push, hz]) fun b o x => Heap.get?_push_of_some _ (Heap.get?_push_of_some _ x)⟩
end
noncomputable def IteT (K : PySem.W.Frag) (c : Int) (a : Addr) : It :=
  ⟨fun i H => ∃ xs x, SqT K H a xs ∧ xs[i]? = some x, fun i H v H' => ∃ p x, H p = none ∧ v = .ref p ∧ H' = upd H p (.tup [.int (c + i), x]) ∧ ∀ xs, SqT K H a xs → xs[i]? = some x, fun i H => ∃ xs, SqT K H a xs ∧ xs.length ≤ i⟩
theorem turn_enumT {P : Program} {w : World} {K : PySem.W.Frag} {es : List Expr} {k : Nat} {pos : Pos} (a e j : Addr) (c : Int) (hne : e ≠ j) : Turn P w K (.Tuple es k pos) (IteT K c a) [e, j] e (fun i h => ∃ old, IsEnum h e j (c + i) old ∧ h.IsTupleIter j a i) where
  mem := by simp
  obj := fun i h st b hb => by
    obtain ⟨old, he, o, ho, hc, hd⟩ := st
    rcases List.mem_cons.mp hb with rfl | hb
    · exact ⟨_, he, fun v z => by cases z⟩
    · have : b = j := by simpa using hb
      subst this
      exact ⟨o, ho, fun v z => by rw [hd] at z; cases z⟩
  keep := fun i h h' st kk => by
    obtain ⟨old, he, o, ho, r⟩ := st
    exact ⟨old, kk e (by simp) _ he, o, kk j (by simp) o ho, r⟩
  item := by
    intro X hP hw hK hc i pins s σ H E I hf st hg
    subst hP hw hK
    obtain ⟨xs, x, hq, hx⟩ := hg
    obtain ⟨old, he, hj⟩ := st
    obtain ⟨its, rv, p, hz⟩ := I.tuple hq
    obtain ⟨u, hu, ru⟩ := rv.get hx
    have fe := hf e (by simp)
    have fj := hf j (by simp)
    refine enum_step he hj (show s.heap.IsTuple a its.toArray from p) (x := u) (by simpa using hu) hne fun h' tk eo j' t' z' kk => ?_
    refine ⟨_, rfl, wpAny_letOwnedTupleGo_enum (s := { s with heap := h', toks := s.toks + 1 }) eo fun h2 e2 s2 => ?_⟩
    replace s2 : Heap.SameBut e h' h2 := s2
    have le : e < s.heap.objs.size := Heap.lt_size he
    have ne2 : s.heap.objs.size ≠ e := Nat.ne_of_gt le
    -- the iterator's two records have turned, the pair is new
    have t2 : h2.get? s.heap.objs.size = some { cls := .type "tuple", data := .seq #[.int (c + i) tk, u] } := s2.extBut _ _ ne2 t'
    have hp0 : H s.heap.objs.size = none := I.hok.fresh (Nat.le_refl _)
    have up : ∀ b o, b ∉ [e, j] → s.heap.get? b = some o → h2.get? b = some o := fun b o hb q =>
      s2.extBut b o (fun z => hb (by simp [z])) (kk b o (fun z => hb (by simp [z])) (fun z => hb (by simp [z])) q)
    have I2 : Inv X pins σ (upd H s.heap.objs.size (.tup [.int (c + i), x])) { s with heap := h2, toks := s.toks + 1 } := by
      refine I.step (g' := s.gens) (d' := s.drawn) (t' := s.toks + 1) (ch := [e, j]) (fun b hb => ?_) (fun b o _ _ hb q n => up b o hb q) (fun b o _ _ hb q n => ⟨o.slots, up b o hb q⟩) (fun b o _ q n => ?_) (fun b o hb q => ⟨o, up b o hb q⟩) (fun b ys q => ?_) (fun b o y q => ?_) (fun b ps q => ⟨#[], ?_⟩) (fun m hm => ?_) (fun b o q => ?_) I.bare
      · have := hf b hb; exact ⟨this.2.2.2.1, this.2.1, this.2.2.2.2.1, this.2.2.2.2.2⟩
      · rw [upd_ne (Nat.ne_of_lt (Heap.lt_size q))]; exact n
      · rw [upd_ne (ne_of_none q hp0)]; exact q
      · rw [upd_ne (ne_of_none q hp0)]; exact q
      · rw [upd_ne (ne_of_none q hp0), q]; simp
      · obtain ⟨o, es', ep, ho, r⟩ := hm
        exact ⟨o, es', ep, s2.extBut _ o (Ne.symm fe.2.1) (kk _ o (Ne.symm fe.2.1) (Ne.symm fj.2.1) ho), r⟩
      · by_cases hb : b = s.heap.objs.size
        · subst hb
          rw [upd_same] at q
          cases q
          exact ⟨(by show 2 ≤ sizeLine; decide), [.int (c + i) tk, u], .cons ⟨tk, rfl⟩ (.cons ru .nil), _, t2, rfl, ⟨_, rfl⟩, rfl⟩
        · rw [upd_ne hb] at q
          refine (I.hok b o q).stay (fun d v hd z => up d v (fun hm => ?_) z) (fun d z => by rw [upd_ne (ne_of_none z hp0)]; exact z) fun d ys z => by rw [upd_ne (ne_of_none z hp0)]; exact z
          have : H d ≠ none := by
            rcases hd with rfl | hd
            · rw [q]; simp
            · rw [hd]; simp
          exact this (hf d hm).1
    refine ⟨.ref s.heap.objs.size, _, I2, rfl, ⟨_, x, hp0, rfl, rfl, fun ys hy => by rw [I.tuple_inj hy hq]; exact hx⟩, ?_, fun b hb => ?_⟩
    · obtain ⟨o, ho, r⟩ := id j'
      have ec : c + ((i + 1 : Nat) : Int) = c + (i : Int) + 1 := by push_cast; omega
      exact ⟨u, by rw [ec]; exact e2, o, s2.extBut j o (Ne.symm hne) ho, r⟩
    · have hb2 : b ≠ s.heap.objs.size := by
        rcases List.mem_cons.mp hb with rfl | hb
        · exact Nat.ne_of_lt le
        · have : b = j := by simpa using hb
          subst this
          obtain ⟨o, ho, _⟩ := id hj
          exact Nat.ne_of_lt (Heap.lt_size ho)
      rw [upd_ne hb2]; exact (hf b hb).1
  done := by
    intro X hP hw hK hc i pins s σ H E I hf st hg
    subst hP hw hK
    obtain ⟨xs, hq, hx⟩ := hg
    obtain ⟨old, he, hj⟩ := st
    obtain ⟨its, rv, p, hz⟩ := I.tuple hq
    obtain ⟨f0, f1, f2, f3, f4, f5⟩ := hf j (by simp)
    have hl := rv.length
    exact enum_stop (I.ok.hd hc) he hj (show s.heap.IsTuple a its.toArray from p) (by simp; omega) fun h' eb => ⟨rfl, I.turned (t' := s.toks) (fun b o hb q => eb b o hb q) f0 f1 f3 f4 f5⟩
  self := fun _ _ _ _ _ st h => by
    obtain ⟨old, he, _⟩ := st
    exact wpAny_pyIter_enum he h
end DL
namespace DL
open PySem PySem.Spec PyProof.Rows L2
section
variable {X : Cx}
noncomputable def enumL (c : Int) : List D → List D
  | [] => []
  | x :: r => .tup [.int c, x] :: enumL (c + 1) r
theorem enumL_len : ∀ (xs : List D) (c : Int), (enumL c xs).length = xs.length
  | [], _ => rfl
  | x :: r, c => by simp [enumL, enumL_len r]
theorem enumL_get : ∀ {xs : List D} {c : Int} {i : Nat} {d : D}, (enumL c xs)[i]? = some d → ∃ x, xs[i]? = some x ∧ d = .tup [.int (c + i), x]
  | [], c, i, d, h => by simp [enumL] at h
  | x :: r, c, 0, d, h => by simp [enumL] at h; exact ⟨x, rfl, by rw [← h]; simp⟩
  | x :: r, c, i + 1, d, h => by
    simp only [enumL, List.getElem?_cons_succ] at h
    obtain ⟨y, h1, h2⟩ := enumL_get h
    refine ⟨y, by simpa using h1, ?_⟩
    rw [h2]
    have : c + 1 + (i : Int) = c + ((i + 1 : Nat) : Int) := by push_cast; omega
    rw [this]
theorem itr_enum {K : PySem.W.Frag} {H0 : Hp} {ι0 : List Addr} {a : Addr} {c : Int} {xs : List D} {vs : List V} (hS : SqT K H0 a vs) (P : Paired (Rep K H0 ι0) xs vs)
    (inj : ∀ (i : Nat) (H : Hp) (x : V), (∀ ys, SqT K H a ys → ys[i]? = some x) → SqT K H a vs → vs[i]? = some x) : ItRep K (IteT K c a) (enumL c xs) [] H0 ι0 := by
  refine ⟨fun i H2 ι2 Hd2 l2 h2 _ hi => ?_, fun i H2 ι2 Hd2 d v H3 l2 h2 _ hd y => ?_, fun i H2 ι2 Hd2 l2 h2 _ hi => ⟨vs, l2.tup a vs hS, by rw [← Prd.len P, ← enumL_len xs c]; exact hi⟩⟩
  · exact ⟨vs, vs[i]'(by rw [← Prd.len P, ← enumL_len xs c]; exact hi), l2.tup a vs hS, by simp⟩
  · obtain ⟨p, x, hp, rfl, rfl, y⟩ := y
    obtain ⟨x', hx', rfl⟩ := enumL_get hd
    obtain ⟨u, hu, ru⟩ := Prd.get P hx'
    have := y vs (l2.tup a vs hS)
    rw [hu] at this
    cases this
    refine ⟨ι2, Le.fresh hp _, h2.tup hp _, rep_tup.mpr ⟨p, _, rfl, SqT.of upd_same, .cons (by simp) (.cons ((ru.mono l2).mono (Le.fresh hp _)) .nil)⟩⟩
noncomputable def iEnum (f : AF) : ItF := fun σ H => (f σ H).bind fun p => match p.1 with
  | [.tup xs] => some ((enumL 0 xs, []), p.2)
  | _ => none
theorem pif_enum {es : List Expr} {k : Nat} {tp p pos : Pos} {a : Expr} {f : AF} (hg : Gl X "enumerate") (hm : X.mg "enumerate" = none) (ha : PAf X [a] f) (hs : starEach [a] X.env = [(false, eval a X.env)] := by rfl) : PIf X (.Tuple es k tp) (.Call (.Name "enumerate" p) [a] [] pos) (iEnum f) := by
  rintro pins s σ H R I ⟨ι, σd, Hd, xs, own, Hd', sr, hr, e, q⟩
  obtain ⟨⟨ds, H1⟩, e1, e⟩ := Option.bind_eq_some_iff.mp e
  dsimp only at e
  split at e
  · rename_i ys
    cases e
    refine Call_ (ld_blt I hg hm boot_enumerate (PyProof.Rows.callWith_type1 (thn (ha pos pins s σ H (fun vs H' => ∃ a ws, vs = [.ref a] ∧ SqT X.K H' a ws ∧ ∀ (J : It) (H2 : Hp), H2 = H' → J = IteT X.K 0 a → R J H2) I ⟨ι, σd, Hd, _, _, sr, hr, e1, fun vs H' ι' l h P => ?_⟩) fun us s1 ⟨vs, H2, I2, r2, q2⟩ => ?_) hs rfl))
    · obtain ⟨v, rfl, r⟩ := prd1 P
      obtain ⟨ad, ws, rfl, hS, P2⟩ := rep_tup.mp r
      refine ⟨ad, ws, rfl, hS, fun J H2 e2 e3 => ?_⟩
      subst e2 e3
      exact q _ _ ι' l h (itr_enum hS P2 fun i H x y h => y ws h)
    · obtain ⟨ad, ws, rfl, hS, q2⟩ := q2
      obtain ⟨u, rfl, ru⟩ := vals1 r2
      cases ru
      obtain ⟨its, rv, p, hz⟩ := I2.tuple hS
      refine call_enumT (show s1.heap.IsTuple ad its.toArray from p) fun h' he hj z' kk => ?_
      have I3 : Inv X pins σ H2 { s1 with heap := h' } := I2.kept (t' := s1.toks) kk
      refine wpAny_pyIter_enum (s := { s1 with heap := h' }) he ?_
      have ne : s1.heap.objs.size + 1 ≠ s1.heap.objs.size := Nat.succ_ne_self _
      refine ⟨s1.heap.objs.size + 1, [s1.heap.objs.size + 1, s1.heap.objs.size], _, IteT X.K 0 ad, H2, rfl, I3, turn_enumT ad _ _ 0 ne, ⟨.none, by simpa using he, hj⟩, fun b hb => ?_, q2 _ _ rfl rfl⟩
      have : s1.heap.objs.size ≤ b := by
        rcases List.mem_cons.mp hb with rfl | hb
        · exact Nat.le_succ _
        · have : b = s1.heap.objs.size := by simpa using hb
          rw [this]; exact Nat.le_refl _
      have fp := I2.fpOk (b := b) (H' := H2) this (I2.hok.fresh this)
      exact fp
  · cases e
end
end DL
namespace DL
open PySem PySem.Spec PyProof.Rows L2
structure Fn (P : Program) (w : World) (K : PySem.W.Frag) (mg : Str → Option Value) (base : Heap) (k : Nat) (x : Str) (ps : List Str) (F : FF) : Prop where
  ex : ∃ f fd, FnOk P w K mg base CX0 k f fd ps (spF K ps.length F) ∧ Binds K fd ps [] ∧ PySem.W.keepIn K (.ref f) = true ∧ mg x = some (.ref f) ∧ ∃ (oc : Value) (od : Option Addr) (osl : Array (Option Value)), K.lookup f = some ⟨oc, od, .func fd, osl⟩
theorem pef_fn {X : Cx} {k n : Nat} {ps : List Str} {x : Str} {p pos : Pos} {F : FF} {fa : AF} {e : Expr} {es : List Expr} (G : Fn X.prog X.w X.K X.mg X.base k x ps F) (hr : Room k X.A) (hg : Gl X x)
    (ha : PAf X (e :: es) fa) (hdb : (x == ("__debug__" : Str)) = false := by decide) (he : starEach (e :: es) X.env = (false, eval e X.env) :: starEach es X.env := by exact star_cons rfl) (hpl : (backTo pos (starEach es X.env)).any (·.1) = false := by exact star_any rfl) (hn : ps.length = n := by rfl) :
    PEf X (.Call (.Name x p) (e :: es) [] pos) (eCall n F fa) := by
  subst hn
  obtain ⟨f, fd, G1, hb, hk, hm, _⟩ := G.ex
  exact pef_call G1 hr hg hm hk hb ha hdb he hpl
noncomputable def Tf (K : PySem.W.Frag) (mg : Str → Option Value) (x : Str) (st : Stmt) : Prop := ∃ f fd, Fun K x x st f fd ∧ mg x = some (.ref f)
theorem us0 {us : List Value} (h : us.length = 0) : us = [] := List.length_eq_zero_iff.mp h
theorem us1 {us : List Value} (h : us.length = 1) : ∃ a, us = [a] := by
  obtain ⟨a, r⟩ := List.exists_cons_of_length_eq_add_one h
  obtain ⟨t, rfl⟩ := r
  rw [us0 (us := t) (by simpa using h)]
  exact ⟨a, rfl⟩
theorem us2 {us : List Value} (h : us.length = 2) : ∃ a b, us = [a, b] := by
  obtain ⟨a, t, rfl⟩ := List.exists_cons_of_length_eq_add_one h
  obtain ⟨b, rfl⟩ := us1 (us := t) (by simpa using h)
  exact ⟨a, b, rfl⟩
theorem us3 {us : List Value} (h : us.length = 3) : ∃ a b c, us = [a, b, c] := by
  obtain ⟨a, t, rfl⟩ := List.exists_cons_of_length_eq_add_one h
  obtain ⟨b, c, rfl⟩ := us2 (us := t) (by simpa using h)
  exact ⟨a, b, c, rfl⟩
theorem tf_mk {K : PySem.W.Frag} {h : Heap} {mg : Str → Option Value} {x : Str} {st : Stmt} {f : Addr} {oc : Value} {od an : Option Addr} {osl : Array (Option Value)} {kV doc pm cdv ct : Value} (X : K.In h) (G : h.Ns mainGlobals mg)
    (a : PySem.W.nsIn K mainGlobals x = some (some (.ref f))) (l : K.lookup f = some ⟨oc, od, .func (PySem.W.fnOf x x (defArgs st) (defBody st) (defScope st) .none kV doc pm an cdv ct), osl⟩)
    (c : PySem.W.codeIn K cdv x = true) (k : PySem.W.keepIn K (.ref f) = true) : Tf K mg x st := ⟨f, _, fun_mk l c k, PySem.W.mg_of X G a⟩
theorem fn_mk {P : Program} {w : World} {K : PySem.W.Frag} {mg : Str → Option Value} {base : Heap} {x : Str} {st : Stmt} {N ps : List Str} {k : Nat} {b : SF} (T : Tf K mg x st) (S : FnScope N ps (defScope st))
    (hbd : ∀ (kV doc pm : Value) (an : Option Addr) (cdv ct : Value) (us : List Value), us.length = ps.length → bindArgs (PySem.W.fnOf x x (defArgs st) (defBody st) (defScope st) .none kV doc pm an cdv ct) ⟨us, []⟩ = pure (ps.zip us))
    (hb : ∀ (f : Addr) (cdv : Value) (A : Around) (outer : List Env) (s : Shared) (H : Hp) (E : XK), Room k (A.deeper (envOfC x (defScope st) s.heap.objs.size f cdv)) →
      PSsf (cxOf CX0 P w K mg base N x (defScope st) f cdv A outer s H E).nox (defBody st) b) : Fn P w K mg base (k + 1) x ps (runB ps.length N.length b) := by
  obtain ⟨f, fd, F, hm⟩ := T
  refine ⟨f, fd, fn_f F S fun cdv A outer s H E hr => hb f cdv A outer s H E hr, F.binds hbd, F.kp, hm, ?_⟩
  obtain ⟨oc, od, kV, doc, pm, an, cdv, ct, osl, rfl, lk, hcd⟩ := F.ex
  exact ⟨oc, od, osl, lk⟩
noncomputable def blkB (sc scope : Scope) (N : List Str) (x : Str) (cn : List Str) (ci : List Nat) : Bool :=
  (scope.kind == .function) && scope.names.all (fun y => y.2 != .cell) && scope.names.all (fun y => y.2 != .local || scope.names.lookup y.1 == some .local) && (scope.names.lookup x == some .local) &&
  scope.names.all (fun y => y.2 != .free || sc.names.lookup y.1 == some .cell) && decide (x :: cn).Nodup && (ci.length == cn.length) &&
  (cn.zip ci).all (fun p => N[p.2]? == some p.1 && scope.names.lookup p.1 == some .free && sc.names.lookup p.1 == some .cell)
theorem blk_fn {P : Program} {w : World} {K : PySem.W.Frag} {mg : Str → Option Value} {base : Heap} {N : List Str} {qual : Str} {sc scope : Scope} {f : Addr} {cdv : Value} {A : Around} {outer : List Env} {s : Shared} {H : Hp} {E : XK} {x : Str} {cn : List Str} {ci : List Nat}
    (h : blkB sc scope N x cn ci = true) : BlkOk (cxOf CX0 P w K mg base N qual sc f cdv A outer s H E).nox scope x cn ci := by
  unfold blkB at h
  simp only [Bool.and_eq_true, List.all_eq_true, Bool.or_eq_true, bne_iff_ne, ne_eq, beq_iff_eq, decide_eq_true_eq] at h
  obtain ⟨⟨⟨⟨⟨⟨⟨h1, h2⟩, h3⟩, h4⟩, h5⟩, h6⟩, h7⟩, h8⟩ := h
  refine ⟨h1, fun y hy => h2 y hy, fun y hy hl => (h3 y hy).resolve_left fun z => z hl, h4, fun y hy hf => ?_, h6, h7, fun j y hj => ?_⟩
  · have := (h5 y hy).resolve_left fun z => z hf
    obtain ⟨c, hc⟩ := cell_has (n := s.heap.objs.size + 1) this
    exact Option.isSome_iff_exists.mpr ⟨c, hc⟩
  · have hl : j < ci.length := by rw [h7]; exact (List.getElem?_eq_some_iff.mp hj).1
    have hm : (y, ci[j]) ∈ cn.zip ci := by
      refine List.mem_iff_getElem?.mpr ⟨j, ?_⟩
      rw [List.getElem?_zip_eq_some]
      exact ⟨hj, by simp [hl]⟩
    obtain ⟨⟨k1, k2⟩, k3⟩ := h8 _ hm
    exact ⟨ci[j], by simp [hl], k1, k2, .inl k3⟩
theorem bb_len : bootBuiltins "len" = some (.builtin "len") := by decide +kernel
theorem bb_abs : bootBuiltins "abs" = some (.builtin "abs") := by decide +kernel
theorem bb_min : bootBuiltins "min" = some (.builtin "min") := by decide +kernel
theorem bb_max : bootBuiltins "max" = some (.builtin "max") := by decide +kernel
theorem bb_isinstance : bootBuiltins "isinstance" = some (.builtin "isinstance") := by decide +kernel
theorem bb_all : bootBuiltins "all" = some (.builtin "all") := by decide +kernel
theorem bb_int : bootBuiltins "int" = some (.type "int") := by decide +kernel
theorem bb_tuple : bootBuiltins "tuple" = some (.type "tuple") := by decide +kernel
theorem bb_list : bootBuiltins "list" = some (.type "list") := by decide +kernel
theorem bb_bool : bootBuiltins "bool" = some (.type "bool") := by decide +kernel
theorem bb_str : bootBuiltins "str" = some (.type "str") := by decide +kernel
end DL
namespace DL
open PySem PySem.Spec PyProof.Rows L2
section
variable {X : Cx} {tg : Expr}
theorem itr_tup {K : PySem.W.Frag} {H0 : Hp} {ι0 : List Addr} {a : Addr} {xs : List D} {vs : List V} (hS : SqT K H0 a vs) (P : Paired (Rep K H0 ι0) xs vs) : ItRep K (Itt K a) xs [] H0 ι0 := by
  refine ⟨fun i H2 ι2 Hd2 l2 h2 _ hi => ?_, fun i H2 ι2 Hd2 d x H3 l2 h2 _ hd y => ?_, fun i H2 ι2 Hd2 l2 h2 _ hi => ⟨vs, l2.tup a vs hS, by rw [← Prd.len P]; exact hi⟩⟩
  · exact ⟨vs, vs[i]'(by rw [← Prd.len P]; exact hi), l2.tup a vs hS, by simp⟩
  · obtain ⟨rfl, y⟩ := y
    obtain ⟨u, hu, ru⟩ := Prd.get P hd
    have := y vs (l2.tup a vs hS)
    rw [hu] at this
    cases this
    exact ⟨ι2, Le.refl, h2, ru.mono l2⟩
theorem itr_fl {K : PySem.W.Frag} {H0 : Hp} {ι0 : List Addr} {a : Addr} {xs : List D} {vs : List V} (hS : FzL K H0 a vs) (P : Paired (Rep K H0 ι0) xs vs) : ItRep K (Itl K a) xs [] H0 ι0 := by
  refine ⟨fun i H2 ι2 Hd2 l2 h2 _ hi => ?_, fun i H2 ι2 Hd2 d x H3 l2 h2 _ hd y => ?_, fun i H2 ι2 Hd2 l2 h2 _ hi => ⟨vs, (l2.fz a vs hS).sq, by rw [← Prd.len P]; exact hi⟩⟩
  · exact ⟨vs, vs[i]'(by rw [← Prd.len P]; exact hi), (l2.fz a vs hS).sq, by simp⟩
  · obtain ⟨rfl, y⟩ := y
    obtain ⟨u, hu, ru⟩ := Prd.get P hd
    have := y vs (l2.fz a vs hS).sq
    rw [hu] at this
    cases this
    exact ⟨ι2, Le.refl, h2, ru.mono l2⟩
theorem itr_lst {K : PySem.W.Frag} {H0 : Hp} {ι0 : List Addr} {a : Addr} {n : Nat} {xs : List D} (ha : ι0[n]? = some a) : ItRep K (Itl K a) xs [(n, .lst xs)] H0 ι0 := by
  have now : ∀ {H2 : Hp} {ι2 : List Addr} {Hd2 : HD}, Le K H0 ι0 H2 ι2 → HRep K H2 ι2 Hd2 → okOwn [(n, DO.lst xs)] Hd2 → ∃ ws, H2 a = some (.lst ws) ∧ Paired (Rep K H2 ι2) xs ws := fun {H2 ι2 Hd2} l2 h2 ok =>
    h2.obj n a _ (l2.get ha) (ok (n, .lst xs) (by simp))
  refine ⟨fun i H2 ι2 Hd2 l2 h2 ok hi => ?_, fun i H2 ι2 Hd2 d x H3 l2 h2 ok hd y => ?_, fun i H2 ι2 Hd2 l2 h2 ok hi => ?_⟩
  · obtain ⟨ws, h3, P3⟩ := now l2 h2 ok
    exact ⟨ws, ws[i]'(by rw [← Prd.len P3]; exact hi), SqL.of h3, by simp⟩
  · obtain ⟨ws, h3, P3⟩ := now l2 h2 ok
    obtain ⟨rfl, y⟩ := y
    obtain ⟨u, hu, ru⟩ := Prd.get P3 hd
    have := y ws (SqL.of h3)
    rw [hu] at this
    cases this
    exact ⟨ι2, Le.refl, h2, ru⟩
  · obtain ⟨ws, h3, P3⟩ := now l2 h2 ok
    exact ⟨ws, SqL.of h3, by rw [← Prd.len P3]; exact hi⟩
noncomputable def iSq (f : EF) : ItF := fun σ H => (f σ H).bind fun p => (itemsD p.1 p.2).map fun r => (r, p.2)
theorem pif_seq {l : Expr} {f : EF} (hl : PEf X l f) : PIf X tg l (iSq f) := by
  rintro pins s σ H R I ⟨ι, σd, Hd, xs, own, Hd', sr, hr, e, q⟩
  obtain ⟨⟨d, H1⟩, e1, e⟩ := Option.bind_eq_some_iff.mp e
  obtain ⟨⟨ys, ow⟩, e2, e⟩ := Option.map_eq_some_iff.mp e
  obtain ⟨e3, rfl⟩ := Prod.mk.inj e
  obtain ⟨rfl, rfl⟩ := Prod.mk.inj e3
  refine thn (hl pins s σ H (fun v H1 => ∃ a, v = .ref a ∧ (((∃ xs, SqL X.K H1 a xs) ∧ R (Itl X.K a) H1) ∨ ((∃ xs, SqT X.K H1 a xs) ∧ R (Itt X.K a) H1))) I ⟨ι, σd, Hd, _, _, sr, hr, e1, fun v H' ι' l h r => ?_⟩) fun v s1 ⟨x, H2, I2, r2, q2⟩ => ?_
  · cases d with
    | tup zs =>
      cases e2
      obtain ⟨a, vs, rfl, hS, P⟩ := rep_tup.mp r
      exact ⟨a, rfl, .inr ⟨⟨vs, hS⟩, q _ H' ι' l h (itr_tup hS P)⟩⟩
    | fl zs =>
      cases e2
      obtain ⟨a, vs, rfl, hS, P⟩ := rep_fl.mp r
      exact ⟨a, rfl, .inl ⟨⟨vs, hS.sq⟩, q _ H' ι' l h (itr_fl hS P)⟩⟩
    | ref n =>
      simp only [itemsD] at e2
      split at e2
      · rename_i zs eo
        obtain ⟨e5, e6⟩ := Prod.mk.inj (Option.some.inj e2)
        subst e5 e6
        obtain ⟨a, rfl, ha⟩ := rep_ref.mp r
        obtain ⟨vs, h1, P⟩ := h.obj n a _ ha eo
        exact ⟨a, rfl, .inl ⟨⟨vs, SqL.of h1⟩, q _ H' ι' l h (itr_lst ha)⟩⟩
      · cases e2
    | _ => simp [itemsD] at e2
  · obtain ⟨a, rfl, q2⟩ := q2
    cases r2
    have fp : ∀ b ∈ [s1.heap.objs.size], FpOk X pins H2 b := fun b hb => by
      have e : b = s1.heap.objs.size := by simpa using hb
      subst e
      exact I2.fpOk (Nat.le_refl _) (I2.hok.fresh (Nat.le_refl _))
    rcases q2 with ⟨⟨xs, hq⟩, q2⟩ | ⟨⟨xs, hq⟩, q2⟩
    · obtain ⟨its, rv, p, hz⟩ := I2.list hq
      exact wpAny_pyIter_list p.isList ⟨s1.heap.objs.size, [s1.heap.objs.size], _, _, H2, rfl, I2.kept (t' := s1.toks) fun b o e => Heap.get?_push_of_some _ e, turn_list a _, ⟨_, Heap.get?_push_size _ rfl, rfl, rfl⟩, fp, q2⟩
    · obtain ⟨its, rv, p, hz⟩ := I2.tuple hq
      exact wpAny_pyIter_tuple (show s1.heap.IsTuple a its.toArray from p) ⟨s1.heap.objs.size, [s1.heap.objs.size], _, _, H2, rfl, I2.kept (t' := s1.toks) fun b o e => Heap.get?_push_of_some _ e, turn_tuple a _, ⟨_, Heap.get?_push_size _ rfl, rfl, rfl⟩, fp, q2⟩
end
theorem paf_c {X : Cx} {e : Expr} {es : List Expr} {f : EF} {g : AF} (ha : PEf X e f) (hr : PAf X es g) (hs : noStar e = true) : PAf X (e :: es) (aCons f g) := paf_cons ha hr (star_cons hs)
noncomputable def spLaw (F : FF) (K : PySem.W.Frag) : Sp := spF K 1 F
theorem law_start {F : FF} (h : ∀ ns : List Int, ns.length ≤ 63 → ∃ Hd', F [.fl (ns.map .int)] [] = some (.bl true, Hd')) :
    ∀ (K : PySem.W.Frag) (H : Hp) (a : Addr) (ns : List Int), ns.length ≤ 63 → Only H → SqL K H a (ns.map V.int) → spLaw F K [.ref a] H (fun v _ => v = .bl true) fun _ _ _ => False := by
  intro K H a ns hl hO hS
  obtain ⟨Hd', e⟩ := h ns hl
  have fz : FzL K H a (ns.map V.int) := by
    rcases hS with (h | h) | h
    · rcases hO a with z | ⟨o, xs, z⟩
      · rw [h] at z; cases z
      · rw [h] at z; cases z
    · exact .inl h
    · exact .inr h
  have P : Paired (Rep K H []) (ns.map D.int) (ns.map V.int) := by
    generalize ns = ks
    induction ks with
    | nil => exact .nil
    | cons k ks ih => exact .cons (by simp) ih
  refine ⟨[], [.fl (ns.map .int)], [], .bl true, Hd', rfl, ⟨rfl, List.nodup_nil, fun n a o h1 h2 => by simp at h1⟩, .cons (rep_fl.mpr ⟨a, _, rfl, fz, P⟩) .nil, e, fun v H' ι' l h r => by simpa using r⟩
end DL
namespace DL
open PySem PySem.Spec PyProof.Rows L2
variable {X : Cx}
noncomputable def blsD : List D → Option (List Bool)
  | [] => some []
  | .bl b :: r => (blsD r).map fun x => b :: x
  | _ :: _ => none
theorem blsD_vals {K : PySem.W.Frag} {H : Hp} {ι : List Addr} : ∀ {xs : List D} {bs : List Bool} {vs : List V} {us : List Value}, blsD xs = some bs → Paired (Rep K H ι) xs vs → Vals vs us → us = bs.map .bool
  | [], bs, vs, us, e, P, q => by cases e; cases P; cases q; rfl
  | d :: r, bs, vs, us, e, P, q => by
    cases P with
    | cons p P =>
      cases q with
      | cons q Q =>
        cases d <;> simp only [blsD] at e <;> try cases e
        obtain ⟨y, e1, rfl⟩ := Option.map_eq_some_iff.mp e
        simp at p
        subst p
        cases q
        rw [blsD_vals e1 P Q]
        rfl
theorem blsD_map (bs : List Bool) : blsD (bs.map .bl) = some bs := by
  induction bs with
  | nil => rfl
  | cons b r ih => simp [blsD, ih]
noncomputable def allD : FF := fun ds H => match ds with
  | [.ref n] => match H[n]? with
    | some (.lst xs) => (blsD xs).map fun bs => (.bl (bs.all id), H)
    | _ => none
  | _ => none
theorem range_all (bs : List Bool) : ((List.range bs.length).all fun i => (bs[i]?).getD true) = bs.all id := by
  rw [Bool.eq_iff_iff, List.all_eq_true, List.all_eq_true]
  constructor
  · intro h x hx
    obtain ⟨i, hi, rfl⟩ := List.getElem_of_mem hx
    have := h i (by simpa using hi)
    simpa [hi] using this
  · intro h i hi
    have hi : i < bs.length := by simpa using hi
    have := h _ (List.getElem_mem hi)
    simpa [hi] using this
theorem callf_all (hc : X.calm = true) : CallF X (.builtin "all") allD := by
  rintro pins s σ H xs us Q I rv ⟨ι, ds, Hd, d, Hd', hr, P, e, q⟩
  unfold allD at e
  split at e
  · rename_i n
    split at e
    · rename_i ys eo
      obtain ⟨bs, e1, e⟩ := Option.map_eq_some_iff.mp e
      obtain ⟨rfl, rfl⟩ := Prod.mk.inj e
      obtain ⟨v, rfl, r⟩ := prd1 P
      obtain ⟨a, rfl, ha⟩ := rep_ref.mp r
      obtain ⟨vs, h1, P2⟩ := hr.obj n a _ ha eo
      cases rv with
      | cons rx rv =>
        cases rv
        cases rx
        obtain ⟨its, rv2, p, hz⟩ := I.list (SqL.of h1)
        have eits := blsD_vals e1 P2 rv2
        have hlt : a < s.heap.objs.size := by
          obtain ⟨o, ho, _⟩ := p.isList
          exact Heap.lt_size ho
        refine call_all_walk (wpAny_pyIter_list p.isList ⟨s.heap.objs.size, [s.heap.objs.size, a], [s.heap.objs.size], its.toArray.size, _, _, fun i => (bs[i]?).getD true, rfl,
          Walks.list (A := X.A.in1) (show X.A.in1.handled = none from I.ok.hd hc) s.heap.objs.size a (Nat.ne_of_lt hlt) its.toArray, ⟨⟨_, Heap.get?_push_size _ rfl, rfl, rfl⟩, p.isList.at fun o z => Heap.get?_push_of_some _ z⟩, ?_, fun h' tk k => ?_⟩)
        · intro i v s2 Q2 E2 hv hq
          rw [eits] at hv
          have hv2 : (bs.map Value.bool)[i]? = some v := by simpa using hv
          rw [List.getElem?_map] at hv2
          obtain ⟨b, hb, rfl⟩ := Option.map_eq_some_iff.mp hv2
          refine wpAny_truthy_bool ?_
          simpa [hb] using hq
        · have hn : its.toArray.size = bs.length := by rw [eits]; simp
          rw [hn, range_all]
          refine ⟨.bl (bs.all id), H, I.kept (t' := tk) fun b o z => k b o ?_ (Heap.get?_push_of_some _ z), rfl, q _ H ι Le.refl hr (by simp)⟩
          intro hm
          have : b = s.heap.objs.size := by simpa using hm
          exact absurd (this ▸ Heap.lt_size z) (Nat.lt_irrefl _)
    · cases e
  · cases e
end DL
namespace DL
open PySem PySem.Spec PyProof.Rows L2
variable {X : Cx}
noncomputable def Gc (K : PySem.W.Frag) (mg : Str → Option Value) (x : Str) (d : D) : Prop := ∃ u v, mg x = some u ∧ RelV v u ∧ ∀ H ι, Rep K H ι d v
theorem pef_gc {x : Str} {d : D} {pos : Pos} (hg : Gl X x) (h : Gc X.K X.mg x d) (hd : (x == ("__debug__" : Str)) = false := by decide) : PEf X (.Name x pos) (eC d) := by
  obtain ⟨u, v, hm, r, rp⟩ := h
  exact pef_C (pe_glob (v := v) hg hm r hd) rp
theorem gc_int {K : PySem.W.Frag} {h : Heap} {mg : Str → Option Value} {x : Str} {i : Int} {t : Tok} (X : K.In h) (G : h.Ns mainGlobals mg) (a : PySem.W.nsIn K mainGlobals x = some (some (.int i t))) : Gc K mg x (.int i) :=
  ⟨_, .int i, PySem.W.mg_of X G a, ⟨t, rfl⟩, fun _ _ => by simp⟩
end DL
namespace DL
open PySem PySem.Spec PyProof.Rows L2
variable {X : Cx}
noncomputable def dlook (kvs : List (D × D)) (k : List Int) : Option D := (kvs.find? fun p => nk p.1 == some k).map (·.2)
noncomputable def dput (kvs : List (D × D)) (kd : D) (k : List Int) (vd : D) : List (D × D) :=
  if (dlook kvs k).isSome then kvs.map (fun p => if nk p.1 = some k then (p.1, vd) else p) else kvs ++ [(kd, vd)]
section
variable {K : PySem.W.Frag} {H : Hp} {ι : List Addr}
theorem krep_at {kvs : List (D × D)} {xs : List (List Int × Addr × Value)} (h : Paired (KRep K H ι) kvs xs) (k : List Int) :
    (dlook kvs k = none ∧ atKey xs k = none) ∨ ∃ vd b u v, dlook kvs k = some vd ∧ atKey xs k = some (b, u) ∧ RelV v u ∧ Rep K H ι vd v := by
  unfold dlook atKey
  induction h with
  | nil => exact .inl ⟨rfl, rfl⟩
  | @cons p x ps ys r t ih =>
    obtain ⟨r1, r2, v, r3, r4⟩ := r
    by_cases hk : x.1 = k
    · have e1 : (nk p.1 == some k) = true := by rw [r1, hk]; simp
      refine .inr ⟨p.2, x.2.1, x.2.2, v, ?_, ?_, r3, r4⟩
      · rw [List.find?_cons]; simp only [e1]; rfl
      · rw [List.find?_cons]; simp only [hk, decide_true]; rfl
    · have e1 : ¬ (nk p.1 == some k) = true := by rw [r1]; simpa using hk
      have e1' : (nk p.1 == some k) = false := by simpa using e1
      have e2' : decide (x.1 = k) = false := decide_eq_false hk
      rw [List.find?_cons, List.find?_cons]
      simp only [e1', e2']
      exact ih
theorem krep_put {kvs : List (D × D)} {xs : List (List Int × Addr × Value)} {kd vd : D} {k : List Int} {b : Addr} {u : Value} {v : V} (h : Paired (KRep K H ι) kvs xs) (h1 : nk kd = some k) (h2 : Rep K H ι kd (.ref b)) (rv : RelV v u) (r : Rep K H ι vd v) :
    Paired (KRep K H ι) (dput kvs kd k vd) (storedH xs k b u) := by
  have all : ∀ {ls : List (D × D)} {ys : List (List Int × Addr × Value)}, Paired (KRep K H ι) ls ys → Paired (KRep K H ι) (ls.map (fun p => if nk p.1 = some k then (p.1, vd) else p)) (ys.map (putAt k u)) := by
    intro ls ys q
    induction q with
    | nil => exact .nil
    | @cons p x ps zs r' t ih =>
      refine .cons ?_ ih
      obtain ⟨r1, r2, r3⟩ := r'
      unfold putAt
      by_cases hk : x.1 = k
      · have e : nk p.1 = some k := by rw [r1, hk]
        show KRep K H ι (if nk p.1 = some k then (p.1, vd) else p) (if x.1 = k then (x.1, x.2.1, u) else x)
        rw [if_pos hk, if_pos e]
        exact ⟨r1, r2, v, rv, r⟩
      · have e : ¬ nk p.1 = some k := by rw [r1]; simpa using hk
        show KRep K H ι (if nk p.1 = some k then (p.1, vd) else p) (if x.1 = k then (x.1, x.2.1, u) else x)
        rw [if_neg hk, if_neg e]
        exact ⟨r1, r2, r3⟩
  unfold dput storedH
  rcases krep_at h k with ⟨e1, e2⟩ | ⟨_, _, _, _, e1, e2, _⟩
  · rw [e1, e2]
    exact Prd.append h (.cons ⟨h1, h2, v, rv, r⟩ .nil)
  · rw [e1, e2]
    exact all h
theorem dput_len (kvs : List (D × D)) (kd : D) (k : List Int) (vd : D) : (dput kvs kd k vd).length ≤ kvs.length + 1 := by
  unfold dput; split <;> simp
end
section
variable {pins : List (Addr × Obj)} {σ : L2.St} {H : Hp} {s : Shared} {ι : List Addr} {Hd : HD}
theorem num_of {d : D} {v : V} {u : Value} {k : Int} {K : PySem.W.Frag} (e : nkOf d = some k) (r : Rep K H ι d v) (q : RelV v u) : numIs k u = true := by
  cases d with
  | bl b => cases e; simp at r; subst r; cases q; simp [numIs, numOf]
  | int i => cases e; simp at r; subst r; obtain ⟨t, rfl⟩ := q; simp [numIs, numOf]
  | _ => cases e
theorem items_num {P : Program} {w : World} {K : PySem.W.Frag} : ∀ {ds : List D} {vs : List V} {us : List Value} {ks : List Int}, nksOf ds = some ks → Paired (Rep K H ι) ds vs → Vals vs us → ItemsAre (numKind P w) ks us
  | [], vs, us, ks, e, p, q => by cases e; cases p; cases q; exact .nil
  | d :: ds, vs, us, ks, e, p, q => by
    cases p with
    | cons p1 p2 =>
      cases q with
      | cons q1 q2 =>
        simp only [nksOf] at e
        obtain ⟨k, e1, e⟩ := Option.bind_eq_some_iff.mp e
        obtain ⟨r, e2, rfl⟩ := Option.map_eq_some_iff.mp e
        exact .cons (num_of e1 p1 q1) (items_num e2 p2 q2)
theorem key_is (I : Inv X pins σ H s) {d : D} {k : List Int} {b : Addr} (e : nk d = some k) (r : Rep X.K H ι d (.ref b)) : (tupleKind (numKind X.prog X.w)).is s.heap k b := by
  cases d <;> simp only [nk] at e <;> try cases e
  rename_i ds
  obtain ⟨a, vs, ea, h, P⟩ := rep_tup.mp r
  cases ea
  obtain ⟨its, rv, ht, hz⟩ := I.tuple h
  obtain ⟨o, h1, h2, n, h3⟩ := ht
  exact ⟨o, its.toArray, n, h1, h2, h3, by simpa using items_num e P rv⟩
theorem dic_of (I : Inv X pins σ H s) {a : Addr} {kvs : List (D × D)} {fz : Bool} (h : ORep X.K H ι a (.dic kvs fz)) : (a == sysModules) = false ∧ kvs.length ≤ sizeLine ∧ ∃ xs, (if fz = true then ∃ o, H a = some (.frz o (.ext (DicAt a xs))) else H a = some (.ext (DicAt a xs))) ∧ Paired (KRep X.K H ι) kvs xs ∧ s.heap.DictOfH (tupleKind (numKind X.prog X.w)) a xs := by
  obtain ⟨h1, h2, xs, e, p⟩ := h
  have rd : Rd H a (.ext (DicAt a xs)) := by
    cases fz with
    | true => rw [if_pos rfl] at e; exact .inr e
    | false => rw [if_neg (by simp)] at e; exact .inl e
  obtain ⟨⟨o, es, ep, g1, g2, g3, g4, g5⟩, _⟩ := (show ObjOk X.prog X.w H s.heap a (.ext (DicAt a xs)) from rd.ok I.hok)
  refine ⟨h1, h2, xs, e, p, o, es, ep, g1, g2, g3, g4, ?_, g5⟩
  have all : ∀ {l : List (D × D)} {m : List (List Int × Addr × Value)}, Paired (KRep X.K H ι) l m → ∀ x ∈ m, (tupleKind (numKind X.prog X.w)).is s.heap x.1 x.2.1 := by
    intro l m q
    induction q with
    | nil => intro x hx; exact nomatch hx
    | @cons p x ps qs hq t ih =>
      intro y hy
      rcases List.mem_cons.mp hy with e | hy
      · subst e
        exact key_is I hq.1 hq.2.1
      · exact ih y hy
  exact all p
end
noncomputable def dicD (x : D) (H : HD) : Option (List (D × D)) := match x with
  | .ref n => match H[n]? with
    | some (.dic kvs _) => some kvs
    | _ => none
  | _ => none
theorem dicD_some {x : D} {Hd : HD} {kvs : List (D × D)} (e : dicD x Hd = some kvs) : ∃ n fz, x = .ref n ∧ Hd[n]? = some (.dic kvs fz) := by
  cases x <;> simp only [dicD] at e <;> try cases e
  rename_i n
  split at e
  · rename_i fz h; cases e; exact ⟨n, fz, rfl, h⟩
  · cases e
noncomputable def dgetD : F2 := fun x y H => (dicD x H).bind fun kvs => (nk y).bind fun k => (dlook kvs k).map fun v => (v, H)
theorem nk_ref {K : PySem.W.Frag} {H : Hp} {ι : List Addr} {d : D} {k : List Int} {v : V} (e : nk d = some k) (r : Rep K H ι d v) : ∃ b, v = .ref b := by
  cases d <;> simp only [nk] at e <;> try cases e
  obtain ⟨a, vs, rfl, _⟩ := rep_tup.mp r
  exact ⟨a, rfl⟩
theorem dgetf (hu : X.A.units + 64 < cLine) : IxF X dgetD := by
  rintro va sl pins s σ H x y v u Q I rx ry ⟨ι, dx, dy, Hd, d, Hd', hr, r1, r2, e, q⟩ hs
  obtain ⟨kvs, e1, e⟩ := Option.bind_eq_some_iff.mp e
  obtain ⟨k, e2, e⟩ := Option.bind_eq_some_iff.mp e
  obtain ⟨vd, e3, e⟩ := Option.map_eq_some_iff.mp e
  obtain ⟨rfl, rfl⟩ := Prod.mk.inj e
  obtain ⟨n, fz, rfl, hn⟩ := dicD_some e1
  obtain ⟨a, rfl, ha⟩ := rep_ref.mp r1
  obtain ⟨b, rfl⟩ := nk_ref e2 r2
  cases rx
  cases ry
  obtain ⟨h1, h2, xs, h3, P, dd⟩ := dic_of I (hr.obj n a _ ha hn)
  have key := key_is I e2 r2
  rcases krep_at P k with ⟨z, _⟩ | ⟨vd', b', u', v', z1, z2, z3, z4⟩
  · rw [z] at e3; cases e3
  · rw [z1] at e3; cases e3
    have ty : s.TypeIs (.ref a) "dict" := dd.typeIs
    refine tail_any (ops := [.ref a, .ref b]) ty PySem.F.slot_dict_getitem.lookup (wpAny_getItem_heap (knd := tupleKind (numKind X.prog X.w)) (tupleKind_room_in1 (by omega)) key dd z2 ?_) hs
    exact ⟨v', H, I.tok _, z3, q _ H ι Le.refl hr z4⟩
noncomputable def eDN : EF := fun _ H => some (.ref H.length, H ++ [.dic [] false])
theorem pef_dnew {pos : Pos} : PEf X (.Dict [] [] pos) eDN := by
  rintro pins s σ H Q I ⟨ι, σd, Hd, d, Hd', sr, hr, e, q⟩
  cases e
  have hb : sysModules < s.heap.objs.size := Nat.lt_trans (by decide) (show mainGlobals < s.heap.objs.size from (I.mod.glob.keeps I.bk).lt)
  have hp := I.hok.fresh (Nat.le_refl s.heap.objs.size)
  have ok : ObjOk X.prog X.w (upd H s.heap.objs.size (.ext (DicAt s.heap.objs.size []))) (s.heap.push { cls := .type "dict", data := .dict #[] }) s.heap.objs.size (.ext (DicAt s.heap.objs.size [])) :=
    ⟨⟨_, #[], 0, Heap.get?_push_size _ rfl, ⟨rfl, rfl, rfl⟩, rfl, rfl, List.nodup_nil⟩, ⟨_, Heap.get?_push_size _ rfl⟩, fun h1 h2 d k => DicAt.keep d k⟩
  refine wpAny_Dict_empty ⟨.ref s.heap.objs.size, _, I.laid (a := s.heap.objs.size) (o := .ext (DicAt s.heap.objs.size [])) (t' := s.toks) (fun _ _ q => Heap.get?_push_of_some _ q) (Nat.le_refl _) ok, rfl, ?_⟩
  have hl : ι.length = Hd.length := hr.len
  refine q _ _ (ι ++ [s.heap.objs.size]) (Le.fresh1 hp _) (hr.new hp ⟨beq_eq_false_iff_ne.mpr (Ne.symm (Nat.ne_of_lt hb)), Nat.zero_le _, [], by rw [if_neg (by simp)]; exact upd_same, .nil⟩) (rep_ref.mpr ⟨_, rfl, by rw [← hl]; simp⟩)
theorem dic_write {pins : List (Addr × Obj)} {σ : L2.St} {H : Hp} {s : Shared} {a : Addr} {xs xs' : List (List Int × Addr × Value)} {h' : Heap} {t' : Nat} (I : Inv X pins σ H s) (h3 : H a = some (.ext (DicAt a xs))) (dd : h'.DictOfH (tupleKind (numKind X.prog X.w)) a xs') (hs : Heap.SameBut a s.heap h') :
    Inv X pins σ (upd H a (.ext (DicAt a xs'))) { s with heap := h', toks := t' } := by
  obtain ⟨o, es, ep, g1, g2, g3, g4, _, g5⟩ := dd
  have ok : ObjOk X.prog X.w (upd H a (.ext (DicAt a xs'))) h' a (.ext (DicAt a xs')) := ⟨⟨o, es, ep, g1, g2, g3, g4, g5⟩, ⟨o, g1⟩, fun h1 h2 d k => DicAt.keep d k⟩
  exact I.write (x := a) (e := a) (by rw [h3]; exact True.intro) (.inl rfl) (fun b q hb z => (hs.2 b hb).trans z) ⟨o, g1⟩ ok
theorem dic_upd {H : Hp} {ι : List Addr} {Hd : HD} {n : Nat} {a : Addr} {kvs : List (D × D)} {xs : List (List Int × Addr × Value)} {kd vd : D} {k : List Int} {b : Addr} {u : Value} {v : V} (hr : HRep X.K H ι Hd) (ha : ι[n]? = some a) (h1 : (a == sysModules) = false) (hl : kvs.length < sizeLine) (h3 : H a = some (.ext (DicAt a xs))) (P : Paired (KRep X.K H ι) kvs xs) (e2 : nk kd = some k) (r2 : Rep X.K H ι kd (.ref b)) (rv : RelV v u) (r3 : Rep X.K H ι vd v) :
    Le X.K H ι (upd H a (.ext (DicAt a (storedH xs k b u)))) ι ∧ HRep X.K (upd H a (.ext (DicAt a (storedH xs k b u)))) ι (Hd.set n (.dic (dput kvs kd k vd) false)) := by
  have L : Le X.K H ι (upd H a (.ext (DicAt a (storedH xs k b u)))) ι := Le.upd (List.mem_of_getElem? ha) h3 trivial _
  refine ⟨L, hr.upd ha h3 trivial ⟨h1, ?_, _, by rw [if_neg (by simp)]; exact upd_same, ?_⟩⟩
  · have := dput_len kvs kd k vd; omega
  · refine krep_put (Prd.imp P fun p x _ z => ⟨z.1, z.2.1.mono L, let ⟨v, z1, z2⟩ := z.2.2; ⟨v, z1, z2.mono L⟩⟩) e2 (r2.mono L) rv (r3.mono L)
section
variable {prog : Program} {w : World} {kd : HeapKind prog w (List Int)} {A : Around} {E : Value → Shared → Prop} {s : Shared}
theorem setDef_heap {d b : Addr} {xs : List (List Int × Addr × Value)} {k : List Int} {v : Value} {Q : Value → Shared → Prop} (rm : kd.room A) (key : kd.is s.heap k b) (dm : s.heap.DictOfH kd d xs) (sz : xs.length ≤ sizeLine)
    (old : ∀ p, atKey xs k = some p → Q p.2 { s with toks := s.toks + kd.draws k })
    (new : atKey xs k = none → ∀ h2, h2.DictOfH kd d (storedH xs k b v) → Heap.SameBut d s.heap h2 → Q v { s with heap := h2, toks := s.toks + kd.draws k }) :
    wpAny (model prog w) A (dictSetDefault d (.ref b) v) Q E s := by
  obtain ⟨ob, es, ep, g1, g2, g3, g4, g5, g6⟩ := dm
  unfold dictSetDefault
  refine wpAny_holding (wpAny_bind (kd.pyHash rm key (wpAny_bind (wpAny_dictFind_heap (s := { s with toks := s.toks + kd.draws k }) rm key g1 g3 g4 g5 g6 (fun no => ?_) (fun j p hj => ?_)))))
  · have em := atKey_none_of_get no
    have sm : ∀ f, Heap.SameBut d s.heap (s.heap.update d f) := fun f => Heap.SameBut.update ..
    have len := size_of_entries g4
    refine wpAny_bind (wpAny_rule (wpAny_bind (wpAny_updateDictKeys (s := { s with toks := s.toks + kd.draws k }) (hz := by omega) g1 g3 (wpAny_pure (new em _ ?_ (sm _))))))
    refine ⟨_, _, ep + 1, Heap.get?_update_self _ g1 (Obj.isFreed_of_dict (Obj.data_mapDictKeys g3 _)), g2.mapDictKeys _, Obj.data_mapDictKeys g3 _, ?_⟩
    rw [storedH_new em]
    refine ⟨by simp [g4, entryOfKey], fun x hx => ?_, ?_⟩
    · have one : kd.is s.heap x.1 x.2.1 := by
        rcases List.mem_append.mp hx with hx | hx
        · exact g5 x hx
        · rw [List.mem_singleton.mp hx]; exact key
      exact kd.keeps one g1 g3 (sm _)
    · have nm := not_mem_keys_of_get no
      rw [List.map_append, List.nodup_append]
      refine ⟨g6, by simp, fun x hx y hy e => nm ?_⟩
      have yk : y = k := by simpa using hy
      rw [← yk, ← e]
      exact hx
  · have ae := entry_at g4 j
    rw [hj] at ae
    refine wpAny_bind (wpAny_dictEntries (s := { s with toks := s.toks + kd.draws k }) g1 g3 ?_)
    rw [ae]
    exact wpAny_bind (wpAny_rule (wpAny_pure (old p (atKey_of_get g6 hj))))
end
noncomputable def sdefD (x : D) (ds : List D) (H : HD) : Option (D × HD) := match x, ds with
  | .ref n, [y, v] => match H[n]? with
    | some (.dic kvs false) => (nk y).bind fun k => if kvs.length < sizeLine then match dlook kvs k with
      | some z => some (z, H)
      | none => some (v, H.set n (.dic (dput kvs y k v) false))
      else none
    | _ => none
  | _, _ => none
theorem sdeff (hu : X.A.units + 64 < cLine) : MtF X "dict.setdefault" sdefD := by
  rintro pins s σ H x xs v us Q I rx rv ⟨ι, dx, ds, Hd, d, Hd', hr, r1, P1, e, q⟩
  unfold sdefD at e
  split at e
  · rename_i n y vd
    split at e
    · rename_i kvs hn
      obtain ⟨k, e2, e⟩ := Option.bind_eq_some_iff.mp e
      split at e
      · rename_i hl
        obtain ⟨a, rfl, ha⟩ := rep_ref.mp r1
        obtain ⟨v1, v2, rfl, ry, rd⟩ := prd2 P1
        obtain ⟨b, rfl⟩ := nk_ref e2 ry
        cases rx
        cases rv with
        | cons q1 rv =>
          cases rv with
          | cons q2 rv =>
            cases rv
            cases q1
            rename_i u2
            obtain ⟨h1, h2, ys, h3, P, dd⟩ := dic_of I (hr.obj n a _ ha hn)
            rw [if_neg (by simp)] at h3
            have hz : ys.length ≤ sizeLine := by rw [← Prd.len P]; exact h2
            have ty : s.TypeIs (.ref a) "dict" := dd.typeIs
            have body : wpAny (model X.prog X.w) X.A.in1 (Builtin.«dict.setdefault» ⟨[.ref a, .ref b, u2], []⟩) (fun fin s' => ∃ r, fin = .done (.ret r) ∧ EP X pins σ Q r s') X.xe s := by
              unfold Builtin.«dict.setdefault» Builtin.Dict.keyAndDefault
              refine wpAny_bind (wpAny_bind (wpAny_notOrdered_dict ty (wpAny_pure ?_)))
              show wpAny _ _ (if (a == sysModules) = true then _ else (dictSetDefault a (.ref b) u2 >>= _)) _ _ s
              rw [if_neg (by rw [h1]; decide)]
              refine wpAny_bind (setDef_heap (kd := tupleKind (numKind X.prog X.w)) (show (tupleKind (numKind X.prog X.w)).room X.A.in1 from (by show X.A.units + 1 < cLine; omega)) (key_is I e2 ry) dd hz (fun p hp => ?_) (fun hp h2' dd' hs => ?_))
              · rcases krep_at P k with ⟨_, z⟩ | ⟨vd', b', u', v', z1, z2, z3, z4⟩
                · rw [z] at hp; cases hp
                · rw [z2] at hp; cases hp
                  rw [z1] at e; cases e
                  exact wpAny_pure ⟨_, rfl, v', H, I.tok _, z3, q _ H ι Le.refl hr z4⟩
              · rcases krep_at P k with ⟨z, _⟩ | ⟨vd', b', u', v', z1, z2, z3, z4⟩
                · rw [z] at e; cases e
                  obtain ⟨L, hr'⟩ := dic_upd hr ha h1 hl h3 P e2 ry q2 rd
                  exact wpAny_pure ⟨_, rfl, v2, _, dic_write I h3 dd' hs, q2, q _ _ ι L hr' (rd.mono L)⟩
                · rw [z2] at hp; cases hp
            exact wpAny_call_entry PySem.F.slot_dict_setdefault ty PySem.F.entry_dict_setdefault body (PySem.F.args_dict_setdefault_3 _ _ _)
      · cases e
    · cases e
  · cases e
noncomputable def isDic : D → HD → Bool
  | .ref n, H => match H[n]? with
    | some (.dic _ _) => true
    | _ => false
  | _, _ => false
noncomputable def eDM (g : D → List D → HD → Option (D × HD)) (fo : EF) (f : AF) : EF := fun σ H => (fo σ H).bind fun o => if isDic o.1 o.2 = true then (f σ o.2).bind fun p => g o.1 p.1 p.2 else none
theorem isDic_ty {pins : List (Addr × Obj)} {σ : L2.St} {H : Hp} {s : Shared} {ι : List Addr} {Hd : HD} {x : D} {v : V} {u : Value} (I : Inv X pins σ H s) (hr : HRep X.K H ι Hd) (r : Rep X.K H ι x v) (rv : RelV v u) (e : isDic x Hd = true) :
    s.TypeIs u "dict" ∧ ∀ b, u = .ref b → ∃ ob, s.heap.get? b = some ob ∧ ob.dict = none := by
  cases x <;> simp only [isDic] at e <;> try cases e
  rename_i n
  split at e
  · rename_i kvs fz hn
    obtain ⟨a, rfl, ha⟩ := rep_ref.mp r
    cases rv
    obtain ⟨_, _, xs, _, _, dd⟩ := dic_of I (hr.obj n a _ ha hn)
    refine ⟨dd.typeIs, fun b eb => ?_⟩
    cases eb
    obtain ⟨ob, _, _, g1, g2, _⟩ := dd
    exact ⟨ob, g1, g2.2.1⟩
  · cases e
theorem pef_dm {e o : Expr} {es : List Expr} {name : Str} {apos cpos : Pos} {id : String} {g : D → List D → HD → Option (D × HD)} {fo : EF} {f : AF} (slot : Slot "dict" name id) (hty : typeOf (.builtin id) = pure (.type "method_descriptor")) (hm : MtF X id g) (ho : PEf X o fo) (ha : PAf X (e :: es) f)
    (hbase : attributeBase o name X.env (eval o X.env) = eval o X.env := by rfl)
    (hfew : ((backTo cpos (starEach (e :: es) X.env)).all (fun x => !x.1) && (backToKw cpos (keywordEach [] X.env)).all (fun x => x.1.isSome)
      && decide ((e :: es).length + ([] : List Keyword).length + (if ([] : List Keyword).isEmpty then 0 else 1) < 30)) = true := by exact star_few rfl (by decide))
    (hline : (apos.endLine == cpos.line) = true := by rfl) (hs : starEach (e :: es) X.env = (false, eval e X.env) :: starEach es X.env := by exact star_cons rfl) (hplain : (backTo cpos (starEach es X.env)).any (·.1) = false := by exact star_any rfl) :
    PEf X (.Call (.Attribute o name apos) (e :: es) [] cpos) (eDM g fo f) := by
  rintro pins s σ H Q I ⟨ι, σd, Hd, d, Hd', sr, hr, e0, q⟩
  obtain ⟨⟨x, H1⟩, e1, e0⟩ := Option.bind_eq_some_iff.mp e0
  dsimp only at e0
  split at e0
  · rename_i hl
    obtain ⟨⟨y, H2⟩, e2, e0⟩ := Option.bind_eq_some_iff.mp e0
    let P1 : VK := fun v1 H1' => ∃ ι1, Le X.K H ι H1' ι1 ∧ HRep X.K H1' ι1 H1 ∧ Rep X.K H1' ι1 x v1
    refine wpAny_Call_method_late hbase hfew hline rfl (thn (ho pins s σ H P1 I ⟨ι, σd, Hd, x, H1, sr, hr, e1, fun v1 H1' ι1 l1 h1 r1 => ⟨ι1, l1, h1, r1⟩⟩) fun v s1 zz => ?_)
    obtain ⟨xv, H1', I1, rx, ι1, l1, h1, r1⟩ := zz
    obtain ⟨t1, t2⟩ := isDic_ty I1 h1 r1 rx hl
    refine ⟨"dict", id, PySem.F.plainAttrs_dict, slot, hty, t1, t2, ?_⟩
    let P2 : List V → Hp → Prop := fun vs H2' => ∃ ι2, Le X.K H ι H2' ι2 ∧ HRep X.K H2' ι2 H2 ∧ Rep X.K H2' ι2 x xv ∧ Paired (Rep X.K H2' ι2) y vs
    have hA := ha cpos pins s1 σ H1' P2 I1 ⟨ι1, σd, H1, y, H2, sr.mono l1, h1, e2, fun vs H2' ι2 l2 h2 r2 => ⟨ι2, l1.trans l2, h2, r1.mono l2, r2⟩⟩
    rw [hs] at hA ⊢
    refine Calls.callWith_builtin (by show (false || (backTo cpos (starEach es X.env)).any (·.1)) = false; rw [hplain] <;> rfl) (Calls.evalArgs_plain ?_)
    exact thn hA fun us s2 ⟨vs, H2', I2, r2, ι2, l2, h2, rx2, rp⟩ => hm pins s2 σ H2' xv vs v us Q I2 rx r2 ⟨ι2, x, y, H2, d, Hd', h2, rx2, rp, e0, fun v H' ι' l h r => q v H' ι' (l2.trans l) h r⟩
  · cases e0
noncomputable def dlenD : FF := fun ds H => match ds with
  | [x] => (dicD x H).map fun kvs => (.int kvs.length, H)
  | _ => none
theorem callf_dlen : CallF X (.builtin "len") dlenD := by
  rintro pins s σ H xs us Q I rv ⟨ι, ds, Hd, d, Hd', hr, P, e, q⟩
  unfold dlenD at e
  split at e
  · rename_i x
    obtain ⟨kvs, e1, e⟩ := Option.map_eq_some_iff.mp e
    obtain ⟨rfl, rfl⟩ := Prod.mk.inj e
    obtain ⟨n, fz, rfl, hn⟩ := dicD_some e1
    obtain ⟨v, rfl, r⟩ := prd1 P
    obtain ⟨a, rfl, ha⟩ := rep_ref.mp r
    cases rv with
    | cons q1 rv =>
      cases rv
      cases q1
      obtain ⟨h1, h2, ys, _, PK, dd⟩ := dic_of I (hr.obj n a _ ha hn)
      have ty : s.TypeIs (.ref a) "dict" := dd.typeIs
      obtain ⟨ob, es, ep, g1, g2, g3, g4, _⟩ := dd
      have sz : es.size = kvs.length := by
        have a1 := size_of_entries g4
        have a2 := Prd.len PK
        omega
      have l63 : (kvs.length : Int) < 2 ^ 63 := by rw [PySem.sizeLine_eq] at h2; omega
      have ask : ∀ A' E', wpAny (model X.prog X.w) A' (Builtin.«dict.__len__» ⟨[.ref a], []⟩) (fun fin s' => ∃ r, fin = .done (.ret r) ∧ r = .int kvs.length s.toks ∧ s' = { s with toks := s.toks + 1 }) E' s := by
        intro A' E'
        show wpAny _ _ (dictSize a >>= _) _ _ s
        unfold dictSize
        refine wpAny_bind (wpAny_bind (wpAny_dictEntries g1 g3 (wpAny_pure (wpAny_bind (wpAny_pendingCount_other h1 (wpAny_ret_mkInt ?_))))))
        rw [Nat.add_zero, sz]
        exact ⟨rfl, rfl⟩
      refine Calls.call_function_entry kind_len plain_len entry_len (args_len1 _) ?_
      unfold Builtin.«len»
      refine wpAny_bind (m := oneArg "len" _) (wpAny_pure (wpAny_bind (m := callSpecial? (.ref a) (Str.ofString "__len__")) (wpAny_callSpecial?_slot (name := Str.ofString "__len__") ty PySem.F.slot_dict_len
        (wpAny_call_entry PySem.F.slot_dict_len ty PySem.F.entry_dict_len (thn (ask _ _) fun fin s' ⟨r, f1, f2, f3⟩ => ⟨r, f1, ?_⟩) (PySem.F.args_dict_len_1 _)))))
      subst f2 f3
      refine wpAny_bind (wpAny_holding (wpAny_pure (wpAny_bind (wpAny_letGo ?_))))
      show wpAny _ _ (if ((kvs.length : Nat) : Int) < 0 then _ else if ((kvs.length : Nat) : Int) ≥ 2 ^ 63 then _ else _) _ _ _
      rw [if_neg (by omega), if_neg (by omega)]
      exact wpAny_bind (wpAny_mkInt (wpAny_pure ⟨_, rfl, .int kvs.length, H, I.tok _, ⟨_, rfl⟩, q _ H ι Le.refl hr (by simp)⟩))
  · cases e
end DL
namespace DL
open PySem PySem.Spec PyProof.Rows L2
section
variable {prog : Program} {w : World} {A : Around} {E : Value → Shared → Prop} {s : Shared}
theorem iter_dic {d : Addr} {ob : Obj} {es : Array DictEntry} {ep : Nat} {Q : Value → Shared → Prop} (h0 : (d == sysModules) = false) (g1 : s.heap.get? d = some ob) (g2 : ob.ExactDict) (g3 : ob.data = .dict es ep)
    (q : Q (.ref s.heap.objs.size) { s with heap := s.heap.push { cls := .type "dict_keyiterator", data := .fields #[.ref d, .int 0 0, .int es.size 0, .int ep 0] } }) : wpAny (model prog w) A (pyIter (.ref d)) Q E s := by
  have ty : s.TypeIs (.ref d) "dict" := ⟨ob, g1, g2.1⟩
  refine wpAny_pyIter_slot ty F.slot_dict_iter (wpAny_call_entry F.slot_dict_iter ty F.entry_dict_iter ?_ (F.args_dict_iter_1 _))
  unfold Builtin.«dict.__iter__» Builtin.Dict.dictSlotNone
  refine wpAny_bind (wpAny_bind (wpAny_notOrdered_dict ty (wpAny_pure ?_)))
  show wpAny _ _ (Builtin.Dict.showsAll d >>= _) _ _ s
  unfold Builtin.Dict.showsAll
  rw [if_neg (by rw [h0]; decide)]
  refine wpAny_bind (wpAny_pure (wpAny_bind (wpAny_dictEntries g1 g3 (wpAny_bind (wpAny_dictEpoch g1 g3 (wpAny_bind (wpAny_newObj_type (wpAny_pure ?_))))))))
  exact ⟨_, rfl, "dict_keyiterator", _, ⟨_, Heap.get?_push_size _ rfl, rfl⟩, F.slot_dict_keyiterator_next.lookup, by simpa [rawInt] using q⟩
theorem next_in {d it : Addr} {ob : Obj} {es : Array DictEntry} {i ep : Nat} {Q : Option Value → Shared → Prop} (hit : s.heap.IsKeyIter it d i es.size ep) (g1 : s.heap.get? d = some ob) (g3 : ob.data = .dict es ep) (lt : i < es.size)
    (q : ∀ h2, h2.IsKeyIter it d (i + 1) es.size ep → Heap.SameBut it s.heap h2 → Q (some es[i].key) { s with heap := h2 }) : wpAny (model prog w) A (pyNext (.ref it)) Q E s := by
  have ty := hit.typeIs
  obtain ⟨oi, i1, i2, i3⟩ := id hit
  have own : Builtin.Dict_items.ownsTuple "dict_keyiterator" = false := by decide
  unfold pyNext
  refine wpAny_bind (wpAny_attempt (wpAny_callSpecial?_slot (name := Str.ofString "__next__") ty F.slot_dict_keyiterator_next (wpAny_call_entry F.slot_dict_keyiterator_next ty F.entry_dict_keyiterator_next ?_ (F.args_dict_keyiterator_next_1 _))))
  refine wpAny_bind (wpAny_pure (wpAny_bind (wpAny_bind ?_)))
  refine wpAny_bind (wpAny_typeNameOfWhole_keyiter ty (wpAny_pure (wpAny_bind (wpAny_fieldsOf i1 i3 ?_))))
  simp only [own, Bool.false_eq_true, if_false]
  show wpAny _ _ (if (Value.ref d == Value.none) = true then _ else _) _ _ s
  have nn : ¬ ((Value.ref d == Value.none) = true) := Bool.false_ne_true
  rw [if_neg nn]
  refine wpAny_bind (wpAny_pure (wpAny_bind (wpAny_dictEntries g1 g3 ?_)))
  rw [if_neg (by simp)]
  refine wpAny_bind (wpAny_pure (wpAny_bind (wpAny_dictEpoch g1 g3 ?_)))
  rw [if_neg (by simp)]
  refine wpAny_pure ?_
  have neg : ¬ ((i : Int) < 0) := by omega
  simp only [neg, if_false, Int.toNat_natCast, Array.getElem?_eq_getElem lt]
  refine wpAny_bind (wpAny_bind (wpAny_typeNameOfWhole_keyiter ty (wpAny_pure (wpAny_bind (wpAny_isOneOf_keyiter ty ?_)))))
  show wpAny _ _ (setField (.ref it) 1 (rawInt ((i : Int) + 1)) >>= _) _ _ s
  let h2 := s.heap.update it (Obj.mapFields (·.setIfInBounds 1 (rawInt ((i : Int) + 1))))
  have it2 : h2.IsKeyIter it d (i + 1) es.size ep :=
    ⟨_, Heap.get?_update_self _ i1 (Obj.isFreed_of_fields (Obj.data_mapFields i3 _)), (Obj.cls_mapFields ..).trans i2, by rw [Obj.data_mapFields i3]; simp [rawInt]⟩
  refine wpAny_bind (wpAny_setField i1 i3 (by simp) (wpAny_bind (wpAny_holding (wpAny_bind (wpAny_isOneOf_keyiter (s := { s with heap := h2 }) it2.typeIs ?_)))))
  show wpAny _ _ (pure es[i].key) _ _ _
  exact wpAny_pure (wpAny_pure ⟨_, rfl, wpAny_pure (q h2 it2 (Heap.SameBut.update ..))⟩)
theorem next_out {d it : Addr} {ob : Obj} {es : Array DictEntry} {i ep : Nat} {Q : Option Value → Shared → Prop} (hh : A.handled = none) (hit : s.heap.IsKeyIter it d i es.size ep) (g1 : s.heap.get? d = some ob) (g3 : ob.data = .dict es ep) (ge : es.size ≤ i)
    (q : ∀ h2, Heap.ExtBut it s.heap h2 → Q none { s with heap := h2 }) : wpAny (model prog w) A (pyNext (.ref it)) Q E s := by
  have ty := hit.typeIs
  obtain ⟨oi, i1, i2, i3⟩ := id hit
  have own : Builtin.Dict_items.ownsTuple "dict_keyiterator" = false := by decide
  unfold pyNext
  refine wpAny_bind (wpAny_attempt (wpAny_callSpecial?_slot (name := Str.ofString "__next__") ty F.slot_dict_keyiterator_next (wpAny_call_entry F.slot_dict_keyiterator_next ty F.entry_dict_keyiterator_next ?_ (F.args_dict_keyiterator_next_1 _))))
  refine wpAny_bind (wpAny_pure (wpAny_bind (wpAny_bind ?_)))
  refine wpAny_bind (wpAny_typeNameOfWhole_keyiter ty (wpAny_pure (wpAny_bind (wpAny_fieldsOf i1 i3 ?_))))
  simp only [own, Bool.false_eq_true, if_false]
  show wpAny _ _ (if (Value.ref d == Value.none) = true then _ else _) _ _ s
  have nn : ¬ ((Value.ref d == Value.none) = true) := Bool.false_ne_true
  rw [if_neg nn]
  refine wpAny_bind (wpAny_pure (wpAny_bind (wpAny_dictEntries g1 g3 ?_)))
  rw [if_neg (by simp)]
  refine wpAny_bind (wpAny_pure (wpAny_bind (wpAny_dictEpoch g1 g3 ?_)))
  rw [if_neg (by simp)]
  refine wpAny_pure ?_
  have neg : ¬ ((i : Int) < 0) := by omega
  simp only [neg, if_false, Int.toNat_natCast, Array.getElem?_eq_none ge]
  refine wpAny_bind (wpAny_bind (wpAny_typeNameOfWhole_keyiter ty (wpAny_pure ?_)))
  show wpAny _ _ (setField (.ref it) 0 .none >>= _) _ _ s
  refine wpAny_bind (wpAny_setField i1 i3 (by simp) ?_)
  show wpAny _ _ (newExc (.type "StopIteration") [] >>= _) _ _ _
  simp only [newExc, newTuple]
  refine wpAny_bind (wpAny_bind (wpAny_newObj_type (wpAny_bind (m := firstArgMember _ _) (wpAny_of_eq (a := Value.none) (by first | rfl | (simp only [firstArgMember]; rfl)) (wpAny_newObj_type ?_ (by size_fits)))) (by size_fits)))
  simp only [raiseNew]
  refine wpAny_bind (wpAny_handled ?_)
  have hh1 : A.in1.handled = none := hh
  rw [hh1]
  refine wpAny_bind (wpAny_pure (wpAny_throw ?_))
  refine wpAny_bind (wpAny_isInstance (T := "StopIteration") (b := true) (by exact ⟨_, Heap.get?_push_size _ rfl, rfl⟩) isSubtype_stop ?_)
  exact wpAny_pure (q _ (((Heap.SameBut.update ..).extBut.push _).push _))
end
noncomputable def Itd (a : Addr) (ob : Obj) (u : HO) (ks : List Addr) : It :=
  ⟨fun i H => H a = some (.frz ob u) ∧ i < ks.length, fun i H x H' => H' = H ∧ ∃ b, ks[i]? = some b ∧ x = .ref b, fun i H => H a = some (.frz ob u) ∧ ks.length ≤ i⟩
theorem turn_dic {P : Program} {w : World} {K : PySem.W.Frag} {tg : Expr} (a it : Addr) {ob : Obj} {u : HO} {es : Array DictEntry} {ep : Nat} {ks : List Addr} (g3 : ob.data = .dict es ep) (hk : es.toList.map (·.key) = ks.map Value.ref) :
    Turn P w K tg (Itd a ob u ks) [it] it (fun i h => h.IsKeyIter it a i es.size ep) where
  mem := by simp
  obj := fun i h st b hb => by
    have e : b = it := by simpa using hb
    subst e
    obtain ⟨o, e, c, d⟩ := st
    exact ⟨o, e, fun v z => by rw [d] at z; cases z⟩
  keep := fun i h h' st k => st.at fun o e => k it (by simp) o e
  item := by
    intro X hP hw hK hc i pins s σ H E I hf st hg
    subst hP hw hK
    obtain ⟨hq, hx⟩ := hg
    obtain ⟨g1, _⟩ := (show ObjOk X.prog X.w H s.heap a (.frz ob u) from I.hok a _ hq)
    obtain ⟨f0, f1, f2, f3, f4, f5⟩ := hf it (by simp)
    have hl : es.size = ks.length := by
      have := congrArg List.length hk
      simpa using this
    have lt : i < es.size := by omega
    have key : es[i].key = Value.ref ks[i] := by
      have e1 : (es.toList.map (·.key))[i]? = some es[i].key := by simp [lt]
      rw [hk, List.getElem?_map, List.getElem?_eq_getElem hx] at e1
      exact (Option.some.inj e1).symm
    refine next_in st g1 g3 lt fun h' st' sb => ?_
    have I1 : Inv X pins σ H { s with heap := h' } := I.turned (t' := s.toks) (fun b o hb e => (sb.2 b hb).trans e) f0 f1 f3 f4 f5
    obtain ⟨o, e, c, d⟩ := id st'
    exact ⟨_, rfl, go_of (s := { s with heap := h' }) e c d (by decide) ⟨.ref ks[i], H, I1, key, ⟨rfl, ks[i], List.getElem?_eq_getElem hx, rfl⟩, st', fun b hb => (hf b hb).1⟩⟩
  done := by
    intro X hP hw hK hc i pins s σ H E I hf st hg
    subst hP hw hK
    obtain ⟨hq, hx⟩ := hg
    obtain ⟨g1, _⟩ := (show ObjOk X.prog X.w H s.heap a (.frz ob u) from I.hok a _ hq)
    obtain ⟨f0, f1, f2, f3, f4, f5⟩ := hf it (by simp)
    have hl : es.size = ks.length := by
      have := congrArg List.length hk
      simpa using this
    exact next_out (I.ok.hd hc) st g1 g3 (by omega) fun h' eb => ⟨rfl, I.turned (t' := s.toks) (fun b o hb e => eb b o hb e) f0 f1 f3 f4 f5⟩
  self := fun _ _ _ _ _ st h => wpAny_pyIter_keyiter st h
variable {X : Cx} {tg : Expr}
noncomputable def iDic (f : EF) : ItF := fun σ H => (f σ H).bind fun p => match p.1 with
  | .ref n => match p.2[n]? with
    | some (.dic kvs _) => some ((kvs.map (·.1), [(n, .dic kvs true)]), p.2.set n (.dic kvs true))
    | _ => none
  | _ => none
theorem krep_keys {K : PySem.W.Frag} {H : Hp} {ι : List Addr} {kvs : List (D × D)} {xs : List (List Int × Addr × Value)} (h : Paired (KRep K H ι) kvs xs) : Paired (Rep K H ι) (kvs.map (·.1)) (xs.map fun x => V.ref x.2.1) := by
  induction h with
  | nil => exact .nil
  | cons r t ih => exact .cons r.2.1 ih
theorem pif_dic {l : Expr} {f : EF} (hl : PEf X l f) : PIf X tg l (iDic f) := by
  rintro pins s σ H R I ⟨ι, σd, Hd, xs, own, Hd', sr, hr, e, q⟩
  obtain ⟨⟨x, H1⟩, e1, e⟩ := Option.bind_eq_some_iff.mp e
  obtain ⟨n, rfl⟩ : ∃ n, x = .ref n := by cases x <;> first | exact ⟨_, rfl⟩ | cases e
  let P1 : VK := fun v1 H1' => ∃ ι1, Le X.K H ι H1' ι1 ∧ HRep X.K H1' ι1 H1 ∧ Rep X.K H1' ι1 (.ref n) v1
  refine thn (hl pins s σ H P1 I ⟨ι, σd, Hd, .ref n, H1, sr, hr, e1, fun v1 H1' ι1 l1 h1 r1 => ⟨ι1, l1, h1, r1⟩⟩) fun v s1 zz => ?_
  obtain ⟨xv, H1', I1, rx, ι1, l1, h1, r1⟩ := zz
  simp only at e
  split at e
  · rename_i kvs fz hn
    cases e
    obtain ⟨a, rfl, ha⟩ := rep_ref.mp r1
    cases rx
    obtain ⟨z1, z2, ys, z3, PK, dd⟩ := dic_of I1 (h1.obj n a _ ha hn)
    obtain ⟨ob, es, ep, g1, g2, g3, g4, g5, g6⟩ := dd
    refine iter_dic z1 g1 g2 g3 ?_
    let u : HO := .ext (DicAt a ys)
    let H2 : Hp := upd H1' a (.frz ob u)
    have keys : es.toList.map (·.key) = (ys.map fun x => x.2.1).map Value.ref := by rw [g4, List.map_map, List.map_map]; rfl
    have da : DicAt a ys s1.heap := ⟨ob, es, ep, g1, g2, g3, g4, g6⟩
    have okN : ∀ Hx, ObjOk X.prog X.w Hx s1.heap a (.frz ob u) := fun Hx => ⟨g1, da, ⟨ob, g1⟩, fun h1 h2 d k => DicAt.keep d k⟩
    have froz : Inv X pins σ H2 s1 ∧ Le X.K H1' ι1 H2 ι1 := by
      cases fz with
      | false =>
        rw [if_neg (by simp)] at z3
        exact ⟨I1.write (t' := s1.toks) (h' := s1.heap) (x := a) (e := a) (by rw [z3]; exact True.intro) (.inl rfl) (fun b q hb z => z) ⟨ob, g1⟩ (okN _), Le.upd (List.mem_of_getElem? ha) z3 trivial _⟩
      | true =>
        rw [if_pos rfl] at z3
        obtain ⟨o2, z3⟩ := z3
        obtain ⟨g1', _⟩ := (show ObjOk X.prog X.w H1' s1.heap a (.frz o2 (.ext (DicAt a ys))) from I1.hok a _ z3)
        have eo : o2 = ob := Option.some.inj (g1'.symm.trans g1)
        have eH : H2 = H1' := by
          funext b
          by_cases hb : b = a
          · subst hb; show upd H1' b (.frz ob u) b = H1' b; rw [upd_same, z3, eo]
          · exact upd_ne hb
        rw [eH]
        exact ⟨I1, Le.refl⟩
    obtain ⟨I2, L2'⟩ := froz
    have hr2 : HRep X.K H2 ι1 (H1.set n (.dic kvs true)) := by
      refine ⟨by simp [h1.len], h1.nd, fun m b oc m1 m2 => ?_⟩
      by_cases hm : n = m
      · subst hm
        rw [ha] at m1; cases m1
        rw [List.getElem?_set] at m2
        rw [if_pos rfl] at m2
        split at m2
        · cases m2
          exact ⟨z1, z2, ys, by rw [if_pos rfl]; exact ⟨ob, upd_same⟩, Prd.imp PK fun p x _ z => ⟨z.1, z.2.1.mono L2', let ⟨v, w1, w2⟩ := z.2.2; ⟨v, w1, w2.mono L2'⟩⟩⟩
        · cases m2
      · rw [List.getElem?_set_ne hm] at m2
        have hb : b ≠ a := fun z => by
          subst z
          exact hm ((List.getElem?_inj (List.getElem?_eq_some_iff.mp ha).1 h1.nd).mp (ha.trans m1.symm))
        exact (h1.obj m b oc m1 m2).step L2'.toLw (upd_ne hb)
    have I3 : Inv X pins σ H2 { s1 with heap := s1.heap.push { cls := .type "dict_keyiterator", data := .fields #[.ref a, .int 0 0, .int es.size 0, .int ep 0] } } := I2.kept (t' := s1.toks) fun b o e => Heap.get?_push_of_some _ e
    refine ⟨s1.heap.objs.size, [s1.heap.objs.size], _, Itd a ob u (ys.map fun x => x.2.1), H2, rfl, I3, turn_dic a _ g3 keys, ⟨_, Heap.get?_push_size _ rfl, rfl, rfl⟩, fun b hb => ?_, ?_⟩
    · have e : b = s1.heap.objs.size := by simpa using hb
      subst e
      exact I2.fpOk (Nat.le_refl _) (I2.hok.fresh (Nat.le_refl _))
    · have fa : H2 a = some (.frz ob u) := upd_same
      have pk := krep_keys PK
      refine q _ H2 ι1 (l1.trans L2') hr2 ⟨fun i H3 ι3 Hd3 l3 h3 _ hi => ⟨l3.fr _ _ _ fa, ?_⟩, fun i H3 ι3 Hd3 d x H4 l3 h3 _ hd y => ?_, fun i H3 ι3 Hd3 l3 h3 _ hi => ⟨l3.fr _ _ _ fa, ?_⟩⟩
      · have := Prd.len PK; simp only [List.length_map] at hi ⊢; omega
      · obtain ⟨rfl, b, hb, rfl⟩ := y
        obtain ⟨v, hv, rv⟩ := Prd.get pk hd
        have ev : v = .ref b := by
          rw [List.getElem?_map] at hv hb
          cases hy : ys[i]? with
          | none => rw [hy] at hv; cases hv
          | some yv => rw [hy] at hv hb; cases hv; cases hb; rfl
        subst ev
        exact ⟨ι3, Le.refl, h3, (rv.mono L2').mono l3⟩
      · have := Prd.len PK; simp only [List.length_map] at hi ⊢; omega
  · cases e
end DL
namespace DL
open PySem PySem.Spec PyProof.Rows L2
noncomputable def recF (n N : Nat) (b : FF → SF) : Nat → FF
  | 0 => runB n N fun _ _ => none
  | j + 1 => runB n N (b (recF n N b j))
theorem fn_rec {P : Program} {w : World} {K : PySem.W.Frag} {mg : Str → Option Value} {base : Heap} {x : Str} {st : Stmt} {N ps : List Str} {k : Nat} {b : FF → SF} (T : Tf K mg x st) (S : FnScope N ps (defScope st))
    (hbd : ∀ (kV doc pm : Value) (an : Option Addr) (cdv ct : Value) (us : List Value), us.length = ps.length → bindArgs (PySem.W.fnOf x x (defArgs st) (defBody st) (defScope st) .none kV doc pm an cdv ct) ⟨us, []⟩ = pure (ps.zip us))
    (hb : ∀ (F : FF) (j : Nat), Fn P w K mg base (k + 1 + j) x ps F → ∀ (f : Addr) (cdv : Value) (A : Around) (outer : List Env) (s : Shared) (H : Hp) (E : XK), Room (k + 1 + j) (A.deeper (envOfC x (defScope st) s.heap.objs.size f cdv)) →
      PSsf (cxOf CX0 P w K mg base N x (defScope st) f cdv A outer s H E).nox (defBody st) (b F)) : ∀ j, Fn P w K mg base (k + 1 + j) x ps (recF ps.length N.length b j)
  | 0 => fn_mk (k := k) T S hbd fun f cdv A outer s H E _ => by
    rintro pins s' σ H' E' I ⟨ι, σd, Hd, fl, σd', Hd', _, _, e, _⟩
    cases e
  | j + 1 => fn_mk (k := k + 1 + j) T S hbd fun f cdv A outer s H E hr => hb _ j (fn_rec T S hbd hb j) f cdv A outer s H E hr
theorem gc_bools2 {K : PySem.W.Frag} {h : Heap} {mg : Str → Option Value} {x : Str} {b1 b2 : Bool} {p : Addr} {n : Nat} {osl : Array (Option Value)} (X : K.In h) (G : h.Ns mainGlobals mg) (a : PySem.W.nsIn K mainGlobals x = some (some (.ref p)))
    (l : K.lookup p = some ⟨.type "tuple", none, .seq #[.bool b1, .bool b2] n, osl⟩) : Gc K mg x (.tup [.bl b1, .bl b2]) := by
  refine ⟨_, .ref p, PySem.W.mg_of X G a, rfl, fun H ι => rep_tup.mpr ⟨p, [.bl b1, .bl b2], rfl, .inr ⟨_, _, _, l, rfl, rfl, ?_, ?_, rfl⟩, ?_⟩⟩
  · show 2 ≤ sizeLine
    rw [PySem.sizeLine_eq]; omega
  · exact .cons rfl (.cons rfl .nil)
  · exact .cons (by simp) (.cons (by simp) .nil)
end DL
namespace DL
open PySem PySem.Spec PyProof.Rows L2
section
variable {prog : Program} {w : World} {A : Around} {E : Value → Shared → Prop} {s : Shared}
open AutoSeq1 (wpAny_loadPart') in
theorem enum_newK (t : Addr) (its : Array Value) (n : Nat) (dct : Option Addr) (sl : Array (Option Value)) (tk0 : Tok) :
    Meets (Builtin.«enumerate.__new__» ⟨[.type "enumerate", .ref t], [("start", .int 1 tk0)]⟩) (fun _ R s => s.heap.get? t = some { cls := .type "tuple", dict := dct, data := .seq its n, slots := sl } ∧
      R (.ok (.ret (.ref (s.heap.push { cls := .type "tuple_iterator", data := .fields #[.ref t, .int 0 0] }).objs.size)))
        { s with heap := (s.heap.push { cls := .type "tuple_iterator", data := .fields #[.ref t, .int 0 0] }).push { cls := .type "enumerate", data := .fields #[.none, .bool false, .ref s.heap.objs.size, rawInt 1, .none, .none] } }) :=
  .of_wp fun prog w A R s h => by
    obtain ⟨hp, g, d, tk, os⟩ := s; obtain ⟨hl, h⟩ := h
    have hsub := sub_enumerate
    have hL : Heap.IsTuple (Shared.heap ⟨hp, g, d, tk, os⟩) t its := ⟨_, hl, rfl, n, rfl⟩
    wp_walk using wpAny_loadPart' hl
    refine wpAny_stack_any fun st => wpAny_pure ?_
    split
    · rename_i k _ _ _ _ _
      cases (k == Value.type "enumerate") <;> (wp_walk using wpAny_loadPart' hl, wpAny_pyIter_tuple hL; exact ⟨_, rfl, h⟩)
    · wp_walk using wpAny_loadPart' hl, wpAny_pyIter_tuple hL
      exact ⟨_, rfl, h⟩
end
end DL
namespace DL
open PySem PySem.Spec PyProof.Rows L2
variable {X : Cx}
end DL
namespace DL
open PySem PySem.Spec PyProof.Rows L2
variable {X : Cx} {tg : Expr}
end DL
namespace DL
open PySem PySem.Spec PyProof.Rows L2
noncomputable def recP (n1 N1 n2 N2 : Nat) (a b : FF → FF → SF) : Nat → FF × FF
  | 0 => (runB n1 N1 fun _ _ => none, runB n2 N2 fun _ _ => none)
  | j + 1 => (runB n1 N1 (a (recP n1 N1 n2 N2 a b j).1 (recP n1 N1 n2 N2 a b j).2), runB n2 N2 (b (recP n1 N1 n2 N2 a b j).1 (recP n1 N1 n2 N2 a b j).2))
theorem fn_rec2 {P : Program} {w : World} {K : PySem.W.Frag} {mg : Str → Option Value} {base : Heap} {x y : Str} {st su : Stmt} {N1 ps N2 qs : List Str} {k : Nat} {a b : FF → FF → SF} (T : Tf K mg x st) (S : FnScope N1 ps (defScope st))
    (hbd : ∀ (kV doc pm : Value) (an : Option Addr) (cdv ct : Value) (us : List Value), us.length = ps.length → bindArgs (PySem.W.fnOf x x (defArgs st) (defBody st) (defScope st) .none kV doc pm an cdv ct) ⟨us, []⟩ = pure (ps.zip us))
    (T2 : Tf K mg y su) (S2 : FnScope N2 qs (defScope su))
    (hbd2 : ∀ (kV doc pm : Value) (an : Option Addr) (cdv ct : Value) (us : List Value), us.length = qs.length → bindArgs (PySem.W.fnOf y y (defArgs su) (defBody su) (defScope su) .none kV doc pm an cdv ct) ⟨us, []⟩ = pure (qs.zip us))
    (hb : ∀ (F1 F2 : FF) (j : Nat), Fn P w K mg base (k + 1 + j) x ps F1 → Fn P w K mg base (k + 1 + j) y qs F2 → ∀ (f : Addr) (cdv : Value) (A : Around) (outer : List Env) (s : Shared) (H : Hp) (E : XK), Room (k + 1 + j) (A.deeper (envOfC x (defScope st) s.heap.objs.size f cdv)) →
      PSsf (cxOf CX0 P w K mg base N1 x (defScope st) f cdv A outer s H E).nox (defBody st) (a F1 F2))
    (hb2 : ∀ (F1 F2 : FF) (j : Nat), Fn P w K mg base (k + 1 + j) x ps F1 → Fn P w K mg base (k + 1 + j) y qs F2 → ∀ (f : Addr) (cdv : Value) (A : Around) (outer : List Env) (s : Shared) (H : Hp) (E : XK), Room (k + 1 + j) (A.deeper (envOfC y (defScope su) s.heap.objs.size f cdv)) →
      PSsf (cxOf CX0 P w K mg base N2 y (defScope su) f cdv A outer s H E).nox (defBody su) (b F1 F2)) :
    ∀ j, Fn P w K mg base (k + 1 + j) x ps (recP ps.length N1.length qs.length N2.length a b j).1 ∧ Fn P w K mg base (k + 1 + j) y qs (recP ps.length N1.length qs.length N2.length a b j).2
  | 0 => by
    rw [recP]
    dsimp only
    refine ⟨fn_mk (k := k) T S hbd fun f cdv A outer s H E _ => ?_, fn_mk (k := k) T2 S2 hbd2 fun f cdv A outer s H E _ => ?_⟩
    · rintro pins s' σ H' E' I ⟨ι, σd, Hd, fl, σd', Hd', _, _, e, _⟩
      cases e
    · rintro pins s' σ H' E' I ⟨ι, σd, Hd, fl, σd', Hd', _, _, e, _⟩
      cases e
  | j + 1 => by
    obtain ⟨h1, h2⟩ := fn_rec2 T S hbd T2 S2 hbd2 hb hb2 j
    rw [recP]
    dsimp only
    exact ⟨fn_mk (k := k + 1 + j) T S hbd fun f cdv A outer s H E hr => hb _ _ j h1 h2 f cdv A outer s H E hr, fn_mk (k := k + 1 + j) T2 S2 hbd2 fun f cdv A outer s H E hr => hb2 _ _ j h1 h2 f cdv A outer s H E hr⟩
end DL
namespace DL
open PySem PySem.Spec PyProof.Rows L2
noncomputable def sWh (t : TF) (b : SF) : Nat → SF
  | 0 => fun _ _ => none
  | n + 1 => fun σ H => (t σ H).bind fun p => if p.1 = true then (b σ p.2).bind fun q => match q.1 with
      | .nx => sWh t b n q.2.1 q.2.2
      | .ct => sWh t b n q.2.1 q.2.2
      | .bk => some (.nx, q.2.1, q.2.2)
      | .rt d => some (.rt d, q.2.1, q.2.2)
    else some (.nx, σ, p.2)
section
variable {X : Cx} {c : Expr} {pos : Pos}
theorem psf_while {body : List Stmt} {t : TF} {b : SF} {n : Nat} (hp : PassesOwn (model X.prog X.w) X.A X.env X.xe) (hc : PTf X c t) (hb : PSsf X body b) : PSf X (.While c body [] pos) (sWh t b n) := by
  refine PSi (ps_while hp hc hb) fun E σ H zz => ?_
  obtain ⟨ι, σd, Hd, fl, σf, Hf, s, hr, e, q⟩ := zz
  refine ⟨fun m σ' H' => ∃ ι' σd' Hd', Le X.K H ι H' ι' ∧ SRep X.K H' ι' σ' σd' ∧ HRep X.K H' ι' Hd' ∧ sWh t b m σd' Hd' = some (fl, σf, Hf), ⟨n, ι, σd, Hd, Le.refl, s, hr, e⟩, ?_⟩
  rintro m σ1 H1 ⟨ι1, σd1, Hd1, l1, s1, h1, e1⟩
  cases m with
  | zero => cases e1
  | succ m =>
    rw [sWh] at e1
    obtain ⟨⟨x, H2⟩, e2, e1⟩ := Option.bind_eq_some_iff.mp e1
    refine ⟨ι1, σd1, Hd1, x, H2, s1, h1, e2, fun H3 ι3 l3 h3 => ?_⟩
    cases x with
    | true =>
      rw [if_pos rfl]
      dsimp only at e1
      rw [if_pos rfl] at e1
      obtain ⟨⟨f4, σ4, H4⟩, e4, e1⟩ := Option.bind_eq_some_iff.mp e1
      refine ⟨fun σ' H' => ∃ ι' σd' Hd', Le X.K H ι H' ι' ∧ SRep X.K H' ι' σ' σd' ∧ HRep X.K H' ι' Hd' ∧ sWh t b m σd' Hd' = some (fl, σf, Hf), fun σ' H' p => ⟨m, Nat.lt_succ_self m, p⟩, ?_⟩
      refine ⟨ι3, σd1, H2, f4, σ4, H4, s1.mono l3, h3, e4, fun σ6 H6 ι6 l6 h6 s6 => ?_⟩
      have L : Le X.K H ι H6 ι6 := (l1.trans l3).trans l6
      cases f4 with
      | nx => exact ⟨ι6, σ4, H4, L, s6, h6, e1⟩
      | ct => exact ⟨ι6, σ4, H4, L, s6, h6, e1⟩
      | bk => cases e1; exact q σ6 H6 ι6 L h6 s6
      | rt d => cases e1; exact q σ6 H6 ι6 L h6 s6
    | false =>
      rw [if_neg (by simp)]
      dsimp only at e1
      rw [if_neg (by simp)] at e1
      cases e1
      exact q σ1 H3 ι3 (l1.trans l3) h3 (s1.mono l3)
end
end DL
namespace DL
open PySem PySem.Spec PyProof.Rows L2
section
variable {X : Cx} {e : Expr} {pos : Pos}
noncomputable def intOf : D → Option Int
  | .int i => some i
  | _ => none
noncomputable def sAug (g : Int → Int → Int) (i : Nat) (f : EF) : SF := fun σ H => ((σ[i]?).join.bind intOf).bind fun a => (f σ H).bind fun p => (intOf p.1).map fun b => (.nx, σ.set i (some (.int (g a b))), p.2)
theorem intOf_some {d : D} {i : Int} (h : intOf d = some i) : d = .int i := by
  cases d <;> simp [intOf] at h
  rw [h]
theorem psf_aug {i : Nat} {x : Str} {f : EF} {op : Operator} {g : Int → Int → Int} {pos' : Pos} (ho : PIp X op (ipI g)) (hN : X.N.Nodup) (hi : X.N[i]? = some x) (hx : Loc X.env.scope x) (he : PEf X e f)
    (hf : X.fn x = true ∨ X.env.scope.names.lookup x = some .local := by first | exact .inl rfl | exact .inr rfl | assumption) : PSf X (.AugAssign (.Name x pos') op e pos) (sAug g i f) := by
  refine PSi (ps_aug hN hi hx he ho hf) fun E σ H zz => ?_
  obtain ⟨ι, σd, Hd, fl, σd', Hd', s, hr, e, q⟩ := zz
  obtain ⟨a, e0, e⟩ := Option.bind_eq_some_iff.mp e
  obtain ⟨d, e1, e2⟩ := Option.bind_eq_some_iff.mp e0
  have := intOf_some e2
  subst this
  obtain ⟨⟨y, H1⟩, e3, e⟩ := Option.bind_eq_some_iff.mp e
  obtain ⟨b, e4, e⟩ := Option.map_eq_some_iff.mp e
  have := intOf_some e4
  dsimp only at this e
  subst this
  cases e
  have hv : σd[i]? = some (some (.int a)) := by
    cases hx : σd[i]? with
    | none => rw [hx] at e1; cases e1
    | some o => rw [hx] at e1; exact congrArg some e1
  obtain ⟨v, h1, h2⟩ := s.var i _ hv
  simp at h2
  subst h2
  refine ⟨_, h1, ι, σd, Hd, _, _, s, hr, e3, fun v H' ι' l h r => ?_⟩
  simp at r
  subst r
  refine ⟨a, b, rfl, rfl, q _ H' ι' l h ((s.mono l).set (by simp) i)⟩
end
end DL
namespace DL
open PySem PySem.Spec PyProof.Rows L2
open Builtin.SmallTypes (nextOf)
section
variable {prog : Program} {w : World} {A : Around} {E : Value → Shared → Prop} {s : Shared}
open AutoSeq1 (wpAny_loadPart') in
theorem enum_newL (t : Addr) (its : Array Value) (n : Nat) (dct : Option Addr) (sl : Array (Option Value)) :
    Meets (Builtin.«enumerate.__new__» ⟨[.type "enumerate", .ref t], []⟩) (fun _ R s => s.heap.get? t = some { cls := .type "list", dict := dct, data := .seq its n, slots := sl } ∧
      R (.ok (.ret (.ref (s.heap.push { cls := .type "list_iterator", data := .fields #[.ref t, .int 0 0] }).objs.size)))
        { s with heap := (s.heap.push { cls := .type "list_iterator", data := .fields #[.ref t, .int 0 0] }).push { cls := .type "enumerate", data := .fields #[.none, .bool false, .ref s.heap.objs.size, rawInt 0, .none, .none] } }) :=
  .of_wp fun prog w A R s h => by
    obtain ⟨hp, g, d, tk, os⟩ := s; obtain ⟨hl, h⟩ := h
    have hsub := sub_enumerate
    have hL : Heap.IsList (Shared.heap ⟨hp, g, d, tk, os⟩) t its := ⟨_, hl, rfl, n, rfl⟩
    wp_walk using wpAny_loadPart' hl
    refine wpAny_stack_any fun st => wpAny_pure ?_
    split
    · rename_i k _ _ _ _ _
      cases (k == Value.type "enumerate") <;> (wp_walk using wpAny_loadPart' hl, wpAny_pyIter_list hL; exact ⟨_, rfl, h⟩)
    · wp_walk using wpAny_loadPart' hl, wpAny_pyIter_list hL
      exact ⟨_, rfl, h⟩
end
end DL
namespace DL
open PySem PySem.Spec PyProof.Rows L2
noncomputable def two2 : D → Option (D × D)
  | .tup [a, b] => some (a, b)
  | _ => none
open Classical in
noncomputable def compL2 (own : OwnD) (c0 : SD) (tt : TF) (te : EF) : List D → HD → Option (List D × HD)
  | [], H => if okOwn own H then some ([], H) else none
  | x :: r, H => (two2 x).bind fun ab => if okOwn own H then (tt (some ab.1 :: some ab.2 :: c0) H).bind fun t => if t.1 = true then (te (some ab.1 :: some ab.2 :: c0) t.2).bind fun e => (compL2 own c0 tt te r e.2).map fun q => (e.1 :: q.1, q.2) else compL2 own c0 tt te r t.2 else none
end DL
namespace DL
open PySem PySem.Spec PyProof.Rows L2
noncomputable def Its (x : Str) : It := ⟨fun i _ => i < x.cps.size, fun i H v H' => H' = H ∧ ∃ c, x.cps[i]? = some c ∧ v = .str ⟨#[c]⟩, fun i _ => x.cps.size ≤ i⟩
theorem turn_str {P : Program} {w : World} {K : PySem.W.Frag} {tg : Expr} (it : Addr) (x : Str) (t : Tok) : Turn P w K tg (Its x) [it] it (fun i h => h.IsStrIter it "str_ascii_iterator" x t i) where
  mem := by simp
  obj := fun i h st b hb => by
    have e : b = it := by simpa using hb
    subst e
    obtain ⟨o, e, c, d⟩ := st
    exact ⟨o, e, fun v z => by rw [d] at z; cases z⟩
  keep := fun i h h' st k => by
    obtain ⟨o, e, r⟩ := st
    exact ⟨o, k it (by simp) o e, r⟩
  item := by
    intro X hP hw hK hc i pins s σ H E I hf st hg
    subst hP hw hK
    have hi : i < x.cps.size := hg
    obtain ⟨f0, f1, f2, f3, f4, f5⟩ := hf it (by simp)
    refine wpAny_pyNext_ascii_item st (c := x.cps[i]) (by simp [hi]) fun h' st' sb => ?_
    have I1 : Inv X pins σ H { s with heap := h', toks := s.toks + 1 } := I.turned (t' := s.toks + 1) (fun b o hb e => (sb.2 b hb).trans e) f0 f1 f3 f4 f5
    obtain ⟨o, e, c, d⟩ := id st'
    exact ⟨_, rfl, go_of (s := { s with heap := h', toks := s.toks + 1 }) e c d (by decide) ⟨.str ⟨#[x.cps[i]]⟩, H, I1, ⟨_, rfl⟩, ⟨rfl, _, by simp [hi], rfl⟩, st', fun b hb => (hf b hb).1⟩⟩
  done := by
    intro X hP hw hK hc i pins s σ H E I hf st hg
    subst hP hw hK
    have hi : x.cps.size ≤ i := hg
    obtain ⟨f0, f1, f2, f3, f4, f5⟩ := hf it (by simp)
    exact wpAny_pyNext_ascii_end (I.ok.hd hc) st (by simp [hi]) fun h' eb => ⟨rfl, I.turned (t' := s.toks) (fun b o hb e => eb b o hb e) f0 f1 f3 f4 f5⟩
  self := fun _ _ _ _ _ st h => wpAny_pyIter_striter_ascii st h
noncomputable def signs (x : Str) : List D := x.cps.toList.map fun c => .str ⟨#[c]⟩
theorem it_signs {K : PySem.W.Frag} {H0 : Hp} {ι0 : List Addr} (x : Str) : ItRep K (Its x) (signs x) [] H0 ι0 := by
  refine ⟨fun i H2 ι2 Hd2 l2 h2 _ hi => (show i < x.cps.size by simpa [signs] using hi), fun i H2 ι2 Hd2 d v H3 l2 h2 _ hd y => ?_, fun i H2 ι2 Hd2 l2 h2 _ hi => (show x.cps.size ≤ i by simpa [signs] using hi)⟩
  obtain ⟨rfl, c, hc, rfl⟩ := y
  unfold signs at hd
  rw [List.getElem?_map, Array.getElem?_toList, hc] at hd
  cases hd
  exact ⟨ι2, Le.refl, h2, by simp⟩
section
variable {X : Cx} {tg : Expr}
noncomputable def iTxt (f : EF) : ItF := fun σ H => (f σ H).bind fun p => match p.1 with
  | .str x => if x.cps.all (· < 128) = true then some ((signs x, []), p.2) else none
  | _ => none
noncomputable def tiTxt (tl : TE) : TI := fun σ H R => tl σ H fun v H1 => ∃ x : Str, v = .str x ∧ x.cps.all (· < 128) = true ∧ R (Its x) H1
theorem pi_txt {l : Expr} {tl : TE} (hl : PE X l tl) : PI X tg l (tiTxt tl) := by
  intro pins s σ H R I h
  refine thn (hl pins s σ H _ I h) fun v s1 zz => ?_
  obtain ⟨y, H1, I1, r1, q1⟩ := zz
  obtain ⟨x, rfl, ha, q⟩ := q1
  obtain ⟨t, rfl⟩ := r1
  refine wpAny_pyIter_ascii ha ?_
  refine ⟨s1.heap.objs.size, [s1.heap.objs.size], _, _, H1, rfl, I1.kept (t' := s1.toks) fun b o e => Heap.get?_push_of_some _ e, turn_str _ x t, ⟨_, Heap.get?_push_size _ rfl, rfl, rfl⟩, fun b hb => ?_, q⟩
  have e : b = s1.heap.objs.size := by simpa using hb
  subst e
  exact I1.fpOk (Nat.le_refl _) (I1.hok.fresh (Nat.le_refl _))
theorem pif_txt {e : Expr} {f : EF} (he : PEf X e f) : PIf X tg e (iTxt f) := by
  refine PIi (pi_txt he) fun σ H R zz => ?_
  obtain ⟨ι, σd, Hd, xs, own, Hd', s, hr, e, q⟩ := zz
  obtain ⟨⟨d, H1⟩, e1, e⟩ := Option.bind_eq_some_iff.mp e
  dsimp only at e
  split at e
  · rename_i x
    split at e
    · rename_i ha
      cases e
      refine ⟨ι, σd, Hd, _, _, s, hr, e1, fun v H' ι' l h r => ?_⟩
      have r : v = .str x := by simpa using r
      subst r
      exact ⟨x, rfl, ha, q _ H' ι' l h (it_signs x)⟩
    · cases e
  · cases e
end
end DL
namespace DL
open PySem PySem.Spec PyProof.Rows L2
open PySem.W (KasT kas_rev kas_asc kas_desc kas_tail3 kas_descPart kas_count kas_place kas_bin kas_sort)
section
variable {n : Nat}
variable (h0 : 0 < n)
include h0
end
end DL
namespace DL
open PySem PySem.Spec PyProof.Rows L2
section
variable {X : Cx}
noncomputable def sixD : F2 := fun x y H => match x, y with
  | .str a, .int i => if a.length ≤ sizeLine then (atI a.cps.toList i).map fun c => (.str ⟨#[c]⟩, H) else none
  | _, _ => none
theorem sixf : IxF X sixD := by
  rintro va sl pins s σ H x y v u Q I rx ry ⟨ι, dx, dy, Hd, d, Hd', hr, r1, r2, e, q⟩ hs
  unfold sixD at e
  split at e
  · simp at r1 r2
    split at e
    · rename_i hl
      obtain ⟨c, e1, e⟩ := Option.map_eq_some_iff.mp e
      cases e
      exact ix_str va sl pins s σ H _ _ v u Q I rx ry ⟨_, _, c, r1, r2, hl, e1, q _ H ι Le.refl hr (by simp)⟩ hs
    · cases e
  · cases e
noncomputable def sinD : F2 := fun x y H => match x, y with
  | .str i, .str j => some (.bl (!(Builtin.Str.occurrences j i 0 j.length 1).isEmpty), H)
  | _, _ => none
theorem sinf : OpF X (compareOp .In) sinD := by
  rintro pins s σ H x y v u Q I rx ry ⟨ι, dx, dy, Hd, d, Hd', hr, r1, r2, e, q⟩
  unfold sinD at e
  split at e
  · simp at r1 r2
    cases e
    exact op_in_str pins s σ H _ _ v u Q I rx ry ⟨_, _, r1, r2, q _ H ι Le.refl hr (by simp)⟩
  · cases e
noncomputable def sniD : F2 := fun x y H => match x, y with
  | .str i, .str j => some (.bl (!(!(Builtin.Str.occurrences j i 0 j.length 1).isEmpty)), H)
  | _, _ => none
theorem snif : OpF X (compareOp .NotIn) sniD := by
  rintro pins s σ H x y v u Q I rx ry ⟨ι, dx, dy, Hd, d, Hd', hr, r1, r2, e, q⟩
  unfold sniD at e
  split at e
  · simp at r1 r2
    cases e
    exact op_notin_str pins s σ H _ _ v u Q I rx ry ⟨_, _, r1, r2, q _ H ι Le.refl hr (by simp)⟩
  · cases e
noncomputable def slSD (x : D) (lo hi : Option Int) (H : HD) : Option (D × HD) := match x with
  | .str a => if a.length ≤ sizeLine then some (.str (Txt.slice a lo hi), H) else none
  | _ => none
noncomputable def rdSlS (K : PySem.W.Frag) : V → Option Int → Option Int → Hp → VK → Prop := fun x lo hi H Q => ∃ ι dx Hd d Hd', HRep K H ι Hd ∧ Rep K H ι dx x ∧ slSD dx lo hi Hd = some (d, Hd') ∧ QE K H ι d Hd' Q
theorem slfS : SlR X (rdSlS X.K) := by
  rintro pins s σ H x v vl vu lo hi sl Q I rx hs pl pu ⟨ι, dx, Hd, d, Hd', hr, r, e, q⟩
  cases dx with
  | str a =>
    simp at r
    subst r
    obtain ⟨t, rfl⟩ := rx
    unfold slSD at e
    dsimp only at e
    split at e
    · rename_i hl
      cases e
      refine ⟨"str", _, PySem.F.slot_str_getitem.lookup, typeIs_str s a t, ?_⟩
      have fin : ∀ t' k, EP X pins σ Q (.str (Txt.slice a lo hi) t') { s with toks := k } := fun t' k => ⟨.str (Txt.slice a lo hi), H, I.tok k, ⟨_, rfl⟩, q _ H ι Le.refl hr (by simp)⟩
      have part : ∀ {w : Value} {o : Option Int}, IsPart w o → ∃ p : Option (Int × Tok), w = partValue p ∧ p.map (·.1) = o := by
        intro w o p
        cases p with
        | none => exact ⟨none, rfl, rfl⟩
        | int i t => exact ⟨some (i, t), rfl, rfl⟩
      obtain ⟨p1, rfl, rfl⟩ := part pl
      obtain ⟨p2, rfl, rfl⟩ := part pu
      refine wpAny_getItem_str_slice (l := p1) (u := p2) (st := none) hs rfl ?_
      exact post_val_or_str ⟨Nat.le_trans (Txt.slice_le a _ _) hl, fun t' k => fin t' k⟩
    · cases e
  | _ => simp [slSD] at e
noncomputable def eSlS (fe : EF) (fl fh : OF) : EF := fun σ H => (fe σ H).bind fun p => (fl σ p.2).bind fun l => (fh σ l.2).bind fun h => slSD p.1 l.1 h.1 h.2
theorem pef_sliceS {e : Expr} {lo hi : Option Expr} {fe : EF} {fl fh : OF} {pos p2 : Pos} (he : PEf X e fe) (hl : POf X lo fl) (hu : POf X hi fh) : PEf X (.Subscript e (.Slice lo hi none p2) pos) (eSlS fe fl fh) := by
  refine PEi (pe_slice slfS he hl hu) fun σ H Q zz => ?_
  obtain ⟨ι, σd, Hd, d, Hd', s, hr, e, q⟩ := zz
  obtain ⟨⟨x, H1⟩, e1, e⟩ := Option.bind_eq_some_iff.mp e
  obtain ⟨⟨y, H2⟩, e2, e⟩ := Option.bind_eq_some_iff.mp e
  obtain ⟨⟨z, H3⟩, e3, e⟩ := Option.bind_eq_some_iff.mp e
  exact ⟨ι, σd, Hd, x, H1, s, hr, e1, fun v1 H1' ι1 l1 h1 r1 => ⟨ι1, σd, H1, y, H2, s.mono l1, h1, e2, fun H2' ι2 l2 h2 => ⟨ι2, σd, H2, z, H3, s.mono (l1.trans l2), h2, e3, fun H3' ι3 l3 h3 =>
    ⟨ι3, x, H3, d, Hd', h3, r1.mono (l2.trans l3), e, fun v H' ι' l h r => q v H' ι' (((l1.trans l2).trans l3).trans l) h r⟩⟩⟩⟩
noncomputable def smulD : F2 := fun x y H => match x, y with
  | .str a, .int n => if 1 < n ∧ 0 < a.length ∧ a.length * n.toNat ≤ 100000 then some (.str ⟨(List.replicate n.toNat a.cps).foldl (· ++ ·) #[]⟩, H) else none
  | _, _ => none
noncomputable def strD : FF := fun ds H => match ds with
  | [.int i] => if 0 ≤ i ∧ i ≤ 1000000000 then some (.str (toString i), H) else none
  | _ => none
theorem callf_str : CallF X (.type "str") strD := by
  rintro pins s σ H xs us Q I rv ⟨ι, ds, Hd, d, Hd', hr, P, e, q⟩
  unfold strD at e
  split at e
  · obtain ⟨v, rfl, r⟩ := prd1 P
    simp at r
    subst r
    split at e
    · rename_i hz
      cases e
      refine call_str_int pins s σ H _ us Q I rv ⟨_, rfl, ?_, q _ H ι Le.refl hr (by simp)⟩
      rename_i i
      have h1 : i.natAbs ≤ 1000000000 := by omega
      by_cases h0 : i.natAbs = 0
      · rw [h0]; decide
      · refine (Nat.log2_lt h0).mpr (Nat.lt_of_le_of_lt h1 ?_)
        exact Nat.lt_of_lt_of_le (by decide : 1000000000 < 2 ^ 30) (Nat.pow_le_pow_right (by decide) (by decide))
    · cases e
  · cases e
noncomputable def intSD : FF := fun ds H => match ds with
  | [.str x] => if x.length ≤ 640 then (PySem.intText? x).map fun n => (.int n, H) else none
  | _ => none
theorem callf_intS : CallF X (.type "int") intSD := by
  rintro pins s σ H xs us Q I rv ⟨ι, ds, Hd, d, Hd', hr, P, e, q⟩
  unfold intSD at e
  split at e
  · obtain ⟨v, rfl, r⟩ := prd1 P
    simp at r
    subst r
    split at e
    · rename_i hz
      obtain ⟨n, e1, e⟩ := Option.map_eq_some_iff.mp e
      cases e
      obtain ⟨u, rfl, t, rfl⟩ := vals1 rv
      exact PySem.W.KIN.call_text e1 hz ⟨.int n, H, I.tok _, ⟨_, rfl⟩, q _ H ι Le.refl hr (by simp)⟩
    · cases e
  · cases e
theorem smulf : OpF X (binaryOp .Mult) smulD := by
  rintro pins s σ H x y v u Q I rx ry ⟨ι, dx, dy, Hd, d, Hd', hr, r1, r2, e, q⟩
  unfold smulD at e
  split at e
  · rename_i a n
    simp at r1 r2
    subst r1 r2
    obtain ⟨t1, rfl⟩ := rx
    obtain ⟨t2, rfl⟩ := ry
    split at e
    · rename_i hz
      obtain ⟨z1, z2, z3⟩ := hz
      cases e
      have z4 : (n.toNat : Int) = n := by omega
      have z5 : n.toNat ≤ 100000 := Nat.le_trans (Nat.le_mul_of_pos_left _ z2) z3
      have hlong : Builtin.Str.tooLong (a.length * n.toNat) = false := by
        unfold Builtin.Str.tooLong
        rw [decide_eq_false_iff_not, PySem.sizeLine_eq]; omega
      refine PySem.P.mul_str ?_ ?_ ?_ ?_
      · have e1 : decide (n < -(2 ^ 63 : Int)) = false := decide_eq_false (by omega)
        have e2 : decide (n ≥ 2 ^ 63) = false := decide_eq_false (by omega)
        rw [e1, e2, Bool.or_false]
      · intro _ _ hh
        have : (2 ^ 63 - 1 : Int) / n < a.length := hh
        have h2 : (2 ^ 63 - 1 : Int) < a.length * n := (Int.ediv_lt_iff_lt_mul (by omega)).mp this
        have h3 : ((a.length * n.toNat : Nat) : Int) ≤ 100000 := Int.ofNat_le.mpr z3
        rw [Int.natCast_mul, z4] at h3
        have h4 : (100000 : Int) < 2 ^ 63 - 1 := by decide
        exact absurd (Int.lt_of_lt_of_le h2 h3) (Int.not_lt.mpr (Int.le_of_lt h4))
      · intro _ _; exact hlong
      · have e0 : ¬ n < 1 := by omega
        have e1 : ¬ ((n == 1 || a.length == 0) = true) := by
          rw [Bool.or_eq_true, beq_iff_eq, beq_iff_eq]; omega
        rw [if_neg e0, if_neg e1]
        exact ⟨fits_reps hlong, .str _, H, I.tok _, ⟨_, rfl⟩, q _ H ι Le.refl hr (by simp)⟩
    · cases e
  · cases e
end
end DL
namespace DL
open PySem PySem.Spec PyProof.Rows L2
section
variable {X : Cx}
theorem idx_data {h : Heap} {vs : Array Value} {xs : List PyData} {as : List Addr} {d : PyData} (rs : ReadsAll h vs.toList xs as) (hxs : PyData.canLayAll0 xs = true) :
    vs.toList.map (fun y => PyData.eqv (SeqAt.readOf h y) d) = xs.map fun z => PyData.eqv z d := by
  have e := SeqAt.readsAll_map xs _ _ hxs rs
  rw [← e, List.map_map]
  rfl
noncomputable def lindexD (x : D) (ds : List D) (H : HD) : Option (D × HD) := match x, ds with
  | .ref n, [d] => match H[n]? with
    | some (.lst _) => (dat (.ref n) H).bind fun p => (dat d H).bind fun q => (itemsP p).bind fun ps => (ps.findIdx? fun z => PyData.eqv z q).bind fun j => if j ≤ 1000000 then some (.int (j : Nat), H) else none
    | _ => none
  | _, _ => none
theorem mtf_lindex (hu : X.A.units + 64 < cLine) : MtF X "list.index" lindexD := by
  rintro pins s σ H x xs v us Q I rx rv ⟨ι, dx, ds, Hd, d, Hd', hr, r1, P, e, q⟩
  unfold lindexD at e
  split at e
  · rename_i n d1
    split at e
    · rename_i zs hn
      obtain ⟨z, rfl, rz⟩ := prd1 P
      obtain ⟨u, rfl, ru⟩ := rv.one
      obtain ⟨p, e1, e⟩ := Option.bind_eq_some_iff.mp e
      obtain ⟨p2, e2, e⟩ := Option.bind_eq_some_iff.mp e
      obtain ⟨ys, e3, e⟩ := Option.bind_eq_some_iff.mp e
      obtain ⟨j, e4, e⟩ := Option.bind_eq_some_iff.mp e
      split at e
      · rename_i hj
        cases e
        obtain ⟨t1, c1, k1⟩ := dat_some e1
        obtain ⟨t2, c2, k2⟩ := dat_some e2
        obtain ⟨as, ra⟩ := reads_of I hr _ _ t1 r1 rx
        obtain ⟨bs, rb⟩ := reads_of I hr _ _ t2 rz ru
        obtain ⟨ws, rfl⟩ : ∃ ws, p = .list ws := by
          rw [toP] at t1
          simp only [hn] at t1
          obtain ⟨ws, _, rfl⟩ := Option.map_eq_some_iff.mp t1
          exact ⟨ws, rfl⟩
        cases e3
        simp only [PyData.canLay0] at c1
        simp only [PyData.depth] at k1
        cases ra with
        | list h1 h2 h3 h4 =>
          rename_i a o its m as2
          obtain ⟨cl, dd, dt, sl⟩ := o
          cases h2
          cases h3
          obtain ⟨hj2, f1, f2⟩ := List.findIdx?_eq_some_iff_getElem.mp e4
          have em := idx_data (d := p2) h4 c1
          have hsz : its.size = ys.length := by
            have := congrArg List.length em
            simpa using this
          have at' : ∀ k (hk : k < its.size), PyData.eqv (SeqAt.readOf s.heap its[k]) p2 = PyData.eqv (ys[k]'(by omega)) p2 := by
            intro k hk
            have := congrArg (fun l => l[k]?) em
            simp only [List.getElem?_map] at this
            rw [List.getElem?_eq_getElem (by simpa using hk), List.getElem?_eq_getElem (by omega)] at this
            simpa using this
          refine call_meets PySem.F.slot_list_index ⟨_, h1, rfl⟩ PySem.F.entry_list_index (PySem.F.args_list_index_2 _ _) (SeqAt.list_indexAt _ _ _ dd sl u _ j (by omega) (by omega) ?_ ?_) ⟨h1, SeqAt.items_eqAt h4 rb c1 c2 (by omega), ?_⟩
          · rw [at' j (by omega)]; exact f1
          · intro m hm hmj
            rw [at' m hm]
            have := f2 m hmj
            simpa using this
          · exact ⟨.int _, H, I.tok _, ⟨_, rfl⟩, q _ H ι Le.refl hr (by simp)⟩
      · cases e
    · cases e
  · cases e
noncomputable def Pk (w : World) (K : PySem.W.Frag) (mg : Str → Option Value) (x : Str) (kvs : List (Str × Bool)) : Prop :=
  ∃ p o, mg x = some (.ref p) ∧ (p == sysModules) = false ∧ K.lookup p = some o ∧ ∀ prog, o.IsDictOf (strKind prog w) (kvs.map fun z => (z.1, Value.bool z.2))
noncomputable def pkAt (kvs : List (Str × Bool)) (a : Str) : Option Bool := (kvs.find? fun z => z.1 = a).map (·.2)
theorem pkAt_val (kvs : List (Str × Bool)) (a : Str) : valueAt (kvs.map fun z => (z.1, Value.bool z.2)) a = (pkAt kvs a).map .bool := by
  unfold valueAt pkAt
  rw [List.find?_map, Option.map_map, Option.map_map]
  rfl
noncomputable def tinD (kvs : List (Str × Bool)) (x : D) (H : HD) : Option (D × HD) := match x with
  | .str a => some (.bl (pkAt kvs a).isSome, H)
  | _ => none
noncomputable def tgetD (kvs : List (Str × Bool)) (x : D) (H : HD) : Option (D × HD) := match x with
  | .str a => (pkAt kvs a).map fun b => (.bl b, H)
  | _ => none
theorem pk_op {fa : EF} {g : D → HD → Option (D × HD)} {K : PySem.W.Frag} {p : Addr} {σ : L2.St} {H : Hp} {Q : VK} (h : rdE K (eUn g fa) σ H Q) :
    tOp (fun x y H Q => y = .ref p ∧ rd1 K g x H Q) (rdE K fa) (tC (.ref p)) σ H Q := by
  obtain ⟨ι, σd, Hd, d, Hd', s, hr, e, q⟩ := h
  obtain ⟨⟨x, H1⟩, e1, e⟩ := Option.bind_eq_some_iff.mp e
  exact ⟨ι, σd, Hd, x, H1, s, hr, e1, fun v1 H1' ι1 l1 h1 r1 => ⟨rfl, ι1, x, H1, d, Hd', h1, r1, e, fun v H' ι' l h r => q v H' ι' (l1.trans l) h r⟩⟩
theorem op_tin {x : Str} {kvs : List (Str × Bool)} {p : Addr} {o : Obj} (hp : (p == sysModules) = false) (ho : X.K.lookup p = some o) (dict : ∀ prog, o.IsDictOf (strKind prog X.w) (kvs.map fun z => (z.1, Value.bool z.2))) :
    OpR X (compareOp .In) (fun x y H Q => y = .ref p ∧ rd1 X.K (tinD kvs) x H Q) := by
  intro pins s σ H x y v u Q I rx ry h
  obtain ⟨rfl, ι, dx, Hd, d, Hd', hr, r1, e, q⟩ := h
  have ry : u = .ref p := ry
  subst ry
  cases dx with
  | str a =>
    simp at r1
    subst r1
    obtain ⟨t, rfl⟩ := rx
    cases e
    have dk : s.heap.DictOf (strKind X.prog X.w) p _ := Heap.dictOf_iff.mpr ⟨o, I.kIn _ _ ho, dict X.prog⟩
    refine wpAny_in_of (strKind_is X.prog X.w a t) hp dk.mapOf ?_
    rw [pkAt_val, Option.isSome_map]
    exact ⟨.bl _, H, I.tok _, rfl, q _ H ι Le.refl hr (by simp)⟩
  | _ => simp [tinD] at e
theorem ptf_tin {a : Expr} {fa : EF} {x : Str} {kvs : List (Str × Bool)} {pos p2 : Pos} (hk : Pk X.w X.K X.mg x kvs) (hg : Gl X x) (ha : PEf X a fa) (hd : (x == ("__debug__" : Str)) = false := by decide) : PTf X (.Compare a [.In] [.Name x p2] pos) (tOf (eUn (tinD kvs) fa)) := by
  obtain ⟨p, o, hm, hp, ho, dict⟩ := hk
  refine PTi (pt_cmpR (op_tin (x := x) hp ho dict) ha (pe_glob (v := .ref p) hg hm rfl hd) (by with_unfolding_all rfl)) fun σ H Q zz => ?_
  obtain ⟨ι, σd, Hd, bb, Hd', s, hr, e, q⟩ := zz
  obtain ⟨⟨x, H1⟩, e1, e⟩ := Option.bind_eq_some_iff.mp e
  obtain ⟨b', eb, e⟩ := Option.map_eq_some_iff.mp e
  cases e
  exact pk_op ⟨ι, σd, Hd, x, H1, s, hr, e1, fun v H' ι' l h r => ⟨bb, rep_blD eb r, q H' ι' l h⟩⟩
theorem pef_tget {a : Expr} {fa : EF} {x : Str} {kvs : List (Str × Bool)} {pos p2 : Pos} (hk : Pk X.w X.K X.mg x kvs) (hg : Gl X x) (ha : PEf X a fa) (hs : PlainIx a) (hd : (x == ("__debug__" : Str)) = false := by decide) : PEf X (.Subscript (.Name x p2) a pos) (eUn (tgetD kvs) fa) := by
  obtain ⟨p, o, hm, hp, ho, dict⟩ := hk
  have op : IxR X (fun x y H Q => x = .ref p ∧ rd1 X.K (tgetD kvs) y H Q) := by
    intro va sl pins s σ H x y v u Q I rx ry h hs
    obtain ⟨rfl, ι, dx, Hd, d, Hd', hr, r1, e, q⟩ := h
    have rx : v = .ref p := rx
    subst rx
    cases dx with
    | str a =>
      simp at r1
      subst r1
      obtain ⟨t, rfl⟩ := ry
      obtain ⟨b, e1, e⟩ := Option.map_eq_some_iff.mp e
      cases e
      have dk : s.heap.DictOf (strKind X.prog X.w) p _ := Heap.dictOf_iff.mpr ⟨o, I.kIn _ _ ho, dict X.prog⟩
      have ty : s.TypeIs (.ref p) "dict" := dk.typeIs
      refine tail_any (ops := [.ref p, .str a t]) ty PySem.F.slot_dict_getitem.lookup (wpAny_getItem_of (strKind_is X.prog X.w a t) dk.mapOf (v := .bool b) ?_ ?_) hs
      · rw [pkAt_val, e1]; rfl
      · exact ⟨.bl _, H, I.tok _, rfl, q _ H ι Le.refl hr (by simp)⟩
    | _ => simp [tgetD] at e
  refine PEi (pe_ix op (pe_glob (v := .ref p) hg hm rfl hd) ha hs) fun σ H Q h => ?_
  obtain ⟨ι, σd, Hd, d, Hd', s, hr, e, q⟩ := h
  obtain ⟨⟨x, H1⟩, e1, e⟩ := Option.bind_eq_some_iff.mp e
  exact ⟨ι, σd, Hd, x, H1, s, hr, e1, fun v1 H1' ι1 l1 h1 r1 => ⟨rfl, ι1, x, H1, d, Hd', h1, r1, e, fun v H' ι' l h r => q v H' ι' (l1.trans l) h r⟩⟩
noncomputable abbrev JF := SD → HD → Str → Option (Str × HD)
noncomputable def PJf (X : Cx) (es : List Expr) (f : JF) : Prop := ∀ (pins : List (Addr × Obj)) (s : Shared) (σ : L2.St) (H : Hp) (out : Str) (Q : VK), Inv X pins σ H s → out.length ≤ sizeLine →
  (∃ ι σd Hd y Hd', SRep X.K H ι σ σd ∧ HRep X.K H ι Hd ∧ f σd Hd out = some (y, Hd') ∧ ∀ H' ι', Le X.K H ι H' ι' → HRep X.K H' ι' Hd' → Q (.str y) H') →
  wpAny (model X.prog X.w) X.A (joinParts out (evalEach es X.env)) (EP X pins σ Q) X.xe s
noncomputable def jNil : JF := fun _ H out => some (out, H)
noncomputable def jC (c : Str) (f : JF) : JF := fun σ H out => if (out ++ c).length ≤ sizeLine then f σ H (out ++ c) else none
noncomputable def jE (g : EF) (f : JF) : JF := fun σ H out => (g σ H).bind fun p => match p.1 with
  | .str x => if x.length ≤ sizeLine ∧ (out ++ x).length ≤ sizeLine then f σ p.2 (out ++ x) else none
  | _ => none
theorem pj_nil : PJf X [] jNil := by
  rintro pins s σ H out Q I hl ⟨ι, σd, Hd, y, Hd', ss, hr, e, q⟩
  cases e
  exact joinParts_nilE (joinParts_nil ⟨.str out, H, I.tok _, ⟨_, rfl⟩, q H ι Le.refl hr⟩ hl)
theorem pj_c {c : Str} {es : List Expr} {f : JF} {j : Nat} {p : Pos} (h : PJf X es f) : PJf X (.Constant (.str c) j p :: es) (jC c f) := by
  rintro pins s σ H out Q I hl ⟨ι, σd, Hd, y, Hd', ss, hr, e, q⟩
  unfold jC at e
  split at e
  · rename_i hz
    refine joinParts_consE (joinParts_cons (thn (pe_str (X := X) pins s σ H (fun v H2 => v = .str c ∧ H2 = H) I ⟨rfl, rfl⟩) fun u2 s2 z => ?_))
    obtain ⟨v2, H2, I2, r2, rfl, rfl⟩ := z
    obtain ⟨t2, rfl⟩ := r2
    exact ⟨hz, h pins s2 σ H2 _ Q I2 hz ⟨ι, σd, Hd, y, Hd', ss, hr, e, q⟩⟩
  · cases e
theorem pj_e {a : Expr} {g : EF} {es : List Expr} {f : JF} {p : Pos} (ha : PEf X a g) (h : PJf X es f) : PJf X (.FormattedValue a (-1) none p :: es) (jE g f) := by
  rintro pins s σ H out Q I hl ⟨ι, σd, Hd, y, Hd', ss, hr, e, q⟩
  obtain ⟨⟨d1, H1⟩, e1, e⟩ := Option.bind_eq_some_iff.mp e
  dsimp only at e
  split at e
  · rename_i x
    split at e
    · rename_i hz
      refine joinParts_consE (joinParts_cons (FormattedValue_plain (thn (ha pins s σ H (fun v H' => ∃ ι', v = .str x ∧ Le X.K H ι H' ι' ∧ HRep X.K H' ι' H1) I ⟨ι, σd, Hd, _, H1, ss, hr, e1, fun v H' ι' l h r => ⟨ι', by simpa using r, l, h⟩⟩) fun u s1 z => ?_)))
      obtain ⟨v, H', I1, r1, ι', rfl, l, hh⟩ := z
      obtain ⟨t, rfl⟩ := r1
      refine formatField_str (fun t' tk => ?_) hz.1
      exact ⟨hz.2, h pins _ σ H' _ Q (I1.tok tk) hz.2 ⟨ι', σd, H1, y, Hd', ss.mono l, hh, e, fun H2 ι2 l2 h2 => q H2 ι2 (l.trans l2) h2⟩⟩
    · cases e
  · cases e
noncomputable def eJ (f : JF) : EF := fun σ H => (f σ H Str.empty).map fun p => (.str p.1, p.2)
theorem pef_join {a b : Expr} {es : List Expr} {f : JF} {p : Pos} (h : PJf X (a :: b :: es) f) : PEf X (.JoinedStr (a :: b :: es) p) (eJ f) := by
  rintro pins s σ H Q I ⟨ι, σd, Hd, d, Hd', ss, hr, e, q⟩
  obtain ⟨⟨y, H1⟩, e1, e⟩ := Option.map_eq_some_iff.mp e
  cases e
  exact JoinedStr_many (h pins s σ H Str.empty Q I (by decide) ⟨ι, σd, Hd, y, H1, ss, hr, e1, fun H' ι' l h => q _ H' ι' l h (by simp)⟩)
theorem gc_str {K : PySem.W.Frag} {h : Heap} {mg : Str → Option Value} {x a0 : Str} {t : Tok} (X : K.In h) (G : h.Ns mainGlobals mg) (a : PySem.W.nsIn K mainGlobals x = some (some (.str a0 t))) : Gc K mg x (.str a0) :=
  ⟨_, .str a0, PySem.W.mg_of X G a, ⟨t, rfl⟩, fun _ _ => by simp⟩
theorem pk_mk2 {K : PySem.W.Frag} {w : World} {h : Heap} {mg : Str → Option Value} {x s1 s2 : Str} {p : Addr} {b1 b2 : Bool} {t1 t2 : Tok} {n : Nat} (X : K.In h) (G : h.Ns mainGlobals mg) (a : PySem.W.nsIn K mainGlobals x = some (some (.ref p)))
    (l : K.lookup p = some ⟨.type "dict", none, .dict #[⟨PyData.keyHash w.params s1, .str s1 t1, .bool b1⟩, ⟨PyData.keyHash w.params s2, .str s2 t2, .bool b2⟩] n, #[]⟩) (hp : (p == sysModules) = false) (hn : s1 ≠ s2) : Pk w K mg x [(s1, b1), (s2, b2)] := by
  refine ⟨p, _, PySem.W.mg_of X G a, hp, l, fun prog => ⟨_, _, ⟨rfl, rfl, rfl⟩, rfl, ?_, ?_, ?_⟩⟩
  · intro e he
    simp at he
    rcases he with rfl | rfl
    · exact ⟨s1, strKind_is _ _ _ _, rfl⟩
    · exact ⟨s2, strKind_is _ _ _ _, rfl⟩
  · exact .cons (strKind_is _ _ _ _) rfl (.cons (strKind_is _ _ _ _) rfl .nil)
  · simpa using hn
end
end DL
namespace DL
open PySem PySem.Spec PyProof.Rows L2
noncomputable def recQ (n1 N1 n2 N2 n3 N3 : Nat) (a b c : FF → FF → FF → SF) : Nat → FF × FF × FF
  | 0 => (runB n1 N1 fun _ _ => none, runB n2 N2 fun _ _ => none, runB n3 N3 fun _ _ => none)
  | j + 1 => (runB n1 N1 (a (recQ n1 N1 n2 N2 n3 N3 a b c j).1 (recQ n1 N1 n2 N2 n3 N3 a b c j).2.1 (recQ n1 N1 n2 N2 n3 N3 a b c j).2.2),
      runB n2 N2 (b (recQ n1 N1 n2 N2 n3 N3 a b c j).1 (recQ n1 N1 n2 N2 n3 N3 a b c j).2.1 (recQ n1 N1 n2 N2 n3 N3 a b c j).2.2),
      runB n3 N3 (c (recQ n1 N1 n2 N2 n3 N3 a b c j).1 (recQ n1 N1 n2 N2 n3 N3 a b c j).2.1 (recQ n1 N1 n2 N2 n3 N3 a b c j).2.2))
termination_by j => j
section
variable {P : Program} {w : World} {K : PySem.W.Frag} {mg : Str → Option Value} {base : Heap} {x y z : Str} {st su sv : Stmt} {N1 ps N2 qs N3 rs : List Str} {k : Nat} {a b c : FF → FF → FF → SF}
noncomputable def Body3 (P : Program) (w : World) (K : PySem.W.Frag) (mg : Str → Option Value) (base : Heap) (x y z : Str) (ps qs rs : List Str) (k : Nat) (x0 : Str) (st : Stmt) (N : List Str) (a : FF → FF → FF → SF) : Prop :=
  ∀ (F1 F2 F3 : FF) (j : Nat), Fn P w K mg base (k + 1 + j) x ps F1 → Fn P w K mg base (k + 1 + j) y qs F2 → Fn P w K mg base (k + 1 + j) z rs F3 → ∀ (f : Addr) (cdv : Value) (A : Around) (outer : List Env) (s : Shared) (H : Hp) (E : XK), Room (k + 1 + j) (A.deeper (envOfC x0 (defScope st) s.heap.objs.size f cdv)) →
      PSsf (cxOf CX0 P w K mg base N x0 (defScope st) f cdv A outer s H E).nox (defBody st) (a F1 F2 F3)
noncomputable def Bd (x : Str) (st : Stmt) (ps : List Str) : Prop := ∀ (kV doc pm : Value) (an : Option Addr) (cdv ct : Value) (us : List Value), us.length = ps.length → bindArgs (PySem.W.fnOf x x (defArgs st) (defBody st) (defScope st) .none kV doc pm an cdv ct) ⟨us, []⟩ = pure (ps.zip us)
theorem fn_rec3 (T : Tf K mg x st) (S : FnScope N1 ps (defScope st)) (hbd : Bd x st ps) (T2 : Tf K mg y su) (S2 : FnScope N2 qs (defScope su)) (hbd2 : Bd y su qs) (T3 : Tf K mg z sv) (S3 : FnScope N3 rs (defScope sv)) (hbd3 : Bd z sv rs)
    (hb : Body3 P w K mg base x y z ps qs rs k x st N1 a) (hb2 : Body3 P w K mg base x y z ps qs rs k y su N2 b) (hb3 : Body3 P w K mg base x y z ps qs rs k z sv N3 c) :
    ∀ j, Fn P w K mg base (k + 1 + j) x ps (recQ ps.length N1.length qs.length N2.length rs.length N3.length a b c j).1 ∧ Fn P w K mg base (k + 1 + j) y qs (recQ ps.length N1.length qs.length N2.length rs.length N3.length a b c j).2.1 ∧ Fn P w K mg base (k + 1 + j) z rs (recQ ps.length N1.length qs.length N2.length rs.length N3.length a b c j).2.2
  | 0 => by
    rw [recQ]
    dsimp only
    refine ⟨fn_mk (k := k) T S hbd fun f cdv A outer s H E _ => ?_, fn_mk (k := k) T2 S2 hbd2 fun f cdv A outer s H E _ => ?_, fn_mk (k := k) T3 S3 hbd3 fun f cdv A outer s H E _ => ?_⟩
    · rintro pins s' σ H' E' I ⟨ι, σd, Hd, fl, σd', Hd', _, _, e, _⟩
      cases e
    · rintro pins s' σ H' E' I ⟨ι, σd, Hd, fl, σd', Hd', _, _, e, _⟩
      cases e
    · rintro pins s' σ H' E' I ⟨ι, σd, Hd, fl, σd', Hd', _, _, e, _⟩
      cases e
  | j + 1 => by
    obtain ⟨h1, h2, h3⟩ := fn_rec3 T S hbd T2 S2 hbd2 T3 S3 hbd3 hb hb2 hb3 j
    rw [recQ]
    dsimp only
    exact ⟨fn_mk (k := k + 1 + j) T S hbd fun f cdv A outer s H E hr => hb _ _ _ j h1 h2 h3 f cdv A outer s H E hr, fn_mk (k := k + 1 + j) T2 S2 hbd2 fun f cdv A outer s H E hr => hb2 _ _ _ j h1 h2 h3 f cdv A outer s H E hr, fn_mk (k := k + 1 + j) T3 S3 hbd3 fun f cdv A outer s H E hr => hb3 _ _ _ j h1 h2 h3 f cdv A outer s H E hr⟩
end
end DL
namespace DL
open PySem L2
theorem size_ok {n : Nat} (h : n ≤ 1000000) : n ≤ sizeLine := by rw [PySem.sizeLine_eq]; omega
theorem atI_toNat {xs : List D} {i : Int} {d : D} (h0 : 0 ≤ i) (h : xs[i.toNat]? = some d) : atI xs i = some d := by
  have : i = (i.toNat : Int) := by omega
  rw [this]; exact atI_nat h
end DL
namespace LH
open PySem L2 DL
noncomputable def absZ (l : Int) : Int := if l < 0 then -l else l
noncomputable def Up (m : Int) : Int → List Int → Prop
  | _, [] => True
  | last, l :: r => last < absZ l ∧ absZ l ≤ m ∧ Up m (absZ l) r
theorem seq_nx {f g : SF} {σ σ1 : SD} {H H1 : HD} (h : f σ H = some (.nx, σ1, H1)) : sSeq f g σ H = g σ1 H1 := by
  unfold sSeq
  rw [h]
  rfl
theorem set_nx {i : Nat} {f : EF} {σ : SD} {H H1 : HD} {d : D} (h : f σ H = some (d, H1)) : sSet i f σ H = some (.nx, σ.set i (some d), H1) := by
  unfold sSet
  rw [h]
  rfl
noncomputable def IsKind (d : D) : Prop := d = .str "all" ∨ d = .str "some"
theorem ok_nil {H : HD} : okOwn [] H := by intro x hx; simp at hx
end LH
namespace LH
open PySem L2 DL
theorem toP_int (H : HD) (n : Nat) (i : Int) : toP H n (.int i) = some (.int i) := by cases n <;> rw [toP]
theorem toP_bl (H : HD) (n : Nat) (b : Bool) : toP H n (.bl b) = some (.bool b) := by cases n <;> rw [toP]
theorem dat_int (H : HD) (i : Int) : dat (.int i) H = some (.int i) := by
  simp [dat, toP_int, okP, PyData.canLay0, PyData.depth]
theorem eq_int (i j : Int) (H : HD) : eqD (.int i) (.int j) H = some (.bl (i == j), H) := by
  simp [eqD, twoS, dat_int, PyData.eqv]
theorem ne_int (i j : Int) (H : HD) : neD (.int i) (.int j) H = some (.bl (!(i == j)), H) := by
  simp [neD, twoS, dat_int, PyData.eqv]
end LH
namespace LH
open PySem L2 DL
theorem toP_str (H : HD) (n : Nat) (x : Str) : toP H n (.str x) = some (.str x) := by cases n <;> rw [toP]
theorem cut_lo (xs : List D) (k : Nat) : cutD xs (some (k : Int)) none = xs.drop k := by
  unfold cutD
  have h1 : HT.sIx xs.length 0 (some (k : Int)) = min k xs.length := by
    show (if (k : Int) < 0 then ((k : Int) + (xs.length : Int)).toNat else min (k : Int).toNat xs.length) = min k xs.length
    rw [if_neg (by omega), Int.toNat_natCast]
  have h2 : HT.sIx xs.length xs.length none = xs.length := rfl
  rw [h1, h2]
  by_cases h : k ≤ xs.length
  · rw [Nat.min_eq_left h]
    exact List.take_of_length_le (by simp)
  · rw [Nat.min_eq_right (by omega), List.drop_of_length_le (Nat.le_refl _), List.drop_of_length_le (by omega)]
    simp
theorem cut_hi (xs : List D) (k : Nat) : cutD xs none (some (k : Int)) = xs.take k := by
  unfold cutD
  have h1 : HT.sIx xs.length 0 none = 0 := rfl
  have h2 : HT.sIx xs.length xs.length (some (k : Int)) = min k xs.length := by
    show (if (k : Int) < 0 then ((k : Int) + (xs.length : Int)).toNat else min (k : Int).toNat xs.length) = min k xs.length
    rw [if_neg (by omega), Int.toNat_natCast]
  rw [h1, h2]
  simp
theorem ac {f : EF} {g : AF} {σ : SD} {H H1 H2 : HD} {d : D} {ds : List D} (h1 : f σ H = some (d, H1)) (h2 : g σ H1 = some (ds, H2)) : aCons f g σ H = some (d :: ds, H2) := by
  unfold aCons; rw [h1]; simp only [Option.bind_some]; rw [h2]; rfl
theorem an {σ : SD} {H : HD} : aNil σ H = some ([], H) := rfl
theorem cb {g : FF} {f : AF} {σ : SD} {H H1 : HD} {ds : List D} {r : Option (D × HD)} (h1 : f σ H = some (ds, H1)) (h2 : g ds H1 = r) : eCB g f σ H = r := by
  unfold eCB; rw [h1]; exact h2
theorem tu {n : Nat} {xs : List D} {H : HD} (h : H[n]? = some (.lst xs)) : tupleD [.ref n] H = some (.tup xs, H) := by
  simp [tupleD, seqD, h]
theorem tp {f : AF} {σ : SD} {H H1 : HD} {ds : List D} (h1 : f σ H = some (ds, H1)) (h2 : ds.length ≤ 1000000) : eTup f σ H = some (.tup ds, H1) := by
  unfold eTup; rw [h1]; exact if_pos (size_ok h2)
theorem ls {f : AF} {σ : SD} {H H1 : HD} {ds : List D} (h1 : f σ H = some (ds, H1)) (h2 : ds.length ≤ 1000000) : eLst f σ H = some (.ref H1.length, H1 ++ [.lst ds]) := by
  unfold eLst; rw [h1]; exact if_pos (size_ok h2)
theorem ca {n : Nat} {F : FF} {f : AF} {σ : SD} {H H1 : HD} {ds : List D} {r : Option (D × HD)} (h1 : f σ H = some (ds, H1)) (hl : ds.length = n) (h2 : F ds H1 = r) : eCall n F f σ H = r := by
  unfold eCall; rw [h1]; simp only [Option.bind_some]; rw [if_pos hl]; exact h2
theorem rt {f : EF} {σ : SD} {H H1 : HD} {d : D} (h : f σ H = some (d, H1)) : sRet f σ H = some (.rt d, σ, H1) := by
  unfold sRet; rw [h]; rfl
theorem op {g : F2} {fa fb : EF} {σ : SD} {H H1 H2 : HD} {d1 d2 : D} {r : Option (D × HD)} (h1 : fa σ H = some (d1, H1)) (h2 : fb σ H1 = some (d2, H2)) (h3 : g d1 d2 H2 = r) : eOp g fa fb σ H = r := by
  unfold eOp; rw [h1]; simp only [Option.bind_some]; rw [h2]; exact h3
theorem iff_t {t : TF} {f g : SF} {σ : SD} {H H1 : HD} {b : Bool} (h : t σ H = some (b, H1)) : sIf t f g σ H = if b = true then f σ H1 else g σ H1 := by
  unfold sIf; rw [h]; rfl
theorem tof {f : EF} {σ : SD} {H H1 : HD} {b : Bool} (h : f σ H = some (.bl b, H1)) : tOf f σ H = some (b, H1) := by
  unfold tOf; rw [h]; rfl
theorem lenT (xs : List D) (H : HD) : lenD [.tup xs] H = some (.int xs.length, H) := by simp [lenD, seqD]
theorem ixT {xs : List D} {i : Int} {d : D} {H : HD} (h : atI xs i = some d) : ixD (.tup xs) (.int i) H = some (d, H) := by simp [ixD, seqD, h]
theorem vr {i : Nat} {σ : SD} {H : HD} {d : D} (h : σ[i]? = some (some d)) : eVar i σ H = some (d, H) := by simp [eVar, h]
theorem sl {fe : EF} {fl fh : OF} {σ : SD} {H H1 H2 H3 : HD} {d : D} {l h : Option Int} {r : Option (D × HD)} (h1 : fe σ H = some (d, H1)) (h2 : fl σ H1 = some (l, H2)) (h3 : fh σ H2 = some (h, H3)) (h4 : slD d l h H3 = r) : eSl fe fl fh σ H = r := by
  unfold eSl; rw [h1]; simp only [Option.bind_some]; rw [h2]; simp only [Option.bind_some]; rw [h3]; exact h4
theorem os {f : EF} {σ : SD} {H H1 : HD} {i : Int} (h : f σ H = some (.int i, H1)) : oSome f σ H = some (some i, H1) := by
  unfold oSome; rw [h]; rfl
theorem on {σ : SD} {H : HD} : oNone σ H = some (none, H) := rfl
theorem slhi {xs : List D} {k : Nat} {H : HD} : slD (.tup xs) none (some (k : Int)) H = some (.tup (xs.take k), H) := by
  rw [← cut_hi]; rfl
theorem sllo {xs : List D} {k : Nat} {H : HD} : slD (.tup xs) (some (k : Int)) none H = some (.tup (xs.drop k), H) := by
  rw [← cut_lo]; rfl
theorem suI (i j : Int) (H : HD) : subD (.int i) (.int j) H = some (.int (i - j), H) := by simp [subD, iiD, CT]
noncomputable def rowD (ls : List Int) : D := .tup (ls.map .int)
end LH
namespace LH
open PySem L2 DL
theorem orF {t u : TF} {σ : SD} {H H1 : HD} (h : t σ H = some (false, H1)) : tOrr t u σ H = u σ H1 := by unfold tOrr; rw [h]; rfl
theorem orT {t u : TF} {σ : SD} {H H1 : HD} (h : t σ H = some (true, H1)) : tOrr t u σ H = some (true, H1) := by unfold tOrr; rw [h]; rfl
theorem anF {t u : TF} {σ : SD} {H H1 : HD} (h : t σ H = some (false, H1)) : tAn t u σ H = some (false, H1) := by unfold tAn; rw [h]; rfl
theorem anT {t u : TF} {σ : SD} {H H1 : HD} (h : t σ H = some (true, H1)) : tAn t u σ H = u σ H1 := by unfold tAn; rw [h]; rfl
theorem all_ok {H : HD} {p : Nat} {bs : List Bool} (h : H[p]? = some (.lst (bs.map .bl))) : allD [.ref p] H = some (.bl (bs.all id), H) := by
  simp [allD, h, blsD_map]
end LH
namespace WP
open PySem L2 DL LH
noncomputable def wE (r : Option (D × HD)) (Q : D → HD → Prop) : Prop := ∃ d H, r = some (d, H) ∧ Q d H
noncomputable def wT (r : Option (Bool × HD)) (Q : Bool → HD → Prop) : Prop := ∃ d H, r = some (d, H) ∧ Q d H
noncomputable def wA (r : Option (List D × HD)) (Q : List D → HD → Prop) : Prop := ∃ d H, r = some (d, H) ∧ Q d H
noncomputable def wO (r : Option (Option Int × HD)) (Q : Option Int → HD → Prop) : Prop := ∃ d H, r = some (d, H) ∧ Q d H
noncomputable def wI (r : Option ((List D × OwnD) × HD)) (Q : List D → OwnD → HD → Prop) : Prop := ∃ d o H, r = some ((d, o), H) ∧ Q d o H
noncomputable def wG (r : Option (SD × HD)) (Q : SD → HD → Prop) : Prop := ∃ d H, r = some (d, H) ∧ Q d H
noncomputable def wS (r : Option (FD × SD × HD)) (Q : FD → SD → HD → Prop) : Prop := ∃ x d H, r = some (x, d, H) ∧ Q x d H
noncomputable def wN (n : Nat) (F : FF) (ds : List D) (H : HD) (Q : D → HD → Prop) : Prop := ds.length = n ∧ wE (F ds H) Q
noncomputable def br (b : Bool) (P Q : Prop) : Prop := (b = true → P) ∧ (b = false → Q)
noncomputable def kont (k : SD → HD → Prop) (Q : FD → SD → HD → Prop) : FD → SD → HD → Prop
  | .nx, σ, H => k σ H
  | r, σ, H => Q r σ H
noncomputable def fin (Q : D → HD → Prop) : FD → SD → HD → Prop
  | .rt d, _, H => Q d H
  | .nx, _, H => Q .non H
  | _, _, _ => False
section
variable {σ : SD} {H : HD} {Q : D → HD → Prop}
theorem w_var {i : Nat} {d : D} (h : (σ[i]?).join = some d) (q : Q d H) : wE (eVar i σ H) Q := ⟨d, H, by unfold eVar; rw [h]; rfl, q⟩
theorem w_c {d : D} (q : Q d H) : wE (eC d σ H) Q := ⟨d, H, rfl, q⟩
theorem w_op {g : F2} {fa fb : EF} (h : wE (fa σ H) fun x H1 => wE (fb σ H1) fun y H2 => wE (g x y H2) Q) : wE (eOp g fa fb σ H) Q := by
  obtain ⟨x, H1, e1, y, H2, e2, d, H3, e3, q⟩ := h
  exact ⟨d, H3, op e1 e2 e3, q⟩
theorem w_un {g : D → HD → Option (D × HD)} {fa : EF} (h : wE (fa σ H) fun x H1 => wE (g x H1) Q) : wE (eUn g fa σ H) Q := by
  obtain ⟨x, H1, e1, d, H3, e3, q⟩ := h
  exact ⟨d, H3, by unfold eUn; rw [e1]; exact e3, q⟩
theorem w_tof {f : EF} {Q : Bool → HD → Prop} (h : wE (f σ H) fun d H1 => ∃ b, d = .bl b ∧ Q b H1) : wT (tOf f σ H) Q := by
  obtain ⟨d, H1, e, b, rfl, q⟩ := h
  exact ⟨b, H1, tof e, q⟩
theorem w_bl {b : Bool} {P : Bool → Prop} (h : P b) : ∃ c, D.bl b = .bl c ∧ P c := ⟨b, rfl, h⟩
theorem w_ttru {f : EF} {Q : Bool → HD → Prop} (h : wE (f σ H) fun d H1 => ∃ b, truD d H1 = some b ∧ Q b H1) : wT (tTru f σ H) Q := by
  obtain ⟨d, H1, e, b, e2, q⟩ := h
  exact ⟨b, H1, by unfold tTru; rw [e]; simp only [Option.bind_some]; rw [e2]; rfl, q⟩
theorem w_no {t : TF} {Q : Bool → HD → Prop} (h : wT (t σ H) fun b H1 => Q (!b) H1) : wT (tNo t σ H) Q := by
  obtain ⟨b, H1, e, q⟩ := h
  exact ⟨!b, H1, by unfold tNo; rw [e]; rfl, q⟩
theorem w_an {t u : TF} {Q : Bool → HD → Prop} (h : wT (t σ H) fun b H1 => br b (wT (u σ H1) Q) (Q false H1)) : wT (tAn t u σ H) Q := by
  obtain ⟨b, H1, e, q1, q2⟩ := h
  cases b with
  | true => obtain ⟨c, H2, e2, q⟩ := q1 rfl; exact ⟨c, H2, (anT e).trans e2, q⟩
  | false => exact ⟨false, H1, anF e, q2 rfl⟩
theorem w_or {t u : TF} {Q : Bool → HD → Prop} (h : wT (t σ H) fun b H1 => br b (Q true H1) (wT (u σ H1) Q)) : wT (tOrr t u σ H) Q := by
  obtain ⟨b, H1, e, q1, q2⟩ := h
  cases b with
  | true => exact ⟨true, H1, orT e, q1 rfl⟩
  | false => obtain ⟨c, H2, e2, q⟩ := q2 rfl; exact ⟨c, H2, (orF e).trans e2, q⟩
theorem w_ean {f g : EF} (h : wE (f σ H) fun d H1 => ∃ b, d = .bl b ∧ br b (wE (g σ H1) Q) (Q (.bl false) H1)) : wE (eAn f g σ H) Q := by
  obtain ⟨d, H1, e, b, rfl, q1, q2⟩ := h
  unfold eAn
  rw [e]; simp only [Option.bind_some, blD]
  cases b with
  | true => rw [if_pos rfl]; exact q1 rfl
  | false => rw [if_neg (by simp)]; exact ⟨_, _, rfl, q2 rfl⟩
theorem w_eif {t : TF} {f g : EF} (h : wT (t σ H) fun b H1 => br b (wE (f σ H1) Q) (wE (g σ H1) Q)) : wE (eIf t f g σ H) Q := by
  obtain ⟨b, H1, e, q1, q2⟩ := h
  unfold eIf
  rw [e]; simp only [Option.bind_some]
  cases b with
  | true => rw [if_pos rfl]; exact q1 rfl
  | false => rw [if_neg (by simp)]; exact q2 rfl
theorem w_anil {Q : List D → HD → Prop} (q : Q [] H) : wA (aNil σ H) Q := ⟨[], H, rfl, q⟩
theorem w_acons {f : EF} {g : AF} {Q : List D → HD → Prop} (h : wE (f σ H) fun d H1 => wA (g σ H1) fun ds H2 => Q (d :: ds) H2) : wA (aCons f g σ H) Q := by
  obtain ⟨d, H1, e1, ds, H2, e2, q⟩ := h
  exact ⟨d :: ds, H2, ac e1 e2, q⟩
theorem w_cb {g : FF} {f : AF} (h : wA (f σ H) fun ds H1 => wE (g ds H1) Q) : wE (eCB g f σ H) Q := by
  obtain ⟨ds, H1, e1, d, H2, e2, q⟩ := h
  exact ⟨d, H2, cb e1 e2, q⟩
theorem w_call {n : Nat} {F : FF} {f : AF} (h : wA (f σ H) fun ds H1 => wN n F ds H1 Q) : wE (eCall n F f σ H) Q := by
  obtain ⟨ds, H1, e1, hl, d, H2, e2, q⟩ := h
  exact ⟨d, H2, ca e1 hl e2, q⟩
theorem w_n {n : Nat} {F : FF} {ds : List D} (hl : ds.length = n) (h : wE (F ds H) Q) : wN n F ds H Q := ⟨hl, h⟩
theorem w_tup {f : AF} (h : wA (f σ H) fun ds H1 => ds.length ≤ 1000000 ∧ Q (.tup ds) H1) : wE (eTup f σ H) Q := by
  obtain ⟨ds, H1, e1, hl, q⟩ := h
  exact ⟨_, H1, tp e1 hl, q⟩
theorem w_lst {f : AF} (h : wA (f σ H) fun ds H1 => ds.length ≤ 1000000 ∧ Q (.ref H1.length) (H1 ++ [.lst ds])) : wE (eLst f σ H) Q := by
  obtain ⟨ds, H1, e1, hl, q⟩ := h
  exact ⟨_, _, ls e1 hl, q⟩
theorem w_lm {g : D → List D → HD → Option (D × HD)} {fo : EF} {f : AF} (h : wE (fo σ H) fun o H1 => isLst o H1 = true ∧ wA (f σ H1) fun ds H2 => wE (g o ds H2) Q) : wE (eLM g fo f σ H) Q := by
  obtain ⟨o, H1, e1, i, ds, H2, e2, d, H3, e3, q⟩ := h
  exact ⟨d, H3, by unfold eLM; rw [e1]; simp only [Option.bind_some]; rw [if_pos i, e2]; exact e3, q⟩
theorem w_on {Q : Option Int → HD → Prop} (q : Q none H) : wO (oNone σ H) Q := ⟨none, H, rfl, q⟩
theorem w_os {f : EF} {Q : Option Int → HD → Prop} (h : wE (f σ H) fun d H1 => ∃ i, d = .int i ∧ Q (some i) H1) : wO (oSome f σ H) Q := by
  obtain ⟨d, H1, e, i, rfl, q⟩ := h
  exact ⟨some i, H1, os e, q⟩
theorem w_int {i : Int} {P : Int → Prop} (h : P i) : ∃ c, D.int i = .int c ∧ P c := ⟨i, rfl, h⟩
theorem w_sl {fe : EF} {fl fh : OF} (h : wE (fe σ H) fun x H1 => wO (fl σ H1) fun l H2 => wO (fh σ H2) fun u H3 => wE (slD x l u H3) Q) : wE (eSl fe fl fh σ H) Q := by
  obtain ⟨x, H1, e1, l, H2, e2, u, H3, e3, d, H4, e4, q⟩ := h
  exact ⟨d, H4, sl e1 e2 e3 e4, q⟩
variable {R : FD → SD → HD → Prop}
theorem w_snil (q : R .nx σ H) : wS (sNil σ H) R := ⟨_, _, _, rfl, q⟩
theorem w_seq {f g : SF} (h : wS (f σ H) (kont (fun σ1 H1 => wS (g σ1 H1) R) R)) : wS (sSeq f g σ H) R := by
  obtain ⟨x, σ1, H1, e, k⟩ := h
  unfold sSeq
  rw [e]; simp only [Option.bind_some]
  cases x with
  | nx => exact k
  | bk => exact ⟨_, _, _, rfl, k⟩
  | ct => exact ⟨_, _, _, rfl, k⟩
  | rt d => exact ⟨_, _, _, rfl, k⟩
theorem w_kn {k : SD → HD → Prop} (h : k σ H) : kont k R .nx σ H := h
theorem w_kr {k : SD → HD → Prop} {d : D} (h : R (.rt d) σ H) : kont k R (.rt d) σ H := h
theorem w_cut {r : Option (FD × SD × HD)} {k : SD → HD → Prop} (J : SD → HD → Prop) (h : wS r fun x σ H => x = .nx ∧ J σ H) (q : ∀ σ H, J σ H → k σ H) : wS r (kont k R) := by
  obtain ⟨x, s, H, e, rfl, j⟩ := h
  exact ⟨_, s, H, e, q s H j⟩
theorem w_fr {d : D} (h : Q d H) : fin Q (.rt d) σ H := h
theorem w_ret {f : EF} (h : wE (f σ H) fun d H1 => R (.rt d) σ H1) : wS (sRet f σ H) R := by
  obtain ⟨d, H1, e, q⟩ := h; exact ⟨_, _, _, rt e, q⟩
theorem w_expr {f : EF} (h : wE (f σ H) fun d H1 => R .nx σ H1) : wS (sExpr f σ H) R := by
  obtain ⟨d, H1, e, q⟩ := h; exact ⟨_, _, _, by unfold sExpr; rw [e]; rfl, q⟩
theorem w_if {t : TF} {f g : SF} (h : wT (t σ H) fun b H1 => br b (wS (f σ H1) R) (wS (g σ H1) R)) : wS (sIf t f g σ H) R := by
  obtain ⟨b, H1, e, q1, q2⟩ := h
  rw [iff_t e]
  cases b with
  | true => rw [if_pos rfl]; exact q1 rfl
  | false => rw [if_neg (by simp)]; exact q2 rfl
theorem w_set {i : Nat} {f : EF} (h : wE (f σ H) fun d H1 => R .nx (σ.set i (some d)) H1) : wS (sSet i f σ H) R := by
  obtain ⟨d, H1, e, q⟩ := h; exact ⟨_, _, _, by unfold sSet; rw [e]; rfl, q⟩
theorem w_gnm {i : Nat} {d : D} {Q : SD → HD → Prop} (h : Q (σ.set i (some d)) H) : wG (gNm i d σ H) Q := ⟨_, _, rfl, h⟩
theorem w_for {it : ItF} {g : GF} {b : SF} (h : wI (it σ H) fun xs own H1 => wS (forL own g b xs σ H1) R) : wS (sFor it g b σ H) R := by
  obtain ⟨xs, own, H1, e, q⟩ := h
  unfold sFor; rw [e]; exact q
theorem w_run {n N : Nat} {b : SF} {ds : List D} (hl : ds.length = n) (h : wS (b (ds.map some ++ List.replicate (N - ds.length) none) H) (fin Q)) : wE (runB n N b ds H) Q := by
  obtain ⟨x, s, H1, e, q⟩ := h
  unfold runB
  rw [if_pos hl, e]
  simp only [Option.bind_some]
  cases x with
  | nx => exact ⟨_, _, rfl, q⟩
  | rt d => exact ⟨_, _, rfl, q⟩
  | bk => exact q.elim
  | ct => exact q.elim
theorem w_lc {it : ItF} {ci : List Nat} {tt : TF} {te : EF} (h : wI (it σ H) fun xs own H1 => wA (compL own (capD ci σ) tt te xs H1) fun ds H2 => ds.length ≤ 1000000 ∧ Q (.ref H2.length) (H2 ++ [.lst ds])) : wE (eLC it ci tt te σ H) Q := by
  obtain ⟨xs, own, H1, e, ds, H2, e2, hl, q⟩ := h
  exact ⟨_, _, by unfold eLC; rw [e]; simp only [Option.bind_some]; rw [e2]; exact if_pos (size_ok hl), q⟩
theorem w_bt {P S : Prop} (h : P) : br true P S := ⟨fun _ => h, nofun⟩
theorem w_bf {P S : Prop} (h : S) : br false P S := ⟨nofun, fun _ => h⟩
theorem w_bnt {P S : Prop} (h : P) : br (!false) P S := ⟨fun _ => h, nofun⟩
theorem w_bnf {P S : Prop} (h : S) : br (!true) P S := ⟨nofun, fun _ => h⟩
theorem w_bT {b : Bool} {P S : Prop} (e : b = true) (h : P) : br b P S := by subst e; exact w_bt h
theorem w_bF {b : Bool} {P S : Prop} (e : b = false) (h : S) : br b P S := by subst e; exact w_bf h
theorem w_sz {ds : List D} {P : Prop} (h : ds.length ≤ 1000000) (q : P) : ds.length ≤ 1000000 ∧ P := ⟨h, q⟩
theorem w_addI {i j : Int} (q : Q (.int (i + j)) H) : wE (addD (.int i) (.int j) H) Q := ⟨_, _, rfl, q⟩
theorem w_subI {i j : Int} (q : Q (.int (i - j)) H) : wE (subD (.int i) (.int j) H) Q := ⟨_, _, suI i j H, q⟩
theorem w_lt {i j : Int} (q : Q (.bl (decide (i < j))) H) : wE (ltD (.int i) (.int j) H) Q := ⟨_, _, by simp [ltD, iiD, CT], q⟩
theorem w_le {i j : Int} (q : Q (.bl (decide (i ≤ j))) H) : wE (leD (.int i) (.int j) H) Q := ⟨_, _, by simp [leD, iiD, CT], q⟩
theorem w_gt {i j : Int} (q : Q (.bl (decide (j < i))) H) : wE (gtD (.int i) (.int j) H) Q := ⟨_, _, by simp [gtD, iiD, CT], q⟩
theorem w_ge {i j : Int} (q : Q (.bl (decide (j ≤ i))) H) : wE (geD (.int i) (.int j) H) Q := ⟨_, _, by simp [geD, iiD, CT], q⟩
theorem w_mod {i j : Int} (h : 0 < j) (q : Q (.int (i % j)) H) : wE (modD (.int i) (.int j) H) Q := ⟨_, _, by have c : CPos i j := h; simp [modD, iiD, c], q⟩
theorem w_fdiv {i j : Int} (h : 0 < j) (h2 : j < 1073741824) (q : Q (.int (i / j)) H) : wE (fdivD (.int i) (.int j) H) Q := ⟨_, _, by have c : CDiv i j := ⟨h, h2⟩; simp [fdivD, iiD, c], q⟩
theorem w_mulL {i j : Int} (h1 : -(2 ^ 64) < i) (h2 : i < 2 ^ 64) (q : Q (.int (i * j)) H) : wE (mulD (.int i) (.int j) H) Q := ⟨_, _, by have c : CMul i j := .inl ⟨h1, h2⟩; simp [mulD, c], q⟩
theorem w_mulR {i j : Int} (h1 : -(2 ^ 64) < j) (h2 : j < 2 ^ 64) (q : Q (.int (i * j)) H) : wE (mulD (.int i) (.int j) H) Q := ⟨_, _, by have c : CMul i j := .inr ⟨h1, h2⟩; simp [mulD, c], q⟩
theorem w_pow {i j : Int} (h1 : 0 ≤ j) (h2 : j ≤ 1000000) (h3 : i.natAbs < 2 ^ 64) (q : Q (.int (i ^ j.toNat)) H) : wE (powD (.int i) (.int j) H) Q := ⟨_, _, by have c : CPow i j := ⟨h1, h2, h3⟩; simp [powD, iiD, c], q⟩
theorem w_eqI {i j : Int} (q : Q (.bl (i == j)) H) : wE (eqD (.int i) (.int j) H) Q := ⟨_, _, eq_int _ _ _, q⟩
theorem w_eqS {a b : Str} (q : Q (.bl (a == b)) H) : wE (eqD (.str a) (.str b) H) Q := ⟨_, _, rfl, q⟩
theorem w_neS {a b : Str} (q : Q (.bl (a != b)) H) : wE (neD (.str a) (.str b) H) Q := ⟨_, _, rfl, q⟩
theorem w_lenT {xs : List D} (q : Q (.int xs.length) H) : wE (lenD [.tup xs] H) Q := ⟨_, _, lenT xs H, q⟩
theorem w_lenR {n : Nat} {xs : List D} (h : H[n]? = some (.lst xs)) (q : Q (.int xs.length) H) : wE (lenD [.ref n] H) Q := ⟨_, _, by simp [lenD, seqD, h], q⟩
theorem w_lenF {xs : List D} (q : Q (.int xs.length) H) : wE (lenD [.fl xs] H) Q := ⟨_, _, by simp [lenD, seqD], q⟩
theorem w_abs {i : Int} (q : Q (.int (absZ i)) H) : wE (absD [.int i] H) Q := ⟨_, _, rfl, q⟩
theorem w_ixT {xs : List D} {i : Int} {d : D} (h : atI xs i = some d) (q : Q d H) : wE (ixD (.tup xs) (.int i) H) Q := ⟨_, _, ixT h, q⟩
theorem w_ixR {n : Nat} {xs : List D} {i : Int} {d : D} (g : H[n]? = some (.lst xs)) (h : atI xs i = some d) (q : Q d H) : wE (ixD (.ref n) (.int i) H) Q := ⟨_, _, by simp [ixD, seqD, g, h], q⟩
theorem w_ixF {xs : List D} {i : Int} {d : D} (h : atI xs i = some d) (q : Q d H) : wE (ixD (.fl xs) (.int i) H) Q := ⟨_, _, by simp [ixD, seqD, h], q⟩
theorem w_intB {b : Bool} (q : Q (.int (if b then 1 else 0)) H) : wE (intD [.bl b] H) Q := ⟨_, _, rfl, q⟩
theorem w_max {i j : Int} (q : Q (.int (if j > i then j else i)) H) : wE (maxD [.int i, .int j] H) Q := ⟨_, _, rfl, q⟩
theorem w_min {i j : Int} (q : Q (.int (if j < i then j else i)) H) : wE (minD [.int i, .int j] H) Q := ⟨_, _, rfl, q⟩
theorem w_tupR {n : Nat} {xs : List D} (h : H[n]? = some (.lst xs)) (q : Q (.tup xs) H) : wE (tupleD [.ref n] H) Q := ⟨_, _, tu h, q⟩
theorem w_app {n : Nat} {xs : List D} {d : D} (h : H[n]? = some (.lst xs)) (hl : xs.length < 1000000) (q : Q .non (H.set n (.lst (xs ++ [d])))) : wE (appendD (.ref n) [d] H) Q :=
  ⟨_, _, by simp [appendD, h, Nat.lt_of_lt_of_le hl (size_ok (Nat.le_refl _))], q⟩
theorem w_isi {d : D} {c t : String} (ha : asked c = true) (h : tyD d H = some t) (q : Q (.bl (t == c || (t == "bool" && c == "int"))) H) : wE (isiD [d, .ty c] H) Q := ⟨_, _, by simp [isiD, ha, h], q⟩
theorem w_isN {d : D} {b : Bool} (h : isB d .non = some b) (q : Q (.bl b) H) : wE (isD d .non H) Q := ⟨_, _, by simp [isD, h], q⟩
theorem w_isnN {d : D} {b : Bool} (h : isB d .non = some b) (q : Q (.bl (!b)) H) : wE (isnD d .non H) Q := ⟨_, _, by simp [isnD, h], q⟩
theorem w_dlen {n : Nat} {kvs : List (D × D)} {fz : Bool} (h : H[n]? = some (.dic kvs fz)) (q : Q (.int kvs.length) H) : wE (dlenD [.ref n] H) Q := ⟨_, _, by simp [dlenD, dicD, h], q⟩
theorem w_dget {n : Nat} {kvs : List (D × D)} {fz : Bool} {k : D} {ks : List Int} {v : D} (h : H[n]? = some (.dic kvs fz)) (hk : nk k = some ks) (hv : dlook kvs ks = some v) (q : Q v H) : wE (dgetD (.ref n) k H) Q := ⟨_, _, by simp [dgetD, dicD, h, hk, hv], q⟩
theorem w_truB {b : Bool} {P : Bool → Prop} (h : P b) : ∃ c, truD (.bl b) H = some c ∧ P c := ⟨b, rfl, h⟩
theorem w_isi' {d : D} {c t : String} {r : Bool} (ha : asked c = true) (h : tyD d H = some t) (hr : (t == c || (t == "bool" && c == "int")) = r) (q : Q (.bl r) H) : wE (isiD [d, .ty c] H) Q := w_isi ha h (by rw [hr]; exact q)
theorem w_eqS' {a b : Str} {r : Bool} (hr : (a == b) = r) (q : Q (.bl r) H) : wE (eqD (.str a) (.str b) H) Q := w_eqS (by rw [hr]; exact q)
theorem w_neS' {a b : Str} {r : Bool} (hr : (a == b) = r) (q : Q (.bl (!r)) H) : wE (neD (.str a) (.str b) H) Q := w_neS (by rw [bne, hr]; exact q)
theorem w_eqI' {a b : Int} {r : Bool} (hr : (a == b) = r) (q : Q (.bl r) H) : wE (eqD (.int a) (.int b) H) Q := w_eqI (by rw [hr]; exact q)
variable {I : List D → OwnD → HD → Prop}
theorem w_isq {f : EF} (h : wE (f σ H) fun d H1 => ∃ xs own, itemsD d H1 = some (xs, own) ∧ I xs own H1) : wI (iSq f σ H) I := by
  obtain ⟨d, H1, e, xs, own, e2, q⟩ := h
  exact ⟨xs, own, H1, by unfold iSq; rw [e]; simp only [Option.bind_some]; rw [e2]; rfl, q⟩
theorem w_itT {xs : List D} {P : List D → OwnD → Prop} (h : P xs []) : ∃ ys own, itemsD (.tup xs) H = some (ys, own) ∧ P ys own := ⟨_, _, rfl, h⟩
theorem w_itR {n : Nat} {xs : List D} {P : List D → OwnD → Prop} (g : H[n]? = some (.lst xs)) (h : P xs [(n, .lst xs)]) : ∃ ys own, itemsD (.ref n) H = some (ys, own) ∧ P ys own := ⟨_, _, by simp [itemsD, g], h⟩
theorem w_ir1 {f : AF} (h : wA (f σ H) fun ds H1 => ∃ j, ds = [.int j] ∧ smallI j ∧ I (rangeL 0 j.toNat) [] H1) : wI (iR1 f σ H) I := by
  obtain ⟨ds, H1, e, j, rfl, s, q⟩ := h
  exact ⟨_, _, H1, by unfold iR1; rw [e]; exact if_pos s, q⟩
theorem w_idic {f : EF} (h : wE (f σ H) fun d H1 => ∃ n kvs fz, d = .ref n ∧ H1[n]? = some (.dic kvs fz) ∧ I (kvs.map (·.1)) [(n, .dic kvs true)] (H1.set n (.dic kvs true))) : wI (iDic f σ H) I := by
  obtain ⟨d, H1, e, n, kvs, fz, rfl, g, q⟩ := h
  exact ⟨_, _, _, by unfold iDic; rw [e]; simp only [Option.bind_some, g], q⟩
theorem w_fnil {own : OwnD} {g : GF} {b : SF} (h : okOwn own H) (q : R .nx σ H) : wS (forL own g b [] σ H) R := ⟨_, _, _, by rw [forL, if_pos h], q⟩
noncomputable def again (k : SD → HD → Prop) (R : FD → SD → HD → Prop) : FD → SD → HD → Prop
  | .nx, σ, H => k σ H
  | .ct, σ, H => k σ H
  | .bk, σ, H => R .nx σ H
  | .rt d, σ, H => R (.rt d) σ H
theorem w_fcons {own : OwnD} {g : GF} {b : SF} {x : D} {r : List D} (h : okOwn own H) (q : wG (g x σ H) fun σ1 H1 => wS (b σ1 H1) (again (fun σ2 H2 => wS (forL own g b r σ2 H2) R) R)) : wS (forL own g b (x :: r) σ H) R := by
  obtain ⟨σ1, H1, e1, y, σ2, H2, e2, q⟩ := q
  rw [forL, if_pos h, e1]
  simp only [Option.bind_some]
  rw [e2]
  cases y with
  | nx => exact q
  | ct => exact q
  | bk => exact ⟨_, _, _, rfl, q⟩
  | rt d => exact ⟨_, _, _, rfl, q⟩
theorem w_agn {k : SD → HD → Prop} (h : k σ H) : again k R .nx σ H := h
theorem w_agr {k : SD → HD → Prop} {d : D} (h : R (.rt d) σ H) : again k R (.rt d) σ H := h
theorem w_loop {own : OwnD} {g : GF} {b : SF} (Inv : List D → List D → SD → HD → Prop) (ho : ∀ d t σ H, Inv d t σ H → okOwn own H)
    (st : ∀ d x t σ H, Inv d (x :: t) σ H → wG (g x σ H) fun σ1 H1 => wS (b σ1 H1) (again (fun σ2 H2 => Inv (d ++ [x]) t σ2 H2) R))
    (q : ∀ d σ H, Inv d [] σ H → R .nx σ H) : ∀ (t d : List D) (σ : SD) (H : HD), Inv d t σ H → wS (forL own g b t σ H) R
  | [], d, σ, H, i => w_fnil (ho _ _ _ _ i) (q d σ H i)
  | x :: t, d, σ, H, i => by
    refine w_fcons (ho _ _ _ _ i) ?_
    obtain ⟨σ1, H1, e1, y, σ2, H2, e2, k⟩ := st d x t σ H i
    refine ⟨σ1, H1, e1, y, σ2, H2, e2, ?_⟩
    cases y with
    | nx => exact w_loop Inv ho st q t _ σ2 H2 k
    | ct => exact w_loop Inv ho st q t _ σ2 H2 k
    | bk => exact k
    | rt d => exact k
theorem w_each {own : OwnD} {g : GF} {b : SF} (Inv : SD → HD → Prop) (ho : ∀ σ H, Inv σ H → okOwn own H) : ∀ (xs : List D) (st : ∀ x ∈ xs, ∀ σ H, Inv σ H → wG (g x σ H) fun σ1 H1 => wS (b σ1 H1) (again Inv R)) (σ : SD) (H : HD), Inv σ H → (∀ σ H, Inv σ H → R .nx σ H) → wS (forL own g b xs σ H) R
  | [], st, σ, H, i, q => w_fnil (ho _ _ i) (q σ H i)
  | x :: t, st, σ, H, i, q => by
    refine w_fcons (ho _ _ i) ?_
    obtain ⟨σ1, H1, e1, y, σ2, H2, e2, k⟩ := st x (by simp) σ H i
    refine ⟨σ1, H1, e1, y, σ2, H2, e2, ?_⟩
    cases y with
    | nx => exact w_each Inv ho t (fun z hz => st z (by simp [hz])) σ2 H2 k q
    | ct => exact w_each Inv ho t (fun z hz => st z (by simp [hz])) σ2 H2 k q
    | bk => exact k
    | rt d => exact k
theorem w_wh {t : TF} {b : SF} {n : Nat} (h : wT (t σ H) fun x H1 => br x (wS (b σ H1) (again (fun σ2 H2 => wS (sWh t b n σ2 H2) R) R)) (R .nx σ H1)) : wS (sWh t b (n + 1) σ H) R := by
  obtain ⟨x, H1, e, q1, q2⟩ := h
  rw [sWh]
  dsimp only
  rw [e]
  simp only [Option.bind_some]
  cases x with
  | true =>
    rw [if_pos rfl]
    obtain ⟨y, σ2, H2, e2, q⟩ := q1 rfl
    rw [e2]
    cases y with
    | nx => exact q
    | ct => exact q
    | bk => exact ⟨_, _, _, rfl, q⟩
    | rt d => exact ⟨_, _, _, rfl, q⟩
  | false => rw [if_neg (by simp)]; exact ⟨_, _, _, rfl, q2 rfl⟩
theorem w_while {t : TF} {b : SF} (Inv : Nat → SD → HD → Prop) (st : ∀ m σ H, Inv m σ H → wT (t σ H) fun x H1 => br x (∃ m', m = m' + 1 ∧ wS (b σ H1) (again (Inv m') R)) (R .nx σ H1)) : ∀ (n m : Nat) (σ : SD) (H : HD), m < n → Inv m σ H → wS (sWh t b n σ H) R
  | 0, m, σ, H, h, i => by omega
  | n + 1, m, σ, H, h, i => by
    refine w_wh ?_
    obtain ⟨x, H1, e, q1, q2⟩ := st m σ H i
    refine ⟨x, H1, e, fun hx => ?_, q2⟩
    obtain ⟨m', rfl, y, σ2, H2, e2, q⟩ := q1 hx
    refine ⟨y, σ2, H2, e2, ?_⟩
    cases y with
    | nx => exact w_while Inv st n m' σ2 H2 (by omega) q
    | ct => exact w_while Inv st n m' σ2 H2 (by omega) q
    | bk => exact q
    | rt d => exact q
theorem w_cnil {own : OwnD} {c0 : SD} {tt : TF} {te : EF} {Q : List D → HD → Prop} (h : okOwn own H) (q : Q [] H) : wA (compL own c0 tt te [] H) Q := ⟨_, _, by rw [compL, if_pos h], q⟩
theorem w_ccons {own : OwnD} {c0 : SD} {tt : TF} {te : EF} {x : D} {r : List D} {Q : List D → HD → Prop} (h : okOwn own H)
    (q : wT (tt (some x :: c0) H) fun b H1 => br b (wE (te (some x :: c0) H1) fun e H2 => wA (compL own c0 tt te r H2) fun es H3 => Q (e :: es) H3) (wA (compL own c0 tt te r H1) Q)) : wA (compL own c0 tt te (x :: r) H) Q := by
  obtain ⟨b, H1, e1, q1, q2⟩ := q
  rw [compL, if_pos h, e1]
  simp only [Option.bind_some]
  cases b with
  | true =>
    obtain ⟨e, H2, e2, es, H3, e3, q⟩ := q1 rfl
    exact ⟨e :: es, H3, by rw [if_pos rfl, e2]; simp only [Option.bind_some]; rw [e3]; rfl, q⟩
  | false => rw [if_neg (by simp)]; exact q2 rfl
theorem w_yes {Q : Bool → HD → Prop} (q : Q true H) : wT (tYes σ H) Q := ⟨_, _, rfl, q⟩
theorem w_comp {own : OwnD} {c0 : SD} {tt : TF} {te : EF} (Inv : List D → List D → List D → HD → Prop) (ho : ∀ d t o H, Inv d t o H → okOwn own H)
    (st : ∀ d x t o H, Inv d (x :: t) o H → wT (tt (some x :: c0) H) fun b H1 => br b (wE (te (some x :: c0) H1) fun e H2 => Inv (d ++ [x]) t (o ++ [e]) H2) (Inv (d ++ [x]) t o H1))
    {Q : List D → HD → Prop} : ∀ (t d o : List D) (H : HD), Inv d t o H → (∀ d o' H', Inv d [] (o ++ o') H' → Q o' H') → wA (compL own c0 tt te t H) Q
  | [], d, o, H, i, q => w_cnil (ho _ _ _ _ i) (q d [] H (by rw [List.append_nil]; exact i))
  | x :: t, d, o, H, i, q => by
    refine w_ccons (ho _ _ _ _ i) ?_
    obtain ⟨b, H1, e1, q1, q2⟩ := st d x t o H i
    refine ⟨b, H1, e1, fun h => ?_, fun h => ?_⟩
    · obtain ⟨e, H2, e2, k⟩ := q1 h
      refine ⟨e, H2, e2, ?_⟩
      refine w_comp Inv ho st t _ _ H2 k fun d' o' H' i' => q d' (e :: o') H' ?_
      rw [List.append_assoc] at i'; exact i'
    · exact w_comp Inv ho st t _ _ H1 (q2 h) fun d' o' H' i' => q d' o' H' i'
theorem w_cfilter {own : OwnD} {c0 : SD} {tt : TF} (f : D → Bool) (J : HD → Prop) (ho : ∀ H, J H → okOwn own H) {Q : List D → HD → Prop} : ∀ (xs : List D) (st : ∀ x ∈ xs, ∀ H, J H → wT (tt (some x :: c0) H) fun b H1 => b = f x ∧ J H1) (H : HD), J H → (∀ H', J H' → Q (xs.filter f) H') → wA (compL own c0 tt (eVar 0) xs H) Q
  | [], st, H, j, q => w_cnil (ho H j) (q H j)
  | x :: xs, st, H, j, q => by
    refine w_ccons (ho H j) ?_
    obtain ⟨b, H1, e, rfl, j1⟩ := st x (by simp) H j
    refine ⟨_, H1, e, fun h => ?_, fun h => ?_⟩
    · refine ⟨x, H1, rfl, ?_⟩
      refine w_cfilter f J ho xs (fun y hy => st y (by simp [hy])) H1 j1 fun H' j' => ?_
      have := q H' j'
      rwa [List.filter_cons_of_pos h] at this
    · refine w_cfilter f J ho xs (fun y hy => st y (by simp [hy])) H1 j1 fun H' j' => ?_
      have := q H' j'
      rwa [List.filter_cons_of_neg (by rw [h]; simp)] at this
theorem w_cmap {own : OwnD} {c0 : SD} {te : EF} (g : D → D) (J : HD → Prop) (ho : ∀ H, J H → okOwn own H) {Q : List D → HD → Prop} : ∀ (xs : List D) (st : ∀ x ∈ xs, ∀ H, J H → wE (te (some x :: c0) H) fun d H1 => d = g x ∧ J H1) (H : HD), J H → (∀ H', J H' → Q (xs.map g) H') → wA (compL own c0 tYes te xs H) Q
  | [], st, H, j, q => w_cnil (ho H j) (q H j)
  | x :: xs, st, H, j, q => by
    refine w_ccons (ho H j) (w_yes (w_bt ?_))
    obtain ⟨b, H1, e, rfl, j1⟩ := st x (by simp) H j
    exact ⟨_, H1, e, w_cmap g J ho xs (fun y hy => st y (by simp [hy])) H1 j1 q⟩
end
structure Fm (S : List Nat) (H H' : HD) : Prop where
  old : ∀ (m : Nat) (o : DO), m ∉ S → H[m]? = some o → H'[m]? = some o ∨ ∃ kvs, o = .dic kvs false ∧ H'[m]? = some (.dic kvs true)
  len : H.length ≤ H'.length
theorem Fm.refl {S : List Nat} {H : HD} : Fm S H H := ⟨fun _ _ _ h => .inl h, Nat.le_refl _⟩
theorem Fm.trans {S : List Nat} {H H1 H2 : HD} (a : Fm S H H1) (b : Fm S H1 H2) : Fm S H H2 := by
  refine ⟨fun m o hm h => ?_, Nat.le_trans a.len b.len⟩
  rcases a.old m o hm h with h1 | ⟨kvs, rfl, h1⟩
  · exact b.old m o hm h1
  · rcases b.old m _ hm h1 with h2 | ⟨k2, e, _⟩
    · exact .inr ⟨kvs, rfl, h2⟩
    · cases e
theorem Fm.sub {S T : List Nat} {H H' : HD} (a : Fm S H H') (h : ∀ m ∈ S, m ∈ T) : Fm T H H' := ⟨fun m o hm q => a.old m o (fun z => hm (h m z)) q, a.len⟩
theorem Fm.app {S : List Nat} {H : HD} (L : HD) : Fm S H (H ++ L) := ⟨fun m o _ q => .inl (by
  have : m < H.length := (List.getElem?_eq_some_iff.mp q).1
  rw [List.getElem?_append_left this]; exact q), by simp⟩
theorem Fm.set {S : List Nat} {H : HD} {p : Nat} {o : DO} (h : p ∈ S) : Fm S H (H.set p o) := ⟨fun m u hm q => .inl (by rw [List.getElem?_set_ne (fun z => hm (by rw [← z]; exact h))]; exact q), by simp⟩
theorem Fm.new {S T : List Nat} {H H1 H' : HD} (a : Fm S H H1) (b : Fm T H1 H') (h : ∀ m ∈ T, m ∉ S → H.length ≤ m) : Fm S H H' := by
  refine ⟨fun m o hm q => ?_, Nat.le_trans a.len b.len⟩
  have lt : m < H.length := (List.getElem?_eq_some_iff.mp q).1
  have ht : m ∉ T := fun z => by have := h m z hm; omega
  rcases a.old m o hm q with h1 | ⟨kvs, rfl, h1⟩
  · exact b.old m o ht h1
  · rcases b.old m _ ht h1 with h2 | ⟨k2, e, _⟩
    · exact .inr ⟨kvs, rfl, h2⟩
    · cases e
theorem Fm.lst {S : List Nat} {H H' : HD} (x : Fm S H H') {m : Nat} {xs : List D} (hm : m ∉ S) (h : H[m]? = some (.lst xs)) : H'[m]? = some (.lst xs) := by
  rcases x.old m _ hm h with h1 | ⟨k2, e, _⟩
  · exact h1
  · cases e
theorem Fm.fr {S : List Nat} {H H' : HD} (x : Fm S H H') {m : Nat} {kvs : List (D × D)} (hm : m ∉ S) (h : H[m]? = some (.dic kvs true)) : H'[m]? = some (.dic kvs true) := by
  rcases x.old m _ hm h with h1 | ⟨k2, e, _⟩
  · exact h1
  · cases e
theorem Fm.dic {S : List Nat} {H H' : HD} (x : Fm S H H') {m : Nat} {kvs : List (D × D)} {fz : Bool} (hm : m ∉ S) (h : H[m]? = some (.dic kvs fz)) : ∃ fz', H'[m]? = some (.dic kvs fz') := by
  rcases x.old m _ hm h with h1 | ⟨k2, e, h1⟩
  · exact ⟨fz, h1⟩
  · cases e; exact ⟨true, h1⟩
theorem isl {H : HD} {n : Nat} {xs : List D} (h : H[n]? = some (.lst xs)) : isLst (.ref n) H = true := by simp [isLst, h]
theorem own1 {H : HD} {n : Nat} {o : DO} (h : H[n]? = some o) : okOwn [(n, o)] H := by intro p hp; simp at hp; subst hp; exact h
theorem own0 {H : HD} : okOwn [] H := by intro p hp; cases hp
theorem last {H : HD} {o : DO} : (H ++ [o])[H.length]? = some o := by simp
theorem appL {H : HD} {n : Nat} {o u : DO} (h : H[n]? = some o) : (H ++ [u])[n]? = some o := by
  rw [List.getElem?_append_left (List.getElem?_eq_some_iff.mp h).1]; exact h
theorem setO {H : HD} {n m : Nat} {o u : DO} (hn : n ≠ m) (h : H[m]? = some o) : (H.set n u)[m]? = some o := by rw [List.getElem?_set_ne hn]; exact h
theorem setS {H : HD} {n : Nat} {o u : DO} (h : H[n]? = some u) : (H.set n o)[n]? = some o := List.getElem?_set_self (List.getElem?_eq_some_iff.mp h).1
end WP
namespace WP
open PySem L2 DL LH
structure Fine (d : D) (x : PyData) (h : Nat) : Prop where
  to : ∀ H n, toP H n d = some x
  lay : x.canLay0 = true
  dep : x.depth ≤ h
theorem Fine.int (i : Int) : Fine (.int i) (.int i) 0 := ⟨fun H n => toP_int H n i, rfl, Nat.le_refl _⟩
theorem Fine.bl (b : Bool) : Fine (.bl b) (.bool b) 0 := ⟨fun H n => toP_bl H n b, rfl, Nat.le_refl _⟩
theorem Fine.str {s : Str} (h : PyData.strOk s = true) : Fine (.str s) (.str s) 0 := ⟨fun H n => toP_str H n s, h, Nat.le_refl _⟩
structure Fines (ds : List D) (xs : List PyData) (h : Nat) : Prop where
  to : ∀ H n, toPs H n ds = some xs
  lay : PyData.canLayAll0 xs = true
  dep : PyData.depthAll xs ≤ h
  len : xs.length = ds.length
theorem Fines.nil {h : Nat} : Fines [] [] h := ⟨fun H n => by rw [toPs], rfl, Nat.zero_le _, rfl⟩
theorem Fines.cons {d : D} {x : PyData} {ds : List D} {xs : List PyData} {h : Nat} (a : Fine d x h) (b : Fines ds xs h) : Fines (d :: ds) (x :: xs) h :=
  ⟨fun H n => by rw [toPs, a.to, b.to]; rfl, by simp [PyData.canLayAll0, a.lay, b.lay], by simp only [PyData.depthAll]; exact Nat.max_le.mpr ⟨a.dep, b.dep⟩, by simp [b.len]⟩
theorem Fine.tup {ds : List D} {xs : List PyData} {h : Nat} (f : Fines ds xs h) : Fine (.tup ds) (.tuple xs) (h + 1) :=
  ⟨fun H n => by cases n <;> rw [toP, f.to] <;> rfl, f.lay, Nat.succ_le_succ f.dep⟩
theorem Fine.dat {d : D} {x : PyData} {h : Nat} (f : Fine d x h) (l : h ≤ 30) (H : HD) : DL.dat d H = some x := by
  unfold DL.dat
  rw [f.to]
  have : x.depth ≤ 30 := Nat.le_trans f.dep l
  simp [okP, f.lay, this]
theorem Fines.dat {ds : List D} {xs : List PyData} {h : Nat} (f : Fines ds xs h) (l : h < 30) {H : HD} {p : Nat} (g : H[p]? = some (.lst ds)) : DL.dat (.ref p) H = some (.list xs) := by
  unfold DL.dat
  rw [toP]
  simp only [g]
  rw [f.to]
  have : (PyData.list xs).depth ≤ 30 := Nat.le_trans (Nat.succ_le_succ f.dep) l
  have h2 : (PyData.list xs).canLay0 = true := f.lay
  simp [okP, h2, this]
mutual
theorem eqv_refl : ∀ x : PyData, x.canLay0 = true → PyData.eqv x x = true
  | .none, _ => by simp [PyData.eqv]
  | .bool _, _ => by simp [PyData.eqv]
  | .int _, _ => by simp [PyData.eqv]
  | .str _, _ => by simp [PyData.eqv]
  | .list xs, h => by rw [PyData.eqv]; exact eqvAll_refl xs h
  | .tuple xs, h => by rw [PyData.eqv]; exact eqvAll_refl xs h
  | .dict _, h => by cases h
theorem eqvAll_refl : ∀ xs : List PyData, PyData.canLayAll0 xs = true → PyData.eqvAll xs xs = true
  | [], _ => by rw [PyData.eqvAll]
  | x :: xs, h => by
    simp only [PyData.canLayAll0, Bool.and_eq_true] at h
    rw [PyData.eqvAll, eqv_refl x h.1, eqvAll_refl xs h.2]; rfl
end
theorem eqD_dat {a b : D} {x y : PyData} {H : HD} (h1 : dat a H = some x) (h2 : dat b H = some y) : eqD a b H = some (.bl (PyData.eqv x y), H) := by
  unfold eqD
  cases e : twoS a b with
  | none => rw [h1, h2]; rfl
  | some p =>
    obtain ⟨s, t⟩ := p
    unfold twoS at e
    split at e
    · cases e
      unfold dat at h1 h2
      rw [toP_str] at h1 h2
      simp only [Option.bind_some] at h1 h2
      split at h1
      · split at h2
        · cases h1; cases h2; simp [PyData.eqv]
        · cases h2
      · cases h1
    · cases e
theorem neD_dat {a b : D} {x y : PyData} {H : HD} (h1 : dat a H = some x) (h2 : dat b H = some y) : neD a b H = some (.bl (!PyData.eqv x y), H) := by
  unfold neD
  cases e : twoS a b with
  | none => rw [h1, h2]; rfl
  | some p =>
    obtain ⟨s, t⟩ := p
    unfold twoS at e
    split at e
    · cases e
      unfold dat at h1 h2
      rw [toP_str] at h1 h2
      simp only [Option.bind_some] at h1 h2
      split at h1
      · split at h2
        · cases h1; cases h2; simp [PyData.eqv]; rfl
        · cases h2
      · cases h1
    · cases e
variable {H : HD} {Q : D → HD → Prop}
theorem w_eqF {a b : D} {x y : PyData} {h k : Nat} (f : Fine a x h) (g : Fine b y k) (hh : h ≤ 30) (hk : k ≤ 30) (q : Q (.bl (PyData.eqv x y)) H) : wE (eqD a b H) Q := ⟨_, _, eqD_dat (f.dat hh H) (g.dat hk H), q⟩
theorem w_neF {a b : D} {x y : PyData} {h k : Nat} (f : Fine a x h) (g : Fine b y k) (hh : h ≤ 30) (hk : k ≤ 30) (q : Q (.bl (!PyData.eqv x y)) H) : wE (neD a b H) Q := ⟨_, _, neD_dat (f.dat hh H) (g.dat hk H), q⟩
theorem w_eqSame {a : D} {x : PyData} {h : Nat} (f : Fine a x h) (hh : h ≤ 30) (q : Q (.bl true) H) : wE (eqD a a H) Q := w_eqF f f hh hh (by rw [eqv_refl x f.lay]; exact q)
theorem w_niL {a : D} {x : PyData} {h k p : Nat} {ds : List D} {xs : List PyData} (f : Fine a x h) (g : Fines ds xs k) (hh : h ≤ 30) (hk : k < 30) (hp : H[p]? = some (.lst ds)) (q : Q (.bl (!xs.any fun z => PyData.eqv z x)) H) : wE (niD a (.ref p) H) Q :=
  ⟨_, _, by unfold niD; rw [f.dat hh, Option.bind_some, g.dat hk hp]; rfl, q⟩
theorem w_inL {a : D} {x : PyData} {h k p : Nat} {ds : List D} {xs : List PyData} (f : Fine a x h) (g : Fines ds xs k) (hh : h ≤ 30) (hk : k < 30) (hp : H[p]? = some (.lst ds)) (q : Q (.bl (xs.any fun z => PyData.eqv z x)) H) : wE (inD a (.ref p) H) Q :=
  ⟨_, _, by unfold inD; rw [f.dat hh, Option.bind_some, g.dat hk hp]; rfl, q⟩
theorem w_inT {a : D} {x : PyData} {h k : Nat} {ds : List D} {xs : List PyData} (f : Fine a x h) (g : Fines ds xs k) (hh : h ≤ 30) (hk : k < 30) (q : Q (.bl (xs.any fun z => PyData.eqv z x)) H) : wE (inD a (.tup ds) H) Q :=
  ⟨_, _, by unfold inD; rw [f.dat hh, Option.bind_some, (Fine.tup g).dat hk]; rfl, q⟩
theorem w_neI {i j : Int} (q : Q (.bl (!(i == j))) H) : wE (neD (.int i) (.int j) H) Q := w_neF (.int i) (.int j) (by omega) (by omega) (by simpa [PyData.eqv] using q)
theorem w_neI' {i j : Int} {r : Bool} (hr : (i == j) = r) (q : Q (.bl (!r)) H) : wE (neD (.int i) (.int j) H) Q := w_neI (by rw [hr]; exact q)
end WP
set_option maxHeartbeats 8000000
namespace K08
open PySem L2 DL
noncomputable def k_TRUTHS : D := (.tup [(.bl false), (.bl true)])
noncomputable def k_MOST_NAMES : D := (.int 8)
noncomputable def k_MOST_ROWS : D := (.int 20)
noncomputable def k_FIGURES : D := (.str "0123456789")
noncomputable def k_MOST_FIGURES : D := (.int 4)
noncomputable def b_show_pick : SF :=
  (sSeq (sRet (eIf (tTru (eVar 0)) (eC (.str "y")) (eC (.str "n"))))
  sNil)
noncomputable def m_show_pick : FF := runB 1 1 b_show_pick
noncomputable def b_show_tree (F : FF) : SF :=
  (sSeq (sIf (tOf (eOp eqD (eOp ixD (eVar 0) (eC (.int 0))) (eC (.str "kept")))) (sSeq (sRet (eC (.str "+")))
  sNil) sNil)
  (sSeq (sIf (tOf (eOp eqD (eOp ixD (eVar 0) (eC (.int 0))) (eC (.str "lost")))) (sSeq (sRet (eCB strD (aCons (eOp ixD (eVar 0) (eC (.int 1))) aNil)))
  sNil) sNil)
  (sSeq (sIf (tOf (eOp eqD (eOp ixD (eVar 0) (eC (.int 0))) (eC (.str "pick")))) (sSeq (sRet (eOp addD (eCall 1 m_show_pick (aCons (eOp ixD (eVar 0) (eC (.int 1))) aNil)) (eCall 1 F (aCons (eOp ixD (eVar 0) (eC (.int 2))) aNil))))
  sNil) sNil)
  (sSeq (sSet 1 (eCall 1 F (aCons (eOp ixD (eVar 0) (eC (.int 1))) aNil)))
  (sSeq (sSet 2 (eCall 1 F (aCons (eOp ixD (eVar 0) (eC (.int 2))) aNil)))
  (sSeq (sRet (eJ (jC "(" (jE (eVar 1) (jC "|" (jE (eVar 2) (jC ")" jNil)))))))
  sNil))))))
noncomputable def m_show_tree : FF := recF 1 3 b_show_tree 10
noncomputable def b_read_number : SF :=
  (sSeq (sIf (tOrr (tOf (eOp eqD (eCB lenD (aCons (eVar 0) aNil)) (eC (.int 0)))) (tOrr (tOf (eOp gtD (eCB lenD (aCons (eVar 0) aNil)) (eC k_MOST_FIGURES))) (tNo (tTru (eCB allD (aCons (eLC (iTxt (eVar 0)) [] tYes (eOp sinD (eVar 0) (eC k_FIGURES))) aNil)))))) (sSeq (sRet (eC .non))
  sNil) sNil)
  (sSeq (sIf (tAn (tOf (eOp eqD (eOp sixD (eVar 0) (eC (.int 0))) (eC (.str "0")))) (tOf (eOp neD (eVar 0) (eC (.str "0"))))) (sSeq (sRet (eC .non))
  sNil) sNil)
  (sSeq (sRet (eCB intSD (aCons (eVar 0) aNil)))
  sNil)))
noncomputable def m_read_number : FF := runB 1 1 b_read_number
noncomputable def b_lost_at : SF :=
  (sSeq (sSet 2 (eVar 1))
  (sSeq (sWh (tAn (tOf (eOp ltD (eVar 2) (eCB lenD (aCons (eVar 0) aNil)))) (tOf (eOp sinD (eOp sixD (eVar 0) (eVar 2)) (eC k_FIGURES)))) (sSeq (sAug (fun i j => i + j) 2 (eC (.int 1)))
  sNil) 5000)
  (sSeq (sSet 3 (eCall 1 m_read_number (aCons (eSlS (eVar 0) (oSome (eVar 1)) (oSome (eVar 2))) aNil)))
  (sSeq (sIf (tOrr (tOf (eOp isD (eVar 3) (eC .non))) (tOf (eOp geD (eVar 3) (eC k_MOST_ROWS)))) (sSeq (sRet (eC .non))
  sNil) sNil)
  (sSeq (sRet (eTup (aCons (eTup (aCons (eC (.str "lost")) (aCons (eVar 3) aNil))) (aCons (eVar 2) aNil))))
  sNil)))))
noncomputable def m_lost_at : FF := runB 2 4 b_lost_at
noncomputable def b_first_numbers : SF :=
  (sSeq (sSet 1 eDN)
  (sSeq (sFor (iEnum (aCons (eVar 0) aNil)) (gTp 2 (gCn (gNm 2) (gCn (gNm 3) gNl))) (sSeq (sExpr (eDM sdefD (eVar 1) (aCons (eVar 3) (aCons (eVar 2) aNil))))
  sNil))
  (sSeq (sRet (eVar 1))
  sNil)))
noncomputable def m_first_numbers : FF := runB 1 4 b_first_numbers
noncomputable def b_rows_behind : SF :=
  (sSeq (sSet 3 (eIf (tTru (eVar 2)) (eVar 1) (eUn negD (eVar 1))))
  (sSeq (sSet 4 eDN)
  (sSeq (sFor (iDic (eVar 0)) (gNm 5) (sSeq (sSet 6 (eIf (tTru (eVar 5)) (eOp ixD (eVar 5) (eC (.int 0))) (eC (.int 0))))
  (sSeq (sIf (tOf (eOp eqD (eVar 6) (eUn negD (eVar 3)))) (sSeq (sExpr (eDM sdefD (eVar 4) (aCons (eSl (eVar 5) (oSome (eC (.int 1))) oNone) (aCons (eOp dgetD (eVar 0) (eVar 5)) aNil))))
  sNil) (sSeq (sIf (tOf (eOp neD (eVar 6) (eVar 3))) (sSeq (sExpr (eDM sdefD (eVar 4) (aCons (eVar 5) (aCons (eOp dgetD (eVar 0) (eVar 5)) aNil))))
  sNil) sNil)
  sNil))
  sNil)))
  (sSeq (sRet (eVar 4))
  sNil))))
noncomputable def m_rows_behind : FF := runB 3 7 b_rows_behind
noncomputable def b_other_side : SF :=
  (sSeq (sRet (eIf (tOf (eOp eqD (eVar 0) (eC (.str "some")))) (eC (.str "all")) (eC (.str "some"))))
  sNil)
noncomputable def m_other_side : FF := runB 1 1 b_other_side
noncomputable def b_are_of_all : SF :=
  (sSeq (sRet (eCB allD (aCons (eLC (iSq (eVar 1)) [0] tYes (eOp eqD (eOp ixD (eVar 1) (eOp subD (eCB absD (aCons (eVar 0) aNil)) (eC (.int 1)))) (eC (.str "all")))) aNil)))
  sNil)
noncomputable def m_are_of_all : FF := runB 2 2 b_are_of_all
noncomputable def b_number_of_lost : SF :=
  (sSeq (sFor (iDic (eVar 1)) (gNm 2) (sSeq (sIf (tTru (eCall 2 m_are_of_all (aCons (eVar 0) (aCons (eVar 2) aNil)))) (sSeq (sRet (eOp dgetD (eVar 1) (eVar 2)))
  sNil) sNil)
  sNil))
  (sSeq (sRet (eC .non))
  sNil))
noncomputable def m_number_of_lost : FF := runB 2 3 b_number_of_lost
noncomputable def b_law_mix : SF :=
  (sSeq (sSet 2 (eOp ixD (eLst (aCons (eC (.int 2147483647)) (aCons (eC (.int 2147483629)) (aCons (eC (.int 2147483587)) (aCons (eC (.int 2147483579)) (aCons (eC (.int 2147483563)) (aCons (eC (.int 2147483549)) (aCons (eC (.int 2147483543)) aNil)))))))) (eOp modD (eVar 1) (eC (.int 7)))))
  (sSeq (sSet 3 (eOp modD (eOp mulD (eOp addD (eOp modD (eVar 0) (eC (.int 998244353))) (eOp mulD (eC (.int 104729)) (eOp addD (eVar 1) (eC (.int 1))))) (eOp addD (eOp addD (eOp mulD (eVar 1) (eVar 1)) (eOp mulD (eC (.int 7)) (eVar 1))) (eC (.int 13)))) (eVar 2)))
  (sSeq (sSet 3 (eOp modD (eOp powD (eVar 3) (eC (.int 5))) (eC (.int 1000000007))))
  (sSeq (sSet 3 (eOp modD (eOp addD (eOp addD (eOp mulD (eVar 3) (eC (.int 48271))) (eOp mulD (eC (.int 31)) (eVar 1))) (eC (.int 5))) (eVar 2)))
  (sSeq (sRet (eOp fdivD (eOp modD (eOp powD (eVar 3) (eC (.int 3))) (eC (.int 998244353))) (eC (.int 8))))
  sNil)))))
noncomputable def m_law_mix : FF := runB 2 4 b_law_mix
noncomputable def b_law_digits : SF :=
  (sSeq (sSet 2 (eLst aNil))
  (sSeq (sSet 3 (eCB absD (aCons (eVar 0) aNil)))
  (sSeq (sSet 4 (eOp geD (eVar 3) (eOp powD (eC (.int 10)) (eC (.int 18)))))
  (sSeq (sFor (iR1 (aCons (eVar 1) aNil)) (gNm 5) (sSeq (sIf (tAn (tTru (eVar 4)) (tOf (eOp gtD (eVar 3) (eC (.int 0))))) (sSeq (sExpr (eLM appendD (eVar 2) (aCons (eOp modD (eVar 3) (eC (.int 10007))) aNil)))
  (sSeq (sSet 3 (eOp fdivD (eVar 3) (eC (.int 10007))))
  sNil)) (sSeq (sExpr (eLM appendD (eVar 2) (aCons (eCall 2 m_law_mix (aCons (eVar 0) (aCons (eVar 5) aNil))) aNil)))
  sNil))
  sNil))
  (sSeq (sRet (eVar 2))
  sNil)))))
noncomputable def m_law_digits : FF := runB 2 6 b_law_digits
noncomputable def b_law_at : SF :=
  (sSeq (sIf (tOf (eOp ltD (eVar 1) (eCB lenD (aCons (eVar 0) aNil)))) (sSeq (sRet (eOp ixD (eVar 0) (eVar 1)))
  sNil) sNil)
  (sSeq (sRet (eOp addD (eOp addD (eOp mulD (eC (.int 67)) (eVar 1)) (eC (.int 19))) (eCB lenD (aCons (eVar 0) aNil))))
  sNil))
noncomputable def m_law_at : FF := runB 2 2 b_law_at
noncomputable def b_law_kinds : SF :=
  (sSeq (sSet 2 (eLst aNil))
  (sSeq (sFor (iR1 (aCons (eVar 1) aNil)) (gNm 3) (sSeq (sSet 4 (eOp ixD (eLst (aCons (eC (.str "all")) (aCons (eC (.str "some")) aNil))) (eOp modD (eOp ixD (eVar 0) (eOp addD (eC (.int 1)) (eVar 3))) (eC (.int 2)))))
  (sSeq (sIf (tOf (eOp eqD (eOp modD (eOp ixD (eVar 0) (eC (.int 0))) (eC (.int 4))) (eC (.int 1)))) (sSeq (sSet 4 (eOp ixD (eLst (aCons (eC (.str "some")) (aCons (eC (.str "all")) aNil))) (eOp modD (eOp addD (eVar 3) (eOp ixD (eVar 0) (eC (.int 1)))) (eC (.int 2)))))
  sNil) sNil)
  (sSeq (sIf (tOf (eOp eqD (eOp modD (eOp ixD (eVar 0) (eC (.int 0))) (eC (.int 4))) (eC (.int 2)))) (sSeq (sSet 4 (eOp ixD (eLst (aCons (eC (.str "all")) (aCons (eC (.str "some")) aNil))) (eCB intD (aCons (eOp gtD (eOp modD (eOp ixD (eVar 0) (eOp addD (eC (.int 1)) (eVar 3))) (eC (.int 3))) (eC (.int 0))) aNil))))
  sNil) sNil)
  (sSeq (sExpr (eLM appendD (eVar 2) (aCons (eVar 4) aNil)))
  sNil)))))
  (sSeq (sRet (eCB tupleD (aCons (eVar 2) aNil)))
  sNil)))
noncomputable def m_law_kinds : FF := runB 2 5 b_law_kinds
noncomputable def b_law_row : SF :=
  (sSeq (sSet 3 (eCall 2 m_law_digits (aCons (eVar 0) (aCons (eOp addD (eVar 1) (eC (.int 1))) aNil))))
  (sSeq (sSet 4 (eLst aNil))
  (sSeq (sFor (iR1 (aCons (eVar 1) aNil)) (gNm 5) (sSeq (sIf (tOf (eOp ltD (eOp modD (eOp ixD (eVar 3) (eOp addD (eC (.int 1)) (eVar 5))) (eOp addD (eVar 1) (eC (.int 1)))) (eOp addD (eVar 2) (eOp modD (eOp ixD (eVar 3) (eC (.int 0))) (eC (.int 3)))))) (sSeq (sExpr (eLM appendD (eVar 4) (aCons (eOp ixD (eLst (aCons (eOp addD (eVar 5) (eC (.int 1))) (aCons (eOp subD (eOp subD (eC (.int 0)) (eVar 5)) (eC (.int 1))) aNil))) (eOp modD (eOp fdivD (eOp ixD (eVar 3) (eOp addD (eC (.int 1)) (eVar 5))) (eOp addD (eVar 1) (eC (.int 1)))) (eC (.int 2)))) aNil)))
  sNil) sNil)
  sNil))
  (sSeq (sRet (eCB tupleD (aCons (eVar 4) aNil)))
  sNil))))
noncomputable def m_law_row : FF := runB 3 6 b_law_row
noncomputable def b_law_claim : SF :=
  (sSeq (sSet 2 (eCall 2 m_law_digits (aCons (eCall 2 m_law_at (aCons (eVar 0) (aCons (eC (.int 0)) aNil))) (aCons (eC (.int 14)) aNil))))
  (sSeq (sSet 3 (eOp ixD (eLst (aCons (eOp modD (eOp ixD (eVar 2) (eC (.int 0))) (eOp addD (eVar 1) (eC (.int 1)))) (aCons (eOp subD (eVar 1) (eOp modD (eOp ixD (eVar 2) (eC (.int 0))) (eC (.int 3)))) (aCons (eVar 1) aNil)))) (eOp modD (eOp ixD (eVar 2) (eC (.int 1))) (eC (.int 3)))))
  (sSeq (sSet 4 (eCall 2 m_law_kinds (aCons (eSl (eVar 2) (oSome (eC (.int 2))) oNone) (aCons (eCB maxD (aCons (eC (.int 0)) (aCons (eVar 3) aNil))) aNil))))
  (sSeq (sSet 5 (eOp ixD (eLst (aCons (eOp modD (eOp ixD (eVar 2) (eC (.int 12))) (eC (.int 5))) (aCons (eOp modD (eOp ixD (eVar 2) (eC (.int 12))) (eC (.int 11))) (aCons (eOp addD (eC (.int 5)) (eOp modD (eOp ixD (eVar 2) (eC (.int 12))) (eC (.int 16)))) aNil)))) (eOp modD (eOp ixD (eVar 2) (eC (.int 11))) (eC (.int 3)))))
  (sSeq (sSet 6 (eLC (iR1 (aCons (eVar 5) aNil)) [0, 4] tYes (eCall 3 m_law_row (aCons (eCall 2 m_law_at (aCons (eVar 1) (aCons (eOp addD (eC (.int 1)) (eVar 0)) aNil))) (aCons (eCB lenD (aCons (eVar 2) aNil)) (aCons (eC (.int 1)) aNil))))))
  (sSeq (sIf (tOf (eOp gtD (eOp modD (eOp ixD (eVar 2) (eC (.int 13))) (eC (.int 3))) (eC (.int 0)))) (sSeq (sSet 6 (eLC (iSq (eVar 6)) [] (tOf (eOp neD (eVar 0) (eTup aNil))) (eVar 0)))
  sNil) sNil)
  (sSeq (sRet (eTup (aCons (eVar 4) (aCons (eCB tupleD (aCons (eVar 6) aNil)) aNil))))
  sNil)))))))
noncomputable def m_law_claim : FF := runB 2 7 b_law_claim
noncomputable def b_law_tree (F : FF) : SF :=
  (sSeq (sSet 2 (eLM popD (eVar 0) (aCons (eC (.int 0)) aNil)))
  (sSeq (sExpr (eLM appendD (eVar 0) (aCons (eOp addD (eOp fdivD (eVar 2) (eC (.int 3))) (eC (.int 1))) aNil)))
  (sSeq (sIf (tOrr (tOf (eOp eqD (eVar 1) (eC (.int 0)))) (tOrr (tOf (eOp gtD (eCB lenD (aCons (eVar 0) aNil)) (eC (.int 60)))) (tOf (eOp eqD (eOp modD (eVar 2) (eC (.int 5))) (eC (.int 0)))))) (sSeq (sRet (eOp ixD (eLst (aCons (eTup (aCons (eC (.str "kept")) aNil)) (aCons (eTup (aCons (eC (.str "lost")) (aCons (eOp modD (eOp fdivD (eVar 2) (eC (.int 5))) (eC (.int 20))) aNil))) aNil))) (eOp modD (eOp fdivD (eVar 2) (eC (.int 100))) (eC (.int 2)))))
  sNil) sNil)
  (sSeq (sIf (tOf (eOp ltD (eOp modD (eVar 2) (eC (.int 5))) (eC (.int 3)))) (sSeq (sRet (eTup (aCons (eC (.str "pick")) (aCons (eOp eqD (eOp modD (eOp fdivD (eVar 2) (eC (.int 5))) (eC (.int 2))) (eC (.int 0))) (aCons (eCall 2 F (aCons (eVar 0) (aCons (eOp subD (eVar 1) (eC (.int 1))) aNil))) aNil)))))
  sNil) sNil)
  (sSeq (sRet (eTup (aCons (eC (.str "each")) (aCons (eCall 2 F (aCons (eVar 0) (aCons (eOp subD (eOp subD (eVar 1) (eC (.int 1))) (eOp modD (eOp fdivD (eVar 2) (eC (.int 5))) (eCB minD (aCons (eVar 1) (aCons (eC (.int 3)) aNil))))) aNil))) (aCons (eCall 2 F (aCons (eVar 0) (aCons (eOp subD (eVar 1) (eC (.int 1))) aNil))) aNil)))))
  sNil)))))
noncomputable def m_law_tree : FF := recF 2 3 b_law_tree 10
noncomputable def b_law_shown (F : FF) : SF :=
  (sSeq (sIf (tOf (eOp eqD (eOp ixD (eVar 0) (eC (.int 0))) (eC (.str "kept")))) (sSeq (sRet (eC (.str "+")))
  sNil) sNil)
  (sSeq (sIf (tOf (eOp eqD (eOp ixD (eVar 0) (eC (.int 0))) (eC (.str "lost")))) (sSeq (sRet (eCB strD (aCons (eOp ixD (eVar 0) (eC (.int 1))) aNil)))
  sNil) sNil)
  (sSeq (sIf (tOf (eOp eqD (eOp ixD (eVar 0) (eC (.int 0))) (eC (.str "pick")))) (sSeq (sRet (eOp addD (eOp sixD (eC (.str "ny")) (eCB intD (aCons (eOp ixD (eVar 0) (eC (.int 1))) aNil))) (eCall 1 F (aCons (eOp ixD (eVar 0) (eC (.int 2))) aNil))))
  sNil) sNil)
  (sSeq (sRet (eOp addD (eOp addD (eOp addD (eOp addD (eC (.str "(")) (eCall 1 F (aCons (eOp ixD (eVar 0) (eC (.int 1))) aNil))) (eC (.str "|"))) (eCall 1 F (aCons (eOp ixD (eVar 0) (eC (.int 2))) aNil))) (eC (.str ")"))))
  sNil))))
noncomputable def m_law_shown : FF := recF 1 1 b_law_shown 10
noncomputable def b_law_end_read : SF :=
  (sSeq (sIf (tOf (eOp eqD (eSlS (eVar 0) (oSome (eVar 1)) (oSome (eOp addD (eVar 1) (eC (.int 1))))) (eC (.str "+")))) (sSeq (sRet (eTup (aCons (eTup (aCons (eC (.str "kept")) aNil)) (aCons (eOp addD (eVar 1) (eC (.int 1))) aNil))))
  sNil) sNil)
  (sSeq (sSet 2 (eLC (iR1 (aCons (eC (.int 20)) aNil)) [] tYes (eCB strD (aCons (eVar 0) aNil))))
  (sSeq (sFor (iSq (eTup (aCons (eC (.int 2)) (aCons (eC (.int 1)) aNil)))) (gNm 3) (sSeq (sSet 4 (eSlS (eVar 0) (oSome (eVar 1)) (oSome (eOp addD (eVar 1) (eVar 3)))))
  (sSeq (sIf (tAn (tOf (eOp inD (eVar 4) (eVar 2))) (tOf (eOp leD (eOp addD (eVar 1) (eVar 3)) (eCB lenD (aCons (eVar 0) aNil))))) (sSeq (sRet (eTup (aCons (eTup (aCons (eC (.str "lost")) (aCons (eLM lindexD (eVar 2) (aCons (eVar 4) aNil)) aNil))) (aCons (eOp addD (eVar 1) (eVar 3)) aNil))))
  sNil) sNil)
  sNil)))
  (sSeq (sRet (eC .non))
  sNil))))
noncomputable def m_law_end_read : FF := runB 2 5 b_law_end_read
noncomputable def b_law_read_at (F : FF) : SF :=
  (sSeq (sSet 3 (eSlS (eVar 0) (oSome (eVar 1)) (oSome (eOp addD (eVar 1) (eC (.int 1))))))
  (sSeq (sIf (tOrr (tOf (eOp eqD (eVar 3) (eC (.str "")))) (tOf (eOp sniD (eVar 3) (eC (.str "yn("))))) (sSeq (sRet (eCall 2 m_law_end_read (aCons (eVar 0) (aCons (eVar 1) aNil))))
  sNil) sNil)
  (sSeq (sIf (tOf (eOp eqD (eVar 2) (eC (.int 0)))) (sSeq (sRet (eC .non))
  sNil) sNil)
  (sSeq (sSet 4 (eCall 3 F (aCons (eVar 0) (aCons (eOp addD (eVar 1) (eC (.int 1))) (aCons (eOp subD (eVar 2) (eC (.int 1))) aNil)))))
  (sSeq (sIf (tOf (eOp isD (eVar 4) (eC .non))) (sSeq (sRet (eC .non))
  sNil) sNil)
  (sSeq (sIf (tOf (eOp neD (eVar 3) (eC (.str "(")))) (sSeq (sRet (eTup (aCons (eTup (aCons (eC (.str "pick")) (aCons (eOp eqD (eVar 3) (eC (.str "y"))) (aCons (eOp ixD (eVar 4) (eC (.int 0))) aNil)))) (aCons (eOp ixD (eVar 4) (eC (.int 1))) aNil))))
  sNil) sNil)
  (sSeq (sIf (tOf (eOp neD (eSlS (eVar 0) (oSome (eOp ixD (eVar 4) (eC (.int 1)))) (oSome (eOp addD (eOp ixD (eVar 4) (eC (.int 1))) (eC (.int 1))))) (eC (.str "|")))) (sSeq (sRet (eC .non))
  sNil) sNil)
  (sSeq (sSet 5 (eCall 3 F (aCons (eVar 0) (aCons (eOp addD (eOp ixD (eVar 4) (eC (.int 1))) (eC (.int 1))) (aCons (eOp subD (eVar 2) (eC (.int 1))) aNil)))))
  (sSeq (sIf (tOrr (tOf (eOp isD (eVar 5) (eC .non))) (tOf (eOp neD (eSlS (eVar 0) (oSome (eOp ixD (eVar 5) (eC (.int 1)))) (oSome (eOp addD (eOp ixD (eVar 5) (eC (.int 1))) (eC (.int 1))))) (eC (.str ")"))))) (sSeq (sRet (eC .non))
  sNil) sNil)
  (sSeq (sRet (eTup (aCons (eTup (aCons (eC (.str "each")) (aCons (eOp ixD (eVar 4) (eC (.int 0))) (aCons (eOp ixD (eVar 5) (eC (.int 0))) aNil)))) (aCons (eOp addD (eOp ixD (eVar 5) (eC (.int 1))) (eC (.int 1))) aNil))))
  sNil))))))))))
noncomputable def m_law_read_at : FF := recF 3 6 b_law_read_at 10
noncomputable def b_law_read : SF :=
  (sSeq (sSet 1 (eCall 3 m_law_read_at (aCons (eVar 0) (aCons (eC (.int 0)) (aCons (eC (.int 8)) aNil)))))
  (sSeq (sIf (tOrr (tOf (eOp isD (eVar 1) (eC .non))) (tOf (eOp neD (eOp ixD (eVar 1) (eC (.int 1))) (eCB lenD (aCons (eVar 0) aNil))))) (sSeq (sRet (eC .non))
  sNil) sNil)
  (sSeq (sRet (eOp ixD (eVar 1) (eC (.int 0))))
  sNil)))
noncomputable def m_law_read : FF := runB 1 2 b_law_read
noncomputable def b_law_bent : SF :=
  (sSeq (sSet 2 (eC (.str "0123456789+yn(|)")))
  (sSeq (sIf (tOf (eOp eqD (eOp modD (eOp ixD (eVar 1) (eC (.int 0))) (eC (.int 2))) (eC (.int 0)))) (sSeq (sSet 2 (eC (.str " !\"#$&'()*+,-./0123456789:;<=>?@ABCDEFGHIJKLMNOPQRSTUVWXYZ[\\]^_`abcdefghijklmnopqrstuvwxyz{|}~")))
  (sSeq (sSet 2 (eOp addD (eVar 2) (eC (.str "\n	"))))
  sNil)) sNil)
  (sSeq (sSet 3 (eOp sixD (eVar 2) (eOp modD (eOp ixD (eVar 1) (eC (.int 1))) (eCB lenD (aCons (eVar 2) aNil)))))
  (sSeq (sSet 4 (eOp modD (eOp ixD (eVar 1) (eC (.int 2))) (eOp addD (eCB lenD (aCons (eVar 0) aNil)) (eC (.int 1)))))
  (sSeq (sIf (tOf (eOp eqD (eOp modD (eOp ixD (eVar 1) (eC (.int 3))) (eC (.int 3))) (eC (.int 0)))) (sSeq (sRet (eOp addD (eOp addD (eSlS (eVar 0) oNone (oSome (eVar 4))) (eVar 3)) (eSlS (eVar 0) (oSome (eVar 4)) oNone)))
  sNil) sNil)
  (sSeq (sIf (tOf (eOp eqD (eOp modD (eOp ixD (eVar 1) (eC (.int 3))) (eC (.int 3))) (eC (.int 1)))) (sSeq (sRet (eOp addD (eSlS (eVar 0) oNone (oSome (eVar 4))) (eSlS (eVar 0) (oSome (eOp addD (eVar 4) (eC (.int 1)))) oNone)))
  sNil) sNil)
  (sSeq (sRet (eOp addD (eOp addD (eSlS (eVar 0) oNone (oSome (eVar 4))) (eVar 3)) (eSlS (eVar 0) (oSome (eOp addD (eVar 4) (eC (.int 1)))) oNone)))
  sNil)))))))
noncomputable def m_law_bent : FF := runB 2 5 b_law_bent
noncomputable def b_law_same (F : FF) : SF :=
  (sSeq (sIf (tOrr (tOf (eOp isD (eVar 0) (eC .non))) (tOf (eOp isD (eVar 1) (eC .non)))) (sSeq (sRet (eAn (eOp isD (eVar 0) (eC .non)) (eOp isD (eVar 1) (eC .non))))
  sNil) sNil)
  (sSeq (sIf (tOrr (tNo (tTru (eCB isiD (aCons (eVar 0) (aCons (eC (.ty "tuple")) aNil))))) (tNo (tTru (eCB isiD (aCons (eVar 1) (aCons (eC (.ty "tuple")) aNil)))))) (sSeq (sRet (eC (.bl false)))
  sNil) sNil)
  (sSeq (sIf (tOrr (tOf (eOp neD (eCB lenD (aCons (eVar 0) aNil)) (eCB lenD (aCons (eVar 1) aNil)))) (tOf (eOp neD (eOp ixD (eVar 0) (eC (.int 0))) (eOp ixD (eVar 1) (eC (.int 0)))))) (sSeq (sRet (eC (.bl false)))
  sNil) sNil)
  (sSeq (sIf (tOf (eOp inD (eOp ixD (eVar 0) (eC (.int 0))) (eTup (aCons (eC (.str "kept")) (aCons (eC (.str "lost")) aNil))))) (sSeq (sRet (eAn (eOp eqD (eVar 0) (eVar 1)) (eOp niD (eC (.bl true)) (eLC (iSq (eVar 0)) [] tYes (eCB isiD (aCons (eVar 0) (aCons (eC (.ty "bool")) aNil)))))))
  sNil) sNil)
  (sSeq (sIf (tOf (eOp eqD (eOp ixD (eVar 0) (eC (.int 0))) (eC (.str "pick")))) (sSeq (sRet (eAn (eCB isiD (aCons (eOp ixD (eVar 0) (eC (.int 1))) (aCons (eC (.ty "bool")) aNil))) (eAn (eOp eqD (eOp ixD (eVar 0) (eC (.int 1))) (eOp ixD (eVar 1) (eC (.int 1)))) (eCall 2 F (aCons (eOp ixD (eVar 0) (eC (.int 2))) (aCons (eOp ixD (eVar 1) (eC (.int 2))) aNil))))))
  sNil) sNil)
  (sSeq (sRet (eAn (eCall 2 F (aCons (eOp ixD (eVar 0) (eC (.int 1))) (aCons (eOp ixD (eVar 1) (eC (.int 1))) aNil))) (eCall 2 F (aCons (eOp ixD (eVar 0) (eC (.int 2))) (aCons (eOp ixD (eVar 1) (eC (.int 2))) aNil)))))
  sNil))))))
noncomputable def m_law_same : FF := recF 2 2 b_law_same 10
noncomputable def b_plan_behind (F1 F2 : FF) : SF :=
  (sSeq (sIf (tOf (eOp eqD (eCB dlenD (aCons (eVar 1) aNil)) (eC (.int 0)))) (sSeq (sRet (eTup (aCons (eC (.str "some")) (aCons (eTup (aCons (eC (.str "kept")) aNil)) aNil))))
  sNil) sNil)
  (sSeq (sSet 3 (eCall 2 m_number_of_lost (aCons (eVar 0) (aCons (eVar 1) aNil))))
  (sSeq (sIf (tOf (eOp isnD (eVar 3) (eC .non))) (sSeq (sRet (eTup (aCons (eC (.str "all")) (aCons (eTup (aCons (eC (.str "lost")) (aCons (eVar 3) aNil))) aNil))))
  sNil) sNil)
  (sSeq (sRet (eCall 3 F2 (aCons (eVar 0) (aCons (eVar 1) (aCons (eVar 2) aNil)))))
  sNil))))
noncomputable def b_plan_by_picks (F1 F2 : FF) : SF :=
  (sSeq (sSet 3 (eOp ixD (eVar 0) (eVar 2)))
  (sSeq (sSet 4 (eLst aNil))
  (sSeq (sFor (iSq (eC k_TRUTHS)) (gNm 5) (sSeq (sSet 6 (eCall 3 F1 (aCons (eVar 0) (aCons (eCall 3 m_rows_behind (aCons (eVar 1) (aCons (eOp addD (eVar 2) (eC (.int 1))) (aCons (eVar 5) aNil)))) (aCons (eOp addD (eVar 2) (eC (.int 1))) aNil)))))
  (sSeq (sIf (tOf (eOp eqD (eOp ixD (eVar 6) (eC (.int 0))) (eVar 3))) (sSeq (sRet (eTup (aCons (eVar 3) (aCons (eTup (aCons (eC (.str "pick")) (aCons (eVar 5) (aCons (eOp ixD (eVar 6) (eC (.int 1))) aNil)))) aNil))))
  sNil) sNil)
  (sSeq (sExpr (eLM appendD (eVar 4) (aCons (eOp ixD (eVar 6) (eC (.int 1))) aNil)))
  sNil))))
  (sSeq (sRet (eTup (aCons (eCall 1 m_other_side (aCons (eVar 3) aNil)) (aCons (eTup (aCons (eC (.str "each")) (aCons (eOp ixD (eVar 4) (eC (.int 0))) (aCons (eOp ixD (eVar 4) (eC (.int 1))) aNil)))) aNil))))
  sNil))))
noncomputable def m_plan_behind : FF := (recP 3 4 3 7 b_plan_behind b_plan_by_picks 22).1
noncomputable def b_plan : SF :=
  (sSeq (sRet (eCall 3 m_plan_behind (aCons (eOp ixD (eVar 0) (eC (.int 0))) (aCons (eCall 1 m_first_numbers (aCons (eOp ixD (eVar 0) (eC (.int 1))) aNil)) (aCons (eC (.int 0)) aNil)))))
  sNil)
noncomputable def m_plan : FF := runB 1 1 b_plan
noncomputable def b_tree_at (F1 F2 F3 : FF) : SF :=
  (sSeq (sSet 3 (eSlS (eVar 0) (oSome (eVar 1)) (oSome (eOp addD (eVar 1) (eC (.int 1))))))
  (sSeq (sIf (tOf (eOp eqD (eVar 3) (eC (.str "+")))) (sSeq (sRet (eTup (aCons (eTup (aCons (eC (.str "kept")) aNil)) (aCons (eOp addD (eVar 1) (eC (.int 1))) aNil))))
  sNil) sNil)
  (sSeq (sIf (tAn (tOf (eOp gtD (eVar 2) (eC (.int 0)))) (tOf (eUn (tinD [("n", false), ("y", true)]) (eVar 3)))) (sSeq (sRet (eCall 3 F2 (aCons (eVar 0) (aCons (eVar 1) (aCons (eVar 2) aNil)))))
  sNil) sNil)
  (sSeq (sIf (tAn (tOf (eOp gtD (eVar 2) (eC (.int 0)))) (tOf (eOp eqD (eVar 3) (eC (.str "("))))) (sSeq (sRet (eCall 3 F3 (aCons (eVar 0) (aCons (eVar 1) (aCons (eVar 2) aNil)))))
  sNil) sNil)
  (sSeq (sRet (eCall 2 m_lost_at (aCons (eVar 0) (aCons (eVar 1) aNil))))
  sNil)))))
noncomputable def b_pick_at (F1 F2 F3 : FF) : SF :=
  (sSeq (sSet 3 (eCall 3 F1 (aCons (eVar 0) (aCons (eOp addD (eVar 1) (eC (.int 1))) (aCons (eOp subD (eVar 2) (eC (.int 1))) aNil)))))
  (sSeq (sIf (tOf (eOp isD (eVar 3) (eC .non))) (sSeq (sRet (eC .non))
  sNil) sNil)
  (sSeq (sRet (eTup (aCons (eTup (aCons (eC (.str "pick")) (aCons (eUn (tgetD [("n", false), ("y", true)]) (eOp sixD (eVar 0) (eVar 1))) (aCons (eOp ixD (eVar 3) (eC (.int 0))) aNil)))) (aCons (eOp ixD (eVar 3) (eC (.int 1))) aNil))))
  sNil)))
noncomputable def b_each_at (F1 F2 F3 : FF) : SF :=
  (sSeq (sSet 3 (eLst aNil))
  (sSeq (sSet 4 (eVar 1))
  (sSeq (sFor (iSq (eTup (aCons (eC (.str "|")) (aCons (eC (.str ")")) aNil)))) (gNm 5) (sSeq (sSet 6 (eCall 3 F1 (aCons (eVar 0) (aCons (eOp addD (eVar 4) (eC (.int 1))) (aCons (eOp subD (eVar 2) (eC (.int 1))) aNil)))))
  (sSeq (sIf (tOrr (tOf (eOp isD (eVar 6) (eC .non))) (tOf (eOp neD (eSlS (eVar 0) (oSome (eOp ixD (eVar 6) (eC (.int 1)))) (oSome (eOp addD (eOp ixD (eVar 6) (eC (.int 1))) (eC (.int 1))))) (eVar 5)))) (sSeq (sRet (eC .non))
  sNil) sNil)
  (sSeq (sExpr (eLM appendD (eVar 3) (aCons (eOp ixD (eVar 6) (eC (.int 0))) aNil)))
  (sSeq (sSet 4 (eOp ixD (eVar 6) (eC (.int 1))))
  sNil)))))
  (sSeq (sRet (eTup (aCons (eTup (aCons (eC (.str "each")) (aCons (eOp ixD (eVar 3) (eC (.int 0))) (aCons (eOp ixD (eVar 3) (eC (.int 1))) aNil)))) (aCons (eOp addD (eVar 4) (eC (.int 1))) aNil))))
  sNil))))
noncomputable def m_tree_at : FF := (recQ 3 4 3 4 3 7 b_tree_at b_pick_at b_each_at 22).1
noncomputable def b_read_tree : SF :=
  (sSeq (sSet 1 (eCall 3 m_tree_at (aCons (eVar 0) (aCons (eC (.int 0)) (aCons (eC k_MOST_NAMES) aNil)))))
  (sSeq (sIf (tOrr (tOf (eOp isD (eVar 1) (eC .non))) (tOf (eOp neD (eOp ixD (eVar 1) (eC (.int 1))) (eCB lenD (aCons (eVar 0) aNil))))) (sSeq (sRet (eC .non))
  sNil) sNil)
  (sSeq (sRet (eOp ixD (eVar 1) (eC (.int 0))))
  sNil)))
noncomputable def m_read_tree : FF := runB 1 2 b_read_tree
noncomputable def b_law : SF :=
  (sSeq (sSet 1 (eCB listD (aCons (eSl (eVar 0) oNone (oSome (eC (.int 12)))) aNil)))
  (sSeq (sIf (tOf (eOp eqD (eVar 1) (eLst aNil))) (sSeq (sSet 1 (eLst (aCons (eC (.int 6)) aNil)))
  sNil) sNil)
  (sSeq (sFor (iSq (eVar 1)) (gNm 2) (sSeq (sSet 7 (eCall 2 m_law_digits (aCons (eVar 2) (aCons (eC (.int 34)) aNil))))
  (sSeq (sSet 4 (eCall 2 m_law_tree (aCons (eSl (eVar 7) (oSome (eC (.int 4))) oNone) (aCons (eOp modD (eOp ixD (eVar 7) (eC (.int 0))) (eC (.int 9))) aNil))))
  (sSeq (sSet 5 (eCall 1 m_law_shown (aCons (eVar 4) aNil)))
  (sSeq (sIf (tOrr (tOf (eOp neD (eCall 1 m_show_tree (aCons (eVar 4) aNil)) (eVar 5))) (tNo (tTru (eCall 2 m_law_same (aCons (eCall 1 m_read_tree (aCons (eVar 5) aNil)) (aCons (eVar 4) aNil)))))) (sSeq (sRet (eC (.bl false)))
  sNil) sNil)
  (sSeq (sSet 8 (eCall 2 m_law_bent (aCons (eVar 5) (aCons (eSl (eVar 7) oNone (oSome (eC (.int 4)))) aNil))))
  (sSeq (sIf (tNo (tTru (eCall 2 m_law_same (aCons (eCall 1 m_read_tree (aCons (eVar 8) aNil)) (aCons (eCall 1 m_law_read (aCons (eVar 8) aNil)) aNil))))) (sSeq (sRet (eC (.bl false)))
  sNil) sNil)
  sNil)))))))
  (sSeq (sSet 3 (eOp addD (eC (.int 20)) (eOp modD (eCB absD (aCons (eCall 2 m_law_at (aCons (eVar 0) (aCons (eC (.int 2)) aNil))) aNil)) (eC (.int 980)))))
  (sSeq (sSet 4 (eTup (aCons (eC (.str "each")) (aCons (eTup (aCons (eC (.str "lost")) (aCons (eVar 3) aNil))) (aCons (eTup (aCons (eC (.str "pick")) (aCons (eC (.bl true)) (aCons (eTup (aCons (eC (.str "lost")) (aCons (eC (.int 0)) aNil))) aNil)))) aNil)))))
  (sSeq (sIf (tOrr (tOf (eOp neD (eCall 1 m_show_tree (aCons (eVar 4) aNil)) (eOp addD (eOp addD (eC (.str "(")) (eCB strD (aCons (eVar 3) aNil))) (eC (.str "|y0)"))))) (tOf (eOp isnD (eCall 1 m_read_tree (aCons (eOp addD (eOp addD (eC (.str "(")) (eCB strD (aCons (eVar 3) aNil))) (eC (.str "|y0)"))) aNil)) (eC .non)))) (sSeq (sRet (eC (.bl false)))
  sNil) sNil)
  (sSeq (sSet 4 (eOp ixD (eCall 1 m_plan (aCons (eCall 2 m_law_claim (aCons (eVar 0) (aCons (eC (.int 8)) aNil))) aNil)) (eC (.int 1))))
  (sSeq (sSet 5 (eCall 1 m_law_shown (aCons (eVar 4) aNil)))
  (sSeq (sIf (tOrr (tOf (eOp neD (eCall 1 m_show_tree (aCons (eVar 4) aNil)) (eVar 5))) (tNo (tTru (eCall 2 m_law_same (aCons (eCall 1 m_read_tree (aCons (eVar 5) aNil)) (aCons (eVar 4) aNil)))))) (sSeq (sRet (eC (.bl false)))
  sNil) sNil)
  (sSeq (sSet 6 (eLst (aCons (eC (.str "")) (aCons (eC (.str "+")) (aCons (eC (.str "++")) (aCons (eC (.str "19")) (aCons (eC (.str "20")) (aCons (eC (.str "00")) (aCons (eC (.str "01")) (aCons (eOp addD (eOp smulD (eC (.str "y")) (eC (.int 8))) (eC (.str "+"))) (aCons (eOp addD (eOp smulD (eC (.str "y")) (eC (.int 9))) (eC (.str "+"))) (aCons (eOp smulD (eC (.str "n")) (eC (.int 200))) (aCons (eC (.str "(+|+")) (aCons (eC (.str "(+)")) (aCons (eC (.str "(+|+|+)")) aNil)))))))))))))))
  (sSeq (sSet 6 (eOp addD (eVar 6) (eLst (aCons (eOp addD (eOp addD (eOp smulD (eC (.str "(")) (eC (.int 9))) (eC (.str "+"))) (eOp smulD (eC (.str "|+)")) (eC (.int 9)))) (aCons (eOp addD (eOp addD (eOp smulD (eC (.str "(")) (eC (.int 8))) (eC (.str "+"))) (eOp smulD (eC (.str "|+)")) (eC (.int 8)))) (aCons (eC (.str "y")) (aCons (eC (.str "|")) (aCons (eC (.str "1 ")) (aCons (eC (.str " 1")) aNil)))))))))
  (sSeq (sFor (iSq (eOp addD (eVar 6) (eLst (aCons (eOp smulD (eC (.str "(")) (eC (.int 3000))) (aCons (eOp smulD (eC (.str "1")) (eC (.int 4400))) aNil))))) (gNm 5) (sSeq (sIf (tNo (tTru (eCall 2 m_law_same (aCons (eCall 1 m_read_tree (aCons (eVar 5) aNil)) (aCons (eCall 1 m_law_read (aCons (eVar 5) aNil)) aNil))))) (sSeq (sRet (eC (.bl false)))
  sNil) sNil)
  sNil))
  (sSeq (sRet (eC (.bl true)))
  sNil)))))))))))))
noncomputable def m_law : FF := runB 1 9 b_law
end K08
set_option maxHeartbeats 4000000
namespace K08
open PySem L2 DL LH
noncomputable def opn (bs : List Bool) (l : Int) : Bool := decide ((bs.length : Int) < absZ l)
noncomputable def rig (bs : List Bool) (l : Int) : Bool := match bs[(absZ l - 1).toNat]? with
  | some b => b == decide (0 < l)
  | none => false
noncomputable def kept (bs : List Bool) (ls : List Int) : Bool := ls.any (rig bs)
noncomputable def rest (bs : List Bool) (ls : List Int) : List Int := ls.filter (opn bs)
noncomputable def nextR (b : Int) : List Int → List Int
  | [] => []
  | l :: r => if absZ l = b + 1 then r else l :: r
noncomputable def hits (b : Int) (t : Bool) : List Int → Bool
  | [] => false
  | l :: _ => decide (absZ l = b + 1) && (t == decide (0 < l))
theorem up_open {m : Int} (bs : List Bool) : ∀ (ls : List Int) (last : Int), Up m last ls → (bs.length : Int) ≤ last → rest bs ls = ls ∧ kept bs ls = false
  | [], _, _, _ => ⟨rfl, rfl⟩
  | l :: r, last, u, h => by
    obtain ⟨h1, h2, h3⟩ := u
    obtain ⟨a, b⟩ := up_open bs r (absZ l) h3 (by omega)
    have o : opn bs l = true := decide_eq_true (by omega)
    have g : rig bs l = false := by
      unfold rig
      rw [List.getElem?_eq_none (by omega)]
    refine ⟨?_, ?_⟩
    · unfold rest; rw [List.filter_cons_of_pos o]; exact congrArg _ a
    · unfold kept; rw [List.any_cons, g]; exact b
theorem rig_app {bs : List Bool} {t : Bool} {l : Int} (h : absZ l ≤ bs.length) (h0 : 0 < absZ l) : rig (bs ++ [t]) l = rig bs l := by
  unfold rig
  rw [List.getElem?_append_left (by omega)]
theorem next_ok {m : Int} (bs : List Bool) (t : Bool) : ∀ (ls : List Int) (last : Int), 0 ≤ last → Up m last ls → rest (bs ++ [t]) ls = nextR bs.length (rest bs ls) ∧ kept (bs ++ [t]) ls = (kept bs ls || hits bs.length t (rest bs ls))
  | [], _, _, _ => ⟨rfl, rfl⟩
  | l :: r, last, h0, u => by
    obtain ⟨h1, h2, h3⟩ := u
    have la : (((bs ++ [t]).length : Nat) : Int) = bs.length + 1 := by simp
    by_cases c1 : absZ l ≤ bs.length
    · obtain ⟨a, b⟩ := next_ok bs t r (absZ l) (by omega) h3
      have o1 : opn bs l = false := decide_eq_false (by omega)
      have o2 : opn (bs ++ [t]) l = false := decide_eq_false (by rw [la]; omega)
      have e : rest bs (l :: r) = rest bs r := by unfold rest; rw [List.filter_cons_of_neg (by rw [o1]; simp)]
      have e' : rest (bs ++ [t]) (l :: r) = rest (bs ++ [t]) r := by unfold rest; rw [List.filter_cons_of_neg (by rw [o2]; simp)]
      rw [e, e']
      refine ⟨a, ?_⟩
      have k : ∀ cs, kept cs (l :: r) = (rig cs l || kept cs r) := fun cs => by unfold kept; rw [List.any_cons]
      rw [k, k, rig_app c1 (by omega), b, Bool.or_assoc]
    · have o1 : opn bs l = true := decide_eq_true (by omega)
      obtain ⟨a1, a2⟩ := up_open bs r (absZ l) h3 (by omega)
      have e : rest bs (l :: r) = l :: r := by unfold rest; rw [List.filter_cons_of_pos o1]; exact congrArg _ a1
      have g1 : rig bs l = false := by unfold rig; rw [List.getElem?_eq_none (by omega)]
      have k : ∀ cs, kept cs (l :: r) = (rig cs l || kept cs r) := fun cs => by unfold kept; rw [List.any_cons]
      by_cases c2 : absZ l = bs.length + 1
      · obtain ⟨b1, b2⟩ := up_open (bs ++ [t]) r (absZ l) h3 (by rw [la]; omega)
        have o2 : opn (bs ++ [t]) l = false := decide_eq_false (by rw [la]; omega)
        have e' : rest (bs ++ [t]) (l :: r) = r := by unfold rest; rw [List.filter_cons_of_neg (by rw [o2]; simp)]; exact b1
        have g2 : rig (bs ++ [t]) l = (t == decide (0 < l)) := by
          unfold rig
          have : (absZ l - 1).toNat = bs.length := by omega
          rw [this]; simp
        rw [e, e', k, k, g1, g2, a2, b2]
        refine ⟨by simp [nextR, c2], by simp [hits, c2]⟩
      · obtain ⟨b1, b2⟩ := up_open (bs ++ [t]) (l :: r) (absZ l - 1) ⟨by omega, h2, h3⟩ (by rw [la]; omega)
        rw [e, b1, k bs, g1, a2, b2]
        refine ⟨by simp [nextR, c2], by simp [hits, c2]⟩
theorem nks_ints : ∀ ls : List Int, nksOf (ls.map .int) = some ls
  | [] => rfl
  | l :: r => by simp [nksOf, nkOf, nks_ints r]
theorem nk_row (ls : List Int) : nk (rowD ls) = some ls := nks_ints ls
theorem look_put {kvs : List (D × D)} {kd vd : D} {k k' : List Int} (h : nk kd = some k) (h0 : dlook kvs k = none) : (dlook (dput kvs kd k vd) k').isSome = ((dlook kvs k').isSome || decide (k' = k)) := by
  have e : dput kvs kd k vd = kvs ++ [(kd, vd)] := by unfold dput; rw [h0]; rfl
  rw [e]
  unfold dlook
  rw [List.find?_append]
  cases q : kvs.find? (fun p => nk p.1 == some k') with
  | some p => simp
  | none =>
    by_cases c : k' = k
    · subst c; simp [h]
    · have : (nk kd == some k') = false := by rw [h]; simp; exact fun z => c z.symm
      simp [List.find?_cons, this, c]
structure DR (rss : List (List Int)) (bs : List Bool) (kvs : List (D × D)) : Prop where
  key : ∀ p ∈ kvs, ∃ ls ∈ rss, kept bs ls = false ∧ p.1 = rowD (rest bs ls)
  all : ∀ ls ∈ rss, kept bs ls = false → (dlook kvs (rest bs ls)).isSome = true
  len : kvs.length ≤ rss.length
  val : ∀ p ∈ kvs, ∃ (i : Nat) (ls : List Int), rss[i]? = some ls ∧ kept bs ls = false ∧ p = (rowD (rest bs ls), .int i)
end K08
namespace K08
open PySem L2 DL LH
structure Fz (H H' : HD) : Prop where
  old : ∀ (m : Nat) (o : DO), H[m]? = some o → H'[m]? = some o ∨ ∃ kvs, o = .dic kvs false ∧ H'[m]? = some (.dic kvs true)
  len : H.length ≤ H'.length
theorem Fz.app {H : HD} (L : HD) : Fz H (H ++ L) := ⟨fun m o q => .inl (by
  have : m < H.length := (List.getElem?_eq_some_iff.mp q).1
  rw [List.getElem?_append_left this]; exact q), by simp⟩
theorem dm {g : D → List D → HD → Option (D × HD)} {fo : EF} {f : AF} {σ : SD} {H H1 H2 : HD} {o : D} {ds : List D} {r : Option (D × HD)} (h1 : fo σ H = some (o, H1)) (hd : isDic o H1 = true) (h2 : f σ H1 = some (ds, H2)) (h3 : g o ds H2 = r) : eDM g fo f σ H = r := by
  unfold eDM; rw [h1]; simp only [Option.bind_some]; rw [if_pos hd, h2]; exact h3
theorem ex {f : EF} {σ : SD} {H H1 : HD} {d : D} (h : f σ H = some (d, H1)) : sExpr f σ H = some (.nx, σ, H1) := by unfold sExpr; rw [h]; rfl
noncomputable def addK (acc : List (D × D)) (k : List Int) (v : D) : List (D × D) := if (dlook acc k).isSome = true then acc else acc ++ [(rowD k, v)]
theorem sdef_ok {q : Nat} {acc : List (D × D)} {k : List Int} {v : D} {H : HD} (h : H[q]? = some (.dic acc false)) (hl : acc.length ≤ 100000) : ∃ z, sdefD (.ref q) [rowD k, v] H = some (z, H.set q (.dic (addK acc k v) false)) := by
  have sz : acc.length < sizeLine := by rw [PySem.sizeLine_eq]; omega
  unfold sdefD
  simp only [h, nk_row, Option.bind_some, if_pos sz]
  cases e : dlook acc k with
  | some z =>
    refine ⟨z, ?_⟩
    have : addK acc k v = acc := by unfold addK; rw [e]; rfl
    rw [this]
    obtain ⟨h1, h2⟩ := List.getElem?_eq_some_iff.mp h
    rw [← h2, List.set_getElem_self h1]
  | none =>
    refine ⟨v, ?_⟩
    have e1 : dput acc (rowD k) k v = acc ++ [(rowD k, v)] := by unfold dput; rw [e]; rfl
    have e2 : addK acc k v = acc ++ [(rowD k, v)] := by unfold addK; rw [e]; rfl
    rw [e1, e2]
theorem add_look {acc : List (D × D)} {k k' : List Int} {v : D} : (dlook (addK acc k v) k').isSome = ((dlook acc k').isSome || decide (k' = k)) := by
  unfold addK
  cases e : dlook acc k with
  | some z =>
    rw [if_pos (by simp)]
    by_cases c : k' = k
    · subst c; rw [e]; rfl
    · simp [c]
  | none =>
    have := look_put (kvs := acc) (kd := rowD k) (vd := v) (k := k) (k' := k') (nk_row k) e
    have e1 : dput acc (rowD k) k v = acc ++ [(rowD k, v)] := by unfold dput; rw [e]; rfl
    rw [e1] at this
    rw [if_neg (by simp)]; exact this
theorem add_len (acc : List (D × D)) (k : List Int) (v : D) : (addK acc k v).length ≤ acc.length + 1 := by unfold addK; split <;> simp
theorem add_mem {acc : List (D × D)} {k : List Int} {v : D} {p : D × D} (h : p ∈ addK acc k v) : p ∈ acc ∨ p.1 = rowD k := by
  unfold addK at h
  split at h
  · exact .inl h
  · rcases List.mem_append.mp h with h | h
    · exact .inl h
    · simp at h; subst h; exact .inr rfl
theorem add_mem2 {acc : List (D × D)} {k : List Int} {v : D} {p : D × D} (h : p ∈ addK acc k v) : p ∈ acc ∨ p = (rowD k, v) := by
  unfold addK at h
  split at h
  · exact .inl h
  · rcases List.mem_append.mp h with h | h
    · exact .inl h
    · simp at h; subst h; exact .inr rfl
noncomputable abbrev fb : SF := (sSeq (sExpr (eDM sdefD (eVar 1) (aCons (eVar 3) (aCons (eVar 2) aNil)))) sNil)
theorem first_loop {q : Nat} {r : D} : ∀ (rss : List (List Int)) (c : Int) (acc : List (D × D)) (H : HD) (z2 z3 : Option D), H[q]? = some (.dic acc false) → acc.length + rss.length ≤ 100000 →
    ∃ (acc' : List (D × D)) (z2' z3' : Option D), forL [] (gTp 2 (gCn (gNm 2) (gCn (gNm 3) gNl))) fb (enumL c (rss.map rowD)) [some r, some (.ref q), z2, z3] H = some (.nx, [some r, some (.ref q), z2', z3'], H.set q (.dic acc' false)) ∧
      (∀ p ∈ acc', p ∈ acc ∨ ∃ ls ∈ rss, p.1 = rowD ls) ∧ (∀ k, (dlook acc k).isSome = true → (dlook acc' k).isSome = true) ∧ (∀ ls ∈ rss, (dlook acc' ls).isSome = true) ∧ acc'.length ≤ acc.length + rss.length ∧ (∀ p ∈ acc', p ∈ acc ∨ ∃ (i : Nat) (ls : List Int), rss[i]? = some ls ∧ p = (rowD ls, .int (c + i)))
  | [], c, acc, H, z2, z3, hq, _ => by
    obtain ⟨h1, h2⟩ := List.getElem?_eq_some_iff.mp hq
    refine ⟨acc, z2, z3, ?_, fun p hp => .inl hp, fun _ h => h, by simp, by simp, fun p hp => .inl hp⟩
    rw [List.map_nil, enumL, forL, if_pos ok_nil, ← h2, List.set_getElem_self h1]
  | ls :: rss, c, acc, H, z2, z3, hq, hl => by
    rw [List.map_cons, enumL, forL, if_pos ok_nil]
    simp only [gTp, List.length_cons, List.length_nil, gCn, gNm, gNl, List.set, Option.bind_some, if_true, Nat.zero_add, Nat.reduceAdd]
    obtain ⟨z, es⟩ := sdef_ok (k := ls) (v := .int c) hq (by omega)
    have lt := (List.getElem?_eq_some_iff.mp hq).1
    have st : fb [some r, some (.ref q), some (.int c), some (rowD ls)] H = some (.nx, [some r, some (.ref q), some (.int c), some (rowD ls)], H.set q (.dic (addK acc ls (.int c)) false)) :=
      (seq_nx (ex (dm (vr rfl) (by simp [isDic, hq]) (ac (vr rfl) (ac (vr rfl) an)) es))).trans rfl
    rw [st]
    simp only [Option.bind_some]
    have al := add_len acc ls (.int c)
    obtain ⟨acc', z2', z3', e, a1, a2, a3, a4, a5⟩ := first_loop (q := q) (r := r) rss (c + 1) (addK acc ls (.int c)) (H.set q (.dic (addK acc ls (.int c)) false)) (some (.int c)) (some (rowD ls)) (by rw [List.getElem?_set_self lt]) (by simp at hl ⊢; omega)
    refine ⟨acc', z2', z3', by rw [e, List.set_set], fun p hp => ?_, fun k hk => a2 k (by rw [add_look, hk]; rfl), fun l hl' => ?_, by omega, fun p hp => ?_⟩
    · rcases a1 p hp with h | ⟨l, h1, h2⟩
      · rcases add_mem h with h | h
        · exact .inl h
        · exact .inr ⟨ls, by simp, h⟩
      · exact .inr ⟨l, by simp [h1], h2⟩
    · rcases List.mem_cons.mp hl' with rfl | hl'
      · exact a2 _ (by rw [add_look]; simp)
      · exact a3 l hl'
    · rcases a5 p hp with h | ⟨i, l, h1, h2⟩
      · rcases add_mem2 h with h | h
        · exact .inl h
        · exact .inr ⟨0, ls, rfl, by rw [h]; simp⟩
      · exact .inr ⟨i + 1, l, by simpa using h1, by rw [h2]; simp; omega⟩
theorem first_ok {rss : List (List Int)} {m : Int} (hu : ∀ ls ∈ rss, Up m 0 ls) (hl : rss.length ≤ 1000) (H : HD) :
    ∃ (kvs : List (D × D)) (H' : HD) (q : Nat), m_first_numbers [.tup (rss.map rowD)] H = some (.ref q, H') ∧ H'[q]? = some (.dic kvs false) ∧ DR rss [] kvs ∧ Fz H H' := by
  have s1 : sSet 1 eDN [some (.tup (rss.map rowD)), none, none, none] H = some (.nx, [some (.tup (rss.map rowD)), some (.ref H.length), none, none], H ++ [.dic [] false]) := rfl
  obtain ⟨kvs, z2, z3, e, a1, a2, a3, a4, a5⟩ := first_loop (q := H.length) (r := .tup (rss.map rowD)) rss 0 [] (H ++ [.dic [] false]) none none (by simp) (by simp; omega)
  have e1 : sFor (iEnum (aCons (eVar 0) aNil)) (gTp 2 (gCn (gNm 2) (gCn (gNm 3) gNl))) fb [some (.tup (rss.map rowD)), some (.ref H.length), none, none] (H ++ [.dic [] false]) = some (.nx, [some (.tup (rss.map rowD)), some (.ref H.length), z2, z3], (H ++ [DO.dic [] false]).set H.length (DO.dic kvs false)) := by
    unfold sFor iEnum
    rw [ac (vr rfl) an]
    exact e
  have es : (H ++ [DO.dic [] false]).set H.length (.dic kvs false) = H ++ [.dic kvs false] := by simp
  rw [es] at e1
  refine ⟨kvs, H ++ [.dic kvs false], H.length, ?_, by simp, ⟨fun p hp => ?_, fun ls hls _ => ?_, by simpa using a4, fun p hp => ?_⟩, Fz.app _⟩
  · show ((b_first_numbers [some (.tup (rss.map rowD)), none, none, none] H).bind _) = _
    unfold b_first_numbers
    rw [seq_nx s1, seq_nx e1]
    rfl
  · rcases a1 p hp with h | ⟨ls, h1, h2⟩
    · simp at h
    · obtain ⟨o1, o2⟩ := up_open [] ls 0 (hu ls h1) (by simp)
      exact ⟨ls, h1, o2, by rw [o1]; exact h2⟩
  · obtain ⟨o1, o2⟩ := up_open [] ls 0 (hu ls hls) (by simp)
    rw [o1]; exact a3 ls hls
  · rcases a5 p hp with h | ⟨i, ls, h1, h2⟩
    · simp at h
    · obtain ⟨o1, o2⟩ := up_open [] ls 0 (hu ls (List.mem_of_getElem? h1)) (by simp)
      exact ⟨i, ls, h1, o2, by rw [o1, h2]; simp⟩
end K08
namespace K08
open PySem L2 DL LH
noncomputable def hd0 : List Int → Int
  | [] => 0
  | l :: _ => l
theorem act {b : Int} {t : Bool} {ls : List Int} (hb : 0 ≤ b) :
    (hd0 ls = -(if t = true then b + 1 else -(b + 1)) → hits b t ls = false ∧ nextR b ls = ls.drop 1) ∧
    (hd0 ls ≠ -(if t = true then b + 1 else -(b + 1)) → hd0 ls ≠ (if t = true then b + 1 else -(b + 1)) → hits b t ls = false ∧ nextR b ls = ls) ∧
    (hd0 ls ≠ -(if t = true then b + 1 else -(b + 1)) → hd0 ls = (if t = true then b + 1 else -(b + 1)) → hits b t ls = true) := by
  cases ls with
  | nil =>
    refine ⟨fun h => ?_, fun _ _ => ⟨rfl, rfl⟩, fun _ h => ?_⟩
    · simp only [hd0] at h; split at h <;> omega
    · simp only [hd0] at h; split at h <;> omega
  | cons l r =>
    simp only [hd0, hits, nextR, List.drop_one, List.tail_cons]
    cases t with
    | true =>
      simp only [if_true]
      refine ⟨fun h => ?_, fun h1 h2 => ?_, fun h1 h2 => ?_⟩
      · have e : absZ l = b + 1 := by unfold absZ; split <;> omega
        have g : decide (0 < l) = false := decide_eq_false (by omega)
        rw [g, if_pos e]; simp
      · have e : absZ l ≠ b + 1 := by unfold absZ; split <;> omega
        rw [if_neg e, decide_eq_false e]; simp
      · have e : absZ l = b + 1 := by unfold absZ; split <;> omega
        have g : decide (0 < l) = true := decide_eq_true (by omega)
        rw [g, decide_eq_true e]; rfl
    | false =>
      simp only [Bool.false_eq_true, if_false]
      refine ⟨fun h => ?_, fun h1 h2 => ?_, fun h1 h2 => ?_⟩
      · have e : absZ l = b + 1 := by unfold absZ; split <;> omega
        have g : decide (0 < l) = true := decide_eq_true (by omega)
        rw [g, if_pos e]; simp
      · have e : absZ l ≠ b + 1 := by unfold absZ; split <;> omega
        rw [if_neg e, decide_eq_false e]; simp
      · have e : absZ l = b + 1 := by unfold absZ; split <;> omega
        have g : decide (0 < l) = false := decide_eq_false (by omega)
        rw [g, decide_eq_true e]; rfl
noncomputable abbrev bb : SF := (sSeq (sSet 6 (eIf (tTru (eVar 5)) (eOp ixD (eVar 5) (eC (.int 0))) (eC (.int 0))))
  (sSeq (sIf (tOf (eOp eqD (eVar 6) (eUn negD (eVar 3)))) (sSeq (sExpr (eDM sdefD (eVar 4) (aCons (eSl (eVar 5) (oSome (eC (.int 1))) oNone) (aCons (eOp dgetD (eVar 0) (eVar 5)) aNil))))
  sNil) (sSeq (sIf (tOf (eOp neD (eVar 6) (eVar 3))) (sSeq (sExpr (eDM sdefD (eVar 4) (aCons (eVar 5) (aCons (eOp dgetD (eVar 0) (eVar 5)) aNil))))
  sNil) sNil)
  sNil))
  sNil))
theorem un {g : D → HD → Option (D × HD)} {f : EF} {σ : SD} {H H1 : HD} {d : D} {r : Option (D × HD)} (h1 : f σ H = some (d, H1)) (h2 : g d H1 = r) : eUn g f σ H = r := by
  unfold eUn; rw [h1]; exact h2
theorem bb_ok {p q : Nat} {kvs acc : List (D × D)} {b : Int} {t : Bool} {a1 a2 z6 : Option D} {ls : List Int} {H : HD} (hb : 0 ≤ b) (hp : H[p]? = some (.dic kvs true)) (hq : H[q]? = some (.dic acc false)) (hl : acc.length ≤ 100000) (hk : (dlook kvs ls).isSome = true) :
    ∃ (v : D) (z6' : Option D), dlook kvs ls = some v ∧ bb [some (.ref p), a1, a2, some (.int (if t = true then b + 1 else -(b + 1))), some (.ref q), some (rowD ls), z6] H = some (.nx, [some (.ref p), a1, a2, some (.int (if t = true then b + 1 else -(b + 1))), some (.ref q), some (rowD ls), z6'], H.set q (.dic (if hits b t ls = true then acc else addK acc (nextR b ls) v) false)) := by
  let R : Int := if t = true then b + 1 else -(b + 1)
  obtain ⟨v, ev⟩ := Option.isSome_iff_exists.mp hk
  have self : H.set q (.dic acc false) = H := by
    obtain ⟨h1, h2⟩ := List.getElem?_eq_some_iff.mp hq
    rw [← h2, List.set_getElem_self h1]
  have s1 : sSet 6 (eIf (tTru (eVar 5)) (eOp ixD (eVar 5) (eC (.int 0))) (eC (.int 0))) [some (.ref p), a1, a2, some (.int R), some (.ref q), some (rowD ls), z6] H = some (.nx, [some (.ref p), a1, a2, some (.int R), some (.ref q), some (rowD ls), some (.int (hd0 ls))], H) := by
    refine set_nx (d := .int (hd0 ls)) ?_
    have tv : tTru (eVar 5) [some (.ref p), a1, a2, some (.int R), some (.ref q), some (rowD ls), z6] H = some (!ls.isEmpty, H) := by
      unfold tTru; rw [vr (d := rowD ls) rfl]; simp [rowD, truD]
    unfold eIf
    rw [tv]
    cases ls with
    | nil => rfl
    | cons l r =>
      have : atI ((l :: r).map D.int) 0 = some (.int l) := atI_nat (j := 0) rfl
      show eOp ixD (eVar 5) (eC (.int 0)) [some (.ref p), a1, a2, some (.int R), some (.ref q), some (rowD (l :: r)), z6] H = some (.int l, H)
      exact op (vr rfl) rfl (ixT this)
  let σ : SD := [some (.ref p), a1, a2, some (.int R), some (.ref q), some (rowD ls), some (.int (hd0 ls))]
  have dg : eOp dgetD (eVar 0) (eVar 5) σ H = some (v, H) := by
    refine op (vr rfl) (vr rfl) ?_
    simp [dgetD, dicD, hp, nk_row, ev]
  have t1 : tOf (eOp eqD (eVar 6) (eUn negD (eVar 3))) σ H = some (hd0 ls == -R, H) := tof (op (vr rfl) (un (vr rfl) rfl) (eq_int _ _ _))
  have t2 : tOf (eOp neD (eVar 6) (eVar 3)) σ H = some (!(hd0 ls == R), H) := tof (op (vr rfl) (vr rfl) (ne_int _ _ _))
  have id1 : isDic (.ref q) H = true := by simp [isDic, hq]
  obtain ⟨A1, A2, A3⟩ := act (b := b) (t := t) (ls := ls) hb
  refine ⟨v, some (.int (hd0 ls)), ev, ?_⟩
  show bb [some (.ref p), a1, a2, some (.int R), some (.ref q), some (rowD ls), z6] H = some (.nx, σ, _)
  unfold bb
  rw [seq_nx s1]
  by_cases c1 : hd0 ls = -R
  · obtain ⟨h1, h2⟩ := A1 c1
    have sd : slD (rowD ls) (some 1) none H = some (rowD (ls.drop 1), H) := by
      have := sllo (xs := ls.map D.int) (k := 1) (H := H)
      rw [← List.map_drop] at this
      exact this
    obtain ⟨z, es⟩ := sdef_ok (k := ls.drop 1) (v := v) hq hl
    rw [h1, if_neg (by simp), h2]
    refine (seq_nx (σ1 := σ) (H1 := H.set q (.dic (addK acc (ls.drop 1) v) false)) ?_).trans rfl
    rw [iff_t t1, if_pos (by simpa using c1)]
    exact (seq_nx (ex (dm (vr rfl) id1 (ac (sl (vr rfl) (os rfl) on sd) (ac dg an)) es))).trans rfl
  · by_cases c2 : hd0 ls = R
    · rw [A3 c1 c2, if_pos rfl, self]
      refine (seq_nx (σ1 := σ) (H1 := H) ?_).trans rfl
      rw [iff_t t1, if_neg (by simpa using c1)]
      refine (seq_nx (σ1 := σ) (H1 := H) ?_).trans rfl
      rw [iff_t t2, if_neg (by simpa using c2)]
      rfl
    · obtain ⟨h1, h2⟩ := A2 c1 c2
      obtain ⟨z, es⟩ := sdef_ok (k := ls) (v := v) hq hl
      rw [h1, if_neg (by simp), h2]
      refine (seq_nx (σ1 := σ) (H1 := H.set q (.dic (addK acc ls v) false)) ?_).trans rfl
      rw [iff_t t1, if_neg (by simpa using c1)]
      refine (seq_nx (σ1 := σ) (H1 := H.set q (.dic (addK acc ls v) false)) ?_).trans rfl
      rw [iff_t t2, if_pos (by simpa using c2)]
      exact (seq_nx (ex (dm (vr rfl) id1 (ac (vr rfl) (ac dg an)) es))).trans rfl
theorem bb_loop {p q : Nat} {kvs : List (D × D)} {b : Int} {t : Bool} {a1 a2 : Option D} (hb : 0 ≤ b) (hpq : p ≠ q) : ∀ (qs : List (List Int)) (acc : List (D × D)) (H : HD) (z5 z6 : Option D), H[p]? = some (.dic kvs true) → H[q]? = some (.dic acc false) → acc.length + qs.length ≤ 100000 → (∀ ls ∈ qs, (dlook kvs ls).isSome = true) →
    ∃ (acc' : List (D × D)) (z5' z6' : Option D), forL [(p, .dic kvs true)] (gNm 5) bb (qs.map rowD) [some (.ref p), a1, a2, some (.int (if t = true then b + 1 else -(b + 1))), some (.ref q), z5, z6] H = some (.nx, [some (.ref p), a1, a2, some (.int (if t = true then b + 1 else -(b + 1))), some (.ref q), z5', z6'], H.set q (.dic acc' false)) ∧
      (∀ x ∈ acc', x ∈ acc ∨ ∃ ls ∈ qs, hits b t ls = false ∧ x.1 = rowD (nextR b ls)) ∧ (∀ k, (dlook acc k).isSome = true → (dlook acc' k).isSome = true) ∧ (∀ ls ∈ qs, hits b t ls = false → (dlook acc' (nextR b ls)).isSome = true) ∧ acc'.length ≤ acc.length + qs.length ∧ (∀ x ∈ acc', x ∈ acc ∨ ∃ ls ∈ qs, hits b t ls = false ∧ x.1 = rowD (nextR b ls) ∧ dlook kvs ls = some x.2)
  | [], acc, H, z5, z6, hp, hq, _, _ => by
    obtain ⟨h1, h2⟩ := List.getElem?_eq_some_iff.mp hq
    refine ⟨acc, z5, z6, ?_, fun p hp => .inl hp, fun _ h => h, by simp, by simp, fun p hp => .inl hp⟩
    rw [List.map_nil, forL, if_pos (by intro x hx; simp at hx; subst hx; exact hp), ← h2, List.set_getElem_self h1]
  | ls :: qs, acc, H, z5, z6, hp, hq, hl, hk => by
    have lt := (List.getElem?_eq_some_iff.mp hq).1
    rw [List.map_cons, forL, if_pos (by intro x hx; simp at hx; subst hx; exact hp)]
    simp only [gNm, List.set, Option.bind_some]
    obtain ⟨v, z6', ev, e1⟩ := bb_ok (t := t) (a1 := a1) (a2 := a2) (z6 := z6) (ls := ls) hb hp hq (by omega) (hk ls (by simp))
    rw [e1]
    simp only [Option.bind_some]
    let acc1 := if hits b t ls = true then acc else addK acc (nextR b ls) v
    have al : acc1.length ≤ acc.length + 1 := by
      show (if hits b t ls = true then acc else addK acc (nextR b ls) v).length ≤ _
      split
      · omega
      · exact add_len _ _ _
    obtain ⟨acc', z5', z6'', e, a1', a2', a3', a4', a5'⟩ := bb_loop (p := p) (q := q) (kvs := kvs) (t := t) (a1 := a1) (a2 := a2) hb hpq qs acc1 (H.set q (.dic acc1 false)) (some (rowD ls)) z6' (by rw [List.getElem?_set_ne (Ne.symm hpq)]; exact hp) (by rw [List.getElem?_set_self lt]) (by simp at hl ⊢; omega) (fun l hl => hk l (by simp [hl]))
    have mono : ∀ k, (dlook acc k).isSome = true → (dlook acc1 k).isSome = true := fun k hk => by
      show (dlook (if hits b t ls = true then acc else addK acc (nextR b ls) v) k).isSome = true
      split
      · exact hk
      · rw [add_look, hk]; rfl
    have lenF : acc'.length ≤ acc.length + (ls :: qs).length := by
      have e8 : (ls :: qs).length = qs.length + 1 := rfl
      have e9 : acc'.length ≤ acc1.length + qs.length := a4'
      omega
    refine ⟨acc', z5', z6'', by rw [e, List.set_set], fun x hx => ?_, fun k hk => a2' k (mono k hk), fun l hl' hh => ?_, lenF, fun x hx => ?_⟩
    · rcases a1' x hx with h | ⟨l, h1, h2⟩
      · cases hc : hits b t ls with
        | true =>
          have : acc1 = acc := if_pos hc
          rw [this] at h; exact .inl h
        | false =>
          have : acc1 = addK acc (nextR b ls) v := if_neg (by rw [hc]; simp)
          rw [this] at h
          rcases add_mem h with h | h
          · exact .inl h
          · exact .inr ⟨ls, by simp, hc, h⟩
      · exact .inr ⟨l, by simp [h1], h2⟩
    · rcases List.mem_cons.mp hl' with rfl | hl'
      · refine a2' _ ?_
        have : acc1 = addK acc (nextR b l) v := if_neg (by rw [hh]; simp)
        rw [this, add_look]; simp
      · exact a3' l hl' hh
    · rcases a5' x hx with h | ⟨l, h1, h2⟩
      · cases hc : hits b t ls with
        | true =>
          have : acc1 = acc := if_pos hc
          rw [this] at h; exact .inl h
        | false =>
          have : acc1 = addK acc (nextR b ls) v := if_neg (by rw [hc]; simp)
          rw [this] at h
          rcases add_mem2 h with h | h
          · exact .inl h
          · exact .inr ⟨ls, by simp, hc, by rw [h], by rw [h]; exact ev⟩
      · exact .inr ⟨l, by simp [h1], h2⟩
end K08
namespace K08
open PySem L2 DL LH
theorem dlook_mem {kvs : List (D × D)} {k : List Int} (h : (dlook kvs k).isSome = true) : ∃ p ∈ kvs, nk p.1 = some k := by
  unfold dlook at h
  rw [Option.isSome_map] at h
  obtain ⟨p, e⟩ := Option.isSome_iff_exists.mp h
  exact ⟨p, List.mem_of_find?_eq_some e, by have := List.find?_some e; simpa using this⟩
theorem mem_dlook {kvs : List (D × D)} {k : List Int} {p : D × D} (hp : p ∈ kvs) (h : nk p.1 = some k) : (dlook kvs k).isSome = true := by
  unfold dlook
  rw [Option.isSome_map, List.find?_isSome]
  exact ⟨p, hp, by simp [h]⟩
theorem dlook_at {kvs : List (D × D)} {k : List Int} {v : D} (h : dlook kvs k = some v) : ∃ p ∈ kvs, nk p.1 = some k ∧ p.2 = v := by
  unfold dlook at h
  obtain ⟨p, e, rfl⟩ := Option.map_eq_some_iff.mp h
  exact ⟨p, List.mem_of_find?_eq_some e, by have := List.find?_some e; simpa using this, rfl⟩
theorem keys_of {rss : List (List Int)} {bs : List Bool} : ∀ {kvs : List (D × D)}, (∀ p ∈ kvs, ∃ ls ∈ rss, kept bs ls = false ∧ p.1 = rowD (rest bs ls)) → ∃ qs : List (List Int), kvs.map (·.1) = qs.map rowD ∧ ∀ q ∈ qs, ∃ ls ∈ rss, kept bs ls = false ∧ q = rest bs ls
  | [], _ => ⟨[], rfl, by simp⟩
  | p :: kvs, h => by
    obtain ⟨ls, h1, h2, h3⟩ := h p (by simp)
    obtain ⟨qs, e, g⟩ := keys_of (kvs := kvs) fun x hx => h x (by simp [hx])
    refine ⟨rest bs ls :: qs, by rw [List.map_cons, List.map_cons, e, h3], fun q hq => ?_⟩
    rcases List.mem_cons.mp hq with rfl | hq
    · exact ⟨ls, h1, h2, rfl⟩
    · exact g q hq
theorem row_inj {a b : List Int} (h : rowD a = rowD b) : a = b := by
  have := nk_row a
  rw [h, nk_row] at this
  exact (Option.some.inj this).symm
theorem behind_ok {rss : List (List Int)} {m : Int} {bs : List Bool} {t : Bool} {kvs : List (D × D)} {fz : Bool} {p : Nat} {H : HD} (hu : ∀ ls ∈ rss, Up m 0 ls) (hl : rss.length ≤ 1000) (hp : H[p]? = some (.dic kvs fz)) (dr : DR rss bs kvs) :
    ∃ (kvs' : List (D × D)) (H' : HD) (q : Nat), m_rows_behind [.ref p, .int ((bs.length : Int) + 1), .bl t] H = some (.ref q, H') ∧ H'[q]? = some (.dic kvs' false) ∧ DR rss (bs ++ [t]) kvs' ∧ Fz H H' := by
  obtain ⟨qs, eq, gq⟩ := keys_of dr.key
  let b : Int := bs.length
  have hb : 0 ≤ b := by show (0 : Int) ≤ bs.length; omega
  let R : Int := if t = true then b + 1 else -(b + 1)
  have ltp := (List.getElem?_eq_some_iff.mp hp).1
  have s1 : sSet 3 (eIf (tTru (eVar 2)) (eVar 1) (eUn negD (eVar 1))) [some (.ref p), some (.int (b + 1)), some (.bl t), none, none, none, none] H = some (.nx, [some (.ref p), some (.int (b + 1)), some (.bl t), some (.int R), none, none, none], H) := by
    refine set_nx (d := .int R) ?_
    cases t <;> rfl
  have s2 : sSet 4 eDN [some (.ref p), some (.int (b + 1)), some (.bl t), some (.int R), none, none, none] H = some (.nx, [some (.ref p), some (.int (b + 1)), some (.bl t), some (.int R), some (.ref H.length), none, none], H ++ [.dic [] false]) := rfl
  let H1 : HD := (H ++ [DO.dic [] false]).set p (DO.dic kvs true)
  have hp0 : (H ++ [DO.dic [] false])[p]? = some (.dic kvs fz) := by rw [List.getElem?_append_left ltp]; exact hp
  have hp1 : H1[p]? = some (.dic kvs true) := by rw [List.getElem?_set_self (by simp; omega)]
  have hq1 : H1[H.length]? = some (.dic [] false) := by rw [List.getElem?_set_ne (by omega)]; simp
  have lq : qs.length = kvs.length := by have := congrArg List.length eq; simpa using this.symm
  have kk : ∀ ls ∈ qs, (dlook kvs ls).isSome = true := fun ls hls => by
    have : rowD ls ∈ kvs.map (·.1) := by rw [eq]; exact List.mem_map_of_mem hls
    obtain ⟨x, hx, ex⟩ := List.mem_map.mp this
    exact mem_dlook hx (by rw [ex, nk_row])
  have dl := dr.len
  obtain ⟨acc, z5, z6, e, a1, a2, a3, a4, a5⟩ := bb_loop (p := p) (q := H.length) (kvs := kvs) (b := b) (t := t) (a1 := some (.int (b + 1))) (a2 := some (.bl t)) hb (by omega) qs [] H1 none none hp1 hq1 (by simp; omega) kk
  have e1 : sFor (iDic (eVar 0)) (gNm 5) bb [some (.ref p), some (.int (b + 1)), some (.bl t), some (.int R), some (.ref H.length), none, none] (H ++ [.dic [] false]) = some (.nx, [some (.ref p), some (.int (b + 1)), some (.bl t), some (.int R), some (.ref H.length), z5, z6], H1.set H.length (.dic acc false)) := by
    unfold sFor iDic
    rw [vr (d := .ref p) rfl]
    simp only [Option.bind_some, hp0]
    rw [eq]
    exact e
  have lt1 : H.length < H1.length := (List.getElem?_eq_some_iff.mp hq1).1
  refine ⟨acc, H1.set H.length (.dic acc false), H.length, ?_, by rw [List.getElem?_set_self lt1], ⟨fun x hx => ?_, fun ls hls hk => ?_, ?_, fun x hx => ?_⟩, ⟨fun mm o ho => ?_, by simp [H1]⟩⟩
  · show ((b_rows_behind [some (.ref p), some (.int (b + 1)), some (.bl t), none, none, none, none] H).bind _) = _
    unfold b_rows_behind
    rw [seq_nx s1, seq_nx s2, seq_nx e1]
    rfl
  · rcases a1 x hx with h | ⟨q, h1, h2, h3⟩
    · simp at h
    · obtain ⟨ls, g1, g2, rfl⟩ := gq q h1
      obtain ⟨n1, n2⟩ := next_ok bs t ls 0 (Int.le_refl _) (hu ls g1)
      refine ⟨ls, g1, ?_, by rw [n1]; exact h3⟩
      rw [n2, g2]; exact h2
  · obtain ⟨n1, n2⟩ := next_ok bs t ls 0 (Int.le_refl _) (hu ls hls)
    rw [n2, Bool.or_eq_false_iff] at hk
    obtain ⟨x, hx, ex⟩ := dlook_mem (dr.all ls hls hk.1)
    have hm : x.1 ∈ qs.map rowD := by rw [← eq]; exact List.mem_map_of_mem hx
    obtain ⟨q, hq, eqq⟩ := List.mem_map.mp hm
    have : q = rest bs ls := by rw [← eqq, nk_row] at ex; exact Option.some.inj ex
    subst this
    rw [n1]
    exact a3 _ hq hk.2
  · simp at a4; omega
  · rcases a5 x hx with h | ⟨q, h1, h2, h3, h4⟩
    · simp at h
    · obtain ⟨y, y1, y2, y3⟩ := dlook_at h4
      obtain ⟨i, ls, g1, g2, rfl⟩ := dr.val y y1
      have : q = rest bs ls := by rw [nk_row] at y2; exact (Option.some.inj y2).symm
      subst this
      obtain ⟨n1, n2⟩ := next_ok bs t ls 0 (Int.le_refl _) (hu ls (List.mem_of_getElem? g1))
      exact ⟨i, ls, g1, by rw [n2, g2]; exact h2, Prod.ext (by rw [n1]; exact h3) y3.symm⟩
  · have lm : mm < H.length := (List.getElem?_eq_some_iff.mp ho).1
    rw [List.getElem?_set_ne (by omega)]
    by_cases c : p = mm
    · subst c
      rw [hp] at ho
      cases ho
      cases fz with
      | true => exact .inl hp1
      | false => exact .inr ⟨kvs, rfl, hp1⟩
    · refine .inl ?_
      show ((H ++ [DO.dic [] false]).set p (.dic kvs true))[mm]? = some o
      rw [List.getElem?_set_ne c, List.getElem?_append_left lm]; exact ho
end K08
namespace K08
open PySem L2 DL LH
noncomputable def kS (d : D) : Bool := match d with
  | .str s => s == "some"
  | _ => false
noncomputable def sideD (b : Bool) : D := if b then .str "some" else .str "all"
theorem kind_side {d : D} (h : IsKind d) : d = sideD (kS d) := by
  rcases h with rfl | rfl
  · have : kS (.str "all") = false := by decide
    rw [this]; rfl
  · have : kS (.str "some") = true := by decide
    rw [this]; rfl
noncomputable def W (ks : List D) (rss : List (List Int)) : Nat → List Bool → Bool
  | 0, bs => rss.all (kept bs)
  | j + 1, bs =>
    let who := kS (ks.getD bs.length .non)
    if W ks rss j (bs ++ [false]) == who || W ks rss j (bs ++ [true]) == who then who else !who
theorem kept_more {bs : List Bool} {t : Bool} {ls : List Int} {m : Int} (hu : Up m 0 ls) (h : kept bs ls = true) : kept (bs ++ [t]) ls = true := by
  rw [(next_ok bs t ls 0 (Int.le_refl _) hu).2, h]; rfl
theorem W_some {ks : List D} {rss : List (List Int)} {m : Int} (hu : ∀ ls ∈ rss, Up m 0 ls) : ∀ (j : Nat) (bs : List Bool), (∀ ls ∈ rss, kept bs ls = true) → W ks rss j bs = true
  | 0, bs, h => by unfold W; rw [List.all_eq_true]; exact h
  | j + 1, bs, h => by
    have a := W_some (ks := ks) hu j (bs ++ [false]) fun ls hl => kept_more (hu ls hl) (h ls hl)
    have b := W_some (ks := ks) hu j (bs ++ [true]) fun ls hl => kept_more (hu ls hl) (h ls hl)
    unfold W
    rw [a, b]
    cases kS (ks.getD bs.length .non) <;> rfl
theorem lost_more {bs : List Bool} {t : Bool} {ls : List Int} {m : Int} (hu : Up m 0 ls) (h : kept bs ls = false ∧ rest bs ls = []) : kept (bs ++ [t]) ls = false ∧ rest (bs ++ [t]) ls = [] := by
  obtain ⟨n1, n2⟩ := next_ok bs t ls 0 (Int.le_refl _) hu
  rw [n1, n2, h.1, h.2]; exact ⟨rfl, rfl⟩
theorem W_all {ks : List D} {rss : List (List Int)} {m : Int} {ls : List Int} (hl : ls ∈ rss) (hu : Up m 0 ls) : ∀ (j : Nat) (bs : List Bool), kept bs ls = false ∧ rest bs ls = [] → W ks rss j bs = false
  | 0, bs, h => by
    unfold W
    cases e : rss.all (kept bs) with
    | false => rfl
    | true => rw [List.all_eq_true.mp e ls hl] at h; cases h.1
  | j + 1, bs, h => by
    have a := W_all (ks := ks) hl hu j (bs ++ [false]) (lost_more hu h)
    have b := W_all (ks := ks) hl hu j (bs ++ [true]) (lost_more hu h)
    unfold W
    rw [a, b]
    cases kS (ks.getD bs.length .non) <;> rfl
theorem up_end {m : Int} (bs : List Bool) (h : m ≤ bs.length) : ∀ (ls : List Int) (last : Int), Up m last ls → rest bs ls = []
  | [], _, _ => rfl
  | l :: r, last, u => by
    have o : opn bs l = false := decide_eq_false (by have := u.2.1; omega)
    unfold rest
    rw [List.filter_cons_of_neg (by rw [o]; simp)]
    exact up_end bs h r (absZ l) u.2.2
theorem other_ok (b : Bool) (H : HD) : m_other_side [sideD b] H = some (sideD (!b), H) := by
  cases b
  · have : ((("all" : Str)) == ("some" : Str)) = false := by decide
    simp [m_other_side, b_other_side, runB, sideD, sSeq, sRet, eIf, tOf, eOp, eqD, twoS, eVar, eC, blD, this]
  · simp [m_other_side, b_other_side, runB, sideD, sSeq, sRet, eIf, tOf, eOp, eqD, twoS, eVar, eC, blD]
theorem side_eq (a b : Bool) (H : HD) : eqD (sideD a) (sideD b) H = some (.bl (a == b), H) := by
  have e1 : ((("all" : Str)) == ("some" : Str)) = false := by decide
  have e2 : ((("some" : Str)) == ("all" : Str)) = false := by decide
  cases a <;> cases b <;> simp [eqD, twoS, sideD, e1, e2]
end K08
namespace K08
open PySem L2 DL LH WP
theorem at0 (a b : D) : atI [a, b] 0 = some a := atI_nat (j := 0) rfl
theorem at1 (a b : D) : atI [a, b] 1 = some b := atI_nat (j := 1) rfl
theorem Fz.fm {H H' : HD} (x : Fz H H') : Fm [] H H' := ⟨fun m o _ h => x.old m o h, x.len⟩
structure Cl (ks : List D) (rss : List (List Int)) : Prop where
  hk : ∀ d ∈ ks, IsKind d
  hu : ∀ ls ∈ rss, Up ks.length 0 ls
  hl : rss.length ≤ 1000
  h8 : ks.length ≤ 8
noncomputable def claimD (ks : List D) (rss : List (List Int)) : D := .tup [.tup ks, .tup (rss.map rowD)]
variable {H : HD} {Q : D → HD → Prop}
theorem w_cl0 {ks : List D} {rss : List (List Int)} (q : Q (.tup ks) H) : wE (ixD (claimD ks rss) (.int 0) H) Q := ⟨_, _, ixT (at0 _ _), q⟩
theorem w_cl1 {ks : List D} {rss : List (List Int)} (q : Q (.tup (rss.map rowD)) H) : wE (ixD (claimD ks rss) (.int 1) H) Q := ⟨_, _, ixT (at1 _ _), q⟩
theorem side_of {ks : List D} (hk : ∀ d ∈ ks, IsKind d) {i : Nat} (h : i < ks.length) : ks[i]? = some (sideD (kS (ks.getD i .non))) := by
  have e0 : ks.getD i .non = ks[i] := by simp [List.getD, h]
  have := kind_side (hk ks[i] (List.getElem_mem h))
  rw [List.getElem?_eq_getElem h, e0]
  exact congrArg some this
theorem w_eqSide {a b : Bool} (q : Q (.bl (a == b)) H) : wE (eqD (sideD a) (sideD b) H) Q := ⟨_, _, side_eq _ _ _, q⟩
theorem w_behind {ks : List D} {rss : List (List Int)} {bs : List Bool} {t : Bool} {kvs : List (D × D)} {p : Nat} {fz : Bool} (c : Cl ks rss) (g : H[p]? = some (.dic kvs fz)) (dr : DR rss bs kvs)
    (q : ∀ kvs' r H', H'[r]? = some (.dic kvs' false) → DR rss (bs ++ [t]) kvs' → Fm [] H H' → Q (.ref r) H') : wE (m_rows_behind [.ref p, .int ((bs.length : Int) + 1), .bl t] H) Q := by
  obtain ⟨kvs', H', r, e, g', d', x⟩ := behind_ok (t := t) c.hu c.hl g dr
  exact ⟨_, _, e, q kvs' r H' g' d' x.fm⟩
theorem w_first {ks : List D} {rss : List (List Int)} (c : Cl ks rss) (q : ∀ kvs r H', H'[r]? = some (.dic kvs false) → DR rss [] kvs → Fm [] H H' → Q (.ref r) H') : wE (m_first_numbers [.tup (rss.map rowD)] H) Q := by
  obtain ⟨kvs', H', r, e, g', d', x⟩ := first_ok c.hu c.hl H
  exact ⟨_, _, e, q kvs' r H' g' d' x.fm⟩
end K08
namespace K08
open PySem L2 DL LH WP
local macro_rules | `(tactic| fail $s:str) => do
  if s.getString == "lk" then `(tactic| first | assumption | with_reducible exact WP.last | (with_reducible refine WP.appL ?_; fail "lk"))
  else if s.getString == "go" then do
    let a0 ← `(by with_unfolding_all rfl)
    let a1 ← `(?_)
    let a2 ← `(by first | (simp; done) | (simp; omega) | omega)
    let a3 ← `(by decide)
    let a4 ← `(by with_unfolding_all first | exact (rfl : _ = true) | exact (rfl : _ = false))
    let a5 ← `(by fail "lk")
    let a6 ← `(by with_unfolding_all exact rfl)
    let t ← ([`WP.w_var].map (·, [a0, a1]) ++ [`WP.w_c, `WP.w_seq, `WP.w_kn, `WP.w_set, `WP.w_op, `WP.w_acons, `WP.w_anil, `WP.w_call, `WP.w_cb, `WP.w_tof, `WP.w_bl, `WP.w_bt, `WP.w_bf, `WP.w_bnt, `WP.w_bnf, `WP.w_ret, `WP.w_fr, `WP.w_kr, `WP.w_snil, `WP.w_expr, `WP.w_for, `WP.w_or, `WP.w_an, `WP.w_no, `WP.w_ttru, `WP.w_eif, `WP.w_eno, `WP.w_ean, `WP.w_eorr, `WP.w_un, `WP.w_ch, `WP.w_int, `WP.w_tup, `WP.w_lst, `WP.w_lm, `WP.w_tm, `WP.w_dm, `WP.w_dn, `WP.w_on, `WP.w_os, `WP.w_sl, `WP.w_rv, `WP.w_lc, `WP.w_asg, `WP.w_gnm, `WP.w_gsb, `WP.w_gcn, `WP.w_gnl].map (·, [a1]) ++ [`WP.w_n, `WP.w_gtp, `WP.w_ixT, `WP.w_isN, `WP.w_isnN, `WP.w_isBl, `WP.w_isnBl].map (·, [a0, a1]) ++ [`WP.w_sz, `WP.w_addT].map (·, [a2, a1]) ++ [`WP.w_mod].map (·, [a3, a1]) ++ [`WP.w_fdiv, `WP.w_mulL, `WP.w_mulR].map (·, [a3, a3, a1]) ++ [`WP.w_eqI', `WP.w_neI', `WP.w_eqS', `WP.w_neS'].map (·, [a4, a1]) ++ [`WP.w_lenR, `WP.w_tupR, `WP.w_itR].map (·, [a5, a1]) ++ [`WP.w_ixR].map (·, [a5, a0, a1]) ++ [`WP.w_isi'].map (·, [a0, a0, a4, a1]) ++ [`WP.w_addI, `WP.w_subI, `WP.w_lt, `WP.w_le, `WP.w_gt, `WP.w_ge, `WP.w_slhi, `WP.w_sllo, `WP.w_sllo1, `WP.w_neg, `WP.w_eqI, `WP.w_neI, `WP.w_eqS, `WP.w_neS, `WP.w_lenT, `WP.w_lenF, `WP.w_abs, `WP.w_intI, `WP.w_intB, `WP.w_max, `WP.w_min, `WP.w_truB, `WP.w_truT, `WP.w_truN, `WP.w_isq, `WP.w_itT, `WP.w_itF, `WP.w_ir1, `WP.w_ir2, `WP.w_ir3, `WP.w_idic, `WP.w_enum, `WP.w_enum1, `WP.w_zip, `WP.w_yes, `WP.w_retn, `WP.w_fn, `WP.w_agn, `WP.w_agr, `WP.w_kb, `WP.w_kc, `WP.w_agb, `WP.w_agc, `WP.w_brk, `WP.w_cnt].map (·, [a1]) ++ [`WP.w_bT, `WP.w_bF].map (·, [a6, a1]) : List (Lean.Name × List Lean.Term)).foldrM (fun p (r : Lean.TSyntax `tactic) => `(tactic| first | with_reducible refine $(Lean.Syntax.mkApp (Lean.mkIdent p.1) p.2.toArray) | $r:tactic)) (← `(tactic| fail "no"))
    return t
  else Lean.Macro.throwUnsupported
local macro_rules | `(tactic| fail $s:str) => do
  if s.getString == "go" then `(tactic| first | with_reducible refine w_lenP ?_ | with_reducible refine w_addP (by omega) ?_ | with_reducible refine w_cl0 ?_ | with_reducible refine w_cl1 ?_)
  else Lean.Macro.throwUnsupported
variable {H : HD} {Q : D → HD → Prop}
noncomputable def ofAll (ks : List D) (ls : List Int) : Bool := ls.all fun l => !kS (ks.getD (absZ l - 1).toNat .non)
theorem ofAll_next {ks : List D} {b : Int} {ls : List Int} (h : ofAll ks ls = true) : ofAll ks (nextR b ls) = true := by
  cases ls with
  | nil => exact h
  | cons l r =>
    show ofAll ks (if absZ l = b + 1 then r else l :: r) = true
    split
    · unfold ofAll at h ⊢; rw [List.all_cons, Bool.and_eq_true] at h; exact h.2
    · exact h
theorem W_lost {ks : List D} {rss : List (List Int)} {ls : List Int} (hl : ls ∈ rss) (hu : Up ks.length 0 ls) : ∀ (j : Nat) (bs : List Bool), bs.length + j = ks.length → kept bs ls = false → ofAll ks (rest bs ls) = true → W ks rss j bs = false
  | 0, bs, hb, hk, ha => W_all hl hu 0 bs ⟨hk, up_end bs (by omega) ls 0 hu⟩
  | j + 1, bs, hb, hk, ha => by
    have nx := fun t => next_ok bs t ls 0 (Int.le_refl _) hu
    have go : ∀ t, hits bs.length t (rest bs ls) = false → W ks rss j (bs ++ [t]) = false := fun t ht =>
      W_lost hl hu j (bs ++ [t]) (by simp; omega) (by rw [(nx t).2, hk, ht]; rfl) (by rw [(nx t).1]; exact ofAll_next ha)
    unfold W
    cases hw : kS (ks.getD bs.length .non) with
    | false =>
      have : ∃ t, hits bs.length t (rest bs ls) = false := by
        cases rest bs ls with
        | nil => exact ⟨false, rfl⟩
        | cons l r =>
          refine ⟨!decide (0 < l), ?_⟩
          show (decide (absZ l = (bs.length : Int) + 1) && ((!decide (0 < l)) == decide (0 < l))) = false
          cases decide (0 < l) <;> cases decide (absZ l = (bs.length : Int) + 1) <;> rfl
      obtain ⟨t, ht⟩ := this
      have := go t ht
      cases t
      · simp [this]
      · simp [this]
    | true =>
      have nh : ∀ t, hits bs.length t (rest bs ls) = false := by
        intro t
        cases e : rest bs ls with
        | nil => rfl
        | cons l r =>
          unfold hits
          rw [e] at ha
          unfold ofAll at ha
          rw [List.all_cons, Bool.and_eq_true] at ha
          have : ¬ absZ l = (bs.length : Int) + 1 := fun z => by
            have h2 : (absZ l - 1).toNat = bs.length := by omega
            rw [h2, hw] at ha
            cases ha.1
          simp [this]
      simp [go _ (nh false), go _ (nh true)]
inductive PlanD (ks : List D) (rss : List (List Int)) (side : Bool) : List Bool → D → Prop
  | kept {bs : List Bool} : side = true → (∀ ls ∈ rss, kept bs ls = true) → PlanD ks rss side bs (.tup [.str "kept"])
  | lost {bs : List Bool} {i : Nat} {ls : List Int} : side = false → rss[i]? = some ls → K08.kept bs ls = false → ofAll ks (rest bs ls) = true → PlanD ks rss side bs (.tup [.str "lost", .int i])
  | pick {bs : List Bool} {t : Bool} {x : D} : bs.length < ks.length → kS (ks.getD bs.length .non) = side → PlanD ks rss side (bs ++ [t]) x → PlanD ks rss side bs (.tup [.str "pick", .bl t, x])
  | each {bs : List Bool} {x y : D} : bs.length < ks.length → kS (ks.getD bs.length .non) = !side → PlanD ks rss side (bs ++ [false]) x → PlanD ks rss side (bs ++ [true]) y → PlanD ks rss side bs (.tup [.str "each", x, y])
theorem w_all {p : Nat} {bs : List Bool} (g : H[p]? = some (.lst (bs.map .bl))) (q : Q (.bl (bs.all id)) H) : wE (allD [.ref p] H) Q := ⟨_, _, all_ok g, q⟩
theorem w_ofAll {ks : List D} {ls : List Int} (hk : ∀ d ∈ ks, IsKind d) (h : ∀ l ∈ ls, 0 < absZ l ∧ absZ l ≤ ks.length) (hl : ls.length ≤ 1000) (q : ∀ H', Fm [] H H' → Q (.bl (ofAll ks ls)) H') : wE (m_are_of_all [.tup ks, rowD ls] H) Q := by
  refine w_run rfl ?_
  show wS (b_are_of_all [some (.tup ks), some (rowD ls)] H) _
  unfold b_are_of_all rowD
  (repeat fail "go")
  refine w_cmap (fun d => match d with | .int l => .bl (!kS (ks.getD (absZ l - 1).toNat .non)) | _ => .non) (fun H' => H' = H) (fun _ _ => own0) _ (fun x hx H1 j => ?_) _ rfl fun H1 j => ?_
  · obtain ⟨l, hl, rfl⟩ := List.mem_map.mp hx
    have := h l hl
    subst j
    (repeat fail "go")
    refine w_ixT (atI_toNat (by omega) (side_of hk (by omega))) ?_
    (repeat fail "go")
    refine w_eqSide (b := false) ?_
    exact ⟨by simp, rfl⟩
  · subst j
    refine ⟨by simp; omega, ?_⟩
    (repeat fail "go")
    have e : ((ls.map D.int).map fun d => match d with | .int l => D.bl (!kS (ks.getD (absZ l - 1).toNat .non)) | _ => .non) = (ls.map fun l => !kS (ks.getD (absZ l - 1).toNat .non)).map .bl := by
      rw [List.map_map, List.map_map]; rfl
    rw [e]
    refine w_all last ?_
    (repeat fail "go")
    have := q (H1 ++ [.lst ((ls.map fun l => !kS (ks.getD (absZ l - 1).toNat .non)).map .bl)]) (Fm.app _)
    rw [List.all_map]
    exact this
theorem up_len {m : Int} : ∀ (ls : List Int) (last : Int), Up m last ls → ls.length ≤ (m - last).toNat
  | [], _, _ => Nat.zero_le _
  | x :: r, last, u => by
    obtain ⟨u1, u2, u3⟩ := u
    have := up_len r _ u3
    simp only [List.length_cons]
    omega
theorem up_mem {m : Int} : ∀ (ls : List Int) (last : Int), 0 ≤ last → Up m last ls → ∀ l ∈ ls, last < absZ l ∧ absZ l ≤ m
  | [], _, _, _, _, h => by cases h
  | l :: r, last, h0, u, x, h => by
    obtain ⟨u1, u2, u3⟩ := u
    rcases List.mem_cons.mp h with rfl | h
    · exact ⟨u1, u2⟩
    · have := up_mem r (absZ l) (by omega) u3 x h; omega
theorem rest_mem {bs : List Bool} {ls : List Int} {l : Int} (h : l ∈ rest bs ls) : l ∈ ls := (List.mem_filter.mp h).1
theorem w_numLost {ks : List D} {rss : List (List Int)} {bs : List Bool} {kvs : List (D × D)} {p : Nat} {fz : Bool} (c : Cl ks rss) (g : H[p]? = some (.dic kvs fz)) (dr : DR rss bs kvs)
    (q1 : ∀ (i : Nat) (ls : List Int) H', Fm [] H H' → rss[i]? = some ls → kept bs ls = false → ofAll ks (rest bs ls) = true → Q (.int i) H') (q2 : ∀ H', Fm [] H H' → (∀ ls ∈ rss, kept bs ls = false → ofAll ks (rest bs ls) = false) → Q .non H') :
    wE (m_number_of_lost [.tup ks, .ref p] H) Q := by
  refine w_run rfl ?_
  show wS (b_number_of_lost [some (.tup ks), some (.ref p), none] H) _
  unfold b_number_of_lost
  (repeat fail "go")
  refine ⟨p, kvs, fz, rfl, g, ?_⟩
  have lt := (List.getElem?_eq_some_iff.mp g).1
  have x0 : Fm [] H (H.set p (.dic kvs true)) := ⟨fun m o _ h => by
    by_cases e : p = m
    · subst e
      rw [g] at h; cases h
      cases fz
      · exact .inr ⟨kvs, rfl, setS g⟩
      · exact .inl (setS g)
    · exact .inl (setO e h), by simp⟩
  refine w_loop (fun d t σ H' => d ++ t = kvs.map (·.1) ∧ (∀ ls, rowD ls ∈ d → ofAll ks ls = false) ∧ Fm [] H H' ∧ H'[p]? = some (.dic kvs true) ∧ ∃ b, σ = [some (.tup ks), some (.ref p), b]) (fun _ _ _ _ j => own1 j.2.2.2.1) (fun d x t σ H1 ⟨i1, i2, i3, i4, b, i5⟩ => ?_) (fun d σ H1 ⟨i1, i2, i3, i4, b, i5⟩ => ?_) _ [] _ _ ⟨rfl, by simp, x0, setS g, _, rfl⟩
  · subst i5
    have hm : x ∈ kvs.map (·.1) := by rw [← i1]; simp
    obtain ⟨y, hy, rfl⟩ := List.mem_map.mp hm
    obtain ⟨i, ls, v1, v2, v3⟩ := dr.val y hy
    have hu := c.hu ls (List.mem_of_getElem? v1)
    have hb := up_mem ls 0 (Int.le_refl _) hu
    have ek : y.1 = rowD (rest bs ls) := by rw [v3]
    rw [ek]
    have ll : (rest bs ls).length ≤ 1000 := by
      refine Nat.le_trans (List.length_filter_le _ _) ?_
      have l9 := up_len ls 0 hu
      have := c.h8
      omega
    (repeat fail "go"); (refine WP.w_if ?_; (repeat fail "go"))
    refine w_ofAll c.hk (fun l hl => ⟨(hb l (rest_mem hl)).1, (hb l (rest_mem hl)).2⟩) ll fun H2 x2 => ?_
    refine ⟨_, rfl, ?_, ?_⟩
    · intro ha
      (repeat fail "go")
      obtain ⟨v, ev⟩ := Option.isSome_iff_exists.mp (mem_dlook hy (k := rest bs ls) (by rw [ek]; exact nk_row _))
      obtain ⟨z, z1, z2, z3⟩ := dlook_at ev
      obtain ⟨i', ls', u1, u2, u3⟩ := dr.val z z1
      have er : rest bs ls' = rest bs ls := by rw [u3, nk_row] at z2; exact Option.some.inj z2
      refine w_dget (x2.fr (by simp) i4) (nk_row _) ev ?_
      (repeat fail "go")
      rw [← z3, u3]
      exact q1 i' ls' H2 (i3.trans x2) u1 u2 (by rw [er]; exact ha)
    · intro ha
      (repeat fail "go")
      refine ⟨by rw [← i1, ek]; simp, fun l hl => ?_, i3.trans x2, x2.fr (by simp) i4, _, rfl⟩
      rcases List.mem_append.mp hl with hl | hl
      · exact i2 l hl
      · simp at hl; rw [row_inj hl]; exact ha
  · subst i5
    (repeat fail "go")
    refine q2 H1 i3 fun ls hl hk => ?_
    obtain ⟨y, hy, ey⟩ := dlook_mem (dr.all ls hl hk)
    obtain ⟨i', ls', u1, u2, u3⟩ := dr.val y hy
    have er : rest bs ls' = rest bs ls := by rw [u3, nk_row] at ey; exact Option.some.inj ey
    refine i2 _ ?_
    rw [List.append_nil] at i1
    rw [i1, ← er]
    exact List.mem_map.mpr ⟨y, hy, by rw [u3]⟩
theorem w_other {b : Bool} (q : Q (sideD (!b)) H) : wE (m_other_side [sideD b] H) Q := ⟨_, _, other_ok b H, q⟩
theorem rec_two {ks : List D} {rss : List (List Int)} (c : Cl ks rss) : ∀ f : Nat,
    (∀ (j : Nat) (bs : List Bool) (kvs : List (D × D)) (p : Nat) (fz : Bool) (H : HD) (Q : D → HD → Prop), 2 * j + 1 ≤ f → bs.length + j = ks.length → H[p]? = some (.dic kvs fz) → DR rss bs kvs →
      (∀ t H', PlanD ks rss (W ks rss j bs) bs t → Fm [] H H' → Q (.tup [sideD (W ks rss j bs), t]) H') → wE ((recP 3 4 3 7 b_plan_behind b_plan_by_picks f).1 [.tup ks, .ref p, .int bs.length] H) Q) ∧
    (∀ (j : Nat) (bs : List Bool) (kvs : List (D × D)) (p : Nat) (fz : Bool) (H : HD) (Q : D → HD → Prop), 2 * (j + 1) ≤ f → bs.length + (j + 1) = ks.length → H[p]? = some (.dic kvs fz) → DR rss bs kvs →
      (∀ t H', PlanD ks rss (W ks rss (j + 1) bs) bs t → Fm [] H H' → Q (.tup [sideD (W ks rss (j + 1) bs), t]) H') → wE ((recP 3 4 3 7 b_plan_behind b_plan_by_picks f).2 [.tup ks, .ref p, .int bs.length] H) Q) := by
  intro f
  induction f with
  | zero => exact ⟨fun j _ _ _ _ _ _ h => by omega, fun j _ _ _ _ _ _ h => by omega⟩
  | succ f ih =>
    obtain ⟨ih1, ih2⟩ := ih
    refine ⟨?_, ?_⟩
    · intro j bs kvs p fz H Q hf hj g dr q
      rw [recP]
      dsimp only
      generalize hF1 : (recP 3 4 3 7 b_plan_behind b_plan_by_picks f).1 = F1 at *
      generalize hF2 : (recP 3 4 3 7 b_plan_behind b_plan_by_picks f).2 = F2 at *
      refine w_run rfl ?_
      show wS (b_plan_behind _ _ [some (.tup ks), some (.ref p), some (.int bs.length), none] H) _
      unfold b_plan_behind
      (repeat fail "go"); (refine WP.w_if ?_; (repeat fail "go"))
      refine w_dlen g ?_
      (repeat fail "go")
      refine ⟨fun h => ?_, fun h => ?_⟩
      · have e0 : kvs = [] := List.length_eq_zero_iff.mp (by simp at h; simpa using h)
        subst e0
        have al : ∀ ls ∈ rss, kept bs ls = true := fun ls h => by
          cases e : kept bs ls with
          | true => rfl
          | false => have := dr.all ls h e; simp [dlook] at this
        have ew := W_some (ks := ks) c.hu j bs al
        (repeat fail "go")
        have := q (.tup [.str "kept"]) H (.kept ew al) Fm.refl
        rw [ew] at this; exact this
      · (repeat fail "go")
        refine w_numLost c g dr (fun i ls H1 x1 e1 e2 e3 => ?_) (fun H1 x1 hn => ?_)
        · (repeat fail "go"); (refine WP.w_if ?_; (repeat fail "go"))
          have ew := W_lost (List.mem_of_getElem? e1) (c.hu ls (List.mem_of_getElem? e1)) j bs hj e2 e3
          have := q (.tup [.str "lost", .int i]) H1 (.lost ew e1 e2 e3) x1
          rw [ew] at this; exact this
        · (repeat fail "go"); (refine WP.w_if ?_; (repeat fail "go"))
          obtain ⟨fz1, g1⟩ := x1.dic (by simp) g
          match j, hj, hf, q with
          | 0, hj, _, _ =>
            exfalso
            have hne : kvs ≠ [] := fun z => by subst z; simp at h
            obtain ⟨y, kr, e⟩ := List.exists_cons_of_ne_nil hne
            obtain ⟨i, ls, v1, v2, v3⟩ := dr.val y (by rw [e]; simp)
            have := hn ls (List.mem_of_getElem? v1) v2
            rw [up_end bs (m := ks.length) (by omega) ls 0 (c.hu ls (List.mem_of_getElem? v1))] at this
            cases this
          | j + 1, hj, hf, q =>
            refine ih2 j bs kvs p fz1 H1 _ (by omega) hj g1 dr fun t H2 pt x2 => ?_
            (repeat fail "go")
            exact q t H2 pt (x1.trans x2)
    · intro j bs kvs p fz H Q hf hj g dr q
      rw [recP]
      dsimp only
      generalize hF1 : (recP 3 4 3 7 b_plan_behind b_plan_by_picks f).1 = F1 at *
      generalize hF2 : (recP 3 4 3 7 b_plan_behind b_plan_by_picks f).2 = F2 at *
      refine w_run rfl ?_
      show wS (b_plan_by_picks _ _ [some (.tup ks), some (.ref p), some (.int bs.length), none, none, none, none] H) _
      unfold b_plan_by_picks
      have lb : ∀ t : Bool, (((bs ++ [t]).length : Nat) : Int) = (bs.length : Int) + 1 := fun t => by simp
      have Wd : W ks rss (j + 1) bs = (if W ks rss j (bs ++ [false]) == kS (ks.getD bs.length .non) || W ks rss j (bs ++ [true]) == kS (ks.getD bs.length .non) then kS (ks.getD bs.length .non) else !kS (ks.getD bs.length .non)) := by
        conv => lhs; unfold W
      (repeat fail "go")
      refine w_ixT (atI_nat (side_of c.hk (by omega))) ?_
      (repeat fail "go")
      rw [k_TRUTHS]
      (repeat fail "go")
      generalize hw : kS (ks.getD bs.length .non) = who at *
      refine w_fcons own0 ?_
      (repeat fail "go")
      refine w_behind c (appL g) dr fun kvs1 r1 H1 g1 d1 x1 => ?_
      (repeat fail "go")
      rw [← lb false]
      refine ih1 j (bs ++ [false]) kvs1 r1 false H1 _ (by omega) (by simp; omega) g1 d1 fun t2 H2 p2 x2 => ?_
      have T2 := x2.lst (by simp) (x1.lst (by simp) last)
      (repeat fail "go"); (refine WP.w_if ?_; (repeat fail "go"))
      refine w_eqSide ?_
      (repeat fail "go")
      refine ⟨fun h => ?_, fun h => ?_⟩
      · (repeat fail "go")
        have ew : W ks rss (j + 1) bs = who := by rw [Wd, h]; rfl
        have e2 : W ks rss j (bs ++ [false]) = who := by simpa using h
        rw [e2] at p2
        have := q (.tup [.str "pick", .bl false, t2]) H2 (by rw [ew]; exact .pick (by omega) hw p2) (((Fm.app _).trans x1).trans x2)
        rw [ew] at this; exact this
      · (repeat fail "go")
        refine ⟨isl T2, ?_⟩
        (repeat fail "go")
        refine w_app T2 (by simp) ?_
        (repeat fail "go")
        refine w_fcons own0 ?_
        (repeat fail "go")
        obtain ⟨fz3, g3⟩ := (((Fm.app _).trans x1).trans x2).dic (by simp) g
        have nq : H.length ≠ p := by have := (List.getElem?_eq_some_iff.mp g).1; omega
        refine w_behind c (setO nq g3) dr fun kvs4 r4 H4 g4 d4 x4 => ?_
        (repeat fail "go")
        rw [← lb true]
        refine ih1 j (bs ++ [true]) kvs4 r4 false H4 _ (by omega) (by simp; omega) g4 d4 fun t5 H5 p5 x5 => ?_
        have T5 := x5.lst (by simp) (x4.lst (by simp) (setS T2))
        have X5 : Fm [] H H5 := (((Fm.app (S := []) [DO.lst []]).trans x1).trans x2).new (((Fm.set (S := [H.length]) (by simp)).trans (x4.sub (by simp))).trans (x5.sub (by simp))) (by simp)
        (repeat fail "go"); (refine WP.w_if ?_; (repeat fail "go"))
        refine w_eqSide ?_
        (repeat fail "go")
        refine ⟨fun h' => ?_, fun h' => ?_⟩
        · (repeat fail "go")
          have ew : W ks rss (j + 1) bs = who := by rw [Wd, h, h']; rfl
          have e2 : W ks rss j (bs ++ [true]) = who := by simpa using h'
          rw [e2] at p5
          have := q (.tup [.str "pick", .bl true, t5]) H5 (by rw [ew]; exact .pick (by omega) hw p5) X5
          rw [ew] at this; exact this
        · (repeat fail "go")
          refine ⟨isl T5, ?_⟩
          (repeat fail "go")
          refine w_app T5 (by simp) ?_
          (repeat fail "go")
          refine w_fnil own0 ?_
          (repeat fail "go")
          refine w_other ?_
          have T6 := setS (o := .lst ([] ++ [t2] ++ [t5])) T5
          (repeat fail "go")
          have ew : W ks rss (j + 1) bs = !who := by rw [Wd, h, h']; rfl
          have e2 : W ks rss j (bs ++ [false]) = !who := by cases who <;> cases hh : W ks rss j (bs ++ [false]) <;> simp_all
          have e5 : W ks rss j (bs ++ [true]) = !who := by cases who <;> cases hh : W ks rss j (bs ++ [true]) <;> simp_all
          rw [e2] at p2
          rw [e5] at p5
          have := q (.tup [.str "each", t2, t5]) _ (by rw [ew]; exact .each (by omega) (by rw [hw]; simp) p2 p5) (X5.new (Fm.set (p := H.length) (o := .lst ([] ++ [t2] ++ [t5])) (S := [H.length]) (by simp)) (by simp))
          rw [ew] at this; exact this
theorem w_plan {ks : List D} {rss : List (List Int)} (c : Cl ks rss) (q : ∀ t H', PlanD ks rss (W ks rss ks.length []) [] t → Fm [] H H' → Q (.tup [sideD (W ks rss ks.length []), t]) H') : wE (m_plan [claimD ks rss] H) Q := by
  have h8 := c.h8
  refine w_run rfl ?_
  show wS (b_plan [some (claimD ks rss)] H) _
  unfold b_plan
  (repeat fail "go")
  refine w_first c fun kvs r H1 g1 d1 x1 => ?_
  (repeat fail "go")
  refine (rec_two c 22).1 ks.length [] kvs r false H1 _ (by omega) (by simp) g1 d1 fun t H2 pt x2 => ?_
  (repeat fail "go")
  exact q t H2 pt (x1.trans x2)
theorem w_ifB' {t : TF} {f g : SF} {σ : SD} {R : FD → SD → HD → Prop} (B : Bool) (h : wT (t σ H) fun b H' => H' = H ∧ b = B) (ht : B = true → wS (f σ H) R) (hf : B = false → wS (g σ H) R) : wS (sIf t f g σ H) R := by
  obtain ⟨b, H1, e, rfl, rfl⟩ := h
  exact w_if ⟨_, _, e, ht, hf⟩
theorem w_mix {cell k : Int} (h0 : 0 ≤ k) (h1 : k ≤ 100) (q : ∀ r H', 0 ≤ r → r < 2147483648 → Fm [] H H' → Q (.int r) H') : wE (m_law_mix [.int cell, .int k] H) Q := by
  refine w_run rfl ?_
  show wS (b_law_mix [some (.int cell), some (.int k), none, none] H) _
  unfold b_law_mix
  obtain ⟨P, hP, hP2, eP⟩ : ∃ P : Int, 0 < P ∧ P < 2147483648 ∧ atI [D.int 2147483647, .int 2147483629, .int 2147483587, .int 2147483579, .int 2147483563, .int 2147483549, .int 2147483543] (k % 7) = some (.int P) := by
    rcases (show k % 7 = 0 ∨ k % 7 = 1 ∨ k % 7 = 2 ∨ k % 7 = 3 ∨ k % 7 = 4 ∨ k % 7 = 5 ∨ k % 7 = 6 by omega) with h | h | h | h | h | h | h <;> rw [h]
    · exact ⟨2147483647, by omega, by omega, rfl⟩
    · exact ⟨2147483629, by omega, by omega, rfl⟩
    · exact ⟨2147483587, by omega, by omega, rfl⟩
    · exact ⟨2147483579, by omega, by omega, rfl⟩
    · exact ⟨2147483563, by omega, by omega, rfl⟩
    · exact ⟨2147483549, by omega, by omega, rfl⟩
    · exact ⟨2147483543, by omega, by omega, rfl⟩
  (repeat fail "go")
  refine w_ixR last eP ?_
  (repeat fail "go")
  have c0 := Int.emod_nonneg cell (show (998244353 : Int) ≠ 0 by decide)
  have c1 := Int.emod_lt_of_pos cell (show (0 : Int) < 998244353 by decide)
  generalize cell % 998244353 = c at *
  refine w_mulL (by omega) (by omega) ?_
  (repeat fail "go")
  refine w_mulL (by omega) (by omega) ?_
  (repeat fail "go")
  refine w_mod hP ?_
  have a0 := Int.emod_nonneg ((c + 104729 * (k + 1)) * (k * k + 7 * k + 13)) (show P ≠ 0 by omega)
  have a1 := Int.emod_lt_of_pos ((c + 104729 * (k + 1)) * (k * k + 7 * k + 13)) hP
  generalize (c + 104729 * (k + 1)) * (k * k + 7 * k + 13) % P = a at *
  (repeat fail "go")
  refine w_pow (by decide) (by decide) (by omega) ?_
  (repeat fail "go")
  have b0 := Int.emod_nonneg (a ^ (5 : Int).toNat) (show (1000000007 : Int) ≠ 0 by decide)
  have b1 := Int.emod_lt_of_pos (a ^ (5 : Int).toNat) (show (0 : Int) < 1000000007 by decide)
  generalize a ^ (5 : Int).toNat % 1000000007 = b at *
  refine w_mod hP ?_
  have d0 := Int.emod_nonneg (b * 48271 + 31 * k + 5) (show P ≠ 0 by omega)
  have d1 := Int.emod_lt_of_pos (b * 48271 + 31 * k + 5) hP
  generalize (b * 48271 + 31 * k + 5) % P = d at *
  (repeat fail "go")
  refine w_pow (by decide) (by decide) (by omega) ?_
  (repeat fail "go")
  have e0 := Int.emod_nonneg (d ^ (3 : Int).toNat) (show (998244353 : Int) ≠ 0 by decide)
  have e1 := Int.emod_lt_of_pos (d ^ (3 : Int).toNat) (show (0 : Int) < 998244353 by decide)
  generalize d ^ (3 : Int).toNat % 998244353 = e at *
  exact q _ _ (by omega) (by omega) (Fm.app _)
noncomputable def Digs (ds : List Int) : Prop := ∀ d ∈ ds, 0 ≤ d ∧ d < 2147483648
theorem w_digits {cell : Int} {many : Nat} (h1 : many ≤ 100) (q : ∀ (ds : List Int) p H', ds.length = many → Digs ds → H'[p]? = some (.lst (ds.map .int)) → H.length ≤ p → Fm [] H H' → Q (.ref p) H') : wE (m_law_digits [.int cell, .int many] H) Q := by
  refine w_run rfl ?_
  show wS (b_law_digits [some (.int cell), some (.int many), none, none, none, none] H) _
  unfold b_law_digits
  (repeat fail "go")
  refine w_pow (by decide) (by decide) (by decide) ?_
  (repeat fail "go")
  generalize decide ((10 : Int) ^ (18 : Int).toNat ≤ absZ cell) = wide
  refine ⟨_, rfl, ⟨by omega, by omega⟩, ?_⟩
  rw [show ((many : Int)).toNat = many by omega]
  refine w_loop (fun d t σ H' => d ++ t = rangeL 0 many ∧ ∃ (ds : List Int) (L : Int) (z5 : Option D), ds.length = d.length ∧ Digs ds ∧ H'[H.length]? = some (.lst (ds.map .int)) ∧ Fm [H.length] (H ++ [.lst []]) H' ∧ 0 ≤ L ∧ σ = [some (.int cell), some (.int many), some (.ref H.length), some (.int L), some (.bl wide), z5]) (fun _ _ _ _ _ => own0) (fun d x t σ H1 ⟨e0, ds, L, z5, e1, e2, e3, x1, hL, e5⟩ => ?_) (fun d σ H1 ⟨e0, ds, L, z5, e1, e2, e3, x1, hL, e5⟩ => ?_) _ [] _ _ ⟨rfl, [], absZ cell, _, rfl, (by intro d h; cases h), last, Fm.refl, (by unfold absZ; split <;> omega), rfl⟩
  · subst e5
    have hx : x ∈ rangeL 0 many := by rw [← e0]; simp
    simp only [rangeL, List.mem_map, List.mem_range] at hx
    obtain ⟨i, hi, rfl⟩ := hx
    have hd : d.length ≤ 100 := by
      have := congrArg List.length e0
      simp [rangeL] at this
      omega
    (repeat fail "go")
    refine w_ifB' (wide && decide (0 < L)) ?_ (fun h => ?_) (fun h => ?_)
    · (repeat fail "go")
      cases wide
      · exact ⟨(fun z => nomatch z), fun _ => ⟨rfl, rfl⟩⟩
      · refine ⟨fun _ => ?_, (fun z => nomatch z)⟩
        (repeat fail "go")
        exact ⟨rfl, by simp⟩
    · (repeat fail "go")
      refine ⟨isl e3, ?_⟩
      (repeat fail "go")
      refine w_app e3 (by simp; omega) ?_
      (repeat fail "go")
      have m0 := Int.emod_nonneg L (show (10007 : Int) ≠ 0 by decide)
      have m1 := Int.emod_lt_of_pos L (show (0 : Int) < 10007 by decide)
      refine ⟨by rw [← e0]; simp, ds ++ [L % 10007], L / 10007, _, by simp [e1], ?_, ?_, x1.trans (Fm.set (by simp)), Int.ediv_nonneg hL (by decide), rfl⟩
      · intro y hy
        rcases List.mem_append.mp hy with h | h
        · exact e2 y h
        · simp at h; subst h; exact ⟨m0, by omega⟩
      · rw [List.map_append]; exact setS e3
    · (repeat fail "go")
      refine ⟨isl e3, ?_⟩
      (repeat fail "go")
      refine w_mix (by omega) (by omega) fun r H2 r0 r1 x2 => ?_
      (repeat fail "go")
      have e3' := x2.lst (by simp) e3
      refine w_app e3' (by simp; omega) ?_
      (repeat fail "go")
      refine ⟨by rw [← e0]; simp, ds ++ [r], L, _, by simp [e1], ?_, ?_, (x1.trans (x2.sub (by simp))).trans (Fm.set (by simp)), hL, rfl⟩
      · intro y hy
        rcases List.mem_append.mp hy with h | h
        · exact e2 y h
        · simp at h; subst h; exact ⟨r0, r1⟩
      · rw [List.map_append]; exact setS e3'
  · subst e5
    have hd : d.length = many := by
      have := congrArg List.length e0
      simpa [rangeL] using this
    (repeat fail "go")
    exact q ds _ H1 (by omega) e2 e3 (Nat.le_refl _) ((Fm.app (S := []) _).new x1 (by intro m hm _; simp at hm; omega))
theorem w_dig {p : Nat} {ds : List Int} {i : Int} (g : H[p]? = some (.lst (ds.map .int))) (hd : Digs ds) (h0 : 0 ≤ i) (h1 : i < ds.length) (q : ∀ r, 0 ≤ r → r < 2147483648 → Q (.int r) H) : wE (ixD (.ref p) (.int i) H) Q := by
  have lt : i.toNat < ds.length := by omega
  have hm := hd _ (List.getElem_mem lt)
  exact w_ixR g (atI_toNat h0 (d := .int ds[i.toNat]) (by rw [List.getElem?_map, List.getElem?_eq_getElem lt]; rfl)) (q _ hm.1 hm.2)
theorem two_as {r : Int} (h0 : 0 ≤ r) (h1 : r < 2) : ∃ k, IsKind k ∧ atI [D.str "all", .str "some"] r = some k := by
  rcases (show r = 0 ∨ r = 1 by omega) with rfl | rfl
  · exact ⟨_, .inl rfl, rfl⟩
  · exact ⟨_, .inr rfl, rfl⟩
theorem two_sa {r : Int} (h0 : 0 ≤ r) (h1 : r < 2) : ∃ k, IsKind k ∧ atI [D.str "some", .str "all"] r = some k := by
  rcases (show r = 0 ∨ r = 1 by omega) with rfl | rfl
  · exact ⟨_, .inr rfl, rfl⟩
  · exact ⟨_, .inl rfl, rfl⟩
theorem mod2 (r : Int) : 0 ≤ r % 2 ∧ r % 2 < 2 := by omega
theorem w_kinds {p : Nat} {ds : List Int} {many : Nat} (g : H[p]? = some (.lst (ds.map .int))) (hd : Digs ds) (hl : many + 1 ≤ ds.length) (h100 : many ≤ 100) (q : ∀ ks H', (∀ d ∈ ks, IsKind d) → ks.length = many → Fm [] H H' → Q (.tup ks) H') : wE (m_law_kinds [.ref p, .int many] H) Q := by
  refine w_run rfl ?_
  show wS (b_law_kinds [some (.ref p), some (.int many), none, none, none] H) _
  unfold b_law_kinds
  (repeat fail "go")
  have hp : p < H.length := (List.getElem?_eq_some_iff.mp g).1
  refine ⟨_, rfl, ⟨by omega, by omega⟩, ?_⟩
  rw [show ((many : Int)).toNat = many by omega]
  refine w_loop (fun d t σ H' => d ++ t = rangeL 0 many ∧ ∃ (ks : List D) (z3 z4 : Option D), ks.length = d.length ∧ (∀ d ∈ ks, IsKind d) ∧ H'[H.length]? = some (.lst ks) ∧ Fm [H.length] (H ++ [.lst []]) H' ∧ σ = [some (.ref p), some (.int many), some (.ref H.length), z3, z4]) (fun _ _ _ _ _ => own0) (fun d x t σ H1 ⟨e0, ks, z3, z4, e1, e2, e3, x1, e5⟩ => ?_) (fun d σ H1 ⟨e0, ks, z3, z4, e1, e2, e3, x1, e5⟩ => ?_) _ [] _ _ ⟨rfl, [], _, _, rfl, (by intro d h; cases h), last, Fm.refl, rfl⟩
  · subst e5
    have hx : x ∈ rangeL 0 many := by rw [← e0]; simp
    simp only [rangeL, List.mem_map, List.mem_range] at hx
    obtain ⟨i, hi, rfl⟩ := hx
    have hdl : d.length ≤ 100 := by
      have := congrArg List.length e0
      simp [rangeL] at this
      omega
    have gp : H1[p]? = some (.lst (ds.map .int)) := x1.lst (by simp; omega) (appL g)
    have Jn : ∀ (L : List D) {H2 : HD}, Fm [H.length] (H ++ [.lst []]) H2 → H2[p]? = some (.lst (ds.map .int)) → H2[H.length]? = some (.lst ks) → Fm [H.length] (H ++ [.lst []]) (H2 ++ [.lst L]) ∧ (H2 ++ [.lst L])[p]? = some (.lst (ds.map .int)) ∧ (H2 ++ [.lst L])[H.length]? = some (.lst ks) := fun L H2 a b c => ⟨a.trans (Fm.app _), appL b, appL c⟩
    refine w_gnm (w_seq ?_)
    refine w_cut (fun σ H2 => (Fm [H.length] (H ++ [.lst []]) H2 ∧ H2[p]? = some (.lst (ds.map .int)) ∧ H2[H.length]? = some (.lst ks)) ∧ ∃ k, IsKind k ∧ σ = [some (.ref p), some (.int many), some (.ref H.length), some (.int (0 + i)), some k]) ?_ ?_
    · (repeat fail "go")
      refine w_dig (appL gp) hd (by omega) (by omega) fun r r0 r1 => ?_
      (repeat fail "go")
      obtain ⟨k, hk, ek⟩ := two_as (mod2 r).1 (mod2 r).2
      refine w_ixR last ek ?_
      exact ⟨rfl, Jn _ x1 gp e3, k, hk, rfl⟩
    rintro _ H2 ⟨⟨x2, g2, e4⟩, k, hk, rfl⟩
    refine w_seq (w_cut (fun σ H2 => (Fm [H.length] (H ++ [.lst []]) H2 ∧ H2[p]? = some (.lst (ds.map .int)) ∧ H2[H.length]? = some (.lst ks)) ∧ ∃ k, IsKind k ∧ σ = [some (.ref p), some (.int many), some (.ref H.length), some (.int (0 + i)), some k]) ?_ ?_)
    · (refine WP.w_if ?_; (repeat fail "go"))
      refine w_dig g2 hd (by omega) (by omega) fun r r0 r1 => ?_
      (repeat fail "go")
      refine ⟨fun h => ?_, fun h => ?_⟩
      · (repeat fail "go")
        refine w_dig (appL g2) hd (by omega) (by omega) fun r' r0' r1' => ?_
        (repeat fail "go")
        obtain ⟨k2, hk2, ek2⟩ := two_sa (mod2 (0 + (i : Int) + r')).1 (mod2 _).2
        refine w_ixR last ek2 ?_
        (repeat fail "go")
        exact ⟨rfl, Jn _ x2 g2 e4, k2, hk2, rfl⟩
      · (repeat fail "go")
        exact ⟨rfl, ⟨x2, g2, e4⟩, k, hk, rfl⟩
    rintro _ H3 ⟨⟨x3, g3, e6⟩, k, hk, rfl⟩
    refine w_seq (w_cut (fun σ H2 => (Fm [H.length] (H ++ [.lst []]) H2 ∧ H2[p]? = some (.lst (ds.map .int)) ∧ H2[H.length]? = some (.lst ks)) ∧ ∃ k, IsKind k ∧ σ = [some (.ref p), some (.int many), some (.ref H.length), some (.int (0 + i)), some k]) ?_ ?_)
    · (refine WP.w_if ?_; (repeat fail "go"))
      refine w_dig g3 hd (by omega) (by omega) fun r r0 r1 => ?_
      (repeat fail "go")
      refine ⟨fun h => ?_, fun h => ?_⟩
      · (repeat fail "go")
        refine w_dig (appL g3) hd (by omega) (by omega) fun r' r0' r1' => ?_
        (repeat fail "go")
        obtain ⟨k2, hk2, ek2⟩ := two_as (r := if decide (0 < r' % 3) = true then 1 else 0) (by split <;> omega) (by split <;> omega)
        refine w_ixR last ek2 ?_
        (repeat fail "go")
        exact ⟨rfl, Jn _ x3 g3 e6, k2, hk2, rfl⟩
      · (repeat fail "go")
        exact ⟨rfl, ⟨x3, g3, e6⟩, k, hk, rfl⟩
    rintro _ H4 ⟨⟨x4, g4, e7⟩, k, hk, rfl⟩
    (repeat fail "go")
    refine ⟨isl e7, ?_⟩
    (repeat fail "go")
    refine w_app e7 (by omega) ?_
    (repeat fail "go")
    refine ⟨by rw [← e0]; simp, ks ++ [k], _, _, by simp [e1], ?_, setS e7, x4.trans (Fm.set (by simp)), rfl⟩
    intro y hy
    rcases List.mem_append.mp hy with h | h
    · exact e2 y h
    · simp at h; subst h; exact hk
  · subst e5
    have hdl : d.length = many := by
      have := congrArg List.length e0
      simpa [rangeL] using this
    (repeat fail "go")
    exact q ks H1 e2 (by omega) ((Fm.app (S := []) _).new x1 (by intro m hm _; simp at hm; omega))
theorem up_snoc {m : Int} : ∀ (ls : List Int) (last l : Int), Up m last ls → (∀ x ∈ ls, absZ x < absZ l) → last < absZ l → absZ l ≤ m → Up m last (ls ++ [l])
  | [], last, l, _, _, h1, h2 => ⟨h1, h2, trivial⟩
  | x :: r, last, l, u, h, h1, h2 => by
    obtain ⟨u1, u2, u3⟩ := u
    exact ⟨u1, u2, up_snoc r (absZ x) l u3 (fun y hy => h y (by simp [hy])) (h x (by simp)) h2⟩
theorem range_cons43 (lo : Int) (m : Nat) : rangeL lo (m + 1) = .int lo :: rangeL (lo + 1) m := by
  unfold rangeL
  rw [List.range_succ_eq_map, List.map_cons, List.map_map]
  have e0 : D.int (lo + ((0 : Nat) : Int)) = .int lo := by simp
  rw [e0]
  refine congrArg (List.cons _) (List.map_congr_left fun a _ => ?_)
  show D.int _ = D.int _
  congr 1
  omega
theorem w_row43 {cell : Int} {M : Nat} {wide : Int} (hM : M ≤ 8) (q : ∀ ls H', Up M 0 ls → Fm [] H H' → Q (rowD ls) H') : wE (m_law_row [.int cell, .int M, .int wide] H) Q := by
  refine w_run rfl ?_
  show wS (b_law_row [some (.int cell), some (.int M), some (.int wide), none, none, none] H) _
  unfold b_law_row
  (repeat fail "go")
  rw [show (M : Int) + 1 = ((M + 1 : Nat) : Int) by omega]
  refine w_digits (by omega) fun ds p H1 l1 d1 g1 n1 x1 => ?_
  (repeat fail "go")
  refine ⟨_, rfl, ⟨by omega, by omega⟩, ?_⟩
  rw [Int.toNat_natCast]
  refine w_loop (fun d t σ H' => ∃ ls : List Int, t = rangeL (d.length : Int) (M - d.length) ∧ H'[p]? = some (.lst (ds.map .int)) ∧ H'[H1.length]? = some (.lst (ls.map .int)) ∧ ls.length ≤ d.length ∧ d.length ≤ M ∧ Up M 0 ls ∧ (∀ x ∈ ls, absZ x ≤ d.length) ∧ Fm [] H H' ∧ ∃ z, σ = [some (.int cell), some (.int M), some (.int wide), some (.ref p), some (.ref H1.length), z]) (fun _ _ _ _ _ => own0) (fun d x t σ H2 ⟨ls, i1, i2, i3, i4, i5, i6, i7, i8, z, i9⟩ => ?_) (fun d σ H2 ⟨ls, i1, i2, i3, i4, i5, i6, i7, i8, z, i9⟩ => ?_) _ [] _ _ ⟨[], by simp, appL g1, last, by simp, by simp, trivial, by simp, x1.trans (Fm.app _), none, rfl⟩
  · subst i9
    obtain ⟨k, hk⟩ : ∃ k, M - d.length = k + 1 := by
      cases h : M - d.length with
      | zero => rw [h] at i1; simp [rangeL] at i1
      | succ k => exact ⟨k, rfl⟩
    rw [hk, range_cons43] at i1
    obtain ⟨rfl, rfl⟩ := List.cons.inj i1
    have tl : rangeL ((d.length : Int) + 1) k = rangeL (((d ++ [D.int (d.length : Int)]).length : Nat) : Int) (M - (d ++ [D.int (d.length : Int)]).length) := by
      simp only [List.length_append, List.length_cons, List.length_nil]
      congr 1
      omega
    (repeat fail "go"); (refine WP.w_if ?_; (repeat fail "go"))
    refine w_dig i2 d1 (by omega) (by omega) fun r r0 r1 => ?_
    (repeat fail "go")
    refine w_mod (by omega) ?_
    (repeat fail "go")
    refine w_dig i2 d1 (by omega) (by omega) fun r' r0' r1' => ?_
    (repeat fail "go")
    refine ⟨fun h => ?_, fun h => ?_⟩
    · (repeat fail "go")
      refine ⟨isl i3, ?_⟩
      (repeat fail "go")
      refine w_dig (appL i2) d1 (by omega) (by omega) fun r2 r20 r21 => ?_
      (repeat fail "go")
      refine w_fdiv (by omega) (by omega) ?_
      (repeat fail "go")
      have m2 : r2 / ((M : Int) + 1) % 2 = 0 ∨ r2 / ((M : Int) + 1) % 2 = 1 := by omega
      obtain ⟨l, hl, el⟩ : ∃ l : Int, absZ l = (d.length : Int) + 1 ∧ atI [D.int ((d.length : Int) + 1), .int (0 - (d.length : Int) - 1)] (r2 / ((M : Int) + 1) % 2) = some (.int l) := by
        rcases m2 with z | z <;> rw [z]
        · exact ⟨_, by unfold absZ; split <;> omega, rfl⟩
        · exact ⟨_, by unfold absZ; split <;> omega, rfl⟩
      refine w_ixR last el ?_
      (repeat fail "go")
      refine w_app (appL i3) (by simp; omega) ?_
      (repeat fail "go")
      have np : H1.length ≠ p := by have := (List.getElem?_eq_some_iff.mp g1).1; omega
      refine ⟨ls ++ [l], tl, setO np (appL i2), by rw [setS (appL i3)]; simp, by simp; omega, by simp; omega, up_snoc ls 0 l i6 (fun x hx => by have := i7 x hx; omega) (by omega) (by omega), fun x hx => ?_, ?_, _, rfl⟩
      · rcases List.mem_append.mp hx with z | z
        · have := i7 x z; simp; omega
        · simp at z; subst z; simp; omega
      · exact (i8.trans (Fm.app _)).new (Fm.set (S := [H1.length]) (by simp)) (fun q hq _ => by simp at hq; subst hq; exact x1.len)
    · (repeat fail "go")
      exact ⟨ls, tl, i2, i3, by simp; omega, by simp; omega, i6, fun x hx => by have := i7 x hx; simp; omega, i8, _, rfl⟩
  · subst i9
    (repeat fail "go")
    exact q ls H2 i6 i8
theorem w_atF {ns : List Int} (H : HD) (k : Int) (Q : D → HD → Prop) (h0 : 0 ≤ k) (h1 : k ≤ 1000) (q : ∀ c, Q (.int c) H) : wE (m_law_at [.fl (ns.map .int), .int k] H) Q := by
  refine w_run rfl ?_
  show wS (b_law_at [some (.fl (ns.map .int)), some (.int k)] H) _
  unfold b_law_at
  (repeat fail "go"); (refine WP.w_if ?_; (repeat fail "go"))
  refine ⟨fun h => ?_, fun h => ?_⟩
  · have lt : k.toNat < ns.length := by have := of_decide_eq_true h; simp at this; omega
    (repeat fail "go")
    refine w_ixF (atI_toNat h0 (d := .int ns[k.toNat]) (by rw [List.getElem?_map, List.getElem?_eq_getElem lt]; rfl)) ?_
    (repeat fail "go")
    exact q _
  · (repeat fail "go")
    exact q _
theorem w_slL {p : Nat} {xs : List D} {k : Nat} (g : H[p]? = some (.lst xs)) (q : Q (.ref H.length) (H ++ [.lst (xs.drop k)])) : wE (slD (.ref p) (some (k : Int)) none H) Q :=
  ⟨_, _, by rw [← cut_lo]; simp only [slD, g], q⟩
theorem Digs.drop {ds : List Int} (h : Digs ds) (k : Nat) : Digs (ds.drop k) := fun d hd => h d (List.mem_of_mem_drop hd)
theorem fine_ints (ls : List Int) : Fines (ls.map .int) (ls.map .int) 0 := by
  induction ls with
  | nil => exact .nil
  | cons l r ih => exact .cons (.int l) ih
theorem w_claim79 {sd : D} {most : Nat} (at' : ∀ (H : HD) (k : Int) (Q : D → HD → Prop), 0 ≤ k → k ≤ 1000 → (∀ c, Q (.int c) H) → wE (m_law_at [sd, .int k] H) Q) (hm : 2 ≤ most ∧ most ≤ 8) (q : ∀ ks rss H', Cl ks rss → ks.length ≤ most → rss.length ≤ 20 → Fm [] H H' → Q (claimD ks rss) H') : wE (m_law_claim [sd, .int most] H) Q := by
  refine w_run rfl ?_
  show wS (b_law_claim [some sd, some (.int most), none, none, none, none, none] H) _
  unfold b_law_claim
  (repeat fail "go")
  refine at' _ _ _ (by omega) (by omega) fun c => ?_
  (repeat fail "go")
  refine w_digits (many := 14) (by omega) fun ds pd H1 l1 d1 g1 n1 x1 => ?_
  (repeat fail "go")
  refine w_dig g1 d1 (by omega) (by omega) fun a a0 a1 => ?_
  (repeat fail "go")
  refine w_mod (by omega) ?_
  (repeat fail "go")
  refine w_dig g1 d1 (by omega) (by omega) fun a' a0' a1' => ?_
  (repeat fail "go")
  refine w_dig (appL g1) d1 (by omega) (by omega) fun b b0 b1 => ?_
  (repeat fail "go")
  have m3 : b % 3 = 0 ∨ b % 3 = 1 ∨ b % 3 = 2 := by omega
  obtain ⟨N, hN, eN⟩ : ∃ N : Nat, N ≤ most ∧ atI [D.int (a % ((most : Int) + 1)), .int ((most : Int) - a' % 3), .int (most : Int)] (b % 3) = some (.int N) := by
    have e1 := Int.emod_nonneg a (show (most : Int) + 1 ≠ 0 by omega)
    have e2 := Int.emod_lt_of_pos a (show 0 < (most : Int) + 1 by omega)
    rcases m3 with z | z | z <;> rw [z]
    · refine ⟨(a % ((most : Int) + 1)).toNat, by omega, ?_⟩
      rw [Int.toNat_of_nonneg e1]; rfl
    · refine ⟨((most : Int) - a' % 3).toNat, by omega, ?_⟩
      rw [Int.toNat_of_nonneg (by omega)]; rfl
    · exact ⟨most, Nat.le_refl _, rfl⟩
  refine w_ixR last eN ?_
  (repeat fail "go")
  refine w_slL (k := 2) (appL g1) ?_
  (repeat fail "go")
  rw [show (if (N : Int) > 0 then (N : Int) else 0) = (N : Int) by split <;> omega]
  rw [← List.map_drop]
  refine w_kinds (many := N) last (d1.drop 2) (by simp; omega) (by omega) fun ks H2 hk lk x2 => ?_
  have X2 : Fm [] H H2 := ((x1.trans (Fm.app _)).trans (Fm.app _)).trans x2
  have g2 := x2.lst (by simp) (appL (u := DO.lst ((ds.drop 2).map D.int)) (appL (u := DO.lst [D.int (a % ((most : Int) + 1)), .int ((most : Int) - a' % 3), .int (most : Int)]) g1))
  (repeat fail "go")
  refine w_dig g2 d1 (by omega) (by omega) fun u0 u1 u2 => ?_
  (repeat fail "go")
  refine w_dig g2 d1 (by omega) (by omega) fun v0 v1 v2 => ?_
  (repeat fail "go")
  refine w_dig g2 d1 (by omega) (by omega) fun y0 y1 y2 => ?_
  (repeat fail "go")
  refine w_dig (appL g2) d1 (by omega) (by omega) fun e e0 e1 => ?_
  (repeat fail "go")
  have m3' : e % 3 = 0 ∨ e % 3 = 1 ∨ e % 3 = 2 := by omega
  obtain ⟨Z, hZ, eZ⟩ : ∃ Z : Nat, Z ≤ 20 ∧ atI [D.int (u0 % 5), .int (v0 % 11), .int (5 + y0 % 16)] (e % 3) = some (.int Z) := by
    rcases m3' with z | z | z <;> rw [z]
    · refine ⟨(u0 % 5).toNat, by omega, ?_⟩
      rw [Int.toNat_of_nonneg (by omega)]; rfl
    · refine ⟨(v0 % 11).toNat, by omega, ?_⟩
      rw [Int.toNat_of_nonneg (by omega)]; rfl
    · refine ⟨(5 + y0 % 16).toNat, by omega, ?_⟩
      rw [Int.toNat_of_nonneg (by omega)]; rfl
  refine w_ixR last eZ ?_
  (repeat fail "go")
  refine ⟨_, rfl, ⟨by omega, by omega⟩, ?_⟩
  rw [Int.toNat_natCast]
  have Y : Fm [] H (H2 ++ [DO.lst [D.int (u0 % 5), .int (v0 % 11), .int (5 + y0 % 16)]]) := X2.trans (Fm.app _)
  refine w_comp (fun d t o H' => ∃ rss : List (List Int), o = rss.map rowD ∧ rss.length = d.length ∧ d.length + t.length = Z ∧ (∀ ls ∈ rss, Up N 0 ls) ∧ (∀ x ∈ t, ∃ i : Nat, x = .int i ∧ i ≤ 100) ∧ True ∧ H'[pd]? = some (.lst (ds.map .int)) ∧ Fm [] H H') (fun _ _ _ _ _ => own0) (fun d x t o H3 ⟨rss, i1, i2, i3, i4, i5, i6, i7, i8⟩ => ?_) _ [] [] _ ⟨[], rfl, rfl, by simp [rangeL], by simp, fun x hx => ?_, trivial, appL g2, Y⟩ (fun d o H3 ⟨rss, i1, i2, i3, i4, i5, i6, i7, i8⟩ => ?_)
  · obtain ⟨i, rfl, hi⟩ := i5 x (by simp)
    (repeat fail "go")
    refine at' _ _ _ (by omega) (by omega) fun cell => ?_
    (repeat fail "go")
    rw [lk]
    refine w_row43 (by omega) fun ls H4 u x4 => ?_
    refine ⟨rss ++ [ls], by rw [i1]; simp, by simp [i2], by simp at i3 ⊢; omega, fun y hy => ?_, fun y hy => i5 y (by simp [hy]), trivial, x4.lst (by simp) i7, i8.trans x4⟩
    rcases List.mem_append.mp hy with z | z
    · exact i4 y z
    · simp at z; subst z; exact u
  · simp only [rangeL, List.mem_map, List.mem_range] at hx
    obtain ⟨k, hk, rfl⟩ := hx
    exact ⟨k, by simp, by omega⟩
  rw [List.nil_append] at i1
  simp only [List.length_nil, Nat.add_zero] at i3
  subst i1
  refine ⟨by simp; omega, ?_⟩
  show wS (sSeq _ _ [some sd, some (.int most), some (.ref pd), some (.int N), some (.tup ks), some (.int Z), some (.ref H3.length)] (H3 ++ [.lst (rss.map rowD)])) _
  refine w_seq (w_cut (fun σ H' => ∃ (rs : List (List Int)) (pr : Nat), H'[pr]? = some (.lst (rs.map rowD)) ∧ rs.length ≤ 20 ∧ (∀ ls ∈ rs, Up N 0 ls) ∧ Fm [] H H' ∧ σ = [some sd, some (.int most), some (.ref pd), some (.int N), some (.tup ks), some (.int Z), some (.ref pr)]) ?_ ?_)
  · (refine WP.w_if ?_; (repeat fail "go"))
    refine w_dig (appL i7) d1 (by omega) (by omega) fun r r0 r1 => ?_
    (repeat fail "go")
    refine ⟨fun h => ?_, fun h => ?_⟩
    · (repeat fail "go")
      refine w_cfilter (fun d => match d with | .tup xs => !xs.isEmpty | _ => true) (fun H' => H' = H3 ++ [.lst (rss.map rowD)]) (fun _ j => by rw [j]; exact own1 last) _ (fun x hx H4 j => ?_) _ rfl fun H4 j => ?_
      · obtain ⟨ls, hls, rfl⟩ := List.mem_map.mp hx
        subst j
        (repeat fail "go")
        refine w_neF (Fine.tup (fine_ints ls)) (Fine.tup (h := 0) Fines.nil) (by omega) (by omega) ?_
        refine ⟨_, rfl, ?_, rfl⟩
        cases ls <;> simp [PyData.eqv, PyData.eqvAll, rowD]
      · subst j
        have ef : (rss.map rowD).filter (fun d => match d with | .tup xs => !xs.isEmpty | _ => true) = (rss.filter fun ls => !ls.isEmpty).map rowD := by
          rw [List.filter_map]
          congr 1
          exact List.filter_congr fun ls _ => by cases ls <;> rfl
        rw [ef]
        have lf := List.length_filter_le (fun ls : List Int => !ls.isEmpty) rss
        refine ⟨by simp; omega, ?_⟩
        (repeat fail "go")
        exact ⟨rfl, _, _, last, by omega, fun ls h => i4 ls (List.mem_filter.mp h).1, (i8.trans (Fm.app _)).trans (Fm.app _), rfl⟩
    · (repeat fail "go")
      exact ⟨rfl, rss, _, last, by omega, i4, i8.trans (Fm.app _), rfl⟩
  rintro _ H4 ⟨rs, pr, g4, l4, u4, X4, rfl⟩
  (repeat fail "go")
  refine q ks rs H4 ⟨hk, fun ls h => by rw [lk]; exact u4 ls h, by omega, by omega⟩ (by omega) l4 X4
noncomputable def tS (l : List Nat) : Str := ⟨l.toArray⟩
noncomputable def tx (l : List Nat) : D := .str (tS l)
theorem tS_len (l : List Nat) : (tS l).length = l.length := by simp [tS, Str.length]
theorem tS_inj {a b : List Nat} (h : tS a = tS b) : a = b := by
  have := congrArg (fun x : Str => x.cps.toList) h
  simpa [tS] using this
theorem tS_app (a b : List Nat) : tS a ++ tS b = tS (a ++ b) := by
  show Str.mk (a.toArray ++ b.toArray) = _
  unfold tS
  rw [List.append_toArray]
theorem tS_beq (a b : List Nat) : (tS a == tS b) = decide (a = b) := by
  rw [Bool.eq_iff_iff, beq_iff_eq, decide_eq_true_iff]
  exact ⟨tS_inj, fun h => by rw [h]⟩
theorem idx_clamp (i j n : Nat) : Builtin.Str.strSliceIndices (some (i : Int)) (some (j : Int)) 1 n = Builtin.Str.strSliceIndices (some ((min i n : Nat) : Int)) (some ((max (min i n) (min j n) : Nat) : Int)) 1 n := by
  unfold Builtin.Str.strSliceIndices sliceRange
  simp only [show (1 : Int) > 0 by decide, if_true]
  have e1 : ¬ ((i : Int) < 0) := by omega
  have e2 : ¬ ((j : Int) < 0) := by omega
  have e3 : ¬ (((min i n : Nat) : Int) < 0) := by omega
  have e4 : ¬ (((max (min i n) (min j n) : Nat) : Int) < 0) := by omega
  simp only [if_neg e1, if_neg e2, if_neg e3, if_neg e4]
  have f1 : max 0 (min ((min i n : Nat) : Int) (n : Int)) = max 0 (min (i : Int) n) := by omega
  rw [f1]
  by_cases h : max 0 (min (i : Int) n) < max 0 (min (j : Int) n)
  · have f2 : max 0 (min ((max (min i n) (min j n) : Nat) : Int) (n : Int)) = max 0 (min (j : Int) n) := by omega
    rw [f2]
  · have f2 : ¬ (max 0 (min (i : Int) n) < max 0 (min ((max (min i n) (min j n) : Nat) : Int) (n : Int))) := by omega
    rw [if_neg h, if_neg f2]
noncomputable def cutL (l : List Nat) (i j : Nat) : List Nat := (l.drop i).take (j - i)
theorem slice_nn (l : List Nat) (i j : Nat) : Txt.slice (tS l) (some (i : Int)) (some (j : Int)) = tS (cutL l i j) := by
  have hl : (tS l).length = l.length := tS_len l
  have e : Txt.slice (tS l) (some (i : Int)) (some (j : Int)) = Txt.slice (tS l) (some ((min i l.length : Nat) : Int)) (some ((max (min i l.length) (min j l.length) : Nat) : Int)) := by
    unfold Txt.slice
    rw [hl, idx_clamp]
  rw [e]
  show StrLaws.sliceText (tS l) _ _ = _
  rw [StrLaws.sliceText_plain ⟨by omega, by omega, by show ((max (min i l.length) (min j l.length) : Nat) : Int) ≤ ((tS l).cps.toList.length : Nat); simp [tS]; omega⟩]
  show Str.mk _ = Str.mk _
  congr 2
  have : (tS l).cps.toList = l := by simp [tS]
  rw [this]
  unfold cutL
  simp only [Int.toNat_natCast]
  rw [show (((max (min i l.length) (min j l.length) : Nat) : Int) - ((min i l.length : Nat) : Int)).toNat = max (min i l.length) (min j l.length) - min i l.length by omega]
  by_cases h : i < l.length
  · rw [show min i l.length = i by omega]
    by_cases hj : j ≤ l.length
    · rw [show min j l.length = j by omega]
      by_cases h2 : i ≤ j
      · rw [show max i j = j by omega]
      · rw [show max i j - i = 0 by omega, show j - i = 0 by omega]
    · rw [show min j l.length = l.length by omega, show max i l.length = l.length by omega]
      rw [List.take_of_length_le (by simp), List.take_of_length_le (by simp; omega)]
  · rw [List.drop_eq_nil_of_le (by omega), List.drop_eq_nil_of_le (by omega)]
    simp
theorem slice_n0 (l : List Nat) (j : Nat) : Txt.slice (tS l) none (some (j : Int)) = tS (l.take j) := by
  have e : Txt.slice (tS l) none (some (j : Int)) = Txt.slice (tS l) (some ((0 : Nat) : Int)) (some (j : Int)) := by
    have z : Builtin.Str.strSliceIndices none (some (j : Int)) 1 (tS l).length = Builtin.Str.strSliceIndices (some ((0 : Nat) : Int)) (some (j : Int)) 1 (tS l).length := by
      unfold Builtin.Str.strSliceIndices
      simp only [show (1 : Int) > 0 by decide, if_true]
      congr 1
    unfold Txt.slice
    rw [z]
  rw [e, slice_nn]
  unfold cutL
  simp
theorem slice_0n (l : List Nat) (i : Nat) : Txt.slice (tS l) (some (i : Int)) none = tS (l.drop i) := by
  have e : Txt.slice (tS l) (some (i : Int)) none = Txt.slice (tS l) (some (i : Int)) (some (l.length : Int)) := by
    have z : Builtin.Str.strSliceIndices (some (i : Int)) none 1 (tS l).length = Builtin.Str.strSliceIndices (some (i : Int)) (some (l.length : Int)) 1 (tS l).length := by
      unfold Builtin.Str.strSliceIndices
      simp only [show (1 : Int) > 0 by decide, if_true]
      rw [tS_len]
      congr 1
      have : ¬ ((l.length : Int) < 0) := by omega
      rw [if_neg this]
      omega
    unfold Txt.slice
    rw [z]
  rw [e, slice_nn]
  unfold cutL
  rw [List.take_of_length_le (by simp)]
theorem found1 (l : List Nat) (c : Nat) : (!(Builtin.Str.occurrences (tS l) (tS [c]) 0 (tS l).length 1).isEmpty) = decide (c ∈ l) := by
  have := StrLaws.found_one (tS l) c
  rw [show (tS l).cps.toList = l by simp [tS]] at this
  exact this
theorem w_sls {fe : EF} {fl fh : OF} {σ : SD} (h : wE (fe σ H) fun x H1 => wO (fl σ H1) fun l H2 => wO (fh σ H2) fun u H3 => wE (slSD x l u H3) Q) : wE (eSlS fe fl fh σ H) Q := by
  obtain ⟨x, H1, e1, l, H2, e2, u, H3, e3, d, H4, e4, q⟩ := h
  exact ⟨d, H4, by unfold eSlS; rw [e1]; simp only [Option.bind_some]; rw [e2]; simp only [Option.bind_some]; rw [e3]; exact e4, q⟩
theorem w_cut2 {l : List Nat} {i j : Nat} {a b : Int} (ha : a = i) (hb : b = j) (hl : l.length ≤ 100000) (q : Q (tx (cutL l i j)) H) : wE (slSD (tx l) (some a) (some b) H) Q := by
  subst ha hb
  exact ⟨_, _, by unfold slSD tx; dsimp only; rw [if_pos (by rw [tS_len, PySem.sizeLine_eq]; omega), slice_nn], q⟩
theorem w_cutHi {l : List Nat} {j : Nat} {b : Int} (hb : b = j) (hl : l.length ≤ 100000) (q : Q (tx (l.take j)) H) : wE (slSD (tx l) none (some b) H) Q := by
  subst hb
  exact ⟨_, _, by unfold slSD tx; dsimp only; rw [if_pos (by rw [tS_len, PySem.sizeLine_eq]; omega), slice_n0], q⟩
theorem w_cutLo {l : List Nat} {i : Nat} {a : Int} (ha : a = i) (hl : l.length ≤ 100000) (q : Q (tx (l.drop i)) H) : wE (slSD (tx l) (some a) none H) Q := by
  subst ha
  exact ⟨_, _, by unfold slSD tx; dsimp only; rw [if_pos (by rw [tS_len, PySem.sizeLine_eq]; omega), slice_0n], q⟩
theorem w_six {l : List Nat} {i c : Nat} {a : Int} (ha : a = i) (hc : l[i]? = some c) (hl : l.length ≤ 100000) (q : Q (tx [c]) H) : wE (sixD (tx l) (.int a) H) Q := by
  subst ha
  refine ⟨_, _, ?_, q⟩
  unfold sixD tx
  dsimp only
  rw [if_pos (by rw [tS_len, PySem.sizeLine_eq]; omega), show (tS l).cps.toList = l by simp [tS], atI_nat hc]
  rfl
theorem w_sin {l : List Nat} {c : Nat} (q : Q (.bl (decide (c ∈ l))) H) : wE (sinD (tx [c]) (tx l) H) Q :=
  ⟨_, _, by unfold sinD tx; dsimp only; rw [found1], q⟩
theorem w_sni {l : List Nat} {c : Nat} (q : Q (.bl (!decide (c ∈ l))) H) : wE (sniD (tx [c]) (tx l) H) Q :=
  ⟨_, _, by unfold sniD tx; dsimp only; rw [found1], q⟩
theorem w_eqX {a b : List Nat} (q : Q (.bl (decide (a = b))) H) : wE (eqD (tx a) (tx b) H) Q := w_eqS (by rw [tS_beq]; exact q)
theorem w_neX {a b : List Nat} (q : Q (.bl (!decide (a = b))) H) : wE (neD (tx a) (tx b) H) Q := w_neS (by rw [bne, tS_beq]; exact q)
theorem w_lenX {l : List Nat} (hl : l.length ≤ 100000) (q : Q (.int l.length) H) : wE (lenD [tx l] H) Q :=
  ⟨_, _, by unfold lenD tx; dsimp only; rw [if_pos (by rw [tS_len, PySem.sizeLine_eq]; omega), tS_len], q⟩
theorem w_addX {a b : List Nat} (hl : a.length + b.length ≤ 100000) (q : Q (tx (a ++ b)) H) : wE (addD (tx a) (tx b) H) Q :=
  ⟨_, _, by unfold addD tx; dsimp only; rw [if_pos (by rw [tS_len, tS_len, PySem.sizeLine_eq]; omega), tS_app], q⟩
theorem rep_len (l : List Nat) (n : Nat) : ∃ m : List Nat, (List.replicate n (tS l).cps).foldl (· ++ ·) #[] = m.toArray ∧ m.length = l.length * n ∧ ∀ c ∈ m, c ∈ l := by
  have : ∀ (n : Nat) (a : List Nat), ∃ m : List Nat, (List.replicate n (tS l).cps).foldl (· ++ ·) a.toArray = (a ++ m).toArray ∧ m.length = l.length * n ∧ ∀ c ∈ m, c ∈ l := by
    intro n
    induction n with
    | zero => rintro a; exact ⟨[], by simp, by simp, by simp⟩
    | succ n ih =>
      intro a
      rw [List.replicate_succ, List.foldl_cons]
      have e : a.toArray ++ (tS l).cps = (a ++ l).toArray := by
        show a.toArray ++ l.toArray = _
        rw [List.append_toArray]
      rw [e]
      obtain ⟨m, h1, h2, h3⟩ := ih (a ++ l)
      refine ⟨l ++ m, by rw [h1, List.append_assoc], by rw [List.length_append, h2, Nat.mul_succ, Nat.add_comm], fun c hc => ?_⟩
      rcases List.mem_append.mp hc with z | z
      · exact z
      · exact h3 c z
  obtain ⟨m, h⟩ := this n []
  exact ⟨m, by simpa using h.1, h.2⟩
theorem w_smul {l : List Nat} {n : Nat} (h1 : 1 < n) (h0 : 0 < l.length) (h2 : l.length * n ≤ 100000) (q : ∀ m : List Nat, m.length = l.length * n → (∀ c ∈ m, c ∈ l) → Q (tx m) H) : wE (smulD (tx l) (.int n) H) Q := by
  obtain ⟨m, e, e2, e3⟩ := rep_len l n
  refine ⟨tx m, _, ?_, q m e2 e3⟩
  unfold smulD tx
  dsimp only
  rw [if_pos ⟨by omega, by rw [tS_len]; exact h0, by rw [tS_len, Int.toNat_natCast]; exact h2⟩, Int.toNat_natCast, e]
  rfl
inductive Tr where
  | kept : Tr
  | lost (n : Nat) : Tr
  | pick (b : Bool) (t : Tr) : Tr
  | each (t u : Tr) : Tr
noncomputable def Tr.d : Tr → D
  | .kept => .tup [.str "kept"]
  | .lost n => .tup [.str "lost", .int n]
  | .pick b t => .tup [.str "pick", .bl b, t.d]
  | .each t u => .tup [.str "each", t.d, u.d]
noncomputable def Tr.dep : Tr → Nat
  | .kept => 0
  | .lost _ => 0
  | .pick _ t => t.dep + 1
  | .each t u => max t.dep u.dep + 1
noncomputable def Tr.ok (m : Nat) : Tr → Prop
  | .kept => True
  | .lost n => n < m
  | .pick _ t => t.ok m
  | .each t u => t.ok m ∧ u.ok m
noncomputable def figs (n : Nat) : List Nat := (Nat.toDigits 10 n).map Char.toNat
noncomputable def Tr.txt : Tr → List Nat
  | .kept => [43]
  | .lost n => figs n
  | .pick b t => (if b then 121 else 110) :: t.txt
  | .each t u => 40 :: (t.txt ++ 124 :: (u.txt ++ [41]))
noncomputable def dig (c : Nat) : Bool := decide (48 ≤ c ∧ c ≤ 57)
noncomputable def num (l : List Nat) : Nat := NumText.digitsVal l
noncomputable def numR (l : List Nat) : Option Nat := if l.length = 0 ∨ 4 < l.length ∨ l.all dig = false then none else if l.head? = some 48 ∧ l ≠ [48] then none else some (num l)
noncomputable def lostP (l : List Nat) (p : Nat) : Option (Tr × Nat) := match numR ((l.drop p).takeWhile dig) with
  | some n => if n < 20 then some (.lost n, p + ((l.drop p).takeWhile dig).length) else none
  | none => none
noncomputable def pT (l : List Nat) : Nat → Nat → Option (Tr × Nat)
  | 0, p => if l[p]? = some 43 then some (.kept, p + 1) else lostP l p
  | d + 1, p => if l[p]? = some 43 then some (.kept, p + 1) else if l[p]? = some 110 then (pT l d (p + 1)).map fun z => (.pick false z.1, z.2) else if l[p]? = some 121 then (pT l d (p + 1)).map fun z => (.pick true z.1, z.2)
    else if l[p]? = some 40 then (match pT l d (p + 1) with
      | some (t, e) => if l[e]? = some 124 then (match pT l d (e + 1) with
        | some (u, e2) => if l[e2]? = some 41 then some (.each t u, e2 + 1) else none
        | none => none) else none
      | none => none)
    else lostP l p
noncomputable def nums : List (List Nat) := (List.range 20).map figs
noncomputable def lEnd (l : List Nat) (p : Nat) : Option (Tr × Nat) := if l[p]? = some 43 then some (.kept, p + 1)
  else if cutL l p (p + 2) ∈ nums ∧ p + 2 ≤ l.length then some (.lost (nums.idxOf (cutL l p (p + 2))), p + 2)
  else if cutL l p (p + 1) ∈ nums ∧ p + 1 ≤ l.length then some (.lost (nums.idxOf (cutL l p (p + 1))), p + 1) else none
noncomputable def lT (l : List Nat) : Nat → Nat → Option (Tr × Nat)
  | d, p => match l[p]? with
    | none => lEnd l p
    | some c => if c = 121 ∨ c = 110 ∨ c = 40 then (match d with
      | 0 => none
      | d + 1 => match lT l d (p + 1) with
        | none => none
        | some (t, e) => if c = 40 then (if l[e]? = some 124 then (match lT l d (e + 1) with
            | some (u, e2) => if l[e2]? = some 41 then some (.each t u, e2 + 1) else none
            | none => none) else none) else some (.pick (decide (c = 121)) t, e))
      else lEnd l p
noncomputable def Rl (l : List Nat) (a b : Option (Tr × Nat)) : Prop := a = b ∨ (a = none ∧ ∃ t e c, b = some (t, e) ∧ l[e]? = some c ∧ dig c = true)
theorem figs20 : nums = (List.range 10).map (fun n => [48 + n]) ++ (List.range 10).map (fun n => [49, 48 + n]) := by decide
theorem num1 (a : Nat) : num [a] = a - 48 := by
  show 0 * 10 + (a - 48) = a - 48
  omega
theorem num2 (a b : Nat) : num [a, b] = (a - 48) * 10 + (b - 48) := by
  show (0 * 10 + (a - 48)) * 10 + (b - 48) = _
  omega
theorem dig_iff {c : Nat} : dig c = true ↔ 48 ≤ c ∧ c ≤ 57 := by simp [dig]
theorem mem1 (a : Nat) : [a] ∈ nums ↔ dig a = true := by
  rw [figs20, dig_iff]
  simp only [List.mem_append, List.mem_map, List.mem_range]
  constructor
  · rintro (⟨n, h, e⟩ | ⟨n, h, e⟩)
    · simp at e; omega
    · simp at e
  · intro h
    exact .inl ⟨a - 48, by omega, by simp; omega⟩
theorem mem2 (a b : Nat) : [a, b] ∈ nums ↔ a = 49 ∧ dig b = true := by
  rw [figs20, dig_iff]
  simp only [List.mem_append, List.mem_map, List.mem_range]
  constructor
  · rintro (⟨n, h, e⟩ | ⟨n, h, e⟩)
    · simp at e
    · simp at e; omega
  · rintro ⟨rfl, h⟩
    exact .inr ⟨b - 48, by omega, by simp; omega⟩
theorem mem0 : ([] : List Nat) ∉ nums := by rw [figs20]; simp
theorem idx1 {a : Nat} (h : dig a = true) : nums.idxOf [a] = a - 48 := by
  rw [dig_iff] at h
  obtain ⟨n, hn, rfl⟩ : ∃ n, n < 10 ∧ a = 48 + n := ⟨a - 48, by omega, by omega⟩
  have : ∀ n < 10, nums.idxOf [48 + n] = 48 + n - 48 := by decide
  exact this n hn
theorem idx2 {b : Nat} (h : dig b = true) : nums.idxOf [49, b] = 10 + (b - 48) := by
  rw [dig_iff] at h
  obtain ⟨n, hn, rfl⟩ : ∃ n, n < 10 ∧ b = 48 + n := ⟨b - 48, by omega, by omega⟩
  have : ∀ n < 10, nums.idxOf [49, 48 + n] = 10 + (48 + n - 48) := by decide
  exact this n hn
theorem at_drop {l : List Nat} {p k : Nat} : l[p + k]? = (l.drop p)[k]? := by rw [List.getElem?_drop]
theorem end_rel (l : List Nat) (p : Nat) (h43 : l[p]? ≠ some 43) : Rl l (lostP l p) (lEnd l p) := by
  unfold lostP lEnd
  rw [if_neg h43]
  have c2 : cutL l p (p + 2) = (l.drop p).take 2 := by unfold cutL; congr 1; omega
  have c1 : cutL l p (p + 1) = (l.drop p).take 1 := by unfold cutL; congr 1; omega
  rw [c1, c2]
  have hl : l.length = p + (l.drop p).length ∨ (l.drop p) = [] := by
    by_cases h : p ≤ l.length
    · left; simp; omega
    · right; exact List.drop_eq_nil_of_le (by omega)
  have hat : ∀ k, l[p + k]? = (l.drop p)[k]? := fun k => at_drop
  generalize l.drop p = m at *
  match m with
  | [] =>
    left
    simp [numR, mem0]
  | [a] =>
    have hl : l.length = p + 1 := by rcases hl with h | h <;> simp at h; exact h
    show Rl l _ (if [a] ∈ nums ∧ p + 2 ≤ l.length then some (Tr.lost (nums.idxOf [a]), p + 2) else if [a] ∈ nums ∧ p + 1 ≤ l.length then some (Tr.lost (nums.idxOf [a]), p + 1) else none)
    by_cases ha : dig a = true
    · left
      have e : ([a] : List Nat).takeWhile dig = [a] := by simp [ha]
      rw [e]
      have n1 : numR [a] = some (a - 48) := by
        unfold numR
        rw [if_neg (by simp [ha]), if_neg (by simp), num1]
      have hb := dig_iff.mp ha
      rw [n1]
      dsimp only
      rw [if_pos (by omega)]
      rw [if_neg (by omega), if_pos ⟨(mem1 a).mpr ha, by omega⟩, idx1 ha]
      simp
    · left
      have e : ([a] : List Nat).takeWhile dig = [] := by simp [ha]
      rw [e]
      rw [if_neg (by omega), if_neg (fun z => ha ((mem1 a).mp z.1))]
      simp [numR]
  | a :: b :: r =>
    have hl2 : p + 2 ≤ l.length := by rcases hl with h | h <;> simp at h; omega
    show Rl l _ (if [a, b] ∈ nums ∧ p + 2 ≤ l.length then some (Tr.lost (nums.idxOf [a, b]), p + 2) else if [a] ∈ nums ∧ p + 1 ≤ l.length then some (Tr.lost (nums.idxOf [a]), p + 1) else none)
    by_cases ha : dig a = true
    · have ba := dig_iff.mp ha
      by_cases hb : dig b = true
      · have bb := dig_iff.mp hb
        have l1 : l[p + 1]? = some b := by rw [hat]; rfl
        have one : Rl l none (if [a] ∈ nums ∧ p + 1 ≤ l.length then some (Tr.lost (nums.idxOf [a]), p + 1) else none) := by
          rw [if_pos ⟨(mem1 a).mpr ha, by omega⟩]
          exact .inr ⟨rfl, _, _, _, rfl, l1, hb⟩
        match r with
        | [] =>
          have e : ([a, b] : List Nat).takeWhile dig = [a, b] := by simp [ha, hb]
          rw [e]
          by_cases h48 : a = 48
          · subst h48
            have n1 : numR [48, b] = none := by
              unfold numR
              rw [if_neg (by simp [ha, hb]), if_pos (by simp)]
            rw [n1]
            dsimp only
            rw [if_neg (fun z => by have := ((mem2 48 b).mp z.1).1; omega)]
            exact one
          · have n1 : numR [a, b] = some ((a - 48) * 10 + (b - 48)) := by
              unfold numR
              rw [if_neg (by simp [ha, hb]), if_neg (by simp; omega), num2]
            rw [n1]
            dsimp only
            by_cases h49 : a = 49
            · subst h49
              rw [if_pos (by omega), if_pos ⟨(mem2 49 b).mpr ⟨rfl, hb⟩, hl2⟩, idx2 hb]
              left
              simp
            · rw [if_neg (by omega), if_neg (fun z => h49 ((mem2 a b).mp z.1).1)]
              exact one
        | c :: r =>
          by_cases hc : dig c = true
          · have bc := dig_iff.mp hc
            have l2 : l[p + 2]? = some c := by rw [hat]; rfl
            have two : Rl l none (if [a, b] ∈ nums ∧ p + 2 ≤ l.length then some (Tr.lost (nums.idxOf [a, b]), p + 2) else if [a] ∈ nums ∧ p + 1 ≤ l.length then some (Tr.lost (nums.idxOf [a]), p + 1) else none) := by
              split
              · exact .inr ⟨rfl, _, _, _, rfl, l2, hc⟩
              · exact one
            have big : (match numR ((a :: b :: c :: r).takeWhile dig) with
                | some n => if n < 20 then some (Tr.lost n, p + ((a :: b :: c :: r).takeWhile dig).length) else none
                | none => none) = none := by
              rw [List.takeWhile_cons_of_pos ha, List.takeWhile_cons_of_pos hb, List.takeWhile_cons_of_pos hc]
              generalize r.takeWhile dig = w
              unfold numR
              split
              · rename_i n hn
                split at hn
                · cases hn
                · rename_i h1
                  split at hn
                  · cases hn
                  · rename_i h2
                    have a48 : a ≠ 48 := fun z => h2 ⟨by simp [z], by simp⟩
                    have hn := Option.some.inj hn
                    have : 100 ≤ n := by
                      match w, h1 with
                      | [], h1 =>
                        have : num [a, b, c] = ((a - 48) * 10 + (b - 48)) * 10 + (c - 48) := by
                          show ((0 * 10 + (a - 48)) * 10 + (b - 48)) * 10 + (c - 48) = _
                          omega
                        omega
                      | [e], h1 =>
                        have : num [a, b, c, e] = (((a - 48) * 10 + (b - 48)) * 10 + (c - 48)) * 10 + (e - 48) := by
                          show (((0 * 10 + (a - 48)) * 10 + (b - 48)) * 10 + (c - 48)) * 10 + (e - 48) = _
                          omega
                        omega
                      | e :: f :: g, h1 => exact absurd (.inr (.inl (by simp))) h1
                    rw [if_neg (by omega)]
              · rfl
            rw [big]
            exact two
          · have e : (a :: b :: c :: r).takeWhile dig = [a, b] := by
              rw [List.takeWhile_cons_of_pos ha, List.takeWhile_cons_of_pos hb, List.takeWhile_cons_of_neg hc]
            rw [e]
            by_cases h48 : a = 48
            · subst h48
              have n1 : numR [48, b] = none := by
                unfold numR
                rw [if_neg (by simp [ha, hb]), if_pos (by simp)]
              rw [n1]
              dsimp only
              rw [if_neg (fun z => by have := ((mem2 48 b).mp z.1).1; omega)]
              exact one
            · have n1 : numR [a, b] = some ((a - 48) * 10 + (b - 48)) := by
                unfold numR
                rw [if_neg (by simp [ha, hb]), if_neg (by simp; omega), num2]
              rw [n1]
              dsimp only
              by_cases h49 : a = 49
              · subst h49
                rw [if_pos (by omega), if_pos ⟨(mem2 49 b).mpr ⟨rfl, hb⟩, hl2⟩, idx2 hb]
                left
                simp
              · rw [if_neg (by omega), if_neg (fun z => h49 ((mem2 a b).mp z.1).1)]
                exact one
      · left
        have e : (a :: b :: r).takeWhile dig = [a] := by rw [List.takeWhile_cons_of_pos ha, List.takeWhile_cons_of_neg hb]
        rw [e]
        have n1 : numR [a] = some (a - 48) := by
          unfold numR
          rw [if_neg (by simp [ha]), if_neg (by simp), num1]
        rw [n1]
        dsimp only
        rw [if_pos (by omega), if_neg (fun z => hb ((mem2 a b).mp z.1).2), if_pos ⟨(mem1 a).mpr ha, by omega⟩, idx1 ha]
        simp
    · left
      have e : (a :: b :: r).takeWhile dig = [] := by rw [List.takeWhile_cons_of_neg ha]
      rw [e]
      rw [if_neg (fun z => ha (by have := (mem2 a b).mp z.1; rw [this.1]; decide)), if_neg (fun z => ha ((mem1 a).mp z.1))]
      simp [numR]
theorem lostP_no {l : List Nat} {p c : Nat} (h : l[p]? = some c) (hc : dig c = false) : lostP l p = none := by
  have e : (l.drop p).takeWhile dig = [] := by
    have : (l.drop p)[0]? = some c := by rw [← at_drop]; exact h
    cases hd : l.drop p with
    | nil => rfl
    | cons a r =>
      rw [hd] at this
      have : a = c := by simpa using this
      subst this
      rw [List.takeWhile_cons_of_neg (by simp [hc])]
  unfold lostP
  rw [e]
  simp [numR]
theorem two_rel (l : List Nat) : ∀ d p : Nat, Rl l (pT l d p) (lT l d p) := by
  have base : ∀ p, l[p]? ≠ some 43 → Rl l (lostP l p) (lEnd l p) := fun p h => end_rel l p h
  have k43 : ∀ p, l[p]? = some 43 → lEnd l p = some (.kept, p + 1) := fun p h => by unfold lEnd; rw [if_pos h]
  intro d
  induction d with
  | zero =>
    intro p
    unfold pT lT
    cases h : l[p]? with
    | none =>
      dsimp only
      rw [if_neg (by simp)]
      exact base p (by rw [h]; simp)
    | some c =>
      dsimp only
      by_cases h43 : c = 43
      · subst h43
        rw [if_pos rfl, if_neg (by omega), k43 p h]
        exact .inl rfl
      · rw [if_neg (by simp [h43])]
        split
        · rename_i z
          rw [lostP_no h (by rcases z with rfl | rfl | rfl <;> decide)]
          exact .inl rfl
        · exact base p (by rw [h]; simp [h43])
  | succ d ih =>
    intro p
    unfold pT lT
    cases h : l[p]? with
    | none =>
      dsimp only
      rw [if_neg (by simp), if_neg (by simp), if_neg (by simp), if_neg (by simp)]
      exact base p (by rw [h]; simp)
    | some c =>
      dsimp only
      by_cases h43 : c = 43
      · subst h43
        rw [if_pos rfl, if_neg (by omega), k43 p h]
        exact .inl rfl
      rw [if_neg (by simp [h43])]
      have pickc : ∀ b : Bool, c = (if b then 121 else 110) → Rl l ((pT l d (p + 1)).map fun z => (Tr.pick b z.1, z.2)) (match lT l d (p + 1) with
          | none => none
          | some (t, e) => if c = 40 then (if l[e]? = some 124 then (match lT l d (e + 1) with
            | some (u, e2) => if l[e2]? = some 41 then some (Tr.each t u, e2 + 1) else none
            | none => none) else none) else some (Tr.pick (decide (c = 121)) t, e)) := by
        intro b hb
        have e0 : c ≠ 40 := by cases b <;> simp at hb <;> omega
        have e1 : decide (c = 121) = b := by cases b <;> simp at hb <;> simp [hb]
        rcases ih (p + 1) with e | ⟨e, t, e2, c2, f1, f2, f3⟩
        · rw [e]
          left
          cases lT l d (p + 1) with
          | none => rfl
          | some z =>
            obtain ⟨t, e⟩ := z
            dsimp only
            rw [if_neg e0, e1]
            rfl
        · rw [e, f1]
          dsimp only
          rw [if_neg e0]
          exact .inr ⟨rfl, _, _, _, rfl, f2, f3⟩
      by_cases h110 : c = 110
      · rw [if_pos (by simp [h110]), if_pos (by omega)]
        exact pickc false (by simp [h110])
      rw [if_neg (by simp [h110])]
      by_cases h121 : c = 121
      · rw [if_pos (by simp [h121]), if_pos (by omega)]
        exact pickc true (by simp [h121])
      rw [if_neg (by simp [h121])]
      by_cases h40 : c = 40
      · subst h40
        rw [if_pos rfl, if_pos (by omega)]
        rcases ih (p + 1) with e | ⟨e, t, e2, c2, f1, f2, f3⟩
        · rw [e]
          cases lT l d (p + 1) with
          | none => exact .inl rfl
          | some z =>
            obtain ⟨t, e⟩ := z
            dsimp only
            rw [if_pos rfl]
            by_cases h124 : l[e]? = some 124
            · rw [if_pos h124, if_pos h124]
              rcases ih (e + 1) with e' | ⟨e', t', e2, c2, f1, f2, f3⟩
              · rw [e']
                exact .inl rfl
              · rw [e', f1]
                dsimp only
                left
                rw [if_neg (fun z => by rw [f2] at z; have := Option.some.inj z; subst this; revert f3; decide)]
            · rw [if_neg h124, if_neg h124]
              exact .inl rfl
        · rw [e, f1]
          dsimp only
          left
          rw [if_pos rfl, if_neg (fun z => by rw [f2] at z; have := Option.some.inj z; subst this; revert f3; decide)]
      · rw [if_neg (by simp [h40]), if_neg (by omega)]
        exact base p (by rw [h]; simp [h43])
noncomputable def readP (l : List Nat) : Option Tr := match pT l 8 0 with
  | some (t, e) => if e = l.length then some t else none
  | none => none
noncomputable def readL (l : List Nat) : Option Tr := match lT l 8 0 with
  | some (t, e) => if e = l.length then some t else none
  | none => none
theorem read_eq (l : List Nat) : readP l = readL l := by
  unfold readP readL
  rcases two_rel l 8 0 with e | ⟨e, t, e2, c, f1, f2, f3⟩
  · rw [e]
  · rw [e, f1]
    dsimp only
    have := (List.getElem?_eq_some_iff.mp f2).1
    rw [if_neg (by omega)]
theorem pT_dep (l : List Nat) : ∀ d p t e, pT l d p = some (t, e) → t.dep ≤ d ∧ t.ok 20 := by
  have lo : ∀ p t e, lostP l p = some (t, e) → t.dep = 0 ∧ t.ok 20 := by
    intro p t e h
    unfold lostP at h
    split at h
    · split at h
      · rename_i hn
        cases h
        exact ⟨rfl, hn⟩
      · cases h
    · cases h
  intro d
  induction d with
  | zero =>
    intro p t e h
    unfold pT at h
    split at h
    · cases h; exact ⟨Nat.le_refl _, trivial⟩
    · have := lo p t e h; exact ⟨by omega, this.2⟩
  | succ d ih =>
    intro p t e h
    unfold pT at h
    split at h
    · cases h; exact ⟨Nat.zero_le _, trivial⟩
    split at h
    · obtain ⟨⟨t', e'⟩, e1, e2⟩ := Option.map_eq_some_iff.mp h
      cases e2
      have := ih _ _ _ e1
      exact ⟨Nat.succ_le_succ this.1, this.2⟩
    split at h
    · obtain ⟨⟨t', e'⟩, e1, e2⟩ := Option.map_eq_some_iff.mp h
      cases e2
      have := ih _ _ _ e1
      exact ⟨Nat.succ_le_succ this.1, this.2⟩
    split at h
    · split at h
      · rename_i t1 e1 h1
        split at h
        · split at h
          · rename_i t2 e2 h2
            split at h
            · cases h
              have a1 := ih _ _ _ h1
              have a2 := ih _ _ _ h2
              exact ⟨Nat.succ_le_succ (Nat.max_le.mpr ⟨a1.1, a2.1⟩), a1.2, a2.2⟩
            · cases h
          · cases h
        · cases h
      · cases h
    · have := lo p t e h; exact ⟨by omega, this.2⟩
theorem figs_lt {n : Nat} (h : n < 20) : figs n = if n < 10 then [48 + n] else [49, 38 + n] := by
  have : ∀ n < 20, figs n = if n < 10 then [48 + n] else [49, 38 + n] := by decide
  exact this n h
theorem at_pre (pre : List Nat) (c : Nat) (m : List Nat) : (pre ++ c :: m)[pre.length]? = some c := by simp
theorem drop_pre (pre m : List Nat) : (pre ++ m).drop pre.length = m := by simp
theorem tw_stop {a rest : List Nat} (ha : ∀ c ∈ a, dig c = true) (hr : ∀ c, rest.head? = some c → dig c = false) : (a ++ rest).takeWhile dig = a := by
  induction a with
  | nil =>
    cases rest with
    | nil => rfl
    | cons c r => rw [List.nil_append, List.takeWhile_cons_of_neg (by simp [hr c rfl])]
  | cons x a ih => rw [List.cons_append, List.takeWhile_cons_of_pos (ha x (by simp)), ih fun c hc => ha c (by simp [hc])]
theorem numR_figs {n : Nat} (h : n < 20) : numR (figs n) = some n := by
  have : ∀ n < 20, numR (figs n) = some n := by decide
  exact this n h
theorem dig_figs {n : Nat} (h : n < 20) : ∀ c ∈ figs n, dig c = true := by
  have : ∀ n < 20, (figs n).all dig = true := by decide
  exact fun c hc => List.all_eq_true.mp (this n h) c hc
theorem read_back : ∀ (t : Tr) (d : Nat) (pre rest : List Nat), t.dep ≤ d → t.ok 20 → (∀ c, rest.head? = some c → dig c = false) → pT (pre ++ (t.txt ++ rest)) d pre.length = some (t, pre.length + t.txt.length)
  | .kept, d, pre, rest, _, _, _ => by
    have h : (pre ++ (Tr.kept.txt ++ rest))[pre.length]? = some 43 := at_pre pre 43 rest
    cases d <;> (unfold pT; rw [if_pos h]; rfl)
  | .lost n, d, pre, rest, _, hn, hr => by
    have hn : n < 20 := hn
    obtain ⟨c, m, e, hc⟩ : ∃ c m, figs n = c :: m ∧ dig c = true := by
      have hd := dig_figs hn
      cases h : figs n with
      | nil => rw [figs_lt hn] at h; split at h <;> cases h
      | cons c m => exact ⟨c, m, rfl, hd c (by rw [h]; simp)⟩
    have h : (pre ++ ((Tr.lost n).txt ++ rest))[pre.length]? = some c := by
      show (pre ++ (figs n ++ rest))[pre.length]? = _
      rw [e]
      exact at_pre pre c _
    have z := dig_iff.mp hc
    have key : lostP (pre ++ ((Tr.lost n).txt ++ rest)) pre.length = some (.lost n, pre.length + (Tr.lost n).txt.length) := by
      unfold lostP
      rw [drop_pre]
      have et : (Tr.lost n).txt = figs n := rfl
      rw [et, tw_stop (dig_figs hn) hr, numR_figs hn]
      dsimp only
      rw [if_pos hn]
    cases d with
    | zero => unfold pT; rw [if_neg (by rw [h]; simp; omega), key]
    | succ d => unfold pT; rw [if_neg (by rw [h]; simp; omega), if_neg (by rw [h]; simp; omega), if_neg (by rw [h]; simp; omega), if_neg (by rw [h]; simp; omega), key]
  | .pick b t, d, pre, rest, hd, hk, hr => by
    obtain ⟨d, rfl⟩ : ∃ d', d = d' + 1 := ⟨d - 1, by simp [Tr.dep] at hd; omega⟩
    have h : (pre ++ ((Tr.pick b t).txt ++ rest))[pre.length]? = some (if b then 121 else 110) := at_pre pre _ _
    have e : pre ++ ((Tr.pick b t).txt ++ rest) = (pre ++ [if b then 121 else 110]) ++ (t.txt ++ rest) := by simp [Tr.txt]
    have ih := read_back t d (pre ++ [if b then 121 else 110]) rest (by simp [Tr.dep] at hd; omega) hk hr
    rw [← e] at ih
    have hlen : (pre ++ [if b = true then 121 else 110]).length = pre.length + 1 := by rw [List.length_append]; rfl
    rw [hlen] at ih
    have fin : (some (t, pre.length + 1 + t.txt.length)).map (fun z : Tr × Nat => (Tr.pick b z.1, z.2)) = some (Tr.pick b t, pre.length + (Tr.pick b t).txt.length) := by
      simp [Tr.txt]; omega
    unfold pT
    rw [h, ih]
    cases b with
    | false => rw [if_neg (by simp), if_pos (by simp)]; exact fin
    | true => rw [if_neg (by simp), if_neg (by simp), if_pos (by simp)]; exact fin
  | .each t u, d, pre, rest, hd, hk, hr => by
    obtain ⟨d, rfl⟩ : ∃ d', d = d' + 1 := ⟨d - 1, by simp [Tr.dep] at hd; omega⟩
    have hd : max t.dep u.dep + 1 ≤ d + 1 := hd
    have h : (pre ++ ((Tr.each t u).txt ++ rest))[pre.length]? = some 40 := at_pre pre _ _
    have e1 : pre ++ ((Tr.each t u).txt ++ rest) = (pre ++ [40]) ++ (t.txt ++ (124 :: (u.txt ++ (41 :: rest)))) := by simp [Tr.txt]
    have e2 : pre ++ ((Tr.each t u).txt ++ rest) = (pre ++ [40] ++ t.txt ++ [124]) ++ (u.txt ++ (41 :: rest)) := by simp [Tr.txt]
    have i1 := read_back t d (pre ++ [40]) (124 :: (u.txt ++ (41 :: rest))) (by omega) hk.1 (fun c hc => by simp at hc; subst hc; rfl)
    have i2 := read_back u d (pre ++ [40] ++ t.txt ++ [124]) (41 :: rest) (by omega) hk.2 (fun c hc => by simp at hc; subst hc; rfl)
    rw [← e1] at i1
    rw [← e2] at i2
    have hl1 : (pre ++ [40]).length = pre.length + 1 := by rw [List.length_append]; rfl
    have hl2 : (pre ++ [40] ++ t.txt ++ [124]).length = pre.length + 1 + t.txt.length + 1 := by rw [List.length_append, List.length_append, hl1]; rfl
    rw [hl1] at i1
    rw [hl2] at i2
    have a1 : (pre ++ ((Tr.each t u).txt ++ rest))[pre.length + 1 + t.txt.length]? = some 124 := by
      have := at_pre (pre ++ [40] ++ t.txt) 124 (u.txt ++ 41 :: rest)
      have hl3 : (pre ++ [40] ++ t.txt).length = pre.length + 1 + t.txt.length := by rw [List.length_append, hl1]
      rw [hl3] at this
      rw [← this]
      simp [Tr.txt]
    have a2 : (pre ++ ((Tr.each t u).txt ++ rest))[pre.length + 1 + t.txt.length + 1 + u.txt.length]? = some 41 := by
      have := at_pre (pre ++ [40] ++ t.txt ++ [124] ++ u.txt) 41 rest
      have hl3 : (pre ++ [40] ++ t.txt ++ [124] ++ u.txt).length = pre.length + 1 + t.txt.length + 1 + u.txt.length := by rw [List.length_append, hl2]
      rw [hl3] at this
      rw [← this]
      simp [Tr.txt]
    unfold pT
    rw [h, if_neg (by simp), if_neg (by simp), if_neg (by simp), if_pos rfl, i1]
    dsimp only
    rw [a1, if_pos rfl, i2]
    dsimp only
    rw [a2, if_pos rfl]
    simp [Tr.txt]
    omega
theorem read_txt {t : Tr} (hd : t.dep ≤ 8) (hk : t.ok 20) : readP t.txt = some t := by
  have := read_back t 8 [] [] hd hk (by simp)
  simp only [List.nil_append, List.append_nil, List.length_nil, Nat.zero_add] at this
  unfold readP
  rw [this]
  dsimp only
  rw [if_pos rfl]
theorem num_figs (n : Nat) : num (figs n) = n := PySem.W.KIN.val_back n
theorem digs_figs (n : Nat) : ∀ c ∈ figs n, dig c = true := by
  intro c hc
  obtain ⟨ch, hch, e⟩ := List.mem_map.mp hc
  have r := PyProof.Rows.digit_range (Nat.isDigit_of_mem_toDigits (by decide) (by decide) hch)
  rw [dig_iff, ← e]
  exact r
theorem figs_ne (n : Nat) : figs n ≠ [] := by
  intro e
  have h := PyProof.Rows.tDigits_len_ge 10 n
  rw [List.map_eq_nil_iff.mp e] at h
  exact absurd h (by decide)
theorem read_far {n : Nat} (h : 20 ≤ n) : readP (Tr.each (.lost n) (.pick true (.lost 0))).txt = none := by
  have e : (Tr.each (.lost n) (.pick true (.lost 0))).txt = [40] ++ (figs n ++ [124, 121, 48, 41]) := by
    have : figs 0 = [48] := by decide
    simp [Tr.txt, this]
  rw [e]
  obtain ⟨c, m, ec, hc⟩ : ∃ c m, figs n = c :: m ∧ dig c = true := by
    cases h : figs n with
    | nil => exact absurd h (figs_ne n)
    | cons c m => exact ⟨c, m, rfl, digs_figs n c (by rw [h]; simp)⟩
  have z := dig_iff.mp hc
  have h0 : ([40] ++ (figs n ++ [124, 121, 48, 41]))[0]? = some 40 := rfl
  have h1 : ([40] ++ (figs n ++ [124, 121, 48, 41]))[1]? = some c := by rw [ec]; rfl
  have lo : lostP ([40] ++ (figs n ++ [124, 121, 48, 41])) 1 = none := by
    unfold lostP
    have : ([40] ++ (figs n ++ [124, 121, 48, 41])).drop 1 = figs n ++ [124, 121, 48, 41] := rfl
    rw [this, tw_stop (digs_figs n) (fun c hc => by simp at hc; subst hc; rfl)]
    split
    · rename_i k hk
      unfold numR at hk
      split at hk
      · cases hk
      · split at hk
        · cases hk
        · have := Option.some.inj hk
          rw [num_figs] at this
          rw [if_neg (by omega)]
    · rfl
  have p1 : pT ([40] ++ (figs n ++ [124, 121, 48, 41])) 7 1 = none := by
    unfold pT
    rw [if_neg (by rw [h1]; simp; omega), if_neg (by rw [h1]; simp; omega), if_neg (by rw [h1]; simp; omega), if_neg (by rw [h1]; simp; omega), lo]
  unfold readP
  have p0 : pT ([40] ++ (figs n ++ [124, 121, 48, 41])) 8 0 = none := by
    rw [pT, h0, if_neg (by simp), if_neg (by simp), if_neg (by simp), if_pos rfl]
    rw [show (0 : Nat) + 1 = 1 from rfl, p1]
  rw [p0]
theorem figs_len {n : Nat} (h : n < 1000) : (figs n).length ≤ 3 := by
  have : (figs n).length = (Nat.toDigits 10 n).length := by simp [figs]
  rw [this]
  exact (Nat.length_toDigits_le_iff (by decide) (by decide)).mpr (by omega)
theorem txt_len : ∀ t : Tr, t.ok 1000 → t.txt.length + 3 ≤ 6 * 2 ^ t.dep
  | .kept, _ => by decide
  | .lost n, h => by
    have := figs_len h
    simp [Tr.txt, Tr.dep]; omega
  | .pick b t, h => by
    have := txt_len t h
    simp only [Tr.txt, Tr.dep, List.length_cons, Nat.pow_succ]
    have := Nat.one_le_two_pow (n := t.dep)
    omega
  | .each t u, h => by
    have a := txt_len t h.1
    have b := txt_len u h.2
    have c : 2 ^ t.dep ≤ 2 ^ max t.dep u.dep := Nat.pow_le_pow_right (by decide) (Nat.le_max_left ..)
    have d : 2 ^ u.dep ≤ 2 ^ max t.dep u.dep := Nat.pow_le_pow_right (by decide) (Nat.le_max_right ..)
    simp only [Tr.txt, Tr.dep, List.length_cons, List.length_append, List.length_nil, Nat.pow_succ]
    omega
theorem txt_small {t : Tr} (h : t.ok 1000) (hd : t.dep ≤ 9) : t.txt.length ≤ 4000 := by
  have := txt_len t h
  have : 2 ^ t.dep ≤ 2 ^ 9 := Nat.pow_le_pow_right (by decide) hd
  omega
theorem Tr.ok.mono {a b : Nat} (h : a ≤ b) : ∀ {t : Tr}, t.ok a → t.ok b
  | .kept, _ => trivial
  | .lost n, k => Nat.lt_of_lt_of_le k h
  | .pick _ t, k => Tr.ok.mono h (t := t) k
  | .each t u, k => ⟨Tr.ok.mono h (t := t) k.1, Tr.ok.mono h (t := u) k.2⟩
theorem str_figs (n : Nat) : Str.ofString (toString (n : Int)) = tS (figs n) := by
  have := PySem.W.KIN.signs_num n
  have e : (Str.ofString (toString (n : Int))).cps = (figs n).toArray := by
    rw [← Array.toList_inj, this]; rfl
  cases h : Str.ofString (toString (n : Int)) with
  | mk c => rw [h] at e; simp only at e; rw [e]; rfl
theorem w_str {n : Nat} (h : n ≤ 1000000) (q : Q (tx (figs n)) H) : wE (strD [.int n] H) Q := by
  refine ⟨_, _, ?_, q⟩
  unfold strD
  dsimp only
  rw [if_pos (by omega)]
  show some (D.str (Str.ofString (toString (n : Int))), H) = _
  rw [str_figs]; rfl
theorem w_eqL {a b : List Nat} {s : Str} (hs : s = tS b) (q : Q (.bl (decide (a = b))) H) : wE (eqD (tx a) (.str s) H) Q := by subst hs; exact w_eqX q
theorem w_neL {a b : List Nat} {s : Str} (hs : s = tS b) (q : Q (.bl (!decide (a = b))) H) : wE (neD (tx a) (.str s) H) Q := by subst hs; exact w_neX q
theorem w_addL {a b : List Nat} {s : Str} (hs : s = tS a) (hl : a.length + b.length ≤ 100000) (q : Q (tx (a ++ b)) H) : wE (addD (.str s) (tx b) H) Q := by subst hs; exact w_addX hl q
theorem w_addR {a b : List Nat} {s : Str} (hs : s = tS b) (hl : a.length + b.length ≤ 100000) (q : Q (tx (a ++ b)) H) : wE (addD (tx a) (.str s) H) Q := by subst hs; exact w_addX hl q
theorem s_plus : ("+" : Str) = tS [43] := by decide
theorem s_open : ("(" : Str) = tS [40] := by decide
theorem s_bar : ("|" : Str) = tS [124] := by decide
theorem s_close : (")" : Str) = tS [41] := by decide
theorem s_y : ("y" : Str) = tS [121] := by decide
theorem s_n : ("n" : Str) = tS [110] := by decide
theorem s_0 : ("0" : Str) = tS [48] := by decide
theorem s_ny : ("ny" : Str) = tS [110, 121] := by decide
theorem s_yn : ("yn(" : Str) = tS [121, 110, 40] := by decide
theorem s_nil : ("" : Str) = tS [] := by decide
theorem s_figs : ("0123456789" : Str) = tS [48, 49, 50, 51, 52, 53, 54, 55, 56, 57] := by decide
noncomputable def wJ (r : Option (Str × HD)) (R : Str → HD → Prop) : Prop := ∃ y H, r = some (y, H) ∧ R y H
theorem w_ej {f : JF} {σ : SD} (h : wJ (f σ H Str.empty) fun y H1 => Q (.str y) H1) : wE (eJ f σ H) Q := by
  obtain ⟨y, H1, e, q⟩ := h
  exact ⟨_, _, by unfold eJ; rw [e]; rfl, q⟩
theorem w_jc {c out : Str} {f : JF} {σ : SD} {R : Str → HD → Prop} {a b : List Nat} (ho : out = tS a) (hc : c = tS b) (hl : a.length + b.length ≤ 100000) (h : wJ (f σ H (tS (a ++ b))) R) : wJ (jC c f σ H out) R := by
  subst ho hc
  obtain ⟨y, H1, e, q⟩ := h
  exact ⟨y, H1, by unfold jC; rw [tS_app, if_pos (by rw [tS_len, PySem.sizeLine_eq, List.length_append]; omega)]; exact e, q⟩
theorem w_je {g : EF} {out : Str} {f : JF} {σ : SD} {R : Str → HD → Prop} {a b : List Nat} (ho : out = tS a) (hg : g σ H = some (tx b, H)) (hl : a.length + b.length ≤ 100000) (h : wJ (f σ H (tS (a ++ b))) R) : wJ (jE g f σ H out) R := by
  subst ho
  obtain ⟨y, H1, e, q⟩ := h
  refine ⟨y, H1, ?_, q⟩
  unfold jE
  rw [hg]
  simp only [Option.bind_some, tx]
  rw [if_pos ⟨by rw [tS_len, PySem.sizeLine_eq]; omega, by rw [tS_app, tS_len, PySem.sizeLine_eq, List.length_append]; omega⟩, tS_app]
  exact e
theorem w_jn {out : Str} {σ : SD} {R : Str → HD → Prop} (q : R out H) : wJ (jNil σ H out) R := ⟨_, _, rfl, q⟩
theorem w_showPick {b : Bool} (q : Q (tx [if b then 121 else 110]) H) : wE (m_show_pick [.bl b] H) Q := by
  refine w_run rfl ?_
  show wS (b_show_pick [some (.bl b)] H) _
  unfold b_show_pick
  cases b with
  | true => (repeat fail "go"); rw [s_y]; exact q
  | false => (repeat fail "go"); rw [s_n]; exact q
theorem w_showTree : ∀ (t : Tr) (f : Nat) (H : HD) (Q : D → HD → Prop), t.dep < f → t.dep ≤ 9 → t.ok 1000 → Q (tx t.txt) H → wE (recF 1 3 b_show_tree f [t.d] H) Q
  | .kept, f, H, Q, hf, h9, hk, q => by
    obtain ⟨f, rfl⟩ : ∃ f', f = f' + 1 := ⟨f - 1, by omega⟩
    rw [recF]
    refine w_run rfl ?_
    show wS (b_show_tree _ [some (.tup [.str "kept"]), none, none] H) _
    unfold b_show_tree
    (repeat fail "go"); (refine WP.w_if ?_; (repeat fail "go"))
    rw [s_plus]; exact q
  | .lost n, f, H, Q, hf, h9, hk, q => by
    obtain ⟨f, rfl⟩ : ∃ f', f = f' + 1 := ⟨f - 1, by omega⟩
    have hk : n < 1000 := hk
    rw [recF]
    refine w_run rfl ?_
    show wS (b_show_tree _ [some (.tup [.str "lost", .int n]), none, none] H) _
    unfold b_show_tree
    (repeat fail "go"); (refine WP.w_if ?_; (repeat fail "go")); (refine WP.w_if ?_; (repeat fail "go"))
    refine w_str (by omega) ?_
    (repeat fail "go")
    exact q
  | .pick b t, f, H, Q, hf, h9, hk, q => by
    have hf : t.dep + 1 < f := hf
    have h9 : t.dep + 1 ≤ 9 := h9
    obtain ⟨f, rfl⟩ : ∃ f', f = f' + 1 := ⟨f - 1, by omega⟩
    have sm := txt_small (t := t) hk (by omega)
    rw [recF]
    refine w_run rfl ?_
    show wS (b_show_tree _ [some (.tup [.str "pick", .bl b, t.d]), none, none] H) _
    unfold b_show_tree
    (repeat fail "go"); (refine WP.w_if ?_; (repeat fail "go")); (refine WP.w_if ?_; (repeat fail "go")); (refine WP.w_if ?_; (repeat fail "go"))
    refine w_showPick ?_
    (repeat fail "go")
    refine w_showTree t f H _ (by omega) (by omega) hk ?_
    refine w_addX (by simp; omega) ?_
    (repeat fail "go")
    exact q
  | .each t u, f, H, Q, hf, h9, hk, q => by
    have hf : max t.dep u.dep + 1 < f := hf
    have h9 : max t.dep u.dep + 1 ≤ 9 := h9
    obtain ⟨f, rfl⟩ : ∃ f', f = f' + 1 := ⟨f - 1, by omega⟩
    have s1 := txt_small (t := t) hk.1 (by omega)
    have s2 := txt_small (t := u) hk.2 (by omega)
    rw [recF]
    refine w_run rfl ?_
    show wS (b_show_tree _ [some (.tup [.str "each", t.d, u.d]), none, none] H) _
    unfold b_show_tree
    (repeat fail "go"); (refine WP.w_if ?_; (repeat fail "go")); (refine WP.w_if ?_; (repeat fail "go")); (refine WP.w_if ?_; (repeat fail "go"))
    refine w_showTree t f H _ (by omega) (by omega) hk.1 ?_
    (repeat fail "go")
    refine w_showTree u f H _ (by omega) (by omega) hk.2 ?_
    (repeat fail "go")
    refine w_ej (w_jc (a := []) rfl s_open (by simp) (w_je rfl rfl (by simp; omega) (w_jc rfl s_bar (by simp; omega) (w_je rfl rfl (by simp; omega) (w_jc rfl s_close (by simp; omega) (w_jn ?_))))))
    (repeat fail "go")
    have e : [] ++ [40] ++ t.txt ++ [124] ++ u.txt ++ [41] = (Tr.each t u).txt := by simp [Tr.txt]
    rw [e]
    exact q
theorem w_lawShown : ∀ (t : Tr) (f : Nat) (H : HD) (Q : D → HD → Prop), t.dep < f → t.dep ≤ 9 → t.ok 1000 → Q (tx t.txt) H → wE (recF 1 1 b_law_shown f [t.d] H) Q
  | .kept, f, H, Q, hf, h9, hk, q => by
    obtain ⟨f, rfl⟩ : ∃ f', f = f' + 1 := ⟨f - 1, by omega⟩
    rw [recF]
    refine w_run rfl ?_
    show wS (b_law_shown _ [some (.tup [.str "kept"])] H) _
    unfold b_law_shown
    (repeat fail "go"); (refine WP.w_if ?_; (repeat fail "go"))
    rw [s_plus]; exact q
  | .lost n, f, H, Q, hf, h9, hk, q => by
    obtain ⟨f, rfl⟩ : ∃ f', f = f' + 1 := ⟨f - 1, by omega⟩
    have hk : n < 1000 := hk
    rw [recF]
    refine w_run rfl ?_
    show wS (b_law_shown _ [some (.tup [.str "lost", .int n])] H) _
    unfold b_law_shown
    (repeat fail "go"); (refine WP.w_if ?_; (repeat fail "go")); (refine WP.w_if ?_; (repeat fail "go"))
    refine w_str (by omega) ?_
    (repeat fail "go")
    exact q
  | .pick b t, f, H, Q, hf, h9, hk, q => by
    have hf : t.dep + 1 < f := hf
    have h9 : t.dep + 1 ≤ 9 := h9
    obtain ⟨f, rfl⟩ : ∃ f', f = f' + 1 := ⟨f - 1, by omega⟩
    have sm := txt_small (t := t) hk (by omega)
    rw [recF]
    refine w_run rfl ?_
    show wS (b_law_shown _ [some (.tup [.str "pick", .bl b, t.d])] H) _
    unfold b_law_shown
    (repeat fail "go"); (refine WP.w_if ?_; (repeat fail "go")); (refine WP.w_if ?_; (repeat fail "go")); (refine WP.w_if ?_; (repeat fail "go"))
    rw [s_ny]
    refine w_six (l := [110, 121]) (i := if b then 1 else 0) (c := if b then 121 else 110) (by cases b <;> rfl) (by cases b <;> rfl) (by decide) ?_
    (repeat fail "go")
    refine w_lawShown t f H _ (by omega) (by omega) hk ?_
    refine w_addX (by simp; omega) ?_
    (repeat fail "go")
    exact q
  | .each t u, f, H, Q, hf, h9, hk, q => by
    have hf : max t.dep u.dep + 1 < f := hf
    have h9 : max t.dep u.dep + 1 ≤ 9 := h9
    obtain ⟨f, rfl⟩ : ∃ f', f = f' + 1 := ⟨f - 1, by omega⟩
    have s1 := txt_small (t := t) hk.1 (by omega)
    have s2 := txt_small (t := u) hk.2 (by omega)
    rw [recF]
    refine w_run rfl ?_
    show wS (b_law_shown _ [some (.tup [.str "each", t.d, u.d])] H) _
    unfold b_law_shown
    (repeat fail "go"); (refine WP.w_if ?_; (repeat fail "go")); (refine WP.w_if ?_; (repeat fail "go")); (refine WP.w_if ?_; (repeat fail "go"))
    refine w_lawShown t f H _ (by omega) (by omega) hk.1 ?_
    refine w_addL s_open (by simp; omega) ?_
    (repeat fail "go")
    refine w_addR s_bar (by simp; omega) ?_
    (repeat fail "go")
    refine w_lawShown u f H _ (by omega) (by omega) hk.2 ?_
    refine w_addX (by simp; omega) ?_
    (repeat fail "go")
    refine w_addR s_close (by simp; omega) ?_
    (repeat fail "go")
    have e : [40] ++ t.txt ++ [124] ++ u.txt ++ [41] = (Tr.each t u).txt := by simp [Tr.txt]
    rw [e]
    exact q
theorem w_itxt {σ : SD} {f : EF} {I : List D → OwnD → HD → Prop} (h : wE (f σ H) fun d H1 => ∃ x : Str, d = .str x ∧ x.cps.all (· < 128) = true ∧ I (signs x) [] H1) : wI (iTxt f σ H) I := by
  obtain ⟨d, H1, e, x, rfl, e2, q⟩ := h
  exact ⟨_, _, H1, by unfold iTxt; rw [e]; simp only [Option.bind_some]; rw [if_pos e2], q⟩
theorem w_aug {g : Int → Int → Int} {i : Nat} {f : EF} {σ : SD} {R : FD → SD → HD → Prop} {a : Int} (h : (σ[i]?).join = some (.int a)) (q : wE (f σ H) fun d H1 => ∃ b, d = .int b ∧ R .nx (σ.set i (some (.int (g a b)))) H1) : wS (sAug g i f σ H) R := by
  obtain ⟨d, H1, e, b, rfl, q⟩ := q
  exact ⟨_, _, _, by unfold sAug; rw [h]; simp only [Option.bind_some, intOf, e, Option.map_some], q⟩
noncomputable def numD : Option Nat → D
  | some n => .int n
  | none => .non
noncomputable def optD : Option (Tr × Nat) → D
  | some (t, e) => .tup [t.d, .int e]
  | none => .non
theorem w_sinL {l : List Nat} {c : Nat} {s : Str} (hs : s = tS l) (q : Q (.bl (decide (c ∈ l))) H) : wE (sinD (tx [c]) (.str s) H) Q := by subst hs; exact w_sin q
theorem mem_figs (c : Nat) : decide (c ∈ [48, 49, 50, 51, 52, 53, 54, 55, 56, 57]) = dig c := by
  rw [Bool.eq_iff_iff, decide_eq_true_iff, dig_iff]
  simp only [List.mem_cons, List.not_mem_nil, or_false]
  omega
theorem w_intS {l : List Nat} (h : ∀ c ∈ l, dig c = true) (h0 : l ≠ []) (hl : l.length ≤ 600) (q : Q (.int (num l : Nat)) H) : wE (intSD [tx l] H) Q := by
  refine ⟨_, _, ?_, q⟩
  have e : PySem.intText? (tS l) = some ((num l : Nat) : Int) := by
    have hz : (tS l).cps.toList = l := by simp [tS]
    have := PySem.intText_digits (x := tS l) (fun c hc => by rw [hz] at hc; exact dig_iff.mp (h c hc)) (by rw [hz]; exact h0) (by rw [tS_len]; omega)
    rw [hz] at this
    exact this
  unfold intSD tx
  dsimp only
  rw [if_pos (by rw [tS_len]; omega), e]
  rfl
theorem w_readNumber {l : List Nat} (h : ∀ c ∈ l, dig c = true) (hl : l.length ≤ 5000) (q : ∀ H', Fm [] H H' → Q (numD (numR l)) H') : wE (m_read_number [tx l] H) Q := by
  refine w_run rfl ?_
  show wS (b_read_number [some (tx l)] H) _
  unfold b_read_number k_MOST_FIGURES k_FIGURES
  (repeat fail "go"); (refine WP.w_if ?_; (repeat fail "go"))
  refine w_lenX (by omega) ?_
  (repeat fail "go")
  refine ⟨fun h0 => ?_, fun h0 => ?_⟩
  · (repeat fail "go")
    have : l.length = 0 := by have := eq_of_beq h0; omega
    have e : numR l = none := by unfold numR; rw [if_pos (.inl this)]
    have := q H Fm.refl
    rw [e] at this
    exact this
  have h0 : l.length ≠ 0 := fun z => by rw [z] at h0; revert h0; decide
  (repeat fail "go")
  refine w_lenX (by omega) ?_
  (repeat fail "go")
  refine ⟨fun h4 => ?_, fun h4 => ?_⟩
  · (repeat fail "go")
    have : 4 < l.length := by have := of_decide_eq_true h4; omega
    have e : numR l = none := by unfold numR; rw [if_pos (.inr (.inl this))]
    have := q H Fm.refl
    rw [e] at this
    exact this
  have h4 : l.length ≤ 4 := by have := of_decide_eq_false h4; omega
  (repeat fail "go")
  refine w_itxt (w_var rfl ⟨tS l, rfl, ?_, ?_⟩)
  · rw [← Array.all_toList, List.all_eq_true]
    intro c hc
    have := dig_iff.mp (h c (by simpa [tS] using hc))
    exact decide_eq_true (by omega)
  refine w_cmap (fun _ => .bl true) (fun H' => H' = H) (fun _ _ => own0) _ (fun x hx H1 j => ?_) _ rfl fun H1 j => ?_
  · obtain ⟨c, hc, rfl⟩ := List.mem_map.mp hx
    have hc : c ∈ l := by simpa [tS] using hc
    subst j
    (repeat fail "go")
    refine w_sinL (c := c) s_figs ?_
    rw [mem_figs, h c hc]
    exact ⟨rfl, rfl⟩
  subst j
  have es : (signs (tS l)).map (fun _ => D.bl true) = (l.map fun _ => true).map .bl := by
    unfold signs
    rw [show (tS l).cps.toList = l by simp [tS], List.map_map, List.map_map]
    rfl
  rw [es]
  refine ⟨by simp; omega, ?_⟩
  (repeat fail "go")
  refine w_all last ?_
  have ea : (l.map fun _ => true).all id = true := by rw [List.all_map, List.all_eq_true]; intro _ _; rfl
  rw [ea]
  (repeat fail "go")
  cases l with
  | nil => exact absurd rfl h0
  | cons c r =>
    have fm : Fm [] H1 (H1 ++ [DO.lst ((List.map (fun _ => true) (c :: r)).map .bl)]) := Fm.app _
    have hall : (c :: r).all dig = true := List.all_eq_true.mpr h
    have nn : ¬ ((c :: r).length = 0 ∨ 4 < (c :: r).length ∨ (c :: r).all dig = false) := by
      rw [hall]; simp at h4 ⊢; omega
    (refine WP.w_if ?_; (repeat fail "go"))
    refine w_six (i := 0) (c := c) rfl rfl (by omega) ?_
    (repeat fail "go")
    refine w_eqL s_0 ?_
    (repeat fail "go")
    refine ⟨fun hc => ?_, fun hc => ?_⟩
    · have hc : c = 48 := by have := of_decide_eq_true hc; simpa using this
      (repeat fail "go")
      refine w_neL s_0 ?_
      (repeat fail "go")
      refine ⟨fun hr => ?_, fun hr => ?_⟩
      · (repeat fail "go")
        have hr : c :: r ≠ [48] := by intro z; rw [z] at hr; revert hr; decide
        have e : numR (c :: r) = none := by unfold numR; rw [if_neg nn, if_pos ⟨by simp [hc], hr⟩]
        have := q _ fm
        rw [e] at this
        exact this
      · have hr : c :: r = [48] := by
          rw [Bool.not_eq_false', decide_eq_true_iff] at hr; exact hr
        (repeat fail "go")
        refine w_intS h (by simp) (by omega) ?_
        (repeat fail "go")
        have e : numR (c :: r) = some (num (c :: r)) := by unfold numR; rw [if_neg nn, if_neg (fun z => z.2 hr)]
        have := q _ fm
        rw [e] at this
        exact this
    · have hc : c ≠ 48 := by have := of_decide_eq_false hc; simpa using this
      (repeat fail "go")
      refine w_intS h (by simp) (by omega) ?_
      (repeat fail "go")
      have e : numR (c :: r) = some (num (c :: r)) := by unfold numR; rw [if_neg nn, if_neg (fun z => hc (by simpa using z.1))]
      have := q _ fm
      rw [e] at this
      exact this
theorem tw_take {m : List Nat} {k : Nat} (hk : k ≤ m.length) (h1 : ∀ c ∈ m.take k, dig c = true) (h2 : ∀ c, m[k]? = some c → dig c = false) : m.takeWhile dig = m.take k := by
  have : m = m.take k ++ m.drop k := (List.take_append_drop k m).symm
  conv => lhs; rw [this]
  exact tw_stop h1 fun c hc => h2 c (by rw [List.head?_drop] at hc; exact hc)
theorem w_lostAt {l : List Nat} {p : Nat} (hl : l.length ≤ 4500) (hp : p ≤ l.length) (q : ∀ H', Fm [] H H' → Q (optD (lostP l p)) H') : wE (m_lost_at [tx l, .int p] H) Q := by
  refine w_run rfl ?_
  show wS (b_lost_at [some (tx l), some (.int p), none, none] H) _
  unfold b_lost_at k_FIGURES k_MOST_ROWS
  (repeat fail "go")
  refine w_cut (fun σ H' => H' = H ∧ ∃ k, p + k ≤ l.length ∧ σ = [some (tx l), some (.int p), some (.int ((p + k : Nat) : Int)), none] ∧ (l.drop p).takeWhile dig = (l.drop p).take k) ?_ ?_
  · refine w_while (fun m σ H' => H' = H ∧ ∃ k, k + m = l.length - p ∧ σ = [some (tx l), some (.int p), some (.int ((p + k : Nat) : Int)), none] ∧ ∀ c ∈ (l.drop p).take k, dig c = true) (fun m σ H1 ⟨i1, k, i2, i3, i4⟩ => ?_) 5000 (l.length - p) _ _ (by omega) ⟨rfl, 0, by omega, rfl, by simp⟩
    subst i1 i3
    (repeat fail "go")
    refine w_lenX (by omega) ?_
    (repeat fail "go")
    refine ⟨fun h => ?_, fun h => ?_⟩
    · have lt : p + k < l.length := by have := of_decide_eq_true h; omega
      obtain ⟨c, hc⟩ : ∃ c, l[p + k]? = some c := ⟨_, List.getElem?_eq_getElem lt⟩
      have hc2 : (l.drop p)[k]? = some c := by rw [← at_drop]; exact hc
      (repeat fail "go")
      refine w_six rfl hc (by omega) ?_
      (repeat fail "go")
      refine w_sinL s_figs ?_
      rw [mem_figs]
      (repeat fail "go")
      refine ⟨fun hd => ?_, fun hd => ?_⟩
      · obtain ⟨m', rfl⟩ : ∃ m', m = m' + 1 := ⟨m - 1, by omega⟩
        refine ⟨m', rfl, ?_⟩
        (repeat fail "go")
        refine w_aug rfl ?_
        (repeat fail "go")
        refine ⟨rfl, k + 1, by omega, ?_, fun z hz => ?_⟩
        · have : ((p + k : Nat) : Int) + 1 = ((p + (k + 1) : Nat) : Int) := by omega
          show [_, _, some (D.int (((p + k : Nat) : Int) + 1)), _] = _
          rw [this]
        · rw [List.take_add_one, hc2] at hz
          rcases List.mem_append.mp hz with z1 | z1
          · exact i4 z z1
          · simp at z1; subst z1; exact hd
      · refine ⟨rfl, rfl, k, by omega, rfl, tw_take (by simp; omega) i4 fun c' hc' => ?_⟩
        rw [hc2] at hc'
        cases hc'
        exact hd
    · have ge : ¬ p + k < l.length := by have := of_decide_eq_false h; omega
      (repeat fail "go")
      refine ⟨rfl, rfl, k, by omega, rfl, tw_take (by simp; omega) i4 fun c' hc' => ?_⟩
      have := (List.getElem?_eq_some_iff.mp hc').1
      simp at this
      omega
  · rintro σ H1 ⟨rfl, k, hk, rfl, e⟩
    (repeat fail "go")
    refine w_sls ?_
    (repeat fail "go")
    refine w_cut2 rfl rfl (by omega) ?_
    have ec : cutL l p (p + k) = (l.drop p).takeWhile dig := by
      rw [e]; unfold cutL; congr 1; omega
    have el : k = ((l.drop p).takeWhile dig).length := by rw [e]; simp; omega
    rw [ec]
    (repeat fail "go")
    have hlen : ((l.drop p).takeWhile dig).length ≤ l.length := by rw [← el]; omega
    refine w_readNumber (fun c hc => ?_) (by omega) fun H2 x2 => ?_
    · exact List.all_eq_true.mp (List.all_takeWhile (p := dig) (l := l.drop p)) c hc
    have q2 := q H2 x2
    unfold lostP at q2
    rw [el]
    cases hn : numR ((l.drop p).takeWhile dig) with
    | none =>
      rw [hn] at q2
      show wS _ _
      unfold numD
      (repeat fail "go"); (refine WP.w_if ?_; (repeat fail "go"))
      exact q2
    | some n =>
      rw [hn] at q2
      dsimp only at q2
      unfold numD
      (repeat fail "go"); (refine WP.w_if ?_; (repeat fail "go"))
      refine ⟨fun h => ?_, fun h => ?_⟩
      · (repeat fail "go")
        rw [if_neg (by have := of_decide_eq_true h; omega)] at q2
        exact q2
      · (repeat fail "go")
        rw [if_pos (by have := of_decide_eq_false h; omega)] at q2
        exact q2
noncomputable def sg (l : List Nat) (p : Nat) : List Nat := (l[p]?).toList
theorem cut1 (l : List Nat) (p : Nat) : cutL l p (p + 1) = sg l p := by
  unfold cutL sg
  rw [show p + 1 - p = 1 by omega, List.take_one, List.head?_drop]
theorem w_sg {l : List Nat} {p : Nat} {a b : Int} (ha : a = p) (hb : b = (p : Int) + 1) (hl : l.length ≤ 100000) (q : Q (tx (sg l p)) H) : wE (slSD (tx l) (some a) (some b) H) Q :=
  w_cut2 (i := p) (j := p + 1) ha (by omega) hl (by rw [cut1]; exact q)
theorem pk_ny (a : List Nat) : pkAt [("n", false), ("y", true)] (tS a) = if a = [110] then some false else if a = [121] then some true else none := by
  unfold pkAt
  have e1 : (("n" : Str) = tS a) ↔ a = [110] := by rw [s_n]; exact ⟨fun h => (tS_inj h).symm, fun h => by rw [h]⟩
  have e2 : (("y" : Str) = tS a) ↔ a = [121] := by rw [s_y]; exact ⟨fun h => (tS_inj h).symm, fun h => by rw [h]⟩
  rw [List.find?_cons]
  by_cases h1 : a = [110]
  · rw [if_pos h1]
    have : decide (("n" : Str) = tS a) = true := decide_eq_true (e1.mpr h1)
    simp only [this]
    rfl
  · have : decide (("n" : Str) = tS a) = false := decide_eq_false fun z => h1 (e1.mp z)
    simp only [this]
    rw [if_neg h1, List.find?_cons]
    by_cases h2 : a = [121]
    · have : decide (("y" : Str) = tS a) = true := decide_eq_true (e2.mpr h2)
      simp only [this]
      rw [if_pos h2]
      rfl
    · have : decide (("y" : Str) = tS a) = false := decide_eq_false fun z => h2 (e2.mp z)
      simp only [this]
      rw [if_neg h2]
      rfl
theorem w_tin {a : List Nat} (q : Q (.bl (decide (a = [110] ∨ a = [121]))) H) : wE (tinD [("n", false), ("y", true)] (tx a) H) Q := by
  refine ⟨_, _, rfl, ?_⟩
  have e : (pkAt [("n", false), ("y", true)] (tS a)).isSome = decide (a = [110] ∨ a = [121]) := by
    rw [pk_ny]
    by_cases h1 : a = [110]
    · simp [h1]
    · by_cases h2 : a = [121]
      · simp [h2]
      · simp [h1, h2]
  rw [e]
  exact q
theorem w_tget {b : Bool} (q : Q (.bl b) H) : wE (tgetD [("n", false), ("y", true)] (tx [if b then 121 else 110]) H) Q := by
  refine ⟨.bl b, H, ?_, q⟩
  unfold tgetD tx
  dsimp only
  rw [pk_ny]
  cases b <;> rfl
noncomputable abbrev RQ (f : Nat) : FF × FF × FF := recQ 3 4 3 4 3 7 b_tree_at b_pick_at b_each_at f
noncomputable def pickO (b : Bool) (r : Option (Tr × Nat)) : Option (Tr × Nat) := r.map fun z => (.pick b z.1, z.2)
noncomputable def eachO (l : List Nat) (d p : Nat) : Option (Tr × Nat) := match pT l d (p + 1) with
  | some (t, e) => if l[e]? = some 124 then (match pT l d (e + 1) with
    | some (u, e2) => if l[e2]? = some 41 then some (.each t u, e2 + 1) else none
    | none => none) else none
  | none => none
theorem sg_eq {l : List Nat} {p c : Nat} : sg l p = [c] ↔ l[p]? = some c := by
  unfold sg
  cases l[p]? <;> simp
theorem w_trio {l : List Nat} (hl : l.length ≤ 4500) : ∀ f : Nat,
    (∀ (d p : Nat) (H : HD) (Q : D → HD → Prop), 2 * d + 1 ≤ f → p ≤ l.length → (∀ H', Fm [] H H' → Q (optD (pT l d p)) H') → wE ((RQ f).1 [tx l, .int p, .int d] H) Q) ∧
    (∀ (d p : Nat) (b : Bool) (H : HD) (Q : D → HD → Prop), 2 * d + 2 ≤ f → l[p]? = some (if b then 121 else 110) → (∀ H', Fm [] H H' → Q (optD (pickO b (pT l d (p + 1)))) H') → wE ((RQ f).2.1 [tx l, .int p, .int ((d + 1 : Nat) : Int)] H) Q) ∧
    (∀ (d p : Nat) (H : HD) (Q : D → HD → Prop), 2 * d + 2 ≤ f → l[p]? = some 40 → (∀ H', Fm [] H H' → Q (optD (eachO l d p)) H') → wE ((RQ f).2.2 [tx l, .int p, .int ((d + 1 : Nat) : Int)] H) Q) := by
  intro f
  induction f with
  | zero => exact ⟨fun d _ _ _ h => by omega, fun d _ _ _ _ h => by omega, fun d _ _ _ h => by omega⟩
  | succ f ih =>
    obtain ⟨ih1, ih2, ih3⟩ := ih
    refine ⟨?_, ?_, ?_⟩
    · intro d p H Q hf hp q
      unfold RQ
      rw [recQ]
      dsimp only
      generalize hF1 : (recQ 3 4 3 4 3 7 b_tree_at b_pick_at b_each_at f).1 = F1 at *
      generalize hF2 : (recQ 3 4 3 4 3 7 b_tree_at b_pick_at b_each_at f).2.1 = F2 at *
      generalize hF3 : (recQ 3 4 3 4 3 7 b_tree_at b_pick_at b_each_at f).2.2 = F3 at *
      refine w_run rfl ?_
      show wS (b_tree_at F1 F2 F3 [some (tx l), some (.int p), some (.int d), none] H) _
      unfold b_tree_at
      (repeat fail "go")
      refine w_sls ?_
      (repeat fail "go")
      refine w_sg rfl rfl (by omega) ?_
      (repeat fail "go"); (refine WP.w_if ?_; (repeat fail "go"))
      refine w_eqL s_plus ?_
      (repeat fail "go")
      refine ⟨fun h => ?_, fun h => ?_⟩
      · have h43 := sg_eq.mp (of_decide_eq_true h)
        (repeat fail "go")
        have := q H Fm.refl
        cases d <;> (rw [pT, if_pos h43] at this; exact this)
      have h43 : l[p]? ≠ some 43 := fun z => of_decide_eq_false h (sg_eq.mpr z)
      (repeat fail "go"); (refine WP.w_if ?_; (repeat fail "go"))
      cases d with
      | zero =>
        have q0 := q
        rw [pT, if_neg h43] at q0
        (repeat fail "go"); (refine WP.w_if ?_; (repeat fail "go"))
        (repeat fail "go")
        exact w_lostAt hl hp q0
      | succ d =>
        refine w_bT (decide_eq_true (by omega)) ?_
        (repeat fail "go")
        refine w_tin ?_
        (repeat fail "go")
        refine ⟨fun h => ?_, fun h => ?_⟩
        · obtain ⟨b, hb⟩ : ∃ b : Bool, l[p]? = some (if b then 121 else 110) := by
            rcases of_decide_eq_true h with z | z
            · exact ⟨false, sg_eq.mp z⟩
            · exact ⟨true, sg_eq.mp z⟩
          (repeat fail "go")
          refine ih2 d p b H _ (by omega) hb fun H1 x1 => ?_
          (repeat fail "go")
          have := q H1 x1
          rw [pT, if_neg h43, hb] at this
          cases b with
          | false => rw [if_pos (by simp)] at this; exact this
          | true => rw [if_neg (by simp), if_pos (by simp)] at this; exact this
        have hn := of_decide_eq_false h
        have h110 : l[p]? ≠ some 110 := fun z => hn (.inl (sg_eq.mpr z))
        have h121 : l[p]? ≠ some 121 := fun z => hn (.inr (sg_eq.mpr z))
        (repeat fail "go"); (refine WP.w_if ?_; (repeat fail "go"))
        refine w_bT (decide_eq_true (by omega)) ?_
        (repeat fail "go")
        refine w_eqL s_open ?_
        (repeat fail "go")
        refine ⟨fun h => ?_, fun h => ?_⟩
        · have h40 := sg_eq.mp (of_decide_eq_true h)
          (repeat fail "go")
          refine ih3 d p H _ (by omega) h40 fun H1 x1 => ?_
          (repeat fail "go")
          have := q H1 x1
          rw [pT, if_neg h43, if_neg h110, if_neg h121, if_pos h40] at this
          exact this
        · have h40 : l[p]? ≠ some 40 := fun z => of_decide_eq_false h (sg_eq.mpr z)
          (repeat fail "go")
          refine w_lostAt hl hp fun H1 x1 => ?_
          (repeat fail "go")
          have := q H1 x1
          rw [pT, if_neg h43, if_neg h110, if_neg h121, if_neg h40] at this
          exact this
    · intro d p b H Q hf hc q
      unfold RQ
      rw [recQ]
      dsimp only
      generalize hF1 : (recQ 3 4 3 4 3 7 b_tree_at b_pick_at b_each_at f).1 = F1 at *
      generalize hF2 : (recQ 3 4 3 4 3 7 b_tree_at b_pick_at b_each_at f).2.1 = F2 at *
      generalize hF3 : (recQ 3 4 3 4 3 7 b_tree_at b_pick_at b_each_at f).2.2 = F3 at *
      have lt := (List.getElem?_eq_some_iff.mp hc).1
      refine w_run rfl ?_
      show wS (b_pick_at F1 F2 F3 [some (tx l), some (.int p), some (.int ((d + 1 : Nat) : Int)), none] H) _
      unfold b_pick_at
      (repeat fail "go")
      rw [show (p : Int) + 1 = ((p + 1 : Nat) : Int) by omega, show ((d + 1 : Nat) : Int) - 1 = (d : Int) by omega]
      refine ih1 d (p + 1) H _ (by omega) (by omega) fun H1 x1 => ?_
      have q1 := q H1 x1
      cases hr : pT l d (p + 1) with
      | none =>
        rw [hr] at q1
        unfold optD
        (repeat fail "go"); (refine WP.w_if ?_; (repeat fail "go"))
        exact q1
      | some z =>
        obtain ⟨t, e⟩ := z
        rw [hr] at q1
        unfold optD
        (repeat fail "go"); (refine WP.w_if ?_; (repeat fail "go"))
        (repeat fail "go")
        refine w_six rfl hc (by omega) ?_
        refine w_tget ?_
        (repeat fail "go")
        exact q1
    · intro d p H Q hf hc q
      unfold RQ
      rw [recQ]
      dsimp only
      generalize hF1 : (recQ 3 4 3 4 3 7 b_tree_at b_pick_at b_each_at f).1 = F1 at *
      generalize hF2 : (recQ 3 4 3 4 3 7 b_tree_at b_pick_at b_each_at f).2.1 = F2 at *
      generalize hF3 : (recQ 3 4 3 4 3 7 b_tree_at b_pick_at b_each_at f).2.2 = F3 at *
      have lt := (List.getElem?_eq_some_iff.mp hc).1
      refine w_run rfl ?_
      show wS (b_each_at F1 F2 F3 [some (tx l), some (.int p), some (.int ((d + 1 : Nat) : Int)), none, none, none, none] H) _
      unfold b_each_at
      (repeat fail "go")
      refine w_fcons own0 ?_
      (repeat fail "go")
      rw [show (p : Int) + 1 = ((p + 1 : Nat) : Int) by omega, show ((d + 1 : Nat) : Int) - 1 = (d : Int) by omega]
      refine ih1 d (p + 1) _ _ (by omega) (by omega) fun H1 x1 => ?_
      have y1 : Fm [] H H1 := (Fm.app _).trans x1
      have g1 : H1[H.length]? = some (.lst []) := x1.lst (by simp) last
      have q1 := q
      unfold eachO at q1
      cases hr : pT l d (p + 1) with
      | none =>
        rw [hr] at q1
        unfold optD
        (repeat fail "go"); (refine WP.w_if ?_; (repeat fail "go"))
        exact q1 H1 y1
      | some z =>
        obtain ⟨t, e⟩ := z
        rw [hr] at q1
        dsimp only at q1
        unfold optD
        (repeat fail "go"); (refine WP.w_if ?_; (repeat fail "go"))
        refine w_sls ?_
        (repeat fail "go")
        refine w_sg rfl rfl (by omega) ?_
        (repeat fail "go")
        refine w_neL s_bar ?_
        (repeat fail "go")
        refine ⟨fun h => ?_, fun h => ?_⟩
        · (repeat fail "go")
          have h124 : l[e]? ≠ some 124 := fun z => by rw [sg_eq.mpr z] at h; revert h; simp
          have := q1 H1 y1
          rw [if_neg h124] at this
          exact this
        have h124 : l[e]? = some 124 := by
          rw [Bool.not_eq_false', decide_eq_true_iff] at h; exact sg_eq.mp h
        have lt2 := (List.getElem?_eq_some_iff.mp h124).1
        (repeat fail "go")
        refine ⟨isl g1, ?_⟩
        (repeat fail "go")
        refine w_app g1 (by simp) ?_
        (repeat fail "go")
        refine w_fcons own0 ?_
        (repeat fail "go")
        rw [show (e : Int) + 1 = ((e + 1 : Nat) : Int) by omega, show ((d + 1 : Nat) : Int) - 1 = (d : Int) by omega]
        refine ih1 d (e + 1) _ _ (by omega) (by omega) fun H2 x2 => ?_
        have g2 : H2[H.length]? = some (.lst [t.d]) := x2.lst (by simp) (setS g1)
        have y2 : Fm [] H H2 := (y1.new (Fm.set (S := [H.length]) (by simp)) (fun m hm _ => by simp at hm; omega)).trans x2
        rw [if_pos h124] at q1
        cases hr2 : pT l d (e + 1) with
        | none =>
          rw [hr2] at q1
          unfold optD
          (repeat fail "go"); (refine WP.w_if ?_; (repeat fail "go"))
          exact q1 H2 y2
        | some z =>
          obtain ⟨u, e2⟩ := z
          rw [hr2] at q1
          dsimp only at q1
          unfold optD
          (repeat fail "go"); (refine WP.w_if ?_; (repeat fail "go"))
          refine w_sls ?_
          (repeat fail "go")
          refine w_sg rfl rfl (by omega) ?_
          (repeat fail "go")
          refine w_neL s_close ?_
          (repeat fail "go")
          refine ⟨fun h => ?_, fun h => ?_⟩
          · (repeat fail "go")
            have h41 : l[e2]? ≠ some 41 := fun z => by rw [sg_eq.mpr z] at h; revert h; simp
            have := q1 H2 y2
            rw [if_neg h41] at this
            exact this
          have h41 : l[e2]? = some 41 := by
            rw [Bool.not_eq_false', decide_eq_true_iff] at h; exact sg_eq.mp h
          (repeat fail "go")
          refine ⟨isl g2, ?_⟩
          (repeat fail "go")
          refine w_app g2 (by simp) ?_
          (repeat fail "go")
          refine w_fnil own0 ?_
          (repeat fail "go")
          refine w_ixR (setS g2) rfl ?_
          (repeat fail "go")
          refine w_ixR (setS g2) rfl ?_
          (repeat fail "go")
          rw [if_pos h41] at q1
          exact q1 _ (y2.new (Fm.set (S := [H.length]) (by simp)) (fun m hm _ => by simp at hm; omega))
theorem w_readTree {l : List Nat} (hl : l.length ≤ 4500) (q : ∀ H', Fm [] H H' → Q (match readP l with | some t => t.d | none => .non) H') : wE (m_read_tree [tx l] H) Q := by
  refine w_run rfl ?_
  show wS (b_read_tree [some (tx l), none] H) _
  unfold b_read_tree k_MOST_NAMES
  (repeat fail "go")
  refine (w_trio hl 22).1 8 0 H _ (by omega) (by omega) fun H1 x1 => ?_
  have q1 := q H1 x1
  unfold readP at q1
  cases hr : pT l 8 0 with
  | none =>
    rw [hr] at q1
    unfold optD
    (repeat fail "go"); (refine WP.w_if ?_; (repeat fail "go"))
    exact q1
  | some z =>
    obtain ⟨t, e⟩ := z
    rw [hr] at q1
    dsimp only at q1
    unfold optD
    (repeat fail "go"); (refine WP.w_if ?_; (repeat fail "go"))
    refine w_lenX (by omega) ?_
    refine w_neI ?_
    (repeat fail "go")
    refine ⟨fun h => ?_, fun h => ?_⟩
    · (repeat fail "go")
      rw [if_neg (fun z => by rw [z] at h; simp at h)] at q1
      exact q1
    · (repeat fail "go")
      have : e = l.length := by
        rw [Bool.not_eq_false', beq_iff_eq] at h; omega
      rw [if_pos this] at q1
      exact q1
noncomputable def Asc (l : List Nat) : Prop := ∀ c ∈ l, c < 128
theorem fine_tx {l : List Nat} (h : Asc l) : Fine (tx l) (.str (tS l)) 0 := by
  refine Fine.str ?_
  unfold PyData.strOk
  rw [← Array.all_toList, List.all_eq_true]
  intro c hc
  have := h c (by simpa [tS] using hc)
  exact decide_eq_true (by omega)
theorem Asc.cut {l : List Nat} (h : Asc l) (i j : Nat) : Asc (cutL l i j) := fun c hc => h c (List.mem_of_mem_drop (List.mem_of_mem_take hc))
theorem asc_figs (n : Nat) : Asc (figs n) := fun c hc => by have := dig_iff.mp (digs_figs n c hc); omega
theorem fines_nums (ns : List (List Nat)) (h : ∀ n ∈ ns, Asc n) : Fines (ns.map tx) (ns.map fun n => .str (tS n)) 0 := by
  induction ns with
  | nil => exact .nil
  | cons n r ih => exact .cons (fine_tx (h n (by simp))) (ih fun m hm => h m (by simp [hm]))
theorem asc_nums : ∀ n ∈ nums, Asc n := by
  intro n hn
  obtain ⟨k, _, rfl⟩ := List.mem_map.mp hn
  exact asc_figs k
theorem eqv_tx (a b : List Nat) : PyData.eqv (.str (tS a)) (.str (tS b)) = (a == b) := by
  show (tS a == tS b) = (a == b)
  rw [tS_beq, Bool.eq_iff_iff, decide_eq_true_iff, beq_iff_eq]
theorem w_inNums {w : List Nat} {p : Nat} (hw : Asc w) (g : H[p]? = some (.lst (nums.map tx))) (q : Q (.bl (decide (w ∈ nums))) H) : wE (inD (tx w) (.ref p) H) Q := by
  refine w_inL (fine_tx hw) (fines_nums nums asc_nums) (by omega) (by omega) g ?_
  have e : ((nums.map fun n => PyData.str (tS n)).any fun z => PyData.eqv z (.str (tS w))) = decide (w ∈ nums) := by
    rw [List.any_map, Bool.eq_iff_iff, List.any_eq_true, decide_eq_true_iff]
    constructor
    · rintro ⟨n, hn, e⟩
      have : PyData.eqv (.str (tS n)) (.str (tS w)) = true := e
      rw [eqv_tx, beq_iff_eq] at this
      rw [← this]; exact hn
    · intro h
      exact ⟨w, h, by show PyData.eqv (.str (tS w)) (.str (tS w)) = true; rw [eqv_tx]; simp⟩
  rw [e]
  exact q
theorem w_index {w : List Nat} {p : Nat} (hw : Asc w) (hm : w ∈ nums) (g : H[p]? = some (.lst (nums.map tx))) (q : Q (.int ((nums.idxOf w : Nat) : Int)) H) : wE (lindexD (.ref p) [tx w] H) Q := by
  refine ⟨_, _, ?_, q⟩
  unfold lindexD
  dsimp only
  rw [g]
  dsimp only
  rw [(fines_nums nums asc_nums).dat (by omega) g, Option.bind_some, (fine_tx hw).dat (by omega) H, Option.bind_some]
  have hlt : nums.idxOf w < nums.length := List.idxOf_lt_length_iff.mpr hm
  have e : (nums.map fun n => PyData.str (tS n)).findIdx? (fun z => PyData.eqv z (.str (tS w))) = some (nums.idxOf w) := by
    rw [List.findIdx?_map]
    have : (fun z => PyData.eqv z (.str (tS w))) ∘ (fun n : List Nat => PyData.str (tS n)) = fun n => n == w := funext fun n => eqv_tx n w
    rw [this]
    exact List.findIdx?_eq_some_iff_findIdx_eq.mpr ⟨hlt, rfl⟩
  show ((itemsP (PyData.list _)).bind _) = _
  rw [show itemsP (PyData.list (nums.map fun n => PyData.str (tS n))) = some (nums.map fun n => PyData.str (tS n)) from rfl, Option.bind_some, e, Option.bind_some]
  have h20 : nums.length = 20 := by decide
  rw [if_pos (by omega)]
theorem w_endRead {l : List Nat} {p : Nat} (hl : l.length ≤ 4500) (ha : Asc l) (q : ∀ H', Fm [] H H' → Q (optD (lEnd l p)) H') : wE (m_law_end_read [tx l, .int p] H) Q := by
  refine w_run rfl ?_
  show wS (b_law_end_read [some (tx l), some (.int p), none, none, none] H) _
  unfold b_law_end_read
  unfold lEnd at q
  (repeat fail "go"); (refine WP.w_if ?_; (repeat fail "go"))
  refine w_sls ?_
  (repeat fail "go")
  refine w_sg rfl rfl (by omega) ?_
  (repeat fail "go")
  refine w_eqL s_plus ?_
  (repeat fail "go")
  refine ⟨fun h => ?_, fun h => ?_⟩
  · have h43 := sg_eq.mp (of_decide_eq_true h)
    (repeat fail "go")
    have := q H Fm.refl
    rw [if_pos h43] at this
    exact this
  have h43 : l[p]? ≠ some 43 := fun z => of_decide_eq_false h (sg_eq.mpr z)
  rw [if_neg h43] at q
  (repeat fail "go")
  refine ⟨20, rfl, ⟨by omega, by omega⟩, ?_⟩
  refine w_cmap (fun d => match d with | .int i => tx (figs i.toNat) | _ => .non) (fun H' => H' = H) (fun _ _ => own0) _ (fun x hx H1 j => ?_) _ rfl fun H1 j => ?_
  · subst j
    simp only [rangeL, List.mem_map, List.mem_range] at hx
    obtain ⟨k, hk, rfl⟩ := hx
    have hk : k < 20 := hk
    (repeat fail "go")
    rw [show (0 : Int) + (k : Int) = (k : Int) by omega]
    refine w_str (by omega) ?_
    exact ⟨rfl, rfl⟩
  subst j
  have en : (rangeL 0 (20 : Int).toNat).map (fun d => match d with | .int i => tx (figs i.toNat) | _ => .non) = nums.map tx := by
    unfold rangeL nums
    rw [List.map_map, List.map_map]
    refine List.map_congr_left fun a _ => ?_
    show tx (figs ((0 : Int) + (a : Int)).toNat) = tx (figs a)
    rw [show ((0 : Int) + (a : Int)).toNat = a by omega]
  rw [en]
  refine ⟨by decide, ?_⟩
  have fm : Fm [] H1 (H1 ++ [.lst (nums.map tx)]) := Fm.app _
  have g : (H1 ++ [DO.lst (nums.map tx)])[H1.length]? = some (.lst (nums.map tx)) := last
  generalize H1 ++ [DO.lst (nums.map tx)] = H2 at fm g
  (repeat fail "go")
  refine w_fcons own0 ?_
  (repeat fail "go")
  refine w_sls ?_
  (repeat fail "go")
  refine w_cut2 (i := p) (j := p + 2) rfl (by omega) (by omega) ?_
  (repeat fail "go"); (refine WP.w_if ?_; (repeat fail "go"))
  refine w_inNums (ha.cut _ _) g ?_
  (repeat fail "go")
  have two : ∀ R : Prop, (cutL l p (p + 2) ∈ nums ∧ p + 2 ≤ l.length → R) → (¬ (cutL l p (p + 2) ∈ nums ∧ p + 2 ≤ l.length) → R) → R := fun R a b => by
    by_cases h : cutL l p (p + 2) ∈ nums ∧ p + 2 ≤ l.length
    · exact a h
    · exact b h
  have step1 : (¬ (cutL l p (p + 2) ∈ nums ∧ p + 2 ≤ l.length)) → ∀ (z4 : Option D), wS (forL [] (gNm 3) (sSeq (sSet 4 (eSlS (eVar 0) (oSome (eVar 1)) (oSome (eOp addD (eVar 1) (eVar 3)))))
      (sSeq (sIf (tAn (tOf (eOp inD (eVar 4) (eVar 2))) (tOf (eOp leD (eOp addD (eVar 1) (eVar 3)) (eCB lenD (aCons (eVar 0) aNil))))) (sSeq (sRet (eTup (aCons (eTup (aCons (eC (.str "lost")) (aCons (eLM lindexD (eVar 2) (aCons (eVar 4) aNil)) aNil))) (aCons (eOp addD (eVar 1) (eVar 3)) aNil))))
      sNil) sNil) sNil)) [D.int 1] [some (tx l), some (.int p), some (.ref H1.length), some (.int 2), z4] H2) (kont (fun σ1 H1 => wS (sSeq (sRet (eC .non)) sNil σ1 H1) (fin Q)) (fin Q)) := by
    intro hn z4
    rw [if_neg hn] at q
    refine w_fcons own0 ?_
    (repeat fail "go")
    refine w_sls ?_
    (repeat fail "go")
    refine w_cut2 (i := p) (j := p + 1) rfl (by omega) (by omega) ?_
    (repeat fail "go"); (refine WP.w_if ?_; (repeat fail "go"))
    refine w_inNums (ha.cut _ _) g ?_
    (repeat fail "go")
    refine ⟨fun h => ?_, fun h => ?_⟩
    · have h := of_decide_eq_true h
      (repeat fail "go")
      refine w_lenX (by omega) ?_
      (repeat fail "go")
      refine ⟨fun h2 => ?_, fun h2 => ?_⟩
      · (repeat fail "go")
        refine ⟨isl g, ?_⟩
        (repeat fail "go")
        refine w_index (ha.cut _ _) h g ?_
        (repeat fail "go")
        have := q H2 fm
        rw [if_pos ⟨h, by have := of_decide_eq_true h2; omega⟩] at this
        exact this
      · (repeat fail "go")
        refine w_fnil own0 ?_
        (repeat fail "go")
        have := q H2 fm
        rw [if_neg (fun z => by have := of_decide_eq_false h2; omega)] at this
        exact this
    · have h := of_decide_eq_false h
      (repeat fail "go")
      refine w_fnil own0 ?_
      (repeat fail "go")
      have := q H2 fm
      rw [if_neg (fun z => h z.1)] at this
      exact this
  refine ⟨fun h => ?_, fun h => ?_⟩
  · have h := of_decide_eq_true h
    (repeat fail "go")
    refine w_lenX (by omega) ?_
    (repeat fail "go")
    refine ⟨fun h2 => ?_, fun h2 => ?_⟩
    · (repeat fail "go")
      refine ⟨isl g, ?_⟩
      (repeat fail "go")
      refine w_index (ha.cut _ _) h g ?_
      (repeat fail "go")
      have := q H2 fm
      rw [if_pos ⟨h, by have := of_decide_eq_true h2; omega⟩] at this
      exact this
    · (repeat fail "go")
      exact step1 (fun z => by have := of_decide_eq_false h2; omega) _
  · have h := of_decide_eq_false h
    (repeat fail "go")
    exact step1 (fun z => h z.1) _
theorem w_sniL {l : List Nat} {c : Nat} {s : Str} (hs : s = tS l) (q : Q (.bl (!decide (c ∈ l))) H) : wE (sniD (tx [c]) (.str s) H) Q := by subst hs; exact w_sni q
theorem w_readAt {l : List Nat} (hl : l.length ≤ 4500) (ha : Asc l) : ∀ (f d p : Nat) (H : HD) (Q : D → HD → Prop), d < f → (∀ H', Fm [] H H' → Q (optD (lT l d p)) H') → wE (recF 3 6 b_law_read_at f [tx l, .int p, .int d] H) Q
  | 0, d, p, H, Q, hf, q => by omega
  | f + 1, d, p, H, Q, hf, q => by
    have ih := w_readAt hl ha f
    rw [recF]
    generalize recF 3 6 b_law_read_at f = F at ih
    refine w_run rfl ?_
    show wS (b_law_read_at F [some (tx l), some (.int p), some (.int d), none, none, none] H) _
    unfold b_law_read_at
    unfold lT at q
    (repeat fail "go")
    refine w_sls ?_
    (repeat fail "go")
    refine w_sg rfl rfl (by omega) ?_
    (repeat fail "go"); (refine WP.w_if ?_; (repeat fail "go"))
    unfold sg
    cases hc : l[p]? with
    | none =>
      rw [hc] at q
      refine w_eqL s_nil ?_
      (repeat fail "go")
      refine w_endRead hl ha fun H1 x1 => ?_
      (repeat fail "go")
      exact q H1 x1
    | some c =>
      rw [hc] at q
      dsimp only at q
      show wE (eqD (tx [c]) _ _) _
      refine w_eqL s_nil ?_
      (repeat fail "go")
      refine w_sniL s_yn ?_
      (repeat fail "go")
      refine ⟨fun h => ?_, fun h => ?_⟩
      · have hn : ¬ (c = 121 ∨ c = 110 ∨ c = 40) := by
          rw [Bool.not_eq_true', decide_eq_false_iff_not] at h
          simpa using h
        (repeat fail "go")
        refine w_endRead hl ha fun H1 x1 => ?_
        (repeat fail "go")
        have := q H1 x1
        rw [if_neg hn] at this
        exact this
      have hy : c = 121 ∨ c = 110 ∨ c = 40 := by
        rw [Bool.not_eq_false', decide_eq_true_iff] at h
        simpa using h
      rw [if_pos hy] at q
      (repeat fail "go")
      cases d with
      | zero =>
        dsimp only at q
        (refine WP.w_if ?_; (repeat fail "go"))
        exact q H Fm.refl
      | succ d =>
        dsimp only at q
        refine w_if ?_
        (repeat fail "go")
        rw [show (p : Int) + 1 = ((p + 1 : Nat) : Int) by omega, show ((d + 1 : Nat) : Int) - 1 = (d : Int) by omega]
        refine ih d (p + 1) _ _ (by omega) fun H1 x1 => ?_
        cases hr : lT l d (p + 1) with
        | none =>
          rw [hr] at q
          unfold optD
          (repeat fail "go"); (refine WP.w_if ?_; (repeat fail "go"))
          exact q H1 x1
        | some z =>
          obtain ⟨t, e⟩ := z
          rw [hr] at q
          dsimp only at q
          unfold optD
          (repeat fail "go"); (refine WP.w_if ?_; (repeat fail "go"))
          (repeat fail "go"); (refine WP.w_if ?_; (repeat fail "go"))
          show wE (neD (tx [c]) _ _) _
          refine w_neL s_open ?_
          (repeat fail "go")
          refine ⟨fun h => ?_, fun h => ?_⟩
          · have h40 : c ≠ 40 := fun z => by rw [z] at h; revert h; decide
            rw [if_neg h40] at q
            (repeat fail "go")
            show wE (eqD (tx [c]) _ _) _
            refine w_eqL s_y ?_
            (repeat fail "go")
            have e1 : decide ([c] = [121]) = decide (c = 121) := by simp
            rw [e1]
            exact q H1 x1
          have h40 : c = 40 := by
            rw [Bool.not_eq_false', decide_eq_true_iff] at h
            simpa using h
          rw [if_pos h40] at q
          (repeat fail "go"); (refine WP.w_if ?_; (repeat fail "go"))
          refine w_sls ?_
          (repeat fail "go")
          refine w_sg rfl rfl (by omega) ?_
          (repeat fail "go")
          refine w_neL s_bar ?_
          (repeat fail "go")
          refine ⟨fun h => ?_, fun h => ?_⟩
          · have h124 : l[e]? ≠ some 124 := fun z => by rw [sg_eq.mpr z] at h; revert h; simp
            rw [if_neg h124] at q
            (repeat fail "go")
            exact q H1 x1
          have h124 : l[e]? = some 124 := by
            rw [Bool.not_eq_false', decide_eq_true_iff] at h; exact sg_eq.mp h
          rw [if_pos h124] at q
          (repeat fail "go")
          rw [show (e : Int) + 1 = ((e + 1 : Nat) : Int) by omega, show ((d + 1 : Nat) : Int) - 1 = (d : Int) by omega]
          refine ih d (e + 1) _ _ (by omega) fun H2 x2 => ?_
          have y2 := x1.trans x2
          cases hr2 : lT l d (e + 1) with
          | none =>
            rw [hr2] at q
            unfold optD
            (repeat fail "go"); (refine WP.w_if ?_; (repeat fail "go"))
            exact q H2 y2
          | some z =>
            obtain ⟨u, e2⟩ := z
            rw [hr2] at q
            dsimp only at q
            unfold optD
            (repeat fail "go"); (refine WP.w_if ?_; (repeat fail "go"))
            refine w_sls ?_
            (repeat fail "go")
            refine w_sg rfl rfl (by omega) ?_
            (repeat fail "go")
            refine w_neL s_close ?_
            (repeat fail "go")
            refine ⟨fun h => ?_, fun h => ?_⟩
            · (repeat fail "go")
              have h41 : l[e2]? ≠ some 41 := fun z => by rw [sg_eq.mpr z] at h; revert h; simp
              rw [if_neg h41] at q
              exact q H2 y2
            have h41 : l[e2]? = some 41 := by
              rw [Bool.not_eq_false', decide_eq_true_iff] at h; exact sg_eq.mp h
            rw [if_pos h41] at q
            (repeat fail "go")
            exact q H2 y2
theorem w_lawRead {l : List Nat} (hl : l.length ≤ 4500) (ha : Asc l) (q : ∀ H', Fm [] H H' → Q (match readL l with | some t => t.d | none => .non) H') : wE (m_law_read [tx l] H) Q := by
  refine w_run rfl ?_
  show wS (b_law_read [some (tx l), none] H) _
  unfold b_law_read
  (repeat fail "go")
  refine w_readAt hl ha 10 8 0 H _ (by omega) fun H1 x1 => ?_
  have q1 := q H1 x1
  unfold readL at q1
  cases hr : lT l 8 0 with
  | none =>
    rw [hr] at q1
    unfold optD
    (repeat fail "go"); (refine WP.w_if ?_; (repeat fail "go"))
    exact q1
  | some z =>
    obtain ⟨t, e⟩ := z
    rw [hr] at q1
    dsimp only at q1
    unfold optD
    (repeat fail "go"); (refine WP.w_if ?_; (repeat fail "go"))
    refine w_lenX (by omega) ?_
    refine w_neI ?_
    (repeat fail "go")
    refine ⟨fun h => ?_, fun h => ?_⟩
    · (repeat fail "go")
      rw [if_neg (fun z => by rw [z] at h; simp at h)] at q1
      exact q1
    · (repeat fail "go")
      have : e = l.length := by
        rw [Bool.not_eq_false', beq_iff_eq] at h; omega
      rw [if_pos this] at q1
      exact q1
theorem w_same : ∀ (t : Tr) (f : Nat) (H : HD) (Q : D → HD → Prop), t.dep < f → (∀ H', Fm [] H H' → Q (.bl true) H') → wE (recF 2 2 b_law_same f [t.d, t.d] H) Q := by
  have ends : ∀ (ds : List D) (xs : List PyData) (H : HD) (Q : D → HD → Prop) (σ : SD), Fines ds xs 0 → ds.length ≤ 100 → (∀ d ∈ ds, ∃ c, tyD d H = some c ∧ c ≠ "bool") → (∀ H', Fm [] H H' → Q (.bl true) H') →
      wA (compL [] σ tYes (eCB isiD (aCons (eVar 0) (aCons (eC (.ty "bool")) aNil))) ds H) (fun ds H2 => ds.length ≤ 1000000 ∧ wE (niD (.bl true) (.ref H2.length) (H2 ++ [.lst ds])) Q) := by
    intro ds xs H Q σ hf hl ht q
    refine w_cmap (fun _ => .bl false) (fun H' => H' = H) (fun _ _ => own0) _ (fun x hx H1 j => ?_) _ rfl fun H1 j => ?_
    · subst j
      obtain ⟨c, e1, e2⟩ := ht x hx
      (repeat fail "go")
      refine w_isi rfl e1 ?_
      refine ⟨?_, rfl⟩
      have : (c == "bool" || (c == "bool" && "bool" == "int")) = false := by simp [e2]
      rw [this]
    subst j
    have e : ds.map (fun _ => D.bl false) = (ds.map fun _ => false).map .bl := by rw [List.map_map]; rfl
    rw [e]
    refine ⟨by simp; omega, ?_⟩
    have fb : ∀ bs : List Bool, Fines (bs.map .bl) (bs.map .bool) 0 := by
      intro bs
      induction bs with
      | nil => exact .nil
      | cons b r ih => exact .cons (.bl b) ih
    refine w_niL (.bl true) (fb _) (by omega) (by omega) last ?_
    have ea : (((ds.map fun _ => false).map PyData.bool).any fun z => PyData.eqv z (.bool true)) = false := by
      rw [List.any_eq_false]
      intro z hz
      obtain ⟨b, hb, rfl⟩ := List.mem_map.mp hz
      obtain ⟨_, _, rfl⟩ := List.mem_map.mp hb
      simp [PyData.eqv]
    rw [ea]
    exact q _ (Fm.app _)
  have kl : ∀ (s : Str), PyData.strOk s = true → Fines [D.str "kept", D.str "lost"] [.str "kept", .str "lost"] 0 := fun s h => .cons (.str (by decide +kernel)) (.cons (.str (by decide +kernel)) .nil)
  intro t
  induction t with
  | kept =>
    intro f H Q hf q
    obtain ⟨f, rfl⟩ : ∃ f', f = f' + 1 := ⟨f - 1, by omega⟩
    rw [recF]
    generalize recF 2 2 b_law_same f = F
    refine w_run rfl ?_
    show wS (b_law_same F [some (.tup [.str "kept"]), some (.tup [.str "kept"])] H) _
    unfold b_law_same
    (repeat fail "go"); (refine WP.w_if ?_; (repeat fail "go"))
    (repeat fail "go"); (refine WP.w_if ?_; (repeat fail "go"))
    (repeat fail "go"); (refine WP.w_if ?_; (repeat fail "go"))
    (repeat fail "go"); (refine WP.w_if ?_; (repeat fail "go"))
    refine w_inT (.str (by decide +kernel)) (kl "kept" (by decide +kernel)) (by omega) (by omega) ?_
    refine w_bl ?_
    refine w_bT (by decide +kernel) ?_
    (repeat fail "go")
    refine w_eqSame (Fine.tup (.cons (.str (by decide +kernel)) .nil)) (by omega) ?_
    (repeat fail "go")
    refine ends [.str "kept"] [.str "kept"] H _ _ (.cons (.str (by decide +kernel)) .nil) (by simp) (fun d hd => ?_) fun H1 x1 => ?_
    · simp at hd; subst hd; exact ⟨"str", rfl, by decide⟩
    · (repeat fail "go")
      exact q H1 x1
  | lost n =>
    intro f H Q hf q
    obtain ⟨f, rfl⟩ : ∃ f', f = f' + 1 := ⟨f - 1, by omega⟩
    rw [recF]
    generalize recF 2 2 b_law_same f = F
    refine w_run rfl ?_
    show wS (b_law_same F [some (.tup [.str "lost", .int n]), some (.tup [.str "lost", .int n])] H) _
    unfold b_law_same
    (repeat fail "go"); (refine WP.w_if ?_; (repeat fail "go"))
    (repeat fail "go"); (refine WP.w_if ?_; (repeat fail "go"))
    (repeat fail "go"); (refine WP.w_if ?_; (repeat fail "go"))
    (repeat fail "go"); (refine WP.w_if ?_; (repeat fail "go"))
    refine w_inT (.str (by decide +kernel)) (kl "lost" (by decide +kernel)) (by omega) (by omega) ?_
    refine w_bl ?_
    refine w_bT (by decide +kernel) ?_
    (repeat fail "go")
    refine w_eqSame (Fine.tup (.cons (.str (by decide +kernel)) (.cons (.int n) .nil))) (by omega) ?_
    (repeat fail "go")
    refine ends [.str "lost", .int n] [.str "lost", .int n] H _ _ (.cons (.str (by decide +kernel)) (.cons (.int n) .nil)) (by simp) (fun d hd => ?_) fun H1 x1 => ?_
    · simp at hd
      rcases hd with rfl | rfl
      · exact ⟨"str", rfl, by decide⟩
      · exact ⟨"int", rfl, by decide⟩
    · (repeat fail "go")
      exact q H1 x1
  | pick b t ih =>
    intro f H Q hf q
    have hf : t.dep + 1 < f := hf
    obtain ⟨f, rfl⟩ : ∃ f', f = f' + 1 := ⟨f - 1, by omega⟩
    rw [recF]
    have ih := ih f
    generalize recF 2 2 b_law_same f = F at ih
    refine w_run rfl ?_
    show wS (b_law_same F [some (.tup [.str "pick", .bl b, t.d]), some (.tup [.str "pick", .bl b, t.d])] H) _
    unfold b_law_same
    (repeat fail "go"); (refine WP.w_if ?_; (repeat fail "go"))
    (repeat fail "go"); (refine WP.w_if ?_; (repeat fail "go"))
    (repeat fail "go"); (refine WP.w_if ?_; (repeat fail "go"))
    (repeat fail "go"); (refine WP.w_if ?_; (repeat fail "go"))
    refine w_inT (.str (by decide +kernel)) (kl "lost" (by decide +kernel)) (by omega) (by omega) ?_
    refine w_bl ?_
    refine w_bF (by decide +kernel) ?_
    (repeat fail "go"); (refine WP.w_if ?_; (repeat fail "go"))
    refine w_eqSame (.bl b) (by omega) ?_
    (repeat fail "go")
    refine ih H _ (by omega) fun H1 x1 => ?_
    (repeat fail "go")
    exact q H1 x1
  | each t u ih1 ih2 =>
    intro f H Q hf q
    have hf : max t.dep u.dep + 1 < f := hf
    obtain ⟨f, rfl⟩ : ∃ f', f = f' + 1 := ⟨f - 1, by omega⟩
    rw [recF]
    have ih1 := ih1 f
    have ih2 := ih2 f
    generalize recF 2 2 b_law_same f = F at ih1 ih2
    refine w_run rfl ?_
    show wS (b_law_same F [some (.tup [.str "each", t.d, u.d]), some (.tup [.str "each", t.d, u.d])] H) _
    unfold b_law_same
    (repeat fail "go"); (refine WP.w_if ?_; (repeat fail "go"))
    (repeat fail "go"); (refine WP.w_if ?_; (repeat fail "go"))
    (repeat fail "go"); (refine WP.w_if ?_; (repeat fail "go"))
    (repeat fail "go"); (refine WP.w_if ?_; (repeat fail "go"))
    refine w_inT (.str (by decide +kernel)) (kl "lost" (by decide +kernel)) (by omega) (by omega) ?_
    refine w_bl ?_
    refine w_bF (by decide +kernel) ?_
    (repeat fail "go"); (refine WP.w_if ?_; (repeat fail "go"))
    refine ih1 H _ (by omega) fun H1 x1 => ?_
    (repeat fail "go")
    refine ih2 H1 _ (by omega) fun H2 x2 => ?_
    (repeat fail "go")
    exact q H2 (x1.trans x2)
noncomputable def oD : Option Tr → D
  | some t => t.d
  | none => .non
theorem w_sameO {o : Option Tr} (hd : ∀ t, o = some t → t.dep ≤ 9) (q : ∀ H', Fm [] H H' → Q (.bl true) H') : wE (m_law_same [oD o, oD o] H) Q := by
  cases o with
  | some t => exact w_same t 10 H Q (by have := hd t rfl; omega) q
  | none =>
    show wE (recF 2 2 b_law_same 10 [.non, .non] H) Q
    rw [recF]
    generalize recF 2 2 b_law_same 9 = F
    refine w_run rfl ?_
    show wS (b_law_same F [some .non, some .non] H) _
    unfold b_law_same
    (repeat fail "go"); (refine WP.w_if ?_; (repeat fail "go"))
    exact q H Fm.refl
theorem str_tx (s : Str) : D.str s = tx s.cps.toList := by
  unfold tx tS
  simp
theorem w_sixS {s : Str} {i : Int} (h0 : 0 ≤ i) (h1 : i < s.length) (hl : s.length ≤ 100000) (q : ∀ c ∈ s.cps.toList, Q (tx [c]) H) : wE (sixD (.str s) (.int i) H) Q := by
  rw [str_tx]
  have lt : i.toNat < s.cps.toList.length := by
    rw [Array.length_toList]; show i.toNat < s.length; omega
  refine w_six (i := i.toNat) (c := s.cps.toList[i.toNat]) (by omega) (List.getElem?_eq_getElem lt) ?_ (q _ (List.getElem_mem lt))
  rw [Array.length_toList]; exact hl
theorem w_lenS {s : Str} (hl : s.length ≤ 100000) (q : Q (.int s.length) H) : wE (lenD [.str s] H) Q :=
  ⟨_, _, by unfold lenD; dsimp only; rw [if_pos (by rw [PySem.sizeLine_eq]; omega)], q⟩
theorem w_addS {a b : Str} (hl : a.length + b.length ≤ 100000) (q : Q (.str (a ++ b)) H) : wE (addD (.str a) (.str b) H) Q :=
  ⟨_, _, by unfold addD; dsimp only; rw [if_pos (by rw [PySem.sizeLine_eq]; omega)], q⟩
theorem Asc.app {a b : List Nat} (h : Asc a) (k : Asc b) : Asc (a ++ b) := fun c hc => by
  rcases List.mem_append.mp hc with z | z
  · exact h c z
  · exact k c z
theorem Asc.take {a : List Nat} (h : Asc a) (n : Nat) : Asc (a.take n) := fun c hc => h c (List.mem_of_mem_take hc)
theorem Asc.drop {a : List Nat} (h : Asc a) (n : Nat) : Asc (a.drop n) := fun c hc => h c (List.mem_of_mem_drop hc)
theorem w_bentT {l : List Nat} {p : Nat} {ds : List Int} (hl : l.length ≤ 4400) (ha : Asc l) (g : H[p]? = some (.lst (ds.map .int))) (hd : Digs ds) (h4 : 4 ≤ ds.length) (q : ∀ l', l'.length ≤ l.length + 1 → Asc l' → Q (tx l') H) : wE (m_law_bent [tx l, .ref p] H) Q := by
  refine w_run rfl ?_
  show wS (b_law_bent [some (tx l), some (.ref p), none, none, none] H) _
  unfold b_law_bent
  (repeat fail "go")
  refine w_cut (fun σ H' => H' = H ∧ ∃ s : Str, σ = [some (tx l), some (.ref p), some (.str s), none, none] ∧ Asc s.cps.toList ∧ 0 < s.length ∧ s.length ≤ 200) ?_ ?_
  · (refine WP.w_if ?_; (repeat fail "go"))
    refine w_dig g hd (by omega) (by omega) fun r r0 r1 => ?_
    (repeat fail "go")
    refine ⟨fun h => ?_, fun h => ?_⟩
    · (repeat fail "go")
      refine w_addS (by decide +kernel) ?_
      (repeat fail "go")
      exact ⟨rfl, rfl, _, rfl, by unfold Asc; decide +kernel, by decide +kernel, by decide +kernel⟩
    · (repeat fail "go")
      exact ⟨rfl, rfl, _, rfl, by unfold Asc; decide +kernel, by decide +kernel, by decide +kernel⟩
  rintro σ H1 ⟨rfl, s, rfl, hs, s0, s1⟩
  (repeat fail "go")
  refine w_dig g hd (by omega) (by omega) fun r r0 r1 => ?_
  (repeat fail "go")
  refine w_lenS (by omega) ?_
  refine w_mod (by omega) ?_
  have m0 := Int.emod_nonneg r (show (s.length : Int) ≠ 0 by omega)
  have m1 := Int.emod_lt_of_pos r (show (0 : Int) < s.length by omega)
  refine w_sixS m0 m1 (by omega) fun c hc => ?_
  have ac : Asc [c] := fun x hx => by simp at hx; subst hx; exact hs _ hc
  (repeat fail "go")
  refine w_dig g hd (by omega) (by omega) fun u u0 u1 => ?_
  (repeat fail "go")
  refine w_lenX (by omega) ?_
  (repeat fail "go")
  refine w_mod (by omega) ?_
  have n0 := Int.emod_nonneg u (show (l.length : Int) + 1 ≠ 0 by omega)
  have n1 := Int.emod_lt_of_pos u (show (0 : Int) < (l.length : Int) + 1 by omega)
  obtain ⟨k, hk⟩ : ∃ k : Nat, u % ((l.length : Int) + 1) = k := ⟨(u % ((l.length : Int) + 1)).toNat, by omega⟩
  rw [hk] at n0 n1 ⊢
  (repeat fail "go"); (refine WP.w_if ?_; (repeat fail "go"))
  refine w_dig g hd (by omega) (by omega) fun v v0 v1 => ?_
  (repeat fail "go")
  refine ⟨fun h => ?_, fun h => ?_⟩
  · (repeat fail "go")
    refine w_sls ?_
    (repeat fail "go")
    refine w_cutHi rfl (by omega) ?_
    (repeat fail "go")
    refine w_addX (by simp; omega) ?_
    (repeat fail "go")
    refine w_sls ?_
    (repeat fail "go")
    refine w_cutLo rfl (by omega) ?_
    refine w_addX (by simp; omega) ?_
    (repeat fail "go")
    exact q _ (by simp; omega) (((ha.take _).app ac).app (ha.drop _))
  (repeat fail "go"); (refine WP.w_if ?_; (repeat fail "go"))
  refine w_dig g hd (by omega) (by omega) fun v' v0' v1' => ?_
  (repeat fail "go")
  refine ⟨fun h => ?_, fun h => ?_⟩
  · (repeat fail "go")
    refine w_sls ?_
    (repeat fail "go")
    refine w_cutHi rfl (by omega) ?_
    (repeat fail "go")
    refine w_sls ?_
    (repeat fail "go")
    refine w_cutLo (i := k + 1) (by omega) (by omega) ?_
    refine w_addX (by simp; omega) ?_
    (repeat fail "go")
    exact q _ (by simp; omega) ((ha.take _).app (ha.drop _))
  · (repeat fail "go")
    refine w_sls ?_
    (repeat fail "go")
    refine w_cutHi rfl (by omega) ?_
    (repeat fail "go")
    refine w_addX (by simp; omega) ?_
    (repeat fail "go")
    refine w_sls ?_
    (repeat fail "go")
    refine w_cutLo (i := k + 1) (by omega) (by omega) ?_
    refine w_addX (by simp; omega) ?_
    (repeat fail "go")
    exact q _ (by simp; omega) (((ha.take _).app ac).app (ha.drop _))
theorem w_popI {p k : Nat} {xs : List Int} (g : H[p]? = some (.lst (xs.map .int))) (hk : k < xs.length) (hl : xs.length ≤ 1000) (q : Q (.int xs[k]) (H.set p (.lst ((xs.eraseIdx k).map .int)))) : wE (popD (.ref p) [.int k] H) Q := by
  refine ⟨_, _, ?_, q⟩
  unfold popD
  simp only [g]
  rw [if_pos ⟨by omega, by omega⟩]
  have e : seqIndex? (k : Int) (xs.map D.int).length = some k := by
    unfold seqIndex?
    rw [List.length_map]
    simp only [show ¬ ((k : Int) < 0) by omega, if_false]
    rw [if_pos (by simp; omega)]
    simp
  rw [e]
  have e2 : (xs.map D.int).eraseIdx k = (xs.eraseIdx k).map D.int := by
    rw [List.eraseIdx_eq_take_drop_succ, List.eraseIdx_eq_take_drop_succ, List.map_append, List.map_take, List.map_drop]
  simp [hk, e2]
theorem w_treeD : ∀ (f d : Nat) (p : Nat) (xs : List Int) (H : HD) (Q : D → HD → Prop), d < f → d ≤ 8 → H[p]? = some (.lst (xs.map .int)) → 0 < xs.length → xs.length ≤ 60 →
    (∀ (t : Tr) (ys : List Int) H', t.dep ≤ d → t.ok 20 → H'[p]? = some (.lst (ys.map .int)) → ys.length = xs.length → Fm [p] H H' → Q t.d H') → wE (recF 2 3 b_law_tree f [.ref p, .int d] H) Q
  | 0, d, p, xs, H, Q, hf, _, _, _, _, _ => by omega
  | f + 1, d, p, xs, H, Q, hf, hd, g, h0, h60, q => by
    have ih := w_treeD f
    rw [recF]
    generalize recF 2 3 b_law_tree f = F at ih
    refine w_run rfl ?_
    show wS (b_law_tree F [some (.ref p), some (.int d), none] H) _
    unfold b_law_tree
    (repeat fail "go")
    refine ⟨isl g, ?_⟩
    (repeat fail "go")
    refine w_popI (k := 0) g h0 (by omega) ?_
    generalize xs[0] = one
    have g1 := setS (o := DO.lst ((xs.eraseIdx 0).map .int)) g
    have lx : (xs.eraseIdx 0).length + 1 = xs.length := by rw [List.length_eraseIdx_of_lt h0]; omega
    generalize xs.eraseIdx 0 = rs at g1 lx
    generalize eH : H.set p (DO.lst (rs.map .int)) = H1 at g1
    have x1 : Fm [p] H H1 := by rw [← eH]; exact Fm.set (by simp)
    (repeat fail "go")
    refine ⟨isl g1, ?_⟩
    (repeat fail "go")
    refine w_app g1 (by simp; omega) ?_
    have g2 : (H1.set p (.lst (rs.map .int ++ [.int (one / 3 + 1)])))[p]? = some (.lst ((rs ++ [one / 3 + 1]).map .int)) := by rw [setS g1]; simp
    have x2 : Fm [p] H (H1.set p (.lst (rs.map .int ++ [.int (one / 3 + 1)]))) := x1.trans (Fm.set (by simp))
    have l2 : (rs ++ [one / 3 + 1]).length = xs.length := by simp; omega
    generalize H1.set p (.lst (rs.map .int ++ [.int (one / 3 + 1)])) = H2 at g2 x2
    generalize rs ++ [one / 3 + 1] = ys at g2 l2
    have leaf : ∀ σ R, (∀ (t : Tr) H', t.dep = 0 → t.ok 20 → Fm [p] H H' → H'[p]? = some (.lst (ys.map .int)) → R (.rt t.d) [some (.ref p), some (.int d), some (.int one)] H') → σ = [some (D.ref p), some (D.int d), some (D.int one)] →
        wS (sSeq (sRet (eOp ixD (eLst (aCons (eTup (aCons (eC (.str "kept")) aNil)) (aCons (eTup (aCons (eC (.str "lost")) (aCons (eOp modD (eOp fdivD (eVar 2) (eC (.int 5))) (eC (.int 20))) aNil))) aNil))) (eOp modD (eOp fdivD (eVar 2) (eC (.int 100))) (eC (.int 2))))) sNil σ H2) R := by
      rintro σ R qr rfl
      (repeat fail "go")
      have m2 : one / 100 % 2 = 0 ∨ one / 100 % 2 = 1 := by omega
      have xx : Fm [p] H (H2 ++ [DO.lst [D.tup [D.str "kept"], D.tup [D.str "lost", D.int (one / 5 % 20)]]]) := x2.trans (Fm.app _)
      rcases m2 with z | z
      · rw [z]
        refine w_ixR last (d := Tr.kept.d) rfl ?_
        (repeat fail "go")
        exact qr .kept _ rfl trivial xx (appL g2)
      · rw [z]
        have e : D.int (one / 5 % 20) = D.int ((one / 5 % 20).toNat : Nat) := by rw [Int.toNat_of_nonneg (by omega)]
        refine w_ixR last (d := (Tr.lost (one / 5 % 20).toNat).d) (by rw [e]; rfl) ?_
        (repeat fail "go")
        exact qr (.lost _) _ rfl (by show (one / 5 % 20).toNat < 20; omega) xx (appL g2)
    (repeat fail "go"); (refine WP.w_if ?_; (repeat fail "go"))
    refine ⟨fun h => ?_, fun h => ?_⟩
    · refine w_bt (leaf _ _ (fun t H' d0 ok x gg => ?_) rfl)
      (repeat fail "go")
      exact q t ys H' (by omega) ok gg l2 x
    have hd0 : d ≠ 0 := fun z => by rw [z] at h; revert h; decide
    (repeat fail "go")
    refine w_bF (decide_eq_false (by simp; omega)) ?_
    (repeat fail "go")
    refine ⟨fun h => ?_, fun h => ?_⟩
    · refine leaf _ _ (fun t H' d0 ok x gg => ?_) rfl
      (repeat fail "go")
      exact q t ys H' (by omega) ok gg l2 x
    obtain ⟨d, rfl⟩ : ∃ d', d = d' + 1 := ⟨d - 1, by omega⟩
    (repeat fail "go"); (refine WP.w_if ?_; (repeat fail "go"))
    refine ⟨fun h => ?_, fun h => ?_⟩
    · (repeat fail "go")
      rw [show ((d + 1 : Nat) : Int) - 1 = (d : Int) by omega]
      refine ih d p ys H2 _ (by omega) (by omega) g2 (by omega) (by omega) fun t zs H3 dt ok g3 l3 x3 => ?_
      (repeat fail "go")
      exact q (.pick _ t) zs H3 (Nat.succ_le_succ dt) ok g3 (by omega) (x2.trans x3)
    · (repeat fail "go")
      have hm : (0 : Int) < (if (3 : Int) < ((d + 1 : Nat) : Int) then 3 else ((d + 1 : Nat) : Int)) := by split <;> omega
      refine w_mod hm ?_
      have a0 := Int.emod_nonneg (one / 5) (show (if (3 : Int) < ((d + 1 : Nat) : Int) then 3 else ((d + 1 : Nat) : Int)) ≠ 0 by omega)
      have a1 := Int.emod_lt_of_pos (one / 5) hm
      have a2 : (if (3 : Int) < ((d + 1 : Nat) : Int) then 3 else ((d + 1 : Nat) : Int)) ≤ ((d + 1 : Nat) : Int) := by split <;> omega
      (repeat fail "go")
      obtain ⟨e, he⟩ : ∃ e : Nat, ((d + 1 : Nat) : Int) - 1 - one / 5 % (if (3 : Int) < ((d + 1 : Nat) : Int) then 3 else ((d + 1 : Nat) : Int)) = e := ⟨(((d + 1 : Nat) : Int) - 1 - one / 5 % (if (3 : Int) < ((d + 1 : Nat) : Int) then 3 else ((d + 1 : Nat) : Int))).toNat, by omega⟩
      rw [he]
      refine ih e p ys H2 _ (by omega) (by omega) g2 (by omega) (by omega) fun t zs H3 dt ok g3 l3 x3 => ?_
      (repeat fail "go")
      rw [show ((d + 1 : Nat) : Int) - 1 = (d : Int) by omega]
      refine ih d p zs H3 _ (by omega) (by omega) g3 (by omega) (by omega) fun u ws H4 du oku g4 l4 x4 => ?_
      (repeat fail "go")
      exact q (.each t u) ws H4 (Nat.succ_le_succ (Nat.max_le.mpr ⟨by omega, du⟩)) ⟨ok, oku⟩ g4 (by omega) ((x2.trans x3).trans x4)
theorem asc_txt : ∀ t : Tr, Asc t.txt
  | .kept => fun c hc => by have : c = 43 := by simpa [Tr.txt] using hc
                            omega
  | .lost n => asc_figs n
  | .pick b t => fun c hc => by
    have hc : c ∈ (if b then 121 else 110) :: t.txt := hc
    rcases List.mem_cons.mp hc with z | z
    · cases b <;> simp at z <;> omega
    · exact asc_txt t c z
  | .each t u => fun c hc => by
    have hc : c ∈ 40 :: (t.txt ++ 124 :: (u.txt ++ [41])) := hc
    rcases List.mem_cons.mp hc with z | z
    · omega
    rcases List.mem_append.mp z with z | z
    · exact asc_txt t c z
    rcases List.mem_cons.mp z with z | z
    · omega
    rcases List.mem_append.mp z with z | z
    · exact asc_txt u c z
    · simp at z; omega
noncomputable def OkX (d : D) : Prop := ∃ l, d = tx l ∧ l.length ≤ 4500 ∧ Asc l
noncomputable def okS (s : Str) : Bool := decide (s.length ≤ 4500) && s.cps.toList.all (· < 128)
theorem okX_lit {s : Str} (h : okS s = true) : OkX (.str s) := by
  unfold okS at h
  rw [Bool.and_eq_true, decide_eq_true_iff, List.all_eq_true] at h
  exact ⟨s.cps.toList, str_tx s, by rw [Array.length_toList]; exact h.1, fun c hc => of_decide_eq_true (h.2 c hc)⟩
theorem w_both {l : List Nat} (hl : l.length ≤ 4500) (ha : Asc l) {σ : SD} {i : Nat} (hi : (σ[i]?).join = some (tx l)) {Q : Bool → HD → Prop} (q : ∀ H', Fm [] H H' → Q false H') :
    wT (tNo (tTru (eCall 2 m_law_same (aCons (eCall 1 m_read_tree (aCons (eVar i) aNil)) (aCons (eCall 1 m_law_read (aCons (eVar i) aNil)) aNil)))) σ H) Q := by
  refine w_no (w_ttru (w_call (w_acons (w_call (w_acons (w_var hi (w_anil (w_n rfl ?_))))))))
  refine w_readTree hl fun H1 x1 => ?_
  refine w_acons (w_call (w_acons (w_var hi (w_anil (w_n rfl ?_)))))
  refine w_lawRead hl ha fun H2 x2 => ?_
  refine w_anil (w_n rfl ?_)
  rw [← read_eq]
  cases hr : readP l with
  | none =>
    refine w_sameO (o := none) (fun t ht => by cases ht) fun H3 x3 => ?_
    exact ⟨true, rfl, q H3 ((x1.trans x2).trans x3)⟩
  | some t =>
    refine w_sameO (o := some t) (fun t' ht => ?_) fun H3 x3 => ?_
    · cases ht
      unfold readP at hr
      split at hr
      · rename_i t' e' h'
        split at hr
        · cases hr
          have := (pT_dep l 8 0 _ _ h').1
          omega
        · cases hr
      · cases hr
    · exact ⟨true, rfl, q H3 ((x1.trans x2).trans x3)⟩
theorem w_written {t : Tr} (hd : t.dep ≤ 8) (hk : t.ok 20) {σ : SD} (h4 : (σ[4]?).join = some t.d) (h5 : (σ[5]?).join = some (tx t.txt)) {Q : Bool → HD → Prop} (q : ∀ H', Fm [] H H' → Q false H') :
    wT (tOrr (tOf (eOp neD (eCall 1 m_show_tree (aCons (eVar 4) aNil)) (eVar 5))) (tNo (tTru (eCall 2 m_law_same (aCons (eCall 1 m_read_tree (aCons (eVar 5) aNil)) (aCons (eVar 4) aNil))))) σ H) Q := by
  have hk3 : t.ok 1000 := hk.mono (by omega)
  have sm := txt_small hk3 (by omega)
  refine w_or (w_tof (w_op (w_call (w_acons (w_var h4 (w_anil (w_n rfl ?_)))))))
  refine w_showTree t 10 H _ (by omega) (by omega) hk3 ?_
  refine w_var h5 ?_
  refine w_neX ?_
  refine w_bl ?_
  refine w_bF (by simp) ?_
  refine w_no (w_ttru (w_call (w_acons (w_call (w_acons (w_var h5 (w_anil (w_n rfl ?_))))))))
  refine w_readTree (by omega) fun H1 x1 => ?_
  rw [read_txt hd hk]
  refine w_acons (w_var h4 (w_anil (w_n rfl ?_)))
  refine w_same t 10 H1 _ (by omega) fun H2 x2 => ?_
  exact ⟨true, rfl, q H2 (x1.trans x2)⟩
theorem plan_tr {ks : List D} {rss : List (List Int)} {side : Bool} (hr : rss.length ≤ 20) {bs : List Bool} {x : D} (p : PlanD ks rss side bs x) : ∃ t : Tr, x = t.d ∧ t.dep ≤ ks.length - bs.length ∧ t.ok 20 := by
  induction p with
  | kept _ _ => exact ⟨.kept, rfl, Nat.zero_le _, trivial⟩
  | lost _ h _ _ =>
    have lt := (List.getElem?_eq_some_iff.mp h).1
    exact ⟨.lost _, rfl, Nat.zero_le _, Nat.lt_of_lt_of_le lt hr⟩
  | pick h _ _ ih =>
    obtain ⟨t, rfl, h1, h2⟩ := ih
    rename_i b _ _ _
    refine ⟨.pick _ t, rfl, ?_, h2⟩
    simp at h1
    show t.dep + 1 ≤ _
    omega
  | each h _ _ _ ih1 ih2 =>
    obtain ⟨t, rfl, h1, h2⟩ := ih1
    obtain ⟨u, rfl, k1, k2⟩ := ih2
    refine ⟨.each t u, rfl, ?_, h2, k2⟩
    simp at h1 k1
    show max t.dep u.dep + 1 ≤ _
    omega
theorem cut_ints (ns : List Int) (lo hi : Option Int) : ∃ cs : List Int, cutD (ns.map .int) lo hi = cs.map .int ∧ (∀ c ∈ cs, c ∈ ns) ∧ cs.length ≤ ns.length := by
  unfold cutD
  refine ⟨(ns.drop (HT.sIx (ns.map D.int).length 0 lo)).take (HT.sIx (ns.map D.int).length (ns.map D.int).length hi - HT.sIx (ns.map D.int).length 0 lo), by rw [← List.map_drop, ← List.map_take], fun c hc => List.mem_of_mem_drop (List.mem_of_mem_take hc), by simp; omega⟩
theorem w_list {n : Nat} {xs : List D} (g : H[n]? = some (.lst xs)) (q : Q (.ref H.length) (H ++ [.lst xs])) : wE (listD [.ref n] H) Q := ⟨_, _, by simp [listD, seqD, g], q⟩
theorem w_slHi {p : Nat} {xs : List D} {k : Nat} (g : H[p]? = some (.lst xs)) (q : Q (.ref H.length) (H ++ [.lst (xs.take k)])) : wE (slD (.ref p) none (some (k : Int)) H) Q := by
  have := slhi (xs := xs) (k := k) (H := H)
  have e : cutD xs none (some (k : Int)) = xs.take k := by
    have z : slD (.tup xs) none (some (k : Int)) H = some (.tup (cutD xs none (some (k : Int))), H) := rfl
    rw [this] at z
    have := (Prod.mk.inj (Option.some.inj z)).1
    injection this with this
    exact this.symm
  exact ⟨_, _, by simp only [slD, g]; rw [e], q⟩
theorem w_addLL {p r : Nat} {xs ys : List D} (g1 : H[p]? = some (.lst xs)) (g2 : H[r]? = some (.lst ys)) (h : xs.length + ys.length ≤ 1000000) (q : Q (.ref H.length) (H ++ [.lst (xs ++ ys)])) : wE (addD (.ref p) (.ref r) H) Q := by
  refine ⟨_, _, ?_, q⟩
  simp only [addD, g1, g2]
  exact if_pos (size_ok (by rw [List.length_append]; exact h))
theorem w_smulS {s : Str} {l : List Nat} {n : Nat} (hs : s = tS l) (h1 : 1 < n) (h0 : 0 < l.length) (h2 : l.length * n ≤ 4400) (ha : Asc l) (q : ∀ m : List Nat, m.length = l.length * n → Asc m → Q (tx m) H) : wE (smulD (.str s) (.int n) H) Q := by
  subst hs
  exact w_smul h1 h0 (by omega) fun m hm hc => q m hm fun c z => ha c (hc c z)
variable {H : HD} {Q : D → HD → Prop}
theorem Digs.take {ds : List Int} (h : Digs ds) (k : Nat) : Digs (ds.take k) := fun d hd => h d (List.mem_of_mem_take hd)
theorem s_tail : ("|y0)" : Str) = tS [124, 121, 48, 41] := by decide
theorem s_1 : ("1" : Str) = tS [49] := by decide
theorem s_bpc : ("|+)" : Str) = tS [124, 43, 41] := by decide
theorem asc1 {c : Nat} (h : c < 128) : Asc [c] := fun x hx => by simp at hx; omega
theorem w_texts {xs : List D} {p : Nat} {a0 a1 a2 a3 a4 z5 a6 a7 a8 : Option D} (g : H[p]? = some (.lst xs)) (hx : ∀ x ∈ xs, OkX x) {R : FD → SD → HD → Prop} (q : ∀ σ H', R .nx σ H') :
    wS (forL [(p, .lst xs)] (gNm 5) (sSeq (sIf (tNo (tTru (eCall 2 m_law_same (aCons (eCall 1 m_read_tree (aCons (eVar 5) aNil)) (aCons (eCall 1 m_law_read (aCons (eVar 5) aNil)) aNil))))) (sSeq (sRet (eC (.bl false))) sNil) sNil) sNil) xs [a0, a1, a2, a3, a4, z5, a6, a7, a8] H) R := by
  refine w_each (fun σ H' => H'[p]? = some (.lst xs) ∧ ∃ z5, σ = [a0, a1, a2, a3, a4, z5, a6, a7, a8]) (fun _ _ j => own1 j.1) _ (fun x hxm σ H2 ⟨g2, z5, e⟩ => ?_) _ _ ⟨g, z5, rfl⟩ (fun σ H2 _ => q σ H2)
  obtain ⟨l, rfl, hl, ha⟩ := hx x hxm
  subst e
  (repeat fail "go")
  refine w_if ?_
  refine w_both hl ha rfl fun H3 x3 => ?_
  (repeat fail "go")
  exact ⟨x3.lst (by simp) g2, _, rfl⟩
theorem pure_law : ∀ ns : List Int, ns.length ≤ 63 → ∃ Hd', m_law [.fl (ns.map .int)] [] = some (.bl true, Hd') := by
  intro ns hn
  suffices h : wE (m_law [.fl (ns.map .int)] []) fun d _ => d = .bl true by
    obtain ⟨d, H, e, rfl⟩ := h; exact ⟨H, e⟩
  refine w_run rfl ?_
  show wS (b_law [some (.fl (ns.map .int)), none, none, none, none, none, none, none, none] []) _
  unfold b_law
  (repeat fail "go")
  obtain ⟨cs, ec, _, lc⟩ := cut_ints ns none (some 12)
  refine ⟨.ref 0, [.lst (cs.map .int)], by show some (D.ref 0, [DO.lst (cutD (ns.map D.int) none (some 12))]) = _; rw [ec], ?_⟩
  (repeat fail "go")
  refine w_list (xs := cs.map .int) rfl ?_
  (repeat fail "go")
  refine w_cut (fun σ H' => ∃ p cs, H'[p]? = some (.lst ((cs : List Int).map .int)) ∧ σ = [some (.fl (ns.map .int)), some (.ref p), none, none, none, none, none, none, none]) ?_ ?_
  · (refine WP.w_if ?_; (repeat fail "go"))
    have f1 : ∀ ls : List Int, Fines (ls.map .int) (ls.map .int) 0 := fun ls => fine_ints ls
    refine ⟨_, _, eqD_dat ((f1 cs).dat (by omega) (p := 1) rfl) ((f1 []).dat (by omega) (p := 2) rfl), ?_⟩
    (repeat fail "go")
    refine ⟨fun h => ?_, fun h => ?_⟩
    · (repeat fail "go")
      exact ⟨rfl, 3, [6], rfl, rfl⟩
    · (repeat fail "go")
      exact ⟨rfl, 1, cs, rfl, rfl⟩
  rintro σ H1 ⟨p, cs, g1, rfl⟩
  (repeat fail "go")
  refine w_cut (fun σ H' => ∃ z2 z4 z5 z7 z8, σ = [some (.fl (ns.map .int)), some (.ref p), z2, none, z4, z5, none, z7, z8]) ?_ ?_
  · refine w_each (fun σ H' => H'[p]? = some (.lst (cs.map .int)) ∧ ∃ z2 z4 z5 z7 z8, σ = [some (.fl (ns.map .int)), some (.ref p), z2, none, z4, z5, none, z7, z8]) (fun _ _ j => own1 j.1) _ (fun x hx σ H2 ⟨g2, z2, z4, z5, z7, z8, e⟩ => ?_) _ _ ⟨g1, none, none, none, none, none, rfl⟩ (fun σ H2 ⟨_, j⟩ => ⟨rfl, j⟩)
    obtain ⟨cell, _, rfl⟩ := List.mem_map.mp hx
    subst e
    (repeat fail "go")
    refine w_digits (many := 34) (by omega) fun ds p7 H3 l3 d3 g3 n3 x3 => ?_
    have g23 := x3.lst (by simp) g2
    (repeat fail "go")
    refine w_slL (k := 4) g3 ?_
    rw [← List.map_drop]
    (repeat fail "go")
    refine w_dig (appL g3) d3 (by omega) (by omega) fun r r0 r1 => ?_
    (repeat fail "go")
    obtain ⟨dp, hdp⟩ : ∃ dp : Nat, r % 9 = dp := ⟨(r % 9).toNat, by omega⟩
    rw [hdp]
    have np : p < H3.length := (List.getElem?_eq_some_iff.mp g23).1
    have n7 : p7 < H3.length := (List.getElem?_eq_some_iff.mp g3).1
    refine w_treeD 10 dp H3.length (ds.drop 4) _ _ (by omega) (by omega) last (by simp; omega) (by simp; omega) fun t ys H4 dt okt g4 l4 x4 => ?_
    have gp4 := x4.lst (by simp; omega) (appL (u := DO.lst ((ds.drop 4).map D.int)) g23)
    have g74 := x4.lst (by simp; omega) (appL (u := DO.lst ((ds.drop 4).map D.int)) g3)
    have ok3 : t.ok 1000 := okt.mono (by omega)
    (repeat fail "go")
    refine w_lawShown t 10 H4 _ (by omega) (by omega) ok3 ?_
    (repeat fail "go")
    refine w_if ?_
    refine w_written (t := t) (by omega) okt rfl rfl fun H5 x5 => ?_
    have gp5 := x5.lst (by simp) gp4
    have g75 := x5.lst (by simp) g74
    have sm := txt_small ok3 (by omega)
    (repeat fail "go")
    refine w_slHi (k := 4) g75 ?_
    rw [← List.map_take]
    (repeat fail "go")
    refine w_bentT (by omega) (asc_txt t) last (d3.take 4) (by simp; omega) fun l' ll al => ?_
    (repeat fail "go")
    refine w_if ?_
    refine w_both (by omega) al rfl fun H6 x6 => ?_
    (repeat fail "go")
    exact ⟨x6.lst (by simp) (appL gp5), _, _, _, _, _, rfl⟩
  rintro σ H2 ⟨z2, z4, z5, z7, z8, rfl⟩
  (repeat fail "go")
  refine w_atF H2 2 _ (by omega) (by omega) fun c => ?_
  (repeat fail "go")
  obtain ⟨far, hfar⟩ : ∃ far : Nat, 20 + absZ c % 980 = far := ⟨(20 + absZ c % 980).toNat, by omega⟩
  have hf1 : 20 ≤ far := by omega
  have hf2 : far < 1000 := by omega
  rw [hfar]
  (repeat fail "go"); (refine WP.w_if ?_; (repeat fail "go"))
  refine w_showTree (.each (.lost far) (.pick true (.lost 0))) 10 H2 _ (by simp [Tr.dep]) (by simp [Tr.dep]) ⟨hf2, show 0 < 1000 by omega⟩ ?_
  (repeat fail "go")
  refine w_str (by omega) ?_
  have lf := figs_len hf2
  refine w_addL s_open (by simp; omega) ?_
  (repeat fail "go")
  refine w_addR s_tail (by simp; omega) ?_
  have et : (Tr.each (.lost far) (.pick true (.lost 0))).txt = [40] ++ figs far ++ [124, 121, 48, 41] := by
    have : figs 0 = [48] := by decide
    simp [Tr.txt, this]
  rw [← et]
  refine w_neX ?_
  (repeat fail "go")
  refine w_bF (by simp) ?_
  (repeat fail "go")
  refine w_str (by omega) ?_
  refine w_addL s_open (by simp; omega) ?_
  (repeat fail "go")
  refine w_addR s_tail (by simp; omega) ?_
  rw [← et]
  (repeat fail "go")
  have smf : (Tr.each (.lost far) (.pick true (.lost 0))).txt.length ≤ 4500 := by rw [et]; simp; omega
  refine w_readTree smf fun H3 x3 => ?_
  rw [read_far hf1]
  (repeat fail "go")
  refine w_claim79 (most := 8) (fun H k Q a b q => w_atF H k Q a b q) ⟨by decide, by decide⟩ fun ks rss H4 cl lk lr x4 => ?_
  (repeat fail "go")
  refine w_plan cl fun td H5 pd x5 => ?_
  obtain ⟨t, rfl, dt, okt⟩ := plan_tr lr pd
  have dt : t.dep ≤ 8 := by simp at dt; omega
  have ok3 : t.ok 1000 := okt.mono (by omega)
  (repeat fail "go")
  refine w_lawShown t 10 H5 _ (by omega) (by omega) ok3 ?_
  (repeat fail "go")
  refine w_if ?_
  refine w_written (t := t) dt okt rfl rfl fun H6 x6 => ?_
  (repeat fail "go")
  refine w_smulS (n := 8) s_y (by omega) (by simp) (by simp) (asc1 (by omega)) fun m1 lm1 am1 => ?_
  have lm1 : m1.length = 8 := lm1
  (repeat fail "go")
  refine w_addR s_plus (by simp; omega) ?_
  (repeat fail "go")
  refine w_smulS (n := 9) s_y (by omega) (by simp) (by simp) (asc1 (by omega)) fun m2 lm2 am2 => ?_
  have lm2 : m2.length = 9 := lm2
  (repeat fail "go")
  refine w_addR s_plus (by simp; omega) ?_
  (repeat fail "go")
  refine w_smulS (n := 200) s_n (by omega) (by simp) (by simp) (asc1 (by omega)) fun m3 lm3 am3 => ?_
  have lm3 : m3.length = 200 := lm3
  (repeat fail "go")
  refine w_smulS (n := 9) s_open (by omega) (by simp) (by simp) (asc1 (by omega)) fun m4 lm4 am4 => ?_
  have lm4 : m4.length = 9 := lm4
  (repeat fail "go")
  refine w_addR s_plus (by simp; omega) ?_
  (repeat fail "go")
  refine w_smulS (n := 9) s_bpc (by omega) (by simp) (by simp) (by unfold Asc; decide) fun m5 lm5 am5 => ?_
  have lm5 : m5.length = 27 := lm5
  refine w_addX (by simp; omega) ?_
  (repeat fail "go")
  refine w_smulS (n := 8) s_open (by omega) (by simp) (by simp) (asc1 (by omega)) fun m6 lm6 am6 => ?_
  have lm6 : m6.length = 8 := lm6
  (repeat fail "go")
  refine w_addR s_plus (by simp; omega) ?_
  (repeat fail "go")
  refine w_smulS (n := 8) s_bpc (by omega) (by simp) (by simp) (by unfold Asc; decide) fun m7 lm7 am7 => ?_
  have lm7 : m7.length = 24 := lm7
  refine w_addX (by simp; omega) ?_
  (repeat fail "go")
  refine w_addLL (appL last) last (by simp) ?_
  (repeat fail "go")
  refine w_smulS (n := 3000) s_open (by omega) (by simp) (by simp) (asc1 (by omega)) fun m8 lm8 am8 => ?_
  have lm8 : m8.length = 3000 := lm8
  (repeat fail "go")
  refine w_smulS (n := 4400) s_1 (by omega) (by simp) (by simp) (asc1 (by omega)) fun m9 lm9 am9 => ?_
  have lm9 : m9.length = 4400 := lm9
  (repeat fail "go")
  refine w_addLL (appL last) last (by simp) ?_
  (repeat fail "go")
  refine w_texts last ?_ fun σ H' => ?_
  · refine List.forall_mem_append.mpr ⟨List.forall_mem_append.mpr ⟨?_, ?_⟩, ?_⟩
    · refine List.forall_mem_cons.mpr ⟨okX_lit (by decide +kernel), List.forall_mem_cons.mpr ⟨okX_lit (by decide +kernel), List.forall_mem_cons.mpr ⟨okX_lit (by decide +kernel), List.forall_mem_cons.mpr ⟨okX_lit (by decide +kernel), List.forall_mem_cons.mpr ⟨okX_lit (by decide +kernel), List.forall_mem_cons.mpr ⟨okX_lit (by decide +kernel), List.forall_mem_cons.mpr ⟨okX_lit (by decide +kernel), ?_⟩⟩⟩⟩⟩⟩⟩
      refine List.forall_mem_cons.mpr ⟨⟨_, rfl, by simp; omega, am1.app (asc1 (by omega))⟩, List.forall_mem_cons.mpr ⟨⟨_, rfl, by simp; omega, am2.app (asc1 (by omega))⟩, List.forall_mem_cons.mpr ⟨⟨_, rfl, by omega, am3⟩, ?_⟩⟩⟩
      exact List.forall_mem_cons.mpr ⟨okX_lit (by decide +kernel), List.forall_mem_cons.mpr ⟨okX_lit (by decide +kernel), List.forall_mem_cons.mpr ⟨okX_lit (by decide +kernel), fun x hx => by cases hx⟩⟩⟩
    · refine List.forall_mem_cons.mpr ⟨⟨_, rfl, by simp; omega, (am4.app (asc1 (by omega))).app am5⟩, List.forall_mem_cons.mpr ⟨⟨_, rfl, by simp; omega, (am6.app (asc1 (by omega))).app am7⟩, ?_⟩⟩
      exact List.forall_mem_cons.mpr ⟨okX_lit (by decide +kernel), List.forall_mem_cons.mpr ⟨okX_lit (by decide +kernel), List.forall_mem_cons.mpr ⟨okX_lit (by decide +kernel), List.forall_mem_cons.mpr ⟨okX_lit (by decide +kernel), fun x hx => by cases hx⟩⟩⟩⟩
    · exact List.forall_mem_cons.mpr ⟨⟨_, rfl, by omega, am8⟩, List.forall_mem_cons.mpr ⟨⟨_, rfl, by omega, am9⟩, fun x hx => by cases hx⟩⟩
  · (repeat fail "go")
    rfl
end K08
set_option maxHeartbeats 8000000
namespace K08
open PySem PySem.Spec PyProof.Rows L2 DL
noncomputable def top (i : Nat) : Stmt := PySem.Challenge.pw_allsome_k79_trees_written_and_read.main.body.getD i (.Pass ⟨0, 0, 0, 0⟩)
noncomputable abbrev s_show_pick : Stmt := top 7
theorem sc_show_pick : FnScope ["truth"] ["truth"] (defScope s_show_pick) := ⟨rfl, rfl, rfl, by decide +kernel, rfl, by decide +kernel, by decide +kernel⟩
noncomputable abbrev s_show_tree : Stmt := top 8
theorem sc_show_tree : FnScope ["tree", "no", "yes"] ["tree"] (defScope s_show_tree) := ⟨rfl, rfl, rfl, by decide +kernel, rfl, by decide +kernel, by decide +kernel⟩
noncomputable abbrev s_read_number : Stmt := top 9
theorem sc_read_number : FnScope ["word"] ["word"] (defScope s_read_number) := ⟨rfl, rfl, rfl, by decide +kernel, rfl, by decide +kernel, by decide +kernel⟩
noncomputable abbrev s_lost_at : Stmt := top 11
theorem sc_lost_at : FnScope ["text", "place", "end", "number"] ["text", "place"] (defScope s_lost_at) := ⟨rfl, rfl, rfl, by decide +kernel, rfl, by decide +kernel, by decide +kernel⟩
noncomputable abbrev s_first_numbers : Stmt := top 16
theorem sc_first_numbers : FnScope ["rows", "told", "number", "row"] ["rows"] (defScope s_first_numbers) := ⟨rfl, rfl, rfl, by decide +kernel, rfl, by decide +kernel, by decide +kernel⟩
noncomputable abbrev s_rows_behind : Stmt := top 17
theorem sc_rows_behind : FnScope ["rows", "name", "truth", "right", "told", "row", "first"] ["rows", "name", "truth"] (defScope s_rows_behind) := ⟨rfl, rfl, rfl, by decide +kernel, rfl, by decide +kernel, by decide +kernel⟩
noncomputable abbrev s_other_side : Stmt := top 18
theorem sc_other_side : FnScope ["side"] ["side"] (defScope s_other_side) := ⟨rfl, rfl, rfl, by decide +kernel, rfl, by decide +kernel, by decide +kernel⟩
noncomputable abbrev s_are_of_all : Stmt := top 20
theorem sc_are_of_all : FnScope ["kinds", "literals"] ["kinds", "literals"] (defScope s_are_of_all) := ⟨rfl, rfl, rfl, by decide +kernel, rfl, by decide +kernel, by decide +kernel⟩
noncomputable abbrev s_number_of_lost : Stmt := top 21
theorem sc_number_of_lost : FnScope ["kinds", "rows", "row"] ["kinds", "rows"] (defScope s_number_of_lost) := ⟨rfl, rfl, rfl, by decide +kernel, rfl, by decide +kernel, by decide +kernel⟩
noncomputable abbrev s_law_mix : Stmt := top 26
theorem sc_law_mix : FnScope ["cell", "k", "prime", "one"] ["cell", "k"] (defScope s_law_mix) := ⟨rfl, rfl, rfl, by decide +kernel, rfl, by decide +kernel, by decide +kernel⟩
noncomputable abbrev s_law_digits : Stmt := top 27
theorem sc_law_digits : FnScope ["cell", "many", "found", "left_over", "wide", "k"] ["cell", "many"] (defScope s_law_digits) := ⟨rfl, rfl, rfl, by decide +kernel, rfl, by decide +kernel, by decide +kernel⟩
noncomputable abbrev s_law_at : Stmt := top 28
theorem sc_law_at : FnScope ["script", "k"] ["script", "k"] (defScope s_law_at) := ⟨rfl, rfl, rfl, by decide +kernel, rfl, by decide +kernel, by decide +kernel⟩
noncomputable abbrev s_law_kinds : Stmt := top 29
theorem sc_law_kinds : FnScope ["some", "many", "found", "k", "kind"] ["some", "many"] (defScope s_law_kinds) := ⟨rfl, rfl, rfl, by decide +kernel, rfl, by decide +kernel, by decide +kernel⟩
noncomputable abbrev s_law_row : Stmt := top 30
theorem sc_law_row : FnScope ["cell", "many", "wide", "some", "found", "k"] ["cell", "many", "wide"] (defScope s_law_row) := ⟨rfl, rfl, rfl, by decide +kernel, rfl, by decide +kernel, by decide +kernel⟩
noncomputable abbrev s_law_claim : Stmt := top 31
theorem sc_law_claim : FnScope ["script", "most", "some", "many", "kinds", "size", "rows"] ["script", "most"] (defScope s_law_claim) := ⟨rfl, rfl, rfl, by decide +kernel, rfl, by decide +kernel, by decide +kernel⟩
noncomputable abbrev s_law_tree : Stmt := top 32
theorem sc_law_tree : FnScope ["some", "deep", "one"] ["some", "deep"] (defScope s_law_tree) := ⟨rfl, rfl, rfl, by decide +kernel, rfl, by decide +kernel, by decide +kernel⟩
noncomputable abbrev s_law_shown : Stmt := top 33
theorem sc_law_shown : FnScope ["tree"] ["tree"] (defScope s_law_shown) := ⟨rfl, rfl, rfl, by decide +kernel, rfl, by decide +kernel, by decide +kernel⟩
noncomputable abbrev s_law_end_read : Stmt := top 34
theorem sc_law_end_read : FnScope ["text", "at", "numbers", "size", "word"] ["text", "at"] (defScope s_law_end_read) := ⟨rfl, rfl, rfl, by decide +kernel, rfl, by decide +kernel, by decide +kernel⟩
noncomputable abbrev s_law_read_at : Stmt := top 35
theorem sc_law_read_at : FnScope ["text", "at", "deep", "sign", "first", "other"] ["text", "at", "deep"] (defScope s_law_read_at) := ⟨rfl, rfl, rfl, by decide +kernel, rfl, by decide +kernel, by decide +kernel⟩
noncomputable abbrev s_law_read : Stmt := top 36
theorem sc_law_read : FnScope ["text", "found"] ["text"] (defScope s_law_read) := ⟨rfl, rfl, rfl, by decide +kernel, rfl, by decide +kernel, by decide +kernel⟩
noncomputable abbrev s_law_bent : Stmt := top 37
theorem sc_law_bent : FnScope ["text", "some", "signs", "sign", "at"] ["text", "some"] (defScope s_law_bent) := ⟨rfl, rfl, rfl, by decide +kernel, rfl, by decide +kernel, by decide +kernel⟩
noncomputable abbrev s_law_same : Stmt := top 38
theorem sc_law_same : FnScope ["one", "other"] ["one", "other"] (defScope s_law_same) := ⟨rfl, rfl, rfl, by decide +kernel, rfl, by decide +kernel, by decide +kernel⟩
noncomputable abbrev s_plan_behind : Stmt := top 22
theorem sc_plan_behind : FnScope ["kinds", "rows", "many", "number"] ["kinds", "rows", "many"] (defScope s_plan_behind) := ⟨rfl, rfl, rfl, by decide +kernel, rfl, by decide +kernel, by decide +kernel⟩
noncomputable abbrev s_plan_by_picks : Stmt := top 23
theorem sc_plan_by_picks : FnScope ["kinds", "rows", "many", "who", "trees", "truth", "told"] ["kinds", "rows", "many"] (defScope s_plan_by_picks) := ⟨rfl, rfl, rfl, by decide +kernel, rfl, by decide +kernel, by decide +kernel⟩
noncomputable abbrev s_plan : Stmt := top 24
theorem sc_plan : FnScope ["claim"] ["claim"] (defScope s_plan) := ⟨rfl, rfl, rfl, by decide +kernel, rfl, by decide +kernel, by decide +kernel⟩
noncomputable abbrev s_tree_at : Stmt := top 10
theorem sc_tree_at : FnScope ["text", "place", "deep", "sign"] ["text", "place", "deep"] (defScope s_tree_at) := ⟨rfl, rfl, rfl, by decide +kernel, rfl, by decide +kernel, by decide +kernel⟩
noncomputable abbrev s_pick_at : Stmt := top 12
theorem sc_pick_at : FnScope ["text", "place", "deep", "told"] ["text", "place", "deep"] (defScope s_pick_at) := ⟨rfl, rfl, rfl, by decide +kernel, rfl, by decide +kernel, by decide +kernel⟩
noncomputable abbrev s_each_at : Stmt := top 13
theorem sc_each_at : FnScope ["text", "place", "deep", "trees", "end", "sign", "told"] ["text", "place", "deep"] (defScope s_each_at) := ⟨rfl, rfl, rfl, by decide +kernel, rfl, by decide +kernel, by decide +kernel⟩
noncomputable abbrev s_read_tree : Stmt := top 14
theorem sc_read_tree : FnScope ["text", "told"] ["text"] (defScope s_read_tree) := ⟨rfl, rfl, rfl, by decide +kernel, rfl, by decide +kernel, by decide +kernel⟩
noncomputable abbrev s_law : Stmt := top 39
theorem sc_law : FnScope ["script", "cells", "cell", "far", "tree", "text", "texts", "some", "bent"] ["script"] (defScope s_law) := ⟨rfl, rfl, rfl, by decide +kernel, rfl, by decide +kernel, by decide +kernel⟩
structure Top (w : World) (K : PySem.W.Frag) (mg : Str → Option Value) : Prop where
  t_show_pick : Tf K mg "show_pick" s_show_pick
  t_show_tree : Tf K mg "show_tree" s_show_tree
  t_read_number : Tf K mg "read_number" s_read_number
  t_lost_at : Tf K mg "lost_at" s_lost_at
  t_first_numbers : Tf K mg "first_numbers" s_first_numbers
  t_rows_behind : Tf K mg "rows_behind" s_rows_behind
  t_other_side : Tf K mg "other_side" s_other_side
  t_are_of_all : Tf K mg "are_of_all" s_are_of_all
  t_number_of_lost : Tf K mg "number_of_lost" s_number_of_lost
  t_law_mix : Tf K mg "_law_mix" s_law_mix
  t_law_digits : Tf K mg "_law_digits" s_law_digits
  t_law_at : Tf K mg "_law_at" s_law_at
  t_law_kinds : Tf K mg "_law_kinds" s_law_kinds
  t_law_row : Tf K mg "_law_row" s_law_row
  t_law_claim : Tf K mg "_law_claim" s_law_claim
  t_law_tree : Tf K mg "_law_tree" s_law_tree
  t_law_shown : Tf K mg "_law_shown" s_law_shown
  t_law_end_read : Tf K mg "_law_end_read" s_law_end_read
  t_law_read_at : Tf K mg "_law_read_at" s_law_read_at
  t_law_read : Tf K mg "_law_read" s_law_read
  t_law_bent : Tf K mg "_law_bent" s_law_bent
  t_law_same : Tf K mg "_law_same" s_law_same
  t_plan_behind : Tf K mg "plan_behind" s_plan_behind
  t_plan_by_picks : Tf K mg "plan_by_picks" s_plan_by_picks
  t_plan : Tf K mg "plan" s_plan
  t_tree_at : Tf K mg "tree_at" s_tree_at
  t_pick_at : Tf K mg "pick_at" s_pick_at
  t_each_at : Tf K mg "each_at" s_each_at
  t_read_tree : Tf K mg "read_tree" s_read_tree
  t_law : Tf K mg "law" s_law
  n_abs : mg "abs" = none
  n_all : mg "all" = none
  n_bool : mg "bool" = none
  n_enumerate : mg "enumerate" = none
  n_int : mg "int" = none
  n_isinstance : mg "isinstance" = none
  n_len : mg "len" = none
  n_list : mg "list" = none
  n_max : mg "max" = none
  n_min : mg "min" = none
  n_range : mg "range" = none
  n_str : mg "str" = none
  n_tuple : mg "tuple" = none
  c_FIGURES : Gc K mg "FIGURES" k_FIGURES
  c_MOST_FIGURES : Gc K mg "MOST_FIGURES" k_MOST_FIGURES
  c_MOST_NAMES : Gc K mg "MOST_NAMES" k_MOST_NAMES
  c_MOST_ROWS : Gc K mg "MOST_ROWS" k_MOST_ROWS
  c_TRUTHS : Gc K mg "TRUTHS" k_TRUTHS
  d_PICKS : Pk w K mg "PICKS" [("n", false), ("y", true)]
section
variable {P : Program} {w : World} {K : PySem.W.Frag} {mg : Str → Option Value} {base : Heap}
theorem ok_show_pick (T : Top w K mg) : Fn P w K mg base 1 "show_pick" ["truth"] m_show_pick := by
  refine (fun h => h : _ → Fn P w K mg base 1 "show_pick" ["truth"] (runB 1 1 b_show_pick)) (fn_mk (N := ["truth"]) (k := 0) T.t_show_pick sc_show_pick (fun _ _ _ _ _ _ us hl => by obtain ⟨_, rfl⟩ := us1 hl; rfl) ?_)
  intro f cdv A outer s H E hr
  unfold b_show_pick
  refine pssf_cons ?_ pssf_nil
  refine psf_ret ?_
  refine pef_if ?_ pef_str pef_str
  exact ptf_truth (pef_var (pv 0)) (fun _ => rfl)
theorem ok_show_tree (T : Top w K mg) (F_show_pick : Fn P w K mg base 1 "show_pick" ["truth"] m_show_pick) : Fn P w K mg base 12 "show_tree" ["tree"] m_show_tree := by
  refine (fun h => h : _ → Fn P w K mg base 12 "show_tree" ["tree"] (recF 1 3 b_show_tree 10)) (fn_rec (N := ["tree", "no", "yes"]) (k := 1) T.t_show_tree sc_show_tree (fun _ _ _ _ _ _ us hl => by obtain ⟨_, rfl⟩ := us1 hl; rfl) ?_ 10)
  intro F j G f cdv A outer s H E hr
  unfold b_show_tree
  refine pssf_cons ?_ ?_
  refine psf_if ?_ ?_ pssf_nil
  refine ptf_cmp (opf_eq hr.units) ?_ pef_str (nomark _)
  exact pef_ix ixf (pef_var (pv 0)) pef_int (fun _ _ => rfl)
  refine pssf_cons ?_ pssf_nil
  exact psf_ret pef_str
  refine pssf_cons ?_ ?_
  refine psf_if ?_ ?_ pssf_nil
  refine ptf_cmp (opf_eq hr.units) ?_ pef_str (nomark _)
  exact pef_ix ixf (pef_var (pv 0)) pef_int (fun _ _ => rfl)
  refine pssf_cons ?_ pssf_nil
  refine psf_ret ?_
  refine pef_callTy callf_str ?_ T.n_str bb_str ?_
  rfl
  refine paf_c ?_ ?_ ?_
  exact pef_ix ixf (pef_var (pv 0)) pef_int (fun _ _ => rfl)
  exact paf_nil
  rfl
  refine pssf_cons ?_ ?_
  refine psf_if ?_ ?_ pssf_nil
  refine ptf_cmp (opf_eq hr.units) ?_ pef_str (nomark _)
  exact pef_ix ixf (pef_var (pv 0)) pef_int (fun _ _ => rfl)
  refine pssf_cons ?_ pssf_nil
  refine psf_ret ?_
  refine pef_op opf_add ?_ ?_
  refine pef_fn F_show_pick (hr.mono (by omega)) ?_ ?_
  rfl
  refine paf_c ?_ ?_ ?_
  exact pef_ix ixf (pef_var (pv 0)) pef_int (fun _ _ => rfl)
  exact paf_nil
  rfl
  refine pef_fn G (hr.mono (Nat.le_refl _)) ?_ ?_
  rfl
  refine paf_c ?_ ?_ ?_
  exact pef_ix ixf (pef_var (pv 0)) pef_int (fun _ _ => rfl)
  exact paf_nil
  rfl
  refine pssf_cons ?_ ?_
  refine psf_set (i := 1) ?_ ?_ ?_ ?_
  exact sc_show_tree.nd
  rfl
  first | exact Or.inl rfl | exact Or.inr rfl
  refine pef_fn G (hr.mono (Nat.le_refl _)) ?_ ?_
  rfl
  refine paf_c ?_ ?_ ?_
  exact pef_ix ixf (pef_var (pv 0)) pef_int (fun _ _ => rfl)
  exact paf_nil
  rfl
  refine pssf_cons ?_ ?_
  refine psf_set (i := 2) ?_ ?_ ?_ ?_
  exact sc_show_tree.nd
  rfl
  first | exact Or.inl rfl | exact Or.inr rfl
  refine pef_fn G (hr.mono (Nat.le_refl _)) ?_ ?_
  rfl
  refine paf_c ?_ ?_ ?_
  exact pef_ix ixf (pef_var (pv 0)) pef_int (fun _ _ => rfl)
  exact paf_nil
  rfl
  refine pssf_cons ?_ pssf_nil
  refine psf_ret ?_
  refine pef_join ?_
  refine pj_c ?_
  refine pj_e (pef_var (pv 1)) ?_
  refine pj_c ?_
  refine pj_e (pef_var (pv 2)) ?_
  exact pj_c pj_nil
theorem ok_read_number (T : Top w K mg) : Fn P w K mg base 1 "read_number" ["word"] m_read_number := by
  refine (fun h => h : _ → Fn P w K mg base 1 "read_number" ["word"] (runB 1 1 b_read_number)) (fn_mk (N := ["word"]) (k := 0) T.t_read_number sc_read_number (fun _ _ _ _ _ _ us hl => by obtain ⟨_, rfl⟩ := us1 hl; rfl) ?_)
  intro f cdv A outer s H E hr
  unfold b_read_number
  refine pssf_cons ?_ ?_
  refine psf_if ?_ ?_ pssf_nil
  refine PWf.pt ?_
  refine pwf_or ?_ ?_
  refine ptf_cmp (opf_eq hr.units) ?_ pef_int (nomark _)
  refine pef_callB callf_len ?_ T.n_len bb_len ?_
  rfl
  refine paf_c ?_ ?_ ?_
  exact (pef_var (pv 0))
  exact paf_nil
  rfl
  refine pwf_or ?_ ?_
  refine ptf_cmp opf_gt ?_ ?_ (nomark _)
  refine pef_callB callf_len ?_ T.n_len bb_len ?_
  rfl
  refine paf_c ?_ ?_ ?_
  exact (pef_var (pv 0))
  exact paf_nil
  rfl
  refine pef_gc ?_ T.c_MOST_FIGURES
  rfl
  refine pwf_or1 ?_
  refine ptf_not ?_
  refine ptf_truth ?_ (fun _ => rfl)
  refine pef_callB (callf_all (by rfl)) ?_ T.n_all bb_all ?_
  rfl
  refine paf_c ?_ ?_ ?_
  refine pef_lc (cn := []) ?_ (blk_fn (x := "sign") (cn := []) (ci := []) (by decide +kernel)) ?_ ?_ ?_
  rfl
  exact pif_txt (pef_var (pv 0))
  intro _ _ _ _ _ _
  exact ptsf_nil
  intro _ _ _ _ _ _
  refine pef_cmp sinf (pef_var (pv 0)) ?_ ?_
  refine pef_gc ?_ T.c_FIGURES
  rfl
  with_unfolding_all rfl
  exact paf_nil
  rfl
  refine pssf_cons ?_ pssf_nil
  exact psf_ret pef_non
  refine pssf_cons ?_ ?_
  refine psf_if ?_ ?_ pssf_nil
  refine PWf.pt ?_
  refine pwf_and ?_ ?_
  refine ptf_cmp (opf_eq hr.units) ?_ pef_str (nomark _)
  exact pef_ix sixf (pef_var (pv 0)) pef_int (fun _ _ => rfl)
  refine pwf_and1 ?_
  exact ptf_cmp (opf_ne hr.units) (pef_var (pv 0)) pef_str (nomark _)
  refine pssf_cons ?_ pssf_nil
  exact psf_ret pef_non
  refine pssf_cons ?_ pssf_nil
  refine psf_ret ?_
  refine pef_callTy callf_intS ?_ T.n_int bb_int ?_
  rfl
  refine paf_c ?_ ?_ ?_
  exact (pef_var (pv 0))
  exact paf_nil
  rfl
theorem ok_lost_at (T : Top w K mg) (F_read_number : Fn P w K mg base 1 "read_number" ["word"] m_read_number) : Fn P w K mg base 2 "lost_at" ["text", "place"] m_lost_at := by
  refine (fun h => h : _ → Fn P w K mg base 2 "lost_at" ["text", "place"] (runB 2 4 b_lost_at)) (fn_mk (N := ["text", "place", "end", "number"]) (k := 1) T.t_lost_at sc_lost_at (fun _ _ _ _ _ _ us hl => by obtain ⟨_, _, rfl⟩ := us2 hl; rfl) ?_)
  intro f cdv A outer s H E hr
  unfold b_lost_at
  refine pssf_cons ?_ ?_
  refine psf_set (i := 2) ?_ ?_ ?_ (pef_var (pv 1))
  exact sc_lost_at.nd
  rfl
  first | exact Or.inl rfl | exact Or.inr rfl
  refine pssf_cons ?_ ?_
  refine psf_while PassesOwn.never ?_ ?_
  refine PWf.pt ?_
  refine pwf_and ?_ ?_
  refine ptf_cmp opf_lt (pef_var (pv 2)) ?_ (nomark _)
  refine pef_callB callf_len ?_ T.n_len bb_len ?_
  rfl
  refine paf_c ?_ ?_ ?_
  exact (pef_var (pv 0))
  exact paf_nil
  rfl
  refine pwf_and1 ?_
  refine ptf_cmp sinf ?_ ?_ ?_
  exact pef_ix sixf (pef_var (pv 0)) (pef_var (pv 2)) (fun _ _ => rfl)
  refine pef_gc ?_ T.c_FIGURES
  rfl
  with_unfolding_all rfl
  refine pssf_cons ?_ pssf_nil
  refine psf_aug (i := 2) ip_add ?_ ?_ ?_ pef_int
  exact sc_lost_at.nd
  rfl
  first | exact Or.inl rfl | exact Or.inr rfl
  refine pssf_cons ?_ ?_
  refine psf_set (i := 3) ?_ ?_ ?_ ?_
  exact sc_lost_at.nd
  rfl
  first | exact Or.inl rfl | exact Or.inr rfl
  refine pef_fn F_read_number (hr.mono (by decide)) ?_ ?_
  rfl
  refine paf_c ?_ ?_ ?_
  refine pef_sliceS (pef_var (pv 0)) ?_ ?_
  exact pof_some (pef_var (pv 1))
  exact pof_some (pef_var (pv 2))
  exact paf_nil
  rfl
  refine pssf_cons ?_ ?_
  refine psf_if ?_ ?_ pssf_nil
  refine PWf.pt ?_
  refine pwf_or ?_ ?_
  exact ptf_cmp opf_is (pef_var (pv 3)) pef_non (nomark _)
  refine pwf_or1 ?_
  refine ptf_cmp opf_ge (pef_var (pv 3)) ?_ (nomark _)
  refine pef_gc ?_ T.c_MOST_ROWS
  rfl
  refine pssf_cons ?_ pssf_nil
  exact psf_ret pef_non
  refine pssf_cons ?_ pssf_nil
  refine psf_ret ?_
  refine pef_tup ?_
  refine paf_c ?_ ?_ ?_
  refine pef_tup ?_
  refine paf_c ?_ ?_ ?_
  exact pef_str
  refine paf_c ?_ ?_ ?_
  exact (pef_var (pv 3))
  exact paf_nil
  rfl
  rfl
  refine paf_c ?_ ?_ ?_
  exact (pef_var (pv 2))
  exact paf_nil
  rfl
  rfl
theorem ok_first_numbers (T : Top w K mg) : Fn P w K mg base 1 "first_numbers" ["rows"] m_first_numbers := by
  refine (fun h => h : _ → Fn P w K mg base 1 "first_numbers" ["rows"] (runB 1 4 b_first_numbers)) (fn_mk (N := ["rows", "told", "number", "row"]) (k := 0) T.t_first_numbers sc_first_numbers (fun _ _ _ _ _ _ us hl => by obtain ⟨_, rfl⟩ := us1 hl; rfl) ?_)
  intro f cdv A outer s H E hr
  unfold b_first_numbers
  refine pssf_cons ?_ ?_
  refine psf_set (i := 1) ?_ ?_ ?_ pef_dnew
  exact sc_first_numbers.nd
  rfl
  first | exact Or.inl rfl | exact Or.inr rfl
  refine pssf_cons ?_ ?_
  refine psf_for PassesOwn.never ?_ ?_ ?_ ?_
  rfl
  refine pif_enum ?_ T.n_enumerate ?_
  rfl
  refine paf_c ?_ ?_ ?_
  exact (pef_var (pv 0))
  exact paf_nil
  rfl
  refine pgf_tup ?_ ?_
  rfl
  refine pgsf_cons ?_ ?_
  refine pgf_name (i := 2) ?_ ?_ ?_
  exact sc_first_numbers.nd
  rfl
  first | exact Or.inl rfl | exact Or.inr rfl
  refine pgsf_cons ?_ pgsf_nil
  refine pgf_name (i := 3) ?_ ?_ ?_
  exact sc_first_numbers.nd
  rfl
  first | exact Or.inl rfl | exact Or.inr rfl
  refine pssf_cons ?_ pssf_nil
  refine psf_expr ?_
  refine pef_dm PySem.F.slot_dict_setdefault PySem.F.type_dict_setdefault (sdeff hr.units) (pef_var (pv 1)) ?_
  refine paf_c ?_ ?_ ?_
  exact (pef_var (pv 3))
  refine paf_c ?_ ?_ ?_
  exact (pef_var (pv 2))
  exact paf_nil
  rfl
  rfl
  refine pssf_cons ?_ pssf_nil
  exact psf_ret (pef_var (pv 1))
theorem ok_rows_behind (T : Top w K mg) : Fn P w K mg base 1 "rows_behind" ["rows", "name", "truth"] m_rows_behind := by
  refine (fun h => h : _ → Fn P w K mg base 1 "rows_behind" ["rows", "name", "truth"] (runB 3 7 b_rows_behind)) (fn_mk (N := ["rows", "name", "truth", "right", "told", "row", "first"]) (k := 0) T.t_rows_behind sc_rows_behind (fun _ _ _ _ _ _ us hl => by obtain ⟨_, _, _, rfl⟩ := us3 hl; rfl) ?_)
  intro f cdv A outer s H E hr
  unfold b_rows_behind
  refine pssf_cons ?_ ?_
  refine psf_set (i := 3) ?_ ?_ ?_ ?_
  exact sc_rows_behind.nd
  rfl
  first | exact Or.inl rfl | exact Or.inr rfl
  refine pef_if ?_ (pef_var (pv 1)) ?_
  exact ptf_truth (pef_var (pv 2)) (fun _ => rfl)
  exact pef_un unf_neg (pef_var (pv 1))
  refine pssf_cons ?_ ?_
  refine psf_set (i := 4) ?_ ?_ ?_ pef_dnew
  exact sc_rows_behind.nd
  rfl
  first | exact Or.inl rfl | exact Or.inr rfl
  refine pssf_cons ?_ ?_
  refine psf_for PassesOwn.never ?_ ?_ ?_ ?_
  rfl
  exact pif_dic (pef_var (pv 0))
  refine pgf_name (i := 5) ?_ ?_ ?_
  exact sc_rows_behind.nd
  rfl
  first | exact Or.inl rfl | exact Or.inr rfl
  refine pssf_cons ?_ ?_
  refine psf_set (i := 6) ?_ ?_ ?_ ?_
  exact sc_rows_behind.nd
  rfl
  first | exact Or.inl rfl | exact Or.inr rfl
  refine pef_if ?_ ?_ pef_int
  exact ptf_truth (pef_var (pv 5)) (fun _ => rfl)
  exact pef_ix ixf (pef_var (pv 5)) pef_int (fun _ _ => rfl)
  refine pssf_cons ?_ pssf_nil
  refine psf_if ?_ ?_ ?_
  refine ptf_cmp (opf_eq hr.units) (pef_var (pv 6)) ?_ (nomark _)
  exact pef_un unf_neg (pef_var (pv 3))
  refine pssf_cons ?_ pssf_nil
  refine psf_expr ?_
  refine pef_dm PySem.F.slot_dict_setdefault PySem.F.type_dict_setdefault (sdeff hr.units) (pef_var (pv 4)) ?_
  refine paf_c ?_ ?_ ?_
  refine pef_slice (pef_var (pv 5)) ?_ pof_none
  exact pof_some pef_int
  refine paf_c ?_ ?_ ?_
  exact pef_ix (dgetf hr.units) (pef_var (pv 0)) (pef_var (pv 5)) (fun _ _ => rfl)
  exact paf_nil
  rfl
  rfl
  refine pssf_cons ?_ pssf_nil
  refine psf_if ?_ ?_ pssf_nil
  exact ptf_cmp (opf_ne hr.units) (pef_var (pv 6)) (pef_var (pv 3)) (nomark _)
  refine pssf_cons ?_ pssf_nil
  refine psf_expr ?_
  refine pef_dm PySem.F.slot_dict_setdefault PySem.F.type_dict_setdefault (sdeff hr.units) (pef_var (pv 4)) ?_
  refine paf_c ?_ ?_ ?_
  exact (pef_var (pv 5))
  refine paf_c ?_ ?_ ?_
  exact pef_ix (dgetf hr.units) (pef_var (pv 0)) (pef_var (pv 5)) (fun _ _ => rfl)
  exact paf_nil
  rfl
  rfl
  refine pssf_cons ?_ pssf_nil
  exact psf_ret (pef_var (pv 4))
theorem ok_other_side (T : Top w K mg) : Fn P w K mg base 1 "other_side" ["side"] m_other_side := by
  refine (fun h => h : _ → Fn P w K mg base 1 "other_side" ["side"] (runB 1 1 b_other_side)) (fn_mk (N := ["side"]) (k := 0) T.t_other_side sc_other_side (fun _ _ _ _ _ _ us hl => by obtain ⟨_, rfl⟩ := us1 hl; rfl) ?_)
  intro f cdv A outer s H E hr
  unfold b_other_side
  refine pssf_cons ?_ pssf_nil
  refine psf_ret ?_
  refine pef_if ?_ pef_str pef_str
  exact ptf_cmp (opf_eq hr.units) (pef_var (pv 0)) pef_str (nomark _)
theorem ok_are_of_all (T : Top w K mg) : Fn P w K mg base 1 "are_of_all" ["kinds", "literals"] m_are_of_all := by
  refine (fun h => h : _ → Fn P w K mg base 1 "are_of_all" ["kinds", "literals"] (runB 2 2 b_are_of_all)) (fn_mk (N := ["kinds", "literals"]) (k := 0) T.t_are_of_all sc_are_of_all (fun _ _ _ _ _ _ us hl => by obtain ⟨_, _, rfl⟩ := us2 hl; rfl) ?_)
  intro f cdv A outer s H E hr
  unfold b_are_of_all
  refine pssf_cons ?_ pssf_nil
  refine psf_ret ?_
  refine pef_callB (callf_all (by rfl)) ?_ T.n_all bb_all ?_
  rfl
  refine paf_c ?_ ?_ ?_
  refine pef_lc (cn := ["kinds"]) ?_ (blk_fn (x := "literal") (cn := ["kinds"]) (ci := [0]) (by decide +kernel)) ?_ ?_ ?_
  rfl
  exact pif_seq (pef_var (pv 1))
  intro _ _ _ _ _ _
  exact ptsf_nil
  intro _ _ _ _ _ _
  refine pef_cmp (opf_eq hr.units) ?_ pef_str (nomark _)
  refine pef_ix ixf (pef_var (pv 1)) ?_ (fun _ _ => rfl)
  refine pef_op opf_sub ?_ pef_int
  refine pef_callB callf_abs ?_ T.n_abs bb_abs ?_
  rfl
  refine paf_c ?_ ?_ ?_
  exact (pef_var (pv 0))
  exact paf_nil
  rfl
  exact paf_nil
  rfl
theorem ok_number_of_lost (T : Top w K mg) (F_are_of_all : Fn P w K mg base 1 "are_of_all" ["kinds", "literals"] m_are_of_all) : Fn P w K mg base 2 "number_of_lost" ["kinds", "rows"] m_number_of_lost := by
  refine (fun h => h : _ → Fn P w K mg base 2 "number_of_lost" ["kinds", "rows"] (runB 2 3 b_number_of_lost)) (fn_mk (N := ["kinds", "rows", "row"]) (k := 1) T.t_number_of_lost sc_number_of_lost (fun _ _ _ _ _ _ us hl => by obtain ⟨_, _, rfl⟩ := us2 hl; rfl) ?_)
  intro f cdv A outer s H E hr
  unfold b_number_of_lost
  refine pssf_cons ?_ ?_
  refine psf_for PassesOwn.never ?_ ?_ ?_ ?_
  rfl
  exact pif_dic (pef_var (pv 1))
  refine pgf_name (i := 2) ?_ ?_ ?_
  exact sc_number_of_lost.nd
  rfl
  first | exact Or.inl rfl | exact Or.inr rfl
  refine pssf_cons ?_ pssf_nil
  refine psf_if ?_ ?_ pssf_nil
  refine ptf_truth ?_ (fun _ => rfl)
  refine pef_fn F_are_of_all (hr.mono (by decide)) ?_ ?_
  rfl
  refine paf_c ?_ ?_ ?_
  exact (pef_var (pv 0))
  refine paf_c ?_ ?_ ?_
  exact (pef_var (pv 2))
  exact paf_nil
  rfl
  rfl
  refine pssf_cons ?_ pssf_nil
  refine psf_ret ?_
  exact pef_ix (dgetf hr.units) (pef_var (pv 1)) (pef_var (pv 2)) (fun _ _ => rfl)
  refine pssf_cons ?_ pssf_nil
  exact psf_ret pef_non
theorem ok_law_mix (T : Top w K mg) : Fn P w K mg base 1 "_law_mix" ["cell", "k"] m_law_mix := by
  refine (fun h => h : _ → Fn P w K mg base 1 "_law_mix" ["cell", "k"] (runB 2 4 b_law_mix)) (fn_mk (N := ["cell", "k", "prime", "one"]) (k := 0) T.t_law_mix sc_law_mix (fun _ _ _ _ _ _ us hl => by obtain ⟨_, _, rfl⟩ := us2 hl; rfl) ?_)
  intro f cdv A outer s H E hr
  unfold b_law_mix
  refine pssf_cons ?_ ?_
  refine psf_set (i := 2) ?_ ?_ ?_ ?_
  exact sc_law_mix.nd
  rfl
  first | exact Or.inl rfl | exact Or.inr rfl
  refine pef_ix ixf ?_ ?_ (fun _ _ => rfl)
  refine pef_lst ?_
  refine paf_c ?_ ?_ ?_
  exact pef_int
  refine paf_c ?_ ?_ ?_
  exact pef_int
  refine paf_c ?_ ?_ ?_
  exact pef_int
  refine paf_c ?_ ?_ ?_
  exact pef_int
  refine paf_c ?_ ?_ ?_
  exact pef_int
  refine paf_c ?_ ?_ ?_
  exact pef_int
  refine paf_c ?_ ?_ ?_
  exact pef_int
  exact paf_nil
  rfl
  rfl
  rfl
  rfl
  rfl
  rfl
  rfl
  exact pef_op opf_mod (pef_var (pv 1)) pef_int
  refine pssf_cons ?_ ?_
  refine psf_set (i := 3) ?_ ?_ ?_ ?_
  exact sc_law_mix.nd
  rfl
  first | exact Or.inl rfl | exact Or.inr rfl
  refine pef_op opf_mod ?_ (pef_var (pv 2))
  refine pef_op opf_mul ?_ ?_
  refine pef_op opf_add ?_ ?_
  exact pef_op opf_mod (pef_var (pv 0)) pef_int
  refine pef_op opf_mul pef_int ?_
  exact pef_op opf_add (pef_var (pv 1)) pef_int
  refine pef_op opf_add ?_ pef_int
  refine pef_op opf_add ?_ ?_
  exact pef_op opf_mul (pef_var (pv 1)) (pef_var (pv 1))
  exact pef_op opf_mul pef_int (pef_var (pv 1))
  refine pssf_cons ?_ ?_
  refine psf_set (i := 3) ?_ ?_ ?_ ?_
  exact sc_law_mix.nd
  rfl
  first | exact Or.inl rfl | exact Or.inr rfl
  refine pef_op opf_mod ?_ pef_int
  exact pef_op opf_pow (pef_var (pv 3)) pef_int
  refine pssf_cons ?_ ?_
  refine psf_set (i := 3) ?_ ?_ ?_ ?_
  exact sc_law_mix.nd
  rfl
  first | exact Or.inl rfl | exact Or.inr rfl
  refine pef_op opf_mod ?_ (pef_var (pv 2))
  refine pef_op opf_add ?_ pef_int
  refine pef_op opf_add ?_ ?_
  exact pef_op opf_mul (pef_var (pv 3)) pef_int
  exact pef_op opf_mul pef_int (pef_var (pv 1))
  refine pssf_cons ?_ pssf_nil
  refine psf_ret ?_
  refine pef_op opf_fdiv ?_ pef_int
  refine pef_op opf_mod ?_ pef_int
  exact pef_op opf_pow (pef_var (pv 3)) pef_int
theorem ok_law_digits (T : Top w K mg) (F_law_mix : Fn P w K mg base 1 "_law_mix" ["cell", "k"] m_law_mix) : Fn P w K mg base 2 "_law_digits" ["cell", "many"] m_law_digits := by
  refine (fun h => h : _ → Fn P w K mg base 2 "_law_digits" ["cell", "many"] (runB 2 6 b_law_digits)) (fn_mk (N := ["cell", "many", "found", "left_over", "wide", "k"]) (k := 1) T.t_law_digits sc_law_digits (fun _ _ _ _ _ _ us hl => by obtain ⟨_, _, rfl⟩ := us2 hl; rfl) ?_)
  intro f cdv A outer s H E hr
  unfold b_law_digits
  refine pssf_cons ?_ ?_
  refine psf_set (i := 2) ?_ ?_ ?_ ?_
  exact sc_law_digits.nd
  rfl
  first | exact Or.inl rfl | exact Or.inr rfl
  exact pef_lst paf_nil
  refine pssf_cons ?_ ?_
  refine psf_set (i := 3) ?_ ?_ ?_ ?_
  exact sc_law_digits.nd
  rfl
  first | exact Or.inl rfl | exact Or.inr rfl
  refine pef_callB callf_abs ?_ T.n_abs bb_abs ?_
  rfl
  refine paf_c ?_ ?_ ?_
  exact (pef_var (pv 0))
  exact paf_nil
  rfl
  refine pssf_cons ?_ ?_
  refine psf_set (i := 4) ?_ ?_ ?_ ?_
  exact sc_law_digits.nd
  rfl
  first | exact Or.inl rfl | exact Or.inr rfl
  refine pef_cmp opf_ge (pef_var (pv 3)) ?_ (nomark _)
  exact pef_op opf_pow pef_int pef_int
  refine pssf_cons ?_ ?_
  refine psf_for PassesOwn.never ?_ ?_ ?_ ?_
  rfl
  refine pif_range1 ?_ T.n_range ?_
  rfl
  refine paf_c ?_ ?_ ?_
  exact (pef_var (pv 1))
  exact paf_nil
  rfl
  refine pgf_name (i := 5) ?_ ?_ ?_
  exact sc_law_digits.nd
  rfl
  first | exact Or.inl rfl | exact Or.inr rfl
  refine pssf_cons ?_ pssf_nil
  refine psf_if ?_ ?_ ?_
  refine PWf.pt ?_
  refine pwf_and ?_ ?_
  exact ptf_truth (pef_var (pv 4)) (fun _ => rfl)
  refine pwf_and1 ?_
  exact ptf_cmp opf_gt (pef_var (pv 3)) pef_int (nomark _)
  refine pssf_cons ?_ ?_
  refine psf_expr ?_
  refine pef_lm PySem.F.slot_list_append PySem.F.type_list_append mtf_append (pef_var (pv 2)) ?_
  refine paf_c ?_ ?_ ?_
  exact pef_op opf_mod (pef_var (pv 3)) pef_int
  exact paf_nil
  rfl
  refine pssf_cons ?_ pssf_nil
  refine psf_set (i := 3) ?_ ?_ ?_ ?_
  exact sc_law_digits.nd
  rfl
  first | exact Or.inl rfl | exact Or.inr rfl
  exact pef_op opf_fdiv (pef_var (pv 3)) pef_int
  refine pssf_cons ?_ pssf_nil
  refine psf_expr ?_
  refine pef_lm PySem.F.slot_list_append PySem.F.type_list_append mtf_append (pef_var (pv 2)) ?_
  refine paf_c ?_ ?_ ?_
  refine pef_fn F_law_mix (hr.mono (by decide)) ?_ ?_
  rfl
  refine paf_c ?_ ?_ ?_
  exact (pef_var (pv 0))
  refine paf_c ?_ ?_ ?_
  exact (pef_var (pv 5))
  exact paf_nil
  rfl
  rfl
  exact paf_nil
  rfl
  refine pssf_cons ?_ pssf_nil
  exact psf_ret (pef_var (pv 2))
theorem ok_law_at (T : Top w K mg) : Fn P w K mg base 1 "_law_at" ["script", "k"] m_law_at := by
  refine (fun h => h : _ → Fn P w K mg base 1 "_law_at" ["script", "k"] (runB 2 2 b_law_at)) (fn_mk (N := ["script", "k"]) (k := 0) T.t_law_at sc_law_at (fun _ _ _ _ _ _ us hl => by obtain ⟨_, _, rfl⟩ := us2 hl; rfl) ?_)
  intro f cdv A outer s H E hr
  unfold b_law_at
  refine pssf_cons ?_ ?_
  refine psf_if ?_ ?_ pssf_nil
  refine ptf_cmp opf_lt (pef_var (pv 1)) ?_ (nomark _)
  refine pef_callB callf_len ?_ T.n_len bb_len ?_
  rfl
  refine paf_c ?_ ?_ ?_
  exact (pef_var (pv 0))
  exact paf_nil
  rfl
  refine pssf_cons ?_ pssf_nil
  refine psf_ret ?_
  exact pef_ix ixf (pef_var (pv 0)) (pef_var (pv 1)) (fun _ _ => rfl)
  refine pssf_cons ?_ pssf_nil
  refine psf_ret ?_
  refine pef_op opf_add ?_ ?_
  refine pef_op opf_add ?_ pef_int
  exact pef_op opf_mul pef_int (pef_var (pv 1))
  refine pef_callB callf_len ?_ T.n_len bb_len ?_
  rfl
  refine paf_c ?_ ?_ ?_
  exact (pef_var (pv 0))
  exact paf_nil
  rfl
theorem ok_law_kinds (T : Top w K mg) : Fn P w K mg base 1 "_law_kinds" ["some", "many"] m_law_kinds := by
  refine (fun h => h : _ → Fn P w K mg base 1 "_law_kinds" ["some", "many"] (runB 2 5 b_law_kinds)) (fn_mk (N := ["some", "many", "found", "k", "kind"]) (k := 0) T.t_law_kinds sc_law_kinds (fun _ _ _ _ _ _ us hl => by obtain ⟨_, _, rfl⟩ := us2 hl; rfl) ?_)
  intro f cdv A outer s H E hr
  unfold b_law_kinds
  refine pssf_cons ?_ ?_
  refine psf_set (i := 2) ?_ ?_ ?_ ?_
  exact sc_law_kinds.nd
  rfl
  first | exact Or.inl rfl | exact Or.inr rfl
  exact pef_lst paf_nil
  refine pssf_cons ?_ ?_
  refine psf_for PassesOwn.never ?_ ?_ ?_ ?_
  rfl
  refine pif_range1 ?_ T.n_range ?_
  rfl
  refine paf_c ?_ ?_ ?_
  exact (pef_var (pv 1))
  exact paf_nil
  rfl
  refine pgf_name (i := 3) ?_ ?_ ?_
  exact sc_law_kinds.nd
  rfl
  first | exact Or.inl rfl | exact Or.inr rfl
  refine pssf_cons ?_ ?_
  refine psf_set (i := 4) ?_ ?_ ?_ ?_
  exact sc_law_kinds.nd
  rfl
  first | exact Or.inl rfl | exact Or.inr rfl
  refine pef_ix ixf ?_ ?_ (fun _ _ => rfl)
  refine pef_lst ?_
  refine paf_c ?_ ?_ ?_
  exact pef_str
  refine paf_c ?_ ?_ ?_
  exact pef_str
  exact paf_nil
  rfl
  rfl
  refine pef_op opf_mod ?_ pef_int
  refine pef_ix ixf (pef_var (pv 0)) ?_ (fun _ _ => rfl)
  exact pef_op opf_add pef_int (pef_var (pv 3))
  refine pssf_cons ?_ ?_
  refine psf_if ?_ ?_ pssf_nil
  refine ptf_cmp (opf_eq hr.units) ?_ pef_int (nomark _)
  refine pef_op opf_mod ?_ pef_int
  exact pef_ix ixf (pef_var (pv 0)) pef_int (fun _ _ => rfl)
  refine pssf_cons ?_ pssf_nil
  refine psf_set (i := 4) ?_ ?_ ?_ ?_
  exact sc_law_kinds.nd
  rfl
  first | exact Or.inl rfl | exact Or.inr rfl
  refine pef_ix ixf ?_ ?_ (fun _ _ => rfl)
  refine pef_lst ?_
  refine paf_c ?_ ?_ ?_
  exact pef_str
  refine paf_c ?_ ?_ ?_
  exact pef_str
  exact paf_nil
  rfl
  rfl
  refine pef_op opf_mod ?_ pef_int
  refine pef_op opf_add (pef_var (pv 3)) ?_
  exact pef_ix ixf (pef_var (pv 0)) pef_int (fun _ _ => rfl)
  refine pssf_cons ?_ ?_
  refine psf_if ?_ ?_ pssf_nil
  refine ptf_cmp (opf_eq hr.units) ?_ pef_int (nomark _)
  refine pef_op opf_mod ?_ pef_int
  exact pef_ix ixf (pef_var (pv 0)) pef_int (fun _ _ => rfl)
  refine pssf_cons ?_ pssf_nil
  refine psf_set (i := 4) ?_ ?_ ?_ ?_
  exact sc_law_kinds.nd
  rfl
  first | exact Or.inl rfl | exact Or.inr rfl
  refine pef_ix ixf ?_ ?_ (fun _ _ => rfl)
  refine pef_lst ?_
  refine paf_c ?_ ?_ ?_
  exact pef_str
  refine paf_c ?_ ?_ ?_
  exact pef_str
  exact paf_nil
  rfl
  rfl
  refine pef_callTy callf_int ?_ T.n_int bb_int ?_
  rfl
  refine paf_c ?_ ?_ ?_
  refine pef_cmp opf_gt ?_ pef_int (nomark _)
  refine pef_op opf_mod ?_ pef_int
  refine pef_ix ixf (pef_var (pv 0)) ?_ (fun _ _ => rfl)
  exact pef_op opf_add pef_int (pef_var (pv 3))
  exact paf_nil
  rfl
  refine pssf_cons ?_ pssf_nil
  refine psf_expr ?_
  refine pef_lm PySem.F.slot_list_append PySem.F.type_list_append mtf_append (pef_var (pv 2)) ?_
  refine paf_c ?_ ?_ ?_
  exact (pef_var (pv 4))
  exact paf_nil
  rfl
  refine pssf_cons ?_ pssf_nil
  refine psf_ret ?_
  refine pef_callTy callf_tuple ?_ T.n_tuple bb_tuple ?_
  rfl
  refine paf_c ?_ ?_ ?_
  exact (pef_var (pv 2))
  exact paf_nil
  rfl
theorem ok_law_row (T : Top w K mg) (F_law_digits : Fn P w K mg base 2 "_law_digits" ["cell", "many"] m_law_digits) : Fn P w K mg base 3 "_law_row" ["cell", "many", "wide"] m_law_row := by
  refine (fun h => h : _ → Fn P w K mg base 3 "_law_row" ["cell", "many", "wide"] (runB 3 6 b_law_row)) (fn_mk (N := ["cell", "many", "wide", "some", "found", "k"]) (k := 2) T.t_law_row sc_law_row (fun _ _ _ _ _ _ us hl => by obtain ⟨_, _, _, rfl⟩ := us3 hl; rfl) ?_)
  intro f cdv A outer s H E hr
  unfold b_law_row
  refine pssf_cons ?_ ?_
  refine psf_set (i := 3) ?_ ?_ ?_ ?_
  exact sc_law_row.nd
  rfl
  first | exact Or.inl rfl | exact Or.inr rfl
  refine pef_fn F_law_digits (hr.mono (by decide)) ?_ ?_
  rfl
  refine paf_c ?_ ?_ ?_
  exact (pef_var (pv 0))
  refine paf_c ?_ ?_ ?_
  exact pef_op opf_add (pef_var (pv 1)) pef_int
  exact paf_nil
  rfl
  rfl
  refine pssf_cons ?_ ?_
  refine psf_set (i := 4) ?_ ?_ ?_ ?_
  exact sc_law_row.nd
  rfl
  first | exact Or.inl rfl | exact Or.inr rfl
  exact pef_lst paf_nil
  refine pssf_cons ?_ ?_
  refine psf_for PassesOwn.never ?_ ?_ ?_ ?_
  rfl
  refine pif_range1 ?_ T.n_range ?_
  rfl
  refine paf_c ?_ ?_ ?_
  exact (pef_var (pv 1))
  exact paf_nil
  rfl
  refine pgf_name (i := 5) ?_ ?_ ?_
  exact sc_law_row.nd
  rfl
  first | exact Or.inl rfl | exact Or.inr rfl
  refine pssf_cons ?_ pssf_nil
  refine psf_if ?_ ?_ pssf_nil
  refine ptf_cmp opf_lt ?_ ?_ (nomark _)
  refine pef_op opf_mod ?_ ?_
  refine pef_ix ixf (pef_var (pv 3)) ?_ (fun _ _ => rfl)
  exact pef_op opf_add pef_int (pef_var (pv 5))
  exact pef_op opf_add (pef_var (pv 1)) pef_int
  refine pef_op opf_add (pef_var (pv 2)) ?_
  refine pef_op opf_mod ?_ pef_int
  exact pef_ix ixf (pef_var (pv 3)) pef_int (fun _ _ => rfl)
  refine pssf_cons ?_ pssf_nil
  refine psf_expr ?_
  refine pef_lm PySem.F.slot_list_append PySem.F.type_list_append mtf_append (pef_var (pv 4)) ?_
  refine paf_c ?_ ?_ ?_
  refine pef_ix ixf ?_ ?_ (fun _ _ => rfl)
  refine pef_lst ?_
  refine paf_c ?_ ?_ ?_
  exact pef_op opf_add (pef_var (pv 5)) pef_int
  refine paf_c ?_ ?_ ?_
  refine pef_op opf_sub ?_ pef_int
  exact pef_op opf_sub pef_int (pef_var (pv 5))
  exact paf_nil
  rfl
  rfl
  refine pef_op opf_mod ?_ pef_int
  refine pef_op opf_fdiv ?_ ?_
  refine pef_ix ixf (pef_var (pv 3)) ?_ (fun _ _ => rfl)
  exact pef_op opf_add pef_int (pef_var (pv 5))
  exact pef_op opf_add (pef_var (pv 1)) pef_int
  exact paf_nil
  rfl
  refine pssf_cons ?_ pssf_nil
  refine psf_ret ?_
  refine pef_callTy callf_tuple ?_ T.n_tuple bb_tuple ?_
  rfl
  refine paf_c ?_ ?_ ?_
  exact (pef_var (pv 4))
  exact paf_nil
  rfl
theorem ok_law_claim (T : Top w K mg) (F_law_row : Fn P w K mg base 3 "_law_row" ["cell", "many", "wide"] m_law_row) (F_law_at : Fn P w K mg base 1 "_law_at" ["script", "k"] m_law_at) (F_law_kinds : Fn P w K mg base 1 "_law_kinds" ["some", "many"] m_law_kinds) (F_law_digits : Fn P w K mg base 2 "_law_digits" ["cell", "many"] m_law_digits) : Fn P w K mg base 4 "_law_claim" ["script", "most"] m_law_claim := by
  refine (fun h => h : _ → Fn P w K mg base 4 "_law_claim" ["script", "most"] (runB 2 7 b_law_claim)) (fn_mk (N := ["script", "most", "some", "many", "kinds", "size", "rows"]) (k := 3) T.t_law_claim sc_law_claim (fun _ _ _ _ _ _ us hl => by obtain ⟨_, _, rfl⟩ := us2 hl; rfl) ?_)
  intro f cdv A outer s H E hr
  unfold b_law_claim
  refine pssf_cons ?_ ?_
  refine psf_set (i := 2) ?_ ?_ ?_ ?_
  exact sc_law_claim.nd
  rfl
  first | exact Or.inl rfl | exact Or.inr rfl
  refine pef_fn F_law_digits (hr.mono (by decide)) ?_ ?_
  rfl
  refine paf_c ?_ ?_ ?_
  refine pef_fn F_law_at (hr.mono (by decide)) ?_ ?_
  rfl
  refine paf_c ?_ ?_ ?_
  exact (pef_var (pv 0))
  refine paf_c ?_ ?_ ?_
  exact pef_int
  exact paf_nil
  rfl
  rfl
  refine paf_c ?_ ?_ ?_
  exact pef_int
  exact paf_nil
  rfl
  rfl
  refine pssf_cons ?_ ?_
  refine psf_set (i := 3) ?_ ?_ ?_ ?_
  exact sc_law_claim.nd
  rfl
  first | exact Or.inl rfl | exact Or.inr rfl
  refine pef_ix ixf ?_ ?_ (fun _ _ => rfl)
  refine pef_lst ?_
  refine paf_c ?_ ?_ ?_
  refine pef_op opf_mod ?_ ?_
  exact pef_ix ixf (pef_var (pv 2)) pef_int (fun _ _ => rfl)
  exact pef_op opf_add (pef_var (pv 1)) pef_int
  refine paf_c ?_ ?_ ?_
  refine pef_op opf_sub (pef_var (pv 1)) ?_
  refine pef_op opf_mod ?_ pef_int
  exact pef_ix ixf (pef_var (pv 2)) pef_int (fun _ _ => rfl)
  refine paf_c ?_ ?_ ?_
  exact (pef_var (pv 1))
  exact paf_nil
  rfl
  rfl
  rfl
  refine pef_op opf_mod ?_ pef_int
  exact pef_ix ixf (pef_var (pv 2)) pef_int (fun _ _ => rfl)
  refine pssf_cons ?_ ?_
  refine psf_set (i := 4) ?_ ?_ ?_ ?_
  exact sc_law_claim.nd
  rfl
  first | exact Or.inl rfl | exact Or.inr rfl
  refine pef_fn F_law_kinds (hr.mono (by decide)) ?_ ?_
  rfl
  refine paf_c ?_ ?_ ?_
  refine pef_slice (pef_var (pv 2)) ?_ pof_none
  exact pof_some pef_int
  refine paf_c ?_ ?_ ?_
  refine pef_callB (callf_max (by rfl)) ?_ T.n_max bb_max ?_
  rfl
  refine paf_c ?_ ?_ ?_
  exact pef_int
  refine paf_c ?_ ?_ ?_
  exact (pef_var (pv 3))
  exact paf_nil
  rfl
  rfl
  exact paf_nil
  rfl
  rfl
  refine pssf_cons ?_ ?_
  refine psf_set (i := 5) ?_ ?_ ?_ ?_
  exact sc_law_claim.nd
  rfl
  first | exact Or.inl rfl | exact Or.inr rfl
  refine pef_ix ixf ?_ ?_ (fun _ _ => rfl)
  refine pef_lst ?_
  refine paf_c ?_ ?_ ?_
  refine pef_op opf_mod ?_ pef_int
  exact pef_ix ixf (pef_var (pv 2)) pef_int (fun _ _ => rfl)
  refine paf_c ?_ ?_ ?_
  refine pef_op opf_mod ?_ pef_int
  exact pef_ix ixf (pef_var (pv 2)) pef_int (fun _ _ => rfl)
  refine paf_c ?_ ?_ ?_
  refine pef_op opf_add pef_int ?_
  refine pef_op opf_mod ?_ pef_int
  exact pef_ix ixf (pef_var (pv 2)) pef_int (fun _ _ => rfl)
  exact paf_nil
  rfl
  rfl
  rfl
  refine pef_op opf_mod ?_ pef_int
  exact pef_ix ixf (pef_var (pv 2)) pef_int (fun _ _ => rfl)
  refine pssf_cons ?_ ?_
  refine psf_lcset (i := 6) (cn := ["script", "kinds"]) ?_ (blk_fn (x := "k") (cn := ["script", "kinds"]) (ci := [0, 4]) (by decide +kernel)) ?_ ?_ ?_ ?_ ?_ ?_
  rfl
  refine pif_range1 ?_ T.n_range ?_
  rfl
  refine paf_c ?_ ?_ ?_
  exact (pef_var (pv 5))
  exact paf_nil
  rfl
  intro _ _ _ _ _ _
  exact ptsf_nil
  intro _ _ _ _ _ _
  refine pef_fn F_law_row (hr.mono (by decide)) ?_ ?_
  rfl
  refine paf_c ?_ ?_ ?_
  refine pef_fn F_law_at (hr.mono (by decide)) ?_ ?_
  rfl
  refine paf_c ?_ ?_ ?_
  exact (pef_var (pv 1))
  refine paf_c ?_ ?_ ?_
  exact pef_op opf_add pef_int (pef_var (pv 0))
  exact paf_nil
  rfl
  rfl
  refine paf_c ?_ ?_ ?_
  refine pef_callB callf_len ?_ T.n_len bb_len ?_
  rfl
  refine paf_c ?_ ?_ ?_
  exact (pef_var (pv 2))
  exact paf_nil
  rfl
  refine paf_c ?_ ?_ ?_
  exact pef_int
  exact paf_nil
  rfl
  rfl
  rfl
  exact sc_law_claim.nd
  rfl
  rfl
  refine pssf_cons ?_ ?_
  refine psf_if ?_ ?_ pssf_nil
  refine ptf_cmp opf_gt ?_ pef_int (nomark _)
  refine pef_op opf_mod ?_ pef_int
  exact pef_ix ixf (pef_var (pv 2)) pef_int (fun _ _ => rfl)
  refine pssf_cons ?_ pssf_nil
  refine psf_lcset (i := 6) (cn := []) ?_ (blk_fn (x := "row") (cn := []) (ci := []) (by decide +kernel)) ?_ ?_ ?_ ?_ ?_ ?_
  rfl
  exact pif_seq (pef_var (pv 6))
  intro _ _ _ _ _ _
  refine ptsf_one ?_
  refine ptf_cmp (opf_ne hr.units) (pef_var (pv 0)) ?_ (nomark _)
  exact pef_tup paf_nil
  intro _ _ _ _ _ _
  exact (pef_var (pv 0))
  exact sc_law_claim.nd
  rfl
  rfl
  refine pssf_cons ?_ pssf_nil
  refine psf_ret ?_
  refine pef_tup ?_
  refine paf_c ?_ ?_ ?_
  exact (pef_var (pv 4))
  refine paf_c ?_ ?_ ?_
  refine pef_callTy callf_tuple ?_ T.n_tuple bb_tuple ?_
  rfl
  refine paf_c ?_ ?_ ?_
  exact (pef_var (pv 6))
  exact paf_nil
  rfl
  exact paf_nil
  rfl
  rfl
theorem ok_law_tree (T : Top w K mg) : Fn P w K mg base 11 "_law_tree" ["some", "deep"] m_law_tree := by
  refine (fun h => h : _ → Fn P w K mg base 11 "_law_tree" ["some", "deep"] (recF 2 3 b_law_tree 10)) (fn_rec (N := ["some", "deep", "one"]) (k := 0) T.t_law_tree sc_law_tree (fun _ _ _ _ _ _ us hl => by obtain ⟨_, _, rfl⟩ := us2 hl; rfl) ?_ 10)
  intro F j G f cdv A outer s H E hr
  unfold b_law_tree
  refine pssf_cons ?_ ?_
  refine psf_set (i := 2) ?_ ?_ ?_ ?_
  exact sc_law_tree.nd
  rfl
  first | exact Or.inl rfl | exact Or.inr rfl
  refine pef_lm PySem.F.slot_list_pop PySem.F.type_list_pop mtf_pop (pef_var (pv 0)) ?_
  refine paf_c ?_ ?_ ?_
  exact pef_int
  exact paf_nil
  rfl
  refine pssf_cons ?_ ?_
  refine psf_expr ?_
  refine pef_lm PySem.F.slot_list_append PySem.F.type_list_append mtf_append (pef_var (pv 0)) ?_
  refine paf_c ?_ ?_ ?_
  refine pef_op opf_add ?_ pef_int
  exact pef_op opf_fdiv (pef_var (pv 2)) pef_int
  exact paf_nil
  rfl
  refine pssf_cons ?_ ?_
  refine psf_if ?_ ?_ pssf_nil
  refine PWf.pt ?_
  refine pwf_or ?_ ?_
  exact ptf_cmp (opf_eq hr.units) (pef_var (pv 1)) pef_int (nomark _)
  refine pwf_or ?_ ?_
  refine ptf_cmp opf_gt ?_ pef_int (nomark _)
  refine pef_callB callf_len ?_ T.n_len bb_len ?_
  rfl
  refine paf_c ?_ ?_ ?_
  exact (pef_var (pv 0))
  exact paf_nil
  rfl
  refine pwf_or1 ?_
  refine ptf_cmp (opf_eq hr.units) ?_ pef_int (nomark _)
  exact pef_op opf_mod (pef_var (pv 2)) pef_int
  refine pssf_cons ?_ pssf_nil
  refine psf_ret ?_
  refine pef_ix ixf ?_ ?_ (fun _ _ => rfl)
  refine pef_lst ?_
  refine paf_c ?_ ?_ ?_
  refine pef_tup ?_
  refine paf_c ?_ ?_ ?_
  exact pef_str
  exact paf_nil
  rfl
  refine paf_c ?_ ?_ ?_
  refine pef_tup ?_
  refine paf_c ?_ ?_ ?_
  exact pef_str
  refine paf_c ?_ ?_ ?_
  refine pef_op opf_mod ?_ pef_int
  exact pef_op opf_fdiv (pef_var (pv 2)) pef_int
  exact paf_nil
  rfl
  rfl
  exact paf_nil
  rfl
  rfl
  refine pef_op opf_mod ?_ pef_int
  exact pef_op opf_fdiv (pef_var (pv 2)) pef_int
  refine pssf_cons ?_ ?_
  refine psf_if ?_ ?_ pssf_nil
  refine ptf_cmp opf_lt ?_ pef_int (nomark _)
  exact pef_op opf_mod (pef_var (pv 2)) pef_int
  refine pssf_cons ?_ pssf_nil
  refine psf_ret ?_
  refine pef_tup ?_
  refine paf_c ?_ ?_ ?_
  exact pef_str
  refine paf_c ?_ ?_ ?_
  refine pef_cmp (opf_eq hr.units) ?_ pef_int (nomark _)
  refine pef_op opf_mod ?_ pef_int
  exact pef_op opf_fdiv (pef_var (pv 2)) pef_int
  refine paf_c ?_ ?_ ?_
  refine pef_fn G (hr.mono (Nat.le_refl _)) ?_ ?_
  rfl
  refine paf_c ?_ ?_ ?_
  exact (pef_var (pv 0))
  refine paf_c ?_ ?_ ?_
  exact pef_op opf_sub (pef_var (pv 1)) pef_int
  exact paf_nil
  rfl
  rfl
  exact paf_nil
  rfl
  rfl
  rfl
  refine pssf_cons ?_ pssf_nil
  refine psf_ret ?_
  refine pef_tup ?_
  refine paf_c ?_ ?_ ?_
  exact pef_str
  refine paf_c ?_ ?_ ?_
  refine pef_fn G (hr.mono (Nat.le_refl _)) ?_ ?_
  rfl
  refine paf_c ?_ ?_ ?_
  exact (pef_var (pv 0))
  refine paf_c ?_ ?_ ?_
  refine pef_op opf_sub ?_ ?_
  exact pef_op opf_sub (pef_var (pv 1)) pef_int
  refine pef_op opf_mod ?_ ?_
  exact pef_op opf_fdiv (pef_var (pv 2)) pef_int
  refine pef_callB (callf_min (by rfl)) ?_ T.n_min bb_min ?_
  rfl
  refine paf_c ?_ ?_ ?_
  exact (pef_var (pv 1))
  refine paf_c ?_ ?_ ?_
  exact pef_int
  exact paf_nil
  rfl
  rfl
  exact paf_nil
  rfl
  rfl
  refine paf_c ?_ ?_ ?_
  refine pef_fn G (hr.mono (Nat.le_refl _)) ?_ ?_
  rfl
  refine paf_c ?_ ?_ ?_
  exact (pef_var (pv 0))
  refine paf_c ?_ ?_ ?_
  exact pef_op opf_sub (pef_var (pv 1)) pef_int
  exact paf_nil
  rfl
  rfl
  exact paf_nil
  rfl
  rfl
  rfl
theorem ok_law_shown (T : Top w K mg) : Fn P w K mg base 11 "_law_shown" ["tree"] m_law_shown := by
  refine (fun h => h : _ → Fn P w K mg base 11 "_law_shown" ["tree"] (recF 1 1 b_law_shown 10)) (fn_rec (N := ["tree"]) (k := 0) T.t_law_shown sc_law_shown (fun _ _ _ _ _ _ us hl => by obtain ⟨_, rfl⟩ := us1 hl; rfl) ?_ 10)
  intro F j G f cdv A outer s H E hr
  unfold b_law_shown
  refine pssf_cons ?_ ?_
  refine psf_if ?_ ?_ pssf_nil
  refine ptf_cmp (opf_eq hr.units) ?_ pef_str (nomark _)
  exact pef_ix ixf (pef_var (pv 0)) pef_int (fun _ _ => rfl)
  refine pssf_cons ?_ pssf_nil
  exact psf_ret pef_str
  refine pssf_cons ?_ ?_
  refine psf_if ?_ ?_ pssf_nil
  refine ptf_cmp (opf_eq hr.units) ?_ pef_str (nomark _)
  exact pef_ix ixf (pef_var (pv 0)) pef_int (fun _ _ => rfl)
  refine pssf_cons ?_ pssf_nil
  refine psf_ret ?_
  refine pef_callTy callf_str ?_ T.n_str bb_str ?_
  rfl
  refine paf_c ?_ ?_ ?_
  exact pef_ix ixf (pef_var (pv 0)) pef_int (fun _ _ => rfl)
  exact paf_nil
  rfl
  refine pssf_cons ?_ ?_
  refine psf_if ?_ ?_ pssf_nil
  refine ptf_cmp (opf_eq hr.units) ?_ pef_str (nomark _)
  exact pef_ix ixf (pef_var (pv 0)) pef_int (fun _ _ => rfl)
  refine pssf_cons ?_ pssf_nil
  refine psf_ret ?_
  refine pef_op opf_add ?_ ?_
  refine pef_ix sixf pef_str ?_ (fun _ _ => rfl)
  refine pef_callTy callf_int ?_ T.n_int bb_int ?_
  rfl
  refine paf_c ?_ ?_ ?_
  exact pef_ix ixf (pef_var (pv 0)) pef_int (fun _ _ => rfl)
  exact paf_nil
  rfl
  refine pef_fn G (hr.mono (Nat.le_refl _)) ?_ ?_
  rfl
  refine paf_c ?_ ?_ ?_
  exact pef_ix ixf (pef_var (pv 0)) pef_int (fun _ _ => rfl)
  exact paf_nil
  rfl
  refine pssf_cons ?_ pssf_nil
  refine psf_ret ?_
  refine pef_op opf_add ?_ pef_str
  refine pef_op opf_add ?_ ?_
  refine pef_op opf_add ?_ pef_str
  refine pef_op opf_add pef_str ?_
  refine pef_fn G (hr.mono (Nat.le_refl _)) ?_ ?_
  rfl
  refine paf_c ?_ ?_ ?_
  exact pef_ix ixf (pef_var (pv 0)) pef_int (fun _ _ => rfl)
  exact paf_nil
  rfl
  refine pef_fn G (hr.mono (Nat.le_refl _)) ?_ ?_
  rfl
  refine paf_c ?_ ?_ ?_
  exact pef_ix ixf (pef_var (pv 0)) pef_int (fun _ _ => rfl)
  exact paf_nil
  rfl
theorem ok_law_end_read (T : Top w K mg) : Fn P w K mg base 1 "_law_end_read" ["text", "at"] m_law_end_read := by
  refine (fun h => h : _ → Fn P w K mg base 1 "_law_end_read" ["text", "at"] (runB 2 5 b_law_end_read)) (fn_mk (N := ["text", "at", "numbers", "size", "word"]) (k := 0) T.t_law_end_read sc_law_end_read (fun _ _ _ _ _ _ us hl => by obtain ⟨_, _, rfl⟩ := us2 hl; rfl) ?_)
  intro f cdv A outer s H E hr
  unfold b_law_end_read
  refine pssf_cons ?_ ?_
  refine psf_if ?_ ?_ pssf_nil
  refine ptf_cmp (opf_eq hr.units) ?_ pef_str (nomark _)
  refine pef_sliceS (pef_var (pv 0)) ?_ ?_
  exact pof_some (pef_var (pv 1))
  refine pof_some ?_
  exact pef_op opf_add (pef_var (pv 1)) pef_int
  refine pssf_cons ?_ pssf_nil
  refine psf_ret ?_
  refine pef_tup ?_
  refine paf_c ?_ ?_ ?_
  refine pef_tup ?_
  refine paf_c ?_ ?_ ?_
  exact pef_str
  exact paf_nil
  rfl
  refine paf_c ?_ ?_ ?_
  exact pef_op opf_add (pef_var (pv 1)) pef_int
  exact paf_nil
  rfl
  rfl
  refine pssf_cons ?_ ?_
  refine psf_lcset (i := 2) (cn := []) ?_ (blk_fn (x := "number") (cn := []) (ci := []) (by decide +kernel)) ?_ ?_ ?_ ?_ ?_ ?_
  rfl
  refine pif_range1 ?_ T.n_range ?_
  rfl
  refine paf_c ?_ ?_ ?_
  exact pef_int
  exact paf_nil
  rfl
  intro _ _ _ _ _ _
  exact ptsf_nil
  intro _ _ _ _ _ _
  refine pef_callTy callf_str ?_ T.n_str bb_str ?_
  rfl
  refine paf_c ?_ ?_ ?_
  exact (pef_var (pv 0))
  exact paf_nil
  rfl
  exact sc_law_end_read.nd
  rfl
  rfl
  refine pssf_cons ?_ ?_
  refine psf_for PassesOwn.never ?_ ?_ ?_ ?_
  rfl
  refine pif_seq ?_
  refine pef_tup ?_
  refine paf_c ?_ ?_ ?_
  exact pef_int
  refine paf_c ?_ ?_ ?_
  exact pef_int
  exact paf_nil
  rfl
  rfl
  refine pgf_name (i := 3) ?_ ?_ ?_
  exact sc_law_end_read.nd
  rfl
  first | exact Or.inl rfl | exact Or.inr rfl
  refine pssf_cons ?_ ?_
  refine psf_set (i := 4) ?_ ?_ ?_ ?_
  exact sc_law_end_read.nd
  rfl
  first | exact Or.inl rfl | exact Or.inr rfl
  refine pef_sliceS (pef_var (pv 0)) ?_ ?_
  exact pof_some (pef_var (pv 1))
  refine pof_some ?_
  exact pef_op opf_add (pef_var (pv 1)) (pef_var (pv 3))
  refine pssf_cons ?_ pssf_nil
  refine psf_if ?_ ?_ pssf_nil
  refine PWf.pt ?_
  refine pwf_and ?_ ?_
  refine ptf_cmp (opf_in hr.units) (pef_var (pv 4)) (pef_var (pv 2)) ?_
  with_unfolding_all rfl
  refine pwf_and1 ?_
  refine ptf_cmp opf_le ?_ ?_ (nomark _)
  exact pef_op opf_add (pef_var (pv 1)) (pef_var (pv 3))
  refine pef_callB callf_len ?_ T.n_len bb_len ?_
  rfl
  refine paf_c ?_ ?_ ?_
  exact (pef_var (pv 0))
  exact paf_nil
  rfl
  refine pssf_cons ?_ pssf_nil
  refine psf_ret ?_
  refine pef_tup ?_
  refine paf_c ?_ ?_ ?_
  refine pef_tup ?_
  refine paf_c ?_ ?_ ?_
  exact pef_str
  refine paf_c ?_ ?_ ?_
  refine pef_lm PySem.F.slot_list_index PySem.F.type_list_index (mtf_lindex hr.units) (pef_var (pv 2)) ?_
  refine paf_c ?_ ?_ ?_
  exact (pef_var (pv 4))
  exact paf_nil
  rfl
  exact paf_nil
  rfl
  rfl
  refine paf_c ?_ ?_ ?_
  exact pef_op opf_add (pef_var (pv 1)) (pef_var (pv 3))
  exact paf_nil
  rfl
  rfl
  refine pssf_cons ?_ pssf_nil
  exact psf_ret pef_non
theorem ok_law_read_at (T : Top w K mg) (F_law_end_read : Fn P w K mg base 1 "_law_end_read" ["text", "at"] m_law_end_read) : Fn P w K mg base 12 "_law_read_at" ["text", "at", "deep"] m_law_read_at := by
  refine (fun h => h : _ → Fn P w K mg base 12 "_law_read_at" ["text", "at", "deep"] (recF 3 6 b_law_read_at 10)) (fn_rec (N := ["text", "at", "deep", "sign", "first", "other"]) (k := 1) T.t_law_read_at sc_law_read_at (fun _ _ _ _ _ _ us hl => by obtain ⟨_, _, _, rfl⟩ := us3 hl; rfl) ?_ 10)
  intro F j G f cdv A outer s H E hr
  unfold b_law_read_at
  refine pssf_cons ?_ ?_
  refine psf_set (i := 3) ?_ ?_ ?_ ?_
  exact sc_law_read_at.nd
  rfl
  first | exact Or.inl rfl | exact Or.inr rfl
  refine pef_sliceS (pef_var (pv 0)) ?_ ?_
  exact pof_some (pef_var (pv 1))
  refine pof_some ?_
  exact pef_op opf_add (pef_var (pv 1)) pef_int
  refine pssf_cons ?_ ?_
  refine psf_if ?_ ?_ pssf_nil
  refine PWf.pt ?_
  refine pwf_or ?_ ?_
  exact ptf_cmp (opf_eq hr.units) (pef_var (pv 3)) pef_str (nomark _)
  refine pwf_or1 ?_
  refine ptf_cmp snif (pef_var (pv 3)) pef_str ?_
  with_unfolding_all rfl
  refine pssf_cons ?_ pssf_nil
  refine psf_ret ?_
  refine pef_fn F_law_end_read (hr.mono (by omega)) ?_ ?_
  rfl
  refine paf_c ?_ ?_ ?_
  exact (pef_var (pv 0))
  refine paf_c ?_ ?_ ?_
  exact (pef_var (pv 1))
  exact paf_nil
  rfl
  rfl
  refine pssf_cons ?_ ?_
  refine psf_if ?_ ?_ pssf_nil
  exact ptf_cmp (opf_eq hr.units) (pef_var (pv 2)) pef_int (nomark _)
  refine pssf_cons ?_ pssf_nil
  exact psf_ret pef_non
  refine pssf_cons ?_ ?_
  refine psf_set (i := 4) ?_ ?_ ?_ ?_
  exact sc_law_read_at.nd
  rfl
  first | exact Or.inl rfl | exact Or.inr rfl
  refine pef_fn G (hr.mono (Nat.le_refl _)) ?_ ?_
  rfl
  refine paf_c ?_ ?_ ?_
  exact (pef_var (pv 0))
  refine paf_c ?_ ?_ ?_
  exact pef_op opf_add (pef_var (pv 1)) pef_int
  refine paf_c ?_ ?_ ?_
  exact pef_op opf_sub (pef_var (pv 2)) pef_int
  exact paf_nil
  rfl
  rfl
  rfl
  refine pssf_cons ?_ ?_
  refine psf_if ?_ ?_ pssf_nil
  exact ptf_cmp opf_is (pef_var (pv 4)) pef_non (nomark _)
  refine pssf_cons ?_ pssf_nil
  exact psf_ret pef_non
  refine pssf_cons ?_ ?_
  refine psf_if ?_ ?_ pssf_nil
  exact ptf_cmp (opf_ne hr.units) (pef_var (pv 3)) pef_str (nomark _)
  refine pssf_cons ?_ pssf_nil
  refine psf_ret ?_
  refine pef_tup ?_
  refine paf_c ?_ ?_ ?_
  refine pef_tup ?_
  refine paf_c ?_ ?_ ?_
  exact pef_str
  refine paf_c ?_ ?_ ?_
  exact pef_cmp (opf_eq hr.units) (pef_var (pv 3)) pef_str (nomark _)
  refine paf_c ?_ ?_ ?_
  exact pef_ix ixf (pef_var (pv 4)) pef_int (fun _ _ => rfl)
  exact paf_nil
  rfl
  rfl
  rfl
  refine paf_c ?_ ?_ ?_
  exact pef_ix ixf (pef_var (pv 4)) pef_int (fun _ _ => rfl)
  exact paf_nil
  rfl
  rfl
  refine pssf_cons ?_ ?_
  refine psf_if ?_ ?_ pssf_nil
  refine ptf_cmp (opf_ne hr.units) ?_ pef_str (nomark _)
  refine pef_sliceS (pef_var (pv 0)) ?_ ?_
  refine pof_some ?_
  exact pef_ix ixf (pef_var (pv 4)) pef_int (fun _ _ => rfl)
  refine pof_some ?_
  refine pef_op opf_add ?_ pef_int
  exact pef_ix ixf (pef_var (pv 4)) pef_int (fun _ _ => rfl)
  refine pssf_cons ?_ pssf_nil
  exact psf_ret pef_non
  refine pssf_cons ?_ ?_
  refine psf_set (i := 5) ?_ ?_ ?_ ?_
  exact sc_law_read_at.nd
  rfl
  first | exact Or.inl rfl | exact Or.inr rfl
  refine pef_fn G (hr.mono (Nat.le_refl _)) ?_ ?_
  rfl
  refine paf_c ?_ ?_ ?_
  exact (pef_var (pv 0))
  refine paf_c ?_ ?_ ?_
  refine pef_op opf_add ?_ pef_int
  exact pef_ix ixf (pef_var (pv 4)) pef_int (fun _ _ => rfl)
  refine paf_c ?_ ?_ ?_
  exact pef_op opf_sub (pef_var (pv 2)) pef_int
  exact paf_nil
  rfl
  rfl
  rfl
  refine pssf_cons ?_ ?_
  refine psf_if ?_ ?_ pssf_nil
  refine PWf.pt ?_
  refine pwf_or ?_ ?_
  exact ptf_cmp opf_is (pef_var (pv 5)) pef_non (nomark _)
  refine pwf_or1 ?_
  refine ptf_cmp (opf_ne hr.units) ?_ pef_str (nomark _)
  refine pef_sliceS (pef_var (pv 0)) ?_ ?_
  refine pof_some ?_
  exact pef_ix ixf (pef_var (pv 5)) pef_int (fun _ _ => rfl)
  refine pof_some ?_
  refine pef_op opf_add ?_ pef_int
  exact pef_ix ixf (pef_var (pv 5)) pef_int (fun _ _ => rfl)
  refine pssf_cons ?_ pssf_nil
  exact psf_ret pef_non
  refine pssf_cons ?_ pssf_nil
  refine psf_ret ?_
  refine pef_tup ?_
  refine paf_c ?_ ?_ ?_
  refine pef_tup ?_
  refine paf_c ?_ ?_ ?_
  exact pef_str
  refine paf_c ?_ ?_ ?_
  exact pef_ix ixf (pef_var (pv 4)) pef_int (fun _ _ => rfl)
  refine paf_c ?_ ?_ ?_
  exact pef_ix ixf (pef_var (pv 5)) pef_int (fun _ _ => rfl)
  exact paf_nil
  rfl
  rfl
  rfl
  refine paf_c ?_ ?_ ?_
  refine pef_op opf_add ?_ pef_int
  exact pef_ix ixf (pef_var (pv 5)) pef_int (fun _ _ => rfl)
  exact paf_nil
  rfl
  rfl
theorem ok_law_read (T : Top w K mg) (F_law_read_at : Fn P w K mg base 12 "_law_read_at" ["text", "at", "deep"] m_law_read_at) : Fn P w K mg base 13 "_law_read" ["text"] m_law_read := by
  refine (fun h => h : _ → Fn P w K mg base 13 "_law_read" ["text"] (runB 1 2 b_law_read)) (fn_mk (N := ["text", "found"]) (k := 12) T.t_law_read sc_law_read (fun _ _ _ _ _ _ us hl => by obtain ⟨_, rfl⟩ := us1 hl; rfl) ?_)
  intro f cdv A outer s H E hr
  unfold b_law_read
  refine pssf_cons ?_ ?_
  refine psf_set (i := 1) ?_ ?_ ?_ ?_
  exact sc_law_read.nd
  rfl
  first | exact Or.inl rfl | exact Or.inr rfl
  refine pef_fn F_law_read_at (hr.mono (by decide)) ?_ ?_
  rfl
  refine paf_c ?_ ?_ ?_
  exact (pef_var (pv 0))
  refine paf_c ?_ ?_ ?_
  exact pef_int
  refine paf_c ?_ ?_ ?_
  exact pef_int
  exact paf_nil
  rfl
  rfl
  rfl
  refine pssf_cons ?_ ?_
  refine psf_if ?_ ?_ pssf_nil
  refine PWf.pt ?_
  refine pwf_or ?_ ?_
  exact ptf_cmp opf_is (pef_var (pv 1)) pef_non (nomark _)
  refine pwf_or1 ?_
  refine ptf_cmp (opf_ne hr.units) ?_ ?_ (nomark _)
  exact pef_ix ixf (pef_var (pv 1)) pef_int (fun _ _ => rfl)
  refine pef_callB callf_len ?_ T.n_len bb_len ?_
  rfl
  refine paf_c ?_ ?_ ?_
  exact (pef_var (pv 0))
  exact paf_nil
  rfl
  refine pssf_cons ?_ pssf_nil
  exact psf_ret pef_non
  refine pssf_cons ?_ pssf_nil
  refine psf_ret ?_
  exact pef_ix ixf (pef_var (pv 1)) pef_int (fun _ _ => rfl)
theorem ok_law_bent (T : Top w K mg) : Fn P w K mg base 1 "_law_bent" ["text", "some"] m_law_bent := by
  refine (fun h => h : _ → Fn P w K mg base 1 "_law_bent" ["text", "some"] (runB 2 5 b_law_bent)) (fn_mk (N := ["text", "some", "signs", "sign", "at"]) (k := 0) T.t_law_bent sc_law_bent (fun _ _ _ _ _ _ us hl => by obtain ⟨_, _, rfl⟩ := us2 hl; rfl) ?_)
  intro f cdv A outer s H E hr
  unfold b_law_bent
  refine pssf_cons ?_ ?_
  refine psf_set (i := 2) ?_ ?_ ?_ pef_str
  exact sc_law_bent.nd
  rfl
  first | exact Or.inl rfl | exact Or.inr rfl
  refine pssf_cons ?_ ?_
  refine psf_if ?_ ?_ pssf_nil
  refine ptf_cmp (opf_eq hr.units) ?_ pef_int (nomark _)
  refine pef_op opf_mod ?_ pef_int
  exact pef_ix ixf (pef_var (pv 1)) pef_int (fun _ _ => rfl)
  refine pssf_cons ?_ ?_
  refine psf_set (i := 2) ?_ ?_ ?_ pef_str
  exact sc_law_bent.nd
  rfl
  first | exact Or.inl rfl | exact Or.inr rfl
  refine pssf_cons ?_ pssf_nil
  refine psf_set (i := 2) ?_ ?_ ?_ ?_
  exact sc_law_bent.nd
  rfl
  first | exact Or.inl rfl | exact Or.inr rfl
  exact pef_op opf_add (pef_var (pv 2)) pef_str
  refine pssf_cons ?_ ?_
  refine psf_set (i := 3) ?_ ?_ ?_ ?_
  exact sc_law_bent.nd
  rfl
  first | exact Or.inl rfl | exact Or.inr rfl
  refine pef_ix sixf (pef_var (pv 2)) ?_ (fun _ _ => rfl)
  refine pef_op opf_mod ?_ ?_
  exact pef_ix ixf (pef_var (pv 1)) pef_int (fun _ _ => rfl)
  refine pef_callB callf_len ?_ T.n_len bb_len ?_
  rfl
  refine paf_c ?_ ?_ ?_
  exact (pef_var (pv 2))
  exact paf_nil
  rfl
  refine pssf_cons ?_ ?_
  refine psf_set (i := 4) ?_ ?_ ?_ ?_
  exact sc_law_bent.nd
  rfl
  first | exact Or.inl rfl | exact Or.inr rfl
  refine pef_op opf_mod ?_ ?_
  exact pef_ix ixf (pef_var (pv 1)) pef_int (fun _ _ => rfl)
  refine pef_op opf_add ?_ pef_int
  refine pef_callB callf_len ?_ T.n_len bb_len ?_
  rfl
  refine paf_c ?_ ?_ ?_
  exact (pef_var (pv 0))
  exact paf_nil
  rfl
  refine pssf_cons ?_ ?_
  refine psf_if ?_ ?_ pssf_nil
  refine ptf_cmp (opf_eq hr.units) ?_ pef_int (nomark _)
  refine pef_op opf_mod ?_ pef_int
  exact pef_ix ixf (pef_var (pv 1)) pef_int (fun _ _ => rfl)
  refine pssf_cons ?_ pssf_nil
  refine psf_ret ?_
  refine pef_op opf_add ?_ ?_
  refine pef_op opf_add ?_ (pef_var (pv 3))
  refine pef_sliceS (pef_var (pv 0)) pof_none ?_
  exact pof_some (pef_var (pv 4))
  refine pef_sliceS (pef_var (pv 0)) ?_ pof_none
  exact pof_some (pef_var (pv 4))
  refine pssf_cons ?_ ?_
  refine psf_if ?_ ?_ pssf_nil
  refine ptf_cmp (opf_eq hr.units) ?_ pef_int (nomark _)
  refine pef_op opf_mod ?_ pef_int
  exact pef_ix ixf (pef_var (pv 1)) pef_int (fun _ _ => rfl)
  refine pssf_cons ?_ pssf_nil
  refine psf_ret ?_
  refine pef_op opf_add ?_ ?_
  refine pef_sliceS (pef_var (pv 0)) pof_none ?_
  exact pof_some (pef_var (pv 4))
  refine pef_sliceS (pef_var (pv 0)) ?_ pof_none
  refine pof_some ?_
  exact pef_op opf_add (pef_var (pv 4)) pef_int
  refine pssf_cons ?_ pssf_nil
  refine psf_ret ?_
  refine pef_op opf_add ?_ ?_
  refine pef_op opf_add ?_ (pef_var (pv 3))
  refine pef_sliceS (pef_var (pv 0)) pof_none ?_
  exact pof_some (pef_var (pv 4))
  refine pef_sliceS (pef_var (pv 0)) ?_ pof_none
  refine pof_some ?_
  exact pef_op opf_add (pef_var (pv 4)) pef_int
theorem ok_law_same (T : Top w K mg) : Fn P w K mg base 11 "_law_same" ["one", "other"] m_law_same := by
  refine (fun h => h : _ → Fn P w K mg base 11 "_law_same" ["one", "other"] (recF 2 2 b_law_same 10)) (fn_rec (N := ["one", "other"]) (k := 0) T.t_law_same sc_law_same (fun _ _ _ _ _ _ us hl => by obtain ⟨_, _, rfl⟩ := us2 hl; rfl) ?_ 10)
  intro F j G f cdv A outer s H E hr
  unfold b_law_same
  refine pssf_cons ?_ ?_
  refine psf_if ?_ ?_ pssf_nil
  refine PWf.pt ?_
  refine pwf_or ?_ ?_
  exact ptf_cmp opf_is (pef_var (pv 0)) pef_non (nomark _)
  refine pwf_or1 ?_
  exact ptf_cmp opf_is (pef_var (pv 1)) pef_non (nomark _)
  refine pssf_cons ?_ pssf_nil
  refine psf_ret ?_
  refine pef_and ?_ ?_
  exact pef_cmp opf_is (pef_var (pv 0)) pef_non (nomark _)
  refine pef_one ?_
  exact pef_cmp opf_is (pef_var (pv 1)) pef_non (nomark _)
  refine pssf_cons ?_ ?_
  refine psf_if ?_ ?_ pssf_nil
  refine PWf.pt ?_
  refine pwf_or ?_ ?_
  refine ptf_not ?_
  refine ptf_truth ?_ (fun _ => rfl)
  refine pef_callB callf_isi ?_ T.n_isinstance bb_isinstance ?_
  rfl
  refine paf_c ?_ ?_ ?_
  exact (pef_var (pv 0))
  refine paf_c ?_ ?_ ?_
  refine pef_ty ?_ T.n_tuple bb_tuple
  rfl
  exact paf_nil
  rfl
  rfl
  refine pwf_or1 ?_
  refine ptf_not ?_
  refine ptf_truth ?_ (fun _ => rfl)
  refine pef_callB callf_isi ?_ T.n_isinstance bb_isinstance ?_
  rfl
  refine paf_c ?_ ?_ ?_
  exact (pef_var (pv 1))
  refine paf_c ?_ ?_ ?_
  refine pef_ty ?_ T.n_tuple bb_tuple
  rfl
  exact paf_nil
  rfl
  rfl
  refine pssf_cons ?_ pssf_nil
  exact psf_ret pef_bl
  refine pssf_cons ?_ ?_
  refine psf_if ?_ ?_ pssf_nil
  refine PWf.pt ?_
  refine pwf_or ?_ ?_
  refine ptf_cmp (opf_ne hr.units) ?_ ?_ (nomark _)
  refine pef_callB callf_len ?_ T.n_len bb_len ?_
  rfl
  refine paf_c ?_ ?_ ?_
  exact (pef_var (pv 0))
  exact paf_nil
  rfl
  refine pef_callB callf_len ?_ T.n_len bb_len ?_
  rfl
  refine paf_c ?_ ?_ ?_
  exact (pef_var (pv 1))
  exact paf_nil
  rfl
  refine pwf_or1 ?_
  refine ptf_cmp (opf_ne hr.units) ?_ ?_ (nomark _)
  exact pef_ix ixf (pef_var (pv 0)) pef_int (fun _ _ => rfl)
  exact pef_ix ixf (pef_var (pv 1)) pef_int (fun _ _ => rfl)
  refine pssf_cons ?_ pssf_nil
  exact psf_ret pef_bl
  refine pssf_cons ?_ ?_
  refine psf_if ?_ ?_ pssf_nil
  refine ptf_cmp (opf_in hr.units) ?_ ?_ ?_
  exact pef_ix ixf (pef_var (pv 0)) pef_int (fun _ _ => rfl)
  refine pef_tup ?_
  refine paf_c ?_ ?_ ?_
  exact pef_str
  refine paf_c ?_ ?_ ?_
  exact pef_str
  exact paf_nil
  rfl
  rfl
  with_unfolding_all rfl
  refine pssf_cons ?_ pssf_nil
  refine psf_ret ?_
  refine pef_and ?_ ?_
  exact pef_cmp (opf_eq hr.units) (pef_var (pv 0)) (pef_var (pv 1)) (nomark _)
  refine pef_one ?_
  refine pef_cmp (opf_ni hr.units) pef_bl ?_ ?_
  refine pef_lc (cn := []) ?_ (blk_fn (x := "part") (cn := []) (ci := []) (by decide +kernel)) ?_ ?_ ?_
  rfl
  exact pif_seq (pef_var (pv 0))
  intro _ _ _ _ _ _
  exact ptsf_nil
  intro _ _ _ _ _ _
  refine pef_callB callf_isi ?_ T.n_isinstance bb_isinstance ?_
  rfl
  refine paf_c ?_ ?_ ?_
  exact (pef_var (pv 0))
  refine paf_c ?_ ?_ ?_
  refine pef_ty ?_ T.n_bool bb_bool
  rfl
  exact paf_nil
  rfl
  rfl
  with_unfolding_all rfl
  refine pssf_cons ?_ ?_
  refine psf_if ?_ ?_ pssf_nil
  refine ptf_cmp (opf_eq hr.units) ?_ pef_str (nomark _)
  exact pef_ix ixf (pef_var (pv 0)) pef_int (fun _ _ => rfl)
  refine pssf_cons ?_ pssf_nil
  refine psf_ret ?_
  refine pef_and ?_ ?_
  refine pef_callB callf_isi ?_ T.n_isinstance bb_isinstance ?_
  rfl
  refine paf_c ?_ ?_ ?_
  exact pef_ix ixf (pef_var (pv 0)) pef_int (fun _ _ => rfl)
  refine paf_c ?_ ?_ ?_
  refine pef_ty ?_ T.n_bool bb_bool
  rfl
  exact paf_nil
  rfl
  rfl
  refine pef_and ?_ ?_
  refine pef_cmp (opf_eq hr.units) ?_ ?_ (nomark _)
  exact pef_ix ixf (pef_var (pv 0)) pef_int (fun _ _ => rfl)
  exact pef_ix ixf (pef_var (pv 1)) pef_int (fun _ _ => rfl)
  refine pef_one ?_
  refine pef_fn G (hr.mono (Nat.le_refl _)) ?_ ?_
  rfl
  refine paf_c ?_ ?_ ?_
  exact pef_ix ixf (pef_var (pv 0)) pef_int (fun _ _ => rfl)
  refine paf_c ?_ ?_ ?_
  exact pef_ix ixf (pef_var (pv 1)) pef_int (fun _ _ => rfl)
  exact paf_nil
  rfl
  rfl
  refine pssf_cons ?_ pssf_nil
  refine psf_ret ?_
  refine pef_and ?_ ?_
  refine pef_fn G (hr.mono (Nat.le_refl _)) ?_ ?_
  rfl
  refine paf_c ?_ ?_ ?_
  exact pef_ix ixf (pef_var (pv 0)) pef_int (fun _ _ => rfl)
  refine paf_c ?_ ?_ ?_
  exact pef_ix ixf (pef_var (pv 1)) pef_int (fun _ _ => rfl)
  exact paf_nil
  rfl
  rfl
  refine pef_one ?_
  refine pef_fn G (hr.mono (Nat.le_refl _)) ?_ ?_
  rfl
  refine paf_c ?_ ?_ ?_
  exact pef_ix ixf (pef_var (pv 0)) pef_int (fun _ _ => rfl)
  refine paf_c ?_ ?_ ?_
  exact pef_ix ixf (pef_var (pv 1)) pef_int (fun _ _ => rfl)
  exact paf_nil
  rfl
  rfl
theorem ok_plan_behind (T : Top w K mg) (F_number_of_lost : Fn P w K mg base 2 "number_of_lost" ["kinds", "rows"] m_number_of_lost) (F_other_side : Fn P w K mg base 1 "other_side" ["side"] m_other_side) (F_rows_behind : Fn P w K mg base 1 "rows_behind" ["rows", "name", "truth"] m_rows_behind) : Fn P w K mg base 25 "plan_behind" ["kinds", "rows", "many"] (recP 3 4 3 7 b_plan_behind b_plan_by_picks 22).1 ∧ Fn P w K mg base 25 "plan_by_picks" ["kinds", "rows", "many"] (recP 3 4 3 7 b_plan_behind b_plan_by_picks 22).2 := by
  refine (fun h => h : _ → Fn P w K mg base 25 "plan_behind" ["kinds", "rows", "many"] (recP 3 4 3 7 b_plan_behind b_plan_by_picks 22).1 ∧ Fn P w K mg base 25 "plan_by_picks" ["kinds", "rows", "many"] (recP 3 4 3 7 b_plan_behind b_plan_by_picks 22).2) (fn_rec2 (N1 := ["kinds", "rows", "many", "number"]) (N2 := ["kinds", "rows", "many", "who", "trees", "truth", "told"]) (k := 2) T.t_plan_behind sc_plan_behind (fun _ _ _ _ _ _ us hl => by obtain ⟨_, _, _, rfl⟩ := us3 hl; rfl) T.t_plan_by_picks sc_plan_by_picks (fun _ _ _ _ _ _ us hl => by obtain ⟨_, _, _, rfl⟩ := us3 hl; rfl) ?_ ?_ 22)
  · intro F1 F2 j G1 G2 f cdv A outer s H E hr
    unfold b_plan_behind
    refine pssf_cons ?_ ?_
    refine psf_if ?_ ?_ pssf_nil
    refine ptf_cmp (opf_eq hr.units) ?_ pef_int (nomark _)
    refine pef_callB callf_dlen ?_ T.n_len bb_len ?_
    rfl
    refine paf_c ?_ ?_ ?_
    exact (pef_var (pv 1))
    exact paf_nil
    rfl
    refine pssf_cons ?_ pssf_nil
    refine psf_ret ?_
    refine pef_tup ?_
    refine paf_c ?_ ?_ ?_
    exact pef_str
    refine paf_c ?_ ?_ ?_
    refine pef_tup ?_
    refine paf_c ?_ ?_ ?_
    exact pef_str
    exact paf_nil
    rfl
    exact paf_nil
    rfl
    rfl
    refine pssf_cons ?_ ?_
    refine psf_set (i := 3) ?_ ?_ ?_ ?_
    exact sc_plan_behind.nd
    rfl
    first | exact Or.inl rfl | exact Or.inr rfl
    refine pef_fn F_number_of_lost (hr.mono (by omega)) ?_ ?_
    rfl
    refine paf_c ?_ ?_ ?_
    exact (pef_var (pv 0))
    refine paf_c ?_ ?_ ?_
    exact (pef_var (pv 1))
    exact paf_nil
    rfl
    rfl
    refine pssf_cons ?_ ?_
    refine psf_if ?_ ?_ pssf_nil
    exact ptf_cmp opf_isn (pef_var (pv 3)) pef_non (nomark _)
    refine pssf_cons ?_ pssf_nil
    refine psf_ret ?_
    refine pef_tup ?_
    refine paf_c ?_ ?_ ?_
    exact pef_str
    refine paf_c ?_ ?_ ?_
    refine pef_tup ?_
    refine paf_c ?_ ?_ ?_
    exact pef_str
    refine paf_c ?_ ?_ ?_
    exact (pef_var (pv 3))
    exact paf_nil
    rfl
    rfl
    exact paf_nil
    rfl
    rfl
    refine pssf_cons ?_ pssf_nil
    refine psf_ret ?_
    refine pef_fn G2 (hr.mono (Nat.le_refl _)) ?_ ?_
    rfl
    refine paf_c ?_ ?_ ?_
    exact (pef_var (pv 0))
    refine paf_c ?_ ?_ ?_
    exact (pef_var (pv 1))
    refine paf_c ?_ ?_ ?_
    exact (pef_var (pv 2))
    exact paf_nil
    rfl
    rfl
    rfl
  · intro F1 F2 j G1 G2 f cdv A outer s H E hr
    unfold b_plan_by_picks
    refine pssf_cons ?_ ?_
    refine psf_set (i := 3) ?_ ?_ ?_ ?_
    exact sc_plan_by_picks.nd
    rfl
    first | exact Or.inl rfl | exact Or.inr rfl
    exact pef_ix ixf (pef_var (pv 0)) (pef_var (pv 2)) (fun _ _ => rfl)
    refine pssf_cons ?_ ?_
    refine psf_set (i := 4) ?_ ?_ ?_ ?_
    exact sc_plan_by_picks.nd
    rfl
    first | exact Or.inl rfl | exact Or.inr rfl
    exact pef_lst paf_nil
    refine pssf_cons ?_ ?_
    refine psf_for PassesOwn.never ?_ ?_ ?_ ?_
    rfl
    refine pif_seq ?_
    refine pef_gc ?_ T.c_TRUTHS
    rfl
    refine pgf_name (i := 5) ?_ ?_ ?_
    exact sc_plan_by_picks.nd
    rfl
    first | exact Or.inl rfl | exact Or.inr rfl
    refine pssf_cons ?_ ?_
    refine psf_set (i := 6) ?_ ?_ ?_ ?_
    exact sc_plan_by_picks.nd
    rfl
    first | exact Or.inl rfl | exact Or.inr rfl
    refine pef_fn G1 (hr.mono (Nat.le_refl _)) ?_ ?_
    rfl
    refine paf_c ?_ ?_ ?_
    exact (pef_var (pv 0))
    refine paf_c ?_ ?_ ?_
    refine pef_fn F_rows_behind (hr.mono (by omega)) ?_ ?_
    rfl
    refine paf_c ?_ ?_ ?_
    exact (pef_var (pv 1))
    refine paf_c ?_ ?_ ?_
    exact pef_op opf_add (pef_var (pv 2)) pef_int
    refine paf_c ?_ ?_ ?_
    exact (pef_var (pv 5))
    exact paf_nil
    rfl
    rfl
    rfl
    refine paf_c ?_ ?_ ?_
    exact pef_op opf_add (pef_var (pv 2)) pef_int
    exact paf_nil
    rfl
    rfl
    rfl
    refine pssf_cons ?_ ?_
    refine psf_if ?_ ?_ pssf_nil
    refine ptf_cmp (opf_eq hr.units) ?_ (pef_var (pv 3)) (nomark _)
    exact pef_ix ixf (pef_var (pv 6)) pef_int (fun _ _ => rfl)
    refine pssf_cons ?_ pssf_nil
    refine psf_ret ?_
    refine pef_tup ?_
    refine paf_c ?_ ?_ ?_
    exact (pef_var (pv 3))
    refine paf_c ?_ ?_ ?_
    refine pef_tup ?_
    refine paf_c ?_ ?_ ?_
    exact pef_str
    refine paf_c ?_ ?_ ?_
    exact (pef_var (pv 5))
    refine paf_c ?_ ?_ ?_
    exact pef_ix ixf (pef_var (pv 6)) pef_int (fun _ _ => rfl)
    exact paf_nil
    rfl
    rfl
    rfl
    exact paf_nil
    rfl
    rfl
    refine pssf_cons ?_ pssf_nil
    refine psf_expr ?_
    refine pef_lm PySem.F.slot_list_append PySem.F.type_list_append mtf_append (pef_var (pv 4)) ?_
    refine paf_c ?_ ?_ ?_
    exact pef_ix ixf (pef_var (pv 6)) pef_int (fun _ _ => rfl)
    exact paf_nil
    rfl
    refine pssf_cons ?_ pssf_nil
    refine psf_ret ?_
    refine pef_tup ?_
    refine paf_c ?_ ?_ ?_
    refine pef_fn F_other_side (hr.mono (by omega)) ?_ ?_
    rfl
    refine paf_c ?_ ?_ ?_
    exact (pef_var (pv 3))
    exact paf_nil
    rfl
    refine paf_c ?_ ?_ ?_
    refine pef_tup ?_
    refine paf_c ?_ ?_ ?_
    exact pef_str
    refine paf_c ?_ ?_ ?_
    exact pef_ix ixf (pef_var (pv 4)) pef_int (fun _ _ => rfl)
    refine paf_c ?_ ?_ ?_
    exact pef_ix ixf (pef_var (pv 4)) pef_int (fun _ _ => rfl)
    exact paf_nil
    rfl
    rfl
    rfl
    exact paf_nil
    rfl
    rfl
theorem ok_plan (T : Top w K mg) (F_plan_behind : Fn P w K mg base 25 "plan_behind" ["kinds", "rows", "many"] m_plan_behind) (F_first_numbers : Fn P w K mg base 1 "first_numbers" ["rows"] m_first_numbers) : Fn P w K mg base 26 "plan" ["claim"] m_plan := by
  refine (fun h => h : _ → Fn P w K mg base 26 "plan" ["claim"] (runB 1 1 b_plan)) (fn_mk (N := ["claim"]) (k := 25) T.t_plan sc_plan (fun _ _ _ _ _ _ us hl => by obtain ⟨_, rfl⟩ := us1 hl; rfl) ?_)
  intro f cdv A outer s H E hr
  unfold b_plan
  refine pssf_cons ?_ pssf_nil
  refine psf_ret ?_
  refine pef_fn F_plan_behind (hr.mono (by decide)) ?_ ?_
  rfl
  refine paf_c ?_ ?_ ?_
  exact pef_ix ixf (pef_var (pv 0)) pef_int (fun _ _ => rfl)
  refine paf_c ?_ ?_ ?_
  refine pef_fn F_first_numbers (hr.mono (by decide)) ?_ ?_
  rfl
  refine paf_c ?_ ?_ ?_
  exact pef_ix ixf (pef_var (pv 0)) pef_int (fun _ _ => rfl)
  exact paf_nil
  rfl
  refine paf_c ?_ ?_ ?_
  exact pef_int
  exact paf_nil
  rfl
  rfl
  rfl
theorem ok_tree_at (T : Top w K mg) (F_lost_at : Fn P w K mg base 2 "lost_at" ["text", "place"] m_lost_at) : Fn P w K mg base 25 "tree_at" ["text", "place", "deep"] (recQ 3 4 3 4 3 7 b_tree_at b_pick_at b_each_at 22).1 ∧ Fn P w K mg base 25 "pick_at" ["text", "place", "deep"] (recQ 3 4 3 4 3 7 b_tree_at b_pick_at b_each_at 22).2.1 ∧ Fn P w K mg base 25 "each_at" ["text", "place", "deep"] (recQ 3 4 3 4 3 7 b_tree_at b_pick_at b_each_at 22).2.2 := by
  refine (fun h => h : _ → Fn P w K mg base 25 "tree_at" ["text", "place", "deep"] (recQ 3 4 3 4 3 7 b_tree_at b_pick_at b_each_at 22).1 ∧ Fn P w K mg base 25 "pick_at" ["text", "place", "deep"] (recQ 3 4 3 4 3 7 b_tree_at b_pick_at b_each_at 22).2.1 ∧ Fn P w K mg base 25 "each_at" ["text", "place", "deep"] (recQ 3 4 3 4 3 7 b_tree_at b_pick_at b_each_at 22).2.2) (fn_rec3 (N1 := ["text", "place", "deep", "sign"]) (N2 := ["text", "place", "deep", "told"]) (N3 := ["text", "place", "deep", "trees", "end", "sign", "told"]) (k := 2) T.t_tree_at sc_tree_at (fun _ _ _ _ _ _ us hl => by obtain ⟨_, _, _, rfl⟩ := us3 hl; rfl) T.t_pick_at sc_pick_at (fun _ _ _ _ _ _ us hl => by obtain ⟨_, _, _, rfl⟩ := us3 hl; rfl) T.t_each_at sc_each_at (fun _ _ _ _ _ _ us hl => by obtain ⟨_, _, _, rfl⟩ := us3 hl; rfl) ?_ ?_ ?_ 22)
  · intro F1 F2 F3 j G1 G2 G3 f cdv A outer s H E hr
    unfold b_tree_at
    refine pssf_cons ?_ ?_
    refine psf_set (i := 3) ?_ ?_ ?_ ?_
    exact sc_tree_at.nd
    rfl
    first | exact Or.inl rfl | exact Or.inr rfl
    refine pef_sliceS (pef_var (pv 0)) ?_ ?_
    exact pof_some (pef_var (pv 1))
    refine pof_some ?_
    exact pef_op opf_add (pef_var (pv 1)) pef_int
    refine pssf_cons ?_ ?_
    refine psf_if ?_ ?_ pssf_nil
    exact ptf_cmp (opf_eq hr.units) (pef_var (pv 3)) pef_str (nomark _)
    refine pssf_cons ?_ pssf_nil
    refine psf_ret ?_
    refine pef_tup ?_
    refine paf_c ?_ ?_ ?_
    refine pef_tup ?_
    refine paf_c ?_ ?_ ?_
    exact pef_str
    exact paf_nil
    rfl
    refine paf_c ?_ ?_ ?_
    exact pef_op opf_add (pef_var (pv 1)) pef_int
    exact paf_nil
    rfl
    rfl
    refine pssf_cons ?_ ?_
    refine psf_if ?_ ?_ pssf_nil
    refine PWf.pt ?_
    refine pwf_and ?_ ?_
    exact ptf_cmp opf_gt (pef_var (pv 2)) pef_int (nomark _)
    refine pwf_and1 ?_
    refine ptf_tin T.d_PICKS ?_ (pef_var (pv 3))
    rfl
    refine pssf_cons ?_ pssf_nil
    refine psf_ret ?_
    refine pef_fn G2 (hr.mono (Nat.le_refl _)) ?_ ?_
    rfl
    refine paf_c ?_ ?_ ?_
    exact (pef_var (pv 0))
    refine paf_c ?_ ?_ ?_
    exact (pef_var (pv 1))
    refine paf_c ?_ ?_ ?_
    exact (pef_var (pv 2))
    exact paf_nil
    rfl
    rfl
    rfl
    refine pssf_cons ?_ ?_
    refine psf_if ?_ ?_ pssf_nil
    refine PWf.pt ?_
    refine pwf_and ?_ ?_
    exact ptf_cmp opf_gt (pef_var (pv 2)) pef_int (nomark _)
    refine pwf_and1 ?_
    exact ptf_cmp (opf_eq hr.units) (pef_var (pv 3)) pef_str (nomark _)
    refine pssf_cons ?_ pssf_nil
    refine psf_ret ?_
    refine pef_fn G3 (hr.mono (Nat.le_refl _)) ?_ ?_
    rfl
    refine paf_c ?_ ?_ ?_
    exact (pef_var (pv 0))
    refine paf_c ?_ ?_ ?_
    exact (pef_var (pv 1))
    refine paf_c ?_ ?_ ?_
    exact (pef_var (pv 2))
    exact paf_nil
    rfl
    rfl
    rfl
    refine pssf_cons ?_ pssf_nil
    refine psf_ret ?_
    refine pef_fn F_lost_at (hr.mono (by omega)) ?_ ?_
    rfl
    refine paf_c ?_ ?_ ?_
    exact (pef_var (pv 0))
    refine paf_c ?_ ?_ ?_
    exact (pef_var (pv 1))
    exact paf_nil
    rfl
    rfl
  · intro F1 F2 F3 j G1 G2 G3 f cdv A outer s H E hr
    unfold b_pick_at
    refine pssf_cons ?_ ?_
    refine psf_set (i := 3) ?_ ?_ ?_ ?_
    exact sc_pick_at.nd
    rfl
    first | exact Or.inl rfl | exact Or.inr rfl
    refine pef_fn G1 (hr.mono (Nat.le_refl _)) ?_ ?_
    rfl
    refine paf_c ?_ ?_ ?_
    exact (pef_var (pv 0))
    refine paf_c ?_ ?_ ?_
    exact pef_op opf_add (pef_var (pv 1)) pef_int
    refine paf_c ?_ ?_ ?_
    exact pef_op opf_sub (pef_var (pv 2)) pef_int
    exact paf_nil
    rfl
    rfl
    rfl
    refine pssf_cons ?_ ?_
    refine psf_if ?_ ?_ pssf_nil
    exact ptf_cmp opf_is (pef_var (pv 3)) pef_non (nomark _)
    refine pssf_cons ?_ pssf_nil
    exact psf_ret pef_non
    refine pssf_cons ?_ pssf_nil
    refine psf_ret ?_
    refine pef_tup ?_
    refine paf_c ?_ ?_ ?_
    refine pef_tup ?_
    refine paf_c ?_ ?_ ?_
    exact pef_str
    refine paf_c ?_ ?_ ?_
    refine pef_tget T.d_PICKS ?_ ?_ (fun _ _ => rfl)
    rfl
    exact pef_ix sixf (pef_var (pv 0)) (pef_var (pv 1)) (fun _ _ => rfl)
    refine paf_c ?_ ?_ ?_
    exact pef_ix ixf (pef_var (pv 3)) pef_int (fun _ _ => rfl)
    exact paf_nil
    rfl
    rfl
    rfl
    refine paf_c ?_ ?_ ?_
    exact pef_ix ixf (pef_var (pv 3)) pef_int (fun _ _ => rfl)
    exact paf_nil
    rfl
    rfl
  · intro F1 F2 F3 j G1 G2 G3 f cdv A outer s H E hr
    unfold b_each_at
    refine pssf_cons ?_ ?_
    refine psf_set (i := 3) ?_ ?_ ?_ ?_
    exact sc_each_at.nd
    rfl
    first | exact Or.inl rfl | exact Or.inr rfl
    exact pef_lst paf_nil
    refine pssf_cons ?_ ?_
    refine psf_set (i := 4) ?_ ?_ ?_ (pef_var (pv 1))
    exact sc_each_at.nd
    rfl
    first | exact Or.inl rfl | exact Or.inr rfl
    refine pssf_cons ?_ ?_
    refine psf_for PassesOwn.never ?_ ?_ ?_ ?_
    rfl
    refine pif_seq ?_
    refine pef_tup ?_
    refine paf_c ?_ ?_ ?_
    exact pef_str
    refine paf_c ?_ ?_ ?_
    exact pef_str
    exact paf_nil
    rfl
    rfl
    refine pgf_name (i := 5) ?_ ?_ ?_
    exact sc_each_at.nd
    rfl
    first | exact Or.inl rfl | exact Or.inr rfl
    refine pssf_cons ?_ ?_
    refine psf_set (i := 6) ?_ ?_ ?_ ?_
    exact sc_each_at.nd
    rfl
    first | exact Or.inl rfl | exact Or.inr rfl
    refine pef_fn G1 (hr.mono (Nat.le_refl _)) ?_ ?_
    rfl
    refine paf_c ?_ ?_ ?_
    exact (pef_var (pv 0))
    refine paf_c ?_ ?_ ?_
    exact pef_op opf_add (pef_var (pv 4)) pef_int
    refine paf_c ?_ ?_ ?_
    exact pef_op opf_sub (pef_var (pv 2)) pef_int
    exact paf_nil
    rfl
    rfl
    rfl
    refine pssf_cons ?_ ?_
    refine psf_if ?_ ?_ pssf_nil
    refine PWf.pt ?_
    refine pwf_or ?_ ?_
    exact ptf_cmp opf_is (pef_var (pv 6)) pef_non (nomark _)
    refine pwf_or1 ?_
    refine ptf_cmp (opf_ne hr.units) ?_ (pef_var (pv 5)) (nomark _)
    refine pef_sliceS (pef_var (pv 0)) ?_ ?_
    refine pof_some ?_
    exact pef_ix ixf (pef_var (pv 6)) pef_int (fun _ _ => rfl)
    refine pof_some ?_
    refine pef_op opf_add ?_ pef_int
    exact pef_ix ixf (pef_var (pv 6)) pef_int (fun _ _ => rfl)
    refine pssf_cons ?_ pssf_nil
    exact psf_ret pef_non
    refine pssf_cons ?_ ?_
    refine psf_expr ?_
    refine pef_lm PySem.F.slot_list_append PySem.F.type_list_append mtf_append (pef_var (pv 3)) ?_
    refine paf_c ?_ ?_ ?_
    exact pef_ix ixf (pef_var (pv 6)) pef_int (fun _ _ => rfl)
    exact paf_nil
    rfl
    refine pssf_cons ?_ pssf_nil
    refine psf_set (i := 4) ?_ ?_ ?_ ?_
    exact sc_each_at.nd
    rfl
    first | exact Or.inl rfl | exact Or.inr rfl
    exact pef_ix ixf (pef_var (pv 6)) pef_int (fun _ _ => rfl)
    refine pssf_cons ?_ pssf_nil
    refine psf_ret ?_
    refine pef_tup ?_
    refine paf_c ?_ ?_ ?_
    refine pef_tup ?_
    refine paf_c ?_ ?_ ?_
    exact pef_str
    refine paf_c ?_ ?_ ?_
    exact pef_ix ixf (pef_var (pv 3)) pef_int (fun _ _ => rfl)
    refine paf_c ?_ ?_ ?_
    exact pef_ix ixf (pef_var (pv 3)) pef_int (fun _ _ => rfl)
    exact paf_nil
    rfl
    rfl
    rfl
    refine paf_c ?_ ?_ ?_
    exact pef_op opf_add (pef_var (pv 4)) pef_int
    exact paf_nil
    rfl
    rfl
theorem ok_read_tree (T : Top w K mg) (F_tree_at : Fn P w K mg base 25 "tree_at" ["text", "place", "deep"] m_tree_at) : Fn P w K mg base 26 "read_tree" ["text"] m_read_tree := by
  refine (fun h => h : _ → Fn P w K mg base 26 "read_tree" ["text"] (runB 1 2 b_read_tree)) (fn_mk (N := ["text", "told"]) (k := 25) T.t_read_tree sc_read_tree (fun _ _ _ _ _ _ us hl => by obtain ⟨_, rfl⟩ := us1 hl; rfl) ?_)
  intro f cdv A outer s H E hr
  unfold b_read_tree
  refine pssf_cons ?_ ?_
  refine psf_set (i := 1) ?_ ?_ ?_ ?_
  exact sc_read_tree.nd
  rfl
  first | exact Or.inl rfl | exact Or.inr rfl
  refine pef_fn F_tree_at (hr.mono (by decide)) ?_ ?_
  rfl
  refine paf_c ?_ ?_ ?_
  exact (pef_var (pv 0))
  refine paf_c ?_ ?_ ?_
  exact pef_int
  refine paf_c ?_ ?_ ?_
  refine pef_gc ?_ T.c_MOST_NAMES
  rfl
  exact paf_nil
  rfl
  rfl
  rfl
  refine pssf_cons ?_ ?_
  refine psf_if ?_ ?_ pssf_nil
  refine PWf.pt ?_
  refine pwf_or ?_ ?_
  exact ptf_cmp opf_is (pef_var (pv 1)) pef_non (nomark _)
  refine pwf_or1 ?_
  refine ptf_cmp (opf_ne hr.units) ?_ ?_ (nomark _)
  exact pef_ix ixf (pef_var (pv 1)) pef_int (fun _ _ => rfl)
  refine pef_callB callf_len ?_ T.n_len bb_len ?_
  rfl
  refine paf_c ?_ ?_ ?_
  exact (pef_var (pv 0))
  exact paf_nil
  rfl
  refine pssf_cons ?_ pssf_nil
  exact psf_ret pef_non
  refine pssf_cons ?_ pssf_nil
  refine psf_ret ?_
  exact pef_ix ixf (pef_var (pv 1)) pef_int (fun _ _ => rfl)
theorem ok_law (T : Top w K mg) (F_law_same : Fn P w K mg base 11 "_law_same" ["one", "other"] m_law_same) (F_law_read : Fn P w K mg base 13 "_law_read" ["text"] m_law_read) (F_read_tree : Fn P w K mg base 26 "read_tree" ["text"] m_read_tree) (F_show_tree : Fn P w K mg base 12 "show_tree" ["tree"] m_show_tree) (F_law_shown : Fn P w K mg base 11 "_law_shown" ["tree"] m_law_shown) (F_plan : Fn P w K mg base 26 "plan" ["claim"] m_plan) (F_law_claim : Fn P w K mg base 4 "_law_claim" ["script", "most"] m_law_claim) (F_law_at : Fn P w K mg base 1 "_law_at" ["script", "k"] m_law_at) (F_law_bent : Fn P w K mg base 1 "_law_bent" ["text", "some"] m_law_bent) (F_law_tree : Fn P w K mg base 11 "_law_tree" ["some", "deep"] m_law_tree) (F_law_digits : Fn P w K mg base 2 "_law_digits" ["cell", "many"] m_law_digits) : Fn P w K mg base 27 "law" ["script"] m_law := by
  refine (fun h => h : _ → Fn P w K mg base 27 "law" ["script"] (runB 1 9 b_law)) (fn_mk (N := ["script", "cells", "cell", "far", "tree", "text", "texts", "some", "bent"]) (k := 26) T.t_law sc_law (fun _ _ _ _ _ _ us hl => by obtain ⟨_, rfl⟩ := us1 hl; rfl) ?_)
  intro f cdv A outer s H E hr
  unfold b_law
  refine pssf_cons ?_ ?_
  refine psf_set (i := 1) ?_ ?_ ?_ ?_
  exact sc_law.nd
  rfl
  first | exact Or.inl rfl | exact Or.inr rfl
  refine pef_callTy callf_list ?_ T.n_list bb_list ?_
  rfl
  refine paf_c ?_ ?_ ?_
  refine pef_slice (pef_var (pv 0)) pof_none ?_
  exact pof_some pef_int
  exact paf_nil
  rfl
  refine pssf_cons ?_ ?_
  refine psf_if ?_ ?_ pssf_nil
  refine ptf_cmp (opf_eq hr.units) (pef_var (pv 1)) ?_ (nomark _)
  exact pef_lst paf_nil
  refine pssf_cons ?_ pssf_nil
  refine psf_set (i := 1) ?_ ?_ ?_ ?_
  exact sc_law.nd
  rfl
  first | exact Or.inl rfl | exact Or.inr rfl
  refine pef_lst ?_
  refine paf_c ?_ ?_ ?_
  exact pef_int
  exact paf_nil
  rfl
  refine pssf_cons ?_ ?_
  refine psf_for PassesOwn.never ?_ ?_ ?_ ?_
  rfl
  exact pif_seq (pef_var (pv 1))
  refine pgf_name (i := 2) ?_ ?_ ?_
  exact sc_law.nd
  rfl
  first | exact Or.inl rfl | exact Or.inr rfl
  refine pssf_cons ?_ ?_
  refine psf_set (i := 7) ?_ ?_ ?_ ?_
  exact sc_law.nd
  rfl
  first | exact Or.inl rfl | exact Or.inr rfl
  refine pef_fn F_law_digits (hr.mono (by decide)) ?_ ?_
  rfl
  refine paf_c ?_ ?_ ?_
  exact (pef_var (pv 2))
  refine paf_c ?_ ?_ ?_
  exact pef_int
  exact paf_nil
  rfl
  rfl
  refine pssf_cons ?_ ?_
  refine psf_set (i := 4) ?_ ?_ ?_ ?_
  exact sc_law.nd
  rfl
  first | exact Or.inl rfl | exact Or.inr rfl
  refine pef_fn F_law_tree (hr.mono (by decide)) ?_ ?_
  rfl
  refine paf_c ?_ ?_ ?_
  refine pef_slice (pef_var (pv 7)) ?_ pof_none
  exact pof_some pef_int
  refine paf_c ?_ ?_ ?_
  refine pef_op opf_mod ?_ pef_int
  exact pef_ix ixf (pef_var (pv 7)) pef_int (fun _ _ => rfl)
  exact paf_nil
  rfl
  rfl
  refine pssf_cons ?_ ?_
  refine psf_set (i := 5) ?_ ?_ ?_ ?_
  exact sc_law.nd
  rfl
  first | exact Or.inl rfl | exact Or.inr rfl
  refine pef_fn F_law_shown (hr.mono (by decide)) ?_ ?_
  rfl
  refine paf_c ?_ ?_ ?_
  exact (pef_var (pv 4))
  exact paf_nil
  rfl
  refine pssf_cons ?_ ?_
  refine psf_if ?_ ?_ pssf_nil
  refine PWf.pt ?_
  refine pwf_or ?_ ?_
  refine ptf_cmp (opf_ne hr.units) ?_ (pef_var (pv 5)) (nomark _)
  refine pef_fn F_show_tree (hr.mono (by decide)) ?_ ?_
  rfl
  refine paf_c ?_ ?_ ?_
  exact (pef_var (pv 4))
  exact paf_nil
  rfl
  refine pwf_or1 ?_
  refine ptf_not ?_
  refine ptf_truth ?_ (fun _ => rfl)
  refine pef_fn F_law_same (hr.mono (by decide)) ?_ ?_
  rfl
  refine paf_c ?_ ?_ ?_
  refine pef_fn F_read_tree (hr.mono (by decide)) ?_ ?_
  rfl
  refine paf_c ?_ ?_ ?_
  exact (pef_var (pv 5))
  exact paf_nil
  rfl
  refine paf_c ?_ ?_ ?_
  exact (pef_var (pv 4))
  exact paf_nil
  rfl
  rfl
  refine pssf_cons ?_ pssf_nil
  exact psf_ret pef_bl
  refine pssf_cons ?_ ?_
  refine psf_set (i := 8) ?_ ?_ ?_ ?_
  exact sc_law.nd
  rfl
  first | exact Or.inl rfl | exact Or.inr rfl
  refine pef_fn F_law_bent (hr.mono (by decide)) ?_ ?_
  rfl
  refine paf_c ?_ ?_ ?_
  exact (pef_var (pv 5))
  refine paf_c ?_ ?_ ?_
  refine pef_slice (pef_var (pv 7)) pof_none ?_
  exact pof_some pef_int
  exact paf_nil
  rfl
  rfl
  refine pssf_cons ?_ pssf_nil
  refine psf_if ?_ ?_ pssf_nil
  refine ptf_not ?_
  refine ptf_truth ?_ (fun _ => rfl)
  refine pef_fn F_law_same (hr.mono (by decide)) ?_ ?_
  rfl
  refine paf_c ?_ ?_ ?_
  refine pef_fn F_read_tree (hr.mono (by decide)) ?_ ?_
  rfl
  refine paf_c ?_ ?_ ?_
  exact (pef_var (pv 8))
  exact paf_nil
  rfl
  refine paf_c ?_ ?_ ?_
  refine pef_fn F_law_read (hr.mono (by decide)) ?_ ?_
  rfl
  refine paf_c ?_ ?_ ?_
  exact (pef_var (pv 8))
  exact paf_nil
  rfl
  exact paf_nil
  rfl
  rfl
  refine pssf_cons ?_ pssf_nil
  exact psf_ret pef_bl
  refine pssf_cons ?_ ?_
  refine psf_set (i := 3) ?_ ?_ ?_ ?_
  exact sc_law.nd
  rfl
  first | exact Or.inl rfl | exact Or.inr rfl
  refine pef_op opf_add pef_int ?_
  refine pef_op opf_mod ?_ pef_int
  refine pef_callB callf_abs ?_ T.n_abs bb_abs ?_
  rfl
  refine paf_c ?_ ?_ ?_
  refine pef_fn F_law_at (hr.mono (by decide)) ?_ ?_
  rfl
  refine paf_c ?_ ?_ ?_
  exact (pef_var (pv 0))
  refine paf_c ?_ ?_ ?_
  exact pef_int
  exact paf_nil
  rfl
  rfl
  exact paf_nil
  rfl
  refine pssf_cons ?_ ?_
  refine psf_set (i := 4) ?_ ?_ ?_ ?_
  exact sc_law.nd
  rfl
  first | exact Or.inl rfl | exact Or.inr rfl
  refine pef_tup ?_
  refine paf_c ?_ ?_ ?_
  exact pef_str
  refine paf_c ?_ ?_ ?_
  refine pef_tup ?_
  refine paf_c ?_ ?_ ?_
  exact pef_str
  refine paf_c ?_ ?_ ?_
  exact (pef_var (pv 3))
  exact paf_nil
  rfl
  rfl
  refine paf_c ?_ ?_ ?_
  refine pef_tup ?_
  refine paf_c ?_ ?_ ?_
  exact pef_str
  refine paf_c ?_ ?_ ?_
  exact pef_bl
  refine paf_c ?_ ?_ ?_
  refine pef_tup ?_
  refine paf_c ?_ ?_ ?_
  exact pef_str
  refine paf_c ?_ ?_ ?_
  exact pef_int
  exact paf_nil
  rfl
  rfl
  exact paf_nil
  rfl
  rfl
  rfl
  exact paf_nil
  rfl
  rfl
  rfl
  refine pssf_cons ?_ ?_
  refine psf_if ?_ ?_ pssf_nil
  refine PWf.pt ?_
  refine pwf_or ?_ ?_
  refine ptf_cmp (opf_ne hr.units) ?_ ?_ (nomark _)
  refine pef_fn F_show_tree (hr.mono (by decide)) ?_ ?_
  rfl
  refine paf_c ?_ ?_ ?_
  exact (pef_var (pv 4))
  exact paf_nil
  rfl
  refine pef_op opf_add ?_ pef_str
  refine pef_op opf_add pef_str ?_
  refine pef_callTy callf_str ?_ T.n_str bb_str ?_
  rfl
  refine paf_c ?_ ?_ ?_
  exact (pef_var (pv 3))
  exact paf_nil
  rfl
  refine pwf_or1 ?_
  refine ptf_cmp opf_isn ?_ pef_non (nomark _)
  refine pef_fn F_read_tree (hr.mono (by decide)) ?_ ?_
  rfl
  refine paf_c ?_ ?_ ?_
  refine pef_op opf_add ?_ pef_str
  refine pef_op opf_add pef_str ?_
  refine pef_callTy callf_str ?_ T.n_str bb_str ?_
  rfl
  refine paf_c ?_ ?_ ?_
  exact (pef_var (pv 3))
  exact paf_nil
  rfl
  exact paf_nil
  rfl
  refine pssf_cons ?_ pssf_nil
  exact psf_ret pef_bl
  refine pssf_cons ?_ ?_
  refine psf_set (i := 4) ?_ ?_ ?_ ?_
  exact sc_law.nd
  rfl
  first | exact Or.inl rfl | exact Or.inr rfl
  refine pef_ix ixf ?_ pef_int (fun _ _ => rfl)
  refine pef_fn F_plan (hr.mono (by decide)) ?_ ?_
  rfl
  refine paf_c ?_ ?_ ?_
  refine pef_fn F_law_claim (hr.mono (by decide)) ?_ ?_
  rfl
  refine paf_c ?_ ?_ ?_
  exact (pef_var (pv 0))
  refine paf_c ?_ ?_ ?_
  exact pef_int
  exact paf_nil
  rfl
  rfl
  exact paf_nil
  rfl
  refine pssf_cons ?_ ?_
  refine psf_set (i := 5) ?_ ?_ ?_ ?_
  exact sc_law.nd
  rfl
  first | exact Or.inl rfl | exact Or.inr rfl
  refine pef_fn F_law_shown (hr.mono (by decide)) ?_ ?_
  rfl
  refine paf_c ?_ ?_ ?_
  exact (pef_var (pv 4))
  exact paf_nil
  rfl
  refine pssf_cons ?_ ?_
  refine psf_if ?_ ?_ pssf_nil
  refine PWf.pt ?_
  refine pwf_or ?_ ?_
  refine ptf_cmp (opf_ne hr.units) ?_ (pef_var (pv 5)) (nomark _)
  refine pef_fn F_show_tree (hr.mono (by decide)) ?_ ?_
  rfl
  refine paf_c ?_ ?_ ?_
  exact (pef_var (pv 4))
  exact paf_nil
  rfl
  refine pwf_or1 ?_
  refine ptf_not ?_
  refine ptf_truth ?_ (fun _ => rfl)
  refine pef_fn F_law_same (hr.mono (by decide)) ?_ ?_
  rfl
  refine paf_c ?_ ?_ ?_
  refine pef_fn F_read_tree (hr.mono (by decide)) ?_ ?_
  rfl
  refine paf_c ?_ ?_ ?_
  exact (pef_var (pv 5))
  exact paf_nil
  rfl
  refine paf_c ?_ ?_ ?_
  exact (pef_var (pv 4))
  exact paf_nil
  rfl
  rfl
  refine pssf_cons ?_ pssf_nil
  exact psf_ret pef_bl
  refine pssf_cons ?_ ?_
  refine psf_set (i := 6) ?_ ?_ ?_ ?_
  exact sc_law.nd
  rfl
  first | exact Or.inl rfl | exact Or.inr rfl
  refine pef_lst ?_
  refine paf_c ?_ ?_ ?_
  exact pef_str
  refine paf_c ?_ ?_ ?_
  exact pef_str
  refine paf_c ?_ ?_ ?_
  exact pef_str
  refine paf_c ?_ ?_ ?_
  exact pef_str
  refine paf_c ?_ ?_ ?_
  exact pef_str
  refine paf_c ?_ ?_ ?_
  exact pef_str
  refine paf_c ?_ ?_ ?_
  exact pef_str
  refine paf_c ?_ ?_ ?_
  refine pef_op opf_add ?_ pef_str
  exact pef_op smulf pef_str pef_int
  refine paf_c ?_ ?_ ?_
  refine pef_op opf_add ?_ pef_str
  exact pef_op smulf pef_str pef_int
  refine paf_c ?_ ?_ ?_
  exact pef_op smulf pef_str pef_int
  refine paf_c ?_ ?_ ?_
  exact pef_str
  refine paf_c ?_ ?_ ?_
  exact pef_str
  refine paf_c ?_ ?_ ?_
  exact pef_str
  exact paf_nil
  rfl
  rfl
  rfl
  rfl
  rfl
  rfl
  rfl
  rfl
  rfl
  rfl
  rfl
  rfl
  rfl
  refine pssf_cons ?_ ?_
  refine psf_set (i := 6) ?_ ?_ ?_ ?_
  exact sc_law.nd
  rfl
  first | exact Or.inl rfl | exact Or.inr rfl
  refine pef_op opf_add (pef_var (pv 6)) ?_
  refine pef_lst ?_
  refine paf_c ?_ ?_ ?_
  refine pef_op opf_add ?_ ?_
  refine pef_op opf_add ?_ pef_str
  exact pef_op smulf pef_str pef_int
  exact pef_op smulf pef_str pef_int
  refine paf_c ?_ ?_ ?_
  refine pef_op opf_add ?_ ?_
  refine pef_op opf_add ?_ pef_str
  exact pef_op smulf pef_str pef_int
  exact pef_op smulf pef_str pef_int
  refine paf_c ?_ ?_ ?_
  exact pef_str
  refine paf_c ?_ ?_ ?_
  exact pef_str
  refine paf_c ?_ ?_ ?_
  exact pef_str
  refine paf_c ?_ ?_ ?_
  exact pef_str
  exact paf_nil
  rfl
  rfl
  rfl
  rfl
  rfl
  rfl
  refine pssf_cons ?_ ?_
  refine psf_for PassesOwn.never ?_ ?_ ?_ ?_
  rfl
  refine pif_seq ?_
  refine pef_op opf_add (pef_var (pv 6)) ?_
  refine pef_lst ?_
  refine paf_c ?_ ?_ ?_
  exact pef_op smulf pef_str pef_int
  refine paf_c ?_ ?_ ?_
  exact pef_op smulf pef_str pef_int
  exact paf_nil
  rfl
  rfl
  refine pgf_name (i := 5) ?_ ?_ ?_
  exact sc_law.nd
  rfl
  first | exact Or.inl rfl | exact Or.inr rfl
  refine pssf_cons ?_ pssf_nil
  refine psf_if ?_ ?_ pssf_nil
  refine ptf_not ?_
  refine ptf_truth ?_ (fun _ => rfl)
  refine pef_fn F_law_same (hr.mono (by decide)) ?_ ?_
  rfl
  refine paf_c ?_ ?_ ?_
  refine pef_fn F_read_tree (hr.mono (by decide)) ?_ ?_
  rfl
  refine paf_c ?_ ?_ ?_
  exact (pef_var (pv 5))
  exact paf_nil
  rfl
  refine paf_c ?_ ?_ ?_
  refine pef_fn F_law_read (hr.mono (by decide)) ?_ ?_
  rfl
  refine paf_c ?_ ?_ ?_
  exact (pef_var (pv 5))
  exact paf_nil
  rfl
  exact paf_nil
  rfl
  rfl
  refine pssf_cons ?_ pssf_nil
  exact psf_ret pef_bl
  refine pssf_cons ?_ pssf_nil
  exact psf_ret pef_bl
theorem ok_all (T : Top w K mg) : Fn P w K mg base 27 "law" ["script"] m_law := by
  have F_show_pick := ok_show_pick (P := P) (w := w) (base := base) T
  have F_show_tree := ok_show_tree (P := P) (w := w) (base := base) T F_show_pick
  have F_read_number := ok_read_number (P := P) (w := w) (base := base) T
  have F_lost_at := ok_lost_at (P := P) (w := w) (base := base) T F_read_number
  have F_first_numbers := ok_first_numbers (P := P) (w := w) (base := base) T
  have F_rows_behind := ok_rows_behind (P := P) (w := w) (base := base) T
  have F_other_side := ok_other_side (P := P) (w := w) (base := base) T
  have F_are_of_all := ok_are_of_all (P := P) (w := w) (base := base) T
  have F_number_of_lost := ok_number_of_lost (P := P) (w := w) (base := base) T F_are_of_all
  have F_law_mix := ok_law_mix (P := P) (w := w) (base := base) T
  have F_law_digits := ok_law_digits (P := P) (w := w) (base := base) T F_law_mix
  have F_law_at := ok_law_at (P := P) (w := w) (base := base) T
  have F_law_kinds := ok_law_kinds (P := P) (w := w) (base := base) T
  have F_law_row := ok_law_row (P := P) (w := w) (base := base) T F_law_digits
  have F_law_claim := ok_law_claim (P := P) (w := w) (base := base) T F_law_row F_law_at F_law_kinds F_law_digits
  have F_law_tree := ok_law_tree (P := P) (w := w) (base := base) T
  have F_law_shown := ok_law_shown (P := P) (w := w) (base := base) T
  have F_law_end_read := ok_law_end_read (P := P) (w := w) (base := base) T
  have F_law_read_at := ok_law_read_at (P := P) (w := w) (base := base) T F_law_end_read
  have F_law_read := ok_law_read (P := P) (w := w) (base := base) T F_law_read_at
  have F_law_bent := ok_law_bent (P := P) (w := w) (base := base) T
  have F_law_same := ok_law_same (P := P) (w := w) (base := base) T
  have FF := ok_plan_behind (P := P) (w := w) (base := base) T F_number_of_lost F_other_side F_rows_behind
  have F_plan_behind := FF.1
  have F_plan_by_picks := FF.2
  have F_plan := ok_plan (P := P) (w := w) (base := base) T F_plan_behind F_first_numbers
  have FF := ok_tree_at (P := P) (w := w) (base := base) T F_lost_at
  have F_tree_at := FF.1
  have F_pick_at := FF.2.1
  have F_each_at := FF.2.2
  have F_read_tree := ok_read_tree (P := P) (w := w) (base := base) T F_tree_at
  have F_law := ok_law (P := P) (w := w) (base := base) T F_law_same F_law_read F_read_tree F_show_tree F_law_shown F_plan F_law_claim F_law_at F_law_bent F_law_tree F_law_digits
  exact F_law
end
theorem walk {l : PySem.W.OpenLaw} {q : Program} {loose : List Str} {XP : (Str → Option Value) → Heap → Prop} {YP : World → Heap → Prop} {d : DefRec} {K : Params → PySem.W.Frag} (hn : l.most = some 63) (hdf : d.params.defaults = [])
    (hd : d.name = "law") (hY : ∀ (w : World) (h : Heap), YP w h → (K w.params).In h) (hT : ∀ (w : World) (mg : Str → Option Value) (h : Heap), (K w.params).In h → h.Ns mainGlobals mg → Top w (K w.params) mg)
    (pure : ∀ ns : List Int, ns.length ≤ 63 → ∃ Hd', m_law [.fl (ns.map .int)] [] = some (.bl true, Hd')) : PySem.W.WalkO q loose XP YP l.row.toRowW d [] (fun f vs => PySem.call f vs) := by
  refine L2.walk_ofK (n := 63) (k := 27) (x := "script") (CX := CX0) (sp := spLaw m_law) hn (by decide) hdf ⟨rfl, by decide, by decide, rfl⟩ hY (fun w mg fa h KX G hmg => ?_) (law_start pure) (fun _ _ _ _ z => z)
  have T := hT w mg h KX G
  obtain ⟨f, fd, F, hm⟩ := T.t_law
  have e0 : f = fa := by rw [hd] at hmg; rw [hm] at hmg; cases hmg; rfl
  subst e0
  have B := F.binds (ps := ["script"]) (fun _ _ _ _ _ _ us hl => by obtain ⟨_, rfl⟩ := us1 hl; rfl)
  refine ⟨fd, fun s u => ?_, fun base kb nb => ?_⟩
  · obtain ⟨oc, od, kV, doc, pm, an, cdv, ct, osl, rfl, lk, hcd⟩ := F.ex
    exact .of_eq rfl
  · obtain ⟨f', fd', G1, hb, hk, hm', oc', od', osl', lk'⟩ := (ok_all (P := l.prog) (w := w) (base := base) T).ex
    have e1 : f' = f := by rw [hm] at hm'; cases hm'; rfl
    subst e1
    have e2 : fd' = fd := by
      obtain ⟨oc, od, kV, doc, pm, an, cdv, ct, osl, e3, lk, hcd⟩ := F.ex
      rw [lk] at lk'
      have e4 := Option.some.inj lk'
      injection e4 with _ _ e5 _
      injection e5 with e6
      exact e6.symm
    subst e2
    exact G1
end K08
open PySem PySem.W PyProof.Rows L2 DL
set_option maxRecDepth 100000 in
set_option maxHeartbeats 0 in
theorem PySem.Challenge.cw_allsome_k79_trees_written_and_read_holds : PySem.Challenge.rw_allsome_k79_trees_written_and_read.Holds := by
  w_on; o_law; k_head; (case hw => w_witness2)
  k_fill
  refine K08.walk (l := PySem.Challenge.rw_allsome_k79_trees_written_and_read) rfl rfl rfl (fun w h Y => PySem.W.kIn_of Y) ?T K08.pure_law
  case T =>
    intro w mg h KX G
    have t_show_pick : Tf (L2.KOf KX) mg "show_pick" K08.s_show_pick := by
      dsimp only [L2.KOf]
      refine' tf_mk KX G ?a ?l ?c ?k
      (case a => k_is); (case l => k_is); (case c => k_is); (case k => k_is)
    have t_show_tree : Tf (L2.KOf KX) mg "show_tree" K08.s_show_tree := by
      dsimp only [L2.KOf]
      refine' tf_mk KX G ?a ?l ?c ?k
      (case a => k_is); (case l => k_is); (case c => k_is); (case k => k_is)
    have t_read_number : Tf (L2.KOf KX) mg "read_number" K08.s_read_number := by
      dsimp only [L2.KOf]
      refine' tf_mk KX G ?a ?l ?c ?k
      (case a => k_is); (case l => k_is); (case c => k_is); (case k => k_is)
    have t_lost_at : Tf (L2.KOf KX) mg "lost_at" K08.s_lost_at := by
      dsimp only [L2.KOf]
      refine' tf_mk KX G ?a ?l ?c ?k
      (case a => k_is); (case l => k_is); (case c => k_is); (case k => k_is)
    have t_first_numbers : Tf (L2.KOf KX) mg "first_numbers" K08.s_first_numbers := by
      dsimp only [L2.KOf]
      refine' tf_mk KX G ?a ?l ?c ?k
      (case a => k_is); (case l => k_is); (case c => k_is); (case k => k_is)
    have t_rows_behind : Tf (L2.KOf KX) mg "rows_behind" K08.s_rows_behind := by
      dsimp only [L2.KOf]
      refine' tf_mk KX G ?a ?l ?c ?k
      (case a => k_is); (case l => k_is); (case c => k_is); (case k => k_is)
    have t_other_side : Tf (L2.KOf KX) mg "other_side" K08.s_other_side := by
      dsimp only [L2.KOf]
      refine' tf_mk KX G ?a ?l ?c ?k
      (case a => k_is); (case l => k_is); (case c => k_is); (case k => k_is)
    have t_are_of_all : Tf (L2.KOf KX) mg "are_of_all" K08.s_are_of_all := by
      dsimp only [L2.KOf]
      refine' tf_mk KX G ?a ?l ?c ?k
      (case a => k_is); (case l => k_is); (case c => k_is); (case k => k_is)
    have t_number_of_lost : Tf (L2.KOf KX) mg "number_of_lost" K08.s_number_of_lost := by
      dsimp only [L2.KOf]
      refine' tf_mk KX G ?a ?l ?c ?k
      (case a => k_is); (case l => k_is); (case c => k_is); (case k => k_is)
    have t_law_mix : Tf (L2.KOf KX) mg "_law_mix" K08.s_law_mix := by
      dsimp only [L2.KOf]
      refine' tf_mk KX G ?a ?l ?c ?k
      (case a => k_is); (case l => k_is); (case c => k_is); (case k => k_is)
    have t_law_digits : Tf (L2.KOf KX) mg "_law_digits" K08.s_law_digits := by
      dsimp only [L2.KOf]
      refine' tf_mk KX G ?a ?l ?c ?k
      (case a => k_is); (case l => k_is); (case c => k_is); (case k => k_is)
    have t_law_at : Tf (L2.KOf KX) mg "_law_at" K08.s_law_at := by
      dsimp only [L2.KOf]
      refine' tf_mk KX G ?a ?l ?c ?k
      (case a => k_is); (case l => k_is); (case c => k_is); (case k => k_is)
    have t_law_kinds : Tf (L2.KOf KX) mg "_law_kinds" K08.s_law_kinds := by
      dsimp only [L2.KOf]
      refine' tf_mk KX G ?a ?l ?c ?k
      (case a => k_is); (case l => k_is); (case c => k_is); (case k => k_is)
    have t_law_row : Tf (L2.KOf KX) mg "_law_row" K08.s_law_row := by
      dsimp only [L2.KOf]
      refine' tf_mk KX G ?a ?l ?c ?k
      (case a => k_is); (case l => k_is); (case c => k_is); (case k => k_is)
    have t_law_claim : Tf (L2.KOf KX) mg "_law_claim" K08.s_law_claim := by
      dsimp only [L2.KOf]
      refine' tf_mk KX G ?a ?l ?c ?k
      (case a => k_is); (case l => k_is); (case c => k_is); (case k => k_is)
    have t_law_tree : Tf (L2.KOf KX) mg "_law_tree" K08.s_law_tree := by
      dsimp only [L2.KOf]
      refine' tf_mk KX G ?a ?l ?c ?k
      (case a => k_is); (case l => k_is); (case c => k_is); (case k => k_is)
    have t_law_shown : Tf (L2.KOf KX) mg "_law_shown" K08.s_law_shown := by
      dsimp only [L2.KOf]
      refine' tf_mk KX G ?a ?l ?c ?k
      (case a => k_is); (case l => k_is); (case c => k_is); (case k => k_is)
    have t_law_end_read : Tf (L2.KOf KX) mg "_law_end_read" K08.s_law_end_read := by
      dsimp only [L2.KOf]
      refine' tf_mk KX G ?a ?l ?c ?k
      (case a => k_is); (case l => k_is); (case c => k_is); (case k => k_is)
    have t_law_read_at : Tf (L2.KOf KX) mg "_law_read_at" K08.s_law_read_at := by
      dsimp only [L2.KOf]
      refine' tf_mk KX G ?a ?l ?c ?k
      (case a => k_is); (case l => k_is); (case c => k_is); (case k => k_is)
    have t_law_read : Tf (L2.KOf KX) mg "_law_read" K08.s_law_read := by
      dsimp only [L2.KOf]
      refine' tf_mk KX G ?a ?l ?c ?k
      (case a => k_is); (case l => k_is); (case c => k_is); (case k => k_is)
    have t_law_bent : Tf (L2.KOf KX) mg "_law_bent" K08.s_law_bent := by
      dsimp only [L2.KOf]
      refine' tf_mk KX G ?a ?l ?c ?k
      (case a => k_is); (case l => k_is); (case c => k_is); (case k => k_is)
    have t_law_same : Tf (L2.KOf KX) mg "_law_same" K08.s_law_same := by
      dsimp only [L2.KOf]
      refine' tf_mk KX G ?a ?l ?c ?k
      (case a => k_is); (case l => k_is); (case c => k_is); (case k => k_is)
    have t_plan_behind : Tf (L2.KOf KX) mg "plan_behind" K08.s_plan_behind := by
      dsimp only [L2.KOf]
      refine' tf_mk KX G ?a ?l ?c ?k
      (case a => k_is); (case l => k_is); (case c => k_is); (case k => k_is)
    have t_plan_by_picks : Tf (L2.KOf KX) mg "plan_by_picks" K08.s_plan_by_picks := by
      dsimp only [L2.KOf]
      refine' tf_mk KX G ?a ?l ?c ?k
      (case a => k_is); (case l => k_is); (case c => k_is); (case k => k_is)
    have t_plan : Tf (L2.KOf KX) mg "plan" K08.s_plan := by
      dsimp only [L2.KOf]
      refine' tf_mk KX G ?a ?l ?c ?k
      (case a => k_is); (case l => k_is); (case c => k_is); (case k => k_is)
    have t_tree_at : Tf (L2.KOf KX) mg "tree_at" K08.s_tree_at := by
      dsimp only [L2.KOf]
      refine' tf_mk KX G ?a ?l ?c ?k
      (case a => k_is); (case l => k_is); (case c => k_is); (case k => k_is)
    have t_pick_at : Tf (L2.KOf KX) mg "pick_at" K08.s_pick_at := by
      dsimp only [L2.KOf]
      refine' tf_mk KX G ?a ?l ?c ?k
      (case a => k_is); (case l => k_is); (case c => k_is); (case k => k_is)
    have t_each_at : Tf (L2.KOf KX) mg "each_at" K08.s_each_at := by
      dsimp only [L2.KOf]
      refine' tf_mk KX G ?a ?l ?c ?k
      (case a => k_is); (case l => k_is); (case c => k_is); (case k => k_is)
    have t_read_tree : Tf (L2.KOf KX) mg "read_tree" K08.s_read_tree := by
      dsimp only [L2.KOf]
      refine' tf_mk KX G ?a ?l ?c ?k
      (case a => k_is); (case l => k_is); (case c => k_is); (case k => k_is)
    have t_law : Tf (L2.KOf KX) mg "law" K08.s_law := by
      dsimp only [L2.KOf]
      refine' tf_mk KX G ?a ?l ?c ?k
      (case a => k_is); (case l => k_is); (case c => k_is); (case k => k_is)
    have n_abs : mg "abs" = none := by
      refine' PySem.W.mg_none_of KX G ?z
      (case z => k_is)
    have n_all : mg "all" = none := by
      refine' PySem.W.mg_none_of KX G ?z
      (case z => k_is)
    have n_bool : mg "bool" = none := by
      refine' PySem.W.mg_none_of KX G ?z
      (case z => k_is)
    have n_enumerate : mg "enumerate" = none := by
      refine' PySem.W.mg_none_of KX G ?z
      (case z => k_is)
    have n_int : mg "int" = none := by
      refine' PySem.W.mg_none_of KX G ?z
      (case z => k_is)
    have n_isinstance : mg "isinstance" = none := by
      refine' PySem.W.mg_none_of KX G ?z
      (case z => k_is)
    have n_len : mg "len" = none := by
      refine' PySem.W.mg_none_of KX G ?z
      (case z => k_is)
    have n_list : mg "list" = none := by
      refine' PySem.W.mg_none_of KX G ?z
      (case z => k_is)
    have n_max : mg "max" = none := by
      refine' PySem.W.mg_none_of KX G ?z
      (case z => k_is)
    have n_min : mg "min" = none := by
      refine' PySem.W.mg_none_of KX G ?z
      (case z => k_is)
    have n_range : mg "range" = none := by
      refine' PySem.W.mg_none_of KX G ?z
      (case z => k_is)
    have n_str : mg "str" = none := by
      refine' PySem.W.mg_none_of KX G ?z
      (case z => k_is)
    have n_tuple : mg "tuple" = none := by
      refine' PySem.W.mg_none_of KX G ?z
      (case z => k_is)
    have c_FIGURES : Gc (L2.KOf KX) mg "FIGURES" K08.k_FIGURES := by
      dsimp only [L2.KOf]
      refine' gc_str KX G ?a
      (case a => k_is)
    have c_MOST_FIGURES : Gc (L2.KOf KX) mg "MOST_FIGURES" K08.k_MOST_FIGURES := by
      dsimp only [L2.KOf]
      refine' gc_int KX G ?a
      (case a => k_is)
    have c_MOST_NAMES : Gc (L2.KOf KX) mg "MOST_NAMES" K08.k_MOST_NAMES := by
      dsimp only [L2.KOf]
      refine' gc_int KX G ?a
      (case a => k_is)
    have c_MOST_ROWS : Gc (L2.KOf KX) mg "MOST_ROWS" K08.k_MOST_ROWS := by
      dsimp only [L2.KOf]
      refine' gc_int KX G ?a
      (case a => k_is)
    have c_TRUTHS : Gc (L2.KOf KX) mg "TRUTHS" K08.k_TRUTHS := by
      dsimp only [L2.KOf]
      refine' gc_bools2 KX G ?a ?l
      (case a => k_is); (case l => k_is)
    have d_PICKS : Pk w (L2.KOf KX) mg "PICKS" [("n", false), ("y", true)] := by
      dsimp only [L2.KOf]
      refine' pk_mk2 KX G ?za ?zl ?zp ?zn
      (case za => k_is); (case zl => k_is); (case zp => rfl); (case zn => decide)
    exact ⟨t_show_pick, t_show_tree, t_read_number, t_lost_at, t_first_numbers, t_rows_behind, t_other_side, t_are_of_all, t_number_of_lost, t_law_mix, t_law_digits, t_law_at, t_law_kinds, t_law_row, t_law_claim, t_law_tree, t_law_shown, t_law_end_read, t_law_read_at, t_law_read, t_law_bent, t_law_same, t_plan_behind, t_plan_by_picks, t_plan, t_tree_at, t_pick_at, t_each_at, t_read_tree, t_law, n_abs, n_all, n_bool, n_enumerate, n_int, n_isinstance, n_len, n_list, n_max, n_min, n_range, n_str, n_tuple, c_FIGURES, c_MOST_FIGURES, c_MOST_NAMES, c_MOST_ROWS, c_TRUTHS, d_PICKS⟩
