import PyProof.Rows.All
import Wide.All
import OpenK.AllK
import Wide.FinOn
import Lean
import PyProof.EqAt
import PyProof.EqKinds
import PyProof.TupleCall
import KE.KSortKey
import PyProof.AutoSeq1
import PyProof.MinMaxWalk
import PyProof.P3Eq
import PyProof.P3In
import PyProof.ReprLen
import PyProof.Rows.RuleB_bool
import PyProof.Rows.TupIter
import PyProof.SeqI3
import PyProof.SumWalkG
import PyProof.WalkInts
import PySem.Challenge.RW_allsome_k60_what_is_a_pairs_claim
set_option Elab.async false
set_option linter.all false
set_option maxRecDepth 100000
namespace L2
open PySem PySem.Spec PyProof.Rows
noncomputable abbrev Key := Sum Int Str
noncomputable def keyIs : Key → Value → Bool
  | .inl k, v => Value.isInt k v
  | .inr x, v => Value.isStrOf x v
noncomputable def keyH (w : World) : Key → Int
  | .inl k => hashInt k
  | .inr x => hashStr w x
theorem keyIs_shape : ∀ {k : Key} {v : Value}, keyIs k v = true → (∃ i t, k = Sum.inl i ∧ v = Value.int i t) ∨ (∃ x t, k = Sum.inr x ∧ v = Value.str x t)
  | .inl i, v, h => by
    obtain ⟨t, e⟩ := Value.isInt_shape (k := i) (v := v) h
    exact .inl ⟨i, t, rfl, e⟩
  | .inr x, v, h => by
    obtain ⟨t, e⟩ := Value.isStrOf_shape (x := x) (v := v) h
    exact .inr ⟨x, t, rfl, e⟩
theorem key_ll (a b : Int) : decide ((Sum.inl a : Key) = Sum.inl b) = (a == b) := by
  by_cases e : a = b
  · subst e; simp
  · have h : ¬ (Sum.inl a : Key) = Sum.inl b := fun q => e (Sum.inl.inj q)
    rw [decide_eq_false h]
    exact (beq_eq_false_iff_ne.mpr e).symm
theorem key_rr (a b : Str) : decide ((Sum.inr a : Key) = Sum.inr b) = decide (a = b) := by
  by_cases e : a = b
  · subst e; simp
  · have h : ¬ (Sum.inr a : Key) = Sum.inr b := fun q => e (Sum.inr.inj q)
    rw [decide_eq_false h, decide_eq_false e]
theorem key_lr (a : Int) (b : Str) : decide ((Sum.inl a : Key) = Sum.inr b) = false := decide_eq_false (fun q => nomatch q)
theorem key_rl (a : Str) (b : Int) : decide ((Sum.inr a : Key) = Sum.inl b) = false := decide_eq_false (fun q => nomatch q)
noncomputable def mixKind (prog : Program) (w : World) : PySem.KeyKind prog w Key where
  is := keyIs
  hash := keyH w
  inj := fun v a b ha hb => by
    rcases keyIs_shape ha with ⟨i, t, rfl, rfl⟩ | ⟨x, t, rfl, rfl⟩
    · rcases keyIs_shape hb with ⟨j, u, rfl, e⟩ | ⟨y, u, rfl, e⟩
      · injection e with e1 _; rw [e1]
      · exact nomatch e
    · rcases keyIs_shape hb with ⟨j, u, rfl, e⟩ | ⟨y, u, rfl, e⟩
      · exact nomatch e
      · injection e with e1 _; rw [e1]
  byValue := fun k v h => by
    rcases keyIs_shape h with ⟨i, t, rfl, rfl⟩ | ⟨x, t, rfl, rfl⟩ <;> rfl
  pyHash := fun hv h => by
    rcases keyIs_shape hv with ⟨i, t, rfl, rfl⟩ | ⟨x, t, rfl, rfl⟩
    · exact wpAny_pyHash_int h
    · exact wpAny_pyHash_str h
  eqBool := fun hu hv h => by
    rcases keyIs_shape hu with ⟨i, t, rfl, rfl⟩ | ⟨x, t, rfl, rfl⟩
    · rcases keyIs_shape hv with ⟨j, u, rfl, rfl⟩ | ⟨y, u, rfl, rfl⟩
      · rw [key_ll] at h; exact wpAny_eqBool_int h
      · rw [key_lr] at h; exact SeqAt.EqAt.int_str i t y u _ _ _ _ h
    · rcases keyIs_shape hv with ⟨j, u, rfl, rfl⟩ | ⟨y, u, rfl, rfl⟩
      · rw [key_rl] at h; exact SeqAt.EqAt.str_int x t j u _ _ _ _ h
      · rw [key_rr] at h; exact wpAny_eqBool_str h
  «strs» := fun k x t v h => by
    rcases keyIs_shape h with ⟨i, u, rfl, e⟩ | ⟨y, u, rfl, e⟩
    · exact nomatch e
    · injection e with e1 _
      subst e1
      cases v <;> rfl
end L2
namespace L2
open PySem PySem.Spec PyProof.Rows
inductive V where
  | non | bl (b : Bool) | int (i : Int) | str (x : Str) | byt (b : Array UInt8) | flt (b : UInt64) | ref (a : Addr) | ty (n : String)
  deriving DecidableEq
noncomputable def RelV : V → Value → Prop
  | .non, u => u = Value.none
  | .bl b, u => u = Value.bool b
  | .int i, u => ∃ t, u = Value.int i t
  | .str x, u => ∃ t, u = Value.str x t
  | .byt b, u => ∃ t, u = Value.bytes b t
  | .flt b, u => ∃ t, u = Value.float b t
  | .ref a, u => u = Value.ref a
  | .ty n, u => u = Value.type n
noncomputable abbrev Vals : List V → List Value → Prop := Paired RelV
theorem Vals.length {xs : List V} {us : List Value} (r : Vals xs us) : xs.length = us.length := Paired.length r
theorem Vals.get : ∀ {xs : List V} {us : List Value} {i : Nat} {x : V}, Vals xs us → xs[i]? = some x → ∃ u, us[i]? = some u ∧ RelV x u
  | _, _, _, _, .nil, e => by simp at e
  | _, _, 0, _, .cons r _, e => by simp at e; subst e; exact ⟨_, rfl, r⟩
  | _, _, i + 1, x, .cons _ t, e => by
    obtain ⟨u, h1, h2⟩ := Vals.get (i := i) (x := x) t (by simpa using e)
    exact ⟨u, by simpa using h1, h2⟩
theorem Vals.set {x : V} {u : Value} (r : RelV x u) : ∀ {xs : List V} {us : List Value} (i : Nat), Vals xs us → Vals (xs.set i x) (us.set i u)
  | _, _, _, .nil => .nil
  | _, _, 0, .cons _ t => .cons r t
  | _, _, i + 1, .cons q t => .cons q (Vals.set r i t)
theorem Vals.append : ∀ {xs ys : List V} {us ws : List Value}, Vals xs us → Vals ys ws → Vals (xs ++ ys) (us ++ ws)
  | _, _, _, _, .nil, s => s
  | _, _, _, _, .cons r t, s => .cons r (Vals.append t s)
theorem Vals.take : ∀ {xs : List V} {us : List Value} (n : Nat), Vals xs us → Vals (xs.take n) (us.take n)
  | _, _, 0, _ => .nil
  | _, _, _ + 1, .nil => .nil
  | _, _, n + 1, .cons r t => .cons r (Vals.take n t)
theorem Vals.drop : ∀ {xs : List V} {us : List Value} (n : Nat), Vals xs us → Vals (xs.drop n) (us.drop n)
  | _, _, 0, r => r
  | _, _, _ + 1, .nil => .nil
  | _, _, n + 1, .cons _ t => Vals.drop n t
theorem Vals.none_of : ∀ {xs : List V} {us : List Value} {i : Nat}, Vals xs us → xs[i]? = none → us[i]? = none := fun {xs us i} r e => by
  have h1 := r.length
  have h2 : xs.length ≤ i := List.getElem?_eq_none_iff.mp e
  exact List.getElem?_eq_none_iff.mpr (by omega)
noncomputable def RelO : Option V → Option Value → Prop
  | some v, some u => RelV v u
  | none, none => True
  | _, _ => False
noncomputable def KV {κ : Type} : List (κ × V) → List (κ × Value) → Prop := Paired fun (p : κ × V) (q : κ × Value) => p.1 = q.1 ∧ RelV p.2 q.2
noncomputable def kV : Key → V
  | .inl i => .int i
  | .inr x => .str x
inductive HO where
  | lst (xs : List V)
  | tup (xs : List V)
  | dK (kvs : List (Key × V)) | dT (kvs : List (List Key × V))
  | set (S : Int → Bool) (n : Nat)
  | ins (C dx : Addr) (fs : List (Str × V))
  | own (x : Addr)
  | xd (fs : List (Str × V))
  | met (f x : Addr)
  | rng (lo hi : Int)
  | frz (o : Obj) (u : HO)
  | tbl (ps : Array Value)
  | ext (φ : Heap → Prop)
noncomputable abbrev Hp := Addr → Option HO
noncomputable def upd (H : Hp) (a : Addr) (o : HO) : Hp := fun b => if b = a then some o else H b
theorem upd_same {H : Hp} {a : Addr} {o : HO} : upd H a o a = some o := by unfold upd; rw [if_pos rfl]
theorem upd_ne {H : Hp} {a b : Addr} {o : HO} (h : b ≠ a) : upd H a o b = H b := by unfold upd; rw [if_neg h]
theorem ne_of {H : Hp} {a b : Addr} {o u : HO} (h : H a = some o) (h' : H b = some u) (d : o ≠ u) : a ≠ b := by
  intro e; subst e; rw [h] at h'; exact d (Option.some.inj h')
theorem ne_of_none {H : Hp} {a b : Addr} {o : HO} (h : H a = some o) (h' : H b = none) : a ≠ b := by
  intro e; subst e; rw [h] at h'; cases h'
noncomputable def IsTuN (h : Heap) (a : Addr) (items : Array Value) : Prop := ∃ o, h.get? a = some o ∧ o.cls = .type "tuple" ∧ (∃ n, o.data = .seq items n) ∧ o.dict = none
theorem IsTuN.new (h : Heap) (items : Array Value) : IsTuN (h.push { cls := .type "tuple", data := .seq items }) h.objs.size items := ⟨_, Heap.get?_push_size _ rfl, rfl, ⟨_, rfl⟩, rfl⟩
theorem IsTuN.tup {h : Heap} {a : Addr} {items : Array Value} (x : IsTuN h a items) : IsTup h a items := let ⟨o, e, c, d, _⟩ := x; ⟨o, e, c, d⟩
section
variable (P : Program) (w : World)
noncomputable def ObjOk (H : Hp) (h : Heap) (a : Addr) : HO → Prop
  | .lst xs => xs.length ≤ sizeLine ∧ ∃ (its : List Value) (n : Nat), Vals xs its ∧ h.get? a = some { cls := .type "list", data := .seq its.toArray n }
  | .tup xs => xs.length ≤ sizeLine ∧ ∃ its : List Value, Vals xs its ∧ IsTuN h a its.toArray
  | .dK kvs => kvs.length ≤ sizeLine ∧ (a == sysModules) = false ∧ ∃ vs, KV kvs vs ∧ h.DictOf (mixKind P w) a vs
  | .dT kvs => kvs.length ≤ sizeLine ∧ (a == sysModules) = false ∧ ∃ xs : List (List Key × Addr × Value),
      Paired (fun (p : List Key × V) (q : List Key × Addr × Value) => p.1 = q.1 ∧ H q.2.1 = some (.tup (p.1.map kV)) ∧ RelV p.2 q.2.2) kvs xs ∧
      ∃ o es ep, h.get? a = some o ∧ o.ExactDict ∧ o.data = .dict es ep ∧ es.toList = xs.map (entryOfKey (tupleKind (mixKind P w))) ∧ (xs.map (·.1)).Nodup
  | .set S n => h.SetOf (intKind P w) a S n
  | .ins C dx fs => H dx = some (.own a) ∧ fs.length ≤ 1000 ∧ dx ≠ a ∧ h.get? a = some (PySem.W.instObj C dx) ∧
      ∃ mA, h.Ns1 dx mA ∧ (∀ f, RelO (fs.lookup f) (mA f)) ∧ PySem.Within mA (fs.map (·.1))
  | .own _ => ∃ o, h.get? a = some o
  | .xd fs => ∃ mA, h.Ns1 a mA ∧ ∀ f, RelO (fs.lookup f) (mA f)
  | .rng lo hi => ∃ t u v, h.get? a = some { cls := .type "range", data := .fields #[.int lo t, .int hi u, .int 1 v] }
  | .frz o u => h.get? a = some o ∧ ObjOk H h a u
  | .tbl ps => h.get? a = some { cls := .none, data := .fields ps }
  | .met f x => h.get? a = some (PySem.W.methodObj (.ref f) (.ref x))
  | .ext φ => φ h ∧ (∃ o, h.get? a = some o) ∧ ∀ h1 h2 : Heap, φ h1 → (∀ o, h1.get? a = some o → h2.get? a = some o) → φ h2
noncomputable def HOk (H : Hp) (h : Heap) : Prop := ∀ a o, H a = some o → ObjOk P w H h a o
end
section
variable {P : Program} {w : World} {H H' : Hp} {h h' : Heap} {a : Addr} {o : HO}
theorem ObjOk.lt (x : ObjOk P w H h a o) : a < h.objs.size := by
  cases o with
  | lst xs => obtain ⟨_, _, _, _, e⟩ := x; exact Heap.lt_size e
  | tup xs => obtain ⟨_, _, _, p⟩ := x; exact p.tup.lt
  | dK kvs => obtain ⟨_, _, _, _, o, _, _, e, _⟩ := x; exact Heap.lt_size e
  | dT kvs => obtain ⟨_, _, _, _, o, _, _, e, _⟩ := x; exact Heap.lt_size e
  | set S n => obtain ⟨o, _, _, _, e, _⟩ := x; exact Heap.lt_size e
  | ins C dx fs => obtain ⟨_, _, _, e, _⟩ := x; exact Heap.lt_size e
  | own y => obtain ⟨_, e⟩ := x; exact Heap.lt_size e
  | xd fs => obtain ⟨_, ⟨_, _, _, e, _⟩, _⟩ := x; exact Heap.lt_size e
  | rng lo hi => obtain ⟨_, _, _, e⟩ := x; exact Heap.lt_size e
  | frz ob u => obtain ⟨e, _⟩ := x; exact Heap.lt_size e
  | tbl ps => exact Heap.lt_size (show h.get? a = some _ from x)
  | met f y => exact Heap.lt_size (show h.get? a = some _ from x)
  | ext φ => obtain ⟨_, ⟨_, e⟩, _⟩ := x; exact Heap.lt_size e
theorem Paired.mapP {α β : Type} {F G : α → β → Prop} : ∀ {l₁ : List α} {l₂ : List β}, Paired F l₁ l₂ → (∀ a b, F a b → G a b) → Paired G l₁ l₂
  | _, _, .nil, _ => .nil
  | _, _, .cons r t, f => .cons (f _ _ r) (Paired.mapP t f)
theorem ObjOk.stay (x : ObjOk P w H h a o) (k : ∀ b u, (b = a ∨ H b = some (.own a)) → h.get? b = some u → h'.get? b = some u)
    (ho : ∀ b, H b = some (.own a) → H' b = some (.own a)) (ht : ∀ b xs, H b = some (.tup xs) → H' b = some (.tup xs)) : ObjOk P w H' h' a o := by
  induction o with
  | lst xs => obtain ⟨z, its, n, r, e⟩ := x; exact ⟨z, its, n, r, k _ _ (.inl rfl) e⟩
  | tup xs => obtain ⟨z, its, r, ob, e, c⟩ := x; exact ⟨z, its, r, ob, k _ _ (.inl rfl) e, c⟩
  | dK kvs => obtain ⟨z, y, vs, r, ob, es, ep, e, c⟩ := x; exact ⟨z, y, vs, r, ob, es, ep, k _ _ (.inl rfl) e, c⟩
  | dT kvs =>
    obtain ⟨z, y, xs, r, ob, es, ep, e, c⟩ := x
    exact ⟨z, y, xs, Paired.mapP r fun p q z => ⟨z.1, ht _ _ z.2.1, z.2.2⟩, ob, es, ep, k _ _ (.inl rfl) e, c⟩
  | set S n => obtain ⟨ob, es, ep, t, e, c⟩ := x; exact ⟨ob, es, ep, t, k _ _ (.inl rfl) e, c⟩
  | ins C dx fs =>
    obtain ⟨d, z, ne, e, mA, ⟨od, es, ep, e2, c⟩, r⟩ := x
    exact ⟨ho _ d, z, ne, k _ _ (.inl rfl) e, mA, ⟨od, es, ep, k _ _ (.inr d) e2, c⟩, r⟩
  | own y => obtain ⟨ob, e⟩ := x; exact ⟨ob, k _ _ (.inl rfl) e⟩
  | xd fs => obtain ⟨mA, ⟨od, es, ep, e, c⟩, r⟩ := x; exact ⟨mA, ⟨od, es, ep, k _ _ (.inl rfl) e, c⟩, r⟩
  | rng lo hi => obtain ⟨t, u, v, e⟩ := x; exact ⟨t, u, v, k _ _ (.inl rfl) e⟩
  | frz ob u ih => obtain ⟨e, q⟩ := x; exact ⟨k _ _ (.inl rfl) e, ih q⟩
  | tbl ps =>
    have e : h.get? a = some { cls := .none, data := .fields ps } := x
    show h'.get? a = some { cls := .none, data := .fields ps }
    exact k a _ (.inl rfl) e
  | met f y =>
    have e : h.get? a = some (PySem.W.methodObj (.ref f) (.ref y)) := x
    show h'.get? a = some (PySem.W.methodObj (.ref f) (.ref y))
    exact k a _ (.inl rfl) e
  | ext φ => obtain ⟨p, ⟨o, e⟩, st⟩ := x; exact ⟨st _ _ p fun o q => k _ _ (.inl rfl) q, ⟨o, k _ _ (.inl rfl) e⟩, st⟩
theorem HOk.lt (x : HOk P w H h) (e : H a = some o) : a < h.objs.size := (x a o e).lt
theorem HOk.fresh (x : HOk P w H h) (e : h.objs.size ≤ a) : H a = none := by
  cases q : H a with
  | none => rfl
  | some u => exact absurd (Nat.lt_of_lt_of_le (x.lt q) e) (Nat.lt_irrefl _)
theorem HOk.kept (x : HOk P w H h) (k : ∀ b u, h.get? b = some u → h'.get? b = some u) : HOk P w H h' := fun a o e =>
  (x a o e).stay (fun b u _ q => k b u q) (fun _ q => q) fun _ _ q => q
theorem HOk.laid (x : HOk P w H h) (k : ∀ b u, h.get? b = some u → h'.get? b = some u) (hp : h.objs.size ≤ a) (new : ObjOk P w (upd H a o) h' a o) : HOk P w (upd H a o) h' := fun b u e => by
  have hn := x.fresh hp
  by_cases hb : b = a
  · subst hb; rw [upd_same] at e; cases e; exact new
  · rw [upd_ne hb] at e
    exact (x b u e).stay (fun c v _ q => k c v q) (fun c q => by rw [upd_ne (ne_of_none q hn)]; exact q) fun c xs q => by rw [upd_ne (ne_of_none q hn)]; exact q
end
noncomputable def Rd (H : Hp) (a : Addr) (u : HO) : Prop := H a = some u ∨ ∃ o, H a = some (.frz o u)
theorem Rd.of {H : Hp} {a : Addr} {u : HO} (h : H a = some u) : Rd H a u := .inl h
theorem Rd.ok {P : Program} {w : World} {H : Hp} {h : Heap} {a : Addr} {u : HO} (r : Rd H a u) (x : HOk P w H h) : ObjOk P w H h a u := by
  rcases r with r | ⟨o, r⟩
  · exact x a u r
  · obtain ⟨_, q⟩ := x a _ r
    exact q
noncomputable def Mut : Option HO → Prop
  | some (.lst _) => True
  | some (.dK _) => True
  | some (.dT _) => True
  | some (.set _ _) => True
  | some (.ins _ _ _) => True
  | some (.ext _) => True
  | _ => False
section
variable {P : Program} {w : World} {H : Hp} {h h' : Heap} {x e : Addr} {o' : HO}
theorem HOk.write (ok : HOk P w H h) (mu : Mut (H x)) (he : e = x ∨ H e = some (.own x)) (k : ∀ b u, b ≠ e → h.get? b = some u → h'.get? b = some u) (heo : ∃ u, h'.get? e = some u)
    (new : ObjOk P w (upd H x o') h' x o') : HOk P w (upd H x o') h' := fun b u q => by
  have nown : ∀ c y, H c = some (.own y) → c ≠ x := fun c y r z => by subst z; rw [r] at mu; exact mu
  have ntup : ∀ c xs, H c = some (.tup xs) → c ≠ x := fun c xs r z => by subst z; rw [r] at mu; exact mu
  by_cases hb : b = x
  · subst hb; rw [upd_same] at q; cases q; exact new
  · rw [upd_ne hb] at q
    by_cases hbe : b = e
    · have q' : H b = some (.own x) := by
        rcases he with z | z
        · exact absurd (hbe.trans z) hb
        · rw [hbe]; exact z
      rw [q] at q'; cases q'
      obtain ⟨v, hv⟩ := heo
      exact ⟨v, by rw [hbe]; exact hv⟩
    · refine (ok b u q).stay (fun c v hc r => k c v ?_ r) (fun c r => by rw [upd_ne (nown c b r)]; exact r) fun c xs r => by rw [upd_ne (ntup c xs r)]; exact r
      rcases hc with rfl | hc
      · exact hbe
      · rintro rfl
        rcases he with z | z
        · exact nown c b hc z
        · rw [hc] at z; cases z; exact hb rfl
end
structure Un (fs ex : List Addr) (H H' : Hp) (h h' : Heap) : Prop where
  keep : ∀ b o, h.get? b = some o → H b = none → b ∉ fs → b ∉ ex → h'.get? b = some o
  slot : ∀ b o, h.get? b = some o → H b = none → b ∈ fs → b ∉ ex → ∃ sl, h'.get? b = some { o with slots := sl }
  free : ∀ b o, h.get? b = some o → H b = none → b ∉ ex → H' b = none
  there : ∀ b o, h.get? b = some o → b ∉ ex → ∃ o', h'.get? b = some o'
  tups : ∀ b xs, H b = some (.tup xs) → H' b = some (.tup xs)
  frzs : ∀ b o u, H b = some (.frz o u) → H' b = some (.frz o u)
  tbls : ∀ b ps, H b = some (.tbl ps) → ∃ more, H' b = some (.tbl (ps ++ more))
section
variable {fs fs' ex ex' : List Addr} {H H1 H2 : Hp} {h h1 h2 h' : Heap} {a x e : Addr} {o : HO}
theorem Un.any (u : Un fs ex H H1 h h1) {b : Addr} {ob : Obj} (q : h.get? b = some ob) (n : H b = none) (hx : b ∉ ex) : ∃ sl, h1.get? b = some { ob with slots := sl } := by
  by_cases hb : b ∈ fs
  · exact u.slot b ob q n hb hx
  · exact ⟨ob.slots, u.keep b ob q n hb hx⟩
theorem Un.trans (a : Un fs ex H H1 h h1) (b : Un fs ex H1 H2 h1 h2) : Un fs ex H H2 h h2 where
  keep := fun c ob q n hc hx => b.keep c ob (a.keep c ob q n hc hx) (a.free c ob q n hx) hc hx
  slot := fun c ob q n hc hx => by
    obtain ⟨sl, e1⟩ := a.slot c ob q n hc hx
    obtain ⟨sl', e2⟩ := b.slot c _ e1 (a.free c ob q n hx) hc hx
    exact ⟨sl', e2⟩
  free := fun c ob q n hx => by
    obtain ⟨o', e1⟩ := a.there c ob q hx
    exact b.free c o' e1 (a.free c ob q n hx) hx
  there := fun c ob q hx => by
    obtain ⟨o', e1⟩ := a.there c ob q hx
    exact b.there c o' e1 hx
  tups := fun c xs q => b.tups c xs (a.tups c xs q)
  frzs := fun c ob xs q => b.frzs c ob xs (a.frzs c ob xs q)
  tbls := fun c ps q => by
    obtain ⟨m1, e1⟩ := a.tbls c ps q
    obtain ⟨m2, e2⟩ := b.tbls c _ e1
    exact ⟨m1 ++ m2, by rw [e2, Array.append_assoc]⟩
theorem Un.kept (k : ∀ b u, h.get? b = some u → h'.get? b = some u) : Un fs ex H H h h' :=
  ⟨fun b ob q _ _ _ => k b ob q, fun b ob q _ _ _ => ⟨ob.slots, k b ob q⟩, fun _ _ _ n _ => n, fun b ob q _ => ⟨ob, k b ob q⟩, fun _ _ q => q, fun _ _ _ q => q, fun _ ps q => ⟨#[], by rw [q]; simp⟩⟩
theorem Un.refl : Un fs ex H H h h := Un.kept fun _ _ q => q
theorem Un.laid (k : ∀ b u, h.get? b = some u → h'.get? b = some u) (hp : h.objs.size ≤ a) (hn : H a = none) : Un fs ex H (upd H a o) h h' where
  keep := fun b u q _ _ _ => k b u q
  slot := fun b u q _ _ _ => ⟨u.slots, k b u q⟩
  free := fun b u q n _ => by rw [upd_ne (Nat.ne_of_lt (Nat.lt_of_lt_of_le (Heap.lt_size q) hp))]; exact n
  there := fun b u q _ => ⟨u, k b u q⟩
  tups := fun b xs q => by rw [upd_ne (ne_of_none q hn)]; exact q
  frzs := fun b u xs q => by rw [upd_ne (ne_of_none q hn)]; exact q
  tbls := fun b ps q => ⟨#[], by rw [upd_ne (ne_of_none q hn), q]; simp⟩
theorem Un.write (mu : Mut (H x)) (he : e = x ∨ H e = some (.own x)) (k : ∀ b u, b ≠ e → h.get? b = some u → h'.get? b = some u) (heo : ∃ u, h'.get? e = some u) : Un fs ex H (upd H x o) h h' := by
  have hx : ∀ b, H b = none → b ≠ x := fun b n z => by subst z; rw [n] at mu; exact mu
  have hb : ∀ b, H b = none → b ≠ e := fun b n z => by
    subst z
    rcases he with r | r
    · exact hx b n r
    · rw [n] at r; cases r
  have hm : ∀ b u, H b = some u → ¬ Mut (some u) → b ≠ x := fun b u q nm z => by subst z; rw [q] at mu; exact nm mu
  refine ⟨fun b u q n _ _ => k b u (hb b n) q, fun b u q n _ _ => ⟨u.slots, k b u (hb b n) q⟩, fun b u q n _ => by rw [upd_ne (hx b n)]; exact n, fun b u q _ => ?_,
    fun b xs q => by rw [upd_ne (hm b _ q fun z => z)]; exact q, fun b u xs q => by rw [upd_ne (hm b _ q fun z => z)]; exact q, fun b ps q => ⟨#[], by rw [upd_ne (hm b _ q fun z => z), q]; simp⟩⟩
  by_cases hbe : b = e
  · subst hbe; exact heo
  · exact ⟨u, k b u hbe q⟩
theorem Un.mono (u : Un fs ex H H1 h h1) (hs : ∀ b ∈ fs, b ∈ fs') (hx : ∀ b ∈ ex, b ∈ ex') : Un fs' ex' H H1 h h1 :=
  ⟨fun b ob q n hb he => u.keep b ob q n (fun z => hb (hs b z)) fun z => he (hx b z), fun _ _ q n _ he => u.any q n fun z => he (hx _ z), fun b ob q n he => u.free b ob q n fun z => he (hx b z), fun b ob q he => u.there b ob q fun z => he (hx b z), u.tups, u.frzs, u.tbls⟩
end
noncomputable def trk (h : Heap) (H : Hp) : List Addr := (List.range h.objs.size).filter fun a => (H a).isSome
noncomputable def hidT (h : Heap) (H : Hp) : Heap := PySem.W.hideAll h (trk h H)
theorem hidT_size (h : Heap) (H : Hp) : (hidT h H).objs.size = h.objs.size := PySem.W.hideAll_size _ _
theorem hidT_get {h : Heap} {H : Hp} {b : Addr} {o : Obj} (e : h.get? b = some o) (n : H b = none) : (hidT h H).get? b = some o :=
  PySem.W.hideAll_get _ e fun hm => by
    have q : (H b).isSome = true := (List.mem_filter.mp hm).2
    rw [n] at q; simp at q
theorem of_hidT {h : Heap} {H : Hp} {b : Addr} {o : Obj} (e : (hidT h H).get? b = some o) : h.get? b = some o ∧ H b = none := by
  have e' : h.get? b = some o := PySem.W.of_hideAll (trk h H) e
  refine ⟨e', ?_⟩
  cases q : H b with
  | none => rfl
  | some x =>
    have hm : b ∈ trk h H := List.mem_filter.mpr ⟨List.mem_range.mpr (Heap.lt_size e'), by simp [q]⟩
    have z : (hidT h H).get? b = none := PySem.W.hideAll_none (trk h H) hm
    rw [z] at e; cases e
noncomputable def allNews (g h : Heap) (L : Addr) : List (Addr × Obj) := (List.range h.objs.size).filterMap fun a => if a = L ∨ (g.get? a).isSome = true then none else (h.get? a).map fun o => (a, o)
noncomputable def rest (g h : Heap) (L d : Addr) : List (Addr × Obj) := (allNews g h L).filter fun p => decide (p.1 ≠ d)
end L2
namespace L2
open PySem PySem.Spec PyProof.Rows
structure Mod (K : PySem.W.Frag) (mg : Str → Option Value) (base : Heap) : Prop where
  kin : K.In base
  glob : base.Ns mainGlobals mg
  blt : ∃ mb, base.Ns builtinsNs mb ∧ ∀ x : Str, x ≠ "__name__" → mb x = bootBuiltins x
  nolimit : base.NoLimit
structure Cx where
  prog : Program
  w : World
  K : PySem.W.Frag
  mg : Str → Option Value
  base : Heap
  A : Around
  N : List Str
  s₀ : Shared
  H₀ : Hp
  env : Env
  outer : List Env
  stack : List Env
  ex : List Addr
  fn : Str → Bool
  calm : Bool
  pn : List (Addr × Obj)
  xe : Value → Shared → Prop
noncomputable def frs (l : List Env) : List Addr := l.filterMap (·.frame)
noncomputable abbrev Cx.fs (X : Cx) : List Addr := frs X.outer
noncomputable def Vis (sc : Scope) (x : Str) : Prop := sc.names.lookup x = some .local ∨ sc.names.lookup x = some .cell ∨ sc.names.lookup x = some .free
noncomputable def Loc (sc : Scope) (x : Str) : Prop := sc.names.lookup x = some .local ∨ sc.names.lookup x = some .cell
noncomputable def Look (env : Env) (h : Heap) (m : Str → Option Value) (x : Str) (u : Value) : Prop :=
  (env.kindOf x = some .local ∧ m x = some u) ∨ ((env.kindOf x = some .cell ∨ env.kindOf x = some .free) ∧ ∃ c, env.cells.lookup x = some c ∧ h.IsCell c (some u))
structure Cx.Ok (X : Cx) : Prop where
  mod : Mod X.K X.mg X.base
  kind : X.env.scope.kind = .function
  glob : X.env.globals = mainGlobals
  blt : X.env.builtins = builtinsNs
  above : X.s₀.heap.objs.size ≤ X.env.locals
  inj : ∀ x y c, X.env.cells.lookup x = some c → X.env.cells.lookup y = some c → x = y
  has : ∀ x, (X.env.kindOf x = some .cell ∨ X.env.kindOf x = some .free) → ∃ c, X.env.cells.lookup x = some c
  cab : ∀ x c, X.fn x = true → X.env.cells.lookup x = some c → X.s₀.heap.objs.size ≤ c
  hd : X.calm = true → X.A.handled = none
  frames : X.A.frames = some X.stack
  stk : X.stack = X.outer ∨ (X.stack = X.env :: X.outer ∧ X.env.frame = some X.env.locals)
  exf : ∀ b ∈ X.ex, b ≠ X.env.locals ∧ ∀ x c, X.env.cells.lookup x = some c → c ≠ b
  bs : ∀ b o, X.base.get? b = some o → X.s₀.heap.get? b = some o ∧ X.H₀ b = none
  bsz : X.base.objs.size ≤ X.s₀.heap.objs.size
  noex : ∀ b o, X.base.get? b = some o → b ∉ X.ex
  exfs : ∀ b ∈ X.ex, b ∉ X.fs
  funs : X.s₀.heap.FunFrames X.base X.outer
  frf : ∀ b ∈ X.fs, X.H₀ b = none
structure Inv (X : Cx) (pins : List (Addr × Obj)) (σ : List (Option V)) (H : Hp) (s : Shared) : Prop where
  ok : X.Ok
  os : s.os = X.s₀.os
  bare : AllBare s.gens
  base : Un X.fs X.ex X.H₀ H X.s₀.heap s.heap
  loc : ∃ m, s.heap.Ns X.env.locals m ∧ ∀ (i : Nat) (x : Str) (v : V), X.N[i]? = some x → σ[i]? = some (some v) → Vis X.env.scope x → ∃ u, RelV v u ∧ Look X.env s.heap m x u
  cell : ∀ x c, X.env.cells.lookup x = some c → ∃ v, s.heap.IsCell c v
  free : H X.env.locals = none
  freeC : ∀ x c, X.env.cells.lookup x = some c → H c = none
  pin : ∀ p ∈ X.pn ++ pins, s.heap.get? p.1 = some p.2 ∧ H p.1 = none ∧ p.1 ≠ X.env.locals ∧ p.1 ∉ X.fs ∧ ∀ v, p.2.data ≠ .cell v
  hok : HOk X.prog X.w H s.heap
  len : σ.length = X.N.length
section
variable {X : Cx} {pins : List (Addr × Obj)} {σ : List (Option V)} {H H' : Hp} {s : Shared} {h' : Heap}
theorem Cx.Ok.nofr (ok : X.Ok) {b : Addr} {o : Obj} (e : X.base.get? b = some o) : b ∉ X.fs := fun hb => by
  have := (ok.funs.mem hb).1
  rw [e] at this; cases this
theorem Inv.bs (I : Inv X pins σ H s) : ∀ b o, X.base.get? b = some o → s.heap.get? b = some o ∧ H b = none := fun b o e =>
  ⟨I.base.keep b o (I.ok.bs b o e).1 (I.ok.bs b o e).2 (I.ok.nofr e) (I.ok.noex b o e), I.base.free b o (I.ok.bs b o e).1 (I.ok.bs b o e).2 (I.ok.noex b o e)⟩
theorem Inv.bk (I : Inv X pins σ H s) : ∀ b o, X.base.get? b = some o → s.heap.get? b = some o := fun b o e => (I.bs b o e).1
theorem Inv.mod (I : Inv X pins σ H s) : Mod X.K X.mg X.base := I.ok.mod
theorem Inv.kIn (I : Inv X pins σ H s) : X.K.In s.heap := I.ok.mod.kin.keeps I.bk
theorem Inv.nolimit (I : Inv X pins σ H s) : s.heap.NoLimit := I.ok.mod.nolimit.keeps I.bk
theorem Inv.fr (I : Inv X pins σ H s) : ∃ m, Fr X.base X.env.locals s.heap m :=
  let ⟨m, hn, _⟩ := I.loc
  ⟨m, hn, I.bk, Nat.le_trans I.ok.bsz I.ok.above⟩
theorem Inv.lt (I : Inv X pins σ H s) : X.env.locals < s.heap.objs.size := let ⟨_, hn, _⟩ := I.loc; hn.lt
theorem Inv.sz (I : Inv X pins σ H s) : X.s₀.heap.objs.size ≤ s.heap.objs.size := Nat.le_trans I.ok.above (Nat.le_of_lt I.lt)
theorem Inv.nofs (I : Inv X pins σ H s) {a : Addr} (h : s.heap.objs.size ≤ a) : a ∉ X.fs := fun hb => by
  obtain ⟨_, o, ho, _⟩ := I.ok.funs.mem hb
  exact absurd (Nat.lt_of_lt_of_le (Heap.lt_size ho) (Nat.le_trans I.sz h)) (Nat.lt_irrefl _)
theorem Inv.cne (I : Inv X pins σ H s) : ∀ x c, X.env.cells.lookup x = some c → c ≠ X.env.locals := fun x c e z => by
  obtain ⟨v, o, ho, hd⟩ := I.cell x c e
  obtain ⟨m, ⟨o', es, ep, ho', hd', _⟩, _⟩ := I.loc
  rw [z, ho'] at ho; cases ho; rw [hd'] at hd; cases hd
theorem Inv.funs (I : Inv X pins σ H s) : s.heap.FunFrames X.base X.outer := by
  have all : ∀ (l : List Env), (∀ b ∈ frs l, b ∈ X.fs) → X.s₀.heap.FunFrames X.base l → s.heap.FunFrames X.base l := by
    intro l
    induction l with
    | nil => intro _ _; trivial
    | cons env r ih =>
      intro hs hl
      obtain ⟨hk, ⟨L, o, hf, hn, ho, hd⟩, hr⟩ := hl
      have hL : L ∈ X.fs := hs L (by unfold frs; rw [List.filterMap_cons, hf]; exact List.mem_cons_self)
      obtain ⟨sl, e⟩ := I.base.slot L o ho (I.ok.frf L hL) hL fun z => I.ok.exfs L z hL
      exact ⟨hk, ⟨L, _, hf, hn, e, hd⟩, ih (fun b hb => hs b (by unfold frs; rw [List.filterMap_cons, hf]; exact List.mem_cons_of_mem _ hb)) hr⟩
  exact all X.outer (fun _ hb => hb) I.ok.funs
theorem Inv.stack (I : Inv X pins σ H s) : s.heap.FunFrames X.base X.stack := by
  rcases I.ok.stk with e | ⟨e, hf⟩
  · rw [e]; exact I.funs
  · rw [e]
    obtain ⟨m, hn, _⟩ := I.loc
    refine .cons (by rw [I.ok.kind]; decide) hf hn ?_ I.funs
    exact Heap.get?_none_of_le (Nat.le_trans I.ok.bsz I.ok.above)
theorem Inv.stkSub (I : Inv X pins σ H s) : ∀ b ∈ frs X.stack, b ∈ X.env.locals :: X.fs := fun b hb => by
  rcases I.ok.stk with e | ⟨e, hf⟩
  · rw [e] at hb; exact List.mem_cons_of_mem _ hb
  · rw [e] at hb
    unfold frs at hb
    rw [List.filterMap_cons, hf] at hb
    exact hb
theorem Inv.stkFree (I : Inv X pins σ H s) : ∀ b ∈ frs X.stack, H b = none := fun b hb => by
  rcases List.mem_cons.mp (I.stkSub b hb) with e | hb
  · rw [e]; exact I.free
  · obtain ⟨_, o, ho, _⟩ := I.ok.funs.mem hb
    exact I.base.free b o ho (I.ok.frf b hb) fun z => I.ok.exfs b z hb
theorem Inv.step {g' : Array GenState} {t' : Nat} {d' : Drawn} {ch : List Addr} (I : Inv X pins σ H s)
    (hch : ∀ b ∈ ch, (b ∈ X.ex ∨ X.s₀.heap.objs.size ≤ b) ∧ b ≠ X.env.locals ∧ (∀ x c, X.env.cells.lookup x = some c → c ≠ b) ∧ ∀ p ∈ X.pn ++ pins, p.1 ≠ b)
    (keep : ∀ b o, b ≠ X.env.locals → b ∉ X.fs → b ∉ ch → s.heap.get? b = some o → H b = none → h'.get? b = some o)
    (slot : ∀ b o, b ≠ X.env.locals → b ∈ X.fs → b ∉ ch → s.heap.get? b = some o → H b = none → ∃ sl, h'.get? b = some { o with slots := sl }) (free : ∀ b o, b ∉ ch → s.heap.get? b = some o → H b = none → H' b = none)
    (there : ∀ b o, b ∉ ch → s.heap.get? b = some o → ∃ o', h'.get? b = some o')
    (tups : ∀ b xs, H b = some (.tup xs) → H' b = some (.tup xs)) (frzs : ∀ b o u, H b = some (.frz o u) → H' b = some (.frz o u)) (tbls : ∀ b ps, H b = some (.tbl ps) → ∃ more, H' b = some (.tbl (ps ++ more)))
    (ns : ∀ m, s.heap.Ns X.env.locals m → h'.Ns X.env.locals m) (hok : HOk X.prog X.w H' h') (hg : AllBare g') :
    Inv X pins σ H' { s with heap := h', gens := g', drawn := d', toks := t' } := by
  have neL : ∀ b o, X.s₀.heap.get? b = some o → b ≠ X.env.locals := fun b o e => Nat.ne_of_lt (Nat.lt_of_lt_of_le (Heap.lt_size e) I.ok.above)
  have neC : ∀ b o, X.s₀.heap.get? b = some o → b ∉ X.ex → b ∉ ch := fun b o e hx hb => by
    rcases (hch b hb).1 with z | z
    · exact hx z
    · exact absurd (Nat.lt_of_lt_of_le (Heap.lt_size e) z) (Nat.lt_irrefl _)
  have cellK : ∀ x c, X.env.cells.lookup x = some c → ∀ v, s.heap.IsCell c v → h'.IsCell c v := fun x c e v ⟨o, ho, hd⟩ => by
    have nch : c ∉ ch := fun z => (hch c z).2.2.1 x c e rfl
    by_cases hc : c ∈ X.fs
    · obtain ⟨sl, q⟩ := slot c o (I.cne x c e) hc nch ho (I.freeC x c e)
      exact ⟨_, q, hd⟩
    · exact ⟨o, keep c o (I.cne x c e) hc nch ho (I.freeC x c e), hd⟩
  refine ⟨I.ok, I.os, hg, ⟨fun b o e n hb hx => ?_, fun b o e n hb hx => ?_, fun b o e n hx => ?_, fun b o e hx => ?_, fun b xs e => tups b xs (I.base.tups b xs e), fun b o xs e => frzs b o xs (I.base.frzs b o xs e), fun b ps e => ?_⟩, ?_, fun x c e => ?_, ?_, fun x c e => ?_, fun p hp => ?_, hok, I.len⟩
  · exact keep b o (neL b o e) hb (neC b o e hx) (I.base.keep b o e n hb hx) (I.base.free b o e n hx)
  · obtain ⟨sl, e1⟩ := I.base.slot b o e n hb hx
    obtain ⟨sl', e2⟩ := slot b _ (neL b o e) hb (neC b o e hx) e1 (I.base.free b o e n hx)
    exact ⟨sl', e2⟩
  · obtain ⟨o', e1⟩ := I.base.there b o e hx
    exact free b o' (neC b o e hx) e1 (I.base.free b o e n hx)
  · obtain ⟨o', e1⟩ := I.base.there b o e hx
    exact there b o' (neC b o e hx) e1
  · obtain ⟨m1, e1⟩ := I.base.tbls b ps e
    obtain ⟨m2, e2⟩ := tbls b _ e1
    exact ⟨m1 ++ m2, by rw [e2, Array.append_assoc]⟩
  · obtain ⟨m, hn, hl⟩ := I.loc
    refine ⟨m, ns m hn, fun i x v e1 e2 e3 => ?_⟩
    obtain ⟨u, r, l⟩ := hl i x v e1 e2 e3
    refine ⟨u, r, ?_⟩
    rcases l with l | ⟨k, c, e, z⟩
    · exact .inl l
    · exact .inr ⟨k, c, e, cellK x c e _ z⟩
  · obtain ⟨v, z⟩ := I.cell x c e
    exact ⟨v, cellK x c e v z⟩
  · obtain ⟨m, ⟨o, _, _, ho, _⟩, _⟩ := I.loc
    exact free _ o (fun z => (hch _ z).2.1 rfl) ho I.free
  · obtain ⟨v, o, ho, hd⟩ := I.cell x c e
    exact free c o (fun z => (hch c z).2.2.1 x c e rfl) ho (I.freeC x c e)
  · obtain ⟨e, n, ne, nf, d⟩ := I.pin p hp
    have nch : p.1 ∉ ch := fun z => (hch p.1 z).2.2.2 p hp rfl
    exact ⟨keep p.1 p.2 ne nf nch e n, free p.1 p.2 nch e n, ne, nf, d⟩
theorem Inv.un {t' : Nat} (I : Inv X pins σ H s) (u : Un X.fs [] H H' s.heap h') (hok : HOk X.prog X.w H' h') : Inv X pins σ H' { s with heap := h', toks := t' } := by
  obtain ⟨m, ⟨o, es, ep, ho, r⟩, _⟩ := id I.loc
  obtain ⟨sl, hL⟩ := u.any ho I.free (by simp)
  exact I.step (g' := s.gens) (d' := s.drawn) (ch := []) (fun _ z => nomatch z) (fun b o _ hb _ e n => u.keep b o e n hb (by simp)) (fun b o _ hb _ e n => u.slot b o e n hb (by simp)) (fun b o _ e n => u.free b o e n (by simp)) (fun b o _ e => u.there b o e (by simp)) u.tups u.frzs u.tbls (fun m' hm => by
    obtain ⟨o', es', ep', ho', r'⟩ := hm
    rw [ho] at ho'; cases ho'
    exact ⟨_, es', ep', hL, r'⟩) hok I.bare
theorem Inv.call {g' : Array GenState} {t' : Nat} {d' : Drawn} {ch : List Addr} (I : Inv X pins σ H s) (u : Un (frs X.stack) ch H H' s.heap h') (hok : HOk X.prog X.w H' h') (hg : AllBare g')
    (hch : ∀ b ∈ ch, (b ∈ X.ex ∨ X.s₀.heap.objs.size ≤ b) ∧ b ≠ X.env.locals ∧ (∀ x c, X.env.cells.lookup x = some c → c ≠ b) ∧ ∀ p ∈ X.pn ++ pins, p.1 ≠ b) :
    Inv X pins σ H' { s with heap := h', gens := g', drawn := d', toks := t' } := by
  obtain ⟨m, ⟨o, es, ep, ho, r⟩, _⟩ := id I.loc
  obtain ⟨sl, hL⟩ := u.any ho I.free fun z => (hch _ z).2.1 rfl
  exact I.step (ch := ch) hch (fun b o hL hb hc e n => u.keep b o e n (fun z => (List.mem_cons.mp (I.stkSub b z)).elim hL hb) hc) (fun b o _ _ hc e n => u.any e n hc) (fun b o hc e n => u.free b o e n hc) (fun b o hc e => u.there b o e hc) u.tups u.frzs u.tbls (fun m' hm => by
    obtain ⟨o', es', ep', ho', r'⟩ := hm
    rw [ho] at ho'; cases ho'
    exact ⟨_, es', ep', hL, r'⟩) hok hg
theorem Inv.turned {t' : Nat} {it : Addr} (I : Inv X pins σ H s) (k : ∀ b o, b ≠ it → s.heap.get? b = some o → h'.get? b = some o) (hn : H it = none) (hL : it ≠ X.env.locals)
    (h1 : it ∈ X.ex ∨ X.s₀.heap.objs.size ≤ it) (h2 : ∀ x c, X.env.cells.lookup x = some c → c ≠ it) (h3 : ∀ p ∈ X.pn ++ pins, p.1 ≠ it) : Inv X pins σ H { s with heap := h', toks := t' } := by
  have nit : ∀ b u, H b = some u → b ≠ it := fun b u e z => by rw [z, hn] at e; cases e
  refine I.step (g' := s.gens) (d' := s.drawn) (ch := [it]) (fun b hb => ?_) (fun b o _ _ hc e _ => k b o (fun z => hc (by simp [z])) e) (fun b o _ _ hc e _ => ⟨o.slots, k b o (fun z => hc (by simp [z])) e⟩) (fun _ _ _ _ n => n)
    (fun b o hc e => ⟨o, k b o (fun z => hc (by simp [z])) e⟩) (fun _ _ e => e) (fun _ _ _ e => e) (fun b ps e => ⟨#[], by rw [e]; simp⟩) (fun m hm => ?_) (fun b u e => ?_) I.bare
  · have e : b = it := by simpa using hb
    subst e
    exact ⟨h1, hL, h2, h3⟩
  · obtain ⟨o, es, ep, ho, r⟩ := hm
    exact ⟨o, es, ep, k _ o (Ne.symm hL) ho, r⟩
  · refine (I.hok b u e).stay (fun c v hc q => k c v ?_ q) (fun _ q => q) fun _ _ q => q
    rcases hc with z | z
    · rw [z]; exact nit b u e
    · exact nit c _ z
theorem Inv.tok (I : Inv X pins σ H s) (t : Nat) : Inv X pins σ H { s with toks := t } := I.un (h' := s.heap) (t' := t) Un.refl I.hok
theorem Inv.kept {t' : Nat} (I : Inv X pins σ H s) (k : ∀ b u, s.heap.get? b = some u → h'.get? b = some u) : Inv X pins σ H { s with heap := h', toks := t' } := I.un (Un.kept k) (I.hok.kept k)
theorem Inv.laid {a : Addr} {o : HO} {t' : Nat} (I : Inv X pins σ H s) (k : ∀ b u, s.heap.get? b = some u → h'.get? b = some u) (hp : s.heap.objs.size ≤ a) (new : ObjOk X.prog X.w (upd H a o) h' a o) :
    Inv X pins σ (upd H a o) { s with heap := h', toks := t' } := I.un (Un.laid k hp (I.hok.fresh hp)) (I.hok.laid k hp new)
theorem Inv.write {x e : Addr} {o : HO} {t' : Nat} (I : Inv X pins σ H s) (mu : Mut (H x)) (he : e = x ∨ H e = some (.own x)) (k : ∀ b u, b ≠ e → s.heap.get? b = some u → h'.get? b = some u) (heo : ∃ u, h'.get? e = some u)
    (new : ObjOk X.prog X.w (upd H x o) h' x o) : Inv X pins σ (upd H x o) { s with heap := h', toks := t' } := I.un (Un.write mu he k heo) (I.hok.write mu he k heo new)
theorem Inv.weak {σ' : List (Option V)} (I : Inv X pins σ H s) (hl : σ'.length = σ.length) (w : ∀ (i : Nat) v, σ'[i]? = some (some v) → σ[i]? = some (some v)) : Inv X pins σ' H s :=
  ⟨I.ok, I.os, I.bare, I.base, let ⟨m, hn, hl'⟩ := I.loc; ⟨m, hn, fun i x v e1 e2 e3 => hl' i x v e1 (w i v e2) e3⟩, I.cell, I.free, I.freeC, I.pin, I.hok, hl.trans I.len⟩
theorem Inv.pins_of {pins' : List (Addr × Obj)} (I : Inv X pins σ H s) (h : ∀ p ∈ pins', s.heap.get? p.1 = some p.2 ∧ H p.1 = none ∧ p.1 ≠ X.env.locals ∧ p.1 ∉ X.fs ∧ ∀ v, p.2.data ≠ .cell v) : Inv X pins' σ H s :=
  ⟨I.ok, I.os, I.bare, I.base, I.loc, I.cell, I.free, I.freeC, fun p hp => (List.mem_append.mp hp).elim (fun z => I.pin p (List.mem_append_left _ z)) (h p), I.hok, I.len⟩
theorem nodup_ix {N : List Str} (hN : N.Nodup) {i j : Nat} {x : Str} (a : N[i]? = some x) (b : N[j]? = some x) : i = j := by
  obtain ⟨h1, e1⟩ := List.getElem?_eq_some_iff.mp a
  obtain ⟨h2, e2⟩ := List.getElem?_eq_some_iff.mp b
  exact (List.getElem_inj hN).mp (e1.trans e2.symm)
theorem store_ok2 {M : Model} {A : Around} {E : Value → Shared → Prop} {i : Nat} {x : Str} {v : V} {u : Value} {Q : Unit → Shared → Prop} (I : Inv X pins σ H s) (hN : X.N.Nodup) (hi : X.N[i]? = some x) (hx : Loc X.env.scope x) (r : RelV v u)
    (h : ∀ s', Inv X pins (σ.set i (some v)) H s' → (∃ a, Heap.SameBut a s.heap s'.heap ∧ (a = X.env.locals ∨ X.env.cells.lookup x = some a)) → Q () s') (hf : X.fn x = true ∨ X.env.scope.names.lookup x = some .local := by first | exact .inl rfl | exact .inr rfl | assumption) : wpAny M A (storeName X.env x u) Q E s := by
  obtain ⟨m, hn, hl⟩ := id I.loc
  have hcls : (X.env.scope.kind == .class || (X.env.scope.kind == .module && X.env.locals != X.env.globals)) = false := by rw [I.ok.kind]; rfl
  have hiσ : i < σ.length := by rw [I.len]; exact (List.getElem?_eq_some_iff.mp hi).1
  have cne := I.cne
  have tracked : ∀ {a : Addr} {h' : Heap}, (∃ o, s.heap.get? a = some o ∧ H a = none) → Heap.SameBut a s.heap h' → HOk X.prog X.w H h' := fun {a h'} ha hs b ob e => by
    obtain ⟨_, _, hfree⟩ := ha
    refine (I.hok b ob e).stay (fun c w' hc q => (hs.2 c ?_).trans q) (fun _ q => q) fun _ _ q => q
    rintro rfl
    rcases hc with rfl | hc
    · rw [hfree] at e; cases e
    · rw [hfree] at hc; cases hc
  rcases hx with hk | hk
  · refine wpAny_storeName_local hk hn (fun h' hn' hs => ?_) hcls
    obtain ⟨oL, _, _, hoL, _⟩ := id hn
    refine h _ ⟨I.ok, I.os, I.bare, ⟨fun b o e n hb hx => ?_, fun b o e n hb hx => ?_, I.base.free, fun b o e hx => ?_, I.base.tups, I.base.frzs, I.base.tbls⟩, ⟨_, hn', fun j y v' e1 e2 e3 => ?_⟩, fun y c e => ?_, I.free, I.freeC, fun p hp => ?_, tracked ⟨oL, hoL, I.free⟩ hs, by simpa using I.len⟩ ⟨_, hs, .inl rfl⟩
    · exact (hs.2 b (Nat.ne_of_lt (Nat.lt_of_lt_of_le (Heap.lt_size e) I.ok.above))).trans (I.base.keep b o e n hb hx)
    · obtain ⟨sl, e1⟩ := I.base.slot b o e n hb hx
      exact ⟨sl, (hs.2 b (Nat.ne_of_lt (Nat.lt_of_lt_of_le (Heap.lt_size e) I.ok.above))).trans e1⟩
    · obtain ⟨o', e1⟩ := I.base.there b o e hx
      exact ⟨o', (hs.2 b (Nat.ne_of_lt (Nat.lt_of_lt_of_le (Heap.lt_size e) I.ok.above))).trans e1⟩
    · by_cases hj : j = i
      · subst hj
        rw [hi] at e1; cases e1
        rw [List.getElem?_set_self hiσ] at e2
        cases e2
        exact ⟨u, r, .inl ⟨hk, by simp⟩⟩
      · rw [List.getElem?_set_ne (Ne.symm hj)] at e2
        obtain ⟨u', r', q⟩ := hl j y v' e1 e2 e3
        refine ⟨u', r', ?_⟩
        rcases q with ⟨k, e⟩ | ⟨k, c, e, z⟩
        · refine .inl ⟨k, ?_⟩
          have : y ≠ x := fun e => hj (nodup_ix hN e1 (e ▸ hi))
          simp [this, e]
        · exact .inr ⟨k, c, e, z.sameBut hs (cne y c e)⟩
    · obtain ⟨w', z⟩ := I.cell y c e
      exact ⟨w', z.sameBut hs (cne y c e)⟩
    · obtain ⟨e, n, ne, nf, d⟩ := I.pin p hp
      exact ⟨(hs.2 p.1 ne).trans e, n, ne, nf, d⟩
  · have hfn : X.fn x = true := by
      rcases hf with z | z
      · exact z
      · rw [z] at hk; cases hk
    obtain ⟨c, hc⟩ := I.ok.has x (.inl hk)
    obtain ⟨w', z⟩ := I.cell x c hc
    refine wpAny_storeName_cell I.ok.kind hk hc z (fun h' hc' hs => ?_)
    obtain ⟨oc, hoc, hocd⟩ := id z
    refine h { s with heap := h' } ⟨I.ok, I.os, I.bare, ⟨fun b o e n hb hx => ?_, fun b o e n hb hx => ?_, I.base.free, fun b o e hx => ?_, I.base.tups, I.base.frzs, I.base.tbls⟩, ⟨m, hn.sameBut hs (Ne.symm (cne x c hc)), fun j y v' e1 e2 e3 => ?_⟩, fun y c' e => ?_, I.free, I.freeC, fun p hp => ?_, tracked ⟨oc, hoc, I.freeC x c hc⟩ hs, by simpa using I.len⟩ ⟨c, hs, .inr hc⟩
    · exact (hs.2 b (Nat.ne_of_lt (Nat.lt_of_lt_of_le (Heap.lt_size e) (I.ok.cab x c hfn hc)))).trans (I.base.keep b o e n hb hx)
    · obtain ⟨sl, e1⟩ := I.base.slot b o e n hb hx
      exact ⟨sl, (hs.2 b (Nat.ne_of_lt (Nat.lt_of_lt_of_le (Heap.lt_size e) (I.ok.cab x c hfn hc)))).trans e1⟩
    · obtain ⟨o', e1⟩ := I.base.there b o e hx
      exact ⟨o', (hs.2 b (Nat.ne_of_lt (Nat.lt_of_lt_of_le (Heap.lt_size e) (I.ok.cab x c hfn hc)))).trans e1⟩
    · by_cases hj : j = i
      · subst hj
        rw [hi] at e1; cases e1
        rw [List.getElem?_set_self hiσ] at e2
        cases e2
        exact ⟨u, r, .inr ⟨.inl hk, c, hc, hc'⟩⟩
      · rw [List.getElem?_set_ne (Ne.symm hj)] at e2
        obtain ⟨u', r', q⟩ := hl j y v' e1 e2 e3
        refine ⟨u', r', ?_⟩
        rcases q with q | ⟨k, c', e, z'⟩
        · exact .inl q
        · refine .inr ⟨k, c', e, z'.sameBut hs ?_⟩
          rintro rfl
          exact hj (nodup_ix hN e1 (I.ok.inj _ _ _ e hc ▸ hi))
    · by_cases hcc : c' = c
      · subst hcc; exact ⟨_, hc'⟩
      · obtain ⟨w2, z2⟩ := I.cell y c' e
        exact ⟨w2, z2.sameBut hs hcc⟩
    · obtain ⟨e, n, ne, nf, d⟩ := I.pin p hp
      refine ⟨(hs.2 p.1 ?_).trans e, n, ne, nf, d⟩
      intro q
      rw [q, hoc] at e
      have q' : oc = p.2 := Option.some.inj e
      exact d w' (by rw [← q']; exact hocd)
theorem store_ok {M : Model} {A : Around} {E : Value → Shared → Prop} {i : Nat} {x : Str} {v : V} {u : Value} {Q : Unit → Shared → Prop} (I : Inv X pins σ H s) (hN : X.N.Nodup) (hi : X.N[i]? = some x) (hx : Loc X.env.scope x) (r : RelV v u)
    (h : ∀ s', Inv X pins (σ.set i (some v)) H s' → Q () s') (hf : X.fn x = true ∨ X.env.scope.names.lookup x = some .local := by first | exact .inl rfl | exact .inr rfl | assumption) : wpAny M A (storeName X.env x u) Q E s :=
  store_ok2 I hN hi hx r (fun s' I' _ => h s' I') hf
theorem Inv.call' {s' : Shared} {ch : List Addr} (I : Inv X pins σ H s) (ho : s'.os = s.os) (u : Un (frs X.stack) ch H H' s.heap s'.heap) (hok : HOk X.prog X.w H' s'.heap) (hg : AllBare s'.gens)
    (hch : ∀ b ∈ ch, (b ∈ X.ex ∨ X.s₀.heap.objs.size ≤ b) ∧ b ≠ X.env.locals ∧ (∀ x c, X.env.cells.lookup x = some c → c ≠ b) ∧ ∀ p ∈ X.pn ++ pins, p.1 ≠ b) : Inv X pins σ H' s' := by
  obtain ⟨h', g', d', t', o'⟩ := s'
  have e : o' = s.os := ho
  subst e
  exact I.call (g' := g') (t' := t') (d' := d') u hok hg hch
end
noncomputable abbrev XK := Value → Option Addr → Hp → Prop
noncomputable abbrev St := List (Option V)
noncomputable abbrev VK := V → Hp → Prop
noncomputable abbrev TE := St → Hp → VK → Prop
noncomputable abbrev TT := St → Hp → (Bool → Hp → Prop) → Prop
noncomputable abbrev TA := St → Hp → (List V → Hp → Prop) → Prop
structure Ends where
  nx : St → Hp → Prop
  rt : VK
  bk : St → Hp → Prop := fun _ _ => False
  ct : St → Hp → Prop := fun _ _ => False
noncomputable abbrev TS := Ends → St → Hp → Prop
noncomputable def EP (X : Cx) (pins : List (Addr × Obj)) (σ : St) (Q : VK) (u : Value) (s' : Shared) : Prop := ∃ v H', Inv X pins σ H' s' ∧ RelV v u ∧ Q v H'
noncomputable def TP (X : Cx) (pins : List (Addr × Obj)) (σ : St) (Q : Bool → Hp → Prop) (b : Bool) (s' : Shared) : Prop := ∃ H', Inv X pins σ H' s' ∧ Q b H'
noncomputable def AP (X : Cx) (pins : List (Addr × Obj)) (σ : St) (Q : List V → Hp → Prop) (us : List Value) (s' : Shared) : Prop := ∃ vs H', Inv X pins σ H' s' ∧ Vals vs us ∧ Q vs H'
noncomputable def SP (X : Cx) (pins : List (Addr × Obj)) (D : Ends) (f : Flow) (s' : Shared) : Prop :=
  match f with
  | .next => ∃ σ' H', Inv X pins σ' H' s' ∧ D.nx σ' H'
  | .brk => ∃ σ' H', Inv X pins σ' H' s' ∧ D.bk σ' H'
  | .cont => ∃ σ' H', Inv X pins σ' H' s' ∧ D.ct σ' H'
  | .ret u => ∃ v σ' H', Inv X pins σ' H' s' ∧ RelV v u ∧ D.rt v H'
noncomputable def PE (X : Cx) (e : Expr) (t : TE) : Prop :=
  ∀ (pins : List (Addr × Obj)) (s : Shared) (σ : St) (H : Hp) (Q : VK), Inv X pins σ H s → t σ H Q → wpAny (model X.prog X.w) X.A (eval e X.env) (EP X pins σ Q) X.xe s
noncomputable def PT (X : Cx) (e : Expr) (t : TT) : Prop :=
  ∀ (pins : List (Addr × Obj)) (s : Shared) (σ : St) (H : Hp) (Q : Bool → Hp → Prop), Inv X pins σ H s → t σ H Q → wpAny (model X.prog X.w) X.A (isTrue e X.env (eval e X.env)) (TP X pins σ Q) X.xe s
noncomputable def PW (X : Cx) (e : Expr) (t : TT) : Prop :=
  ∀ (whole : Sem Value) (pins : List (Addr × Obj)) (s : Shared) (σ : St) (H : Hp) (Q : Bool → Hp → Prop), Inv X pins σ H s → t σ H Q → wpAny (model X.prog X.w) X.A (isTrue e X.env whole) (TP X pins σ Q) X.xe s
theorem PW.pt {X : Cx} {e : Expr} {t : TT} (h : PW X e t) : PT X e t := h _
noncomputable def PA (X : Cx) (es : List Expr) (t : TA) : Prop :=
  ∀ (pos : Pos) (pins : List (Addr × Obj)) (s : Shared) (σ : St) (H : Hp) (Q : List V → Hp → Prop), Inv X pins σ H s → t σ H Q → wpAny (model X.prog X.w) X.A (spliced (backTo pos (starEach es X.env))) (AP X pins σ Q) X.xe s
noncomputable def PS (X : Cx) (st : Stmt) (t : TS) : Prop :=
  ∀ (pins : List (Addr × Obj)) (s : Shared) (σ : St) (H : Hp) (D : Ends), Inv X pins σ H s → t D σ H → wpAny (model X.prog X.w) X.A (exec st X.env) (SP X pins D) X.xe s
noncomputable def PSs (X : Cx) (st : List Stmt) (t : TS) : Prop :=
  ∀ (pins : List (Addr × Obj)) (s : Shared) (σ : St) (H : Hp) (D : Ends), Inv X pins σ H s → t D σ H → wpAny (model X.prog X.w) X.A (execs st X.env) (SP X pins D) X.xe s
theorem thn {α : Type} {t : Sem α} {Q Q' : α → Shared → Prop} {M : Model} {A : Around} {E : Value → Shared → Prop} {s : Shared} (h : wpAny M A t Q E s) (hQ : ∀ a s, Q a s → Q' a s) : wpAny M A t Q' E s := wpAny_mono h hQ fun _ _ x => x
end L2
namespace L2
open PySem PySem.Spec PyProof.Rows
section
variable {X : Cx}
noncomputable def tVar (i : Nat) : TE := fun σ H Q => ∃ v, σ[i]? = some (some v) ∧ Q v H
noncomputable def tC (v : V) : TE := fun _ H Q => Q v H
theorem pe_var {i : Nat} {x : Str} {pos : Pos} (hN : X.N[i]? = some x) (hv : Vis X.env.scope x) (hd : (x == ("__debug__" : Str)) = false := by decide) (hcd : (x == ("__classdict__" : Str)) = false := by decide) : PE X (.Name x pos) (tVar i) := by
  intro pins s σ H Q I h
  obtain ⟨v, e, h⟩ := h
  obtain ⟨m, hn, hl⟩ := I.loc
  obtain ⟨u, r, l⟩ := hl i x v hN e hv
  have fin : EP X pins σ Q u s := ⟨v, H, I, r, h⟩
  rcases l with ⟨hk, hm⟩ | ⟨hk, c, hc, hcell⟩
  · exact wpAny_Name (wpAny_loadName_local I.ok.kind hk hn hm fin) hd
  · rcases hk with hk | hk
    · exact wpAny_Name (wpAny_loadName_cell I.ok.kind hk hc hcell fin) hd
    · exact wpAny_Name (wpAny_loadName_free I.ok.kind hk hc hcell fin hcd) hd
theorem pe_int {i j pos} : PE X (.Constant (.int i) j pos) (tC (.int i)) := fun _ _ _ H _ I h => wpAny_Constant_int ⟨.int i, H, I.tok _, ⟨_, rfl⟩, h⟩
theorem pe_bl {b j pos} : PE X (.Constant (.bool b) j pos) (tC (.bl b)) := fun _ _ _ H _ I h => Constant_bool ⟨.bl b, H, I, rfl, h⟩
theorem pe_non {j pos} : PE X (.Constant .none j pos) (tC .non) := fun _ _ _ H _ I h => Constant_none ⟨.non, H, I, rfl, h⟩
theorem pe_str {x j pos} : PE X (.Constant (.str x) j pos) (tC (.str x)) := fun _ _ _ H _ I h => Calls.Constant_str ⟨.str x, H, I.tok _, ⟨_, rfl⟩, h⟩
noncomputable def Gl (X : Cx) (x : Str) : Prop := X.env.kindOf x = some .globalImplicit
theorem ld_glob {E : Value → Shared → Prop} {pins : List (Addr × Obj)} {s : Shared} {σ : St} {H : Hp} {x : Str} {u : Value} {pos : Pos} {Q : Value → Shared → Prop} (I : Inv X pins σ H s) (hg : Gl X x) (hm : X.mg x = some u) (h : Q u s)
    (hd : (x == ("__debug__" : Str)) = false := by decide) : wpAny (model X.prog X.w) X.A (eval (.Name x pos) X.env) Q E s :=
  Calls.Name_function_global I.ok.kind hg (Calls.loadGlobal_global (by rw [I.ok.glob]; exact I.mod.glob.keeps I.bk) hm h) hd
theorem ld_blt {E : Value → Shared → Prop} {pins : List (Addr × Obj)} {s : Shared} {σ : St} {H : Hp} {x : Str} {u : Value} {pos : Pos} {Q : Value → Shared → Prop} (I : Inv X pins σ H s) (hg : Gl X x) (hm : X.mg x = none) (hv : bootBuiltins x = some u) (h : Q u s)
    (hn : x ≠ "__name__" := by decide) (hd : (x == ("__debug__" : Str)) = false := by decide) : wpAny (model X.prog X.w) X.A (eval (.Name x pos) X.env) Q E s := by
  obtain ⟨mb, h1, h2⟩ := I.mod.blt
  exact Calls.Name_function_global I.ok.kind hg (Calls.loadGlobal_builtin (by rw [I.ok.glob]; exact I.mod.glob.keeps I.bk) hm (by rw [I.ok.blt]; exact h1.keeps I.bk) ((h2 x hn).trans hv) h) hd
theorem pe_glob {x : Str} {v : V} {u : Value} {pos : Pos} (hg : Gl X x) (hm : X.mg x = some u) (r : RelV v u) (hd : (x == ("__debug__" : Str)) = false := by decide) : PE X (.Name x pos) (tC v) :=
  fun _ _ _ H _ I h => ld_glob I hg hm ⟨v, H, I, r, h⟩ hd
theorem pe_bltn {x : Str} {v : V} {u : Value} {pos : Pos} (hg : Gl X x) (hm : X.mg x = none) (hv : bootBuiltins x = some u) (r : RelV v u) (hn : x ≠ "__name__" := by decide) (hd : (x == ("__debug__" : Str)) = false := by decide) : PE X (.Name x pos) (tC v) :=
  fun _ _ _ H _ I h => ld_blt I hg hm hv ⟨v, H, I, r, h⟩ hn hd
variable {a b : Expr} {ta tb : TE} {pos : Pos}
variable {tA tB' : TT} {rest : List Expr}
noncomputable def tAnd (t u : TT) : TT := fun σ H Q => t σ H fun c H1 => if c = true then u σ H1 Q else Q false H1
noncomputable def tOr (t u : TT) : TT := fun σ H Q => t σ H fun c H1 => if c = true then Q true H1 else u σ H1 Q
noncomputable def tNot (t : TT) : TT := fun σ H Q => t σ H fun c H1 => Q (!c) H1
theorem pw_and1 (ha : PT X a tA) : PW X (.BoolOp .And [a] pos) tA := by
  intro wh pins s σ H Q I h
  refine isTrue_and (thn (ha pins s σ H Q I h) fun c s1 e => ?_)
  cases c with
  | true => exact isTrue_and_nil e
  | false => exact e
theorem pw_or1 (ha : PT X a tA) : PW X (.BoolOp .Or [a] pos) tA := by
  intro wh pins s σ H Q I h
  refine isTrue_or (thn (ha pins s σ H Q I h) fun c s1 e => ?_)
  cases c with
  | false => exact isTrue_or_nil e
  | true => exact e
theorem pw_and (ha : PT X a tA) (hb : PW X (.BoolOp .And (b :: rest) pos) tB') : PW X (.BoolOp .And (a :: b :: rest) pos) (tAnd tA tB') := by
  intro wh pins s σ H Q I h
  refine isTrue_and (thn (ha pins s σ H _ I h) fun c s1 ⟨H1, I1, q1⟩ => ?_)
  cases c with
  | true => exact hb wh pins s1 σ H1 Q I1 q1
  | false => exact ⟨H1, I1, q1⟩
theorem pw_or (ha : PT X a tA) (hb : PW X (.BoolOp .Or (b :: rest) pos) tB') : PW X (.BoolOp .Or (a :: b :: rest) pos) (tOr tA tB') := by
  intro wh pins s σ H Q I h
  refine isTrue_or (thn (ha pins s σ H _ I h) fun c s1 ⟨H1, I1, q1⟩ => ?_)
  cases c with
  | true => exact ⟨H1, I1, q1⟩
  | false => exact hb wh pins s1 σ H1 Q I1 q1
theorem pt_not (ha : PT X a tA) : PT X (.UnaryOp .Not a pos) (tNot tA) := by
  intro pins s σ H Q I h
  exact isTrue_not (ha pins s σ H (fun c H1 => Q (!c) H1) I h)
noncomputable def tAndV (ta tb : TE) : TE := fun σ H Q => ta σ H fun x H1 => ∃ c, x = .bl c ∧ if c = true then tb σ H1 Q else Q (.bl false) H1
noncomputable def tNotV (ta : TE) : TE := fun σ H Q => ta σ H fun x H1 => ∃ c, x = .bl c ∧ Q (.bl (!c)) H1
theorem pe_one {op} {t : TE} (h : PE X a t) : PE X (.BoolOp op [a] pos) t := fun pins s σ H Q I hw => BoolOp_one (h pins s σ H Q I hw)
theorem pe_and (ha : PE X a ta) (hb : PE X (.BoolOp .And (b :: rest) pos) tb) : PE X (.BoolOp .And (a :: b :: rest) pos) (tAndV ta tb) := by
  intro pins s σ H Q I h
  refine BoolOp_and (thn (ha pins s σ H _ I h) fun v s1 ⟨x, H1, I1, r1, q1⟩ => ?_)
  obtain ⟨c, rfl, q1⟩ := q1
  cases r1
  refine wpAny_truthy_bool ?_
  cases c with
  | true => exact hb pins s1 σ H1 Q I1 q1
  | false => exact ⟨.bl false, H1, I1, rfl, q1⟩
theorem pe_not (ha : PE X a ta) : PE X (.UnaryOp .Not a pos) (tNotV ta) := by
  intro pins s σ H Q I h
  refine UnaryOp_ (thn (ha pins s σ H _ I h) fun v s1 ⟨x, H1, I1, r1, q1⟩ => ?_)
  obtain ⟨c, rfl, q1⟩ := q1
  cases r1
  exact not_of (wpAny_truthy_bool ⟨.bl (!c), H1, I1, rfl, q1⟩)
end
end L2
namespace L2
open PySem PySem.Spec PyProof.Rows
noncomputable def SqL (K : PySem.W.Frag) (H : Hp) (a : Addr) (xs : List V) : Prop :=
  Rd H a (.lst xs) ∨
    ∃ (o : Obj) (its : Array Value) (n : Nat), K.lookup a = some o ∧ o.cls = .type "list" ∧ o.dict = none ∧ o.data = .seq its n ∧ its.size ≤ sizeLine ∧ Vals xs its.toList
noncomputable def SqT (K : PySem.W.Frag) (H : Hp) (a : Addr) (xs : List V) : Prop :=
  Rd H a (.tup xs) ∨
    ∃ (o : Obj) (its : Array Value) (n : Nat), K.lookup a = some o ∧ o.cls = .type "tuple" ∧ o.data = .seq its n ∧ its.size ≤ sizeLine ∧ Vals xs its.toList ∧ o.dict = none
noncomputable def absV : Value → Option V
  | .none => some .non
  | .bool b => some (.bl b)
  | .int i _ => some (.int i)
  | .str x _ => some (.str x)
  | .bytes b _ => some (.byt b)
  | .float b _ => some (.flt b)
  | .ref a => some (.ref a)
  | .type n => some (.ty n)
  | _ => none
theorem RelV.abs {x : V} {u : Value} (r : RelV x u) : absV u = some x := by
  cases x with
  | non => cases r; rfl
  | bl _ => cases r; rfl
  | int _ => obtain ⟨t, rfl⟩ := r; rfl
  | str _ => obtain ⟨t, rfl⟩ := r; rfl
  | byt _ => obtain ⟨t, rfl⟩ := r; rfl
  | flt _ => obtain ⟨t, rfl⟩ := r; rfl
  | ref _ => cases r; rfl
  | ty _ => cases r; rfl
theorem RelV.inj {x y : V} {u : Value} (r : RelV x u) (q : RelV y u) : x = y := Option.some.inj (r.abs.symm.trans q.abs)
theorem Vals.inj : ∀ {xs ys : List V} {us : List Value}, Vals xs us → Vals ys us → xs = ys
  | _, _, _, .nil, .nil => rfl
  | _, _, _, .cons r t, .cons r' t' => by rw [r.inj r', Vals.inj t t']
section
variable {X : Cx} {pins : List (Addr × Obj)} {σ : St} {H : Hp} {s : Shared} {a : Addr} {xs ys : List V}
theorem SqL.of {K : PySem.W.Frag} (h : H a = some (.lst xs)) : SqL K H a xs := .inl (.inl h)
theorem SqT.of {K : PySem.W.Frag} (h : H a = some (.tup xs)) : SqT K H a xs := .inl (.inl h)
theorem Inv.list (I : Inv X pins σ H s) (h : SqL X.K H a xs) : ∃ its : List Value, Vals xs its ∧ PlainL s.heap a its.toArray ∧ xs.length ≤ sizeLine := by
  rcases h with h | ⟨o, its, n, hk, hc, hd, hs, hz, r⟩
  · obtain ⟨z, its, n, r, e⟩ := h.ok I.hok
    exact ⟨its, r, ⟨_, n, e, rfl, rfl, rfl⟩, z⟩
  · refine ⟨its.toList, r, ⟨o, n, I.kIn a o hk, hc, hd, by simpa using hs⟩, ?_⟩
    have e := r.length
    simp only [Array.length_toList] at e
    omega
theorem Inv.tuple (I : Inv X pins σ H s) (h : SqT X.K H a xs) : ∃ its : List Value, Vals xs its ∧ IsTup s.heap a its.toArray ∧ xs.length ≤ sizeLine := by
  rcases h with h | ⟨o, its, n, hk, hc, hs, hz, r, _⟩
  · obtain ⟨z, its, r, p⟩ := h.ok I.hok
    exact ⟨its, r, p.tup, z⟩
  · refine ⟨its.toList, r, ⟨o, I.kIn a o hk, hc, n, by simpa using hs⟩, ?_⟩
    have e := r.length
    simp only [Array.length_toList] at e
    omega
theorem Inv.list_inj (I : Inv X pins σ H s) (h : SqL X.K H a xs) (h' : SqL X.K H a ys) : xs = ys := by
  obtain ⟨its, r, ⟨o, n, e, _, _, d⟩, _⟩ := I.list h
  obtain ⟨its', r', ⟨o', n', e', _, _, d'⟩, _⟩ := I.list h'
  rw [e] at e'; cases e'
  rw [d] at d'
  injection d' with d1 _
  have : its = its' := by simpa using congrArg Array.toList d1
  subst this
  exact r.inj r'
theorem Inv.tuple_inj (I : Inv X pins σ H s) (h : SqT X.K H a xs) (h' : SqT X.K H a ys) : xs = ys := by
  obtain ⟨its, r, ⟨o, e, _, n, d⟩, _⟩ := I.tuple h
  obtain ⟨its', r', ⟨o', e', _, n', d'⟩, _⟩ := I.tuple h'
  rw [e] at e'; cases e'
  rw [d] at d'
  injection d' with d1 _
  have : its = its' := by simpa using congrArg Array.toList d1
  subst this
  exact r.inj r'
end
noncomputable abbrev Cx.wish (X : Cx) (E : Value → Shared → Prop) : Cx := { X with xe := E }
noncomputable abbrev Cx.nox (X : Cx) : Cx := X.wish fun _ _ => False
theorem Cx.Ok.wish {X : Cx} (ok : X.Ok) (E : Value → Shared → Prop) : (X.wish E).Ok :=
  ⟨ok.mod, ok.kind, ok.glob, ok.blt, ok.above, ok.inj, ok.has, ok.cab, ok.hd, ok.frames, ok.stk, ok.exf, ok.bs, ok.bsz, ok.noex, ok.exfs, ok.funs, ok.frf⟩
theorem Cx.Ok.unwish {X : Cx} {E : Value → Shared → Prop} (ok : (X.wish E).Ok) : X.Ok :=
  ⟨ok.mod, ok.kind, ok.glob, ok.blt, ok.above, ok.inj, ok.has, ok.cab, ok.hd, ok.frames, ok.stk, ok.exf, ok.bs, ok.bsz, ok.noex, ok.exfs, ok.funs, ok.frf⟩
section
variable {X : Cx} {pins : List (Addr × Obj)} {σ : St} {H : Hp} {s : Shared} {E : Value → Shared → Prop}
theorem Inv.wish (I : Inv X pins σ H s) (E : Value → Shared → Prop) : Inv (X.wish E) pins σ H s := ⟨I.ok.wish E, I.os, I.bare, I.base, I.loc, I.cell, I.free, I.freeC, I.pin, I.hok, I.len⟩
theorem Inv.unwish (I : Inv (X.wish E) pins σ H s) : Inv X pins σ H s := ⟨I.ok.unwish, I.os, I.bare, I.base, I.loc, I.cell, I.free, I.freeC, I.pin, I.hok, I.len⟩
theorem SP.unwish {D : Ends} {f : Flow} {s' : Shared} (h : SP (X.wish E) pins D f s') : SP X pins D f s' := by
  cases f with
  | next => obtain ⟨σ', H', I, q⟩ := h; exact ⟨σ', H', I.unwish, q⟩
  | brk => obtain ⟨σ', H', I, q⟩ := h; exact ⟨σ', H', I.unwish, q⟩
  | cont => obtain ⟨σ', H', I, q⟩ := h; exact ⟨σ', H', I.unwish, q⟩
  | ret u => obtain ⟨v, σ', H', I, r, q⟩ := h; exact ⟨v, σ', H', I.unwish, r, q⟩
theorem PE.nox {e : Expr} {t : TE} (h : PE X.nox e t) : PE X e t := fun pins s σ H Q I hw =>
  wpAny_mono (h pins s σ H Q (I.wish _) hw) (fun _ _ ⟨v, H', I', r, q⟩ => ⟨v, H', I'.unwish, r, q⟩) fun _ _ z => False.elim z
theorem PT.nox {e : Expr} {t : TT} (h : PT X.nox e t) : PT X e t := fun pins s σ H Q I hw =>
  wpAny_mono (h pins s σ H Q (I.wish _) hw) (fun _ _ ⟨H', I', q⟩ => ⟨H', I'.unwish, q⟩) fun _ _ z => False.elim z
theorem PSs.nox {st : List Stmt} {t : TS} (h : PSs X.nox st t) : PSs X st t := fun pins s σ H D I hw =>
  wpAny_mono (h pins s σ H D (I.wish _) hw) (fun _ _ q => q.unwish) fun _ _ z => False.elim z
end
section
variable {X : Cx} {st : Stmt} {rest : List Stmt} {t u : TS} {e : Expr} {te : TE} {pos : Pos}
noncomputable def tNext : TS := fun D σ H => D.nx σ H
noncomputable def tSeq (t u : TS) : TS := fun D σ H => t { D with nx := u D } σ H
theorem pss_nil : PSs X [] tNext := fun _ _ σ H _ I h => wpAny_execs_nil ⟨σ, H, I, h⟩
theorem pss_cons (h1 : PS X st t) (h2 : PSs X rest u) : PSs X (st :: rest) (tSeq t u) := by
  intro pins s σ H D I h
  refine wpAny_execs_cons (thn (h1 pins s σ H { D with nx := u D } I h) fun f s1 q => ?_)
  cases f with
  | next =>
    obtain ⟨σ', H', I', q⟩ := q
    exact h2 pins s1 σ' H' D I' q
  | ret v => exact q
  | brk => exact q
  | cont => exact q
theorem Inv.quiet {pins : List (Addr × Obj)} {σ : St} {H : Hp} {s : Shared} (I : Inv X pins σ H s) : interactive X.env = false := by simp [interactive, I.ok.kind]
noncomputable def tDrop (te : TE) : TS := fun D σ H => te σ H fun _ H1 => D.nx σ H1
theorem ps_expr (he : PE X e te) (hs : swapsWith e none pos.line X.env = pure false := by rfl) : PS X (.Expr e pos) (tDrop te) := by
  intro pins s σ H D I h
  exact wpAny_Expr_any (thn (he pins s σ H _ I h) fun v s1 ⟨x, H1, I1, r1, q1⟩ => ⟨σ, H1, I1, q1⟩) I.quiet hs
noncomputable def tRet (te : TE) : TS := fun D σ H => te σ H D.rt
theorem ps_ret (he : PE X e te) : PS X (.Return (some e) pos) (tRet te) := by
  intro pins s σ H D I h
  exact wpAny_Return_some (thn (he pins s σ H _ I h) fun v s1 ⟨x, H1, I1, r1, q1⟩ => ⟨x, σ, H1, I1, r1, q1⟩)
noncomputable def tIfS (c : TT) (t u : TS) : TS := fun D σ H => c σ H fun b H1 => if b = true then t D σ H1 else u D σ H1
theorem ps_if {c : Expr} {a b : List Stmt} {tc : TT} (hc : PT X c tc) (ha : PSs X a t) (hb : PSs X b u) : PS X (.If c a b pos) (tIfS tc t u) := by
  intro pins s σ H D I h
  refine wpAny_If (thn (hc pins s σ H _ I h) fun d s1 ⟨H1, I1, q1⟩ => ?_)
  cases d with
  | true => exact ha pins s1 σ H1 D I1 q1
  | false => exact hb pins s1 σ H1 D I1 q1
end
noncomputable abbrev TG := V → St → Hp → (St → Hp → Prop) → Prop
noncomputable abbrev TGs := List V → St → Hp → (St → Hp → Prop) → Prop
noncomputable def PG (X : Cx) (target : Expr) (t : TG) : Prop :=
  ∀ (pins : List (Addr × Obj)) (s : Shared) (σ : St) (H : Hp) (v : V) (u : Value) (Q : St → Hp → Prop), Inv X pins σ H s → RelV v u → t v σ H Q →
    wpAny (model X.prog X.w) X.A (assign target X.env u) (fun _ s' => ∃ σ' H', Inv X pins σ' H' s' ∧ Q σ' H') X.xe s
noncomputable def PGs (X : Cx) (ts : List Expr) (t : TGs) : Prop :=
  ∀ (pins : List (Addr × Obj)) (s : Shared) (σ : St) (H : Hp) (vs : List V) (us : List Value) (Q : St → Hp → Prop), Inv X pins σ H s → Vals vs us → t vs σ H Q →
    wpAny (model X.prog X.w) X.A (assignInOrder ((assignEach ts X.env).map (·.2)) us) (fun _ s' => ∃ σ' H', Inv X pins σ' H' s' ∧ Q σ' H') X.xe s
section
variable {X : Cx} {pos : Pos}
noncomputable def gName (i : Nat) : TG := fun v σ H Q => Q (σ.set i (some v)) H
theorem pg_name {i : Nat} {x : Str} (hN : X.N.Nodup) (hi : X.N[i]? = some x) (hx : Loc X.env.scope x) (hf : X.fn x = true ∨ X.env.scope.names.lookup x = some .local := by first | exact .inl rfl | exact .inr rfl | assumption) : PG X (.Name x pos) (gName i) := by
  intro pins s σ H v u Q I r h
  exact wpAny_assign_Name (store_ok I hN hi hx r (fun s' I' => ⟨_, H, I', h⟩) hf)
noncomputable def gNil : TGs := fun vs σ H Q => vs = [] ∧ Q σ H
noncomputable def gCons (t : TG) (u : TGs) : TGs := fun vs σ H Q => ∃ v r, vs = v :: r ∧ t v σ H fun σ' H' => u r σ' H' Q
theorem pgs_nil : PGs X [] gNil := by
  intro pins s σ H vs us Q I r h
  obtain ⟨e, h⟩ := h
  subst e
  cases r
  exact assignInOrder_nil ⟨σ, H, I, h⟩
theorem pgs_cons {e : Expr} {es : List Expr} {t : TG} {u : TGs} (h1 : PG X e t) (h2 : PGs X es u)
    (hs : (assignEach (e :: es) X.env).map (·.2) = assign e X.env :: (assignEach es X.env).map (·.2) := by rfl) : PGs X (e :: es) (gCons t u) := by
  intro pins s σ H vs us Q I r h
  obtain ⟨v, vr, e1, h⟩ := h
  subst e1
  cases r with
  | cons r rr =>
    rw [hs]
    refine assignInOrder_cons (thn (h1 pins s σ H _ _ _ I r h) fun _ s1 ⟨σ1, H1, I1, q1⟩ => ?_)
    exact h2 pins s1 σ1 H1 _ _ Q I1 rr q1
noncomputable def gTup (K : PySem.W.Frag) (n : Nat) (t : TGs) : TG := fun v σ H Q => ∃ a xs, v = .ref a ∧ SqT K H a xs ∧ xs.length = n ∧ t xs σ H Q
theorem pg_tup {es : List Expr} {k : Nat} {t : TGs} {n : Nat} (hc : X.calm = true) (h : PGs X es t)
    (hn : (assignEach es X.env).length = n := by rfl) (hst : (assignEach es X.env).findIdx? (·.1) = none := by rfl) : PG X (.Tuple es k pos) (gTup X.K n t) := by
  intro pins s σ H v u Q I r hw
  obtain ⟨a, xs, e1, hq, hl, hw⟩ := hw
  subst e1
  cases r
  obtain ⟨its, rv, ht, hz⟩ := I.tuple hq
  refine assign_Tuple_tuple (I.ok.hd hc) ht (by simp [hn, ← hl, rv.length]) hst fun h' hx => ?_
  have I1 : Inv X pins σ H { s with heap := h' } := I.kept (t' := s.toks) fun b o e => hx b o (Nat.ne_of_lt (Heap.lt_size e)) e
  exact h pins _ σ H xs _ Q I1 (by simpa using rv) hw
noncomputable def tAsg (te : TE) (g : TG) : TS := fun D σ H => te σ H fun x H1 => g x σ H1 D.nx
theorem ps_asg {tg e : Expr} {te : TE} {g : TG} (he : PE X e te) (hg : PG X tg g) (hs : swapsWithSole [tg] e pos.line X.env = pure false := by rfl) (hw : swappedStores [tg] e X.env = pure none := by rfl)
    (h1 : (assignEach [tg] X.env).map (·.2) = [assign tg X.env] := by rfl) : PS X (.Assign [tg] e pos) (tAsg te g) := by
  intro pins s σ H D I h
  refine wpAny_Assign_stores (thn (he pins s σ H _ I h) fun v s1 ⟨x, H1, I1, r1, q1⟩ => ?_) hs hw
  rw [h1]
  exact thn (hg pins s1 σ H1 x v _ I1 r1 q1) fun _ s2 q => q
theorem ps_set {i : Nat} {x : Str} {e : Expr} {te : TE} {pos' : Pos} (hN : X.N.Nodup) (hi : X.N[i]? = some x) (hx : Loc X.env.scope x) (he : PE X e te) (hs : swapsWith e (some (.Name x pos')) pos.line X.env = pure false := by rfl) (hf : X.fn x = true ∨ X.env.scope.names.lookup x = some .local := by first | exact .inl rfl | exact .inr rfl | assumption) :
    PS X (.Assign [.Name x pos'] e pos) (tAsg te (gName i)) := by
  intro pins s σ H D I h
  refine wpAny_Assign_Name (thn (he pins s σ H _ I h) fun v s1 ⟨y, H1, I1, r1, q1⟩ => ?_) hs
  exact store_ok I1 hN hi hx r1 (fun s2 I2 => ⟨_, H1, I2, q1⟩) hf
end
section
variable {X : Cx} {pos : Pos}
end
structure It where
  go : Nat → Hp → Prop
  yld : Nat → Hp → V → Hp → Prop
  stop : Nat → Hp → Prop
noncomputable def FpOk (X : Cx) (pins : List (Addr × Obj)) (H : Hp) (b : Addr) : Prop :=
  H b = none ∧ b ≠ X.env.locals ∧ b ∉ X.fs ∧ (b ∈ X.ex ∨ X.s₀.heap.objs.size ≤ b) ∧ (∀ x c, X.env.cells.lookup x = some c → c ≠ b) ∧ ∀ p ∈ X.pn ++ pins, p.1 ≠ b
theorem Inv.fpOk {X : Cx} {pins : List (Addr × Obj)} {σ : St} {H H' : Hp} {s : Shared} {b : Addr} (I : Inv X pins σ H s) (hb : s.heap.objs.size ≤ b) (hn : H' b = none) : FpOk X pins H' b := by
  refine ⟨hn, Nat.ne_of_gt (Nat.lt_of_lt_of_le I.lt hb), I.nofs hb, .inr (Nat.le_trans I.sz hb), fun x c e z => ?_, fun p hp z => ?_⟩
  · obtain ⟨v, q⟩ := I.cell x c e
    exact absurd (Nat.lt_of_lt_of_le q.lt (by rw [z]; exact hb)) (Nat.lt_irrefl _)
  · exact absurd (Nat.lt_of_lt_of_le (Heap.lt_size (I.pin p hp).1) (by rw [z]; exact hb)) (Nat.lt_irrefl _)
structure Turn (P : Program) (w : World) (K : PySem.W.Frag) (tg : Expr) (J : It) (fp : List Addr) (it : Addr) (tn : Nat → Heap → Prop) : Prop where
  mem : it ∈ fp
  obj : ∀ i h, tn i h → ∀ b ∈ fp, ∃ o, h.get? b = some o ∧ ∀ v, o.data ≠ .cell v
  keep : ∀ i h h', tn i h → (∀ b ∈ fp, ∀ o, h.get? b = some o → h'.get? b = some o) → tn i h'
  item : ∀ (X : Cx), X.prog = P → X.w = w → X.K = K → X.calm = true → ∀ (i : Nat) (pins : List (Addr × Obj)) (s : Shared) (σ : St) (H : Hp) (E : Value → Shared → Prop), Inv X pins σ H s → (∀ b ∈ fp, FpOk X pins H b) → tn i s.heap → J.go i H →
    wpAny (model P w) X.A (pyNext (.ref it)) (fun r s1 => ∃ u, r = some u ∧
      wpAny (model P w) X.A (letOwnedTupleGo tg (.ref it) u) (fun _ s2 => ∃ x H', Inv X pins σ H' s2 ∧ RelV x u ∧ J.yld i H x H' ∧ tn (i + 1) s2.heap ∧ ∀ b ∈ fp, H' b = none) E s1) E s
  done : ∀ (X : Cx), X.prog = P → X.w = w → X.K = K → X.calm = true → ∀ (i : Nat) (pins : List (Addr × Obj)) (s : Shared) (σ : St) (H : Hp) (E : Value → Shared → Prop), Inv X pins σ H s → (∀ b ∈ fp, FpOk X pins H b) → tn i s.heap → J.stop i H →
    wpAny (model P w) X.A (pyNext (.ref it)) (fun r s1 => r = none ∧ Inv X pins σ H s1) E s
  self : ∀ (A : Around) (i : Nat) (s : Shared) (Q : Value → Shared → Prop) (E : Value → Shared → Prop), tn i s.heap → Q (.ref it) s → wpAny (model P w) A (pyIter (.ref it)) Q E s
noncomputable abbrev TI := St → Hp → (It → Hp → Prop) → Prop
noncomputable def PIE (X : Cx) (pins : List (Addr × Obj)) (σ : St) (tg : Expr) (R : It → Hp → Prop) (itv : Value) (s2 : Shared) : Prop :=
  ∃ (it : Addr) (fp : List Addr) (tn : Nat → Heap → Prop) (J : It) (H' : Hp), itv = .ref it ∧ Inv X pins σ H' s2 ∧ Turn X.prog X.w X.K tg J fp it tn ∧ tn 0 s2.heap ∧ (∀ b ∈ fp, FpOk X pins H' b) ∧ R J H'
noncomputable def PI (X : Cx) (tg iter : Expr) (wi : TI) : Prop :=
  ∀ (pins : List (Addr × Obj)) (s : Shared) (σ : St) (H : Hp) (R : It → Hp → Prop), Inv X pins σ H s → wi σ H R →
    wpAny (model X.prog X.w) X.A (eval iter X.env) (fun v s1 => wpAny (model X.prog X.w) X.A (pyIter v) (PIE X pins σ tg R) X.xe s1) X.xe s
theorem go_of {M : Model} {A : Around} {E : Value → Shared → Prop} {s : Shared} {tg : Expr} {it : Addr} {u : Value} {o : Obj} {n : String} {vs : Array Value} {Q : Unit → Shared → Prop} (ho : s.heap.get? it = some o) (hc : o.cls = .type n) (hd : o.data = .fields vs)
    (hn : ["enumerate", "zip", "dict_itemiterator", "dict_reverseitemiterator", "odict_iterator", "itertools.zip_longest", "itertools.pairwise"].contains n = false) (hQ : Q () s) : wpAny M A (letOwnedTupleGo tg (.ref it) u) Q E s := by
  unfold letOwnedTupleGo
  cases tg <;> first
    | exact wpAny_pure hQ
    | (cases u <;> first
        | exact wpAny_pure hQ
        | (refine wpAny_bind (wpAny_load ho ?_)
           rw [hc, hd]
           show wpAny M A (if (["enumerate", "zip", "dict_itemiterator", "dict_reverseitemiterator", "odict_iterator", "itertools.zip_longest", "itertools.pairwise"].contains n && vs[0]? == some (rawInt _)) = true then _ else _) Q E s
           rw [if_neg (by intro h; rw [hn, Bool.false_and] at h; cases h)]
           exact wpAny_pure hQ))
noncomputable def Itl (K : PySem.W.Frag) (a : Addr) : It :=
  ⟨fun i H => ∃ xs x, SqL K H a xs ∧ xs[i]? = some x, fun i H x H' => H' = H ∧ ∀ xs, SqL K H a xs → xs[i]? = some x, fun i H => ∃ xs, SqL K H a xs ∧ xs.length ≤ i⟩
noncomputable def Itt (K : PySem.W.Frag) (a : Addr) : It :=
  ⟨fun i H => ∃ xs x, SqT K H a xs ∧ xs[i]? = some x, fun i H x H' => H' = H ∧ ∀ xs, SqT K H a xs → xs[i]? = some x, fun i H => ∃ xs, SqT K H a xs ∧ xs.length ≤ i⟩
noncomputable def Itr (lo : Int) (n : Nat) : It := ⟨fun i _ => i < n, fun i H x H' => H' = H ∧ x = .int (lo + i), fun i _ => n ≤ i⟩
theorem turn_list {P : Program} {w : World} {K : PySem.W.Frag} {tg : Expr} (a it : Addr) : Turn P w K tg (Itl K a) [it] it (fun i h => h.IsListIter it a i) where
  mem := by simp
  obj := fun i h st b hb => by
    have e : b = it := by simpa using hb
    subst e
    obtain ⟨o, e, c, d⟩ := st
    exact ⟨o, e, fun v z => by rw [d] at z; cases z⟩
  keep := fun i h h' st k => st.at fun o e => k it (by simp) o e
  item := by
    intro X hP hw hK hc i pins s σ H E I hf st hg
    subst hP hw hK
    obtain ⟨xs, x, hq, hx⟩ := hg
    obtain ⟨its, rv, p, hz⟩ := I.list hq
    obtain ⟨u, hu, ru⟩ := rv.get hx
    obtain ⟨f0, f1, f2, f3, f4, f5⟩ := hf it (by simp)
    refine wpAny_pyNext_list_item st p.isList (x := u) (by simpa using hu) fun h' st' sb => ?_
    have I1 : Inv X pins σ H { s with heap := h' } := I.turned (t' := s.toks) (fun b o hb e => (sb.2 b hb).trans e) f0 f1 f3 f4 f5
    obtain ⟨o, e, c, d⟩ := id st'
    exact ⟨u, rfl, go_of (s := { s with heap := h' }) e c d (by decide) ⟨x, H, I1, ru, ⟨rfl, fun ys hy => by rw [I.list_inj hy hq]; exact hx⟩, st', fun b hb => (hf b hb).1⟩⟩
  done := by
    intro X hP hw hK hc i pins s σ H E I hf st hg
    subst hP hw hK
    obtain ⟨xs, hq, hx⟩ := hg
    obtain ⟨its, rv, p, hz⟩ := I.list hq
    obtain ⟨f0, f1, f2, f3, f4, f5⟩ := hf it (by simp)
    have hl := rv.length
    exact wpAny_pyNext_list_end (I.ok.hd hc) st p.isList (by simp; omega) fun h' eb => ⟨rfl, I.turned (t' := s.toks) (fun b o hb e => eb b o hb e) f0 f1 f3 f4 f5⟩
  self := fun _ _ _ _ _ st h => wpAny_pyIter_listiter st h
theorem turn_tuple {P : Program} {w : World} {K : PySem.W.Frag} {tg : Expr} (a it : Addr) : Turn P w K tg (Itt K a) [it] it (fun i h => h.IsTupleIter it a i) where
  mem := by simp
  obj := fun i h st b hb => by
    have e : b = it := by simpa using hb
    subst e
    obtain ⟨o, e, c, d⟩ := st
    exact ⟨o, e, fun v z => by rw [d] at z; cases z⟩
  keep := fun i h h' st k => st.at fun o e => k it (by simp) o e
  item := by
    intro X hP hw hK hc i pins s σ H E I hf st hg
    subst hP hw hK
    obtain ⟨xs, x, hq, hx⟩ := hg
    obtain ⟨its, rv, p, hz⟩ := I.tuple hq
    obtain ⟨u, hu, ru⟩ := rv.get hx
    obtain ⟨f0, f1, f2, f3, f4, f5⟩ := hf it (by simp)
    refine wpAny_pyNext_tuple_item st (show s.heap.IsTuple a its.toArray from p) (x := u) (by simpa using hu) fun h' st' sb => ?_
    have I1 : Inv X pins σ H { s with heap := h' } := I.turned (t' := s.toks) (fun b o hb e => (sb.2 b hb).trans e) f0 f1 f3 f4 f5
    obtain ⟨o, e, c, d⟩ := id st'
    exact ⟨u, rfl, go_of (s := { s with heap := h' }) e c d (by decide) ⟨x, H, I1, ru, ⟨rfl, fun ys hy => by rw [I.tuple_inj hy hq]; exact hx⟩, st', fun b hb => (hf b hb).1⟩⟩
  done := by
    intro X hP hw hK hc i pins s σ H E I hf st hg
    subst hP hw hK
    obtain ⟨xs, hq, hx⟩ := hg
    obtain ⟨its, rv, p, hz⟩ := I.tuple hq
    obtain ⟨f0, f1, f2, f3, f4, f5⟩ := hf it (by simp)
    have hl := rv.length
    exact wpAny_pyNext_tuple_end (I.ok.hd hc) st (show s.heap.IsTuple a its.toArray from p) (by simp; omega) fun h' eb => ⟨rfl, I.turned (t' := s.toks) (fun b o hb e => eb b o hb e) f0 f1 f3 f4 f5⟩
  self := fun _ _ _ _ _ st h => wpAny_pyIter_tupleiter st h
theorem turn_range {P : Program} {w : World} {K : PySem.W.Frag} {tg : Expr} (it : Addr) (lo : Int) (n : Nat) : Turn P w K tg (Itr lo n) [it] it (fun i h => IsRangeIter h it (lo + (i : Nat) * 1) ((n : Int) - (i : Nat)) 1) where
  mem := by simp
  obj := fun i h st b hb => by
    have e : b = it := by simpa using hb
    subst e
    exact ⟨_, st, fun v z => by
      have z' : Data.fields _ = Data.cell v := z
      cases z'⟩
  keep := fun i h h' st k => k it (by simp) _ st
  item := by
    intro X hP hw hK hc i pins s σ H E I hf st hg
    subst hP hw hK
    obtain ⟨f0, f1, f2, f3, f4, f5⟩ := hf it (by simp)
    have W := Walks.range (prog := X.prog) (w := X.w) (I.ok.hd hc) it lo 1 n
    refine W.item i s _ _ hg st fun v h' tk hv st' kk => ?_
    obtain ⟨t, rfl⟩ := hv
    have I1 : Inv X pins σ H { s with heap := h', toks := tk } := I.turned (fun b o hb e => kk b o (by simpa using hb) e) f0 f1 f3 f4 f5
    refine ⟨_, rfl, go_of (s := { s with heap := h', toks := tk }) (n := "range_iterator") st' rfl rfl (by decide) ⟨.int (lo + i), H, I1, ⟨t, ?_⟩, ⟨rfl, rfl⟩, st', fun b hb => (hf b hb).1⟩⟩
    rw [Int.mul_one]
  done := by
    intro X hP hw hK hc i pins s σ H E I hf st hg
    subst hP hw hK
    obtain ⟨f0, f1, f2, f3, f4, f5⟩ := hf it (by simp)
    exact wpAny_pyNext_range_end (I.ok.hd hc) st (by have : n ≤ i := hg; omega) fun h' eb => ⟨rfl, I.turned (t' := s.toks) (fun b o hb e => eb b o hb e) f0 f1 f3 f4 f5⟩
  self := fun _ _ _ _ _ st h => wpAny_pyIter_rangeiter st h
end L2
namespace L2
open PySem PySem.Spec PyProof.Rows
section
variable {X : Cx} {tg : Expr}
theorem range_it {pins : List (Addr × Obj)} {σ : St} {H : Hp} {s : Shared} {R : It → Hp → Prop} {E : Value → Shared → Prop} {lo hi : Int} {t u v : Tok} {tk : Nat} (I : Inv X pins σ H s) (h1 : -(2 ^ 62) ≤ lo) (h2 : lo < 2 ^ 62) (h3 : -(2 ^ 62) ≤ hi) (h4 : hi < 2 ^ 62)
    (q : R (Itr lo (hi - lo).toNat) H) : wpAny (model X.prog X.w) X.A (pyIter (.ref s.heap.objs.size)) (PIE X pins σ tg R) E { s with heap := s.heap.push { cls := .type "range", data := .fields #[.int lo t, .int hi u, .int 1 v] }, toks := tk } := by
  refine wpAny_pyIter_range (IsRange.new ..) (small_one h1 h2 h3 h4) ?_
  have I1 : Inv X pins σ H { s with heap := s.heap.push { cls := .type "range", data := .fields #[.int lo t, .int hi u, .int 1 v] }, toks := tk } := I.kept fun b o e => Heap.get?_push_of_some _ e
  refine ⟨(s.heap.push { cls := .type "range", data := .fields #[.int lo t, .int hi u, .int 1 v] }).objs.size, [(s.heap.push { cls := .type "range", data := .fields #[.int lo t, .int hi u, .int 1 v] }).objs.size], _, _, H, rfl,
    I1.kept (t' := tk) fun b o e => Heap.get?_push_of_some _ e, turn_range _ lo (hi - lo).toNat, ?_, fun b hb => ?_, q⟩
  · have e1 : lo + ((0 : Nat) : Int) * 1 = lo := by simp
    have e2 : (((hi - lo).toNat : Nat) : Int) - ((0 : Nat) : Int) = Builtin.Range.rangeSize lo hi 1 := by rw [rangeSize_one]; split <;> omega
    show IsRangeIter _ _ (lo + ((0 : Nat) : Int) * 1) ((((hi - lo).toNat : Nat) : Int) - ((0 : Nat) : Int)) 1
    rw [e1, e2]
    exact Heap.get?_push_size _ rfl
  · have e : b = (s.heap.push { cls := .type "range", data := .fields #[.int lo t, .int hi u, .int 1 v] }).objs.size := by simpa using hb
    subst e
    exact I1.fpOk (Nat.le_refl _) (I1.hok.fresh (Nat.le_refl _))
noncomputable def iRng1 (ta : TA) : TI := fun σ H R => ta σ H fun vs H1 => ∃ j : Int, vs = [.int j] ∧ -(2 ^ 62) ≤ j ∧ j < 2 ^ 62 ∧ R (Itr 0 j.toNat) H1
theorem pi_range1 {a : Expr} {ta : TA} {p pos : Pos} (hg : Gl X "range") (hm : X.mg "range" = none) (ha : PA X [a] ta) (hs : starEach [a] X.env = [(false, eval a X.env)] := by rfl) : PI X tg (.Call (.Name "range" p) [a] [] pos) (iRng1 ta) := by
  intro pins s σ H R I h
  refine Call_ (ld_blt I hg hm boot_range (PyProof.Rows.callWith_type1 (thn (ha pos pins s σ H _ I h) fun us s1 ⟨vs, H1, I1, r1, q1⟩ => ?_) hs rfl))
  obtain ⟨j, e, q1, q2, q⟩ := q1
  subst e
  cases r1 with
  | cons r rr =>
    cases rr
    obtain ⟨t, rfl⟩ := r
    exact call_range_1 (range_it I1 (by omega) (by omega) q1 q2 (by simpa using q))
noncomputable def tFor (wi : TI) (g : TG) (tb : TS) : TS := fun D σ H => wi σ H fun J H1 => ∃ W : Nat → Nat → St → Hp → Prop, (∃ m, W 0 m σ H1) ∧ ∀ i m σ H, W i m σ H →
  (J.stop i H ∧ D.nx σ H) ∨ (J.go i H ∧ ∃ N : St → Hp → Prop, (∀ σ' H', N σ' H' → ∃ m', m' < m ∧ W (i + 1) m' σ' H') ∧ ∀ x H', J.yld i H x H' → g x σ H' fun σ2 H2 => tb { D with nx := N, ct := N, bk := D.nx } σ2 H2)
noncomputable def pinsAt (fp : List Addr) (h : Heap) : List (Addr × Obj) := fp.filterMap fun b => (h.get? b).map fun o => (b, o)
theorem mem_pinsAt {fp : List Addr} {h : Heap} {b : Addr} {o : Obj} (hb : b ∈ fp) (e : h.get? b = some o) : (b, o) ∈ pinsAt fp h := List.mem_filterMap.mpr ⟨b, hb, by rw [e]; rfl⟩
theorem of_pinsAt {fp : List Addr} {h : Heap} {p : Addr × Obj} (hp : p ∈ pinsAt fp h) : p.1 ∈ fp ∧ h.get? p.1 = some p.2 := by
  obtain ⟨b, hb, e⟩ := List.mem_filterMap.mp hp
  cases q : h.get? b with
  | none => rw [q] at e; cases e
  | some o =>
    rw [q] at e
    have e' : (b, o) = p := Option.some.inj e
    subst e'
    exact ⟨hb, q⟩
theorem Inv.pinned {pins : List (Addr × Obj)} {σ : St} {H : Hp} {s : Shared} {fp : List Addr} (I : Inv X pins σ H s) (hf : ∀ b ∈ fp, FpOk X pins H b) (ho : ∀ b ∈ fp, ∃ o, s.heap.get? b = some o ∧ ∀ v, o.data ≠ .cell v) : Inv X (pins ++ pinsAt fp s.heap) σ H s :=
  I.pins_of fun p hp => (List.mem_append.mp hp).elim (fun z => I.pin p (List.mem_append_right _ z)) fun z => by
    obtain ⟨hb, e⟩ := of_pinsAt z
    obtain ⟨f0, f1, f2, _⟩ := hf p.1 hb
    obtain ⟨o, e', d⟩ := ho p.1 hb
    rw [e] at e'; cases e'
    exact ⟨e, f0, f1, f2, d⟩
theorem Inv.unpinned {pins pl : List (Addr × Obj)} {σ : St} {H : Hp} {s : Shared} (I : Inv X (pins ++ pl) σ H s) : Inv X pins σ H s := I.pins_of fun p hp => I.pin p (List.mem_append_right _ (List.mem_append_left _ hp))
theorem ps_for {iter : Expr} {body : List Stmt} {wi : TI} {g : TG} {tb : TS} {pos : Pos} (hp : PassesOwn (model X.prog X.w) X.A X.env X.xe) (hc : X.calm = true) (hi : PI X tg iter wi) (hg : PG X tg g) (hb : PSs X body tb)
    (hs : ∀ x, foldedSetIterable iter X.env x = pure x := by intro _; rfl) : PS X (.For tg iter body [] pos) (tFor wi g tb) := by
  intro pins s σ H D I h
  refine wpAny_For (thn (hi pins s σ H _ I h) fun v s1 h1 => thn h1 fun itv s2 h2 => ?_) hs
  obtain ⟨it, fp, tn, J, H2, e, I2, T, st2, f2, W, ⟨m0, w0⟩, turn⟩ := h2
  subst e
  -- what stays true of the iterator's objects through the loop
  have stat : ∀ {H' : Hp}, (∀ b ∈ fp, H' b = none) → ∀ b ∈ fp, FpOk X pins H' b := fun hn b hb => ⟨hn b hb, (f2 b hb).2⟩
  refine codeAny_forLoop_any (fun n s' => ∃ i σ' H', Inv X pins σ' H' s' ∧ tn i s'.heap ∧ (∀ b ∈ fp, H' b = none) ∧ W i n σ' H') ?_ m0 ⟨0, σ, H2, I2, st2, fun b hb => (f2 b hb).1, w0⟩
  rintro n s3 ⟨i, σ3, H3, I3, st3, fr3, w3⟩
  rcases turn i n σ3 H3 w3 with ⟨stop, qn⟩ | ⟨go, N, hN, step⟩
  · refine wpAny_passesOwn hp (thn (T.done X rfl rfl rfl hc i pins s3 σ3 H3 X.xe I3 (stat fr3) st3 stop) fun r s4 ⟨hr, I4⟩ => ?_)
    subst hr
    exact wpAny_execs_nil ⟨σ3, H3, I4, qn⟩
  · refine wpAny_passesOwn hp (thn (T.item X rfl rfl rfl hc i pins s3 σ3 H3 X.xe I3 (stat fr3) st3 go) fun r s4 ⟨u, hr, h4⟩ => ?_)
    subst hr
    refine wpAny_passesOwn hp (thn h4 fun _ s5 ⟨x, H5, I5, r5, y5, st5, fr5⟩ => ?_)
    have I5' := I5.pinned (stat fr5) (T.obj _ _ st5)
    refine wpAny_passesOwn hp (thn (hg _ s5 σ3 H5 x u _ I5' r5 (step x H5 y5)) fun _ s6 ⟨σ6, H6, I6, q6⟩ => ?_)
    refine wpAny_passesOwn hp (thn (hb _ s6 σ6 H6 _ I6 q6) fun f s7 q7 => ?_)
    have again : ∀ {σ7 : St} {H7 : Hp}, Inv X (pins ++ pinsAt fp s5.heap) σ7 H7 s7 → N σ7 H7 → ∃ m, m < n ∧ ∃ i σ' H', Inv X pins σ' H' s7 ∧ tn i s7.heap ∧ (∀ b ∈ fp, H' b = none) ∧ W i m σ' H' := fun {σ7 H7} I7 n7 => by
      obtain ⟨m', hm, w7⟩ := hN σ7 H7 n7
      refine ⟨m', hm, i + 1, σ7, H7, I7.unpinned, T.keep _ _ _ st5 fun b hb o e => (I7.pin (b, o) (List.mem_append_right _ (List.mem_append_right _ (mem_pinsAt hb e)))).1, fun b hb => ?_, w7⟩
      obtain ⟨o, e, d⟩ := T.obj _ _ st5 b hb
      exact (I7.pin (b, o) (List.mem_append_right _ (List.mem_append_right _ (mem_pinsAt hb e)))).2.1
    cases f with
    | next => obtain ⟨σ7, H7, I7, n7⟩ := q7; exact again I7 n7
    | cont => obtain ⟨σ7, H7, I7, n7⟩ := q7; exact again I7 n7
    | brk => obtain ⟨σ7, H7, I7, q7⟩ := q7; exact ⟨σ7, H7, I7.unpinned, q7⟩
    | ret v => obtain ⟨x7, σ7, H7, I7, r7, q7⟩ := q7; exact ⟨x7, σ7, H7, I7.unpinned, r7, q7⟩
end
end L2
namespace L2
open PySem PySem.Spec PyProof.Rows
noncomputable abbrev R2 := V → V → Hp → VK → Prop
noncomputable def OpR (X : Cx) (f : Value → Value → Sem Value) (r : R2) : Prop :=
  ∀ (pins : List (Addr × Obj)) (s : Shared) (σ : St) (H : Hp) (x y : V) (v u : Value) (Q : VK), Inv X pins σ H s → RelV x v → RelV y u → r x y H Q →
    wpAny (model X.prog X.w) X.A (f v u) (EP X pins σ Q) X.xe s
noncomputable def UnR (X : Cx) (f : Value → Sem Value) (r : V → Hp → VK → Prop) : Prop :=
  ∀ (pins : List (Addr × Obj)) (s : Shared) (σ : St) (H : Hp) (x : V) (v : Value) (Q : VK), Inv X pins σ H s → RelV x v → r x H Q →
    wpAny (model X.prog X.w) X.A (f v) (EP X pins σ Q) X.xe s
noncomputable def CallR (X : Cx) (f : Value) (r : List V → Hp → VK → Prop) : Prop :=
  ∀ (pins : List (Addr × Obj)) (s : Shared) (σ : St) (H : Hp) (xs : List V) (us : List Value) (Q : VK), Inv X pins σ H s → Vals xs us → r xs H Q →
    wpAny (model X.prog X.w) X.A (call f us) (EP X pins σ Q) X.xe s
noncomputable def TruR (X : Cx) (r : V → Hp → (Bool → Hp → Prop) → Prop) : Prop :=
  ∀ (pins : List (Addr × Obj)) (s : Shared) (σ : St) (H : Hp) (x : V) (v : Value) (Q : Bool → Hp → Prop), Inv X pins σ H s → RelV x v → r x H Q →
    wpAny (model X.prog X.w) X.A (truthy v) (TP X pins σ Q) X.xe s
noncomputable def tOp (r : R2) (ta tb : TE) : TE := fun σ H Q => ta σ H fun x H1 => tb σ H1 fun y H2 => r x y H2 Q
noncomputable def tUn (r : V → Hp → VK → Prop) (ta : TE) : TE := fun σ H Q => ta σ H fun x H1 => r x H1 Q
noncomputable def rI (C : Int → Int → Prop) (g : Int → Int → V) : R2 := fun x y H Q => ∃ i j, x = .int i ∧ y = .int j ∧ C i j ∧ Q (g i j) H
noncomputable def rI0 (g : Int → Int → V) : R2 := fun x y H Q => ∃ i j, x = .int i ∧ y = .int j ∧ Q (g i j) H
noncomputable def rU (g : Int → V) : V → Hp → VK → Prop := fun x H Q => ∃ i, x = .int i ∧ Q (g i) H
section
variable {X : Cx} {a b c : Expr} {ta tb tc : TE} {pos : Pos}
theorem binT (ha : PE X a ta) (hb : PE X b tb) {pins : List (Addr × Obj)} {s : Shared} {σ : St} {H : Hp} {R : V → V → Hp → Prop} (I : Inv X pins σ H s)
    (h : ta σ H fun x H1 => tb σ H1 fun y H2 => R x y H2) {Q : Value → Shared → Prop} {f : Value → Value → Sem Value}
    (hf : ∀ v u s2 x y H2, Inv X pins σ H2 s2 → RelV x v → RelV y u → R x y H2 → wpAny (model X.prog X.w) X.A (f v u) Q X.xe s2) :
    wpAny (model X.prog X.w) X.A (eval a X.env) (fun v s₁ => wpAny (model X.prog X.w) X.A (eval b X.env) (fun u s₂ => wpAny (model X.prog X.w) X.A (f v u) Q X.xe s₂) X.xe s₁) X.xe s := by
  refine thn (ha pins s σ H _ I h) fun v s1 ⟨x, H1, I1, r1, q1⟩ => ?_
  refine thn (hb pins s1 σ H1 _ I1 q1) fun u s2 ⟨y, H2, I2, r2, q2⟩ => ?_
  exact hf v u s2 x y H2 I2 r1 r2 q2
theorem pe_op {op : Operator} {r : R2} (ho : OpR X (binaryOp op) r) (ha : PE X a ta) (hb : PE X b tb) : PE X (.BinOp a op b pos) (tOp r ta tb) := by
  intro pins s σ H Q I h
  exact wpAny_BinOp (binT ha hb I h fun v u s2 x y H2 I2 rx ry q => ho pins s2 σ H2 x y v u Q I2 rx ry q)
theorem pe_un {op : UnaryOp} {r : V → Hp → VK → Prop} (ho : UnR X (unaryOp op) r) (ha : PE X a ta) : PE X (.UnaryOp op a pos) (tUn r ta) := by
  intro pins s σ H Q I h
  exact UnaryOp_ (thn (ha pins s σ H _ I h) fun v s1 ⟨x, H1, I1, r1, q1⟩ => ho pins s1 σ H1 x v Q I1 r1 q1)
theorem opI {f : Value → Value → Sem Value} {C : Int → Int → Prop} {g : Int → Int → Int}
    (rule : ∀ (i j : Int) (t u : Tok) (s : Shared) (Q : Value → Shared → Prop) (E : Value → Shared → Prop), C i j → Q (.int (g i j) s.toks) { s with toks := s.toks + 1 } → wpAny (model X.prog X.w) X.A (f (.int i t) (.int j u)) Q E s) :
    OpR X f (rI C fun i j => .int (g i j)) := by
  intro pins s σ H x y v u Q I rx ry h
  obtain ⟨i, j, rfl, rfl, hc, q⟩ := h
  obtain ⟨t, rfl⟩ := rx
  obtain ⟨t', rfl⟩ := ry
  exact rule i j t t' s _ _ hc ⟨.int (g i j), H, I.tok _, ⟨_, rfl⟩, q⟩
theorem opI0 {f : Value → Value → Sem Value} {g : Int → Int → Int}
    (rule : ∀ (i j : Int) (t u : Tok) (s : Shared) (Q : Value → Shared → Prop) (E : Value → Shared → Prop), Q (.int (g i j) s.toks) { s with toks := s.toks + 1 } → wpAny (model X.prog X.w) X.A (f (.int i t) (.int j u)) Q E s) :
    OpR X f (rI0 fun i j => .int (g i j)) := by
  intro pins s σ H x y v u Q I rx ry h
  obtain ⟨i, j, rfl, rfl, q⟩ := h
  obtain ⟨t, rfl⟩ := rx
  obtain ⟨t', rfl⟩ := ry
  exact rule i j t t' s _ _ ⟨.int (g i j), H, I.tok _, ⟨_, rfl⟩, q⟩
theorem opB0 {f : Value → Value → Sem Value} {g : Int → Int → Bool}
    (rule : ∀ (i j : Int) (t u : Tok) (s : Shared) (Q : Value → Shared → Prop) (E : Value → Shared → Prop), Q (.bool (g i j)) s → wpAny (model X.prog X.w) X.A (f (.int i t) (.int j u)) Q E s) :
    OpR X f (rI0 fun i j => .bl (g i j)) := by
  intro pins s σ H x y v u Q I rx ry h
  obtain ⟨i, j, rfl, rfl, q⟩ := h
  obtain ⟨t, rfl⟩ := rx
  obtain ⟨t', rfl⟩ := ry
  exact rule i j t t' s _ _ ⟨.bl (g i j), H, I, rfl, q⟩
noncomputable def CDiv (i j : Int) : Prop := 0 < j ∧ j < 1073741824
noncomputable def CPow (i j : Int) : Prop := 0 ≤ j ∧ j ≤ 1000000 ∧ i.natAbs < 2 ^ 64
noncomputable def CMul (i j : Int) : Prop := (-(2 ^ 64) < i ∧ i < 2 ^ 64) ∨ (-(2 ^ 64) < j ∧ j < 2 ^ 64)
theorem CMul.ok {i j : Int} (h : CMul i j) : IntMulOk i j := by
  rcases h with ⟨h1, h2⟩ | ⟨h1, h2⟩
  · exact .of_left (intBits_le_64 h1 h2)
  · exact .of_right (intBits_le_64 h1 h2)
theorem op_add : OpR X (binaryOp .Add) (rI0 fun i j => .int (i + j)) := opI0 fun _ _ _ _ _ _ _ q => add_int q
theorem op_sub : OpR X (binaryOp .Sub) (rI0 fun i j => .int (i - j)) := opI0 fun _ _ _ _ _ _ _ q => sub_int q
theorem op_mul : OpR X (binaryOp .Mult) (rI CMul fun i j => .int (i * j)) := opI fun _ _ _ _ _ _ _ hc q => mul_int q hc.ok
theorem op_fdiv : OpR X (binaryOp .FloorDiv) (rI CDiv fun i j => .int (i / j)) := opI fun i j _ _ _ _ _ hc q => by
  have h1 : (0 : Int) < j := hc.1
  have h2 : j < 1073741824 := hc.2
  exact floordiv_int (by omega) (by rw [Int.fdiv_eq_ediv_of_nonneg i (by omega)]; exact q) (.inl (PyProof.noPylong_small (by omega)))
theorem op_mod : OpR X (binaryOp .Mod) (rI (fun _ j => 0 < j) fun i j => .int (i % j)) := opI fun i j _ _ _ _ _ hc q => by
  have h1 : (0 : Int) < j := hc
  exact mod_int' (by omega) (by rw [Int.fmod_eq_emod_of_nonneg i (by omega)]; exact q)
theorem op_pow : OpR X (binaryOp .Pow) (rI CPow fun i j => .int (i ^ j.toNat)) := opI fun _ _ _ _ _ _ _ hc q => pow_int_small hc.1 hc.2.1 hc.2.2 q
theorem unI {f : Value → Sem Value} {g : Int → Int}
    (rule : ∀ (i : Int) (t : Tok) (s : Shared) (Q : Value → Shared → Prop) (E : Value → Shared → Prop), Q (.int (g i) s.toks) { s with toks := s.toks + 1 } → wpAny (model X.prog X.w) X.A (f (.int i t)) Q E s) :
    UnR X f (rU fun i => .int (g i)) := by
  intro pins s σ H x v Q I rx h
  obtain ⟨i, rfl, q⟩ := h
  obtain ⟨t, rfl⟩ := rx
  exact rule i t s _ _ ⟨.int (g i), H, I.tok _, ⟨_, rfl⟩, q⟩
theorem un_neg : UnR X (unaryOp .USub) (rU fun i => .int (-i)) := unI fun _ _ _ _ _ q => neg_int q
end
section
variable {X : Cx} {a b c : Expr} {ta tb tc : TE} {pos : Pos}
theorem op_lt : OpR X (compareOp .Lt) (rI0 fun i j => .bl (decide (i < j))) := opB0 fun _ _ _ _ _ _ _ q => lt_int q
theorem op_le : OpR X (compareOp .LtE) (rI0 fun i j => .bl (decide (i ≤ j))) := opB0 fun _ _ _ _ _ _ _ q => le_int q
theorem op_gt : OpR X (compareOp .Gt) (rI0 fun i j => .bl (decide (j < i))) := opB0 fun _ _ _ _ _ _ _ q => gt_int q
theorem op_ge : OpR X (compareOp .GtE) (rI0 fun i j => .bl (decide (j ≤ i))) := opB0 fun _ _ _ _ _ _ _ q => ge_int q
theorem OpR.or {f : Value → Value → Sem Value} {r r' : R2} (h : OpR X f r) (h' : OpR X f r') : OpR X f (fun x y H Q => r x y H Q ∨ r' x y H Q) := by
  intro pins s σ H x y v u Q I rx ry q
  rcases q with q | q
  · exact h pins s σ H x y v u Q I rx ry q
  · exact h' pins s σ H x y v u Q I rx ry q
theorem nomark (b : Expr) {op : CmpOp} (h : op ≠ .In := by decide) (h2 : op ≠ .NotIn := by decide) : behindInMarks op b = false := by
  have e1 : (op == CmpOp.In) = false := by cases op <;> first | rfl | exact absurd rfl h
  have e2 : (op == CmpOp.NotIn) = false := by cases op <;> first | rfl | exact absurd rfl h2
  cases b <;> simp [behindInMarks, e1, e2]
theorem pe_cmpR {op : CmpOp} {r : R2} (ho : OpR X (compareOp op) r) (ha : PE X a ta) (hb : PE X b tb) (hm : behindInMarks op b = false) : PE X (.Compare a [op] [b] pos) (tOp r ta tb) := by
  intro pins s σ H Q I h
  exact wpAny_Compare1 (binT ha hb I h fun v u s2 x y H2 I2 rx ry q => ho pins s2 σ H2 x y v u Q I2 rx ry q) hm
noncomputable def tTest (t : TE) : TT := fun σ H Q => t σ H fun x H' => ∃ k, x = .bl k ∧ Q k H'
theorem pt_cmpR {op : CmpOp} {r : R2} (ho : OpR X (compareOp op) r) (ha : PE X a ta) (hb : PE X b tb) (hm : behindInMarks op b = false) : PT X (.Compare a [op] [b] pos) (tTest (tOp r ta tb)) := by
  intro pins s σ H Q I h
  refine wpAny_isTrue_Compare1 (thn (ha pins s σ H _ I h) fun v s1 ⟨x, H1, I1, r1, q1⟩ => thn (hb pins s1 σ H1 _ I1 q1) fun u s2 ⟨y, H2, I2, r2, q2⟩ =>
    thn (ho pins s2 σ H2 x y v u _ I2 r1 r2 q2) fun c s3 ⟨z, H3, I3, r3, k, e, q3⟩ => ?_) hm
  subst e
  cases r3
  exact wpAny_truthy_bool ⟨H3, I3, q3⟩
noncomputable def TruV (K : PySem.W.Frag) (x : V) (H : Hp) (k : Bool) : Prop :=
  match x with
  | .non => k = false
  | .bl b => k = b
  | .int i => k = (i != 0)
  | .str y => y.length ≤ sizeLine ∧ k = ((y.length : Int) != 0)
  | .byt y => y.size ≤ sizeLine ∧ k = ((y.size : Int) != 0)
  | .ref p => (∃ xs, SqL K H p xs ∧ k = !xs.isEmpty) ∨ (∃ xs, SqT K H p xs ∧ k = !xs.isEmpty) ∨ ∃ kvs, H p = some (.dK kvs) ∧ k = !kvs.isEmpty
  | _ => False
theorem isEmpty_kv {κ : Type} {kvs : List (κ × V)} {vs : List (κ × Value)} (r : KV kvs vs) : (!vs.isEmpty) = !kvs.isEmpty := by
  cases r <;> rfl
theorem isEmpty_of {xs : List V} {its : List Value} (r : Vals xs its) : (!its.toArray.isEmpty) = !xs.isEmpty := by
  cases r <;> simp
theorem line63 : (sizeLine : Nat) < 2 ^ 63 := by rw [sizeLine_eq]; decide
theorem tru_ok : TruR X (fun x H Q => ∃ k, TruV X.K x H k ∧ Q k H) := by
  intro pins s σ H x v Q I rx h
  obtain ⟨k, e, q⟩ := h
  have hl := line63
  have hs : sizeLine = 16777216 := sizeLine_eq
  cases x with
  | non =>
    cases rx
    have e' : k = false := e
    subst e'
    exact truthy_none ⟨H, I, q⟩
  | bl b =>
    cases rx
    have e' : k = b := e
    subst e'
    exact wpAny_truthy_bool ⟨H, I, q⟩
  | int i =>
    obtain ⟨t, rfl⟩ := rx
    have e' : k = (i != 0) := e
    subst e'
    exact PySem.P.truthy_int ⟨H, I, q⟩
  | str y =>
    obtain ⟨t, rfl⟩ := rx
    obtain ⟨hy, e'⟩ : y.length ≤ sizeLine ∧ k = ((y.length : Int) != 0) := e
    subst e'
    exact PySem.P.truthy_str (by omega) ⟨H, I.tok _, q⟩
  | byt y =>
    obtain ⟨t, rfl⟩ := rx
    obtain ⟨hy, e'⟩ : y.size ≤ sizeLine ∧ k = ((y.size : Int) != 0) := e
    subst e'
    exact PySem.W.truthy_bytes (by omega) ⟨H, I.tok _, q⟩
  | ref p =>
    cases rx
    have e' : (∃ xs, SqL X.K H p xs ∧ k = !xs.isEmpty) ∨ (∃ xs, SqT X.K H p xs ∧ k = !xs.isEmpty) ∨ ∃ kvs, H p = some (.dK kvs) ∧ k = !kvs.isEmpty := e
    rcases e' with ⟨xs, hx, e'⟩ | ⟨xs, hx, e'⟩ | ⟨kvs, hx, e'⟩
    · subst e'
      obtain ⟨its, r, pl, hz⟩ := I.list hx
      have hlen := r.length
      exact wpAny_truthy_list pl.isList (by simp only [List.size_toArray]; omega) ⟨H, I.tok _, by rw [isEmpty_of r]; exact q⟩
    · subst e'
      obtain ⟨its, r, pl, hz⟩ := I.tuple hx
      have hlen := r.length
      exact truthy_tuple pl (by simp only [List.size_toArray]; omega) ⟨H, I.tok _, by rw [isEmpty_of r]; exact q⟩
    · subst e'
      obtain ⟨hz, hS, vs, r, m⟩ : kvs.length ≤ sizeLine ∧ (p == sysModules) = false ∧ ∃ vs, KV kvs vs ∧ s.heap.DictOf (mixKind X.prog X.w) p vs := I.hok p _ hx
      have hlen : kvs.length = vs.length := Paired.length r
      exact wpAny_truthy_dict hS m (by omega) ⟨H, I.tok _, by rw [isEmpty_kv r]; exact q⟩
  | _ => exact (show False from e).elim
theorem pt_truth (ha : PE X a ta) (he : ∀ whole, isTrue a X.env whole = (do let v ← whole; standAt a.pos; holding [v] (truthy v))) :
    PT X a (fun σ H Q => ta σ H fun x H' => ∃ k, TruV X.K x H' k ∧ Q k H') := by
  intro pins s σ H Q I h
  exact isTrue_plain (thn (ha pins s σ H _ I h) fun v s1 ⟨x, H1, I1, r1, q1⟩ => tru_ok pins s1 σ H1 x v Q I1 r1 q1) (he _)
theorem op_add_str : OpR X (binaryOp .Add) (fun x y H Q => ∃ i j, x = .str i ∧ y = .str j ∧ i.length + j.length ≤ sizeLine ∧ Q (.str (i ++ j)) H) := by
  intro pins s σ H x y v u Q I rx ry h
  obtain ⟨i, j, rfl, rfl, hz, q⟩ := h
  obtain ⟨t, rfl⟩ := rx
  obtain ⟨t', rfl⟩ := ry
  exact add_str (fun t' tk => ⟨.str (i ++ j), H, I.tok _, ⟨_, rfl⟩, q⟩) hz
theorem vals1 {x : V} {us : List Value} (r : Vals [x] us) : ∃ u, us = [u] ∧ RelV x u := by
  cases r with
  | cons r1 r2 => cases r2; exact ⟨_, rfl, r1⟩
theorem vals2 {x y : V} {us : List Value} (r : Vals [x, y] us) : ∃ u w', us = [u, w'] ∧ RelV x u ∧ RelV y w' := by
  cases r with
  | cons r1 r2 =>
    cases r2 with
    | cons r3 r4 => cases r4; exact ⟨_, _, rfl, r1, r3⟩
theorem call_abs : CallR X (.builtin "abs") (fun xs H Q => ∃ i, xs = [.int i] ∧ Q (.int (if i < 0 then -i else i)) H) := by
  intro pins s σ H xs us Q I r h
  obtain ⟨i, rfl, q⟩ := h
  obtain ⟨u, rfl, t, rfl⟩ := vals1 r
  exact call_abs_int fun u tk => ⟨.int (if i < 0 then -i else i), H, I.tok _, ⟨_, rfl⟩, q⟩
theorem call_int1 : CallR X (.type "int") (fun xs H Q => (∃ i, xs = [.int i] ∧ Q (.int i) H) ∨ ∃ k, xs = [.bl k] ∧ Q (.int (if k then 1 else 0)) H) := by
  intro pins s σ H xs us Q I r h
  rcases h with ⟨i, rfl, q⟩ | ⟨k, rfl, q⟩
  · obtain ⟨u, rfl, t, rfl⟩ := vals1 r
    exact call_int_int ⟨.int i, H, I, ⟨_, rfl⟩, q⟩
  · obtain ⟨u, rfl, r1⟩ := vals1 r
    cases r1
    exact call_int_bool ⟨.int (if k then 1 else 0), H, I.tok _, ⟨_, rfl⟩, q⟩
end
end L2
namespace L2
open PySem PySem.Spec PyProof.Rows
structure ObjM (h : Heap) (x dx C : Addr) (mA : Str → Option Value) : Prop where
  obj : h.get? x = some (PySem.W.instObj C dx)
  ns : h.Ns1 dx mA
  ne : dx ≠ x
section
variable {prog : Program} {w : World} {A : Around} {E : Value → Shared → Prop} {s : Shared} {K : PySem.W.Frag} {x dx C f : Addr} {mA : Str → Option Value} {name : Str} {v : Value}
end
theorem RelO.none_of {o : Option Value} (r : RelO none o) : o = none := by
  cases o with
  | none => rfl
  | some u => exact (show False from r).elim
section
variable {P : Program} {w : World} {H H' : Hp} {h h' : Heap} {a C dx : Addr} {fs fs' : List (Str × V)}
end
structure Cls (K : PySem.W.Frag) (C : Addr) : Prop where
  pg : PySem.W.plainGet K C Str.empty = true
  hd : PySem.W.hasDictIn K C = true
  po : PySem.W.plainOver K C = true
  sa : PySem.W.findIn K (.ref C) "__setattr__" = some (some (.builtin "object.__setattr__"))
theorem Cls.get {K : PySem.W.Frag} {C : Addr} (c : Cls K C) (f : Str) : PySem.W.plainGet K C f = true := c.pg
structure Con (K : PySem.W.Frag) (C : Addr) (f : Str) (v : V) (u : Value) : Prop where
  at_ : PySem.W.findIn K (.ref C) f = some (some u)
  rel : RelV v u
  get : PySem.W.specialIn K u "__get__" = some none
  cp : PySem.W.copiedNames.contains f = false
structure Meth (K : PySem.W.Frag) (C : Addr) (m : Str) (f : Addr) : Prop where
  at_ : PySem.W.findIn K (.ref C) m = some (some (.ref f))
  fn : PySem.W.isFn K (.ref f) = true
  kp : PySem.W.keepIn K (.ref f) = true
section
variable {X : Cx} {pins : List (Addr × Obj)} {σ : St} {H : Hp} {s : Shared} {a C dx : Addr} {fs : List (Str × V)} {f : Str} {v : V} {A : Around} {E : Value → Shared → Prop}
end
section
variable {X : Cx} {o e value : Expr} {f : Str} {pos pos' tpos : Pos} {ta tv : TE}
end
section
variable {X : Cx} {pins : List (Addr × Obj)} {σ : St} {H : Hp} {s : Shared} {A : Around} {E : Value → Shared → Prop} {Q : Value → Shared → Prop} {c : Value} {b : Bool}
inductive TyOf (K : PySem.W.Frag) (H : Hp) : V → Value → Prop where
  | non : TyOf K H .non (.type "NoneType")
  | bl (x : Bool) : TyOf K H (.bl x) (.type "bool")
  | int (i : Int) : TyOf K H (.int i) (.type "int")
  | str (x : Str) : TyOf K H (.str x) (.type "str")
  | flt (x : UInt64) : TyOf K H (.flt x) (.type "float")
  | lst {a : Addr} {xs : List V} (e : H a = some (.lst xs)) : TyOf K H (.ref a) (.type "list")
  | frz {a : Addr} {o : Obj} {xs : List V} (e : H a = some (.frz o (.lst xs))) : TyOf K H (.ref a) (.type "list")
  | tup {a : Addr} {xs : List V} (e : H a = some (.tup xs)) : TyOf K H (.ref a) (.type "tuple")
  | dK {a : Addr} {kvs : List (Key × V)} (e : H a = some (.dK kvs)) : TyOf K H (.ref a) (.type "dict")
  | dT {a : Addr} {kvs : List (List Key × V)} (e : H a = some (.dT kvs)) : TyOf K H (.ref a) (.type "dict")
  | ins {a C dx : Addr} {fs : List (Str × V)} (e : H a = some (.ins C dx fs)) (cl : Cls K C) (ha : PySem.W.findIn K (.ref C) "__class__" = some (some (.builtin "object.__class__")))
      (hn : PySem.W.specialIn K (.builtin "object.__class__") "__get__" = some (some (.builtin "getset_descriptor.__get__"))) (htk : PySem.W.takesIn K (.builtin "object.__class__") = some true)
      (hm : PySem.W.mroIn K C (.type "object") = some true) : TyOf K H (.ref a) (.ref C)
end
end L2
namespace L2
open PySem PySem.Spec PyProof.Rows
structure Room (k : Nat) (A : Around) : Prop where
  hd : A.handled = none
  dp : A.depth + 3 * k + 5 < recursionLimit
  un : A.units + 16 * k + 200 < cLine
  gd : A.guards = some []
theorem Room.mono {j k : Nat} {A : Around} (r : Room k A) (h : j ≤ k) : Room j A := ⟨r.hd, by have := r.dp; omega, by have := r.un; omega, r.gd⟩
theorem Room.deeper {k : Nat} {A : Around} (r : Room (k + 1) A) (env : Env) : Room k (A.deeper env) :=
  ⟨r.hd, by have := r.dp; show A.depth + 1 + 3 * k + 5 < _; omega, by have := r.un; show A.units + 3 + 16 * k + 200 < _; omega, r.gd⟩
theorem Room.in1 {k : Nat} {A : Around} (r : Room (k + 1) A) : Room k A.in1 :=
  ⟨r.hd, by have := r.dp; show A.depth + 3 * k + 5 < _; omega, by have := r.un; show A.units + 1 + 16 * k + 200 < _; omega, r.gd⟩
theorem make_depth {A : Around} {C : Addr} {us : List Value} {kw : List (Str × Value)} : (A.under (.builtin "type.__call__" ⟨.ref C :: us, kw⟩)).depth = A.depth + 1 := by
  first | rfl | simp [Around.under, Code.weight, Code.isCreation, Code.isGuard, Code.isCaller, Code.frames, Code.isFrame, guardIds]
theorem make_units {A : Around} {C : Addr} {us : List Value} {kw : List (Str × Value)} : (A.under (.builtin "type.__call__" ⟨.ref C :: us, kw⟩)).units = A.units + 1 := by
  first | rfl | simp [Around.under, Code.cUnits, Code.frames, Code.isFrame]
theorem Room.make {k : Nat} {A : Around} (r : Room (k + 1) A) (C : Addr) (us : List Value) (kw : List (Str × Value)) : Room k (A.under (.builtin "type.__call__" ⟨.ref C :: us, kw⟩)) :=
  ⟨r.hd, by have := r.dp; rw [make_depth]; omega, by have := r.un; rw [make_units]; omega, by first | exact r.gd | (simpa [Around.under, Code.guards, Code.isGuard, guardIds, pushGuards] using r.gd)⟩
theorem Room.depth {k : Nat} {A : Around} (r : Room k A) : A.depth < recursionLimit := by have := r.dp; omega
theorem Room.units {k : Nat} {A : Around} (r : Room k A) : A.units + 64 < cLine := by have := r.un; omega
noncomputable def tNil : TA := fun _ H Q => Q [] H
noncomputable def tCons (ta : TE) (tr : TA) : TA := fun σ H Q => ta σ H fun x H1 => tr σ H1 fun xs H2 => Q (x :: xs) H2
section
variable {X : Cx} {e : Expr} {es : List Expr} {te : TE} {t : TA} {pos : Pos}
theorem pa_nil : PA X [] tNil := fun _ _ _ _ H Q I h => Calls.spliced_nil ⟨[], H, I, .nil, h⟩
theorem pa_cons (ha : PE X e te) (hr : PA X es t) (hs : starEach (e :: es) X.env = (false, eval e X.env) :: starEach es X.env := by rfl) : PA X (e :: es) (tCons te t) := by
  intro pos pins s σ H Q I h
  rw [hs]
  show wpAny _ _ (spliced ((false, eval e X.env) :: backTo pos (starEach es X.env))) _ _ s
  refine Calls.spliced_cons (thn (ha pins s σ H _ I h) fun u s1 ⟨x, H1, I1, r1, q1⟩ => ?_)
  exact thn (hr pos pins s1 σ H1 _ I1 q1) fun us s2 ⟨xs, H2, I2, r2, q2⟩ => ⟨x :: xs, H2, I2, .cons r1 r2, q2⟩
noncomputable def tTup (t : TA) : TE := fun σ H Q => t σ H fun xs H1 => xs.length ≤ sizeLine ∧ ∀ p, H1 p = none → Q (.ref p) (upd H1 p (.tup xs))
noncomputable def tLst (t : TA) : TE := fun σ H Q => t σ H fun xs H1 => xs.length ≤ sizeLine ∧ ∀ p, H1 p = none → Q (.ref p) (upd H1 p (.lst xs))
theorem pe_tup {x1} (h : PA X es t) : PE X (.Tuple es x1 pos) (tTup t) := by
  intro pins s σ H Q I hq
  refine wpAny_Tuple_spliced (thn (h pos pins s σ H _ I hq) fun us s1 ⟨xs, H1, I1, r, z, q⟩ => ⟨by rw [← r.length]; exact z, ?_⟩)
  have hf : H1 s1.heap.objs.size = none := I1.hok.fresh (Nat.le_refl _)
  refine ⟨.ref s1.heap.objs.size, upd H1 s1.heap.objs.size (.tup xs), I1.laid (t' := s1.toks) (fun b u e => Heap.get?_push_of_some _ e) (Nat.le_refl _) ?_, rfl, q _ hf⟩
  exact ⟨z, us, r, ⟨_, Heap.get?_push_size _ rfl, rfl, ⟨_, rfl⟩, rfl⟩⟩
theorem pe_lst (h : PA X es t) : PE X (.List es pos) (tLst t) := by
  intro pins s σ H Q I hq
  refine wpAny_List_spliced (thn (h pos pins s σ H _ I hq) fun us s1 ⟨xs, H1, I1, r, z, q⟩ => ⟨by rw [← r.length]; exact z, ?_⟩)
  have hf : H1 s1.heap.objs.size = none := I1.hok.fresh (Nat.le_refl _)
  refine ⟨.ref s1.heap.objs.size, upd H1 s1.heap.objs.size (.lst xs), I1.laid (t' := s1.toks) (fun b u e => Heap.get?_push_of_some _ e) (Nat.le_refl _) ?_, rfl, q _ hf⟩
  exact ⟨z, us, 0, r, Heap.get?_push_size _ rfl⟩
end
noncomputable abbrev Sp := List V → Hp → VK → XK → Prop
noncomputable abbrev CXT := List Env → Hp → Shared → XK → Value → Shared → Prop
structure Env0 (P : Program) (w : World) (K : PySem.W.Frag) (mg : Str → Option Value) (base : Heap) (A : Around) (outer : List Env) (s : Shared) (H : Hp) : Prop where
  frames : A.frames = some outer
  mod : Mod K mg base
  bs : ∀ b o, base.get? b = some o → s.heap.get? b = some o ∧ H b = none
  bsz : base.objs.size ≤ s.heap.objs.size
  funs : s.heap.FunFrames base outer
  frf : ∀ b ∈ frs outer, H b = none
  hok : HOk P w H s.heap
  bare : AllBare s.gens
noncomputable def CE (outer : List Env) (P : Program) (w : World) (H : Hp) (s : Shared) (Q : VK) (u : Value) (s' : Shared) : Prop :=
  ∃ v H', s'.os = s.os ∧ AllBare s'.gens ∧ Un (frs outer) [] H H' s.heap s'.heap ∧ HOk P w H' s'.heap ∧ RelV v u ∧ Q v H'
noncomputable def CR (CX : CXT) (outer : List Env) (P : Program) (w : World) (H : Hp) (s : Shared) (Q : VK) (E : XK) (r : Result) (s' : Shared) : Prop :=
  match r with
  | .ok (.ret u) => CE outer P w H s Q u s'
  | .ok _ => False
  | .error e => CX outer H s E e s'
structure FnOk (P : Program) (w : World) (K : PySem.W.Frag) (mg : Str → Option Value) (base : Heap) (CX : CXT) (k : Nat) (f : Addr) (fd : FuncData) (ps : List Str) (sp : Sp) : Prop where
  len : ∀ vs H Q E, sp vs H Q E → vs.length = ps.length
  run : ∀ (A : Around) (outer : List Env) (s : Shared) (H : Hp) (args : Args) (us : List Value) (vs : List V) (Q : VK) (E : XK), Room k A → Env0 P w K mg base A outer s H → BindsTo s fd args (ps.zip us) → Vals vs us → sp vs H Q E →
    codeAny (model P w) A (.call (.ref f) args) (CR CX outer P w H s Q E) s
theorem FnOk.mono {P : Program} {w : World} {K : PySem.W.Frag} {mg : Str → Option Value} {base : Heap} {CX : CXT} {j k : Nat} {f : Addr} {fd : FuncData} {ps : List Str} {sp : Sp} (F : FnOk P w K mg base CX j f fd ps sp) (h : j ≤ k) :
    FnOk P w K mg base CX k f fd ps sp := ⟨F.len, fun A outer s H args us vs Q E hr => F.run A outer s H args us vs Q E (hr.mono h)⟩
theorem FnOk.imp {P : Program} {w : World} {K : PySem.W.Frag} {mg : Str → Option Value} {base : Heap} {CX : CXT} {k : Nat} {f : Addr} {fd : FuncData} {ps : List Str} {sp sp' : Sp} (F : FnOk P w K mg base CX k f fd ps sp)
    (h : ∀ vs H Q E, sp' vs H Q E → sp vs H Q E) : FnOk P w K mg base CX k f fd ps sp' :=
  ⟨fun vs H Q E q => F.len vs H Q E (h _ _ _ _ q), fun A outer s H args us vs Q E hr he hb hv hs => F.run A outer s H args us vs Q E hr he hb hv (h _ _ _ _ hs)⟩
theorem Env0.make {P : Program} {w : World} {K : PySem.W.Frag} {mg : Str → Option Value} {base : Heap} {A : Around} {outer : List Env} {s : Shared} {H : Hp} (e : Env0 P w K mg base A outer s H) (C : Addr) (us : List Value) (kw : List (Str × Value)) :
    Env0 P w K mg base (A.under (.builtin "type.__call__" ⟨.ref C :: us, kw⟩)) outer s H := ⟨by first | exact e.frames | (simpa [Around.under, Code.envs, Code.isFrame, pushEnvs] using e.frames), e.mod, e.bs, e.bsz, e.funs, e.frf, e.hok, e.bare⟩
theorem Env0.in1 {P : Program} {w : World} {K : PySem.W.Frag} {mg : Str → Option Value} {base : Heap} {A : Around} {outer : List Env} {s : Shared} {H : Hp} (e : Env0 P w K mg base A outer s H) :
    Env0 P w K mg base A.in1 outer s H := ⟨e.frames, e.mod, e.bs, e.bsz, e.funs, e.frf, e.hok, e.bare⟩
section
variable {X : Cx} {pins : List (Addr × Obj)} {σ : St} {H : Hp} {s s' : Shared}
theorem Inv.env0 (I : Inv X pins σ H s) : Env0 X.prog X.w X.K X.mg X.base X.A X.stack s H :=
  ⟨I.ok.frames, I.ok.mod, I.bs, Nat.le_trans I.ok.bsz I.sz, I.stack, I.stkFree, I.hok, I.bare⟩
theorem Inv.after {Q : VK} {u : Value} (I : Inv X pins σ H s) (h : CE X.stack X.prog X.w H s Q u s') : EP X pins σ Q u s' := by
  obtain ⟨v, H', os, bare, un, hok, r, q⟩ := h
  obtain ⟨hh, g, d, t, os'⟩ := s'
  obtain rfl : os' = s.os := os
  exact ⟨v, H', I.call (h' := hh) (g' := g) (d' := d) (t' := t) (ch := []) un hok bare (fun b z => absurd z (by simp)), r, q⟩
end
noncomputable def tCall (sp : Sp) (dvs : List V) (E : XK) (t : TA) : TE := fun σ H Q => t σ H fun vs H1 => sp (vs ++ dvs) H1 Q E
noncomputable def Binds (K : PySem.W.Frag) (fd : FuncData) (ps : List Str) (ds : List Value) : Prop :=
  ∀ (s : Shared) (us : List Value), K.In s.heap → (us ++ ds).length = ps.length → BindsTo s fd ⟨us, []⟩ (ps.zip (us ++ ds))
theorem Binds.all {K : PySem.W.Frag} {fd : FuncData} {ps : List Str} (h : ∀ us : List Value, us.length = ps.length → bindArgs fd ⟨us, []⟩ = pure (ps.zip us)) : Binds K fd ps [] := fun s us _ hl => by
  rw [List.append_nil] at hl ⊢
  exact .of_eq (h us hl)
noncomputable def Passes (CX : CXT) (X : Cx) (E : XK) : Prop := ∀ (pins : List (Addr × Obj)) (σ : St) (H : Hp) (s : Shared) (e : Value) (s' : Shared), Inv X pins σ H s → CX X.stack H s E e s' → X.xe e s'
section
variable {X : Cx} {CX : CXT} {k : Nat} {f C : Addr} {fd : FuncData} {ps : List Str} {sp : Sp} {dvs : List V} {ds : List Value} {E : XK} {x m : Str} {p pos apos : Pos} {e o : Expr} {es : List Expr} {ta : TE} {t : TA}
theorem run_fn {pins : List (Addr × Obj)} {σ : St} {H : Hp} {s : Shared} {Q : VK} {us : List Value} {vs : List V} (F : FnOk X.prog X.w X.K X.mg X.base CX k f fd ps sp) (hr : Room k X.A) (hb : Binds X.K fd ps ds) (hd : Vals dvs ds) (hx : Passes CX X E)
    (I : Inv X pins σ H s) (r : Vals vs us) (h : sp (vs ++ dvs) H Q E) : wpAny (model X.prog X.w) X.A (call (.ref f) us) (EP X pins σ Q) X.xe s := by
  have r2 : Vals (vs ++ dvs) (us ++ ds) := r.append hd
  have hl : (us ++ ds).length = ps.length := by rw [← r2.length]; exact F.len _ _ _ _ h
  refine wpAny_call (codeAny_mono (F.run X.A X.stack s H ⟨us, []⟩ (us ++ ds) (vs ++ dvs) Q E hr I.env0 (hb s us I.kIn hl) r2 h) fun r s' hq => ?_)
  cases r with
  | error e => exact hx pins σ H s e s' I hq
  | ok fl =>
    cases fl with
    | ret u => exact I.after hq
    | next => exact False.elim hq
    | brk => exact False.elim hq
    | cont => exact False.elim hq
theorem pe_call (F : FnOk X.prog X.w X.K X.mg X.base CX k f fd ps sp) (hr : Room k X.A) (hg : Gl X x) (hm : X.mg x = some (.ref f)) (hk : PySem.W.keepIn X.K (.ref f) = true) (hb : Binds X.K fd ps ds) (hd : Vals dvs ds) (hx : Passes CX X E)
    (ha : PA X (e :: es) t) (hdb : (x == ("__debug__" : Str)) = false := by decide) (he : starEach (e :: es) X.env = (false, eval e X.env) :: starEach es X.env := by rfl) (hpl : (backTo pos (starEach es X.env)).any (·.1) = false := by rfl) :
    PE X (.Call (.Name x p) (e :: es) [] pos) (tCall sp dvs E t) := by
  intro pins s σ H Q I h
  refine wpAny_Call_Name_kw (ld_glob I hg hm ?_ hdb)
  refine PySem.W.callWith_K (h₀ := X.base) I.ok.mod.kin hk (thn (ha pos pins s σ H _ I h) fun us s1 ⟨vs, H1, I1, r, q⟩ => ⟨I1.kIn, ?_⟩) he hpl
  exact run_fn F hr hb hd hx I1 r q
structure Mk (K : PySem.W.Frag) (C f : Addr) : Prop where
  makes : PySem.W.makesIn K C = true
  init : PySem.W.findIn K (.ref C) "__init__" = some (some (.ref f))
  fn : PySem.W.isFn K (.ref f) = true
  kp : PySem.W.keepIn K (.ref C) = true
end
section
variable {X : Cx} {CX : CXT} {k : Nat} {f C : Addr} {fd : FuncData} {ps ks : List Str} {sp : Sp} {E : XK} {x m : Str} {p pos apos kpos : Pos} {e o : Expr} {es : List Expr} {kws : List Keyword} {te ta : TE} {t tk : TA} {nm : Option Str}
structure KBinds (K : PySem.W.Frag) (fd : FuncData) (ps ks : List Str) (g : List Value → List Value → List Value) (gV : List V → List V → List V) : Prop where
  to : ∀ (s : Shared) (us ws : List Value), K.In s.heap → (g us ws).length = ps.length → BindsTo s fd ⟨us, ks.zip ws⟩ (ps.zip (g us ws))
  rel : ∀ {vs : List V} {us : List Value} {zs : List V} {ws : List Value}, Vals vs us → Vals zs ws → Vals (gV vs zs) (g us ws)
variable {g : List Value → List Value → List Value} {gV : List V → List V → List V}
end
structure FnScope (N P : List Str) (sc : Scope) : Prop where
  kind : sc.kind = .function
  co : sc.isCoroutine = false
  gen : sc.isGenerator = false
  nd : N.Nodup
  pre : N.take P.length = P
  par : ∀ x ∈ P, sc.names.lookup x = some .local ∨ sc.names.lookup x = some .cell
  nofree : ∀ y ∈ sc.names, y.2 ≠ .free
theorem bindL_out {kindOf : Str → Option NameKind} {x : Str} : ∀ {binds : List (Str × Value)} {m : Str → Option Value}, (∀ v, (x, v) ∉ binds) → bindL kindOf binds m x = m x
  | [], _, _ => rfl
  | (n, v) :: r, m, h => by
    unfold bindL
    rw [bindL_out fun w hw => h w (List.mem_cons_of_mem _ hw)]
    split
    · have : x ≠ n := by rintro rfl; exact h v List.mem_cons_self
      simp [this]
    · rfl
theorem bindC_out {kindOf : Str → Option NameKind} {x : Str} : ∀ {binds : List (Str × Value)} {m : Str → Option Value}, (∀ v, (x, v) ∉ binds) → bindC kindOf binds m x = m x
  | [], _, _ => rfl
  | (n, v) :: r, m, h => by
    unfold bindC
    rw [bindC_out fun w hw => h w (List.mem_cons_of_mem _ hw)]
    split
    · rfl
    · have : x ≠ n := by rintro rfl; exact h v List.mem_cons_self
      simp [this]
theorem bindL_get {kindOf : Str → Option NameKind} {x : Str} {v : Value} : ∀ {P : List Str} {vs : List Value} {i : Nat} {m : Str → Option Value}, P.Nodup → P[i]? = some x → vs[i]? = some v → kindOf x = some .local →
    bindL kindOf (P.zip vs) m x = some v
  | [], _, _, _, _, h, _, _ => by simp at h
  | _ :: _, [], _, _, _, _, h, _ => by simp at h
  | p :: P, w :: vs, 0, m, nd, h1, h2, hk => by
    simp at h1 h2; subst h1; subst h2
    show bindL kindOf ((p, w) :: P.zip vs) m p = _
    unfold bindL
    rw [bindL_out fun v hv => (List.nodup_cons.mp nd).1 (List.of_mem_zip hv).1, if_pos hk]
    simp
  | p :: P, w :: vs, i + 1, m, nd, h1, h2, hk => by
    show bindL kindOf ((p, w) :: P.zip vs) m x = _
    unfold bindL
    exact bindL_get (i := i) (List.nodup_cons.mp nd).2 (by simpa using h1) (by simpa using h2) hk
theorem bindC_get {kindOf : Str → Option NameKind} {x : Str} {v : Value} : ∀ {P : List Str} {vs : List Value} {i : Nat} {m : Str → Option Value}, P.Nodup → P[i]? = some x → vs[i]? = some v → kindOf x ≠ some .local →
    bindC kindOf (P.zip vs) m x = some v
  | [], _, _, _, _, h, _, _ => by simp at h
  | _ :: _, [], _, _, _, _, h, _ => by simp at h
  | p :: P, w :: vs, 0, m, nd, h1, h2, hk => by
    simp at h1 h2; subst h1; subst h2
    show bindC kindOf ((p, w) :: P.zip vs) m p = _
    unfold bindC
    rw [bindC_out fun v hv => (List.nodup_cons.mp nd).1 (List.of_mem_zip hv).1, if_neg hk]
    simp
  | p :: P, w :: vs, i + 1, m, nd, h1, h2, hk => by
    show bindC kindOf ((p, w) :: P.zip vs) m x = _
    unfold bindC
    exact bindC_get (i := i) (List.nodup_cons.mp nd).2 (by simpa using h1) (by simpa using h2) hk
noncomputable def start (N : List Str) (vs : List V) : St := vs.map some ++ List.replicate (N.length - vs.length) none
noncomputable def cxOf (CX : CXT) (P : Program) (w : World) (K : PySem.W.Frag) (mg : Str → Option Value) (base : Heap) (N : List Str) (qual : Str) (scope : Scope) (f : Addr) (cd : Value) (A : Around) (outer : List Env) (s : Shared) (H : Hp) (E : XK) : Cx where
  prog := P
  w := w
  K := K
  mg := mg
  base := base
  A := A.deeper (envOfC qual scope s.heap.objs.size f cd)
  N := N
  s₀ := s
  H₀ := H
  env := envOfC qual scope s.heap.objs.size f cd
  outer := outer
  stack := envOfC qual scope s.heap.objs.size f cd :: outer
  ex := []
  calm := true
  fn := fun _ => true
  pn := []
  xe := fun e s' => wpAny (model P w) (A.deeper (envOfC qual scope s.heap.objs.size f cd)) (leaving (envOfC qual scope s.heap.objs.size f cd) e) (fun _ s'' => CX outer H s E e s'') (fun e' s'' => CX outer H s E e' s'') s'
theorem cell_has {sc : Scope} {n : Nat} {x : Str} (h : sc.names.lookup x = some .cell) : ∃ c, (cellsFrom n sc.names []).lookup x = some c := by
  have q := PySem.W.cellsFrom_some sc.names n [] (.inl h)
  exact Option.isSome_iff_exists.mp q
theorem inv_start {CX : CXT} {P : Program} {w : World} {K : PySem.W.Frag} {mg : Str → Option Value} {base : Heap} {N ps : List Str} {qual : Str} {scope : Scope} {f : Addr} {cd : Value} {A : Around} {outer : List Env} {s s1 : Shared} {H : Hp} {E : XK} {us : List Value} {vs : List V}
    (S : FnScope N ps scope) (hd : A.handled = none) (e0 : Env0 P w K mg base A outer s H) (hl : vs.length = ps.length) (r : Vals vs us)
    (x : InCallC s s.heap.objs.size (bindL (envOfC qual scope s.heap.objs.size f cd).kindOf (ps.zip us) fun _ => none) (cellsFrom (s.heap.objs.size + 1) scope.names []) (bindC (envOfC qual scope s.heap.objs.size f cd).kindOf (ps.zip us) fun _ => none) s1) :
    Inv (cxOf CX P w K mg base N qual scope f cd A outer s H E) [] (start N vs) H s1 := by
  have hpl : ps.length ≤ N.length := by have := congrArg List.length S.pre; rw [List.length_take] at this; omega
  obtain ⟨h1, tk, rfl, hk⟩ := x.done
  have noA : ∀ b : Addr, b ∉ (cxOf CX P w K mg base N qual scope f cd A outer s H E).ex := fun b z => absurd (show b ∈ ([] : List Addr) from z) (by simp)
  refine ⟨⟨e0.mod, S.kind, rfl, rfl, Nat.le_refl _, fun y z c h1 h2 => ?_, fun y hy => ?_, fun y c _ h => ?_, fun _ => hd, Around.frames_deeper e0.frames, .inr ⟨rfl, rfl⟩, fun b z => absurd z (noA b), e0.bs, e0.bsz, fun b _ _ => noA b, fun b z => absurd z (noA b), e0.funs, e0.frf⟩,
    rfl, e0.bare, Un.kept hk, ⟨_, x.toInCall.ns, fun i y v h1 h2 h3 => ?_⟩, fun y c h => ⟨_, x.cell y c h⟩, e0.hok.fresh (Nat.le_refl _), fun y c h => ?_, fun p hp => absurd (show p ∈ ([] : List (Addr × Obj)) from hp) (by simp), e0.hok.kept hk, ?_⟩
  · exact name_of_addr x.apart (PySem.mem_of_lookup h1) (PySem.mem_of_lookup h2)
  · have hy : scope.names.lookup y = some .cell ∨ scope.names.lookup y = some .free := hy
    rcases hy with hy | hy
    · exact cell_has hy
    · exact absurd rfl (S.nofree _ (PySem.mem_of_lookup hy))
  · exact Nat.le_of_lt (x.above y c (PySem.mem_of_lookup h))
  · have hi : i < vs.length := by
      unfold start at h2
      by_cases hi : i < vs.length
      · exact hi
      · rw [List.getElem?_append_right (by simpa using hi)] at h2
        rw [List.getElem?_replicate] at h2
        split at h2 <;> cases h2
    have ha : vs[i]? = some v := by
      unfold start at h2
      rw [List.getElem?_append_left (by simpa using hi), List.getElem?_map] at h2
      cases e : vs[i]? with
      | none => rw [e] at h2; cases h2
      | some a => rw [e] at h2; cases h2; rfl
    obtain ⟨u, hu, rv⟩ := r.get ha
    have hp : ps[i]? = some y := by
      rw [← S.pre, List.getElem?_take_of_lt (by omega)]; exact h1
    have ndP : ps.Nodup := by rw [← S.pre]; exact S.nd.sublist (List.take_sublist _ _)
    refine ⟨u, rv, ?_⟩
    rcases S.par y (List.mem_of_getElem? hp) with k | k
    · exact .inl ⟨k, bindL_get ndP hp hu k⟩
    · obtain ⟨c, e⟩ := cell_has (n := s.heap.objs.size + 1) k
      refine .inr ⟨.inl k, c, e, ?_⟩
      have q := x.cell y c e
      rw [bindC_get ndP hp hu (by show scope.names.lookup y ≠ _; rw [k]; decide)] at q
      exact q
  · exact e0.hok.fresh (Nat.le_of_lt (x.above y c (PySem.mem_of_lookup h)))
  · unfold start
    show _ = N.length
    rw [List.length_append, List.length_map, List.length_replicate]
    omega
theorem fn_of {CX : CXT} {P : Program} {w : World} {K : PySem.W.Frag} {mg : Str → Option Value} {base : Heap} {k : Nat} {f : Addr} {name qual : Str} {params : Arguments} {body : List Stmt} {scope : Scope} {dV kV doc pm cdv ct oc : Value} {an od : Option Addr}
    {osl : Array (Option Value)} {N ps : List Str} {sp : Sp} (lk : K.lookup f = some ⟨oc, od, .func (PySem.W.fnOf name qual params body scope dV kV doc pm an cdv ct), osl⟩) (hcd : PySem.W.codeIn K cdv qual = true) (S : FnScope N ps scope)
    (len : ∀ vs H Q E, sp vs H Q E → vs.length = ps.length)
    (hbody : ∀ (A : Around) (outer : List Env) (s : Shared) (H : Hp) (vs : List V) (Q : VK) (E : XK), Room k (A.deeper (envOfC qual scope s.heap.objs.size f cdv)) → sp vs H Q E →
      ∃ t, PSs (cxOf CX P w K mg base N qual scope f cdv A outer s H E) body t ∧ t { nx := fun _ H' => Q .non H', rt := Q } (start N vs) H) :
    FnOk P w K mg base CX (k + 1) f (PySem.W.fnOf name qual params body scope dV kV doc pm an cdv ct) ps sp := by
  refine ⟨len, fun A outer s H args us vs Q E hr e0 hb r hsp => ?_⟩
  have hl := len _ _ _ _ hsp
  have KX : K.In s.heap := e0.mod.kin.keeps fun b o e => (e0.bs b o e).1
  have lim : s.heap.NoLimit := e0.mod.nolimit.keeps fun b o e => (e0.bs b o e).1
  have hkind : ∀ y ∈ ps.zip us, scope.names.lookup y.1 = some .local ∨ (scope.names.lookup y.1 = some .cell ∧ ((cellsFrom (s.heap.objs.size + 1) scope.names []).lookup y.1).isSome = true) := fun ⟨n, v⟩ hy => by
    rcases S.par n (List.of_mem_zip hy).1 with q | q
    · exact .inl q
    · exact .inr ⟨q, PySem.W.cellsFrom_some _ _ _ (.inl q)⟩
  refine codeAny_call_function hr.depth (KX _ _ lk) rfl S.co S.gen rfl (PySem.W.codeRec_of KX hcd) (hb _ _ _ _ ?_)
  refine wpAny_newFunctionEnv_cells S.kind hkind fun env he s1 x => ?_
  subst he
  refine ⟨lim.keeps x.toInCall.keep, codeAny_func ?_⟩
  obtain ⟨t, ht, hq⟩ := hbody A outer s H vs Q E (hr.deeper _) hsp
  have I : Inv (cxOf CX P w K mg base N qual scope f cdv A outer s H E) [] (start N vs) H s1 := inv_start S hr.hd e0 hl r x
  refine wpAny_mono (ht [] s1 (start N vs) H _ I hq) (fun fl s' hs => ?_) fun e s' hs => hs
  have fin : ∀ {σ' : St} {H' : Hp} {v : V} {u : Value}, Inv (cxOf CX P w K mg base N qual scope f cdv A outer s H E) [] σ' H' s' → RelV v u → Q v H' → CE outer P w H s Q u s' :=
    fun {σ' H' v u} J rv q => ⟨v, H', J.os, J.bare, J.base, J.hok, rv, q⟩
  cases fl with
  | ret u =>
    obtain ⟨v, σ', H', J, rv, q⟩ := hs
    exact fin J rv q
  | next =>
    obtain ⟨σ', H', J, q⟩ := hs
    exact fin (v := V.non) (u := Value.none) J rfl q
  | brk =>
    obtain ⟨_, _, _, q⟩ := hs
    exact False.elim q
  | cont =>
    obtain ⟨_, _, _, q⟩ := hs
    exact False.elim q
end L2
namespace L2
open PySem PySem.Spec PyProof.Rows
section
variable {X : Cx} {x : Str} {p pos : Pos} {e : Expr} {es : List Expr} {t : TA} {id T : String} {r : List V → Hp → VK → Prop}
noncomputable def tCB (r : List V → Hp → VK → Prop) (t : TA) : TE := fun σ H Q => t σ H fun vs H1 => r vs H1 Q
theorem pe_callB (hc : CallR X (.builtin id) r) (hg : Gl X x) (hm : X.mg x = none) (hv : bootBuiltins x = some (.builtin id)) (ha : PA X (e :: es) t) (hn : x ≠ "__name__" := by decide) (hdb : (x == ("__debug__" : Str)) = false := by decide)
    (he : starEach (e :: es) X.env = (false, eval e X.env) :: starEach es X.env := by rfl) (hpl : (backTo pos (starEach es X.env)).any (·.1) = false := by rfl) : PE X (.Call (.Name x p) (e :: es) [] pos) (tCB r t) := by
  intro pins s σ H Q I h
  refine wpAny_Call_Name_kw (ld_blt I hg hm hv ?_ hn hdb)
  exact PyProof.Rows.callWith_builtin1 (thn (ha pos pins s σ H _ I h) fun us s1 ⟨vs, H1, I1, r1, q1⟩ => hc pins s1 σ H1 vs us Q I1 r1 q1) he hpl
theorem pe_callTy (hc : CallR X (.type T) r) (hg : Gl X x) (hm : X.mg x = none) (hv : bootBuiltins x = some (.type T)) (ha : PA X (e :: es) t) (hn : x ≠ "__name__" := by decide) (hdb : (x == ("__debug__" : Str)) = false := by decide)
    (he : starEach (e :: es) X.env = (false, eval e X.env) :: starEach es X.env := by rfl) (hpl : (backTo pos (starEach es X.env)).any (·.1) = false := by rfl) : PE X (.Call (.Name x p) (e :: es) [] pos) (tCB r t) := by
  intro pins s σ H Q I h
  refine wpAny_Call_Name_kw (ld_blt I hg hm hv ?_ hn hdb)
  exact PyProof.Rows.callWith_type1 (thn (ha pos pins s σ H _ I h) fun us s1 ⟨vs, H1, I1, r1, q1⟩ => hc pins s1 σ H1 vs us Q I1 r1 q1) he hpl
end
end L2
namespace HT
open PySem PyProof.Rows
section
open PySem.SeqAt
open PySem.AutoSeq1 (wpAny_loadPart')
open PySem.MeetsSeq PySem.MeetsSeq2 PySem.MeetsSeq3
end
section
variable {prog : Program} {w : World} {A : Around} {E : Value → Shared → Prop} {s : Shared}
theorem cat_tup {t b : Addr} {vs ws : List Value} {Q : Value → Shared → Prop} (ht : IsTup s.heap t vs.toArray) (hb : IsTup s.heap b ws.toArray) (hv : vs ≠ [])
    (h1 : ws = [] → Q (.ref t) s) (h2 : ws ≠ [] → Q (.ref s.heap.objs.size) { s with heap := s.heap.push { cls := .type "tuple", data := .seq (vs ++ ws).toArray } })
    (hsz : vs.length + ws.length ≤ sizeLine) : wpAny (model prog w) A (binaryOp .Add (.ref t) (.ref b)) Q E s := by
  obtain ⟨⟨cls, dd, data, sl⟩, ho, hc, n, hd⟩ := id ht
  obtain ⟨⟨cls2, dd2, data2, sl2⟩, ho2, hc2, n2, hd2⟩ := id hb
  simp only at hc hd hc2 hd2
  subst hc hd hc2 hd2
  have e : vs.toArray ++ ws.toArray = (vs ++ ws).toArray := by simp
  by_cases hw : ws = []
  · exact concat_meets ⟨_, ho, rfl⟩ ⟨_, ho2, rfl⟩ noFill_tuple_add seq_tuple_add PySem.F.slot_tuple_add PySem.F.entry_tuple_add (PySem.F.args_tuple_add_2 _ _)
      (tuple_addW1 t b vs.toArray ws.toArray n n2 dd dd2 sl sl2 (by simpa using hv) (by simp [hw])) ⟨ho, ho2, h1 hw⟩
  · refine concat_meets ⟨_, ho, rfl⟩ ⟨_, ho2, rfl⟩ noFill_tuple_add seq_tuple_add PySem.F.slot_tuple_add PySem.F.entry_tuple_add (PySem.F.args_tuple_add_2 _ _)
      (tuple_addW2 t b vs.toArray ws.toArray n n2 dd dd2 sl sl2 (by simpa using hv) (by simpa using hw) (by rw [List.size_toArray, List.size_toArray]; exact hsz)) ⟨ho, ho2, ?_⟩
    rw [e]
    exact h2 hw
noncomputable def sIx (n d : Nat) : Option Int → Nat
  | none => d
  | some v => if v < 0 then (v + (n : Int)).toNat else min v.toNat n
theorem sIx_le (n d : Nat) (hd : d ≤ n) (o : Option Int) : sIx n d o ≤ n := by
  cases o with
  | none => exact hd
  | some v =>
    show (if v < 0 then (v + (n : Int)).toNat else min v.toNat n) ≤ n
    by_cases hv : v < 0
    · rw [if_pos hv]; omega
    · rw [if_neg hv]; exact Nat.min_le_right _ _
theorem clip_eq (v : Int) (n d : Nat) : (if v < 0 then max (v + (n : Int)) 0 else min v (n : Int)) = ((sIx n d (some v) : Nat) : Int) := by
  show (if v < 0 then max (v + (n : Int)) 0 else min v (n : Int)) = (((if v < 0 then (v + (n : Int)).toNat else min v.toNat n) : Nat) : Int)
  by_cases hv : v < 0
  · simp only [if_pos hv]; omega
  · simp only [if_neg hv]; omega
theorem adjust_gen (lo hi : Option Int) (n : Nat) : Builtin.Slice.sliceAdjust lo hi 1 (n : Int) = (((sIx n 0 lo : Nat) : Int), ((sIx n n hi : Nat) : Int)) := by
  have h1 : ¬ ((1 : Int) < 0) := by omega
  unfold Builtin.Slice.sliceAdjust
  simp only [h1, if_false]
  refine Prod.ext ?_ ?_
  · cases lo with
    | none => rfl
    | some v => exact clip_eq v n 0
  · cases hi with
    | none => rfl
    | some v => exact clip_eq v n n
theorem places_gen (i j : Nat) : Builtin.Slice.slicePlaces (i : Int) (j : Int) 1 = j - i := by
  unfold Builtin.Slice.slicePlaces
  have h1 : (1 : Int) > 0 := by omega
  simp only [h1, if_true, Int.ediv_one]
  split <;> omega
theorem slicePart_ {v : Value} {o : Option Int} {Q : Option Int → Shared → Prop} (p : IsPart v o) (h : Q o s) : wpAny (model prog w) A (Builtin.Slice.slicePartIndex v) Q E s := by
  cases p with
  | none => exact slicePart_none h
  | int i t => exact slicePart_int h
theorem sliceApplied_gen {sl : Addr} {vl vu : Value} {lo hi : Option Int} {n : Nat} {Q : Int × Int × Nat → Shared → Prop} (hs : s.heap.IsSliceOf sl vl vu .none) (pl : IsPart vl lo) (pu : IsPart vu hi)
    (h : Q (((sIx n 0 lo : Nat) : Int), 1, sIx n n hi - sIx n 0 lo) s) : wpAny (model prog w) A (Builtin.Slice.sliceApplied (.ref sl) (pure (n : Int))) Q E s := by
  obtain ⟨os, hos, hcs, hds⟩ := id hs
  unfold Builtin.Slice.sliceApplied Builtin.Slice.sliceFields
  refine wpAny_bind (wpAny_bind (wpAny_field hos hds (x := vl) rfl (wpAny_bind (wpAny_field hos hds (x := vu) rfl (wpAny_bind (wpAny_field hos hds (x := .none) rfl (wpAny_pure ?_)))))))
  refine wpAny_bind (slicePart_none ?_)
  show wpAny _ _ (if ((1 : Int) == 0) = true then _ else _) _ _ s
  rw [if_neg (by decide)]
  refine wpAny_bind (slicePart_ pl (wpAny_bind (slicePart_ pu (wpAny_bind (wpAny_pure ?_)))))
  show wpAny _ _ (match Builtin.Slice.sliceAdjust lo hi 1 (n : Int) with | (lo, hi) => pure (lo, (1 : Int), Builtin.Slice.slicePlaces lo hi 1)) _ _ s
  rw [adjust_gen lo hi n]
  show wpAny _ _ (pure (((sIx n 0 lo : Nat) : Int), (1 : Int), Builtin.Slice.slicePlaces ((sIx n 0 lo : Nat) : Int) ((sIx n n hi : Nat) : Int) 1)) _ _ s
  rw [places_gen]
  exact wpAny_pure h
theorem pick_gen (xs : Array Value) (i k : Nat) : ((List.range k).filterMap fun (m : Nat) => xs[((i : Int) + (m : Int) * 1).toNat]?).toArray = ((xs.toList.drop i).take k).toArray := by
  have e : (fun (m : Nat) => xs[((i : Int) + (m : Int) * 1).toNat]?) = fun m => xs[i + m]? := by
    funext m
    have : ((i : Int) + (m : Int) * 1).toNat = i + m := by omega
    rw [this]
  rw [e]
  have := pick_run xs i k
  rw [List.filterMap_map] at this
  have e2 : ((fun x => xs[x]?) ∘ fun x => i + x) = fun m => xs[i + m]? := rfl
  rw [e2] at this
  rw [this]
theorem getItem_tuple_cut {t sl : Addr} {items : Array Value} {vl vu : Value} {lo hi : Option Int} {Q : Value → Shared → Prop} (ht : IsTup s.heap t items) (hs : s.heap.IsSliceOf sl vl vu .none) (pl : IsPart vl lo) (pu : IsPart vu hi)
    (hw : ¬ (sIx items.size 0 lo = 0 ∧ sIx items.size items.size hi = items.size))
    (h : Q (.ref s.heap.objs.size) { s with heap := s.heap.push { cls := .type "tuple", data := .seq ((items.toList.drop (sIx items.size 0 lo)).take (sIx items.size items.size hi - sIx items.size 0 lo)).toArray } })
    (hsz : items.size ≤ sizeLine) : wpAny (model prog w) A (getItem (.ref t) (.ref sl)) Q E s := by
  have htake : sizeOk (.seq ((items.toList.drop (sIx items.size 0 lo)).take (sIx items.size items.size hi - sIx items.size 0 lo)).toArray) := by
    show ((items.toList.drop (sIx items.size 0 lo)).take (sIx items.size items.size hi - sIx items.size 0 lo)).toArray.size ≤ sizeLine
    rw [List.size_toArray, List.length_take, List.length_drop, Array.length_toList]
    omega
  have hj : sIx items.size items.size hi ≤ items.size := sIx_le _ _ (Nat.le_refl _) hi
  obtain ⟨os, hos, hcs, hds⟩ := id hs
  have hTs : s.TypeIs (.ref sl) "slice" := ⟨os, hos, hcs⟩
  unfold getItem
  try with_reducible refine wpAny_holding ?_
  first | refine wpAny_bind (wpAny_pure ?_) | skip
  refine wpAny_bind (wpAny_sequenceKey ht.typeIs (by decide) ?_)
  refine wpAny_bind (wpAny_callSpecial?_slot (name := Str.ofString "__getitem__") ht.typeIs PyProof.Rows.slot_tuple_getitem
    (wpAny_call_entry PyProof.Rows.slot_tuple_getitem ht.typeIs entry_tuple_getitem ?_ (args_tuple_getitem _ _)))
  show wpAny _ _ (Builtin.Tuple.tupleItemsOf (.ref t) >>= _) _ _ s
  refine wpAny_bind (tupleItemsOf_ ht ?_)
  refine wpAny_bind (wpAny_typeOf hTs ?_)
  rw [if_pos (by decide)]
  refine wpAny_bind (sliceApplied_gen hs pl pu ?_)
  have hno : ¬ ((((sIx items.size 0 lo : Nat) : Int) == 0 && (1 : Int) == 1 && (sIx items.size items.size hi - sIx items.size 0 lo) == items.size) = true) := by
    intro q
    rw [Bool.and_eq_true, Bool.and_eq_true] at q
    have q1 : ((sIx items.size 0 lo : Nat) : Int) = 0 := eq_of_beq q.1.1
    have q2 : sIx items.size items.size hi - sIx items.size 0 lo = items.size := eq_of_beq q.2
    exact hw ⟨by omega, by omega⟩
  show wpAny _ _ (if (((sIx items.size 0 lo : Nat) : Int) == 0 && (1 : Int) == 1 && (sIx items.size items.size hi - sIx items.size 0 lo) == items.size) = true then _ else _) _ _ s
  rw [if_neg hno, pick_gen]
  first
    | exact wpAny_bind (m := Builtin.Tuple.tupleExact _) (wpAny_newObj_type (wpAny_pure ⟨_, rfl, wpAny_pure h⟩) htake)
    | exact wpAny_bind (m := Builtin.Tuple.tupleExact _) (wpAny_newObj_type (wpAny_bind (wpAny_pure (wpAny_pure ⟨_, rfl, wpAny_pure h⟩))) htake)
    | exact wpAny_bind (wpAny_bind (m := Builtin.Tuple.tupleExact _) (wpAny_newObj_type (wpAny_pure (wpAny_pure ⟨_, rfl, wpAny_pure h⟩)) htake))
    | exact wpAny_bind (wpAny_bind (m := Builtin.Tuple.tupleExact _) (wpAny_newObj_type (wpAny_pure ⟨_, rfl, wpAny_pure h⟩) htake))
end
end HT
namespace L2
open PySem PySem.Spec PyProof.Rows
noncomputable abbrev TO := St → Hp → (Option Int → Hp → Prop) → Prop
noncomputable def PO (X : Cx) (e : Option Expr) (t : TO) : Prop :=
  ∀ (pins : List (Addr × Obj)) (s : Shared) (σ : St) (H : Hp) (Q : Option Int → Hp → Prop), Inv X pins σ H s → t σ H Q →
    wpAny (model X.prog X.w) X.A (evalPart e X.env) (fun u s' => ∃ o H', Inv X pins σ H' s' ∧ IsPart u o ∧ Q o H') X.xe s
noncomputable def tNoPart : TO := fun _ H Q => Q none H
noncomputable def tPart (t : TE) : TO := fun σ H Q => t σ H fun x H1 => ∃ i, x = .int i ∧ Q (some i) H1
theorem intsAre_of {ns : List Int} : ∀ {us : List Value}, Vals (ns.map V.int) us → IntsAre us ns := by
  induction ns with
  | nil => intro us r; rw [List.map_nil] at r; cases r; exact .nil
  | cons n ns ih =>
    intro us r
    rw [List.map_cons] at r
    cases r with
    | cons r1 r2 =>
      obtain ⟨t, e⟩ := r1
      subst e
      exact .cons n t (ih r2)
section
variable {X : Cx} {e : Expr} {te : TE} {lo hi : Option Expr} {tl th : TO} {pos p2 : Pos}
theorem po_none : PO X none tNoPart := by
  intro pins s σ H Q I h
  rw [evalPart_none]
  exact wpAny_pure ⟨none, H, I, .none, h⟩
theorem po_some (h : PE X e te) : PO X (some e) (tPart te) := by
  intro pins s σ H Q I hw
  rw [evalPart_some]
  refine thn (h pins s σ H _ I hw) fun u s1 ⟨x, H1, I1, r1, q1⟩ => ?_
  obtain ⟨i, rfl, q⟩ := q1
  obtain ⟨t, rfl⟩ := r1
  exact ⟨some i, H1, I1, .int i t, q⟩
noncomputable def SlR (X : Cx) (r : V → Option Int → Option Int → Hp → VK → Prop) : Prop :=
  ∀ (pins : List (Addr × Obj)) (s : Shared) (σ : St) (H : Hp) (x : V) (v vl vu : Value) (lo hi : Option Int) (sl : Addr) (Q : VK), Inv X pins σ H s → RelV x v → s.heap.IsSliceOf sl vl vu .none → IsPart vl lo → IsPart vu hi → r x lo hi H Q →
    ∃ T id, typeLookup (.type T) "__getitem__" = pure (some (.builtin id)) ∧ s.TypeIs v T ∧ wpAny (model X.prog X.w) X.A (getItem v (.ref sl)) (EP X pins σ Q) X.xe s
theorem SlR.or {r r' : V → Option Int → Option Int → Hp → VK → Prop} (h : SlR X r) (h' : SlR X r') : SlR X (fun x lo hi H Q => r x lo hi H Q ∨ r' x lo hi H Q) := by
  intro pins s σ H x v vl vu lo hi sl Q I rx hs pl pu q
  rcases q with q | q
  · exact h pins s σ H x v vl vu lo hi sl Q I rx hs pl pu q
  · exact h' pins s σ H x v vl vu lo hi sl Q I rx hs pl pu q
noncomputable def tSl (r : V → Option Int → Option Int → Hp → VK → Prop) (te : TE) (tl th : TO) : TE := fun σ H Q => te σ H fun x H1 => tl σ H1 fun l H2 => th σ H2 fun u H3 => r x l u H3 Q
theorem pe_slice {r : V → Option Int → Option Int → Hp → VK → Prop} (hr : SlR X r) (he : PE X e te) (hl : PO X lo tl) (hu : PO X hi th) : PE X (.Subscript e (.Slice lo hi none p2) pos) (tSl r te tl th) := by
  intro pins s σ H Q I h
  refine Subscript_ (thn (he pins s σ H _ I h) fun v s1 ⟨x, H1, I1, r1, q1⟩ => ?_)
  refine wpAny_Slice (thn (hl pins s1 σ H1 _ I1 q1) fun vl s2 ⟨l, H2, I2, pl, q2⟩ => thn (hu pins s2 σ H2 _ I2 q2) fun vu s3 ⟨u, H3, I3, pu, q3⟩ => ?_)
  rw [evalPart_none]
  refine wpAny_pure ?_
  have I4 : Inv X pins σ H3 { s3 with heap := s3.heap.push { cls := .type "slice", data := .fields #[vl, vu, .none] } } := I3.kept (t' := s3.toks) fun b ob q => Heap.get?_push_of_some _ q
  obtain ⟨T, id, hT, ht, hg⟩ := hr pins { s3 with heap := s3.heap.push { cls := .type "slice", data := .fields #[vl, vu, .none] } } σ H3 x v vl vu l u s3.heap.objs.size Q I4 r1 (Heap.IsSliceOf.new ..) pl pu q3
  show wpAny (model X.prog X.w) X.A (subscriptTail e (.Slice lo hi none p2) v (.ref s3.heap.objs.size)) (EP X pins σ Q) X.xe { s3 with heap := s3.heap.push { cls := .type "slice", data := .fields #[vl, vu, .none] } }
  exact tail_any (ops := [.ref s3.heap.objs.size, v]) ht hT hg (by with_unfolding_all rfl)
noncomputable def cutV (xs : List V) (lo hi : Option Int) : List V := (xs.drop (HT.sIx xs.length 0 lo)).take (HT.sIx xs.length xs.length hi - HT.sIx xs.length 0 lo)
theorem cutV_length (xs : List V) (lo hi : Option Int) : (cutV xs lo hi).length ≤ xs.length := by
  unfold cutV
  rw [List.length_take, List.length_drop]
  omega
noncomputable def rSlT (K : PySem.W.Frag) : V → Option Int → Option Int → Hp → VK → Prop := fun x lo hi H Q => ∃ a xs, x = .ref a ∧ SqT K H a xs ∧
  ¬ (HT.sIx xs.length 0 lo = 0 ∧ HT.sIx xs.length xs.length hi = xs.length) ∧ ∀ p, H p = none → Q (.ref p) (upd H p (.tup (cutV xs lo hi)))
theorem sl_tup : SlR X (rSlT X.K) := by
  intro pins s σ H x v vl vu lo hi sl Q I rx hs pl pu h
  obtain ⟨a, xs, rfl, hx, hw, q⟩ := h
  cases rx
  obtain ⟨its, r, ht, hz⟩ := I.tuple hx
  have hlen : its.toArray.size = xs.length := by rw [List.size_toArray]; exact r.length.symm
  refine ⟨"tuple", _, PyProof.Rows.slot_tuple_getitem.lookup, ht.typeIs, ?_⟩
  refine HT.getItem_tuple_cut ht hs pl pu (by rw [hlen]; exact hw) ?_ (by rw [hlen]; exact hz)
  rw [hlen]
  refine ⟨.ref s.heap.objs.size, _, I.laid (t' := s.toks) (o := .tup (cutV xs lo hi)) (fun b ob q => Heap.get?_push_of_some _ q) (Nat.le_refl _) ?_, rfl, q _ (I.hok.fresh (Nat.le_refl _))⟩
  exact ⟨Nat.le_trans (cutV_length xs lo hi) hz, _, (r.drop (HT.sIx xs.length 0 lo)).take (HT.sIx xs.length xs.length hi - HT.sIx xs.length 0 lo), IsTuN.new _ _⟩
noncomputable def rCatT (K : PySem.W.Frag) : R2 := fun x y H Q => ∃ a b xs ys, x = .ref a ∧ y = .ref b ∧ SqT K H a xs ∧ SqT K H b ys ∧ xs ≠ [] ∧ xs.length + ys.length ≤ sizeLine ∧
  (ys = [] → Q (.ref a) H) ∧ (ys ≠ [] → ∀ p, H p = none → Q (.ref p) (upd H p (.tup (xs ++ ys))))
theorem Vals.nil_iff {xs : List V} {us : List Value} (r : Vals xs us) : us = [] ↔ xs = [] := by
  cases r with
  | nil => simp
  | cons _ _ => simp
theorem op_catT : OpR X (binaryOp .Add) (rCatT X.K) := by
  intro pins s σ H x y v u Q I rx ry h
  obtain ⟨a, b, xs, ys, rfl, rfl, ha, hb, hx, hz, q1, q2⟩ := h
  cases rx
  cases ry
  obtain ⟨its, r1, p1, _⟩ := I.tuple ha
  obtain ⟨its2, r2, p2, _⟩ := I.tuple hb
  refine HT.cat_tup p1 p2 (fun z => hx (r1.nil_iff.mp z)) (fun z => ⟨.ref a, H, I, rfl, q1 (r2.nil_iff.mp z)⟩) (fun z => ?_) (by rw [← r1.length, ← r2.length]; exact hz)
  refine ⟨.ref s.heap.objs.size, _, I.laid (t' := s.toks) (o := .tup (xs ++ ys)) (fun b ob q => Heap.get?_push_of_some _ q) (Nat.le_refl _) ?_, rfl, q2 (fun w => z (r2.nil_iff.mpr w)) _ (I.hok.fresh (Nat.le_refl _))⟩
  exact ⟨by rw [List.length_append]; exact hz, _, r1.append r2, IsTuN.new _ _⟩
end
end L2
namespace L2
open PySem PySem.Spec PyProof.Rows
noncomputable def ixN (n : Nat) (i : Int) : Option Nat := if 0 ≤ i then (if i < n then some i.toNat else none) else if -(n : Int) ≤ i then some (i + n).toNat else none
noncomputable def atI {α : Type} (xs : List α) (i : Int) : Option α := (ixN xs.length i).bind fun j => xs[j]?
theorem ixN_seq {n : Nat} {i : Int} {j : Nat} (h : ixN n i = some j) : seqIndex? i n = some j ∧ j < n ∧ -(n : Int) ≤ i ∧ i < n := by
  unfold ixN at h
  by_cases h0 : 0 ≤ i
  · rw [if_pos h0] at h
    by_cases h1 : i < n
    · rw [if_pos h1] at h
      have e : i.toNat = j := Option.some.inj h
      exact ⟨by rw [seqIndex_of h0 h1, e], by omega, by omega, h1⟩
    · rw [if_neg h1] at h; cases h
  · rw [if_neg h0] at h
    by_cases h1 : -(n : Int) ≤ i
    · rw [if_pos h1] at h
      have e : (i + n).toNat = j := Option.some.inj h
      exact ⟨by rw [seqIndex_neg (by omega) h1, e], by omega, h1, by omega⟩
    · rw [if_neg h1] at h; cases h
theorem atI_get {α : Type} {xs : List α} {i : Int} {v : α} (h : atI xs i = some v) : ∃ j, seqIndex? i xs.length = some j ∧ xs[j]? = some v ∧ j < xs.length ∧ -(xs.length : Int) ≤ i ∧ i < xs.length := by
  unfold atI at h
  cases e : ixN xs.length i with
  | none => rw [e] at h; cases h
  | some j =>
    rw [e] at h
    obtain ⟨h1, h2, h3, h4⟩ := ixN_seq e
    exact ⟨j, h1, h, h2, h3, h4⟩
theorem atI_nat {α : Type} {xs : List α} {j : Nat} {v : α} (h : xs[j]? = some v) : atI xs (j : Int) = some v := by
  have hj : j < xs.length := (List.getElem?_eq_some_iff.mp h).1
  have e : ixN xs.length (j : Int) = some j := by
    unfold ixN
    rw [if_pos (by omega), if_pos (by omega)]; simp
  unfold atI; rw [e]; exact h
noncomputable def PlainIx (b : Expr) : Prop := ∀ o i, subscripted b false o i = operate [o, i] (getItem o i)
noncomputable def IxR (X : Cx) (r : R2) : Prop :=
  ∀ (value slice : Expr) (pins : List (Addr × Obj)) (s : Shared) (σ : St) (H : Hp) (x y : V) (v u : Value) (Q : VK), Inv X pins σ H s → RelV x v → RelV y u → r x y H Q →
    subscripted slice false v u = operate [v, u] (getItem v u) → wpAny (model X.prog X.w) X.A (subscriptTail value slice v u) (EP X pins σ Q) X.xe s
noncomputable def MtR (X : Cx) (id : String) (r : V → List V → Hp → VK → Prop) : Prop :=
  ∀ (pins : List (Addr × Obj)) (s : Shared) (σ : St) (H : Hp) (x : V) (xs : List V) (v : Value) (us : List Value) (Q : VK), Inv X pins σ H s → RelV x v → Vals xs us → r x xs H Q →
    wpAny (model X.prog X.w) X.A (call (.builtin id) (v :: us)) (EP X pins σ Q) X.xe s
section
variable {X : Cx} {a b : Expr} {ta tb : TE} {pos : Pos}
theorem IxR.or {r r' : R2} (h : IxR X r) (h' : IxR X r') : IxR X (fun x y H Q => r x y H Q ∨ r' x y H Q) := by
  intro value slice pins s σ H x y v u Q I rx ry q hs
  rcases q with q | q
  · exact h value slice pins s σ H x y v u Q I rx ry q hs
  · exact h' value slice pins s σ H x y v u Q I rx ry q hs
theorem MtR.or {id : String} {r r' : V → List V → Hp → VK → Prop} (h : MtR X id r) (h' : MtR X id r') : MtR X id (fun x xs H Q => r x xs H Q ∨ r' x xs H Q) := by
  intro pins s σ H x xs v us Q I rx rs q
  rcases q with q | q
  · exact h pins s σ H x xs v us Q I rx rs q
  · exact h' pins s σ H x xs v us Q I rx rs q
theorem pe_ix {r : R2} (hr : IxR X r) (ha : PE X a ta) (hb : PE X b tb) (hs : PlainIx b) : PE X (.Subscript a b pos) (tOp r ta tb) := by
  intro pins s σ H Q I h
  exact Subscript_ (binT ha hb I h fun v u s2 x y H2 I2 rx ry q => hr a b pins s2 σ H2 x y v u Q I2 rx ry q (hs _ _))
noncomputable def rIxL (K : PySem.W.Frag) : R2 := fun x y H Q => ∃ p xs i v, x = .ref p ∧ y = .int i ∧ SqL K H p xs ∧ atI xs i = some v ∧ Q v H
noncomputable def rIxT (K : PySem.W.Frag) : R2 := fun x y H Q => ∃ p xs i v, x = .ref p ∧ y = .int i ∧ SqT K H p xs ∧ atI xs i = some v ∧ Q v H
theorem ix_list : IxR X (rIxL X.K) := by
  intro value slice pins s σ H x y v u Q I rx ry h hs
  obtain ⟨p, xs, i, z, rfl, rfl, hq, he, q⟩ := h
  cases rx
  obtain ⟨t, rfl⟩ := ry
  obtain ⟨its, r, pl, hz⟩ := I.list hq
  obtain ⟨j, h1, h2, h3, h4, h5⟩ := atI_get he
  obtain ⟨w, ew, rw'⟩ := r.get h2
  have hl := r.length
  have hn := line63
  have fin : EP X pins σ Q w s := ⟨z, H, I, rw', q⟩
  by_cases h0 : 0 ≤ i
  · have hj : i.toNat = j := by
      rw [seqIndex_of h0 h5] at h1
      exact Option.some.inj h1
    exact item_listR pl.isList h0 (by omega) (by rw [hj]; simpa using ew) fin hs
  · have hj : (i + (its.toArray.size : Int)).toNat = j := by
      rw [seqIndex_neg (by omega) h4] at h1
      rw [List.size_toArray, ← hl]
      exact Option.some.inj h1
    exact subscriptTail_builtinR (x := w) pl.isList.typeIs slot_list_getitem.lookup
      (wpAny_getItem_list_neg (Q := fun r s' => r = w ∧ EP X pins σ Q r s') pl.isList (by omega) (by rw [List.size_toArray] <;> omega) (by omega) (by rw [hj]; simpa using ew) ⟨rfl, fin⟩) hs
theorem ix_tup : IxR X (rIxT X.K) := by
  intro value slice pins s σ H x y v u Q I rx ry h hs
  obtain ⟨p, xs, i, z, rfl, rfl, hq, he, q⟩ := h
  cases rx
  obtain ⟨t, rfl⟩ := ry
  obtain ⟨its, r, pl, hz⟩ := I.tuple hq
  obtain ⟨j, h1, h2, h3, h4, h5⟩ := atI_get he
  obtain ⟨w, ew, rw'⟩ := r.get h2
  have hl := r.length
  have hn := line63
  have fin : EP X pins σ Q w s := ⟨z, H, I, rw', q⟩
  exact subscriptTail_builtinR (x := w) pl.typeIs slot_tuple_getitem.lookup
    (getItem_tuple (j := j) (Q := fun r s' => r = w ∧ EP X pins σ Q r s') pl (by omega) (by omega) (by rw [List.size_toArray, ← hl]; exact h1) (by simpa using ew) ⟨rfl, fin⟩) hs
theorem Inv.lst {pins : List (Addr × Obj)} {σ : St} {H : Hp} {s : Shared} {p : Addr} {xs : List V} (I : Inv X pins σ H s) (h : H p = some (.lst xs)) :
    ∃ (its : List Value) (n : Nat), Vals xs its ∧ s.heap.get? p = some { cls := .type "list", data := .seq its.toArray n } ∧ xs.length ≤ sizeLine := by
  obtain ⟨z, its, n, r, e⟩ := I.hok p _ h
  exact ⟨its, n, r, e, z⟩
theorem slice_bounds (lo hi : Option Int) (n : Nat) : (sliceBounds lo hi none n).1 = ((HT.sIx n 0 lo : Nat) : Int) ∧ (sliceBounds lo hi none n).2.1 = ((HT.sIx n n hi : Nat) : Int) ∧ (sliceBounds lo hi none n).2.2 = 1 := by
  refine ⟨?_, ?_, rfl⟩
  · cases lo with
    | none => simp [sliceBounds, HT.sIx]
    | some i =>
      simp only [sliceBounds, HT.sIx, Option.getD_none, show (1 : Int) > 0 by decide, if_true]
      by_cases h : i < 0
      · simp only [h, if_true] <;> omega
      · simp only [h, if_false] <;> omega
  · cases hi with
    | none => simp [sliceBounds, HT.sIx]
    | some i =>
      simp only [sliceBounds, HT.sIx, Option.getD_none, show (1 : Int) > 0 by decide, if_true]
      by_cases h : i < 0
      · simp only [h, if_true] <;> omega
      · simp only [h, if_false] <;> omega
theorem slicePick_cut (its : List Value) (lo hi : Option Int) : slicePick its.toArray lo hi none = ((its.drop (HT.sIx its.length 0 lo)).take (HT.sIx its.length its.length hi - HT.sIx its.length 0 lo)).toArray := by
  obtain ⟨h1, h2, h3⟩ := slice_bounds lo hi its.toArray.size
  unfold slicePick
  rw [h1, h2, h3]
  simp only [sliceRange_one, pick_run, List.size_toArray] <;> rfl
noncomputable def rSlL (K : PySem.W.Frag) : V → Option Int → Option Int → Hp → VK → Prop := fun x lo hi H Q => ∃ a xs, x = .ref a ∧ SqL K H a xs ∧ ∀ p, H p = none → Q (.ref p) (upd H p (.lst (cutV xs lo hi)))
theorem sl_list : SlR X (rSlL X.K) := by
  intro pins s σ H x v vl vu lo hi sl Q I rx hs pl pu h
  obtain ⟨a, xs, rfl, hx, q⟩ := h
  cases rx
  obtain ⟨its, r, ht, hz⟩ := I.list hx
  have hlen := r.length
  refine ⟨"list", _, slot_list_getitem.lookup, ht.isList.typeIs, ?_⟩
  refine wpAny_getItem_list_slice ht.isList hs pl pu .none (by simp) ?_ (by rw [List.size_toArray] <;> omega)
  rw [slicePick_cut, ← hlen]
  refine ⟨.ref s.heap.objs.size, _, I.laid (t' := s.toks) (o := .lst (cutV xs lo hi)) (fun b ob q => Heap.get?_push_of_some _ q) (Nat.le_refl _) ?_, rfl, q _ (I.hok.fresh (Nat.le_refl _))⟩
  exact ⟨Nat.le_trans (cutV_length xs lo hi) hz, _, 0, (r.drop (HT.sIx xs.length 0 lo)).take (HT.sIx xs.length xs.length hi - HT.sIx xs.length 0 lo), Heap.get?_push_size _ rfl⟩
theorem call_len_seq : CallR X (.builtin "len") (fun xs H Q => ∃ p ys, xs = [.ref p] ∧ (SqL X.K H p ys ∨ SqT X.K H p ys) ∧ Q (.int ys.length) H) := by
  intro pins s σ H xs us Q I r h
  obtain ⟨p, ys, rfl, hq, q⟩ := h
  obtain ⟨u, rfl, rx⟩ := vals1 r
  cases rx
  have hn := line63
  rcases hq with hq | hq
  · obtain ⟨its, r', pl, hz⟩ := I.list hq
    have hlen := r'.length
    exact Calls.call_len_list pl.isList (by simp only [List.size_toArray] <;> omega) ⟨.int ys.length, H, I.tok _, ⟨s.toks + 1, by rw [List.size_toArray, hlen]⟩, q⟩
  · obtain ⟨its, r', pl, hz⟩ := I.tuple hq
    have hlen := r'.length
    exact len_tuple pl (by simp only [List.size_toArray] <;> omega) ⟨.int ys.length, H, I.tok _, ⟨s.toks + 1, by rw [List.size_toArray, hlen]⟩, q⟩
theorem call_len_str : CallR X (.builtin "len") (fun xs H Q => ∃ z, xs = [.str z] ∧ z.length ≤ sizeLine ∧ Q (.int z.length) H) := by
  intro pins s σ H xs us Q I r h
  obtain ⟨z, rfl, hz, q⟩ := h
  obtain ⟨u, rfl, t, rfl⟩ := vals1 r
  have hn := line63
  exact len_str (by omega) ⟨.int z.length, H, I.tok _, ⟨_, rfl⟩, q⟩
theorem CallR.or {f : Value} {r r' : List V → Hp → VK → Prop} (h : CallR X f r) (h' : CallR X f r') : CallR X f (fun xs H Q => r xs H Q ∨ r' xs H Q) := by
  intro pins s σ H xs us Q I rs q
  rcases q with q | q
  · exact h pins s σ H xs us Q I rs q
  · exact h' pins s σ H xs us Q I rs q
theorem call_list_of : CallR X (.type "list") (fun xs H Q => ∃ p ys, xs = [.ref p] ∧ (SqL X.K H p ys ∨ SqT X.K H p ys) ∧ ∀ l, H l = none → Q (.ref l) (upd H l (.lst ys))) := by
  intro pins s σ H xs us Q I r h
  obtain ⟨p, ys, rfl, hq, q⟩ := h
  obtain ⟨u, rfl, rx⟩ := vals1 r
  cases rx
  have fin : ∀ (its : List Value), Vals ys its → ys.length ≤ sizeLine → ∀ (h' : Heap) (c' : Nat), (∀ b o', s.heap.get? b = some o' → h'.get? b = some o') →
      h'.get? s.heap.objs.size = some { cls := .type "list", dict := none, data := .seq its.toArray c', slots := #[] } → EP X pins σ Q (.ref s.heap.objs.size) { s with heap := h' } := fun its r' hz h' c' kp e =>
    ⟨.ref s.heap.objs.size, _, I.laid (t' := s.toks) kp (Nat.le_refl _) (show ObjOk X.prog X.w _ h' _ (.lst ys) from ⟨hz, its, c', r', e⟩), rfl, q _ (I.hok.fresh (Nat.le_refl _))⟩
  rcases hq with hq | hq
  · obtain ⟨its, r', pl, hz⟩ := I.list hq
    have hlen := r'.length
    obtain ⟨o, ho, hc, n, hd⟩ := pl.isList
    exact call_list_seq p (.inl rfl) ho hc hd (fun h' c' kp e => fin its r' hz h' c' kp e) (by simp only [List.size_toArray] <;> omega)
  · obtain ⟨its, r', pl, hz⟩ := I.tuple hq
    have hlen := r'.length
    obtain ⟨o, ho, hc, n, hd⟩ := pl
    exact call_list_seq p (.inr rfl) ho hc hd (fun h' c' kp e => fin its r' hz h' c' kp e) (by simp only [List.size_toArray] <;> omega)
theorem call_tuple_of : CallR X (.type "tuple") (fun xs H Q => ∃ p ys, xs = [.ref p] ∧ ((SqL X.K H p ys ∧ ∀ l, H l = none → Q (.ref l) (upd H l (.tup ys))) ∨ (SqT X.K H p ys ∧ Q (.ref p) H))) := by
  intro pins s σ H xs us Q I r h
  obtain ⟨p, ys, rfl, h⟩ := h
  obtain ⟨u, rfl, rx⟩ := vals1 r
  cases rx
  rcases h with ⟨hq, q⟩ | ⟨hq, q⟩
  · obtain ⟨its, r', pl, hz⟩ := I.list hq
    have hlen := r'.length
    refine call_tuple_list pl.isList (fun h' kp => ?_) (by simp only [List.size_toArray] <;> omega)
    have I1 : Inv X pins σ H { s with heap := h' } := I.kept (t' := s.toks) kp
    have I2 : Inv X pins σ (upd H h'.objs.size (.tup ys)) { s with heap := h'.push { cls := .type "tuple", data := .seq its.toArray } } :=
      I1.laid (t' := s.toks) (fun b o e => Heap.get?_push_of_some _ e) (Nat.le_refl _) (show ObjOk X.prog X.w _ _ _ (.tup ys) from ⟨hz, its, r', IsTuN.new _ _⟩)
    exact ⟨.ref h'.objs.size, _, I2, rfl, q _ (I1.hok.fresh (Nat.le_refl _))⟩
  · obtain ⟨its, r', pl, hz⟩ := I.tuple hq
    exact call_tuple_same pl ⟨.ref p, H, I, rfl, q⟩
noncomputable def tyV (K : PySem.W.Frag) (T : String) (x : V) (H : Hp) : Prop := match x with
  | .str _ => T = "str"
  | .int _ => T = "int"
  | .ref p => (T = "list" ∧ ∃ xs, SqL K H p xs) ∨ (T = "tuple" ∧ ∃ o, K.lookup p = some o ∧ o.cls = .type "tuple" ∧ o.dict = none) ∨
      (T = "dict" ∧ ((∃ kvs, H p = some (.dK kvs)) ∨ ∃ kvs, H p = some (.dT kvs))) ∨ (T = "set" ∧ ∃ S n, H p = some (.set S n))
  | _ => False
theorem tyV_is {pins : List (Addr × Obj)} {σ : St} {H : Hp} {s : Shared} {T : String} {x : V} {v : Value} (I : Inv X pins σ H s) (r : RelV x v) (ty : tyV X.K T x H) :
    s.TypeIs v T ∧ ∀ a, v = .ref a → ∃ ob, s.heap.get? a = some ob ∧ ob.dict = none := by
  cases x with
  | str z =>
    obtain ⟨t, rfl⟩ := r
    cases (show T = "str" from ty)
    exact ⟨typeIs_str s z t, fun _ e => nomatch e⟩
  | int i =>
    obtain ⟨t, rfl⟩ := r
    cases (show T = "int" from ty)
    exact ⟨typeIs_int s i t, fun _ e => nomatch e⟩
  | ref p =>
    cases r
    rcases ty with ⟨rfl, xs, hq⟩ | ⟨rfl, o, hk, hc, hd⟩ | ⟨rfl, hk⟩ | ⟨rfl, S, n, hk⟩
    · obtain ⟨its, _, pl, _⟩ := I.list hq
      refine ⟨pl.isList.typeIs, fun a e => ?_⟩
      cases e
      obtain ⟨o, n, e, c, hd, _⟩ := pl
      exact ⟨o, e, hd⟩
    · refine ⟨⟨o, I.kIn p o hk, hc⟩, fun a e => ?_⟩
      cases e
      exact ⟨o, I.kIn _ o hk, hd⟩
    · have z : ∃ o, s.heap.get? p = some o ∧ o.ExactDict := by
        rcases hk with ⟨kvs, hk⟩ | ⟨kvs, hk⟩
        · obtain ⟨_, _, _, _, o, _, _, e, ex, _⟩ := I.hok p _ hk
          exact ⟨o, e, ex⟩
        · obtain ⟨_, _, _, _, o, _, _, e, ex, _⟩ := I.hok p _ hk
          exact ⟨o, e, ex⟩
      obtain ⟨o, e, ex⟩ := z
      refine ⟨⟨o, e, ex.1⟩, fun a e2 => ?_⟩
      cases e2
      exact ⟨o, e, ex.2.1⟩
    · obtain ⟨o, _, _, _, e, ex, _⟩ := I.hok p _ hk
      refine ⟨⟨o, e, ex.1⟩, fun a e2 => ?_⟩
      cases e2
      exact ⟨o, e, ex.2.1⟩
  | _ => exact False.elim ty
noncomputable def tBM (K : PySem.W.Frag) (T : String) (r : V → List V → Hp → VK → Prop) (to : TE) (t : TA) : TE := fun σ H Q => to σ H fun x H1 => tyV K T x H1 ∧ t σ H1 fun xs H2 => r x xs H2 Q
variable {o e : Expr} {es : List Expr} {to : TE} {t : TA} {name : Str} {apos cpos : Pos} {T id : String} {r : V → List V → Hp → VK → Prop}
theorem pe_bm (pa : PlainAttrs T) (slot : Slot T name id) (hty : typeOf (.builtin id) = pure (.type "method_descriptor")) (hm : MtR X id r) (ho : PE X o to) (ha : PA X (e :: es) t)
    (hbase : attributeBase o name X.env (eval o X.env) = eval o X.env := by rfl)
    (hfew : ((backTo cpos (starEach (e :: es) X.env)).all (fun x => !x.1) && (backToKw cpos (keywordEach [] X.env)).all (fun x => x.1.isSome)
      && decide ((e :: es).length + ([] : List Keyword).length + (if ([] : List Keyword).isEmpty then 0 else 1) < 30)) = true := by rfl)
    (hline : (apos.endLine == cpos.line) = true := by rfl) (hs : starEach (e :: es) X.env = (false, eval e X.env) :: starEach es X.env := by rfl) (hplain : (backTo cpos (starEach es X.env)).any (·.1) = false := by rfl) :
    PE X (.Call (.Attribute o name apos) (e :: es) [] cpos) (tBM X.K T r to t) := by
  intro pins s σ H Q I h
  refine wpAny_Call_method_late hbase hfew hline rfl (thn (ho pins s σ H _ I h) fun v s1 ⟨x, H1, I1, r1, ty, q1⟩ => ?_)
  obtain ⟨h1, h2⟩ := tyV_is I1 r1 ty
  refine ⟨T, id, pa, slot, hty, h1, h2, ?_⟩
  have hA := ha cpos pins s1 σ H1 _ I1 q1
  rw [hs] at hA ⊢
  refine Calls.callWith_builtin (by show (false || (backTo cpos (starEach es X.env)).any (·.1)) = false; rw [hplain] <;> rfl) (Calls.evalArgs_plain ?_)
  exact thn hA fun us s2 ⟨vs, H2, I2, r2, q2⟩ => hm pins s2 σ H2 x vs v us Q I2 r1 r2 q2
end
end L2
namespace L2
open PySem PySem.Spec PyProof.Rows
noncomputable def MtM (X : Cx) (id : String) (r : V → List V → Hp → VK → Prop) : Prop :=
  ∀ (pins : List (Addr × Obj)) (s : Shared) (σ : St) (H : Hp) (x : V) (xs : List V) (v : Value) (us : List Value) (Q : VK), Inv X pins σ H s → RelV x v → Vals xs us → r x xs H Q →
    wpAny (model X.prog X.w) X.A (call (.builtin id) (v :: us)) (EP X pins σ Q) X.xe s
theorem Vals.one : ∀ {x : V} {us : List Value}, Vals [x] us → ∃ u, us = [u] ∧ RelV x u
  | _, _, .cons r .nil => ⟨_, rfl, r⟩
theorem Vals.two : ∀ {x y : V} {us : List Value}, Vals [x, y] us → ∃ u v, us = [u, v] ∧ RelV x u ∧ RelV y v
  | _, _, _, .cons r (.cons q .nil) => ⟨_, _, rfl, r, q⟩
theorem Vals.zero : ∀ {us : List Value}, Vals [] us → us = []
  | _, .nil => rfl
theorem Vals.eraseIdx : ∀ {xs : List V} {us : List Value} (i : Nat), Vals xs us → Vals (xs.eraseIdx i) (us.eraseIdx i)
  | _, _, _, .nil => .nil
  | _, _, 0, .cons _ t => t
  | _, _, i + 1, .cons r t => .cons r (Vals.eraseIdx i t)
theorem Vals.reverse {xs : List V} {us : List Value} (h : Vals xs us) : Vals xs.reverse us.reverse := by
  induction h with
  | nil => exact .nil
  | cons r t ih => rw [List.reverse_cons, List.reverse_cons]; exact Vals.append ih (.cons r .nil)
theorem Vals.rep {xs : List V} {us : List Value} (h : Vals xs us) : ∀ k : Nat, Vals (List.replicate k xs).flatten (List.replicate k us).flatten
  | 0 => .nil
  | k + 1 => by
    rw [List.replicate_succ, List.replicate_succ, List.flatten_cons, List.flatten_cons]
    exact Vals.append h (Vals.rep h k)
theorem foldl_rep (its : List Value) : ∀ (k : Nat) (acc : List Value),
    List.foldl (fun x1 x2 => x1 ++ x2) acc.toArray (List.replicate k its.toArray) = (acc ++ (List.replicate k its).flatten).toArray
  | 0, acc => by simp
  | k + 1, acc => by
    have e : acc.toArray ++ its.toArray = (acc ++ its).toArray := by simp
    have e2 : (acc ++ its) ++ (List.replicate k its).flatten = acc ++ (List.replicate (k + 1) its).flatten := by
      rw [List.replicate_succ, List.flatten_cons, List.append_assoc]
    rw [← e2, ← foldl_rep its k (acc ++ its), ← e, List.replicate_succ, List.foldl_cons]
section
variable {X : Cx} {pins : List (Addr × Obj)} {σ : St} {H : Hp} {s : Shared} {l b : Addr} {xs ys zs : List V}
theorem Inv.lset {its its' : List Value} {n : Nat} {f : Array Value → Array Value} {t' : Nat} (I : Inv X pins σ H s) (hH : H l = some (.lst xs))
    (e : s.heap.get? l = some { cls := .type "list", data := .seq its.toArray n }) (hf : f its.toArray = its'.toArray) (hv : Vals ys its') (hz : ys.length ≤ sizeLine) :
    Inv X pins σ (upd H l (.lst ys)) { s with heap := s.heap.update l (Obj.mapSeq f), toks := t' } := by
  have q := PySem.IsL.update e f
  rw [hf] at q
  refine I.write (x := l) (e := l) (by rw [hH]; exact trivial) (.inl rfl) (fun b' u hb hu => (Heap.get?_update_other s.heap (Obj.mapSeq f) (Ne.symm hb)).trans hu) ⟨_, q⟩ ?_
  exact ⟨hz, its', _, hv, q⟩
theorem Inv.lnew {its : List Value} {t' : Nat} (I : Inv X pins σ H s) (hv : Vals ys its) (hz : ys.length ≤ sizeLine) :
    Inv X pins σ (upd H s.heap.objs.size (.lst ys)) { s with heap := s.heap.push { cls := .type "list", data := .seq its.toArray }, toks := t' } :=
  I.laid (fun _ _ q => Heap.get?_push_of_some _ q) (Nat.le_refl _) ⟨hz, its, 0, hv, Heap.get?_push_size _ rfl⟩
theorem Inv.fresh (I : Inv X pins σ H s) : H s.heap.objs.size = none := I.hok.fresh (Nat.le_refl _)
theorem Inv.lstM (I : Inv X pins σ H s) (hH : H l = some (.lst xs)) : xs.length ≤ sizeLine ∧ ∃ (its : List Value) (n : Nat), Vals xs its ∧ xs.length = its.length ∧ s.heap.get? l = some { cls := .type "list", data := .seq its.toArray n } := by
  obtain ⟨z, its, n, r, e⟩ := I.hok l _ hH
  exact ⟨z, its, n, r, r.length, e⟩
theorem notLongL {n : Nat} (h : n ≤ sizeLine) : Builtin.List.listTooLong n = false := by
  unfold Builtin.List.listTooLong
  exact decide_eq_false (by omega)
end
section
variable {X : Cx}
noncomputable def rAppend : V → List V → Hp → VK → Prop := fun x vs H Q => ∃ l xs y, x = .ref l ∧ vs = [y] ∧ H l = some (.lst xs) ∧ xs.length < sizeLine ∧ Q .non (upd H l (.lst (xs ++ [y])))
theorem mt_append : MtM X "list.append" rAppend := by
  intro pins s σ H x vs v us Q I rx rv h
  obtain ⟨l, xs, y, rfl, rfl, hH, hz, q⟩ := h
  cases rx
  obtain ⟨u, rfl, ru⟩ := rv.one
  obtain ⟨z, its, n, r, hl, e⟩ := I.lstM hH
  refine call_meets F.slot_list_append ⟨_, e, rfl⟩ F.entry_list_append (F.args_list_append_2 _ _) (PySem.list_append l its.toArray n u (by rw [List.size_toArray]; omega)) ⟨e, ?_⟩
  refine ⟨.non, _, I.lset (its' := its ++ [u]) hH e (by simp) (r.append (.cons ru .nil)) ?_, rfl, q⟩
  rw [List.length_append, List.length_singleton]
  omega
noncomputable def rCat : R2 := fun x y H Q => ∃ l b xs zs, x = .ref l ∧ y = .ref b ∧ H l = some (.lst xs) ∧ H b = some (.lst zs) ∧ xs.length + zs.length ≤ sizeLine ∧ ∀ p, H p = none → Q (.ref p) (upd H p (.lst (xs ++ zs)))
theorem op_cat : OpR X (binaryOp .Add) rCat := by
  intro pins s σ H x y v u Q I rx ry h
  obtain ⟨l, b, xs, zs, rfl, rfl, hH, hB, hz, q⟩ := h
  cases rx
  cases ry
  obtain ⟨z, its, n, r, hl, e⟩ := I.lstM hH
  obtain ⟨z2, its2, n2, r2, hl2, e2⟩ := I.lstM hB
  refine PySem.P.add_list e e2 ?_ (by rw [List.size_toArray, List.size_toArray]; omega)
  have ea : its.toArray ++ its2.toArray = (its ++ its2).toArray := by simp
  rw [ea]
  exact ⟨.ref _, _, I.lnew (t' := s.toks) (r.append r2) (by rw [List.length_append]; omega), rfl, q _ I.fresh⟩
noncomputable def rRep : R2 := fun x y H Q => ∃ l k xs, x = .ref l ∧ y = .int k ∧ H l = some (.lst xs) ∧ -(2 ^ 63) ≤ k ∧ k < 2 ^ 63 ∧ xs.length * k.toNat ≤ sizeLine ∧
  ∀ p, H p = none → Q (.ref p) (upd H p (.lst (List.replicate k.toNat xs).flatten))
theorem len_rep {α : Type} (xs : List α) (k : Nat) : (List.replicate k xs).flatten.length = k * xs.length := by
  induction k with
  | zero => simp
  | succ k ih => rw [List.replicate_succ, List.flatten_cons, List.length_append, ih, Nat.succ_mul, Nat.add_comm]
theorem op_rep : OpR X (binaryOp .Mult) rRep := by
  intro pins s σ H x y v u Q I rx ry h
  obtain ⟨l, k, xs, rfl, rfl, hH, h1, h2, hz, q⟩ := h
  cases rx
  obtain ⟨t, rfl⟩ := ry
  obtain ⟨z, its, n, r, hl, e⟩ := I.lstM hH
  have hlen : its.toArray.size * k.toNat ≤ sizeLine := by rw [List.size_toArray, ← hl]; exact hz
  have hcap : ¬ its.toArray.size * k.toNat > (2 ^ 63 - 1) / 8 := by
    have : (sizeLine : Nat) ≤ (2 ^ 63 - 1) / 8 := by decide
    omega
  have hfit : ¬ (!Builtin.List.listFitsIndex k) = true := by
    rw [fitsIndex_both h1 h2]
    exact Bool.false_ne_true
  have hlong : ¬ Builtin.List.listTooLong (its.toArray.size * k.toNat) = true := by
    rw [notLongL hlen]
    exact Bool.false_ne_true
  have hnew : List.foldl (fun x1 x2 => x1 ++ x2) #[] (List.replicate (if its.toArray.isEmpty = true then 0 else k.toNat) its.toArray) = (List.replicate k.toNat its).flatten.toArray := by
    have f0 : ∀ m : Nat, List.foldl (fun x1 x2 => x1 ++ x2) #[] (List.replicate m its.toArray) = (List.replicate m its).flatten.toArray := fun m => by
      have := foldl_rep its m []
      rw [List.nil_append] at this
      exact this
    rw [f0]
    cases its with
    | nil => simp
    | cons a r' => rw [if_neg (by simp)]
  refine wpAny_binaryOp_repeat_ref (T := "list") (U := "int") (by decide) ⟨_, e, rfl⟩ (fun s' => typeIs_int s' k t) noFill_list_mul F.fills_int_mul F.slot_int_rmul repeat_list F.slot_int_index.lookup
    (call_meets F.slot_int_rmul (typeIs_int s k t) F.entry_int_rmul (F.args_int_rmul_2 _ _) (int___rmul___int_list k t l its.toArray n)
      ⟨e, rfl, ⟨_, e, rfl⟩, call_meets F.slot_list_mul ⟨_, e, rfl⟩ F.entry_list_mul (F.args_list_mul_2 _ _) (AutoListH.list___mul___list_int_3 l its.toArray n k t hfit hcap hlong) ⟨e, ?_⟩⟩)
  rw [hnew]
  exact ⟨.ref _, _, I.lnew (t' := s.toks) (r.rep k.toNat) (by rw [len_rep, Nat.mul_comm]; exact hz), rfl, q _ I.fresh⟩
end
section
variable {prog : Program} {w : World} {A : Around} {E : Value → Shared → Prop} {s : Shared}
set_option maxRecDepth 100000 in
end
section
variable {X : Cx}
end
end L2
namespace Att
open PySem PySem.W PySem.Calls PyProof.Rows
theorem ints_of_wellAll {P : Params} {h : Heap} : ∀ (ns : List Int) (vs : List Value), WellAll P h vs (ns.map WData.int) → IntsAre vs ns := by
  intro ns
  induction ns with
  | nil =>
    intro vs w
    rw [List.map_nil] at w
    cases w
    exact .nil
  | cons n ns ih =>
    intro vs w
    rw [List.map_cons] at w
    cases w with
    | cons a b =>
      cases a
      exact .cons _ _ (ih _ b)
theorem script_of {l : OpenLaw} {n : Nat} (hn : l.most = some n) {P : Params} {h : Heap} {args : List WData} {vals : List Value}
    (hpre : l.row.toRowW.claim.pre args = true) (hwl : WellAll P h vals args) :
    ∃ a vs ns, vals = [Value.ref a] ∧ args = [WData.list (ns.map WData.int)] ∧ h.get? a = some { cls := .type "list", data := .seq vs.toArray } ∧ IntsAre vs ns ∧ ns.length ≤ n := by
  have hsh : WShape.hasAll [] args [.list .int] = true := (pre_splitW hpre).1
  have hc : l.pre.holds [] { args := args } = true := (pre_splitW hpre).2
  obtain ⟨d, r, rfl, h1, h2⟩ := hasAllW_cons hsh
  obtain rfl := hasAllW_nil h2
  obtain ⟨xs, rfl, h3⟩ := hasW_list h1
  obtain ⟨ns, rfl⟩ := items_int h3
  have hlen : ns.length ≤ n := by
    unfold OpenLaw.pre at hc
    have h4 : (WTm.not (.lt (.lit (.int (n : Int))) (.len (.arg 0)))).holds [] { args := [.list (ns.map .int)] } = true := by
      have h4 := (holds_andW hc).1
      rw [hn] at h4
      exact h4
    have h5 := condW_of h4 (w_not (w_lt w_lit (w_len_list (w_arg rfl))))
    rw [List.length_map] at h5
    refine Nat.le_of_not_lt fun q => ?_
    have q' : (n : Int) < ((ns.length : Nat) : Int) := by omega
    first
      | (rw [decide_eq_true q'] at h5; exact absurd h5 (by decide))
      | (simp at h5; omega)
  cases hwl with
  | cons w1 w2 =>
    cases w2
    cases w1 with
    | list ho hall => exact ⟨_, _, ns, rfl, rfl, ho, ints_of_wellAll ns _ hall, hlen⟩
theorem post_true (l : OpenLaw) (args : List WData) : l.row.toRowW.claim.post args (.bool true) args = true :=
  postW_of (r := l.row.toRowW) (X := (true == true))
    (show WShape.has [] (.bool true) .bool = true by first | rfl | decide | simp [WShape.has, WShape.arms, WShape.armsAll])
    (show (WTm.eq .res (.lit (.bool true))).value [] { args := args, res := some (.bool true), after := args } = some (.bool (true == true)) from w_eq_bool (w_res rfl) w_lit) rfl
theorem attach_call {l : OpenLaw} {n : Nat} {q : Program} {loose : List Str} {XP : (Str → Option Value) → Heap → Prop} {YP : World → Heap → Prop} {d : DefRec}
    (hn : l.most = some n) (hdf : d.params.defaults = [])
    (call : ∀ (w : World) (s₀ s₁ : Shared) (mg mb : Str → Option Value) (fa : Addr) (o : Obj) (pm cd doc : Value) (a : Addr) (vs : List Value) (ns : List Int),
      Ground q loose [] XP w s₀ mg mb s₁.heap → YP w s₁.heap →
      s₁.heap.get? fa = some o → o.data = .func (docDef d.name d.params d.body d.scope pm cd doc) → s₁.heap.CodeRec cd d.name → mg d.name = some (.ref fa) →
      s₁.heap.get? a = some { cls := .type "list", data := .seq vs.toArray } → IntsAre vs ns → ns.length ≤ n → s₁.gens = #[] →
      codeAny (model l.prog w) callerA (.call (.ref fa) ⟨[.ref a], []⟩) (fun r s' => r = .ok (.ret (.bool true)) ∧ OldK s₁.heap s'.heap ∧ s'.os = s₁.os ∧ AllBare s'.gens) s₁) :
    WalkO q loose XP YP l.row.toRowW d [] (fun f vs => PySem.call f vs) := by
  intro w s₀ s₁ mg mb G Y fa o pm cd doc dV kV ho hd hcd hD hmg hg args vals as hpre hlay hrd hwl hlo
  obtain rfl : dV = .none := Dflts.none hD hdf
  obtain rfl : kV = .none := Dflts.noKw hD
  obtain ⟨a, vs, ns, rfl, rfl, hobj, hints, hlen⟩ := script_of hn hpre hwl
  refine enter_call (codeAny_mono (call w s₀ s₁ mg mb fa o pm cd doc a vs ns G Y ho (fd_plain hd) hcd hmg hobj hints hlen hg) fun r s' hq => ?_)
  obtain ⟨rfl, h2, h3, h4⟩ := hq
  exact ⟨.inl ⟨.bool true, .bool true, [], rfl, fun _ => rfl, .bool true, post_true l _, fun _ => ⟨List.Pairwise.nil, fun _ hm => (nomatch hm)⟩⟩, h2, h3, h4⟩
section
variable {prog : Program} {w : World} {A : Around} {E : Value → Shared → Prop} {s : Shared} {K : Frag}
end
end Att
namespace L2
open PySem PySem.Spec PyProof.Rows
theorem vals_ints : ∀ {vs : List Value} {ns : List Int}, IntsAre vs ns → Vals (ns.map V.int) vs
  | _, _, .nil => .nil
  | _, _, .cons n t h => .cons ⟨t, rfl⟩ (vals_ints h)
noncomputable def Only (H : Hp) : Prop := ∀ b, H b = none ∨ ∃ o xs, H b = some (.frz o (.lst xs))
theorem law_call {P : Program} {w : World} {K : PySem.W.Frag} {mg mb : Str → Option Value} {CX : CXT} {k : Nat} {fa a : Addr} {fd : FuncData} {x : Str} {sp : Sp} {s₁ : Shared} {vs : List Value} {ns : List Int}
    (KX : K.In s₁.heap) (hns : s₁.heap.Ns mainGlobals mg) (hb : s₁.heap.Ns builtinsNs mb) (hbb : ∀ x : Str, x ≠ "__name__" → mb x = bootBuiltins x) (hlim : s₁.heap.NoLimit) (hg : s₁.gens = #[])
    (ha : s₁.heap.get? a = some { cls := .type "list", data := .seq vs.toArray }) (hi : IntsAre vs ns) (hl : ns.length ≤ sizeLine) (hr : Room k callerA)
    (F : ∀ base : Heap, K.In base → base.Ns mainGlobals mg → FnOk P w K mg base CX k fa fd [x] sp) (hbind : ∀ (s : Shared) (u : Value), BindsTo s fd ⟨[u], []⟩ [(x, u)])
    (hsp : ∀ H : Hp, Only H → SqL K H a (ns.map V.int) → sp [.ref a] H (fun v _ => v = .bl true) fun _ _ _ => False)
    (hCX : ∀ H e s', CX [] H s₁ (fun _ _ _ => False) e s' → False) :
    codeAny (model P w) callerA (.call (.ref fa) ⟨[.ref a], []⟩) (fun r s' => r = .ok (.ret (.bool true)) ∧ OldK s₁.heap s'.heap ∧ s'.os = s₁.os ∧ AllBare s'.gens) s₁ := by
  have rv := vals_ints hi
  have lenV := hi.length
  -- from an abstract heap in which nothing but the script may be tracked
  have core : ∀ H : Hp, Only H → SqL K H a (ns.map V.int) → HOk P w H s₁.heap → (∀ b, H b ≠ none → b = a) → (H a ≠ none → K.lookup a = none) →
      codeAny (model P w) callerA (.call (.ref fa) ⟨[.ref a], []⟩) (fun r s' => r = .ok (.ret (.bool true)) ∧ OldK s₁.heap s'.heap ∧ s'.os = s₁.os ∧ AllBare s'.gens) s₁ := by
    intro H hO hS hok hA hK
    have base_of : ∀ {b : Addr} {o : Obj}, s₁.heap.get? b = some o → H b = none → (hidT s₁.heap H).get? b = some o := fun e n => hidT_get e n
    have noA : ∀ {b : Addr} {o : Obj} {es : Array DictEntry} {ep : Nat}, s₁.heap.get? b = some o → o.data = .dict es ep → H b = none := fun {b o es ep} e d => by
      cases q : H b with
      | none => rfl
      | some u =>
        have e' : b = a := hA b (by rw [q]; simp)
        subst e'
        rw [ha] at e; cases e
        have d' : Data.seq vs.toArray _ = Data.dict es ep := d
        cases d'
    have nsK : ∀ {b : Addr} {m : Str → Option Value}, s₁.heap.Ns b m → (hidT s₁.heap H).Ns b m := fun {b m} ⟨o, es, ep, e, d, r⟩ => ⟨o, es, ep, base_of e (noA e d), d, r⟩
    have hKb : K.In (hidT s₁.heap H) := fun b o e => base_of (KX b o e) (by
      cases q : H b with
      | none => rfl
      | some u =>
        have e' : b = a := hA b (by rw [q]; simp)
        subst e'
        rw [hK (by rw [q]; simp)] at e; cases e)
    have hM : Mod K mg (hidT s₁.heap H) := ⟨hKb, nsK hns, ⟨mb, nsK hb, hbb⟩, let ⟨mc, h1, h2⟩ := hlim; ⟨mc, nsK h1, h2⟩⟩
    have e0 : Env0 P w K mg (hidT s₁.heap H) callerA [] s₁ H := ⟨rfl, hM, fun b o e => of_hidT e, Nat.le_of_eq (hidT_size _ _), trivial, fun b hb => absurd (show b ∈ ([] : List Addr) from hb) (by simp), hok, .of_eq hg⟩
    refine codeAny_mono ((F _ hKb (nsK hns)).run callerA [] s₁ H ⟨[.ref a], []⟩ [.ref a] [.ref a] _ _ hr e0 (hbind s₁ (.ref a)) (.cons rfl .nil) (hsp H hO hS)) fun r s' h => ?_
    cases r with
    | error e => exact (hCX H e s' h).elim
    | ok fl =>
      cases fl with
      | next => exact False.elim h
      | brk => exact False.elim h
      | cont => exact False.elim h
      | ret u =>
        obtain ⟨v, H', os, bare, un, hok', r', q⟩ := h
        have q' : v = .bl true := q
        subst q'
        obtain rfl : u = Value.bool true := r'
        refine ⟨rfl, OldK.of_keep fun b o e => ?_, os, bare⟩
        cases q : H b with
        | none => exact un.keep b o e q (by intro z; exact absurd (show b ∈ ([] : List Addr) from z) (by simp)) (by simp)
        | some u =>
          rcases hO b with z | ⟨ob, xs, z⟩
          · rw [q] at z; cases z
          · have z2 := un.frzs b ob _ z
            obtain ⟨e1, _⟩ := hok b _ z
            obtain ⟨e2, _⟩ := hok' b _ z2
            rw [e] at e1; cases e1
            exact e2
  cases hk : K.lookup a with
  | some o =>
    -- the script is one of the module's own objects
    have e := KX a o hk
    rw [ha] at e
    cases e
    refine core (fun _ => none) (fun _ => .inl rfl) (.inr ⟨_, vs.toArray, _, hk, rfl, rfl, rfl, by rw [List.size_toArray, lenV]; exact hl, by simpa using rv⟩) (fun b u z => by have z' : (none : Option HO) = some u := z; cases z') (fun b z => absurd rfl z) fun z => absurd rfl z
  | none =>
    refine core (fun b => if b = a then some (.frz { cls := .type "list", data := .seq vs.toArray } (.lst (ns.map V.int))) else none) (fun b => ?_) (.inl (.inr ⟨{ cls := .type "list", data := .seq vs.toArray }, if_pos rfl⟩)) (fun b u z => ?_) (fun b z => ?_) fun _ => hk
    · by_cases hb : b = a
      · exact .inr ⟨_, _, if_pos hb⟩
      · exact .inl (if_neg hb)
    · by_cases hb : b = a
      · have z' := (if_pos hb).symm.trans z
        cases z'
        subst hb
        exact ⟨ha, by rw [List.length_map]; exact hl, vs, _, rv, ha⟩
      · have z' := (if_neg hb).symm.trans z
        cases z'
    · by_cases hb : b = a
      · exact hb
      · exact absurd (if_neg hb) z
end L2
namespace L2
open PySem PySem.Spec PyProof.Rows
noncomputable abbrev KOf {K : PySem.W.Frag} {h : Heap} (_ : K.In h) : PySem.W.Frag := K
theorem walk_of {l : PySem.W.OpenLaw} {n k : Nat} {q : Program} {loose : List Str} {XP : (Str → Option Value) → Heap → Prop} {YP : World → Heap → Prop} {d : DefRec} {K : Params → PySem.W.Frag} {CX : World → CXT} {sp : World → Sp} {x : Str}
    (hn : l.most = some n) (hn2 : n ≤ sizeLine) (hdf : d.params.defaults = []) (hr : Room k callerA)
    (hY : ∀ (w : World) (h : Heap), YP w h → (K w.params).In h)
    (F : ∀ (w : World) (mg : Str → Option Value) (fa : Addr) (h : Heap), (K w.params).In h → h.Ns mainGlobals mg → mg d.name = some (.ref fa) →
      ∃ fd : FuncData, (∀ (s : Shared) (u : Value), BindsTo s fd ⟨[u], []⟩ [(x, u)]) ∧
        ∀ base : Heap, (K w.params).In base → base.Ns mainGlobals mg → FnOk l.prog w (K w.params) mg base (CX w) k fa fd [x] (sp w))
    (hsp : ∀ (w : World) (H : Hp) (a : Addr) (ns : List Int), ns.length ≤ n → Only H → SqL (K w.params) H a (ns.map V.int) → sp w [.ref a] H (fun v _ => v = .bl true) fun _ _ _ => False)
    (hCX : ∀ (w : World) (H : Hp) (s : Shared) (e : Value) (s' : Shared), CX w [] H s (fun _ _ _ => False) e s' → False) :
    PySem.W.WalkO q loose XP YP l.row.toRowW d [] (fun f vs => PySem.call f vs) := by
  refine Att.attach_call hn hdf fun w s₀ s₁ mg mb fa o pm cd doc a vs ns G Y ho hd hcd hmg hobj hints hlen hg => ?_
  have KX := hY w _ Y
  obtain ⟨fd, hb, hF⟩ := F w mg fa _ KX G.T.g hmg
  exact law_call KX G.T.g G.T.b G.T.builtins G.T.nolimit hg hobj hints (Nat.le_trans hlen hn2) hr hF hb (fun H hO hS => hsp w H a ns hlen hO hS) fun H e s' => hCX w H s₁ e s'
theorem walk_ofK {l : PySem.W.OpenLaw} {n k : Nat} {q : Program} {loose : List Str} {XP : (Str → Option Value) → Heap → Prop} {YP : World → Heap → Prop} {d : DefRec} {K : Params → PySem.W.Frag} {CX : CXT} {sp : PySem.W.Frag → Sp} {x : Str}
    (hn : l.most = some n) (hn2 : n ≤ sizeLine) (hdf : d.params.defaults = []) (hr : Room k callerA)
    (hY : ∀ (w : World) (h : Heap), YP w h → (K w.params).In h)
    (F : ∀ (w : World) (mg : Str → Option Value) (fa : Addr) (h : Heap), (K w.params).In h → h.Ns mainGlobals mg → mg d.name = some (.ref fa) →
      ∃ fd : FuncData, (∀ (s : Shared) (u : Value), BindsTo s fd ⟨[u], []⟩ [(x, u)]) ∧
        ∀ base : Heap, (K w.params).In base → base.Ns mainGlobals mg → FnOk l.prog w (K w.params) mg base CX k fa fd [x] (sp (K w.params)))
    (hsp : ∀ (K : PySem.W.Frag) (H : Hp) (a : Addr) (ns : List Int), ns.length ≤ n → Only H → SqL K H a (ns.map V.int) → sp K [.ref a] H (fun v _ => v = .bl true) fun _ _ _ => False)
    (hCX : ∀ (H : Hp) (s : Shared) (e : Value) (s' : Shared), CX [] H s (fun _ _ _ => False) e s' → False) :
    PySem.W.WalkO q loose XP YP l.row.toRowW d [] (fun f vs => PySem.call f vs) :=
  walk_of (K := K) (CX := fun _ => CX) (sp := fun w => sp (K w.params)) hn hn2 hdf hr hY F (fun w H a ns h1 h2 h3 => hsp (K w.params) H a ns h1 h2 h3) fun _ H s e s' => hCX H s e s'
end L2
namespace L2
open PySem PySem.Spec PyProof.Rows
noncomputable def defArgs (s : Stmt) : Arguments := match s with
  | .FunctionDef _ a _ _ _ _ _ _ _ _ => a
  | _ => { posonlyargs := [], args := [], vararg := none, kwonlyargs := [], kw_defaults := [], kwarg := none, defaults := [] }
noncomputable def defBody (s : Stmt) : List Stmt := match s with
  | .FunctionDef _ _ b _ _ _ _ _ _ _ => b
  | _ => []
noncomputable def defScope (s : Stmt) : Scope := match s with
  | .FunctionDef _ _ _ _ _ _ sc _ _ _ => sc
  | _ => { kind := .function, names := [], isGenerator := false, isCoroutine := false }
noncomputable abbrev CX0 : CXT := fun _ _ _ _ _ _ => False
noncomputable abbrev E0 : XK := fun _ _ _ => False
theorem pass0 {X : Cx} : Passes CX0 X E0 := fun _ _ _ _ _ _ _ h => h.elim
structure Fun (K : PySem.W.Frag) (x qual : Str) (st : Stmt) (f : Addr) (fd : FuncData) : Prop where
  ex : ∃ (oc : Value) (od : Option Addr) (kV doc pm : Value) (an : Option Addr) (cdv ct : Value) (osl : Array (Option Value)),
    fd = PySem.W.fnOf x qual (defArgs st) (defBody st) (defScope st) .none kV doc pm an cdv ct ∧ K.lookup f = some ⟨oc, od, .func fd, osl⟩ ∧ PySem.W.codeIn K cdv qual = true
  kp : PySem.W.keepIn K (.ref f) = true
section
variable {P : Program} {w : World} {K : PySem.W.Frag} {mg : Str → Option Value} {base : Heap}
theorem Fun.ok {x qual : Str} {st : Stmt} {f : Addr} {fd : FuncData} {N ps : List Str} {k : Nat} {sp : Sp} (F : Fun K x qual st f fd) (S : FnScope N ps (defScope st)) (len : ∀ vs H Q E, sp vs H Q E → vs.length = ps.length)
    (hbody : ∀ (cdv : Value) (A : Around) (outer : List Env) (s : Shared) (H : Hp) (vs : List V) (Q : VK) (E : XK), Room k (A.deeper (envOfC qual (defScope st) s.heap.objs.size f cdv)) → sp vs H Q E →
      ∃ t, PSs (cxOf CX0 P w K mg base N qual (defScope st) f cdv A outer s H E).nox (defBody st) t ∧ t { nx := fun _ H' => Q .non H', rt := Q } (start N vs) H) : FnOk P w K mg base CX0 (k + 1) f fd ps sp := by
  obtain ⟨oc, od, kV, doc, pm, an, cdv, ct, osl, rfl, lk, hcd⟩ := F.ex
  refine fn_of lk hcd S len fun A outer s H vs Q E hr hsp => ?_
  obtain ⟨t, h, q⟩ := hbody cdv A outer s H vs Q E hr hsp
  exact ⟨t, h.nox, q⟩
theorem Fun.binds {x qual : Str} {st : Stmt} {f : Addr} {fd : FuncData} {ps : List Str} (F : Fun K x qual st f fd)
    (h : ∀ (kV doc pm : Value) (an : Option Addr) (cdv ct : Value) (us : List Value), us.length = ps.length → bindArgs (PySem.W.fnOf x qual (defArgs st) (defBody st) (defScope st) .none kV doc pm an cdv ct) ⟨us, []⟩ = pure (ps.zip us)) : Binds K fd ps [] := by
  obtain ⟨oc, od, kV, doc, pm, an, cdv, ct, osl, rfl, lk, hcd⟩ := F.ex
  exact .all (h kV doc pm an cdv ct)
theorem fun_mk {x qual : Str} {st : Stmt} {f : Addr} {oc : Value} {od an : Option Addr} {osl : Array (Option Value)} {kV doc pm cdv ct : Value} (l : K.lookup f = some ⟨oc, od, .func (PySem.W.fnOf x qual (defArgs st) (defBody st) (defScope st) .none kV doc pm an cdv ct), osl⟩)
    (c : PySem.W.codeIn K cdv qual = true) (k : PySem.W.keepIn K (.ref f) = true) : Fun K x qual st f (PySem.W.fnOf x qual (defArgs st) (defBody st) (defScope st) .none kV doc pm an cdv ct) := ⟨⟨oc, od, kV, doc, pm, an, cdv, ct, osl, rfl, l, c⟩, k⟩
end
section
variable {X : Cx}
theorem pv (i : Nat) {x : Str} {pos : Pos} (hN : X.N[i]? = some x := by rfl) (hv : Vis X.env.scope x := by first | exact Or.inl rfl | exact Or.inr (Or.inl rfl) | exact Or.inr (Or.inr rfl)) (hd : (x == ("__debug__" : Str)) = false := by decide)
    (hcd : (x == ("__classdict__" : Str)) = false := by decide) : PE X (.Name x pos) (tVar i) := pe_var hN hv hd hcd
end
noncomputable def Same (H H' : Hp) : Prop := ∀ b o, H b = some o → H' b = some o
theorem Same.refl (H : Hp) : Same H H := fun _ _ h => h
theorem Same.trans {H H1 H2 : Hp} (a : Same H H1) (b : Same H1 H2) : Same H H2 := fun c o h => b c o (a c o h)
theorem Same.free {H H' : Hp} (e : Same H H') {l : Addr} (h : H' l = Option.none) : H l = Option.none := by
  cases q : H l with
  | none => rfl
  | some o =>
    rw [e l o q] at h
    cases h
theorem Same.seq {K : PySem.W.Frag} {H H' : Hp} {a : Addr} {xs : List V} (e : Same H H') (h : SqL K H a xs) : SqL K H' a xs := by
  rcases h with (h | ⟨o, h⟩) | h
  · exact .inl (.inl (e _ _ h))
  · exact .inl (.inr ⟨o, e _ _ h⟩)
  · exact .inr h
end L2
set_option maxHeartbeats 4000000
set_option autoImplicit false
namespace DL
open PySem PySem.Spec PyProof.Rows L2
section
variable {prog : Program} {w : World} {A : Around} {E : Value → Shared → Prop} {s : Shared}
end
end DL
namespace DL
open PySem PySem.Spec PyProof.Rows L2
inductive D where
  | non | bl (b : Bool) | int (i : Int) | str (x : Str) | ty (n : String) | tup (xs : List D) | fl (xs : List D) | ref (n : Nat)
inductive DO where
  | lst (xs : List D) | dic (kvs : List (D × D)) (fz : Bool)
noncomputable abbrev HD := List DO
noncomputable abbrev SD := List (Option D)
noncomputable def FzL (K : PySem.W.Frag) (H : Hp) (a : Addr) (xs : List V) : Prop :=
  (∃ o, H a = some (.frz o (.lst xs))) ∨
    ∃ (o : Obj) (its : Array Value) (n : Nat), K.lookup a = some o ∧ o.cls = .type "list" ∧ o.dict = none ∧ o.data = .seq its n ∧ its.size ≤ sizeLine ∧ Vals xs its.toList
theorem FzL.sq {K : PySem.W.Frag} {H : Hp} {a : Addr} {xs : List V} (h : FzL K H a xs) : SqL K H a xs := by
  rcases h with h | h
  · exact .inl (.inr h)
  · exact .inr h
mutual
noncomputable def Rep (K : PySem.W.Frag) (H : Hp) (ι : List Addr) : D → V → Prop
  | .non, v => v = .non
  | .bl b, v => v = .bl b
  | .int i, v => v = .int i
  | .str x, v => v = .str x
  | .ty n, v => v = .ty n
  | .tup ds, v => ∃ a vs, v = .ref a ∧ SqT K H a vs ∧ RepL K H ι ds vs
  | .fl ds, v => ∃ a vs, v = .ref a ∧ FzL K H a vs ∧ RepL K H ι ds vs
  | .ref n, v => ∃ a, v = .ref a ∧ ι[n]? = some a
noncomputable def RepL (K : PySem.W.Frag) (H : Hp) (ι : List Addr) : List D → List V → Prop
  | [], vs => vs = []
  | d :: ds, vs => ∃ v r, vs = v :: r ∧ Rep K H ι d v ∧ RepL K H ι ds r
end
section
variable {α β : Type} {F G : α → β → Prop}
theorem Prd.len : ∀ {xs : List α} {us : List β}, Paired F xs us → xs.length = us.length
  | _, _, .nil => rfl
  | _, _, .cons _ t => by simp [Prd.len t]
theorem Prd.get : ∀ {xs : List α} {us : List β} {i : Nat} {x : α}, Paired F xs us → xs[i]? = some x → ∃ u, us[i]? = some u ∧ F x u
  | _, _, _, _, .nil, e => by simp at e
  | _, _, 0, _, .cons r _, e => by simp at e; subst e; exact ⟨_, rfl, r⟩
  | _, _, i + 1, x, .cons _ t, e => by
    obtain ⟨u, h1, h2⟩ := Prd.get (i := i) (x := x) t (by simpa using e)
    exact ⟨u, by simpa using h1, h2⟩
theorem Prd.set {x : α} {u : β} (r : F x u) : ∀ {xs : List α} {us : List β} (i : Nat), Paired F xs us → Paired F (xs.set i x) (us.set i u)
  | _, _, _, .nil => .nil
  | _, _, 0, .cons _ t => .cons r t
  | _, _, i + 1, .cons q t => .cons q (Prd.set r i t)
theorem Prd.append : ∀ {xs ys : List α} {us ws : List β}, Paired F xs us → Paired F ys ws → Paired F (xs ++ ys) (us ++ ws)
  | _, _, _, _, .nil, s => s
  | _, _, _, _, .cons r t, s => .cons r (Prd.append t s)
theorem Prd.take : ∀ {xs : List α} {us : List β} (n : Nat), Paired F xs us → Paired F (xs.take n) (us.take n)
  | _, _, 0, _ => .nil
  | _, _, _ + 1, .nil => .nil
  | _, _, n + 1, .cons r t => .cons r (Prd.take n t)
theorem Prd.drop : ∀ {xs : List α} {us : List β} (n : Nat), Paired F xs us → Paired F (xs.drop n) (us.drop n)
  | _, _, 0, r => r
  | _, _, _ + 1, .nil => .nil
  | _, _, n + 1, .cons _ t => Prd.drop n t
theorem Prd.eraseIdx : ∀ {xs : List α} {us : List β} (i : Nat), Paired F xs us → Paired F (xs.eraseIdx i) (us.eraseIdx i)
  | _, _, _, .nil => .nil
  | _, _, 0, .cons _ t => t
  | _, _, i + 1, .cons r t => .cons r (Prd.eraseIdx i t)
theorem Prd.rep {xs : List α} {us : List β} (h : Paired F xs us) : ∀ k : Nat, Paired F (List.replicate k xs).flatten (List.replicate k us).flatten
  | 0 => .nil
  | k + 1 => by
    rw [List.replicate_succ, List.flatten_cons, List.replicate_succ, List.flatten_cons]
    exact Prd.append h (Prd.rep h k)
theorem Prd.imp : ∀ {xs : List α} {us : List β}, Paired F xs us → (∀ a b, a ∈ xs → F a b → G a b) → Paired G xs us
  | _, _, .nil, _ => .nil
  | _, _, .cons r t, f => .cons (f _ _ (by simp) r) (Prd.imp t fun a b h => f a b (by simp [h]))
theorem Prd.reverse : ∀ {xs : List α} {us : List β}, Paired F xs us → Paired F xs.reverse us.reverse
  | _, _, .nil => .nil
  | _, _, .cons r t => by
    rw [List.reverse_cons, List.reverse_cons]
    exact Prd.append (Prd.reverse t) (.cons r .nil)
end
section
variable {K : PySem.W.Frag} {H H' : Hp} {ι ι' : List Addr}
theorem repL_iff : ∀ {ds : List D} {vs : List V}, RepL K H ι ds vs ↔ Paired (Rep K H ι) ds vs
  | [], vs => by
    constructor
    · intro h; rw [RepL] at h; subst h; exact .nil
    · intro h; cases h; rw [RepL]
  | d :: ds, vs => by
    constructor
    · intro h; rw [RepL] at h
      obtain ⟨v, r, rfl, h1, h2⟩ := h
      exact .cons h1 (repL_iff.mp h2)
    · intro h
      cases h with
      | cons h1 h2 => rw [RepL]; exact ⟨_, _, rfl, h1, repL_iff.mpr h2⟩
@[simp] theorem rep_non {v : V} : Rep K H ι .non v ↔ v = .non := by rw [Rep]
@[simp] theorem rep_bl {b : Bool} {v : V} : Rep K H ι (.bl b) v ↔ v = .bl b := by rw [Rep]
@[simp] theorem rep_int {i : Int} {v : V} : Rep K H ι (.int i) v ↔ v = .int i := by rw [Rep]
@[simp] theorem rep_str {x : Str} {v : V} : Rep K H ι (.str x) v ↔ v = .str x := by rw [Rep]
@[simp] theorem rep_ty {n : String} {v : V} : Rep K H ι (.ty n) v ↔ v = .ty n := by rw [Rep]
theorem rep_tup {ds : List D} {v : V} : Rep K H ι (.tup ds) v ↔ ∃ a vs, v = .ref a ∧ SqT K H a vs ∧ Paired (Rep K H ι) ds vs := by
  rw [Rep]
  constructor
  · rintro ⟨a, vs, h1, h2, h3⟩; exact ⟨a, vs, h1, h2, repL_iff.mp h3⟩
  · rintro ⟨a, vs, h1, h2, h3⟩; exact ⟨a, vs, h1, h2, repL_iff.mpr h3⟩
theorem rep_fl {ds : List D} {v : V} : Rep K H ι (.fl ds) v ↔ ∃ a vs, v = .ref a ∧ FzL K H a vs ∧ Paired (Rep K H ι) ds vs := by
  rw [Rep]
  constructor
  · rintro ⟨a, vs, h1, h2, h3⟩; exact ⟨a, vs, h1, h2, repL_iff.mp h3⟩
  · rintro ⟨a, vs, h1, h2, h3⟩; exact ⟨a, vs, h1, h2, repL_iff.mpr h3⟩
theorem rep_ref {n : Nat} {v : V} : Rep K H ι (.ref n) v ↔ ∃ a, v = .ref a ∧ ι[n]? = some a := by rw [Rep]
structure Lw (K : PySem.W.Frag) (H : Hp) (ι : List Addr) (H' : Hp) (ι' : List Addr) : Prop where
  tup : ∀ a xs, SqT K H a xs → SqT K H' a xs
  fz : ∀ a xs, FzL K H a xs → FzL K H' a xs
  pre : ∃ t, ι' = ι ++ t
  fr : ∀ a o u, H a = some (.frz o u) → H' a = some (.frz o u)
structure Le (K : PySem.W.Frag) (H : Hp) (ι : List Addr) (H' : Hp) (ι' : List Addr) : Prop extends Lw K H ι H' ι' where
  frame : ∀ a o, H a = some o → a ∉ ι → H' a = some o ∧ a ∉ ι'
theorem Le.refl : Le K H ι H ι := ⟨⟨fun _ _ h => h, fun _ _ h => h, ⟨[], by simp⟩, fun _ _ _ h => h⟩, fun _ _ h n => ⟨h, n⟩⟩
theorem Le.trans {H1 H2 : Hp} {ι1 ι2 : List Addr} (a : Le K H ι H1 ι1) (b : Le K H1 ι1 H2 ι2) : Le K H ι H2 ι2 := by
  refine ⟨⟨fun x xs h => b.tup x xs (a.tup x xs h), fun x xs h => b.fz x xs (a.fz x xs h), ?_, fun x o u h => b.fr x o u (a.fr x o u h)⟩, fun x o h n => ?_⟩
  · obtain ⟨t, e⟩ := a.pre
    obtain ⟨u, e'⟩ := b.pre
    exact ⟨t ++ u, by rw [e', e, List.append_assoc]⟩
  · obtain ⟨h1, n1⟩ := a.frame x o h n
    exact b.frame x o h1 n1
theorem Lw.get (l : Lw K H ι H' ι') {n : Nat} {a : Addr} (h : ι[n]? = some a) : ι'[n]? = some a := by
  obtain ⟨t, e⟩ := l.pre
  rw [e, List.getElem?_append_left (by exact (List.getElem?_eq_some_iff.mp h).1), h]
mutual
theorem Rep.monoW (l : Lw K H ι H' ι') : ∀ {d : D} {v : V}, Rep K H ι d v → Rep K H' ι' d v
  | .non, v, h => by rw [Rep] at h ⊢; exact h
  | .bl _, v, h => by rw [Rep] at h ⊢; exact h
  | .int _, v, h => by rw [Rep] at h ⊢; exact h
  | .str _, v, h => by rw [Rep] at h ⊢; exact h
  | .ty _, v, h => by rw [Rep] at h ⊢; exact h
  | .tup ds, v, h => by
    rw [Rep] at h ⊢
    obtain ⟨a, vs, h1, h2, h3⟩ := h
    exact ⟨a, vs, h1, l.tup a vs h2, RepL.monoW l h3⟩
  | .fl ds, v, h => by
    rw [Rep] at h ⊢
    obtain ⟨a, vs, h1, h2, h3⟩ := h
    exact ⟨a, vs, h1, l.fz a vs h2, RepL.monoW l h3⟩
  | .ref n, v, h => by
    rw [Rep] at h ⊢
    obtain ⟨a, h1, h2⟩ := h
    exact ⟨a, h1, l.get h2⟩
theorem RepL.monoW (l : Lw K H ι H' ι') : ∀ {ds : List D} {vs : List V}, RepL K H ι ds vs → RepL K H' ι' ds vs
  | [], vs, h => by rw [RepL] at h ⊢; exact h
  | d :: ds, vs, h => by
    rw [RepL] at h ⊢
    obtain ⟨v, r, h1, h2, h3⟩ := h
    exact ⟨v, r, h1, Rep.monoW l h2, RepL.monoW l h3⟩
end
theorem Rep.mono (l : Le K H ι H' ι') {d : D} {v : V} (h : Rep K H ι d v) : Rep K H' ι' d v := Rep.monoW l.toLw h
theorem Prd.monoW (l : Lw K H ι H' ι') {ds : List D} {vs : List V} (h : Paired (Rep K H ι) ds vs) : Paired (Rep K H' ι') ds vs := repL_iff.mp (RepL.monoW l (repL_iff.mpr h))
theorem Prd.mono (l : Le K H ι H' ι') {ds : List D} {vs : List V} (h : Paired (Rep K H ι) ds vs) : Paired (Rep K H' ι') ds vs := Prd.monoW l.toLw h
noncomputable def nkOf : D → Option Int
  | .int i => some i
  | .bl b => some (if b then 1 else 0)
  | _ => none
noncomputable def nksOf : List D → Option (List Int)
  | [] => some []
  | d :: r => (nkOf d).bind fun k => (nksOf r).map fun ks => k :: ks
noncomputable def nk : D → Option (List Int)
  | .tup ds => nksOf ds
  | _ => none
noncomputable def kHash (ks : List Int) : Int := reduceHash (Builtin.Tuple.tupleHashOf (ks.map hashInt))
noncomputable def DicAt (a : Addr) (xs : List (List Int × Addr × Value)) (h : Heap) : Prop :=
  ∃ o es ep, h.get? a = some o ∧ o.ExactDict ∧ o.data = .dict es ep ∧ es.toList = xs.map (fun x => (⟨kHash x.1, .ref x.2.1, x.2.2⟩ : DictEntry)) ∧ (xs.map (·.1)).Nodup
theorem DicAt.keep {a : Addr} {xs : List (List Int × Addr × Value)} {h1 h2 : Heap} (d : DicAt a xs h1) (k : ∀ o, h1.get? a = some o → h2.get? a = some o) : DicAt a xs h2 := by
  obtain ⟨o, es, ep, e, r⟩ := d
  exact ⟨o, es, ep, k o e, r⟩
noncomputable def KRep (K : PySem.W.Frag) (H : Hp) (ι : List Addr) (p : D × D) (x : List Int × Addr × Value) : Prop := nk p.1 = some x.1 ∧ Rep K H ι p.1 (.ref x.2.1) ∧ ∃ v, RelV v x.2.2 ∧ Rep K H ι p.2 v
noncomputable def ORep (K : PySem.W.Frag) (H : Hp) (ι : List Addr) (a : Addr) : DO → Prop
  | .lst ds => ∃ vs, H a = some (.lst vs) ∧ Paired (Rep K H ι) ds vs
  | .dic kvs fz => (a == sysModules) = false ∧ kvs.length ≤ sizeLine ∧ ∃ xs, (if fz = true then ∃ o, H a = some (.frz o (.ext (DicAt a xs))) else H a = some (.ext (DicAt a xs))) ∧ Paired (KRep K H ι) kvs xs
structure HRep (K : PySem.W.Frag) (H : Hp) (ι : List Addr) (Hd : HD) : Prop where
  len : ι.length = Hd.length
  nd : ι.Nodup
  obj : ∀ (n : Nat) (a : Addr) (o : DO), ι[n]? = some a → Hd[n]? = some o → ORep K H ι a o
theorem ORep.there {a : Addr} {o : DO} (h : ORep K H ι a o) : H a ≠ none := by
  cases o with
  | lst ds => obtain ⟨vs, e, _⟩ := h; rw [e]; simp
  | dic kv fz =>
    obtain ⟨_, _, xs, e, _⟩ := h
    cases fz with
    | true => rw [if_pos rfl] at e; obtain ⟨ob, e⟩ := e; rw [e]; simp
    | false => rw [if_neg (by simp)] at e; rw [e]; simp
theorem ORep.step {a : Addr} {o : DO} (h : ORep K H ι a o) (l : Lw K H ι H' ι') (e : H' a = H a) : ORep K H' ι' a o := by
  cases o with
  | lst ds => obtain ⟨vs, q, r⟩ := h; exact ⟨vs, by rw [e, q], Prd.monoW l r⟩
  | dic kv fz => obtain ⟨h1, h2, xs, q, r⟩ := h; exact ⟨h1, h2, xs, by rw [e]; exact q, Prd.imp r fun p x _ z => ⟨z.1, Rep.monoW l z.2.1, let ⟨v, z1, z2⟩ := z.2.2; ⟨v, z1, Rep.monoW l z2⟩⟩⟩
theorem HRep.at {Hd : HD} (h : HRep K H ι Hd) {n : Nat} {o : DO} (e : Hd[n]? = some o) : ∃ a, ι[n]? = some a ∧ ORep K H ι a o := by
  have hl : n < ι.length := by rw [h.len]; exact (List.getElem?_eq_some_iff.mp e).1
  exact ⟨ι[n], by simp [hl], h.obj n _ o (by simp [hl]) e⟩
theorem HRep.has {Hd : HD} (h : HRep K H ι Hd) {a : Addr} (hm : a ∈ ι) : ∃ (n : Nat) (o : DO), ι[n]? = some a ∧ Hd[n]? = some o ∧ ORep K H ι a o := by
  obtain ⟨n, hn⟩ := List.mem_iff_getElem?.mp hm
  have hl : n < Hd.length := by rw [← h.len]; exact (List.getElem?_eq_some_iff.mp hn).1
  exact ⟨n, Hd[n], hn, by simp [hl], h.obj n a Hd[n] hn (by simp [hl])⟩
theorem HRep.fresh {Hd : HD} (h : HRep K H ι Hd) {p : Addr} (hp : H p = none) : p ∉ ι := fun hm => by
  obtain ⟨_, _, _, _, o⟩ := h.has hm
  exact o.there hp
theorem HRep.keep {Hd : HD} (h : HRep K H ι Hd) (l : Lw K H ι H' ι) (e : ∀ a ∈ ι, H' a = H a) : HRep K H' ι Hd :=
  ⟨h.len, h.nd, fun n a o h1 h2 => (h.obj n a o h1 h2).step l (e a (List.mem_of_getElem? h1))⟩
theorem Lw.fresh {p : Addr} (hp : H p = none) (o : HO) : Lw K H ι (upd H p o) ι where
  tup := fun a xs h => by
    rcases h with (h | ⟨ob, h⟩) | h
    · exact .inl (.inl (by rw [upd_ne (ne_of_none h hp)]; exact h))
    · exact .inl (.inr ⟨ob, by rw [upd_ne (ne_of_none h hp)]; exact h⟩)
    · exact .inr h
  fz := fun a xs h => by
    rcases h with ⟨ob, h⟩ | h
    · exact .inl ⟨ob, by rw [upd_ne (ne_of_none h hp)]; exact h⟩
    · exact .inr h
  pre := ⟨[], by simp⟩
  fr := fun a ob u h => by rw [upd_ne (ne_of_none h hp)]; exact h
theorem Le.fresh {p : Addr} (hp : H p = none) (o : HO) : Le K H ι (upd H p o) ι := ⟨Lw.fresh hp o, fun a ob h n => ⟨by rw [upd_ne (ne_of_none h hp)]; exact h, n⟩⟩
theorem Le.fresh1 {p : Addr} (hp : H p = none) (o : HO) : Le K H ι (upd H p o) (ι ++ [p]) where
  tup := (Le.fresh (ι := ι) hp o).tup
  fz := (Le.fresh (ι := ι) hp o).fz
  pre := ⟨[p], rfl⟩
  fr := (Le.fresh (K := K) (ι := ι) hp o).fr
  frame := fun a ob h n => ⟨by rw [upd_ne (ne_of_none h hp)]; exact h, by
    have := ne_of_none h hp
    simp [n, this]⟩
theorem HRep.tup {Hd : HD} (h : HRep K H ι Hd) {p : Addr} (hp : H p = none) (o : HO) : HRep K (upd H p o) ι Hd :=
  h.keep (Lw.fresh hp o) fun a ha => upd_ne fun z => by subst z; exact h.fresh hp ha
theorem HRep.new {Hd : HD} (h : HRep K H ι Hd) {p : Addr} (hp : H p = none) {u : HO} {o : DO} (ho : ORep K (upd H p u) (ι ++ [p]) p o) : HRep K (upd H p u) (ι ++ [p]) (Hd ++ [o]) := by
  have hf := h.fresh hp
  refine ⟨by simp [h.len], by simp only [List.nodup_append, h.nd, true_and]; exact ⟨by simp, fun a ha b hb e => hf (by simp at hb; rw [← hb, ← e]; exact ha)⟩, fun n a ob h1 h2 => ?_⟩
  by_cases hn : n < ι.length
  · rw [List.getElem?_append_left hn] at h1
    rw [List.getElem?_append_left (by rw [← h.len]; exact hn)] at h2
    have ha : a ∈ ι := List.mem_of_getElem? h1
    exact (h.obj n a ob h1 h2).step (Le.fresh1 hp u).toLw (upd_ne fun z => by subst z; exact hf ha)
  · rw [List.getElem?_append_right (by omega)] at h1
    rw [List.getElem?_append_right (by rw [← h.len]; omega)] at h2
    rw [← h.len] at h2
    have : n - ι.length = 0 := by
      have := (List.getElem?_eq_some_iff.mp h1).1
      simp at this; omega
    rw [this] at h1 h2
    simp at h1 h2
    subst h1; subst h2
    exact ho
noncomputable def Loose : HO → Prop
  | .lst _ => True
  | .ext _ => True
  | _ => False
theorem Le.upd {a : Addr} (ha : a ∈ ι) {o : HO} (e : H a = some o) (lo : Loose o) (u : HO) : Le K H ι (upd H a u) ι where
  tup := fun b xs h => by
    rcases h with (h | ⟨ob, h⟩) | h
    · refine .inl (.inl ?_)
      rw [upd_ne (ne_of h e (by rintro rfl; exact lo))]; exact h
    · refine .inl (.inr ⟨ob, ?_⟩)
      rw [upd_ne (ne_of h e (by rintro rfl; exact lo))]; exact h
    · exact .inr h
  fz := fun b xs h => by
    rcases h with ⟨ob, h⟩ | h
    · refine .inl ⟨ob, ?_⟩
      rw [upd_ne (ne_of h e (by rintro rfl; exact lo))]; exact h
    · exact .inr h
  pre := ⟨[], by simp⟩
  fr := fun b ob w h => by rw [upd_ne (ne_of h e (by rintro rfl; exact lo))]; exact h
  frame := fun b ob h n => ⟨by rw [upd_ne (by rintro rfl; exact n ha)]; exact h, n⟩
theorem HRep.upd {Hd : HD} (h : HRep K H ι Hd) {n : Nat} {a : Addr} (hn : ι[n]? = some a) {o u : HO} (e : H a = some o) (lo : Loose o) {ob : DO} (ho : ORep K (upd H a u) ι a ob) : HRep K (upd H a u) ι (Hd.set n ob) := by
  refine ⟨by simp [h.len], h.nd, fun m b oc h1 h2 => ?_⟩
  by_cases hm : n = m
  · subst hm
    rw [hn] at h1; cases h1
    rw [List.getElem?_set] at h2
    rw [if_pos rfl] at h2
    split at h2
    · cases h2; exact ho
    · cases h2
  · rw [List.getElem?_set_ne hm] at h2
    have hb : b ≠ a := fun z => by
      subst z
      have l1 := (List.getElem?_eq_some_iff.mp hn).1
      exact hm ((List.getElem?_inj l1 h.nd).mp (hn.trans h1.symm))
    exact (h.obj m b oc h1 h2).step (Le.upd (List.mem_of_getElem? hn) e lo u).toLw (upd_ne hb)
theorem HRep.add {Hd : HD} (h : HRep K H ι Hd) {p : Addr} (hp : p ∉ ι) {o : DO} (ho : ORep K H (ι ++ [p]) p o) : HRep K H (ι ++ [p]) (Hd ++ [o]) := by
  refine ⟨by simp [h.len], by simp only [List.nodup_append, h.nd, true_and]; exact ⟨by simp, fun a ha b hb e => hp (by simp at hb; rw [← hb, ← e]; exact ha)⟩, fun n a ob h1 h2 => ?_⟩
  by_cases hn : n < ι.length
  · rw [List.getElem?_append_left hn] at h1
    rw [List.getElem?_append_left (by rw [← h.len]; exact hn)] at h2
    exact (h.obj n a ob h1 h2).step ⟨fun _ _ z => z, fun _ _ z => z, ⟨[p], rfl⟩, fun _ _ _ z => z⟩ rfl
  · rw [List.getElem?_append_right (by omega)] at h1
    rw [List.getElem?_append_right (by rw [← h.len]; omega)] at h2
    rw [← h.len] at h2
    have : n - ι.length = 0 := by
      have := (List.getElem?_eq_some_iff.mp h1).1
      simp at this; omega
    rw [this] at h1 h2
    simp at h1 h2
    subst h1; subst h2
    exact ho
theorem Lw.side {p : Addr} {ys : List V} (hp : H p = some (.lst ys)) (u : HO) : Lw K H ι (L2.upd H p u) ι where
  tup := fun a xs h => by
    rcases h with (h | ⟨ob, h⟩) | h
    · refine .inl (.inl ?_)
      rw [upd_ne (ne_of h hp (by intro z; cases z))]; exact h
    · refine .inl (.inr ⟨ob, ?_⟩)
      rw [upd_ne (ne_of h hp (by intro z; cases z))]; exact h
    · exact .inr h
  fz := fun a xs h => by
    rcases h with ⟨ob, h⟩ | h
    · refine .inl ⟨ob, ?_⟩
      rw [upd_ne (ne_of h hp (by intro z; cases z))]; exact h
    · exact .inr h
  pre := ⟨[], by simp⟩
  fr := fun a ob w h => by rw [upd_ne (ne_of h hp (by intro z; cases z))]; exact h
theorem Lw.trans {H1 H2 : Hp} {ι1 ι2 : List Addr} (a : Lw K H ι H1 ι1) (b : Lw K H1 ι1 H2 ι2) : Lw K H ι H2 ι2 := by
  refine ⟨fun x xs h => b.tup x xs (a.tup x xs h), fun x xs h => b.fz x xs (a.fz x xs h), ?_, fun x o u h => b.fr x o u (a.fr x o u h)⟩
  obtain ⟨t, e⟩ := a.pre
  obtain ⟨u, e'⟩ := b.pre
  exact ⟨t ++ u, by rw [e', e, List.append_assoc]⟩
theorem Le.side {H1 : Hp} {ι1 : List Addr} {p : Addr} {ys : List V} (l : Le K H ι H1 ι1) (h0 : H p = none) (h1 : H1 p = some (.lst ys)) (u : HO) : Le K H ι (L2.upd H1 p u) ι1 :=
  ⟨l.toLw.trans (Lw.side h1 u), fun a o h n => by
    obtain ⟨q, m⟩ := l.frame a o h n
    exact ⟨by rw [upd_ne (ne_of_none h h0)]; exact q, m⟩⟩
structure SRep (K : PySem.W.Frag) (H : Hp) (ι : List Addr) (σ : L2.St) (σd : SD) : Prop where
  len : σ.length = σd.length
  var : ∀ (i : Nat) (d : D), σd[i]? = some (some d) → ∃ v, σ[i]? = some (some v) ∧ Rep K H ι d v
theorem SRep.mono {σ : L2.St} {σd : SD} (s : SRep K H ι σ σd) (l : Le K H ι H' ι') : SRep K H' ι' σ σd :=
  ⟨s.len, fun i d h => let ⟨v, h1, h2⟩ := s.var i d h; ⟨v, h1, h2.mono l⟩⟩
theorem SRep.set {σ : L2.St} {σd : SD} {d : D} {v : V} (s : SRep K H ι σ σd) (r : Rep K H ι d v) (i : Nat) : SRep K H ι (σ.set i (some v)) (σd.set i (some d)) := by
  refine ⟨by simp [s.len], fun j e h => ?_⟩
  by_cases hj : i = j
  · subst hj
    rw [List.getElem?_set] at h ⊢
    rw [if_pos rfl] at h ⊢
    split at h
    · rename_i hl
      rw [if_pos (by rw [s.len]; exact hl)]
      cases h
      exact ⟨v, rfl, r⟩
    · cases h
  · rw [List.getElem?_set_ne hj] at h ⊢
    exact s.var j e h
end
noncomputable def noStar : Expr → Bool
  | .Starred _ _ => false
  | _ => true
theorem star_cons {e : Expr} {es : List Expr} {env : Env} (h : noStar e = true) : starEach (e :: es) env = (false, eval e env) :: starEach es env := by
  cases e <;> first | rfl | cases h
theorem star_any {pos : Pos} {env : Env} : ∀ {es : List Expr}, es.all noStar = true → (backTo pos (starEach es env)).any (·.1) = false
  | [], _ => rfl
  | e :: es, h => by
    rw [List.all_cons, Bool.and_eq_true] at h
    rw [star_cons h.1]
    show (false || (backTo pos (starEach es env)).any (·.1)) = false
    rw [star_any h.2]
    rfl
theorem star_few {pos : Pos} {env : Env} {es : List Expr} (h : es.all noStar = true) (hl : es.length < 30) : ((backTo pos (starEach es env)).all (fun x => !x.1) && (backToKw pos (keywordEach [] env)).all (fun x => x.1.isSome)
      && decide (es.length + ([] : List Keyword).length + (if ([] : List Keyword).isEmpty then 0 else 1) < 30)) = true := by
  have h1 := star_any (pos := pos) (env := env) h
  have h2 : (backTo pos (starEach es env)).all (fun x => !x.1) = true := by
    rw [List.all_eq_true]
    intro x hx
    rw [List.any_eq_false] at h1
    have := h1 x hx
    simpa using this
  have h3 : decide (es.length + ([] : List Keyword).length + (if ([] : List Keyword).isEmpty then 0 else 1) < 30) = true := by
    rw [decide_eq_true_eq]
    simpa using hl
  rw [h2, h3]
  rfl
end DL
namespace DL
open PySem PySem.Spec PyProof.Rows L2
noncomputable abbrev EF := SD → HD → Option (D × HD)
noncomputable abbrev TF := SD → HD → Option (Bool × HD)
noncomputable abbrev AF := SD → HD → Option (List D × HD)
inductive FD where
  | nx | bk | ct | rt (d : D)
noncomputable abbrev SF := SD → HD → Option (FD × SD × HD)
noncomputable abbrev GF := D → SD → HD → Option (SD × HD)
noncomputable abbrev FF := List D → HD → Option (D × HD)
noncomputable abbrev F2 := D → D → HD → Option (D × HD)
noncomputable def QE (K : PySem.W.Frag) (H : Hp) (ι : List Addr) (d : D) (Hd' : HD) (Q : VK) : Prop := ∀ v H' ι', Le K H ι H' ι' → HRep K H' ι' Hd' → Rep K H' ι' d v → Q v H'
noncomputable def rdE (K : PySem.W.Frag) (f : EF) : TE := fun σ H Q => ∃ ι σd Hd d Hd', SRep K H ι σ σd ∧ HRep K H ι Hd ∧ f σd Hd = some (d, Hd') ∧ QE K H ι d Hd' Q
noncomputable def rdT (K : PySem.W.Frag) (f : TF) : TT := fun σ H Q => ∃ ι σd Hd b Hd', SRep K H ι σ σd ∧ HRep K H ι Hd ∧ f σd Hd = some (b, Hd') ∧ ∀ H' ι', Le K H ι H' ι' → HRep K H' ι' Hd' → Q b H'
noncomputable def rdA (K : PySem.W.Frag) (f : AF) : TA := fun σ H Q => ∃ ι σd Hd ds Hd', SRep K H ι σ σd ∧ HRep K H ι Hd ∧ f σd Hd = some (ds, Hd') ∧ ∀ vs H' ι', Le K H ι H' ι' → HRep K H' ι' Hd' → Paired (Rep K H' ι') ds vs → Q vs H'
noncomputable def QS (K : PySem.W.Frag) (H : Hp) (ι : List Addr) (fl : FD) (σd' : SD) (Hd' : HD) (E : Ends) : Prop := ∀ σ' H' ι', Le K H ι H' ι' → HRep K H' ι' Hd' → SRep K H' ι' σ' σd' →
  match fl with
  | .nx => E.nx σ' H'
  | .bk => E.bk σ' H'
  | .ct => E.ct σ' H'
  | .rt d => ∀ v, Rep K H' ι' d v → E.rt v H'
noncomputable def rdS (K : PySem.W.Frag) (f : SF) : TS := fun E σ H => ∃ ι σd Hd fl σd' Hd', SRep K H ι σ σd ∧ HRep K H ι Hd ∧ f σd Hd = some (fl, σd', Hd') ∧ QS K H ι fl σd' Hd' E
noncomputable def rdG (K : PySem.W.Frag) (g : GF) : TG := fun v σ H Q => ∃ ι σd Hd d σd' Hd', SRep K H ι σ σd ∧ HRep K H ι Hd ∧ Rep K H ι d v ∧ g d σd Hd = some (σd', Hd') ∧
  ∀ σ' H' ι', Le K H ι H' ι' → HRep K H' ι' Hd' → SRep K H' ι' σ' σd' → Q σ' H'
noncomputable def rd2 (K : PySem.W.Frag) (g : F2) : R2 := fun x y H Q => ∃ ι dx dy Hd d Hd', HRep K H ι Hd ∧ Rep K H ι dx x ∧ Rep K H ι dy y ∧ g dx dy Hd = some (d, Hd') ∧ QE K H ι d Hd' Q
noncomputable def rd1 (K : PySem.W.Frag) (g : D → HD → Option (D × HD)) : V → Hp → VK → Prop := fun x H Q => ∃ ι dx Hd d Hd', HRep K H ι Hd ∧ Rep K H ι dx x ∧ g dx Hd = some (d, Hd') ∧ QE K H ι d Hd' Q
noncomputable def rdC (K : PySem.W.Frag) (g : FF) : List V → Hp → VK → Prop := fun vs H Q => ∃ ι ds Hd d Hd', HRep K H ι Hd ∧ Paired (Rep K H ι) ds vs ∧ g ds Hd = some (d, Hd') ∧ QE K H ι d Hd' Q
noncomputable def rdM (K : PySem.W.Frag) (g : D → List D → HD → Option (D × HD)) : V → List V → Hp → VK → Prop := fun v vs H Q => ∃ ι x ds Hd d Hd', HRep K H ι Hd ∧ Rep K H ι x v ∧ Paired (Rep K H ι) ds vs ∧ g x ds Hd = some (d, Hd') ∧ QE K H ι d Hd' Q
noncomputable def PEf (X : Cx) (e : Expr) (f : EF) : Prop := PE X e (rdE X.K f)
noncomputable def PTf (X : Cx) (e : Expr) (f : TF) : Prop := PT X e (rdT X.K f)
noncomputable def PWf (X : Cx) (e : Expr) (f : TF) : Prop := PW X e (rdT X.K f)
noncomputable def PAf (X : Cx) (es : List Expr) (f : AF) : Prop := PA X es (rdA X.K f)
noncomputable def PSf (X : Cx) (st : Stmt) (f : SF) : Prop := PS X st (rdS X.K f)
noncomputable def PSsf (X : Cx) (st : List Stmt) (f : SF) : Prop := PSs X st (rdS X.K f)
noncomputable def PGf (X : Cx) (tg : Expr) (g : GF) : Prop := PG X tg (rdG X.K g)
noncomputable def OpF (X : Cx) (f : Value → Value → Sem Value) (g : F2) : Prop := OpR X f (rd2 X.K g)
noncomputable def UnF (X : Cx) (f : Value → Sem Value) (g : D → HD → Option (D × HD)) : Prop := UnR X f (rd1 X.K g)
noncomputable def CallF (X : Cx) (f : Value) (g : FF) : Prop := CallR X f (rdC X.K g)
noncomputable def IxF (X : Cx) (g : F2) : Prop := IxR X (rd2 X.K g)
noncomputable def MtF (X : Cx) (id : String) (g : D → List D → HD → Option (D × HD)) : Prop := MtR X id (rdM X.K g)
section
variable {X : Cx} {e a b c : Expr} {es : List Expr} {pos : Pos} {st : Stmt} {sts : List Stmt}
theorem PEi {t t' : TE} (h : PE X e t) (i : ∀ σ H Q, t' σ H Q → t σ H Q) : PE X e t' := fun pins s σ H Q I q => h pins s σ H Q I (i σ H Q q)
theorem PTi {t t' : TT} (h : PT X e t) (i : ∀ σ H Q, t' σ H Q → t σ H Q) : PT X e t' := fun pins s σ H Q I q => h pins s σ H Q I (i σ H Q q)
theorem PWi {t t' : TT} (h : PW X e t) (i : ∀ σ H Q, t' σ H Q → t σ H Q) : PW X e t' := fun wh pins s σ H Q I q => h wh pins s σ H Q I (i σ H Q q)
theorem PAi {t t' : TA} (h : PA X es t) (i : ∀ σ H Q, t' σ H Q → t σ H Q) : PA X es t' := fun ps pins s σ H Q I q => h ps pins s σ H Q I (i σ H Q q)
theorem PSi {t t' : TS} (h : PS X st t) (i : ∀ E σ H, t' E σ H → t E σ H) : PS X st t' := fun pins s σ H E I q => h pins s σ H E I (i E σ H q)
theorem PSsi {t t' : TS} (h : PSs X sts t) (i : ∀ E σ H, t' E σ H → t E σ H) : PSs X sts t' := fun pins s σ H E I q => h pins s σ H E I (i E σ H q)
theorem PGi {t t' : TG} (h : PG X e t) (i : ∀ v σ H Q, t' v σ H Q → t v σ H Q) : PG X e t' := fun pins s σ H v u Q I r q => h pins s σ H v u Q I r (i v σ H Q q)
theorem OpRi {f : Value → Value → Sem Value} {t t' : R2} (h : OpR X f t) (i : ∀ x y H Q, t' x y H Q → t x y H Q) : OpR X f t' := fun pins s σ H x y v u Q I r1 r2 q => h pins s σ H x y v u Q I r1 r2 (i x y H Q q)
noncomputable def eVar (i : Nat) : EF := fun σ H => (σ[i]?).join.map fun d => (d, H)
noncomputable def eC (d : D) : EF := fun _ H => some (d, H)
theorem pef_var {i : Nat} {x : Str} (h : PE X (.Name x pos) (tVar i)) : PEf X (.Name x pos) (eVar i) := by
  refine PEi h fun σ H Q ⟨ι, σd, Hd, d, Hd', s, hr, e, q⟩ => ?_
  unfold eVar at e
  cases hx : σd[i]? with
  | none => rw [hx] at e; cases e
  | some o =>
    cases o with
    | none => rw [hx] at e; cases e
    | some d0 =>
      rw [hx] at e
      have e' : (d0, Hd) = (d, Hd') := Option.some.inj e
      obtain ⟨rfl, rfl⟩ := Prod.mk.inj e'
      obtain ⟨v, h1, h2⟩ := s.var i d0 hx
      exact ⟨v, h1, q v H ι Le.refl hr h2⟩
theorem pef_C {v : V} {d : D} (h : PE X e (tC v)) (r : ∀ H ι, Rep X.K H ι d v) : PEf X e (eC d) := by
  refine PEi h fun σ H Q ⟨ι, σd, Hd, d', Hd', s, hr, e, q⟩ => ?_
  cases e
  exact q v H ι Le.refl hr (r H ι)
theorem pef_int {i j} : PEf X (.Constant (.int i) j pos) (eC (.int i)) := pef_C pe_int fun _ _ => by simp
theorem pef_bl {b j} : PEf X (.Constant (.bool b) j pos) (eC (.bl b)) := pef_C pe_bl fun _ _ => by simp
theorem pef_non {j} : PEf X (.Constant .none j pos) (eC .non) := pef_C pe_non fun _ _ => by simp
theorem pef_str {x j} : PEf X (.Constant (.str x) j pos) (eC (.str x)) := pef_C pe_str fun _ _ => by simp
theorem pef_ty {x : Str} {n : String} (hg : Gl X x) (hm : X.mg x = none) (hv : bootBuiltins x = some (.type n)) (hn : x ≠ "__name__" := by decide) (hd : (x == ("__debug__" : Str)) = false := by decide) : PEf X (.Name x pos) (eC (.ty n)) :=
  pef_C (pe_bltn (v := .ty n) hg hm hv rfl hn hd) fun _ _ => by simp
noncomputable def eOp (g : F2) (fa fb : EF) : EF := fun σ H => (fa σ H).bind fun p => (fb σ p.2).bind fun q => g p.1 q.1 q.2
theorem rd_op {fa fb : EF} {g : F2} {σ : L2.St} {H : Hp} {Q : VK} {K : PySem.W.Frag} (h : rdE K (eOp g fa fb) σ H Q) : tOp (rd2 K g) (rdE K fa) (rdE K fb) σ H Q := by
  obtain ⟨ι, σd, Hd, d, Hd', s, hr, e, q⟩ := h
  obtain ⟨⟨x, H1⟩, e1, e⟩ := Option.bind_eq_some_iff.mp e
  obtain ⟨⟨y, H2⟩, e2, e⟩ := Option.bind_eq_some_iff.mp e
  exact ⟨ι, σd, Hd, x, H1, s, hr, e1, fun v1 H1' ι1 l1 h1 r1 => ⟨ι1, σd, H1, y, H2, s.mono l1, h1, e2, fun v2 H2' ι2 l2 h2 r2 =>
    ⟨ι2, x, y, H2, d, Hd', h2, r1.mono l2, r2, e, fun v H' ι' l h r => q v H' ι' ((l1.trans l2).trans l) h r⟩⟩⟩
theorem pef_op {op : Operator} {g : F2} {fa fb : EF} (ho : OpF X (binaryOp op) g) (ha : PEf X a fa) (hb : PEf X b fb) : PEf X (.BinOp a op b pos) (eOp g fa fb) :=
  PEi (pe_op ho ha hb) fun _ _ _ h => rd_op h
theorem pef_cmp {op : CmpOp} {g : F2} {fa fb : EF} (ho : OpF X (compareOp op) g) (ha : PEf X a fa) (hb : PEf X b fb) (hm : behindInMarks op b = false) : PEf X (.Compare a [op] [b] pos) (eOp g fa fb) :=
  PEi (pe_cmpR ho ha hb hm) fun _ _ _ h => rd_op h
theorem pef_ix {g : F2} {fa fb : EF} (ho : IxF X g) (ha : PEf X a fa) (hb : PEf X b fb) (hs : PlainIx b) : PEf X (.Subscript a b pos) (eOp g fa fb) :=
  PEi (pe_ix ho ha hb hs) fun _ _ _ h => rd_op h
noncomputable def eUn (g : D → HD → Option (D × HD)) (fa : EF) : EF := fun σ H => (fa σ H).bind fun p => g p.1 p.2
theorem pef_un {op : UnaryOp} {g : D → HD → Option (D × HD)} {fa : EF} (ho : UnF X (unaryOp op) g) (ha : PEf X a fa) : PEf X (.UnaryOp op a pos) (eUn g fa) := by
  refine PEi (pe_un ho ha) fun σ H Q ⟨ι, σd, Hd, d, Hd', s, hr, e, q⟩ => ?_
  obtain ⟨⟨x, H1⟩, e1, e⟩ := Option.bind_eq_some_iff.mp e
  exact ⟨ι, σd, Hd, x, H1, s, hr, e1, fun v1 H1' ι1 l1 h1 r1 => ⟨ι1, x, H1, d, Hd', h1, r1, e, fun v H' ι' l h r => q v H' ι' (l1.trans l) h r⟩⟩
noncomputable def blD : D → Option Bool
  | .bl b => some b
  | _ => none
noncomputable def tOf (f : EF) : TF := fun σ H => (f σ H).bind fun p => (blD p.1).map fun b => (b, p.2)
theorem rep_blD {K : PySem.W.Frag} {H : Hp} {ι : List Addr} {d : D} {b : Bool} {v : V} (e : blD d = some b) (r : Rep K H ι d v) : v = .bl b := by
  cases d <;> simp [blD] at e
  subst e
  simpa using r
theorem ptf_cmp {op : CmpOp} {g : F2} {fa fb : EF} (ho : OpF X (compareOp op) g) (ha : PEf X a fa) (hb : PEf X b fb) (hm : behindInMarks op b = false) : PTf X (.Compare a [op] [b] pos) (tOf (eOp g fa fb)) := by
  refine PTi (pt_cmpR ho ha hb hm) fun σ H Q ⟨ι, σd, Hd, bb, Hd', s, hr, e, q⟩ => ?_
  obtain ⟨⟨x, H1⟩, e1, e⟩ := Option.bind_eq_some_iff.mp e
  obtain ⟨b', eb, e⟩ := Option.map_eq_some_iff.mp e
  cases e
  exact rd_op ⟨ι, σd, Hd, x, H1, s, hr, e1, fun v H' ι' l h r => ⟨bb, rep_blD eb r, q H' ι' l h⟩⟩
noncomputable def truD : D → HD → Option Bool
  | .non, _ => some false
  | .bl b, _ => some b
  | .int i, _ => some (i != 0)
  | .tup xs, _ => some (!xs.isEmpty)
  | .fl xs, _ => some (!xs.isEmpty)
  | .str x, _ => if x.length ≤ sizeLine then some ((x.length : Int) != 0) else none
  | .ref n, H => match H[n]? with
    | some (.lst xs) => some (!xs.isEmpty)
    | _ => none
  | _, _ => none
theorem prd_empty {α β : Type} {F : α → β → Prop} {xs : List α} {us : List β} (r : Paired F xs us) : (!us.isEmpty) = !xs.isEmpty := by cases r <;> rfl
theorem truV_of {K : PySem.W.Frag} {H : Hp} {ι : List Addr} {Hd : HD} {d : D} {k : Bool} {v : V} (hr : HRep K H ι Hd) (r : Rep K H ι d v) (e : truD d Hd = some k) : TruV K v H k := by
  cases d with
  | non => simp at r; subst r; simp [truD] at e; subst e; exact rfl
  | bl b => simp at r; subst r; simp [truD] at e; subst e; exact rfl
  | int i => simp at r; subst r; simp [truD] at e; subst e; exact rfl
  | ty n => simp [truD] at e
  | str x =>
    simp at r; subst r
    simp only [truD] at e
    split at e
    · rename_i hl
      cases e
      exact ⟨hl, rfl⟩
    · cases e
  | tup xs =>
    obtain ⟨ad, vs, rfl, h, p⟩ := rep_tup.mp r
    cases (show some (!xs.isEmpty) = some k from e)
    exact .inr (.inl ⟨vs, h, by rw [prd_empty p]⟩)
  | fl xs =>
    obtain ⟨ad, vs, rfl, h, p⟩ := rep_fl.mp r
    cases (show some (!xs.isEmpty) = some k from e)
    exact .inl ⟨vs, h.sq, by rw [prd_empty p]⟩
  | ref n =>
    obtain ⟨ad, rfl, h⟩ := rep_ref.mp r
    simp only [truD] at e
    split at e
    · rename_i xs ho
      cases e
      obtain ⟨vs, h1, p⟩ := hr.obj n ad _ h ho
      exact .inl ⟨vs, SqL.of h1, by rw [prd_empty p]⟩
    · cases e
noncomputable def tTru (f : EF) : TF := fun σ H => (f σ H).bind fun p => (truD p.1 p.2).map fun b => (b, p.2)
theorem ptf_truth {fa : EF} (ha : PEf X a fa) (he : ∀ whole, isTrue a X.env whole = (do let v ← whole; standAt a.pos; holding [v] (truthy v))) : PTf X a (tTru fa) := by
  refine PTi (pt_truth ha he) fun σ H Q ⟨ι, σd, Hd, bb, Hd', s, hr, e, q⟩ => ?_
  obtain ⟨⟨x, H1⟩, e1, e⟩ := Option.bind_eq_some_iff.mp e
  obtain ⟨b', eb, e⟩ := Option.map_eq_some_iff.mp e
  cases e
  exact ⟨ι, σd, Hd, x, H1, s, hr, e1, fun v H' ι' l h r => ⟨bb, truV_of h r eb, q H' ι' l h⟩⟩
noncomputable def tNo (t : TF) : TF := fun σ H => (t σ H).map fun p => (!p.1, p.2)
noncomputable def tAn (t u : TF) : TF := fun σ H => (t σ H).bind fun p => if p.1 = true then u σ p.2 else some (false, p.2)
noncomputable def tOrr (t u : TF) : TF := fun σ H => (t σ H).bind fun p => if p.1 = true then some (true, p.2) else u σ p.2
theorem ptf_not {t : TF} (h : PTf X a t) : PTf X (.UnaryOp .Not a pos) (tNo t) := by
  refine PTi (pt_not h) fun σ H Q ⟨ι, σd, Hd, bb, Hd', s, hr, e, q⟩ => ?_
  obtain ⟨⟨x, H1⟩, e1, e⟩ := Option.map_eq_some_iff.mp e
  cases e
  exact ⟨ι, σd, Hd, x, H1, s, hr, e1, fun H' ι' l h => q H' ι' l h⟩
theorem pwf_and1 {t : TF} (h : PTf X a t) : PWf X (.BoolOp .And [a] pos) t := pw_and1 h
theorem pwf_or1 {t : TF} (h : PTf X a t) : PWf X (.BoolOp .Or [a] pos) t := pw_or1 h
theorem pwf_and {t u : TF} (h : PTf X a t) (h2 : PWf X (.BoolOp .And (b :: es) pos) u) : PWf X (.BoolOp .And (a :: b :: es) pos) (tAn t u) := by
  refine PWi (pw_and h h2) fun σ H Q ⟨ι, σd, Hd, bb, Hd', s, hr, e, q⟩ => ?_
  obtain ⟨⟨x, H1⟩, e1, e⟩ := Option.bind_eq_some_iff.mp e
  refine ⟨ι, σd, Hd, x, H1, s, hr, e1, fun H' ι' l h => ?_⟩
  cases x with
  | true =>
    rw [if_pos rfl]
    exact ⟨ι', σd, H1, bb, Hd', s.mono l, h, by simpa using e, fun H2 ι2 l2 h2 => q H2 ι2 (l.trans l2) h2⟩
  | false =>
    rw [if_neg (by simp)]
    simp at e
    obtain ⟨rfl, rfl⟩ := e
    exact q H' ι' l h
theorem pwf_or {t u : TF} (h : PTf X a t) (h2 : PWf X (.BoolOp .Or (b :: es) pos) u) : PWf X (.BoolOp .Or (a :: b :: es) pos) (tOrr t u) := by
  refine PWi (pw_or h h2) fun σ H Q ⟨ι, σd, Hd, bb, Hd', s, hr, e, q⟩ => ?_
  obtain ⟨⟨x, H1⟩, e1, e⟩ := Option.bind_eq_some_iff.mp e
  refine ⟨ι, σd, Hd, x, H1, s, hr, e1, fun H' ι' l h => ?_⟩
  cases x with
  | true =>
    rw [if_pos rfl]
    simp at e
    obtain ⟨rfl, rfl⟩ := e
    exact q H' ι' l h
  | false =>
    rw [if_neg (by simp)]
    exact ⟨ι', σd, H1, bb, Hd', s.mono l, h, by simpa using e, fun H2 ι2 l2 h2 => q H2 ι2 (l.trans l2) h2⟩
theorem PWf.pt {t : TF} (h : PWf X a t) : PTf X a t := h _
noncomputable def eNo (f : EF) : EF := fun σ H => (f σ H).bind fun p => (blD p.1).map fun b => (.bl (!b), p.2)
noncomputable def eAn (f g : EF) : EF := fun σ H => (f σ H).bind fun p => (blD p.1).bind fun b => if b = true then g σ p.2 else some (.bl false, p.2)
noncomputable def eOrr (f g : EF) : EF := fun σ H => (f σ H).bind fun p => (blD p.1).bind fun b => if b = true then some (.bl true, p.2) else g σ p.2
noncomputable def eIf (t : TF) (f g : EF) : EF := fun σ H => (t σ H).bind fun p => if p.1 = true then f σ p.2 else g σ p.2
theorem pef_not {f : EF} (h : PEf X a f) : PEf X (.UnaryOp .Not a pos) (eNo f) := by
  refine PEi (pe_not h) fun σ H Q ⟨ι, σd, Hd, d, Hd', s, hr, e, q⟩ => ?_
  obtain ⟨⟨x, H1⟩, e1, e⟩ := Option.bind_eq_some_iff.mp e
  obtain ⟨b', eb, e⟩ := Option.map_eq_some_iff.mp e
  cases e
  exact ⟨ι, σd, Hd, x, H1, s, hr, e1, fun v H' ι' l h r => ⟨b', rep_blD eb r, q _ H' ι' l h (by simp)⟩⟩
theorem pef_one {op} {f : EF} (h : PEf X a f) : PEf X (.BoolOp op [a] pos) f := pe_one h
theorem pef_and {f g : EF} (h : PEf X a f) (h2 : PEf X (.BoolOp .And (b :: es) pos) g) : PEf X (.BoolOp .And (a :: b :: es) pos) (eAn f g) := by
  refine PEi (pe_and h h2) fun σ H Q ⟨ι, σd, Hd, d, Hd', s, hr, e, q⟩ => ?_
  obtain ⟨⟨x, H1⟩, e1, e⟩ := Option.bind_eq_some_iff.mp e
  obtain ⟨b', eb, e⟩ := Option.bind_eq_some_iff.mp e
  refine ⟨ι, σd, Hd, x, H1, s, hr, e1, fun v H' ι' l h r => ⟨b', rep_blD eb r, ?_⟩⟩
  cases b' with
  | true =>
    rw [if_pos rfl]
    exact ⟨ι', σd, H1, d, Hd', s.mono l, h, by simpa using e, fun v2 H2 ι2 l2 h2 r2 => q v2 H2 ι2 (l.trans l2) h2 r2⟩
  | false =>
    rw [if_neg (by simp)]
    simp at e
    obtain ⟨rfl, rfl⟩ := e
    exact q _ H' ι' l h (by simp)
noncomputable def aNil : AF := fun _ H => some ([], H)
noncomputable def aCons (f : EF) (g : AF) : AF := fun σ H => (f σ H).bind fun p => (g σ p.2).map fun q => (p.1 :: q.1, q.2)
theorem paf_nil : PAf X [] aNil := by
  refine PAi pa_nil fun σ H Q ⟨ι, σd, Hd, d, Hd', s, hr, e, q⟩ => ?_
  cases e
  exact q [] H ι Le.refl hr .nil
theorem paf_cons {f : EF} {g : AF} (ha : PEf X e f) (hr : PAf X es g) (hs : starEach (e :: es) X.env = (false, eval e X.env) :: starEach es X.env := by exact star_cons rfl) : PAf X (e :: es) (aCons f g) := by
  refine PAi (pa_cons ha hr hs) fun σ H Q ⟨ι, σd, Hd, d, Hd', s, hr, e, q⟩ => ?_
  obtain ⟨⟨x, H1⟩, e1, e⟩ := Option.bind_eq_some_iff.mp e
  obtain ⟨⟨y, H2⟩, e2, e⟩ := Option.map_eq_some_iff.mp e
  cases e
  exact ⟨ι, σd, Hd, x, H1, s, hr, e1, fun v1 H1' ι1 l1 h1 r1 => ⟨ι1, σd, H1, y, H2, s.mono l1, h1, e2, fun vs H2' ι2 l2 h2 r2 => q _ H2' ι2 (l1.trans l2) h2 (.cons (r1.mono l2) r2)⟩⟩
noncomputable def mkT (xs : List D) (H : HD) : Option (D × HD) := if xs.length ≤ sizeLine then some (.tup xs, H) else none
noncomputable def mkL (xs : List D) (H : HD) : Option (D × HD) := if xs.length ≤ sizeLine then some (.ref H.length, H ++ [.lst xs]) else none
theorem mkT_some {xs : List D} {H : HD} {r : D × HD} (h : mkT xs H = some r) : xs.length ≤ sizeLine ∧ r = (.tup xs, H) := by
  unfold mkT at h
  split at h
  · rename_i hl; cases h; exact ⟨hl, rfl⟩
  · cases h
theorem mkL_some {xs : List D} {H : HD} {r : D × HD} (h : mkL xs H = some r) : xs.length ≤ sizeLine ∧ r = (.ref H.length, H ++ [.lst xs]) := by
  unfold mkL at h
  split at h
  · rename_i hl; cases h; exact ⟨hl, rfl⟩
  · cases h
theorem new_tup {K : PySem.W.Frag} {H : Hp} {ι : List Addr} {Hd Hd' : HD} {xs : List D} {vs : List V} {d : D} {Q : VK} (hr : HRep K H ι Hd) (r : Paired (Rep K H ι) xs vs) (e : mkT xs Hd = some (d, Hd')) (q : QE K H ι d Hd' Q) :
    vs.length ≤ sizeLine ∧ ∀ p, H p = none → Q (.ref p) (upd H p (.tup vs)) := by
  obtain ⟨hl, e⟩ := mkT_some e
  cases e
  refine ⟨by rw [← Prd.len r]; exact hl, fun p hp => ?_⟩
  exact q _ _ ι (Le.fresh hp _) (hr.tup hp _) (rep_tup.mpr ⟨p, vs, rfl, SqT.of upd_same, Prd.mono (Le.fresh hp _) r⟩)
theorem new_lst {K : PySem.W.Frag} {H : Hp} {ι : List Addr} {Hd Hd' : HD} {xs : List D} {vs : List V} {d : D} {Q : VK} (hr : HRep K H ι Hd) (r : Paired (Rep K H ι) xs vs) (e : mkL xs Hd = some (d, Hd')) (q : QE K H ι d Hd' Q) :
    vs.length ≤ sizeLine ∧ ∀ p, H p = none → Q (.ref p) (upd H p (.lst vs)) := by
  obtain ⟨hl, e⟩ := mkL_some e
  cases e
  refine ⟨by rw [← Prd.len r]; exact hl, fun p hp => ?_⟩
  refine q _ _ (ι ++ [p]) (Le.fresh1 hp _) (hr.new hp ⟨vs, upd_same, Prd.mono (Le.fresh1 hp _) r⟩) (rep_ref.mpr ⟨p, rfl, ?_⟩)
  rw [← hr.len]; simp
noncomputable def eTup (f : AF) : EF := fun σ H => (f σ H).bind fun p => mkT p.1 p.2
noncomputable def eLst (f : AF) : EF := fun σ H => (f σ H).bind fun p => mkL p.1 p.2
theorem pef_tup {f : AF} {x1} (h : PAf X es f) : PEf X (.Tuple es x1 pos) (eTup f) := by
  refine PEi (pe_tup h) fun σ H Q ⟨ι, σd, Hd, d, Hd', s, hr, e, q⟩ => ?_
  obtain ⟨⟨x, H1⟩, e1, e⟩ := Option.bind_eq_some_iff.mp e
  exact ⟨ι, σd, Hd, x, H1, s, hr, e1, fun vs H' ι' l h r => new_tup h r e fun v2 H2 ι2 l2 h2 r2 => q v2 H2 ι2 (l.trans l2) h2 r2⟩
theorem pef_lst {f : AF} (h : PAf X es f) : PEf X (.List es pos) (eLst f) := by
  refine PEi (pe_lst h) fun σ H Q ⟨ι, σd, Hd, d, Hd', s, hr, e, q⟩ => ?_
  obtain ⟨⟨x, H1⟩, e1, e⟩ := Option.bind_eq_some_iff.mp e
  exact ⟨ι, σd, Hd, x, H1, s, hr, e1, fun vs H' ι' l h r => new_lst h r e fun v2 H2 ι2 l2 h2 r2 => q v2 H2 ι2 (l.trans l2) h2 r2⟩
noncomputable def eCB (g : FF) (f : AF) : EF := fun σ H => (f σ H).bind fun p => g p.1 p.2
theorem rd_cb {f : AF} {g : FF} {σ : L2.St} {H : Hp} {Q : VK} {K : PySem.W.Frag} (h : rdE K (eCB g f) σ H Q) : tCB (rdC K g) (rdA K f) σ H Q := by
  obtain ⟨ι, σd, Hd, d, Hd', s, hr, e, q⟩ := h
  obtain ⟨⟨x, H1⟩, e1, e⟩ := Option.bind_eq_some_iff.mp e
  exact ⟨ι, σd, Hd, x, H1, s, hr, e1, fun vs H' ι' l h r => ⟨ι', x, H1, d, Hd', h, r, e, fun v2 H2 ι2 l2 h2 r2 => q v2 H2 ι2 (l.trans l2) h2 r2⟩⟩
theorem pef_callB {x : Str} {id : String} {g : FF} {f : AF} {p : Pos} (hc : CallF X (.builtin id) g) (hg : Gl X x) (hm : X.mg x = none) (hv : bootBuiltins x = some (.builtin id)) (ha : PAf X (e :: es) f) (hn : x ≠ "__name__" := by decide) (hdb : (x == ("__debug__" : Str)) = false := by decide)
    (he : starEach (e :: es) X.env = (false, eval e X.env) :: starEach es X.env := by exact star_cons rfl) (hpl : (backTo pos (starEach es X.env)).any (·.1) = false := by exact star_any rfl) : PEf X (.Call (.Name x p) (e :: es) [] pos) (eCB g f) :=
  PEi (pe_callB hc hg hm hv ha hn hdb he hpl) fun _ _ _ h => rd_cb h
theorem pef_callTy {x : Str} {T : String} {g : FF} {f : AF} {p : Pos} (hc : CallF X (.type T) g) (hg : Gl X x) (hm : X.mg x = none) (hv : bootBuiltins x = some (.type T)) (ha : PAf X (e :: es) f) (hn : x ≠ "__name__" := by decide) (hdb : (x == ("__debug__" : Str)) = false := by decide)
    (he : starEach (e :: es) X.env = (false, eval e X.env) :: starEach es X.env := by exact star_cons rfl) (hpl : (backTo pos (starEach es X.env)).any (·.1) = false := by exact star_any rfl) : PEf X (.Call (.Name x p) (e :: es) [] pos) (eCB g f) :=
  PEi (pe_callTy hc hg hm hv ha hn hdb he hpl) fun _ _ _ h => rd_cb h
noncomputable def spF (K : PySem.W.Frag) (n : Nat) (F : FF) : Sp := fun vs H Q _ => ∃ ι ds Hd d Hd', ds.length = n ∧ HRep K H ι Hd ∧ Paired (Rep K H ι) ds vs ∧ F ds Hd = some (d, Hd') ∧ QE K H ι d Hd' Q
noncomputable def eCall (n : Nat) (F : FF) (f : AF) : EF := fun σ H => (f σ H).bind fun p => if p.1.length = n then F p.1 p.2 else none
theorem pef_call {k n : Nat} {f : Addr} {fd : FuncData} {ps : List Str} {x : Str} {p : Pos} {F : FF} {fa : AF} (G : FnOk X.prog X.w X.K X.mg X.base CX0 k f fd ps (spF X.K n F)) (hr : Room k X.A) (hg : Gl X x) (hm : X.mg x = some (.ref f)) (hk : PySem.W.keepIn X.K (.ref f) = true)
    (hb : Binds X.K fd ps []) (ha : PAf X (e :: es) fa) (hdb : (x == ("__debug__" : Str)) = false := by decide) (he : starEach (e :: es) X.env = (false, eval e X.env) :: starEach es X.env := by exact star_cons rfl) (hpl : (backTo pos (starEach es X.env)).any (·.1) = false := by exact star_any rfl) :
    PEf X (.Call (.Name x p) (e :: es) [] pos) (eCall n F fa) := by
  refine PEi (pe_call (E := E0) G hr hg hm hk hb .nil pass0 ha hdb he hpl) fun σ H Q ⟨ι, σd, Hd, d, Hd', s, hr, e, q⟩ => ?_
  obtain ⟨⟨x, H1⟩, e1, e⟩ := Option.bind_eq_some_iff.mp e
  refine ⟨ι, σd, Hd, x, H1, s, hr, e1, fun vs H' ι' l h r => ?_⟩
  dsimp only at e
  split at e
  · rename_i hl
    exact ⟨ι', x, H1, d, Hd', hl, h, by simpa using r, e, fun v2 H2 ι2 l2 h2 r2 => q v2 H2 ι2 (l.trans l2) h2 r2⟩
  · cases e
noncomputable def isLst : D → HD → Bool
  | .ref n, H => match H[n]? with
    | some (.lst _) => true
    | _ => false
  | _, _ => false
theorem isLst_ty {K : PySem.W.Frag} {H : Hp} {ι : List Addr} {Hd : HD} {d : D} {v : V} (hr : HRep K H ι Hd) (r : Rep K H ι d v) (e : isLst d Hd = true) : tyV K "list" v H := by
  cases d with
  | ref n =>
    obtain ⟨ad, rfl, h⟩ := rep_ref.mp r
    simp only [isLst] at e
    split at e
    · rename_i xs ho
      obtain ⟨vs, h1, p⟩ := hr.obj n ad _ h ho
      exact .inl ⟨rfl, vs, SqL.of h1⟩
    · cases e
  | _ => simp [isLst] at e
noncomputable def eLM (g : D → List D → HD → Option (D × HD)) (fo : EF) (f : AF) : EF := fun σ H => (fo σ H).bind fun o => if isLst o.1 o.2 = true then (f σ o.2).bind fun p => g o.1 p.1 p.2 else none
theorem pef_lm {o : Expr} {name : Str} {apos cpos : Pos} {id : String} {g : D → List D → HD → Option (D × HD)} {fo : EF} {f : AF} (slot : Slot "list" name id) (hty : typeOf (.builtin id) = pure (.type "method_descriptor")) (hm : MtF X id g) (ho : PEf X o fo) (ha : PAf X (e :: es) f)
    (hbase : attributeBase o name X.env (eval o X.env) = eval o X.env := by rfl)
    (hfew : ((backTo cpos (starEach (e :: es) X.env)).all (fun x => !x.1) && (backToKw cpos (keywordEach [] X.env)).all (fun x => x.1.isSome)
      && decide ((e :: es).length + ([] : List Keyword).length + (if ([] : List Keyword).isEmpty then 0 else 1) < 30)) = true := by exact star_few rfl (by decide))
    (hline : (apos.endLine == cpos.line) = true := by rfl) (hs : starEach (e :: es) X.env = (false, eval e X.env) :: starEach es X.env := by exact star_cons rfl) (hplain : (backTo cpos (starEach es X.env)).any (·.1) = false := by exact star_any rfl) :
    PEf X (.Call (.Attribute o name apos) (e :: es) [] cpos) (eLM g fo f) := by
  refine PEi (pe_bm PySem.F.plainAttrs_list slot hty hm ho ha hbase hfew hline hs hplain) fun σ H Q ⟨ι, σd, Hd, d, Hd', s, hr, e, q⟩ => ?_
  obtain ⟨⟨x, H1⟩, e1, e⟩ := Option.bind_eq_some_iff.mp e
  dsimp only at e
  split at e
  · rename_i hl
    obtain ⟨⟨y, H2⟩, e2, e⟩ := Option.bind_eq_some_iff.mp e
    exact ⟨ι, σd, Hd, x, H1, s, hr, e1, fun v1 H1' ι1 l1 h1 r1 => ⟨isLst_ty h1 r1 hl, ι1, σd, H1, y, H2, s.mono l1, h1, e2, fun vs H2' ι2 l2 h2 r2 =>
      ⟨ι2, x, y, H2, d, Hd', h2, r1.mono l2, r2, e, fun v H' ι' l h r => q v H' ι' ((l1.trans l2).trans l) h r⟩⟩⟩
  · cases e
noncomputable def sNil : SF := fun σ H => some (.nx, σ, H)
noncomputable def sSeq (f g : SF) : SF := fun σ H => (f σ H).bind fun r => match r.1 with
  | .nx => g r.2.1 r.2.2
  | _ => some r
theorem pssf_nil : PSsf X [] sNil := by
  refine PSsi pss_nil fun E σ H ⟨ι, σd, Hd, fl, σd', Hd', s, hr, e, q⟩ => ?_
  cases e
  exact q σ H ι Le.refl hr s
theorem pssf_cons {f g : SF} (h1 : PSf X st f) (h2 : PSsf X sts g) : PSsf X (st :: sts) (sSeq f g) := by
  refine PSsi (pss_cons h1 h2) fun E σ H ⟨ι, σd, Hd, fl, σd', Hd', s, hr, e, q⟩ => ?_
  obtain ⟨⟨f1, σ1, H1⟩, e1, e⟩ := Option.bind_eq_some_iff.mp e
  refine ⟨ι, σd, Hd, f1, σ1, H1, s, hr, e1, fun σ' H' ι' l h ss => ?_⟩
  cases f1 with
  | nx => exact ⟨ι', σ1, H1, fl, σd', Hd', ss, h, e, fun σ2 H2 ι2 l2 h2 s2 => q σ2 H2 ι2 (l.trans l2) h2 s2⟩
  | bk => cases e; exact q σ' H' ι' l h ss
  | ct => cases e; exact q σ' H' ι' l h ss
  | rt d => cases e; exact q σ' H' ι' l h ss
noncomputable def sRet (f : EF) : SF := fun σ H => (f σ H).map fun p => (.rt p.1, σ, p.2)
theorem psf_ret {f : EF} (he : PEf X e f) : PSf X (.Return (some e) pos) (sRet f) := by
  refine PSi (ps_ret he) fun E σ H ⟨ι, σd, Hd, fl, σd', Hd', s, hr, e, q⟩ => ?_
  obtain ⟨⟨x, H1⟩, e1, e⟩ := Option.map_eq_some_iff.mp e
  cases e
  exact ⟨ι, σd, Hd, x, H1, s, hr, e1, fun v H' ι' l h r => q σ H' ι' l h (s.mono l) v r⟩
noncomputable def sRetN : SF := fun σ H => some (.rt .non, σ, H)
noncomputable def sBrk : SF := fun σ H => some (.bk, σ, H)
noncomputable def sCnt : SF := fun σ H => some (.ct, σ, H)
noncomputable def sExpr (f : EF) : SF := fun σ H => (f σ H).map fun p => (.nx, σ, p.2)
theorem psf_expr {f : EF} (he : PEf X e f) (hs : swapsWith e none pos.line X.env = pure false := by rfl) : PSf X (.Expr e pos) (sExpr f) := by
  refine PSi (ps_expr he hs) fun E σ H ⟨ι, σd, Hd, fl, σd', Hd', s, hr, e, q⟩ => ?_
  obtain ⟨⟨x, H1⟩, e1, e⟩ := Option.map_eq_some_iff.mp e
  cases e
  exact ⟨ι, σd, Hd, x, H1, s, hr, e1, fun v H' ι' l h r => q σ H' ι' l h (s.mono l)⟩
noncomputable def sIf (t : TF) (f g : SF) : SF := fun σ H => (t σ H).bind fun p => if p.1 = true then f σ p.2 else g σ p.2
theorem psf_if {t : TF} {f g : SF} {as bs : List Stmt} (hc : PTf X c t) (ha : PSsf X as f) (hb : PSsf X bs g) : PSf X (.If c as bs pos) (sIf t f g) := by
  refine PSi (ps_if hc ha hb) fun E σ H ⟨ι, σd, Hd, fl, σd', Hd', s, hr, e, q⟩ => ?_
  obtain ⟨⟨x, H1⟩, e1, e⟩ := Option.bind_eq_some_iff.mp e
  refine ⟨ι, σd, Hd, x, H1, s, hr, e1, fun H' ι' l h => ?_⟩
  cases x with
  | true =>
    rw [if_pos rfl]
    exact ⟨ι', σd, H1, fl, σd', Hd', s.mono l, h, by simpa using e, fun σ2 H2 ι2 l2 h2 s2 => q σ2 H2 ι2 (l.trans l2) h2 s2⟩
  | false =>
    rw [if_neg (by simp)]
    exact ⟨ι', σd, H1, fl, σd', Hd', s.mono l, h, by simpa using e, fun σ2 H2 ι2 l2 h2 s2 => q σ2 H2 ι2 (l.trans l2) h2 s2⟩
noncomputable def sSet (i : Nat) (f : EF) : SF := fun σ H => (f σ H).map fun p => (.nx, σ.set i (some p.1), p.2)
theorem psf_set {i : Nat} {x : Str} {f : EF} {pos' : Pos} (hN : X.N.Nodup) (hi : X.N[i]? = some x) (hx : Loc X.env.scope x) (he : PEf X e f) (hs : swapsWith e (some (.Name x pos')) pos.line X.env = pure false := by rfl) (hf : X.fn x = true ∨ X.env.scope.names.lookup x = some .local := by first | exact .inl rfl | exact .inr rfl | assumption) :
    PSf X (.Assign [.Name x pos'] e pos) (sSet i f) := by
  refine PSi (ps_set hN hi hx he hs hf) fun E σ H ⟨ι, σd, Hd, fl, σd', Hd', s, hr, e, q⟩ => ?_
  obtain ⟨⟨x, H1⟩, e1, e⟩ := Option.map_eq_some_iff.mp e
  cases e
  exact ⟨ι, σd, Hd, x, H1, s, hr, e1, fun v H' ι' l h r => q _ H' ι' l h ((s.mono l).set r i)⟩
noncomputable def gNm (i : Nat) : GF := fun d σ H => some (σ.set i (some d), H)
theorem pgf_name {i : Nat} {x : Str} (hN : X.N.Nodup) (hi : X.N[i]? = some x) (hx : Loc X.env.scope x) (hf : X.fn x = true ∨ X.env.scope.names.lookup x = some .local := by first | exact .inl rfl | exact .inr rfl | assumption) : PGf X (.Name x pos) (gNm i) := by
  refine PGi (pg_name hN hi hx hf) fun v σ H Q ⟨ι, σd, Hd, d, σd', Hd', s, hr, r, e, q⟩ => ?_
  cases e
  exact q _ H ι Le.refl hr (s.set r i)
noncomputable abbrev FSet := D → D → D → HD → Option HD
noncomputable def gSb (fo fi : EF) (g : FSet) : GF := fun d σ H => (fo σ H).bind fun o => (fi σ o.2).bind fun i => (g o.1 i.1 d i.2).map fun H' => (σ, H')
noncomputable abbrev GFs := List D → SD → HD → Option (SD × HD)
noncomputable def rdGs (K : PySem.W.Frag) (g : GFs) : TGs := fun vs σ H Q => ∃ ι σd Hd ds σd' Hd', SRep K H ι σ σd ∧ HRep K H ι Hd ∧ Paired (Rep K H ι) ds vs ∧ g ds σd Hd = some (σd', Hd') ∧
  ∀ σ' H' ι', Le K H ι H' ι' → HRep K H' ι' Hd' → SRep K H' ι' σ' σd' → Q σ' H'
noncomputable def PGsf (X : Cx) (ts : List Expr) (g : GFs) : Prop := PGs X ts (rdGs X.K g)
noncomputable def gNl : GFs := fun ds σ H => match ds with
  | [] => some (σ, H)
  | _ => none
noncomputable def gCn (g : GF) (h : GFs) : GFs := fun ds σ H => match ds with
  | d :: r => (g d σ H).bind fun p => h r p.1 p.2
  | [] => none
theorem PGsi {ts : List Expr} {t t' : TGs} (h : PGs X ts t) (i : ∀ v σ H Q, t' v σ H Q → t v σ H Q) : PGs X ts t' := fun pins s σ H v u Q I r q => h pins s σ H v u Q I r (i v σ H Q q)
theorem pgsf_nil : PGsf X [] gNl := by
  refine PGsi pgs_nil fun vs σ H Q ⟨ι, σd, Hd, ds, σd', Hd', s, hr, r, e, q⟩ => ?_
  cases r with
  | nil => cases e; exact ⟨rfl, q σ H ι Le.refl hr s⟩
  | cons _ _ => cases e
theorem pgsf_cons {g : GF} {h : GFs} (h1 : PGf X e g) (h2 : PGsf X es h) (hs : (assignEach (e :: es) X.env).map (·.2) = assign e X.env :: (assignEach es X.env).map (·.2) := by rfl) : PGsf X (e :: es) (gCn g h) := by
  refine PGsi (pgs_cons h1 h2 hs) fun vs σ H Q ⟨ι, σd, Hd, ds, σd', Hd', s, hr, r, e, q⟩ => ?_
  cases r with
  | nil => cases e
  | cons r rr =>
    obtain ⟨⟨σ1, H1⟩, e1, e⟩ := Option.bind_eq_some_iff.mp e
    exact ⟨_, _, rfl, ι, σd, Hd, _, σ1, H1, s, hr, r, e1, fun σ' H' ι' l h ss => ⟨ι', σ1, H1, _, σd', Hd', ss, h, Prd.mono l rr, e, fun σ2 H2 ι2 l2 h2 s2 => q σ2 H2 ι2 (l.trans l2) h2 s2⟩⟩
noncomputable def gTp (n : Nat) (g : GFs) : GF := fun d σ H => match d with
  | .tup ds => if ds.length = n then g ds σ H else none
  | _ => none
theorem pgf_tup {k n : Nat} {g : GFs} (hc : X.calm = true) (h : PGsf X es g) (hn : (assignEach es X.env).length = n := by rfl) (hst : (assignEach es X.env).findIdx? (·.1) = none := by rfl) : PGf X (.Tuple es k pos) (gTp n g) := by
  refine PGi (pg_tup hc h hn hst) fun v σ H Q ⟨ι, σd, Hd, d, σd', Hd', s, hr, r, e, q⟩ => ?_
  cases d with
  | tup ds =>
    obtain ⟨a, vs, rfl, h1, p⟩ := rep_tup.mp r
    simp only [gTp] at e
    split at e
    · rename_i hl
      exact ⟨a, vs, rfl, h1, by rw [← Prd.len p]; exact hl, ι, σd, Hd, ds, σd', Hd', s, hr, p, e, q⟩
    · cases e
  | _ => simp [gTp] at e
noncomputable def sAsg (f : EF) (g : GF) : SF := fun σ H => (f σ H).bind fun p => (g p.1 σ p.2).map fun q => (.nx, q.1, q.2)
theorem psf_asg {tg : Expr} {f : EF} {g : GF} (he : PEf X e f) (hg : PGf X tg g) (hs : swapsWithSole [tg] e pos.line X.env = pure false := by rfl) (hw : swappedStores [tg] e X.env = pure none := by rfl)
    (h1 : (assignEach [tg] X.env).map (·.2) = [assign tg X.env] := by rfl) : PSf X (.Assign [tg] e pos) (sAsg f g) := by
  refine PSi (ps_asg he hg hs hw h1) fun E σ H ⟨ι, σd, Hd, fl, σd', Hd', s, hr, e, q⟩ => ?_
  obtain ⟨⟨x, H1⟩, e1, e⟩ := Option.bind_eq_some_iff.mp e
  obtain ⟨⟨σ2, H2⟩, e2, e⟩ := Option.map_eq_some_iff.mp e
  cases e
  exact ⟨ι, σd, Hd, x, H1, s, hr, e1, fun v H' ι' l h r => ⟨ι', σd, H1, x, σ2, H2, s.mono l, h, r, e2, fun σ3 H3 ι3 l3 h3 s3 => q σ3 H3 ι3 (l.trans l3) h3 s3⟩⟩
noncomputable abbrev OwnD := List (Nat × DO)
noncomputable def okOwn (own : OwnD) (H : HD) : Prop := ∀ p ∈ own, H[p.1]? = some p.2
noncomputable abbrev ItF := SD → HD → Option ((List D × OwnD) × HD)
structure ItRep (K : PySem.W.Frag) (J : It) (xs : List D) (own : OwnD) (H0 : Hp) (ι0 : List Addr) : Prop where
  go : ∀ i H ι Hd, Le K H0 ι0 H ι → HRep K H ι Hd → okOwn own Hd → i < xs.length → J.go i H
  yld : ∀ i H ι Hd d x H', Le K H0 ι0 H ι → HRep K H ι Hd → okOwn own Hd → xs[i]? = some d → J.yld i H x H' → ∃ ι', Le K H ι H' ι' ∧ HRep K H' ι' Hd ∧ Rep K H' ι' d x
  stop : ∀ i H ι Hd, Le K H0 ι0 H ι → HRep K H ι Hd → okOwn own Hd → xs.length ≤ i → J.stop i H
noncomputable def rdI (K : PySem.W.Frag) (f : ItF) : TI := fun σ H R => ∃ ι σd Hd xs own Hd', SRep K H ι σ σd ∧ HRep K H ι Hd ∧ f σd Hd = some ((xs, own), Hd') ∧ ∀ J H' ι', Le K H ι H' ι' → HRep K H' ι' Hd' → ItRep K J xs own H' ι' → R J H'
noncomputable def PIf (X : Cx) (tg iter : Expr) (f : ItF) : Prop := PI X tg iter (rdI X.K f)
theorem PIi {tg iter : Expr} {t t' : TI} (h : PI X tg iter t) (i : ∀ σ H R, t' σ H R → t σ H R) : PI X tg iter t' := fun pins s σ H R I q => h pins s σ H R I (i σ H R q)
open Classical in
noncomputable def forL (own : OwnD) (g : GF) (body : SF) : List D → SF
  | [], σ, H => if okOwn own H then some (.nx, σ, H) else none
  | x :: r, σ, H => if okOwn own H then (g x σ H).bind fun p => (body p.1 p.2).bind fun q => match q.1 with
      | .nx => forL own g body r q.2.1 q.2.2
      | .ct => forL own g body r q.2.1 q.2.2
      | .bk => some (.nx, q.2.1, q.2.2)
      | .rt d => some (.rt d, q.2.1, q.2.2)
    else none
noncomputable def sFor (it : ItF) (g : GF) (body : SF) : SF := fun σ H => (it σ H).bind fun p => forL p.1.2 g body p.1.1 σ p.2
theorem psf_for {tg iter : Expr} {body : List Stmt} {f : ItF} {g : GF} {b : SF} (hp : PassesOwn (model X.prog X.w) X.A X.env X.xe) (hc : X.calm = true) (hi : PIf X tg iter f) (hg : PGf X tg g) (hb : PSsf X body b)
    (hs : ∀ x, foldedSetIterable iter X.env x = pure x := by intro _; rfl) : PSf X (.For tg iter body [] pos) (sFor f g b) := by
  refine PSi (ps_for hp hc hi hg hb hs) fun E σ H ⟨ι, σd, Hd, fl, σf, Hf, s, hr, e, q⟩ => ?_
  obtain ⟨⟨⟨xs, own⟩, H1⟩, e1, e⟩ := Option.bind_eq_some_iff.mp e
  refine ⟨ι, σd, Hd, xs, own, H1, s, hr, e1, fun J H0 ι0 l0 h0 it => ?_⟩
  refine ⟨fun i m σ H => m = xs.length - i ∧ i ≤ xs.length ∧ ∃ ι σd Hd, Le X.K H0 ι0 H ι ∧ SRep X.K H ι σ σd ∧ HRep X.K H ι Hd ∧ forL own g b (xs.drop i) σd Hd = some (fl, σf, Hf),
    ⟨xs.length, by simp, Nat.zero_le _, ι0, σd, H1, Le.refl, s.mono l0, h0, by simpa using e⟩, ?_⟩
  rintro i m σ2 H2 ⟨rfl, hi, ι2, σd2, Hd2, l2, s2, h2, e2⟩
  by_cases hlt : i < xs.length
  · have ed : xs.drop i = xs[i] :: xs.drop (i + 1) := List.drop_eq_getElem_cons hlt
    rw [ed, forL] at e2
    split at e2
    · rename_i ok
      obtain ⟨⟨σ3, H3⟩, e3, e2⟩ := Option.bind_eq_some_iff.mp e2
      obtain ⟨⟨f4, σ4, H4⟩, e4, e2⟩ := Option.bind_eq_some_iff.mp e2
      refine .inr ⟨it.go i H2 ι2 Hd2 l2 h2 ok hlt, fun σ' H' => (xs.length - (i + 1) = xs.length - (i + 1) ∧ i + 1 ≤ xs.length ∧ ∃ ι σd Hd, Le X.K H0 ι0 H' ι ∧ SRep X.K H' ι σ' σd ∧ HRep X.K H' ι Hd ∧ forL own g b (xs.drop (i + 1)) σd Hd = some (fl, σf, Hf)),
        fun σ' H' p => ⟨_, by omega, p⟩, fun x H' y => ?_⟩
      obtain ⟨ι3, l3, h3, r3⟩ := it.yld i H2 ι2 Hd2 xs[i] x H' l2 h2 ok (by simp [hlt]) y
      refine ⟨ι3, σd2, Hd2, xs[i], σ3, H3, s2.mono l3, h3, r3, e3, fun σ5 H5 ι5 l5 h5 s5 => ?_⟩
      refine ⟨ι5, σ3, H3, f4, σ4, H4, s5, h5, e4, fun σ6 H6 ι6 l6 h6 s6 => ?_⟩
      have L : Le X.K H0 ι0 H6 ι6 := ((l2.trans l3).trans l5).trans l6
      cases f4 with
      | nx => exact ⟨rfl, hlt, ι6, σ4, H4, L, s6, h6, e2⟩
      | ct => exact ⟨rfl, hlt, ι6, σ4, H4, L, s6, h6, e2⟩
      | bk => cases e2; exact q σ6 H6 ι6 (l0.trans L) h6 s6
      | rt d => cases e2; exact q σ6 H6 ι6 (l0.trans L) h6 s6
    · cases e2
  · have hi' : i = xs.length := by omega
    rw [List.drop_eq_nil_of_le (by omega), forL] at e2
    split at e2
    · rename_i ok
      have e3 : (FD.nx, σd2, Hd2) = (fl, σf, Hf) := Option.some.inj e2
      obtain ⟨rfl, e4⟩ := Prod.mk.inj e3
      obtain ⟨rfl, rfl⟩ := Prod.mk.inj e4
      exact .inl ⟨it.stop i H2 ι2 _ l2 h2 ok (by omega), q σ2 H2 ι2 (l0.trans l2) h2 s2⟩
    · cases e2
end
noncomputable def runB (n N : Nat) (b : SF) : FF := fun ds H => if ds.length = n then (b (ds.map some ++ List.replicate (N - ds.length) none) H).bind fun r => match r.1 with
    | .rt d => some (d, r.2.2)
    | .nx => some (.non, r.2.2)
    | _ => none
  else none
section
variable {P : Program} {w : World} {K : PySem.W.Frag} {mg : Str → Option Value} {base : Heap}
theorem fn_f {x qual : Str} {st : Stmt} {f : Addr} {fd : FuncData} {N ps : List Str} {k : Nat} {b : SF} (F : Fun K x qual st f fd) (S : FnScope N ps (defScope st))
    (hb : ∀ (cdv : Value) (A : Around) (outer : List Env) (s : Shared) (H : Hp) (E : XK), Room k (A.deeper (envOfC qual (defScope st) s.heap.objs.size f cdv)) →
      PSsf (cxOf CX0 P w K mg base N qual (defScope st) f cdv A outer s H E).nox (defBody st) b) : FnOk P w K mg base CX0 (k + 1) f fd ps (spF K ps.length (runB ps.length N.length b)) := by
  refine F.ok S (fun vs H Q E h => ?_) (fun cdv A outer s H vs Q E hr h => ?_)
  · obtain ⟨ι, ds, Hd, d, Hd', hl, _, r, _⟩ := h
    rw [← Prd.len r]; exact hl
  · obtain ⟨ι, ds, Hd, d, Hd', hl, hh, r, e, q⟩ := h
    refine ⟨_, hb cdv A outer s H E hr, ?_⟩
    unfold runB at e
    rw [if_pos hl] at e
    obtain ⟨⟨fl, σ1, H1⟩, e1, e⟩ := Option.bind_eq_some_iff.mp e
    refine ⟨ι, _, Hd, fl, σ1, H1, ?_, hh, e1, fun σ' H' ι' l h ss => ?_⟩
    · refine ⟨by simp [L2.start, Prd.len r], fun i d0 h0 => ?_⟩
      unfold L2.start
      by_cases hi : i < ds.length
      · rw [List.getElem?_append_left (by simpa using hi), List.getElem?_map] at h0
        cases ed : ds[i]? with
        | none => rw [ed] at h0; cases h0
        | some d1 =>
          rw [ed] at h0
          cases h0
          obtain ⟨v, hv, rv⟩ := Prd.get r ed
          refine ⟨v, ?_, rv⟩
          rw [List.getElem?_append_left (by rw [List.length_map, ← Prd.len r]; exact hi), List.getElem?_map, hv]
          rfl
      · rw [List.getElem?_append_right (by simpa using hi), List.getElem?_replicate] at h0
        split at h0 <;> cases h0
    · cases fl with
      | rt d1 => cases e; exact fun v rv => q v H' ι' l h rv
      | nx => cases e; exact q .non H' ι' l h (by simp)
      | bk => cases e
      | ct => cases e
end
end DL
namespace DL
open PySem PySem.Spec PyProof.Rows L2
noncomputable def clOf (env : Env) : List (Str × NameKind) → List (Str × Addr) → List (Str × Addr)
  | [], cs => cs
  | (n, k) :: r, cs => clOf env r (if k = .free then (match env.cells.lookup n with | some a => (n, a) :: cs | none => cs) else cs)
theorem closure_eq (env : Env) (scope : Scope) (h : ∀ y ∈ scope.names, y.2 = .free → (env.cells.lookup y.1).isSome = true) : closureFor scope env = pure (clOf env scope.names []) := by
  have key : ∀ (ns : List (Str × NameKind)) (cs : List (Str × Addr)), (∀ y ∈ ns, y.2 = .free → (env.cells.lookup y.1).isSome = true) →
      (forIn ns cs fun (x : Str × NameKind) cs => match x with
        | (name, kind) => if (kind == .free) = true then (do let a ← cellOf env name; pure (ForInStep.yield ((name, a) :: cs))) else pure (ForInStep.yield cs) : Sem (List (Str × Addr))) = pure (clOf env ns cs) := by
    intro ns
    induction ns with
    | nil => intro cs _; rfl
    | cons x r ih =>
      intro cs hh
      obtain ⟨n, k⟩ := x
      have hr := ih
      rw [List.forIn_cons]
      by_cases hk : k = .free
      · subst hk
        have q := hh (n, .free) (by simp) rfl
        cases e : env.cells.lookup n with
        | none => rw [e] at q; cases q
        | some a =>
          have e2 : cellOf env n = pure a := by unfold cellOf; rw [e]
          simp only [beq_self_eq_true, if_true, e2, pure_bind, clOf, e]
          exact ih _ fun y hy => hh y (List.mem_cons_of_mem _ hy)
      · have hb : (k == NameKind.free) = false := by simpa using hk
        simp only [hb, Bool.false_eq_true, if_false, pure_bind, clOf, hk]
        exact ih _ fun y hy => hh y (List.mem_cons_of_mem _ hy)
  have e : closureFor scope env = ((forIn scope.names [] fun (x : Str × NameKind) cs => match x with
        | (name, kind) => if (kind == .free) = true then (do let a ← cellOf env name; pure (ForInStep.yield ((name, a) :: cs))) else pure (ForInStep.yield cs) : Sem (List (Str × Addr))) >>= pure) := rfl
  rw [e, bind_pure]
  exact key scope.names [] h
theorem clOf_sub (env : Env) : ∀ (ns : List (Str × NameKind)) (cs : List (Str × Addr)), (∀ x c, cs.lookup x = some c → env.cells.lookup x = some c) → ∀ x c, (clOf env ns cs).lookup x = some c → env.cells.lookup x = some c
  | [], cs, h => h
  | (n, k) :: r, cs, h => by
    unfold clOf
    refine clOf_sub env r _ ?_
    split
    · cases e : env.cells.lookup n with
      | none => exact h
      | some a =>
        intro x c q
        dsimp only at q
        rw [List.lookup_cons] at q
        split at q
        · rename_i hb
          have hb' : x = n := by simpa using hb
          subst hb'; cases q; exact e
        · exact h x c q
    · exact h
theorem clOf_has (env : Env) : ∀ (ns : List (Str × NameKind)) (cs : List (Str × Addr)) (x : Str), ((cs.lookup x).isSome = true ∨ ((x, NameKind.free) ∈ ns ∧ (env.cells.lookup x).isSome = true)) → ((clOf env ns cs).lookup x).isSome = true
  | [], cs, x, h => by
    rcases h with h | ⟨h, _⟩
    · exact h
    · simp at h
  | (n, k) :: r, cs, x, h => by
    unfold clOf
    refine clOf_has env r _ x ?_
    by_cases hk : k = .free
    · rw [if_pos hk]
      cases e : env.cells.lookup n with
      | none =>
        rcases h with h | ⟨h, h2⟩
        · exact .inl h
        · rcases List.mem_cons.mp h with h | h
          · cases h; rw [e] at h2; cases h2
          · exact .inr ⟨h, h2⟩
      | some a =>
        dsimp only
        rw [List.lookup_cons]
        by_cases hx : x = n
        · subst hx; simp
        · have : (x == n) = false := by simpa using hx
          rw [this]
          rcases h with h | ⟨h, h2⟩
          · exact .inl h
          · rcases List.mem_cons.mp h with h | h
            · cases h; exact absurd rfl hx
            · exact .inr ⟨h, h2⟩
    · rw [if_neg hk]
      rcases h with h | ⟨h, h2⟩
      · exact .inl h
      · rcases List.mem_cons.mp h with h | h
        · cases h; exact absurd rfl hk
        · exact .inr ⟨h, h2⟩
theorem relabel_vis {env : Env} : ∀ {names : List (Str × NameKind)} {x : Str}, names.lookup x = some .free →
    ((names.map fun (n, k) => if (k == NameKind.free && env.scope.kind == .function && env.kindOf n == some .cell) then (n, NameKind.cell) else (n, k)).lookup x = some .cell ∨
     (names.map fun (n, k) => if (k == NameKind.free && env.scope.kind == .function && env.kindOf n == some .cell) then (n, NameKind.cell) else (n, k)).lookup x = some .free)
  | [], _, h => by simp at h
  | (n, k) :: r, x, h => by
    have ih := @relabel_vis env r x
    show List.lookup x ((if (k == NameKind.free && env.scope.kind == .function && env.kindOf n == some .cell) = true then (n, NameKind.cell) else (n, k)) :: _) = _ ∨ List.lookup x ((if (k == NameKind.free && env.scope.kind == .function && env.kindOf n == some .cell) = true then (n, NameKind.cell) else (n, k)) :: _) = _
    cases hx : x == n with
    | true =>
      simp only [List.lookup_cons, hx] at h
      cases h
      by_cases hc : (NameKind.free == NameKind.free && env.scope.kind == .function && env.kindOf n == some .cell) = true
      · rw [if_pos hc]; simp only [List.lookup_cons, hx]; simp
      · rw [if_neg hc]; simp only [List.lookup_cons, hx]; simp
    | false =>
      simp only [List.lookup_cons, hx] at h
      by_cases hc : (k == NameKind.free && env.scope.kind == .function && env.kindOf n == some .cell) = true
      · rw [if_pos hc]; simp only [List.lookup_cons, hx]; exact ih h
      · rw [if_neg hc]; simp only [List.lookup_cons, hx]; exact ih h
theorem relabel_free {env : Env} : ∀ {names : List (Str × NameKind)} {x : Str}, (∀ y ∈ names, y.2 ≠ .cell) →
    ((names.map fun (n, k) => if (k == NameKind.free && env.scope.kind == .function && env.kindOf n == some .cell) then (n, NameKind.cell) else (n, k)).lookup x = some .cell ∨
     (names.map fun (n, k) => if (k == NameKind.free && env.scope.kind == .function && env.kindOf n == some .cell) then (n, NameKind.cell) else (n, k)).lookup x = some .free) → (x, NameKind.free) ∈ names
  | [], _, _, h => by simp at h
  | (n, k) :: r, x, hn, h => by
    have ih := @relabel_free env r x (fun y hy => hn y (List.mem_cons_of_mem _ hy))
    have h : List.lookup x ((if (k == NameKind.free && env.scope.kind == .function && env.kindOf n == some .cell) = true then (n, NameKind.cell) else (n, k)) :: _) = _ ∨ List.lookup x ((if (k == NameKind.free && env.scope.kind == .function && env.kindOf n == some .cell) = true then (n, NameKind.cell) else (n, k)) :: _) = _ := h
    cases hx : x == n with
    | true =>
      have hx' : x = n := by simpa using hx
      subst hx'
      by_cases hc : (k == NameKind.free && env.scope.kind == .function && env.kindOf x == some .cell) = true
      · have hk : k = .free := by
          rw [Bool.and_eq_true, Bool.and_eq_true] at hc
          simpa using hc.1.1
        subst hk; simp
      · rw [if_neg hc] at h
        simp only [List.lookup_cons, hx] at h
        rcases h with h | h
        · cases h; exact absurd rfl (hn (x, .cell) (by simp))
        · cases h; simp
    | false =>
      refine List.mem_cons_of_mem _ (ih ?_)
      by_cases hc : (k == NameKind.free && env.scope.kind == .function && env.kindOf n == some .cell) = true
      · rw [if_pos hc] at h; simp only [List.lookup_cons, hx] at h; exact h
      · rw [if_neg hc] at h; simp only [List.lookup_cons, hx] at h; exact h
noncomputable def blk (X : Cx) (scope : Scope) (N : List Str) (cl : List (Str × Addr)) (C : Addr) (s : Shared) (H : Hp) (fp : List Addr) (pn : List (Addr × Obj)) : Cx where
  prog := X.prog
  w := X.w
  K := X.K
  mg := X.mg
  base := X.base
  A := X.A
  N := N
  s₀ := s
  H₀ := H
  env := compEnvC scope cl C X.env
  outer := X.stack
  stack := X.stack
  ex := fp
  fn := fun _ => false
  calm := X.calm
  pn := pn
  xe := fun _ _ => False
structure BlkOk (X : Cx) (scope : Scope) (x : Str) (cn : List Str) (ci : List Nat) : Prop where
  kind : scope.kind = .function
  nocell : ∀ y ∈ scope.names, y.2 ≠ .cell
  names : ∀ y ∈ scope.names, y.2 = .local → scope.names.lookup y.1 = some .local
  tgt : scope.names.lookup x = some .local
  free : ∀ y ∈ scope.names, y.2 = .free → (X.env.cells.lookup y.1).isSome = true
  nd : (x :: cn).Nodup
  len : ci.length = cn.length
  cap : ∀ (j : Nat) (y : Str), cn[j]? = some y → ∃ i, ci[j]? = some i ∧ X.N[i]? = some y ∧ scope.names.lookup y = some .free ∧ (X.env.kindOf y = some .cell ∨ X.env.kindOf y = some .free)
noncomputable def capS (ci : List Nat) (σ : L2.St) : L2.St := ci.map fun i => (σ[i]?).join
section
variable {X : Cx} {pins : List (Addr × Obj)} {σ : L2.St} {H : Hp} {s : Shared} {scope : Scope} {x : Str} {cn : List Str} {ci : List Nat} {fp : List Addr}
theorem inv_blk {h₁ : Heap} {tk : Nat} {o₁ : Obj} (I : Inv X pins σ H s) (B : BlkOk X scope x cn ci) (hf : ∀ b ∈ fp, FpOk X pins H b) (hlt : ∀ b ∈ fp, b < s.heap.objs.size)
    (hns : h₁.Ns s.heap.objs.size (fun _ => none)) (hsb : Heap.SameBut s.heap.objs.size (s.heap.push o₁) h₁) :
    Inv (blk X scope (x :: cn) (clOf X.env scope.names []) s.heap.objs.size s H fp (X.pn ++ pins)) [] (none :: capS ci σ) H { s with heap := h₁, toks := tk } := by
  have old : ∀ b o, s.heap.get? b = some o → h₁.get? b = some o := fun b o e => hsb.extBut b o (Nat.ne_of_lt (Heap.lt_size e)) (Heap.get?_push_of_some _ e)
  have sub := clOf_sub X.env scope.names [] (by intro x c h; simp at h)
  have has : ∀ y, (y, NameKind.free) ∈ scope.names → ∃ c, (clOf X.env scope.names []).lookup y = some c := fun y hy =>
    Option.isSome_iff_exists.mp (clOf_has X.env scope.names [] y (.inr ⟨hy, B.free _ hy rfl⟩))
  refine ⟨⟨I.ok.mod, B.kind, I.ok.glob, I.ok.blt, Nat.le_refl _, fun y z c h1 h2 => I.ok.inj y z c (sub y c h1) (sub z c h2), fun y hy => has y (relabel_free B.nocell hy), fun y c hy => absurd hy (by show ¬ (false = true); simp), I.ok.hd, I.ok.frames, .inl rfl,
      fun b hb => ⟨Nat.ne_of_lt (hlt b hb), fun y c e => (hf b hb).2.2.2.2.1 y c (sub y c e)⟩, I.bs, Nat.le_trans I.ok.bsz I.sz, fun b o e hb => ?_, fun b hb z => ?_, I.stack, I.stkFree⟩,
    rfl, I.bare, Un.kept old, ⟨_, hns, fun i y v h1 h2 h3 => ?_⟩, fun y c e => ?_, I.hok.fresh (Nat.le_refl _), fun y c e => I.freeC y c (sub y c e), fun p hp => ?_, I.hok.kept old, ?_⟩
  · rcases (hf b hb).2.2.2.1 with z | z
    · exact I.ok.noex b o e z
    · exact absurd (Nat.lt_of_lt_of_le (Heap.lt_size e) (Nat.le_trans I.ok.bsz z)) (Nat.lt_irrefl _)
  · exact (List.mem_cons.mp (I.stkSub b z)).elim (hf b hb).2.1 (hf b hb).2.2.1
  · cases i with
    | zero => simp at h2
    | succ j =>
      have h1' : cn[j]? = some y := by simpa [blk] using h1
      have h2' : (capS ci σ)[j]? = some (some v) := by simpa using h2
      obtain ⟨i, e1, e2, e3, e4⟩ := B.cap j y h1'
      have e5 : σ[i]? = some (some v) := by
        unfold capS at h2'
        rw [List.getElem?_map, e1] at h2'
        simp at h2'
        cases e : σ[i]? with
        | none => rw [e] at h2'; cases h2'
        | some o => rw [e] at h2'; simp at h2'; rw [h2']
      obtain ⟨m, hn, hl⟩ := I.loc
      have hv : Vis X.env.scope y := by
        rcases e4 with e4 | e4
        · exact .inr (.inl e4)
        · exact .inr (.inr e4)
      obtain ⟨u, r, l⟩ := hl i y v e2 e5 hv
      refine ⟨u, r, .inr ⟨relabel_vis e3, ?_⟩⟩
      obtain ⟨c, ec⟩ := has y (PySem.mem_of_lookup e3)
      refine ⟨c, ec, ?_⟩
      rcases l with ⟨l, _⟩ | ⟨_, c', ec', hc⟩
      · rcases e4 with e4 | e4 <;> rw [e4] at l <;> cases l
      · rw [sub y c ec] at ec'
        cases ec'
        obtain ⟨ob, q1, q2⟩ := hc
        exact ⟨ob, old _ _ q1, q2⟩
  · obtain ⟨v, ob, q1, q2⟩ := I.cell y c (sub y c e)
    exact ⟨v, ob, old _ _ q1, q2⟩
  · have hp' : p ∈ X.pn ++ pins := by simpa [blk] using hp
    obtain ⟨q1, q2, q3, q4, q5⟩ := I.pin p hp'
    refine ⟨old _ _ q1, q2, Nat.ne_of_lt (Heap.lt_size q1), fun z => ?_, q5⟩
    exact (List.mem_cons.mp (I.stkSub p.1 z)).elim q3 q4
  · simp [blk, capS, B.len]
noncomputable def PTs (X : Cx) (ifs : List Expr) (t : TT) : Prop :=
  ∀ (pins : List (Addr × Obj)) (s : Shared) (σ : L2.St) (H : Hp) (Q : Bool → Hp → Prop), Inv X pins σ H s → t σ H Q →
    wpAny (model X.prog X.w) X.A (forIn ifs true fun c r => if r = true then do let ok ← isTrue c X.env (eval c X.env); pure (ForInStep.yield ok) else pure (ForInStep.yield r)) (TP X pins σ Q) X.xe s
theorem pts_nil : PTs X [] (fun _ H Q => Q true H) := fun _ _ _ H _ I h => wpAny_tests_nil ⟨H, I, h⟩
noncomputable def LcW (J : It) (ci : List Nat) (tt : TT) (te : TE) (σ : L2.St) (Q : VK) (H1 : Hp) : Prop := ∀ p, H1 p = none → ∃ W : Nat → Nat → List V → Hp → Prop, (∃ m, W 0 m [] (upd H1 p (.lst []))) ∧ ∀ i m ys H, W i m ys H →
  H p = some (.lst ys) ∧ ((J.stop i H ∧ Q (.ref p) H) ∨ (J.go i H ∧ ∀ v H', J.yld i H v H' → tt (some v :: capS ci σ) H' fun b H2 =>
    if b = true then te (some v :: capS ci σ) H2 fun y H3 => H3 p = some (.lst ys) ∧ ys.length < sizeLine ∧ ∃ m', m' < m ∧ W (i + 1) m' (ys ++ [y]) (upd H3 p (.lst (ys ++ [y])))
    else ∃ m', m' < m ∧ W (i + 1) m' ys H2))
structure Gone (X : Cx) (pins : List (Addr × Obj)) (H : Hp) (s : Shared) (C : Addr) : Prop where
  ns : ∃ m, s.heap.Ns C m
  free : H C = none
  nl : C ≠ X.env.locals
  up : X.s₀.heap.objs.size ≤ C
  nc : ∀ x c, X.env.cells.lookup x = some c → c ≠ C
  np : ∀ p ∈ X.pn ++ pins, p.1 ≠ C
theorem Gone.go {σ : L2.St} {h' : Heap} {C : Addr} (g : Gone X pins H s C) (I : Inv X pins σ H s) (hs : Heap.SameBut C s.heap h') : Inv X pins σ H { s with heap := h' } :=
  I.turned (t' := s.toks) (fun b o hb e => hs.extBut b o hb e) g.free g.nl (.inr g.up) g.nc g.np
theorem lc_block {elt iter : Expr} {px pos : Pos} {ifs : List Expr} {tt : TT} {te : TE} {Q : VK} {E : Value → Shared → Prop} {RR : Value → Addr → Result → Shared → Prop} {it : Addr} {tn : Nat → Heap → Prop} {J : It}
    (I : Inv X pins σ H s) (hc : X.calm = true) (B : BlkOk X scope x cn ci) (T : Turn X.prog X.w X.K (.Name x px) J fp it tn) (st : tn 0 s.heap) (hf : ∀ b ∈ fp, FpOk X pins H b)
    (ht : ∀ cl C s H fp pn, PTs (blk X scope (x :: cn) cl C s H fp pn) ifs tt) (he : ∀ cl C s H fp pn, PE (blk X scope (x :: cn) cl C s H fp pn) elt te)
    (hw : LcW J ci tt te σ Q H) (hRR : ∀ p C H' s', Inv X pins σ H' s' → Gone X pins H' s' C → Q (.ref p) H' → RR (.ref p) C (.ok .next) s') :
    wpAny (model X.prog X.w) X.A (newList []) (fun acc s₃ => wpAny (model X.prog X.w) X.A (newFunctionEnv scope X.env.globals (clOf X.env scope.names []) [] X.env.qual none .none (some X.env)) (fun cenv s₄ =>
      codeAny (model X.prog X.w) X.A (.compStart (.ListComp elt [⟨.Name x px, iter, ifs, 0⟩] scope pos) 0 (.ref it) acc { cenv with scope := relabel scope X.env }) (RR acc cenv.locals) s₄) E s₃) E s := by
  have hp0 : H s.heap.objs.size = none := I.hok.fresh (Nat.le_refl _)
  obtain ⟨W, ⟨m0, w0⟩, turn⟩ := hw _ hp0
  refine wpAny_newObj_type (wpAny_newFunctionEnv B.nocell (by intro y hy; simp at hy) (fun h₁ hns₁ hsb₁ => ?_) B.kind)
  dsimp only at hns₁ hsb₁ ⊢
  have I3 : Inv X pins σ (upd H s.heap.objs.size (.lst [])) { s with heap := s.heap.push { cls := .type "list", dict := none, data := .seq ([] : List Value).toArray } } :=
    I.laid (t' := s.toks) (fun b u e => Heap.get?_push_of_some _ e) (Nat.le_refl _) ⟨Nat.zero_le _, [], 0, .nil, Heap.get?_push_size _ rfl⟩
  generalize hH3 : s.heap.push { cls := .type "list", dict := none, data := .seq ([] : List Value).toArray } = hp3 at hns₁ hsb₁ I3 ⊢
  have flt : ∀ b ∈ fp, b < s.heap.objs.size := fun b hb => by
    obtain ⟨o, e, _⟩ := T.obj 0 _ st b hb
    exact Heap.lt_size e
  have sz3 : hp3.objs.size = s.heap.objs.size + 1 := by rw [← hH3, Heap.size_push]
  have f3 : ∀ b ∈ fp, FpOk X pins (upd H s.heap.objs.size (.lst [])) b := fun b hb => ⟨by rw [upd_ne (Nat.ne_of_lt (flt b hb))]; exact (hf b hb).1, (hf b hb).2⟩
  have old3 : ∀ b o, s.heap.get? b = some o → hp3.get? b = some o := fun b o e => by rw [← hH3]; exact Heap.get?_push_of_some _ e
  have I4 := inv_blk (s := { s with heap := hp3 }) (tk := s.toks + ([] : List (Str × Value)).length) I3 B f3 (fun b hb => by show b < hp3.objs.size; rw [sz3]; exact Nat.lt_succ_of_lt (flt b hb)) (by simpa using hns₁) hsb₁
  have old4 : ∀ b o, hp3.get? b = some o → h₁.get? b = some o := fun b o e => hsb₁.extBut b o (Nat.ne_of_lt (Heap.lt_size e)) (Heap.get?_push_of_some _ e)
  generalize hX' : blk X scope (x :: cn) (clOf X.env scope.names []) hp3.objs.size { s with heap := hp3 } (upd H s.heap.objs.size (.lst [])) fp (X.pn ++ pins) = X' at I4
  have ePr : X'.prog = X.prog := by rw [← hX']; rfl
  have eW : X'.w = X.w := by rw [← hX']; rfl
  have eK : X'.K = X.K := by rw [← hX']; rfl
  have eA : X'.A = X.A := by rw [← hX']; rfl
  have eEnv : X'.env = compEnvC scope (clOf X.env scope.names []) hp3.objs.size X.env := by rw [← hX']; rfl
  have eEx : X'.ex = fp := by rw [← hX']; rfl
  have ht' : PTs X' ifs tt := by rw [← hX']; exact ht _ _ _ _ _ _
  have he' : PE X' elt te := by rw [← hX']; exact he _ _ _ _ _ _
  have eXe : X'.xe = fun _ _ => False := by rw [← hX']; rfl
  have hg' : PG X' (.Name x px) (gName 0) := by
    rw [← hX']
    exact pg_name (X := blk X scope (x :: cn) _ _ _ _ _ _) B.nd rfl (.inl (lookup_relabel_local B.tgt)) (.inr (lookup_relabel_local B.tgt))
  -- the iterator's objects, seen from the block
  have stat : ∀ {H' : Hp}, (∀ b ∈ fp, H' b = none) → ∀ b ∈ fp, FpOk X' [] H' b := fun {H'} hn b hb => by
    rw [← hX']
    refine ⟨hn b hb, (by show b ≠ hp3.objs.size; rw [sz3]; exact Nat.ne_of_lt (Nat.lt_succ_of_lt (flt b hb))), fun z => (List.mem_cons.mp (I3.stkSub b z)).elim (hf b hb).2.1 (hf b hb).2.2.1, .inl hb, fun y c e => ?_, fun p hp => ?_⟩
    · exact (hf b hb).2.2.2.2.1 y c (clOf_sub X.env scope.names [] (by intro x c h; simp at h) y c e)
    · exact (hf b hb).2.2.2.2.2 p (by simpa [blk] using hp)
  have back : ∀ {σ' : L2.St} {H' : Hp} {s' : Shared}, Inv X' [] σ' H' s' → Inv X pins σ H' s' ∧ Gone X pins H' s' hp3.objs.size := fun {σ' H' s'} I5 => by
    have u : Un (frs X.stack) fp (upd H s.heap.objs.size (.lst [])) H' hp3 s'.heap := by
      have := I5.base
      rw [← hX'] at this
      exact this
    have hok : HOk X.prog X.w H' s'.heap := by have := I5.hok; rw [ePr, eW] at this; exact this
    have ho : s'.os = s.os := by have := I5.os; rw [← hX'] at this; exact this
    refine ⟨I3.call' ho u hok I5.bare fun b hb => ⟨(hf b hb).2.2.2.1, (hf b hb).2.1, (hf b hb).2.2.2.2.1, (hf b hb).2.2.2.2.2⟩, ?_, ?_, ?_, ?_, fun y c e z => ?_, fun p hp z => ?_⟩
    · obtain ⟨m, hn, _⟩ := I5.loc
      rw [eEnv] at hn
      exact ⟨m, hn⟩
    · have := I5.free
      rw [eEnv] at this
      exact this
    · exact Nat.ne_of_gt (I3.lt)
    · exact I3.sz
    · obtain ⟨v, q⟩ := I3.cell y c e
      exact absurd (Nat.lt_of_lt_of_le q.lt (by rw [z]; exact Nat.le_refl _)) (Nat.lt_irrefl _)
    · have := Heap.lt_size (I3.pin p hp).1
      rw [z] at this
      exact Nat.lt_irrefl _ this
  have loop : codeAny (model X.prog X.w) X.A (.compLoop (.ListComp elt [⟨.Name x px, iter, ifs, 0⟩] scope pos) 0 (.ref it) (.ref s.heap.objs.size) (compEnvC scope (clOf X.env scope.names []) hp3.objs.size X.env))
      (RR (.ref s.heap.objs.size) hp3.objs.size) { s with heap := h₁, toks := s.toks + ([] : List (Str × Value)).length } := by
    refine codeAny_loop rfl (fun n s' => ∃ i o ys H', Inv X' [] (o :: capS ci σ) H' s' ∧ tn i s'.heap ∧ (∀ b ∈ fp, H' b = none) ∧ W i n ys H') (fun n s' hI => ?_) m0
      ⟨0, none, [], _, I4, T.keep _ _ _ st (fun b hb o e => old4 b o (old3 b o e)), fun b hb => (f3 b hb).1, w0⟩
    obtain ⟨i, o, ys, H', I5, st5, fr5, w5⟩ := hI
    show wpAny _ X.A ((compTurn (.ListComp elt [⟨.Name x px, iter, ifs, 0⟩] scope pos) 0 (.ref it) (.ref s.heap.objs.size) (compEnvC scope (clOf X.env scope.names []) hp3.objs.size X.env)).onRaise (fun x => do noteFrame x (compEnvC scope (clOf X.env scope.names []) hp3.objs.size X.env); theTreesLotGoes x)) _ _ s'
    refine wpAny_noted ?_
    rw [compTurn_list, ← eEnv, ← ePr, ← eW, ← eA]
    refine wpAny_mono (E := fun _ _ => False) ?_ (fun _ _ q => q) (fun _ _ z => z.elim)
    obtain ⟨hpl, wt⟩ := turn i n ys H' w5
    refine wpAny_bind (wpAny_standAt (wpAny_bind ?_))
    rcases wt with ⟨stop, q⟩ | ⟨go, step⟩
    · have z := T.done X' ePr eW eK (by rw [← hX']; exact hc) i [] s' _ H' (fun _ _ => False) I5 (stat fr5) st5 stop
      rw [← ePr, ← eW] at z
      refine thn z fun r s6 ⟨hr, I6⟩ => ?_
      subst hr
      obtain ⟨J1, g1⟩ := back I6
      exact wpAny_pure (hRR _ _ H' s6 J1 g1 q)
    · have z := T.item X' ePr eW eK (by rw [← hX']; exact hc) i [] s' _ H' (fun _ _ => False) I5 (stat fr5) st5 go
      rw [← ePr, ← eW] at z
      refine thn z fun r s6 ⟨u, hr, h6⟩ => ?_
      subst hr
      refine wpAny_bind (thn h6 fun _ s7 ⟨v, H7, I7, r7, y7, st7, fr7⟩ => ?_)
      have I7' := I7.pinned (stat fr7) (T.obj _ _ st7)
      rw [← eXe]
      refine wpAny_bind (thn (hg' _ s7 _ H7 v u _ I7' r7 (show gName 0 v (o :: capS ci σ) H7 (fun σ8 H8 => σ8 = some v :: capS ci σ ∧ H8 = H7) from ⟨rfl, rfl⟩)) fun _ s8 ⟨σ8, H8, I8, e8, e8'⟩ => ?_)
      subst e8 e8'
      refine wpAny_bind (thn (ht' _ s8 _ _ _ I8 (step v _ y7)) fun b s9 ⟨H9, I9, q9⟩ => ?_)
      have tnK : ∀ {σ' : L2.St} {H' : Hp} {s' : Shared}, Inv X' (([] : List (Addr × Obj)) ++ pinsAt fp s7.heap) σ' H' s' → tn (i + 1) s'.heap ∧ ∀ b ∈ fp, H' b = none := fun {σ' H' s'} I' =>
        ⟨T.keep _ _ _ st7 fun b hb o e => (I'.pin (b, o) (List.mem_append_right _ (List.mem_append_right _ (mem_pinsAt hb e)))).1, fun b hb => by
          obtain ⟨ob, e, d⟩ := T.obj _ _ st7 b hb
          exact (I'.pin (b, ob) (List.mem_append_right _ (List.mem_append_right _ (mem_pinsAt hb e)))).2.1⟩
      cases b with
      | false =>
        obtain ⟨m', hm, w9⟩ := q9
        obtain ⟨t9, f9⟩ := tnK I9
        exact wpAny_pure ⟨rfl, m', hm, i + 1, _, ys, H9, I9.unpinned, t9, f9, w9⟩
      | true =>
        refine wpAny_bind (wpAny_bind (thn (he' _ s9 _ _ _ I9 q9) fun yv s10 ⟨y, H10, I10, r10, hp10, hz10, m', hm, w10⟩ => ?_))
        refine wpAny_bind (thn (mt_append (X := X') _ s10 _ H10 (.ref s.heap.objs.size) [y] (.ref s.heap.objs.size) [yv] (fun _ H11 => H11 = upd H10 s.heap.objs.size (.lst (ys ++ [y]))) I10 rfl (.cons r10 .nil) ⟨_, ys, y, rfl, rfl, hp10, hz10, rfl⟩) fun _ s11 ⟨_, H11, I11, _, e11⟩ => ?_)
        subst e11
        obtain ⟨t11, f11⟩ := tnK I11
        exact wpAny_pure (wpAny_pure ⟨rfl, m', hm, i + 1, _, ys ++ [y], _, I11.unpinned, t11, f11, w10⟩)
  exact codeAny_compStart_list loop (T.self _ 0 _ _ _ (T.keep _ _ _ st (fun b hb o e => old4 b o (old3 b o e))) loop)
noncomputable def tLC (wi : TI) (ci : List Nat) (tt : TT) (te : TE) : TE := fun σ H Q => wi σ H fun J H1 => LcW J ci tt te σ Q H1
theorem pe_lc {elt iter : Expr} {px pos : Pos} {ifs : List Expr} {wi : TI} {tt : TT} {te : TE} (hc : X.calm = true) (B : BlkOk X scope x cn ci) (hi : PI X (.Name x px) iter wi)
    (ht : ∀ cl C s H fp pn, PTs (blk X scope (x :: cn) cl C s H fp pn) ifs tt) (he : ∀ cl C s H fp pn, PE (blk X scope (x :: cn) cl C s H fp pn) elt te)
    (hs : ∀ x, foldedSetIterable iter X.env x = pure x := by intro _; rfl) : PE X (.ListComp elt [⟨.Name x px, iter, ifs, 0⟩] scope pos) (tLC wi ci tt te) := by
  intro pins s σ H Q I h
  rw [eval_ListComp]
  refine wpAny_comprehension_free (use := none) rfl hs (closure_eq X.env scope B.free) B.kind B.names ?_
  refine thn (hi pins s σ H _ I h) fun v s1 h1 => thn h1 fun itv s2 h2 => ?_
  obtain ⟨it, fp, tn, J, H2, e, I2, T, st2, f2, w2⟩ := h2
  subst e
  refine lc_block (RR := fun acc C => compPost (model X.prog X.w) X.A X.xe none (EP X pins σ Q) acc C) I2 hc B T st2 f2 ht he w2 fun p C H' s' I' g q => ?_
  obtain ⟨m, hn⟩ := g.ns
  exact ⟨m, hn, fun h' hs' => ⟨.ref p, H', g.go I' hs', rfl, q⟩⟩
end
noncomputable def capD (ci : List Nat) (σd : SD) : SD := ci.map fun i => (σd[i]?).join
open Classical in
noncomputable def compL (own : OwnD) (c0 : SD) (tt : TF) (te : EF) : List D → HD → Option (List D × HD)
  | [], H => if okOwn own H then some ([], H) else none
  | x :: r, H => if okOwn own H then (tt (some x :: c0) H).bind fun t => if t.1 = true then (te (some x :: c0) t.2).bind fun e => (compL own c0 tt te r e.2).map fun q => (e.1 :: q.1, q.2) else compL own c0 tt te r t.2 else none
noncomputable def eLC (it : ItF) (ci : List Nat) (tt : TF) (te : EF) : EF := fun σ H => (it σ H).bind fun p => (compL p.1.2 (capD ci σ) tt te p.1.1 p.2).bind fun q => mkL q.1 q.2
noncomputable def tYes : TF := fun _ H => some (true, H)
noncomputable def PTsf (X : Cx) (ifs : List Expr) (t : TF) : Prop := PTs X ifs (rdT X.K t)
section
variable {X : Cx} {scope : Scope} {x : Str} {cn : List Str} {ci : List Nat}
theorem ptsf_nil : PTsf X [] tYes := by
  intro pins s σ H Q I ⟨ι, σd, Hd, b, Hd', sr, hr, e, q⟩
  cases e
  exact pts_nil pins s σ H Q I (q H ι Le.refl hr)
theorem SRep.cap {K : PySem.W.Frag} {H : Hp} {ι : List Addr} {σ : L2.St} {σd : SD} {d : D} {v : V} (s : SRep K H ι σ σd) (r : Rep K H ι d v) : SRep K H ι (some v :: capS ci σ) (some d :: capD ci σd) := by
  refine ⟨by simp [capS, capD], fun i e h => ?_⟩
  cases i with
  | zero => simp at h; subst h; exact ⟨v, rfl, r⟩
  | succ j =>
    simp only [List.getElem?_cons_succ, capS, capD, List.getElem?_map] at h ⊢
    cases ej : ci[j]? with
    | none => rw [ej] at h; simp at h
    | some i =>
      rw [ej] at h
      simp only [Option.map_some, Option.some.injEq] at h ⊢
      cases es : σd[i]? with
      | none => rw [es] at h; simp at h
      | some o =>
        rw [es] at h
        simp at h
        subst h
        obtain ⟨u, h1, h2⟩ := s.var i e es
        exact ⟨u, by rw [h1]; rfl, h2⟩
theorem rd_lc {K : PySem.W.Frag} {it : ItF} {tt : TF} {te : EF} {σ : L2.St} {H : Hp} {Q : VK} (h : rdE K (eLC it ci tt te) σ H Q) : tLC (rdI K it) ci (rdT K tt) (rdE K te) σ H Q := by
  obtain ⟨ι, σd, Hd, d, Hd', s, hr, e, q⟩ := h
  obtain ⟨⟨⟨xs, own⟩, H1⟩, e1, e⟩ := Option.bind_eq_some_iff.mp e
  obtain ⟨⟨ds, H2⟩, e2, e⟩ := Option.bind_eq_some_iff.mp e
  obtain ⟨hz, e⟩ := mkL_some e
  cases e
  dsimp only at e2 hz
  refine ⟨ι, σd, Hd, xs, own, H1, s, hr, e1, fun J H0 ι0 l0 h0 itr p hp => ?_⟩
  have s0 := s.mono l0
  refine ⟨fun i m ys H => m = xs.length - i ∧ i ≤ xs.length ∧ H p = some (.lst ys) ∧ ∃ ι Hd done rest, Le K H0 ι0 H ι ∧ p ∉ ι ∧ HRep K H ι Hd ∧ Paired (Rep K H ι) done ys ∧ compL own (capD ci σd) tt te (xs.drop i) Hd = some (rest, H2) ∧ ds = done ++ rest,
    ⟨xs.length, by simp, Nat.zero_le _, upd_same, ι0, H1, [], ds, Le.fresh hp _, h0.fresh hp, h0.tup hp _, .nil, by simpa using e2, by simp⟩, ?_⟩
  rintro i m ys H5 ⟨rfl, hi, hpl, ι5, Hd5, done, rest, l5, np5, h5, pd5, e5, eds⟩
  refine ⟨hpl, ?_⟩
  by_cases hlt : i < xs.length
  · have ed : xs.drop i = xs[i] :: xs.drop (i + 1) := List.drop_eq_getElem_cons hlt
    rw [ed, compL] at e5
    split at e5
    · rename_i ok
      obtain ⟨⟨b6, H6⟩, e6, e5⟩ := Option.bind_eq_some_iff.mp e5
      refine .inr ⟨itr.go i H5 ι5 Hd5 l5 h5 ok hlt, fun v H' y => ?_⟩
      obtain ⟨ι6, l6, h6, r6⟩ := itr.yld i H5 ι5 Hd5 xs[i] v H' l5 h5 ok (by simp [hlt]) y
      obtain ⟨hp6, np6⟩ := l6.frame p _ hpl np5
      have s6 := SRep.cap (ci := ci) (s0.mono (l5.trans l6)) r6
      refine ⟨ι6, _, Hd5, b6, H6, s6, h6, e6, fun H7 ι7 l7 h7 => ?_⟩
      obtain ⟨hp7, np7⟩ := l7.frame p _ hp6 np6
      have L7 := (l5.trans l6).trans l7
      cases b6 with
      | true =>
        rw [if_pos rfl]
        dsimp only at e5
        rw [if_pos rfl] at e5
        obtain ⟨⟨d8, H8⟩, e8, e5⟩ := Option.bind_eq_some_iff.mp e5
        obtain ⟨⟨r9, H9⟩, e9, e5⟩ := Option.map_eq_some_iff.mp e5
        cases e5
        refine ⟨ι7, _, H6, d8, H8, s6.mono l7, h7, e8, fun v8 H8' ι8 l8 h8 rr8 => ?_⟩
        obtain ⟨hp8, np8⟩ := l8.frame p _ hp7 np7
        have ly : ys.length < sizeLine := by
          rw [← Prd.len pd5]
          rw [eds] at hz
          simp at hz
          omega
        have w8 : Lw K H8' ι8 (upd H8' p (.lst (ys ++ [v8]))) ι8 := Lw.side hp8 _
        refine ⟨hp8, ly, xs.length - (i + 1), by omega, rfl, hlt, upd_same, ι8, H8, done ++ [d8], r9, (L7.trans l8).side hp hp8 _, np8, h8.keep w8 (fun a ha => upd_ne fun z => by subst z; exact np8 ha), ?_, e9, by rw [eds]; simp⟩
        exact Prd.append (Prd.monoW w8 (Prd.mono ((l6.trans l7).trans l8) pd5)) (.cons (Rep.monoW w8 rr8) .nil)
      | false =>
        rw [if_neg (by simp)]
        dsimp only at e5
        rw [if_neg (by simp)] at e5
        exact ⟨xs.length - (i + 1), by omega, rfl, hlt, hp7, ι7, H6, done, rest, L7, np7, h7, Prd.mono (l6.trans l7) pd5, e5, eds⟩
    · cases e5
  · rw [List.drop_eq_nil_of_le (by omega), compL] at e5
    split at e5
    · rename_i ok
      have e6 : (([] : List D), Hd5) = (rest, H2) := Option.some.inj e5
      obtain ⟨rfl, rfl⟩ := Prod.mk.inj e6
      refine .inl ⟨itr.stop i H5 ι5 _ l5 h5 ok (by omega), ?_⟩
      have w5 : Lw K H5 ι5 H5 (ι5 ++ [p]) := ⟨fun _ _ z => z, fun _ _ z => z, ⟨[p], rfl⟩, fun _ _ _ z => z⟩
      have L := l0.trans l5
      simp at eds
      subst eds
      refine q _ H5 (ι5 ++ [p]) ⟨L.toLw.trans w5, fun a o ha na => ?_⟩ (h5.add np5 ⟨ys, hpl, Prd.monoW w5 pd5⟩) (rep_ref.mpr ⟨p, rfl, by rw [← h5.len]; simp⟩)
      obtain ⟨q1, q2⟩ := L.frame a o ha na
      refine ⟨q1, ?_⟩
      have : a ≠ p := fun z => by
        subst z
        have := (l0.frame a o ha na).1
        rw [hp] at this; cases this
      simp [q2, this]
    · cases e5
theorem pef_lc {elt iter : Expr} {px pos : Pos} {ifs : List Expr} {it : ItF} {tt : TF} {te : EF} (hc : X.calm = true) (B : BlkOk X scope x cn ci) (hi : PIf X (.Name x px) iter it)
    (ht : ∀ cl C s H fp pn, PTsf (blk X scope (x :: cn) cl C s H fp pn) ifs tt) (he : ∀ cl C s H fp pn, PEf (blk X scope (x :: cn) cl C s H fp pn) elt te)
    (hs : ∀ x, foldedSetIterable iter X.env x = pure x := by intro _; rfl) : PEf X (.ListComp elt [⟨.Name x px, iter, ifs, 0⟩] scope pos) (eLC it ci tt te) :=
  PEi (pe_lc (tt := rdT X.K tt) (te := rdE X.K te) hc B hi ht he hs) fun _ _ _ h => rd_lc h
end
end DL
namespace DL
open PySem PySem.Spec PyProof.Rows L2
theorem noFillT : fillsNumberSlot (.type "tuple") "mul" = pure false :=
  PySem.fillsNumberSlot_seq (id := "tuple.__mul__") (r := some (.builtin "tuple.__rmul__")) F.slot_tuple_mul.lookup (by decide +kernel) F.slot_tuple_rmul.lookup (by decide +kernel)
theorem repT : seqRepeat? (.type "tuple") = pure (some (.builtin "tuple.__mul__")) := by
  unfold seqRepeat?
  rw [PySem.seqSlot_of (T := "tuple") (name := "__mul__") (id := "tuple.__mul__") F.slot_tuple_mul.lookup (by decide +kernel), PySem.seqSlot_of (T := "tuple") (name := "__rmul__") (id := "tuple.__rmul__") F.slot_tuple_rmul.lookup (by decide +kernel)]
  rfl
section
variable {dd : Option Addr} {sl : Array (Option Value)}
theorem rmulT (a : Int) (t : Tok) (l : Addr) (items : Array Value) (n : Nat) :
    Meets (Builtin.«int.__rmul__» ⟨[.int a t, .ref l], []⟩) (fun _ R s => s.heap.get? l = some { cls := .type "tuple", dict := dd, data := .seq items n, slots := sl } ∧ R (.ok (.ret Value.notImplemented)) s) :=
  .of_wp fun prog w A R s h => by obtain ⟨hp, g, d, tk, os⟩ := s; obtain ⟨hl, h⟩ := h; wp_walk; exact ⟨_, rfl, h⟩
theorem mulT_same (l : Addr) (items : Array Value) (n : Nat) (x : Int) (u : Tok) (h1 : (decide (x < -(2 ^ 63)) || decide (x ≥ 2 ^ 63)) = false) (h2 : (items.isEmpty || x == 1) = true) :
    Meets (Builtin.«tuple.__mul__» ⟨[.ref l, .int x u], []⟩) (fun _ R s => s.heap.get? l = some { cls := .type "tuple", dict := dd, data := .seq items n, slots := sl } ∧ R (.ok (.ret (.ref l))) s) :=
  .of_wp fun prog w A R s h => by
    obtain ⟨hp, g, d, tk, os⟩ := s; obtain ⟨hl, h⟩ := h
    have f1 := AutoSeq1.idx_int
    wp_walk
    simp only [h1, Bool.false_eq_true, if_false]
    wp_walk using wpAny_loadPart' hl
    simp only [h2, if_true]
    wp_walk using wpAny_loadPart' hl
    exact ⟨_, rfl, h⟩
theorem mulT_none (l : Addr) (items : Array Value) (n : Nat) (x : Int) (u : Tok) (h1 : (decide (x < -(2 ^ 63)) || decide (x ≥ 2 ^ 63)) = false) (h2 : (items.isEmpty || x == 1) = false) (h3 : (decide (x ≤ 0) || items.isEmpty) = true) :
    Meets (Builtin.«tuple.__mul__» ⟨[.ref l, .int x u], []⟩) (fun _ R s => s.heap.get? l = some { cls := .type "tuple", dict := dd, data := .seq items n, slots := sl } ∧ R (.ok (.ret (.ref s.heap.objs.size))) { s with heap := s.heap.push { cls := Value.type "tuple", data := Data.seq #[] } }) :=
  .of_wp fun prog w A R s h => by
    obtain ⟨hp, g, d, tk, os⟩ := s; obtain ⟨hl, h⟩ := h
    have f1 := AutoSeq1.idx_int
    wp_walk
    simp only [h1, Bool.false_eq_true, if_false]
    wp_walk using wpAny_loadPart' hl
    try simp only [h2, h3, Bool.false_eq_true, if_false, if_true]
    try (wp_walk using wpAny_loadPart' hl)
    exact ⟨_, rfl, h⟩
theorem mulT_new (l : Addr) (items : Array Value) (n : Nat) (x : Int) (u : Tok) (h1 : (decide (x < -(2 ^ 63)) || decide (x ≥ 2 ^ 63)) = false) (h2 : (items.isEmpty || x == 1) = false) (h3 : (decide (x ≤ 0) || items.isEmpty) = false) (h4 : ¬ (items.size * x : Int) > (2 ^ 63 - 1) / 8) (h5 : Builtin.Tuple.tupleTooMany (items.size * x) = false)
    (hs : (List.foldl (fun x1 x2 => x1 ++ x2) #[] (List.replicate x.toNat items)).size ≤ sizeLine) :
    Meets (Builtin.«tuple.__mul__» ⟨[.ref l, .int x u], []⟩) (fun _ R s => s.heap.get? l = some { cls := .type "tuple", dict := dd, data := .seq items n, slots := sl } ∧ R (.ok (.ret (.ref s.heap.objs.size))) { s with heap := s.heap.push { cls := Value.type "tuple", data := Data.seq (List.foldl (fun x1 x2 => x1 ++ x2) #[] (List.replicate x.toNat items)) } }) :=
  .of_wp fun prog w A R s h => by
    obtain ⟨hp, g, d, tk, os⟩ := s; obtain ⟨hl, h⟩ := h
    have f1 := AutoSeq1.idx_int
    wp_walk
    simp only [h1, Bool.false_eq_true, if_false]
    wp_walk using wpAny_loadPart' hl
    simp only [h2, h3, h5, Bool.false_eq_true, if_false, if_neg h4]
    wp_walk using wpAny_loadPart' hl
    exact ⟨_, rfl, h⟩
end
theorem foldl_reps (its : List Value) (m : Nat) : List.foldl (fun x1 x2 => x1 ++ x2) #[] (List.replicate m its.toArray) = (List.replicate m its).flatten.toArray := by
  have := foldl_rep its m []
  rw [List.nil_append] at this
  exact this
section
variable {prog : Program} {w : World} {A : Around} {E : Value → Shared → Prop} {s : Shared}
theorem mul_tup {l : Addr} {its : List Value} {k : Int} {t : Tok} {Q : Value → Shared → Prop} (p : IsTup s.heap l its.toArray) (h1 : -(2 ^ 63) ≤ k) (h2 : k < 2 ^ 63) (hz : its.length * k.toNat ≤ sizeLine)
    (qs : (its = [] ∨ k = 1) → Q (.ref l) s) (qn : its ≠ [] → k ≠ 1 → Q (.ref s.heap.objs.size) { s with heap := s.heap.push { cls := .type "tuple", data := .seq (List.replicate k.toNat its).flatten.toArray } }) :
    wpAny (model prog w) A (binaryOp .Mult (.ref l) (.int k t)) Q E s := by
  obtain ⟨o, e, hc, n, hd⟩ := p
  obtain ⟨c, dd, da, sl⟩ := o
  have hc' : c = .type "tuple" := hc
  have hd' : da = .seq its.toArray n := hd
  subst hc' hd'
  have b1 : (decide (k < -(2 ^ 63)) || decide (k ≥ 2 ^ 63)) = false := by simp; omega
  refine wpAny_binaryOp_repeat_ref (T := "tuple") (U := "int") (by decide) ⟨_, e, rfl⟩ (fun s' => typeIs_int s' k t) noFillT F.fills_int_mul F.slot_int_rmul repT F.slot_int_index.lookup
    (call_meets F.slot_int_rmul (typeIs_int s k t) F.entry_int_rmul (F.args_int_rmul_2 _ _) (rmulT k t l its.toArray n) ⟨e, rfl, ⟨_, e, rfl⟩, ?_⟩)
  by_cases hs : its = [] ∨ k = 1
  · exact call_meets F.slot_tuple_mul ⟨_, e, rfl⟩ F.entry_tuple_mul (F.args_tuple_mul_2 _ _) (mulT_same l its.toArray n k t b1 (by rcases hs with h | h <;> simp [h])) ⟨e, qs hs⟩
  · have hne : its ≠ [] := fun h => hs (.inl h)
    have hk : k ≠ 1 := fun h => hs (.inr h)
    have b2 : (its.toArray.isEmpty || k == 1) = false := by cases its <;> simp_all
    have new := qn hne hk
    by_cases h0 : k ≤ 0
    · have z : k.toNat = 0 := by omega
      rw [z] at new
      exact call_meets F.slot_tuple_mul ⟨_, e, rfl⟩ F.entry_tuple_mul (F.args_tuple_mul_2 _ _) (mulT_none l its.toArray n k t b1 b2 (by simp [h0])) ⟨e, new⟩
    · have sz : sizeLine = 16777216 := PySem.sizeLine_eq
      have hm : (its.toArray.size : Int) * k ≤ 16777216 := by
        have e1 : k = (k.toNat : Int) := by omega
        rw [List.size_toArray, e1, ← Int.natCast_mul]
        omega
      have b3 : (decide (k ≤ 0) || its.toArray.isEmpty) = false := by cases its <;> simp_all
      refine call_meets F.slot_tuple_mul ⟨_, e, rfl⟩ F.entry_tuple_mul (F.args_tuple_mul_2 _ _) (mulT_new l its.toArray n k t b1 b2 b3 (by omega) (by simp only [Builtin.Tuple.tupleTooMany, decide_eq_false_iff_not, sz]; omega) ?_) ⟨e, ?_⟩
      · rw [foldl_reps, List.size_toArray, len_rep, Nat.mul_comm]; exact hz
      · rw [foldl_reps]; exact new
end
variable {X : Cx}
noncomputable def rRepT (K : PySem.W.Frag) : R2 := fun x y H Q => ∃ l k xs, x = .ref l ∧ y = .int k ∧ SqT K H l xs ∧ -(2 ^ 63) ≤ k ∧ k < 2 ^ 63 ∧ xs.length * k.toNat ≤ sizeLine ∧ ((xs = [] ∨ k = 1) → Q (.ref l) H) ∧
  (xs ≠ [] → k ≠ 1 → ∀ p, H p = none → Q (.ref p) (upd H p (.tup (List.replicate k.toNat xs).flatten)))
theorem op_repT : OpR X (binaryOp .Mult) (rRepT X.K) := by
  intro pins s σ H x y v u Q I rx ry h
  obtain ⟨l, k, xs, rfl, rfl, ha, h1, h2, hz, q1, q2⟩ := h
  cases rx
  obtain ⟨t, rfl⟩ := ry
  obtain ⟨its, r1, p1, _⟩ := I.tuple ha
  refine mul_tup p1 h1 h2 (by rw [← r1.length]; exact hz) (fun z => ⟨.ref l, H, I, rfl, q1 (z.imp r1.nil_iff.mp id)⟩) (fun z zk => ?_)
  refine ⟨.ref s.heap.objs.size, _, I.laid (t' := s.toks) (o := .tup (List.replicate k.toNat xs).flatten) (fun b ob q => Heap.get?_push_of_some _ q) (Nat.le_refl _) ?_, rfl, q2 (fun w => z (r1.nil_iff.mpr w)) zk _ (I.hok.fresh (Nat.le_refl _))⟩
  exact ⟨by rw [len_rep, Nat.mul_comm]; exact hz, _, r1.rep k.toNat, IsTuN.new _ _⟩
end DL
namespace DL
open PySem PySem.Spec PyProof.Rows L2
section
variable {X : Cx}
noncomputable def iiD (C : Int → Int → Prop) [∀ i j, Decidable (C i j)] (g : Int → Int → D) : F2 := fun x y H => match x, y with
  | .int i, .int j => if C i j then some (g i j, H) else none
  | _, _ => none
theorem opf_ii {f : Value → Value → Sem Value} {C : Int → Int → Prop} [∀ i j, Decidable (C i j)] {g : Int → Int → Int} (h : OpR X f (rI C fun i j => .int (g i j))) : OpF X f (iiD C fun i j => .int (g i j)) := by
  refine OpRi h fun x y H Q ⟨ι, dx, dy, Hd, d, Hd', hr, r1, r2, e, q⟩ => ?_
  cases dx <;> cases dy <;> simp only [iiD] at e <;> try cases e
  rename_i i j
  split at e
  · rename_i hc
    cases e
    simp at r1 r2
    exact ⟨i, j, r1, r2, hc, q _ H ι Le.refl hr (by simp)⟩
  · cases e
noncomputable def CT (_ _ : Int) : Prop := True
instance : ∀ i j, Decidable (CT i j) := fun _ _ => instDecidableTrue
theorem rI0_of {f : Value → Value → Sem Value} {g : Int → Int → V} (h : OpR X f (rI0 g)) : OpR X f (rI CT g) := OpRi h fun x y H Q ⟨i, j, e1, e2, _, q⟩ => ⟨i, j, e1, e2, q⟩
theorem opf_ib {f : Value → Value → Sem Value} {g : Int → Int → Bool} (h : OpR X f (rI0 fun i j => .bl (g i j))) : OpF X f (iiD CT fun i j => .bl (g i j)) := by
  refine OpRi h fun x y H Q ⟨ι, dx, dy, Hd, d, Hd', hr, r1, r2, e, q⟩ => ?_
  cases dx <;> cases dy <;> simp only [iiD] at e <;> try cases e
  rename_i i j
  simp at r1 r2
  exact ⟨i, j, r1, r2, q _ H ι Le.refl hr (by simp)⟩
instance (i j : Int) : Decidable (CDiv i j) := by unfold CDiv; exact inferInstance
instance (i j : Int) : Decidable (CMul i j) := by unfold CMul; exact inferInstance
instance (i j : Int) : Decidable (CPow i j) := by unfold CPow; exact inferInstance
noncomputable def CPos (_ j : Int) : Prop := 0 < j
instance (i j : Int) : Decidable (CPos i j) := by unfold CPos; exact inferInstance
noncomputable def subD : F2 := iiD CT fun i j => .int (i - j)
noncomputable def fdivD : F2 := iiD CDiv fun i j => .int (i / j)
noncomputable def modD : F2 := iiD CPos fun i j => .int (i % j)
noncomputable def powD : F2 := iiD CPow fun i j => .int (i ^ j.toNat)
noncomputable def ltD : F2 := iiD CT fun i j => .bl (decide (i < j))
noncomputable def leD : F2 := iiD CT fun i j => .bl (decide (i ≤ j))
noncomputable def gtD : F2 := iiD CT fun i j => .bl (decide (j < i))
noncomputable def geD : F2 := iiD CT fun i j => .bl (decide (j ≤ i))
theorem opf_sub : OpF X (binaryOp .Sub) subD := opf_ii (rI0_of op_sub)
theorem opf_fdiv : OpF X (binaryOp .FloorDiv) fdivD := opf_ii op_fdiv
theorem opf_mod : OpF X (binaryOp .Mod) modD := opf_ii (C := CPos) op_mod
theorem opf_pow : OpF X (binaryOp .Pow) powD := opf_ii op_pow
theorem opf_lt : OpF X (compareOp .Lt) ltD := opf_ib op_lt
theorem opf_le : OpF X (compareOp .LtE) leD := opf_ib op_le
theorem opf_gt : OpF X (compareOp .Gt) gtD := opf_ib op_gt
theorem opf_ge : OpF X (compareOp .GtE) geD := opf_ib op_ge
noncomputable def negD : D → HD → Option (D × HD) := fun x H => match x with
  | .int i => some (.int (-i), H)
  | _ => none
theorem unf_neg : UnF X (unaryOp .USub) negD := by
  intro pins s σ H x v Q I rx ⟨ι, dx, Hd, d, Hd', hr, r1, e, q⟩
  cases dx <;> simp only [negD] at e <;> try cases e
  simp at r1
  exact un_neg pins s σ H x v Q I rx ⟨_, r1, q _ H ι Le.refl hr (by simp)⟩
theorem cat_tup0 {prog : Program} {w : World} {A : Around} {E : Value → Shared → Prop} {s : Shared} {t b : Addr} {ws : List Value} {Q : Value → Shared → Prop} (ht : IsTup s.heap t #[]) (hb : IsTup s.heap b ws.toArray)
    (h1 : Q (.ref b) s) : wpAny (model prog w) A (binaryOp .Add (.ref t) (.ref b)) Q E s := by
  obtain ⟨⟨cls, dd, data, sl⟩, ho, hc, n, hd⟩ := id ht
  obtain ⟨⟨cls2, dd2, data2, sl2⟩, ho2, hc2, n2, hd2⟩ := id hb
  simp only at hc hd hc2 hd2
  subst hc hd hc2 hd2
  exact concat_meets ⟨_, ho, rfl⟩ ⟨_, ho2, rfl⟩ noFill_tuple_add seq_tuple_add PySem.F.slot_tuple_add PySem.F.entry_tuple_add (PySem.F.args_tuple_add_2 _ _)
      (tuple_addW0 t b #[] ws.toArray n n2 dd dd2 sl sl2 (by simp)) ⟨ho, ho2, h1⟩
noncomputable def addD : F2 := fun x y H => match x, y with
  | .int i, .int j => some (.int (i + j), H)
  | .str a, .str b => if a.length + b.length ≤ sizeLine then some (.str (a ++ b), H) else none
  | .tup a, .tup b => mkT (a ++ b) H
  | .ref n, .ref m => match H[n]?, H[m]? with
    | some (.lst a), some (.lst b) => mkL (a ++ b) H
    | _, _ => none
  | _, _ => none
theorem opf_add : OpF X (binaryOp .Add) addD := by
  intro pins s σ H x y v u Q I rx ry ⟨ι, dx, dy, Hd, d, Hd', hr, r1, r2, e, q⟩
  cases dx <;> cases dy <;> simp only [addD] at e <;> try cases e
  · simp at r1 r2
    exact op_add pins s σ H x y v u Q I rx ry ⟨_, _, r1, r2, q _ H ι Le.refl hr (by simp)⟩
  · simp at r1 r2
    split at e
    · rename_i hl
      cases e
      exact op_add_str pins s σ H x y v u Q I rx ry ⟨_, _, r1, r2, hl, q _ H ι Le.refl hr (by simp)⟩
    · cases e
  · rename_i as bs
    obtain ⟨a, vs, rfl, h1, p1⟩ := rep_tup.mp r1
    obtain ⟨b, ws, rfl, h2, p2⟩ := rep_tup.mp r2
    cases p1 with
    | nil =>
      obtain ⟨hl, e⟩ := mkT_some e
      simp only [List.nil_append, Prod.mk.injEq] at e
      obtain ⟨rfl, rfl⟩ := e
      cases rx
      cases ry
      obtain ⟨its, q1, t1, _⟩ := I.tuple h1
      obtain ⟨its2, q2, t2, _⟩ := I.tuple h2
      cases q1
      exact cat_tup0 t1 t2 ⟨.ref b, H, I, rfl, q _ H ι Le.refl hr r2⟩
    | cons p p' =>
      have P := Prd.append (.cons p p') p2
      obtain ⟨hl, e'⟩ := mkT_some e
      cases p2 with
      | nil =>
        simp only [List.append_nil, Prod.mk.injEq] at e'
        obtain ⟨rfl, rfl⟩ := e'
        refine op_catT pins s σ H _ _ v u Q I rx ry ⟨a, b, _, _, rfl, rfl, h1, h2, by simp, ?_, fun _ => q _ H ι Le.refl hr r1, fun z => absurd rfl z⟩
        have := Prd.len P
        simp only [List.append_nil] at this hl
        simp only [List.length_nil]
        omega
      | cons p3 p4 =>
        obtain ⟨k1, k2⟩ := new_tup hr P e q
        refine op_catT pins s σ H _ _ v u Q I rx ry ⟨a, b, _, _, rfl, rfl, h1, h2, by simp, ?_, fun z => absurd z (by simp), fun _ => k2⟩
        rw [← List.length_append]; exact k1
  · rename_i n m
    obtain ⟨a, rfl, ha⟩ := rep_ref.mp r1
    obtain ⟨b, rfl, hb⟩ := rep_ref.mp r2
    split at e
    · rename_i as bs e1 e2
      obtain ⟨vs, h1, p1⟩ := hr.obj n a _ ha e1
      obtain ⟨ws, h2, p2⟩ := hr.obj m b _ hb e2
      obtain ⟨k1, k2⟩ := new_lst hr (Prd.append p1 p2) e q
      exact op_cat pins s σ H _ _ v u Q I rx ry ⟨a, b, vs, ws, rfl, rfl, h1, h2, by rw [← List.length_append]; exact k1, k2⟩
    · cases e
noncomputable def mulD : F2 := fun x y H => match x, y with
  | .int i, .int j => if CMul i j then some (.int (i * j), H) else none
  | .ref n, .int k => match H[n]? with
    | some (.lst a) => if -(2 ^ 63) ≤ k ∧ k < 2 ^ 63 ∧ a.length * k.toNat ≤ sizeLine then mkL (List.replicate k.toNat a).flatten H else none
    | _ => none
  | .tup a, .int k => if -(2 ^ 63) ≤ k ∧ k < 2 ^ 63 ∧ a.length * k.toNat ≤ sizeLine then mkT (List.replicate k.toNat a).flatten H else none
  | _, _ => none
theorem opf_mul : OpF X (binaryOp .Mult) mulD := by
  intro pins s σ H x y v u Q I rx ry ⟨ι, dx, dy, Hd, d, Hd', hr, r1, r2, e, q⟩
  cases dx <;> cases dy <;> simp only [mulD] at e <;> try cases e
  · simp at r1 r2
    split at e
    · rename_i hc
      cases e
      exact op_mul pins s σ H x y v u Q I rx ry ⟨_, _, r1, r2, hc, q _ H ι Le.refl hr (by simp)⟩
    · cases e
  · rename_i as k
    obtain ⟨a, vs, rfl, h1, p1⟩ := rep_tup.mp r1
    simp at r2
    split at e
    · rename_i hc
      have hlen := Prd.len p1
      obtain ⟨k1, k2⟩ := new_tup hr (Prd.rep p1 k.toNat) e q
      refine op_repT pins s σ H _ _ v u Q I rx ry ⟨a, k, vs, rfl, r2, h1, hc.1, hc.2.1, by rw [← hlen]; exact hc.2.2, fun z => ?_, fun _ _ => k2⟩
      obtain ⟨_, e'⟩ := mkT_some e
      have hf : (List.replicate k.toNat as).flatten = as := by
        rcases z with z | z
        · have : as = [] := List.eq_nil_of_length_eq_zero (by rw [hlen, z]; rfl)
          subst this
          simp
        · subst z
          simp
      rw [hf] at e'
      cases e'
      exact q _ H ι Le.refl hr r1
    · cases e
  · rename_i n k
    obtain ⟨a, rfl, ha⟩ := rep_ref.mp r1
    simp at r2
    split at e
    · rename_i as e1
      obtain ⟨vs, h1, p1⟩ := hr.obj n a _ ha e1
      split at e
      · rename_i hc
        obtain ⟨k1, k2⟩ := new_lst hr (Prd.rep p1 _) e q
        exact op_rep pins s σ H _ _ v u Q I rx ry ⟨a, k, vs, rfl, r2, h1, hc.1, hc.2.1, by rw [← Prd.len p1]; exact hc.2.2, k2⟩
      · cases e
    · cases e
noncomputable def seqD : D → HD → Option (List D)
  | .tup xs, _ => some xs
  | .fl xs, _ => some xs
  | .ref n, H => match H[n]? with
    | some (.lst xs) => some xs
    | _ => none
  | _, _ => none
theorem seq_rd {K : PySem.W.Frag} {H : Hp} {ι : List Addr} {Hd : HD} {d : D} {xs : List D} {v : V} (hr : HRep K H ι Hd) (r : Rep K H ι d v) (e : seqD d Hd = some xs) : ∃ p vs, v = .ref p ∧ (SqL K H p vs ∨ SqT K H p vs) ∧ Paired (Rep K H ι) xs vs := by
  cases d with
  | tup ys => cases e; obtain ⟨a, vs, rfl, h, p⟩ := rep_tup.mp r; exact ⟨a, vs, rfl, .inr h, p⟩
  | fl ys => cases e; obtain ⟨a, vs, rfl, h, p⟩ := rep_fl.mp r; exact ⟨a, vs, rfl, .inl h.sq, p⟩
  | ref n =>
    obtain ⟨a, rfl, ha⟩ := rep_ref.mp r
    simp only [seqD] at e
    split at e
    · rename_i ys e1
      cases e
      obtain ⟨vs, h1, p1⟩ := hr.obj n a _ ha e1
      exact ⟨a, vs, rfl, .inl (SqL.of h1), p1⟩
    · cases e
  | _ => simp [seqD] at e
theorem prd_atI {α β : Type} {F : α → β → Prop} {xs : List α} {us : List β} {i : Int} {x : α} (r : Paired F xs us) (h : atI xs i = some x) : ∃ u, atI us i = some u ∧ F x u := by
  unfold atI at h ⊢
  rw [← Prd.len r]
  obtain ⟨j, h1, h2⟩ := Option.bind_eq_some_iff.mp h
  obtain ⟨u, h3, h4⟩ := Prd.get r h2
  exact ⟨u, by rw [h1]; exact h3, h4⟩
noncomputable def ixD : F2 := fun x y H => match y with
  | .int i => (seqD x H).bind fun xs => (atI xs i).map fun d => (d, H)
  | _ => none
theorem ixf : IxF X ixD := by
  intro va sl pins s σ H x y v u Q I rx ry ⟨ι, dx, dy, Hd, d, Hd', hr, r1, r2, e, q⟩ hs
  cases dy <;> simp only [ixD] at e <;> try cases e
  rename_i i
  simp at r2
  obtain ⟨xs, e1, e⟩ := Option.bind_eq_some_iff.mp e
  obtain ⟨d', e2, e⟩ := Option.map_eq_some_iff.mp e
  obtain ⟨rfl, rfl⟩ := Prod.mk.inj e
  obtain ⟨p, vs, rfl, h, P⟩ := seq_rd hr r1 e1
  obtain ⟨z, hz, rz⟩ := prd_atI P e2
  rcases h with h | h
  · exact ix_list va sl pins s σ H _ _ v u Q I rx ry ⟨p, vs, i, z, rfl, r2, h, hz, q _ H ι Le.refl hr rz⟩ hs
  · exact ix_tup va sl pins s σ H _ _ v u Q I rx ry ⟨p, vs, i, z, rfl, r2, h, hz, q _ H ι Le.refl hr rz⟩ hs
noncomputable def cutD (xs : List D) (lo hi : Option Int) : List D := (xs.drop (HT.sIx xs.length 0 lo)).take (HT.sIx xs.length xs.length hi - HT.sIx xs.length 0 lo)
theorem prd_cut {K : PySem.W.Frag} {H : Hp} {ι : List Addr} {xs : List D} {vs : List V} (P : Paired (Rep K H ι) xs vs) (lo hi : Option Int) : Paired (Rep K H ι) (cutD xs lo hi) (cutV vs lo hi) := by
  unfold cutD cutV
  rw [← Prd.len P]
  exact Prd.take _ (Prd.drop _ P)
noncomputable abbrev OF := SD → HD → Option (Option Int × HD)
noncomputable def rdO (K : PySem.W.Frag) (f : OF) : TO := fun σ H Q => ∃ ι σd Hd o Hd', SRep K H ι σ σd ∧ HRep K H ι Hd ∧ f σd Hd = some (o, Hd') ∧ ∀ H' ι', Le K H ι H' ι' → HRep K H' ι' Hd' → Q o H'
noncomputable def POf (X : Cx) (e : Option Expr) (f : OF) : Prop := PO X e (rdO X.K f)
noncomputable def oNone : OF := fun _ H => some (none, H)
noncomputable def oSome (f : EF) : OF := fun σ H => (f σ H).bind fun p => match p.1 with
  | .int i => some (some i, p.2)
  | _ => none
theorem pof_none : POf X none oNone := by
  intro pins s σ H Q I ⟨ι, σd, Hd, o, Hd', sr, hr, e, q⟩
  cases e
  exact po_none pins s σ H Q I (q H ι Le.refl hr)
theorem pof_some {e : Expr} {f : EF} (h : PEf X e f) : POf X (some e) (oSome f) := by
  intro pins s σ H Q I ⟨ι, σd, Hd, o, Hd', sr, hr, e, q⟩
  obtain ⟨⟨d, H1⟩, e1, e⟩ := Option.bind_eq_some_iff.mp e
  cases d <;> try cases e
  rename_i i
  exact po_some h pins s σ H Q I ⟨ι, σd, Hd, _, _, sr, hr, e1, fun v H' ι' l h r => ⟨i, by simpa using r, q H' ι' l h⟩⟩
noncomputable def slD (x : D) (lo hi : Option Int) (H : HD) : Option (D × HD) := match x with
  | .tup xs => some (.tup (cutD xs lo hi), H)
  | .fl xs => some (.ref H.length, H ++ [.lst (cutD xs lo hi)])
  | .ref n => match H[n]? with
    | some (.lst xs) => some (.ref H.length, H ++ [.lst (cutD xs lo hi)])
    | _ => none
  | _ => none
theorem getItem_tuple_whole {prog : Program} {w : World} {A : Around} {E : Value → Shared → Prop} {s : Shared} {t sl : Addr} {items : Array Value} {vl vu : Value} {lo hi : Option Int} {Q : Value → Shared → Prop} (ht : IsTup s.heap t items) (hs : s.heap.IsSliceOf sl vl vu .none) (pl : IsPart vl lo) (pu : IsPart vu hi)
    (hw : HT.sIx items.size 0 lo = 0 ∧ HT.sIx items.size items.size hi = items.size) (h : Q (.ref t) s) : wpAny (model prog w) A (getItem (.ref t) (.ref sl)) Q E s := by
  obtain ⟨os, hos, hcs, hds⟩ := id hs
  have hTs : s.TypeIs (.ref sl) "slice" := ⟨os, hos, hcs⟩
  obtain ⟨ot, hot, hct, nt, hdt⟩ := id ht
  unfold getItem
  try with_reducible refine wpAny_holding ?_
  first | refine wpAny_bind (wpAny_pure ?_) | skip
  refine wpAny_bind (wpAny_sequenceKey ht.typeIs (by decide) ?_)
  refine wpAny_bind (wpAny_callSpecial?_slot (name := Str.ofString "__getitem__") ht.typeIs PyProof.Rows.slot_tuple_getitem
    (wpAny_call_entry PyProof.Rows.slot_tuple_getitem ht.typeIs entry_tuple_getitem ?_ (args_tuple_getitem _ _)))
  show wpAny _ _ (Builtin.Tuple.tupleItemsOf (.ref t) >>= _) _ _ s
  refine wpAny_bind (tupleItemsOf_ ht ?_)
  refine wpAny_bind (wpAny_typeOf hTs ?_)
  rw [if_pos (by decide)]
  refine wpAny_bind (HT.sliceApplied_gen hs pl pu ?_)
  show wpAny _ _ (if (((HT.sIx items.size 0 lo : Nat) : Int) == 0 && (1 : Int) == 1 && (HT.sIx items.size items.size hi - HT.sIx items.size 0 lo) == items.size) = true then _ else _) _ _ s
  rw [if_pos (by rw [hw.1, hw.2]; simp)]
  show wpAny _ _ (Builtin.Tuple.tupleIsExact (Value.ref t) >>= _) _ _ s
  unfold Builtin.Tuple.tupleIsExact
  refine wpAny_bind (wpAny_bind (wpAny_typeOf ht.typeIs (wpAny_pure ?_)))
  rw [if_pos (by decide)]
  exact wpAny_bind (wpAny_rule (wpAny_pure ⟨_, rfl, wpAny_pure h⟩))
theorem cutD_whole {xs : List D} {lo hi : Option Int} (h : HT.sIx xs.length 0 lo = 0 ∧ HT.sIx xs.length xs.length hi = xs.length) : cutD xs lo hi = xs := by
  unfold cutD
  rw [h.1, h.2]; simp
noncomputable def rdSl (K : PySem.W.Frag) : V → Option Int → Option Int → Hp → VK → Prop := fun x lo hi H Q => ∃ ι dx Hd d Hd', HRep K H ι Hd ∧ Rep K H ι dx x ∧ slD dx lo hi Hd = some (d, Hd') ∧ QE K H ι d Hd' Q
theorem slf : SlR X (rdSl X.K) := by
  intro pins s σ H x v vl vu lo hi sl Q I rx hs pl pu ⟨ι, dx, Hd, d, Hd', hr, r, e, q⟩
  have lists : ∀ {a : Addr} {xs : List D} {vs : List V}, x = .ref a → SqL X.K H a vs → Paired (Rep X.K H ι) xs vs → (D.ref Hd.length, Hd ++ [DO.lst (cutD xs lo hi)]) = (d, Hd') →
      ∃ T id, typeLookup (.type T) "__getitem__" = pure (some (.builtin id)) ∧ s.TypeIs v T ∧ wpAny (model X.prog X.w) X.A (getItem v (.ref sl)) (EP X pins σ Q) X.xe s := fun {a xs vs} ex h P e => by
    obtain ⟨_, _, _, hz⟩ := I.list h
    have hz2 : (cutD xs lo hi).length ≤ sizeLine := by
      rw [Prd.len (prd_cut P lo hi)]
      exact Nat.le_trans (cutV_length vs lo hi) hz
    obtain ⟨k1, k2⟩ := new_lst hr (prd_cut P lo hi) (show mkL (cutD xs lo hi) Hd = some (d, Hd') by unfold mkL; rw [if_pos hz2, e]) q
    exact sl_list pins s σ H x v vl vu lo hi sl Q I rx hs pl pu ⟨a, vs, ex, h, k2⟩
  cases dx with
  | tup xs =>
    obtain ⟨a, vs, rfl, h, P⟩ := rep_tup.mp r
    simp only [slD, Option.some.injEq] at e
    obtain ⟨its, rv, ht, hz⟩ := I.tuple h
    have hlen : its.toArray.size = vs.length := by rw [List.size_toArray]; exact rv.length.symm
    by_cases hw : HT.sIx vs.length 0 lo = 0 ∧ HT.sIx vs.length vs.length hi = vs.length
    · cases rx
      refine ⟨"tuple", _, PyProof.Rows.slot_tuple_getitem.lookup, ht.typeIs, getItem_tuple_whole ht hs pl pu (by rw [hlen]; exact hw) ?_⟩
      rw [cutD_whole (by rw [Prd.len P]; exact hw)] at e
      obtain ⟨rfl, rfl⟩ := Prod.mk.inj e
      exact ⟨.ref a, H, I, rfl, q _ H ι Le.refl hr r⟩
    · have hz2 : (cutD xs lo hi).length ≤ sizeLine := by
        rw [Prd.len (prd_cut P lo hi)]
        exact Nat.le_trans (cutV_length vs lo hi) hz
      obtain ⟨k1, k2⟩ := new_tup hr (prd_cut P lo hi) (show mkT (cutD xs lo hi) Hd = some (d, Hd') by unfold mkT; rw [if_pos hz2, e]) q
      exact sl_tup pins s σ H _ v vl vu lo hi sl Q I rx hs pl pu ⟨a, vs, rfl, h, hw, k2⟩
  | fl xs =>
    obtain ⟨a, vs, rfl, h, P⟩ := rep_fl.mp r
    simp only [slD, Option.some.injEq] at e
    exact lists rfl h.sq P e
  | ref n =>
    obtain ⟨a, rfl, ha⟩ := rep_ref.mp r
    simp only [slD] at e
    split at e
    · rename_i xs e1
      obtain ⟨vs, h1, P⟩ := hr.obj n a _ ha e1
      exact lists rfl (SqL.of h1) P (Option.some.inj e)
    · cases e
  | _ => simp [slD] at e
noncomputable def eSl (fe : EF) (fl fh : OF) : EF := fun σ H => (fe σ H).bind fun p => (fl σ p.2).bind fun l => (fh σ l.2).bind fun h => slD p.1 l.1 h.1 h.2
theorem pef_slice {e : Expr} {lo hi : Option Expr} {fe : EF} {fl fh : OF} {pos p2 : Pos} (he : PEf X e fe) (hl : POf X lo fl) (hu : POf X hi fh) : PEf X (.Subscript e (.Slice lo hi none p2) pos) (eSl fe fl fh) := by
  refine PEi (pe_slice slf he hl hu) fun σ H Q ⟨ι, σd, Hd, d, Hd', s, hr, e, q⟩ => ?_
  obtain ⟨⟨x, H1⟩, e1, e⟩ := Option.bind_eq_some_iff.mp e
  obtain ⟨⟨y, H2⟩, e2, e⟩ := Option.bind_eq_some_iff.mp e
  obtain ⟨⟨z, H3⟩, e3, e⟩ := Option.bind_eq_some_iff.mp e
  exact ⟨ι, σd, Hd, x, H1, s, hr, e1, fun v1 H1' ι1 l1 h1 r1 => ⟨ι1, σd, H1, y, H2, s.mono l1, h1, e2, fun H2' ι2 l2 h2 => ⟨ι2, σd, H2, z, H3, s.mono (l1.trans l2), h2, e3, fun H3' ι3 l3 h3 =>
    ⟨ι3, x, H3, d, Hd', h3, r1.mono (l2.trans l3), e, fun v H' ι' l h r => q v H' ι' (((l1.trans l2).trans l3).trans l) h r⟩⟩⟩⟩
noncomputable def lenD : FF := fun ds H => match ds with
  | [.str x] => if x.length ≤ sizeLine then some (.int x.length, H) else none
  | [d] => (seqD d H).map fun xs => (.int xs.length, H)
  | _ => none
theorem prd1 {K : PySem.W.Frag} {H : Hp} {ι : List Addr} {d : D} {vs : List V} (P : Paired (Rep K H ι) [d] vs) : ∃ v, vs = [v] ∧ Rep K H ι d v := by
  cases P with
  | cons r t => cases t; exact ⟨_, rfl, r⟩
theorem prd2 {K : PySem.W.Frag} {H : Hp} {ι : List Addr} {d d' : D} {vs : List V} (P : Paired (Rep K H ι) [d, d'] vs) : ∃ v v', vs = [v, v'] ∧ Rep K H ι d v ∧ Rep K H ι d' v' := by
  cases P with
  | cons r t => obtain ⟨v, rfl, r'⟩ := prd1 t; exact ⟨_, _, rfl, r, r'⟩
theorem callf_len : CallF X (.builtin "len") lenD := by
  intro pins s σ H xs us Q I rv ⟨ι, ds, Hd, d, Hd', hr, P, e, q⟩
  unfold lenD at e
  split at e
  · obtain ⟨v, rfl, r⟩ := prd1 P
    simp at r
    subst r
    split at e
    · rename_i hl
      cases e
      exact call_len_str pins s σ H _ us Q I rv ⟨_, rfl, hl, q _ H ι Le.refl hr (by simp)⟩
    · cases e
  · obtain ⟨v, rfl, r⟩ := prd1 P
    obtain ⟨ys, e1, e⟩ := Option.map_eq_some_iff.mp e
    obtain ⟨rfl, rfl⟩ := Prod.mk.inj e
    obtain ⟨p, vs, rfl, h, P2⟩ := seq_rd hr r e1
    exact call_len_seq pins s σ H _ us Q I rv ⟨p, vs, rfl, h, q _ H ι Le.refl hr (by simp [Prd.len P2])⟩
  · cases e
noncomputable def absD : FF := fun ds H => match ds with
  | [.int i] => some (.int (if i < 0 then -i else i), H)
  | _ => none
theorem callf_abs : CallF X (.builtin "abs") absD := by
  intro pins s σ H xs us Q I rv ⟨ι, ds, Hd, d, Hd', hr, P, e, q⟩
  unfold absD at e
  split at e
  · obtain ⟨v, rfl, r⟩ := prd1 P
    simp at r
    subst r
    cases e
    exact call_abs pins s σ H _ us Q I rv ⟨_, rfl, q _ H ι Le.refl hr (by simp)⟩
  · cases e
noncomputable def maxD : FF := fun ds H => match ds with
  | [.int i, .int j] => some (.int (if j > i then j else i), H)
  | _ => none
noncomputable def minD : FF := fun ds H => match ds with
  | [.int i, .int j] => some (.int (if j < i then j else i), H)
  | _ => none
noncomputable def intD : FF := fun ds H => match ds with
  | [.int i] => some (.int i, H)
  | [.bl b] => some (.int (if b then 1 else 0), H)
  | _ => none
theorem callf_int : CallF X (.type "int") intD := by
  intro pins s σ H xs us Q I rv ⟨ι, ds, Hd, d, Hd', hr, P, e, q⟩
  unfold intD at e
  split at e
  · obtain ⟨v, rfl, r⟩ := prd1 P
    simp at r
    subst r
    cases e
    exact call_int1 pins s σ H _ us Q I rv (.inl ⟨_, rfl, q _ H ι Le.refl hr (by simp)⟩)
  · obtain ⟨v, rfl, r⟩ := prd1 P
    simp at r
    subst r
    cases e
    exact call_int1 pins s σ H _ us Q I rv (.inr ⟨_, rfl, q _ H ι Le.refl hr (by simp)⟩)
  · cases e
noncomputable def listD : FF := fun ds H => match ds with
  | [d] => (seqD d H).map fun xs => (.ref H.length, H ++ [.lst xs])
  | _ => none
theorem seq_size {pins : List (Addr × Obj)} {s : Shared} {σ : L2.St} {H : Hp} {p : Addr} {vs : List V} (I : Inv X pins σ H s) (h : SqL X.K H p vs ∨ SqT X.K H p vs) : vs.length ≤ sizeLine := by
  rcases h with h | h
  · obtain ⟨_, _, _, z⟩ := I.list h; exact z
  · obtain ⟨_, _, _, z⟩ := I.tuple h; exact z
theorem callf_list : CallF X (.type "list") listD := by
  intro pins s σ H xs us Q I rv ⟨ι, ds, Hd, d, Hd', hr, P, e, q⟩
  unfold listD at e
  split at e
  · obtain ⟨v, rfl, r⟩ := prd1 P
    obtain ⟨ys, e1, e⟩ := Option.map_eq_some_iff.mp e
    obtain ⟨p, vs, rfl, h, P2⟩ := seq_rd hr r e1
    obtain ⟨k1, k2⟩ := new_lst hr P2 (show mkL ys Hd = some (d, Hd') by unfold mkL; rw [if_pos (by rw [Prd.len P2]; exact seq_size I h), e]) q
    exact call_list_of pins s σ H _ us Q I rv ⟨p, vs, rfl, h, k2⟩
  · cases e
noncomputable def tupleD : FF := fun ds H => match ds with
  | [d] => (seqD d H).map fun xs => (.tup xs, H)
  | _ => none
theorem callf_tuple : CallF X (.type "tuple") tupleD := by
  intro pins s σ H xs us Q I rv ⟨ι, ds, Hd, d, Hd', hr, P, e, q⟩
  unfold tupleD at e
  split at e
  · rename_i d0
    obtain ⟨v, rfl, r⟩ := prd1 P
    obtain ⟨ys, e1, e⟩ := Option.map_eq_some_iff.mp e
    obtain ⟨p, vs, rfl, h, P2⟩ := seq_rd hr r e1
    obtain ⟨k1, k2⟩ := new_tup hr P2 (show mkT ys Hd = some (d, Hd') by unfold mkT; rw [if_pos (by rw [Prd.len P2]; exact seq_size I h), e]) q
    refine call_tuple_of pins s σ H _ us Q I rv ⟨p, vs, rfl, ?_⟩
    rcases h with h | h
    · exact .inl ⟨h, k2⟩
    · obtain ⟨rfl, rfl⟩ := Prod.mk.inj e
      exact .inr ⟨h, q _ H ι Le.refl hr (rep_tup.mpr ⟨p, vs, rfl, h, P2⟩)⟩
  · cases e
noncomputable def appendD (x : D) (ds : List D) (H : HD) : Option (D × HD) := match x, ds with
  | .ref n, [d] => match H[n]? with
    | some (.lst xs) => if xs.length < sizeLine then some (.non, H.set n (.lst (xs ++ [d]))) else none
    | _ => none
  | _, _ => none
theorem mtf_append : MtF X "list.append" appendD := by
  intro pins s σ H x xs v us Q I rx rv ⟨ι, dx, ds, Hd, d, Hd', hr, r1, P, e, q⟩
  unfold appendD at e
  split at e
  · rename_i n d1
    obtain ⟨a, rfl, ha⟩ := rep_ref.mp r1
    obtain ⟨z, rfl, rz⟩ := prd1 P
    split at e
    · rename_i ys e1
      split at e
      · rename_i hl
        cases e
        obtain ⟨vs, h1, P1⟩ := hr.obj n a _ ha e1
        refine mt_append pins s σ H _ _ v us Q I rx rv ⟨a, vs, z, rfl, rfl, h1, by rw [← Prd.len P1]; exact hl, ?_⟩
        have L : Le X.K H ι (upd H a (.lst (vs ++ [z]))) ι := Le.upd (List.mem_of_getElem? ha) h1 trivial _
        exact q _ _ ι L (hr.upd ha h1 trivial ⟨_, upd_same, Prd.append (Prd.mono L P1) (.cons (rz.mono L) .nil)⟩) (by simp)
      · cases e
    · cases e
  · cases e
end
end DL
namespace DL
open PySem PySem.Spec PyProof.Rows L2
mutual
noncomputable def toP (H : HD) : Nat → D → Option PyData
  | _, .non => some .none
  | _, .bl b => some (.bool b)
  | _, .int i => some (.int i)
  | _, .str x => some (.str x)
  | _, .ty _ => none
  | n, .tup xs => (toPs H n xs).map .tuple
  | n, .fl xs => (toPs H n xs).map .list
  | 0, .ref _ => none
  | n + 1, .ref k => match H[k]? with
    | some (.lst xs) => (toPs H n xs).map .list
    | _ => none
termination_by n d => (n, sizeOf d)
noncomputable def toPs (H : HD) : Nat → List D → Option (List PyData)
  | _, [] => some []
  | n, d :: ds => (toP H n d).bind fun x => (toPs H n ds).map fun r => x :: r
termination_by n ds => (n, sizeOf ds)
end
section
variable {X : Cx} {pins : List (Addr × Obj)} {σ : L2.St} {H : Hp} {s : Shared} {ι : List Addr} {Hd : HD}
mutual
theorem reads_of (I : Inv X pins σ H s) (hr : HRep X.K H ι Hd) : ∀ (n : Nat) (d : D) {x : PyData} {v : V} {u : Value}, toP Hd n d = some x → Rep X.K H ι d v → RelV v u → ∃ as, Reads s.heap u x as
  | n, .non, x, v, u, e, r, q => by
    rw [toP] at e; cases e; simp at r; subst r; cases q; exact ⟨_, .none⟩
  | n, .bl b, x, v, u, e, r, q => by
    rw [toP] at e; cases e; simp at r; subst r; cases q; exact ⟨_, .bool b⟩
  | n, .int i, x, v, u, e, r, q => by
    rw [toP] at e; cases e; simp at r; subst r; obtain ⟨t, rfl⟩ := q; exact ⟨_, .int i t⟩
  | n, .str z, x, v, u, e, r, q => by
    rw [toP] at e; cases e; simp at r; subst r; obtain ⟨t, rfl⟩ := q; exact ⟨_, .str z t⟩
  | n, .ty _, x, v, u, e, r, q => by rw [toP] at e; cases e
  | n, .tup xs, x, v, u, e, r, q => by
    rw [toP] at e
    obtain ⟨ps, e1, rfl⟩ := Option.map_eq_some_iff.mp e
    obtain ⟨a, vs, rfl, h, P⟩ := rep_tup.mp r
    cases q
    obtain ⟨its, rv, ⟨o, ho, hc, m, hd⟩, hz⟩ := I.tuple h
    obtain ⟨as, ra⟩ := readsAll_of I hr n xs e1 P rv
    exact ⟨_, .tuple ho hc hd (by simpa using ra)⟩
  | n, .fl xs, x, v, u, e, r, q => by
    rw [toP] at e
    obtain ⟨ps, e1, rfl⟩ := Option.map_eq_some_iff.mp e
    obtain ⟨a, vs, rfl, h, P⟩ := rep_fl.mp r
    cases q
    obtain ⟨its, rv, pl, hz⟩ := I.list h.sq
    obtain ⟨o, ho, hc, m, hd⟩ := pl.isList
    obtain ⟨as, ra⟩ := readsAll_of I hr n xs e1 P rv
    exact ⟨_, .list ho hc hd (by simpa using ra)⟩
  | 0, .ref k, x, v, u, e, r, q => by rw [toP] at e; cases e
  | n + 1, .ref k, x, v, u, e, r, q => by
    rw [toP] at e
    split at e
    · rename_i xs eo
      obtain ⟨ps, e1, rfl⟩ := Option.map_eq_some_iff.mp e
      obtain ⟨a, rfl, ha⟩ := rep_ref.mp r
      cases q
      obtain ⟨vs, h1, P⟩ := hr.obj k a _ ha eo
      obtain ⟨its, rv, pl, hz⟩ := I.list (SqL.of h1)
      obtain ⟨o, ho, hc, m, hd⟩ := pl.isList
      obtain ⟨as, ra⟩ := readsAll_of I hr n xs e1 P rv
      exact ⟨_, .list ho hc hd (by simpa using ra)⟩
    · cases e
termination_by n d => (n, sizeOf d)
theorem readsAll_of (I : Inv X pins σ H s) (hr : HRep X.K H ι Hd) : ∀ (n : Nat) (ds : List D) {xs : List PyData} {vs : List V} {us : List Value}, toPs Hd n ds = some xs → Paired (Rep X.K H ι) ds vs → Vals vs us → ∃ as, ReadsAll s.heap us xs as
  | n, [], xs, vs, us, e, P, q => by
    rw [toPs] at e; cases e; cases P; cases q; exact ⟨_, .nil⟩
  | n, d :: ds, xs, vs, us, e, P, q => by
    rw [toPs] at e
    obtain ⟨x, e1, e⟩ := Option.bind_eq_some_iff.mp e
    obtain ⟨r, e2, rfl⟩ := Option.map_eq_some_iff.mp e
    cases P with
    | cons p P =>
      cases q with
      | cons q Q =>
        obtain ⟨as, ra⟩ := reads_of I hr n d e1 p q
        obtain ⟨bs, rb⟩ := readsAll_of I hr n ds e2 P Q
        exact ⟨_, .cons ra rb⟩
termination_by n ds => (n, sizeOf ds)
end
noncomputable def okP (x : PyData) : Bool := x.canLay0 && decide (x.depth ≤ 30)
noncomputable def dat (d : D) (H : HD) : Option PyData := (toP H 30 d).bind fun x => if okP x = true then some x else none
theorem dat_some {d : D} {x : PyData} (e : dat d Hd = some x) : toP Hd 30 d = some x ∧ x.canLay0 = true ∧ x.depth ≤ 30 := by
  obtain ⟨y, e1, e⟩ := Option.bind_eq_some_iff.mp e
  split at e
  · rename_i h
    cases e
    rw [okP, Bool.and_eq_true, decide_eq_true_eq] at h
    exact ⟨e1, h⟩
  · cases e
noncomputable def twoS : D → D → Option (Str × Str)
  | .str a, .str b => some (a, b)
  | _, _ => none
theorem twoS_some {x y : D} {a b : Str} (h : twoS x y = some (a, b)) : x = .str a ∧ y = .str b := by
  unfold twoS at h
  split at h
  · cases h; exact ⟨rfl, rfl⟩
  · cases h
noncomputable def eqD : F2 := fun x y H => match twoS x y with
  | some (a, b) => some (.bl (a == b), H)
  | none => (dat x H).bind fun p => (dat y H).map fun q => (.bl (PyData.eqv p q), H)
noncomputable def neD : F2 := fun x y H => match twoS x y with
  | some (a, b) => some (.bl (a != b), H)
  | none => (dat x H).bind fun p => (dat y H).map fun q => (.bl (!PyData.eqv p q), H)
theorem opf_eq (hu : X.A.units + 64 < cLine) : OpF X (compareOp .Eq) eqD := by
  intro pins s σ H x y v u Q I rx ry ⟨ι, dx, dy, Hd, d, Hd', hr, r1, r2, e, q⟩
  unfold eqD at e
  split at e
  · rename_i a b es
    obtain ⟨rfl, rfl⟩ := twoS_some es
    obtain ⟨rfl, rfl⟩ := Prod.mk.inj (Option.some.inj e)
    simp at r1 r2
    subst r1 r2
    obtain ⟨t1, rfl⟩ := rx
    obtain ⟨t2, rfl⟩ := ry
    exact PyProof.Rows.eq_str ⟨.bl _, H, I, rfl, q _ H ι Le.refl hr (by simp)⟩
  · obtain ⟨p, e1, e⟩ := Option.bind_eq_some_iff.mp e
    obtain ⟨p2, e2, e⟩ := Option.map_eq_some_iff.mp e
    obtain ⟨rfl, rfl⟩ := Prod.mk.inj e
    obtain ⟨t1, c1, d1⟩ := dat_some e1
    obtain ⟨t2, c2, d2⟩ := dat_some e2
    obtain ⟨as, ra⟩ := reads_of I hr _ _ t1 r1 rx
    obtain ⟨bs, rb⟩ := reads_of I hr _ _ t2 r2 ry
    exact SeqAt.compareEq_reads ra rb c1 c2 (by omega) ⟨.bl _, H, I, rfl, q _ H ι Le.refl hr (by simp)⟩
theorem opf_ne (hu : X.A.units + 64 < cLine) : OpF X (compareOp .NotEq) neD := by
  intro pins s σ H x y v u Q I rx ry ⟨ι, dx, dy, Hd, d, Hd', hr, r1, r2, e, q⟩
  unfold neD at e
  split at e
  · rename_i a b es
    obtain ⟨rfl, rfl⟩ := twoS_some es
    obtain ⟨rfl, rfl⟩ := Prod.mk.inj (Option.some.inj e)
    simp at r1 r2
    subst r1 r2
    obtain ⟨t1, rfl⟩ := rx
    obtain ⟨t2, rfl⟩ := ry
    exact PyProof.Rows.ne_str ⟨.bl _, H, I, rfl, q _ H ι Le.refl hr (by simp)⟩
  · obtain ⟨p, e1, e⟩ := Option.bind_eq_some_iff.mp e
    obtain ⟨p2, e2, e⟩ := Option.map_eq_some_iff.mp e
    obtain ⟨rfl, rfl⟩ := Prod.mk.inj e
    obtain ⟨t1, c1, d1⟩ := dat_some e1
    obtain ⟨t2, c2, d2⟩ := dat_some e2
    obtain ⟨as, ra⟩ := reads_of I hr _ _ t1 r1 rx
    obtain ⟨bs, rb⟩ := reads_of I hr _ _ t2 r2 ry
    exact SeqAt.compareNe_reads ra rb c1 c2 (by omega) ⟨.bl _, H, I, rfl, q _ H ι Le.refl hr (by simp)⟩
noncomputable def itemsP : PyData → Option (List PyData)
  | .list xs => some xs
  | .tuple xs => some xs
  | _ => none
noncomputable def inD : F2 := fun x y H => (dat x H).bind fun p => (dat y H).bind fun q => (itemsP q).map fun xs => (.bl (xs.any fun z => PyData.eqv z p), H)
theorem opf_in (hu : X.A.units + 64 < cLine) : OpF X (compareOp .In) inD := by
  intro pins s σ H x y v u Q I rx ry ⟨ι, dx, dy, Hd, d, Hd', hr, r1, r2, e, q⟩
  obtain ⟨p, e1, e⟩ := Option.bind_eq_some_iff.mp e
  obtain ⟨p2, e2, e⟩ := Option.bind_eq_some_iff.mp e
  obtain ⟨xs, e3, e⟩ := Option.map_eq_some_iff.mp e
  obtain ⟨rfl, rfl⟩ := Prod.mk.inj e
  obtain ⟨t1, c1, d1⟩ := dat_some e1
  obtain ⟨t2, c2, d2⟩ := dat_some e2
  obtain ⟨as, ra⟩ := reads_of I hr _ _ t1 r1 rx
  obtain ⟨bs, rb⟩ := reads_of I hr _ _ t2 r2 ry
  have fin : EP X pins σ Q (.bool (xs.any fun z => PyData.eqv z p)) s := ⟨.bl _, H, I, rfl, q _ H ι Le.refl hr (by simp)⟩
  cases p2 with
  | list ys =>
    cases e3
    simp only [PyData.canLay0] at c2
    simp only [PyData.depth] at d2
    exact SeqAt.in_list_reads rb ra c2 c1 (by omega) fin
  | tuple ys =>
    cases e3
    simp only [PyData.canLay0] at c2
    simp only [PyData.depth] at d2
    exact SeqAt.in_tuple_reads rb ra c2 c1 (by omega) fin
  | _ => simp [itemsP] at e3
noncomputable def isB (x y : D) : Option Bool := match y, x with
  | .non, .non => some true
  | .non, _ => some false
  | .bl b, .bl c => some (c == b)
  | .bl _, _ => some false
  | _, _ => none
noncomputable def isD : F2 := fun x y H => (isB x y).map fun b => (.bl b, H)
noncomputable def isnD : F2 := fun x y H => (isB x y).map fun b => (.bl (!b), H)
theorem is_bool_gen {M : Model} {A : Around} {E : Value → Shared → Prop} {s : Shared} {Q : Value → Shared → Prop} {v : Value} {b : Bool} (hv : ∀ i, v ≠ .builtin i) (h : Q (.bool (v == .bool b)) s) : wpAny M A (compareOp .Is v (.bool b)) Q E s := by
  cases v <;> first | exact wpAny_pure h | exact absurd rfl (hv _)
theorem isnot_bool_gen {M : Model} {A : Around} {E : Value → Shared → Prop} {s : Shared} {Q : Value → Shared → Prop} {v : Value} {b : Bool} (hv : ∀ i, v ≠ .builtin i) (h : Q (.bool (!(v == .bool b))) s) : wpAny M A (compareOp .IsNot v (.bool b)) Q E s := by
  cases v <;> first | exact wpAny_pure h | exact absurd rfl (hv _)
theorem relV_nb {x : V} {v : Value} (r : RelV x v) : ∀ i, v ≠ .builtin i := by
  intro i
  cases x with
  | non => cases r; intro z; cases z
  | bl _ => cases r; intro z; cases z
  | int _ => obtain ⟨t, rfl⟩ := r; intro z; cases z
  | str _ => obtain ⟨t, rfl⟩ := r; intro z; cases z
  | byt _ => obtain ⟨t, rfl⟩ := r; intro z; cases z
  | flt _ => obtain ⟨t, rfl⟩ := r; intro z; cases z
  | ref _ => cases r; intro z; cases z
  | ty _ => cases r; intro z; cases z
theorem isB_ok {dx dy : D} {x y : V} {v u : Value} {b : Bool} (r1 : Rep X.K H ι dx x) (r2 : Rep X.K H ι dy y) (rx : RelV x v) (ry : RelV y u) (e : isB dx dy = some b) :
    (u = .none ∧ b = (v == .none)) ∨ ∃ c, u = .bool c ∧ b = (v == .bool c) := by
  cases dy with
  | non =>
    simp at r2; subst r2; cases ry
    refine .inl ⟨rfl, ?_⟩
    cases dx with
    | non => simp at r1; subst r1; cases rx; cases e; rfl
    | bl _ => simp at r1; subst r1; cases rx; cases e; rfl
    | int _ => simp at r1; subst r1; obtain ⟨t, rfl⟩ := rx; cases e; rfl
    | str _ => simp at r1; subst r1; obtain ⟨t, rfl⟩ := rx; cases e; rfl
    | ty _ => simp at r1; subst r1; cases rx; cases e; rfl
    | tup _ => obtain ⟨a, _, rfl, _⟩ := rep_tup.mp r1; cases rx; cases e; rfl
    | fl _ => obtain ⟨a, _, rfl, _⟩ := rep_fl.mp r1; cases rx; cases e; rfl
    | ref _ => obtain ⟨a, rfl, _⟩ := rep_ref.mp r1; cases rx; cases e; rfl
  | bl c =>
    simp at r2; subst r2; cases ry
    refine .inr ⟨c, rfl, ?_⟩
    cases dx with
    | non => simp at r1; subst r1; cases rx; cases e; rfl
    | bl z => simp at r1; subst r1; cases rx; cases e; cases z <;> cases c <;> rfl
    | int _ => simp at r1; subst r1; obtain ⟨t, rfl⟩ := rx; cases e; rfl
    | str _ => simp at r1; subst r1; obtain ⟨t, rfl⟩ := rx; cases e; rfl
    | ty _ => simp at r1; subst r1; cases rx; cases e; rfl
    | tup _ => obtain ⟨a, _, rfl, _⟩ := rep_tup.mp r1; cases rx; cases e; rfl
    | fl _ => obtain ⟨a, _, rfl, _⟩ := rep_fl.mp r1; cases rx; cases e; rfl
    | ref _ => obtain ⟨a, rfl, _⟩ := rep_ref.mp r1; cases rx; cases e; rfl
  | _ => simp [isB] at e
theorem opf_is : OpF X (compareOp .Is) isD := by
  intro pins s σ H x y v u Q I rx ry ⟨ι, dx, dy, Hd, d, Hd', hr, r1, r2, e, q⟩
  obtain ⟨b, e1, e⟩ := Option.map_eq_some_iff.mp e
  obtain ⟨rfl, rfl⟩ := Prod.mk.inj e
  have fin : EP X pins σ Q (.bool b) s := ⟨.bl _, H, I, rfl, q _ H ι Le.refl hr (by simp)⟩
  rcases isB_ok r1 r2 rx ry e1 with ⟨rfl, rfl⟩ | ⟨c, rfl, rfl⟩
  · exact is_none_gen fin
  · exact is_bool_gen (relV_nb rx) fin
theorem opf_isn : OpF X (compareOp .IsNot) isnD := by
  intro pins s σ H x y v u Q I rx ry ⟨ι, dx, dy, Hd, d, Hd', hr, r1, r2, e, q⟩
  obtain ⟨b, e1, e⟩ := Option.map_eq_some_iff.mp e
  obtain ⟨rfl, rfl⟩ := Prod.mk.inj e
  have fin : EP X pins σ Q (.bool (!b)) s := ⟨.bl _, H, I, rfl, q _ H ι Le.refl hr (by simp)⟩
  rcases isB_ok r1 r2 rx ry e1 with ⟨rfl, rfl⟩ | ⟨c, rfl, rfl⟩
  · exact isnot_none_gen fin
  · exact isnot_bool_gen (relV_nb rx) fin
noncomputable def tyD : D → HD → Option String
  | .non, _ => some "NoneType"
  | .bl _, _ => some "bool"
  | .int _, _ => some "int"
  | .str _, _ => some "str"
  | .tup _, _ => some "tuple"
  | .fl _, _ => some "list"
  | .ref n, H => match H[n]? with
    | some (.lst _) => some "list"
    | _ => none
  | _, _ => none
noncomputable def asked (c : String) : Bool := c == "bool" || c == "int" || c == "str" || c == "tuple" || c == "list"
noncomputable def isiD : FF := fun ds H => match ds with
  | [x, .ty c] => if asked c = true then (tyD x H).map fun t => (.bl (t == c || (t == "bool" && c == "int")), H) else none
  | _ => none
noncomputable def tys : List String := ["NoneType", "bool", "int", "str", "tuple", "list"]
theorem tyD_mem {d : D} {t : String} (e : tyD d Hd = some t) : t ∈ tys := by
  cases d with
  | ref n =>
    simp only [tyD] at e
    split at e
    · cases e; decide
    · cases e
  | ty n => simp [tyD] at e
  | _ => simp only [tyD] at e; cases e; decide
theorem kit_ok (K : PySem.W.Frag) {t c : String} (ht : t ∈ tys) (hc : asked c = true) : PySem.W.kitOne K (.type t) (.type c) = some (t == c || (t == "bool" && c == "int")) := by
  have hc' : c = "bool" ∨ c = "int" ∨ c = "str" ∨ c = "tuple" ∨ c = "list" := by
    simpa [asked, or_assoc] using hc
  simp only [tys, List.mem_cons, List.not_mem_nil, or_false] at ht
  rcases ht with rfl | rfl | rfl | rfl | rfl | rfl <;> rcases hc' with rfl | rfl | rfl | rfl | rfl <;> first | rfl | (with_unfolding_all rfl) | kernel_rfl
theorem callf_isi : CallF X (.builtin "isinstance") isiD := by
  intro pins s σ H xs us Q I rv ⟨ι, ds, Hd, d, Hd', hr, P, e, q⟩
  unfold isiD at e
  split at e
  · rename_i x c
    split at e
    · rename_i hc
      obtain ⟨t, e1, e⟩ := Option.map_eq_some_iff.mp e
      obtain ⟨rfl, rfl⟩ := Prod.mk.inj e
      obtain ⟨v, v', rfl, r, r'⟩ := prd2 P
      obtain ⟨u, u', rfl, ru, ru'⟩ := vals2 rv
      simp at r'
      subst r'
      cases ru'
      have k := kit_ok X.K (tyD_mem e1) hc
      have fin : ∀ tk, EP X pins σ Q (.bool (t == c || (t == "bool" && c == "int"))) { s with toks := tk } := fun tk => ⟨.bl _, H, I.tok tk, rfl, q _ H ι Le.refl hr (by simp)⟩
      cases x with
      | non => simp at r; subst r; cases ru; cases e1; exact PySem.W.kia_one PySem.W.kitx_none I.kIn True.intro k (fun z => nomatch z) fin
      | bl y => simp at r; subst r; cases ru; cases e1; exact PySem.W.kia_one PySem.W.kitx_bool I.kIn True.intro k (fun z => nomatch z) fin
      | int y => simp at r; subst r; obtain ⟨t, rfl⟩ := ru; cases e1; exact PySem.W.kia_one PySem.W.kitx_int I.kIn True.intro k (fun z => nomatch z) fin
      | str y => simp at r; subst r; obtain ⟨t, rfl⟩ := ru; cases e1; exact PySem.W.kia_one PySem.W.kitx_str I.kIn True.intro k (fun z => nomatch z) fin
      | ty _ => simp [tyD] at e1
      | tup ys =>
        obtain ⟨a, vs, rfl, h, _⟩ := rep_tup.mp r
        cases ru; cases e1
        obtain ⟨its, _, ⟨o, ho, hcl, _⟩, _⟩ := I.tuple h
        exact PySem.W.kia_one PySem.W.kitx_tuple I.kIn ⟨o, ho, hcl⟩ k (fun z => nomatch z) fin
      | fl ys =>
        obtain ⟨a, vs, rfl, h, _⟩ := rep_fl.mp r
        cases ru; cases e1
        obtain ⟨its, _, pl, _⟩ := I.list h.sq
        obtain ⟨o, ho, hcl, _⟩ := pl.isList
        exact PySem.W.kia_one PySem.W.kitx_list I.kIn ⟨o, ho, hcl⟩ k (fun z => nomatch z) fin
      | ref n =>
        obtain ⟨a, rfl, ha⟩ := rep_ref.mp r
        cases ru
        simp only [tyD] at e1
        split at e1
        · rename_i ys eo
          cases e1
          obtain ⟨vs, h1, _⟩ := hr.obj n a _ ha eo
          obtain ⟨its, _, pl, _⟩ := I.list (SqL.of h1)
          obtain ⟨o, ho, hcl, _⟩ := pl.isList
          exact PySem.W.kia_one PySem.W.kitx_list I.kIn ⟨o, ho, hcl⟩ k (fun z => nomatch z) fin
        · cases e1
    · cases e
  · cases e
noncomputable def isTup : D → Bool
  | .tup _ => true
  | _ => false
noncomputable def intsD : List D → Option (List Int)
  | [] => some []
  | .int i :: r => (intsD r).map fun s => i :: s
  | _ => none
noncomputable def isort (ns : List Int) : List Int := ns.mergeSort (fun a b => decide (a ≤ b))
theorem isort_perm (ns : List Int) : (isort ns).Perm ns := List.mergeSort_perm ns _
theorem isort_pw (ns : List Int) : (isort ns).Pairwise (· ≤ ·) := by
  have h := List.pairwise_mergeSort (le := fun a b : Int => decide (a ≤ b)) (by intro a b c h1 h2; simp at *; omega) (by intro a b; simp; omega) ns
  exact h.imp (by intro a b h; simpa using h)
theorem sorted_eq : ∀ {xs ys : List Int}, xs.Perm ys → xs.Pairwise (· ≤ ·) → ys.Pairwise (· ≤ ·) → xs = ys
  | [], ys, p, _, _ => by simpa using p.symm
  | x :: xs, [], p, _, _ => by simpa using p
  | x :: xs, y :: ys, p, h1, h2 => by
    rw [List.pairwise_cons] at h1 h2
    have a1 : y ∈ x :: xs := p.symm.subset (by simp)
    have a2 : x ∈ y :: ys := p.subset (by simp)
    have e : x = y := by
      rcases List.mem_cons.mp a1 with z | z
      · exact z.symm
      · rcases List.mem_cons.mp a2 with w | w
        · exact w
        · have := h1.1 y z
          have := h2.1 x w
          omega
    subst e
    rw [sorted_eq (List.Perm.cons_inv p) h1.2 h2.2]
noncomputable def sortedD : FF := fun ds H => match ds with
  | [d] => (seqD d H).bind fun xs => (intsD xs).bind fun ns => if ns.length < 64 ∧ isTup d = false then some (.ref H.length, H ++ [.lst ((isort ns).map .int)]) else none
  | _ => none
theorem intsD_rep {K : PySem.W.Frag} : ∀ {xs : List D} {ns : List Int} {vs : List V}, intsD xs = some ns → Paired (Rep K H ι) xs vs → vs = ns.map V.int
  | [], ns, vs, e, P => by cases P; cases e; rfl
  | .int i :: r, ns, vs, e, P => by
    simp only [intsD] at e
    obtain ⟨s, e1, rfl⟩ := Option.map_eq_some_iff.mp e
    cases P with
    | cons p P =>
      simp at p
      subst p
      rw [intsD_rep e1 P]
      rfl
  | .non :: _, _, _, e, _ => by simp [intsD] at e
  | .bl _ :: _, _, _, e, _ => by simp [intsD] at e
  | .str _ :: _, _, _, e, _ => by simp [intsD] at e
  | .ty _ :: _, _, _, e, _ => by simp [intsD] at e
  | .tup _ :: _, _, _, e, _ => by simp [intsD] at e
  | .fl _ :: _, _, _, e, _ => by simp [intsD] at e
  | .ref _ :: _, _, _, e, _ => by simp [intsD] at e
theorem ints_vals : ∀ {ns : List Int} {us : List Value}, IntsAre us ns → Vals (ns.map V.int) us := by
  intro ns us h
  induction h with
  | nil => exact .nil
  | cons n t _ ih => exact .cons ⟨t, rfl⟩ ih
theorem ints_reps {K : PySem.W.Frag} (ns : List Int) : Paired (Rep K H ι) (ns.map D.int) (ns.map V.int) := by
  induction ns with
  | nil => exact .nil
  | cons n r ih => exact .cons (by simp) ih
theorem callf_sorted : CallF X (.builtin "sorted") sortedD := by
  intro pins s σ H xs us Q I rv ⟨ι, ds, Hd, d, Hd', hr, P, e, q⟩
  unfold sortedD at e
  split at e
  · rename_i d0
    obtain ⟨v, rfl, r⟩ := prd1 P
    obtain ⟨ys, e1, e⟩ := Option.bind_eq_some_iff.mp e
    obtain ⟨ns, e2, e⟩ := Option.bind_eq_some_iff.mp e
    split at e
    · rename_i hc
      obtain ⟨p, vs, rfl, h, P2⟩ := seq_rd hr r e1
      have hL : SqL X.K H p vs := by
        cases d0 with
        | tup _ => exact absurd hc.2 (by simp [isTup])
        | fl zs =>
          obtain ⟨a, ws, e3, h3, P3⟩ := rep_fl.mp r
          cases e3
          cases e1
          have : vs = ws := (intsD_rep e2 P2).trans (intsD_rep e2 P3).symm
          rw [this]; exact h3.sq
        | ref n =>
          obtain ⟨a, e3, h3⟩ := rep_ref.mp r
          cases e3
          simp only [seqD] at e1
          split at e1
          · rename_i zs eo
            cases e1
            obtain ⟨ws, h4, P4⟩ := hr.obj n _ _ h3 eo
            have : vs = ws := (intsD_rep e2 P2).trans (intsD_rep e2 P4).symm
            rw [this]; exact SqL.of h4
          · cases e1
        | _ => simp [seqD] at e1
      obtain ⟨u, rfl, ru⟩ := vals1 rv
      cases ru
      have ev := intsD_rep e2 P2
      subst ev
      obtain ⟨its, ri, pl, hz⟩ := I.list hL
      have il : its.length = ns.length := by rw [← ri.length, List.length_map]
      refine sorted_ints pl.isList (intsAre_of ri) (by omega) fun out ns' a1 a2 a3 => ?_
      have en : ns' = isort ns := sorted_eq (a2.trans (isort_perm ns).symm) a3 (isort_pw ns)
      subst en
      obtain ⟨k, hk⟩ := sortedAll_at s.heap its out
      have hp0 : H (s.heap.objs.size + 1) = none := I.hok.fresh (Nat.le_succ _)
      have hl : ((isort ns).map V.int).length ≤ sizeLine := by
        rw [List.length_map, (isort_perm ns).length_eq]
        have : sizeLine = 16777216 := sizeLine_eq
        omega
      refine ⟨.ref (s.heap.objs.size + 1), _, I.laid (t' := s.toks) (o := .lst ((isort ns).map V.int)) (fun b ob eb => sortedAll_old eb) (Nat.le_succ _) ⟨hl, out.toList, k, ints_vals a1, by simpa using hk⟩, rfl, ?_⟩
      have hz2 : ((isort ns).map D.int).length ≤ sizeLine := by simpa using hl
      exact (new_lst hr (ints_reps (isort ns)) (show mkL ((isort ns).map D.int) Hd = some (d, Hd') by unfold mkL; rw [if_pos hz2, e]) q).2 _ hp0
    · cases e
  · cases e
end
section
variable {X : Cx} {tg : Expr}
noncomputable def itemsD : D → HD → Option (List D × OwnD)
  | .tup xs, _ => some (xs, [])
  | .fl xs, _ => some (xs, [])
  | .ref n, H => match H[n]? with
    | some (.lst xs) => some (xs, [(n, .lst xs)])
    | _ => none
  | _, _ => none
noncomputable def smallI (i : Int) : Prop := -(2 ^ 62) ≤ i ∧ i < 2 ^ 62
instance (i : Int) : Decidable (smallI i) := by unfold smallI; exact inferInstance
noncomputable def rangeL (lo : Int) (n : Nat) : List D := (List.range n).map fun k : Nat => .int (lo + (k : Int))
theorem rangeL_get {lo : Int} {n i : Nat} {d : D} (h : (rangeL lo n)[i]? = some d) : i < n ∧ d = .int (lo + i) := by
  unfold rangeL at h
  rw [List.getElem?_map] at h
  obtain ⟨k, h1, rfl⟩ := Option.map_eq_some_iff.mp h
  rw [List.getElem?_eq_some_iff] at h1
  obtain ⟨hl, h1⟩ := h1
  simp at h1 hl
  subst h1
  exact ⟨hl, rfl⟩
theorem itr_range {K : PySem.W.Frag} {H0 : Hp} {ι0 : List Addr} (lo : Int) (n : Nat) : ItRep K (Itr lo n) (rangeL lo n) [] H0 ι0 := by
  refine ⟨fun i H2 ι2 Hd2 l2 h2 _ hi => (show i < n by simpa [rangeL] using hi), fun i H2 ι2 Hd2 d x H3 l2 h2 _ hd y => ?_, fun i H2 ι2 Hd2 l2 h2 _ hi => (show n ≤ i by simpa [rangeL] using hi)⟩
  obtain ⟨rfl, rfl⟩ := y
  obtain ⟨_, rfl⟩ := rangeL_get hd
  exact ⟨ι2, Le.refl, h2, by simp⟩
noncomputable def iR1 (f : AF) : ItF := fun σ H => (f σ H).bind fun p => match p.1 with
  | [.int j] => if smallI j then some ((rangeL 0 j.toNat, []), p.2) else none
  | _ => none
noncomputable def iR2 (f : AF) : ItF := fun σ H => (f σ H).bind fun p => match p.1 with
  | [.int i, .int j] => if smallI i ∧ smallI j then some ((rangeL i (j - i).toNat, []), p.2) else none
  | _ => none
theorem pif_range1 {a : Expr} {f : AF} {p pos : Pos} (hg : Gl X "range") (hm : X.mg "range" = none) (ha : PAf X [a] f) (hs : starEach [a] X.env = [(false, eval a X.env)] := by rfl) : PIf X tg (.Call (.Name "range" p) [a] [] pos) (iR1 f) := by
  refine PIi (pi_range1 hg hm ha hs) fun σ H R ⟨ι, σd, Hd, xs, own, Hd', s, hr, e, q⟩ => ?_
  obtain ⟨⟨ds, H1⟩, e1, e⟩ := Option.bind_eq_some_iff.mp e
  dsimp only at e
  split at e
  · rename_i j
    split at e
    · rename_i hj
      cases e
      refine ⟨ι, σd, Hd, _, _, s, hr, e1, fun vs H' ι' l h P => ?_⟩
      obtain ⟨v, rfl, r⟩ := prd1 P
      simp at r
      subst r
      exact ⟨j, rfl, hj.1, hj.2, q _ H' ι' l h (itr_range 0 _)⟩
    · cases e
  · cases e
end
end DL
namespace DL
open PySem PySem.Spec PyProof.Rows L2
open Builtin.SmallTypes (nextOf)
section
variable {prog : Program} {w : World} {A : Around} {E : Value → Shared → Prop} {s : Shared}
open AutoSeq1 (wpAny_loadPart') in
theorem enum_newT (t : Addr) (its : Array Value) (n : Nat) (dct : Option Addr) (sl : Array (Option Value)) :
    Meets (Builtin.«enumerate.__new__» ⟨[.type "enumerate", .ref t], []⟩) (fun _ R s => s.heap.get? t = some { cls := .type "tuple", dict := dct, data := .seq its n, slots := sl } ∧
      R (.ok (.ret (.ref (s.heap.push { cls := .type "tuple_iterator", data := .fields #[.ref t, .int 0 0] }).objs.size)))
        { s with heap := (s.heap.push { cls := .type "tuple_iterator", data := .fields #[.ref t, .int 0 0] }).push { cls := .type "enumerate", data := .fields #[.none, .bool false, .ref s.heap.objs.size, rawInt 0, .none, .none] } }) :=
  .of_wp fun prog w A R s h => by
    obtain ⟨hp, g, d, tk, os⟩ := s; obtain ⟨hl, h⟩ := h
    have hsub := sub_enumerate
    have hL : Heap.IsTuple (Shared.heap ⟨hp, g, d, tk, os⟩) t its := ⟨_, hl, rfl, n, rfl⟩
    wp_walk using wpAny_loadPart' hl
    refine wpAny_stack_any fun st => wpAny_pure ?_
    split
    · rename_i k _ _ _ _ _
      cases (k == Value.type "enumerate") <;> (wp_walk using wpAny_loadPart' hl, wpAny_pyIter_tuple hL; exact ⟨_, rfl, h⟩)
    · wp_walk using wpAny_loadPart' hl, wpAny_pyIter_tuple hL
      exact ⟨_, rfl, h⟩
end
end DL
namespace DL
open PySem PySem.Spec PyProof.Rows L2
section
variable {X : Cx}
noncomputable def enumL (c : Int) : List D → List D
  | [] => []
  | x :: r => .tup [.int c, x] :: enumL (c + 1) r
noncomputable def iEnum (f : AF) : ItF := fun σ H => (f σ H).bind fun p => match p.1 with
  | [.tup xs] => some ((enumL 0 xs, []), p.2)
  | _ => none
end
structure Five (z a b c d : Addr) : Prop where
  az : a ≠ z
  bz : b ≠ z
  cz : c ≠ z
  dz : d ≠ z
  ab : a ≠ b
  ac : a ≠ c
  ad : a ≠ d
  bc : b ≠ c
  bd : b ≠ d
  cd : c ≠ d
section
variable {X : Cx}
noncomputable def zipL : List D → List D → List D
  | x :: xs, y :: ys => .tup [x, y] :: zipL xs ys
  | _, _ => []
noncomputable def rangeL3 (lo c : Int) (n : Nat) : List D := (List.range n).map fun k : Nat => .int (lo + (k : Int) * c)
noncomputable def size3 (i j c : Int) : Nat := if i < j then ((j - i - 1) / c + 1).toNat else 0
noncomputable def small3 (i j c : Int) : Prop := -(2 ^ 60) ≤ i ∧ i < 2 ^ 60 ∧ -(2 ^ 60) ≤ j ∧ j < 2 ^ 60 ∧ 0 < c ∧ c < 2 ^ 20
instance (i j c : Int) : Decidable (small3 i j c) := by unfold small3; exact inferInstance
noncomputable def iR3 (f : AF) : ItF := fun σ H => (f σ H).bind fun p => match p.1 with
  | [.int i, .int j, .int c] => if small3 i j c then some ((rangeL3 i c (size3 i j c), []), p.2) else none
  | _ => none
end
end DL
namespace DL
open PySem PySem.Spec PyProof.Rows L2
section
variable {X : Cx}
end
structure Fn (P : Program) (w : World) (K : PySem.W.Frag) (mg : Str → Option Value) (base : Heap) (k : Nat) (x : Str) (ps : List Str) (F : FF) : Prop where
  ex : ∃ f fd, FnOk P w K mg base CX0 k f fd ps (spF K ps.length F) ∧ Binds K fd ps [] ∧ PySem.W.keepIn K (.ref f) = true ∧ mg x = some (.ref f) ∧ ∃ (oc : Value) (od : Option Addr) (osl : Array (Option Value)), K.lookup f = some ⟨oc, od, .func fd, osl⟩
theorem pef_fn {X : Cx} {k n : Nat} {ps : List Str} {x : Str} {p pos : Pos} {F : FF} {fa : AF} {e : Expr} {es : List Expr} (G : Fn X.prog X.w X.K X.mg X.base k x ps F) (hr : Room k X.A) (hg : Gl X x)
    (ha : PAf X (e :: es) fa) (hdb : (x == ("__debug__" : Str)) = false := by decide) (he : starEach (e :: es) X.env = (false, eval e X.env) :: starEach es X.env := by exact star_cons rfl) (hpl : (backTo pos (starEach es X.env)).any (·.1) = false := by exact star_any rfl) (hn : ps.length = n := by rfl) :
    PEf X (.Call (.Name x p) (e :: es) [] pos) (eCall n F fa) := by
  subst hn
  obtain ⟨f, fd, G1, hb, hk, hm, _⟩ := G.ex
  exact pef_call G1 hr hg hm hk hb ha hdb he hpl
noncomputable def Tf (K : PySem.W.Frag) (mg : Str → Option Value) (x : Str) (st : Stmt) : Prop := ∃ f fd, Fun K x x st f fd ∧ mg x = some (.ref f)
theorem tf_mk {K : PySem.W.Frag} {h : Heap} {mg : Str → Option Value} {x : Str} {st : Stmt} {f : Addr} {oc : Value} {od an : Option Addr} {osl : Array (Option Value)} {kV doc pm cdv ct : Value} (X : K.In h) (G : h.Ns mainGlobals mg)
    (a : PySem.W.nsIn K mainGlobals x = some (some (.ref f))) (l : K.lookup f = some ⟨oc, od, .func (PySem.W.fnOf x x (defArgs st) (defBody st) (defScope st) .none kV doc pm an cdv ct), osl⟩)
    (c : PySem.W.codeIn K cdv x = true) (k : PySem.W.keepIn K (.ref f) = true) : Tf K mg x st := ⟨f, _, fun_mk l c k, PySem.W.mg_of X G a⟩
theorem fn_mk {P : Program} {w : World} {K : PySem.W.Frag} {mg : Str → Option Value} {base : Heap} {x : Str} {st : Stmt} {N ps : List Str} {k : Nat} {b : SF} (T : Tf K mg x st) (S : FnScope N ps (defScope st))
    (hbd : ∀ (kV doc pm : Value) (an : Option Addr) (cdv ct : Value) (us : List Value), us.length = ps.length → bindArgs (PySem.W.fnOf x x (defArgs st) (defBody st) (defScope st) .none kV doc pm an cdv ct) ⟨us, []⟩ = pure (ps.zip us))
    (hb : ∀ (f : Addr) (cdv : Value) (A : Around) (outer : List Env) (s : Shared) (H : Hp) (E : XK), Room k (A.deeper (envOfC x (defScope st) s.heap.objs.size f cdv)) →
      PSsf (cxOf CX0 P w K mg base N x (defScope st) f cdv A outer s H E).nox (defBody st) b) : Fn P w K mg base (k + 1) x ps (runB ps.length N.length b) := by
  obtain ⟨f, fd, F, hm⟩ := T
  refine ⟨f, fd, fn_f F S fun cdv A outer s H E hr => hb f cdv A outer s H E hr, F.binds hbd, F.kp, hm, ?_⟩
  obtain ⟨oc, od, kV, doc, pm, an, cdv, ct, osl, rfl, lk, hcd⟩ := F.ex
  exact ⟨oc, od, osl, lk⟩
noncomputable def blkB (sc scope : Scope) (N : List Str) (x : Str) (cn : List Str) (ci : List Nat) : Bool :=
  (scope.kind == .function) && scope.names.all (fun y => y.2 != .cell) && scope.names.all (fun y => y.2 != .local || scope.names.lookup y.1 == some .local) && (scope.names.lookup x == some .local) &&
  scope.names.all (fun y => y.2 != .free || sc.names.lookup y.1 == some .cell) && decide (x :: cn).Nodup && (ci.length == cn.length) &&
  (cn.zip ci).all (fun p => N[p.2]? == some p.1 && scope.names.lookup p.1 == some .free && sc.names.lookup p.1 == some .cell)
theorem blk_fn {P : Program} {w : World} {K : PySem.W.Frag} {mg : Str → Option Value} {base : Heap} {N : List Str} {qual : Str} {sc scope : Scope} {f : Addr} {cdv : Value} {A : Around} {outer : List Env} {s : Shared} {H : Hp} {E : XK} {x : Str} {cn : List Str} {ci : List Nat}
    (h : blkB sc scope N x cn ci = true) : BlkOk (cxOf CX0 P w K mg base N qual sc f cdv A outer s H E).nox scope x cn ci := by
  unfold blkB at h
  simp only [Bool.and_eq_true, List.all_eq_true, Bool.or_eq_true, bne_iff_ne, ne_eq, beq_iff_eq, decide_eq_true_eq] at h
  obtain ⟨⟨⟨⟨⟨⟨⟨h1, h2⟩, h3⟩, h4⟩, h5⟩, h6⟩, h7⟩, h8⟩ := h
  refine ⟨h1, fun y hy => h2 y hy, fun y hy hl => (h3 y hy).resolve_left fun z => z hl, h4, fun y hy hf => ?_, h6, h7, fun j y hj => ?_⟩
  · have := (h5 y hy).resolve_left fun z => z hf
    obtain ⟨c, hc⟩ := cell_has (n := s.heap.objs.size + 1) this
    exact Option.isSome_iff_exists.mpr ⟨c, hc⟩
  · have hl : j < ci.length := by rw [h7]; exact (List.getElem?_eq_some_iff.mp hj).1
    have hm : (y, ci[j]) ∈ cn.zip ci := by
      refine List.mem_iff_getElem?.mpr ⟨j, ?_⟩
      rw [List.getElem?_zip_eq_some]
      exact ⟨hj, by simp [hl]⟩
    obtain ⟨⟨k1, k2⟩, k3⟩ := h8 _ hm
    exact ⟨ci[j], by simp [hl], k1, k2, .inl k3⟩
theorem bb_len : bootBuiltins "len" = some (.builtin "len") := by decide +kernel
theorem bb_abs : bootBuiltins "abs" = some (.builtin "abs") := by decide +kernel
theorem bb_sorted : bootBuiltins "sorted" = some (.builtin "sorted") := by decide +kernel
theorem bb_isinstance : bootBuiltins "isinstance" = some (.builtin "isinstance") := by decide +kernel
theorem bb_all : bootBuiltins "all" = some (.builtin "all") := by decide +kernel
theorem bb_repr : bootBuiltins "repr" = some (.builtin "repr") := by decide +kernel
theorem bb_int : bootBuiltins "int" = some (.type "int") := by decide +kernel
theorem bb_tuple : bootBuiltins "tuple" = some (.type "tuple") := by decide +kernel
theorem bb_list : bootBuiltins "list" = some (.type "list") := by decide +kernel
theorem bb_bool : bootBuiltins "bool" = some (.type "bool") := by decide +kernel
end DL
namespace DL
open PySem PySem.Spec PyProof.Rows L2
section
variable {X : Cx} {tg : Expr}
theorem itr_tup {K : PySem.W.Frag} {H0 : Hp} {ι0 : List Addr} {a : Addr} {xs : List D} {vs : List V} (hS : SqT K H0 a vs) (P : Paired (Rep K H0 ι0) xs vs) : ItRep K (Itt K a) xs [] H0 ι0 := by
  refine ⟨fun i H2 ι2 Hd2 l2 h2 _ hi => ?_, fun i H2 ι2 Hd2 d x H3 l2 h2 _ hd y => ?_, fun i H2 ι2 Hd2 l2 h2 _ hi => ⟨vs, l2.tup a vs hS, by rw [← Prd.len P]; exact hi⟩⟩
  · exact ⟨vs, vs[i]'(by rw [← Prd.len P]; exact hi), l2.tup a vs hS, by simp⟩
  · obtain ⟨rfl, y⟩ := y
    obtain ⟨u, hu, ru⟩ := Prd.get P hd
    have := y vs (l2.tup a vs hS)
    rw [hu] at this
    cases this
    exact ⟨ι2, Le.refl, h2, ru.mono l2⟩
theorem itr_fl {K : PySem.W.Frag} {H0 : Hp} {ι0 : List Addr} {a : Addr} {xs : List D} {vs : List V} (hS : FzL K H0 a vs) (P : Paired (Rep K H0 ι0) xs vs) : ItRep K (Itl K a) xs [] H0 ι0 := by
  refine ⟨fun i H2 ι2 Hd2 l2 h2 _ hi => ?_, fun i H2 ι2 Hd2 d x H3 l2 h2 _ hd y => ?_, fun i H2 ι2 Hd2 l2 h2 _ hi => ⟨vs, (l2.fz a vs hS).sq, by rw [← Prd.len P]; exact hi⟩⟩
  · exact ⟨vs, vs[i]'(by rw [← Prd.len P]; exact hi), (l2.fz a vs hS).sq, by simp⟩
  · obtain ⟨rfl, y⟩ := y
    obtain ⟨u, hu, ru⟩ := Prd.get P hd
    have := y vs (l2.fz a vs hS).sq
    rw [hu] at this
    cases this
    exact ⟨ι2, Le.refl, h2, ru.mono l2⟩
theorem itr_lst {K : PySem.W.Frag} {H0 : Hp} {ι0 : List Addr} {a : Addr} {n : Nat} {xs : List D} (ha : ι0[n]? = some a) : ItRep K (Itl K a) xs [(n, .lst xs)] H0 ι0 := by
  have now : ∀ {H2 : Hp} {ι2 : List Addr} {Hd2 : HD}, Le K H0 ι0 H2 ι2 → HRep K H2 ι2 Hd2 → okOwn [(n, DO.lst xs)] Hd2 → ∃ ws, H2 a = some (.lst ws) ∧ Paired (Rep K H2 ι2) xs ws := fun {H2 ι2 Hd2} l2 h2 ok =>
    h2.obj n a _ (l2.get ha) (ok (n, .lst xs) (by simp))
  refine ⟨fun i H2 ι2 Hd2 l2 h2 ok hi => ?_, fun i H2 ι2 Hd2 d x H3 l2 h2 ok hd y => ?_, fun i H2 ι2 Hd2 l2 h2 ok hi => ?_⟩
  · obtain ⟨ws, h3, P3⟩ := now l2 h2 ok
    exact ⟨ws, ws[i]'(by rw [← Prd.len P3]; exact hi), SqL.of h3, by simp⟩
  · obtain ⟨ws, h3, P3⟩ := now l2 h2 ok
    obtain ⟨rfl, y⟩ := y
    obtain ⟨u, hu, ru⟩ := Prd.get P3 hd
    have := y ws (SqL.of h3)
    rw [hu] at this
    cases this
    exact ⟨ι2, Le.refl, h2, ru⟩
  · obtain ⟨ws, h3, P3⟩ := now l2 h2 ok
    exact ⟨ws, SqL.of h3, by rw [← Prd.len P3]; exact hi⟩
noncomputable def iSq (f : EF) : ItF := fun σ H => (f σ H).bind fun p => (itemsD p.1 p.2).map fun r => (r, p.2)
theorem pif_seq {l : Expr} {f : EF} (hl : PEf X l f) : PIf X tg l (iSq f) := by
  intro pins s σ H R I ⟨ι, σd, Hd, xs, own, Hd', sr, hr, e, q⟩
  obtain ⟨⟨d, H1⟩, e1, e⟩ := Option.bind_eq_some_iff.mp e
  obtain ⟨⟨ys, ow⟩, e2, e⟩ := Option.map_eq_some_iff.mp e
  obtain ⟨e3, rfl⟩ := Prod.mk.inj e
  obtain ⟨rfl, rfl⟩ := Prod.mk.inj e3
  refine thn (hl pins s σ H (fun v H1 => ∃ a, v = .ref a ∧ (((∃ xs, SqL X.K H1 a xs) ∧ R (Itl X.K a) H1) ∨ ((∃ xs, SqT X.K H1 a xs) ∧ R (Itt X.K a) H1))) I ⟨ι, σd, Hd, _, _, sr, hr, e1, fun v H' ι' l h r => ?_⟩) fun v s1 ⟨x, H2, I2, r2, q2⟩ => ?_
  · cases d with
    | tup zs =>
      cases e2
      obtain ⟨a, vs, rfl, hS, P⟩ := rep_tup.mp r
      exact ⟨a, rfl, .inr ⟨⟨vs, hS⟩, q _ H' ι' l h (itr_tup hS P)⟩⟩
    | fl zs =>
      cases e2
      obtain ⟨a, vs, rfl, hS, P⟩ := rep_fl.mp r
      exact ⟨a, rfl, .inl ⟨⟨vs, hS.sq⟩, q _ H' ι' l h (itr_fl hS P)⟩⟩
    | ref n =>
      simp only [itemsD] at e2
      split at e2
      · rename_i zs eo
        obtain ⟨e5, e6⟩ := Prod.mk.inj (Option.some.inj e2)
        subst e5 e6
        obtain ⟨a, rfl, ha⟩ := rep_ref.mp r
        obtain ⟨vs, h1, P⟩ := h.obj n a _ ha eo
        exact ⟨a, rfl, .inl ⟨⟨vs, SqL.of h1⟩, q _ H' ι' l h (itr_lst ha)⟩⟩
      · cases e2
    | _ => simp [itemsD] at e2
  · obtain ⟨a, rfl, q2⟩ := q2
    cases r2
    have fp : ∀ b ∈ [s1.heap.objs.size], FpOk X pins H2 b := fun b hb => by
      have e : b = s1.heap.objs.size := by simpa using hb
      subst e
      exact I2.fpOk (Nat.le_refl _) (I2.hok.fresh (Nat.le_refl _))
    rcases q2 with ⟨⟨xs, hq⟩, q2⟩ | ⟨⟨xs, hq⟩, q2⟩
    · obtain ⟨its, rv, p, hz⟩ := I2.list hq
      exact wpAny_pyIter_list p.isList ⟨s1.heap.objs.size, [s1.heap.objs.size], _, _, H2, rfl, I2.kept (t' := s1.toks) fun b o e => Heap.get?_push_of_some _ e, turn_list a _, ⟨_, Heap.get?_push_size _ rfl, rfl, rfl⟩, fp, q2⟩
    · obtain ⟨its, rv, p, hz⟩ := I2.tuple hq
      exact wpAny_pyIter_tuple (show s1.heap.IsTuple a its.toArray from p) ⟨s1.heap.objs.size, [s1.heap.objs.size], _, _, H2, rfl, I2.kept (t' := s1.toks) fun b o e => Heap.get?_push_of_some _ e, turn_tuple a _, ⟨_, Heap.get?_push_size _ rfl, rfl, rfl⟩, fp, q2⟩
end
theorem paf_c {X : Cx} {e : Expr} {es : List Expr} {f : EF} {g : AF} (ha : PEf X e f) (hr : PAf X es g) (hs : noStar e = true) : PAf X (e :: es) (aCons f g) := paf_cons ha hr (star_cons hs)
noncomputable def spLaw (F : FF) (K : PySem.W.Frag) : Sp := spF K 1 F
theorem law_start {F : FF} (h : ∀ ns : List Int, ns.length ≤ 63 → ∃ Hd', F [.fl (ns.map .int)] [] = some (.bl true, Hd')) :
    ∀ (K : PySem.W.Frag) (H : Hp) (a : Addr) (ns : List Int), ns.length ≤ 63 → Only H → SqL K H a (ns.map V.int) → spLaw F K [.ref a] H (fun v _ => v = .bl true) fun _ _ _ => False := by
  intro K H a ns hl hO hS
  obtain ⟨Hd', e⟩ := h ns hl
  have fz : FzL K H a (ns.map V.int) := by
    rcases hS with (h | h) | h
    · rcases hO a with z | ⟨o, xs, z⟩
      · rw [h] at z; cases z
      · rw [h] at z; cases z
    · exact .inl h
    · exact .inr h
  have P : Paired (Rep K H []) (ns.map D.int) (ns.map V.int) := by
    generalize ns = ks
    induction ks with
    | nil => exact .nil
    | cons k ks ih => exact .cons (by simp) ih
  refine ⟨[], [.fl (ns.map .int)], [], .bl true, Hd', rfl, ⟨rfl, List.nodup_nil, fun n a o h1 h2 => by simp at h1⟩, .cons (rep_fl.mpr ⟨a, _, rfl, fz, P⟩) .nil, e, fun v H' ι' l h r => by simpa using r⟩
end DL
namespace DL
open PySem PySem.Spec PyProof.Rows L2
variable {X : Cx}
noncomputable def canShow (x : PyData) : Bool := x.canLay0 && x.showable && decide (x.depth ≤ 30) && decide (x.shown.length ≤ sizeLine)
noncomputable def reprD : FF := fun ds H => match ds with
  | [d] => (toP H 30 d).bind fun x => if canShow x = true then some (.str x.shown, H) else none
  | _ => none
theorem callf_repr {k : Nat} (hr0 : Room k X.A) : CallF X (.builtin "repr") reprD := by
  intro pins s σ H xs us Q I rv ⟨ι, ds, Hd, d, Hd', hr, P, e, q⟩
  unfold reprD at e
  split at e
  · rename_i d0
    obtain ⟨v, rfl, r⟩ := prd1 P
    obtain ⟨x, e1, e⟩ := Option.bind_eq_some_iff.mp e
    split at e
    · rename_i hc
      obtain ⟨rfl, rfl⟩ := Prod.mk.inj (Option.some.inj e)
      simp only [canShow, Bool.and_eq_true, decide_eq_true_eq] at hc
      obtain ⟨⟨⟨c1, c2⟩, c3⟩, c4⟩ := hc
      cases rv with
      | cons rx rv =>
        cases rv
        rename_i u
        obtain ⟨as, ra⟩ := reads_of I hr _ _ e1 r rx
        have fin : ∀ h' t tk, (∀ b o, s.heap.get? b = some o → h'.get? b = some o) → EP X pins σ Q (.str x.shown t) { s with heap := h', toks := tk } := fun h' t tk k => ⟨.str x.shown, H, I.kept k, ⟨t, rfl⟩, q _ H ι Le.refl hr (by simp)⟩
        have un : X.A.units + 64 < cLine := hr0.units
        have byRef : ∀ a, u = .ref a → wpAny (model X.prog X.w) X.A (call (.builtin "repr") [u]) (EP X pins σ Q) X.xe s := fun a ea => by
          subst ea
          exact repr_of_reads' ra c2 (PyData.noDict_hsm (PyData.hasDict_of_canLay _ c1)) hr0.gd (by omega) (fun _ _ z => z) (fun h' t tk k => fin h' t tk k) c4
        cases ra with
        | none => exact PySem.P.repr_of_none (fin s.heap s.toks (s.toks + 1) fun _ _ z => z)
        | bool b => exact PySem.P.repr_of_bool (fin s.heap s.toks (s.toks + 1) fun _ _ z => z)
        | int i t => exact PySem.P.repr_of_int (by simpa [PyData.showable] using c2) (fin s.heap s.toks (s.toks + 1) fun _ _ z => z)
        | str z t => exact PySem.P.repr_of_str (fin s.heap s.toks (s.toks + 1) fun _ _ z => z) c4
        | list _ _ _ _ => exact byRef _ rfl
        | tuple _ _ _ _ => exact byRef _ rfl
        | dict _ _ _ _ => exact byRef _ rfl
    · cases e
  · cases e
noncomputable def blsD : List D → Option (List Bool)
  | [] => some []
  | .bl b :: r => (blsD r).map fun x => b :: x
  | _ :: _ => none
theorem blsD_vals {K : PySem.W.Frag} {H : Hp} {ι : List Addr} : ∀ {xs : List D} {bs : List Bool} {vs : List V} {us : List Value}, blsD xs = some bs → Paired (Rep K H ι) xs vs → Vals vs us → us = bs.map .bool
  | [], bs, vs, us, e, P, q => by cases e; cases P; cases q; rfl
  | d :: r, bs, vs, us, e, P, q => by
    cases P with
    | cons p P =>
      cases q with
      | cons q Q =>
        cases d <;> simp only [blsD] at e <;> try cases e
        obtain ⟨y, e1, rfl⟩ := Option.map_eq_some_iff.mp e
        simp at p
        subst p
        cases q
        rw [blsD_vals e1 P Q]
        rfl
theorem blsD_map (bs : List Bool) : blsD (bs.map .bl) = some bs := by
  induction bs with
  | nil => rfl
  | cons b r ih => simp [blsD, ih]
noncomputable def allD : FF := fun ds H => match ds with
  | [.ref n] => match H[n]? with
    | some (.lst xs) => (blsD xs).map fun bs => (.bl (bs.all id), H)
    | _ => none
  | _ => none
theorem range_all (bs : List Bool) : ((List.range bs.length).all fun i => (bs[i]?).getD true) = bs.all id := by
  rw [Bool.eq_iff_iff, List.all_eq_true, List.all_eq_true]
  constructor
  · intro h x hx
    obtain ⟨i, hi, rfl⟩ := List.getElem_of_mem hx
    have := h i (by simpa using hi)
    simpa [hi] using this
  · intro h i hi
    have hi : i < bs.length := by simpa using hi
    have := h _ (List.getElem_mem hi)
    simpa [hi] using this
theorem callf_all (hc : X.calm = true) : CallF X (.builtin "all") allD := by
  intro pins s σ H xs us Q I rv ⟨ι, ds, Hd, d, Hd', hr, P, e, q⟩
  unfold allD at e
  split at e
  · rename_i n
    split at e
    · rename_i ys eo
      obtain ⟨bs, e1, e⟩ := Option.map_eq_some_iff.mp e
      obtain ⟨rfl, rfl⟩ := Prod.mk.inj e
      obtain ⟨v, rfl, r⟩ := prd1 P
      obtain ⟨a, rfl, ha⟩ := rep_ref.mp r
      obtain ⟨vs, h1, P2⟩ := hr.obj n a _ ha eo
      cases rv with
      | cons rx rv =>
        cases rv
        cases rx
        obtain ⟨its, rv2, p, hz⟩ := I.list (SqL.of h1)
        have eits := blsD_vals e1 P2 rv2
        have hlt : a < s.heap.objs.size := by
          obtain ⟨o, ho, _⟩ := p.isList
          exact Heap.lt_size ho
        refine call_all_walk (wpAny_pyIter_list p.isList ⟨s.heap.objs.size, [s.heap.objs.size, a], [s.heap.objs.size], its.toArray.size, _, _, fun i => (bs[i]?).getD true, rfl,
          Walks.list (A := X.A.in1) (show X.A.in1.handled = none from I.ok.hd hc) s.heap.objs.size a (Nat.ne_of_lt hlt) its.toArray, ⟨⟨_, Heap.get?_push_size _ rfl, rfl, rfl⟩, p.isList.at fun o z => Heap.get?_push_of_some _ z⟩, ?_, fun h' tk k => ?_⟩)
        · intro i v s2 Q2 E2 hv hq
          rw [eits] at hv
          have hv2 : (bs.map Value.bool)[i]? = some v := by simpa using hv
          rw [List.getElem?_map] at hv2
          obtain ⟨b, hb, rfl⟩ := Option.map_eq_some_iff.mp hv2
          refine wpAny_truthy_bool ?_
          simpa [hb] using hq
        · have hn : its.toArray.size = bs.length := by rw [eits]; simp
          rw [hn, range_all]
          refine ⟨.bl (bs.all id), H, I.kept (t' := tk) fun b o z => k b o ?_ (Heap.get?_push_of_some _ z), rfl, q _ H ι Le.refl hr (by simp)⟩
          intro hm
          have : b = s.heap.objs.size := by simpa using hm
          exact absurd (this ▸ Heap.lt_size z) (Nat.lt_irrefl _)
    · cases e
  · cases e
end DL
namespace HT
open PySem PySem.Spec PyProof.Rows
section
variable {prog : Program} {w : World} {A : Around} {E : Value → Shared → Prop} {s : Shared}
end
end HT
namespace DL
open PySem PySem.Spec PyProof.Rows L2
variable {X : Cx}
section
variable {a b c : Expr} {pos : Pos}
noncomputable def eCh (g g' : F2) (fa fb fc : EF) : EF := fun σ H => (fa σ H).bind fun p => (fb σ p.2).bind fun q => (g p.1 q.1 q.2).bind fun z => (blD z.1).bind fun k => if k = true then (fc σ z.2).bind fun w => g' q.1 w.1 w.2 else some (.bl false, z.2)
end
noncomputable def Gc (K : PySem.W.Frag) (mg : Str → Option Value) (x : Str) (d : D) : Prop := ∃ u v, mg x = some u ∧ RelV v u ∧ ∀ H ι, Rep K H ι d v
theorem pef_gc {x : Str} {d : D} {pos : Pos} (hg : Gl X x) (h : Gc X.K X.mg x d) (hd : (x == ("__debug__" : Str)) = false := by decide) : PEf X (.Name x pos) (eC d) := by
  obtain ⟨u, v, hm, r, rp⟩ := h
  exact pef_C (pe_glob (v := v) hg hm r hd) rp
theorem gc_int {K : PySem.W.Frag} {h : Heap} {mg : Str → Option Value} {x : Str} {i : Int} {t : Tok} (X : K.In h) (G : h.Ns mainGlobals mg) (a : PySem.W.nsIn K mainGlobals x = some (some (.int i t))) : Gc K mg x (.int i) :=
  ⟨_, .int i, PySem.W.mg_of X G a, ⟨t, rfl⟩, fun _ _ => by simp⟩
theorem gc_strs2 {K : PySem.W.Frag} {h : Heap} {mg : Str → Option Value} {x s1 s2 : Str} {p : Addr} {t1 t2 : Tok} {n : Nat} {osl : Array (Option Value)} (X : K.In h) (G : h.Ns mainGlobals mg) (a : PySem.W.nsIn K mainGlobals x = some (some (.ref p)))
    (l : K.lookup p = some ⟨.type "tuple", none, .seq #[.str s1 t1, .str s2 t2] n, osl⟩) : Gc K mg x (.tup [.str s1, .str s2]) := by
  refine ⟨_, .ref p, PySem.W.mg_of X G a, rfl, fun H ι => rep_tup.mpr ⟨p, [.str s1, .str s2], rfl, .inr ⟨_, _, _, l, rfl, rfl, ?_, ?_, rfl⟩, ?_⟩⟩
  · show 2 ≤ sizeLine
    rw [PySem.sizeLine_eq]; omega
  · exact .cons ⟨t1, rfl⟩ (.cons ⟨t2, rfl⟩ .nil)
  · exact .cons (by simp) (.cons (by simp) .nil)
noncomputable def revD (x : D) (H : HD) : Option (D × HD) := match x with
  | .tup xs => mkT xs.reverse H
  | _ => none
noncomputable def eRv (fe : EF) : EF := fun σ H => (fe σ H).bind fun p => revD p.1 p.2
end DL
namespace DL
open PySem PySem.Spec PyProof.Rows L2
variable {X : Cx}
section
variable {K : PySem.W.Frag} {H : Hp} {ι : List Addr}
end
section
variable {pins : List (Addr × Obj)} {σ : L2.St} {H : Hp} {s : Shared} {ι : List Addr} {Hd : HD}
end
noncomputable def eDN : EF := fun _ H => some (.ref H.length, H ++ [.dic [] false])
section
variable {prog : Program} {w : World} {kd : HeapKind prog w (List Int)} {A : Around} {E : Value → Shared → Prop} {s : Shared}
end
noncomputable def isDic : D → HD → Bool
  | .ref n, H => match H[n]? with
    | some (.dic _ _) => true
    | _ => false
  | _, _ => false
noncomputable def eDM (g : D → List D → HD → Option (D × HD)) (fo : EF) (f : AF) : EF := fun σ H => (fo σ H).bind fun o => if isDic o.1 o.2 = true then (f σ o.2).bind fun p => g o.1 p.1 p.2 else none
end DL
namespace DL
open PySem PySem.Spec PyProof.Rows L2
section
variable {prog : Program} {w : World} {A : Around} {E : Value → Shared → Prop} {s : Shared}
end
variable {X : Cx} {tg : Expr}
noncomputable def iDic (f : EF) : ItF := fun σ H => (f σ H).bind fun p => match p.1 with
  | .ref n => match p.2[n]? with
    | some (.dic kvs _) => some ((kvs.map (·.1), [(n, .dic kvs true)]), p.2.set n (.dic kvs true))
    | _ => none
  | _ => none
end DL
namespace DL
open PySem PySem.Spec PyProof.Rows L2
end DL
namespace DL
open PySem PySem.Spec PyProof.Rows L2
section
variable {prog : Program} {w : World} {A : Around} {E : Value → Shared → Prop} {s : Shared}
open AutoSeq1 (wpAny_loadPart') in
theorem enum_newK (t : Addr) (its : Array Value) (n : Nat) (dct : Option Addr) (sl : Array (Option Value)) (tk0 : Tok) :
    Meets (Builtin.«enumerate.__new__» ⟨[.type "enumerate", .ref t], [("start", .int 1 tk0)]⟩) (fun _ R s => s.heap.get? t = some { cls := .type "tuple", dict := dct, data := .seq its n, slots := sl } ∧
      R (.ok (.ret (.ref (s.heap.push { cls := .type "tuple_iterator", data := .fields #[.ref t, .int 0 0] }).objs.size)))
        { s with heap := (s.heap.push { cls := .type "tuple_iterator", data := .fields #[.ref t, .int 0 0] }).push { cls := .type "enumerate", data := .fields #[.none, .bool false, .ref s.heap.objs.size, rawInt 1, .none, .none] } }) :=
  .of_wp fun prog w A R s h => by
    obtain ⟨hp, g, d, tk, os⟩ := s; obtain ⟨hl, h⟩ := h
    have hsub := sub_enumerate
    have hL : Heap.IsTuple (Shared.heap ⟨hp, g, d, tk, os⟩) t its := ⟨_, hl, rfl, n, rfl⟩
    wp_walk using wpAny_loadPart' hl
    refine wpAny_stack_any fun st => wpAny_pure ?_
    split
    · rename_i k _ _ _ _ _
      cases (k == Value.type "enumerate") <;> (wp_walk using wpAny_loadPart' hl, wpAny_pyIter_tuple hL; exact ⟨_, rfl, h⟩)
    · wp_walk using wpAny_loadPart' hl, wpAny_pyIter_tuple hL
      exact ⟨_, rfl, h⟩
end
end DL
namespace DL
open PySem PySem.Spec PyProof.Rows L2
section
variable {prog : Program} {w : World} {A : Around} {E : Value → Shared → Prop} {s : Shared}
end
variable {X : Cx}
noncomputable def iEnum1 (f : AF) : ItF := fun σ H => (f σ H).bind fun p => match p.1 with
  | [.tup xs] => some ((enumL 1 xs, []), p.2)
  | _ => none
end DL
namespace DL
open PySem PySem.Spec PyProof.Rows L2
variable {X : Cx} {tg : Expr}
end DL
namespace DL
open PySem PySem.Spec PyProof.Rows L2
end DL
namespace DL
open PySem PySem.Spec PyProof.Rows L2
section
variable {X : Cx} {c : Expr} {pos : Pos}
end
section
variable {X : Cx} {e : Expr} {es : List Expr} {pos : Pos}
noncomputable def eTM (g : D → List D → HD → Option (D × HD)) (fo : EF) (f : AF) : EF := fun σ H => (fo σ H).bind fun o => if isTup o.1 = true then (f σ o.2).bind fun p => g o.1 p.1 p.2 else none
end
end DL
namespace DL
open PySem PySem.Spec PyProof.Rows L2
section
variable {prog : Program} {w : World} {A : Around} {E : Value → Shared → Prop} {s : Shared}
end
end DL
namespace DL
open PySem PySem.Spec PyProof.Rows L2
open Builtin.SmallTypes (nextOf)
noncomputable def SqI (b : Bool) (h : Heap) (i l : Addr) (n : Nat) : Prop := ∃ o, h.get? i = some o ∧ o.cls = .type (if b then "list_iterator" else "tuple_iterator") ∧ o.data = .fields #[.ref l, .int n 0]
noncomputable def SqX (b : Bool) (h : Heap) (l : Addr) (xs : Array Value) : Prop := ∃ o, h.get? l = some o ∧ o.cls = .type (if b then "list" else "tuple") ∧ ∃ n, o.data = .seq xs n
theorem SqI.mv {b : Bool} {h h' : Heap} {i l : Addr} {n : Nat} (x : SqI b h i l n) (k : ∀ o, h.get? i = some o → h'.get? i = some o) : SqI b h' i l n := let ⟨o, e, r⟩ := x; ⟨o, k o e, r⟩
theorem SqX.mv {b : Bool} {h h' : Heap} {l : Addr} {xs : Array Value} (x : SqX b h l xs) (k : ∀ o, h.get? l = some o → h'.get? l = some o) : SqX b h' l xs := let ⟨o, e, r⟩ := x; ⟨o, k o e, r⟩
theorem SqI.lt {b : Bool} {h : Heap} {i l : Addr} {n : Nat} (x : SqI b h i l n) : i < h.objs.size := let ⟨_, e, _⟩ := x; Heap.lt_size e
section
variable {prog : Program} {w : World} {A : Around} {E : Value → Shared → Prop} {s : Shared}
variable {z TI TO i1 i2 l1 l2 : Addr} {k1 k2 : Nat} {xs ys : Array Value} {b1 b2 : Bool}
end
noncomputable def srcD (d : D) (H : HD) : Option (List D × OwnD) := match d with
  | .tup xs => some (xs, [])
  | .ref n => match H[n]? with
    | some (.lst xs) => some (xs, [(n, .lst xs)])
    | _ => none
  | _ => none
section
variable {X : Cx} {pins : List (Addr × Obj)} {σ : L2.St} {H : Hp} {s : Shared} {b : Bool} {l : Addr} {xs ys : List V}
end
noncomputable def iZipS (f : AF) : ItF := fun σ H => (f σ H).bind fun p => match p.1 with
  | [d1, d2] => (srcD d1 p.2).bind fun a => (srcD d2 p.2).map fun b => ((zipL a.1 b.1, a.2 ++ b.2), p.2)
  | _ => none
end DL
namespace DL
open PySem PySem.Spec PyProof.Rows L2
theorem vals_ints : ∀ {ns : List Int} {us : List Value}, Vals (ns.map V.int) us → us.length = ns.length ∧ ∀ (i : Nat) (v : Value), us[i]? = some v → ∃ t, v = .int ((ns[i]?).getD 0) t
  | [], us, h => by
    cases h
    exact ⟨rfl, by intro i v e; simp at e⟩
  | n :: r, us, h => by
    cases h with
    | cons p Q =>
      obtain ⟨h1, h2⟩ := vals_ints Q
      refine ⟨by simp [h1], ?_⟩
      intro i v e
      cases i with
      | zero =>
        obtain ⟨t, rfl⟩ := p
        simp at e
        exact ⟨t, by simpa using e.symm⟩
      | succ i =>
        simp at e
        simpa using h2 i v e
section
variable {X : Cx}
end
end DL
namespace DL
open PySem PySem.Spec PyProof.Rows L2
section
variable {X : Cx} {e : Expr} {pos : Pos}
end
end DL
namespace DL
open PySem PySem.Spec PyProof.Rows L2
mutual
noncomputable def ltPy : PyData → PyData → Option Bool
  | .int a, .int b => some (decide (a < b))
  | .bool a, .bool b => some (!a && b)
  | .tuple xs, .tuple ys => ltPys xs ys
  | _, _ => none
noncomputable def ltPys : List PyData → List PyData → Option Bool
  | [], [] => some false
  | [], _ :: _ => some true
  | _ :: _, [] => some false
  | x :: xs, y :: ys => if PyData.eqv x y = true then ltPys xs ys else ltPy x y
end
noncomputable def LtAt (A : Around) (s : Shared) (x y : Value) (b : Bool) : Prop := ∀ (prog : Program) (w : World) (E Q : Value → Shared → Prop), Q (.bool b) s → wpAny (model prog w) A (richCompare .Lt x y) Q E s
inductive LexAt (A : Around) (s : Shared) : List Value → List Value → Bool → Prop
  | nn : LexAt A s [] [] false
  | nc {w ws} : LexAt A s [] (w :: ws) true
  | cn {v vs} : LexAt A s (v :: vs) [] false
  | eq {v vs w ws r} : SeqAt.EqAt A s v w true → LexAt A s vs ws r → LexAt A s (v :: vs) (w :: ws) r
  | ne {v vs w ws r} : SeqAt.EqAt A s v w false → LtAt A s v w r → LexAt A s (v :: vs) (w :: ws) r
section
open PySem.SeqAt
open PySem.AutoSeq1 (wpAny_loadPart')
open PySem.MeetsSeq PySem.MeetsSeq2 PySem.MeetsSeq3
theorem tuple_ltG (l b : Addr) (xs ys : Array Value) (n n2 : Nat) (dd dd2 : Option Addr) (sl sl2 : Array (Option Value)) (r : Bool) :
    Meets (Builtin.«tuple.__lt__» ⟨[.ref l, .ref b], []⟩)
      (fun A R s => s.heap.get? l = some { cls := .type "tuple", dict := dd, data := .seq xs n, slots := sl } ∧ s.heap.get? b = some { cls := .type "tuple", dict := dd2, data := .seq ys n2, slots := sl2 } ∧ LexAt A.in1 s xs.toList ys.toList r ∧ R (.ok (.ret (.bool r))) s) :=
  .of_wp fun prog w A R s h => by
    obtain ⟨hp, g, d, tk, os⟩ := s
    obtain ⟨hl, hb, hx, h⟩ := h
    have f2 := AutoSeq1.sub_tuple_tuple
    wp_walk using wpAny_loadPart' hl, wpAny_loadPart' hb, wpAny_forIn_list _ (fun todo b s' => b.1 = none ∧ s' = ⟨hp, g, d, tk, os⟩ ∧ ∃ vs ws : List Value, todo = vs.zip ws ∧ LexAt A.in1 ⟨hp, g, d, tk, os⟩ vs ws r ∧ vs.length + ys.size = ws.length + xs.size) _
    case turn =>
      rintro ⟨y, x⟩ todo b s' ⟨hb', rfl, vs, ws, hz, hx, hlen⟩
      cases hx with
      | nn => rw [List.zip_nil_left] at hz; cases hz
      | nc => rw [List.zip_nil_left] at hz; cases hz
      | cn => rw [List.zip_nil_right] at hz; cases hz
      | eq he hx' =>
        rw [List.zip_cons_cons] at hz
        obtain ⟨hyx, hrest⟩ := List.cons.inj hz
        obtain ⟨rfl, rfl⟩ := Prod.mk.inj hyx
        simp only [List.length_cons] at hlen
        refine wpAny_bind (he prog w _ _ ?_)
        wp_walk
        exact ⟨rfl, rfl, _, _, hrest, hx', by omega⟩
      | ne he hr =>
        rw [List.zip_cons_cons] at hz
        obtain ⟨hyx, hrest⟩ := List.cons.inj hz
        obtain ⟨rfl, rfl⟩ := Prod.mk.inj hyx
        refine wpAny_bind (he prog w _ _ ?_)
        have hri := hr prog w
        wp_walk using hri
        exact ⟨_, rfl, by simpa using h⟩
    case fin =>
      rintro ⟨b1, b2⟩ s' ⟨hb', rfl, vs, ws, hz, hx, hlen⟩
      simp only at hb'
      subst hb'
      have hv : r = decide (xs.size < ys.size) := by
        cases hx with
        | nn => simp only [List.length_nil] at hlen; exact (decide_eq_false (by omega)).symm
        | nc => simp only [List.length_nil, List.length_cons] at hlen; exact (decide_eq_true (by omega)).symm
        | cn => simp only [List.length_nil, List.length_cons] at hlen; exact (decide_eq_false (by omega)).symm
        | eq he hx' => rw [List.zip_cons_cons] at hz; cases hz
        | ne he hr => rw [List.zip_cons_cons] at hz; cases hz
      rw [hv] at h
      wp_walk
      exact ⟨_, rfl, by simpa [Builtin.Tuple.tupleCompareSizes] using h⟩
    case h => exact ⟨rfl, rfl, xs.toList, ys.toList, rfl, hx, by simp; omega⟩
end
theorem ltAt_tups {A : Around} {s : Shared} {l b : Addr} {o o2 : Obj} {xs ys : Array Value} {n n2 : Nat} {r : Bool} (h1 : s.heap.get? l = some o) (h2 : o.cls = .type "tuple") (h3 : o.data = .seq xs n) (k1 : s.heap.get? b = some o2) (k2 : o2.cls = .type "tuple") (k3 : o2.data = .seq ys n2)
    (hx : LexAt A.in1 s xs.toList ys.toList r) (hu : A.units < cLine) : LtAt A s (.ref l) (.ref b) r := by
  intro prog w E Q q
  obtain ⟨c, d, dt, sl⟩ := o
  obtain ⟨c2, d2, dt2, sl2⟩ := o2
  simp only at h2 h3 k2 k3
  subst h2 h3 k2 k3
  exact richCompare_meets_room (op := .Lt) ⟨_, h1, rfl⟩ ⟨_, k1, rfl⟩ PySem.F.slot_tuple_lt PySem.F.entry_tuple_lt (PySem.F.args_tuple_lt_2 _ _) (tuple_ltG l b xs ys n n2 d d2 sl sl2 r) ⟨h1, k1, hx, (fun z => nomatch z), q⟩ hu
mutual
theorem ltAt_reads : ∀ (da db : PyData) (r : Bool) (A : Around) (s : Shared) (a b : Value) (as bs : List Addr), ltPy da db = some r → Reads s.heap a da as → Reads s.heap b db bs → da.canLay0 = true → db.canLay0 = true → A.units + min da.depth db.depth < cLine → LtAt A s a b r
  | .int x, .int y, r, A, s, _, _, _, _, e, ra, rb, _, _, _ => by
    cases ra; cases rb
    rw [ltPy] at e
    cases e
    intro prog w E Q q
    exact (PyProof.Rows.lt_int q : wpAny (model prog w) A (compareOp .Lt _ _) Q E s)
  | .bool x, .bool y, r, A, s, _, _, _, _, e, ra, rb, _, _, _ => by
    cases ra; cases rb
    rw [ltPy] at e
    cases e
    intro prog w E Q q
    have z : (!x && y) = decide (b2i x < b2i y) := by cases x <;> cases y <;> decide
    rw [z] at q
    exact (PyProof.Rows.lt_bool q : wpAny (model prog w) A (compareOp .Lt _ _) Q E s)
  | .tuple xs, .tuple ys, r, A, s, _, _, _, _, e, ra, rb, ha, hb, hu => by
    rw [ltPy] at e
    cases ra with
    | tuple h1 h2 h3 h4 =>
      cases rb with
      | tuple k1 k2 k3 k4 =>
        simp only [PyData.depth] at hu
        exact ltAt_tups h1 h2 h3 k1 k2 k3 (lexAt_reads xs ys r A.in1 s _ _ _ _ e h4 k4 ha hb (PySem.SeqAt.room_in hu)) (PySem.SeqAt.room_here hu)
  | .none, _, _, _, _, _, _, _, _, e, _, _, _, _, _ => by simp [ltPy] at e
  | .str _, _, _, _, _, _, _, _, _, e, _, _, _, _, _ => by simp [ltPy] at e
  | .list _, _, _, _, _, _, _, _, _, e, _, _, _, _, _ => by simp [ltPy] at e
  | .dict _, _, _, _, _, _, _, _, _, e, _, _, _, _, _ => by simp [ltPy] at e
  | .int _, .none, _, _, _, _, _, _, _, e, _, _, _, _, _ => by simp [ltPy] at e
  | .int _, .bool _, _, _, _, _, _, _, _, e, _, _, _, _, _ => by simp [ltPy] at e
  | .int _, .str _, _, _, _, _, _, _, _, e, _, _, _, _, _ => by simp [ltPy] at e
  | .int _, .list _, _, _, _, _, _, _, _, e, _, _, _, _, _ => by simp [ltPy] at e
  | .int _, .tuple _, _, _, _, _, _, _, _, e, _, _, _, _, _ => by simp [ltPy] at e
  | .int _, .dict _, _, _, _, _, _, _, _, e, _, _, _, _, _ => by simp [ltPy] at e
  | .bool _, .none, _, _, _, _, _, _, _, e, _, _, _, _, _ => by simp [ltPy] at e
  | .bool _, .int _, _, _, _, _, _, _, _, e, _, _, _, _, _ => by simp [ltPy] at e
  | .bool _, .str _, _, _, _, _, _, _, _, e, _, _, _, _, _ => by simp [ltPy] at e
  | .bool _, .list _, _, _, _, _, _, _, _, e, _, _, _, _, _ => by simp [ltPy] at e
  | .bool _, .tuple _, _, _, _, _, _, _, _, e, _, _, _, _, _ => by simp [ltPy] at e
  | .bool _, .dict _, _, _, _, _, _, _, _, e, _, _, _, _, _ => by simp [ltPy] at e
  | .tuple _, .none, _, _, _, _, _, _, _, e, _, _, _, _, _ => by simp [ltPy] at e
  | .tuple _, .bool _, _, _, _, _, _, _, _, e, _, _, _, _, _ => by simp [ltPy] at e
  | .tuple _, .int _, _, _, _, _, _, _, _, e, _, _, _, _, _ => by simp [ltPy] at e
  | .tuple _, .str _, _, _, _, _, _, _, _, e, _, _, _, _, _ => by simp [ltPy] at e
  | .tuple _, .list _, _, _, _, _, _, _, _, e, _, _, _, _, _ => by simp [ltPy] at e
  | .tuple _, .dict _, _, _, _, _, _, _, _, e, _, _, _, _, _ => by simp [ltPy] at e
theorem lexAt_reads : ∀ (xs ys : List PyData) (r : Bool) (A : Around) (s : Shared) (vs ws : List Value) (as bs : List Addr), ltPys xs ys = some r → ReadsAll s.heap vs xs as → ReadsAll s.heap ws ys bs → PyData.canLayAll0 xs = true → PyData.canLayAll0 ys = true → A.units + min (PyData.depthAll xs) (PyData.depthAll ys) < cLine → LexAt A s vs ws r
  | [], [], r, A, s, _, _, _, _, e, ra, rb, _, _, _ => by
    cases ra; cases rb; rw [ltPys] at e; cases e; exact .nn
  | [], _ :: _, r, A, s, _, _, _, _, e, ra, rb, _, _, _ => by
    cases ra; cases rb; rw [ltPys] at e; cases e; exact .nc
  | _ :: _, [], r, A, s, _, _, _, _, e, ra, rb, _, _, _ => by
    cases ra; cases rb; rw [ltPys] at e; cases e; exact .cn
  | x :: xs, y :: ys, r, A, s, _, _, _, _, e, ra, rb, ha, hb, hu => by
    cases ra with
    | cons r1 r2 =>
      cases rb with
      | cons q1 q2 =>
        simp only [PyData.canLayAll0, Bool.and_eq_true] at ha hb
        simp only [PyData.depthAll] at hu
        have u1 : A.units + min x.depth y.depth < cLine := by omega
        have u2 : A.units + min (PyData.depthAll xs) (PyData.depthAll ys) < cLine := by omega
        have E := PySem.SeqAt.eqAt_reads x y A s _ _ _ _ r1 q1 ha.1 hb.1 u1
        rw [ltPys] at e
        split at e
        · rename_i h
          rw [h] at E
          exact .eq E (lexAt_reads xs ys r A s _ _ _ _ e r2 q2 ha.2 hb.2 u2)
        · rename_i h
          rw [Bool.not_eq_true] at h
          rw [h] at E
          exact .ne E (ltAt_reads x y r A s _ _ _ _ e r1 q1 ha.1 hb.1 u1)
end
end DL
namespace DL
open PySem PySem.Spec PyProof.Rows L2
section
variable {prog : Program} {w : World} {A : Around} {R : Result → Shared → Prop} {J S : Addr} {fp wr : List Addr} {n : Nat} {P : Nat → Value → Prop} {St : Nat → Heap → Prop} {Gd : Heap → Prop} {bt : Nat → Nat → Bool}
noncomputable def Holds (wr : List Addr) (S : Addr) (h h' : Heap) : Prop := ∀ b o, b ∉ wr → b ≠ S → h.get? b = some o → h'.get? b = some o
end
mutual
theorem reads_up {h h' : Heap} (k : ∀ b o, h.get? b = some o → h'.get? b = some o) : ∀ {v : Value} {d : PyData} {as : List Addr}, Reads h v d as → Reads h' v d as
  | _, _, _, .none => .none
  | _, _, _, .bool b => .bool b
  | _, _, _, .int i t => .int i t
  | _, _, _, .str x t => .str x t
  | _, _, _, .list a b c r => .list (k _ _ a) b c (readsAll_up k r)
  | _, _, _, .tuple a b c r => .tuple (k _ _ a) b c (readsAll_up k r)
  | _, _, _, .dict a b c r r2 => .dict (k _ _ a) b c (readsAll_up k r) (readsAll_up k r2)
theorem readsAll_up {h h' : Heap} (k : ∀ b o, h.get? b = some o → h'.get? b = some o) : ∀ {vs : List Value} {ds : List PyData} {as : List Addr}, ReadsAll h vs ds as → ReadsAll h' vs ds as
  | _, _, _, .nil => .nil
  | _, _, _, .cons a b => .cons (reads_up k a) (readsAll_up k b)
end
end DL
namespace DL
open PySem PySem.Spec PyProof.Rows L2
noncomputable def insertD (x : D) (ds : List D) (H : HD) : Option (D × HD) := match x, ds with
  | .ref n, [.int i, d] => match H[n]? with
    | some (.lst xs) => if 0 ≤ i ∧ i ≤ xs.length ∧ xs.length < sizeLine then some (.non, H.set n (.lst (xs.take i.toNat ++ [d] ++ xs.drop i.toNat))) else none
    | _ => none
  | _, _ => none
theorem prd_take {α β : Type} {F : α → β → Prop} : ∀ {xs : List α} {us : List β} (k : Nat), Paired F xs us → Paired F (xs.take k) (us.take k)
  | [], _, k, .nil => by simpa using Paired.nil
  | _ :: _, _, 0, .cons _ _ => .nil
  | _ :: _, _, k + 1, .cons a b => .cons a (prd_take k b)
theorem prd_drop {α β : Type} {F : α → β → Prop} : ∀ {xs : List α} {us : List β} (k : Nat), Paired F xs us → Paired F (xs.drop k) (us.drop k)
  | [], _, k, .nil => by simpa using Paired.nil
  | _ :: _, _, 0, h => h
  | _ :: _, _, k + 1, .cons a b => prd_drop k b
section
variable {X : Cx}
theorem mtf_insert : MtF X "list.insert" insertD := by
  intro pins s σ H x xs v us Q I rx rv ⟨ι, dx, ds, Hd, d, Hd', hr, r1, P, e, q⟩
  unfold insertD at e
  split at e
  · rename_i n i d1
    obtain ⟨a, rfl, ha⟩ := rep_ref.mp r1
    split at e
    · rename_i ys e1
      split at e
      · rename_i hl
        obtain ⟨h0, h1, h2⟩ := hl
        cases e
        obtain ⟨vs, hv, P1⟩ := hr.obj n a _ ha e1
        cases P with
        | cons p1 P =>
          cases P with
          | cons p2 P =>
            cases P
            simp at p1
            subst p1
            cases rv with
            | cons q1 rv =>
              cases rv with
              | cons q2 rv =>
                cases rv
                obtain ⟨t, rfl⟩ := q1
                cases rx
                rename_i y u
                obtain ⟨z, its, m, r, hl, eo⟩ := I.lstM hv
                have hlen : its.length = ys.length := by rw [← hl, ← Prd.len P1]
                have ef : Builtin.List.listFitsIndex i = true := by
                  have sz : sizeLine = 16777216 := PySem.sizeLine_eq
                  simp only [Builtin.List.listFitsIndex, Bool.and_eq_true, decide_eq_true_eq]
                  omega
                refine call_meets PySem.F.slot_list_insert ⟨_, eo, rfl⟩ PySem.F.entry_list_insert (PySem.F.args_list_insert_3 _ _ _) (PySem.AutoSeq1.list_insert_list_int_val_1 a its.toArray m i t u (by rw [ef]; simp) (by rw [List.size_toArray]; omega)) ⟨eo, ?_⟩
                have L : Le X.K H ι (upd H a (.lst (vs.take i.toNat ++ [y] ++ vs.drop i.toNat))) ι := Le.upd (List.mem_of_getElem? ha) hv trivial _
                refine ⟨.non, _, I.lset (ys := vs.take i.toNat ++ [y] ++ vs.drop i.toNat) (its' := its.take i.toNat ++ [u] ++ its.drop i.toNat) hv eo ?_ (((r.take i.toNat).append (.cons q2 .nil)).append (r.drop i.toNat)) ?_, rfl, q _ _ ι L (hr.upd ha hv trivial ⟨_, upd_same, Prd.mono L (Prd.append (Prd.append (prd_take _ P1) (.cons p2 .nil)) (prd_drop _ P1))⟩) (by simp)⟩
                · have k : (if i < 0 then (i + (its.toArray.size : Int)).toNat else min i.toNat its.toArray.size) = i.toNat := by
                    rw [if_neg (by omega), List.size_toArray]; omega
                  show (its.toArray.extract 0 (if i < 0 then (i + (its.toArray.size : Int)).toNat else min i.toNat its.toArray.size)).push u ++ its.toArray.extract (if i < 0 then (i + (its.toArray.size : Int)).toNat else min i.toNat its.toArray.size) = _
                  rw [k]
                  apply Array.toList_inj.mp
                  simp [List.extract_eq_take_drop]
                  rw [List.take_of_length_le (by simp)]
                · have := Prd.len P1
                  simp; omega
      · cases e
    · cases e
  · cases e
theorem draw_list {prog : Program} {w : World} {A : Around} {E : Value → Shared → Prop} {it l : Addr} {xs : Array Value} (ne : l ≠ it) : ∀ (n i : Nat) (s : Shared) (Q : List Value → Shared → Prop), s.heap.IsListIter it l i → s.heap.IsList l xs → i + n ≤ xs.size →
    (∀ h', h'.IsListIter it l (i + n) → Heap.SameBut it s.heap h' → Q ((xs.toList.drop i).take n) { s with heap := h' }) → wpAny (model prog w) A (draw (.ref it) n) Q E s
  | 0, i, s, Q, hit, _, _, q => by
    show wpAny _ _ (pure []) Q E s
    exact wpAny_pure (by simpa using q s.heap hit (Heap.SameBut.refl ..))
  | n + 1, i, s, Q, hit, hl, le, q => by
    have lt : i < xs.size := by omega
    show wpAny _ _ (pyNext (Value.ref it) >>= _) Q E s
    refine wpAny_bind (wpAny_pyNext_list_item hit hl (x := xs[i]) (by simp [lt]) fun h1 hit1 k1 => ?_)
    refine wpAny_bind (wpAny_holding (draw_list ne n (i + 1) _ _ hit1 (hl.at fun o z => k1.extBut l o ne z) (by omega) fun h2 hit2 k2 => wpAny_pure ?_))
    have hd : xs.toList.drop i = xs[i] :: xs.toList.drop (i + 1) := by simp [List.drop_eq_getElem_cons, lt]
    have z := q h2 (by rw [show i + (n + 1) = i + 1 + n by omega]; exact hit2) (k1.trans k2)
    rw [hd, List.take_succ_cons] at z
    exact z
theorem unpack_list {prog : Program} {w : World} {A : Around} {E : Value → Shared → Prop} {s : Shared} {l : Addr} {xs : Array Value} {Q : List Value → Shared → Prop} (hh : A.handled = none) (hl : s.heap.IsList l xs)
    (q : ∀ h', Heap.ExtBut s.heap.objs.size s.heap h' → Q xs.toList { s with heap := h' }) : wpAny (model prog w) A (unpackItems (.ref l) xs.size none) Q E s := by
  have ne : l ≠ s.heap.objs.size := by obtain ⟨o, ho, _⟩ := hl; exact Nat.ne_of_lt (Heap.lt_size ho)
  unfold unpackItems
  refine wpAny_bind ?_
  unfold notIterableAtAll
  refine wpAny_bind (wpAny_specialOf hl.typeIs slot_list_iter.lookup (wpAny_pure ?_))
  simp only [Bool.false_eq_true, if_false]
  refine wpAny_bind (wpAny_holding (wpAny_pyIter_list hl ?_))
  refine wpAny_bind (wpAny_holding (draw_list ne xs.size 0 _ _ ⟨_, Heap.get?_push_size _ rfl, rfl, rfl⟩ (hl.at fun o z => Heap.get?_push_of_some _ z) (by omega) fun h1 hit1 k1 => ?_))
  rw [show List.take xs.size (List.drop 0 xs.toList) = xs.toList by rw [List.drop_zero]; exact List.take_of_length_le (by simp), if_neg (by simp)]
  refine wpAny_bind (wpAny_holding (wpAny_pyNext_list_end hh hit1 (hl.at fun o z => k1.extBut l o ne (Heap.get?_push_of_some _ z)) (by simp) fun h2 k2 => ?_))
  simp only [Option.isSome_none, Bool.false_eq_true, if_false]
  exact wpAny_pure (q h2 fun b o hb e => k2 b o hb (k1.extBut b o hb (Heap.get?_push_of_some _ e)))
noncomputable def gTl (n : Nat) (g : GFs) : GF := fun d σ H => match d with
  | .ref p => match H[p]? with
    | some (.lst ds) => if ds.length = n then g ds σ H else none
    | _ => none
  | _ => none
theorem pgf_lst {es : List Expr} {pos : Pos} {k n : Nat} {g : GFs} (hc : X.calm = true) (h : PGsf X es g) (hn : (assignEach es X.env).length = n := by rfl) (hst : (assignEach es X.env).findIdx? (·.1) = none := by rfl) : PGf X (.Tuple es k pos) (gTl n g) := by
  intro pins s σ H v u Q I r ⟨ι, σd, Hd, d, σd', Hd', sr, hr, rd, e, q⟩
  unfold gTl at e
  split at e
  · rename_i p
    split at e
    · rename_i ds eo
      split at e
      · rename_i hl
        obtain ⟨a, rfl, ha⟩ := rep_ref.mp rd
        obtain ⟨vs, hv, P1⟩ := hr.obj p a _ ha eo
        cases r
        obtain ⟨its, rv, pl, hz⟩ := I.list (SqL.of hv)
        have e1 : its.toArray.size = n := by rw [List.size_toArray, ← hl, Prd.len P1, rv.length]
        rw [show assign (.Tuple es k pos) X.env (.ref a) = (do standAt pos; unpack (.ref a) (assignEach es X.env)) from rfl]
        refine wpAny_bind (wpAny_standAt ?_)
        unfold unpack
        rw [hn, hst, ← e1]
        refine wpAny_bind (wpAny_holding (unpack_list (I.ok.hd hc) pl.isList fun h' hx => ?_))
        have I1 : Inv X pins σ H { s with heap := h' } := I.kept (t' := s.toks) fun b o e => hx b o (Nat.ne_of_lt (Heap.lt_size e)) e
        exact h pins _ σ H vs _ Q I1 (by simpa using rv) ⟨ι, σd, Hd, ds, σd', Hd', sr, hr, P1, e, q⟩
      · cases e
    · cases e
  · cases e
end
end DL
namespace DL
open PySem L2
theorem size_ok {n : Nat} (h : n ≤ 1000000) : n ≤ sizeLine := by rw [PySem.sizeLine_eq]; omega
theorem atI_toNat {xs : List D} {i : Int} {d : D} (h0 : 0 ≤ i) (h : xs[i.toNat]? = some d) : atI xs i = some d := by
  have : i = (i.toNat : Int) := by omega
  rw [this]; exact atI_nat h
structure Ext (n : Nat) (H H' : HD) : Prop where
  feed : ∃ a b, H'[n]? = some (.lst [.int a, .int b])
  old : ∀ m o, m ≠ n → H[m]? = some o → H'[m]? = some o
  len : H.length ≤ H'.length
theorem Ext.trans {n : Nat} {H H1 H2 : HD} (a : Ext n H H1) (b : Ext n H1 H2) : Ext n H H2 := ⟨b.feed, fun m o h q => b.old m o h (a.old m o h q), Nat.le_trans a.len b.len⟩
theorem Ext.refl {n : Nat} {H : HD} (h : ∃ a b, H[n]? = some (.lst [.int a, .int b])) : Ext n H H := ⟨h, fun _ _ _ q => q, Nat.le_refl _⟩
theorem Ext.app {n : Nat} {H : HD} (h : ∃ a b, H[n]? = some (.lst [.int a, .int b])) (o : DO) : Ext n H (H ++ [o]) := by
  obtain ⟨a, b, e⟩ := h
  refine ⟨⟨a, b, ?_⟩, fun m u _ q => ?_, by simp⟩
  · rw [List.getElem?_append_left (List.getElem?_eq_some_iff.mp e).1]; exact e
  · rw [List.getElem?_append_left (List.getElem?_eq_some_iff.mp q).1]; exact q
end DL
namespace LH
open PySem L2 DL
noncomputable def Seqs (n : Nat) (s : D) (xs : List D) (H : HD) : Prop := s = .tup xs ∨ ∃ m, s = .ref m ∧ m ≠ n ∧ H[m]? = some (.lst xs)
theorem Seqs.seq {n : Nat} {s : D} {xs : List D} {H : HD} (h : Seqs n s xs H) : seqD s H = some xs := by
  rcases h with rfl | ⟨m, rfl, _, e⟩
  · rfl
  · simp [seqD, e]
theorem Seqs.ext {n : Nat} {s : D} {xs : List D} {H H' : HD} (h : Seqs n s xs H) (e : Ext n H H') : Seqs n s xs H' := by
  rcases h with rfl | ⟨m, rfl, hm, q⟩
  · exact .inl rfl
  · exact .inr ⟨m, rfl, hm, e.old m _ hm q⟩
structure ExtS (S : List Nat) (H H' : HD) : Prop where
  old : ∀ m o, m ∉ S → H[m]? = some o → H'[m]? = some o
  len : H.length ≤ H'.length
theorem ExtS.trans {S : List Nat} {H H1 H2 : HD} (a : ExtS S H H1) (b : ExtS S H1 H2) : ExtS S H H2 := ⟨fun m o h q => b.old m o h (a.old m o h q), Nat.le_trans a.len b.len⟩
theorem ExtS.refl {S : List Nat} {H : HD} : ExtS S H H := ⟨fun _ _ _ q => q, Nat.le_refl _⟩
theorem ExtS.set {S : List Nat} {H : HD} {p : Nat} {o : DO} (h : p ∈ S) : ExtS S H (H.set p o) := ⟨fun m u hm q => by rw [List.getElem?_set_ne (fun z => hm (by rw [← z]; exact h))]; exact q, by simp⟩
noncomputable def absZ (l : Int) : Int := if l < 0 then -l else l
noncomputable def Up (m : Int) : Int → List Int → Prop
  | _, [] => True
  | last, l :: r => last < absZ l ∧ absZ l ≤ m ∧ Up m (absZ l) r
theorem seq_nx {f g : SF} {σ σ1 : SD} {H H1 : HD} (h : f σ H = some (.nx, σ1, H1)) : sSeq f g σ H = g σ1 H1 := by
  unfold sSeq
  rw [h]
  rfl
theorem seq_rt {f g : SF} {σ σ1 : SD} {H H1 : HD} {d : D} (h : f σ H = some (.rt d, σ1, H1)) : sSeq f g σ H = some (.rt d, σ1, H1) := by
  unfold sSeq
  rw [h]
  rfl
noncomputable def IsKind (d : D) : Prop := d = .str "all" ∨ d = .str "some"
noncomputable def IsRow (d : D) : Prop := ∃ ls : List Int, d = .tup (ls.map .int) ∧ (∀ l ∈ ls, l ≠ 0 ∧ -10 ≤ l ∧ l ≤ 10) ∧ ls.length ≤ 9
end LH
namespace LH
open PySem L2 DL
theorem toP_int (H : HD) (n : Nat) (i : Int) : toP H n (.int i) = some (.int i) := by cases n <;> rw [toP]
theorem toP_bl (H : HD) (n : Nat) (b : Bool) : toP H n (.bl b) = some (.bool b) := by cases n <;> rw [toP]
theorem toP_non (H : HD) (n : Nat) : toP H n .non = some .none := by cases n <;> rw [toP]
theorem dat_int (H : HD) (i : Int) : dat (.int i) H = some (.int i) := by
  simp [dat, toP_int, okP, PyData.canLay0, PyData.depth]
theorem eq_int (i j : Int) (H : HD) : eqD (.int i) (.int j) H = some (.bl (i == j), H) := by
  simp [eqD, twoS, dat_int, PyData.eqv]
theorem flt {n : Nat} {H : HD} (hf : ∃ a b, H[n]? = some (.lst [.int a, .int b])) : n < H.length := by obtain ⟨a, b, e⟩ := hf; exact (List.getElem?_eq_some_iff.mp e).1
noncomputable def RowIn (m : Int) (d : D) : Prop := ∃ ls : List Int, d = .tup (ls.map .int) ∧ (∀ l ∈ ls, l ≠ 0 ∧ -10 ≤ l ∧ l ≤ 10) ∧ ls.length ≤ 9 ∧ Up m 0 ls
theorem RowIn.row {m : Int} {d : D} (h : RowIn m d) : IsRow d := by
  obtain ⟨ls, a, b, c, _⟩ := h
  exact ⟨ls, a, b, c⟩
end LH
namespace LH
open PySem L2 DL
structure Sh (x : PyData) (w dp : Nat) : Prop where
  lay : x.canLay0 = true
  sh : x.showable = true
  dep : x.depth ≤ dp
  lv : x.leavesShort 40 = true
  wt : x.weight ≤ w
theorem Sh.can {x : PyData} {w dp : Nat} (h : Sh x w dp) (hw : w ≤ 100000) (hd : dp ≤ 30) : canShow x = true := by
  have sz : sizeLine = 16777216 := PySem.sizeLine_eq
  have l := PyData.shown_le 40 (by omega) x h.lv
  have h1 : x.shown.length ≤ sizeLine := by
    have := h.wt
    rw [sz]; omega
  have h2 : x.depth ≤ 30 := Nat.le_trans h.dep hd
  simp [canShow, h.lay, h.sh, h1, h2]
noncomputable def Showy (d : D) (w dp : Nat) : Prop := ∃ x, (∀ H n, toP H n d = some x) ∧ Sh x w dp
theorem shInts : ∀ k : Fin 61, (PyData.shown (.int ((k.val : Int) - 30))).length ≤ 40 ∧ ((PyData.int ((k.val : Int) - 30)).showable = true) ∧ (PyData.int ((k.val : Int) - 30)).weight ≤ 40 := by decide
theorem Sh.int {i : Int} (h0 : -30 ≤ i) (h1 : i ≤ 30) : Sh (.int i) 40 0 := by
  have h := shInts ⟨(i + 30).toNat, by omega⟩
  have e : (((i + 30).toNat : Nat) : Int) - 30 = i := by omega
  simp only [e] at h
  exact ⟨rfl, h.2.1, Nat.le_refl _, by simpa [PyData.leavesShort] using h.1, h.2.2⟩
theorem Showy.int {i : Int} (h0 : -30 ≤ i) (h1 : i ≤ 30) : Showy (.int i) 40 0 := ⟨.int i, fun H n => toP_int H n i, Sh.int h0 h1⟩
theorem Showy.bl {b : Bool} : Showy (.bl b) 40 0 := ⟨.bool b, fun H n => toP_bl H n b, rfl, rfl, Nat.le_refl _, rfl, Nat.zero_le _⟩
theorem Showy.non : Showy .non 40 0 := ⟨.none, fun H n => toP_non H n, rfl, rfl, Nat.le_refl _, rfl, Nat.zero_le _⟩
theorem toP_str (H : HD) (n : Nat) (x : Str) : toP H n (.str x) = some (.str x) := by cases n <;> rw [toP]
theorem Showy.str {x : Str} (h : PyData.strOk x = true) (h2 : (x.cps.toList.all fun c => decide (c < 16 ^ 8)) = true) (h3 : x.cps.size ≤ 40) : Showy (.str x) 40 0 :=
  ⟨.str x, fun H n => toP_str H n x, h, rfl, Nat.le_refl _, h2, h3⟩
theorem strOk_list {x : Str} (h : (x.cps.toList.all fun c => decide (c < 0x110000)) = true) : PyData.strOk x = true := by
  unfold PyData.strOk
  rw [← Array.all_toList]
  exact h
theorem Showy.kind {d : D} (h : IsKind d) : Showy d 40 0 := by
  rcases h with rfl | rfl
  · exact Showy.str (strOk_list (by decide)) (by decide) (by decide)
  · exact Showy.str (strOk_list (by decide)) (by decide) (by decide)
theorem sh_all {H : HD} {n w dp : Nat} : ∀ xs : List D, (∀ d ∈ xs, ∃ x, toP H n d = some x ∧ Sh x w dp) → ∃ ps, toPs H n xs = some ps ∧ PyData.canLayAll0 ps = true ∧ PyData.showableAll ps = true ∧ PyData.depthAll ps ≤ dp ∧ PyData.leavesShortAll 40 ps = true ∧ PyData.weightAll ps ≤ xs.length * (w + 1) ∧ ps.length = xs.length
  | [], _ => ⟨[], by rw [toPs], rfl, rfl, Nat.zero_le _, rfl, Nat.zero_le _, rfl⟩
  | d :: xs, h => by
    obtain ⟨x, e1, s⟩ := h d (by simp)
    obtain ⟨ps, e2, a1, a2, a3, a4, a5, a6⟩ := sh_all (H := H) (n := n) (w := w) (dp := dp) xs fun z hz => h z (by simp [hz])
    refine ⟨x :: ps, ?_, ?_, ?_, ?_, ?_, ?_, by simp [a6]⟩
    · rw [toPs, e1, e2]; rfl
    · simp [PyData.canLayAll0, s.lay, a1]
    · simp [PyData.showableAll, s.sh, a2]
    · simp only [PyData.depthAll]; exact Nat.max_le.mpr ⟨s.dep, a3⟩
    · simp [PyData.leavesShortAll, s.lv, a4]
    · simp only [PyData.weightAll, List.length_cons, Nat.succ_mul]
      have := s.wt
      omega
theorem Showy.tup {xs : List D} {w dp : Nat} (h : ∀ d ∈ xs, Showy d w dp) : Showy (.tup xs) (xs.length * (w + 1)) (dp + 1) := by
  have all : ∀ H n, ∃ ps, toPs H n xs = some ps ∧ PyData.canLayAll0 ps = true ∧ PyData.showableAll ps = true ∧ PyData.depthAll ps ≤ dp ∧ PyData.leavesShortAll 40 ps = true ∧ PyData.weightAll ps ≤ xs.length * (w + 1) ∧ ps.length = xs.length := fun H n => sh_all xs fun d hd => by
    obtain ⟨x, e, s⟩ := h d hd
    exact ⟨x, e H n, s⟩
  have same : ∀ (xs : List D), (∀ d ∈ xs, Showy d w dp) → ∀ H n, toPs H n xs = toPs [] 0 xs := by
    intro xs
    induction xs with
    | nil => intro _ H n; rw [toPs, toPs]
    | cons d r ih =>
      intro h H n
      obtain ⟨x, e, _⟩ := h d (by simp)
      rw [toPs, toPs, e, e, ih (fun z hz => h z (by simp [hz])) H n]
  obtain ⟨ps, e, a1, a2, a3, a4, a5, _⟩ := all [] 0
  refine ⟨.tuple ps, fun H n => ?_, ⟨a1, a2, Nat.succ_le_succ a3, a4, a5⟩⟩
  have q : toPs H n xs = some ps := (same xs h H n).trans e
  cases n <;> rw [toP, q] <;> rfl
theorem Showy.le {d : D} {w dp w' dp' : Nat} (h : Showy d w dp) (hw : w ≤ w') (hd : dp ≤ dp') : Showy d w' dp' := by
  obtain ⟨x, e, s⟩ := h
  exact ⟨x, e, s.lay, s.sh, Nat.le_trans s.dep hd, s.lv, Nat.le_trans s.wt hw⟩
theorem Showy.rep {d : D} {w dp : Nat} (h : Showy d w dp) (hw : w ≤ 100000) (hd : dp ≤ 30) : ∃ t : Str, ∀ H, reprD [d] H = some (.str t, H) := by
  obtain ⟨x, e, s⟩ := h
  refine ⟨x.shown, fun H => ?_⟩
  unfold reprD
  simp only [e, Option.bind_some, if_pos (s.can hw hd)]
theorem cut_lo (xs : List D) (k : Nat) : cutD xs (some (k : Int)) none = xs.drop k := by
  unfold cutD
  have h1 : HT.sIx xs.length 0 (some (k : Int)) = min k xs.length := by
    show (if (k : Int) < 0 then ((k : Int) + (xs.length : Int)).toNat else min (k : Int).toNat xs.length) = min k xs.length
    rw [if_neg (by omega), Int.toNat_natCast]
  have h2 : HT.sIx xs.length xs.length none = xs.length := rfl
  rw [h1, h2]
  by_cases h : k ≤ xs.length
  · rw [Nat.min_eq_left h]
    exact List.take_of_length_le (by simp)
  · rw [Nat.min_eq_right (by omega), List.drop_of_length_le (Nat.le_refl _), List.drop_of_length_le (by omega)]
    simp
theorem cut_hi (xs : List D) (k : Nat) : cutD xs none (some (k : Int)) = xs.take k := by
  unfold cutD
  have h1 : HT.sIx xs.length 0 none = 0 := rfl
  have h2 : HT.sIx xs.length xs.length (some (k : Int)) = min k xs.length := by
    show (if (k : Int) < 0 then ((k : Int) + (xs.length : Int)).toNat else min (k : Int).toNat xs.length) = min k xs.length
    rw [if_neg (by omega), Int.toNat_natCast]
  rw [h1, h2]
  simp
theorem ac {f : EF} {g : AF} {σ : SD} {H H1 H2 : HD} {d : D} {ds : List D} (h1 : f σ H = some (d, H1)) (h2 : g σ H1 = some (ds, H2)) : aCons f g σ H = some (d :: ds, H2) := by
  unfold aCons; rw [h1]; simp only [Option.bind_some]; rw [h2]; rfl
theorem an {σ : SD} {H : HD} : aNil σ H = some ([], H) := rfl
theorem cb {g : FF} {f : AF} {σ : SD} {H H1 : HD} {ds : List D} {r : Option (D × HD)} (h1 : f σ H = some (ds, H1)) (h2 : g ds H1 = r) : eCB g f σ H = r := by
  unfold eCB; rw [h1]; exact h2
theorem tu {n : Nat} {xs : List D} {H : HD} (h : H[n]? = some (.lst xs)) : tupleD [.ref n] H = some (.tup xs, H) := by
  simp [tupleD, seqD, h]
theorem tp {f : AF} {σ : SD} {H H1 : HD} {ds : List D} (h1 : f σ H = some (ds, H1)) (h2 : ds.length ≤ 1000000) : eTup f σ H = some (.tup ds, H1) := by
  unfold eTup; rw [h1]; exact if_pos (size_ok h2)
theorem ls {f : AF} {σ : SD} {H H1 : HD} {ds : List D} (h1 : f σ H = some (ds, H1)) (h2 : ds.length ≤ 1000000) : eLst f σ H = some (.ref H1.length, H1 ++ [.lst ds]) := by
  unfold eLst; rw [h1]; exact if_pos (size_ok h2)
theorem ca {n : Nat} {F : FF} {f : AF} {σ : SD} {H H1 : HD} {ds : List D} {r : Option (D × HD)} (h1 : f σ H = some (ds, H1)) (hl : ds.length = n) (h2 : F ds H1 = r) : eCall n F f σ H = r := by
  unfold eCall; rw [h1]; simp only [Option.bind_some]; rw [if_pos hl]; exact h2
theorem rt {f : EF} {σ : SD} {H H1 : HD} {d : D} (h : f σ H = some (d, H1)) : sRet f σ H = some (.rt d, σ, H1) := by
  unfold sRet; rw [h]; rfl
theorem op {g : F2} {fa fb : EF} {σ : SD} {H H1 H2 : HD} {d1 d2 : D} {r : Option (D × HD)} (h1 : fa σ H = some (d1, H1)) (h2 : fb σ H1 = some (d2, H2)) (h3 : g d1 d2 H2 = r) : eOp g fa fb σ H = r := by
  unfold eOp; rw [h1]; simp only [Option.bind_some]; rw [h2]; exact h3
theorem iff_t {t : TF} {f g : SF} {σ : SD} {H H1 : HD} {b : Bool} (h : t σ H = some (b, H1)) : sIf t f g σ H = if b = true then f σ H1 else g σ H1 := by
  unfold sIf; rw [h]; rfl
theorem tof {f : EF} {σ : SD} {H H1 : HD} {b : Bool} (h : f σ H = some (.bl b, H1)) : tOf f σ H = some (b, H1) := by
  unfold tOf; rw [h]; rfl
theorem lenT (xs : List D) (H : HD) : lenD [.tup xs] H = some (.int xs.length, H) := by simp [lenD, seqD]
theorem ixT {xs : List D} {i : Int} {d : D} {H : HD} (h : atI xs i = some d) : ixD (.tup xs) (.int i) H = some (d, H) := by simp [ixD, seqD, h]
theorem skip {t : TF} {f g : SF} {σ : SD} {H H1 : HD} (h : t σ H = some (false, H1)) : sSeq (sIf t f sNil) g σ H = g σ H1 := by
  refine seq_nx ?_
  rw [iff_t h]
  rfl
theorem hit {t : TF} {f f2 g : SF} {σ σ1 : SD} {H H1 H2 : HD} {d : D} (h : t σ H = some (true, H1)) (h2 : f σ H1 = some (.rt d, σ1, H2)) : sSeq (sIf t (sSeq f sNil) f2) g σ H = some (.rt d, σ1, H2) := by
  refine seq_rt ?_
  rw [iff_t h]
  exact seq_rt h2
theorem vr {i : Nat} {σ : SD} {H : HD} {d : D} (h : σ[i]? = some (some d)) : eVar i σ H = some (d, H) := by simp [eVar, h]
theorem sl {fe : EF} {fl fh : OF} {σ : SD} {H H1 H2 H3 : HD} {d : D} {l h : Option Int} {r : Option (D × HD)} (h1 : fe σ H = some (d, H1)) (h2 : fl σ H1 = some (l, H2)) (h3 : fh σ H2 = some (h, H3)) (h4 : slD d l h H3 = r) : eSl fe fl fh σ H = r := by
  unfold eSl; rw [h1]; simp only [Option.bind_some]; rw [h2]; simp only [Option.bind_some]; rw [h3]; exact h4
theorem os {f : EF} {σ : SD} {H H1 : HD} {i : Int} (h : f σ H = some (.int i, H1)) : oSome f σ H = some (some i, H1) := by
  unfold oSome; rw [h]; rfl
theorem slhi {xs : List D} {k : Nat} {H : HD} : slD (.tup xs) none (some (k : Int)) H = some (.tup (xs.take k), H) := by
  rw [← cut_hi]; rfl
theorem sllo {xs : List D} {k : Nat} {H : HD} : slD (.tup xs) (some (k : Int)) none H = some (.tup (xs.drop k), H) := by
  rw [← cut_lo]; rfl
theorem adT {xs ys : List D} {H : HD} (h : xs.length + ys.length ≤ 1000000) : addD (.tup xs) (.tup ys) H = some (.tup (xs ++ ys), H) :=
  if_pos (size_ok (by rw [List.length_append]; exact h))
theorem suI (i j : Int) (H : HD) : subD (.int i) (.int j) H = some (.int (i - j), H) := by simp [subD, iiD, CT]
theorem muT {xs : List D} {k : Int} {H : HD} (h1 : -1000 ≤ k) (h2 : k ≤ 1000) (h3 : xs.length ≤ 1000) : mulD (.tup xs) (.int k) H = some (.tup (List.replicate k.toNat xs).flatten, H) := by
  have b : xs.length * k.toNat ≤ 1000 * 1000 := Nat.mul_le_mul h3 (by omega)
  have sz : sizeLine = 16777216 := PySem.sizeLine_eq
  have c : -(2 ^ 63) ≤ k ∧ k < 2 ^ 63 ∧ xs.length * k.toNat ≤ sizeLine := ⟨by omega, by omega, by omega⟩
  have l : (List.replicate k.toNat xs).flatten.length ≤ sizeLine := by
    rw [List.length_flatten, List.map_replicate, List.sum_replicate_nat, Nat.mul_comm]; omega
  show (if -(2 ^ 63) ≤ k ∧ k < 2 ^ 63 ∧ xs.length * k.toNat ≤ sizeLine then mkT (List.replicate k.toNat xs).flatten H else none) = _
  rw [if_pos c]
  exact if_pos l
theorem ExtS.app {S : List Nat} {H : HD} (L : HD) : ExtS S H (H ++ L) := ⟨fun m o _ q => by
  have : m < H.length := (List.getElem?_eq_some_iff.mp q).1
  rw [List.getElem?_append_left this]; exact q, by simp⟩
theorem ExtS.weak {p : Nat} {H H1 H' : HD} (e0 : ExtS [] H H1) (e : ExtS [p] H1 H') (hp : H.length ≤ p) : ExtS [] H H' := ⟨fun m o _ q => by
  have : m < H.length := (List.getElem?_eq_some_iff.mp q).1
  exact e.old m o (by simp; omega) (e0.old m o (by simp) q), Nat.le_trans e0.len e.len⟩
noncomputable def rowD (ls : List Int) : D := .tup (ls.map .int)
end LH
namespace LH
open PySem L2 DL
theorem orF {t u : TF} {σ : SD} {H H1 : HD} (h : t σ H = some (false, H1)) : tOrr t u σ H = u σ H1 := by unfold tOrr; rw [h]; rfl
theorem orT {t u : TF} {σ : SD} {H H1 : HD} (h : t σ H = some (true, H1)) : tOrr t u σ H = some (true, H1) := by unfold tOrr; rw [h]; rfl
theorem anF {t u : TF} {σ : SD} {H H1 : HD} (h : t σ H = some (false, H1)) : tAn t u σ H = some (false, H1) := by unfold tAn; rw [h]; rfl
theorem anT {t u : TF} {σ : SD} {H H1 : HD} (h : t σ H = some (true, H1)) : tAn t u σ H = u σ H1 := by unfold tAn; rw [h]; rfl
theorem Sh.can' {x : PyData} {w dp : Nat} (h : Sh x w dp) (hw : w ≤ 390000) (hd : dp ≤ 30) : canShow x = true := by
  have sz : sizeLine = 16777216 := PySem.sizeLine_eq
  have l := PyData.shown_le 40 (by omega) x h.lv
  have h1 : x.shown.length ≤ sizeLine := by
    have := h.wt
    rw [sz]; omega
  have h2 : x.depth ≤ 30 := Nat.le_trans h.dep hd
  simp [canShow, h.lay, h.sh, h1, h2]
noncomputable def V (n : Nat) (H : HD) (k w : Nat) (d : D) : Prop := ∃ x, (∀ H', Ext n H H' → ∀ m, k ≤ m → toP H' m d = some x) ∧ Sh x w k
theorem V.of {n : Nat} {H : HD} {k w : Nat} {d : D} (h : Showy d w k) : V n H k w d := by
  obtain ⟨x, e, s⟩ := h
  exact ⟨x, fun H' _ m _ => e H' m, s⟩
theorem V.le {n : Nat} {H : HD} {k w k' w' : Nat} {d : D} (h : V n H k w d) (hk : k ≤ k') (hw : w ≤ w') : V n H k' w' d := by
  obtain ⟨x, e, s⟩ := h
  exact ⟨x, fun H' y m hm => e H' y m (Nat.le_trans hk hm), s.lay, s.sh, Nat.le_trans s.dep hk, s.lv, Nat.le_trans s.wt hw⟩
theorem V.ext {n : Nat} {H H1 : HD} {k w : Nat} {d : D} (h : V n H k w d) (y : Ext n H H1) : V n H1 k w d := by
  obtain ⟨x, e, s⟩ := h
  exact ⟨x, fun H' z m hm => e H' (y.trans z) m hm, s⟩
theorem V.same {n : Nat} {H : HD} {k w : Nat} (hf : ∃ a b, H[n]? = some (.lst [.int a, .int b])) : ∀ ds : List D, (∀ e ∈ ds, V n H k w e) → ∀ H', Ext n H H' → ∀ m, k ≤ m → toPs H' m ds = toPs H k ds
  | [], _, H', _, m, _ => by rw [toPs, toPs]
  | d :: ds, h, H', y, m, hm => by
    obtain ⟨x, e, _⟩ := h d (by simp)
    rw [toPs, toPs, e H' y m hm, e H (Ext.refl hf) k (Nat.le_refl _), V.same hf ds (fun z hz => h z (by simp [hz])) H' y m hm]
theorem V.all {n : Nat} {H : HD} {k w : Nat} {ds : List D} (hf : ∃ a b, H[n]? = some (.lst [.int a, .int b])) (h : ∀ e ∈ ds, V n H k w e) :
    ∃ ps, (∀ H', Ext n H H' → ∀ m, k ≤ m → toPs H' m ds = some ps) ∧ Sh (.tuple ps) (ds.length * (w + 1)) (k + 1) ∧ Sh (.list ps) (ds.length * (w + 1)) (k + 1) := by
  obtain ⟨ps, e, a1, a2, a3, a4, a5, _⟩ := sh_all (H := H) (n := k) (w := w) (dp := k) ds fun d hd => by
    obtain ⟨x, e, s⟩ := h d hd
    exact ⟨x, e H (Ext.refl hf) k (Nat.le_refl _), s⟩
  exact ⟨ps, fun H' y m hm => (V.same hf ds h H' y m hm).trans e, ⟨a1, a2, Nat.succ_le_succ a3, a4, a5⟩, ⟨a1, a2, Nat.succ_le_succ a3, a4, a5⟩⟩
theorem V.tup {n : Nat} {H : HD} {k w : Nat} {ds : List D} (hf : ∃ a b, H[n]? = some (.lst [.int a, .int b])) (h : ∀ e ∈ ds, V n H k w e) : V n H (k + 1) (ds.length * (w + 1)) (.tup ds) := by
  obtain ⟨ps, e, s, _⟩ := V.all hf h
  refine ⟨.tuple ps, fun H' y m hm => ?_, s⟩
  have q := e H' y m (by omega)
  cases m <;> rw [toP, q] <;> rfl
theorem V.lst {n : Nat} {H : HD} {k w p : Nat} {ds : List D} (hf : ∃ a b, H[n]? = some (.lst [.int a, .int b])) (hp : p ≠ n) (hd : H[p]? = some (.lst ds)) (h : ∀ e ∈ ds, V n H k w e) : V n H (k + 1) (ds.length * (w + 1)) (.ref p) := by
  obtain ⟨ps, e, _, s⟩ := V.all hf h
  refine ⟨.list ps, fun H' y m hm => ?_, s⟩
  match m, hm with
  | m + 1, hm =>
    rw [toP]
    simp only [y.old p _ hp hd, e H' y m (by omega), Option.map_some]
theorem V.rep {n : Nat} {H : HD} {k w : Nat} {d : D} (h : V n H k w d) (hw : w ≤ 390000) (hk : k ≤ 30) : ∃ t : Str, ∀ H', Ext n H H' → reprD [d] H' = some (.str t, H') := by
  obtain ⟨x, e, s⟩ := h
  refine ⟨x.shown, fun H' y => ?_⟩
  unfold reprD
  simp only [e H' y 30 hk, Option.bind_some, if_pos (s.can' hw hk)]
noncomputable def OkE (H : HD) (d : D) : Prop := ∃ x, toP H 30 d = some x ∧ x.canLay0 = true ∧ x.depth ≤ 30
theorem V.ok {n : Nat} {H : HD} {k w : Nat} {d : D} (hf : ∃ a b, H[n]? = some (.lst [.int a, .int b])) (h : V n H k w d) (hk : k ≤ 30) : OkE H d := by
  obtain ⟨x, e, s⟩ := h
  exact ⟨x, e H (Ext.refl hf) 30 hk, s.lay, Nat.le_trans s.dep hk⟩
theorem okE_items {H : HD} {N : Nat} : ∀ (ds : List D) (ps : List PyData), toPs H N ds = some ps → PyData.canLayAll0 ps = true → PyData.depthAll ps ≤ 29 → ∀ e ∈ ds, ∃ y, toP H N e = some y ∧ y.canLay0 = true ∧ y.depth ≤ 30
  | [], _, _, _, _, e, he => by simp at he
  | d :: ds, ps, h, c, b, e, he => by
    rw [toPs] at h
    obtain ⟨x, e1, h⟩ := Option.bind_eq_some_iff.mp h
    obtain ⟨qs, e2, rfl⟩ := Option.map_eq_some_iff.mp h
    simp only [PyData.canLayAll0, Bool.and_eq_true] at c
    simp only [PyData.depthAll] at b
    rcases List.mem_cons.mp he with rfl | he
    · exact ⟨x, e1, c.1, by omega⟩
    · exact okE_items ds qs e2 c.2 (by omega) e he
theorem OkE.item {H : HD} {ds : List D} (h : OkE H (.tup ds)) : ∀ e ∈ ds, OkE H e := by
  obtain ⟨x, e, c, b⟩ := h
  rw [toP] at e
  obtain ⟨ps, e2, rfl⟩ := Option.map_eq_some_iff.mp e
  simp only [PyData.canLay0] at c
  simp only [PyData.depth] at b
  exact okE_items ds ps e2 c (by omega)
theorem OkE.dat {H : HD} {d : D} (h : OkE H d) : ∃ x, dat d H = some x ∧ toP H 30 d = some x := by
  obtain ⟨x, e, c, b⟩ := h
  refine ⟨x, ?_, e⟩
  unfold DL.dat
  rw [e]
  simp [okP, c, b]
noncomputable def tyOf : D → String
  | .non => "NoneType"
  | .bl _ => "bool"
  | .int _ => "int"
  | .str _ => "str"
  | .tup _ => "tuple"
  | .fl _ => "list"
  | .ref _ => "list"
  | _ => "?"
theorem OkE.ty {H : HD} {d : D} (h : OkE H d) : tyD d H = some (tyOf d) := by
  obtain ⟨x, e, _⟩ := h
  cases d with
  | ty c => rw [toP] at e; cases e
  | ref m =>
    rw [toP] at e
    simp only [tyD, tyOf]
    split at e
    · rfl
    · cases e
  | _ => rfl
theorem all_ok {H : HD} {p : Nat} {bs : List Bool} (h : H[p]? = some (.lst (bs.map .bl))) : allD [.ref p] H = some (.bl (bs.all id), H) := by
  simp [allD, h, blsD_map]
end LH
namespace WP
open PySem L2 DL LH
noncomputable def wE (r : Option (D × HD)) (Q : D → HD → Prop) : Prop := ∃ d H, r = some (d, H) ∧ Q d H
noncomputable def wT (r : Option (Bool × HD)) (Q : Bool → HD → Prop) : Prop := ∃ d H, r = some (d, H) ∧ Q d H
noncomputable def wA (r : Option (List D × HD)) (Q : List D → HD → Prop) : Prop := ∃ d H, r = some (d, H) ∧ Q d H
noncomputable def wO (r : Option (Option Int × HD)) (Q : Option Int → HD → Prop) : Prop := ∃ d H, r = some (d, H) ∧ Q d H
noncomputable def wI (r : Option ((List D × OwnD) × HD)) (Q : List D → OwnD → HD → Prop) : Prop := ∃ d o H, r = some ((d, o), H) ∧ Q d o H
noncomputable def wG (r : Option (SD × HD)) (Q : SD → HD → Prop) : Prop := ∃ d H, r = some (d, H) ∧ Q d H
noncomputable def wH (r : Option HD) (Q : HD → Prop) : Prop := ∃ H, r = some H ∧ Q H
noncomputable def wS (r : Option (FD × SD × HD)) (Q : FD → SD → HD → Prop) : Prop := ∃ x d H, r = some (x, d, H) ∧ Q x d H
noncomputable def wN (n : Nat) (F : FF) (ds : List D) (H : HD) (Q : D → HD → Prop) : Prop := ds.length = n ∧ wE (F ds H) Q
noncomputable def br (b : Bool) (P Q : Prop) : Prop := (b = true → P) ∧ (b = false → Q)
noncomputable def kont (k : SD → HD → Prop) (Q : FD → SD → HD → Prop) : FD → SD → HD → Prop
  | .nx, σ, H => k σ H
  | r, σ, H => Q r σ H
noncomputable def fin (Q : D → HD → Prop) : FD → SD → HD → Prop
  | .rt d, _, H => Q d H
  | .nx, _, H => Q .non H
  | _, _, _ => False
section
variable {σ : SD} {H : HD} {Q : D → HD → Prop}
theorem wE.mono {r : Option (D × HD)} {Q' : D → HD → Prop} (h : wE r Q) (q : ∀ d H, Q d H → Q' d H) : wE r Q' := by
  obtain ⟨d, H, e, x⟩ := h; exact ⟨d, H, e, q d H x⟩
theorem wS.mono {r : Option (FD × SD × HD)} {Q Q' : FD → SD → HD → Prop} (h : wS r Q) (q : ∀ x d H, Q x d H → Q' x d H) : wS r Q' := by
  obtain ⟨x, d, H, e, z⟩ := h; exact ⟨x, d, H, e, q x d H z⟩
theorem w_var {i : Nat} {d : D} (h : (σ[i]?).join = some d) (q : Q d H) : wE (eVar i σ H) Q := ⟨d, H, by unfold eVar; rw [h]; rfl, q⟩
theorem w_c {d : D} (q : Q d H) : wE (eC d σ H) Q := ⟨d, H, rfl, q⟩
theorem w_op {g : F2} {fa fb : EF} (h : wE (fa σ H) fun x H1 => wE (fb σ H1) fun y H2 => wE (g x y H2) Q) : wE (eOp g fa fb σ H) Q := by
  obtain ⟨x, H1, e1, y, H2, e2, d, H3, e3, q⟩ := h
  exact ⟨d, H3, op e1 e2 e3, q⟩
theorem w_un {g : D → HD → Option (D × HD)} {fa : EF} (h : wE (fa σ H) fun x H1 => wE (g x H1) Q) : wE (eUn g fa σ H) Q := by
  obtain ⟨x, H1, e1, d, H3, e3, q⟩ := h
  exact ⟨d, H3, by unfold eUn; rw [e1]; exact e3, q⟩
theorem w_ch {g g' : F2} {fa fb fc : EF} (h : wE (fa σ H) fun x H1 => wE (fb σ H1) fun y H2 => wE (g x y H2) fun z H3 => ∃ k, z = .bl k ∧ br k (wE (fc σ H3) fun w H4 => wE (g' y w H4) Q) (Q (.bl false) H3)) : wE (eCh g g' fa fb fc σ H) Q := by
  obtain ⟨x, H1, e1, y, H2, e2, z, H3, e3, k, rfl, b1, b2⟩ := h
  unfold eCh
  rw [e1]; simp only [Option.bind_some]; rw [e2]; simp only [Option.bind_some]; rw [e3]; simp only [Option.bind_some, blD]
  cases k with
  | true =>
    obtain ⟨w, H4, e4, d, H5, e5, q⟩ := b1 rfl
    exact ⟨d, H5, by rw [if_pos rfl, e4]; exact e5, q⟩
  | false => exact ⟨.bl false, H3, by rw [if_neg (by simp)], b2 rfl⟩
theorem w_tof {f : EF} {Q : Bool → HD → Prop} (h : wE (f σ H) fun d H1 => ∃ b, d = .bl b ∧ Q b H1) : wT (tOf f σ H) Q := by
  obtain ⟨d, H1, e, b, rfl, q⟩ := h
  exact ⟨b, H1, tof e, q⟩
theorem w_bl {b : Bool} {P : Bool → Prop} (h : P b) : ∃ c, D.bl b = .bl c ∧ P c := ⟨b, rfl, h⟩
theorem w_ttru {f : EF} {Q : Bool → HD → Prop} (h : wE (f σ H) fun d H1 => ∃ b, truD d H1 = some b ∧ Q b H1) : wT (tTru f σ H) Q := by
  obtain ⟨d, H1, e, b, e2, q⟩ := h
  exact ⟨b, H1, by unfold tTru; rw [e]; simp only [Option.bind_some]; rw [e2]; rfl, q⟩
theorem w_no {t : TF} {Q : Bool → HD → Prop} (h : wT (t σ H) fun b H1 => Q (!b) H1) : wT (tNo t σ H) Q := by
  obtain ⟨b, H1, e, q⟩ := h
  exact ⟨!b, H1, by unfold tNo; rw [e]; rfl, q⟩
theorem w_an {t u : TF} {Q : Bool → HD → Prop} (h : wT (t σ H) fun b H1 => br b (wT (u σ H1) Q) (Q false H1)) : wT (tAn t u σ H) Q := by
  obtain ⟨b, H1, e, q1, q2⟩ := h
  cases b with
  | true => obtain ⟨c, H2, e2, q⟩ := q1 rfl; exact ⟨c, H2, (anT e).trans e2, q⟩
  | false => exact ⟨false, H1, anF e, q2 rfl⟩
theorem w_or {t u : TF} {Q : Bool → HD → Prop} (h : wT (t σ H) fun b H1 => br b (Q true H1) (wT (u σ H1) Q)) : wT (tOrr t u σ H) Q := by
  obtain ⟨b, H1, e, q1, q2⟩ := h
  cases b with
  | true => exact ⟨true, H1, orT e, q1 rfl⟩
  | false => obtain ⟨c, H2, e2, q⟩ := q2 rfl; exact ⟨c, H2, (orF e).trans e2, q⟩
theorem w_eno {f : EF} (h : wE (f σ H) fun d H1 => ∃ b, d = .bl b ∧ Q (.bl (!b)) H1) : wE (eNo f σ H) Q := by
  obtain ⟨d, H1, e, b, rfl, q⟩ := h
  exact ⟨.bl (!b), H1, by unfold eNo; rw [e]; rfl, q⟩
theorem w_ean {f g : EF} (h : wE (f σ H) fun d H1 => ∃ b, d = .bl b ∧ br b (wE (g σ H1) Q) (Q (.bl false) H1)) : wE (eAn f g σ H) Q := by
  obtain ⟨d, H1, e, b, rfl, q1, q2⟩ := h
  unfold eAn
  rw [e]; simp only [Option.bind_some, blD]
  cases b with
  | true => rw [if_pos rfl]; exact q1 rfl
  | false => rw [if_neg (by simp)]; exact ⟨_, _, rfl, q2 rfl⟩
theorem w_eorr {f g : EF} (h : wE (f σ H) fun d H1 => ∃ b, d = .bl b ∧ br b (Q (.bl true) H1) (wE (g σ H1) Q)) : wE (eOrr f g σ H) Q := by
  obtain ⟨d, H1, e, b, rfl, q1, q2⟩ := h
  unfold eOrr
  rw [e]; simp only [Option.bind_some, blD]
  cases b with
  | true => rw [if_pos rfl]; exact ⟨_, _, rfl, q1 rfl⟩
  | false => rw [if_neg (by simp)]; exact q2 rfl
theorem w_eif {t : TF} {f g : EF} (h : wT (t σ H) fun b H1 => br b (wE (f σ H1) Q) (wE (g σ H1) Q)) : wE (eIf t f g σ H) Q := by
  obtain ⟨b, H1, e, q1, q2⟩ := h
  unfold eIf
  rw [e]; simp only [Option.bind_some]
  cases b with
  | true => rw [if_pos rfl]; exact q1 rfl
  | false => rw [if_neg (by simp)]; exact q2 rfl
theorem w_anil {Q : List D → HD → Prop} (q : Q [] H) : wA (aNil σ H) Q := ⟨[], H, rfl, q⟩
theorem w_acons {f : EF} {g : AF} {Q : List D → HD → Prop} (h : wE (f σ H) fun d H1 => wA (g σ H1) fun ds H2 => Q (d :: ds) H2) : wA (aCons f g σ H) Q := by
  obtain ⟨d, H1, e1, ds, H2, e2, q⟩ := h
  exact ⟨d :: ds, H2, ac e1 e2, q⟩
theorem w_cb {g : FF} {f : AF} (h : wA (f σ H) fun ds H1 => wE (g ds H1) Q) : wE (eCB g f σ H) Q := by
  obtain ⟨ds, H1, e1, d, H2, e2, q⟩ := h
  exact ⟨d, H2, cb e1 e2, q⟩
theorem w_call {n : Nat} {F : FF} {f : AF} (h : wA (f σ H) fun ds H1 => wN n F ds H1 Q) : wE (eCall n F f σ H) Q := by
  obtain ⟨ds, H1, e1, hl, d, H2, e2, q⟩ := h
  exact ⟨d, H2, ca e1 hl e2, q⟩
theorem w_n {n : Nat} {F : FF} {ds : List D} (hl : ds.length = n) (h : wE (F ds H) Q) : wN n F ds H Q := ⟨hl, h⟩
theorem w_tup {f : AF} (h : wA (f σ H) fun ds H1 => ds.length ≤ 1000000 ∧ Q (.tup ds) H1) : wE (eTup f σ H) Q := by
  obtain ⟨ds, H1, e1, hl, q⟩ := h
  exact ⟨_, H1, tp e1 hl, q⟩
theorem w_lst {f : AF} (h : wA (f σ H) fun ds H1 => ds.length ≤ 1000000 ∧ Q (.ref H1.length) (H1 ++ [.lst ds])) : wE (eLst f σ H) Q := by
  obtain ⟨ds, H1, e1, hl, q⟩ := h
  exact ⟨_, _, ls e1 hl, q⟩
theorem w_lm {g : D → List D → HD → Option (D × HD)} {fo : EF} {f : AF} (h : wE (fo σ H) fun o H1 => isLst o H1 = true ∧ wA (f σ H1) fun ds H2 => wE (g o ds H2) Q) : wE (eLM g fo f σ H) Q := by
  obtain ⟨o, H1, e1, i, ds, H2, e2, d, H3, e3, q⟩ := h
  exact ⟨d, H3, by unfold eLM; rw [e1]; simp only [Option.bind_some]; rw [if_pos i, e2]; exact e3, q⟩
theorem w_tm {g : D → List D → HD → Option (D × HD)} {fo : EF} {f : AF} (h : wE (fo σ H) fun o H1 => isTup o = true ∧ wA (f σ H1) fun ds H2 => wE (g o ds H2) Q) : wE (eTM g fo f σ H) Q := by
  obtain ⟨o, H1, e1, i, ds, H2, e2, d, H3, e3, q⟩ := h
  exact ⟨d, H3, by unfold eTM; rw [e1]; simp only [Option.bind_some]; rw [if_pos i, e2]; exact e3, q⟩
theorem w_dm {g : D → List D → HD → Option (D × HD)} {fo : EF} {f : AF} (h : wE (fo σ H) fun o H1 => isDic o H1 = true ∧ wA (f σ H1) fun ds H2 => wE (g o ds H2) Q) : wE (eDM g fo f σ H) Q := by
  obtain ⟨o, H1, e1, i, ds, H2, e2, d, H3, e3, q⟩ := h
  exact ⟨d, H3, by unfold eDM; rw [e1]; simp only [Option.bind_some]; rw [if_pos i, e2]; exact e3, q⟩
theorem w_dn (q : Q (.ref H.length) (H ++ [.dic [] false])) : wE (eDN σ H) Q := ⟨_, _, rfl, q⟩
theorem w_on {Q : Option Int → HD → Prop} (q : Q none H) : wO (oNone σ H) Q := ⟨none, H, rfl, q⟩
theorem w_os {f : EF} {Q : Option Int → HD → Prop} (h : wE (f σ H) fun d H1 => ∃ i, d = .int i ∧ Q (some i) H1) : wO (oSome f σ H) Q := by
  obtain ⟨d, H1, e, i, rfl, q⟩ := h
  exact ⟨some i, H1, os e, q⟩
theorem w_int {i : Int} {P : Int → Prop} (h : P i) : ∃ c, D.int i = .int c ∧ P c := ⟨i, rfl, h⟩
theorem w_sl {fe : EF} {fl fh : OF} (h : wE (fe σ H) fun x H1 => wO (fl σ H1) fun l H2 => wO (fh σ H2) fun u H3 => wE (slD x l u H3) Q) : wE (eSl fe fl fh σ H) Q := by
  obtain ⟨x, H1, e1, l, H2, e2, u, H3, e3, d, H4, e4, q⟩ := h
  exact ⟨d, H4, sl e1 e2 e3 e4, q⟩
theorem w_rv {fe : EF} (h : wE (fe σ H) fun x H1 => ∃ xs, x = .tup xs ∧ xs.length ≤ 1000000 ∧ Q (.tup xs.reverse) H1) : wE (eRv fe σ H) Q := by
  obtain ⟨x, H1, e1, xs, rfl, hl, q⟩ := h
  exact ⟨_, H1, by unfold eRv; rw [e1]; exact if_pos (size_ok (by rw [List.length_reverse]; exact hl)), q⟩
variable {R : FD → SD → HD → Prop}
theorem w_snil (q : R .nx σ H) : wS (sNil σ H) R := ⟨_, _, _, rfl, q⟩
theorem w_seq {f g : SF} (h : wS (f σ H) (kont (fun σ1 H1 => wS (g σ1 H1) R) R)) : wS (sSeq f g σ H) R := by
  obtain ⟨x, σ1, H1, e, k⟩ := h
  unfold sSeq
  rw [e]; simp only [Option.bind_some]
  cases x with
  | nx => exact k
  | bk => exact ⟨_, _, _, rfl, k⟩
  | ct => exact ⟨_, _, _, rfl, k⟩
  | rt d => exact ⟨_, _, _, rfl, k⟩
theorem w_kn {k : SD → HD → Prop} (h : k σ H) : kont k R .nx σ H := h
theorem w_kr {k : SD → HD → Prop} {d : D} (h : R (.rt d) σ H) : kont k R (.rt d) σ H := h
theorem w_kb {k : SD → HD → Prop} (h : R .bk σ H) : kont k R .bk σ H := h
theorem w_kc {k : SD → HD → Prop} (h : R .ct σ H) : kont k R .ct σ H := h
theorem w_cut {r : Option (FD × SD × HD)} {k : SD → HD → Prop} (J : SD → HD → Prop) (h : wS r fun x σ H => x = .nx ∧ J σ H) (q : ∀ σ H, J σ H → k σ H) : wS r (kont k R) := by
  obtain ⟨x, s, H, e, rfl, j⟩ := h
  exact ⟨_, s, H, e, q s H j⟩
theorem w_fr {d : D} (h : Q d H) : fin Q (.rt d) σ H := h
theorem w_fn (h : Q .non H) : fin Q .nx σ H := h
theorem w_ret {f : EF} (h : wE (f σ H) fun d H1 => R (.rt d) σ H1) : wS (sRet f σ H) R := by
  obtain ⟨d, H1, e, q⟩ := h; exact ⟨_, _, _, rt e, q⟩
theorem w_retn (h : R (.rt .non) σ H) : wS (sRetN σ H) R := ⟨_, _, _, rfl, h⟩
theorem w_brk (h : R .bk σ H) : wS (sBrk σ H) R := ⟨_, _, _, rfl, h⟩
theorem w_cnt (h : R .ct σ H) : wS (sCnt σ H) R := ⟨_, _, _, rfl, h⟩
theorem w_expr {f : EF} (h : wE (f σ H) fun d H1 => R .nx σ H1) : wS (sExpr f σ H) R := by
  obtain ⟨d, H1, e, q⟩ := h; exact ⟨_, _, _, by unfold sExpr; rw [e]; rfl, q⟩
theorem w_if {t : TF} {f g : SF} (h : wT (t σ H) fun b H1 => br b (wS (f σ H1) R) (wS (g σ H1) R)) : wS (sIf t f g σ H) R := by
  obtain ⟨b, H1, e, q1, q2⟩ := h
  rw [iff_t e]
  cases b with
  | true => rw [if_pos rfl]; exact q1 rfl
  | false => rw [if_neg (by simp)]; exact q2 rfl
theorem w_set {i : Nat} {f : EF} (h : wE (f σ H) fun d H1 => R .nx (σ.set i (some d)) H1) : wS (sSet i f σ H) R := by
  obtain ⟨d, H1, e, q⟩ := h; exact ⟨_, _, _, by unfold sSet; rw [e]; rfl, q⟩
theorem w_asg {f : EF} {g : GF} (h : wE (f σ H) fun d H1 => wG (g d σ H1) fun σ2 H2 => R .nx σ2 H2) : wS (sAsg f g σ H) R := by
  obtain ⟨d, H1, e, σ2, H2, e2, q⟩ := h; exact ⟨_, _, _, by unfold sAsg; rw [e]; simp only [Option.bind_some]; rw [e2]; rfl, q⟩
theorem w_gnm {i : Nat} {d : D} {Q : SD → HD → Prop} (h : Q (σ.set i (some d)) H) : wG (gNm i d σ H) Q := ⟨_, _, rfl, h⟩
theorem w_gsb {fo fi : EF} {g : FSet} {d : D} {Q : SD → HD → Prop} (h : wE (fo σ H) fun o H1 => wE (fi σ H1) fun i H2 => wH (g o i d H2) fun H3 => Q σ H3) : wG (gSb fo fi g d σ H) Q := by
  obtain ⟨o, H1, e1, i, H2, e2, H3, e3, q⟩ := h
  exact ⟨σ, H3, by unfold gSb; rw [e1]; simp only [Option.bind_some]; rw [e2]; simp only [Option.bind_some]; rw [e3]; rfl, q⟩
theorem w_gtp {n : Nat} {g : GFs} {ds : List D} {Q : SD → HD → Prop} (hl : ds.length = n) (h : wG (g ds σ H) Q) : wG (gTp n g (.tup ds) σ H) Q := by
  obtain ⟨s, H1, e, q⟩ := h
  exact ⟨s, H1, by unfold gTp; simp only [if_pos hl]; exact e, q⟩
theorem w_gnl {Q : SD → HD → Prop} (h : Q σ H) : wG (gNl [] σ H) Q := ⟨_, _, rfl, h⟩
theorem w_gcn {g : GF} {h : GFs} {d : D} {r : List D} {Q : SD → HD → Prop} (q : wG (g d σ H) fun σ1 H1 => wG (h r σ1 H1) Q) : wG (gCn g h (d :: r) σ H) Q := by
  obtain ⟨s, H1, e, s2, H2, e2, q⟩ := q
  exact ⟨s2, H2, by unfold gCn; simp only; rw [e]; exact e2, q⟩
theorem w_for {it : ItF} {g : GF} {b : SF} (h : wI (it σ H) fun xs own H1 => wS (forL own g b xs σ H1) R) : wS (sFor it g b σ H) R := by
  obtain ⟨xs, own, H1, e, q⟩ := h
  unfold sFor; rw [e]; exact q
theorem w_run {n N : Nat} {b : SF} {ds : List D} (hl : ds.length = n) (h : wS (b (ds.map some ++ List.replicate (N - ds.length) none) H) (fin Q)) : wE (runB n N b ds H) Q := by
  obtain ⟨x, s, H1, e, q⟩ := h
  unfold runB
  rw [if_pos hl, e]
  simp only [Option.bind_some]
  cases x with
  | nx => exact ⟨_, _, rfl, q⟩
  | rt d => exact ⟨_, _, rfl, q⟩
  | bk => exact q.elim
  | ct => exact q.elim
theorem w_lc {it : ItF} {ci : List Nat} {tt : TF} {te : EF} (h : wI (it σ H) fun xs own H1 => wA (compL own (capD ci σ) tt te xs H1) fun ds H2 => ds.length ≤ 1000000 ∧ Q (.ref H2.length) (H2 ++ [.lst ds])) : wE (eLC it ci tt te σ H) Q := by
  obtain ⟨xs, own, H1, e, ds, H2, e2, hl, q⟩ := h
  exact ⟨_, _, by unfold eLC; rw [e]; simp only [Option.bind_some]; rw [e2]; exact if_pos (size_ok hl), q⟩
theorem w_bt {P S : Prop} (h : P) : br true P S := ⟨fun _ => h, nofun⟩
theorem w_bf {P S : Prop} (h : S) : br false P S := ⟨nofun, fun _ => h⟩
theorem w_bnt {P S : Prop} (h : P) : br (!false) P S := ⟨fun _ => h, nofun⟩
theorem w_bnf {P S : Prop} (h : S) : br (!true) P S := ⟨nofun, fun _ => h⟩
theorem w_bT {b : Bool} {P S : Prop} (e : b = true) (h : P) : br b P S := by subst e; exact w_bt h
theorem w_bF {b : Bool} {P S : Prop} (e : b = false) (h : S) : br b P S := by subst e; exact w_bf h
theorem w_sz {ds : List D} {P : Prop} (h : ds.length ≤ 1000000) (q : P) : ds.length ≤ 1000000 ∧ P := ⟨h, q⟩
theorem w_addI {i j : Int} (q : Q (.int (i + j)) H) : wE (addD (.int i) (.int j) H) Q := ⟨_, _, rfl, q⟩
theorem w_addT {a b : List D} (h : a.length + b.length ≤ 1000000) (q : Q (.tup (a ++ b)) H) : wE (addD (.tup a) (.tup b) H) Q := ⟨_, _, adT h, q⟩
theorem w_subI {i j : Int} (q : Q (.int (i - j)) H) : wE (subD (.int i) (.int j) H) Q := ⟨_, _, suI i j H, q⟩
theorem w_lt {i j : Int} (q : Q (.bl (decide (i < j))) H) : wE (ltD (.int i) (.int j) H) Q := ⟨_, _, by simp [ltD, iiD, CT], q⟩
theorem w_le {i j : Int} (q : Q (.bl (decide (i ≤ j))) H) : wE (leD (.int i) (.int j) H) Q := ⟨_, _, by simp [leD, iiD, CT], q⟩
theorem w_gt {i j : Int} (q : Q (.bl (decide (j < i))) H) : wE (gtD (.int i) (.int j) H) Q := ⟨_, _, by simp [gtD, iiD, CT], q⟩
theorem w_ge {i j : Int} (q : Q (.bl (decide (j ≤ i))) H) : wE (geD (.int i) (.int j) H) Q := ⟨_, _, by simp [geD, iiD, CT], q⟩
theorem w_mod {i j : Int} (h : 0 < j) (q : Q (.int (i % j)) H) : wE (modD (.int i) (.int j) H) Q := ⟨_, _, by have c : CPos i j := h; simp [modD, iiD, c], q⟩
theorem w_fdiv {i j : Int} (h : 0 < j) (h2 : j < 1073741824) (q : Q (.int (i / j)) H) : wE (fdivD (.int i) (.int j) H) Q := ⟨_, _, by have c : CDiv i j := ⟨h, h2⟩; simp [fdivD, iiD, c], q⟩
theorem w_mulL {i j : Int} (h1 : -(2 ^ 64) < i) (h2 : i < 2 ^ 64) (q : Q (.int (i * j)) H) : wE (mulD (.int i) (.int j) H) Q := ⟨_, _, by have c : CMul i j := .inl ⟨h1, h2⟩; simp [mulD, c], q⟩
theorem w_mulR {i j : Int} (h1 : -(2 ^ 64) < j) (h2 : j < 2 ^ 64) (q : Q (.int (i * j)) H) : wE (mulD (.int i) (.int j) H) Q := ⟨_, _, by have c : CMul i j := .inr ⟨h1, h2⟩; simp [mulD, c], q⟩
theorem w_pow {i j : Int} (h1 : 0 ≤ j) (h2 : j ≤ 1000000) (h3 : i.natAbs < 2 ^ 64) (q : Q (.int (i ^ j.toNat)) H) : wE (powD (.int i) (.int j) H) Q := ⟨_, _, by have c : CPow i j := ⟨h1, h2, h3⟩; simp [powD, iiD, c], q⟩
theorem w_neg {i : Int} (q : Q (.int (-i)) H) : wE (negD (.int i) H) Q := ⟨_, _, rfl, q⟩
theorem w_eqI {i j : Int} (q : Q (.bl (i == j)) H) : wE (eqD (.int i) (.int j) H) Q := ⟨_, _, eq_int _ _ _, q⟩
theorem w_eqS {a b : Str} (q : Q (.bl (a == b)) H) : wE (eqD (.str a) (.str b) H) Q := ⟨_, _, rfl, q⟩
theorem w_neS {a b : Str} (q : Q (.bl (a != b)) H) : wE (neD (.str a) (.str b) H) Q := ⟨_, _, rfl, q⟩
theorem w_lenT {xs : List D} (q : Q (.int xs.length) H) : wE (lenD [.tup xs] H) Q := ⟨_, _, lenT xs H, q⟩
theorem w_lenR {n : Nat} {xs : List D} (h : H[n]? = some (.lst xs)) (q : Q (.int xs.length) H) : wE (lenD [.ref n] H) Q := ⟨_, _, by simp [lenD, seqD, h], q⟩
theorem w_lenF {xs : List D} (q : Q (.int xs.length) H) : wE (lenD [.fl xs] H) Q := ⟨_, _, by simp [lenD, seqD], q⟩
theorem w_abs {i : Int} (q : Q (.int (absZ i)) H) : wE (absD [.int i] H) Q := ⟨_, _, rfl, q⟩
theorem w_ixT {xs : List D} {i : Int} {d : D} (h : atI xs i = some d) (q : Q d H) : wE (ixD (.tup xs) (.int i) H) Q := ⟨_, _, ixT h, q⟩
theorem w_ixR {n : Nat} {xs : List D} {i : Int} {d : D} (g : H[n]? = some (.lst xs)) (h : atI xs i = some d) (q : Q d H) : wE (ixD (.ref n) (.int i) H) Q := ⟨_, _, by simp [ixD, seqD, g, h], q⟩
theorem w_ixF {xs : List D} {i : Int} {d : D} (h : atI xs i = some d) (q : Q d H) : wE (ixD (.fl xs) (.int i) H) Q := ⟨_, _, by simp [ixD, seqD, h], q⟩
theorem w_intI {i : Int} (q : Q (.int i) H) : wE (intD [.int i] H) Q := ⟨_, _, rfl, q⟩
theorem w_intB {b : Bool} (q : Q (.int (if b then 1 else 0)) H) : wE (intD [.bl b] H) Q := ⟨_, _, rfl, q⟩
theorem w_max {i j : Int} (q : Q (.int (if j > i then j else i)) H) : wE (maxD [.int i, .int j] H) Q := ⟨_, _, rfl, q⟩
theorem w_min {i j : Int} (q : Q (.int (if j < i then j else i)) H) : wE (minD [.int i, .int j] H) Q := ⟨_, _, rfl, q⟩
theorem w_tupR {n : Nat} {xs : List D} (h : H[n]? = some (.lst xs)) (q : Q (.tup xs) H) : wE (tupleD [.ref n] H) Q := ⟨_, _, tu h, q⟩
theorem w_app {n : Nat} {xs : List D} {d : D} (h : H[n]? = some (.lst xs)) (hl : xs.length < 1000000) (q : Q .non (H.set n (.lst (xs ++ [d])))) : wE (appendD (.ref n) [d] H) Q :=
  ⟨_, _, by simp [appendD, h, Nat.lt_of_lt_of_le hl (size_ok (Nat.le_refl _))], q⟩
theorem w_isi {d : D} {c t : String} (ha : asked c = true) (h : tyD d H = some t) (q : Q (.bl (t == c || (t == "bool" && c == "int"))) H) : wE (isiD [d, .ty c] H) Q := ⟨_, _, by simp [isiD, ha, h], q⟩
theorem w_isN {d : D} {b : Bool} (h : isB d .non = some b) (q : Q (.bl b) H) : wE (isD d .non H) Q := ⟨_, _, by simp [isD, h], q⟩
theorem w_isnN {d : D} {b : Bool} (h : isB d .non = some b) (q : Q (.bl (!b)) H) : wE (isnD d .non H) Q := ⟨_, _, by simp [isnD, h], q⟩
theorem w_isBl {d : D} {c b : Bool} (h : isB d (.bl c) = some b) (q : Q (.bl b) H) : wE (isD d (.bl c) H) Q := ⟨_, _, by simp [isD, h], q⟩
theorem w_isnBl {d : D} {c b : Bool} (h : isB d (.bl c) = some b) (q : Q (.bl (!b)) H) : wE (isnD d (.bl c) H) Q := ⟨_, _, by simp [isnD, h], q⟩
theorem w_truB {b : Bool} {P : Bool → Prop} (h : P b) : ∃ c, truD (.bl b) H = some c ∧ P c := ⟨b, rfl, h⟩
theorem w_truT {xs : List D} {P : Bool → Prop} (h : P (!xs.isEmpty)) : ∃ c, truD (.tup xs) H = some c ∧ P c := ⟨_, rfl, h⟩
theorem w_truN {P : Bool → Prop} (h : P false) : ∃ c, truD .non H = some c ∧ P c := ⟨_, rfl, h⟩
theorem w_isi' {d : D} {c t : String} {r : Bool} (ha : asked c = true) (h : tyD d H = some t) (hr : (t == c || (t == "bool" && c == "int")) = r) (q : Q (.bl r) H) : wE (isiD [d, .ty c] H) Q := w_isi ha h (by rw [hr]; exact q)
theorem w_eqS' {a b : Str} {r : Bool} (hr : (a == b) = r) (q : Q (.bl r) H) : wE (eqD (.str a) (.str b) H) Q := w_eqS (by rw [hr]; exact q)
theorem w_neS' {a b : Str} {r : Bool} (hr : (a == b) = r) (q : Q (.bl (!r)) H) : wE (neD (.str a) (.str b) H) Q := w_neS (by rw [bne, hr]; exact q)
theorem w_eqI' {a b : Int} {r : Bool} (hr : (a == b) = r) (q : Q (.bl r) H) : wE (eqD (.int a) (.int b) H) Q := w_eqI (by rw [hr]; exact q)
theorem w_slhi {xs : List D} {k : Nat} (q : Q (.tup (xs.take k)) H) : wE (slD (.tup xs) none (some (k : Int)) H) Q := ⟨_, _, slhi, q⟩
theorem w_sllo {xs : List D} {k : Nat} (q : Q (.tup (xs.drop k)) H) : wE (slD (.tup xs) (some (k : Int)) none H) Q := ⟨_, _, sllo, q⟩
theorem w_sllo1 {xs : List D} {k : Nat} (q : Q (.tup (xs.drop (k + 1))) H) : wE (slD (.tup xs) (some ((k : Int) + 1)) none H) Q := ⟨_, _, sllo (k := k + 1), q⟩
variable {I : List D → OwnD → HD → Prop}
theorem w_isq {f : EF} (h : wE (f σ H) fun d H1 => ∃ xs own, itemsD d H1 = some (xs, own) ∧ I xs own H1) : wI (iSq f σ H) I := by
  obtain ⟨d, H1, e, xs, own, e2, q⟩ := h
  exact ⟨xs, own, H1, by unfold iSq; rw [e]; simp only [Option.bind_some]; rw [e2]; rfl, q⟩
theorem w_itT {xs : List D} {P : List D → OwnD → Prop} (h : P xs []) : ∃ ys own, itemsD (.tup xs) H = some (ys, own) ∧ P ys own := ⟨_, _, rfl, h⟩
theorem w_itF {xs : List D} {P : List D → OwnD → Prop} (h : P xs []) : ∃ ys own, itemsD (.fl xs) H = some (ys, own) ∧ P ys own := ⟨_, _, rfl, h⟩
theorem w_itR {n : Nat} {xs : List D} {P : List D → OwnD → Prop} (g : H[n]? = some (.lst xs)) (h : P xs [(n, .lst xs)]) : ∃ ys own, itemsD (.ref n) H = some (ys, own) ∧ P ys own := ⟨_, _, by simp [itemsD, g], h⟩
theorem w_ir1 {f : AF} (h : wA (f σ H) fun ds H1 => ∃ j, ds = [.int j] ∧ smallI j ∧ I (rangeL 0 j.toNat) [] H1) : wI (iR1 f σ H) I := by
  obtain ⟨ds, H1, e, j, rfl, s, q⟩ := h
  exact ⟨_, _, H1, by unfold iR1; rw [e]; exact if_pos s, q⟩
theorem w_ir2 {f : AF} (h : wA (f σ H) fun ds H1 => ∃ i j, ds = [.int i, .int j] ∧ smallI i ∧ smallI j ∧ I (rangeL i (j - i).toNat) [] H1) : wI (iR2 f σ H) I := by
  obtain ⟨ds, H1, e, i, j, rfl, s1, s2, q⟩ := h
  exact ⟨_, _, H1, by unfold iR2; rw [e]; exact if_pos ⟨s1, s2⟩, q⟩
theorem w_ir3 {f : AF} (h : wA (f σ H) fun ds H1 => ∃ i j c, ds = [.int i, .int j, .int c] ∧ small3 i j c ∧ I (rangeL3 i c (size3 i j c)) [] H1) : wI (iR3 f σ H) I := by
  obtain ⟨ds, H1, e, i, j, c, rfl, s1, q⟩ := h
  exact ⟨_, _, H1, by unfold iR3; rw [e]; exact if_pos s1, q⟩
theorem w_idic {f : EF} (h : wE (f σ H) fun d H1 => ∃ n kvs fz, d = .ref n ∧ H1[n]? = some (.dic kvs fz) ∧ I (kvs.map (·.1)) [(n, .dic kvs true)] (H1.set n (.dic kvs true))) : wI (iDic f σ H) I := by
  obtain ⟨d, H1, e, n, kvs, fz, rfl, g, q⟩ := h
  exact ⟨_, _, _, by unfold iDic; rw [e]; simp only [Option.bind_some, g], q⟩
theorem w_enum {f : AF} (h : wA (f σ H) fun ds H1 => ∃ xs, ds = [.tup xs] ∧ I (enumL 0 xs) [] H1) : wI (iEnum f σ H) I := by
  obtain ⟨ds, H1, e, xs, rfl, q⟩ := h
  exact ⟨_, _, H1, by unfold iEnum; rw [e]; rfl, q⟩
theorem w_enum1 {f : AF} (h : wA (f σ H) fun ds H1 => ∃ xs, ds = [.tup xs] ∧ I (enumL 1 xs) [] H1) : wI (iEnum1 f σ H) I := by
  obtain ⟨ds, H1, e, xs, rfl, q⟩ := h
  exact ⟨_, _, H1, by unfold iEnum1; rw [e]; rfl, q⟩
theorem w_zip {f : AF} (h : wA (f σ H) fun ds H1 => ∃ d1 d2 a b, ds = [d1, d2] ∧ srcD d1 H1 = some a ∧ srcD d2 H1 = some b ∧ I (zipL a.1 b.1) (a.2 ++ b.2) H1) : wI (iZipS f σ H) I := by
  obtain ⟨ds, H1, e, d1, d2, a, b, rfl, e1, e2, q⟩ := h
  exact ⟨_, _, H1, by unfold iZipS; rw [e]; simp only [Option.bind_some]; rw [e1]; simp only [Option.bind_some]; rw [e2]; rfl, q⟩
theorem w_fnil {own : OwnD} {g : GF} {b : SF} (h : okOwn own H) (q : R .nx σ H) : wS (forL own g b [] σ H) R := ⟨_, _, _, by rw [forL, if_pos h], q⟩
noncomputable def again (k : SD → HD → Prop) (R : FD → SD → HD → Prop) : FD → SD → HD → Prop
  | .nx, σ, H => k σ H
  | .ct, σ, H => k σ H
  | .bk, σ, H => R .nx σ H
  | .rt d, σ, H => R (.rt d) σ H
theorem w_fcons {own : OwnD} {g : GF} {b : SF} {x : D} {r : List D} (h : okOwn own H) (q : wG (g x σ H) fun σ1 H1 => wS (b σ1 H1) (again (fun σ2 H2 => wS (forL own g b r σ2 H2) R) R)) : wS (forL own g b (x :: r) σ H) R := by
  obtain ⟨σ1, H1, e1, y, σ2, H2, e2, q⟩ := q
  rw [forL, if_pos h, e1]
  simp only [Option.bind_some]
  rw [e2]
  cases y with
  | nx => exact q
  | ct => exact q
  | bk => exact ⟨_, _, _, rfl, q⟩
  | rt d => exact ⟨_, _, _, rfl, q⟩
theorem w_agn {k : SD → HD → Prop} (h : k σ H) : again k R .nx σ H := h
theorem w_agc {k : SD → HD → Prop} (h : k σ H) : again k R .ct σ H := h
theorem w_agb {k : SD → HD → Prop} (h : R .nx σ H) : again k R .bk σ H := h
theorem w_agr {k : SD → HD → Prop} {d : D} (h : R (.rt d) σ H) : again k R (.rt d) σ H := h
theorem w_loop {own : OwnD} {g : GF} {b : SF} (Inv : List D → List D → SD → HD → Prop) (ho : ∀ d t σ H, Inv d t σ H → okOwn own H)
    (st : ∀ d x t σ H, Inv d (x :: t) σ H → wG (g x σ H) fun σ1 H1 => wS (b σ1 H1) (again (fun σ2 H2 => Inv (d ++ [x]) t σ2 H2) R))
    (q : ∀ d σ H, Inv d [] σ H → R .nx σ H) : ∀ (t d : List D) (σ : SD) (H : HD), Inv d t σ H → wS (forL own g b t σ H) R
  | [], d, σ, H, i => w_fnil (ho _ _ _ _ i) (q d σ H i)
  | x :: t, d, σ, H, i => by
    refine w_fcons (ho _ _ _ _ i) ?_
    obtain ⟨σ1, H1, e1, y, σ2, H2, e2, k⟩ := st d x t σ H i
    refine ⟨σ1, H1, e1, y, σ2, H2, e2, ?_⟩
    cases y with
    | nx => exact w_loop Inv ho st q t _ σ2 H2 k
    | ct => exact w_loop Inv ho st q t _ σ2 H2 k
    | bk => exact k
    | rt d => exact k
theorem w_each {own : OwnD} {g : GF} {b : SF} (Inv : SD → HD → Prop) (ho : ∀ σ H, Inv σ H → okOwn own H) : ∀ (xs : List D) (st : ∀ x ∈ xs, ∀ σ H, Inv σ H → wG (g x σ H) fun σ1 H1 => wS (b σ1 H1) (again Inv R)) (σ : SD) (H : HD), Inv σ H → (∀ σ H, Inv σ H → R .nx σ H) → wS (forL own g b xs σ H) R
  | [], st, σ, H, i, q => w_fnil (ho _ _ i) (q σ H i)
  | x :: t, st, σ, H, i, q => by
    refine w_fcons (ho _ _ i) ?_
    obtain ⟨σ1, H1, e1, y, σ2, H2, e2, k⟩ := st x (by simp) σ H i
    refine ⟨σ1, H1, e1, y, σ2, H2, e2, ?_⟩
    cases y with
    | nx => exact w_each Inv ho t (fun z hz => st z (by simp [hz])) σ2 H2 k q
    | ct => exact w_each Inv ho t (fun z hz => st z (by simp [hz])) σ2 H2 k q
    | bk => exact k
    | rt d => exact k
theorem w_cnil {own : OwnD} {c0 : SD} {tt : TF} {te : EF} {Q : List D → HD → Prop} (h : okOwn own H) (q : Q [] H) : wA (compL own c0 tt te [] H) Q := ⟨_, _, by rw [compL, if_pos h], q⟩
theorem w_ccons {own : OwnD} {c0 : SD} {tt : TF} {te : EF} {x : D} {r : List D} {Q : List D → HD → Prop} (h : okOwn own H)
    (q : wT (tt (some x :: c0) H) fun b H1 => br b (wE (te (some x :: c0) H1) fun e H2 => wA (compL own c0 tt te r H2) fun es H3 => Q (e :: es) H3) (wA (compL own c0 tt te r H1) Q)) : wA (compL own c0 tt te (x :: r) H) Q := by
  obtain ⟨b, H1, e1, q1, q2⟩ := q
  rw [compL, if_pos h, e1]
  simp only [Option.bind_some]
  cases b with
  | true =>
    obtain ⟨e, H2, e2, es, H3, e3, q⟩ := q1 rfl
    exact ⟨e :: es, H3, by rw [if_pos rfl, e2]; simp only [Option.bind_some]; rw [e3]; rfl, q⟩
  | false => rw [if_neg (by simp)]; exact q2 rfl
theorem w_yes {Q : Bool → HD → Prop} (q : Q true H) : wT (tYes σ H) Q := ⟨_, _, rfl, q⟩
theorem w_cmap {own : OwnD} {c0 : SD} {te : EF} (g : D → D) (J : HD → Prop) (ho : ∀ H, J H → okOwn own H) {Q : List D → HD → Prop} : ∀ (xs : List D) (st : ∀ x ∈ xs, ∀ H, J H → wE (te (some x :: c0) H) fun d H1 => d = g x ∧ J H1) (H : HD), J H → (∀ H', J H' → Q (xs.map g) H') → wA (compL own c0 tYes te xs H) Q
  | [], st, H, j, q => w_cnil (ho H j) (q H j)
  | x :: xs, st, H, j, q => by
    refine w_ccons (ho H j) (w_yes (w_bt ?_))
    obtain ⟨b, H1, e, rfl, j1⟩ := st x (by simp) H j
    exact ⟨_, H1, e, w_cmap g J ho xs (fun y hy => st y (by simp [hy])) H1 j1 q⟩
end
structure Fm (S : List Nat) (H H' : HD) : Prop where
  old : ∀ (m : Nat) (o : DO), m ∉ S → H[m]? = some o → H'[m]? = some o ∨ ∃ kvs, o = .dic kvs false ∧ H'[m]? = some (.dic kvs true)
  len : H.length ≤ H'.length
theorem Fm.refl {S : List Nat} {H : HD} : Fm S H H := ⟨fun _ _ _ h => .inl h, Nat.le_refl _⟩
theorem Fm.trans {S : List Nat} {H H1 H2 : HD} (a : Fm S H H1) (b : Fm S H1 H2) : Fm S H H2 := by
  refine ⟨fun m o hm h => ?_, Nat.le_trans a.len b.len⟩
  rcases a.old m o hm h with h1 | ⟨kvs, rfl, h1⟩
  · exact b.old m o hm h1
  · rcases b.old m _ hm h1 with h2 | ⟨k2, e, _⟩
    · exact .inr ⟨kvs, rfl, h2⟩
    · cases e
theorem Fm.sub {S T : List Nat} {H H' : HD} (a : Fm S H H') (h : ∀ m ∈ S, m ∈ T) : Fm T H H' := ⟨fun m o hm q => a.old m o (fun z => hm (h m z)) q, a.len⟩
theorem Fm.app {S : List Nat} {H : HD} (L : HD) : Fm S H (H ++ L) := ⟨fun m o _ q => .inl (by
  have : m < H.length := (List.getElem?_eq_some_iff.mp q).1
  rw [List.getElem?_append_left this]; exact q), by simp⟩
theorem Fm.set {S : List Nat} {H : HD} {p : Nat} {o : DO} (h : p ∈ S) : Fm S H (H.set p o) := ⟨fun m u hm q => .inl (by rw [List.getElem?_set_ne (fun z => hm (by rw [← z]; exact h))]; exact q), by simp⟩
theorem Fm.new {S T : List Nat} {H H1 H' : HD} (a : Fm S H H1) (b : Fm T H1 H') (h : ∀ m ∈ T, m ∉ S → H.length ≤ m) : Fm S H H' := by
  refine ⟨fun m o hm q => ?_, Nat.le_trans a.len b.len⟩
  have lt : m < H.length := (List.getElem?_eq_some_iff.mp q).1
  have ht : m ∉ T := fun z => by have := h m z hm; omega
  rcases a.old m o hm q with h1 | ⟨kvs, rfl, h1⟩
  · exact b.old m o ht h1
  · rcases b.old m _ ht h1 with h2 | ⟨k2, e, _⟩
    · exact .inr ⟨kvs, rfl, h2⟩
    · cases e
theorem Fm.lst {S : List Nat} {H H' : HD} (x : Fm S H H') {m : Nat} {xs : List D} (hm : m ∉ S) (h : H[m]? = some (.lst xs)) : H'[m]? = some (.lst xs) := by
  rcases x.old m _ hm h with h1 | ⟨k2, e, _⟩
  · exact h1
  · cases e
theorem Fm.fr {S : List Nat} {H H' : HD} (x : Fm S H H') {m : Nat} {kvs : List (D × D)} (hm : m ∉ S) (h : H[m]? = some (.dic kvs true)) : H'[m]? = some (.dic kvs true) := by
  rcases x.old m _ hm h with h1 | ⟨k2, e, _⟩
  · exact h1
  · cases e
theorem Fm.dic {S : List Nat} {H H' : HD} (x : Fm S H H') {m : Nat} {kvs : List (D × D)} {fz : Bool} (hm : m ∉ S) (h : H[m]? = some (.dic kvs fz)) : ∃ fz', H'[m]? = some (.dic kvs fz') := by
  rcases x.old m _ hm h with h1 | ⟨k2, e, h1⟩
  · exact ⟨fz, h1⟩
  · cases e; exact ⟨true, h1⟩
theorem _root_.DL.Ext.fm {n : Nat} {H H' : HD} (x : Ext n H H') : Fm [n] H H' := ⟨fun m o hm q => .inl (x.old m o (by simpa using hm) q), x.len⟩
theorem _root_.LH.ExtS.fm {S : List Nat} {H H' : HD} (x : ExtS S H H') : Fm S H H' := ⟨fun m o hm q => .inl (x.old m o hm q), x.len⟩
theorem isl {H : HD} {n : Nat} {xs : List D} (h : H[n]? = some (.lst xs)) : isLst (.ref n) H = true := by simp [isLst, h]
theorem own1 {H : HD} {n : Nat} {o : DO} (h : H[n]? = some o) : okOwn [(n, o)] H := by intro p hp; simp at hp; subst hp; exact h
theorem tyR {H : HD} {n : Nat} {xs : List D} (h : H[n]? = some (.lst xs)) : tyD (.ref n) H = some "list" := by simp [tyD, h]
theorem own0 {H : HD} : okOwn [] H := by intro p hp; cases hp
theorem last {H : HD} {o : DO} : (H ++ [o])[H.length]? = some o := by simp
theorem appL {H : HD} {n : Nat} {o u : DO} (h : H[n]? = some o) : (H ++ [u])[n]? = some o := by
  rw [List.getElem?_append_left (List.getElem?_eq_some_iff.mp h).1]; exact h
theorem setS {H : HD} {n : Nat} {o u : DO} (h : H[n]? = some u) : (H.set n o)[n]? = some o := List.getElem?_set_self (List.getElem?_eq_some_iff.mp h).1
end WP
namespace WP
open PySem L2 DL LH
structure Fine (d : D) (x : PyData) (h : Nat) : Prop where
  to : ∀ H n, toP H n d = some x
  lay : x.canLay0 = true
  dep : x.depth ≤ h
theorem Fine.le {d : D} {x : PyData} {h h' : Nat} (f : Fine d x h) (l : h ≤ h') : Fine d x h' := ⟨f.to, f.lay, Nat.le_trans f.dep l⟩
theorem Fine.int (i : Int) : Fine (.int i) (.int i) 0 := ⟨fun H n => toP_int H n i, rfl, Nat.le_refl _⟩
theorem Fine.bl (b : Bool) : Fine (.bl b) (.bool b) 0 := ⟨fun H n => toP_bl H n b, rfl, Nat.le_refl _⟩
theorem Fine.non : Fine .non .none 0 := ⟨fun H n => toP_non H n, rfl, Nat.le_refl _⟩
theorem Fine.str {s : Str} (h : PyData.strOk s = true) : Fine (.str s) (.str s) 0 := ⟨fun H n => toP_str H n s, h, Nat.le_refl _⟩
structure Fines (ds : List D) (xs : List PyData) (h : Nat) : Prop where
  to : ∀ H n, toPs H n ds = some xs
  lay : PyData.canLayAll0 xs = true
  dep : PyData.depthAll xs ≤ h
  len : xs.length = ds.length
theorem Fines.nil {h : Nat} : Fines [] [] h := ⟨fun H n => by rw [toPs], rfl, Nat.zero_le _, rfl⟩
theorem Fines.cons {d : D} {x : PyData} {ds : List D} {xs : List PyData} {h : Nat} (a : Fine d x h) (b : Fines ds xs h) : Fines (d :: ds) (x :: xs) h :=
  ⟨fun H n => by rw [toPs, a.to, b.to]; rfl, by simp [PyData.canLayAll0, a.lay, b.lay], by simp only [PyData.depthAll]; exact Nat.max_le.mpr ⟨a.dep, b.dep⟩, by simp [b.len]⟩
theorem Fines.le {ds : List D} {xs : List PyData} {h h' : Nat} (f : Fines ds xs h) (l : h ≤ h') : Fines ds xs h' := ⟨f.to, f.lay, Nat.le_trans f.dep l, f.len⟩
theorem Fines.of {h : Nat} : ∀ ds : List D, (∀ d ∈ ds, ∃ x, Fine d x h) → ∃ xs, Fines ds xs h
  | [], _ => ⟨[], .nil⟩
  | d :: ds, f => by
    obtain ⟨x, a⟩ := f d (by simp)
    obtain ⟨xs, b⟩ := Fines.of ds fun e he => f e (by simp [he])
    exact ⟨x :: xs, .cons a b⟩
theorem Fine.tup {ds : List D} {xs : List PyData} {h : Nat} (f : Fines ds xs h) : Fine (.tup ds) (.tuple xs) (h + 1) :=
  ⟨fun H n => by cases n <;> rw [toP, f.to] <;> rfl, f.lay, Nat.succ_le_succ f.dep⟩
theorem Fine.dat {d : D} {x : PyData} {h : Nat} (f : Fine d x h) (l : h ≤ 30) (H : HD) : DL.dat d H = some x := by
  unfold DL.dat
  rw [f.to]
  have : x.depth ≤ 30 := Nat.le_trans f.dep l
  simp [okP, f.lay, this]
theorem Fines.dat {ds : List D} {xs : List PyData} {h : Nat} (f : Fines ds xs h) (l : h < 30) {H : HD} {p : Nat} (g : H[p]? = some (.lst ds)) : DL.dat (.ref p) H = some (.list xs) := by
  unfold DL.dat
  rw [toP]
  simp only [g]
  rw [f.to]
  have : (PyData.list xs).depth ≤ 30 := Nat.le_trans (Nat.succ_le_succ f.dep) l
  have h2 : (PyData.list xs).canLay0 = true := f.lay
  simp [okP, h2, this]
mutual
theorem eqv_refl : ∀ x : PyData, x.canLay0 = true → PyData.eqv x x = true
  | .none, _ => by simp [PyData.eqv]
  | .bool _, _ => by simp [PyData.eqv]
  | .int _, _ => by simp [PyData.eqv]
  | .str _, _ => by simp [PyData.eqv]
  | .list xs, h => by rw [PyData.eqv]; exact eqvAll_refl xs h
  | .tuple xs, h => by rw [PyData.eqv]; exact eqvAll_refl xs h
  | .dict _, h => by cases h
theorem eqvAll_refl : ∀ xs : List PyData, PyData.canLayAll0 xs = true → PyData.eqvAll xs xs = true
  | [], _ => by rw [PyData.eqvAll]
  | x :: xs, h => by
    simp only [PyData.canLayAll0, Bool.and_eq_true] at h
    rw [PyData.eqvAll, eqv_refl x h.1, eqvAll_refl xs h.2]; rfl
end
theorem neD_dat {a b : D} {x y : PyData} {H : HD} (h1 : dat a H = some x) (h2 : dat b H = some y) : neD a b H = some (.bl (!PyData.eqv x y), H) := by
  unfold neD
  cases e : twoS a b with
  | none => rw [h1, h2]; rfl
  | some p =>
    obtain ⟨s, t⟩ := p
    unfold twoS at e
    split at e
    · cases e
      unfold dat at h1 h2
      rw [toP_str] at h1 h2
      simp only [Option.bind_some] at h1 h2
      split at h1
      · split at h2
        · cases h1; cases h2; simp [PyData.eqv]; rfl
        · cases h2
      · cases h1
    · cases e
variable {H : HD} {Q : D → HD → Prop}
theorem w_neF {a b : D} {x y : PyData} {h k : Nat} (f : Fine a x h) (g : Fine b y k) (hh : h ≤ 30) (hk : k ≤ 30) (q : Q (.bl (!PyData.eqv x y)) H) : wE (neD a b H) Q := ⟨_, _, neD_dat (f.dat hh H) (g.dat hk H), q⟩
theorem w_neI {i j : Int} (q : Q (.bl (!(i == j))) H) : wE (neD (.int i) (.int j) H) Q := w_neF (.int i) (.int j) (by omega) (by omega) (by simpa [PyData.eqv] using q)
theorem w_neI' {i j : Int} {r : Bool} (hr : (i == j) = r) (q : Q (.bl (!r)) H) : wE (neD (.int i) (.int j) H) Q := w_neI (by rw [hr]; exact q)
end WP
set_option maxHeartbeats 8000000
namespace K08
open PySem L2 DL
noncomputable def k_KINDS : D := (.tup [(.str "all"), (.str "some")])
noncomputable def k_MOST_NAMES : D := (.int 200)
noncomputable def k_MOST_ROWS : D := (.int 600)
noncomputable def k_MOST_LITERALS : D := (.int 2)
noncomputable def b_is_whole : SF :=
  (sSeq (sRet (eAn (eCB isiD (aCons (eVar 0) (aCons (eC (.ty "int")) aNil))) (eNo (eCB isiD (aCons (eVar 0) (aCons (eC (.ty "bool")) aNil))))))
  sNil)
noncomputable def m_is_whole : FF := runB 1 1 b_is_whole
noncomputable def b_is_row : SF :=
  (sSeq (sIf (tNo (tTru (eCB isiD (aCons (eVar 1) (aCons (eC (.ty "tuple")) aNil))))) (sSeq (sRet (eC (.bl false)))
  sNil) sNil)
  (sSeq (sSet 2 (eC (.int 0)))
  (sSeq (sFor (iSq (eVar 1)) (gNm 3) (sSeq (sIf (tOrr (tNo (tTru (eCall 1 m_is_whole (aCons (eVar 3) aNil)))) (tOrr (tOf (eOp leD (eCB absD (aCons (eVar 3) aNil)) (eVar 2))) (tOf (eOp gtD (eCB absD (aCons (eVar 3) aNil)) (eVar 0))))) (sSeq (sRet (eC (.bl false)))
  sNil) sNil)
  (sSeq (sSet 2 (eCB absD (aCons (eVar 3) aNil)))
  sNil)))
  (sSeq (sRet (eC (.bl true)))
  sNil))))
noncomputable def m_is_row : FF := runB 2 4 b_is_row
noncomputable def b_is_kinds_of_pairs : SF :=
  (sSeq (sIf (tOrr (tNo (tTru (eCB isiD (aCons (eVar 0) (aCons (eC (.ty "tuple")) aNil))))) (tOf (eOp gtD (eCB lenD (aCons (eVar 0) aNil)) (eC k_MOST_NAMES)))) (sSeq (sRet (eC (.bl false)))
  sNil) sNil)
  (sSeq (sRet (eCB allD (aCons (eLC (iSq (eVar 0)) [] tYes (eOp inD (eVar 0) (eC k_KINDS))) aNil)))
  sNil))
noncomputable def m_is_kinds_of_pairs : FF := runB 1 1 b_is_kinds_of_pairs
noncomputable def b_is_rows_of_pairs : SF :=
  (sSeq (sIf (tOrr (tNo (tTru (eCB isiD (aCons (eVar 1) (aCons (eC (.ty "tuple")) aNil))))) (tOf (eOp gtD (eCB lenD (aCons (eVar 1) aNil)) (eC k_MOST_ROWS)))) (sSeq (sRet (eC (.bl false)))
  sNil) sNil)
  (sSeq (sRet (eCB allD (aCons (eLC (iSq (eVar 1)) [0] tYes (eAn (eCall 2 m_is_row (aCons (eVar 1) (aCons (eVar 0) aNil))) (eOp leD (eCB lenD (aCons (eVar 0) aNil)) (eC k_MOST_LITERALS)))) aNil)))
  sNil))
noncomputable def m_is_rows_of_pairs : FF := runB 2 2 b_is_rows_of_pairs
noncomputable def b_is_pairs : SF :=
  (sSeq (sIf (tOrr (tNo (tTru (eCB isiD (aCons (eVar 0) (aCons (eC (.ty "tuple")) aNil))))) (tOf (eOp neD (eCB lenD (aCons (eVar 0) aNil)) (eC (.int 2))))) (sSeq (sRet (eC (.bl false)))
  sNil) sNil)
  (sSeq (sRet (eAn (eCall 1 m_is_kinds_of_pairs (aCons (eOp ixD (eVar 0) (eC (.int 0))) aNil)) (eCall 2 m_is_rows_of_pairs (aCons (eCB lenD (aCons (eOp ixD (eVar 0) (eC (.int 0))) aNil)) (aCons (eOp ixD (eVar 0) (eC (.int 1))) aNil)))))
  sNil))
noncomputable def m_is_pairs : FF := runB 1 1 b_is_pairs
noncomputable def b_law_mix : SF :=
  (sSeq (sSet 2 (eOp ixD (eLst (aCons (eC (.int 2147483647)) (aCons (eC (.int 2147483629)) (aCons (eC (.int 2147483587)) (aCons (eC (.int 2147483579)) (aCons (eC (.int 2147483563)) (aCons (eC (.int 2147483549)) (aCons (eC (.int 2147483543)) aNil)))))))) (eOp modD (eVar 1) (eC (.int 7)))))
  (sSeq (sSet 3 (eOp modD (eOp mulD (eOp addD (eOp modD (eVar 0) (eC (.int 998244353))) (eOp mulD (eC (.int 104729)) (eOp addD (eVar 1) (eC (.int 1))))) (eOp addD (eOp addD (eOp mulD (eVar 1) (eVar 1)) (eOp mulD (eC (.int 7)) (eVar 1))) (eC (.int 13)))) (eVar 2)))
  (sSeq (sSet 3 (eOp modD (eOp powD (eVar 3) (eC (.int 5))) (eC (.int 1000000007))))
  (sSeq (sSet 3 (eOp modD (eOp addD (eOp addD (eOp mulD (eVar 3) (eC (.int 48271))) (eOp mulD (eC (.int 31)) (eVar 1))) (eC (.int 5))) (eVar 2)))
  (sSeq (sRet (eOp fdivD (eOp modD (eOp powD (eVar 3) (eC (.int 3))) (eC (.int 998244353))) (eC (.int 8))))
  sNil)))))
noncomputable def m_law_mix : FF := runB 2 4 b_law_mix
noncomputable def b_law_digits : SF :=
  (sSeq (sSet 2 (eLst aNil))
  (sSeq (sSet 3 (eCB absD (aCons (eVar 0) aNil)))
  (sSeq (sSet 4 (eOp geD (eVar 3) (eOp powD (eC (.int 10)) (eC (.int 18)))))
  (sSeq (sFor (iR1 (aCons (eVar 1) aNil)) (gNm 5) (sSeq (sIf (tAn (tTru (eVar 4)) (tOf (eOp gtD (eVar 3) (eC (.int 0))))) (sSeq (sExpr (eLM appendD (eVar 2) (aCons (eOp modD (eVar 3) (eC (.int 10007))) aNil)))
  (sSeq (sSet 3 (eOp fdivD (eVar 3) (eC (.int 10007))))
  sNil)) (sSeq (sExpr (eLM appendD (eVar 2) (aCons (eCall 2 m_law_mix (aCons (eVar 0) (aCons (eVar 5) aNil))) aNil)))
  sNil))
  sNil))
  (sSeq (sRet (eVar 2))
  sNil)))))
noncomputable def m_law_digits : FF := runB 2 6 b_law_digits
noncomputable def b_law_at : SF :=
  (sSeq (sIf (tOf (eOp ltD (eVar 1) (eCB lenD (aCons (eVar 0) aNil)))) (sSeq (sRet (eOp ixD (eVar 0) (eVar 1)))
  sNil) sNil)
  (sSeq (sRet (eOp addD (eOp addD (eOp mulD (eC (.int 67)) (eVar 1)) (eC (.int 19))) (eCB lenD (aCons (eVar 0) aNil))))
  sNil))
noncomputable def m_law_at : FF := runB 2 2 b_law_at
noncomputable def b_law_kinds : SF :=
  (sSeq (sSet 2 (eLst aNil))
  (sSeq (sFor (iR1 (aCons (eVar 1) aNil)) (gNm 3) (sSeq (sSet 4 (eOp ixD (eLst (aCons (eC (.str "all")) (aCons (eC (.str "some")) aNil))) (eOp modD (eOp ixD (eVar 0) (eOp addD (eC (.int 1)) (eVar 3))) (eC (.int 2)))))
  (sSeq (sIf (tOf (eOp eqD (eOp modD (eOp ixD (eVar 0) (eC (.int 0))) (eC (.int 4))) (eC (.int 1)))) (sSeq (sSet 4 (eOp ixD (eLst (aCons (eC (.str "some")) (aCons (eC (.str "all")) aNil))) (eOp modD (eOp addD (eVar 3) (eOp ixD (eVar 0) (eC (.int 1)))) (eC (.int 2)))))
  sNil) sNil)
  (sSeq (sIf (tOf (eOp eqD (eOp modD (eOp ixD (eVar 0) (eC (.int 0))) (eC (.int 4))) (eC (.int 2)))) (sSeq (sSet 4 (eOp ixD (eLst (aCons (eC (.str "all")) (aCons (eC (.str "some")) aNil))) (eCB intD (aCons (eOp gtD (eOp modD (eOp ixD (eVar 0) (eOp addD (eC (.int 1)) (eVar 3))) (eC (.int 3))) (eC (.int 0))) aNil))))
  sNil) sNil)
  (sSeq (sExpr (eLM appendD (eVar 2) (aCons (eVar 4) aNil)))
  sNil)))))
  (sSeq (sRet (eCB tupleD (aCons (eVar 2) aNil)))
  sNil)))
noncomputable def m_law_kinds : FF := runB 2 5 b_law_kinds
noncomputable def b_law_pair : SF :=
  (sSeq (sSet 2 (eOp addD (eC (.int 1)) (eOp modD (eOp ixD (eVar 0) (eC (.int 0))) (eVar 1))))
  (sSeq (sSet 3 (eOp addD (eC (.int 1)) (eOp modD (eOp ixD (eVar 0) (eC (.int 1))) (eVar 1))))
  (sSeq (sIf (tOf (eOp eqD (eVar 2) (eVar 3))) (sSeq (sRet (eTup (aCons (eOp mulD (eVar 2) (eOp ixD (eLst (aCons (eUn negD (eC (.int 1))) (aCons (eC (.int 1)) aNil))) (eOp modD (eOp ixD (eVar 0) (eC (.int 2))) (eC (.int 2))))) aNil)))
  sNil) sNil)
  (sSeq (sAsg (eCB sortedD (aCons (eLst (aCons (eVar 2) (aCons (eVar 3) aNil))) aNil)) (gTl 2 (gCn (gNm 4) (gCn (gNm 5) gNl))))
  (sSeq (sRet (eTup (aCons (eOp mulD (eVar 4) (eOp ixD (eLst (aCons (eUn negD (eC (.int 1))) (aCons (eC (.int 1)) aNil))) (eOp modD (eOp ixD (eVar 0) (eC (.int 2))) (eC (.int 2))))) (aCons (eOp mulD (eVar 5) (eOp ixD (eLst (aCons (eUn negD (eC (.int 1))) (aCons (eC (.int 1)) aNil))) (eOp modD (eOp ixD (eVar 0) (eC (.int 3))) (eC (.int 2))))) aNil))))
  sNil)))))
noncomputable def m_law_pair : FF := runB 2 6 b_law_pair
noncomputable def b_law_pairs : SF :=
  (sSeq (sSet 3 (eCall 2 m_law_digits (aCons (eCall 2 m_law_at (aCons (eVar 0) (aCons (eC (.int 0)) aNil))) (aCons (eC (.int 14)) aNil))))
  (sSeq (sSet 4 (eOp addD (eC (.int 1)) (eOp modD (eOp ixD (eVar 3) (eC (.int 0))) (eVar 1))))
  (sSeq (sSet 5 (eCall 2 m_law_kinds (aCons (eOp addD (eOp addD (eSl (eVar 3) (oSome (eC (.int 2))) oNone) (eLC (iSq (eVar 3)) [] tYes (eOp fdivD (eVar 0) (eC (.int 2))))) (eVar 3)) (aCons (eVar 4) aNil))))
  (sSeq (sSet 6 (eLst aNil))
  (sSeq (sFor (iR1 (aCons (eOp modD (eOp ixD (eVar 3) (eC (.int 1))) (eOp addD (eVar 2) (eC (.int 1)))) aNil)) (gNm 7) (sSeq (sExpr (eLM appendD (eVar 6) (aCons (eCall 2 m_law_pair (aCons (eSl (eCall 2 m_law_digits (aCons (eCall 2 m_law_at (aCons (eVar 0) (aCons (eOp addD (eC (.int 1)) (eVar 7)) aNil))) (aCons (eC (.int 14)) aNil))) (oSome (eC (.int 10))) oNone) (aCons (eVar 4) aNil))) aNil)))
  sNil))
  (sSeq (sIf (tOf (eOp eqD (eOp modD (eOp ixD (eVar 3) (eC (.int 13))) (eC (.int 16))) (eC (.int 0)))) (sSeq (sExpr (eLM insertD (eVar 6) (aCons (eOp modD (eOp ixD (eVar 3) (eC (.int 12))) (eOp addD (eCB lenD (aCons (eVar 6) aNil)) (eC (.int 1)))) (aCons (eTup aNil) aNil))))
  sNil) sNil)
  (sSeq (sRet (eTup (aCons (eVar 5) (aCons (eCB tupleD (aCons (eVar 6) aNil)) aNil))))
  sNil)))))))
noncomputable def m_law_pairs : FF := runB 3 8 b_law_pairs
noncomputable def b_law_bad_row : SF :=
  (sSeq (sSet 2 (eOp addD (eC (.int 1)) (eOp modD (eOp ixD (eVar 1) (eC (.int 0))) (eVar 0))))
  (sSeq (sSet 3 (eLst (aCons (eTup (aCons (eVar 2) (aCons (eVar 2) aNil))) (aCons (eTup (aCons (eUn negD (eVar 2)) (aCons (eVar 2) aNil))) (aCons (eTup (aCons (eOp addD (eVar 0) (eC (.int 1))) aNil)) (aCons (eTup (aCons (eC (.int 0)) aNil)) (aCons (eTup (aCons (eC (.bl true)) aNil)) (aCons (eTup (aCons (eC (.str "1")) aNil)) (aCons (eLst (aCons (eVar 2) aNil)) (aCons (eC .non) (aCons (eVar 2) (aCons (eTup (aCons (eVar 2) (aCons (eC .non) aNil))) aNil))))))))))))
  (sSeq (sSet 3 (eOp addD (eVar 3) (eLst (aCons (eTup (aCons (eVar 2) (aCons (eC (.int 0)) aNil))) (aCons (eTup (aCons (eC (.int 1)) (aCons (eC (.int 2)) (aCons (eC (.int 3)) aNil)))) (aCons (eTup (aCons (eLst (aCons (eVar 2) aNil)) aNil)) (aCons (eLst (aCons (eLst (aCons (eVar 2) aNil)) aNil)) aNil)))))))
  (sSeq (sSet 3 (eOp addD (eVar 3) (eLst (aCons (eTup (aCons (eUn negD (eVar 2)) (aCons (eUn negD (eC (.int 1))) aNil))) (aCons (eTup (aCons (eOp subD (eOp subD (eC (.int 0)) (eVar 0)) (eC (.int 1))) aNil)) (aCons (eTup (aCons (eVar 2) (aCons (eOp addD (eVar 0) (eC (.int 1))) aNil))) (aCons (eTup (aCons (eOp powD (eC (.int 10)) (eC (.int 20))) aNil)) (aCons (eTup (aCons (eTup (aCons (eVar 2) aNil)) aNil)) (aCons (eC (.str "1")) aNil)))))))))
  (sSeq (sIf (tOf (eOp gtD (eVar 0) (eC (.int 1)))) (sSeq (sSet 3 (eOp addD (eVar 3) (eLst (aCons (eTup (aCons (eVar 0) (aCons (eC (.int 1)) aNil))) (aCons (eTup (aCons (eC (.int 2)) (aCons (eUn negD (eC (.int 1))) aNil))) (aCons (eTup (aCons (eUn negD (eVar 0)) (aCons (eC (.int 1)) aNil))) (aCons (eTup (aCons (eC (.int 1)) (aCons (eVar 0) (aCons (eVar 0) aNil)))) (aCons (eTup (aCons (eC (.int 1)) (aCons (eUn negD (eC (.int 1))) aNil))) (aCons (eTup (aCons (eC (.int 0)) (aCons (eVar 0) aNil))) (aCons (eTup (aCons (eC (.bl true)) (aCons (eVar 0) aNil))) aNil))))))))))
  (sSeq (sSet 3 (eOp addD (eVar 3) (eLst (aCons (eTup (aCons (eC .non) (aCons (eVar 0) aNil))) (aCons (eTup (aCons (eC (.str "1")) (aCons (eVar 0) aNil))) (aCons (eTup (aCons (eLst (aCons (eVar 2) aNil)) (aCons (eVar 0) aNil))) (aCons (eTup (aCons (eTup (aCons (eVar 2) aNil)) (aCons (eVar 0) aNil))) aNil)))))))
  sNil)) sNil)
  (sSeq (sRet (eOp ixD (eVar 3) (eOp modD (eOp ixD (eVar 1) (eC (.int 1))) (eCB lenD (aCons (eVar 3) aNil)))))
  sNil))))))
noncomputable def m_law_bad_row : FF := runB 2 4 b_law_bad_row
noncomputable def b_law_spoilt : SF :=
  (sSeq (sAsg (eVar 0) (gTp 2 (gCn (gNm 6) (gCn (gNm 7) gNl))))
  (sSeq (sSet 2 (eOp modD (eOp ixD (eVar 1) (eC (.int 0))) (eOp addD (eCB lenD (aCons (eVar 7) aNil)) (eC (.int 1)))))
  (sSeq (sIf (tOf (eOp eqD (eOp modD (eOp ixD (eVar 1) (eC (.int 1))) (eC (.int 2))) (eC (.int 0)))) (sSeq (sRet (eTup (aCons (eVar 6) (aCons (eOp addD (eOp addD (eSl (eVar 7) oNone (oSome (eVar 2))) (eTup (aCons (eCall 2 m_law_bad_row (aCons (eCB lenD (aCons (eVar 6) aNil)) (aCons (eSl (eVar 1) (oSome (eC (.int 2))) oNone) aNil))) aNil))) (eSl (eVar 7) (oSome (eVar 2)) oNone)) aNil))))
  sNil) sNil)
  (sSeq (sSet 2 (eOp modD (eOp ixD (eVar 1) (eC (.int 0))) (eCB lenD (aCons (eVar 6) aNil))))
  (sSeq (sSet 3 (eLst (aCons (eC (.str "All")) (aCons (eC (.str "none")) (aCons (eC (.str "")) (aCons (eC .non) (aCons (eC (.int 1)) (aCons (eC (.bl true)) (aCons (eTup (aCons (eC (.str "all")) aNil)) (aCons (eC (.str "some ")) (aCons (eLst (aCons (eC (.str "all")) aNil)) (aCons (eC (.str "alls")) (aCons (eC (.str " all")) (aCons (eC (.str "all\n")) (aCons (eC (.str "	some")) (aCons (eC (.str "so")) (aCons (eC (.str "ome")) aNil)))))))))))))))))
  (sSeq (sSet 4 (eOp ixD (eOp addD (eVar 3) (eLst (aCons (eC (.str "al")) (aCons (eC (.str "ALL")) (aCons (eC (.str "all some")) (aCons (eC (.str "someall")) aNil)))))) (eOp modD (eOp ixD (eVar 1) (eC (.int 2))) (eC (.int 19)))))
  (sSeq (sSet 5 (eLst (aCons (eTup (aCons (eOp addD (eOp addD (eSl (eVar 6) oNone (oSome (eVar 2))) (eTup (aCons (eVar 4) aNil))) (eSl (eVar 6) (oSome (eOp addD (eVar 2) (eC (.int 1)))) oNone)) (aCons (eTup aNil) aNil))) (aCons (eTup (aCons (eCB listD (aCons (eVar 6) aNil)) (aCons (eVar 7) aNil))) (aCons (eTup (aCons (eVar 6) (aCons (eCB listD (aCons (eVar 7) aNil)) aNil))) (aCons (eLst (aCons (eVar 6) (aCons (eVar 7) aNil))) aNil))))))
  (sSeq (sSet 5 (eOp addD (eVar 5) (eLst (aCons (eTup (aCons (eVar 6) aNil)) (aCons (eTup (aCons (eVar 6) (aCons (eVar 7) (aCons (eTup aNil) aNil)))) (aCons (eTup (aCons (eOp mulD (eTup (aCons (eC (.str "all")) aNil)) (eC (.int 201))) (aCons (eTup aNil) aNil))) (aCons (eTup (aCons (eVar 6) (aCons (eOp mulD (eTup (aCons (eTup (aCons (eC (.int 1)) aNil)) aNil)) (eC (.int 601))) aNil))) (aCons (eC .non) (aCons (eVar 6) (aCons (eC (.str "claim")) aNil))))))))))
  (sSeq (sSet 5 (eOp addD (eVar 5) (eLst (aCons (eTup (aCons (eVar 7) (aCons (eOp addD (eVar 6) (eTup (aCons (eC (.str "all")) aNil))) aNil))) (aCons (eTup (aCons (eC .non) (aCons (eVar 7) aNil))) (aCons (eTup (aCons (eVar 6) (aCons (eC .non) aNil))) (aCons (eC (.int 7)) (aCons (eTup aNil) aNil))))))))
  (sSeq (sSet 5 (eOp addD (eVar 5) (eLst (aCons (eTup (aCons (eOp mulD (eTup (aCons (eC (.str "some")) aNil)) (eOp addD (eC (.int 202)) (eOp modD (eOp ixD (eVar 1) (eC (.int 4))) (eC (.int 99))))) (aCons (eTup aNil) aNil))) (aCons (eTup (aCons (eVar 6) (aCons (eOp mulD (eTup (aCons (eTup (aCons (eC (.int 1)) aNil)) aNil)) (eOp addD (eC (.int 602)) (eOp modD (eOp ixD (eVar 1) (eC (.int 4))) (eC (.int 299))))) aNil))) aNil)))))
  (sSeq (sRet (eOp ixD (eVar 5) (eOp modD (eOp ixD (eVar 1) (eC (.int 3))) (eC (.int 18)))))
  sNil)))))))))))
noncomputable def m_law_spoilt : FF := runB 2 8 b_law_spoilt
noncomputable def b_law_spoilt_twice : SF :=
  (sSeq (sAsg (eVar 0) (gTp 2 (gCn (gNm 4) (gCn (gNm 2) gNl))))
  (sSeq (sSet 2 (eOp addD (eVar 2) (eTup (aCons (eCall 2 m_law_bad_row (aCons (eCB lenD (aCons (eVar 4) aNil)) (aCons (eVar 1) aNil))) aNil))))
  (sSeq (sIf (tOf (eOp eqD (eOp modD (eOp ixD (eVar 1) (eC (.int 2))) (eC (.int 2))) (eC (.int 0)))) (sSeq (sRet (eTup (aCons (eOp addD (eSl (eVar 4) oNone (oSome (eUn negD (eC (.int 1))))) (eTup (aCons (eOp ixD (eLst (aCons (eC (.str "All")) (aCons (eC (.str "none")) (aCons (eC .non) (aCons (eC (.int 1)) (aCons (eC (.str "alls")) aNil)))))) (eOp modD (eOp ixD (eVar 1) (eC (.int 3))) (eC (.int 5)))) aNil))) (aCons (eVar 2) aNil))))
  sNil) sNil)
  (sSeq (sSet 3 (eOp modD (eOp ixD (eVar 1) (eC (.int 3))) (eCB lenD (aCons (eVar 2) aNil))))
  (sSeq (sRet (eTup (aCons (eVar 4) (aCons (eOp addD (eOp addD (eSl (eVar 2) oNone (oSome (eVar 3))) (eTup (aCons (eCall 2 m_law_bad_row (aCons (eCB lenD (aCons (eVar 4) aNil)) (aCons (eSl (eVar 1) (oSome (eC (.int 4))) oNone) aNil))) aNil))) (eSl (eVar 2) (oSome (eVar 3)) oNone)) aNil))))
  sNil)))))
noncomputable def m_law_spoilt_twice : FF := runB 2 5 b_law_spoilt_twice
noncomputable def b_law : SF :=
  (sSeq (sSet 1 (eCall 3 m_law_pairs (aCons (eVar 0) (aCons (eC (.int 20)) (aCons (eC (.int 30)) aNil)))))
  (sSeq (sIf (tOf (eOp isnD (eCall 1 m_is_pairs (aCons (eVar 1) aNil)) (eC (.bl true)))) (sSeq (sRet (eC (.bl false)))
  sNil) sNil)
  (sSeq (sFor (iR1 (aCons (eC (.int 6)) aNil)) (gNm 2) (sSeq (sSet 3 (eSl (eCall 2 m_law_digits (aCons (eCall 2 m_law_at (aCons (eVar 0) (aCons (eVar 2) aNil))) (aCons (eC (.int 24)) aNil))) (oSome (eC (.int 16))) oNone))
  (sSeq (sFor (iSq (eLst (aCons (eCall 2 m_law_spoilt (aCons (eVar 1) (aCons (eVar 3) aNil))) (aCons (eCall 2 m_law_spoilt_twice (aCons (eVar 1) (aCons (eVar 3) aNil))) aNil)))) (gNm 4) (sSeq (sSet 11 (eCB reprD (aCons (eVar 4) aNil)))
  (sSeq (sIf (tOrr (tOf (eOp isnD (eCall 1 m_is_pairs (aCons (eVar 4) aNil)) (eC (.bl false)))) (tOf (eOp neD (eCB reprD (aCons (eVar 4) aNil)) (eVar 11)))) (sSeq (sRet (eC (.bl false)))
  sNil) sNil)
  sNil)))
  sNil)))
  (sSeq (sIf (tOf (eOp eqD (eOp modD (eCall 2 m_law_at (aCons (eVar 0) (aCons (eC (.int 0)) aNil))) (eC (.int 8))) (eC (.int 3)))) (sSeq (sSet 3 (eSl (eCall 2 m_law_digits (aCons (eCall 2 m_law_at (aCons (eVar 0) (aCons (eC (.int 1)) aNil))) (aCons (eC (.int 30)) aNil))) (oSome (eC (.int 20))) oNone))
  (sSeq (sSet 5 (eOp mulD (eTup (aCons (eC (.str "some")) (aCons (eC (.str "all")) aNil))) (eC (.int 100))))
  (sSeq (sSet 6 (eCB tupleD (aCons (eLC (iR1 (aCons (eC (.int 600)) aNil)) [] tYes (eTup (aCons (eOp addD (eC (.int 1)) (eOp modD (eVar 0) (eC (.int 199)))) (aCons (eC (.int 200)) aNil)))) aNil)))
  (sSeq (sIf (tOf (eOp isnD (eCall 1 m_is_pairs (aCons (eTup (aCons (eVar 5) (aCons (eVar 6) aNil))) aNil)) (eC (.bl true)))) (sSeq (sRet (eC (.bl false)))
  sNil) sNil)
  (sSeq (sSet 7 (eOp modD (eOp ixD (eVar 3) (eC (.int 0))) (eC (.int 600))))
  (sSeq (sSet 8 (eCall 2 m_law_bad_row (aCons (eC (.int 200)) (aCons (eSl (eVar 3) (oSome (eC (.int 1))) oNone) aNil))))
  (sSeq (sSet 9 (eTup (aCons (eVar 5) (aCons (eOp addD (eOp addD (eSl (eVar 6) oNone (oSome (eVar 7))) (eTup (aCons (eVar 8) aNil))) (eSl (eVar 6) (oSome (eOp addD (eVar 7) (eC (.int 1)))) oNone)) aNil))))
  (sSeq (sIf (tOf (eOp isnD (eCall 1 m_is_pairs (aCons (eVar 9) aNil)) (eC (.bl false)))) (sSeq (sRet (eC (.bl false)))
  sNil) sNil)
  (sSeq (sSet 7 (eOp modD (eOp ixD (eVar 3) (eC (.int 3))) (eC (.int 200))))
  (sSeq (sSet 10 (eOp ixD (eLst (aCons (eC (.str "All")) (aCons (eC (.str "none")) (aCons (eC (.str "")) (aCons (eC .non) (aCons (eC (.bl true)) (aCons (eC (.str "alls")) aNil))))))) (eOp modD (eOp ixD (eVar 3) (eC (.int 4))) (eC (.int 6)))))
  (sSeq (sSet 9 (eTup (aCons (eOp addD (eOp addD (eSl (eVar 5) oNone (oSome (eVar 7))) (eTup (aCons (eVar 10) aNil))) (eSl (eVar 5) (oSome (eOp addD (eVar 7) (eC (.int 1)))) oNone)) (aCons (eVar 6) aNil))))
  (sSeq (sIf (tOf (eOp isnD (eCall 1 m_is_pairs (aCons (eVar 9) aNil)) (eC (.bl false)))) (sSeq (sRet (eC (.bl false)))
  sNil) sNil)
  sNil)))))))))))) sNil)
  (sSeq (sRet (eAn (eOp isD (eCall 1 m_is_pairs (aCons (eTup (aCons (eTup aNil) (aCons (eTup aNil) aNil))) aNil)) (eC (.bl true))) (eOp isD (eCall 1 m_is_pairs (aCons (eTup (aCons (eTup aNil) (aCons (eTup (aCons (eTup aNil) aNil)) aNil))) aNil)) (eC (.bl true)))))
  sNil)))))
noncomputable def m_law : FF := runB 1 12 b_law
end K08
set_option maxHeartbeats 4000000
namespace K08
open PySem L2 DL LH WP
structure Shs (xs : List PyData) (w dp : Nat) : Prop where
  lay : PyData.canLayAll0 xs = true
  sh : PyData.showableAll xs = true
  dep : PyData.depthAll xs ≤ dp
  lv : PyData.leavesShortAll 40 xs = true
  wt : PyData.weightAll xs ≤ w
noncomputable def T (S : List Nat) (H : HD) (k w : Nat) (d : D) : Prop := ∃ x, (∀ H', Fm S H H' → ∀ m, k ≤ m → toP H' m d = some x) ∧ Sh x w k
noncomputable def Ts (S : List Nat) (H : HD) (k w : Nat) (ds : List D) : Prop := ∃ xs, (∀ H', Fm S H H' → ∀ m, k ≤ m → toPs H' m ds = some xs) ∧ Shs xs w k ∧ ds.length ≤ w
section
variable {S : List Nat} {H : HD} {k w : Nat} {d : D} {ds : List D}
theorem T.of (h : Showy d w k) : T S H k w d := by
  obtain ⟨x, e, s⟩ := h
  exact ⟨x, fun H' _ m _ => e H' m, s⟩
theorem T.le {k' w' : Nat} (h : T S H k w d) (hk : k ≤ k') (hw : w ≤ w') : T S H k' w' d := by
  obtain ⟨x, e, s⟩ := h
  exact ⟨x, fun H' y m hm => e H' y m (Nat.le_trans hk hm), s.lay, s.sh, Nat.le_trans s.dep hk, s.lv, Nat.le_trans s.wt hw⟩
theorem Ts.le {k' w' : Nat} (h : Ts S H k w ds) (hk : k ≤ k') (hw : w ≤ w') : Ts S H k' w' ds := by
  obtain ⟨x, e, s, l⟩ := h
  exact ⟨x, fun H' y m hm => e H' y m (Nat.le_trans hk hm), ⟨s.lay, s.sh, Nat.le_trans s.dep hk, s.lv, Nat.le_trans s.wt hw⟩, Nat.le_trans l hw⟩
theorem T.fm {H1 : HD} (h : T S H k w d) (y : Fm S H H1) : T S H1 k w d := by
  obtain ⟨x, e, s⟩ := h
  exact ⟨x, fun H' z m hm => e H' (y.trans z) m hm, s⟩
theorem T.fm0 {H1 : HD} (h : T S H k w d) (y : Fm [] H H1) : T S H1 k w d := h.fm (y.sub (by simp))
theorem Ts.fm {H1 : HD} (h : Ts S H k w ds) (y : Fm S H H1) : Ts S H1 k w ds := by
  obtain ⟨x, e, s, l⟩ := h
  exact ⟨x, fun H' z m hm => e H' (y.trans z) m hm, s, l⟩
theorem T.fmn {n : Nat} {H1 : HD} (nS : n ∈ S) (h : T S H k w d) (y : Fm [n] H H1) : T S H1 k w d := h.fm (y.sub (by simpa using nS))
theorem Ts.fmn {n : Nat} {H1 : HD} (nS : n ∈ S) (h : Ts S H k w ds) (y : Fm [n] H H1) : Ts S H1 k w ds := h.fm (y.sub (by simpa using nS))
theorem Ts.nil : Ts S H k w [] := ⟨[], fun H' _ m _ => by rw [toPs], ⟨rfl, rfl, Nat.zero_le _, rfl, Nat.zero_le _⟩, Nat.zero_le _⟩
theorem Ts.cons {W : Nat} (a : T S H k w d) (b : Ts S H k W ds) : Ts S H k (w + W + 1) (d :: ds) := by
  obtain ⟨x, e1, s⟩ := a
  obtain ⟨xs, e2, s2, l⟩ := b
  refine ⟨x :: xs, fun H' y m hm => by rw [toPs, e1 H' y m hm, e2 H' y m hm]; rfl, ⟨?_, ?_, ?_, ?_, ?_⟩, by simp; omega⟩
  · simp [PyData.canLayAll0, s.lay, s2.lay]
  · simp [PyData.showableAll, s.sh, s2.sh]
  · simp only [PyData.depthAll]; exact Nat.max_le.mpr ⟨s.dep, s2.dep⟩
  · simp [PyData.leavesShortAll, s.lv, s2.lv]
  · simp only [PyData.weightAll]
    have := s.wt
    have := s2.wt
    omega
theorem toPs_two {H : HD} {m : Nat} {d : D} {ds : List D} {xs : List PyData} (h : toPs H m (d :: ds) = some xs) : ∃ x qs, toP H m d = some x ∧ toPs H m ds = some qs ∧ xs = x :: qs := by
  rw [toPs] at h
  obtain ⟨x, e1, h⟩ := Option.bind_eq_some_iff.mp h
  obtain ⟨qs, e2, rfl⟩ := Option.map_eq_some_iff.mp h
  exact ⟨x, qs, e1, e2, rfl⟩
theorem toPs_len {H : HD} {m : Nat} : ∀ {ds : List D} {xs : List PyData}, toPs H m ds = some xs → xs.length = ds.length
  | [], xs, h => by rw [toPs] at h; cases h; rfl
  | d :: ds, xs, h => by
    obtain ⟨x, qs, _, e2, rfl⟩ := toPs_two h
    simp [toPs_len e2]
theorem weight_len : ∀ xs : List PyData, xs.length ≤ PyData.weightAll xs
  | [] => Nat.zero_le _
  | x :: xs => by
    simp only [PyData.weightAll, List.length_cons]
    have := weight_len xs
    omega
theorem Ts.two (h : Ts S H k w (d :: ds)) : ∃ a b, T S H k a d ∧ Ts S H k b ds ∧ a + b + 1 ≤ w := by
  obtain ⟨xs, e, s, l⟩ := h
  obtain ⟨x, qs, e1, e2, rfl⟩ := toPs_two (e H Fm.refl k (Nat.le_refl _))
  have lay := s.lay
  have sh := s.sh
  have dep := s.dep
  have lv := s.lv
  have wt := s.wt
  simp only [PyData.canLayAll0, Bool.and_eq_true] at lay
  simp only [PyData.showableAll, Bool.and_eq_true] at sh
  simp only [PyData.depthAll] at dep
  simp only [PyData.leavesShortAll, Bool.and_eq_true] at lv
  simp only [PyData.weightAll] at wt
  have at_ : ∀ H', Fm S H H' → ∀ m, k ≤ m → toP H' m d = some x ∧ toPs H' m ds = some qs := fun H' y m hm => by
    obtain ⟨x', qs', e3, e4, e5⟩ := toPs_two (e H' y m hm)
    cases e5
    exact ⟨e3, e4⟩
  have ll := toPs_len e2
  have wl := weight_len qs
  refine ⟨x.weight, PyData.weightAll qs, ⟨x, fun H' y m hm => (at_ H' y m hm).1, lay.1, sh.1, by omega, lv.1, Nat.le_refl _⟩, ⟨qs, fun H' y m hm => (at_ H' y m hm).2, ⟨lay.2, sh.2, by omega, lv.2, Nat.le_refl _⟩, by omega⟩, by omega⟩
theorem T.tup (h : Ts S H k w ds) : T S H (k + 1) w (.tup ds) := by
  obtain ⟨xs, e, s, _⟩ := h
  refine ⟨.tuple xs, fun H' y m hm => ?_, s.lay, s.sh, Nat.succ_le_succ s.dep, s.lv, s.wt⟩
  have q := e H' y m (by omega)
  cases m <;> rw [toP, q] <;> rfl
theorem T.parts (h : T S H k w (.tup ds)) : Ts S H k w ds := by
  obtain ⟨x, e, s⟩ := h
  have at_ : ∀ H', Fm S H H' → ∀ m, k ≤ m → ∃ xs, toPs H' m ds = some xs ∧ x = .tuple xs := fun H' y m hm => by
    have := e H' y m hm
    cases m <;> rw [toP] at this <;> (obtain ⟨xs, e2, e3⟩ := Option.map_eq_some_iff.mp this; exact ⟨xs, e2, e3.symm⟩)
  obtain ⟨xs, e1, rfl⟩ := at_ H Fm.refl k (Nat.le_refl _)
  have ll := toPs_len e1
  have wl := weight_len xs
  have wt : PyData.weightAll xs ≤ w := s.wt
  refine ⟨xs, fun H' y m hm => ?_, ⟨s.lay, s.sh, ?_, s.lv, wt⟩, by omega⟩
  · obtain ⟨ys, e2, e3⟩ := at_ H' y m hm
    cases e3
    exact e2
  · have := s.dep
    simp only [PyData.depth] at this
    omega
theorem T.lst {p : Nat} (hp : p ∉ S) (hd : H[p]? = some (.lst ds)) (h : Ts S H k w ds) : T S H (k + 1) w (.ref p) := by
  obtain ⟨xs, e, s, _⟩ := h
  refine ⟨.list xs, fun H' y m hm => ?_, s.lay, s.sh, Nat.succ_le_succ s.dep, s.lv, s.wt⟩
  match m, hm with
  | m + 1, hm =>
    rw [toP]
    simp only [y.lst hp hd, e H' y m (by omega), Option.map_some]
theorem T.rep (h : T S H k w d) (hw : w ≤ 390000) (hk : k ≤ 30) : ∃ t : Str, ∀ H', Fm S H H' → reprD [d] H' = some (.str t, H') := by
  obtain ⟨x, e, s⟩ := h
  refine ⟨x.shown, fun H' y => ?_⟩
  unfold reprD
  simp only [e H' y 30 hk, Option.bind_some, if_pos (s.can' hw hk)]
theorem T.dat (h : T S H k w d) (hk : k ≤ 30) : ∃ x, DL.dat d H = some x ∧ toP H 30 d = some x := by
  obtain ⟨x, e, s⟩ := h
  have e1 := e H Fm.refl 30 hk
  have : x.depth ≤ 30 := Nat.le_trans s.dep hk
  exact ⟨x, by unfold DL.dat; rw [e1]; simp [okP, s.lay, this], e1⟩
theorem Ts.app {W : Nat} {es : List D} : ∀ {ds : List D} {w : Nat}, Ts S H k w ds → Ts S H k W es → Ts S H k (w + W) (ds ++ es)
  | [], w, _, b => b.le (Nat.le_refl _) (by omega)
  | d :: ds, w, a, b => by
    obtain ⟨a1, a2, t1, t2, l⟩ := a.two
    exact (Ts.cons t1 (Ts.app t2 b)).le (Nat.le_refl _) (by omega)
theorem Ts.drop : ∀ (i : Nat) {ds : List D} {w : Nat}, Ts S H k w ds → Ts S H k w (ds.drop i)
  | 0, ds, w, a => a
  | i + 1, [], w, a => a
  | i + 1, d :: ds, w, a => by
    obtain ⟨a1, a2, t1, t2, l⟩ := a.two
    exact (Ts.drop i t2).le (Nat.le_refl _) (by omega)
theorem Ts.take : ∀ (i : Nat) {ds : List D} {w : Nat}, Ts S H k w ds → Ts S H k w (ds.take i)
  | 0, ds, w, a => Ts.nil
  | i + 1, [], w, a => a
  | i + 1, d :: ds, w, a => by
    obtain ⟨a1, a2, t1, t2, l⟩ := a.two
    exact (Ts.cons t1 (Ts.take i t2)).le (Nat.le_refl _) (by omega)
theorem shNums : ∀ j : Fin 413, (PyData.shown (.int ((j.val : Int) - 206))).length ≤ 40 ∧ ((PyData.int ((j.val : Int) - 206)).showable = true) ∧ (PyData.int ((j.val : Int) - 206)).weight ≤ 40 := by decide
theorem T.int {i : Int} (h0 : -206 ≤ i) (h1 : i ≤ 206) : T S H k 40 (.int i) := by
  have h := shNums ⟨(i + 206).toNat, by omega⟩
  have e : (((i + 206).toNat : Nat) : Int) - 206 = i := by omega
  rw [e] at h
  exact ⟨.int i, fun H' _ m _ => toP_int H' m i, rfl, h.2.1, Nat.zero_le _, by simp only [PyData.leavesShort]; exact decide_eq_true h.1, h.2.2⟩
theorem shBig : (PyData.shown (.int (10 ^ 20))).length ≤ 40 ∧ (PyData.int (10 ^ 20)).showable = true ∧ (PyData.int (10 ^ 20)).weight ≤ 70 := by decide +kernel
theorem T.big : T S H k 70 (.int (10 ^ 20)) := by
  have h := shBig
  exact ⟨.int (10 ^ 20), fun H' _ m _ => toP_int H' m _, rfl, h.2.1, Nat.zero_le _, by simp only [PyData.leavesShort]; exact decide_eq_true h.1, h.2.2⟩
theorem T.bl {b : Bool} : T S H k 40 (.bl b) := (T.of Showy.bl).le (Nat.zero_le _) (Nat.le_refl _)
theorem T.non : T S H k 40 .non := (T.of Showy.non).le (Nat.zero_le _) (Nat.le_refl _)
theorem T.str {x : Str} (h : (x.cps.toList.all fun c => decide (c < 0x110000)) = true) (h2 : (x.cps.toList.all fun c => decide (c < 16 ^ 8)) = true) (h3 : x.cps.size ≤ 40) : T S H k 40 (.str x) := (T.of (Showy.str (strOk_list h) h2 h3)).le (Nat.zero_le _) (Nat.le_refl _)
end
end K08
namespace K08
open PySem L2 DL LH WP
local macro_rules | `(tactic| fail $s:str) => do
  if s.getString == "lk" then `(tactic| first | assumption | with_reducible exact WP.last | (with_reducible refine WP.appL ?_; fail "lk"))
  else if s.getString == "go" then do
    let a0 ← `(by with_unfolding_all rfl)
    let a1 ← `(?_)
    let a2 ← `(by first | (simp; done) | (simp; omega) | omega)
    let a3 ← `(by decide)
    let a4 ← `(by with_unfolding_all first | exact (rfl : _ = true) | exact (rfl : _ = false))
    let a5 ← `(by fail "lk")
    let a6 ← `(by with_unfolding_all exact rfl)
    let t ← ([`WP.w_var].map (·, [a0, a1]) ++ [`WP.w_c, `WP.w_seq, `WP.w_kn, `WP.w_set, `WP.w_op, `WP.w_acons, `WP.w_anil, `WP.w_call, `WP.w_cb, `WP.w_tof, `WP.w_bl, `WP.w_bt, `WP.w_bf, `WP.w_bnt, `WP.w_bnf, `WP.w_ret, `WP.w_fr, `WP.w_kr, `WP.w_snil, `WP.w_expr, `WP.w_for, `WP.w_or, `WP.w_an, `WP.w_no, `WP.w_ttru, `WP.w_eif, `WP.w_eno, `WP.w_ean, `WP.w_eorr, `WP.w_un, `WP.w_ch, `WP.w_int, `WP.w_tup, `WP.w_lst, `WP.w_lm, `WP.w_tm, `WP.w_dm, `WP.w_dn, `WP.w_on, `WP.w_os, `WP.w_sl, `WP.w_rv, `WP.w_lc, `WP.w_asg, `WP.w_gnm, `WP.w_gsb, `WP.w_gcn, `WP.w_gnl].map (·, [a1]) ++ [`WP.w_n, `WP.w_gtp, `WP.w_ixT, `WP.w_isN, `WP.w_isnN, `WP.w_isBl, `WP.w_isnBl].map (·, [a0, a1]) ++ [`WP.w_sz, `WP.w_addT].map (·, [a2, a1]) ++ [`WP.w_mod].map (·, [a3, a1]) ++ [`WP.w_fdiv, `WP.w_mulL, `WP.w_mulR].map (·, [a3, a3, a1]) ++ [`WP.w_eqI', `WP.w_neI', `WP.w_eqS', `WP.w_neS'].map (·, [a4, a1]) ++ [`WP.w_lenR, `WP.w_tupR, `WP.w_itR].map (·, [a5, a1]) ++ [`WP.w_ixR].map (·, [a5, a0, a1]) ++ [`WP.w_isi'].map (·, [a0, a0, a4, a1]) ++ [`WP.w_addI, `WP.w_subI, `WP.w_lt, `WP.w_le, `WP.w_gt, `WP.w_ge, `WP.w_slhi, `WP.w_sllo, `WP.w_sllo1, `WP.w_neg, `WP.w_eqI, `WP.w_neI, `WP.w_eqS, `WP.w_neS, `WP.w_lenT, `WP.w_lenF, `WP.w_abs, `WP.w_intI, `WP.w_intB, `WP.w_max, `WP.w_min, `WP.w_truB, `WP.w_truT, `WP.w_truN, `WP.w_isq, `WP.w_itT, `WP.w_itF, `WP.w_ir1, `WP.w_ir2, `WP.w_ir3, `WP.w_idic, `WP.w_enum, `WP.w_enum1, `WP.w_zip, `WP.w_yes, `WP.w_retn, `WP.w_fn, `WP.w_agn, `WP.w_agr, `WP.w_kb, `WP.w_kc, `WP.w_agb, `WP.w_agc, `WP.w_brk, `WP.w_cnt].map (·, [a1]) ++ [`WP.w_bT, `WP.w_bF].map (·, [a6, a1]) : List (Lean.Name × List Lean.Term)).foldrM (fun p (r : Lean.TSyntax `tactic) => `(tactic| first | with_reducible refine $(Lean.Syntax.mkApp (Lean.mkIdent p.1) p.2.toArray) | $r:tactic)) (← `(tactic| fail "no"))
    return t
  else Lean.Macro.throwUnsupported
variable {H : HD} {Q : D → HD → Prop}
theorem w_ifB' {t : TF} {f g : SF} {σ : SD} {R : FD → SD → HD → Prop} (B : Bool) (h : wT (t σ H) fun b H' => H' = H ∧ b = B) (ht : B = true → wS (f σ H) R) (hf : B = false → wS (g σ H) R) : wS (sIf t f g σ H) R := by
  obtain ⟨b, H1, e, rfl, rfl⟩ := h
  exact w_if ⟨_, _, e, ht, hf⟩
theorem w_mix {cell k : Int} (h0 : 0 ≤ k) (h1 : k ≤ 100) (q : ∀ r H', 0 ≤ r → r < 2147483648 → Fm [] H H' → Q (.int r) H') : wE (m_law_mix [.int cell, .int k] H) Q := by
  refine w_run rfl ?_
  show wS (b_law_mix [some (.int cell), some (.int k), none, none] H) _
  unfold b_law_mix
  obtain ⟨P, hP, hP2, eP⟩ : ∃ P : Int, 0 < P ∧ P < 2147483648 ∧ atI [D.int 2147483647, .int 2147483629, .int 2147483587, .int 2147483579, .int 2147483563, .int 2147483549, .int 2147483543] (k % 7) = some (.int P) := by
    rcases (show k % 7 = 0 ∨ k % 7 = 1 ∨ k % 7 = 2 ∨ k % 7 = 3 ∨ k % 7 = 4 ∨ k % 7 = 5 ∨ k % 7 = 6 by omega) with h | h | h | h | h | h | h <;> rw [h]
    · exact ⟨2147483647, by omega, by omega, rfl⟩
    · exact ⟨2147483629, by omega, by omega, rfl⟩
    · exact ⟨2147483587, by omega, by omega, rfl⟩
    · exact ⟨2147483579, by omega, by omega, rfl⟩
    · exact ⟨2147483563, by omega, by omega, rfl⟩
    · exact ⟨2147483549, by omega, by omega, rfl⟩
    · exact ⟨2147483543, by omega, by omega, rfl⟩
  (repeat fail "go")
  refine w_ixR last eP ?_
  (repeat fail "go")
  have c0 := Int.emod_nonneg cell (show (998244353 : Int) ≠ 0 by decide)
  have c1 := Int.emod_lt_of_pos cell (show (0 : Int) < 998244353 by decide)
  generalize cell % 998244353 = c at *
  refine w_mulL (by omega) (by omega) ?_
  (repeat fail "go")
  refine w_mulL (by omega) (by omega) ?_
  (repeat fail "go")
  refine w_mod hP ?_
  have a0 := Int.emod_nonneg ((c + 104729 * (k + 1)) * (k * k + 7 * k + 13)) (show P ≠ 0 by omega)
  have a1 := Int.emod_lt_of_pos ((c + 104729 * (k + 1)) * (k * k + 7 * k + 13)) hP
  generalize (c + 104729 * (k + 1)) * (k * k + 7 * k + 13) % P = a at *
  (repeat fail "go")
  refine w_pow (by decide) (by decide) (by omega) ?_
  (repeat fail "go")
  have b0 := Int.emod_nonneg (a ^ (5 : Int).toNat) (show (1000000007 : Int) ≠ 0 by decide)
  have b1 := Int.emod_lt_of_pos (a ^ (5 : Int).toNat) (show (0 : Int) < 1000000007 by decide)
  generalize a ^ (5 : Int).toNat % 1000000007 = b at *
  refine w_mod hP ?_
  have d0 := Int.emod_nonneg (b * 48271 + 31 * k + 5) (show P ≠ 0 by omega)
  have d1 := Int.emod_lt_of_pos (b * 48271 + 31 * k + 5) hP
  generalize (b * 48271 + 31 * k + 5) % P = d at *
  (repeat fail "go")
  refine w_pow (by decide) (by decide) (by omega) ?_
  (repeat fail "go")
  have e0 := Int.emod_nonneg (d ^ (3 : Int).toNat) (show (998244353 : Int) ≠ 0 by decide)
  have e1 := Int.emod_lt_of_pos (d ^ (3 : Int).toNat) (show (0 : Int) < 998244353 by decide)
  generalize d ^ (3 : Int).toNat % 998244353 = e at *
  exact q _ _ (by omega) (by omega) (Fm.app _)
noncomputable def Digs (ds : List Int) : Prop := ∀ d ∈ ds, 0 ≤ d ∧ d < 2147483648
theorem w_digits {cell : Int} {many : Nat} (h1 : many ≤ 100) (q : ∀ (ds : List Int) p H', ds.length = many → Digs ds → H'[p]? = some (.lst (ds.map .int)) → H.length ≤ p → Fm [] H H' → Q (.ref p) H') : wE (m_law_digits [.int cell, .int many] H) Q := by
  refine w_run rfl ?_
  show wS (b_law_digits [some (.int cell), some (.int many), none, none, none, none] H) _
  unfold b_law_digits
  (repeat fail "go")
  refine w_pow (by decide) (by decide) (by decide) ?_
  (repeat fail "go")
  generalize decide ((10 : Int) ^ (18 : Int).toNat ≤ absZ cell) = wide
  refine ⟨_, rfl, ⟨by omega, by omega⟩, ?_⟩
  rw [show ((many : Int)).toNat = many by omega]
  refine w_loop (fun d t σ H' => d ++ t = rangeL 0 many ∧ ∃ (ds : List Int) (L : Int) (z5 : Option D), ds.length = d.length ∧ Digs ds ∧ H'[H.length]? = some (.lst (ds.map .int)) ∧ Fm [H.length] (H ++ [.lst []]) H' ∧ 0 ≤ L ∧ σ = [some (.int cell), some (.int many), some (.ref H.length), some (.int L), some (.bl wide), z5]) (fun _ _ _ _ _ => own0) (fun d x t σ H1 ⟨e0, ds, L, z5, e1, e2, e3, x1, hL, e5⟩ => ?_) (fun d σ H1 ⟨e0, ds, L, z5, e1, e2, e3, x1, hL, e5⟩ => ?_) _ [] _ _ ⟨rfl, [], absZ cell, _, rfl, (by intro d h; cases h), last, Fm.refl, (by unfold absZ; split <;> omega), rfl⟩
  · subst e5
    have hx : x ∈ rangeL 0 many := by rw [← e0]; simp
    simp only [rangeL, List.mem_map, List.mem_range] at hx
    obtain ⟨i, hi, rfl⟩ := hx
    have hd : d.length ≤ 100 := by
      have := congrArg List.length e0
      simp [rangeL] at this
      omega
    (repeat fail "go")
    refine w_ifB' (wide && decide (0 < L)) ?_ (fun h => ?_) (fun h => ?_)
    · (repeat fail "go")
      cases wide
      · exact ⟨(fun z => nomatch z), fun _ => ⟨rfl, rfl⟩⟩
      · refine ⟨fun _ => ?_, (fun z => nomatch z)⟩
        (repeat fail "go")
        exact ⟨rfl, by simp⟩
    · (repeat fail "go")
      refine ⟨isl e3, ?_⟩
      (repeat fail "go")
      refine w_app e3 (by simp; omega) ?_
      (repeat fail "go")
      have m0 := Int.emod_nonneg L (show (10007 : Int) ≠ 0 by decide)
      have m1 := Int.emod_lt_of_pos L (show (0 : Int) < 10007 by decide)
      refine ⟨by rw [← e0]; simp, ds ++ [L % 10007], L / 10007, _, by simp [e1], ?_, ?_, x1.trans (Fm.set (by simp)), Int.ediv_nonneg hL (by decide), rfl⟩
      · intro y hy
        rcases List.mem_append.mp hy with h | h
        · exact e2 y h
        · simp at h; subst h; exact ⟨m0, by omega⟩
      · rw [List.map_append]; exact setS e3
    · (repeat fail "go")
      refine ⟨isl e3, ?_⟩
      (repeat fail "go")
      refine w_mix (by omega) (by omega) fun r H2 r0 r1 x2 => ?_
      (repeat fail "go")
      have e3' := x2.lst (by simp) e3
      refine w_app e3' (by simp; omega) ?_
      (repeat fail "go")
      refine ⟨by rw [← e0]; simp, ds ++ [r], L, _, by simp [e1], ?_, ?_, (x1.trans (x2.sub (by simp))).trans (Fm.set (by simp)), hL, rfl⟩
      · intro y hy
        rcases List.mem_append.mp hy with h | h
        · exact e2 y h
        · simp at h; subst h; exact ⟨r0, r1⟩
      · rw [List.map_append]; exact setS e3'
  · subst e5
    have hd : d.length = many := by
      have := congrArg List.length e0
      simpa [rangeL] using this
    (repeat fail "go")
    exact q ds _ H1 (by omega) e2 e3 (Nat.le_refl _) ((Fm.app (S := []) _).new x1 (by intro m hm _; simp at hm; omega))
theorem w_at {ns : List Int} {k : Int} (h0 : 0 ≤ k) (h1 : k ≤ 1000) (q : ∀ c, Q (.int c) H) : wE (m_law_at [.fl (ns.map .int), .int k] H) Q := by
  refine w_run rfl ?_
  show wS (b_law_at [some (.fl (ns.map .int)), some (.int k)] H) _
  unfold b_law_at
  (repeat fail "go"); (refine WP.w_if ?_; (repeat fail "go"))
  refine ⟨fun h => ?_, fun h => ?_⟩
  · have lt : k.toNat < ns.length := by have := of_decide_eq_true h; simp at this; omega
    (repeat fail "go")
    refine w_ixF (atI_toNat h0 (d := .int ns[k.toNat]) (by rw [List.getElem?_map, List.getElem?_eq_getElem lt]; rfl)) ?_
    (repeat fail "go")
    exact q _
  · (repeat fail "go")
    exact q _
theorem w_dig {p : Nat} {ds : List Int} {i : Int} (g : H[p]? = some (.lst (ds.map .int))) (hd : Digs ds) (h0 : 0 ≤ i) (h1 : i < ds.length) (q : ∀ r, 0 ≤ r → r < 2147483648 → Q (.int r) H) : wE (ixD (.ref p) (.int i) H) Q := by
  have lt : i.toNat < ds.length := by omega
  have hm := hd _ (List.getElem_mem lt)
  exact w_ixR g (atI_toNat h0 (d := .int ds[i.toNat]) (by rw [List.getElem?_map, List.getElem?_eq_getElem lt]; rfl)) (q _ hm.1 hm.2)
local macro_rules | `(tactic| fail $s:str) => do
  if s.getString == "lk" then `(tactic| first | assumption | with_reducible exact WP.last | (with_reducible refine WP.appL ?_; fail "lk"))
  else if s.getString == "go" then do
    let a0 ← `(by with_unfolding_all rfl)
    let a1 ← `(?_)
    let a2 ← `(by first | (simp; done) | (simp; omega) | omega)
    let a3 ← `(by decide)
    let a4 ← `(by with_unfolding_all first | exact (rfl : _ = true) | exact (rfl : _ = false))
    let a5 ← `(by fail "lk")
    let a6 ← `(by with_unfolding_all exact rfl)
    let t ← ([`WP.w_var].map (·, [a0, a1]) ++ [`WP.w_c, `WP.w_seq, `WP.w_kn, `WP.w_set, `WP.w_op, `WP.w_acons, `WP.w_anil, `WP.w_call, `WP.w_cb, `WP.w_tof, `WP.w_bl, `WP.w_bt, `WP.w_bf, `WP.w_bnt, `WP.w_bnf, `WP.w_ret, `WP.w_fr, `WP.w_kr, `WP.w_snil, `WP.w_expr, `WP.w_for, `WP.w_or, `WP.w_an, `WP.w_no, `WP.w_ttru, `WP.w_eif, `WP.w_eno, `WP.w_ean, `WP.w_eorr, `WP.w_un, `WP.w_ch, `WP.w_int, `WP.w_tup, `WP.w_lst, `WP.w_lm, `WP.w_tm, `WP.w_dm, `WP.w_dn, `WP.w_on, `WP.w_os, `WP.w_sl, `WP.w_rv, `WP.w_lc, `WP.w_asg, `WP.w_gnm, `WP.w_gsb, `WP.w_gcn, `WP.w_gnl].map (·, [a1]) ++ [`WP.w_n, `WP.w_gtp, `WP.w_ixT, `WP.w_isN, `WP.w_isnN, `WP.w_isBl, `WP.w_isnBl].map (·, [a0, a1]) ++ [`WP.w_sz, `WP.w_addT].map (·, [a2, a1]) ++ [`WP.w_mod].map (·, [a3, a1]) ++ [`WP.w_fdiv, `WP.w_mulL, `WP.w_mulR].map (·, [a3, a3, a1]) ++ [`WP.w_eqI', `WP.w_neI', `WP.w_eqS', `WP.w_neS'].map (·, [a4, a1]) ++ [`WP.w_lenR, `WP.w_tupR, `WP.w_itR].map (·, [a5, a1]) ++ [`WP.w_ixR].map (·, [a5, a0, a1]) ++ [`WP.w_isi'].map (·, [a0, a0, a4, a1]) ++ [`WP.w_addI, `WP.w_subI, `WP.w_lt, `WP.w_le, `WP.w_gt, `WP.w_ge, `WP.w_slhi, `WP.w_sllo, `WP.w_sllo1, `WP.w_neg, `WP.w_eqI, `WP.w_neI, `WP.w_eqS, `WP.w_neS, `WP.w_lenT, `WP.w_lenF, `WP.w_abs, `WP.w_intI, `WP.w_intB, `WP.w_max, `WP.w_min, `WP.w_truB, `WP.w_truT, `WP.w_truN, `WP.w_isq, `WP.w_itT, `WP.w_itF, `WP.w_ir1, `WP.w_ir2, `WP.w_ir3, `WP.w_idic, `WP.w_enum, `WP.w_enum1, `WP.w_zip, `WP.w_yes, `WP.w_retn, `WP.w_fn, `WP.w_agn, `WP.w_agr, `WP.w_kb, `WP.w_kc, `WP.w_agb, `WP.w_agc, `WP.w_brk, `WP.w_cnt].map (·, [a1]) ++ [`WP.w_bT, `WP.w_bF].map (·, [a6, a1]) : List (Lean.Name × List Lean.Term)).foldrM (fun p (r : Lean.TSyntax `tactic) => `(tactic| first | with_reducible refine $(Lean.Syntax.mkApp (Lean.mkIdent p.1) p.2.toArray) | $r:tactic)) (← `(tactic| fail "no"))
    return t
  else Lean.Macro.throwUnsupported
theorem two_as {r : Int} (h0 : 0 ≤ r) (h1 : r < 2) : ∃ k, IsKind k ∧ atI [D.str "all", .str "some"] r = some k := by
  rcases (show r = 0 ∨ r = 1 by omega) with rfl | rfl
  · exact ⟨_, .inl rfl, rfl⟩
  · exact ⟨_, .inr rfl, rfl⟩
theorem two_sa {r : Int} (h0 : 0 ≤ r) (h1 : r < 2) : ∃ k, IsKind k ∧ atI [D.str "some", .str "all"] r = some k := by
  rcases (show r = 0 ∨ r = 1 by omega) with rfl | rfl
  · exact ⟨_, .inr rfl, rfl⟩
  · exact ⟨_, .inl rfl, rfl⟩
theorem mod2 (r : Int) : 0 ≤ r % 2 ∧ r % 2 < 2 := by omega
theorem w_kinds {p : Nat} {ds : List Int} {many : Nat} (g : H[p]? = some (.lst (ds.map .int))) (hd : Digs ds) (hl : many + 1 ≤ ds.length) (h100 : many ≤ 100) (q : ∀ ks H', (∀ d ∈ ks, IsKind d) → ks.length = many → Fm [] H H' → Q (.tup ks) H') : wE (m_law_kinds [.ref p, .int many] H) Q := by
  refine w_run rfl ?_
  show wS (b_law_kinds [some (.ref p), some (.int many), none, none, none] H) _
  unfold b_law_kinds
  (repeat fail "go")
  have hp : p < H.length := (List.getElem?_eq_some_iff.mp g).1
  refine ⟨_, rfl, ⟨by omega, by omega⟩, ?_⟩
  rw [show ((many : Int)).toNat = many by omega]
  refine w_loop (fun d t σ H' => d ++ t = rangeL 0 many ∧ ∃ (ks : List D) (z3 z4 : Option D), ks.length = d.length ∧ (∀ d ∈ ks, IsKind d) ∧ H'[H.length]? = some (.lst ks) ∧ Fm [H.length] (H ++ [.lst []]) H' ∧ σ = [some (.ref p), some (.int many), some (.ref H.length), z3, z4]) (fun _ _ _ _ _ => own0) (fun d x t σ H1 ⟨e0, ks, z3, z4, e1, e2, e3, x1, e5⟩ => ?_) (fun d σ H1 ⟨e0, ks, z3, z4, e1, e2, e3, x1, e5⟩ => ?_) _ [] _ _ ⟨rfl, [], _, _, rfl, (by intro d h; cases h), last, Fm.refl, rfl⟩
  · subst e5
    have hx : x ∈ rangeL 0 many := by rw [← e0]; simp
    simp only [rangeL, List.mem_map, List.mem_range] at hx
    obtain ⟨i, hi, rfl⟩ := hx
    have hdl : d.length ≤ 100 := by
      have := congrArg List.length e0
      simp [rangeL] at this
      omega
    have gp : H1[p]? = some (.lst (ds.map .int)) := x1.lst (by simp; omega) (appL g)
    have Jn : ∀ (L : List D) {H2 : HD}, Fm [H.length] (H ++ [.lst []]) H2 → H2[p]? = some (.lst (ds.map .int)) → H2[H.length]? = some (.lst ks) → Fm [H.length] (H ++ [.lst []]) (H2 ++ [.lst L]) ∧ (H2 ++ [.lst L])[p]? = some (.lst (ds.map .int)) ∧ (H2 ++ [.lst L])[H.length]? = some (.lst ks) := fun L H2 a b c => ⟨a.trans (Fm.app _), appL b, appL c⟩
    refine w_gnm (w_seq ?_)
    refine w_cut (fun σ H2 => (Fm [H.length] (H ++ [.lst []]) H2 ∧ H2[p]? = some (.lst (ds.map .int)) ∧ H2[H.length]? = some (.lst ks)) ∧ ∃ k, IsKind k ∧ σ = [some (.ref p), some (.int many), some (.ref H.length), some (.int (0 + i)), some k]) ?_ ?_
    · (repeat fail "go")
      refine w_dig (appL gp) hd (by omega) (by omega) fun r r0 r1 => ?_
      (repeat fail "go")
      obtain ⟨k, hk, ek⟩ := two_as (mod2 r).1 (mod2 r).2
      refine w_ixR last ek ?_
      exact ⟨rfl, Jn _ x1 gp e3, k, hk, rfl⟩
    rintro _ H2 ⟨⟨x2, g2, e4⟩, k, hk, rfl⟩
    refine w_seq (w_cut (fun σ H2 => (Fm [H.length] (H ++ [.lst []]) H2 ∧ H2[p]? = some (.lst (ds.map .int)) ∧ H2[H.length]? = some (.lst ks)) ∧ ∃ k, IsKind k ∧ σ = [some (.ref p), some (.int many), some (.ref H.length), some (.int (0 + i)), some k]) ?_ ?_)
    · (refine WP.w_if ?_; (repeat fail "go"))
      refine w_dig g2 hd (by omega) (by omega) fun r r0 r1 => ?_
      (repeat fail "go")
      refine ⟨fun h => ?_, fun h => ?_⟩
      · (repeat fail "go")
        refine w_dig (appL g2) hd (by omega) (by omega) fun r' r0' r1' => ?_
        (repeat fail "go")
        obtain ⟨k2, hk2, ek2⟩ := two_sa (mod2 (0 + (i : Int) + r')).1 (mod2 _).2
        refine w_ixR last ek2 ?_
        (repeat fail "go")
        exact ⟨rfl, Jn _ x2 g2 e4, k2, hk2, rfl⟩
      · (repeat fail "go")
        exact ⟨rfl, ⟨x2, g2, e4⟩, k, hk, rfl⟩
    rintro _ H3 ⟨⟨x3, g3, e6⟩, k, hk, rfl⟩
    refine w_seq (w_cut (fun σ H2 => (Fm [H.length] (H ++ [.lst []]) H2 ∧ H2[p]? = some (.lst (ds.map .int)) ∧ H2[H.length]? = some (.lst ks)) ∧ ∃ k, IsKind k ∧ σ = [some (.ref p), some (.int many), some (.ref H.length), some (.int (0 + i)), some k]) ?_ ?_)
    · (refine WP.w_if ?_; (repeat fail "go"))
      refine w_dig g3 hd (by omega) (by omega) fun r r0 r1 => ?_
      (repeat fail "go")
      refine ⟨fun h => ?_, fun h => ?_⟩
      · (repeat fail "go")
        refine w_dig (appL g3) hd (by omega) (by omega) fun r' r0' r1' => ?_
        (repeat fail "go")
        obtain ⟨k2, hk2, ek2⟩ := two_as (r := if decide (0 < r' % 3) = true then 1 else 0) (by split <;> omega) (by split <;> omega)
        refine w_ixR last ek2 ?_
        (repeat fail "go")
        exact ⟨rfl, Jn _ x3 g3 e6, k2, hk2, rfl⟩
      · (repeat fail "go")
        exact ⟨rfl, ⟨x3, g3, e6⟩, k, hk, rfl⟩
    rintro _ H4 ⟨⟨x4, g4, e7⟩, k, hk, rfl⟩
    (repeat fail "go")
    refine ⟨isl e7, ?_⟩
    (repeat fail "go")
    refine w_app e7 (by omega) ?_
    (repeat fail "go")
    refine ⟨by rw [← e0]; simp, ks ++ [k], _, _, by simp [e1], ?_, setS e7, x4.trans (Fm.set (by simp)), rfl⟩
    intro y hy
    rcases List.mem_append.mp hy with h | h
    · exact e2 y h
    · simp at h; subst h; exact hk
  · subst e5
    have hdl : d.length = many := by
      have := congrArg List.length e0
      simpa [rangeL] using this
    (repeat fail "go")
    exact q ks H1 e2 (by omega) ((Fm.app (S := []) _).new x1 (by intro m hm _; simp at hm; omega))
noncomputable def isI : D → Bool
  | .int _ => true
  | _ => false
noncomputable def rowA (m : Int) : Int → List D → Bool
  | _, [] => true
  | last, .int i :: r => decide (last < absZ i) && decide (absZ i ≤ m) && rowA m (absZ i) r
  | _, _ :: _ => false
noncomputable def rowB (m : Int) : D → Bool
  | .tup ds => rowA m 0 ds && decide (ds.length ≤ 2)
  | _ => false
noncomputable def kindB : D → Bool
  | .str s => s == "all" || s == "some"
  | _ => false
noncomputable def kindsB : D → Bool
  | .tup ds => decide (ds.length ≤ 200) && ds.all kindB
  | _ => false
noncomputable def rowsB (m : Int) : D → Bool
  | .tup ds => decide (ds.length ≤ 600) && ds.all (rowB m)
  | _ => false
noncomputable def lenN : D → Nat
  | .tup ds => ds.length
  | _ => 0
noncomputable def pairsB : D → Bool
  | .tup [k, r] => kindsB k && rowsB (lenN k) r
  | _ => false
theorem kindsB_tup (ds : List D) : kindsB (.tup ds) = (decide (ds.length ≤ 200) && ds.all kindB) := rfl
theorem rowsB_tup (m : Int) (ds : List D) : rowsB m (.tup ds) = (decide (ds.length ≤ 600) && ds.all (rowB m)) := rfl
theorem rowB_tup (m : Int) (ds : List D) : rowB m (.tup ds) = (rowA m 0 ds && decide (ds.length ≤ 2)) := rfl
theorem pairsB_two (k r : D) : pairsB (.tup [k, r]) = (kindsB k && rowsB (lenN k) r) := rfl
variable {H : HD} {Q : D → HD → Prop} {S : List Nat} {k w : Nat}
theorem T.ty {d : D} (h : T S H k w d) (hk : k ≤ 30) : (∃ i, d = .int i) ∨ (∃ b, d = .bl b) ∨ (∃ t, tyD d H = some t ∧ t ≠ "int" ∧ t ≠ "bool" ∧ ((∃ ds, d = .tup ds) ∨ t ≠ "tuple")) := by
  obtain ⟨x, e, e1⟩ := h.dat hk
  cases d with
  | int i => exact .inl ⟨i, rfl⟩
  | bl b => exact .inr (.inl ⟨b, rfl⟩)
  | non => exact .inr (.inr ⟨"NoneType", rfl, by decide, by decide, .inr (by decide)⟩)
  | str s => exact .inr (.inr ⟨"str", rfl, by decide, by decide, .inr (by decide)⟩)
  | tup ds => exact .inr (.inr ⟨"tuple", rfl, by decide, by decide, .inl ⟨ds, rfl⟩⟩)
  | fl ds => exact .inr (.inr ⟨"list", rfl, by decide, by decide, .inr (by decide)⟩)
  | ty t => rw [toP] at e1; cases e1
  | ref p =>
    rw [toP] at e1
    split at e1
    · rename_i g; exact .inr (.inr ⟨"list", tyR g, by decide, by decide, .inr (by decide)⟩)
    · cases e1
theorem w_whole {d : D} (h : T S H k w d) (hk : k ≤ 30) (q : Q (.bl (isI d)) H) : wE (m_is_whole [d] H) Q := by
  refine w_run rfl ?_
  show wS (b_is_whole [some d] H) _
  unfold b_is_whole
  rcases h.ty hk with ⟨i, rfl⟩ | ⟨b, rfl⟩ | ⟨t, e, e1, e2, e3⟩
  · (repeat fail "go")
    exact q
  · (repeat fail "go")
    exact q
  · (repeat fail "go")
    refine w_isi (c := "int") (by decide) e ?_
    have z : (t == "int" || (t == "bool" && "int" == "int")) = false := by simp [e1, e2]
    rw [z]
    (repeat fail "go")
    cases d with
    | int i => simp [tyD] at e; exact absurd e.symm e1
    | _ => exact q
theorem w_isRow {m : Int} {ds : List D} (h : Ts S H k w ds) (hk : k ≤ 30) (q : Q (.bl (rowA m 0 ds)) H) : wE (m_is_row [.int m, .tup ds] H) Q := by
  refine w_run rfl ?_
  show wS (b_is_row [some (.int m), some (.tup ds), none, none] H) _
  unfold b_is_row
  (repeat fail "go"); (refine WP.w_if ?_; (repeat fail "go"))
  refine w_loop (fun d t σ H' => H' = H ∧ (∃ w', Ts S H k w' t) ∧ ∃ (last : Int) (z : Option D), rowA m last t = rowA m 0 ds ∧ σ = [some (.int m), some (.tup ds), some (.int last), z]) (fun _ _ _ _ _ => own0) (fun d x t σ H1 ⟨e1, ⟨w', e2⟩, last, z, e3, e4⟩ => ?_) (fun d σ H1 ⟨e1, ⟨w', e2⟩, last, z, e3, e4⟩ => ?_) _ [] _ _ ⟨rfl, ⟨w, h⟩, 0, _, rfl, rfl⟩
  · subst e1 e4
    obtain ⟨a, b, t1, t2, _⟩ := e2.two
    (repeat fail "go"); (refine WP.w_if ?_; (repeat fail "go"))
    refine w_whole t1 hk ?_
    rcases (show (∃ i, x = .int i) ∨ ∀ i, x ≠ .int i by cases x <;> simp) with ⟨i, rfl⟩ | hx
    · rw [rowA] at e3
      (repeat fail "go")
      refine ⟨fun h => ?_, fun h => ?_⟩
      · have h1 := of_decide_eq_true h
        rw [decide_eq_false (by omega)] at e3
        simp only [Bool.false_and] at e3
        rw [← e3] at q
        (repeat fail "go")
        exact q
      · have h1 := of_decide_eq_false h
        (repeat fail "go")
        refine ⟨fun h => ?_, fun h => ?_⟩
        · have h2 := of_decide_eq_true h
          rw [show decide (absZ i ≤ m) = false from decide_eq_false (by omega)] at e3
          simp only [Bool.and_false, Bool.false_and] at e3
          rw [← e3] at q
          (repeat fail "go")
          exact q
        · have h2 := of_decide_eq_false h
          rw [decide_eq_true (show last < absZ i by omega), decide_eq_true (show absZ i ≤ m by omega)] at e3
          simp only [Bool.true_and] at e3
          (repeat fail "go")
          exact ⟨rfl, ⟨b, t2⟩, absZ i, _, e3, rfl⟩
    · have ef : isI x = false := by cases x <;> first | rfl | exact absurd rfl (hx _)
      have e5 : rowA m last (x :: t) = false := by cases x <;> first | rfl | exact absurd rfl (hx _)
      rw [ef]
      rw [e5] at e3
      rw [← e3] at q
      (repeat fail "go")
      exact q
  · subst e1 e4
    rw [rowA] at e3
    rw [← e3] at q
    (repeat fail "go")
    exact q
theorem w_isRowO {m : Int} {d : D} (h : T S H k w d) (hk : k ≤ 30) (hn : ∀ ds, d ≠ .tup ds) (q : Q (.bl false) H) : wE (m_is_row [.int m, d] H) Q := by
  refine w_run rfl ?_
  show wS (b_is_row [some (.int m), some d, none, none] H) _
  unfold b_is_row
  obtain ⟨t, e, e1⟩ : ∃ t, tyD d H = some t ∧ t ≠ "tuple" := by
    rcases h.ty hk with ⟨i, rfl⟩ | ⟨b, rfl⟩ | ⟨t, e, _, _, ⟨ds, rfl⟩ | e3⟩
    · exact ⟨_, rfl, by decide⟩
    · exact ⟨_, rfl, by decide⟩
    · exact absurd rfl (hn ds)
    · exact ⟨t, e, e3⟩
  refine w_seq ?_
  refine w_if ?_
  (repeat fail "go")
  refine w_isi (c := "tuple") (by decide) e ?_
  have z : (t == "tuple" || (t == "bool" && "tuple" == "int")) = false := by simp [e1]
  rw [z]
  (repeat fail "go")
  exact q
theorem w_kindIn {d : D} (h : T S H k w d) (hk : k ≤ 30) (q : Q (.bl (kindB d)) H) : wE (inD d k_KINDS H) Q := by
  obtain ⟨x, e, e1⟩ := h.dat hk
  have ek : dat k_KINDS H = some (.tuple [.str "all", .str "some"]) := (Fine.tup (Fines.cons (Fine.str (s := "all") (strOk_list (by decide))) (Fines.cons (Fine.str (s := "some") (strOk_list (by decide))) (Fines.nil (h := 0))))).dat (by omega) H
  refine ⟨.bl ([PyData.str "all", .str "some"].any fun z => PyData.eqv z x), H, by unfold inD; rw [e, Option.bind_some, ek]; rfl, ?_⟩
  have z : ([PyData.str "all", .str "some"].any fun z => PyData.eqv z x) = kindB d := by
    cases d with
    | str s =>
      rw [toP_str] at e1
      cases e1
      simp only [List.any_cons, List.any_nil, Bool.or_false, PyData.eqv, kindB]
      rw [show (("all" : Str) == s) = (s == "all") from Bool.beq_comm, show (("some" : Str) == s) = (s == "some") from Bool.beq_comm]
    | non => rw [toP] at e1; cases e1; simp [PyData.eqv, kindB]
    | bl b => rw [toP] at e1; cases e1; simp [PyData.eqv, kindB]
    | int i => rw [toP] at e1; cases e1; simp [PyData.eqv, kindB]
    | ty t => rw [toP] at e1; cases e1
    | tup ds => rw [toP] at e1; obtain ⟨xs, _, rfl⟩ := Option.map_eq_some_iff.mp e1; simp [PyData.eqv, kindB]
    | fl ds => rw [toP] at e1; obtain ⟨xs, _, rfl⟩ := Option.map_eq_some_iff.mp e1; simp [PyData.eqv, kindB]
    | ref p =>
      rw [toP] at e1
      split at e1
      · obtain ⟨xs, _, rfl⟩ := Option.map_eq_some_iff.mp e1; simp [PyData.eqv, kindB]
      · cases e1
  rw [z]; exact q
theorem Ts.mem : ∀ {ds : List D} {w : Nat} {d : D}, Ts S H k w ds → d ∈ ds → ∃ w', T S H k w' d
  | [], _, _, _, h => by cases h
  | x :: r, w, d, a, h => by
    obtain ⟨a1, a2, t1, t2, _⟩ := a.two
    rcases List.mem_cons.mp h with rfl | h
    · exact ⟨_, t1⟩
    · exact Ts.mem t2 h
theorem w_allB {p : Nat} {bs : List Bool} (g : H[p]? = some (.lst (bs.map .bl))) (q : Q (.bl (bs.all id)) H) : wE (allD [.ref p] H) Q := by
  exact ⟨_, _, all_ok g, by simpa using q⟩
theorem w_notTup {d : D} (h : T S H k w d) (hk : k ≤ 30) (hn : ∀ ds, d ≠ .tup ds) {Q : D → HD → Prop} (q : Q (.bl false) H) : wE (isiD [d, .ty "tuple"] H) Q := by
  obtain ⟨t, e, e1⟩ : ∃ t, tyD d H = some t ∧ t ≠ "tuple" := by
    rcases h.ty hk with ⟨i, rfl⟩ | ⟨b, rfl⟩ | ⟨t, e, _, _, ⟨ds, rfl⟩ | e3⟩
    · exact ⟨_, rfl, by decide⟩
    · exact ⟨_, rfl, by decide⟩
    · exact absurd rfl (hn ds)
    · exact ⟨t, e, e3⟩
  refine w_isi (c := "tuple") (by decide) e ?_
  have z : (t == "tuple" || (t == "bool" && "tuple" == "int")) = false := by simp [e1]
  rw [z]; exact q
theorem tup_or (d : D) : (∃ ds, d = .tup ds) ∨ ∀ ds, d ≠ .tup ds := by cases d <;> simp
theorem map_bl (f : D → Bool) (ds : List D) : ds.map (fun d => D.bl (f d)) = (ds.map f).map .bl := by rw [List.map_map]; rfl
theorem all_id (f : D → Bool) (ds : List D) : (ds.map f).all id = ds.all f := by rw [List.all_map]; rfl
theorem w_isKinds {d : D} (h : T S H k w d) (hw : w ≤ 390000) (hk : k ≤ 29) (q : ∀ H', Fm [] H H' → Q (.bl (kindsB d)) H') : wE (m_is_kinds_of_pairs [d] H) Q := by
  refine w_run rfl ?_
  show wS (b_is_kinds_of_pairs [some d] H) _
  unfold b_is_kinds_of_pairs k_MOST_NAMES
  rcases tup_or d with ⟨ds, rfl⟩ | hn
  · have hs := h.parts
    have hl : ds.length ≤ 390000 := by obtain ⟨_, _, _, l⟩ := hs; omega
    (repeat fail "go"); (refine WP.w_if ?_; (repeat fail "go"))
    refine ⟨fun hh => ?_, fun hh => ?_⟩
    · have h1 := of_decide_eq_true hh
      (repeat fail "go")
      have e : kindsB (.tup ds) = false := by rw [kindsB_tup, show decide (ds.length ≤ 200) = false from decide_eq_false (by omega)]; rfl
      rw [e] at q; exact q H Fm.refl
    · have h1 := of_decide_eq_false hh
      (repeat fail "go")
      refine w_cmap (fun d => .bl (kindB d)) (fun H' => H' = H) (fun _ _ => own0) _ (fun x hx H1 j => ?_) _ rfl fun H1 j => ?_
      · subst j
        obtain ⟨w', tx⟩ := hs.mem hx
        (repeat fail "go")
        refine w_kindIn tx (by omega) ?_
        exact ⟨rfl, rfl⟩
      · subst j
        rw [map_bl]
        refine ⟨by simp; omega, ?_⟩
        (repeat fail "go")
        refine w_allB last ?_
        (repeat fail "go")
        have e : kindsB (.tup ds) = (ds.map kindB).all id := by rw [kindsB_tup, show decide (ds.length ≤ 200) = true from decide_eq_true (by omega), all_id]; rfl
        rw [← e]; exact q _ (Fm.app _)
  · have e : kindsB d = false := by cases d <;> first | rfl | exact absurd rfl (hn _)
    rw [e] at q
    refine w_seq ?_
    refine w_if ?_
    (repeat fail "go")
    refine w_notTup h (by omega) hn ?_
    (repeat fail "go")
    exact q H Fm.refl
theorem w_isRows {m : Int} {d : D} (h : T S H k w d) (hw : w ≤ 390000) (hk : k ≤ 29) (q : ∀ H', Fm [] H H' → Q (.bl (rowsB m d)) H') : wE (m_is_rows_of_pairs [.int m, d] H) Q := by
  refine w_run rfl ?_
  show wS (b_is_rows_of_pairs [some (.int m), some d] H) _
  unfold b_is_rows_of_pairs k_MOST_ROWS k_MOST_LITERALS
  rcases tup_or d with ⟨ds, rfl⟩ | hn
  · have hs := h.parts
    have hl : ds.length ≤ 390000 := by obtain ⟨_, _, _, l⟩ := hs; omega
    (repeat fail "go"); (refine WP.w_if ?_; (repeat fail "go"))
    refine ⟨fun hh => ?_, fun hh => ?_⟩
    · have h1 := of_decide_eq_true hh
      (repeat fail "go")
      have e : rowsB m (.tup ds) = false := by rw [rowsB_tup, show decide (ds.length ≤ 600) = false from decide_eq_false (by omega)]; rfl
      rw [e] at q; exact q H Fm.refl
    · have h1 := of_decide_eq_false hh
      (repeat fail "go")
      refine w_cmap (fun d => .bl (rowB m d)) (fun H' => H' = H) (fun _ _ => own0) _ (fun x hx H1 j => ?_) _ rfl fun H1 j => ?_
      · subst j
        obtain ⟨w', tx⟩ := hs.mem hx
        (repeat fail "go")
        rcases tup_or x with ⟨ys, rfl⟩ | hn
        · refine w_isRow tx.parts (by omega) ?_
          refine ⟨_, rfl, fun hr => ?_, fun hr => ?_⟩
          · (repeat fail "go")
            refine ⟨?_, rfl⟩
            rw [rowB_tup, hr, Bool.true_and]
            simp
            omega
          · exact ⟨by rw [rowB_tup, hr]; rfl, rfl⟩
        · refine w_isRowO tx (by omega) hn ?_
          (repeat fail "go")
          exact ⟨by cases x <;> first | rfl | exact absurd rfl (hn _), rfl⟩
      · subst j
        rw [map_bl]
        refine ⟨by simp; omega, ?_⟩
        (repeat fail "go")
        refine w_allB last ?_
        (repeat fail "go")
        have e : rowsB m (.tup ds) = (ds.map (rowB m)).all id := by rw [rowsB_tup, show decide (ds.length ≤ 600) = true from decide_eq_true (by omega), all_id]; rfl
        rw [← e]; exact q _ (Fm.app _)
  · have e : rowsB m d = false := by cases d <;> first | rfl | exact absurd rfl (hn _)
    rw [e] at q
    refine w_seq ?_
    refine w_if ?_
    (repeat fail "go")
    refine w_notTup h (by omega) hn ?_
    (repeat fail "go")
    exact q H Fm.refl
theorem kinds_tup {d : D} (h : kindsB d = true) : ∃ ds, d = .tup ds := by
  cases d <;> first | exact ⟨_, rfl⟩ | cases h
theorem w_isPairs {d : D} (h : T S H k w d) (hw : w ≤ 390000) (hk : k ≤ 29) (q : ∀ H', Fm [] H H' → Q (.bl (pairsB d)) H') : wE (m_is_pairs [d] H) Q := by
  refine w_run rfl ?_
  show wS (b_is_pairs [some d] H) _
  unfold b_is_pairs
  rcases tup_or d with ⟨ds, rfl⟩ | hn
  · have hs := h.parts
    (repeat fail "go"); (refine WP.w_if ?_; (repeat fail "go"))
    rcases (show (∃ a b, ds = [a, b]) ∨ ds.length ≠ 2 by
      match ds with
      | [] => simp
      | [_] => simp
      | [a, b] => exact .inl ⟨a, b, rfl⟩
      | _ :: _ :: _ :: _ => simp) with ⟨a, b, rfl⟩ | hl
    · obtain ⟨w1, w2, t1, t2, l1⟩ := hs.two
      obtain ⟨w3, w4, t3, _, l2⟩ := t2.two
      (repeat fail "go")
      refine w_isKinds t1 (by omega) hk fun H1 x1 => ?_
      refine ⟨_, rfl, fun hh => ?_, fun hh => ?_⟩
      · obtain ⟨ks, rfl⟩ := kinds_tup hh
        (repeat fail "go")
        refine w_isRows (t3.fm0 x1) (by omega) hk fun H2 x2 => ?_
        have e : pairsB (.tup [.tup ks, b]) = rowsB (ks.length : Int) b := by rw [pairsB_two, hh, Bool.true_and]; rfl
        rw [e] at q
        exact q H2 (x1.trans x2)
      · have e : pairsB (.tup [a, b]) = false := by rw [pairsB_two, hh]; rfl
        rw [e] at q
        (repeat fail "go")
        exact q H1 x1
    · refine w_bT (by rw [beq_eq_false_iff_ne.mpr (show (ds.length : Int) ≠ 2 by omega)]; rfl) ?_
      have e : pairsB (.tup ds) = false := by
        match ds, hl with
        | [], _ => rfl
        | [_], _ => rfl
        | [_, _], hl => simp at hl
        | _ :: _ :: _ :: _, _ => rfl
      rw [e] at q
      (repeat fail "go")
      exact q H Fm.refl
  · have e : pairsB d = false := by cases d <;> first | rfl | exact absurd rfl (hn _)
    rw [e] at q
    refine w_seq ?_
    refine w_if ?_
    (repeat fail "go")
    refine w_notTup h (by omega) hn ?_
    (repeat fail "go")
    exact q H Fm.refl
variable {H : HD} {Q : D → HD → Prop} {m : Nat}
noncomputable def B (m : Nat) (H : HD) (d : D) : Prop := T [] H 3 300 d ∧ rowB m d = false
theorem B.fm {H H' : HD} {d : D} (b : B m H d) (x : Fm [] H H') : B m H' d := ⟨b.1.fm0 x, b.2⟩
theorem aI {i : Int} (h0 : -206 ≤ i) (h1 : i ≤ 206) : T [] H 2 70 (.int i) := (T.int h0 h1).le (Nat.le_refl _) (by omega)
theorem aB {b : Bool} : T [] H 2 70 (.bl b) := T.bl.le (Nat.le_refl _) (by omega)
theorem aN : T [] H 2 70 .non := T.non.le (Nat.le_refl _) (by omega)
theorem aS : T [] H 2 70 (.str "1") := (T.str (by decide) (by decide) (by decide)).le (Nat.le_refl _) (by omega)
theorem aR {p : Nat} {i : Int} (g : H[p]? = some (.lst [.int i])) (h0 : -206 ≤ i) (h1 : i ≤ 206) : T [] H 2 70 (.ref p) := (T.lst (by simp) g (Ts.cons (T.int (k := 0) h0 h1) (Ts.nil (w := 0)))).le (by omega) (by omega)
theorem aT {i : Int} (h0 : -206 ≤ i) (h1 : i ≤ 206) : T [] H 2 70 (.tup [.int i]) := (T.tup (Ts.cons (T.int (k := 0) h0 h1) (Ts.nil (w := 0)))).le (by omega) (by omega)
theorem t1 {a : D} (x : T [] H 2 70 a) : T [] H 3 300 (.tup [a]) := (T.tup (Ts.cons x (Ts.nil (w := 0)))).le (by omega) (by omega)
theorem t2 {a b : D} (x : T [] H 2 70 a) (y : T [] H 2 70 b) : T [] H 3 300 (.tup [a, b]) := (T.tup (Ts.cons x (Ts.cons y (Ts.nil (w := 0))))).le (by omega) (by omega)
theorem t3 {a b c : D} (x : T [] H 2 70 a) (y : T [] H 2 70 b) (z : T [] H 2 70 c) : T [] H 3 300 (.tup [a, b, c]) := (T.tup (Ts.cons x (Ts.cons y (Ts.cons z (Ts.nil (w := 0)))))).le (by omega) (by omega)
theorem r1 {a : Int} (h : ¬ (0 < absZ a ∧ absZ a ≤ (m : Int))) : rowB m (.tup [.int a]) = false := by
  rw [rowB_tup]
  simp only [rowA, Bool.and_true, List.length_cons, List.length_nil]
  rw [Bool.and_eq_false_iff]
  left
  rw [Bool.and_eq_false_iff, decide_eq_false_iff_not, decide_eq_false_iff_not]
  omega
theorem r2 {a b : Int} (h : ¬ (0 < absZ a ∧ absZ a ≤ (m : Int) ∧ absZ a < absZ b ∧ absZ b ≤ (m : Int))) : rowB m (.tup [.int a, .int b]) = false := by
  rw [rowB_tup]
  simp only [rowA, Bool.and_true]
  rw [Bool.and_eq_false_iff]
  left
  simp only [Bool.and_eq_false_iff, decide_eq_false_iff_not]
  omega
theorem r3 {a b c : D} : rowB m (.tup [a, b, c]) = false := by rw [rowB_tup]; simp
theorem rX {x : D} {r : List D} (h : isI x = false) : rowB m (.tup (x :: r)) = false := by
  rw [rowB_tup]
  have e : rowA m 0 (x :: r) = false := by cases x <;> first | rfl | cases h
  rw [e]; rfl
theorem rX2 {a : Int} {x : D} (h : isI x = false) : rowB m (.tup [.int a, x]) = false := by
  rw [rowB_tup]
  have e : rowA m (absZ a) [x] = false := by cases x <;> first | rfl | cases h
  rw [rowA, e]; simp
theorem absP {i : Int} (h : 0 < i) : absZ i = i := by unfold absZ; split <;> omega
theorem absN' {i : Int} (h : 0 < i) : absZ (-i) = i := by unfold absZ; split <;> omega
theorem abs0 : absZ 0 = 0 := rfl
theorem w_addRR {p r : Nat} {xs ys : List D} (g1 : H[p]? = some (.lst xs)) (g2 : H[r]? = some (.lst ys)) (h : xs.length + ys.length ≤ 1000000) (q : Q (.ref H.length) (H ++ [.lst (xs ++ ys)])) : wE (addD (.ref p) (.ref r) H) Q := by
  refine ⟨_, _, ?_, q⟩
  simp only [addD, g1, g2]
  exact if_pos (size_ok (by rw [List.length_append]; exact h))
noncomputable def J (m p n : Nat) (L : List D) (low : Int) (H : HD) (σ : SD) (H' : HD) : Prop := ∃ xs r, σ = [some (.int m), some (.ref p), some (.int low), some (.ref r)] ∧ H'[r]? = some (.lst xs) ∧ (∀ x ∈ xs, B m H' x) ∧ xs.length = n ∧ H'[p]? = some (.lst L) ∧ Fm [] H H'
theorem J.add {p n : Nat} {L : List D} {low : Int} {H H1 H2 : HD} {xs ys : List D} (b : ∀ x ∈ xs, B m H1 x) (l0 : xs.length = n) (gp : H1[p]? = some (.lst L)) (x1 : Fm [] H H1) (x2 : Fm [] H1 H2) (c : ∀ y ∈ ys, B m H2 y) :
    J m p (n + ys.length) L low H [some (.int m), some (.ref p), some (.int low), some (.ref H2.length)] (H2 ++ [.lst (xs ++ ys)]) := by
  refine ⟨xs ++ ys, H2.length, rfl, last, fun x hx => ?_, by simp [l0], appL (x2.lst (by simp) gp), (x1.trans x2).trans (Fm.app _)⟩
  rcases List.mem_append.mp hx with h | h
  · exact (b x h).fm (x2.trans (Fm.app _))
  · exact (c x h).fm (Fm.app _)
theorem w_badRow {p : Nat} {ds : List Int} (h0 : 1 ≤ m) (h1 : m ≤ 200) (g : H[p]? = some (.lst (ds.map .int))) (hd : Digs ds) (hl : 2 ≤ ds.length) (q : ∀ d H', B m H' d → Fm [] H H' → Q d H') : wE (m_law_bad_row [.int m, .ref p] H) Q := by
  refine w_run rfl ?_
  show wS (b_law_bad_row [some (.int m), some (.ref p), none, none] H) _
  unfold b_law_bad_row
  refine w_seq ?_
  refine w_cut (fun σ H' => H' = H ∧ ∃ low : Int, 1 ≤ low ∧ low ≤ m ∧ σ = [some (.int m), some (.ref p), some (.int low), none]) ?_ ?_
  · (repeat fail "go")
    refine w_dig g hd (by omega) (by omega) fun r r0 r1 => ?_
    (repeat fail "go")
    refine w_mod (by omega) ?_
    have a0 := Int.emod_nonneg r (show (m : Int) ≠ 0 by omega)
    have a1 := Int.emod_lt_of_pos r (show (0 : Int) < m by omega)
    (repeat fail "go")
    exact ⟨rfl, rfl, 1 + r % m, by omega, by omega, rfl⟩
  rintro _ H' ⟨rfl, low, l0, l1, rfl⟩
  have ep := absP (show 0 < low by omega)
  have en := absN' (show 0 < low by omega)
  have mp := absP (show (0 : Int) < m by omega)
  have mn := absN' (show (0 : Int) < m by omega)
  have m1 := absP (show (0 : Int) < (m : Int) + 1 by omega)
  have tl : T [] H' 2 70 (.int low) := aI (by omega) (by omega)
  refine w_seq ?_
  refine w_cut (J m p 10 (ds.map .int) low H') ?_ ?_
  · (repeat fail "go")
    refine ⟨rfl, _, _, rfl, last, ?_, rfl, by fail "lk", (Fm.app _).trans (Fm.app _)⟩
    have lr : (H' ++ [DO.lst [D.int low]])[H'.length]? = some (.lst [.int low]) := last
    have x0 : Fm [] H' (H' ++ [DO.lst [D.int low]]) := Fm.app _
    generalize H' ++ [DO.lst [D.int low]] = H1 at *
    intro x hx
    refine B.fm ?_ (Fm.app _)
    simp only [List.mem_cons, List.not_mem_nil, or_false] at hx
    rcases hx with rfl | rfl | rfl | rfl | rfl | rfl | rfl | rfl | rfl | rfl
    · exact ⟨t2 (tl.fm0 x0) (tl.fm0 x0), r2 (by omega)⟩
    · exact ⟨t2 (aI (by omega) (by omega)) (tl.fm0 x0), r2 (by rw [en, ep]; omega)⟩
    · exact ⟨t1 (aI (by omega) (by omega)), r1 (by rw [m1]; omega)⟩
    · exact ⟨t1 (aI (by omega) (by omega)), r1 (by rw [abs0]; omega)⟩
    · exact ⟨t1 aB, rX rfl⟩
    · exact ⟨t1 aS, rX rfl⟩
    · exact ⟨(aR lr (by omega) (by omega)).le (by omega) (by omega), rfl⟩
    · exact ⟨aN.le (by omega) (by omega), rfl⟩
    · exact ⟨(tl.fm0 x0).le (by omega) (by omega), rfl⟩
    · exact ⟨t2 (tl.fm0 x0) aN, rX2 rfl⟩
  rintro _ H1 ⟨xs, r, rfl, gr, bx, lx, gp, x1⟩
  refine w_seq ?_
  refine w_cut (J m p 14 (ds.map .int) low H') ?_ ?_
  · (repeat fail "go")
    refine w_addRR (by fail "lk") (by fail "lk") (by simp; omega) ?_
    (repeat fail "go")
    refine ⟨rfl, J.add bx lx gp x1 ?_ ?_⟩
    · repeat (refine Fm.trans ?_ (Fm.app _))
      exact Fm.refl
    · intro y hy
      simp only [List.mem_cons, List.not_mem_nil, or_false] at hy
      rcases hy with rfl | rfl | rfl | rfl
      · exact ⟨t2 (aI (by omega) (by omega)) (aI (by omega) (by omega)), r2 (by rw [abs0]; omega)⟩
      · exact ⟨t3 (aI (by omega) (by omega)) (aI (by omega) (by omega)) (aI (by omega) (by omega)), r3⟩
      · exact ⟨t1 (aR (i := low) (by fail "lk") (by omega) (by omega)), rX rfl⟩
      · exact ⟨(T.lst (k := 2) (w := 71) (by simp) (ds := [.ref _]) (by fail "lk") (Ts.cons (aR (i := low) (by fail "lk") (by omega) (by omega)) (Ts.nil (w := 0)))).le (by omega) (by omega), rfl⟩
  clear gr bx lx gp x1
  rintro _ H1 ⟨xs, r, rfl, gr, bx, lx, gp, x1⟩
  refine w_seq ?_
  refine w_cut (J m p 20 (ds.map .int) low H') ?_ ?_
  · (repeat fail "go")
    refine w_pow (by decide) (by decide) (by decide) ?_
    (repeat fail "go")
    refine w_addRR (by fail "lk") (by fail "lk") (by simp; omega) ?_
    (repeat fail "go")
    refine ⟨rfl, J.add bx lx gp x1 ?_ ?_⟩
    · repeat (refine Fm.trans ?_ (Fm.app _))
      exact Fm.refl
    · intro y hy
      simp only [List.mem_cons, List.not_mem_nil, or_false] at hy
      rcases hy with rfl | rfl | rfl | rfl | rfl | rfl
      · exact ⟨t2 (aI (by omega) (by omega)) (aI (by omega) (by omega)), r2 (by rw [en, show absZ (-1) = 1 from rfl]; omega)⟩
      · exact ⟨t1 (aI (by omega) (by omega)), r1 (by rw [show (0 : Int) - m - 1 = -((m : Int) + 1) by omega, absN' (show (0 : Int) < (m : Int) + 1 by omega)]; omega)⟩
      · exact ⟨t2 (aI (by omega) (by omega)) (aI (by omega) (by omega)), r2 (by rw [m1]; omega)⟩
      · exact ⟨t1 (T.big.le (Nat.le_refl _) (Nat.le_refl _)), r1 (by rw [show absZ ((10 : Int) ^ (20 : Int).toNat) = 100000000000000000000 from rfl]; omega)⟩
      · exact ⟨t1 (aT (by omega) (by omega)), rX rfl⟩
      · exact ⟨aS.le (by omega) (by omega), rfl⟩
  clear gr bx lx gp x1
  rintro _ H1 ⟨xs, r, rfl, gr, bx, lx, gp, x1⟩
  refine w_seq ?_
  refine w_cut (fun σ H2 => ∃ n, 0 < n ∧ n ≤ 40 ∧ J m p n (ds.map .int) low H' σ H2) ?_ ?_
  · (refine WP.w_if ?_; (repeat fail "go"))
    refine ⟨fun h => ?_, fun h => ?_⟩
    · have hm : 1 < m := by have := of_decide_eq_true h; omega
      refine w_seq ?_
      refine w_cut (J m p 27 (ds.map .int) low H') ?_ ?_
      · (repeat fail "go")
        refine w_addRR (by fail "lk") (by fail "lk") (by simp; omega) ?_
        (repeat fail "go")
        refine ⟨rfl, J.add bx lx gp x1 ?_ ?_⟩
        · repeat (refine Fm.trans ?_ (Fm.app _))
          exact Fm.refl
        · intro y hy
          simp only [List.mem_cons, List.not_mem_nil, or_false] at hy
          rcases hy with rfl | rfl | rfl | rfl | rfl | rfl | rfl
          · exact ⟨t2 (aI (by omega) (by omega)) (aI (by omega) (by omega)), r2 (by rw [mp, show absZ 1 = 1 from rfl]; omega)⟩
          · exact ⟨t2 (aI (by omega) (by omega)) (aI (by omega) (by omega)), r2 (by rw [show absZ 2 = 2 from rfl, show absZ (-1) = 1 from rfl]; omega)⟩
          · exact ⟨t2 (aI (by omega) (by omega)) (aI (by omega) (by omega)), r2 (by rw [mn, show absZ 1 = 1 from rfl]; omega)⟩
          · exact ⟨t3 (aI (by omega) (by omega)) (aI (by omega) (by omega)) (aI (by omega) (by omega)), r3⟩
          · exact ⟨t2 (aI (by omega) (by omega)) (aI (by omega) (by omega)), r2 (by rw [show absZ 1 = 1 from rfl, show absZ (-1) = 1 from rfl]; omega)⟩
          · exact ⟨t2 (aI (by omega) (by omega)) (aI (by omega) (by omega)), r2 (by rw [abs0]; omega)⟩
          · exact ⟨t2 aB (aI (by omega) (by omega)), rX rfl⟩
      clear gr bx lx gp x1
      rintro _ H1 ⟨xs, r, rfl, gr, bx, lx, gp, x1⟩
      (repeat fail "go")
      refine w_addRR (by fail "lk") (by fail "lk") (by simp; omega) ?_
      (repeat fail "go")
      refine ⟨rfl, 31, by omega, by omega, J.add bx lx gp x1 ?_ ?_⟩
      · repeat (refine Fm.trans ?_ (Fm.app _))
        exact Fm.refl
      · intro y hy
        simp only [List.mem_cons, List.not_mem_nil, or_false] at hy
        rcases hy with rfl | rfl | rfl | rfl
        · exact ⟨t2 aN (aI (by omega) (by omega)), rX rfl⟩
        · exact ⟨t2 aS (aI (by omega) (by omega)), rX rfl⟩
        · exact ⟨t2 (aR (i := low) (by fail "lk") (by omega) (by omega)) (aI (by omega) (by omega)), rX rfl⟩
        · exact ⟨t2 (aT (by omega) (by omega)) (aI (by omega) (by omega)), rX rfl⟩
    · (repeat fail "go")
      exact ⟨rfl, 20, by omega, by omega, xs, r, rfl, gr, bx, lx, gp, x1⟩
  clear gr bx lx gp x1
  rintro _ H1 ⟨n, n0, n1, xs, r, rfl, gr, bx, lx, gp, x1⟩
  (repeat fail "go")
  refine w_dig gp hd (by omega) (by omega) fun v v0 v1 => ?_
  (repeat fail "go")
  refine w_mod (by omega) ?_
  have a0 := Int.emod_nonneg v (show (xs.length : Int) ≠ 0 by omega)
  have a1 := Int.emod_lt_of_pos v (show (0 : Int) < xs.length by omega)
  have lt : (v % (xs.length : Int)).toNat < xs.length := by omega
  refine w_ixR gr (atI_toNat a0 (List.getElem?_eq_getElem lt)) ?_
  (repeat fail "go")
  exact q _ H1 (bx _ (List.getElem_mem lt)) x1
noncomputable def clD (ks : List D) (rss : List (List Int)) : D := .tup [.tup ks, .tup (rss.map rowD)]
noncomputable def PRow (m : Int) (ls : List Int) : Prop := Up m 0 ls ∧ ls.length ≤ 2
theorem rowA_up {m : Int} : ∀ (ls : List Int) (last : Int), Up m last ls → rowA m last (ls.map .int) = true
  | [], _, _ => rfl
  | l :: r, last, u => by
    obtain ⟨u1, u2, u3⟩ := u
    rw [List.map_cons, rowA, decide_eq_true u1, decide_eq_true u2, rowA_up r _ u3]; rfl
theorem rowB_up {m : Int} {ls : List Int} (h : PRow m ls) : rowB m (rowD ls) = true := by
  unfold rowD
  rw [rowB_tup, rowA_up ls 0 h.1]
  simp [h.2]
theorem kindB_of {d : D} (h : IsKind d) : kindB d = true := by rcases h with rfl | rfl <;> decide
theorem pairs_ok {ks : List D} {rss : List (List Int)} (hk : ∀ d ∈ ks, IsKind d) (l1 : ks.length ≤ 200) (hr : ∀ ls ∈ rss, PRow ks.length ls) (l2 : rss.length ≤ 600) : pairsB (clD ks rss) = true := by
  unfold clD
  rw [pairsB_two, kindsB_tup, rowsB_tup, decide_eq_true l1, decide_eq_true (by simpa using l2)]
  simp only [Bool.true_and, Bool.and_eq_true, List.all_eq_true]
  refine ⟨fun d hd => kindB_of (hk d hd), fun d hd => ?_⟩
  obtain ⟨ls, hl, rfl⟩ := List.mem_map.mp hd
  exact rowB_up (hr ls hl)
theorem Ts.all {S : List Nat} {k c : Nat} : ∀ {ds : List D}, (∀ d ∈ ds, T S H k c d) → Ts S H k (ds.length * (c + 1)) ds
  | [], _ => Ts.nil
  | d :: r, h => (Ts.cons (h d (by simp)) (Ts.all fun x hx => h x (by simp [hx]))).le (Nat.le_refl _) (by rw [List.length_cons, Nat.succ_mul]; omega)
theorem up_bd {m : Int} : ∀ (ls : List Int) (last : Int), 0 ≤ last → Up m last ls → ∀ l ∈ ls, absZ l ≤ m
  | [], _, _, _, _, h => by cases h
  | l :: r, last, h0, u, x, h => by
    obtain ⟨u1, u2, u3⟩ := u
    rcases List.mem_cons.mp h with rfl | h
    · exact u2
    · exact up_bd r (absZ l) (by omega) u3 x h
theorem abs_bd {l m : Int} (h : absZ l ≤ m) : -m ≤ l ∧ l ≤ m := by unfold absZ at h; split at h <;> omega
theorem T.row {S : List Nat} {m : Int} {ls : List Int} (hm : m ≤ 200) (h : PRow m ls) : T S H 3 300 (rowD ls) := by
  have a : ∀ d ∈ ls.map D.int, T S H 0 40 d := fun d hd => by
    obtain ⟨l, hl, rfl⟩ := List.mem_map.mp hd
    have := abs_bd (up_bd ls 0 (Int.le_refl _) h.1 l hl)
    exact T.int (by omega) (by omega)
  have l2 := h.2
  exact (T.tup (Ts.all a)).le (by omega) (by rw [List.length_map]; have : ls.length * 41 ≤ 2 * 41 := Nat.mul_le_mul_right _ l2; omega)
theorem T.kind {S : List Nat} {k : Nat} {d : D} (h : IsKind d) : T S H k 40 d := (T.of (Showy.kind h)).le (Nat.zero_le _) (Nat.le_refl _)
theorem Ts.rows {S : List Nat} {m : Int} {rss : List (List Int)} (hm : m ≤ 200) (h : ∀ ls ∈ rss, PRow m ls) : ∀ d ∈ rss.map rowD, T S H 3 300 d := fun d hd => by
  obtain ⟨ls, hl, rfl⟩ := List.mem_map.mp hd
  exact T.row hm (h ls hl)
structure Pc (ks : List D) (rss : List (List Int)) : Prop where
  hk : ∀ d ∈ ks, IsKind d
  k1 : 1 ≤ ks.length
  k20 : ks.length ≤ 20
  hr : ∀ ls ∈ rss, PRow ks.length ls
  l31 : rss.length ≤ 31
theorem two_sg (r : Int) : ∃ s : Int, (s = -1 ∨ s = 1) ∧ atI [D.int (-1), .int 1] (r % 2) = some (.int s) := by
  rcases (show r % 2 = 0 ∨ r % 2 = 1 by omega) with h | h <;> rw [h]
  · exact ⟨-1, .inl rfl, rfl⟩
  · exact ⟨1, .inr rfl, rfl⟩
theorem sort2 (x y : Int) : ∃ lo hi, isort [x, y] = [lo, hi] ∧ lo ≤ hi ∧ ((lo = x ∧ hi = y) ∨ (lo = y ∧ hi = x)) := by
  by_cases h : x ≤ y
  · refine ⟨x, y, ?_, h, .inl ⟨rfl, rfl⟩⟩
    unfold isort
    exact List.mergeSort_of_pairwise (by simp [h])
  · refine ⟨y, x, ?_, by omega, .inr ⟨rfl, rfl⟩⟩
    have p : (isort [x, y]).Perm [y, x] := (List.mergeSort_perm ..).trans (List.Perm.swap ..)
    refine List.Perm.eq_of_pairwise (le := fun a b => a ≤ b) (fun a b _ _ h1 h2 => by omega) ?_ (by simp; omega) p
    have := List.pairwise_mergeSort (le := fun a b : Int => decide (a ≤ b)) (by intro a b c; simp; omega) (by intro a b; simp; omega) [x, y]
    exact this.imp fun h => of_decide_eq_true h
theorem w_sort2 {p : Nat} {x y : Int} (g : H[p]? = some (.lst [.int x, .int y])) (q : ∀ lo hi, lo ≤ hi → ((lo = x ∧ hi = y) ∨ (lo = y ∧ hi = x)) → Q (.ref H.length) (H ++ [.lst [.int lo, .int hi]])) : wE (sortedD [.ref p] H) Q := by
  obtain ⟨lo, hi, e, l, o⟩ := sort2 x y
  refine ⟨.ref H.length, H ++ [.lst [.int lo, .int hi]], ?_, q lo hi l o⟩
  unfold sortedD
  simp only [seqD, g, Option.bind_some, intsD, Option.map_some]
  rw [if_pos ⟨by simp, rfl⟩, e]
  rfl
theorem w_gtl {n : Nat} {g : GFs} {p : Nat} {ds : List D} {σ : SD} {Q : SD → HD → Prop} (e : H[p]? = some (.lst ds)) (hl : ds.length = n) (h : wG (g ds σ H) Q) : wG (gTl n g (.ref p) σ H) Q := by
  obtain ⟨d, H1, e1, q⟩ := h
  exact ⟨d, H1, by simp only [gTl, e, if_pos hl, e1], q⟩
theorem abs_sgn {a s : Int} (h : 0 < a) (hs : s = -1 ∨ s = 1) : absZ (a * s) = a := by rcases hs with rfl | rfl <;> (unfold absZ; split <;> omega)
theorem w_pair {p : Nat} {ds : List Int} (h0 : 1 ≤ m) (h1 : m ≤ 200) (g : H[p]? = some (.lst (ds.map .int))) (hd : Digs ds) (hl : 4 ≤ ds.length) (q : ∀ ls H', PRow m ls → Fm [] H H' → Q (rowD ls) H') : wE (m_law_pair [.ref p, .int m] H) Q := by
  refine w_run rfl ?_
  show wS (b_law_pair [some (.ref p), some (.int m), none, none, none, none] H) _
  unfold b_law_pair
  (repeat fail "go")
  refine w_dig g hd (by omega) (by omega) fun r r0 r1 => ?_
  (repeat fail "go")
  refine w_mod (by omega) ?_
  have a0 := Int.emod_nonneg r (show (m : Int) ≠ 0 by omega)
  have a1 := Int.emod_lt_of_pos r (show (0 : Int) < m by omega)
  generalize r % (m : Int) = a at *
  (repeat fail "go")
  refine w_dig g hd (by omega) (by omega) fun r' r0' r1' => ?_
  (repeat fail "go")
  refine w_mod (by omega) ?_
  have b0 := Int.emod_nonneg r' (show (m : Int) ≠ 0 by omega)
  have b1 := Int.emod_lt_of_pos r' (show (0 : Int) < m by omega)
  generalize r' % (m : Int) = b at *
  (repeat fail "go"); (refine WP.w_if ?_; (repeat fail "go"))
  refine ⟨fun h => ?_, fun h => ?_⟩
  · (repeat fail "go")
    refine w_dig (appL g) hd (by omega) (by omega) fun v v0 v1 => ?_
    (repeat fail "go")
    obtain ⟨s, hs, es⟩ := two_sg v
    refine w_ixR last es ?_
    refine w_mulL (by omega) (by omega) ?_
    (repeat fail "go")
    refine q [(1 + a) * s] _ ⟨⟨?_, ?_, trivial⟩, by simp⟩ (Fm.app _)
    · rw [abs_sgn (by omega) hs]; omega
    · rw [abs_sgn (by omega) hs]; omega
  · have hne : a ≠ b := fun z => by subst z; simp at h
    (repeat fail "go")
    refine w_sort2 last fun lo hi l o => ?_
    (repeat fail "go")
    refine w_gtl last rfl ?_
    (repeat fail "go")
    refine w_dig (by fail "lk") hd (by omega) (by omega) fun v v0 v1 => ?_
    (repeat fail "go")
    obtain ⟨s, hs, es⟩ := two_sg v
    refine w_ixR (by fail "lk") es ?_
    refine w_mulL (by omega) (by omega) ?_
    (repeat fail "go")
    refine w_dig (by fail "lk") hd (by omega) (by omega) fun v' v0' v1' => ?_
    (repeat fail "go")
    obtain ⟨s', hs', es'⟩ := two_sg v'
    refine w_ixR (by fail "lk") es' ?_
    refine w_mulL (by omega) (by omega) ?_
    (repeat fail "go")
    refine q [lo * s, hi * s'] _ ⟨⟨?_, ?_, ?_, ?_, trivial⟩, by simp⟩ ?_
    · rw [abs_sgn (by omega) hs]; omega
    · rw [abs_sgn (by omega) hs]; omega
    · rw [abs_sgn (by omega) hs, abs_sgn (by omega) hs']; omega
    · rw [abs_sgn (by omega) hs']; omega
    · repeat (refine Fm.trans ?_ (Fm.app _))
      exact Fm.refl
theorem w_slL {p : Nat} {xs : List D} {k : Nat} (g : H[p]? = some (.lst xs)) (q : Q (.ref H.length) (H ++ [.lst (xs.drop k)])) : wE (slD (.ref p) (some (k : Int)) none H) Q :=
  ⟨_, _, by rw [← cut_lo]; simp only [slD, g], q⟩
theorem Digs.drop {ds : List Int} (h : Digs ds) (k : Nat) : Digs (ds.drop k) := fun d hd => h d (List.mem_of_mem_drop hd)
theorem Digs.app {a b : List Int} (h : Digs a) (g : Digs b) : Digs (a ++ b) := fun d hd => by
  rcases List.mem_append.mp hd with z | z
  · exact h d z
  · exact g d z
theorem Digs.half {ds : List Int} (h : Digs ds) : Digs (ds.map (· / 2)) := fun d hd => by
  obtain ⟨x, hx, rfl⟩ := List.mem_map.mp hd
  have := h x hx
  omega
theorem w_ins {p : Nat} {xs : List D} {i : Int} {d : D} (g : H[p]? = some (.lst xs)) (h0 : 0 ≤ i) (h1 : i ≤ xs.length) (h2 : xs.length < 1000000) (q : Q .non (H.set p (.lst (xs.take i.toNat ++ [d] ++ xs.drop i.toNat)))) : wE (insertD (.ref p) [.int i, d] H) Q := by
  refine ⟨_, _, ?_, q⟩
  have sz : sizeLine = 16777216 := PySem.sizeLine_eq
  unfold insertD
  simp only [g]
  rw [if_pos ⟨h0, h1, by omega⟩]
theorem w_pairs {ns : List Int} (q : ∀ ks rss H', Pc ks rss → Fm [] H H' → Q (clD ks rss) H') : wE (m_law_pairs [.fl (ns.map .int), .int 20, .int 30] H) Q := by
  refine w_run rfl ?_
  show wS (b_law_pairs [some (.fl (ns.map .int)), some (.int 20), some (.int 30), none, none, none, none, none] H) _
  unfold b_law_pairs
  (repeat fail "go")
  refine w_at (by decide) (by decide) fun c => ?_
  (repeat fail "go")
  refine w_digits (many := 14) (by omega) fun ds p H1 l1 d1 g1 lp x1 => ?_
  (repeat fail "go")
  refine w_dig g1 d1 (by omega) (by omega) fun r r0 r1 => ?_
  (repeat fail "go")
  obtain ⟨n, hn, n1, n20⟩ : ∃ n : Nat, (1 + r % 20 : Int) = n ∧ 1 ≤ n ∧ n ≤ 20 := ⟨(1 + r % 20).toNat, by omega, by omega, by omega⟩
  rw [hn]
  refine w_slL (k := 2) g1 ?_
  (repeat fail "go")
  refine w_cmap (fun d => match d with | .int i => .int (i / 2) | _ => .non) (fun H' => H' = H1 ++ [.lst ((ds.map D.int).drop 2)]) (fun H' j => by rw [j]; exact own1 (appL g1)) _ (fun x hx H2 j => ?_) _ rfl fun H2 j => ?_
  · obtain ⟨l, hl, rfl⟩ := List.mem_map.mp hx
    subst j
    (repeat fail "go")
    exact ⟨rfl, rfl⟩
  subst j
  have eh : (ds.map D.int).map (fun d => match d with | .int i => D.int (i / 2) | _ => .non) = (ds.map (· / 2)).map .int := by rw [List.map_map, List.map_map]; rfl
  rw [eh]
  refine ⟨by simp; omega, ?_⟩
  (repeat fail "go")
  refine w_addRR (by fail "lk") (by fail "lk") (by simp; omega) ?_
  (repeat fail "go")
  refine w_addRR (by fail "lk") (by fail "lk") (by simp; omega) ?_
  (repeat fail "go")
  have ea : (ds.map D.int).drop 2 ++ (ds.map (· / 2)).map D.int ++ ds.map D.int = (ds.drop 2 ++ ds.map (· / 2) ++ ds).map .int := by simp
  rw [ea]
  refine w_kinds last ((d1.drop 2).app d1.half |>.app d1) (by simp; omega) (by omega) fun ks H3 hk lk x3 => ?_
  have x03 : Fm [] H H3 := by
    refine Fm.trans ?_ x3
    repeat (refine Fm.trans ?_ (Fm.app _))
    exact x1
  have g3 : H3[p]? = some (.lst (ds.map .int)) := x3.lst (by simp) (by fail "lk")
  clear x3
  (repeat fail "go")
  refine w_dig (appL g3) d1 (by omega) (by omega) fun v v0 v1 => ?_
  (repeat fail "go")
  have hp : p < H3.length := (List.getElem?_eq_some_iff.mp g3).1
  refine ⟨_, rfl, ⟨by omega, by omega⟩, ?_⟩
  have b30 : (v % (30 + 1)).toNat ≤ 30 := by omega
  refine w_loop (fun d t σ H' => d ++ t = rangeL 0 (v % (30 + 1)).toNat ∧ ∃ (rss : List (List Int)) (z : Option D), rss.length = d.length ∧ (∀ ls ∈ rss, PRow n ls) ∧ H'[H3.length]? = some (.lst (rss.map rowD)) ∧ Fm [H3.length] (H3 ++ [.lst []]) H' ∧ σ = [some (.fl (ns.map .int)), some (.int 20), some (.int 30), some (.ref p), some (.int n), some (.tup ks), some (.ref H3.length), z]) (fun _ _ _ _ _ => own0) (fun d x t σ H4 ⟨e0, rss, z, e1, e2, e3, x4, e5⟩ => ?_) (fun d σ H4 ⟨e0, rss, z, e1, e2, e3, x4, e5⟩ => ?_) _ [] _ _ ⟨rfl, [], _, rfl, (by intro d h; cases h), last, Fm.refl, rfl⟩
  · subst e5
    have hx : x ∈ rangeL 0 (v % (30 + 1)).toNat := by rw [← e0]; simp
    simp only [rangeL, List.mem_map, List.mem_range] at hx
    obtain ⟨i, hi, rfl⟩ := hx
    have hdl : d.length ≤ 30 := by
      have := congrArg List.length e0
      simp [rangeL] at this
      omega
    (repeat fail "go")
    refine ⟨isl e3, ?_⟩
    (repeat fail "go")
    refine w_at (by omega) (by omega) fun c2 => ?_
    (repeat fail "go")
    refine w_digits (many := 14) (by omega) fun ds2 p2 H5 l5 d5 g5 _ x5 => ?_
    (repeat fail "go")
    refine w_slL (k := 10) g5 ?_
    rw [← List.map_drop]
    (repeat fail "go")
    refine w_pair n1 (by omega) last (d5.drop 10) (by simp; omega) fun ls H6 hls x6 => ?_
    have e3' := x6.lst (by simp) (appL (x5.lst (by simp) e3))
    (repeat fail "go")
    refine w_app e3' (by simp; omega) ?_
    (repeat fail "go")
    refine ⟨by rw [← e0]; simp, rss ++ [ls], _, by simp [e1], fun l hl => ?_, ?_, ((x4.trans (x5.sub (by simp))).trans ((Fm.app _).trans (x6.sub (by simp)))).trans (Fm.set (by simp)), rfl⟩
    · rcases List.mem_append.mp hl with h | h
      · exact e2 l h
      · simp at h; rw [h]; exact hls
    · rw [List.map_append]; exact setS e3'
  · subst e5
    have hdl : d.length ≤ 30 := by
      have := congrArg List.length e0
      simp [rangeL] at this
      omega
    have g4 : H4[p]? = some (.lst (ds.map .int)) := x4.lst (by simp; omega) (appL g3)
    refine w_kn (w_seq ?_)
    refine w_cut (fun σ H5 => ∃ (rss : List (List Int)) (z : Option D), rss.length ≤ 31 ∧ (∀ ls ∈ rss, PRow n ls) ∧ H5[H3.length]? = some (.lst (rss.map rowD)) ∧ Fm [H3.length] (H3 ++ [.lst []]) H5 ∧ σ = [some (.fl (ns.map .int)), some (.int 20), some (.int 30), some (.ref p), some (.int n), some (.tup ks), some (.ref H3.length), z]) ?_ ?_
    · (refine WP.w_if ?_; (repeat fail "go"))
      refine w_dig g4 d1 (by omega) (by omega) fun u u0 u1 => ?_
      (repeat fail "go")
      refine ⟨fun h => ?_, fun h => ?_⟩
      · (repeat fail "go")
        refine ⟨isl e3, ?_⟩
        (repeat fail "go")
        refine w_dig g4 d1 (by omega) (by omega) fun u' u0' u1' => ?_
        (repeat fail "go")
        refine w_mod (by omega) ?_
        have b0 := Int.emod_nonneg u' (show ((rss.map rowD).length : Int) + 1 ≠ 0 by omega)
        have b1 := Int.emod_lt_of_pos u' (show (0 : Int) < ((rss.map rowD).length : Int) + 1 by omega)
        generalize u' % (((rss.map rowD).length : Int) + 1) = b at *
        (repeat fail "go")
        refine w_ins e3 b0 (by omega) (by simp; omega) ?_
        (repeat fail "go")
        have ei : (rss.map rowD).take b.toNat ++ [.tup []] ++ (rss.map rowD).drop b.toNat = (rss.take b.toNat ++ [[]] ++ rss.drop b.toNat).map rowD := by simp [rowD]
        rw [ei]
        refine ⟨rfl, rss.take b.toNat ++ [[]] ++ rss.drop b.toNat, _, by simp; omega, fun l hl => ?_, setS e3, x4.trans (Fm.set (by simp)), rfl⟩
        simp only [List.append_assoc, List.mem_append, List.mem_singleton] at hl
        rcases hl with h | rfl | h
        · exact e2 l (List.mem_of_mem_take h)
        · exact ⟨trivial, by simp⟩
        · exact e2 l (List.mem_of_mem_drop h)
      · (repeat fail "go")
        exact ⟨rfl, rss, _, by omega, e2, e3, x4, rfl⟩
    rintro _ H5 ⟨rss, z, lr, hr, g5, x5, rfl⟩
    (repeat fail "go")
    refine q ks rss H5 ⟨hk, by omega, by omega, by rw [lk]; exact hr, lr⟩ ?_
    exact x03.trans ((Fm.app (S := []) _).new x5 (by intro m hm _; simp at hm; omega))
noncomputable def Sp (H : HD) (d : D) : Prop := T [] H 6 390000 d ∧ pairsB d = false
theorem Sp.fm {H H' : HD} {d : D} (b : Sp H d) (x : Fm [] H H') : Sp H' d := ⟨b.1.fm0 x, b.2⟩
noncomputable def Wk (H : HD) (d : D) : Prop := T [] H 3 300 d ∧ kindB d = false
theorem Wk.fm {H H' : HD} {d : D} (b : Wk H d) (x : Fm [] H H') : Wk H' d := ⟨b.1.fm0 x, b.2⟩
theorem bS {x : Str} (h : (x.cps.toList.all fun c => decide (c < 0x110000)) = true) (h2 : (x.cps.toList.all fun c => decide (c < 16 ^ 8)) = true) (h3 : x.cps.size ≤ 40) : T [] H 3 300 (.str x) := (T.str h h2 h3).le (Nat.le_refl _) (by omega)
theorem T.two' {w1 w2 : Nat} {a b : D} (x : T [] H 5 w1 a) (y : T [] H 5 w2 b) (h : w1 + w2 + 2 ≤ 390000) : T [] H 6 390000 (.tup [a, b]) := (T.tup (Ts.cons x (Ts.cons y (Ts.nil (w := 0))))).le (by omega) (by omega)
theorem T.tupA {ds : List D} {n : Nat} (h : ∀ d ∈ ds, T [] H 3 300 d) (l : ds.length ≤ n) : T [] H 5 (n * 301) (.tup ds) := (T.tup (Ts.all h)).le (by omega) (Nat.mul_le_mul_right _ l)
theorem T.lstA {p : Nat} {ds : List D} {n : Nat} (g : H[p]? = some (.lst ds)) (h : ∀ d ∈ ds, T [] H 3 300 d) (l : ds.length ≤ n) : T [] H 5 (n * 301) (.ref p) := (T.lst (by simp) g (Ts.all h)).le (by omega) (Nat.mul_le_mul_right _ l)
theorem kindsB_no {ds : List D} {x : D} (hx : x ∈ ds) (h : kindB x = false) : kindsB (.tup ds) = false := by
  rw [kindsB_tup]
  have : ds.all kindB = false := by rw [List.all_eq_false]; exact ⟨x, hx, by rw [h]; simp⟩
  rw [this]; simp
theorem rowsB_no {m : Int} {ds : List D} {x : D} (hx : x ∈ ds) (h : rowB m x = false) : rowsB m (.tup ds) = false := by
  rw [rowsB_tup]
  have : ds.all (rowB m) = false := by rw [List.all_eq_false]; exact ⟨x, hx, by rw [h]; simp⟩
  rw [this]; simp
theorem pairs_k {k r : D} (h : kindsB k = false) : pairsB (.tup [k, r]) = false := by rw [pairsB_two, h]; rfl
theorem pairs_r {k r : D} (h : ∀ m, rowsB m r = false) : pairsB (.tup [k, r]) = false := by rw [pairsB_two, h]; simp
theorem pairs_r' {ks : List D} {r : D} (h : rowsB (ks.length : Int) r = false) : pairsB (.tup [.tup ks, r]) = false := by
  rw [pairsB_two, show lenN (.tup ks) = ks.length from rfl, h]; simp
theorem pairs_ks {ks : List D} (h : ∀ d ∈ ks, IsKind d) : pairsB (.tup ks) = false := by
  match ks, h with
  | [], _ => rfl
  | [_], _ => rfl
  | [a, b], h => rcases h a (by simp) with rfl | rfl <;> rfl
  | _ :: _ :: _ :: _, _ => rfl
theorem rep_len {n : Nat} {x : D} : (List.replicate n [x]).flatten = List.replicate n x := List.flatten_replicate_singleton
theorem rowsB_len {m : Int} {ds : List D} (h : 600 < ds.length) : rowsB m (.tup ds) = false := by rw [rowsB_tup, decide_eq_false (by omega)]; rfl
theorem kindsB_len {ds : List D} (h : 200 < ds.length) : kindsB (.tup ds) = false := by rw [kindsB_tup, decide_eq_false (by omega)]; rfl
structure Ct (H : HD) (ks : List D) (rss : List (List Int)) : Prop where
  k : ∀ d ∈ ks, T [] H 3 300 d
  r : ∀ d ∈ rss.map rowD, T [] H 3 300 d
theorem Pc.ct {ks : List D} {rss : List (List Int)} (c : Pc ks rss) : Ct H ks rss := ⟨fun d hd => (T.kind (c.hk d hd)).le (Nat.le_refl _) (by omega), Ts.rows (by have := c.k20; omega) c.hr⟩
theorem mem_mid {α : Type} {xs ys : List α} {x : α} : x ∈ xs ++ [x] ++ ys := by simp
theorem T.mid {xs ys : List D} {x : D} (h1 : ∀ d ∈ xs, T [] H 3 300 d) (h2 : T [] H 3 300 x) (h3 : ∀ d ∈ ys, T [] H 3 300 d) : ∀ d ∈ xs ++ [x] ++ ys, T [] H 3 300 d := by
  intro d hd
  simp only [List.append_assoc, List.mem_append, List.mem_singleton] at hd
  rcases hd with h | rfl | h
  · exact h1 d h
  · exact h2
  · exact h3 d h
theorem sp_row {ks : List D} {rss : List (List Int)} {a b : List D} {d : D} (c : Pc ks rss) (ha : ∀ x ∈ a, T [] H 3 300 x) (hb : ∀ x ∈ b, T [] H 3 300 x) (l : (a ++ [d] ++ b).length ≤ 40) (h : B ks.length H d) : Sp H (.tup [.tup ks, .tup (a ++ [d] ++ b)]) := by
  have k20 := c.k20
  refine ⟨T.two' (T.tupA c.ct.k k20) (T.tupA (T.mid ha h.1 hb) l) (by omega), pairs_r' (rowsB_no mem_mid h.2)⟩
theorem w_listT {ks : List D} (h : ks.length ≤ 1000) (q : Q (.ref H.length) (H ++ [.lst ks])) : wE (listD [.tup ks] H) Q := by
  refine ⟨_, _, ?_, q⟩
  have sz : sizeLine = 16777216 := PySem.sizeLine_eq
  simp [listD, seqD]
theorem w_mulT {x : D} {k : Int} (h0 : 0 ≤ k) (h1 : k ≤ 1000) (q : Q (.tup (List.replicate k.toNat x)) H) : wE (mulD (.tup [x]) (.int k) H) Q := ⟨_, _, muT (by omega) h1 (by simp), by rw [rep_len]; exact q⟩
noncomputable abbrev sj (ks : List D) (rss : List (List Int)) (p : Nat) (a : Option D) (o w t : Option D) : SD := [some (clD ks rss), some (.ref p), a, o, w, t, some (.tup ks), some (.tup (rss.map rowD))]
noncomputable def JT (ks : List D) (rss : List (List Int)) (p n : Nat) (L : List D) (H : HD) (σ : SD) (H' : HD) : Prop := ∃ xs r a o w, σ = sj ks rss p a o w (some (.ref r)) ∧ H'[r]? = some (.lst xs) ∧ (∀ x ∈ xs, Sp H' x) ∧ xs.length = n ∧ H'[p]? = some (.lst L) ∧ Fm [] H H'
theorem JT.add {ks : List D} {rss : List (List Int)} {p n : Nat} {L : List D} {H H1 H2 : HD} {xs ys : List D} {a o w : Option D} (b : ∀ x ∈ xs, Sp H1 x) (l0 : xs.length = n) (gp : H1[p]? = some (.lst L)) (x1 : Fm [] H H1) (x2 : Fm [] H1 H2) (c : ∀ y ∈ ys, Sp H2 y) :
    JT ks rss p (n + ys.length) L H (sj ks rss p a o w (some (.ref H2.length))) (H2 ++ [.lst (xs ++ ys)]) := by
  refine ⟨xs ++ ys, H2.length, a, o, w, rfl, last, fun x hx => ?_, by simp [l0], appL (x2.lst (by simp) gp), (x1.trans x2).trans (Fm.app _)⟩
  rcases List.mem_append.mp hx with h | h
  · exact (b x h).fm (x2.trans (Fm.app _))
  · exact (c x h).fm (Fm.app _)
theorem nilT {w : Nat} : T [] H 5 w (.tup []) := (T.tup (Ts.nil (w := 0) (k := 4))).le (by omega) (by omega)
theorem all_rep {n : Nat} {x : D} (h : T [] H 3 300 x) : ∀ d ∈ List.replicate n x, T [] H 3 300 d := fun d hd => by rw [(List.mem_replicate.mp hd).2]; exact h
theorem w_spoilt {ks : List D} {rss : List (List Int)} {p : Nat} {ds : List Int} (c : Pc ks rss) (g : H[p]? = some (.lst (ds.map .int))) (hd : Digs ds) (hl : ds.length = 8) (q : ∀ d H', Sp H' d → Fm [] H H' → Q d H') : wE (m_law_spoilt [clD ks rss, .ref p] H) Q := by
  have k1 := c.k1
  have k20 := c.k20
  have l31 := c.l31
  refine w_run rfl ?_
  show wS (b_law_spoilt [some (clD ks rss), some (.ref p), none, none, none, none, none, none] H) _
  unfold b_law_spoilt clD
  (repeat fail "go")
  refine w_dig g hd (by omega) (by omega) fun r r0 r1 => ?_
  (repeat fail "go")
  refine w_mod (by omega) ?_
  have a0 := Int.emod_nonneg r (show ((rss.map rowD).length : Int) + 1 ≠ 0 by omega)
  have a1 := Int.emod_lt_of_pos r (show (0 : Int) < ((rss.map rowD).length : Int) + 1 by omega)
  obtain ⟨a, ha⟩ : ∃ a : Nat, r % (((rss.map rowD).length : Int) + 1) = a := ⟨(r % (((rss.map rowD).length : Int) + 1)).toNat, by omega⟩
  rw [ha] at a0 a1 ⊢
  refine w_kn ?_
  refine w_seq ?_
  refine w_if ?_
  (repeat fail "go")
  refine w_dig g hd (by omega) (by omega) fun v v0 v1 => ?_
  (repeat fail "go")
  refine ⟨fun h => ?_, fun h => ?_⟩
  · (repeat fail "go")
    refine w_slL (k := 2) g ?_
    rw [← List.map_drop]
    (repeat fail "go")
    refine w_badRow k1 (by omega) last (hd.drop 2) (by simp; omega) fun d H1 b x1 => ?_
    (repeat fail "go")
    refine q _ H1 (sp_row c (fun x hx => c.ct.r x (List.mem_of_mem_take hx)) (fun x hx => c.ct.r x (List.mem_of_mem_drop hx)) (by simp; omega) b) ((Fm.app _).trans x1)
  (repeat fail "go")
  refine w_dig g hd (by omega) (by omega) fun u u0 u1 => ?_
  (repeat fail "go")
  refine w_mod (by omega) ?_
  have b0 := Int.emod_nonneg u (show (ks.length : Int) ≠ 0 by omega)
  have b1 := Int.emod_lt_of_pos u (show (0 : Int) < ks.length by omega)
  obtain ⟨b, hb⟩ : ∃ b : Nat, u % (ks.length : Int) = b := ⟨(u % (ks.length : Int)).toNat, by omega⟩
  rw [hb] at b0 b1 ⊢
  clear hb ha a0 a1
  refine w_kn ?_
  -- kinds that are none
  refine w_seq ?_
  refine w_cut (fun σ H' => ∃ xs o, σ = sj ks rss p (some (.int b)) (some (.ref o)) none none ∧ H'[o]? = some (.lst xs) ∧ (∀ x ∈ xs, Wk H' x) ∧ xs.length = 15 ∧ H'[p]? = some (.lst (ds.map .int)) ∧ Fm [] H H') ?_ ?_
  · (repeat fail "go")
    refine ⟨rfl, _, _, rfl, last, ?_, rfl, by fail "lk", (Fm.app _).trans (Fm.app _)⟩
    have lr : (H ++ [DO.lst [D.str "all"]])[H.length]? = some (.lst [.str "all"]) := last
    generalize H ++ [DO.lst [D.str "all"]] = H1 at *
    intro x hx
    refine Wk.fm ?_ (Fm.app _)
    simp only [List.mem_cons, List.not_mem_nil, or_false] at hx
    rcases hx with rfl | rfl | rfl | rfl | rfl | rfl | rfl | rfl | rfl | rfl | rfl | rfl | rfl | rfl | rfl
    · exact ⟨bS (by decide) (by decide) (by decide), by decide⟩
    · exact ⟨bS (by decide) (by decide) (by decide), by decide⟩
    · exact ⟨bS (by decide) (by decide) (by decide), by decide⟩
    · exact ⟨aN.le (by omega) (by omega), rfl⟩
    · exact ⟨(aI (by omega) (by omega)).le (by omega) (by omega), rfl⟩
    · exact ⟨aB.le (by omega) (by omega), rfl⟩
    · exact ⟨(T.tup (Ts.cons (T.str (k := 0) (by decide) (by decide) (by decide)) (Ts.nil (w := 0)))).le (by omega) (by omega), rfl⟩
    · exact ⟨bS (by decide) (by decide) (by decide), by decide⟩
    · exact ⟨(T.lst (by simp) lr (Ts.cons (T.str (k := 0) (by decide) (by decide) (by decide)) (Ts.nil (w := 0)))).le (by omega) (by omega), rfl⟩
    · exact ⟨bS (by decide) (by decide) (by decide), by decide⟩
    · exact ⟨bS (by decide) (by decide) (by decide), by decide⟩
    · exact ⟨bS (by decide) (by decide) (by decide), by decide⟩
    · exact ⟨bS (by decide) (by decide) (by decide), by decide⟩
    · exact ⟨bS (by decide) (by decide) (by decide), by decide⟩
    · exact ⟨bS (by decide) (by decide) (by decide), by decide⟩
  rintro _ H1 ⟨xs, o, rfl, go1, wx, lx, gp, x1⟩
  refine w_seq ?_
  refine w_cut (fun σ H' => ∃ wr, σ = sj ks rss p (some (.int b)) (some (.ref o)) (some wr) none ∧ Wk H' wr ∧ H'[p]? = some (.lst (ds.map .int)) ∧ Fm [] H H') ?_ ?_
  · (repeat fail "go")
    refine w_addRR (by fail "lk") (by fail "lk") (by simp; omega) ?_
    (repeat fail "go")
    refine w_dig (by fail "lk") hd (by omega) (by omega) fun v' v0' v1' => ?_
    (repeat fail "go")
    have c0 := Int.emod_nonneg v' (show (19 : Int) ≠ 0 by decide)
    have c1 := Int.emod_lt_of_pos v' (show (0 : Int) < 19 by decide)
    have lt : (v' % 19).toNat < (xs ++ [D.str "al", .str "ALL", .str "all some", .str "someall"]).length := by simp; omega
    refine w_ixR last (atI_toNat c0 (List.getElem?_eq_getElem lt)) ?_
    (repeat fail "go")
    refine ⟨rfl, _, rfl, ?_, by fail "lk", (x1.trans (Fm.app _)).trans (Fm.app _)⟩
    have hm := List.getElem_mem lt
    generalize (xs ++ [D.str "al", .str "ALL", .str "all some", .str "someall"])[(v' % 19).toNat] = x at *
    rcases List.mem_append.mp hm with hm | hm
    · exact (wx x hm).fm ((Fm.app _).trans (Fm.app _))
    · simp only [List.mem_cons, List.not_mem_nil, or_false] at hm
      rcases hm with rfl | rfl | rfl | rfl <;> exact ⟨bS (by decide) (by decide) (by decide), by decide⟩
  clear go1 wx lx gp x1 xs
  rintro _ H1 ⟨wr, rfl, hw, gp, x1⟩
  refine w_seq ?_
  refine w_cut (JT ks rss p 4 (ds.map .int) H) ?_ ?_
  · (repeat fail "go")
    refine w_listT (by omega) ?_
    (repeat fail "go")
    refine w_listT (by simp; omega) ?_
    (repeat fail "go")
    refine ⟨rfl, _, _, _, _, _, rfl, last, ?_, rfl, by fail "lk", ?_⟩
    · have lr : (H1 ++ [DO.lst ks] ++ [DO.lst (rss.map rowD)] ++ [DO.lst [.tup ks, .tup (rss.map rowD)]])[H1.length]? = some (.lst ks) := by fail "lk"
      have lr2 : (H1 ++ [DO.lst ks] ++ [DO.lst (rss.map rowD)] ++ [DO.lst [.tup ks, .tup (rss.map rowD)]])[(H1 ++ [DO.lst ks]).length]? = some (.lst (rss.map rowD)) := by fail "lk"
      have lr3 : (H1 ++ [DO.lst ks] ++ [DO.lst (rss.map rowD)] ++ [DO.lst [.tup ks, .tup (rss.map rowD)]])[(H1 ++ [DO.lst ks] ++ [DO.lst (rss.map rowD)]).length]? = some (.lst [.tup ks, .tup (rss.map rowD)]) := by fail "lk"
      have xw : Fm [] H1 (H1 ++ [DO.lst ks] ++ [DO.lst (rss.map rowD)] ++ [DO.lst [.tup ks, .tup (rss.map rowD)]]) := ((Fm.app _).trans (Fm.app _)).trans (Fm.app _)
      generalize H1 ++ [DO.lst ks] ++ [DO.lst (rss.map rowD)] ++ [DO.lst [.tup ks, .tup (rss.map rowD)]] = H2 at *
      intro x hx
      refine Sp.fm ?_ (Fm.app _)
      simp only [List.mem_cons, List.not_mem_nil, or_false] at hx
      have ct : Ct H2 ks rss := c.ct
      rcases hx with rfl | rfl | rfl | rfl
      · exact ⟨T.two' (T.tupA (n := 30) (T.mid (fun x hx => ct.k x (List.mem_of_mem_take hx)) (hw.fm xw).1 (fun x hx => ct.k x (List.mem_of_mem_drop hx))) (by simp; omega)) (nilT (w := 0)) (by omega), pairs_k (kindsB_no mem_mid hw.2)⟩
      · exact ⟨T.two' (T.lstA (n := 30) lr ct.k (by omega)) (T.tupA (n := 40) ct.r (by simp; omega)) (by omega), pairs_k rfl⟩
      · exact ⟨T.two' (T.tupA (n := 30) ct.k (by omega)) (T.lstA (n := 40) lr2 ct.r (by simp; omega)) (by omega), pairs_r fun _ => rfl⟩
      · exact ⟨(T.lst (by simp) lr3 (Ts.cons (T.tupA (n := 30) ct.k (by omega)) (Ts.cons (T.tupA (n := 40) ct.r (by simp; omega)) (Ts.nil (w := 0))))).le (by omega) (by omega), rfl⟩
    · repeat (refine Fm.trans ?_ (Fm.app _))
      exact x1
  clear gp x1 hw
  rintro _ H1 ⟨xs, r, a', o', w', rfl, gr, bx, lx, gp, x1⟩
  refine w_seq ?_
  refine w_cut (JT ks rss p 11 (ds.map .int) H) ?_ ?_
  · (repeat fail "go")
    refine w_mulT (by decide) (by decide) ?_
    (repeat fail "go")
    refine w_mulT (by decide) (by decide) ?_
    (repeat fail "go")
    refine w_addRR (by fail "lk") (by fail "lk") (by simp; omega) ?_
    (repeat fail "go")
    refine ⟨rfl, JT.add bx lx gp x1 ?_ ?_⟩
    · repeat (refine Fm.trans ?_ (Fm.app _))
      exact Fm.refl
    · intro y hy
      simp only [List.mem_cons, List.not_mem_nil, or_false] at hy
      have ct : Ct (H1 ++ [DO.lst [D.tup [D.tup ks], D.tup [D.tup ks, D.tup (rss.map rowD), D.tup []], D.tup [D.tup (List.replicate (201 : Int).toNat (D.str "all")), D.tup []], D.tup [D.tup ks, D.tup (List.replicate (601 : Int).toNat (D.tup [D.int 1]))], D.non, D.tup ks, D.str "claim"]]) ks rss := c.ct
      generalize H1 ++ [DO.lst [D.tup [D.tup ks], D.tup [D.tup ks, D.tup (rss.map rowD), D.tup []], D.tup [D.tup (List.replicate (201 : Int).toNat (D.str "all")), D.tup []], D.tup [D.tup ks, D.tup (List.replicate (601 : Int).toNat (D.tup [D.int 1]))], D.non, D.tup ks, D.str "claim"]] = H2 at *
      rcases hy with rfl | rfl | rfl | rfl | rfl | rfl | rfl
      · exact ⟨(T.tup (Ts.cons (T.tupA (n := 30) ct.k (by omega)) (Ts.nil (w := 0)))).le (by omega) (by omega), rfl⟩
      · exact ⟨(T.tup (Ts.cons (T.tupA (n := 30) ct.k (by omega)) (Ts.cons (T.tupA (n := 40) ct.r (by simp; omega)) (Ts.cons (nilT (w := 0)) (Ts.nil (w := 0)))))).le (by omega) (by omega), rfl⟩
      · exact ⟨T.two' (T.tupA (n := 201) (all_rep (bS (by decide) (by decide) (by decide))) (by rw [List.length_replicate]; decide)) (nilT (w := 0)) (by omega), pairs_k (kindsB_len (by rw [List.length_replicate]; decide))⟩
      · exact ⟨T.two' (T.tupA (n := 30) ct.k (by omega)) (T.tupA (n := 601) (all_rep ((aT (by omega) (by omega)).le (by omega) (by omega))) (by rw [List.length_replicate]; decide)) (by omega), pairs_r fun _ => rowsB_len (by rw [List.length_replicate]; decide)⟩
      · exact ⟨aN.le (by omega) (by omega), rfl⟩
      · exact ⟨(T.tupA (n := 30) ct.k (by omega)).le (by omega) (by omega), pairs_ks c.hk⟩
      · exact ⟨(bS (by decide) (by decide) (by decide)).le (by omega) (by omega), rfl⟩
  clear gr bx lx gp x1
  rintro _ H1 ⟨xs, r, a', o', w', rfl, gr, bx, lx, gp, x1⟩
  refine w_seq ?_
  refine w_cut (JT ks rss p 16 (ds.map .int) H) ?_ ?_
  · (repeat fail "go")
    refine w_addRR (by fail "lk") (by fail "lk") (by simp; omega) ?_
    (repeat fail "go")
    refine ⟨rfl, JT.add bx lx gp x1 ?_ ?_⟩
    · repeat (refine Fm.trans ?_ (Fm.app _))
      exact Fm.refl
    · generalize H1 ++ _ = H2
      have ct : Ct H2 ks rss := c.ct
      intro y hy
      simp only [List.mem_cons, List.not_mem_nil, or_false] at hy
      rcases hy with rfl | rfl | rfl | rfl | rfl
      · refine ⟨T.two' (T.tupA (n := 40) ct.r (by simp; omega)) (T.tupA (n := 30) (ds := ks ++ [.str "all"]) ?_ (by simp; omega)) (by omega), pairs_r fun _ => rowsB_no (x := .str "all") (by simp) rfl⟩
        intro d hd
        rcases List.mem_append.mp hd with h | h
        · exact ct.k d h
        · simp at h; rw [h]; exact bS (by decide) (by decide) (by decide)
      · exact ⟨T.two' (w1 := 300) (aN.le (by omega) (by omega)) (T.tupA (n := 40) ct.r (by simp; omega)) (by omega), pairs_k rfl⟩
      · exact ⟨T.two' (w2 := 300) (T.tupA (n := 30) ct.k (by omega)) (aN.le (by omega) (by omega)) (by omega), pairs_r fun _ => rfl⟩
      · exact ⟨(aI (by omega) (by omega)).le (by omega) (by omega), rfl⟩
      · exact ⟨(nilT (w := 0)).le (by omega) (by omega), rfl⟩
  clear gr bx lx gp x1
  rintro _ H1 ⟨xs, r, a', o', w', rfl, gr, bx, lx, gp, x1⟩
  refine w_seq ?_
  refine w_cut (JT ks rss p 18 (ds.map .int) H) ?_ ?_
  · (repeat fail "go")
    refine w_dig gp hd (by omega) (by omega) fun v v0 v1 => ?_
    (repeat fail "go")
    refine w_mulT (by omega) (by omega) ?_
    (repeat fail "go")
    refine w_dig gp hd (by omega) (by omega) fun v' v0' v1' => ?_
    (repeat fail "go")
    refine w_mulT (by omega) (by omega) ?_
    (repeat fail "go")
    refine w_addRR (by fail "lk") (by fail "lk") (by simp; omega) ?_
    (repeat fail "go")
    refine ⟨rfl, JT.add bx lx gp x1 ?_ ?_⟩
    · repeat (refine Fm.trans ?_ (Fm.app _))
      exact Fm.refl
    · generalize H1 ++ _ = H2
      have ct : Ct H2 ks rss := c.ct
      intro y hy
      simp only [List.mem_cons, List.not_mem_nil, or_false] at hy
      rcases hy with rfl | rfl
      · exact ⟨T.two' (T.tupA (n := 301) (all_rep (bS (by decide) (by decide) (by decide))) (by rw [List.length_replicate]; omega)) (nilT (w := 0)) (by omega), pairs_k (kindsB_len (by rw [List.length_replicate]; omega))⟩
      · exact ⟨T.two' (T.tupA (n := 30) ct.k (by omega)) (T.tupA (n := 901) (all_rep ((aT (by omega) (by omega)).le (by omega) (by omega))) (by rw [List.length_replicate]; omega)) (by omega), pairs_r fun _ => rowsB_len (by rw [List.length_replicate]; omega)⟩
  clear gr bx lx gp x1
  rintro _ H1 ⟨xs, r, a', o', w', rfl, gr, bx, lx, gp, x1⟩
  (repeat fail "go")
  refine w_dig gp hd (by omega) (by omega) fun v v0 v1 => ?_
  (repeat fail "go")
  have c0 := Int.emod_nonneg v (show (18 : Int) ≠ 0 by decide)
  have c1 := Int.emod_lt_of_pos v (show (0 : Int) < 18 by decide)
  have lt : (v % 18).toNat < xs.length := by omega
  refine w_ixR gr (atI_toNat c0 (List.getElem?_eq_getElem lt)) ?_
  (repeat fail "go")
  exact q _ H1 (bx _ (List.getElem_mem lt)) x1
theorem sl_m1 (xs : List D) : cutD xs none (some (-1)) = xs.take (xs.length - 1) := by
  unfold cutD
  have h1 : HT.sIx xs.length 0 none = 0 := rfl
  have h2 : HT.sIx xs.length xs.length (some (-1)) = xs.length - 1 := by
    show (if (-1 : Int) < 0 then ((-1 : Int) + (xs.length : Int)).toNat else min (-1 : Int).toNat xs.length) = xs.length - 1
    rw [if_pos (by decide)]; omega
  rw [h1, h2]; simp
theorem w_slm1 {xs : List D} (q : Q (.tup (xs.take (xs.length - 1))) H) : wE (slD (.tup xs) none (some (-1)) H) Q := ⟨_, _, by rw [← sl_m1]; rfl, q⟩
theorem w_twice {ks : List D} {rss : List (List Int)} {p : Nat} {ds : List Int} (c : Pc ks rss) (g : H[p]? = some (.lst (ds.map .int))) (hd : Digs ds) (hl : ds.length = 8) (q : ∀ d H', Sp H' d → Fm [] H H' → Q d H') : wE (m_law_spoilt_twice [clD ks rss, .ref p] H) Q := by
  have k1 := c.k1
  have k20 := c.k20
  have l31 := c.l31
  refine w_run rfl ?_
  show wS (b_law_spoilt_twice [some (clD ks rss), some (.ref p), none, none, none] H) _
  unfold b_law_spoilt_twice clD
  (repeat fail "go")
  refine w_badRow k1 (by omega) g hd (by omega) fun d H1 b x1 => ?_
  (repeat fail "go")
  have g1 := x1.lst (by simp) g
  have tr : ∀ x ∈ rss.map rowD ++ [d], T [] H1 3 300 x := fun x hx => by
    rcases List.mem_append.mp hx with h | h
    · exact c.ct.r x h
    · simp at h; rw [h]; exact b.1
  refine w_if ?_
  (repeat fail "go")
  refine w_dig g1 hd (by omega) (by omega) fun v v0 v1 => ?_
  (repeat fail "go")
  refine ⟨fun h => ?_, fun h => ?_⟩
  · (repeat fail "go")
    refine w_slm1 ?_
    (repeat fail "go")
    refine w_dig (by fail "lk") hd (by omega) (by omega) fun u u0 u1 => ?_
    (repeat fail "go")
    obtain ⟨wr, hw, ew⟩ : ∃ wr, Wk (H1 ++ [DO.lst [D.str "All", .str "none", .non, .int 1, .str "alls"]]) wr ∧ atI [D.str "All", .str "none", .non, .int 1, .str "alls"] (u % 5) = some wr := by
      rcases (show u % 5 = 0 ∨ u % 5 = 1 ∨ u % 5 = 2 ∨ u % 5 = 3 ∨ u % 5 = 4 by omega) with h | h | h | h | h <;> rw [h]
      · exact ⟨_, ⟨bS (by decide) (by decide) (by decide), by decide⟩, rfl⟩
      · exact ⟨_, ⟨bS (by decide) (by decide) (by decide), by decide⟩, rfl⟩
      · exact ⟨_, ⟨aN.le (by omega) (by omega), rfl⟩, rfl⟩
      · exact ⟨_, ⟨(aI (by omega) (by omega)).le (by omega) (by omega), rfl⟩, rfl⟩
      · exact ⟨_, ⟨bS (by decide) (by decide) (by decide), by decide⟩, rfl⟩
    refine w_ixR last ew ?_
    (repeat fail "go")
    refine q _ _ ⟨T.two' (T.tupA (n := 30) (ds := ks.take (ks.length - 1) ++ [wr]) ?_ (by simp; omega)) (T.tupA (n := 40) (fun x hx => (tr x hx).fm0 (Fm.app _)) (by simp; omega)) (by omega), pairs_k (kindsB_no (x := wr) (by simp) hw.2)⟩ (x1.trans (Fm.app _))
    intro x hx
    rcases List.mem_append.mp hx with h | h
    · exact c.ct.k x (List.mem_of_mem_take h)
    · simp at h; rw [h]; exact hw.1
  (repeat fail "go")
  refine w_dig g1 hd (by omega) (by omega) fun u u0 u1 => ?_
  (repeat fail "go")
  have pl : 0 < (rss.map rowD ++ [d]).length := by rw [List.length_append]; simp
  refine w_mod (by omega) ?_
  have a0 := Int.emod_nonneg u (show ((rss.map rowD ++ [d]).length : Int) ≠ 0 by omega)
  obtain ⟨a, ha⟩ : ∃ a : Nat, u % ((rss.map rowD ++ [d]).length : Int) = a := ⟨(u % ((rss.map rowD ++ [d]).length : Int)).toNat, by omega⟩
  rw [ha]
  (repeat fail "go")
  refine w_slL (k := 4) g1 ?_
  rw [← List.map_drop]
  (repeat fail "go")
  refine w_badRow k1 (by omega) last (hd.drop 4) (by simp; omega) fun d2 H2 b2 x2 => ?_
  (repeat fail "go")
  have xx := (Fm.app (S := []) [DO.lst ((ds.drop 4).map D.int)]).trans x2
  exact q _ H2 (sp_row c (fun x hx => (tr x (List.mem_of_mem_take hx)).fm0 xx) (fun x hx => (tr x (List.mem_of_mem_drop hx)).fm0 xx) (by simp; omega) b2) (x1.trans xx)
variable {H : HD} {Q : D → HD → Prop} {m : Nat}
noncomputable def u0 : SF := (sSet 3 (eSl (eCall 2 m_law_digits (aCons (eCall 2 m_law_at (aCons (eVar 0) (aCons (eVar 2) aNil))) (aCons (eC (.int 24)) aNil))) (oSome (eC (.int 16))) oNone))
noncomputable def ub : SF := (sSeq (sSet 11 (eCB reprD (aCons (eVar 4) aNil)))
  (sSeq (sIf (tOrr (tOf (eOp isnD (eCall 1 m_is_pairs (aCons (eVar 4) aNil)) (eC (.bl false)))) (tOf (eOp neD (eCB reprD (aCons (eVar 4) aNil)) (eVar 11)))) (sSeq (sRet (eC (.bl false)))
  sNil) sNil)
  sNil))
noncomputable def u1 : SF := (sFor (iSq (eLst (aCons (eCall 2 m_law_spoilt (aCons (eVar 1) (aCons (eVar 3) aNil))) (aCons (eCall 2 m_law_spoilt_twice (aCons (eVar 1) (aCons (eVar 3) aNil))) aNil)))) (gNm 4) ub)
noncomputable def x3 : SF := (sFor (iR1 (aCons (eC (.int 6)) aNil)) (gNm 2) (sSeq u0 (sSeq u1 sNil)))
noncomputable def y1 : SF := (sSet 3 (eSl (eCall 2 m_law_digits (aCons (eCall 2 m_law_at (aCons (eVar 0) (aCons (eC (.int 1)) aNil))) (aCons (eC (.int 30)) aNil))) (oSome (eC (.int 20))) oNone))
noncomputable def y2 : SF := (sSet 5 (eOp mulD (eTup (aCons (eC (.str "some")) (aCons (eC (.str "all")) aNil))) (eC (.int 100))))
noncomputable def y3 : SF := (sSet 6 (eCB tupleD (aCons (eLC (iR1 (aCons (eC (.int 600)) aNil)) [] tYes (eTup (aCons (eOp addD (eC (.int 1)) (eOp modD (eVar 0) (eC (.int 199)))) (aCons (eC (.int 200)) aNil)))) aNil)))
noncomputable def y4 : SF := (sIf (tOf (eOp isnD (eCall 1 m_is_pairs (aCons (eTup (aCons (eVar 5) (aCons (eVar 6) aNil))) aNil)) (eC (.bl true)))) (sSeq (sRet (eC (.bl false)))
  sNil) sNil)
noncomputable def y5 : SF := (sSet 7 (eOp modD (eOp ixD (eVar 3) (eC (.int 0))) (eC (.int 600))))
noncomputable def y6 : SF := (sSet 8 (eCall 2 m_law_bad_row (aCons (eC (.int 200)) (aCons (eSl (eVar 3) (oSome (eC (.int 1))) oNone) aNil))))
noncomputable def y7 : SF := (sSet 9 (eTup (aCons (eVar 5) (aCons (eOp addD (eOp addD (eSl (eVar 6) oNone (oSome (eVar 7))) (eTup (aCons (eVar 8) aNil))) (eSl (eVar 6) (oSome (eOp addD (eVar 7) (eC (.int 1)))) oNone)) aNil))))
noncomputable def y8 : SF := (sIf (tOf (eOp isnD (eCall 1 m_is_pairs (aCons (eVar 9) aNil)) (eC (.bl false)))) (sSeq (sRet (eC (.bl false)))
  sNil) sNil)
noncomputable def y9 : SF := (sSet 7 (eOp modD (eOp ixD (eVar 3) (eC (.int 3))) (eC (.int 200))))
noncomputable def y10 : SF := (sSet 10 (eOp ixD (eLst (aCons (eC (.str "All")) (aCons (eC (.str "none")) (aCons (eC (.str "")) (aCons (eC .non) (aCons (eC (.bl true)) (aCons (eC (.str "alls")) aNil))))))) (eOp modD (eOp ixD (eVar 3) (eC (.int 4))) (eC (.int 6)))))
noncomputable def y11 : SF := (sSet 9 (eTup (aCons (eOp addD (eOp addD (eSl (eVar 5) oNone (oSome (eVar 7))) (eTup (aCons (eVar 10) aNil))) (eSl (eVar 5) (oSome (eOp addD (eVar 7) (eC (.int 1)))) oNone)) (aCons (eVar 6) aNil))))
noncomputable def y12 : SF := (sIf (tOf (eOp isnD (eCall 1 m_is_pairs (aCons (eVar 9) aNil)) (eC (.bl false)))) (sSeq (sRet (eC (.bl false)))
  sNil) sNil)
noncomputable def yb : SF := (sSeq y1 (sSeq y2 (sSeq y3 (sSeq y4 (sSeq y5 (sSeq y6 (sSeq y7 (sSeq y8 (sSeq y9 (sSeq y10 (sSeq y11 (sSeq y12 sNil))))))))))))
noncomputable def x4 : SF := (sIf (tOf (eOp eqD (eOp modD (eCall 2 m_law_at (aCons (eVar 0) (aCons (eC (.int 0)) aNil))) (eC (.int 8))) (eC (.int 3)))) yb sNil)
noncomputable def x1 : SF := (sSet 1 (eCall 3 m_law_pairs (aCons (eVar 0) (aCons (eC (.int 20)) (aCons (eC (.int 30)) aNil)))))
noncomputable def x2 : SF := (sIf (tOf (eOp isnD (eCall 1 m_is_pairs (aCons (eVar 1) aNil)) (eC (.bl true)))) (sSeq (sRet (eC (.bl false)))
  sNil) sNil)
noncomputable def x5 : SF := (sRet (eAn (eOp isD (eCall 1 m_is_pairs (aCons (eTup (aCons (eTup aNil) (aCons (eTup aNil) aNil))) aNil)) (eC (.bl true))) (eOp isD (eCall 1 m_is_pairs (aCons (eTup (aCons (eTup aNil) (aCons (eTup (aCons (eTup aNil) aNil)) aNil))) aNil)) (eC (.bl true)))))
noncomputable abbrev sl (ns : List Int) (c : D) (b2 b3 b4 b5 b6 b7 b8 b9 b10 b11 : Option D) : SD := [some (.fl (ns.map .int)), some c, b2, b3, b4, b5, b6, b7, b8, b9, b10, b11]
noncomputable def nxt (J : SD → HD → Prop) : FD → SD → HD → Prop := fun x σ H => x = .nx ∧ J σ H
section
variable {ns : List Int} {c x : D} {b2 b3 b4 b5 b6 b7 b8 b9 b10 b11 : Option D}
theorem e1 (s : Sp H x) : wS (ub (sl ns c b2 b3 (some x) b5 b6 b7 b8 b9 b10 b11) H) (nxt fun σ H' => Fm [] H H' ∧ ∃ b11, σ = sl ns c b2 b3 (some x) b5 b6 b7 b8 b9 b10 b11) := by
  unfold ub
  obtain ⟨t, ht⟩ := s.1.rep (Nat.le_refl _) (by omega)
  (repeat fail "go")
  refine ⟨_, _, ht H Fm.refl, ?_⟩
  (repeat fail "go"); (refine WP.w_if ?_; (repeat fail "go"))
  refine w_isPairs s.1 (Nat.le_refl _) (by omega) fun H1 x1 => ?_
  rw [s.2]
  (repeat fail "go")
  refine ⟨_, _, ht H1 x1, ?_⟩
  (repeat fail "go")
  refine w_bF (by simp) ?_
  (repeat fail "go")
  exact ⟨rfl, x1, _, rfl⟩
theorem e2 {ks : List D} {rss : List (List Int)} (pc : Pc ks rss) {p : Nat} {ds : List Int} (g : H[p]? = some (.lst (ds.map .int))) (hd : Digs ds) (hl : ds.length = 8) : wS (u1 (sl ns (clD ks rss) b2 (some (.ref p)) b4 b5 b6 b7 b8 b9 b10 b11) H) (nxt fun σ H' => ∃ b4 b11, σ = sl ns (clD ks rss) b2 (some (.ref p)) b4 b5 b6 b7 b8 b9 b10 b11) := by
  unfold u1
  (repeat fail "go")
  refine w_spoilt pc g hd hl fun d1 H1 s1 x1 => ?_
  (repeat fail "go")
  refine w_twice pc (x1.lst (by simp) g) hd hl fun d2 H2 s2 x2 => ?_
  (repeat fail "go")
  refine w_each (fun σ H' => Fm [] (H2 ++ [.lst [d1, d2]]) H' ∧ ∃ b4 b11, σ = sl ns (clD ks rss) b2 (some (.ref p)) b4 b5 b6 b7 b8 b9 b10 b11) (fun σ H' j => own1 (j.1.lst (by simp) last)) _ (fun y hy σ H' ⟨j, b4, b11, e⟩ => ?_) _ _ ⟨Fm.refl, _, _, rfl⟩ fun σ H' ⟨j, b4, b11, e⟩ => ?_
  · subst e
    have sy : Sp H' y := by
      simp only [List.mem_cons, List.not_mem_nil, or_false] at hy
      rcases hy with rfl | rfl
      · exact (s1.fm (x2.trans (Fm.app _))).fm j
      · exact (s2.fm (Fm.app _)).fm j
    refine w_gnm ?_
    exact (e1 sy).mono fun a σ H ⟨e1, e2, b11, e3⟩ => by subst e1 e3; exact ⟨j.trans e2, _, _, rfl⟩
  · subst e
    exact ⟨rfl, _, _, rfl⟩
theorem e3 {ks : List D} {rss : List (List Int)} (pc : Pc ks rss) : wS (x3 (sl ns (clD ks rss) b2 b3 b4 b5 b6 b7 b8 b9 b10 b11) H) (nxt fun σ H' => ∃ b2 b3 b4 b11, σ = sl ns (clD ks rss) b2 b3 b4 b5 b6 b7 b8 b9 b10 b11) := by
  unfold x3
  (repeat fail "go")
  refine ⟨_, rfl, by decide, ?_⟩
  refine w_each (fun σ H' => ∃ b2 b3 b4 b11, σ = sl ns (clD ks rss) b2 b3 b4 b5 b6 b7 b8 b9 b10 b11) (fun _ _ _ => own0) _ (fun y hy σ H' ⟨b2, b3, b4, b11, e⟩ => ?_) _ _ ⟨_, _, _, _, rfl⟩ fun σ H' ⟨b2, b3, b4, b11, e⟩ => ?_
  · subst e
    simp only [rangeL, List.mem_map, List.mem_range] at hy
    obtain ⟨i, hi, rfl⟩ := hy
    have hi6 : i < 6 := by have : (6 : Int).toNat = 6 := rfl; omega
    refine w_gnm (w_seq ?_)
    unfold u0
    (repeat fail "go")
    refine w_at (by omega) (by omega) fun c0 => ?_
    (repeat fail "go")
    refine w_digits (many := 24) (by omega) fun ds p H1 l1 d1 g1 _ x1 => ?_
    (repeat fail "go")
    refine w_slL (k := 16) g1 ?_
    rw [← List.map_drop]
    refine w_kn (w_seq ?_)
    refine (e2 pc last (d1.drop 16) (by simp [l1])).mono fun a σ H ⟨e1, b4, b11, e2⟩ => ?_
    subst e1 e2
    refine w_kn (w_snil ?_)
    exact ⟨_, _, _, _, rfl⟩
  · subst e
    exact ⟨rfl, _, _, _, _, rfl⟩
noncomputable def wideR (k : Nat) : List Int := [1 + (k : Int) % 199, 200]
theorem wide_ok (k : Nat) : PRow 200 (wideR k) := by
  have h0 : 0 < 1 + (k : Int) % 199 := by omega
  refine ⟨⟨?_, ?_, ?_, ?_, trivial⟩, by simp [wideR]⟩
  · rw [absP h0]; exact h0
  · rw [absP h0]; omega
  · rw [absP h0, absP (show (0 : Int) < 200 by decide)]; omega
  · rw [absP (show (0 : Int) < 200 by decide)]; omega
noncomputable def wideK : List D := (List.replicate 100 [D.str "some", .str "all"]).flatten
theorem wideK_is : ∀ d ∈ wideK, IsKind d := fun d hd => by
  obtain ⟨l, hl, h⟩ := List.mem_flatten.mp hd
  rw [(List.mem_replicate.mp hl).2] at h
  simp only [List.mem_cons, List.not_mem_nil, or_false] at h
  rcases h with rfl | rfl
  · exact .inr rfl
  · exact .inl rfl
theorem wideK_len : wideK.length = 200 := by unfold wideK; simp [List.length_flatten]
noncomputable def wideRs : List (List Int) := (List.range 600).map wideR
theorem wideRs_len : wideRs.length = 600 := by unfold wideRs; simp
theorem wideRs_ok : ∀ ls ∈ wideRs, PRow 200 ls := fun ls h => by
  obtain ⟨k, _, rfl⟩ := List.mem_map.mp h
  exact wide_ok k
theorem wk : ∀ d ∈ wideK, T [] H 3 300 d := fun d hd => (T.kind (wideK_is d hd)).le (Nat.le_refl _) (by omega)
theorem wr : ∀ d ∈ wideRs.map rowD, T [] H 3 300 d := Ts.rows (m := 200) (by decide) wideRs_ok
theorem wideT : T [] H 6 390000 (clD wideK wideRs) := T.two' (T.tupA (n := 200) wk (by rw [wideK_len]; decide)) (T.tupA (n := 600) wr (by rw [List.length_map, wideRs_len]; decide)) (by omega)
theorem wideB : pairsB (clD wideK wideRs) = true := pairs_ok wideK_is (by rw [wideK_len]; decide) (by rw [wideK_len]; exact wideRs_ok) (by rw [wideRs_len]; decide)
theorem w_wideR {R : List D → HD → Prop} (q : R (wideRs.map rowD) H) : wA (compL [] [] tYes (eTup (aCons (eOp addD (eC (.int 1)) (eOp modD (eVar 0) (eC (.int 199)))) (aCons (eC (.int 200)) aNil))) (rangeL 0 600) H) R := by
  refine w_cmap (fun d => match d with | .int i => .tup [.int (1 + i % 199), .int 200] | _ => .non) (fun H' => H' = H) (fun _ _ => own0) _ (fun x hx H1 j => ?_) _ rfl fun H1 j => ?_
  · simp only [rangeL, List.mem_map, List.mem_range] at hx
    obtain ⟨i, hi, rfl⟩ := hx
    subst j
    (repeat fail "go")
    exact ⟨rfl, rfl⟩
  · subst j
    have e : (rangeL 0 600).map (fun d => match d with | .int i => D.tup [.int (1 + i % 199), .int 200] | _ => .non) = wideRs.map rowD := by
      unfold rangeL wideRs
      rw [List.map_map, List.map_map]
      apply List.map_congr_left
      intro k _
      simp only [Function.comp_apply, wideR, rowD, List.map_cons, List.map_nil, Int.zero_add]
    rw [e]; exact q
theorem e4 {ks : List D} {rss : List (List Int)} : wS (x4 (sl ns (clD ks rss) b2 b3 b4 b5 b6 b7 b8 b9 b10 b11) H) (nxt fun σ H' => ∃ b2 b3 b4 b5 b6 b7 b8 b9 b10 b11, σ = sl ns (clD ks rss) b2 b3 b4 b5 b6 b7 b8 b9 b10 b11) := by
  unfold x4
  (refine WP.w_if ?_; (repeat fail "go"))
  refine w_at (by decide) (by decide) fun c0 => ?_
  (repeat fail "go")
  refine ⟨fun h => ?_, fun h => ?_⟩
  · unfold yb
    refine w_seq ?_
    unfold y1
    (repeat fail "go")
    refine w_at (by decide) (by decide) fun c1 => ?_
    (repeat fail "go")
    refine w_digits (many := 30) (by omega) fun ds p H1 l1 d1 g1 _ x1 => ?_
    (repeat fail "go")
    refine w_slL (k := 20) g1 ?_
    rw [← List.map_drop]
    have d2 := d1.drop 20
    have l2 : (ds.drop 20).length = 10 := by simp [l1]
    generalize ds.drop 20 = es at *
    have gp : (H1 ++ [DO.lst (es.map D.int)])[H1.length]? = some (.lst (es.map .int)) := last
    generalize H1 ++ [DO.lst (es.map D.int)] = H2 at *
    generalize H1.length = p2 at *
    refine w_kn (w_seq ?_)
    unfold y2
    (repeat fail "go")
    refine ⟨_, _, muT (by decide) (by decide) (by simp), ?_⟩
    rw [show (List.replicate (100 : Int).toNat [D.str "some", .str "all"]).flatten = wideK from rfl]
    refine w_kn (w_seq ?_)
    unfold y3
    (repeat fail "go")
    refine ⟨_, rfl, by decide, ?_⟩
    rw [show (600 : Int).toNat = 600 from rfl]
    refine w_wideR ?_
    refine ⟨by rw [List.length_map, wideRs_len]; decide, ?_⟩
    (repeat fail "go")
    have gp3 : (H2 ++ [DO.lst (wideRs.map rowD)])[p2]? = some (.lst (es.map .int)) := appL gp
    generalize H2 ++ [DO.lst (wideRs.map rowD)] = H3 at *
    refine w_cut (fun σ H' => Fm [] H3 H' ∧ σ = sl ns (clD ks rss) b2 (some (.ref p2)) b4 (some (.tup wideK)) (some (.tup (wideRs.map rowD))) b7 b8 b9 b10 b11) ?_ ?_
    · unfold y4
      (refine WP.w_if ?_; (repeat fail "go"))
      refine w_isPairs (d := clD wideK wideRs) wideT (Nat.le_refl _) (by omega) fun H4 x4 => ?_
      rw [wideB]
      (repeat fail "go")
      exact ⟨rfl, x4, rfl⟩
    rintro _ H4 ⟨x4, rfl⟩
    have gp4 := x4.lst (by simp) gp3
    unfold y5
    (repeat fail "go")
    refine w_dig gp4 d2 (by omega) (by omega) fun v v0 v1 => ?_
    (repeat fail "go")
    obtain ⟨a, ha, a6⟩ : ∃ a : Nat, v % 600 = a ∧ a < 600 := ⟨(v % 600).toNat, by omega, by omega⟩
    rw [ha]
    unfold y6
    (repeat fail "go")
    refine w_slL (k := 1) gp4 ?_
    rw [← List.map_drop]
    (repeat fail "go")
    refine w_badRow (m := 200) (by decide) (by decide) last (d2.drop 1) (by simp [l2]) fun d H5 b x5 => ?_
    have gp5 := x5.lst (by simp) (appL gp4)
    unfold y7
    have lw : (wideRs.map rowD).length = 600 := by rw [List.length_map, wideRs_len]
    (repeat fail "go")
    refine w_addT (by simp only [List.length_append, List.length_take, List.length_drop, lw, List.length_cons, List.length_nil]; omega) ?_
    (repeat fail "go")
    have s1 : Sp H5 (.tup [.tup wideK, .tup ((wideRs.map rowD).take a ++ [d] ++ (wideRs.map rowD).drop (a + 1))]) := by
      refine ⟨T.two' (T.tupA (n := 200) wk (by rw [wideK_len]; decide)) (T.tupA (n := 610) (T.mid (fun x hx => wr x (List.mem_of_mem_take hx)) b.1 (fun x hx => wr x (List.mem_of_mem_drop hx))) (by simp only [List.length_append, List.length_take, List.length_drop, lw, List.length_cons, List.length_nil]; omega)) (by omega), pairs_r' ?_⟩
      rw [wideK_len]
      exact rowsB_no mem_mid b.2
    refine w_cut (fun σ H' => Fm [] H5 H' ∧ ∃ b9, σ = sl ns (clD ks rss) b2 (some (.ref p2)) b4 (some (.tup wideK)) (some (.tup (wideRs.map rowD))) (some (.int a)) (some d) b9 b10 b11) ?_ ?_
    · unfold y8
      (refine WP.w_if ?_; (repeat fail "go"))
      refine w_isPairs s1.1 (Nat.le_refl _) (by omega) fun H6 x6 => ?_
      rw [s1.2]
      (repeat fail "go")
      exact ⟨rfl, x6, _, rfl⟩
    rintro _ H6 ⟨x6, b9, rfl⟩
    have gp6 := x6.lst (by simp) gp5
    unfold y9
    (repeat fail "go")
    refine w_dig gp6 d2 (by omega) (by omega) fun u u0 u1 => ?_
    (repeat fail "go")
    obtain ⟨a2, ha2, a26⟩ : ∃ a : Nat, u % 200 = a ∧ a < 200 := ⟨(u % 200).toNat, by omega, by omega⟩
    rw [ha2]
    unfold y10
    (repeat fail "go")
    refine w_dig (by fail "lk") d2 (by omega) (by omega) fun t t0 t1 => ?_
    (repeat fail "go")
    obtain ⟨wr', hw, ew⟩ : ∃ wr, Wk (H6 ++ [DO.lst [D.str "All", .str "none", .str "", .non, .bl true, .str "alls"]]) wr ∧ atI [D.str "All", .str "none", .str "", .non, .bl true, .str "alls"] (t % 6) = some wr := by
      rcases (show t % 6 = 0 ∨ t % 6 = 1 ∨ t % 6 = 2 ∨ t % 6 = 3 ∨ t % 6 = 4 ∨ t % 6 = 5 by omega) with h | h | h | h | h | h <;> rw [h]
      · exact ⟨_, ⟨bS (by decide) (by decide) (by decide), by decide⟩, rfl⟩
      · exact ⟨_, ⟨bS (by decide) (by decide) (by decide), by decide⟩, rfl⟩
      · exact ⟨_, ⟨bS (by decide) (by decide) (by decide), by decide⟩, rfl⟩
      · exact ⟨_, ⟨aN.le (by omega) (by omega), rfl⟩, rfl⟩
      · exact ⟨_, ⟨aB.le (by omega) (by omega), rfl⟩, rfl⟩
      · exact ⟨_, ⟨bS (by decide) (by decide) (by decide), by decide⟩, rfl⟩
    refine w_ixR last ew ?_
    unfold y11
    (repeat fail "go")
    refine w_addT (by simp only [List.length_append, List.length_take, List.length_drop, wideK_len, List.length_cons, List.length_nil]; omega) ?_
    (repeat fail "go")
    have s2 : Sp (H6 ++ [DO.lst [D.str "All", .str "none", .str "", .non, .bl true, .str "alls"]]) (.tup [.tup (wideK.take a2 ++ [wr'] ++ wideK.drop (a2 + 1)), .tup (wideRs.map rowD)]) := by
      refine ⟨T.two' (T.tupA (n := 210) (T.mid (fun x hx => wk x (List.mem_of_mem_take hx)) hw.1 (fun x hx => wk x (List.mem_of_mem_drop hx))) (by simp only [List.length_append, List.length_take, List.length_drop, wideK_len, List.length_cons, List.length_nil]; omega)) (T.tupA (n := 600) wr (by rw [lw]; decide)) (by omega), pairs_k (kindsB_no mem_mid hw.2)⟩
    unfold y12
    refine w_if ?_
    (repeat fail "go")
    refine w_isPairs s2.1 (Nat.le_refl _) (by omega) fun H7 x7 => ?_
    rw [s2.2]
    (repeat fail "go")
    exact ⟨rfl, _, _, _, _, _, _, _, _, _, _, rfl⟩
  · (repeat fail "go")
    exact ⟨rfl, _, _, _, _, _, _, _, _, _, _, rfl⟩
end
theorem pure_law : ∀ ns : List Int, ns.length ≤ 63 → ∃ Hd', m_law [.fl (ns.map .int)] [] = some (.bl true, Hd') := by
  intro ns hn
  suffices h : wE (m_law [.fl (ns.map .int)] []) fun d _ => d = .bl true by
    obtain ⟨d, H, e, rfl⟩ := h; exact ⟨H, e⟩
  refine w_run rfl ?_
  show wS (sSeq x1 (sSeq x2 (sSeq x3 (sSeq x4 (sSeq x5 sNil)))) [some (.fl (ns.map .int)), none, none, none, none, none, none, none, none, none, none, none] []) _
  refine w_seq ?_
  refine w_cut (fun σ H => ∃ ks rss, Pc ks rss ∧ σ = sl ns (clD ks rss) none none none none none none none none none none) ?_ ?_
  · unfold x1
    (repeat fail "go")
    refine w_pairs fun ks rss H1 pc x1 => ?_
    exact ⟨rfl, ks, rss, pc, rfl⟩
  rintro _ H1 ⟨ks, rss, pc, rfl⟩
  have k20 := pc.k20
  have l31 := pc.l31
  refine w_seq ?_
  refine w_cut (fun σ H => σ = sl ns (clD ks rss) none none none none none none none none none none) ?_ ?_
  · unfold x2
    (refine WP.w_if ?_; (repeat fail "go"))
    have ct : Ct H1 ks rss := pc.ct
    refine w_isPairs (S := []) (k := 6) (w := 390000) (d := clD ks rss) (T.two' (T.tupA (n := 30) ct.k (by omega)) (T.tupA (n := 40) ct.r (by simp; omega)) (by omega)) (Nat.le_refl _) (by omega) fun H2 x2 => ?_
    rw [pairs_ok pc.hk (by omega) pc.hr (by omega)]
    (repeat fail "go")
    exact ⟨rfl, rfl⟩
  rintro _ H2 rfl
  refine w_seq (w_cut _ (e3 pc) ?_)
  rintro _ H3 ⟨b2, b3, b4, b11, rfl⟩
  refine w_seq (w_cut _ e4 ?_)
  rintro _ H4 ⟨b2, b3, b4, b5, b6, b7, b8, b9, b10, b11, rfl⟩
  refine w_seq ?_
  unfold x5
  (repeat fail "go")
  refine w_isPairs (S := []) (k := 6) (w := 390000) (d := .tup [.tup [], .tup []]) (T.two' (nilT (w := 0)) (nilT (w := 0)) (by omega)) (Nat.le_refl _) (by omega) fun H5 x5 => ?_
  rw [show pairsB (.tup [.tup [], .tup []]) = true from rfl]
  (repeat fail "go")
  refine w_isPairs (S := []) (k := 6) (w := 390000) (d := .tup [.tup [], .tup [.tup []]]) (T.two' (nilT (w := 0)) (T.tupA (n := 1) (ds := [.tup []]) (fun d hd => by simp at hd; rw [hd]; exact (T.tup (Ts.nil (w := 0) (k := 0))).le (by omega) (by omega)) (by simp)) (by omega)) (Nat.le_refl _) (by omega) fun H6 x6 => ?_
  rw [show pairsB (.tup [.tup [], .tup [.tup []]]) = true from by rw [pairsB_two]; rfl]
  (repeat fail "go")
  rfl
end K08
set_option maxHeartbeats 8000000
namespace K08
open PySem PySem.Spec PyProof.Rows L2 DL
noncomputable def top (i : Nat) : Stmt := PySem.Challenge.pw_allsome_k60_what_is_a_pairs_claim.main.body.getD i (.Pass ⟨0, 0, 0, 0⟩)
noncomputable abbrev s_is_whole : Stmt := top 2
theorem sc_is_whole : FnScope ["thing"] ["thing"] (defScope s_is_whole) := ⟨rfl, rfl, rfl, by decide +kernel, rfl, by decide +kernel, by decide +kernel⟩
noncomputable abbrev s_is_row : Stmt := top 3
theorem sc_is_row : FnScope ["many", "thing", "last", "literal"] ["many", "thing"] (defScope s_is_row) := ⟨rfl, rfl, rfl, by decide +kernel, rfl, by decide +kernel, by decide +kernel⟩
noncomputable abbrev s_is_kinds_of_pairs : Stmt := top 8
theorem sc_is_kinds_of_pairs : FnScope ["thing"] ["thing"] (defScope s_is_kinds_of_pairs) := ⟨rfl, rfl, rfl, by decide +kernel, rfl, by decide +kernel, by decide +kernel⟩
noncomputable abbrev s_is_rows_of_pairs : Stmt := top 9
theorem sc_is_rows_of_pairs : FnScope ["many", "thing"] ["many", "thing"] (defScope s_is_rows_of_pairs) := ⟨rfl, rfl, rfl, by decide +kernel, rfl, by decide +kernel, by decide +kernel⟩
noncomputable abbrev s_is_pairs : Stmt := top 10
theorem sc_is_pairs : FnScope ["thing"] ["thing"] (defScope s_is_pairs) := ⟨rfl, rfl, rfl, by decide +kernel, rfl, by decide +kernel, by decide +kernel⟩
noncomputable abbrev s_law_mix : Stmt := top 12
theorem sc_law_mix : FnScope ["cell", "k", "prime", "one"] ["cell", "k"] (defScope s_law_mix) := ⟨rfl, rfl, rfl, by decide +kernel, rfl, by decide +kernel, by decide +kernel⟩
noncomputable abbrev s_law_digits : Stmt := top 13
theorem sc_law_digits : FnScope ["cell", "many", "found", "left_over", "wide", "k"] ["cell", "many"] (defScope s_law_digits) := ⟨rfl, rfl, rfl, by decide +kernel, rfl, by decide +kernel, by decide +kernel⟩
noncomputable abbrev s_law_at : Stmt := top 14
theorem sc_law_at : FnScope ["script", "k"] ["script", "k"] (defScope s_law_at) := ⟨rfl, rfl, rfl, by decide +kernel, rfl, by decide +kernel, by decide +kernel⟩
noncomputable abbrev s_law_kinds : Stmt := top 15
theorem sc_law_kinds : FnScope ["some", "many", "found", "k", "kind"] ["some", "many"] (defScope s_law_kinds) := ⟨rfl, rfl, rfl, by decide +kernel, rfl, by decide +kernel, by decide +kernel⟩
noncomputable abbrev s_law_pair : Stmt := top 16
theorem sc_law_pair : FnScope ["some", "many", "first", "other", "low", "high"] ["some", "many"] (defScope s_law_pair) := ⟨rfl, rfl, rfl, by decide +kernel, rfl, by decide +kernel, by decide +kernel⟩
noncomputable abbrev s_law_pairs : Stmt := top 17
theorem sc_law_pairs : FnScope ["script", "most", "many_rows", "some", "many", "kinds", "rows", "k"] ["script", "most", "many_rows"] (defScope s_law_pairs) := ⟨rfl, rfl, rfl, by decide +kernel, rfl, by decide +kernel, by decide +kernel⟩
noncomputable abbrev s_law_bad_row : Stmt := top 18
theorem sc_law_bad_row : FnScope ["many", "some", "low", "rows"] ["many", "some"] (defScope s_law_bad_row) := ⟨rfl, rfl, rfl, by decide +kernel, rfl, by decide +kernel, by decide +kernel⟩
noncomputable abbrev s_law_spoilt : Stmt := top 19
theorem sc_law_spoilt : FnScope ["claim", "some", "at", "odd", "wrong", "things", "kinds", "rows"] ["claim", "some"] (defScope s_law_spoilt) := ⟨rfl, rfl, rfl, by decide +kernel, rfl, by decide +kernel, by decide +kernel⟩
noncomputable abbrev s_law_spoilt_twice : Stmt := top 20
theorem sc_law_spoilt_twice : FnScope ["claim", "some", "rows", "at", "kinds"] ["claim", "some"] (defScope s_law_spoilt_twice) := ⟨rfl, rfl, rfl, by decide +kernel, rfl, by decide +kernel, by decide +kernel⟩
noncomputable abbrev s_law : Stmt := top 21
theorem sc_law : FnScope ["script", "claim", "k", "some", "thing", "kinds", "wide", "at", "bad", "bent", "wrong", "shown"] ["script"] (defScope s_law) := ⟨rfl, rfl, rfl, by decide +kernel, rfl, by decide +kernel, by decide +kernel⟩
structure Top (K : PySem.W.Frag) (mg : Str → Option Value) : Prop where
  t_is_whole : Tf K mg "is_whole" s_is_whole
  t_is_row : Tf K mg "is_row" s_is_row
  t_is_kinds_of_pairs : Tf K mg "is_kinds_of_pairs" s_is_kinds_of_pairs
  t_is_rows_of_pairs : Tf K mg "is_rows_of_pairs" s_is_rows_of_pairs
  t_is_pairs : Tf K mg "is_pairs" s_is_pairs
  t_law_mix : Tf K mg "_law_mix" s_law_mix
  t_law_digits : Tf K mg "_law_digits" s_law_digits
  t_law_at : Tf K mg "_law_at" s_law_at
  t_law_kinds : Tf K mg "_law_kinds" s_law_kinds
  t_law_pair : Tf K mg "_law_pair" s_law_pair
  t_law_pairs : Tf K mg "_law_pairs" s_law_pairs
  t_law_bad_row : Tf K mg "_law_bad_row" s_law_bad_row
  t_law_spoilt : Tf K mg "_law_spoilt" s_law_spoilt
  t_law_spoilt_twice : Tf K mg "_law_spoilt_twice" s_law_spoilt_twice
  t_law : Tf K mg "law" s_law
  n_abs : mg "abs" = none
  n_all : mg "all" = none
  n_bool : mg "bool" = none
  n_int : mg "int" = none
  n_isinstance : mg "isinstance" = none
  n_len : mg "len" = none
  n_list : mg "list" = none
  n_range : mg "range" = none
  n_repr : mg "repr" = none
  n_sorted : mg "sorted" = none
  n_tuple : mg "tuple" = none
  c_KINDS : Gc K mg "KINDS" k_KINDS
  c_MOST_LITERALS : Gc K mg "MOST_LITERALS" k_MOST_LITERALS
  c_MOST_NAMES : Gc K mg "MOST_NAMES" k_MOST_NAMES
  c_MOST_ROWS : Gc K mg "MOST_ROWS" k_MOST_ROWS
section
variable {P : Program} {w : World} {K : PySem.W.Frag} {mg : Str → Option Value} {base : Heap}
theorem ok_is_whole (T : Top K mg) : Fn P w K mg base 1 "is_whole" ["thing"] m_is_whole := by
  refine (fun h => h : _ → Fn P w K mg base 1 "is_whole" ["thing"] (runB 1 1 b_is_whole)) (fn_mk (N := ["thing"]) (k := 0) T.t_is_whole sc_is_whole (fun _ _ _ _ _ _ us hl => match us, hl with | [_], _ => rfl) ?_)
  intro f cdv A outer s H E hr
  unfold b_is_whole
  refine pssf_cons ?_ pssf_nil
  refine psf_ret ?_
  refine pef_and ?_ ?_
  refine pef_callB callf_isi ?_ T.n_isinstance bb_isinstance ?_
  rfl
  refine paf_c ?_ ?_ ?_
  exact (pef_var (pv 0))
  refine paf_c ?_ ?_ ?_
  refine pef_ty ?_ T.n_int bb_int
  rfl
  exact paf_nil
  rfl
  rfl
  refine pef_one ?_
  refine pef_not ?_
  refine pef_callB callf_isi ?_ T.n_isinstance bb_isinstance ?_
  rfl
  refine paf_c ?_ ?_ ?_
  exact (pef_var (pv 0))
  refine paf_c ?_ ?_ ?_
  refine pef_ty ?_ T.n_bool bb_bool
  rfl
  exact paf_nil
  rfl
  rfl
theorem ok_is_row (T : Top K mg) (F_is_whole : Fn P w K mg base 1 "is_whole" ["thing"] m_is_whole) : Fn P w K mg base 2 "is_row" ["many", "thing"] m_is_row := by
  refine (fun h => h : _ → Fn P w K mg base 2 "is_row" ["many", "thing"] (runB 2 4 b_is_row)) (fn_mk (N := ["many", "thing", "last", "literal"]) (k := 1) T.t_is_row sc_is_row (fun _ _ _ _ _ _ us hl => match us, hl with | [_, _], _ => rfl) ?_)
  intro f cdv A outer s H E hr
  unfold b_is_row
  refine pssf_cons ?_ ?_
  refine psf_if ?_ ?_ pssf_nil
  refine ptf_not ?_
  refine ptf_truth ?_ (fun _ => rfl)
  refine pef_callB callf_isi ?_ T.n_isinstance bb_isinstance ?_
  rfl
  refine paf_c ?_ ?_ ?_
  exact (pef_var (pv 1))
  refine paf_c ?_ ?_ ?_
  refine pef_ty ?_ T.n_tuple bb_tuple
  rfl
  exact paf_nil
  rfl
  rfl
  refine pssf_cons ?_ pssf_nil
  exact psf_ret pef_bl
  refine pssf_cons ?_ ?_
  refine psf_set (i := 2) ?_ ?_ ?_ pef_int
  exact sc_is_row.nd
  rfl
  first | exact Or.inl rfl | exact Or.inr rfl
  refine pssf_cons ?_ ?_
  refine psf_for PassesOwn.never ?_ ?_ ?_ ?_
  rfl
  exact pif_seq (pef_var (pv 1))
  refine pgf_name (i := 3) ?_ ?_ ?_
  exact sc_is_row.nd
  rfl
  first | exact Or.inl rfl | exact Or.inr rfl
  refine pssf_cons ?_ ?_
  refine psf_if ?_ ?_ pssf_nil
  refine PWf.pt ?_
  refine pwf_or ?_ ?_
  refine ptf_not ?_
  refine ptf_truth ?_ (fun _ => rfl)
  refine pef_fn F_is_whole (hr.mono (by decide)) ?_ ?_
  rfl
  refine paf_c ?_ ?_ ?_
  exact (pef_var (pv 3))
  exact paf_nil
  rfl
  refine pwf_or ?_ ?_
  refine ptf_cmp opf_le ?_ (pef_var (pv 2)) (nomark _)
  refine pef_callB callf_abs ?_ T.n_abs bb_abs ?_
  rfl
  refine paf_c ?_ ?_ ?_
  exact (pef_var (pv 3))
  exact paf_nil
  rfl
  refine pwf_or1 ?_
  refine ptf_cmp opf_gt ?_ (pef_var (pv 0)) (nomark _)
  refine pef_callB callf_abs ?_ T.n_abs bb_abs ?_
  rfl
  refine paf_c ?_ ?_ ?_
  exact (pef_var (pv 3))
  exact paf_nil
  rfl
  refine pssf_cons ?_ pssf_nil
  exact psf_ret pef_bl
  refine pssf_cons ?_ pssf_nil
  refine psf_set (i := 2) ?_ ?_ ?_ ?_
  exact sc_is_row.nd
  rfl
  first | exact Or.inl rfl | exact Or.inr rfl
  refine pef_callB callf_abs ?_ T.n_abs bb_abs ?_
  rfl
  refine paf_c ?_ ?_ ?_
  exact (pef_var (pv 3))
  exact paf_nil
  rfl
  refine pssf_cons ?_ pssf_nil
  exact psf_ret pef_bl
theorem ok_is_kinds_of_pairs (T : Top K mg) : Fn P w K mg base 1 "is_kinds_of_pairs" ["thing"] m_is_kinds_of_pairs := by
  refine (fun h => h : _ → Fn P w K mg base 1 "is_kinds_of_pairs" ["thing"] (runB 1 1 b_is_kinds_of_pairs)) (fn_mk (N := ["thing"]) (k := 0) T.t_is_kinds_of_pairs sc_is_kinds_of_pairs (fun _ _ _ _ _ _ us hl => match us, hl with | [_], _ => rfl) ?_)
  intro f cdv A outer s H E hr
  unfold b_is_kinds_of_pairs
  refine pssf_cons ?_ ?_
  refine psf_if ?_ ?_ pssf_nil
  refine PWf.pt ?_
  refine pwf_or ?_ ?_
  refine ptf_not ?_
  refine ptf_truth ?_ (fun _ => rfl)
  refine pef_callB callf_isi ?_ T.n_isinstance bb_isinstance ?_
  rfl
  refine paf_c ?_ ?_ ?_
  exact (pef_var (pv 0))
  refine paf_c ?_ ?_ ?_
  refine pef_ty ?_ T.n_tuple bb_tuple
  rfl
  exact paf_nil
  rfl
  rfl
  refine pwf_or1 ?_
  refine ptf_cmp opf_gt ?_ ?_ (nomark _)
  refine pef_callB callf_len ?_ T.n_len bb_len ?_
  rfl
  refine paf_c ?_ ?_ ?_
  exact (pef_var (pv 0))
  exact paf_nil
  rfl
  refine pef_gc ?_ T.c_MOST_NAMES
  rfl
  refine pssf_cons ?_ pssf_nil
  exact psf_ret pef_bl
  refine pssf_cons ?_ pssf_nil
  refine psf_ret ?_
  refine pef_callB (callf_all (by rfl)) ?_ T.n_all bb_all ?_
  rfl
  refine paf_c ?_ ?_ ?_
  refine pef_lc (cn := []) ?_ (blk_fn (x := "kind") (cn := []) (ci := []) (by decide +kernel)) ?_ ?_ ?_
  rfl
  exact pif_seq (pef_var (pv 0))
  intro _ _ _ _ _ _
  exact ptsf_nil
  intro _ _ _ _ _ _
  refine pef_cmp (opf_in hr.units) (pef_var (pv 0)) ?_ ?_
  refine pef_gc ?_ T.c_KINDS
  rfl
  with_unfolding_all rfl
  exact paf_nil
  rfl
theorem ok_is_rows_of_pairs (T : Top K mg) (F_is_row : Fn P w K mg base 2 "is_row" ["many", "thing"] m_is_row) : Fn P w K mg base 3 "is_rows_of_pairs" ["many", "thing"] m_is_rows_of_pairs := by
  refine (fun h => h : _ → Fn P w K mg base 3 "is_rows_of_pairs" ["many", "thing"] (runB 2 2 b_is_rows_of_pairs)) (fn_mk (N := ["many", "thing"]) (k := 2) T.t_is_rows_of_pairs sc_is_rows_of_pairs (fun _ _ _ _ _ _ us hl => match us, hl with | [_, _], _ => rfl) ?_)
  intro f cdv A outer s H E hr
  unfold b_is_rows_of_pairs
  refine pssf_cons ?_ ?_
  refine psf_if ?_ ?_ pssf_nil
  refine PWf.pt ?_
  refine pwf_or ?_ ?_
  refine ptf_not ?_
  refine ptf_truth ?_ (fun _ => rfl)
  refine pef_callB callf_isi ?_ T.n_isinstance bb_isinstance ?_
  rfl
  refine paf_c ?_ ?_ ?_
  exact (pef_var (pv 1))
  refine paf_c ?_ ?_ ?_
  refine pef_ty ?_ T.n_tuple bb_tuple
  rfl
  exact paf_nil
  rfl
  rfl
  refine pwf_or1 ?_
  refine ptf_cmp opf_gt ?_ ?_ (nomark _)
  refine pef_callB callf_len ?_ T.n_len bb_len ?_
  rfl
  refine paf_c ?_ ?_ ?_
  exact (pef_var (pv 1))
  exact paf_nil
  rfl
  refine pef_gc ?_ T.c_MOST_ROWS
  rfl
  refine pssf_cons ?_ pssf_nil
  exact psf_ret pef_bl
  refine pssf_cons ?_ pssf_nil
  refine psf_ret ?_
  refine pef_callB (callf_all (by rfl)) ?_ T.n_all bb_all ?_
  rfl
  refine paf_c ?_ ?_ ?_
  refine pef_lc (cn := ["many"]) ?_ (blk_fn (x := "row") (cn := ["many"]) (ci := [0]) (by decide +kernel)) ?_ ?_ ?_
  rfl
  exact pif_seq (pef_var (pv 1))
  intro _ _ _ _ _ _
  exact ptsf_nil
  intro _ _ _ _ _ _
  refine pef_and ?_ ?_
  refine pef_fn F_is_row (hr.mono (by decide)) ?_ ?_
  rfl
  refine paf_c ?_ ?_ ?_
  exact (pef_var (pv 1))
  refine paf_c ?_ ?_ ?_
  exact (pef_var (pv 0))
  exact paf_nil
  rfl
  rfl
  refine pef_one ?_
  refine pef_cmp opf_le ?_ ?_ (nomark _)
  refine pef_callB callf_len ?_ T.n_len bb_len ?_
  rfl
  refine paf_c ?_ ?_ ?_
  exact (pef_var (pv 0))
  exact paf_nil
  rfl
  refine pef_gc ?_ T.c_MOST_LITERALS
  rfl
  exact paf_nil
  rfl
theorem ok_is_pairs (T : Top K mg) (F_is_kinds_of_pairs : Fn P w K mg base 1 "is_kinds_of_pairs" ["thing"] m_is_kinds_of_pairs) (F_is_rows_of_pairs : Fn P w K mg base 3 "is_rows_of_pairs" ["many", "thing"] m_is_rows_of_pairs) : Fn P w K mg base 4 "is_pairs" ["thing"] m_is_pairs := by
  refine (fun h => h : _ → Fn P w K mg base 4 "is_pairs" ["thing"] (runB 1 1 b_is_pairs)) (fn_mk (N := ["thing"]) (k := 3) T.t_is_pairs sc_is_pairs (fun _ _ _ _ _ _ us hl => match us, hl with | [_], _ => rfl) ?_)
  intro f cdv A outer s H E hr
  unfold b_is_pairs
  refine pssf_cons ?_ ?_
  refine psf_if ?_ ?_ pssf_nil
  refine PWf.pt ?_
  refine pwf_or ?_ ?_
  refine ptf_not ?_
  refine ptf_truth ?_ (fun _ => rfl)
  refine pef_callB callf_isi ?_ T.n_isinstance bb_isinstance ?_
  rfl
  refine paf_c ?_ ?_ ?_
  exact (pef_var (pv 0))
  refine paf_c ?_ ?_ ?_
  refine pef_ty ?_ T.n_tuple bb_tuple
  rfl
  exact paf_nil
  rfl
  rfl
  refine pwf_or1 ?_
  refine ptf_cmp (opf_ne hr.units) ?_ pef_int (nomark _)
  refine pef_callB callf_len ?_ T.n_len bb_len ?_
  rfl
  refine paf_c ?_ ?_ ?_
  exact (pef_var (pv 0))
  exact paf_nil
  rfl
  refine pssf_cons ?_ pssf_nil
  exact psf_ret pef_bl
  refine pssf_cons ?_ pssf_nil
  refine psf_ret ?_
  refine pef_and ?_ ?_
  refine pef_fn F_is_kinds_of_pairs (hr.mono (by decide)) ?_ ?_
  rfl
  refine paf_c ?_ ?_ ?_
  exact pef_ix ixf (pef_var (pv 0)) pef_int (fun _ _ => rfl)
  exact paf_nil
  rfl
  refine pef_one ?_
  refine pef_fn F_is_rows_of_pairs (hr.mono (by decide)) ?_ ?_
  rfl
  refine paf_c ?_ ?_ ?_
  refine pef_callB callf_len ?_ T.n_len bb_len ?_
  rfl
  refine paf_c ?_ ?_ ?_
  exact pef_ix ixf (pef_var (pv 0)) pef_int (fun _ _ => rfl)
  exact paf_nil
  rfl
  refine paf_c ?_ ?_ ?_
  exact pef_ix ixf (pef_var (pv 0)) pef_int (fun _ _ => rfl)
  exact paf_nil
  rfl
  rfl
theorem ok_law_mix (T : Top K mg) : Fn P w K mg base 1 "_law_mix" ["cell", "k"] m_law_mix := by
  refine (fun h => h : _ → Fn P w K mg base 1 "_law_mix" ["cell", "k"] (runB 2 4 b_law_mix)) (fn_mk (N := ["cell", "k", "prime", "one"]) (k := 0) T.t_law_mix sc_law_mix (fun _ _ _ _ _ _ us hl => match us, hl with | [_, _], _ => rfl) ?_)
  intro f cdv A outer s H E hr
  unfold b_law_mix
  refine pssf_cons ?_ ?_
  refine psf_set (i := 2) ?_ ?_ ?_ ?_
  exact sc_law_mix.nd
  rfl
  first | exact Or.inl rfl | exact Or.inr rfl
  refine pef_ix ixf ?_ ?_ (fun _ _ => rfl)
  refine pef_lst ?_
  refine paf_c ?_ ?_ ?_
  exact pef_int
  refine paf_c ?_ ?_ ?_
  exact pef_int
  refine paf_c ?_ ?_ ?_
  exact pef_int
  refine paf_c ?_ ?_ ?_
  exact pef_int
  refine paf_c ?_ ?_ ?_
  exact pef_int
  refine paf_c ?_ ?_ ?_
  exact pef_int
  refine paf_c ?_ ?_ ?_
  exact pef_int
  exact paf_nil
  rfl
  rfl
  rfl
  rfl
  rfl
  rfl
  rfl
  exact pef_op opf_mod (pef_var (pv 1)) pef_int
  refine pssf_cons ?_ ?_
  refine psf_set (i := 3) ?_ ?_ ?_ ?_
  exact sc_law_mix.nd
  rfl
  first | exact Or.inl rfl | exact Or.inr rfl
  refine pef_op opf_mod ?_ (pef_var (pv 2))
  refine pef_op opf_mul ?_ ?_
  refine pef_op opf_add ?_ ?_
  exact pef_op opf_mod (pef_var (pv 0)) pef_int
  refine pef_op opf_mul pef_int ?_
  exact pef_op opf_add (pef_var (pv 1)) pef_int
  refine pef_op opf_add ?_ pef_int
  refine pef_op opf_add ?_ ?_
  exact pef_op opf_mul (pef_var (pv 1)) (pef_var (pv 1))
  exact pef_op opf_mul pef_int (pef_var (pv 1))
  refine pssf_cons ?_ ?_
  refine psf_set (i := 3) ?_ ?_ ?_ ?_
  exact sc_law_mix.nd
  rfl
  first | exact Or.inl rfl | exact Or.inr rfl
  refine pef_op opf_mod ?_ pef_int
  exact pef_op opf_pow (pef_var (pv 3)) pef_int
  refine pssf_cons ?_ ?_
  refine psf_set (i := 3) ?_ ?_ ?_ ?_
  exact sc_law_mix.nd
  rfl
  first | exact Or.inl rfl | exact Or.inr rfl
  refine pef_op opf_mod ?_ (pef_var (pv 2))
  refine pef_op opf_add ?_ pef_int
  refine pef_op opf_add ?_ ?_
  exact pef_op opf_mul (pef_var (pv 3)) pef_int
  exact pef_op opf_mul pef_int (pef_var (pv 1))
  refine pssf_cons ?_ pssf_nil
  refine psf_ret ?_
  refine pef_op opf_fdiv ?_ pef_int
  refine pef_op opf_mod ?_ pef_int
  exact pef_op opf_pow (pef_var (pv 3)) pef_int
theorem ok_law_digits (T : Top K mg) (F_law_mix : Fn P w K mg base 1 "_law_mix" ["cell", "k"] m_law_mix) : Fn P w K mg base 2 "_law_digits" ["cell", "many"] m_law_digits := by
  refine (fun h => h : _ → Fn P w K mg base 2 "_law_digits" ["cell", "many"] (runB 2 6 b_law_digits)) (fn_mk (N := ["cell", "many", "found", "left_over", "wide", "k"]) (k := 1) T.t_law_digits sc_law_digits (fun _ _ _ _ _ _ us hl => match us, hl with | [_, _], _ => rfl) ?_)
  intro f cdv A outer s H E hr
  unfold b_law_digits
  refine pssf_cons ?_ ?_
  refine psf_set (i := 2) ?_ ?_ ?_ ?_
  exact sc_law_digits.nd
  rfl
  first | exact Or.inl rfl | exact Or.inr rfl
  exact pef_lst paf_nil
  refine pssf_cons ?_ ?_
  refine psf_set (i := 3) ?_ ?_ ?_ ?_
  exact sc_law_digits.nd
  rfl
  first | exact Or.inl rfl | exact Or.inr rfl
  refine pef_callB callf_abs ?_ T.n_abs bb_abs ?_
  rfl
  refine paf_c ?_ ?_ ?_
  exact (pef_var (pv 0))
  exact paf_nil
  rfl
  refine pssf_cons ?_ ?_
  refine psf_set (i := 4) ?_ ?_ ?_ ?_
  exact sc_law_digits.nd
  rfl
  first | exact Or.inl rfl | exact Or.inr rfl
  refine pef_cmp opf_ge (pef_var (pv 3)) ?_ (nomark _)
  exact pef_op opf_pow pef_int pef_int
  refine pssf_cons ?_ ?_
  refine psf_for PassesOwn.never ?_ ?_ ?_ ?_
  rfl
  refine pif_range1 ?_ T.n_range ?_
  rfl
  refine paf_c ?_ ?_ ?_
  exact (pef_var (pv 1))
  exact paf_nil
  rfl
  refine pgf_name (i := 5) ?_ ?_ ?_
  exact sc_law_digits.nd
  rfl
  first | exact Or.inl rfl | exact Or.inr rfl
  refine pssf_cons ?_ pssf_nil
  refine psf_if ?_ ?_ ?_
  refine PWf.pt ?_
  refine pwf_and ?_ ?_
  exact ptf_truth (pef_var (pv 4)) (fun _ => rfl)
  refine pwf_and1 ?_
  exact ptf_cmp opf_gt (pef_var (pv 3)) pef_int (nomark _)
  refine pssf_cons ?_ ?_
  refine psf_expr ?_
  refine pef_lm PySem.F.slot_list_append PySem.F.type_list_append mtf_append (pef_var (pv 2)) ?_
  refine paf_c ?_ ?_ ?_
  exact pef_op opf_mod (pef_var (pv 3)) pef_int
  exact paf_nil
  rfl
  refine pssf_cons ?_ pssf_nil
  refine psf_set (i := 3) ?_ ?_ ?_ ?_
  exact sc_law_digits.nd
  rfl
  first | exact Or.inl rfl | exact Or.inr rfl
  exact pef_op opf_fdiv (pef_var (pv 3)) pef_int
  refine pssf_cons ?_ pssf_nil
  refine psf_expr ?_
  refine pef_lm PySem.F.slot_list_append PySem.F.type_list_append mtf_append (pef_var (pv 2)) ?_
  refine paf_c ?_ ?_ ?_
  refine pef_fn F_law_mix (hr.mono (by decide)) ?_ ?_
  rfl
  refine paf_c ?_ ?_ ?_
  exact (pef_var (pv 0))
  refine paf_c ?_ ?_ ?_
  exact (pef_var (pv 5))
  exact paf_nil
  rfl
  rfl
  exact paf_nil
  rfl
  refine pssf_cons ?_ pssf_nil
  exact psf_ret (pef_var (pv 2))
theorem ok_law_at (T : Top K mg) : Fn P w K mg base 1 "_law_at" ["script", "k"] m_law_at := by
  refine (fun h => h : _ → Fn P w K mg base 1 "_law_at" ["script", "k"] (runB 2 2 b_law_at)) (fn_mk (N := ["script", "k"]) (k := 0) T.t_law_at sc_law_at (fun _ _ _ _ _ _ us hl => match us, hl with | [_, _], _ => rfl) ?_)
  intro f cdv A outer s H E hr
  unfold b_law_at
  refine pssf_cons ?_ ?_
  refine psf_if ?_ ?_ pssf_nil
  refine ptf_cmp opf_lt (pef_var (pv 1)) ?_ (nomark _)
  refine pef_callB callf_len ?_ T.n_len bb_len ?_
  rfl
  refine paf_c ?_ ?_ ?_
  exact (pef_var (pv 0))
  exact paf_nil
  rfl
  refine pssf_cons ?_ pssf_nil
  refine psf_ret ?_
  exact pef_ix ixf (pef_var (pv 0)) (pef_var (pv 1)) (fun _ _ => rfl)
  refine pssf_cons ?_ pssf_nil
  refine psf_ret ?_
  refine pef_op opf_add ?_ ?_
  refine pef_op opf_add ?_ pef_int
  exact pef_op opf_mul pef_int (pef_var (pv 1))
  refine pef_callB callf_len ?_ T.n_len bb_len ?_
  rfl
  refine paf_c ?_ ?_ ?_
  exact (pef_var (pv 0))
  exact paf_nil
  rfl
theorem ok_law_kinds (T : Top K mg) : Fn P w K mg base 1 "_law_kinds" ["some", "many"] m_law_kinds := by
  refine (fun h => h : _ → Fn P w K mg base 1 "_law_kinds" ["some", "many"] (runB 2 5 b_law_kinds)) (fn_mk (N := ["some", "many", "found", "k", "kind"]) (k := 0) T.t_law_kinds sc_law_kinds (fun _ _ _ _ _ _ us hl => match us, hl with | [_, _], _ => rfl) ?_)
  intro f cdv A outer s H E hr
  unfold b_law_kinds
  refine pssf_cons ?_ ?_
  refine psf_set (i := 2) ?_ ?_ ?_ ?_
  exact sc_law_kinds.nd
  rfl
  first | exact Or.inl rfl | exact Or.inr rfl
  exact pef_lst paf_nil
  refine pssf_cons ?_ ?_
  refine psf_for PassesOwn.never ?_ ?_ ?_ ?_
  rfl
  refine pif_range1 ?_ T.n_range ?_
  rfl
  refine paf_c ?_ ?_ ?_
  exact (pef_var (pv 1))
  exact paf_nil
  rfl
  refine pgf_name (i := 3) ?_ ?_ ?_
  exact sc_law_kinds.nd
  rfl
  first | exact Or.inl rfl | exact Or.inr rfl
  refine pssf_cons ?_ ?_
  refine psf_set (i := 4) ?_ ?_ ?_ ?_
  exact sc_law_kinds.nd
  rfl
  first | exact Or.inl rfl | exact Or.inr rfl
  refine pef_ix ixf ?_ ?_ (fun _ _ => rfl)
  refine pef_lst ?_
  refine paf_c ?_ ?_ ?_
  exact pef_str
  refine paf_c ?_ ?_ ?_
  exact pef_str
  exact paf_nil
  rfl
  rfl
  refine pef_op opf_mod ?_ pef_int
  refine pef_ix ixf (pef_var (pv 0)) ?_ (fun _ _ => rfl)
  exact pef_op opf_add pef_int (pef_var (pv 3))
  refine pssf_cons ?_ ?_
  refine psf_if ?_ ?_ pssf_nil
  refine ptf_cmp (opf_eq hr.units) ?_ pef_int (nomark _)
  refine pef_op opf_mod ?_ pef_int
  exact pef_ix ixf (pef_var (pv 0)) pef_int (fun _ _ => rfl)
  refine pssf_cons ?_ pssf_nil
  refine psf_set (i := 4) ?_ ?_ ?_ ?_
  exact sc_law_kinds.nd
  rfl
  first | exact Or.inl rfl | exact Or.inr rfl
  refine pef_ix ixf ?_ ?_ (fun _ _ => rfl)
  refine pef_lst ?_
  refine paf_c ?_ ?_ ?_
  exact pef_str
  refine paf_c ?_ ?_ ?_
  exact pef_str
  exact paf_nil
  rfl
  rfl
  refine pef_op opf_mod ?_ pef_int
  refine pef_op opf_add (pef_var (pv 3)) ?_
  exact pef_ix ixf (pef_var (pv 0)) pef_int (fun _ _ => rfl)
  refine pssf_cons ?_ ?_
  refine psf_if ?_ ?_ pssf_nil
  refine ptf_cmp (opf_eq hr.units) ?_ pef_int (nomark _)
  refine pef_op opf_mod ?_ pef_int
  exact pef_ix ixf (pef_var (pv 0)) pef_int (fun _ _ => rfl)
  refine pssf_cons ?_ pssf_nil
  refine psf_set (i := 4) ?_ ?_ ?_ ?_
  exact sc_law_kinds.nd
  rfl
  first | exact Or.inl rfl | exact Or.inr rfl
  refine pef_ix ixf ?_ ?_ (fun _ _ => rfl)
  refine pef_lst ?_
  refine paf_c ?_ ?_ ?_
  exact pef_str
  refine paf_c ?_ ?_ ?_
  exact pef_str
  exact paf_nil
  rfl
  rfl
  refine pef_callTy callf_int ?_ T.n_int bb_int ?_
  rfl
  refine paf_c ?_ ?_ ?_
  refine pef_cmp opf_gt ?_ pef_int (nomark _)
  refine pef_op opf_mod ?_ pef_int
  refine pef_ix ixf (pef_var (pv 0)) ?_ (fun _ _ => rfl)
  exact pef_op opf_add pef_int (pef_var (pv 3))
  exact paf_nil
  rfl
  refine pssf_cons ?_ pssf_nil
  refine psf_expr ?_
  refine pef_lm PySem.F.slot_list_append PySem.F.type_list_append mtf_append (pef_var (pv 2)) ?_
  refine paf_c ?_ ?_ ?_
  exact (pef_var (pv 4))
  exact paf_nil
  rfl
  refine pssf_cons ?_ pssf_nil
  refine psf_ret ?_
  refine pef_callTy callf_tuple ?_ T.n_tuple bb_tuple ?_
  rfl
  refine paf_c ?_ ?_ ?_
  exact (pef_var (pv 2))
  exact paf_nil
  rfl
theorem ok_law_pair (T : Top K mg) : Fn P w K mg base 1 "_law_pair" ["some", "many"] m_law_pair := by
  refine (fun h => h : _ → Fn P w K mg base 1 "_law_pair" ["some", "many"] (runB 2 6 b_law_pair)) (fn_mk (N := ["some", "many", "first", "other", "low", "high"]) (k := 0) T.t_law_pair sc_law_pair (fun _ _ _ _ _ _ us hl => match us, hl with | [_, _], _ => rfl) ?_)
  intro f cdv A outer s H E hr
  unfold b_law_pair
  refine pssf_cons ?_ ?_
  refine psf_set (i := 2) ?_ ?_ ?_ ?_
  exact sc_law_pair.nd
  rfl
  first | exact Or.inl rfl | exact Or.inr rfl
  refine pef_op opf_add pef_int ?_
  refine pef_op opf_mod ?_ (pef_var (pv 1))
  exact pef_ix ixf (pef_var (pv 0)) pef_int (fun _ _ => rfl)
  refine pssf_cons ?_ ?_
  refine psf_set (i := 3) ?_ ?_ ?_ ?_
  exact sc_law_pair.nd
  rfl
  first | exact Or.inl rfl | exact Or.inr rfl
  refine pef_op opf_add pef_int ?_
  refine pef_op opf_mod ?_ (pef_var (pv 1))
  exact pef_ix ixf (pef_var (pv 0)) pef_int (fun _ _ => rfl)
  refine pssf_cons ?_ ?_
  refine psf_if ?_ ?_ pssf_nil
  exact ptf_cmp (opf_eq hr.units) (pef_var (pv 2)) (pef_var (pv 3)) (nomark _)
  refine pssf_cons ?_ pssf_nil
  refine psf_ret ?_
  refine pef_tup ?_
  refine paf_c ?_ ?_ ?_
  refine pef_op opf_mul (pef_var (pv 2)) ?_
  refine pef_ix ixf ?_ ?_ (fun _ _ => rfl)
  refine pef_lst ?_
  refine paf_c ?_ ?_ ?_
  exact pef_un unf_neg pef_int
  refine paf_c ?_ ?_ ?_
  exact pef_int
  exact paf_nil
  rfl
  rfl
  refine pef_op opf_mod ?_ pef_int
  exact pef_ix ixf (pef_var (pv 0)) pef_int (fun _ _ => rfl)
  exact paf_nil
  rfl
  refine pssf_cons ?_ ?_
  refine psf_asg ?_ ?_
  refine pef_callB callf_sorted ?_ T.n_sorted bb_sorted ?_
  rfl
  refine paf_c ?_ ?_ ?_
  refine pef_lst ?_
  refine paf_c ?_ ?_ ?_
  exact (pef_var (pv 2))
  refine paf_c ?_ ?_ ?_
  exact (pef_var (pv 3))
  exact paf_nil
  rfl
  rfl
  exact paf_nil
  rfl
  refine pgf_lst ?_ ?_
  rfl
  refine pgsf_cons ?_ ?_
  refine pgf_name (i := 4) ?_ ?_ ?_
  exact sc_law_pair.nd
  rfl
  first | exact Or.inl rfl | exact Or.inr rfl
  refine pgsf_cons ?_ pgsf_nil
  refine pgf_name (i := 5) ?_ ?_ ?_
  exact sc_law_pair.nd
  rfl
  first | exact Or.inl rfl | exact Or.inr rfl
  refine pssf_cons ?_ pssf_nil
  refine psf_ret ?_
  refine pef_tup ?_
  refine paf_c ?_ ?_ ?_
  refine pef_op opf_mul (pef_var (pv 4)) ?_
  refine pef_ix ixf ?_ ?_ (fun _ _ => rfl)
  refine pef_lst ?_
  refine paf_c ?_ ?_ ?_
  exact pef_un unf_neg pef_int
  refine paf_c ?_ ?_ ?_
  exact pef_int
  exact paf_nil
  rfl
  rfl
  refine pef_op opf_mod ?_ pef_int
  exact pef_ix ixf (pef_var (pv 0)) pef_int (fun _ _ => rfl)
  refine paf_c ?_ ?_ ?_
  refine pef_op opf_mul (pef_var (pv 5)) ?_
  refine pef_ix ixf ?_ ?_ (fun _ _ => rfl)
  refine pef_lst ?_
  refine paf_c ?_ ?_ ?_
  exact pef_un unf_neg pef_int
  refine paf_c ?_ ?_ ?_
  exact pef_int
  exact paf_nil
  rfl
  rfl
  refine pef_op opf_mod ?_ pef_int
  exact pef_ix ixf (pef_var (pv 0)) pef_int (fun _ _ => rfl)
  exact paf_nil
  rfl
  rfl
theorem ok_law_pairs (T : Top K mg) (F_law_pair : Fn P w K mg base 1 "_law_pair" ["some", "many"] m_law_pair) (F_law_digits : Fn P w K mg base 2 "_law_digits" ["cell", "many"] m_law_digits) (F_law_at : Fn P w K mg base 1 "_law_at" ["script", "k"] m_law_at) (F_law_kinds : Fn P w K mg base 1 "_law_kinds" ["some", "many"] m_law_kinds) : Fn P w K mg base 3 "_law_pairs" ["script", "most", "many_rows"] m_law_pairs := by
  refine (fun h => h : _ → Fn P w K mg base 3 "_law_pairs" ["script", "most", "many_rows"] (runB 3 8 b_law_pairs)) (fn_mk (N := ["script", "most", "many_rows", "some", "many", "kinds", "rows", "k"]) (k := 2) T.t_law_pairs sc_law_pairs (fun _ _ _ _ _ _ us hl => match us, hl with | [_, _, _], _ => rfl) ?_)
  intro f cdv A outer s H E hr
  unfold b_law_pairs
  refine pssf_cons ?_ ?_
  refine psf_set (i := 3) ?_ ?_ ?_ ?_
  exact sc_law_pairs.nd
  rfl
  first | exact Or.inl rfl | exact Or.inr rfl
  refine pef_fn F_law_digits (hr.mono (by decide)) ?_ ?_
  rfl
  refine paf_c ?_ ?_ ?_
  refine pef_fn F_law_at (hr.mono (by decide)) ?_ ?_
  rfl
  refine paf_c ?_ ?_ ?_
  exact (pef_var (pv 0))
  refine paf_c ?_ ?_ ?_
  exact pef_int
  exact paf_nil
  rfl
  rfl
  refine paf_c ?_ ?_ ?_
  exact pef_int
  exact paf_nil
  rfl
  rfl
  refine pssf_cons ?_ ?_
  refine psf_set (i := 4) ?_ ?_ ?_ ?_
  exact sc_law_pairs.nd
  rfl
  first | exact Or.inl rfl | exact Or.inr rfl
  refine pef_op opf_add pef_int ?_
  refine pef_op opf_mod ?_ (pef_var (pv 1))
  exact pef_ix ixf (pef_var (pv 3)) pef_int (fun _ _ => rfl)
  refine pssf_cons ?_ ?_
  refine psf_set (i := 5) ?_ ?_ ?_ ?_
  exact sc_law_pairs.nd
  rfl
  first | exact Or.inl rfl | exact Or.inr rfl
  refine pef_fn F_law_kinds (hr.mono (by decide)) ?_ ?_
  rfl
  refine paf_c ?_ ?_ ?_
  refine pef_op opf_add ?_ (pef_var (pv 3))
  refine pef_op opf_add ?_ ?_
  refine pef_slice (pef_var (pv 3)) ?_ pof_none
  exact pof_some pef_int
  refine pef_lc (cn := []) ?_ (blk_fn (x := "one") (cn := []) (ci := []) (by decide +kernel)) ?_ ?_ ?_
  rfl
  exact pif_seq (pef_var (pv 3))
  intro _ _ _ _ _ _
  exact ptsf_nil
  intro _ _ _ _ _ _
  exact pef_op opf_fdiv (pef_var (pv 0)) pef_int
  refine paf_c ?_ ?_ ?_
  exact (pef_var (pv 4))
  exact paf_nil
  rfl
  rfl
  refine pssf_cons ?_ ?_
  refine psf_set (i := 6) ?_ ?_ ?_ ?_
  exact sc_law_pairs.nd
  rfl
  first | exact Or.inl rfl | exact Or.inr rfl
  exact pef_lst paf_nil
  refine pssf_cons ?_ ?_
  refine psf_for PassesOwn.never ?_ ?_ ?_ ?_
  rfl
  refine pif_range1 ?_ T.n_range ?_
  rfl
  refine paf_c ?_ ?_ ?_
  refine pef_op opf_mod ?_ ?_
  exact pef_ix ixf (pef_var (pv 3)) pef_int (fun _ _ => rfl)
  exact pef_op opf_add (pef_var (pv 2)) pef_int
  exact paf_nil
  rfl
  refine pgf_name (i := 7) ?_ ?_ ?_
  exact sc_law_pairs.nd
  rfl
  first | exact Or.inl rfl | exact Or.inr rfl
  refine pssf_cons ?_ pssf_nil
  refine psf_expr ?_
  refine pef_lm PySem.F.slot_list_append PySem.F.type_list_append mtf_append (pef_var (pv 6)) ?_
  refine paf_c ?_ ?_ ?_
  refine pef_fn F_law_pair (hr.mono (by decide)) ?_ ?_
  rfl
  refine paf_c ?_ ?_ ?_
  refine pef_slice ?_ ?_ pof_none
  refine pef_fn F_law_digits (hr.mono (by decide)) ?_ ?_
  rfl
  refine paf_c ?_ ?_ ?_
  refine pef_fn F_law_at (hr.mono (by decide)) ?_ ?_
  rfl
  refine paf_c ?_ ?_ ?_
  exact (pef_var (pv 0))
  refine paf_c ?_ ?_ ?_
  exact pef_op opf_add pef_int (pef_var (pv 7))
  exact paf_nil
  rfl
  rfl
  refine paf_c ?_ ?_ ?_
  exact pef_int
  exact paf_nil
  rfl
  rfl
  exact pof_some pef_int
  refine paf_c ?_ ?_ ?_
  exact (pef_var (pv 4))
  exact paf_nil
  rfl
  rfl
  exact paf_nil
  rfl
  refine pssf_cons ?_ ?_
  refine psf_if ?_ ?_ pssf_nil
  refine ptf_cmp (opf_eq hr.units) ?_ pef_int (nomark _)
  refine pef_op opf_mod ?_ pef_int
  exact pef_ix ixf (pef_var (pv 3)) pef_int (fun _ _ => rfl)
  refine pssf_cons ?_ pssf_nil
  refine psf_expr ?_
  refine pef_lm PySem.F.slot_list_insert PySem.F.type_list_insert mtf_insert (pef_var (pv 6)) ?_
  refine paf_c ?_ ?_ ?_
  refine pef_op opf_mod ?_ ?_
  exact pef_ix ixf (pef_var (pv 3)) pef_int (fun _ _ => rfl)
  refine pef_op opf_add ?_ pef_int
  refine pef_callB callf_len ?_ T.n_len bb_len ?_
  rfl
  refine paf_c ?_ ?_ ?_
  exact (pef_var (pv 6))
  exact paf_nil
  rfl
  refine paf_c ?_ ?_ ?_
  exact pef_tup paf_nil
  exact paf_nil
  rfl
  rfl
  refine pssf_cons ?_ pssf_nil
  refine psf_ret ?_
  refine pef_tup ?_
  refine paf_c ?_ ?_ ?_
  exact (pef_var (pv 5))
  refine paf_c ?_ ?_ ?_
  refine pef_callTy callf_tuple ?_ T.n_tuple bb_tuple ?_
  rfl
  refine paf_c ?_ ?_ ?_
  exact (pef_var (pv 6))
  exact paf_nil
  rfl
  exact paf_nil
  rfl
  rfl
theorem ok_law_bad_row (T : Top K mg) : Fn P w K mg base 1 "_law_bad_row" ["many", "some"] m_law_bad_row := by
  refine (fun h => h : _ → Fn P w K mg base 1 "_law_bad_row" ["many", "some"] (runB 2 4 b_law_bad_row)) (fn_mk (N := ["many", "some", "low", "rows"]) (k := 0) T.t_law_bad_row sc_law_bad_row (fun _ _ _ _ _ _ us hl => match us, hl with | [_, _], _ => rfl) ?_)
  intro f cdv A outer s H E hr
  unfold b_law_bad_row
  refine pssf_cons ?_ ?_
  refine psf_set (i := 2) ?_ ?_ ?_ ?_
  exact sc_law_bad_row.nd
  rfl
  first | exact Or.inl rfl | exact Or.inr rfl
  refine pef_op opf_add pef_int ?_
  refine pef_op opf_mod ?_ (pef_var (pv 0))
  exact pef_ix ixf (pef_var (pv 1)) pef_int (fun _ _ => rfl)
  refine pssf_cons ?_ ?_
  refine psf_set (i := 3) ?_ ?_ ?_ ?_
  exact sc_law_bad_row.nd
  rfl
  first | exact Or.inl rfl | exact Or.inr rfl
  refine pef_lst ?_
  refine paf_c ?_ ?_ ?_
  refine pef_tup ?_
  refine paf_c ?_ ?_ ?_
  exact (pef_var (pv 2))
  refine paf_c ?_ ?_ ?_
  exact (pef_var (pv 2))
  exact paf_nil
  rfl
  rfl
  refine paf_c ?_ ?_ ?_
  refine pef_tup ?_
  refine paf_c ?_ ?_ ?_
  exact pef_un unf_neg (pef_var (pv 2))
  refine paf_c ?_ ?_ ?_
  exact (pef_var (pv 2))
  exact paf_nil
  rfl
  rfl
  refine paf_c ?_ ?_ ?_
  refine pef_tup ?_
  refine paf_c ?_ ?_ ?_
  exact pef_op opf_add (pef_var (pv 0)) pef_int
  exact paf_nil
  rfl
  refine paf_c ?_ ?_ ?_
  refine pef_tup ?_
  refine paf_c ?_ ?_ ?_
  exact pef_int
  exact paf_nil
  rfl
  refine paf_c ?_ ?_ ?_
  refine pef_tup ?_
  refine paf_c ?_ ?_ ?_
  exact pef_bl
  exact paf_nil
  rfl
  refine paf_c ?_ ?_ ?_
  refine pef_tup ?_
  refine paf_c ?_ ?_ ?_
  exact pef_str
  exact paf_nil
  rfl
  refine paf_c ?_ ?_ ?_
  refine pef_lst ?_
  refine paf_c ?_ ?_ ?_
  exact (pef_var (pv 2))
  exact paf_nil
  rfl
  refine paf_c ?_ ?_ ?_
  exact pef_non
  refine paf_c ?_ ?_ ?_
  exact (pef_var (pv 2))
  refine paf_c ?_ ?_ ?_
  refine pef_tup ?_
  refine paf_c ?_ ?_ ?_
  exact (pef_var (pv 2))
  refine paf_c ?_ ?_ ?_
  exact pef_non
  exact paf_nil
  rfl
  rfl
  exact paf_nil
  rfl
  rfl
  rfl
  rfl
  rfl
  rfl
  rfl
  rfl
  rfl
  rfl
  refine pssf_cons ?_ ?_
  refine psf_set (i := 3) ?_ ?_ ?_ ?_
  exact sc_law_bad_row.nd
  rfl
  first | exact Or.inl rfl | exact Or.inr rfl
  refine pef_op opf_add (pef_var (pv 3)) ?_
  refine pef_lst ?_
  refine paf_c ?_ ?_ ?_
  refine pef_tup ?_
  refine paf_c ?_ ?_ ?_
  exact (pef_var (pv 2))
  refine paf_c ?_ ?_ ?_
  exact pef_int
  exact paf_nil
  rfl
  rfl
  refine paf_c ?_ ?_ ?_
  refine pef_tup ?_
  refine paf_c ?_ ?_ ?_
  exact pef_int
  refine paf_c ?_ ?_ ?_
  exact pef_int
  refine paf_c ?_ ?_ ?_
  exact pef_int
  exact paf_nil
  rfl
  rfl
  rfl
  refine paf_c ?_ ?_ ?_
  refine pef_tup ?_
  refine paf_c ?_ ?_ ?_
  refine pef_lst ?_
  refine paf_c ?_ ?_ ?_
  exact (pef_var (pv 2))
  exact paf_nil
  rfl
  exact paf_nil
  rfl
  refine paf_c ?_ ?_ ?_
  refine pef_lst ?_
  refine paf_c ?_ ?_ ?_
  refine pef_lst ?_
  refine paf_c ?_ ?_ ?_
  exact (pef_var (pv 2))
  exact paf_nil
  rfl
  exact paf_nil
  rfl
  exact paf_nil
  rfl
  rfl
  rfl
  rfl
  refine pssf_cons ?_ ?_
  refine psf_set (i := 3) ?_ ?_ ?_ ?_
  exact sc_law_bad_row.nd
  rfl
  first | exact Or.inl rfl | exact Or.inr rfl
  refine pef_op opf_add (pef_var (pv 3)) ?_
  refine pef_lst ?_
  refine paf_c ?_ ?_ ?_
  refine pef_tup ?_
  refine paf_c ?_ ?_ ?_
  exact pef_un unf_neg (pef_var (pv 2))
  refine paf_c ?_ ?_ ?_
  exact pef_un unf_neg pef_int
  exact paf_nil
  rfl
  rfl
  refine paf_c ?_ ?_ ?_
  refine pef_tup ?_
  refine paf_c ?_ ?_ ?_
  refine pef_op opf_sub ?_ pef_int
  exact pef_op opf_sub pef_int (pef_var (pv 0))
  exact paf_nil
  rfl
  refine paf_c ?_ ?_ ?_
  refine pef_tup ?_
  refine paf_c ?_ ?_ ?_
  exact (pef_var (pv 2))
  refine paf_c ?_ ?_ ?_
  exact pef_op opf_add (pef_var (pv 0)) pef_int
  exact paf_nil
  rfl
  rfl
  refine paf_c ?_ ?_ ?_
  refine pef_tup ?_
  refine paf_c ?_ ?_ ?_
  exact pef_op opf_pow pef_int pef_int
  exact paf_nil
  rfl
  refine paf_c ?_ ?_ ?_
  refine pef_tup ?_
  refine paf_c ?_ ?_ ?_
  refine pef_tup ?_
  refine paf_c ?_ ?_ ?_
  exact (pef_var (pv 2))
  exact paf_nil
  rfl
  exact paf_nil
  rfl
  refine paf_c ?_ ?_ ?_
  exact pef_str
  exact paf_nil
  rfl
  rfl
  rfl
  rfl
  rfl
  rfl
  refine pssf_cons ?_ ?_
  refine psf_if ?_ ?_ pssf_nil
  exact ptf_cmp opf_gt (pef_var (pv 0)) pef_int (nomark _)
  refine pssf_cons ?_ ?_
  refine psf_set (i := 3) ?_ ?_ ?_ ?_
  exact sc_law_bad_row.nd
  rfl
  first | exact Or.inl rfl | exact Or.inr rfl
  refine pef_op opf_add (pef_var (pv 3)) ?_
  refine pef_lst ?_
  refine paf_c ?_ ?_ ?_
  refine pef_tup ?_
  refine paf_c ?_ ?_ ?_
  exact (pef_var (pv 0))
  refine paf_c ?_ ?_ ?_
  exact pef_int
  exact paf_nil
  rfl
  rfl
  refine paf_c ?_ ?_ ?_
  refine pef_tup ?_
  refine paf_c ?_ ?_ ?_
  exact pef_int
  refine paf_c ?_ ?_ ?_
  exact pef_un unf_neg pef_int
  exact paf_nil
  rfl
  rfl
  refine paf_c ?_ ?_ ?_
  refine pef_tup ?_
  refine paf_c ?_ ?_ ?_
  exact pef_un unf_neg (pef_var (pv 0))
  refine paf_c ?_ ?_ ?_
  exact pef_int
  exact paf_nil
  rfl
  rfl
  refine paf_c ?_ ?_ ?_
  refine pef_tup ?_
  refine paf_c ?_ ?_ ?_
  exact pef_int
  refine paf_c ?_ ?_ ?_
  exact (pef_var (pv 0))
  refine paf_c ?_ ?_ ?_
  exact (pef_var (pv 0))
  exact paf_nil
  rfl
  rfl
  rfl
  refine paf_c ?_ ?_ ?_
  refine pef_tup ?_
  refine paf_c ?_ ?_ ?_
  exact pef_int
  refine paf_c ?_ ?_ ?_
  exact pef_un unf_neg pef_int
  exact paf_nil
  rfl
  rfl
  refine paf_c ?_ ?_ ?_
  refine pef_tup ?_
  refine paf_c ?_ ?_ ?_
  exact pef_int
  refine paf_c ?_ ?_ ?_
  exact (pef_var (pv 0))
  exact paf_nil
  rfl
  rfl
  refine paf_c ?_ ?_ ?_
  refine pef_tup ?_
  refine paf_c ?_ ?_ ?_
  exact pef_bl
  refine paf_c ?_ ?_ ?_
  exact (pef_var (pv 0))
  exact paf_nil
  rfl
  rfl
  exact paf_nil
  rfl
  rfl
  rfl
  rfl
  rfl
  rfl
  rfl
  refine pssf_cons ?_ pssf_nil
  refine psf_set (i := 3) ?_ ?_ ?_ ?_
  exact sc_law_bad_row.nd
  rfl
  first | exact Or.inl rfl | exact Or.inr rfl
  refine pef_op opf_add (pef_var (pv 3)) ?_
  refine pef_lst ?_
  refine paf_c ?_ ?_ ?_
  refine pef_tup ?_
  refine paf_c ?_ ?_ ?_
  exact pef_non
  refine paf_c ?_ ?_ ?_
  exact (pef_var (pv 0))
  exact paf_nil
  rfl
  rfl
  refine paf_c ?_ ?_ ?_
  refine pef_tup ?_
  refine paf_c ?_ ?_ ?_
  exact pef_str
  refine paf_c ?_ ?_ ?_
  exact (pef_var (pv 0))
  exact paf_nil
  rfl
  rfl
  refine paf_c ?_ ?_ ?_
  refine pef_tup ?_
  refine paf_c ?_ ?_ ?_
  refine pef_lst ?_
  refine paf_c ?_ ?_ ?_
  exact (pef_var (pv 2))
  exact paf_nil
  rfl
  refine paf_c ?_ ?_ ?_
  exact (pef_var (pv 0))
  exact paf_nil
  rfl
  rfl
  refine paf_c ?_ ?_ ?_
  refine pef_tup ?_
  refine paf_c ?_ ?_ ?_
  refine pef_tup ?_
  refine paf_c ?_ ?_ ?_
  exact (pef_var (pv 2))
  exact paf_nil
  rfl
  refine paf_c ?_ ?_ ?_
  exact (pef_var (pv 0))
  exact paf_nil
  rfl
  rfl
  exact paf_nil
  rfl
  rfl
  rfl
  rfl
  refine pssf_cons ?_ pssf_nil
  refine psf_ret ?_
  refine pef_ix ixf (pef_var (pv 3)) ?_ (fun _ _ => rfl)
  refine pef_op opf_mod ?_ ?_
  exact pef_ix ixf (pef_var (pv 1)) pef_int (fun _ _ => rfl)
  refine pef_callB callf_len ?_ T.n_len bb_len ?_
  rfl
  refine paf_c ?_ ?_ ?_
  exact (pef_var (pv 3))
  exact paf_nil
  rfl
theorem ok_law_spoilt (T : Top K mg) (F_law_bad_row : Fn P w K mg base 1 "_law_bad_row" ["many", "some"] m_law_bad_row) : Fn P w K mg base 2 "_law_spoilt" ["claim", "some"] m_law_spoilt := by
  refine (fun h => h : _ → Fn P w K mg base 2 "_law_spoilt" ["claim", "some"] (runB 2 8 b_law_spoilt)) (fn_mk (N := ["claim", "some", "at", "odd", "wrong", "things", "kinds", "rows"]) (k := 1) T.t_law_spoilt sc_law_spoilt (fun _ _ _ _ _ _ us hl => match us, hl with | [_, _], _ => rfl) ?_)
  intro f cdv A outer s H E hr
  unfold b_law_spoilt
  refine pssf_cons ?_ ?_
  refine psf_asg (pef_var (pv 0)) ?_
  refine pgf_tup ?_ ?_
  rfl
  refine pgsf_cons ?_ ?_
  refine pgf_name (i := 6) ?_ ?_ ?_
  exact sc_law_spoilt.nd
  rfl
  first | exact Or.inl rfl | exact Or.inr rfl
  refine pgsf_cons ?_ pgsf_nil
  refine pgf_name (i := 7) ?_ ?_ ?_
  exact sc_law_spoilt.nd
  rfl
  first | exact Or.inl rfl | exact Or.inr rfl
  refine pssf_cons ?_ ?_
  refine psf_set (i := 2) ?_ ?_ ?_ ?_
  exact sc_law_spoilt.nd
  rfl
  first | exact Or.inl rfl | exact Or.inr rfl
  refine pef_op opf_mod ?_ ?_
  exact pef_ix ixf (pef_var (pv 1)) pef_int (fun _ _ => rfl)
  refine pef_op opf_add ?_ pef_int
  refine pef_callB callf_len ?_ T.n_len bb_len ?_
  rfl
  refine paf_c ?_ ?_ ?_
  exact (pef_var (pv 7))
  exact paf_nil
  rfl
  refine pssf_cons ?_ ?_
  refine psf_if ?_ ?_ pssf_nil
  refine ptf_cmp (opf_eq hr.units) ?_ pef_int (nomark _)
  refine pef_op opf_mod ?_ pef_int
  exact pef_ix ixf (pef_var (pv 1)) pef_int (fun _ _ => rfl)
  refine pssf_cons ?_ pssf_nil
  refine psf_ret ?_
  refine pef_tup ?_
  refine paf_c ?_ ?_ ?_
  exact (pef_var (pv 6))
  refine paf_c ?_ ?_ ?_
  refine pef_op opf_add ?_ ?_
  refine pef_op opf_add ?_ ?_
  refine pef_slice (pef_var (pv 7)) pof_none ?_
  exact pof_some (pef_var (pv 2))
  refine pef_tup ?_
  refine paf_c ?_ ?_ ?_
  refine pef_fn F_law_bad_row (hr.mono (by decide)) ?_ ?_
  rfl
  refine paf_c ?_ ?_ ?_
  refine pef_callB callf_len ?_ T.n_len bb_len ?_
  rfl
  refine paf_c ?_ ?_ ?_
  exact (pef_var (pv 6))
  exact paf_nil
  rfl
  refine paf_c ?_ ?_ ?_
  refine pef_slice (pef_var (pv 1)) ?_ pof_none
  exact pof_some pef_int
  exact paf_nil
  rfl
  rfl
  exact paf_nil
  rfl
  refine pef_slice (pef_var (pv 7)) ?_ pof_none
  exact pof_some (pef_var (pv 2))
  exact paf_nil
  rfl
  rfl
  refine pssf_cons ?_ ?_
  refine psf_set (i := 2) ?_ ?_ ?_ ?_
  exact sc_law_spoilt.nd
  rfl
  first | exact Or.inl rfl | exact Or.inr rfl
  refine pef_op opf_mod ?_ ?_
  exact pef_ix ixf (pef_var (pv 1)) pef_int (fun _ _ => rfl)
  refine pef_callB callf_len ?_ T.n_len bb_len ?_
  rfl
  refine paf_c ?_ ?_ ?_
  exact (pef_var (pv 6))
  exact paf_nil
  rfl
  refine pssf_cons ?_ ?_
  refine psf_set (i := 3) ?_ ?_ ?_ ?_
  exact sc_law_spoilt.nd
  rfl
  first | exact Or.inl rfl | exact Or.inr rfl
  refine pef_lst ?_
  refine paf_c ?_ ?_ ?_
  exact pef_str
  refine paf_c ?_ ?_ ?_
  exact pef_str
  refine paf_c ?_ ?_ ?_
  exact pef_str
  refine paf_c ?_ ?_ ?_
  exact pef_non
  refine paf_c ?_ ?_ ?_
  exact pef_int
  refine paf_c ?_ ?_ ?_
  exact pef_bl
  refine paf_c ?_ ?_ ?_
  refine pef_tup ?_
  refine paf_c ?_ ?_ ?_
  exact pef_str
  exact paf_nil
  rfl
  refine paf_c ?_ ?_ ?_
  exact pef_str
  refine paf_c ?_ ?_ ?_
  refine pef_lst ?_
  refine paf_c ?_ ?_ ?_
  exact pef_str
  exact paf_nil
  rfl
  refine paf_c ?_ ?_ ?_
  exact pef_str
  refine paf_c ?_ ?_ ?_
  exact pef_str
  refine paf_c ?_ ?_ ?_
  exact pef_str
  refine paf_c ?_ ?_ ?_
  exact pef_str
  refine paf_c ?_ ?_ ?_
  exact pef_str
  refine paf_c ?_ ?_ ?_
  exact pef_str
  exact paf_nil
  rfl
  rfl
  rfl
  rfl
  rfl
  rfl
  rfl
  rfl
  rfl
  rfl
  rfl
  rfl
  rfl
  rfl
  rfl
  refine pssf_cons ?_ ?_
  refine psf_set (i := 4) ?_ ?_ ?_ ?_
  exact sc_law_spoilt.nd
  rfl
  first | exact Or.inl rfl | exact Or.inr rfl
  refine pef_ix ixf ?_ ?_ (fun _ _ => rfl)
  refine pef_op opf_add (pef_var (pv 3)) ?_
  refine pef_lst ?_
  refine paf_c ?_ ?_ ?_
  exact pef_str
  refine paf_c ?_ ?_ ?_
  exact pef_str
  refine paf_c ?_ ?_ ?_
  exact pef_str
  refine paf_c ?_ ?_ ?_
  exact pef_str
  exact paf_nil
  rfl
  rfl
  rfl
  rfl
  refine pef_op opf_mod ?_ pef_int
  exact pef_ix ixf (pef_var (pv 1)) pef_int (fun _ _ => rfl)
  refine pssf_cons ?_ ?_
  refine psf_set (i := 5) ?_ ?_ ?_ ?_
  exact sc_law_spoilt.nd
  rfl
  first | exact Or.inl rfl | exact Or.inr rfl
  refine pef_lst ?_
  refine paf_c ?_ ?_ ?_
  refine pef_tup ?_
  refine paf_c ?_ ?_ ?_
  refine pef_op opf_add ?_ ?_
  refine pef_op opf_add ?_ ?_
  refine pef_slice (pef_var (pv 6)) pof_none ?_
  exact pof_some (pef_var (pv 2))
  refine pef_tup ?_
  refine paf_c ?_ ?_ ?_
  exact (pef_var (pv 4))
  exact paf_nil
  rfl
  refine pef_slice (pef_var (pv 6)) ?_ pof_none
  refine pof_some ?_
  exact pef_op opf_add (pef_var (pv 2)) pef_int
  refine paf_c ?_ ?_ ?_
  exact pef_tup paf_nil
  exact paf_nil
  rfl
  rfl
  refine paf_c ?_ ?_ ?_
  refine pef_tup ?_
  refine paf_c ?_ ?_ ?_
  refine pef_callTy callf_list ?_ T.n_list bb_list ?_
  rfl
  refine paf_c ?_ ?_ ?_
  exact (pef_var (pv 6))
  exact paf_nil
  rfl
  refine paf_c ?_ ?_ ?_
  exact (pef_var (pv 7))
  exact paf_nil
  rfl
  rfl
  refine paf_c ?_ ?_ ?_
  refine pef_tup ?_
  refine paf_c ?_ ?_ ?_
  exact (pef_var (pv 6))
  refine paf_c ?_ ?_ ?_
  refine pef_callTy callf_list ?_ T.n_list bb_list ?_
  rfl
  refine paf_c ?_ ?_ ?_
  exact (pef_var (pv 7))
  exact paf_nil
  rfl
  exact paf_nil
  rfl
  rfl
  refine paf_c ?_ ?_ ?_
  refine pef_lst ?_
  refine paf_c ?_ ?_ ?_
  exact (pef_var (pv 6))
  refine paf_c ?_ ?_ ?_
  exact (pef_var (pv 7))
  exact paf_nil
  rfl
  rfl
  exact paf_nil
  rfl
  rfl
  rfl
  rfl
  refine pssf_cons ?_ ?_
  refine psf_set (i := 5) ?_ ?_ ?_ ?_
  exact sc_law_spoilt.nd
  rfl
  first | exact Or.inl rfl | exact Or.inr rfl
  refine pef_op opf_add (pef_var (pv 5)) ?_
  refine pef_lst ?_
  refine paf_c ?_ ?_ ?_
  refine pef_tup ?_
  refine paf_c ?_ ?_ ?_
  exact (pef_var (pv 6))
  exact paf_nil
  rfl
  refine paf_c ?_ ?_ ?_
  refine pef_tup ?_
  refine paf_c ?_ ?_ ?_
  exact (pef_var (pv 6))
  refine paf_c ?_ ?_ ?_
  exact (pef_var (pv 7))
  refine paf_c ?_ ?_ ?_
  exact pef_tup paf_nil
  exact paf_nil
  rfl
  rfl
  rfl
  refine paf_c ?_ ?_ ?_
  refine pef_tup ?_
  refine paf_c ?_ ?_ ?_
  refine pef_op opf_mul ?_ pef_int
  refine pef_tup ?_
  refine paf_c ?_ ?_ ?_
  exact pef_str
  exact paf_nil
  rfl
  refine paf_c ?_ ?_ ?_
  exact pef_tup paf_nil
  exact paf_nil
  rfl
  rfl
  refine paf_c ?_ ?_ ?_
  refine pef_tup ?_
  refine paf_c ?_ ?_ ?_
  exact (pef_var (pv 6))
  refine paf_c ?_ ?_ ?_
  refine pef_op opf_mul ?_ pef_int
  refine pef_tup ?_
  refine paf_c ?_ ?_ ?_
  refine pef_tup ?_
  refine paf_c ?_ ?_ ?_
  exact pef_int
  exact paf_nil
  rfl
  exact paf_nil
  rfl
  exact paf_nil
  rfl
  rfl
  refine paf_c ?_ ?_ ?_
  exact pef_non
  refine paf_c ?_ ?_ ?_
  exact (pef_var (pv 6))
  refine paf_c ?_ ?_ ?_
  exact pef_str
  exact paf_nil
  rfl
  rfl
  rfl
  rfl
  rfl
  rfl
  rfl
  refine pssf_cons ?_ ?_
  refine psf_set (i := 5) ?_ ?_ ?_ ?_
  exact sc_law_spoilt.nd
  rfl
  first | exact Or.inl rfl | exact Or.inr rfl
  refine pef_op opf_add (pef_var (pv 5)) ?_
  refine pef_lst ?_
  refine paf_c ?_ ?_ ?_
  refine pef_tup ?_
  refine paf_c ?_ ?_ ?_
  exact (pef_var (pv 7))
  refine paf_c ?_ ?_ ?_
  refine pef_op opf_add (pef_var (pv 6)) ?_
  refine pef_tup ?_
  refine paf_c ?_ ?_ ?_
  exact pef_str
  exact paf_nil
  rfl
  exact paf_nil
  rfl
  rfl
  refine paf_c ?_ ?_ ?_
  refine pef_tup ?_
  refine paf_c ?_ ?_ ?_
  exact pef_non
  refine paf_c ?_ ?_ ?_
  exact (pef_var (pv 7))
  exact paf_nil
  rfl
  rfl
  refine paf_c ?_ ?_ ?_
  refine pef_tup ?_
  refine paf_c ?_ ?_ ?_
  exact (pef_var (pv 6))
  refine paf_c ?_ ?_ ?_
  exact pef_non
  exact paf_nil
  rfl
  rfl
  refine paf_c ?_ ?_ ?_
  exact pef_int
  refine paf_c ?_ ?_ ?_
  exact pef_tup paf_nil
  exact paf_nil
  rfl
  rfl
  rfl
  rfl
  rfl
  refine pssf_cons ?_ ?_
  refine psf_set (i := 5) ?_ ?_ ?_ ?_
  exact sc_law_spoilt.nd
  rfl
  first | exact Or.inl rfl | exact Or.inr rfl
  refine pef_op opf_add (pef_var (pv 5)) ?_
  refine pef_lst ?_
  refine paf_c ?_ ?_ ?_
  refine pef_tup ?_
  refine paf_c ?_ ?_ ?_
  refine pef_op opf_mul ?_ ?_
  refine pef_tup ?_
  refine paf_c ?_ ?_ ?_
  exact pef_str
  exact paf_nil
  rfl
  refine pef_op opf_add pef_int ?_
  refine pef_op opf_mod ?_ pef_int
  exact pef_ix ixf (pef_var (pv 1)) pef_int (fun _ _ => rfl)
  refine paf_c ?_ ?_ ?_
  exact pef_tup paf_nil
  exact paf_nil
  rfl
  rfl
  refine paf_c ?_ ?_ ?_
  refine pef_tup ?_
  refine paf_c ?_ ?_ ?_
  exact (pef_var (pv 6))
  refine paf_c ?_ ?_ ?_
  refine pef_op opf_mul ?_ ?_
  refine pef_tup ?_
  refine paf_c ?_ ?_ ?_
  refine pef_tup ?_
  refine paf_c ?_ ?_ ?_
  exact pef_int
  exact paf_nil
  rfl
  exact paf_nil
  rfl
  refine pef_op opf_add pef_int ?_
  refine pef_op opf_mod ?_ pef_int
  exact pef_ix ixf (pef_var (pv 1)) pef_int (fun _ _ => rfl)
  exact paf_nil
  rfl
  rfl
  exact paf_nil
  rfl
  rfl
  refine pssf_cons ?_ pssf_nil
  refine psf_ret ?_
  refine pef_ix ixf (pef_var (pv 5)) ?_ (fun _ _ => rfl)
  refine pef_op opf_mod ?_ pef_int
  exact pef_ix ixf (pef_var (pv 1)) pef_int (fun _ _ => rfl)
theorem ok_law_spoilt_twice (T : Top K mg) (F_law_bad_row : Fn P w K mg base 1 "_law_bad_row" ["many", "some"] m_law_bad_row) : Fn P w K mg base 2 "_law_spoilt_twice" ["claim", "some"] m_law_spoilt_twice := by
  refine (fun h => h : _ → Fn P w K mg base 2 "_law_spoilt_twice" ["claim", "some"] (runB 2 5 b_law_spoilt_twice)) (fn_mk (N := ["claim", "some", "rows", "at", "kinds"]) (k := 1) T.t_law_spoilt_twice sc_law_spoilt_twice (fun _ _ _ _ _ _ us hl => match us, hl with | [_, _], _ => rfl) ?_)
  intro f cdv A outer s H E hr
  unfold b_law_spoilt_twice
  refine pssf_cons ?_ ?_
  refine psf_asg (pef_var (pv 0)) ?_
  refine pgf_tup ?_ ?_
  rfl
  refine pgsf_cons ?_ ?_
  refine pgf_name (i := 4) ?_ ?_ ?_
  exact sc_law_spoilt_twice.nd
  rfl
  first | exact Or.inl rfl | exact Or.inr rfl
  refine pgsf_cons ?_ pgsf_nil
  refine pgf_name (i := 2) ?_ ?_ ?_
  exact sc_law_spoilt_twice.nd
  rfl
  first | exact Or.inl rfl | exact Or.inr rfl
  refine pssf_cons ?_ ?_
  refine psf_set (i := 2) ?_ ?_ ?_ ?_
  exact sc_law_spoilt_twice.nd
  rfl
  first | exact Or.inl rfl | exact Or.inr rfl
  refine pef_op opf_add (pef_var (pv 2)) ?_
  refine pef_tup ?_
  refine paf_c ?_ ?_ ?_
  refine pef_fn F_law_bad_row (hr.mono (by decide)) ?_ ?_
  rfl
  refine paf_c ?_ ?_ ?_
  refine pef_callB callf_len ?_ T.n_len bb_len ?_
  rfl
  refine paf_c ?_ ?_ ?_
  exact (pef_var (pv 4))
  exact paf_nil
  rfl
  refine paf_c ?_ ?_ ?_
  exact (pef_var (pv 1))
  exact paf_nil
  rfl
  rfl
  exact paf_nil
  rfl
  refine pssf_cons ?_ ?_
  refine psf_if ?_ ?_ pssf_nil
  refine ptf_cmp (opf_eq hr.units) ?_ pef_int (nomark _)
  refine pef_op opf_mod ?_ pef_int
  exact pef_ix ixf (pef_var (pv 1)) pef_int (fun _ _ => rfl)
  refine pssf_cons ?_ pssf_nil
  refine psf_ret ?_
  refine pef_tup ?_
  refine paf_c ?_ ?_ ?_
  refine pef_op opf_add ?_ ?_
  refine pef_slice (pef_var (pv 4)) pof_none ?_
  refine pof_some ?_
  exact pef_un unf_neg pef_int
  refine pef_tup ?_
  refine paf_c ?_ ?_ ?_
  refine pef_ix ixf ?_ ?_ (fun _ _ => rfl)
  refine pef_lst ?_
  refine paf_c ?_ ?_ ?_
  exact pef_str
  refine paf_c ?_ ?_ ?_
  exact pef_str
  refine paf_c ?_ ?_ ?_
  exact pef_non
  refine paf_c ?_ ?_ ?_
  exact pef_int
  refine paf_c ?_ ?_ ?_
  exact pef_str
  exact paf_nil
  rfl
  rfl
  rfl
  rfl
  rfl
  refine pef_op opf_mod ?_ pef_int
  exact pef_ix ixf (pef_var (pv 1)) pef_int (fun _ _ => rfl)
  exact paf_nil
  rfl
  refine paf_c ?_ ?_ ?_
  exact (pef_var (pv 2))
  exact paf_nil
  rfl
  rfl
  refine pssf_cons ?_ ?_
  refine psf_set (i := 3) ?_ ?_ ?_ ?_
  exact sc_law_spoilt_twice.nd
  rfl
  first | exact Or.inl rfl | exact Or.inr rfl
  refine pef_op opf_mod ?_ ?_
  exact pef_ix ixf (pef_var (pv 1)) pef_int (fun _ _ => rfl)
  refine pef_callB callf_len ?_ T.n_len bb_len ?_
  rfl
  refine paf_c ?_ ?_ ?_
  exact (pef_var (pv 2))
  exact paf_nil
  rfl
  refine pssf_cons ?_ pssf_nil
  refine psf_ret ?_
  refine pef_tup ?_
  refine paf_c ?_ ?_ ?_
  exact (pef_var (pv 4))
  refine paf_c ?_ ?_ ?_
  refine pef_op opf_add ?_ ?_
  refine pef_op opf_add ?_ ?_
  refine pef_slice (pef_var (pv 2)) pof_none ?_
  exact pof_some (pef_var (pv 3))
  refine pef_tup ?_
  refine paf_c ?_ ?_ ?_
  refine pef_fn F_law_bad_row (hr.mono (by decide)) ?_ ?_
  rfl
  refine paf_c ?_ ?_ ?_
  refine pef_callB callf_len ?_ T.n_len bb_len ?_
  rfl
  refine paf_c ?_ ?_ ?_
  exact (pef_var (pv 4))
  exact paf_nil
  rfl
  refine paf_c ?_ ?_ ?_
  refine pef_slice (pef_var (pv 1)) ?_ pof_none
  exact pof_some pef_int
  exact paf_nil
  rfl
  rfl
  exact paf_nil
  rfl
  refine pef_slice (pef_var (pv 2)) ?_ pof_none
  exact pof_some (pef_var (pv 3))
  exact paf_nil
  rfl
  rfl
theorem ok_law (T : Top K mg) (F_is_pairs : Fn P w K mg base 4 "is_pairs" ["thing"] m_is_pairs) (F_law_at : Fn P w K mg base 1 "_law_at" ["script", "k"] m_law_at) (F_law_bad_row : Fn P w K mg base 1 "_law_bad_row" ["many", "some"] m_law_bad_row) (F_law_digits : Fn P w K mg base 2 "_law_digits" ["cell", "many"] m_law_digits) (F_law_spoilt_twice : Fn P w K mg base 2 "_law_spoilt_twice" ["claim", "some"] m_law_spoilt_twice) (F_law_spoilt : Fn P w K mg base 2 "_law_spoilt" ["claim", "some"] m_law_spoilt) (F_law_pairs : Fn P w K mg base 3 "_law_pairs" ["script", "most", "many_rows"] m_law_pairs) : Fn P w K mg base 5 "law" ["script"] m_law := by
  refine (fun h => h : _ → Fn P w K mg base 5 "law" ["script"] (runB 1 12 b_law)) (fn_mk (N := ["script", "claim", "k", "some", "thing", "kinds", "wide", "at", "bad", "bent", "wrong", "shown"]) (k := 4) T.t_law sc_law (fun _ _ _ _ _ _ us hl => match us, hl with | [_], _ => rfl) ?_)
  intro f cdv A outer s H E hr
  unfold b_law
  refine pssf_cons ?_ ?_
  refine psf_set (i := 1) ?_ ?_ ?_ ?_
  exact sc_law.nd
  rfl
  first | exact Or.inl rfl | exact Or.inr rfl
  refine pef_fn F_law_pairs (hr.mono (by decide)) ?_ ?_
  rfl
  refine paf_c ?_ ?_ ?_
  exact (pef_var (pv 0))
  refine paf_c ?_ ?_ ?_
  exact pef_int
  refine paf_c ?_ ?_ ?_
  exact pef_int
  exact paf_nil
  rfl
  rfl
  rfl
  refine pssf_cons ?_ ?_
  refine psf_if ?_ ?_ pssf_nil
  refine ptf_cmp opf_isn ?_ pef_bl (nomark _)
  refine pef_fn F_is_pairs (hr.mono (by decide)) ?_ ?_
  rfl
  refine paf_c ?_ ?_ ?_
  exact (pef_var (pv 1))
  exact paf_nil
  rfl
  refine pssf_cons ?_ pssf_nil
  exact psf_ret pef_bl
  refine pssf_cons ?_ ?_
  refine psf_for PassesOwn.never ?_ ?_ ?_ ?_
  rfl
  refine pif_range1 ?_ T.n_range ?_
  rfl
  refine paf_c ?_ ?_ ?_
  exact pef_int
  exact paf_nil
  rfl
  refine pgf_name (i := 2) ?_ ?_ ?_
  exact sc_law.nd
  rfl
  first | exact Or.inl rfl | exact Or.inr rfl
  refine pssf_cons ?_ ?_
  refine psf_set (i := 3) ?_ ?_ ?_ ?_
  exact sc_law.nd
  rfl
  first | exact Or.inl rfl | exact Or.inr rfl
  refine pef_slice ?_ ?_ pof_none
  refine pef_fn F_law_digits (hr.mono (by decide)) ?_ ?_
  rfl
  refine paf_c ?_ ?_ ?_
  refine pef_fn F_law_at (hr.mono (by decide)) ?_ ?_
  rfl
  refine paf_c ?_ ?_ ?_
  exact (pef_var (pv 0))
  refine paf_c ?_ ?_ ?_
  exact (pef_var (pv 2))
  exact paf_nil
  rfl
  rfl
  refine paf_c ?_ ?_ ?_
  exact pef_int
  exact paf_nil
  rfl
  rfl
  exact pof_some pef_int
  refine pssf_cons ?_ pssf_nil
  refine psf_for PassesOwn.never ?_ ?_ ?_ ?_
  rfl
  refine pif_seq ?_
  refine pef_lst ?_
  refine paf_c ?_ ?_ ?_
  refine pef_fn F_law_spoilt (hr.mono (by decide)) ?_ ?_
  rfl
  refine paf_c ?_ ?_ ?_
  exact (pef_var (pv 1))
  refine paf_c ?_ ?_ ?_
  exact (pef_var (pv 3))
  exact paf_nil
  rfl
  rfl
  refine paf_c ?_ ?_ ?_
  refine pef_fn F_law_spoilt_twice (hr.mono (by decide)) ?_ ?_
  rfl
  refine paf_c ?_ ?_ ?_
  exact (pef_var (pv 1))
  refine paf_c ?_ ?_ ?_
  exact (pef_var (pv 3))
  exact paf_nil
  rfl
  rfl
  exact paf_nil
  rfl
  rfl
  refine pgf_name (i := 4) ?_ ?_ ?_
  exact sc_law.nd
  rfl
  first | exact Or.inl rfl | exact Or.inr rfl
  refine pssf_cons ?_ ?_
  refine psf_set (i := 11) ?_ ?_ ?_ ?_
  exact sc_law.nd
  rfl
  first | exact Or.inl rfl | exact Or.inr rfl
  refine pef_callB (callf_repr hr) ?_ T.n_repr bb_repr ?_
  rfl
  refine paf_c ?_ ?_ ?_
  exact (pef_var (pv 4))
  exact paf_nil
  rfl
  refine pssf_cons ?_ pssf_nil
  refine psf_if ?_ ?_ pssf_nil
  refine PWf.pt ?_
  refine pwf_or ?_ ?_
  refine ptf_cmp opf_isn ?_ pef_bl (nomark _)
  refine pef_fn F_is_pairs (hr.mono (by decide)) ?_ ?_
  rfl
  refine paf_c ?_ ?_ ?_
  exact (pef_var (pv 4))
  exact paf_nil
  rfl
  refine pwf_or1 ?_
  refine ptf_cmp (opf_ne hr.units) ?_ (pef_var (pv 11)) (nomark _)
  refine pef_callB (callf_repr hr) ?_ T.n_repr bb_repr ?_
  rfl
  refine paf_c ?_ ?_ ?_
  exact (pef_var (pv 4))
  exact paf_nil
  rfl
  refine pssf_cons ?_ pssf_nil
  exact psf_ret pef_bl
  refine pssf_cons ?_ ?_
  refine psf_if ?_ ?_ pssf_nil
  refine ptf_cmp (opf_eq hr.units) ?_ pef_int (nomark _)
  refine pef_op opf_mod ?_ pef_int
  refine pef_fn F_law_at (hr.mono (by decide)) ?_ ?_
  rfl
  refine paf_c ?_ ?_ ?_
  exact (pef_var (pv 0))
  refine paf_c ?_ ?_ ?_
  exact pef_int
  exact paf_nil
  rfl
  rfl
  refine pssf_cons ?_ ?_
  refine psf_set (i := 3) ?_ ?_ ?_ ?_
  exact sc_law.nd
  rfl
  first | exact Or.inl rfl | exact Or.inr rfl
  refine pef_slice ?_ ?_ pof_none
  refine pef_fn F_law_digits (hr.mono (by decide)) ?_ ?_
  rfl
  refine paf_c ?_ ?_ ?_
  refine pef_fn F_law_at (hr.mono (by decide)) ?_ ?_
  rfl
  refine paf_c ?_ ?_ ?_
  exact (pef_var (pv 0))
  refine paf_c ?_ ?_ ?_
  exact pef_int
  exact paf_nil
  rfl
  rfl
  refine paf_c ?_ ?_ ?_
  exact pef_int
  exact paf_nil
  rfl
  rfl
  exact pof_some pef_int
  refine pssf_cons ?_ ?_
  refine psf_set (i := 5) ?_ ?_ ?_ ?_
  exact sc_law.nd
  rfl
  first | exact Or.inl rfl | exact Or.inr rfl
  refine pef_op opf_mul ?_ pef_int
  refine pef_tup ?_
  refine paf_c ?_ ?_ ?_
  exact pef_str
  refine paf_c ?_ ?_ ?_
  exact pef_str
  exact paf_nil
  rfl
  rfl
  refine pssf_cons ?_ ?_
  refine psf_set (i := 6) ?_ ?_ ?_ ?_
  exact sc_law.nd
  rfl
  first | exact Or.inl rfl | exact Or.inr rfl
  refine pef_callTy callf_tuple ?_ T.n_tuple bb_tuple ?_
  rfl
  refine paf_c ?_ ?_ ?_
  refine pef_lc (cn := []) ?_ (blk_fn (x := "k") (cn := []) (ci := []) (by decide +kernel)) ?_ ?_ ?_
  rfl
  refine pif_range1 ?_ T.n_range ?_
  rfl
  refine paf_c ?_ ?_ ?_
  exact pef_int
  exact paf_nil
  rfl
  intro _ _ _ _ _ _
  exact ptsf_nil
  intro _ _ _ _ _ _
  refine pef_tup ?_
  refine paf_c ?_ ?_ ?_
  refine pef_op opf_add pef_int ?_
  exact pef_op opf_mod (pef_var (pv 0)) pef_int
  refine paf_c ?_ ?_ ?_
  exact pef_int
  exact paf_nil
  rfl
  rfl
  exact paf_nil
  rfl
  refine pssf_cons ?_ ?_
  refine psf_if ?_ ?_ pssf_nil
  refine ptf_cmp opf_isn ?_ pef_bl (nomark _)
  refine pef_fn F_is_pairs (hr.mono (by decide)) ?_ ?_
  rfl
  refine paf_c ?_ ?_ ?_
  refine pef_tup ?_
  refine paf_c ?_ ?_ ?_
  exact (pef_var (pv 5))
  refine paf_c ?_ ?_ ?_
  exact (pef_var (pv 6))
  exact paf_nil
  rfl
  rfl
  exact paf_nil
  rfl
  refine pssf_cons ?_ pssf_nil
  exact psf_ret pef_bl
  refine pssf_cons ?_ ?_
  refine psf_set (i := 7) ?_ ?_ ?_ ?_
  exact sc_law.nd
  rfl
  first | exact Or.inl rfl | exact Or.inr rfl
  refine pef_op opf_mod ?_ pef_int
  exact pef_ix ixf (pef_var (pv 3)) pef_int (fun _ _ => rfl)
  refine pssf_cons ?_ ?_
  refine psf_set (i := 8) ?_ ?_ ?_ ?_
  exact sc_law.nd
  rfl
  first | exact Or.inl rfl | exact Or.inr rfl
  refine pef_fn F_law_bad_row (hr.mono (by decide)) ?_ ?_
  rfl
  refine paf_c ?_ ?_ ?_
  exact pef_int
  refine paf_c ?_ ?_ ?_
  refine pef_slice (pef_var (pv 3)) ?_ pof_none
  exact pof_some pef_int
  exact paf_nil
  rfl
  rfl
  refine pssf_cons ?_ ?_
  refine psf_set (i := 9) ?_ ?_ ?_ ?_
  exact sc_law.nd
  rfl
  first | exact Or.inl rfl | exact Or.inr rfl
  refine pef_tup ?_
  refine paf_c ?_ ?_ ?_
  exact (pef_var (pv 5))
  refine paf_c ?_ ?_ ?_
  refine pef_op opf_add ?_ ?_
  refine pef_op opf_add ?_ ?_
  refine pef_slice (pef_var (pv 6)) pof_none ?_
  exact pof_some (pef_var (pv 7))
  refine pef_tup ?_
  refine paf_c ?_ ?_ ?_
  exact (pef_var (pv 8))
  exact paf_nil
  rfl
  refine pef_slice (pef_var (pv 6)) ?_ pof_none
  refine pof_some ?_
  exact pef_op opf_add (pef_var (pv 7)) pef_int
  exact paf_nil
  rfl
  rfl
  refine pssf_cons ?_ ?_
  refine psf_if ?_ ?_ pssf_nil
  refine ptf_cmp opf_isn ?_ pef_bl (nomark _)
  refine pef_fn F_is_pairs (hr.mono (by decide)) ?_ ?_
  rfl
  refine paf_c ?_ ?_ ?_
  exact (pef_var (pv 9))
  exact paf_nil
  rfl
  refine pssf_cons ?_ pssf_nil
  exact psf_ret pef_bl
  refine pssf_cons ?_ ?_
  refine psf_set (i := 7) ?_ ?_ ?_ ?_
  exact sc_law.nd
  rfl
  first | exact Or.inl rfl | exact Or.inr rfl
  refine pef_op opf_mod ?_ pef_int
  exact pef_ix ixf (pef_var (pv 3)) pef_int (fun _ _ => rfl)
  refine pssf_cons ?_ ?_
  refine psf_set (i := 10) ?_ ?_ ?_ ?_
  exact sc_law.nd
  rfl
  first | exact Or.inl rfl | exact Or.inr rfl
  refine pef_ix ixf ?_ ?_ (fun _ _ => rfl)
  refine pef_lst ?_
  refine paf_c ?_ ?_ ?_
  exact pef_str
  refine paf_c ?_ ?_ ?_
  exact pef_str
  refine paf_c ?_ ?_ ?_
  exact pef_str
  refine paf_c ?_ ?_ ?_
  exact pef_non
  refine paf_c ?_ ?_ ?_
  exact pef_bl
  refine paf_c ?_ ?_ ?_
  exact pef_str
  exact paf_nil
  rfl
  rfl
  rfl
  rfl
  rfl
  rfl
  refine pef_op opf_mod ?_ pef_int
  exact pef_ix ixf (pef_var (pv 3)) pef_int (fun _ _ => rfl)
  refine pssf_cons ?_ ?_
  refine psf_set (i := 9) ?_ ?_ ?_ ?_
  exact sc_law.nd
  rfl
  first | exact Or.inl rfl | exact Or.inr rfl
  refine pef_tup ?_
  refine paf_c ?_ ?_ ?_
  refine pef_op opf_add ?_ ?_
  refine pef_op opf_add ?_ ?_
  refine pef_slice (pef_var (pv 5)) pof_none ?_
  exact pof_some (pef_var (pv 7))
  refine pef_tup ?_
  refine paf_c ?_ ?_ ?_
  exact (pef_var (pv 10))
  exact paf_nil
  rfl
  refine pef_slice (pef_var (pv 5)) ?_ pof_none
  refine pof_some ?_
  exact pef_op opf_add (pef_var (pv 7)) pef_int
  refine paf_c ?_ ?_ ?_
  exact (pef_var (pv 6))
  exact paf_nil
  rfl
  rfl
  refine pssf_cons ?_ pssf_nil
  refine psf_if ?_ ?_ pssf_nil
  refine ptf_cmp opf_isn ?_ pef_bl (nomark _)
  refine pef_fn F_is_pairs (hr.mono (by decide)) ?_ ?_
  rfl
  refine paf_c ?_ ?_ ?_
  exact (pef_var (pv 9))
  exact paf_nil
  rfl
  refine pssf_cons ?_ pssf_nil
  exact psf_ret pef_bl
  refine pssf_cons ?_ pssf_nil
  refine psf_ret ?_
  refine pef_and ?_ ?_
  refine pef_cmp opf_is ?_ pef_bl (nomark _)
  refine pef_fn F_is_pairs (hr.mono (by decide)) ?_ ?_
  rfl
  refine paf_c ?_ ?_ ?_
  refine pef_tup ?_
  refine paf_c ?_ ?_ ?_
  exact pef_tup paf_nil
  refine paf_c ?_ ?_ ?_
  exact pef_tup paf_nil
  exact paf_nil
  rfl
  rfl
  exact paf_nil
  rfl
  refine pef_one ?_
  refine pef_cmp opf_is ?_ pef_bl (nomark _)
  refine pef_fn F_is_pairs (hr.mono (by decide)) ?_ ?_
  rfl
  refine paf_c ?_ ?_ ?_
  refine pef_tup ?_
  refine paf_c ?_ ?_ ?_
  exact pef_tup paf_nil
  refine paf_c ?_ ?_ ?_
  refine pef_tup ?_
  refine paf_c ?_ ?_ ?_
  exact pef_tup paf_nil
  exact paf_nil
  rfl
  exact paf_nil
  rfl
  rfl
  exact paf_nil
  rfl
theorem ok_all (T : Top K mg) : Fn P w K mg base 5 "law" ["script"] m_law := by
  have F_is_whole := ok_is_whole (P := P) (w := w) (base := base) T
  have F_is_row := ok_is_row (P := P) (w := w) (base := base) T F_is_whole
  have F_is_kinds_of_pairs := ok_is_kinds_of_pairs (P := P) (w := w) (base := base) T
  have F_is_rows_of_pairs := ok_is_rows_of_pairs (P := P) (w := w) (base := base) T F_is_row
  have F_is_pairs := ok_is_pairs (P := P) (w := w) (base := base) T F_is_kinds_of_pairs F_is_rows_of_pairs
  have F_law_mix := ok_law_mix (P := P) (w := w) (base := base) T
  have F_law_digits := ok_law_digits (P := P) (w := w) (base := base) T F_law_mix
  have F_law_at := ok_law_at (P := P) (w := w) (base := base) T
  have F_law_kinds := ok_law_kinds (P := P) (w := w) (base := base) T
  have F_law_pair := ok_law_pair (P := P) (w := w) (base := base) T
  have F_law_pairs := ok_law_pairs (P := P) (w := w) (base := base) T F_law_pair F_law_digits F_law_at F_law_kinds
  have F_law_bad_row := ok_law_bad_row (P := P) (w := w) (base := base) T
  have F_law_spoilt := ok_law_spoilt (P := P) (w := w) (base := base) T F_law_bad_row
  have F_law_spoilt_twice := ok_law_spoilt_twice (P := P) (w := w) (base := base) T F_law_bad_row
  have F_law := ok_law (P := P) (w := w) (base := base) T F_is_pairs F_law_at F_law_bad_row F_law_digits F_law_spoilt_twice F_law_spoilt F_law_pairs
  exact F_law
end
theorem walk {l : PySem.W.OpenLaw} {q : Program} {loose : List Str} {XP : (Str → Option Value) → Heap → Prop} {YP : World → Heap → Prop} {d : DefRec} {K : Params → PySem.W.Frag} (hn : l.most = some 63) (hdf : d.params.defaults = [])
    (hd : d.name = "law") (hY : ∀ (w : World) (h : Heap), YP w h → (K w.params).In h) (hT : ∀ (w : World) (mg : Str → Option Value) (h : Heap), (K w.params).In h → h.Ns mainGlobals mg → Top (K w.params) mg)
    (pure : ∀ ns : List Int, ns.length ≤ 63 → ∃ Hd', m_law [.fl (ns.map .int)] [] = some (.bl true, Hd')) : PySem.W.WalkO q loose XP YP l.row.toRowW d [] (fun f vs => PySem.call f vs) := by
  refine L2.walk_ofK (n := 63) (k := 5) (x := "script") (CX := CX0) (sp := spLaw m_law) hn (by decide) hdf ⟨rfl, by decide, by decide, rfl⟩ hY (fun w mg fa h KX G hmg => ?_) (law_start pure) (fun _ _ _ _ z => z)
  have T := hT w mg h KX G
  obtain ⟨f, fd, F, hm⟩ := T.t_law
  have e0 : f = fa := by rw [hd] at hmg; rw [hm] at hmg; cases hmg; rfl
  subst e0
  have B := F.binds (ps := ["script"]) (fun _ _ _ _ _ _ us hl => match us, hl with | [_], _ => rfl)
  refine ⟨fd, fun s u => ?_, fun base kb nb => ?_⟩
  · obtain ⟨oc, od, kV, doc, pm, an, cdv, ct, osl, rfl, lk, hcd⟩ := F.ex
    exact .of_eq rfl
  · obtain ⟨f', fd', G1, hb, hk, hm', oc', od', osl', lk'⟩ := (ok_all (P := l.prog) (w := w) (base := base) T).ex
    have e1 : f' = f := by rw [hm] at hm'; cases hm'; rfl
    subst e1
    have e2 : fd' = fd := by
      obtain ⟨oc, od, kV, doc, pm, an, cdv, ct, osl, e3, lk, hcd⟩ := F.ex
      rw [lk] at lk'
      have e4 := Option.some.inj lk'
      injection e4 with _ _ e5 _
      injection e5 with e6
      exact e6.symm
    subst e2
    exact G1
end K08
open PySem PySem.W PyProof.Rows L2 DL
set_option maxRecDepth 100000 in
set_option maxHeartbeats 0 in
theorem PySem.Challenge.cw_allsome_k60_what_is_a_pairs_claim_holds : PySem.Challenge.rw_allsome_k60_what_is_a_pairs_claim.Holds := by
  w_on; o_law; k_head; (case hw => w_witness2)
  k_fill
  refine K08.walk (l := PySem.Challenge.rw_allsome_k60_what_is_a_pairs_claim) rfl rfl rfl (fun w h Y => PySem.W.kIn_of Y) ?T K08.pure_law
  case T =>
    intro w mg h KX G
    have t_is_whole : Tf (L2.KOf KX) mg "is_whole" K08.s_is_whole := by
      dsimp only [L2.KOf]
      refine' tf_mk KX G ?a ?l ?c ?k
      (case a => k_is); (case l => k_is); (case c => k_is); (case k => k_is)
    have t_is_row : Tf (L2.KOf KX) mg "is_row" K08.s_is_row := by
      dsimp only [L2.KOf]
      refine' tf_mk KX G ?a ?l ?c ?k
      (case a => k_is); (case l => k_is); (case c => k_is); (case k => k_is)
    have t_is_kinds_of_pairs : Tf (L2.KOf KX) mg "is_kinds_of_pairs" K08.s_is_kinds_of_pairs := by
      dsimp only [L2.KOf]
      refine' tf_mk KX G ?a ?l ?c ?k
      (case a => k_is); (case l => k_is); (case c => k_is); (case k => k_is)
    have t_is_rows_of_pairs : Tf (L2.KOf KX) mg "is_rows_of_pairs" K08.s_is_rows_of_pairs := by
      dsimp only [L2.KOf]
      refine' tf_mk KX G ?a ?l ?c ?k
      (case a => k_is); (case l => k_is); (case c => k_is); (case k => k_is)
    have t_is_pairs : Tf (L2.KOf KX) mg "is_pairs" K08.s_is_pairs := by
      dsimp only [L2.KOf]
      refine' tf_mk KX G ?a ?l ?c ?k
      (case a => k_is); (case l => k_is); (case c => k_is); (case k => k_is)
    have t_law_mix : Tf (L2.KOf KX) mg "_law_mix" K08.s_law_mix := by
      dsimp only [L2.KOf]
      refine' tf_mk KX G ?a ?l ?c ?k
      (case a => k_is); (case l => k_is); (case c => k_is); (case k => k_is)
    have t_law_digits : Tf (L2.KOf KX) mg "_law_digits" K08.s_law_digits := by
      dsimp only [L2.KOf]
      refine' tf_mk KX G ?a ?l ?c ?k
      (case a => k_is); (case l => k_is); (case c => k_is); (case k => k_is)
    have t_law_at : Tf (L2.KOf KX) mg "_law_at" K08.s_law_at := by
      dsimp only [L2.KOf]
      refine' tf_mk KX G ?a ?l ?c ?k
      (case a => k_is); (case l => k_is); (case c => k_is); (case k => k_is)
    have t_law_kinds : Tf (L2.KOf KX) mg "_law_kinds" K08.s_law_kinds := by
      dsimp only [L2.KOf]
      refine' tf_mk KX G ?a ?l ?c ?k
      (case a => k_is); (case l => k_is); (case c => k_is); (case k => k_is)
    have t_law_pair : Tf (L2.KOf KX) mg "_law_pair" K08.s_law_pair := by
      dsimp only [L2.KOf]
      refine' tf_mk KX G ?a ?l ?c ?k
      (case a => k_is); (case l => k_is); (case c => k_is); (case k => k_is)
    have t_law_pairs : Tf (L2.KOf KX) mg "_law_pairs" K08.s_law_pairs := by
      dsimp only [L2.KOf]
      refine' tf_mk KX G ?a ?l ?c ?k
      (case a => k_is); (case l => k_is); (case c => k_is); (case k => k_is)
    have t_law_bad_row : Tf (L2.KOf KX) mg "_law_bad_row" K08.s_law_bad_row := by
      dsimp only [L2.KOf]
      refine' tf_mk KX G ?a ?l ?c ?k
      (case a => k_is); (case l => k_is); (case c => k_is); (case k => k_is)
    have t_law_spoilt : Tf (L2.KOf KX) mg "_law_spoilt" K08.s_law_spoilt := by
      dsimp only [L2.KOf]
      refine' tf_mk KX G ?a ?l ?c ?k
      (case a => k_is); (case l => k_is); (case c => k_is); (case k => k_is)
    have t_law_spoilt_twice : Tf (L2.KOf KX) mg "_law_spoilt_twice" K08.s_law_spoilt_twice := by
      dsimp only [L2.KOf]
      refine' tf_mk KX G ?a ?l ?c ?k
      (case a => k_is); (case l => k_is); (case c => k_is); (case k => k_is)
    have t_law : Tf (L2.KOf KX) mg "law" K08.s_law := by
      dsimp only [L2.KOf]
      refine' tf_mk KX G ?a ?l ?c ?k
      (case a => k_is); (case l => k_is); (case c => k_is); (case k => k_is)
    have n_abs : mg "abs" = none := by
      refine' PySem.W.mg_none_of KX G ?z
      (case z => k_is)
    have n_all : mg "all" = none := by
      refine' PySem.W.mg_none_of KX G ?z
      (case z => k_is)
    have n_bool : mg "bool" = none := by
      refine' PySem.W.mg_none_of KX G ?z
      (case z => k_is)
    have n_int : mg "int" = none := by
      refine' PySem.W.mg_none_of KX G ?z
      (case z => k_is)
    have n_isinstance : mg "isinstance" = none := by
      refine' PySem.W.mg_none_of KX G ?z
      (case z => k_is)
    have n_len : mg "len" = none := by
      refine' PySem.W.mg_none_of KX G ?z
      (case z => k_is)
    have n_list : mg "list" = none := by
      refine' PySem.W.mg_none_of KX G ?z
      (case z => k_is)
    have n_range : mg "range" = none := by
      refine' PySem.W.mg_none_of KX G ?z
      (case z => k_is)
    have n_repr : mg "repr" = none := by
      refine' PySem.W.mg_none_of KX G ?z
      (case z => k_is)
    have n_sorted : mg "sorted" = none := by
      refine' PySem.W.mg_none_of KX G ?z
      (case z => k_is)
    have n_tuple : mg "tuple" = none := by
      refine' PySem.W.mg_none_of KX G ?z
      (case z => k_is)
    have c_KINDS : Gc (L2.KOf KX) mg "KINDS" K08.k_KINDS := by
      dsimp only [L2.KOf]
      refine' gc_strs2 KX G ?a ?l
      (case a => k_is); (case l => k_is)
    have c_MOST_LITERALS : Gc (L2.KOf KX) mg "MOST_LITERALS" K08.k_MOST_LITERALS := by
      dsimp only [L2.KOf]
      refine' gc_int KX G ?a
      (case a => k_is)
    have c_MOST_NAMES : Gc (L2.KOf KX) mg "MOST_NAMES" K08.k_MOST_NAMES := by
      dsimp only [L2.KOf]
      refine' gc_int KX G ?a
      (case a => k_is)
    have c_MOST_ROWS : Gc (L2.KOf KX) mg "MOST_ROWS" K08.k_MOST_ROWS := by
      dsimp only [L2.KOf]
      refine' gc_int KX G ?a
      (case a => k_is)
    exact ⟨t_is_whole, t_is_row, t_is_kinds_of_pairs, t_is_rows_of_pairs, t_is_pairs, t_law_mix, t_law_digits, t_law_at, t_law_kinds, t_law_pair, t_law_pairs, t_law_bad_row, t_law_spoilt, t_law_spoilt_twice, t_law, n_abs, n_all, n_bool, n_int, n_isinstance, n_len, n_list, n_range, n_repr, n_sorted, n_tuple, c_KINDS, c_MOST_LITERALS, c_MOST_NAMES, c_MOST_ROWS⟩
