import PyProof.Rows.All
import Wide.All
import OpenK.AllK
import Wide.FinOn
import Lean
import PyProof.EqAt
import PyProof.EqKinds
import PyProof.TupleCall
import KE.KDictList
import KE.KDictOf
import KE.KItemsList
import KE.KSortKey
import KE.KSortTup
import KE.KTryMore
import PyProof.AttrMissHeap
import PyProof.AutoSeq1
import PyProof.ExcAttrAll.ValueError
import PyProof.FitsBits
import PyProof.MinMaxWalk
import PyProof.P3Eq
import PyProof.P3In
import PyProof.ReprLen
import PyProof.Rows.Own
import PyProof.Rows.RuleB_bool
import PyProof.Rows.TupIter
import PyProof.SeqI3
import PyProof.StrWalks
import PyProof.SumWalkG
import PyProof.WalkInts
import PySem.Challenge.RW_allsome_k42_whole_all_full_plans_tried
set_option Elab.async false
set_option compiler.extract_closed false
set_option bootstrap.genMatcherCode false
set_option linter.all false
set_option maxRecDepth 100000
section
open PySem PySem.W PyProof.Rows
noncomputable def PySem.Challenge.vwOf (p : Program) : Program := { p with main := { p.main with body := [1, 2, 3, 4, 5, 7, 8, 9, 10, 11, 12, 14, 15, 17, 18, 19, 20, 21, 22, 24, 25, 26, 27, 28, 29, 30].filterMap fun i => p.main.body[i]? } }
local macro_rules | `(tactic| o_head $_) => `(tactic| exact False.elim (by assumption))
set_option maxRecDepth 100000 in
set_option maxHeartbeats 0 in
theorem PySem.Challenge.mk0 : False → PySem.Challenge.rw_allsome_k42_whole_all_full_plans_tried.Holds := by
  intro f; w_on; o_law; k_head
noncomputable def PySem.Challenge.hk0 : Hook := kHook PySem.Challenge.mk0.heap_39 [2, 3, 15, 16, 18, 19, 21, 22, 23, 25, 26, 28, 29, 30, 32, 33, 35, 36, 37, 39, 40, 42, 43, 44, 46, 47, 49, 50, 51, 53, 54, 56, 57, 58, 60, 61, 63, 64, 65, 67, 68, 70, 71, 72, 74, 75, 77, 78, 79, 81, 82, 84, 85, 86, 89, 90, 91, 93, 94, 96, 97, 98, 101, 102, 103, 106, 107, 108, 111, 112, 113, 115, 116, 118, 119, 120, 123, 124, 125, 128, 129, 130, 132, 133, 135, 136, 137, 139, 140, 142, 143, 144, 146, 147, 149, 150, 151, 153, 154, 156, 157, 158, 161, 162, 163, 165, 166, 168, 169, 170, 173, 174] (fun _ => by kernel_rfl)
noncomputable def PySem.Challenge.xt0 (s : Shared) : Bool := xlAt (PySem.Challenge.vwOf PySem.Challenge.pw_allsome_k42_whole_all_full_plans_tried) [] s && recOk (RowW.records (OpenRow.toRowW (OpenLaw.row PySem.Challenge.rw_allsome_k42_whole_all_full_plans_tried))) s
set_option maxRecDepth 100000 in
theorem PySem.Challenge.left0 : LeftO (OpenLaw.row PySem.Challenge.rw_allsome_k42_whole_all_full_plans_tried).prog (PySem.Challenge.vwOf PySem.Challenge.pw_allsome_k42_whole_all_full_plans_tried) [] PySem.Challenge.xt0 PySem.Challenge.hk0.obs PySem.Challenge.hk0.val 1738 := by
  intro w
  unfold PySem.Challenge.xt0
  rewrite [PySem.W.Fast.te4187177175401517315, PySem.W.Fast.te5923862056798008813, PySem.W.Fast.te2368527892694137696, PySem.W.Fast.te10106390112025210652, PySem.W.Fast.te916209788685336348, PySem.W.Fast.te14364793385576792824]
  kernel_rfl
end
namespace L2
open PySem PySem.Spec PyProof.Rows
noncomputable abbrev Key := Sum Int Str
noncomputable def keyIs : Key → Value → Bool
  | .inl k, v => Value.isInt k v
  | .inr x, v => Value.isStrOf x v
noncomputable def keyH (w : World) : Key → Int
  | .inl k => hashInt k
  | .inr x => hashStr w x
theorem keyIs_shape : ∀ {k : Key} {v : Value}, keyIs k v = true → (∃ i t, k = Sum.inl i ∧ v = Value.int i t) ∨ (∃ x t, k = Sum.inr x ∧ v = Value.str x t)
  | .inl i, v, h => by
    obtain ⟨t, e⟩ := Value.isInt_shape (k := i) (v := v) h
    exact .inl ⟨i, t, rfl, e⟩
  | .inr x, v, h => by
    obtain ⟨t, e⟩ := Value.isStrOf_shape (x := x) (v := v) h
    exact .inr ⟨x, t, rfl, e⟩
theorem key_ll (a b : Int) : decide ((Sum.inl a : Key) = Sum.inl b) = (a == b) := by
  by_cases e : a = b
  · subst e; simp
  · have h : ¬ (Sum.inl a : Key) = Sum.inl b := fun q => e (Sum.inl.inj q)
    rw [decide_eq_false h]
    exact (beq_eq_false_iff_ne.mpr e).symm
theorem key_rr (a b : Str) : decide ((Sum.inr a : Key) = Sum.inr b) = decide (a = b) := by
  by_cases e : a = b
  · subst e; simp
  · have h : ¬ (Sum.inr a : Key) = Sum.inr b := fun q => e (Sum.inr.inj q)
    rw [decide_eq_false h, decide_eq_false e]
theorem key_lr (a : Int) (b : Str) : decide ((Sum.inl a : Key) = Sum.inr b) = false := decide_eq_false (fun q => nomatch q)
theorem key_rl (a : Str) (b : Int) : decide ((Sum.inr a : Key) = Sum.inl b) = false := decide_eq_false (fun q => nomatch q)
noncomputable def mixKind (prog : Program) (w : World) : PySem.KeyKind prog w Key where
  is := keyIs
  hash := keyH w
  inj := fun v a b ha hb => by
    rcases keyIs_shape ha with ⟨i, t, rfl, rfl⟩ | ⟨x, t, rfl, rfl⟩
    · rcases keyIs_shape hb with ⟨j, u, rfl, e⟩ | ⟨y, u, rfl, e⟩
      · injection e with e1 _; rw [e1]
      · exact nomatch e
    · rcases keyIs_shape hb with ⟨j, u, rfl, e⟩ | ⟨y, u, rfl, e⟩
      · exact nomatch e
      · injection e with e1 _; rw [e1]
  byValue := fun k v h => by
    rcases keyIs_shape h with ⟨i, t, rfl, rfl⟩ | ⟨x, t, rfl, rfl⟩ <;> rfl
  pyHash := fun hv h => by
    rcases keyIs_shape hv with ⟨i, t, rfl, rfl⟩ | ⟨x, t, rfl, rfl⟩
    · exact wpAny_pyHash_int h
    · exact wpAny_pyHash_str h
  eqBool := fun hu hv h => by
    rcases keyIs_shape hu with ⟨i, t, rfl, rfl⟩ | ⟨x, t, rfl, rfl⟩
    · rcases keyIs_shape hv with ⟨j, u, rfl, rfl⟩ | ⟨y, u, rfl, rfl⟩
      · rw [key_ll] at h; exact wpAny_eqBool_int h
      · rw [key_lr] at h; exact SeqAt.EqAt.int_str i t y u _ _ _ _ h
    · rcases keyIs_shape hv with ⟨j, u, rfl, rfl⟩ | ⟨y, u, rfl, rfl⟩
      · rw [key_rl] at h; exact SeqAt.EqAt.str_int x t j u _ _ _ _ h
      · rw [key_rr] at h; exact wpAny_eqBool_str h
  «strs» := fun k x t v h => by
    rcases keyIs_shape h with ⟨i, u, rfl, e⟩ | ⟨y, u, rfl, e⟩
    · exact nomatch e
    · injection e with e1 _
      subst e1
      cases v <;> rfl
end L2
namespace L2
open PySem PySem.Spec PyProof.Rows
inductive V where
  | non | bl (b : Bool) | int (i : Int) | str (x : Str) | byt (b : Array UInt8) | flt (b : UInt64) | ref (a : Addr) | ty (n : String)
noncomputable def RelV : V → Value → Prop
  | .non, u => u = Value.none
  | .bl b, u => u = Value.bool b
  | .int i, u => ∃ t, u = Value.int i t
  | .str x, u => ∃ t, u = Value.str x t
  | .byt b, u => ∃ t, u = Value.bytes b t
  | .flt b, u => ∃ t, u = Value.float b t
  | .ref a, u => u = Value.ref a
  | .ty n, u => u = Value.type n
noncomputable abbrev Vals : List V → List Value → Prop := Paired RelV
theorem Vals.length {xs : List V} {us : List Value} (r : Vals xs us) : xs.length = us.length := Paired.length r
theorem Vals.get : ∀ {xs : List V} {us : List Value} {i : Nat} {x : V}, Vals xs us → xs[i]? = some x → ∃ u, us[i]? = some u ∧ RelV x u
  | _, _, _, _, .nil, e => by simp at e
  | _, _, 0, _, .cons r _, e => by simp at e; subst e; exact ⟨_, rfl, r⟩
  | _, _, i + 1, x, .cons _ t, e => by
    obtain ⟨u, h1, h2⟩ := Vals.get (i := i) (x := x) t (by simpa using e)
    exact ⟨u, by simpa using h1, h2⟩
theorem Vals.set {x : V} {u : Value} (r : RelV x u) : ∀ {xs : List V} {us : List Value} (i : Nat), Vals xs us → Vals (xs.set i x) (us.set i u)
  | _, _, _, .nil => .nil
  | _, _, 0, .cons _ t => .cons r t
  | _, _, i + 1, .cons q t => .cons q (Vals.set r i t)
theorem Vals.append : ∀ {xs ys : List V} {us ws : List Value}, Vals xs us → Vals ys ws → Vals (xs ++ ys) (us ++ ws)
  | _, _, _, _, .nil, s => s
  | _, _, _, _, .cons r t, s => .cons r (Vals.append t s)
theorem Vals.take : ∀ {xs : List V} {us : List Value} (n : Nat), Vals xs us → Vals (xs.take n) (us.take n)
  | _, _, 0, _ => .nil
  | _, _, _ + 1, .nil => .nil
  | _, _, n + 1, .cons r t => .cons r (Vals.take n t)
theorem Vals.drop : ∀ {xs : List V} {us : List Value} (n : Nat), Vals xs us → Vals (xs.drop n) (us.drop n)
  | _, _, 0, r => r
  | _, _, _ + 1, .nil => .nil
  | _, _, n + 1, .cons _ t => Vals.drop n t
noncomputable def RelO : Option V → Option Value → Prop
  | some v, some u => RelV v u
  | none, none => True
  | _, _ => False
noncomputable def KV {κ : Type} : List (κ × V) → List (κ × Value) → Prop := Paired fun (p : κ × V) (q : κ × Value) => p.1 = q.1 ∧ RelV p.2 q.2
noncomputable def kV : Key → V
  | .inl i => .int i
  | .inr x => .str x
inductive HO where
  | lst (xs : List V)
  | tup (xs : List V)
  | dK (kvs : List (Key × V)) | dT (kvs : List (List Key × V))
  | set (S : Int → Bool) (n : Nat)
  | ins (C dx : Addr) (fs : List (Str × V))
  | own (x : Addr)
  | xd (fs : List (Str × V))
  | met (f x : Addr)
  | rng (lo hi : Int)
  | frz (o : Obj) (u : HO)
  | tbl (ps : Array Value)
  | ext (φ : Heap → Prop)
noncomputable abbrev Hp := Addr → Option HO
noncomputable def upd (H : Hp) (a : Addr) (o : HO) : Hp := fun b => if b = a then some o else H b
theorem upd_same {H : Hp} {a : Addr} {o : HO} : upd H a o a = some o := by unfold upd; rw [if_pos rfl]
theorem upd_ne {H : Hp} {a b : Addr} {o : HO} (h : b ≠ a) : upd H a o b = H b := by unfold upd; rw [if_neg h]
theorem ne_of {H : Hp} {a b : Addr} {o u : HO} (h : H a = some o) (h' : H b = some u) (d : o ≠ u) : a ≠ b := by
  intro e; subst e; rw [h] at h'; exact d (Option.some.inj h')
theorem ne_of_none {H : Hp} {a b : Addr} {o : HO} (h : H a = some o) (h' : H b = none) : a ≠ b := by
  intro e; subst e; rw [h] at h'; cases h'
noncomputable def IsTuN (h : Heap) (a : Addr) (items : Array Value) : Prop := ∃ o, h.get? a = some o ∧ o.cls = .type "tuple" ∧ (∃ n, o.data = .seq items n) ∧ o.dict = none
theorem IsTuN.new (h : Heap) (items : Array Value) : IsTuN (h.push { cls := .type "tuple", data := .seq items }) h.objs.size items := ⟨_, Heap.get?_push_size _ rfl, rfl, ⟨_, rfl⟩, rfl⟩
theorem IsTuN.tup {h : Heap} {a : Addr} {items : Array Value} (x : IsTuN h a items) : IsTup h a items := let ⟨o, e, c, d, _⟩ := x; ⟨o, e, c, d⟩
section
variable (P : Program) (w : World)
noncomputable def ObjOk (H : Hp) (h : Heap) (a : Addr) : HO → Prop
  | .lst xs => xs.length ≤ sizeLine ∧ ∃ (its : List Value) (n : Nat), Vals xs its ∧ h.get? a = some { cls := .type "list", data := .seq its.toArray n }
  | .tup xs => xs.length ≤ sizeLine ∧ ∃ its : List Value, Vals xs its ∧ IsTuN h a its.toArray
  | .dK kvs => kvs.length ≤ sizeLine ∧ (a == sysModules) = false ∧ ∃ vs, KV kvs vs ∧ h.DictOf (mixKind P w) a vs
  | .dT kvs => kvs.length ≤ sizeLine ∧ (a == sysModules) = false ∧ ∃ xs : List (List Key × Addr × Value),
      Paired (fun (p : List Key × V) (q : List Key × Addr × Value) => p.1 = q.1 ∧ H q.2.1 = some (.tup (p.1.map kV)) ∧ RelV p.2 q.2.2) kvs xs ∧
      ∃ o es ep, h.get? a = some o ∧ o.ExactDict ∧ o.data = .dict es ep ∧ es.toList = xs.map (entryOfKey (tupleKind (mixKind P w))) ∧ (xs.map (·.1)).Nodup
  | .set S n => h.SetOf (intKind P w) a S n
  | .ins C dx fs => H dx = some (.own a) ∧ fs.length ≤ 1000 ∧ dx ≠ a ∧ h.get? a = some (PySem.W.instObj C dx) ∧
      ∃ mA, h.Ns1 dx mA ∧ (∀ f, RelO (fs.lookup f) (mA f)) ∧ PySem.Within mA (fs.map (·.1))
  | .own _ => ∃ o, h.get? a = some o
  | .xd fs => ∃ mA, h.Ns1 a mA ∧ ∀ f, RelO (fs.lookup f) (mA f)
  | .rng lo hi => ∃ t u v, h.get? a = some { cls := .type "range", data := .fields #[.int lo t, .int hi u, .int 1 v] }
  | .frz o u => h.get? a = some o ∧ ObjOk H h a u
  | .tbl ps => h.get? a = some { cls := .none, data := .fields ps }
  | .met f x => h.get? a = some (PySem.W.methodObj (.ref f) (.ref x))
  | .ext φ => φ h ∧ (∃ o, h.get? a = some o) ∧ ∀ h1 h2 : Heap, φ h1 → (∀ o, h1.get? a = some o → h2.get? a = some o) → φ h2
noncomputable def HOk (H : Hp) (h : Heap) : Prop := ∀ a o, H a = some o → ObjOk P w H h a o
end
section
variable {P : Program} {w : World} {H H' : Hp} {h h' : Heap} {a : Addr} {o : HO}
theorem ObjOk.lt (x : ObjOk P w H h a o) : a < h.objs.size := by
  cases o with
  | lst xs => obtain ⟨_, _, _, _, e⟩ := x; exact Heap.lt_size e
  | tup xs => obtain ⟨_, _, _, p⟩ := x; exact p.tup.lt
  | dK kvs => obtain ⟨_, _, _, _, o, _, _, e, _⟩ := x; exact Heap.lt_size e
  | dT kvs => obtain ⟨_, _, _, _, o, _, _, e, _⟩ := x; exact Heap.lt_size e
  | set S n => obtain ⟨o, _, _, _, e, _⟩ := x; exact Heap.lt_size e
  | ins C dx fs => obtain ⟨_, _, _, e, _⟩ := x; exact Heap.lt_size e
  | own y => obtain ⟨_, e⟩ := x; exact Heap.lt_size e
  | xd fs => obtain ⟨_, ⟨_, _, _, e, _⟩, _⟩ := x; exact Heap.lt_size e
  | rng lo hi => obtain ⟨_, _, _, e⟩ := x; exact Heap.lt_size e
  | frz ob u => obtain ⟨e, _⟩ := x; exact Heap.lt_size e
  | tbl ps => exact Heap.lt_size (show h.get? a = some _ from x)
  | met f y => exact Heap.lt_size (show h.get? a = some _ from x)
  | ext φ => obtain ⟨_, ⟨_, e⟩, _⟩ := x; exact Heap.lt_size e
theorem Paired.mapP {α β : Type} {F G : α → β → Prop} : ∀ {l₁ : List α} {l₂ : List β}, Paired F l₁ l₂ → (∀ a b, F a b → G a b) → Paired G l₁ l₂
  | _, _, .nil, _ => .nil
  | _, _, .cons r t, f => .cons (f _ _ r) (Paired.mapP t f)
theorem ObjOk.stay (x : ObjOk P w H h a o) (k : ∀ b u, (b = a ∨ H b = some (.own a)) → h.get? b = some u → h'.get? b = some u)
    (ho : ∀ b, H b = some (.own a) → H' b = some (.own a)) (ht : ∀ b xs, H b = some (.tup xs) → H' b = some (.tup xs)) : ObjOk P w H' h' a o := by
  induction o with
  | lst xs => obtain ⟨z, its, n, r, e⟩ := x; exact ⟨z, its, n, r, k _ _ (.inl rfl) e⟩
  | tup xs => obtain ⟨z, its, r, ob, e, c⟩ := x; exact ⟨z, its, r, ob, k _ _ (.inl rfl) e, c⟩
  | dK kvs => obtain ⟨z, y, vs, r, ob, es, ep, e, c⟩ := x; exact ⟨z, y, vs, r, ob, es, ep, k _ _ (.inl rfl) e, c⟩
  | dT kvs =>
    obtain ⟨z, y, xs, r, ob, es, ep, e, c⟩ := x
    exact ⟨z, y, xs, Paired.mapP r fun p q z => ⟨z.1, ht _ _ z.2.1, z.2.2⟩, ob, es, ep, k _ _ (.inl rfl) e, c⟩
  | set S n => obtain ⟨ob, es, ep, t, e, c⟩ := x; exact ⟨ob, es, ep, t, k _ _ (.inl rfl) e, c⟩
  | ins C dx fs =>
    obtain ⟨d, z, ne, e, mA, ⟨od, es, ep, e2, c⟩, r⟩ := x
    exact ⟨ho _ d, z, ne, k _ _ (.inl rfl) e, mA, ⟨od, es, ep, k _ _ (.inr d) e2, c⟩, r⟩
  | own y => obtain ⟨ob, e⟩ := x; exact ⟨ob, k _ _ (.inl rfl) e⟩
  | xd fs => obtain ⟨mA, ⟨od, es, ep, e, c⟩, r⟩ := x; exact ⟨mA, ⟨od, es, ep, k _ _ (.inl rfl) e, c⟩, r⟩
  | rng lo hi => obtain ⟨t, u, v, e⟩ := x; exact ⟨t, u, v, k _ _ (.inl rfl) e⟩
  | frz ob u ih => obtain ⟨e, q⟩ := x; exact ⟨k _ _ (.inl rfl) e, ih q⟩
  | tbl ps =>
    have e : h.get? a = some { cls := .none, data := .fields ps } := x
    show h'.get? a = some { cls := .none, data := .fields ps }
    exact k a _ (.inl rfl) e
  | met f y =>
    have e : h.get? a = some (PySem.W.methodObj (.ref f) (.ref y)) := x
    show h'.get? a = some (PySem.W.methodObj (.ref f) (.ref y))
    exact k a _ (.inl rfl) e
  | ext φ => obtain ⟨p, ⟨o, e⟩, st⟩ := x; exact ⟨st _ _ p fun o q => k _ _ (.inl rfl) q, ⟨o, k _ _ (.inl rfl) e⟩, st⟩
theorem HOk.lt (x : HOk P w H h) (e : H a = some o) : a < h.objs.size := (x a o e).lt
theorem HOk.fresh (x : HOk P w H h) (e : h.objs.size ≤ a) : H a = none := by
  cases q : H a with
  | none => rfl
  | some u => exact absurd (Nat.lt_of_lt_of_le (x.lt q) e) (Nat.lt_irrefl _)
theorem HOk.kept (x : HOk P w H h) (k : ∀ b u, h.get? b = some u → h'.get? b = some u) : HOk P w H h' := fun a o e =>
  (x a o e).stay (fun b u _ q => k b u q) (fun _ q => q) fun _ _ q => q
theorem HOk.laid (x : HOk P w H h) (k : ∀ b u, h.get? b = some u → h'.get? b = some u) (hp : h.objs.size ≤ a) (new : ObjOk P w (upd H a o) h' a o) : HOk P w (upd H a o) h' := fun b u e => by
  have hn := x.fresh hp
  by_cases hb : b = a
  · subst hb; rw [upd_same] at e; cases e; exact new
  · rw [upd_ne hb] at e
    exact (x b u e).stay (fun c v _ q => k c v q) (fun c q => by rw [upd_ne (ne_of_none q hn)]; exact q) fun c xs q => by rw [upd_ne (ne_of_none q hn)]; exact q
end
noncomputable def Rd (H : Hp) (a : Addr) (u : HO) : Prop := H a = some u ∨ ∃ o, H a = some (.frz o u)
theorem Rd.of {H : Hp} {a : Addr} {u : HO} (h : H a = some u) : Rd H a u := .inl h
theorem Rd.ok {P : Program} {w : World} {H : Hp} {h : Heap} {a : Addr} {u : HO} (r : Rd H a u) (x : HOk P w H h) : ObjOk P w H h a u := by
  rcases r with r | ⟨o, r⟩
  · exact x a u r
  · obtain ⟨_, q⟩ := x a _ r
    exact q
noncomputable def Mut : Option HO → Prop
  | some (.lst _) => True
  | some (.dK _) => True
  | some (.dT _) => True
  | some (.set _ _) => True
  | some (.ins _ _ _) => True
  | some (.ext _) => True
  | _ => False
section
variable {P : Program} {w : World} {H : Hp} {h h' : Heap} {x e : Addr} {o' : HO}
theorem HOk.write (ok : HOk P w H h) (mu : Mut (H x)) (he : e = x ∨ H e = some (.own x)) (k : ∀ b u, b ≠ e → h.get? b = some u → h'.get? b = some u) (heo : ∃ u, h'.get? e = some u)
    (new : ObjOk P w (upd H x o') h' x o') : HOk P w (upd H x o') h' := fun b u q => by
  have nown : ∀ c y, H c = some (.own y) → c ≠ x := fun c y r z => by subst z; rw [r] at mu; exact mu
  have ntup : ∀ c xs, H c = some (.tup xs) → c ≠ x := fun c xs r z => by subst z; rw [r] at mu; exact mu
  by_cases hb : b = x
  · subst hb; rw [upd_same] at q; cases q; exact new
  · rw [upd_ne hb] at q
    by_cases hbe : b = e
    · have q' : H b = some (.own x) := by
        rcases he with z | z
        · exact absurd (hbe.trans z) hb
        · rw [hbe]; exact z
      rw [q] at q'; cases q'
      obtain ⟨v, hv⟩ := heo
      exact ⟨v, by rw [hbe]; exact hv⟩
    · refine (ok b u q).stay (fun c v hc r => k c v ?_ r) (fun c r => by rw [upd_ne (nown c b r)]; exact r) fun c xs r => by rw [upd_ne (ntup c xs r)]; exact r
      rcases hc with rfl | hc
      · exact hbe
      · rintro rfl
        rcases he with z | z
        · exact nown c b hc z
        · rw [hc] at z; cases z; exact hb rfl
end
structure Un (fs ex : List Addr) (H H' : Hp) (h h' : Heap) : Prop where
  keep : ∀ b o, h.get? b = some o → H b = none → b ∉ fs → b ∉ ex → h'.get? b = some o
  slot : ∀ b o, h.get? b = some o → H b = none → b ∈ fs → b ∉ ex → ∃ sl, h'.get? b = some { o with slots := sl }
  free : ∀ b o, h.get? b = some o → H b = none → b ∉ ex → H' b = none
  there : ∀ b o, h.get? b = some o → b ∉ ex → ∃ o', h'.get? b = some o'
  tups : ∀ b xs, H b = some (.tup xs) → H' b = some (.tup xs)
  frzs : ∀ b o u, H b = some (.frz o u) → H' b = some (.frz o u)
  tbls : ∀ b ps, H b = some (.tbl ps) → ∃ more, H' b = some (.tbl (ps ++ more))
section
variable {fs fs' ex ex' : List Addr} {H H1 H2 : Hp} {h h1 h2 h' : Heap} {a x e : Addr} {o : HO}
theorem Un.any (u : Un fs ex H H1 h h1) {b : Addr} {ob : Obj} (q : h.get? b = some ob) (n : H b = none) (hx : b ∉ ex) : ∃ sl, h1.get? b = some { ob with slots := sl } := by
  by_cases hb : b ∈ fs
  · exact u.slot b ob q n hb hx
  · exact ⟨ob.slots, u.keep b ob q n hb hx⟩
theorem Un.trans (a : Un fs ex H H1 h h1) (b : Un fs ex H1 H2 h1 h2) : Un fs ex H H2 h h2 where
  keep := fun c ob q n hc hx => b.keep c ob (a.keep c ob q n hc hx) (a.free c ob q n hx) hc hx
  slot := fun c ob q n hc hx => by
    obtain ⟨sl, e1⟩ := a.slot c ob q n hc hx
    obtain ⟨sl', e2⟩ := b.slot c _ e1 (a.free c ob q n hx) hc hx
    exact ⟨sl', e2⟩
  free := fun c ob q n hx => by
    obtain ⟨o', e1⟩ := a.there c ob q hx
    exact b.free c o' e1 (a.free c ob q n hx) hx
  there := fun c ob q hx => by
    obtain ⟨o', e1⟩ := a.there c ob q hx
    exact b.there c o' e1 hx
  tups := fun c xs q => b.tups c xs (a.tups c xs q)
  frzs := fun c ob xs q => b.frzs c ob xs (a.frzs c ob xs q)
  tbls := fun c ps q => by
    obtain ⟨m1, e1⟩ := a.tbls c ps q
    obtain ⟨m2, e2⟩ := b.tbls c _ e1
    exact ⟨m1 ++ m2, by rw [e2, Array.append_assoc]⟩
theorem Un.kept (k : ∀ b u, h.get? b = some u → h'.get? b = some u) : Un fs ex H H h h' :=
  ⟨fun b ob q _ _ _ => k b ob q, fun b ob q _ _ _ => ⟨ob.slots, k b ob q⟩, fun _ _ _ n _ => n, fun b ob q _ => ⟨ob, k b ob q⟩, fun _ _ q => q, fun _ _ _ q => q, fun _ ps q => ⟨#[], by rw [q]; simp⟩⟩
theorem Un.refl : Un fs ex H H h h := Un.kept fun _ _ q => q
theorem Un.laid (k : ∀ b u, h.get? b = some u → h'.get? b = some u) (hp : h.objs.size ≤ a) (hn : H a = none) : Un fs ex H (upd H a o) h h' where
  keep := fun b u q _ _ _ => k b u q
  slot := fun b u q _ _ _ => ⟨u.slots, k b u q⟩
  free := fun b u q n _ => by rw [upd_ne (Nat.ne_of_lt (Nat.lt_of_lt_of_le (Heap.lt_size q) hp))]; exact n
  there := fun b u q _ => ⟨u, k b u q⟩
  tups := fun b xs q => by rw [upd_ne (ne_of_none q hn)]; exact q
  frzs := fun b u xs q => by rw [upd_ne (ne_of_none q hn)]; exact q
  tbls := fun b ps q => ⟨#[], by rw [upd_ne (ne_of_none q hn), q]; simp⟩
theorem Un.write (mu : Mut (H x)) (he : e = x ∨ H e = some (.own x)) (k : ∀ b u, b ≠ e → h.get? b = some u → h'.get? b = some u) (heo : ∃ u, h'.get? e = some u) : Un fs ex H (upd H x o) h h' := by
  have hx : ∀ b, H b = none → b ≠ x := fun b n z => by subst z; rw [n] at mu; exact mu
  have hb : ∀ b, H b = none → b ≠ e := fun b n z => by
    subst z
    rcases he with r | r
    · exact hx b n r
    · rw [n] at r; cases r
  have hm : ∀ b u, H b = some u → ¬ Mut (some u) → b ≠ x := fun b u q nm z => by subst z; rw [q] at mu; exact nm mu
  refine ⟨fun b u q n _ _ => k b u (hb b n) q, fun b u q n _ _ => ⟨u.slots, k b u (hb b n) q⟩, fun b u q n _ => by rw [upd_ne (hx b n)]; exact n, fun b u q _ => ?_,
    fun b xs q => by rw [upd_ne (hm b _ q fun z => z)]; exact q, fun b u xs q => by rw [upd_ne (hm b _ q fun z => z)]; exact q, fun b ps q => ⟨#[], by rw [upd_ne (hm b _ q fun z => z), q]; simp⟩⟩
  by_cases hbe : b = e
  · subst hbe; exact heo
  · exact ⟨u, k b u hbe q⟩
theorem Un.mono (u : Un fs ex H H1 h h1) (hs : ∀ b ∈ fs, b ∈ fs') (hx : ∀ b ∈ ex, b ∈ ex') : Un fs' ex' H H1 h h1 :=
  ⟨fun b ob q n hb he => u.keep b ob q n (fun z => hb (hs b z)) fun z => he (hx b z), fun _ _ q n _ he => u.any q n fun z => he (hx _ z), fun b ob q n he => u.free b ob q n fun z => he (hx b z), fun b ob q he => u.there b ob q fun z => he (hx b z), u.tups, u.frzs, u.tbls⟩
end
noncomputable def trk (h : Heap) (H : Hp) : List Addr := (List.range h.objs.size).filter fun a => (H a).isSome
noncomputable def hidT (h : Heap) (H : Hp) : Heap := PySem.W.hideAll h (trk h H)
theorem hidT_size (h : Heap) (H : Hp) : (hidT h H).objs.size = h.objs.size := PySem.W.hideAll_size _ _
theorem hidT_get {h : Heap} {H : Hp} {b : Addr} {o : Obj} (e : h.get? b = some o) (n : H b = none) : (hidT h H).get? b = some o :=
  PySem.W.hideAll_get _ e fun hm => by
    have q : (H b).isSome = true := (List.mem_filter.mp hm).2
    rw [n] at q; simp at q
theorem of_hidT {h : Heap} {H : Hp} {b : Addr} {o : Obj} (e : (hidT h H).get? b = some o) : h.get? b = some o ∧ H b = none := by
  have e' : h.get? b = some o := PySem.W.of_hideAll (trk h H) e
  refine ⟨e', ?_⟩
  cases q : H b with
  | none => rfl
  | some x =>
    have hm : b ∈ trk h H := List.mem_filter.mpr ⟨List.mem_range.mpr (Heap.lt_size e'), by simp [q]⟩
    have z : (hidT h H).get? b = none := PySem.W.hideAll_none (trk h H) hm
    rw [z] at e; cases e
noncomputable def allNews (g h : Heap) (L : Addr) : List (Addr × Obj) := (List.range h.objs.size).filterMap fun a => if a = L ∨ (g.get? a).isSome = true then none else (h.get? a).map fun o => (a, o)
noncomputable def rest (g h : Heap) (L d : Addr) : List (Addr × Obj) := (allNews g h L).filter fun p => decide (p.1 ≠ d)
end L2
namespace L2
open PySem PySem.Spec PyProof.Rows
structure Mod (K : PySem.W.Frag) (mg : Str → Option Value) (base : Heap) : Prop where
  kin : K.In base
  glob : base.Ns mainGlobals mg
  blt : ∃ mb, base.Ns builtinsNs mb ∧ ∀ x : Str, x ≠ "__name__" → mb x = bootBuiltins x
  nolimit : base.NoLimit
structure Cx where
  prog : Program
  w : World
  K : PySem.W.Frag
  mg : Str → Option Value
  base : Heap
  A : Around
  N : List Str
  s₀ : Shared
  H₀ : Hp
  env : Env
  outer : List Env
  stack : List Env
  ex : List Addr
  fn : Str → Bool
  calm : Bool
  pn : List (Addr × Obj)
  xe : Value → Shared → Prop
noncomputable def frs (l : List Env) : List Addr := l.filterMap (·.frame)
noncomputable abbrev Cx.fs (X : Cx) : List Addr := frs X.outer
noncomputable def Vis (sc : Scope) (x : Str) : Prop := sc.names.lookup x = some .local ∨ sc.names.lookup x = some .cell ∨ sc.names.lookup x = some .free
noncomputable def Loc (sc : Scope) (x : Str) : Prop := sc.names.lookup x = some .local ∨ sc.names.lookup x = some .cell
noncomputable def Look (env : Env) (h : Heap) (m : Str → Option Value) (x : Str) (u : Value) : Prop :=
  (env.kindOf x = some .local ∧ m x = some u) ∨ ((env.kindOf x = some .cell ∨ env.kindOf x = some .free) ∧ ∃ c, env.cells.lookup x = some c ∧ h.IsCell c (some u))
structure Cx.Ok (X : Cx) : Prop where
  mod : Mod X.K X.mg X.base
  kind : X.env.scope.kind = .function
  glob : X.env.globals = mainGlobals
  blt : X.env.builtins = builtinsNs
  above : X.s₀.heap.objs.size ≤ X.env.locals
  inj : ∀ x y c, X.env.cells.lookup x = some c → X.env.cells.lookup y = some c → x = y
  has : ∀ x, (X.env.kindOf x = some .cell ∨ X.env.kindOf x = some .free) → ∃ c, X.env.cells.lookup x = some c
  cab : ∀ x c, X.fn x = true → X.env.cells.lookup x = some c → X.s₀.heap.objs.size ≤ c
  hd : X.calm = true → X.A.handled = none
  frames : X.A.frames = some X.stack
  stk : X.stack = X.outer ∨ (X.stack = X.env :: X.outer ∧ X.env.frame = some X.env.locals)
  exf : ∀ b ∈ X.ex, b ≠ X.env.locals ∧ ∀ x c, X.env.cells.lookup x = some c → c ≠ b
  bs : ∀ b o, X.base.get? b = some o → X.s₀.heap.get? b = some o ∧ X.H₀ b = none
  bsz : X.base.objs.size ≤ X.s₀.heap.objs.size
  noex : ∀ b o, X.base.get? b = some o → b ∉ X.ex
  exfs : ∀ b ∈ X.ex, b ∉ X.fs
  funs : X.s₀.heap.FunFrames X.base X.outer
  frf : ∀ b ∈ X.fs, X.H₀ b = none
structure Inv (X : Cx) (pins : List (Addr × Obj)) (σ : List (Option V)) (H : Hp) (s : Shared) : Prop where
  ok : X.Ok
  os : s.os = X.s₀.os
  bare : AllBare s.gens
  base : Un X.fs X.ex X.H₀ H X.s₀.heap s.heap
  loc : ∃ m, s.heap.Ns X.env.locals m ∧ ∀ (i : Nat) (x : Str) (v : V), X.N[i]? = some x → σ[i]? = some (some v) → Vis X.env.scope x → ∃ u, RelV v u ∧ Look X.env s.heap m x u
  cell : ∀ x c, X.env.cells.lookup x = some c → ∃ v, s.heap.IsCell c v
  free : H X.env.locals = none
  freeC : ∀ x c, X.env.cells.lookup x = some c → H c = none
  pin : ∀ p ∈ X.pn ++ pins, s.heap.get? p.1 = some p.2 ∧ H p.1 = none ∧ p.1 ≠ X.env.locals ∧ p.1 ∉ X.fs ∧ ∀ v, p.2.data ≠ .cell v
  hok : HOk X.prog X.w H s.heap
  len : σ.length = X.N.length
section
variable {X : Cx} {pins : List (Addr × Obj)} {σ : List (Option V)} {H H' : Hp} {s : Shared} {h' : Heap}
theorem Cx.Ok.nofr (ok : X.Ok) {b : Addr} {o : Obj} (e : X.base.get? b = some o) : b ∉ X.fs := fun hb => by
  have := (ok.funs.mem hb).1
  rw [e] at this; cases this
theorem Inv.bs (I : Inv X pins σ H s) : ∀ b o, X.base.get? b = some o → s.heap.get? b = some o ∧ H b = none := fun b o e =>
  ⟨I.base.keep b o (I.ok.bs b o e).1 (I.ok.bs b o e).2 (I.ok.nofr e) (I.ok.noex b o e), I.base.free b o (I.ok.bs b o e).1 (I.ok.bs b o e).2 (I.ok.noex b o e)⟩
theorem Inv.bk (I : Inv X pins σ H s) : ∀ b o, X.base.get? b = some o → s.heap.get? b = some o := fun b o e => (I.bs b o e).1
theorem Inv.mod (I : Inv X pins σ H s) : Mod X.K X.mg X.base := I.ok.mod
theorem Inv.kIn (I : Inv X pins σ H s) : X.K.In s.heap := I.ok.mod.kin.keeps I.bk
theorem Inv.nolimit (I : Inv X pins σ H s) : s.heap.NoLimit := I.ok.mod.nolimit.keeps I.bk
theorem Inv.fr (I : Inv X pins σ H s) : ∃ m, Fr X.base X.env.locals s.heap m :=
  let ⟨m, hn, _⟩ := I.loc
  ⟨m, hn, I.bk, Nat.le_trans I.ok.bsz I.ok.above⟩
theorem Inv.lt (I : Inv X pins σ H s) : X.env.locals < s.heap.objs.size := let ⟨_, hn, _⟩ := I.loc; hn.lt
theorem Inv.sz (I : Inv X pins σ H s) : X.s₀.heap.objs.size ≤ s.heap.objs.size := Nat.le_trans I.ok.above (Nat.le_of_lt I.lt)
theorem Inv.nofs (I : Inv X pins σ H s) {a : Addr} (h : s.heap.objs.size ≤ a) : a ∉ X.fs := fun hb => by
  obtain ⟨_, o, ho, _⟩ := I.ok.funs.mem hb
  exact absurd (Nat.lt_of_lt_of_le (Heap.lt_size ho) (Nat.le_trans I.sz h)) (Nat.lt_irrefl _)
theorem Inv.cne (I : Inv X pins σ H s) : ∀ x c, X.env.cells.lookup x = some c → c ≠ X.env.locals := fun x c e z => by
  obtain ⟨v, o, ho, hd⟩ := I.cell x c e
  obtain ⟨m, ⟨o', es, ep, ho', hd', _⟩, _⟩ := I.loc
  rw [z, ho'] at ho; cases ho; rw [hd'] at hd; cases hd
theorem Inv.funs (I : Inv X pins σ H s) : s.heap.FunFrames X.base X.outer := by
  have all : ∀ (l : List Env), (∀ b ∈ frs l, b ∈ X.fs) → X.s₀.heap.FunFrames X.base l → s.heap.FunFrames X.base l := by
    intro l
    induction l with
    | nil => intro _ _; trivial
    | cons env r ih =>
      intro hs hl
      obtain ⟨hk, ⟨L, o, hf, hn, ho, hd⟩, hr⟩ := hl
      have hL : L ∈ X.fs := hs L (by unfold frs; rw [List.filterMap_cons, hf]; exact List.mem_cons_self)
      obtain ⟨sl, e⟩ := I.base.slot L o ho (I.ok.frf L hL) hL fun z => I.ok.exfs L z hL
      exact ⟨hk, ⟨L, _, hf, hn, e, hd⟩, ih (fun b hb => hs b (by unfold frs; rw [List.filterMap_cons, hf]; exact List.mem_cons_of_mem _ hb)) hr⟩
  exact all X.outer (fun _ hb => hb) I.ok.funs
theorem Inv.stack (I : Inv X pins σ H s) : s.heap.FunFrames X.base X.stack := by
  rcases I.ok.stk with e | ⟨e, hf⟩
  · rw [e]; exact I.funs
  · rw [e]
    obtain ⟨m, hn, _⟩ := I.loc
    refine .cons (by rw [I.ok.kind]; decide) hf hn ?_ I.funs
    exact Heap.get?_none_of_le (Nat.le_trans I.ok.bsz I.ok.above)
theorem Inv.stkSub (I : Inv X pins σ H s) : ∀ b ∈ frs X.stack, b ∈ X.env.locals :: X.fs := fun b hb => by
  rcases I.ok.stk with e | ⟨e, hf⟩
  · rw [e] at hb; exact List.mem_cons_of_mem _ hb
  · rw [e] at hb
    unfold frs at hb
    rw [List.filterMap_cons, hf] at hb
    exact hb
theorem Inv.stkFree (I : Inv X pins σ H s) : ∀ b ∈ frs X.stack, H b = none := fun b hb => by
  rcases List.mem_cons.mp (I.stkSub b hb) with e | hb
  · rw [e]; exact I.free
  · obtain ⟨_, o, ho, _⟩ := I.ok.funs.mem hb
    exact I.base.free b o ho (I.ok.frf b hb) fun z => I.ok.exfs b z hb
theorem Inv.step {g' : Array GenState} {t' : Nat} {d' : Drawn} {ch : List Addr} (I : Inv X pins σ H s)
    (hch : ∀ b ∈ ch, (b ∈ X.ex ∨ X.s₀.heap.objs.size ≤ b) ∧ b ≠ X.env.locals ∧ (∀ x c, X.env.cells.lookup x = some c → c ≠ b) ∧ ∀ p ∈ X.pn ++ pins, p.1 ≠ b)
    (keep : ∀ b o, b ≠ X.env.locals → b ∉ X.fs → b ∉ ch → s.heap.get? b = some o → H b = none → h'.get? b = some o)
    (slot : ∀ b o, b ≠ X.env.locals → b ∈ X.fs → b ∉ ch → s.heap.get? b = some o → H b = none → ∃ sl, h'.get? b = some { o with slots := sl }) (free : ∀ b o, b ∉ ch → s.heap.get? b = some o → H b = none → H' b = none)
    (there : ∀ b o, b ∉ ch → s.heap.get? b = some o → ∃ o', h'.get? b = some o')
    (tups : ∀ b xs, H b = some (.tup xs) → H' b = some (.tup xs)) (frzs : ∀ b o u, H b = some (.frz o u) → H' b = some (.frz o u)) (tbls : ∀ b ps, H b = some (.tbl ps) → ∃ more, H' b = some (.tbl (ps ++ more)))
    (ns : ∀ m, s.heap.Ns X.env.locals m → h'.Ns X.env.locals m) (hok : HOk X.prog X.w H' h') (hg : AllBare g') :
    Inv X pins σ H' { s with heap := h', gens := g', drawn := d', toks := t' } := by
  have neL : ∀ b o, X.s₀.heap.get? b = some o → b ≠ X.env.locals := fun b o e => Nat.ne_of_lt (Nat.lt_of_lt_of_le (Heap.lt_size e) I.ok.above)
  have neC : ∀ b o, X.s₀.heap.get? b = some o → b ∉ X.ex → b ∉ ch := fun b o e hx hb => by
    rcases (hch b hb).1 with z | z
    · exact hx z
    · exact absurd (Nat.lt_of_lt_of_le (Heap.lt_size e) z) (Nat.lt_irrefl _)
  have cellK : ∀ x c, X.env.cells.lookup x = some c → ∀ v, s.heap.IsCell c v → h'.IsCell c v := fun x c e v ⟨o, ho, hd⟩ => by
    have nch : c ∉ ch := fun z => (hch c z).2.2.1 x c e rfl
    by_cases hc : c ∈ X.fs
    · obtain ⟨sl, q⟩ := slot c o (I.cne x c e) hc nch ho (I.freeC x c e)
      exact ⟨_, q, hd⟩
    · exact ⟨o, keep c o (I.cne x c e) hc nch ho (I.freeC x c e), hd⟩
  refine ⟨I.ok, I.os, hg, ⟨fun b o e n hb hx => ?_, fun b o e n hb hx => ?_, fun b o e n hx => ?_, fun b o e hx => ?_, fun b xs e => tups b xs (I.base.tups b xs e), fun b o xs e => frzs b o xs (I.base.frzs b o xs e), fun b ps e => ?_⟩, ?_, fun x c e => ?_, ?_, fun x c e => ?_, fun p hp => ?_, hok, I.len⟩
  · exact keep b o (neL b o e) hb (neC b o e hx) (I.base.keep b o e n hb hx) (I.base.free b o e n hx)
  · obtain ⟨sl, e1⟩ := I.base.slot b o e n hb hx
    obtain ⟨sl', e2⟩ := slot b _ (neL b o e) hb (neC b o e hx) e1 (I.base.free b o e n hx)
    exact ⟨sl', e2⟩
  · obtain ⟨o', e1⟩ := I.base.there b o e hx
    exact free b o' (neC b o e hx) e1 (I.base.free b o e n hx)
  · obtain ⟨o', e1⟩ := I.base.there b o e hx
    exact there b o' (neC b o e hx) e1
  · obtain ⟨m1, e1⟩ := I.base.tbls b ps e
    obtain ⟨m2, e2⟩ := tbls b _ e1
    exact ⟨m1 ++ m2, by rw [e2, Array.append_assoc]⟩
  · obtain ⟨m, hn, hl⟩ := I.loc
    refine ⟨m, ns m hn, fun i x v e1 e2 e3 => ?_⟩
    obtain ⟨u, r, l⟩ := hl i x v e1 e2 e3
    refine ⟨u, r, ?_⟩
    rcases l with l | ⟨k, c, e, z⟩
    · exact .inl l
    · exact .inr ⟨k, c, e, cellK x c e _ z⟩
  · obtain ⟨v, z⟩ := I.cell x c e
    exact ⟨v, cellK x c e v z⟩
  · obtain ⟨m, ⟨o, _, _, ho, _⟩, _⟩ := I.loc
    exact free _ o (fun z => (hch _ z).2.1 rfl) ho I.free
  · obtain ⟨v, o, ho, hd⟩ := I.cell x c e
    exact free c o (fun z => (hch c z).2.2.1 x c e rfl) ho (I.freeC x c e)
  · obtain ⟨e, n, ne, nf, d⟩ := I.pin p hp
    have nch : p.1 ∉ ch := fun z => (hch p.1 z).2.2.2 p hp rfl
    exact ⟨keep p.1 p.2 ne nf nch e n, free p.1 p.2 nch e n, ne, nf, d⟩
theorem Inv.un {t' : Nat} (I : Inv X pins σ H s) (u : Un X.fs [] H H' s.heap h') (hok : HOk X.prog X.w H' h') : Inv X pins σ H' { s with heap := h', toks := t' } := by
  obtain ⟨m, ⟨o, es, ep, ho, r⟩, _⟩ := id I.loc
  obtain ⟨sl, hL⟩ := u.any ho I.free (by simp)
  exact I.step (g' := s.gens) (d' := s.drawn) (ch := []) (fun _ z => nomatch z) (fun b o _ hb _ e n => u.keep b o e n hb (by simp)) (fun b o _ hb _ e n => u.slot b o e n hb (by simp)) (fun b o _ e n => u.free b o e n (by simp)) (fun b o _ e => u.there b o e (by simp)) u.tups u.frzs u.tbls (fun m' hm => by
    obtain ⟨o', es', ep', ho', r'⟩ := hm
    rw [ho] at ho'; cases ho'
    exact ⟨_, es', ep', hL, r'⟩) hok I.bare
theorem Inv.call {g' : Array GenState} {t' : Nat} {d' : Drawn} {ch : List Addr} (I : Inv X pins σ H s) (u : Un (frs X.stack) ch H H' s.heap h') (hok : HOk X.prog X.w H' h') (hg : AllBare g')
    (hch : ∀ b ∈ ch, (b ∈ X.ex ∨ X.s₀.heap.objs.size ≤ b) ∧ b ≠ X.env.locals ∧ (∀ x c, X.env.cells.lookup x = some c → c ≠ b) ∧ ∀ p ∈ X.pn ++ pins, p.1 ≠ b) :
    Inv X pins σ H' { s with heap := h', gens := g', drawn := d', toks := t' } := by
  obtain ⟨m, ⟨o, es, ep, ho, r⟩, _⟩ := id I.loc
  obtain ⟨sl, hL⟩ := u.any ho I.free fun z => (hch _ z).2.1 rfl
  exact I.step (ch := ch) hch (fun b o hL hb hc e n => u.keep b o e n (fun z => (List.mem_cons.mp (I.stkSub b z)).elim hL hb) hc) (fun b o _ _ hc e n => u.any e n hc) (fun b o hc e n => u.free b o e n hc) (fun b o hc e => u.there b o e hc) u.tups u.frzs u.tbls (fun m' hm => by
    obtain ⟨o', es', ep', ho', r'⟩ := hm
    rw [ho] at ho'; cases ho'
    exact ⟨_, es', ep', hL, r'⟩) hok hg
theorem Inv.turned {t' : Nat} {it : Addr} (I : Inv X pins σ H s) (k : ∀ b o, b ≠ it → s.heap.get? b = some o → h'.get? b = some o) (hn : H it = none) (hL : it ≠ X.env.locals)
    (h1 : it ∈ X.ex ∨ X.s₀.heap.objs.size ≤ it) (h2 : ∀ x c, X.env.cells.lookup x = some c → c ≠ it) (h3 : ∀ p ∈ X.pn ++ pins, p.1 ≠ it) : Inv X pins σ H { s with heap := h', toks := t' } := by
  have nit : ∀ b u, H b = some u → b ≠ it := fun b u e z => by rw [z, hn] at e; cases e
  refine I.step (g' := s.gens) (d' := s.drawn) (ch := [it]) (fun b hb => ?_) (fun b o _ _ hc e _ => k b o (fun z => hc (by simp [z])) e) (fun b o _ _ hc e _ => ⟨o.slots, k b o (fun z => hc (by simp [z])) e⟩) (fun _ _ _ _ n => n)
    (fun b o hc e => ⟨o, k b o (fun z => hc (by simp [z])) e⟩) (fun _ _ e => e) (fun _ _ _ e => e) (fun b ps e => ⟨#[], by rw [e]; simp⟩) (fun m hm => ?_) (fun b u e => ?_) I.bare
  · have e : b = it := by simpa using hb
    subst e
    exact ⟨h1, hL, h2, h3⟩
  · obtain ⟨o, es, ep, ho, r⟩ := hm
    exact ⟨o, es, ep, k _ o (Ne.symm hL) ho, r⟩
  · refine (I.hok b u e).stay (fun c v hc q => k c v ?_ q) (fun _ q => q) fun _ _ q => q
    rcases hc with z | z
    · rw [z]; exact nit b u e
    · exact nit c _ z
theorem Inv.tok (I : Inv X pins σ H s) (t : Nat) : Inv X pins σ H { s with toks := t } := I.un (h' := s.heap) (t' := t) Un.refl I.hok
theorem Inv.kept {t' : Nat} (I : Inv X pins σ H s) (k : ∀ b u, s.heap.get? b = some u → h'.get? b = some u) : Inv X pins σ H { s with heap := h', toks := t' } := I.un (Un.kept k) (I.hok.kept k)
theorem Inv.laid {a : Addr} {o : HO} {t' : Nat} (I : Inv X pins σ H s) (k : ∀ b u, s.heap.get? b = some u → h'.get? b = some u) (hp : s.heap.objs.size ≤ a) (new : ObjOk X.prog X.w (upd H a o) h' a o) :
    Inv X pins σ (upd H a o) { s with heap := h', toks := t' } := I.un (Un.laid k hp (I.hok.fresh hp)) (I.hok.laid k hp new)
theorem Inv.write {x e : Addr} {o : HO} {t' : Nat} (I : Inv X pins σ H s) (mu : Mut (H x)) (he : e = x ∨ H e = some (.own x)) (k : ∀ b u, b ≠ e → s.heap.get? b = some u → h'.get? b = some u) (heo : ∃ u, h'.get? e = some u)
    (new : ObjOk X.prog X.w (upd H x o) h' x o) : Inv X pins σ (upd H x o) { s with heap := h', toks := t' } := I.un (Un.write mu he k heo) (I.hok.write mu he k heo new)
theorem Inv.weak {σ' : List (Option V)} (I : Inv X pins σ H s) (hl : σ'.length = σ.length) (w : ∀ (i : Nat) v, σ'[i]? = some (some v) → σ[i]? = some (some v)) : Inv X pins σ' H s :=
  ⟨I.ok, I.os, I.bare, I.base, let ⟨m, hn, hl'⟩ := I.loc; ⟨m, hn, fun i x v e1 e2 e3 => hl' i x v e1 (w i v e2) e3⟩, I.cell, I.free, I.freeC, I.pin, I.hok, hl.trans I.len⟩
theorem Inv.pins_of {pins' : List (Addr × Obj)} (I : Inv X pins σ H s) (h : ∀ p ∈ pins', s.heap.get? p.1 = some p.2 ∧ H p.1 = none ∧ p.1 ≠ X.env.locals ∧ p.1 ∉ X.fs ∧ ∀ v, p.2.data ≠ .cell v) : Inv X pins' σ H s :=
  ⟨I.ok, I.os, I.bare, I.base, I.loc, I.cell, I.free, I.freeC, fun p hp => (List.mem_append.mp hp).elim (fun z => I.pin p (List.mem_append_left _ z)) (h p), I.hok, I.len⟩
theorem nodup_ix {N : List Str} (hN : N.Nodup) {i j : Nat} {x : Str} (a : N[i]? = some x) (b : N[j]? = some x) : i = j := by
  obtain ⟨h1, e1⟩ := List.getElem?_eq_some_iff.mp a
  obtain ⟨h2, e2⟩ := List.getElem?_eq_some_iff.mp b
  exact (List.getElem_inj hN).mp (e1.trans e2.symm)
theorem store_ok2 {M : Model} {A : Around} {E : Value → Shared → Prop} {i : Nat} {x : Str} {v : V} {u : Value} {Q : Unit → Shared → Prop} (I : Inv X pins σ H s) (hN : X.N.Nodup) (hi : X.N[i]? = some x) (hx : Loc X.env.scope x) (r : RelV v u)
    (h : ∀ s', Inv X pins (σ.set i (some v)) H s' → (∃ a, Heap.SameBut a s.heap s'.heap ∧ (a = X.env.locals ∨ X.env.cells.lookup x = some a)) → Q () s') (hf : X.fn x = true ∨ X.env.scope.names.lookup x = some .local := by first | exact .inl rfl | exact .inr rfl | assumption) : wpAny M A (storeName X.env x u) Q E s := by
  obtain ⟨m, hn, hl⟩ := id I.loc
  have hcls : (X.env.scope.kind == .class || (X.env.scope.kind == .module && X.env.locals != X.env.globals)) = false := by rw [I.ok.kind]; rfl
  have hiσ : i < σ.length := by rw [I.len]; exact (List.getElem?_eq_some_iff.mp hi).1
  have cne := I.cne
  have tracked : ∀ {a : Addr} {h' : Heap}, (∃ o, s.heap.get? a = some o ∧ H a = none) → Heap.SameBut a s.heap h' → HOk X.prog X.w H h' := fun {a h'} ha hs b ob e => by
    obtain ⟨_, _, hfree⟩ := ha
    refine (I.hok b ob e).stay (fun c w' hc q => (hs.2 c ?_).trans q) (fun _ q => q) fun _ _ q => q
    rintro rfl
    rcases hc with rfl | hc
    · rw [hfree] at e; cases e
    · rw [hfree] at hc; cases hc
  rcases hx with hk | hk
  · refine wpAny_storeName_local hk hn (fun h' hn' hs => ?_) hcls
    obtain ⟨oL, _, _, hoL, _⟩ := id hn
    refine h _ ⟨I.ok, I.os, I.bare, ⟨fun b o e n hb hx => ?_, fun b o e n hb hx => ?_, I.base.free, fun b o e hx => ?_, I.base.tups, I.base.frzs, I.base.tbls⟩, ⟨_, hn', fun j y v' e1 e2 e3 => ?_⟩, fun y c e => ?_, I.free, I.freeC, fun p hp => ?_, tracked ⟨oL, hoL, I.free⟩ hs, by simpa using I.len⟩ ⟨_, hs, .inl rfl⟩
    · exact (hs.2 b (Nat.ne_of_lt (Nat.lt_of_lt_of_le (Heap.lt_size e) I.ok.above))).trans (I.base.keep b o e n hb hx)
    · obtain ⟨sl, e1⟩ := I.base.slot b o e n hb hx
      exact ⟨sl, (hs.2 b (Nat.ne_of_lt (Nat.lt_of_lt_of_le (Heap.lt_size e) I.ok.above))).trans e1⟩
    · obtain ⟨o', e1⟩ := I.base.there b o e hx
      exact ⟨o', (hs.2 b (Nat.ne_of_lt (Nat.lt_of_lt_of_le (Heap.lt_size e) I.ok.above))).trans e1⟩
    · by_cases hj : j = i
      · subst hj
        rw [hi] at e1; cases e1
        rw [List.getElem?_set_self hiσ] at e2
        cases e2
        exact ⟨u, r, .inl ⟨hk, by simp⟩⟩
      · rw [List.getElem?_set_ne (Ne.symm hj)] at e2
        obtain ⟨u', r', q⟩ := hl j y v' e1 e2 e3
        refine ⟨u', r', ?_⟩
        rcases q with ⟨k, e⟩ | ⟨k, c, e, z⟩
        · refine .inl ⟨k, ?_⟩
          have : y ≠ x := fun e => hj (nodup_ix hN e1 (e ▸ hi))
          simp [this, e]
        · exact .inr ⟨k, c, e, z.sameBut hs (cne y c e)⟩
    · obtain ⟨w', z⟩ := I.cell y c e
      exact ⟨w', z.sameBut hs (cne y c e)⟩
    · obtain ⟨e, n, ne, nf, d⟩ := I.pin p hp
      exact ⟨(hs.2 p.1 ne).trans e, n, ne, nf, d⟩
  · have hfn : X.fn x = true := by
      rcases hf with z | z
      · exact z
      · rw [z] at hk; cases hk
    obtain ⟨c, hc⟩ := I.ok.has x (.inl hk)
    obtain ⟨w', z⟩ := I.cell x c hc
    refine wpAny_storeName_cell I.ok.kind hk hc z (fun h' hc' hs => ?_)
    obtain ⟨oc, hoc, hocd⟩ := id z
    refine h { s with heap := h' } ⟨I.ok, I.os, I.bare, ⟨fun b o e n hb hx => ?_, fun b o e n hb hx => ?_, I.base.free, fun b o e hx => ?_, I.base.tups, I.base.frzs, I.base.tbls⟩, ⟨m, hn.sameBut hs (Ne.symm (cne x c hc)), fun j y v' e1 e2 e3 => ?_⟩, fun y c' e => ?_, I.free, I.freeC, fun p hp => ?_, tracked ⟨oc, hoc, I.freeC x c hc⟩ hs, by simpa using I.len⟩ ⟨c, hs, .inr hc⟩
    · exact (hs.2 b (Nat.ne_of_lt (Nat.lt_of_lt_of_le (Heap.lt_size e) (I.ok.cab x c hfn hc)))).trans (I.base.keep b o e n hb hx)
    · obtain ⟨sl, e1⟩ := I.base.slot b o e n hb hx
      exact ⟨sl, (hs.2 b (Nat.ne_of_lt (Nat.lt_of_lt_of_le (Heap.lt_size e) (I.ok.cab x c hfn hc)))).trans e1⟩
    · obtain ⟨o', e1⟩ := I.base.there b o e hx
      exact ⟨o', (hs.2 b (Nat.ne_of_lt (Nat.lt_of_lt_of_le (Heap.lt_size e) (I.ok.cab x c hfn hc)))).trans e1⟩
    · by_cases hj : j = i
      · subst hj
        rw [hi] at e1; cases e1
        rw [List.getElem?_set_self hiσ] at e2
        cases e2
        exact ⟨u, r, .inr ⟨.inl hk, c, hc, hc'⟩⟩
      · rw [List.getElem?_set_ne (Ne.symm hj)] at e2
        obtain ⟨u', r', q⟩ := hl j y v' e1 e2 e3
        refine ⟨u', r', ?_⟩
        rcases q with q | ⟨k, c', e, z'⟩
        · exact .inl q
        · refine .inr ⟨k, c', e, z'.sameBut hs ?_⟩
          rintro rfl
          exact hj (nodup_ix hN e1 (I.ok.inj _ _ _ e hc ▸ hi))
    · by_cases hcc : c' = c
      · subst hcc; exact ⟨_, hc'⟩
      · obtain ⟨w2, z2⟩ := I.cell y c' e
        exact ⟨w2, z2.sameBut hs hcc⟩
    · obtain ⟨e, n, ne, nf, d⟩ := I.pin p hp
      refine ⟨(hs.2 p.1 ?_).trans e, n, ne, nf, d⟩
      intro q
      rw [q, hoc] at e
      have q' : oc = p.2 := Option.some.inj e
      exact d w' (by rw [← q']; exact hocd)
theorem store_ok {M : Model} {A : Around} {E : Value → Shared → Prop} {i : Nat} {x : Str} {v : V} {u : Value} {Q : Unit → Shared → Prop} (I : Inv X pins σ H s) (hN : X.N.Nodup) (hi : X.N[i]? = some x) (hx : Loc X.env.scope x) (r : RelV v u)
    (h : ∀ s', Inv X pins (σ.set i (some v)) H s' → Q () s') (hf : X.fn x = true ∨ X.env.scope.names.lookup x = some .local := by first | exact .inl rfl | exact .inr rfl | assumption) : wpAny M A (storeName X.env x u) Q E s :=
  store_ok2 I hN hi hx r (fun s' I' _ => h s' I') hf
theorem Inv.call' {s' : Shared} {ch : List Addr} (I : Inv X pins σ H s) (ho : s'.os = s.os) (u : Un (frs X.stack) ch H H' s.heap s'.heap) (hok : HOk X.prog X.w H' s'.heap) (hg : AllBare s'.gens)
    (hch : ∀ b ∈ ch, (b ∈ X.ex ∨ X.s₀.heap.objs.size ≤ b) ∧ b ≠ X.env.locals ∧ (∀ x c, X.env.cells.lookup x = some c → c ≠ b) ∧ ∀ p ∈ X.pn ++ pins, p.1 ≠ b) : Inv X pins σ H' s' := by
  obtain ⟨h', g', d', t', o'⟩ := s'
  have e : o' = s.os := ho
  subst e
  exact I.call (g' := g') (t' := t') (d' := d') u hok hg hch
end
noncomputable abbrev XK := Value → Option Addr → Hp → Prop
noncomputable abbrev St := List (Option V)
noncomputable abbrev VK := V → Hp → Prop
noncomputable abbrev TE := St → Hp → VK → Prop
noncomputable abbrev TT := St → Hp → (Bool → Hp → Prop) → Prop
noncomputable abbrev TA := St → Hp → (List V → Hp → Prop) → Prop
structure Ends where
  nx : St → Hp → Prop
  rt : VK
  bk : St → Hp → Prop := fun _ _ => False
  ct : St → Hp → Prop := fun _ _ => False
noncomputable abbrev TS := Ends → St → Hp → Prop
noncomputable def EP (X : Cx) (pins : List (Addr × Obj)) (σ : St) (Q : VK) (u : Value) (s' : Shared) : Prop := ∃ v H', Inv X pins σ H' s' ∧ RelV v u ∧ Q v H'
noncomputable def TP (X : Cx) (pins : List (Addr × Obj)) (σ : St) (Q : Bool → Hp → Prop) (b : Bool) (s' : Shared) : Prop := ∃ H', Inv X pins σ H' s' ∧ Q b H'
noncomputable def AP (X : Cx) (pins : List (Addr × Obj)) (σ : St) (Q : List V → Hp → Prop) (us : List Value) (s' : Shared) : Prop := ∃ vs H', Inv X pins σ H' s' ∧ Vals vs us ∧ Q vs H'
noncomputable def SP (X : Cx) (pins : List (Addr × Obj)) (D : Ends) (f : Flow) (s' : Shared) : Prop :=
  match f with
  | .next => ∃ σ' H', Inv X pins σ' H' s' ∧ D.nx σ' H'
  | .brk => ∃ σ' H', Inv X pins σ' H' s' ∧ D.bk σ' H'
  | .cont => ∃ σ' H', Inv X pins σ' H' s' ∧ D.ct σ' H'
  | .ret u => ∃ v σ' H', Inv X pins σ' H' s' ∧ RelV v u ∧ D.rt v H'
noncomputable def PE (X : Cx) (e : Expr) (t : TE) : Prop :=
  ∀ (pins : List (Addr × Obj)) (s : Shared) (σ : St) (H : Hp) (Q : VK), Inv X pins σ H s → t σ H Q → wpAny (model X.prog X.w) X.A (eval e X.env) (EP X pins σ Q) X.xe s
noncomputable def PT (X : Cx) (e : Expr) (t : TT) : Prop :=
  ∀ (pins : List (Addr × Obj)) (s : Shared) (σ : St) (H : Hp) (Q : Bool → Hp → Prop), Inv X pins σ H s → t σ H Q → wpAny (model X.prog X.w) X.A (isTrue e X.env (eval e X.env)) (TP X pins σ Q) X.xe s
noncomputable def PW (X : Cx) (e : Expr) (t : TT) : Prop :=
  ∀ (whole : Sem Value) (pins : List (Addr × Obj)) (s : Shared) (σ : St) (H : Hp) (Q : Bool → Hp → Prop), Inv X pins σ H s → t σ H Q → wpAny (model X.prog X.w) X.A (isTrue e X.env whole) (TP X pins σ Q) X.xe s
theorem PW.pt {X : Cx} {e : Expr} {t : TT} (h : PW X e t) : PT X e t := h _
noncomputable def PA (X : Cx) (es : List Expr) (t : TA) : Prop :=
  ∀ (pos : Pos) (pins : List (Addr × Obj)) (s : Shared) (σ : St) (H : Hp) (Q : List V → Hp → Prop), Inv X pins σ H s → t σ H Q → wpAny (model X.prog X.w) X.A (spliced (backTo pos (starEach es X.env))) (AP X pins σ Q) X.xe s
noncomputable def PS (X : Cx) (st : Stmt) (t : TS) : Prop :=
  ∀ (pins : List (Addr × Obj)) (s : Shared) (σ : St) (H : Hp) (D : Ends), Inv X pins σ H s → t D σ H → wpAny (model X.prog X.w) X.A (exec st X.env) (SP X pins D) X.xe s
noncomputable def PSs (X : Cx) (st : List Stmt) (t : TS) : Prop :=
  ∀ (pins : List (Addr × Obj)) (s : Shared) (σ : St) (H : Hp) (D : Ends), Inv X pins σ H s → t D σ H → wpAny (model X.prog X.w) X.A (execs st X.env) (SP X pins D) X.xe s
theorem thn {α : Type} {t : Sem α} {Q Q' : α → Shared → Prop} {M : Model} {A : Around} {E : Value → Shared → Prop} {s : Shared} (h : wpAny M A t Q E s) (hQ : ∀ a s, Q a s → Q' a s) : wpAny M A t Q' E s := wpAny_mono h hQ fun _ _ x => x
end L2
namespace L2
open PySem PySem.Spec PyProof.Rows
section
variable {X : Cx}
noncomputable def tVar (i : Nat) : TE := fun σ H Q => ∃ v, σ[i]? = some (some v) ∧ Q v H
noncomputable def tC (v : V) : TE := fun _ H Q => Q v H
theorem pe_var {i : Nat} {x : Str} {pos : Pos} (hN : X.N[i]? = some x) (hv : Vis X.env.scope x) (hd : (x == ("__debug__" : Str)) = false := by decide) (hcd : (x == ("__classdict__" : Str)) = false := by decide) : PE X (.Name x pos) (tVar i) := by
  intro pins s σ H Q I h
  obtain ⟨v, e, h⟩ := h
  obtain ⟨m, hn, hl⟩ := I.loc
  obtain ⟨u, r, l⟩ := hl i x v hN e hv
  have fin : EP X pins σ Q u s := ⟨v, H, I, r, h⟩
  rcases l with ⟨hk, hm⟩ | ⟨hk, c, hc, hcell⟩
  · exact wpAny_Name (wpAny_loadName_local I.ok.kind hk hn hm fin) hd
  · rcases hk with hk | hk
    · exact wpAny_Name (wpAny_loadName_cell I.ok.kind hk hc hcell fin) hd
    · exact wpAny_Name (wpAny_loadName_free I.ok.kind hk hc hcell fin hcd) hd
theorem pe_int {i j pos} : PE X (.Constant (.int i) j pos) (tC (.int i)) := fun _ _ _ H _ I h => wpAny_Constant_int ⟨.int i, H, I.tok _, ⟨_, rfl⟩, h⟩
theorem pe_bl {b j pos} : PE X (.Constant (.bool b) j pos) (tC (.bl b)) := fun _ _ _ H _ I h => Constant_bool ⟨.bl b, H, I, rfl, h⟩
theorem pe_non {j pos} : PE X (.Constant .none j pos) (tC .non) := fun _ _ _ H _ I h => Constant_none ⟨.non, H, I, rfl, h⟩
theorem pe_str {x j pos} : PE X (.Constant (.str x) j pos) (tC (.str x)) := fun _ _ _ H _ I h => Calls.Constant_str ⟨.str x, H, I.tok _, ⟨_, rfl⟩, h⟩
noncomputable def Gl (X : Cx) (x : Str) : Prop := X.env.kindOf x = some .globalImplicit
theorem ld_glob {E : Value → Shared → Prop} {pins : List (Addr × Obj)} {s : Shared} {σ : St} {H : Hp} {x : Str} {u : Value} {pos : Pos} {Q : Value → Shared → Prop} (I : Inv X pins σ H s) (hg : Gl X x) (hm : X.mg x = some u) (h : Q u s)
    (hd : (x == ("__debug__" : Str)) = false := by decide) : wpAny (model X.prog X.w) X.A (eval (.Name x pos) X.env) Q E s :=
  Calls.Name_function_global I.ok.kind hg (Calls.loadGlobal_global (by rw [I.ok.glob]; exact I.mod.glob.keeps I.bk) hm h) hd
theorem ld_blt {E : Value → Shared → Prop} {pins : List (Addr × Obj)} {s : Shared} {σ : St} {H : Hp} {x : Str} {u : Value} {pos : Pos} {Q : Value → Shared → Prop} (I : Inv X pins σ H s) (hg : Gl X x) (hm : X.mg x = none) (hv : bootBuiltins x = some u) (h : Q u s)
    (hn : x ≠ "__name__" := by decide) (hd : (x == ("__debug__" : Str)) = false := by decide) : wpAny (model X.prog X.w) X.A (eval (.Name x pos) X.env) Q E s := by
  obtain ⟨mb, h1, h2⟩ := I.mod.blt
  exact Calls.Name_function_global I.ok.kind hg (Calls.loadGlobal_builtin (by rw [I.ok.glob]; exact I.mod.glob.keeps I.bk) hm (by rw [I.ok.blt]; exact h1.keeps I.bk) ((h2 x hn).trans hv) h) hd
theorem pe_glob {x : Str} {v : V} {u : Value} {pos : Pos} (hg : Gl X x) (hm : X.mg x = some u) (r : RelV v u) (hd : (x == ("__debug__" : Str)) = false := by decide) : PE X (.Name x pos) (tC v) :=
  fun _ _ _ H _ I h => ld_glob I hg hm ⟨v, H, I, r, h⟩ hd
theorem pe_bltn {x : Str} {v : V} {u : Value} {pos : Pos} (hg : Gl X x) (hm : X.mg x = none) (hv : bootBuiltins x = some u) (r : RelV v u) (hn : x ≠ "__name__" := by decide) (hd : (x == ("__debug__" : Str)) = false := by decide) : PE X (.Name x pos) (tC v) :=
  fun _ _ _ H _ I h => ld_blt I hg hm hv ⟨v, H, I, r, h⟩ hn hd
variable {a b : Expr} {ta tb : TE} {pos : Pos}
noncomputable def PC (X : Cx) (op : CmpOp) (a b : Expr) (t : TE) : Prop :=
  ∀ (pins : List (Addr × Obj)) (s : Shared) (σ : St) (H : Hp) (Q : VK), Inv X pins σ H s → t σ H Q →
    wpAny (model X.prog X.w) X.A (eval a X.env) (fun v s₁ => wpAny (model X.prog X.w) X.A (eval b X.env) (fun u s₂ => wpAny (model X.prog X.w) X.A (compareOp op v u) (EP X pins σ Q) X.xe s₂) X.xe s₁) X.xe s
variable {tA tB' : TT} {rest : List Expr}
noncomputable def tAnd (t u : TT) : TT := fun σ H Q => t σ H fun c H1 => if c = true then u σ H1 Q else Q false H1
noncomputable def tOr (t u : TT) : TT := fun σ H Q => t σ H fun c H1 => if c = true then Q true H1 else u σ H1 Q
noncomputable def tNot (t : TT) : TT := fun σ H Q => t σ H fun c H1 => Q (!c) H1
theorem pw_and1 (ha : PT X a tA) : PW X (.BoolOp .And [a] pos) tA := by
  intro wh pins s σ H Q I h
  refine isTrue_and (thn (ha pins s σ H Q I h) fun c s1 e => ?_)
  cases c with
  | true => exact isTrue_and_nil e
  | false => exact e
theorem pw_or1 (ha : PT X a tA) : PW X (.BoolOp .Or [a] pos) tA := by
  intro wh pins s σ H Q I h
  refine isTrue_or (thn (ha pins s σ H Q I h) fun c s1 e => ?_)
  cases c with
  | false => exact isTrue_or_nil e
  | true => exact e
theorem pw_and (ha : PT X a tA) (hb : PW X (.BoolOp .And (b :: rest) pos) tB') : PW X (.BoolOp .And (a :: b :: rest) pos) (tAnd tA tB') := by
  intro wh pins s σ H Q I h
  refine isTrue_and (thn (ha pins s σ H _ I h) fun c s1 zz => ?_)
  obtain ⟨H1, I1, q1⟩ := zz
  cases c with
  | true => exact hb wh pins s1 σ H1 Q I1 q1
  | false => exact ⟨H1, I1, q1⟩
theorem pw_or (ha : PT X a tA) (hb : PW X (.BoolOp .Or (b :: rest) pos) tB') : PW X (.BoolOp .Or (a :: b :: rest) pos) (tOr tA tB') := by
  intro wh pins s σ H Q I h
  refine isTrue_or (thn (ha pins s σ H _ I h) fun c s1 zz => ?_)
  obtain ⟨H1, I1, q1⟩ := zz
  cases c with
  | true => exact ⟨H1, I1, q1⟩
  | false => exact hb wh pins s1 σ H1 Q I1 q1
theorem pt_not (ha : PT X a tA) : PT X (.UnaryOp .Not a pos) (tNot tA) := by
  intro pins s σ H Q I h
  exact isTrue_not (ha pins s σ H (fun c H1 => Q (!c) H1) I h)
noncomputable def tAndV (ta tb : TE) : TE := fun σ H Q => ta σ H fun x H1 => ∃ c, x = .bl c ∧ if c = true then tb σ H1 Q else Q (.bl false) H1
noncomputable def tOrV (ta tb : TE) : TE := fun σ H Q => ta σ H fun x H1 => ∃ c, x = .bl c ∧ if c = true then Q (.bl true) H1 else tb σ H1 Q
noncomputable def tNotV (ta : TE) : TE := fun σ H Q => ta σ H fun x H1 => ∃ c, x = .bl c ∧ Q (.bl (!c)) H1
theorem pe_one {op} {t : TE} (h : PE X a t) : PE X (.BoolOp op [a] pos) t := fun pins s σ H Q I hw => BoolOp_one (h pins s σ H Q I hw)
theorem pe_and (ha : PE X a ta) (hb : PE X (.BoolOp .And (b :: rest) pos) tb) : PE X (.BoolOp .And (a :: b :: rest) pos) (tAndV ta tb) := by
  intro pins s σ H Q I h
  refine BoolOp_and (thn (ha pins s σ H _ I h) fun v s1 zz => ?_)
  obtain ⟨x, H1, I1, r1, q1⟩ := zz
  obtain ⟨c, rfl, q1⟩ := q1
  cases r1
  refine wpAny_truthy_bool ?_
  cases c with
  | true => exact hb pins s1 σ H1 Q I1 q1
  | false => exact ⟨.bl false, H1, I1, rfl, q1⟩
theorem pe_or (ha : PE X a ta) (hb : PE X (.BoolOp .Or (b :: rest) pos) tb) : PE X (.BoolOp .Or (a :: b :: rest) pos) (tOrV ta tb) := by
  intro pins s σ H Q I h
  refine BoolOp_or (thn (ha pins s σ H _ I h) fun v s1 zz => ?_)
  obtain ⟨x, H1, I1, r1, q1⟩ := zz
  obtain ⟨c, rfl, q1⟩ := q1
  cases r1
  refine wpAny_truthy_bool ?_
  cases c with
  | false => exact hb pins s1 σ H1 Q I1 q1
  | true => exact ⟨.bl true, H1, I1, rfl, q1⟩
theorem pe_not (ha : PE X a ta) : PE X (.UnaryOp .Not a pos) (tNotV ta) := by
  intro pins s σ H Q I h
  refine UnaryOp_ (thn (ha pins s σ H _ I h) fun v s1 zz => ?_)
  obtain ⟨x, H1, I1, r1, q1⟩ := zz
  obtain ⟨c, rfl, q1⟩ := q1
  cases r1
  exact not_of (wpAny_truthy_bool ⟨.bl (!c), H1, I1, rfl, q1⟩)
noncomputable def tIf (t : TT) (ta tb : TE) : TE := fun σ H Q => t σ H fun c H1 => if c = true then ta σ H1 Q else tb σ H1 Q
theorem pe_ifExp {c : Expr} (hc : PT X c tA) (ha : PE X a ta) (hb : PE X b tb) : PE X (.IfExp c a b pos) (tIf tA ta tb) := by
  intro pins s σ H Q I h
  refine wpAny_IfExp (thn (hc pins s σ H _ I h) fun d s1 zz => ?_)
  obtain ⟨H1, I1, q1⟩ := zz
  cases d with
  | true => exact ha pins s1 σ H1 Q I1 q1
  | false => exact hb pins s1 σ H1 Q I1 q1
end
end L2
namespace L2
open PySem PySem.Spec PyProof.Rows
noncomputable def SqL (K : PySem.W.Frag) (H : Hp) (a : Addr) (xs : List V) : Prop :=
  Rd H a (.lst xs) ∨
    ∃ (o : Obj) (its : Array Value) (n : Nat), K.lookup a = some o ∧ o.cls = .type "list" ∧ o.dict = none ∧ o.data = .seq its n ∧ its.size ≤ sizeLine ∧ Vals xs its.toList
noncomputable def SqT (K : PySem.W.Frag) (H : Hp) (a : Addr) (xs : List V) : Prop :=
  Rd H a (.tup xs) ∨
    ∃ (o : Obj) (its : Array Value) (n : Nat), K.lookup a = some o ∧ o.cls = .type "tuple" ∧ o.data = .seq its n ∧ its.size ≤ sizeLine ∧ Vals xs its.toList ∧ o.dict = none
noncomputable def absV : Value → Option V
  | .none => some .non
  | .bool b => some (.bl b)
  | .int i _ => some (.int i)
  | .str x _ => some (.str x)
  | .bytes b _ => some (.byt b)
  | .float b _ => some (.flt b)
  | .ref a => some (.ref a)
  | .type n => some (.ty n)
  | _ => none
theorem RelV.abs {x : V} {u : Value} (r : RelV x u) : absV u = some x := by
  cases x with
  | non => cases r; rfl
  | bl _ => cases r; rfl
  | int _ => obtain ⟨t, rfl⟩ := r; rfl
  | str _ => obtain ⟨t, rfl⟩ := r; rfl
  | byt _ => obtain ⟨t, rfl⟩ := r; rfl
  | flt _ => obtain ⟨t, rfl⟩ := r; rfl
  | ref _ => cases r; rfl
  | ty _ => cases r; rfl
theorem RelV.inj {x y : V} {u : Value} (r : RelV x u) (q : RelV y u) : x = y := Option.some.inj (r.abs.symm.trans q.abs)
theorem Vals.inj : ∀ {xs ys : List V} {us : List Value}, Vals xs us → Vals ys us → xs = ys := by
  intro xs ys us h
  induction h generalizing ys with
  | nil => intro h'; cases h'; rfl
  | cons r t ih =>
    intro h'
    cases h' with
    | cons r' t' => rw [r.inj r', ih t']
section
variable {X : Cx} {pins : List (Addr × Obj)} {σ : St} {H : Hp} {s : Shared} {a : Addr} {xs ys : List V}
theorem SqL.of {K : PySem.W.Frag} (h : H a = some (.lst xs)) : SqL K H a xs := .inl (.inl h)
theorem SqT.of {K : PySem.W.Frag} (h : H a = some (.tup xs)) : SqT K H a xs := .inl (.inl h)
theorem Inv.list (I : Inv X pins σ H s) (h : SqL X.K H a xs) : ∃ its : List Value, Vals xs its ∧ PlainL s.heap a its.toArray ∧ xs.length ≤ sizeLine := by
  rcases h with h | ⟨o, its, n, hk, hc, hd, hs, hz, r⟩
  · obtain ⟨z, its, n, r, e⟩ := h.ok I.hok
    exact ⟨its, r, ⟨_, n, e, rfl, rfl, rfl⟩, z⟩
  · refine ⟨its.toList, r, ⟨o, n, I.kIn a o hk, hc, hd, by simpa using hs⟩, ?_⟩
    have e := r.length
    simp only [Array.length_toList] at e
    omega
theorem Inv.tuple (I : Inv X pins σ H s) (h : SqT X.K H a xs) : ∃ its : List Value, Vals xs its ∧ IsTup s.heap a its.toArray ∧ xs.length ≤ sizeLine := by
  rcases h with h | ⟨o, its, n, hk, hc, hs, hz, r, _⟩
  · obtain ⟨z, its, r, p⟩ := h.ok I.hok
    exact ⟨its, r, p.tup, z⟩
  · refine ⟨its.toList, r, ⟨o, I.kIn a o hk, hc, n, by simpa using hs⟩, ?_⟩
    have e := r.length
    simp only [Array.length_toList] at e
    omega
theorem Inv.list_inj (I : Inv X pins σ H s) (h : SqL X.K H a xs) (h' : SqL X.K H a ys) : xs = ys := by
  obtain ⟨its, r, ⟨o, n, e, _, _, d⟩, _⟩ := I.list h
  obtain ⟨its', r', ⟨o', n', e', _, _, d'⟩, _⟩ := I.list h'
  rw [e] at e'; cases e'
  rw [d] at d'
  injection d' with d1 _
  have : its = its' := by simpa using congrArg Array.toList d1
  subst this
  exact r.inj r'
theorem Inv.tuple_inj (I : Inv X pins σ H s) (h : SqT X.K H a xs) (h' : SqT X.K H a ys) : xs = ys := by
  obtain ⟨its, r, ⟨o, e, _, n, d⟩, _⟩ := I.tuple h
  obtain ⟨its', r', ⟨o', e', _, n', d'⟩, _⟩ := I.tuple h'
  rw [e] at e'; cases e'
  rw [d] at d'
  injection d' with d1 _
  have : its = its' := by simpa using congrArg Array.toList d1
  subst this
  exact r.inj r'
end
noncomputable abbrev Cx.wish (X : Cx) (E : Value → Shared → Prop) : Cx := { X with xe := E }
noncomputable abbrev Cx.nox (X : Cx) : Cx := X.wish fun _ _ => False
theorem Cx.Ok.wish {X : Cx} (ok : X.Ok) (E : Value → Shared → Prop) : (X.wish E).Ok :=
  ⟨ok.mod, ok.kind, ok.glob, ok.blt, ok.above, ok.inj, ok.has, ok.cab, ok.hd, ok.frames, ok.stk, ok.exf, ok.bs, ok.bsz, ok.noex, ok.exfs, ok.funs, ok.frf⟩
theorem Cx.Ok.unwish {X : Cx} {E : Value → Shared → Prop} (ok : (X.wish E).Ok) : X.Ok :=
  ⟨ok.mod, ok.kind, ok.glob, ok.blt, ok.above, ok.inj, ok.has, ok.cab, ok.hd, ok.frames, ok.stk, ok.exf, ok.bs, ok.bsz, ok.noex, ok.exfs, ok.funs, ok.frf⟩
section
variable {X : Cx} {pins : List (Addr × Obj)} {σ : St} {H : Hp} {s : Shared} {E : Value → Shared → Prop}
theorem Inv.wish (I : Inv X pins σ H s) (E : Value → Shared → Prop) : Inv (X.wish E) pins σ H s := ⟨I.ok.wish E, I.os, I.bare, I.base, I.loc, I.cell, I.free, I.freeC, I.pin, I.hok, I.len⟩
theorem Inv.unwish (I : Inv (X.wish E) pins σ H s) : Inv X pins σ H s := ⟨I.ok.unwish, I.os, I.bare, I.base, I.loc, I.cell, I.free, I.freeC, I.pin, I.hok, I.len⟩
theorem SP.unwish {D : Ends} {f : Flow} {s' : Shared} (h : SP (X.wish E) pins D f s') : SP X pins D f s' := by
  cases f with
  | next => obtain ⟨σ', H', I, q⟩ := h; exact ⟨σ', H', I.unwish, q⟩
  | brk => obtain ⟨σ', H', I, q⟩ := h; exact ⟨σ', H', I.unwish, q⟩
  | cont => obtain ⟨σ', H', I, q⟩ := h; exact ⟨σ', H', I.unwish, q⟩
  | ret u => obtain ⟨v, σ', H', I, r, q⟩ := h; exact ⟨v, σ', H', I.unwish, r, q⟩
theorem PE.nox {e : Expr} {t : TE} (h : PE X.nox e t) : PE X e t := fun pins s σ H Q I hw =>
  wpAny_mono (h pins s σ H Q (I.wish _) hw) (fun _ _ ⟨v, H', I', r, q⟩ => ⟨v, H', I'.unwish, r, q⟩) fun _ _ z => False.elim z
theorem PT.nox {e : Expr} {t : TT} (h : PT X.nox e t) : PT X e t := fun pins s σ H Q I hw =>
  wpAny_mono (h pins s σ H Q (I.wish _) hw) (fun _ _ ⟨H', I', q⟩ => ⟨H', I'.unwish, q⟩) fun _ _ z => False.elim z
theorem PSs.nox {st : List Stmt} {t : TS} (h : PSs X.nox st t) : PSs X st t := fun pins s σ H D I hw =>
  wpAny_mono (h pins s σ H D (I.wish _) hw) (fun _ _ q => q.unwish) fun _ _ z => False.elim z
end
section
variable {X : Cx} {st : Stmt} {rest : List Stmt} {t u : TS} {e : Expr} {te : TE} {pos : Pos}
noncomputable def tNext : TS := fun D σ H => D.nx σ H
noncomputable def tSeq (t u : TS) : TS := fun D σ H => t { D with nx := u D } σ H
theorem pss_nil : PSs X [] tNext := fun _ _ σ H _ I h => wpAny_execs_nil ⟨σ, H, I, h⟩
theorem pss_cons (h1 : PS X st t) (h2 : PSs X rest u) : PSs X (st :: rest) (tSeq t u) := by
  intro pins s σ H D I h
  refine wpAny_execs_cons (thn (h1 pins s σ H { D with nx := u D } I h) fun f s1 q => ?_)
  cases f with
  | next =>
    obtain ⟨σ', H', I', q⟩ := q
    exact h2 pins s1 σ' H' D I' q
  | ret v => exact q
  | brk => exact q
  | cont => exact q
theorem Inv.quiet {pins : List (Addr × Obj)} {σ : St} {H : Hp} {s : Shared} (I : Inv X pins σ H s) : interactive X.env = false := by simp [interactive, I.ok.kind]
noncomputable def tDrop (te : TE) : TS := fun D σ H => te σ H fun _ H1 => D.nx σ H1
theorem ps_expr (he : PE X e te) (hs : swapsWith e none pos.line X.env = pure false := by rfl) : PS X (.Expr e pos) (tDrop te) := by
  intro pins s σ H D I h
  exact wpAny_Expr_any (thn (he pins s σ H _ I h) fun v s1 ⟨x, H1, I1, r1, q1⟩ => ⟨σ, H1, I1, q1⟩) I.quiet hs
noncomputable def tRet (te : TE) : TS := fun D σ H => te σ H D.rt
theorem ps_ret (he : PE X e te) : PS X (.Return (some e) pos) (tRet te) := by
  intro pins s σ H D I h
  exact wpAny_Return_some (thn (he pins s σ H _ I h) fun v s1 ⟨x, H1, I1, r1, q1⟩ => ⟨x, σ, H1, I1, r1, q1⟩)
noncomputable def tIfS (c : TT) (t u : TS) : TS := fun D σ H => c σ H fun b H1 => if b = true then t D σ H1 else u D σ H1
theorem ps_if {c : Expr} {a b : List Stmt} {tc : TT} (hc : PT X c tc) (ha : PSs X a t) (hb : PSs X b u) : PS X (.If c a b pos) (tIfS tc t u) := by
  intro pins s σ H D I h
  refine wpAny_If (thn (hc pins s σ H _ I h) fun d s1 zz => ?_)
  obtain ⟨H1, I1, q1⟩ := zz
  cases d with
  | true => exact ha pins s1 σ H1 D I1 q1
  | false => exact hb pins s1 σ H1 D I1 q1
end
noncomputable abbrev TG := V → St → Hp → (St → Hp → Prop) → Prop
noncomputable abbrev TGs := List V → St → Hp → (St → Hp → Prop) → Prop
noncomputable def PG (X : Cx) (target : Expr) (t : TG) : Prop :=
  ∀ (pins : List (Addr × Obj)) (s : Shared) (σ : St) (H : Hp) (v : V) (u : Value) (Q : St → Hp → Prop), Inv X pins σ H s → RelV v u → t v σ H Q →
    wpAny (model X.prog X.w) X.A (assign target X.env u) (fun _ s' => ∃ σ' H', Inv X pins σ' H' s' ∧ Q σ' H') X.xe s
noncomputable def PGs (X : Cx) (ts : List Expr) (t : TGs) : Prop :=
  ∀ (pins : List (Addr × Obj)) (s : Shared) (σ : St) (H : Hp) (vs : List V) (us : List Value) (Q : St → Hp → Prop), Inv X pins σ H s → Vals vs us → t vs σ H Q →
    wpAny (model X.prog X.w) X.A (assignInOrder ((assignEach ts X.env).map (·.2)) us) (fun _ s' => ∃ σ' H', Inv X pins σ' H' s' ∧ Q σ' H') X.xe s
noncomputable abbrev TSet := V → V → V → Hp → (Hp → Prop) → Prop
noncomputable def PSet (X : Cx) (t : TSet) : Prop :=
  ∀ (pins : List (Addr × Obj)) (s : Shared) (σ : St) (H : Hp) (o i v : V) (ov iv u : Value) (Q : Hp → Prop), Inv X pins σ H s → RelV o ov → RelV i iv → RelV v u → t o i v H Q →
    wpAny (model X.prog X.w) X.A (setItem ov iv u) (fun _ s' => ∃ H', Inv X pins σ H' s' ∧ Q H') X.xe s
section
variable {X : Cx} {pos : Pos}
noncomputable def gName (i : Nat) : TG := fun v σ H Q => Q (σ.set i (some v)) H
theorem pg_name {i : Nat} {x : Str} (hN : X.N.Nodup) (hi : X.N[i]? = some x) (hx : Loc X.env.scope x) (hf : X.fn x = true ∨ X.env.scope.names.lookup x = some .local := by first | exact .inl rfl | exact .inr rfl | assumption) : PG X (.Name x pos) (gName i) := by
  intro pins s σ H v u Q I r h
  exact wpAny_assign_Name (store_ok I hN hi hx r (fun s' I' => ⟨_, H, I', h⟩) hf)
noncomputable def gNil : TGs := fun vs σ H Q => vs = [] ∧ Q σ H
noncomputable def gCons (t : TG) (u : TGs) : TGs := fun vs σ H Q => ∃ v r, vs = v :: r ∧ t v σ H fun σ' H' => u r σ' H' Q
theorem pgs_nil : PGs X [] gNil := by
  intro pins s σ H vs us Q I r h
  obtain ⟨e, h⟩ := h
  subst e
  cases r
  exact assignInOrder_nil ⟨σ, H, I, h⟩
theorem pgs_cons {e : Expr} {es : List Expr} {t : TG} {u : TGs} (h1 : PG X e t) (h2 : PGs X es u)
    (hs : (assignEach (e :: es) X.env).map (·.2) = assign e X.env :: (assignEach es X.env).map (·.2) := by rfl) : PGs X (e :: es) (gCons t u) := by
  intro pins s σ H vs us Q I r h
  obtain ⟨v, vr, e1, h⟩ := h
  subst e1
  cases r with
  | cons r rr =>
    rw [hs]
    refine assignInOrder_cons (thn (h1 pins s σ H _ _ _ I r h) fun _ s1 zz => ?_)
    obtain ⟨σ1, H1, I1, q1⟩ := zz
    exact h2 pins s1 σ1 H1 _ _ Q I1 rr q1
noncomputable def gTup (K : PySem.W.Frag) (n : Nat) (t : TGs) : TG := fun v σ H Q => ∃ a xs, v = .ref a ∧ SqT K H a xs ∧ xs.length = n ∧ t xs σ H Q
theorem pg_tup {es : List Expr} {k : Nat} {t : TGs} {n : Nat} (hc : X.calm = true) (h : PGs X es t)
    (hn : (assignEach es X.env).length = n := by rfl) (hst : (assignEach es X.env).findIdx? (·.1) = none := by rfl) : PG X (.Tuple es k pos) (gTup X.K n t) := by
  intro pins s σ H v u Q I r hw
  obtain ⟨a, xs, e1, hq, hl, hw⟩ := hw
  subst e1
  cases r
  obtain ⟨its, rv, ht, hz⟩ := I.tuple hq
  refine assign_Tuple_tuple (I.ok.hd hc) ht (by simp [hn, ← hl, rv.length]) hst fun h' hx => ?_
  have I1 : Inv X pins σ H { s with heap := h' } := I.kept (t' := s.toks) fun b o e => hx b o (Nat.ne_of_lt (Heap.lt_size e)) e
  exact h pins _ σ H xs _ Q I1 (by simpa using rv) hw
noncomputable def gSub (to ti : TE) (t : TSet) : TG := fun v σ H Q => to σ H fun o H1 => ti σ H1 fun i H2 => t o i v H2 fun H3 => Q σ H3
theorem pg_sub {o i : Expr} {to ti : TE} {t : TSet} (ho : PE X o to) (hi : PE X i ti) (hs : PSet X t)
    (ha : ∀ v, assign (.Subscript o i pos) X.env v = (do
      let ov ← holding [v] (eval o X.env)
      let iv ← holding [v, ov] (eval i X.env)
      standAt pos
      holding [v, ov, iv] (setItem ov iv v)
      release [v, ov, iv] []) := by intro _; rfl) : PG X (.Subscript o i pos) (gSub to ti t) := by
  intro pins s σ H v u Q I r h
  rw [ha]
  refine wpAny_bind (wpAny_holding (thn (ho pins s σ H _ I h) fun ov s1 zz => ?_))
  obtain ⟨x, H1, I1, r1, q1⟩ := zz
  refine wpAny_bind (wpAny_holding (thn (hi pins s1 σ H1 _ I1 q1) fun iv s2 zz => ?_))
  obtain ⟨y, H2, I2, r2, q2⟩ := zz
  refine wpAny_bind (wpAny_standAt (wpAny_bind (wpAny_holding (thn (hs pins s2 σ H2 x y v ov iv u _ I2 r1 r2 r q2) fun _ s3 zz => ?_))))
  obtain ⟨H3, I3, q3⟩ := zz
  exact wpAny_release ⟨σ, H3, I3, q3⟩
noncomputable def tAsg (te : TE) (g : TG) : TS := fun D σ H => te σ H fun x H1 => g x σ H1 D.nx
theorem ps_asg {tg e : Expr} {te : TE} {g : TG} (he : PE X e te) (hg : PG X tg g) (hs : swapsWithSole [tg] e pos.line X.env = pure false := by rfl) (hw : swappedStores [tg] e X.env = pure none := by rfl)
    (h1 : (assignEach [tg] X.env).map (·.2) = [assign tg X.env] := by rfl) : PS X (.Assign [tg] e pos) (tAsg te g) := by
  intro pins s σ H D I h
  refine wpAny_Assign_stores (thn (he pins s σ H _ I h) fun v s1 ⟨x, H1, I1, r1, q1⟩ => ?_) hs hw
  rw [h1]
  exact thn (hg pins s1 σ H1 x v _ I1 r1 q1) fun _ s2 q => q
theorem ps_set {i : Nat} {x : Str} {e : Expr} {te : TE} {pos' : Pos} (hN : X.N.Nodup) (hi : X.N[i]? = some x) (hx : Loc X.env.scope x) (he : PE X e te) (hs : swapsWith e (some (.Name x pos')) pos.line X.env = pure false := by rfl) (hf : X.fn x = true ∨ X.env.scope.names.lookup x = some .local := by first | exact .inl rfl | exact .inr rfl | assumption) :
    PS X (.Assign [.Name x pos'] e pos) (tAsg te (gName i)) := by
  intro pins s σ H D I h
  refine wpAny_Assign_Name (thn (he pins s σ H _ I h) fun v s1 ⟨y, H1, I1, r1, q1⟩ => ?_) hs
  exact store_ok I1 hN hi hx r1 (fun s2 I2 => ⟨_, H1, I2, q1⟩) hf
end
section
variable {X : Cx} {pos : Pos}
noncomputable def tWhile (c : TT) (tb : TS) : TS := fun D σ H => ∃ W : Nat → St → Hp → Prop, (∃ m, W m σ H) ∧ ∀ m σ H, W m σ H →
  c σ H fun b H1 => if b = true then ∃ N : St → Hp → Prop, (∀ σ' H', N σ' H' → ∃ m', m' < m ∧ W m' σ' H') ∧ tb { D with nx := N, ct := N, bk := D.nx } σ H1 else D.nx σ H1
theorem ps_while {c : Expr} {body : List Stmt} {tc : TT} {tb : TS} (hp : PassesOwn (model X.prog X.w) X.A X.env X.xe) (hc : PT X c tc) (hb : PSs X body tb) : PS X (.While c body [] pos) (tWhile tc tb) := by
  intro pins s σ H D I h
  obtain ⟨W, ⟨m0, w0⟩, turn⟩ := h
  refine wpAny_While (codeAny_whileLoop (fun n s' => ∃ σ' H', Inv X pins σ' H' s' ∧ W n σ' H') ?_ m0 ⟨σ, H, I, w0⟩)
  rintro n s1 ⟨σ1, H1, I1, w1⟩
  refine wpAny_passesOwn hp (thn (hc pins s1 σ1 H1 _ I1 (turn n σ1 H1 w1)) fun b s2 zz => ?_)
  obtain ⟨H2, I2, q2⟩ := zz
  cases b with
  | true =>
    obtain ⟨N, hN, q2⟩ := q2
    rw [if_pos rfl]
    refine wpAny_passesOwn hp (thn (hb pins s2 σ1 H2 _ I2 q2) fun f s3 q3 => ?_)
    cases f with
    | next =>
      obtain ⟨σ3, H3, I3, n3⟩ := q3
      obtain ⟨m', hm, w3⟩ := hN σ3 H3 n3
      exact ⟨m', hm, σ3, H3, I3, w3⟩
    | cont =>
      obtain ⟨σ3, H3, I3, n3⟩ := q3
      obtain ⟨m', hm, w3⟩ := hN σ3 H3 n3
      exact ⟨m', hm, σ3, H3, I3, w3⟩
    | brk => exact q3
    | ret v => exact q3
  | false =>
    rw [if_neg Bool.false_ne_true]
    exact wpAny_execs_nil ⟨σ1, H2, I2, q2⟩
end
structure It where
  go : Nat → Hp → Prop
  yld : Nat → Hp → V → Hp → Prop
  stop : Nat → Hp → Prop
noncomputable def FpOk (X : Cx) (pins : List (Addr × Obj)) (H : Hp) (b : Addr) : Prop :=
  H b = none ∧ b ≠ X.env.locals ∧ b ∉ X.fs ∧ (b ∈ X.ex ∨ X.s₀.heap.objs.size ≤ b) ∧ (∀ x c, X.env.cells.lookup x = some c → c ≠ b) ∧ ∀ p ∈ X.pn ++ pins, p.1 ≠ b
theorem Inv.fpOk {X : Cx} {pins : List (Addr × Obj)} {σ : St} {H H' : Hp} {s : Shared} {b : Addr} (I : Inv X pins σ H s) (hb : s.heap.objs.size ≤ b) (hn : H' b = none) : FpOk X pins H' b := by
  refine ⟨hn, Nat.ne_of_gt (Nat.lt_of_lt_of_le I.lt hb), I.nofs hb, .inr (Nat.le_trans I.sz hb), fun x c e z => ?_, fun p hp z => ?_⟩
  · obtain ⟨v, q⟩ := I.cell x c e
    exact absurd (Nat.lt_of_lt_of_le q.lt (by rw [z]; exact hb)) (Nat.lt_irrefl _)
  · exact absurd (Nat.lt_of_lt_of_le (Heap.lt_size (I.pin p hp).1) (by rw [z]; exact hb)) (Nat.lt_irrefl _)
structure Turn (P : Program) (w : World) (K : PySem.W.Frag) (tg : Expr) (J : It) (fp : List Addr) (it : Addr) (tn : Nat → Heap → Prop) : Prop where
  mem : it ∈ fp
  obj : ∀ i h, tn i h → ∀ b ∈ fp, ∃ o, h.get? b = some o ∧ ∀ v, o.data ≠ .cell v
  keep : ∀ i h h', tn i h → (∀ b ∈ fp, ∀ o, h.get? b = some o → h'.get? b = some o) → tn i h'
  item : ∀ (X : Cx), X.prog = P → X.w = w → X.K = K → X.calm = true → ∀ (i : Nat) (pins : List (Addr × Obj)) (s : Shared) (σ : St) (H : Hp) (E : Value → Shared → Prop), Inv X pins σ H s → (∀ b ∈ fp, FpOk X pins H b) → tn i s.heap → J.go i H →
    wpAny (model P w) X.A (pyNext (.ref it)) (fun r s1 => ∃ u, r = some u ∧
      wpAny (model P w) X.A (letOwnedTupleGo tg (.ref it) u) (fun _ s2 => ∃ x H', Inv X pins σ H' s2 ∧ RelV x u ∧ J.yld i H x H' ∧ tn (i + 1) s2.heap ∧ ∀ b ∈ fp, H' b = none) E s1) E s
  done : ∀ (X : Cx), X.prog = P → X.w = w → X.K = K → X.calm = true → ∀ (i : Nat) (pins : List (Addr × Obj)) (s : Shared) (σ : St) (H : Hp) (E : Value → Shared → Prop), Inv X pins σ H s → (∀ b ∈ fp, FpOk X pins H b) → tn i s.heap → J.stop i H →
    wpAny (model P w) X.A (pyNext (.ref it)) (fun r s1 => r = none ∧ Inv X pins σ H s1) E s
  self : ∀ (A : Around) (i : Nat) (s : Shared) (Q : Value → Shared → Prop) (E : Value → Shared → Prop), tn i s.heap → Q (.ref it) s → wpAny (model P w) A (pyIter (.ref it)) Q E s
noncomputable abbrev TI := St → Hp → (It → Hp → Prop) → Prop
noncomputable def PIE (X : Cx) (pins : List (Addr × Obj)) (σ : St) (tg : Expr) (R : It → Hp → Prop) (itv : Value) (s2 : Shared) : Prop :=
  ∃ (it : Addr) (fp : List Addr) (tn : Nat → Heap → Prop) (J : It) (H' : Hp), itv = .ref it ∧ Inv X pins σ H' s2 ∧ Turn X.prog X.w X.K tg J fp it tn ∧ tn 0 s2.heap ∧ (∀ b ∈ fp, FpOk X pins H' b) ∧ R J H'
noncomputable def PI (X : Cx) (tg iter : Expr) (wi : TI) : Prop :=
  ∀ (pins : List (Addr × Obj)) (s : Shared) (σ : St) (H : Hp) (R : It → Hp → Prop), Inv X pins σ H s → wi σ H R →
    wpAny (model X.prog X.w) X.A (eval iter X.env) (fun v s1 => wpAny (model X.prog X.w) X.A (pyIter v) (PIE X pins σ tg R) X.xe s1) X.xe s
theorem go_of {M : Model} {A : Around} {E : Value → Shared → Prop} {s : Shared} {tg : Expr} {it : Addr} {u : Value} {o : Obj} {n : String} {vs : Array Value} {Q : Unit → Shared → Prop} (ho : s.heap.get? it = some o) (hc : o.cls = .type n) (hd : o.data = .fields vs)
    (hn : ["enumerate", "zip", "dict_itemiterator", "dict_reverseitemiterator", "odict_iterator", "itertools.zip_longest", "itertools.pairwise"].contains n = false) (hQ : Q () s) : wpAny M A (letOwnedTupleGo tg (.ref it) u) Q E s := by
  unfold letOwnedTupleGo
  cases tg <;> first
    | exact wpAny_pure hQ
    | (cases u <;> first
        | exact wpAny_pure hQ
        | (refine wpAny_bind (wpAny_load ho ?_)
           rw [hc, hd]
           show wpAny M A (if (["enumerate", "zip", "dict_itemiterator", "dict_reverseitemiterator", "odict_iterator", "itertools.zip_longest", "itertools.pairwise"].contains n && vs[0]? == some (rawInt _)) = true then _ else _) Q E s
           rw [if_neg (by intro h; rw [hn, Bool.false_and] at h; cases h)]
           exact wpAny_pure hQ))
noncomputable def Itl (K : PySem.W.Frag) (a : Addr) : It :=
  ⟨fun i H => ∃ xs x, SqL K H a xs ∧ xs[i]? = some x, fun i H x H' => H' = H ∧ ∀ xs, SqL K H a xs → xs[i]? = some x, fun i H => ∃ xs, SqL K H a xs ∧ xs.length ≤ i⟩
noncomputable def Itt (K : PySem.W.Frag) (a : Addr) : It :=
  ⟨fun i H => ∃ xs x, SqT K H a xs ∧ xs[i]? = some x, fun i H x H' => H' = H ∧ ∀ xs, SqT K H a xs → xs[i]? = some x, fun i H => ∃ xs, SqT K H a xs ∧ xs.length ≤ i⟩
noncomputable def Itr (lo : Int) (n : Nat) : It := ⟨fun i _ => i < n, fun i H x H' => H' = H ∧ x = .int (lo + i), fun i _ => n ≤ i⟩
theorem turn_list {P : Program} {w : World} {K : PySem.W.Frag} {tg : Expr} (a it : Addr) : Turn P w K tg (Itl K a) [it] it (fun i h => h.IsListIter it a i) where
  mem := by simp
  obj := fun i h st b hb => by
    have e : b = it := by simpa using hb
    subst e
    obtain ⟨o, e, c, d⟩ := st
    exact ⟨o, e, fun v z => by rw [d] at z; cases z⟩
  keep := fun i h h' st k => st.at fun o e => k it (by simp) o e
  item := by
    intro X hP hw hK hc i pins s σ H E I hf st hg
    subst hP hw hK
    obtain ⟨xs, x, hq, hx⟩ := hg
    obtain ⟨its, rv, p, hz⟩ := I.list hq
    obtain ⟨u, hu, ru⟩ := rv.get hx
    obtain ⟨f0, f1, f2, f3, f4, f5⟩ := hf it (by simp)
    refine wpAny_pyNext_list_item st p.isList (x := u) (by simpa using hu) fun h' st' sb => ?_
    have I1 : Inv X pins σ H { s with heap := h' } := I.turned (t' := s.toks) (fun b o hb e => (sb.2 b hb).trans e) f0 f1 f3 f4 f5
    obtain ⟨o, e, c, d⟩ := id st'
    exact ⟨u, rfl, go_of (s := { s with heap := h' }) e c d (by decide) ⟨x, H, I1, ru, ⟨rfl, fun ys hy => by rw [I.list_inj hy hq]; exact hx⟩, st', fun b hb => (hf b hb).1⟩⟩
  done := by
    intro X hP hw hK hc i pins s σ H E I hf st hg
    subst hP hw hK
    obtain ⟨xs, hq, hx⟩ := hg
    obtain ⟨its, rv, p, hz⟩ := I.list hq
    obtain ⟨f0, f1, f2, f3, f4, f5⟩ := hf it (by simp)
    have hl := rv.length
    exact wpAny_pyNext_list_end (I.ok.hd hc) st p.isList (by simp; omega) fun h' eb => ⟨rfl, I.turned (t' := s.toks) (fun b o hb e => eb b o hb e) f0 f1 f3 f4 f5⟩
  self := fun _ _ _ _ _ st h => wpAny_pyIter_listiter st h
theorem turn_tuple {P : Program} {w : World} {K : PySem.W.Frag} {tg : Expr} (a it : Addr) : Turn P w K tg (Itt K a) [it] it (fun i h => h.IsTupleIter it a i) where
  mem := by simp
  obj := fun i h st b hb => by
    have e : b = it := by simpa using hb
    subst e
    obtain ⟨o, e, c, d⟩ := st
    exact ⟨o, e, fun v z => by rw [d] at z; cases z⟩
  keep := fun i h h' st k => st.at fun o e => k it (by simp) o e
  item := by
    intro X hP hw hK hc i pins s σ H E I hf st hg
    subst hP hw hK
    obtain ⟨xs, x, hq, hx⟩ := hg
    obtain ⟨its, rv, p, hz⟩ := I.tuple hq
    obtain ⟨u, hu, ru⟩ := rv.get hx
    obtain ⟨f0, f1, f2, f3, f4, f5⟩ := hf it (by simp)
    refine wpAny_pyNext_tuple_item st (show s.heap.IsTuple a its.toArray from p) (x := u) (by simpa using hu) fun h' st' sb => ?_
    have I1 : Inv X pins σ H { s with heap := h' } := I.turned (t' := s.toks) (fun b o hb e => (sb.2 b hb).trans e) f0 f1 f3 f4 f5
    obtain ⟨o, e, c, d⟩ := id st'
    exact ⟨u, rfl, go_of (s := { s with heap := h' }) e c d (by decide) ⟨x, H, I1, ru, ⟨rfl, fun ys hy => by rw [I.tuple_inj hy hq]; exact hx⟩, st', fun b hb => (hf b hb).1⟩⟩
  done := by
    intro X hP hw hK hc i pins s σ H E I hf st hg
    subst hP hw hK
    obtain ⟨xs, hq, hx⟩ := hg
    obtain ⟨its, rv, p, hz⟩ := I.tuple hq
    obtain ⟨f0, f1, f2, f3, f4, f5⟩ := hf it (by simp)
    have hl := rv.length
    exact wpAny_pyNext_tuple_end (I.ok.hd hc) st (show s.heap.IsTuple a its.toArray from p) (by simp; omega) fun h' eb => ⟨rfl, I.turned (t' := s.toks) (fun b o hb e => eb b o hb e) f0 f1 f3 f4 f5⟩
  self := fun _ _ _ _ _ st h => wpAny_pyIter_tupleiter st h
theorem turn_range {P : Program} {w : World} {K : PySem.W.Frag} {tg : Expr} (it : Addr) (lo : Int) (n : Nat) : Turn P w K tg (Itr lo n) [it] it (fun i h => IsRangeIter h it (lo + (i : Nat) * 1) ((n : Int) - (i : Nat)) 1) where
  mem := by simp
  obj := fun i h st b hb => by
    have e : b = it := by simpa using hb
    subst e
    exact ⟨_, st, fun v z => by
      have z' : Data.fields _ = Data.cell v := z
      cases z'⟩
  keep := fun i h h' st k => k it (by simp) _ st
  item := by
    intro X hP hw hK hc i pins s σ H E I hf st hg
    subst hP hw hK
    obtain ⟨f0, f1, f2, f3, f4, f5⟩ := hf it (by simp)
    have W := Walks.range (prog := X.prog) (w := X.w) (I.ok.hd hc) it lo 1 n
    refine W.item i s _ _ hg st fun v h' tk hv st' kk => ?_
    obtain ⟨t, rfl⟩ := hv
    have I1 : Inv X pins σ H { s with heap := h', toks := tk } := I.turned (fun b o hb e => kk b o (by simpa using hb) e) f0 f1 f3 f4 f5
    refine ⟨_, rfl, go_of (s := { s with heap := h', toks := tk }) (n := "range_iterator") st' rfl rfl (by decide) ⟨.int (lo + i), H, I1, ⟨t, ?_⟩, ⟨rfl, rfl⟩, st', fun b hb => (hf b hb).1⟩⟩
    rw [Int.mul_one]
  done := by
    intro X hP hw hK hc i pins s σ H E I hf st hg
    subst hP hw hK
    obtain ⟨f0, f1, f2, f3, f4, f5⟩ := hf it (by simp)
    exact wpAny_pyNext_range_end (I.ok.hd hc) st (by have : n ≤ i := hg; omega) fun h' eb => ⟨rfl, I.turned (t' := s.toks) (fun b o hb e => eb b o hb e) f0 f1 f3 f4 f5⟩
  self := fun _ _ _ _ _ st h => wpAny_pyIter_rangeiter st h
end L2
namespace L2
open PySem PySem.Spec PyProof.Rows
section
variable {X : Cx} {tg : Expr}
theorem range_it {pins : List (Addr × Obj)} {σ : St} {H : Hp} {s : Shared} {R : It → Hp → Prop} {E : Value → Shared → Prop} {lo hi : Int} {t u v : Tok} {tk : Nat} (I : Inv X pins σ H s) (h1 : -(2 ^ 62) ≤ lo) (h2 : lo < 2 ^ 62) (h3 : -(2 ^ 62) ≤ hi) (h4 : hi < 2 ^ 62)
    (q : R (Itr lo (hi - lo).toNat) H) : wpAny (model X.prog X.w) X.A (pyIter (.ref s.heap.objs.size)) (PIE X pins σ tg R) E { s with heap := s.heap.push { cls := .type "range", data := .fields #[.int lo t, .int hi u, .int 1 v] }, toks := tk } := by
  refine wpAny_pyIter_range (IsRange.new ..) (small_one h1 h2 h3 h4) ?_
  have I1 : Inv X pins σ H { s with heap := s.heap.push { cls := .type "range", data := .fields #[.int lo t, .int hi u, .int 1 v] }, toks := tk } := I.kept fun b o e => Heap.get?_push_of_some _ e
  refine ⟨(s.heap.push { cls := .type "range", data := .fields #[.int lo t, .int hi u, .int 1 v] }).objs.size, [(s.heap.push { cls := .type "range", data := .fields #[.int lo t, .int hi u, .int 1 v] }).objs.size], _, _, H, rfl,
    I1.kept (t' := tk) fun b o e => Heap.get?_push_of_some _ e, turn_range _ lo (hi - lo).toNat, ?_, fun b hb => ?_, q⟩
  · have e1 : lo + ((0 : Nat) : Int) * 1 = lo := by simp
    have e2 : (((hi - lo).toNat : Nat) : Int) - ((0 : Nat) : Int) = Builtin.Range.rangeSize lo hi 1 := by rw [rangeSize_one]; split <;> omega
    show IsRangeIter _ _ (lo + ((0 : Nat) : Int) * 1) ((((hi - lo).toNat : Nat) : Int) - ((0 : Nat) : Int)) 1
    rw [e1, e2]
    exact Heap.get?_push_size _ rfl
  · have e : b = (s.heap.push { cls := .type "range", data := .fields #[.int lo t, .int hi u, .int 1 v] }).objs.size := by simpa using hb
    subst e
    exact I1.fpOk (Nat.le_refl _) (I1.hok.fresh (Nat.le_refl _))
noncomputable def iRng1 (ta : TA) : TI := fun σ H R => ta σ H fun vs H1 => ∃ j : Int, vs = [.int j] ∧ -(2 ^ 62) ≤ j ∧ j < 2 ^ 62 ∧ R (Itr 0 j.toNat) H1
theorem pi_range1 {a : Expr} {ta : TA} {p pos : Pos} (hg : Gl X "range") (hm : X.mg "range" = none) (ha : PA X [a] ta) (hs : starEach [a] X.env = [(false, eval a X.env)] := by rfl) : PI X tg (.Call (.Name "range" p) [a] [] pos) (iRng1 ta) := by
  intro pins s σ H R I h
  refine Call_ (ld_blt I hg hm boot_range (PyProof.Rows.callWith_type1 (thn (ha pos pins s σ H _ I h) fun us s1 ⟨vs, H1, I1, r1, q1⟩ => ?_) hs rfl))
  obtain ⟨j, e, q1, q2, q⟩ := q1
  subst e
  cases r1 with
  | cons r rr =>
    cases rr
    obtain ⟨t, rfl⟩ := r
    exact call_range_1 (range_it I1 (by omega) (by omega) q1 q2 (by simpa using q))
noncomputable def tFor (wi : TI) (g : TG) (tb : TS) : TS := fun D σ H => wi σ H fun J H1 => ∃ W : Nat → Nat → St → Hp → Prop, (∃ m, W 0 m σ H1) ∧ ∀ i m σ H, W i m σ H →
  (J.stop i H ∧ D.nx σ H) ∨ (J.go i H ∧ ∃ N : St → Hp → Prop, (∀ σ' H', N σ' H' → ∃ m', m' < m ∧ W (i + 1) m' σ' H') ∧ ∀ x H', J.yld i H x H' → g x σ H' fun σ2 H2 => tb { D with nx := N, ct := N, bk := D.nx } σ2 H2)
noncomputable def pinsAt (fp : List Addr) (h : Heap) : List (Addr × Obj) := fp.filterMap fun b => (h.get? b).map fun o => (b, o)
theorem mem_pinsAt {fp : List Addr} {h : Heap} {b : Addr} {o : Obj} (hb : b ∈ fp) (e : h.get? b = some o) : (b, o) ∈ pinsAt fp h := List.mem_filterMap.mpr ⟨b, hb, by rw [e]; rfl⟩
theorem of_pinsAt {fp : List Addr} {h : Heap} {p : Addr × Obj} (hp : p ∈ pinsAt fp h) : p.1 ∈ fp ∧ h.get? p.1 = some p.2 := by
  obtain ⟨b, hb, e⟩ := List.mem_filterMap.mp hp
  cases q : h.get? b with
  | none => rw [q] at e; cases e
  | some o =>
    rw [q] at e
    have e' : (b, o) = p := Option.some.inj e
    subst e'
    exact ⟨hb, q⟩
theorem Inv.pinned {pins : List (Addr × Obj)} {σ : St} {H : Hp} {s : Shared} {fp : List Addr} (I : Inv X pins σ H s) (hf : ∀ b ∈ fp, FpOk X pins H b) (ho : ∀ b ∈ fp, ∃ o, s.heap.get? b = some o ∧ ∀ v, o.data ≠ .cell v) : Inv X (pins ++ pinsAt fp s.heap) σ H s :=
  I.pins_of fun p hp => (List.mem_append.mp hp).elim (fun z => I.pin p (List.mem_append_right _ z)) fun z => by
    obtain ⟨hb, e⟩ := of_pinsAt z
    obtain ⟨f0, f1, f2, _⟩ := hf p.1 hb
    obtain ⟨o, e', d⟩ := ho p.1 hb
    rw [e] at e'; cases e'
    exact ⟨e, f0, f1, f2, d⟩
theorem Inv.unpinned {pins pl : List (Addr × Obj)} {σ : St} {H : Hp} {s : Shared} (I : Inv X (pins ++ pl) σ H s) : Inv X pins σ H s := I.pins_of fun p hp => I.pin p (List.mem_append_right _ (List.mem_append_left _ hp))
theorem ps_for {iter : Expr} {body : List Stmt} {wi : TI} {g : TG} {tb : TS} {pos : Pos} (hp : PassesOwn (model X.prog X.w) X.A X.env X.xe) (hc : X.calm = true) (hi : PI X tg iter wi) (hg : PG X tg g) (hb : PSs X body tb)
    (hs : ∀ x, foldedSetIterable iter X.env x = pure x := by intro _; rfl) : PS X (.For tg iter body [] pos) (tFor wi g tb) := by
  intro pins s σ H D I h
  refine wpAny_For (thn (hi pins s σ H _ I h) fun v s1 h1 => thn h1 fun itv s2 h2 => ?_) hs
  obtain ⟨it, fp, tn, J, H2, e, I2, T, st2, f2, W, ⟨m0, w0⟩, turn⟩ := h2
  subst e
  -- what stays true of the iterator's objects through the loop
  have stat : ∀ {H' : Hp}, (∀ b ∈ fp, H' b = none) → ∀ b ∈ fp, FpOk X pins H' b := fun hn b hb => ⟨hn b hb, (f2 b hb).2⟩
  refine codeAny_forLoop_any (fun n s' => ∃ i σ' H', Inv X pins σ' H' s' ∧ tn i s'.heap ∧ (∀ b ∈ fp, H' b = none) ∧ W i n σ' H') ?_ m0 ⟨0, σ, H2, I2, st2, fun b hb => (f2 b hb).1, w0⟩
  rintro n s3 ⟨i, σ3, H3, I3, st3, fr3, w3⟩
  rcases turn i n σ3 H3 w3 with ⟨stop, qn⟩ | ⟨go, N, hN, step⟩
  · refine wpAny_passesOwn hp (thn (T.done X rfl rfl rfl hc i pins s3 σ3 H3 X.xe I3 (stat fr3) st3 stop) fun r s4 zz => ?_)
    obtain ⟨hr, I4⟩ := zz
    subst hr
    exact wpAny_execs_nil ⟨σ3, H3, I4, qn⟩
  · refine wpAny_passesOwn hp (thn (T.item X rfl rfl rfl hc i pins s3 σ3 H3 X.xe I3 (stat fr3) st3 go) fun r s4 zz => ?_)
    obtain ⟨u, hr, h4⟩ := zz
    subst hr
    refine wpAny_passesOwn hp (thn h4 fun _ s5 zz => ?_)
    obtain ⟨x, H5, I5, r5, y5, st5, fr5⟩ := zz
    have I5' := I5.pinned (stat fr5) (T.obj _ _ st5)
    refine wpAny_passesOwn hp (thn (hg _ s5 σ3 H5 x u _ I5' r5 (step x H5 y5)) fun _ s6 zz => ?_)
    obtain ⟨σ6, H6, I6, q6⟩ := zz
    refine wpAny_passesOwn hp (thn (hb _ s6 σ6 H6 _ I6 q6) fun f s7 q7 => ?_)
    have again : ∀ {σ7 : St} {H7 : Hp}, Inv X (pins ++ pinsAt fp s5.heap) σ7 H7 s7 → N σ7 H7 → ∃ m, m < n ∧ ∃ i σ' H', Inv X pins σ' H' s7 ∧ tn i s7.heap ∧ (∀ b ∈ fp, H' b = none) ∧ W i m σ' H' := fun {σ7 H7} I7 n7 => by
      obtain ⟨m', hm, w7⟩ := hN σ7 H7 n7
      refine ⟨m', hm, i + 1, σ7, H7, I7.unpinned, T.keep _ _ _ st5 fun b hb o e => (I7.pin (b, o) (List.mem_append_right _ (List.mem_append_right _ (mem_pinsAt hb e)))).1, fun b hb => ?_, w7⟩
      obtain ⟨o, e, d⟩ := T.obj _ _ st5 b hb
      exact (I7.pin (b, o) (List.mem_append_right _ (List.mem_append_right _ (mem_pinsAt hb e)))).2.1
    cases f with
    | next => obtain ⟨σ7, H7, I7, n7⟩ := q7; exact again I7 n7
    | cont => obtain ⟨σ7, H7, I7, n7⟩ := q7; exact again I7 n7
    | brk => obtain ⟨σ7, H7, I7, q7⟩ := q7; exact ⟨σ7, H7, I7.unpinned, q7⟩
    | ret v => obtain ⟨x7, σ7, H7, I7, r7, q7⟩ := q7; exact ⟨x7, σ7, H7, I7.unpinned, r7, q7⟩
end
end L2
namespace L2
open PySem PySem.Spec PyProof.Rows
noncomputable abbrev R2 := V → V → Hp → VK → Prop
noncomputable def OpR (X : Cx) (f : Value → Value → Sem Value) (r : R2) : Prop :=
  ∀ (pins : List (Addr × Obj)) (s : Shared) (σ : St) (H : Hp) (x y : V) (v u : Value) (Q : VK), Inv X pins σ H s → RelV x v → RelV y u → r x y H Q →
    wpAny (model X.prog X.w) X.A (f v u) (EP X pins σ Q) X.xe s
noncomputable def UnR (X : Cx) (f : Value → Sem Value) (r : V → Hp → VK → Prop) : Prop :=
  ∀ (pins : List (Addr × Obj)) (s : Shared) (σ : St) (H : Hp) (x : V) (v : Value) (Q : VK), Inv X pins σ H s → RelV x v → r x H Q →
    wpAny (model X.prog X.w) X.A (f v) (EP X pins σ Q) X.xe s
noncomputable def CallR (X : Cx) (f : Value) (r : List V → Hp → VK → Prop) : Prop :=
  ∀ (pins : List (Addr × Obj)) (s : Shared) (σ : St) (H : Hp) (xs : List V) (us : List Value) (Q : VK), Inv X pins σ H s → Vals xs us → r xs H Q →
    wpAny (model X.prog X.w) X.A (call f us) (EP X pins σ Q) X.xe s
noncomputable def TruR (X : Cx) (r : V → Hp → (Bool → Hp → Prop) → Prop) : Prop :=
  ∀ (pins : List (Addr × Obj)) (s : Shared) (σ : St) (H : Hp) (x : V) (v : Value) (Q : Bool → Hp → Prop), Inv X pins σ H s → RelV x v → r x H Q →
    wpAny (model X.prog X.w) X.A (truthy v) (TP X pins σ Q) X.xe s
noncomputable def tOp (r : R2) (ta tb : TE) : TE := fun σ H Q => ta σ H fun x H1 => tb σ H1 fun y H2 => r x y H2 Q
noncomputable def tUn (r : V → Hp → VK → Prop) (ta : TE) : TE := fun σ H Q => ta σ H fun x H1 => r x H1 Q
noncomputable def rI (C : Int → Int → Prop) (g : Int → Int → V) : R2 := fun x y H Q => ∃ i j, x = .int i ∧ y = .int j ∧ C i j ∧ Q (g i j) H
noncomputable def rI0 (g : Int → Int → V) : R2 := fun x y H Q => ∃ i j, x = .int i ∧ y = .int j ∧ Q (g i j) H
noncomputable def rU (g : Int → V) : V → Hp → VK → Prop := fun x H Q => ∃ i, x = .int i ∧ Q (g i) H
section
variable {X : Cx} {a b c : Expr} {ta tb tc : TE} {pos : Pos}
theorem binT (ha : PE X a ta) (hb : PE X b tb) {pins : List (Addr × Obj)} {s : Shared} {σ : St} {H : Hp} {R : V → V → Hp → Prop} (I : Inv X pins σ H s)
    (h : ta σ H fun x H1 => tb σ H1 fun y H2 => R x y H2) {Q : Value → Shared → Prop} {f : Value → Value → Sem Value}
    (hf : ∀ v u s2 x y H2, Inv X pins σ H2 s2 → RelV x v → RelV y u → R x y H2 → wpAny (model X.prog X.w) X.A (f v u) Q X.xe s2) :
    wpAny (model X.prog X.w) X.A (eval a X.env) (fun v s₁ => wpAny (model X.prog X.w) X.A (eval b X.env) (fun u s₂ => wpAny (model X.prog X.w) X.A (f v u) Q X.xe s₂) X.xe s₁) X.xe s := by
  refine thn (ha pins s σ H _ I h) fun v s1 zz => ?_
  obtain ⟨x, H1, I1, r1, q1⟩ := zz
  refine thn (hb pins s1 σ H1 _ I1 q1) fun u s2 zz => ?_
  obtain ⟨y, H2, I2, r2, q2⟩ := zz
  exact hf v u s2 x y H2 I2 r1 r2 q2
theorem pe_op {op : Operator} {r : R2} (ho : OpR X (binaryOp op) r) (ha : PE X a ta) (hb : PE X b tb) : PE X (.BinOp a op b pos) (tOp r ta tb) := by
  intro pins s σ H Q I h
  exact wpAny_BinOp (binT ha hb I h fun v u s2 x y H2 I2 rx ry q => ho pins s2 σ H2 x y v u Q I2 rx ry q)
theorem pe_un {op : UnaryOp} {r : V → Hp → VK → Prop} (ho : UnR X (unaryOp op) r) (ha : PE X a ta) : PE X (.UnaryOp op a pos) (tUn r ta) := by
  intro pins s σ H Q I h
  exact UnaryOp_ (thn (ha pins s σ H _ I h) fun v s1 ⟨x, H1, I1, r1, q1⟩ => ho pins s1 σ H1 x v Q I1 r1 q1)
theorem opI {f : Value → Value → Sem Value} {C : Int → Int → Prop} {g : Int → Int → Int}
    (rule : ∀ (i j : Int) (t u : Tok) (s : Shared) (Q : Value → Shared → Prop) (E : Value → Shared → Prop), C i j → Q (.int (g i j) s.toks) { s with toks := s.toks + 1 } → wpAny (model X.prog X.w) X.A (f (.int i t) (.int j u)) Q E s) :
    OpR X f (rI C fun i j => .int (g i j)) := by
  intro pins s σ H x y v u Q I rx ry h
  obtain ⟨i, j, rfl, rfl, hc, q⟩ := h
  obtain ⟨t, rfl⟩ := rx
  obtain ⟨t', rfl⟩ := ry
  exact rule i j t t' s _ _ hc ⟨.int (g i j), H, I.tok _, ⟨_, rfl⟩, q⟩
theorem opI0 {f : Value → Value → Sem Value} {g : Int → Int → Int}
    (rule : ∀ (i j : Int) (t u : Tok) (s : Shared) (Q : Value → Shared → Prop) (E : Value → Shared → Prop), Q (.int (g i j) s.toks) { s with toks := s.toks + 1 } → wpAny (model X.prog X.w) X.A (f (.int i t) (.int j u)) Q E s) :
    OpR X f (rI0 fun i j => .int (g i j)) := by
  intro pins s σ H x y v u Q I rx ry h
  obtain ⟨i, j, rfl, rfl, q⟩ := h
  obtain ⟨t, rfl⟩ := rx
  obtain ⟨t', rfl⟩ := ry
  exact rule i j t t' s _ _ ⟨.int (g i j), H, I.tok _, ⟨_, rfl⟩, q⟩
theorem opB0 {f : Value → Value → Sem Value} {g : Int → Int → Bool}
    (rule : ∀ (i j : Int) (t u : Tok) (s : Shared) (Q : Value → Shared → Prop) (E : Value → Shared → Prop), Q (.bool (g i j)) s → wpAny (model X.prog X.w) X.A (f (.int i t) (.int j u)) Q E s) :
    OpR X f (rI0 fun i j => .bl (g i j)) := by
  intro pins s σ H x y v u Q I rx ry h
  obtain ⟨i, j, rfl, rfl, q⟩ := h
  obtain ⟨t, rfl⟩ := rx
  obtain ⟨t', rfl⟩ := ry
  exact rule i j t t' s _ _ ⟨.bl (g i j), H, I, rfl, q⟩
noncomputable def CDiv (i j : Int) : Prop := 0 < j ∧ j < 1073741824
noncomputable def CPow (i j : Int) : Prop := 0 ≤ j ∧ j ≤ 1000000 ∧ i.natAbs < 2 ^ 64
noncomputable def CMul (i j : Int) : Prop := (-(2 ^ 64) < i ∧ i < 2 ^ 64) ∨ (-(2 ^ 64) < j ∧ j < 2 ^ 64)
theorem CMul.ok {i j : Int} (h : CMul i j) : IntMulOk i j := by
  rcases h with ⟨h1, h2⟩ | ⟨h1, h2⟩
  · exact .of_left (intBits_le_64 h1 h2)
  · exact .of_right (intBits_le_64 h1 h2)
theorem op_add : OpR X (binaryOp .Add) (rI0 fun i j => .int (i + j)) := opI0 fun _ _ _ _ _ _ _ q => add_int q
theorem op_sub : OpR X (binaryOp .Sub) (rI0 fun i j => .int (i - j)) := opI0 fun _ _ _ _ _ _ _ q => sub_int q
theorem op_mul : OpR X (binaryOp .Mult) (rI CMul fun i j => .int (i * j)) := opI fun _ _ _ _ _ _ _ hc q => mul_int q hc.ok
theorem op_fdiv : OpR X (binaryOp .FloorDiv) (rI CDiv fun i j => .int (i / j)) := opI fun i j _ _ _ _ _ hc q => by
  have h1 : (0 : Int) < j := hc.1
  have h2 : j < 1073741824 := hc.2
  exact floordiv_int (by omega) (by rw [Int.fdiv_eq_ediv_of_nonneg i (by omega)]; exact q) (.inl (PyProof.noPylong_small (by omega)))
theorem op_mod : OpR X (binaryOp .Mod) (rI (fun _ j => 0 < j) fun i j => .int (i % j)) := opI fun i j _ _ _ _ _ hc q => by
  have h1 : (0 : Int) < j := hc
  exact mod_int' (by omega) (by rw [Int.fmod_eq_emod_of_nonneg i (by omega)]; exact q)
theorem op_pow : OpR X (binaryOp .Pow) (rI CPow fun i j => .int (i ^ j.toNat)) := opI fun _ _ _ _ _ _ _ hc q => pow_int_small hc.1 hc.2.1 hc.2.2 q
theorem unI {f : Value → Sem Value} {g : Int → Int}
    (rule : ∀ (i : Int) (t : Tok) (s : Shared) (Q : Value → Shared → Prop) (E : Value → Shared → Prop), Q (.int (g i) s.toks) { s with toks := s.toks + 1 } → wpAny (model X.prog X.w) X.A (f (.int i t)) Q E s) :
    UnR X f (rU fun i => .int (g i)) := by
  intro pins s σ H x v Q I rx h
  obtain ⟨i, rfl, q⟩ := h
  obtain ⟨t, rfl⟩ := rx
  exact rule i t s _ _ ⟨.int (g i), H, I.tok _, ⟨_, rfl⟩, q⟩
theorem un_neg : UnR X (unaryOp .USub) (rU fun i => .int (-i)) := unI fun _ _ _ _ _ q => neg_int q
end
section
variable {X : Cx} {a b c : Expr} {ta tb tc : TE} {pos : Pos}
theorem op_lt : OpR X (compareOp .Lt) (rI0 fun i j => .bl (decide (i < j))) := opB0 fun _ _ _ _ _ _ _ q => lt_int q
theorem op_gt : OpR X (compareOp .Gt) (rI0 fun i j => .bl (decide (j < i))) := opB0 fun _ _ _ _ _ _ _ q => gt_int q
theorem op_ge : OpR X (compareOp .GtE) (rI0 fun i j => .bl (decide (j ≤ i))) := opB0 fun _ _ _ _ _ _ _ q => ge_int q
theorem nomark (b : Expr) {op : CmpOp} (h : op ≠ .In := by decide) (h2 : op ≠ .NotIn := by decide) : behindInMarks op b = false := by
  have e1 : (op == CmpOp.In) = false := by cases op <;> first | rfl | exact absurd rfl h
  have e2 : (op == CmpOp.NotIn) = false := by cases op <;> first | rfl | exact absurd rfl h2
  cases b <;> simp [behindInMarks, e1, e2]
theorem pe_cmpR {op : CmpOp} {r : R2} (ho : OpR X (compareOp op) r) (ha : PE X a ta) (hb : PE X b tb) (hm : behindInMarks op b = false) : PE X (.Compare a [op] [b] pos) (tOp r ta tb) := by
  intro pins s σ H Q I h
  exact wpAny_Compare1 (binT ha hb I h fun v u s2 x y H2 I2 rx ry q => ho pins s2 σ H2 x y v u Q I2 rx ry q) hm
noncomputable def tTest (t : TE) : TT := fun σ H Q => t σ H fun x H' => ∃ k, x = .bl k ∧ Q k H'
theorem pt_cmpR {op : CmpOp} {r : R2} (ho : OpR X (compareOp op) r) (ha : PE X a ta) (hb : PE X b tb) (hm : behindInMarks op b = false) : PT X (.Compare a [op] [b] pos) (tTest (tOp r ta tb)) := by
  intro pins s σ H Q I h
  refine wpAny_isTrue_Compare1 (thn (ha pins s σ H _ I h) fun v s1 ⟨x, H1, I1, r1, q1⟩ => thn (hb pins s1 σ H1 _ I1 q1) fun u s2 ⟨y, H2, I2, r2, q2⟩ =>
    thn (ho pins s2 σ H2 x y v u _ I2 r1 r2 q2) fun c s3 ⟨z, H3, I3, r3, k, e, q3⟩ => ?_) hm
  subst e
  cases r3
  exact wpAny_truthy_bool ⟨H3, I3, q3⟩
noncomputable def TruV (K : PySem.W.Frag) (x : V) (H : Hp) (k : Bool) : Prop :=
  match x with
  | .non => k = false
  | .bl b => k = b
  | .int i => k = (i != 0)
  | .str y => y.length ≤ sizeLine ∧ k = ((y.length : Int) != 0)
  | .byt y => y.size ≤ sizeLine ∧ k = ((y.size : Int) != 0)
  | .ref p => (∃ xs, SqL K H p xs ∧ k = !xs.isEmpty) ∨ (∃ xs, SqT K H p xs ∧ k = !xs.isEmpty) ∨ ∃ kvs, H p = some (.dK kvs) ∧ k = !kvs.isEmpty
  | _ => False
theorem isEmpty_kv {κ : Type} {kvs : List (κ × V)} {vs : List (κ × Value)} (r : KV kvs vs) : (!vs.isEmpty) = !kvs.isEmpty := by
  cases r <;> rfl
theorem isEmpty_of {xs : List V} {its : List Value} (r : Vals xs its) : (!its.toArray.isEmpty) = !xs.isEmpty := by
  cases r <;> simp
theorem line63 : (sizeLine : Nat) < 2 ^ 63 := by rw [sizeLine_eq]; decide
theorem tru_ok : TruR X (fun x H Q => ∃ k, TruV X.K x H k ∧ Q k H) := by
  intro pins s σ H x v Q I rx h
  obtain ⟨k, e, q⟩ := h
  have hl := line63
  have hs : sizeLine = 16777216 := sizeLine_eq
  cases x with
  | non =>
    cases rx
    have e' : k = false := e
    subst e'
    exact truthy_none ⟨H, I, q⟩
  | bl b =>
    cases rx
    have e' : k = b := e
    subst e'
    exact wpAny_truthy_bool ⟨H, I, q⟩
  | int i =>
    obtain ⟨t, rfl⟩ := rx
    have e' : k = (i != 0) := e
    subst e'
    exact PySem.P.truthy_int ⟨H, I, q⟩
  | str y =>
    obtain ⟨t, rfl⟩ := rx
    obtain ⟨hy, e'⟩ : y.length ≤ sizeLine ∧ k = ((y.length : Int) != 0) := e
    subst e'
    exact PySem.P.truthy_str (by omega) ⟨H, I.tok _, q⟩
  | byt y =>
    obtain ⟨t, rfl⟩ := rx
    obtain ⟨hy, e'⟩ : y.size ≤ sizeLine ∧ k = ((y.size : Int) != 0) := e
    subst e'
    exact PySem.W.truthy_bytes (by omega) ⟨H, I.tok _, q⟩
  | ref p =>
    cases rx
    have e' : (∃ xs, SqL X.K H p xs ∧ k = !xs.isEmpty) ∨ (∃ xs, SqT X.K H p xs ∧ k = !xs.isEmpty) ∨ ∃ kvs, H p = some (.dK kvs) ∧ k = !kvs.isEmpty := e
    rcases e' with ⟨xs, hx, e'⟩ | ⟨xs, hx, e'⟩ | ⟨kvs, hx, e'⟩
    · subst e'
      obtain ⟨its, r, pl, hz⟩ := I.list hx
      have hlen := r.length
      exact wpAny_truthy_list pl.isList (by simp only [List.size_toArray]; omega) ⟨H, I.tok _, by rw [isEmpty_of r]; exact q⟩
    · subst e'
      obtain ⟨its, r, pl, hz⟩ := I.tuple hx
      have hlen := r.length
      exact truthy_tuple pl (by simp only [List.size_toArray]; omega) ⟨H, I.tok _, by rw [isEmpty_of r]; exact q⟩
    · subst e'
      obtain ⟨hz, hS, vs, r, m⟩ : kvs.length ≤ sizeLine ∧ (p == sysModules) = false ∧ ∃ vs, KV kvs vs ∧ s.heap.DictOf (mixKind X.prog X.w) p vs := I.hok p _ hx
      have hlen : kvs.length = vs.length := Paired.length r
      exact wpAny_truthy_dict hS m (by omega) ⟨H, I.tok _, by rw [isEmpty_kv r]; exact q⟩
  | _ => exact (show False from e).elim
theorem pt_truth (ha : PE X a ta) (he : ∀ whole, isTrue a X.env whole = (do let v ← whole; standAt a.pos; holding [v] (truthy v))) :
    PT X a (fun σ H Q => ta σ H fun x H' => ∃ k, TruV X.K x H' k ∧ Q k H') := by
  intro pins s σ H Q I h
  exact isTrue_plain (thn (ha pins s σ H _ I h) fun v s1 ⟨x, H1, I1, r1, q1⟩ => tru_ok pins s1 σ H1 x v Q I1 r1 q1) (he _)
theorem op_add_str : OpR X (binaryOp .Add) (fun x y H Q => ∃ i j, x = .str i ∧ y = .str j ∧ i.length + j.length ≤ sizeLine ∧ Q (.str (i ++ j)) H) := by
  intro pins s σ H x y v u Q I rx ry h
  obtain ⟨i, j, rfl, rfl, hz, q⟩ := h
  obtain ⟨t, rfl⟩ := rx
  obtain ⟨t', rfl⟩ := ry
  exact add_str (fun t' tk => ⟨.str (i ++ j), H, I.tok _, ⟨_, rfl⟩, q⟩) hz
theorem vals1 {x : V} {us : List Value} (r : Vals [x] us) : ∃ u, us = [u] ∧ RelV x u := by
  cases r with
  | cons r1 r2 => cases r2; exact ⟨_, rfl, r1⟩
theorem vals2 {x y : V} {us : List Value} (r : Vals [x, y] us) : ∃ u w', us = [u, w'] ∧ RelV x u ∧ RelV y w' := by
  cases r with
  | cons r1 r2 =>
    cases r2 with
    | cons r3 r4 => cases r4; exact ⟨_, _, rfl, r1, r3⟩
theorem call_abs : CallR X (.builtin "abs") (fun xs H Q => ∃ i, xs = [.int i] ∧ Q (.int (if i < 0 then -i else i)) H) := by
  intro pins s σ H xs us Q I r h
  obtain ⟨i, rfl, q⟩ := h
  obtain ⟨u, rfl, t, rfl⟩ := vals1 r
  exact call_abs_int fun u tk => ⟨.int (if i < 0 then -i else i), H, I.tok _, ⟨_, rfl⟩, q⟩
theorem call_int1 : CallR X (.type "int") (fun xs H Q => (∃ i, xs = [.int i] ∧ Q (.int i) H) ∨ ∃ k, xs = [.bl k] ∧ Q (.int (if k then 1 else 0)) H) := by
  intro pins s σ H xs us Q I r h
  rcases h with ⟨i, rfl, q⟩ | ⟨k, rfl, q⟩
  · obtain ⟨u, rfl, t, rfl⟩ := vals1 r
    exact call_int_int ⟨.int i, H, I, ⟨_, rfl⟩, q⟩
  · obtain ⟨u, rfl, r1⟩ := vals1 r
    cases r1
    exact call_int_bool ⟨.int (if k then 1 else 0), H, I.tok _, ⟨_, rfl⟩, q⟩
end
end L2
namespace L2
open PySem PySem.Spec PyProof.Rows
structure ObjM (h : Heap) (x dx C : Addr) (mA : Str → Option Value) : Prop where
  obj : h.get? x = some (PySem.W.instObj C dx)
  ns : h.Ns1 dx mA
  ne : dx ≠ x
theorem lookIn_ns {h : Heap} {dx : Addr} {mA : Str → Option Value} (n : h.Ns1 dx mA) : ∃ od, h.get? dx = some od ∧ ∀ name, PySem.W.lookIn name od = some (mA name) := by
  obtain ⟨o, es, ep, ho, hd, hk, _, hm⟩ := n
  refine ⟨o, ho, fun name => ?_⟩
  have e := hm name
  unfold nsFind findBy at e
  rw [← Array.find?_toList] at e
  unfold PySem.W.lookIn
  rw [hd]
  dsimp only
  split
  · rename_i y q
    rw [q] at e
    exact congrArg some e
  · rename_i q
    rw [q] at e
    have a : es.toList.any (·.refKey) = false := by
      rw [List.any_eq_false]
      intro y hy
      obtain ⟨z, t, hkey⟩ := hk y (Array.mem_toList_iff.mp hy)
      simp [DictEntry.refKey, hkey]
    have a' : ¬ es.toList.any (·.refKey) = true := by rw [a]; exact Bool.false_ne_true
    rw [if_neg a']
    exact congrArg some e
theorem ObjM.look {h : Heap} {x dx C : Addr} {mA : Str → Option Value} (I : ObjM h x dx C mA) : ∃ od, PySem.W.InstAt h x (PySem.W.instObj C dx) C (some od) ∧ ∀ name, PySem.W.lookIn name od = some (mA name) :=
  let ⟨od, ho, hl⟩ := lookIn_ns I.ns
  ⟨od, ⟨I.obj, rfl, rfl, ho⟩, hl⟩
section
variable {prog : Program} {w : World} {A : Around} {E : Value → Shared → Prop} {s : Shared} {K : PySem.W.Frag} {x dx C f : Addr} {mA : Str → Option Value} {name : Str} {v : Value}
end
section
variable {P : Program} {w : World} {H H' : Hp} {h h' : Heap} {a C dx : Addr} {fs fs' : List (Str × V)}
end
structure Cls (K : PySem.W.Frag) (C : Addr) : Prop where
  pg : PySem.W.plainGet K C Str.empty = true
  hd : PySem.W.hasDictIn K C = true
  po : PySem.W.plainOver K C = true
  sa : PySem.W.findIn K (.ref C) "__setattr__" = some (some (.builtin "object.__setattr__"))
theorem Cls.get {K : PySem.W.Frag} {C : Addr} (c : Cls K C) (f : Str) : PySem.W.plainGet K C f = true := c.pg
structure Con (K : PySem.W.Frag) (C : Addr) (f : Str) (v : V) (u : Value) : Prop where
  at_ : PySem.W.findIn K (.ref C) f = some (some u)
  rel : RelV v u
  get : PySem.W.specialIn K u "__get__" = some none
  cp : PySem.W.copiedNames.contains f = false
structure Meth (K : PySem.W.Frag) (C : Addr) (m : Str) (f : Addr) : Prop where
  at_ : PySem.W.findIn K (.ref C) m = some (some (.ref f))
  fn : PySem.W.isFn K (.ref f) = true
  kp : PySem.W.keepIn K (.ref f) = true
section
variable {X : Cx} {pins : List (Addr × Obj)} {σ : St} {H : Hp} {s : Shared} {a C dx : Addr} {fs : List (Str × V)} {f : Str} {v : V} {A : Around} {E : Value → Shared → Prop}
theorem Inv.made (I : Inv X pins σ H s) : Inv X pins σ (upd (upd H s.heap.objs.size (.own (s.heap.objs.size + 1))) (s.heap.objs.size + 1) (.ins C s.heap.objs.size []))
    { s with heap := (s.heap.push PySem.W.emptyDict).push (PySem.W.instObj C s.heap.objs.size) } := by
  have e1 : (s.heap.push PySem.W.emptyDict).get? s.heap.objs.size = some PySem.W.emptyDict := Heap.get?_push_size s.heap rfl
  have e2 : ((s.heap.push PySem.W.emptyDict).push (PySem.W.instObj C s.heap.objs.size)).get? (s.heap.objs.size + 1) = some (PySem.W.instObj C s.heap.objs.size) := by
    have := Heap.get?_push_size (s.heap.push PySem.W.emptyDict) (o := PySem.W.instObj C s.heap.objs.size) rfl
    rwa [Heap.size_push] at this
  have e3 : (s.heap.push PySem.W.emptyDict).Ns s.heap.objs.size (fun _ => none) := ⟨PySem.W.emptyDict, #[], _, e1, rfl, (fun e he => absurd he (by simp)), fun _ => rfl⟩
  have I1 := I.laid (a := s.heap.objs.size) (o := .own (s.heap.objs.size + 1)) (h' := s.heap.push PySem.W.emptyDict) (t' := s.toks) (fun b u q => Heap.get?_push_of_some _ q) (Nat.le_refl _) ⟨_, e1⟩
  refine I1.laid (a := s.heap.objs.size + 1) (o := .ins C s.heap.objs.size []) (t' := s.toks) (fun b u q => Heap.get?_push_of_some _ q) (Nat.le_of_eq (Heap.size_push _ _)) ?_
  have ne : s.heap.objs.size ≠ s.heap.objs.size + 1 := Nat.ne_of_lt (Nat.lt_succ_self _)
  refine ⟨by rw [upd_ne ne, upd_same], Nat.zero_le _, ne, e2, fun _ => none, (Heap.Ns1.of_empty e3).at fun o q => Heap.get?_push_of_some _ q, fun _ => True.intro, fun y hy => absurd rfl hy⟩
end
section
variable {X : Cx} {o e value : Expr} {f : Str} {pos pos' tpos : Pos} {ta tv : TE}
end
section
variable {X : Cx} {pins : List (Addr × Obj)} {σ : St} {H : Hp} {s : Shared} {A : Around} {E : Value → Shared → Prop} {Q : Value → Shared → Prop} {c : Value} {b : Bool}
inductive TyOf (K : PySem.W.Frag) (H : Hp) : V → Value → Prop where
  | non : TyOf K H .non (.type "NoneType")
  | bl (x : Bool) : TyOf K H (.bl x) (.type "bool")
  | int (i : Int) : TyOf K H (.int i) (.type "int")
  | str (x : Str) : TyOf K H (.str x) (.type "str")
  | flt (x : UInt64) : TyOf K H (.flt x) (.type "float")
  | lst {a : Addr} {xs : List V} (e : H a = some (.lst xs)) : TyOf K H (.ref a) (.type "list")
  | frz {a : Addr} {o : Obj} {xs : List V} (e : H a = some (.frz o (.lst xs))) : TyOf K H (.ref a) (.type "list")
  | tup {a : Addr} {xs : List V} (e : H a = some (.tup xs)) : TyOf K H (.ref a) (.type "tuple")
  | dK {a : Addr} {kvs : List (Key × V)} (e : H a = some (.dK kvs)) : TyOf K H (.ref a) (.type "dict")
  | dT {a : Addr} {kvs : List (List Key × V)} (e : H a = some (.dT kvs)) : TyOf K H (.ref a) (.type "dict")
  | ins {a C dx : Addr} {fs : List (Str × V)} (e : H a = some (.ins C dx fs)) (cl : Cls K C) (ha : PySem.W.findIn K (.ref C) "__class__" = some (some (.builtin "object.__class__")))
      (hn : PySem.W.specialIn K (.builtin "object.__class__") "__get__" = some (some (.builtin "getset_descriptor.__get__"))) (htk : PySem.W.takesIn K (.builtin "object.__class__") = some true)
      (hm : PySem.W.mroIn K C (.type "object") = some true) : TyOf K H (.ref a) (.ref C)
end
end L2
namespace L2
open PySem PySem.Spec PyProof.Rows
structure Room (k : Nat) (A : Around) : Prop where
  hd : A.handled = none
  dp : A.depth + 3 * k + 5 < recursionLimit
  un : A.units + 16 * k + 200 < cLine
  gd : A.guards = some []
theorem Room.mono {j k : Nat} {A : Around} (r : Room k A) (h : j ≤ k) : Room j A := ⟨r.hd, by have := r.dp; omega, by have := r.un; omega, r.gd⟩
theorem Room.deeper {k : Nat} {A : Around} (r : Room (k + 1) A) (env : Env) : Room k (A.deeper env) :=
  ⟨r.hd, by have := r.dp; show A.depth + 1 + 3 * k + 5 < _; omega, by have := r.un; show A.units + 3 + 16 * k + 200 < _; omega, r.gd⟩
theorem Room.in1 {k : Nat} {A : Around} (r : Room (k + 1) A) : Room k A.in1 :=
  ⟨r.hd, by have := r.dp; show A.depth + 3 * k + 5 < _; omega, by have := r.un; show A.units + 1 + 16 * k + 200 < _; omega, r.gd⟩
theorem Room.depth {k : Nat} {A : Around} (r : Room k A) : A.depth < recursionLimit := by have := r.dp; omega
theorem Room.units {k : Nat} {A : Around} (r : Room k A) : A.units + 64 < cLine := by have := r.un; omega
noncomputable def tNil : TA := fun _ H Q => Q [] H
noncomputable def tCons (ta : TE) (tr : TA) : TA := fun σ H Q => ta σ H fun x H1 => tr σ H1 fun xs H2 => Q (x :: xs) H2
section
variable {X : Cx} {e : Expr} {es : List Expr} {te : TE} {t : TA} {pos : Pos}
theorem pa_nil : PA X [] tNil := fun _ _ _ _ H Q I h => Calls.spliced_nil ⟨[], H, I, .nil, h⟩
theorem pa_cons (ha : PE X e te) (hr : PA X es t) (hs : starEach (e :: es) X.env = (false, eval e X.env) :: starEach es X.env := by rfl) : PA X (e :: es) (tCons te t) := by
  intro pos pins s σ H Q I h
  rw [hs]
  show wpAny _ _ (spliced ((false, eval e X.env) :: backTo pos (starEach es X.env))) _ _ s
  refine Calls.spliced_cons (thn (ha pins s σ H _ I h) fun u s1 zz => ?_)
  obtain ⟨x, H1, I1, r1, q1⟩ := zz
  exact thn (hr pos pins s1 σ H1 _ I1 q1) fun us s2 ⟨xs, H2, I2, r2, q2⟩ => ⟨x :: xs, H2, I2, .cons r1 r2, q2⟩
noncomputable def tTup (t : TA) : TE := fun σ H Q => t σ H fun xs H1 => xs.length ≤ sizeLine ∧ ∀ p, H1 p = none → Q (.ref p) (upd H1 p (.tup xs))
noncomputable def tLst (t : TA) : TE := fun σ H Q => t σ H fun xs H1 => xs.length ≤ sizeLine ∧ ∀ p, H1 p = none → Q (.ref p) (upd H1 p (.lst xs))
theorem pe_tup {x1} (h : PA X es t) : PE X (.Tuple es x1 pos) (tTup t) := by
  intro pins s σ H Q I hq
  refine wpAny_Tuple_spliced (thn (h pos pins s σ H _ I hq) fun us s1 ⟨xs, H1, I1, r, z, q⟩ => ⟨by rw [← r.length]; exact z, ?_⟩)
  have hf : H1 s1.heap.objs.size = none := I1.hok.fresh (Nat.le_refl _)
  refine ⟨.ref s1.heap.objs.size, upd H1 s1.heap.objs.size (.tup xs), I1.laid (t' := s1.toks) (fun b u e => Heap.get?_push_of_some _ e) (Nat.le_refl _) ?_, rfl, q _ hf⟩
  exact ⟨z, us, r, ⟨_, Heap.get?_push_size _ rfl, rfl, ⟨_, rfl⟩, rfl⟩⟩
theorem pe_lst (h : PA X es t) : PE X (.List es pos) (tLst t) := by
  intro pins s σ H Q I hq
  refine wpAny_List_spliced (thn (h pos pins s σ H _ I hq) fun us s1 ⟨xs, H1, I1, r, z, q⟩ => ⟨by rw [← r.length]; exact z, ?_⟩)
  have hf : H1 s1.heap.objs.size = none := I1.hok.fresh (Nat.le_refl _)
  refine ⟨.ref s1.heap.objs.size, upd H1 s1.heap.objs.size (.lst xs), I1.laid (t' := s1.toks) (fun b u e => Heap.get?_push_of_some _ e) (Nat.le_refl _) ?_, rfl, q _ hf⟩
  exact ⟨z, us, 0, r, Heap.get?_push_size _ rfl⟩
end
noncomputable abbrev Sp := List V → Hp → VK → XK → Prop
noncomputable abbrev CXT := List Env → Hp → Shared → XK → Value → Shared → Prop
structure Env0 (P : Program) (w : World) (K : PySem.W.Frag) (mg : Str → Option Value) (base : Heap) (A : Around) (outer : List Env) (s : Shared) (H : Hp) : Prop where
  frames : A.frames = some outer
  mod : Mod K mg base
  bs : ∀ b o, base.get? b = some o → s.heap.get? b = some o ∧ H b = none
  bsz : base.objs.size ≤ s.heap.objs.size
  funs : s.heap.FunFrames base outer
  frf : ∀ b ∈ frs outer, H b = none
  hok : HOk P w H s.heap
  bare : AllBare s.gens
noncomputable def CE (outer : List Env) (P : Program) (w : World) (H : Hp) (s : Shared) (Q : VK) (u : Value) (s' : Shared) : Prop :=
  ∃ v H', s'.os = s.os ∧ AllBare s'.gens ∧ Un (frs outer) [] H H' s.heap s'.heap ∧ HOk P w H' s'.heap ∧ RelV v u ∧ Q v H'
noncomputable def CR (CX : CXT) (outer : List Env) (P : Program) (w : World) (H : Hp) (s : Shared) (Q : VK) (E : XK) (r : Result) (s' : Shared) : Prop :=
  match r with
  | .ok (.ret u) => CE outer P w H s Q u s'
  | .ok _ => False
  | .error e => CX outer H s E e s'
structure FnOk (P : Program) (w : World) (K : PySem.W.Frag) (mg : Str → Option Value) (base : Heap) (CX : CXT) (k : Nat) (f : Addr) (fd : FuncData) (ps : List Str) (sp : Sp) : Prop where
  len : ∀ vs H Q E, sp vs H Q E → vs.length = ps.length
  run : ∀ (A : Around) (outer : List Env) (s : Shared) (H : Hp) (args : Args) (us : List Value) (vs : List V) (Q : VK) (E : XK), Room k A → Env0 P w K mg base A outer s H → BindsTo s fd args (ps.zip us) → Vals vs us → sp vs H Q E →
    codeAny (model P w) A (.call (.ref f) args) (CR CX outer P w H s Q E) s
theorem FnOk.mono {P : Program} {w : World} {K : PySem.W.Frag} {mg : Str → Option Value} {base : Heap} {CX : CXT} {j k : Nat} {f : Addr} {fd : FuncData} {ps : List Str} {sp : Sp} (F : FnOk P w K mg base CX j f fd ps sp) (h : j ≤ k) :
    FnOk P w K mg base CX k f fd ps sp := ⟨F.len, fun A outer s H args us vs Q E hr => F.run A outer s H args us vs Q E (hr.mono h)⟩
theorem FnOk.imp {P : Program} {w : World} {K : PySem.W.Frag} {mg : Str → Option Value} {base : Heap} {CX : CXT} {k : Nat} {f : Addr} {fd : FuncData} {ps : List Str} {sp sp' : Sp} (F : FnOk P w K mg base CX k f fd ps sp)
    (h : ∀ vs H Q E, sp' vs H Q E → sp vs H Q E) : FnOk P w K mg base CX k f fd ps sp' :=
  ⟨fun vs H Q E q => F.len vs H Q E (h _ _ _ _ q), fun A outer s H args us vs Q E hr he hb hv hs => F.run A outer s H args us vs Q E hr he hb hv (h _ _ _ _ hs)⟩
theorem Env0.in1 {P : Program} {w : World} {K : PySem.W.Frag} {mg : Str → Option Value} {base : Heap} {A : Around} {outer : List Env} {s : Shared} {H : Hp} (e : Env0 P w K mg base A outer s H) :
    Env0 P w K mg base A.in1 outer s H := ⟨e.frames, e.mod, e.bs, e.bsz, e.funs, e.frf, e.hok, e.bare⟩
section
variable {X : Cx} {pins : List (Addr × Obj)} {σ : St} {H : Hp} {s s' : Shared}
theorem Inv.env0 (I : Inv X pins σ H s) : Env0 X.prog X.w X.K X.mg X.base X.A X.stack s H :=
  ⟨I.ok.frames, I.ok.mod, I.bs, Nat.le_trans I.ok.bsz I.sz, I.stack, I.stkFree, I.hok, I.bare⟩
theorem Inv.after {Q : VK} {u : Value} (I : Inv X pins σ H s) (h : CE X.stack X.prog X.w H s Q u s') : EP X pins σ Q u s' := by
  obtain ⟨v, H', os, bare, un, hok, r, q⟩ := h
  obtain ⟨hh, g, d, t, os'⟩ := s'
  obtain rfl : os' = s.os := os
  exact ⟨v, H', I.call (h' := hh) (g' := g) (d' := d) (t' := t) (ch := []) un hok bare (fun b z => absurd z (by simp)), r, q⟩
end
noncomputable def tCall (sp : Sp) (dvs : List V) (E : XK) (t : TA) : TE := fun σ H Q => t σ H fun vs H1 => sp (vs ++ dvs) H1 Q E
noncomputable def Binds (K : PySem.W.Frag) (fd : FuncData) (ps : List Str) (ds : List Value) : Prop :=
  ∀ (s : Shared) (us : List Value), K.In s.heap → (us ++ ds).length = ps.length → BindsTo s fd ⟨us, []⟩ (ps.zip (us ++ ds))
theorem Binds.all {K : PySem.W.Frag} {fd : FuncData} {ps : List Str} (h : ∀ us : List Value, us.length = ps.length → bindArgs fd ⟨us, []⟩ = pure (ps.zip us)) : Binds K fd ps [] := fun s us _ hl => by
  rw [List.append_nil] at hl ⊢
  exact .of_eq (h us hl)
noncomputable def Passes (CX : CXT) (X : Cx) (E : XK) : Prop := ∀ (pins : List (Addr × Obj)) (σ : St) (H : Hp) (s : Shared) (e : Value) (s' : Shared), Inv X pins σ H s → CX X.stack H s E e s' → X.xe e s'
section
variable {X : Cx} {CX : CXT} {k : Nat} {f C : Addr} {fd : FuncData} {ps : List Str} {sp : Sp} {dvs : List V} {ds : List Value} {E : XK} {x m : Str} {p pos apos : Pos} {e o : Expr} {es : List Expr} {ta : TE} {t : TA}
theorem run_fn {pins : List (Addr × Obj)} {σ : St} {H : Hp} {s : Shared} {Q : VK} {us : List Value} {vs : List V} (F : FnOk X.prog X.w X.K X.mg X.base CX k f fd ps sp) (hr : Room k X.A) (hb : Binds X.K fd ps ds) (hd : Vals dvs ds) (hx : Passes CX X E)
    (I : Inv X pins σ H s) (r : Vals vs us) (h : sp (vs ++ dvs) H Q E) : wpAny (model X.prog X.w) X.A (call (.ref f) us) (EP X pins σ Q) X.xe s := by
  have r2 : Vals (vs ++ dvs) (us ++ ds) := r.append hd
  have hl : (us ++ ds).length = ps.length := by rw [← r2.length]; exact F.len _ _ _ _ h
  refine wpAny_call (codeAny_mono (F.run X.A X.stack s H ⟨us, []⟩ (us ++ ds) (vs ++ dvs) Q E hr I.env0 (hb s us I.kIn hl) r2 h) fun r s' hq => ?_)
  cases r with
  | error e => exact hx pins σ H s e s' I hq
  | ok fl =>
    cases fl with
    | ret u => exact I.after hq
    | next => exact False.elim hq
    | brk => exact False.elim hq
    | cont => exact False.elim hq
theorem pe_call (F : FnOk X.prog X.w X.K X.mg X.base CX k f fd ps sp) (hr : Room k X.A) (hg : Gl X x) (hm : X.mg x = some (.ref f)) (hk : PySem.W.keepIn X.K (.ref f) = true) (hb : Binds X.K fd ps ds) (hd : Vals dvs ds) (hx : Passes CX X E)
    (ha : PA X (e :: es) t) (hdb : (x == ("__debug__" : Str)) = false := by decide) (he : starEach (e :: es) X.env = (false, eval e X.env) :: starEach es X.env := by rfl) (hpl : (backTo pos (starEach es X.env)).any (·.1) = false := by rfl) :
    PE X (.Call (.Name x p) (e :: es) [] pos) (tCall sp dvs E t) := by
  intro pins s σ H Q I h
  refine wpAny_Call_Name_kw (ld_glob I hg hm ?_ hdb)
  refine PySem.W.callWith_K (h₀ := X.base) I.ok.mod.kin hk (thn (ha pos pins s σ H _ I h) fun us s1 ⟨vs, H1, I1, r, q⟩ => ⟨I1.kIn, ?_⟩) he hpl
  exact run_fn F hr hb hd hx I1 r q
structure Mk (K : PySem.W.Frag) (C f : Addr) : Prop where
  makes : PySem.W.makesIn K C = true
  init : PySem.W.findIn K (.ref C) "__init__" = some (some (.ref f))
  fn : PySem.W.isFn K (.ref f) = true
  kp : PySem.W.keepIn K (.ref C) = true
end
noncomputable def PK (X : Cx) (kws : List Keyword) (t : TA) : Prop :=
  ∀ (pos : Pos) (pins : List (Addr × Obj)) (s : Shared) (σ : St) (H : Hp) (Q : List V → Hp → Prop), Inv X pins σ H s → t σ H Q → wpAny (model X.prog X.w) X.A (evalAll ((backToKw pos (keywordEach kws X.env)).map (·.2))) (AP X pins σ Q) X.xe s
section
variable {X : Cx} {CX : CXT} {k : Nat} {f C : Addr} {fd : FuncData} {ps ks : List Str} {sp : Sp} {E : XK} {x m : Str} {p pos apos kpos : Pos} {e o : Expr} {es : List Expr} {kws : List Keyword} {te ta : TE} {t tk : TA} {nm : Option Str}
structure KBinds (K : PySem.W.Frag) (fd : FuncData) (ps ks : List Str) (g : List Value → List Value → List Value) (gV : List V → List V → List V) : Prop where
  to : ∀ (s : Shared) (us ws : List Value), K.In s.heap → (g us ws).length = ps.length → BindsTo s fd ⟨us, ks.zip ws⟩ (ps.zip (g us ws))
  rel : ∀ {vs : List V} {us : List Value} {zs : List V} {ws : List Value}, Vals vs us → Vals zs ws → Vals (gV vs zs) (g us ws)
variable {g : List Value → List Value → List Value} {gV : List V → List V → List V}
end
structure FnScope (N P : List Str) (sc : Scope) : Prop where
  kind : sc.kind = .function
  co : sc.isCoroutine = false
  gen : sc.isGenerator = false
  nd : N.Nodup
  pre : N.take P.length = P
  par : ∀ x ∈ P, sc.names.lookup x = some .local ∨ sc.names.lookup x = some .cell
  nofree : ∀ y ∈ sc.names, y.2 ≠ .free
theorem bindL_out {kindOf : Str → Option NameKind} {x : Str} : ∀ {binds : List (Str × Value)} {m : Str → Option Value}, (∀ v, (x, v) ∉ binds) → bindL kindOf binds m x = m x
  | [], _, _ => rfl
  | (n, v) :: r, m, h => by
    unfold bindL
    rw [bindL_out fun w hw => h w (List.mem_cons_of_mem _ hw)]
    split
    · have : x ≠ n := by rintro rfl; exact h v List.mem_cons_self
      simp [this]
    · rfl
theorem bindC_out {kindOf : Str → Option NameKind} {x : Str} : ∀ {binds : List (Str × Value)} {m : Str → Option Value}, (∀ v, (x, v) ∉ binds) → bindC kindOf binds m x = m x
  | [], _, _ => rfl
  | (n, v) :: r, m, h => by
    unfold bindC
    rw [bindC_out fun w hw => h w (List.mem_cons_of_mem _ hw)]
    split
    · rfl
    · have : x ≠ n := by rintro rfl; exact h v List.mem_cons_self
      simp [this]
theorem bindL_get {kindOf : Str → Option NameKind} {x : Str} {v : Value} : ∀ {P : List Str} {vs : List Value} {i : Nat} {m : Str → Option Value}, P.Nodup → P[i]? = some x → vs[i]? = some v → kindOf x = some .local →
    bindL kindOf (P.zip vs) m x = some v
  | [], _, _, _, _, h, _, _ => by simp at h
  | _ :: _, [], _, _, _, _, h, _ => by simp at h
  | p :: P, w :: vs, 0, m, nd, h1, h2, hk => by
    simp at h1 h2; subst h1; subst h2
    show bindL kindOf ((p, w) :: P.zip vs) m p = _
    unfold bindL
    rw [bindL_out fun v hv => (List.nodup_cons.mp nd).1 (List.of_mem_zip hv).1, if_pos hk]
    simp
  | p :: P, w :: vs, i + 1, m, nd, h1, h2, hk => by
    show bindL kindOf ((p, w) :: P.zip vs) m x = _
    unfold bindL
    exact bindL_get (i := i) (List.nodup_cons.mp nd).2 (by simpa using h1) (by simpa using h2) hk
theorem bindC_get {kindOf : Str → Option NameKind} {x : Str} {v : Value} : ∀ {P : List Str} {vs : List Value} {i : Nat} {m : Str → Option Value}, P.Nodup → P[i]? = some x → vs[i]? = some v → kindOf x ≠ some .local →
    bindC kindOf (P.zip vs) m x = some v
  | [], _, _, _, _, h, _, _ => by simp at h
  | _ :: _, [], _, _, _, _, h, _ => by simp at h
  | p :: P, w :: vs, 0, m, nd, h1, h2, hk => by
    simp at h1 h2; subst h1; subst h2
    show bindC kindOf ((p, w) :: P.zip vs) m p = _
    unfold bindC
    rw [bindC_out fun v hv => (List.nodup_cons.mp nd).1 (List.of_mem_zip hv).1, if_neg hk]
    simp
  | p :: P, w :: vs, i + 1, m, nd, h1, h2, hk => by
    show bindC kindOf ((p, w) :: P.zip vs) m x = _
    unfold bindC
    exact bindC_get (i := i) (List.nodup_cons.mp nd).2 (by simpa using h1) (by simpa using h2) hk
noncomputable def start (N : List Str) (vs : List V) : St := vs.map some ++ List.replicate (N.length - vs.length) none
noncomputable def cxOf (CX : CXT) (P : Program) (w : World) (K : PySem.W.Frag) (mg : Str → Option Value) (base : Heap) (N : List Str) (qual : Str) (scope : Scope) (f : Addr) (cd : Value) (A : Around) (outer : List Env) (s : Shared) (H : Hp) (E : XK) : Cx where
  prog := P
  w := w
  K := K
  mg := mg
  base := base
  A := A.deeper (envOfC qual scope s.heap.objs.size f cd)
  N := N
  s₀ := s
  H₀ := H
  env := envOfC qual scope s.heap.objs.size f cd
  outer := outer
  stack := envOfC qual scope s.heap.objs.size f cd :: outer
  ex := []
  calm := true
  fn := fun _ => true
  pn := []
  xe := fun e s' => wpAny (model P w) (A.deeper (envOfC qual scope s.heap.objs.size f cd)) (leaving (envOfC qual scope s.heap.objs.size f cd) e) (fun _ s'' => CX outer H s E e s'') (fun e' s'' => CX outer H s E e' s'') s'
theorem cell_has {sc : Scope} {n : Nat} {x : Str} (h : sc.names.lookup x = some .cell) : ∃ c, (cellsFrom n sc.names []).lookup x = some c := by
  have q := PySem.W.cellsFrom_some sc.names n [] (.inl h)
  exact Option.isSome_iff_exists.mp q
theorem inv_start {CX : CXT} {P : Program} {w : World} {K : PySem.W.Frag} {mg : Str → Option Value} {base : Heap} {N ps : List Str} {qual : Str} {scope : Scope} {f : Addr} {cd : Value} {A : Around} {outer : List Env} {s s1 : Shared} {H : Hp} {E : XK} {us : List Value} {vs : List V}
    (S : FnScope N ps scope) (hd : A.handled = none) (e0 : Env0 P w K mg base A outer s H) (hl : vs.length = ps.length) (r : Vals vs us)
    (x : InCallC s s.heap.objs.size (bindL (envOfC qual scope s.heap.objs.size f cd).kindOf (ps.zip us) fun _ => none) (cellsFrom (s.heap.objs.size + 1) scope.names []) (bindC (envOfC qual scope s.heap.objs.size f cd).kindOf (ps.zip us) fun _ => none) s1) :
    Inv (cxOf CX P w K mg base N qual scope f cd A outer s H E) [] (start N vs) H s1 := by
  have hpl : ps.length ≤ N.length := by have := congrArg List.length S.pre; rw [List.length_take] at this; omega
  obtain ⟨h1, tk, rfl, hk⟩ := x.done
  have noA : ∀ b : Addr, b ∉ (cxOf CX P w K mg base N qual scope f cd A outer s H E).ex := fun b z => absurd (show b ∈ ([] : List Addr) from z) (by simp)
  refine ⟨⟨e0.mod, S.kind, rfl, rfl, Nat.le_refl _, fun y z c h1 h2 => ?_, fun y hy => ?_, fun y c _ h => ?_, fun _ => hd, Around.frames_deeper e0.frames, .inr ⟨rfl, rfl⟩, fun b z => absurd z (noA b), e0.bs, e0.bsz, fun b _ _ => noA b, fun b z => absurd z (noA b), e0.funs, e0.frf⟩,
    rfl, e0.bare, Un.kept hk, ⟨_, x.toInCall.ns, fun i y v h1 h2 h3 => ?_⟩, fun y c h => ⟨_, x.cell y c h⟩, e0.hok.fresh (Nat.le_refl _), fun y c h => ?_, fun p hp => absurd (show p ∈ ([] : List (Addr × Obj)) from hp) (by simp), e0.hok.kept hk, ?_⟩
  · exact name_of_addr x.apart (PySem.mem_of_lookup h1) (PySem.mem_of_lookup h2)
  · have hy : scope.names.lookup y = some .cell ∨ scope.names.lookup y = some .free := hy
    rcases hy with hy | hy
    · exact cell_has hy
    · exact absurd rfl (S.nofree _ (PySem.mem_of_lookup hy))
  · exact Nat.le_of_lt (x.above y c (PySem.mem_of_lookup h))
  · have hi : i < vs.length := by
      unfold start at h2
      by_cases hi : i < vs.length
      · exact hi
      · rw [List.getElem?_append_right (by simpa using hi)] at h2
        rw [List.getElem?_replicate] at h2
        split at h2 <;> cases h2
    have ha : vs[i]? = some v := by
      unfold start at h2
      rw [List.getElem?_append_left (by simpa using hi), List.getElem?_map] at h2
      cases e : vs[i]? with
      | none => rw [e] at h2; cases h2
      | some a => rw [e] at h2; cases h2; rfl
    obtain ⟨u, hu, rv⟩ := r.get ha
    have hp : ps[i]? = some y := by
      rw [← S.pre, List.getElem?_take_of_lt (by omega)]; exact h1
    have ndP : ps.Nodup := by rw [← S.pre]; exact S.nd.sublist (List.take_sublist _ _)
    refine ⟨u, rv, ?_⟩
    rcases S.par y (List.mem_of_getElem? hp) with k | k
    · exact .inl ⟨k, bindL_get ndP hp hu k⟩
    · obtain ⟨c, e⟩ := cell_has (n := s.heap.objs.size + 1) k
      refine .inr ⟨.inl k, c, e, ?_⟩
      have q := x.cell y c e
      rw [bindC_get ndP hp hu (by show scope.names.lookup y ≠ _; rw [k]; decide)] at q
      exact q
  · exact e0.hok.fresh (Nat.le_of_lt (x.above y c (PySem.mem_of_lookup h)))
  · unfold start
    show _ = N.length
    rw [List.length_append, List.length_map, List.length_replicate]
    omega
theorem fn_of {CX : CXT} {P : Program} {w : World} {K : PySem.W.Frag} {mg : Str → Option Value} {base : Heap} {k : Nat} {f : Addr} {name qual : Str} {params : Arguments} {body : List Stmt} {scope : Scope} {dV kV doc pm cdv ct oc : Value} {an od : Option Addr}
    {osl : Array (Option Value)} {N ps : List Str} {sp : Sp} (lk : K.lookup f = some ⟨oc, od, .func (PySem.W.fnOf name qual params body scope dV kV doc pm an cdv ct), osl⟩) (hcd : PySem.W.codeIn K cdv qual = true) (S : FnScope N ps scope)
    (len : ∀ vs H Q E, sp vs H Q E → vs.length = ps.length)
    (hbody : ∀ (A : Around) (outer : List Env) (s : Shared) (H : Hp) (vs : List V) (Q : VK) (E : XK), Room k (A.deeper (envOfC qual scope s.heap.objs.size f cdv)) → sp vs H Q E →
      ∃ t, PSs (cxOf CX P w K mg base N qual scope f cdv A outer s H E) body t ∧ t { nx := fun _ H' => Q .non H', rt := Q } (start N vs) H) :
    FnOk P w K mg base CX (k + 1) f (PySem.W.fnOf name qual params body scope dV kV doc pm an cdv ct) ps sp := by
  refine ⟨len, fun A outer s H args us vs Q E hr e0 hb r hsp => ?_⟩
  have hl := len _ _ _ _ hsp
  have KX : K.In s.heap := e0.mod.kin.keeps fun b o e => (e0.bs b o e).1
  have lim : s.heap.NoLimit := e0.mod.nolimit.keeps fun b o e => (e0.bs b o e).1
  have hkind : ∀ y ∈ ps.zip us, scope.names.lookup y.1 = some .local ∨ (scope.names.lookup y.1 = some .cell ∧ ((cellsFrom (s.heap.objs.size + 1) scope.names []).lookup y.1).isSome = true) := fun ⟨n, v⟩ hy => by
    rcases S.par n (List.of_mem_zip hy).1 with q | q
    · exact .inl q
    · exact .inr ⟨q, PySem.W.cellsFrom_some _ _ _ (.inl q)⟩
  refine codeAny_call_function hr.depth (KX _ _ lk) rfl S.co S.gen rfl (PySem.W.codeRec_of KX hcd) (hb _ _ _ _ ?_)
  refine wpAny_newFunctionEnv_cells S.kind hkind fun env he s1 x => ?_
  subst he
  refine ⟨lim.keeps x.toInCall.keep, codeAny_func ?_⟩
  obtain ⟨t, ht, hq⟩ := hbody A outer s H vs Q E (hr.deeper _) hsp
  have I : Inv (cxOf CX P w K mg base N qual scope f cdv A outer s H E) [] (start N vs) H s1 := inv_start S hr.hd e0 hl r x
  refine wpAny_mono (ht [] s1 (start N vs) H _ I hq) (fun fl s' hs => ?_) fun e s' hs => hs
  have fin : ∀ {σ' : St} {H' : Hp} {v : V} {u : Value}, Inv (cxOf CX P w K mg base N qual scope f cdv A outer s H E) [] σ' H' s' → RelV v u → Q v H' → CE outer P w H s Q u s' :=
    fun {σ' H' v u} J rv q => ⟨v, H', J.os, J.bare, J.base, J.hok, rv, q⟩
  cases fl with
  | ret u =>
    obtain ⟨v, σ', H', J, rv, q⟩ := hs
    exact fin J rv q
  | next =>
    obtain ⟨σ', H', J, q⟩ := hs
    exact fin (v := V.non) (u := Value.none) J rfl q
  | brk =>
    obtain ⟨_, _, _, q⟩ := hs
    exact False.elim q
  | cont =>
    obtain ⟨_, _, _, q⟩ := hs
    exact False.elim q
end L2
namespace L2
open PySem PySem.Spec PyProof.Rows
section
variable {X : Cx} {x : Str} {p pos : Pos} {e : Expr} {es : List Expr} {t : TA} {id T : String} {r : List V → Hp → VK → Prop}
noncomputable def tCB (r : List V → Hp → VK → Prop) (t : TA) : TE := fun σ H Q => t σ H fun vs H1 => r vs H1 Q
theorem pe_callB (hc : CallR X (.builtin id) r) (hg : Gl X x) (hm : X.mg x = none) (hv : bootBuiltins x = some (.builtin id)) (ha : PA X (e :: es) t) (hn : x ≠ "__name__" := by decide) (hdb : (x == ("__debug__" : Str)) = false := by decide)
    (he : starEach (e :: es) X.env = (false, eval e X.env) :: starEach es X.env := by rfl) (hpl : (backTo pos (starEach es X.env)).any (·.1) = false := by rfl) : PE X (.Call (.Name x p) (e :: es) [] pos) (tCB r t) := by
  intro pins s σ H Q I h
  refine wpAny_Call_Name_kw (ld_blt I hg hm hv ?_ hn hdb)
  exact PyProof.Rows.callWith_builtin1 (thn (ha pos pins s σ H _ I h) fun us s1 ⟨vs, H1, I1, r1, q1⟩ => hc pins s1 σ H1 vs us Q I1 r1 q1) he hpl
theorem pe_callTy (hc : CallR X (.type T) r) (hg : Gl X x) (hm : X.mg x = none) (hv : bootBuiltins x = some (.type T)) (ha : PA X (e :: es) t) (hn : x ≠ "__name__" := by decide) (hdb : (x == ("__debug__" : Str)) = false := by decide)
    (he : starEach (e :: es) X.env = (false, eval e X.env) :: starEach es X.env := by rfl) (hpl : (backTo pos (starEach es X.env)).any (·.1) = false := by rfl) : PE X (.Call (.Name x p) (e :: es) [] pos) (tCB r t) := by
  intro pins s σ H Q I h
  refine wpAny_Call_Name_kw (ld_blt I hg hm hv ?_ hn hdb)
  exact PyProof.Rows.callWith_type1 (thn (ha pos pins s σ H _ I h) fun us s1 ⟨vs, H1, I1, r1, q1⟩ => hc pins s1 σ H1 vs us Q I1 r1 q1) he hpl
end
end L2
namespace HT
open PySem PyProof.Rows
noncomputable def lexLt : List Int → List Int → Bool
  | [], [] => false
  | [], _ :: _ => true
  | _ :: _, [] => false
  | x :: xs, y :: ys => if x = y then lexLt xs ys else decide (x < y)
theorem lexLt_cons (x y : Int) (xs ys : List Int) : lexLt (x :: xs) (y :: ys) = if x = y then lexLt xs ys else decide (x < y) := rfl
theorem lexLt_nil_nil : lexLt [] [] = false := rfl
theorem lexLt_nil_cons (y : Int) (ys : List Int) : lexLt [] (y :: ys) = true := rfl
theorem lexLt_cons_nil (x : Int) (xs : List Int) : lexLt (x :: xs) [] = false := rfl
theorem eqAt_int (A : Around) (s : Shared) (a : Int) (t : Tok) (c : Int) (u : Tok) : ∃ e, SeqAt.EqAt A s (.int a t) (.int c u) e ∧ (e = true ↔ a = c) :=
  ⟨(a == c), SeqAt.EqAt.int_int a t c u, by simp⟩
theorem rcLt_int (A : Around) (s : Shared) (a : Int) (t : Tok) (c : Int) (u : Tok) (prog : Program) (w : World) (E : Value → Shared → Prop) (Q : Value → Shared → Prop) (h : Q (.bool (decide (a < c))) s) :
    wpAny (model prog w) A (richCompare .Lt (.int a t) (.int c u)) Q E s :=
  (PyProof.Rows.lt_int h : wpAny (model prog w) A (compareOp .Lt (.int a t) (.int c u)) Q E s)
section
open PySem.SeqAt
open PySem.AutoSeq1 (wpAny_loadPart')
open PySem.MeetsSeq PySem.MeetsSeq2 PySem.MeetsSeq3
theorem tuple_lt_ints (l b : Addr) (items items2 : Array Value) (n n2 : Nat) (dd dd2 : Option Addr) (sl sl2 : Array (Option Value)) (ns ms : List Int) (hi : IntsAre items.toList ns) (hj : IntsAre items2.toList ms) :
    Meets (Builtin.«tuple.__lt__» ⟨[.ref l, .ref b], []⟩)
      (fun _ R s => s.heap.get? l = some { cls := .type "tuple", dict := dd, data := .seq items n, slots := sl } ∧ s.heap.get? b = some { cls := .type "tuple", dict := dd2, data := .seq items2 n2, slots := sl2 } ∧
        R (.ok (.ret (.bool (lexLt ns ms)))) s) :=
  .of_wp fun prog w A R s h => by
    obtain ⟨hp, g, d, tk, os⟩ := s; obtain ⟨hl, hb, h⟩ := h
    have f2 := AutoSeq1.sub_tuple_tuple
    have z1 : items.size = ns.length := by rw [← hi.length]; simp
    have z2 : items2.size = ms.length := by rw [← hj.length]; simp
    wp_walk using wpAny_loadPart' hl, wpAny_loadPart' hb, wpAny_forIn_list _ (fun rest b s' => b.1 = none ∧ s' = ⟨hp, g, d, tk, os⟩ ∧ ∃ (vs ws : List Value) (ns' ms' : List Int), rest = vs.zip ws ∧
      IntsAre vs ns' ∧ IntsAre ws ms' ∧ ns'.length + items2.size = ms'.length + items.size ∧ R (.ok (.ret (.bool (lexLt ns' ms')))) ⟨hp, g, d, tk, os⟩) _
    case turn =>
      rintro ⟨y, x⟩ rest b s' ⟨hb', rfl, vs, ws, ns', ms', hz, hvi, hwi, hlen, hR⟩
      cases hvi with
      | nil => rw [List.zip_nil_left] at hz; cases hz
      | cons a t hvi' =>
        cases hwi with
        | nil => rw [List.zip_nil_right] at hz; cases hz
        | cons c u hwi' =>
          rw [List.zip_cons_cons] at hz
          injection hz with hyx hrest
          injection hyx with hy hx
          subst hy hx
          rw [lexLt_cons] at hR
          simp only [List.length_cons] at hlen
          obtain ⟨e, he, hiff⟩ := eqAt_int A.in1 ⟨hp, g, d, tk, os⟩ a t c u
          refine wpAny_bind (he prog w _ _ ?_)
          cases e with
          | true =>
            rw [if_pos (hiff.mp rfl)] at hR
            wp_walk
            exact ⟨rfl, rfl, _, _, _, _, hrest, hvi', hwi', by omega, hR⟩
          | false =>
            rw [if_neg (fun q => absurd (hiff.mpr q) Bool.false_ne_true)] at hR
            have hri := rcLt_int A.in1 ⟨hp, g, d, tk, os⟩ a t c u prog w
            wp_walk using hri
            exact ⟨_, rfl, by simpa using hR⟩
    case fin =>
      rintro ⟨b1, b2⟩ s' ⟨hb', rfl, vs, ws, ns', ms', hz, hvi, hwi, hlen, hR⟩
      simp only at hb'
      subst hb'
      have hv : lexLt ns' ms' = decide (items.size < items2.size) := by
        cases hvi with
        | nil =>
          cases hwi with
          | nil =>
            simp only [List.length_nil] at hlen
            rw [lexLt_nil_nil]
            exact (decide_eq_false (by omega)).symm
          | cons c u hw =>
            simp only [List.length_nil, List.length_cons] at hlen
            rw [lexLt_nil_cons]
            exact (decide_eq_true (by omega)).symm
        | cons a t hv =>
          cases hwi with
          | nil =>
            simp only [List.length_nil, List.length_cons] at hlen
            rw [lexLt_cons_nil]
            exact (decide_eq_false (by omega)).symm
          | cons c u hw =>
            rw [List.zip_cons_cons] at hz
            cases hz
      rw [hv] at hR
      wp_walk
      exact ⟨_, rfl, by simpa [Builtin.Tuple.tupleCompareSizes] using hR⟩
    case h =>
      exact ⟨rfl, rfl, items.toList, items2.toList, ns, ms, rfl, hi, hj, by omega, h⟩
end
section
variable {prog : Program} {w : World} {A : Around} {E : Value → Shared → Prop} {s : Shared}
theorem lt_tupInts {l b : Addr} {items items2 : Array Value} {ns ms : List Int} {Q : Value → Shared → Prop} (hl : IsTup s.heap l items) (hb : IsTup s.heap b items2) (hi : IntsAre items.toList ns) (hj : IntsAre items2.toList ms)
    (hu : A.units < cLine) (h : Q (.bool (lexLt ns ms)) s) : wpAny (model prog w) A (compareOp .Lt (.ref l) (.ref b)) Q E s := by
  obtain ⟨⟨cls, dd, data, sl⟩, ho, hc, n, hd⟩ := id hl
  obtain ⟨⟨cls2, dd2, data2, sl2⟩, ho2, hc2, n2, hd2⟩ := id hb
  simp only at hc hd hc2 hd2
  subst hc hd hc2 hd2
  exact richCompare_meets_room (op := .Lt) ⟨_, ho, rfl⟩ ⟨_, ho2, rfl⟩ PySem.F.slot_tuple_lt PySem.F.entry_tuple_lt (PySem.F.args_tuple_lt_2 _ _) (tuple_lt_ints l b items items2 n n2 dd dd2 sl sl2 ns ms hi hj)
    ⟨ho, ho2, show Value.bool (lexLt ns ms) ≠ Value.notImplemented ∧ Q (.bool (lexLt ns ms)) s from ⟨(fun x => nomatch x), h⟩⟩ hu
theorem cat_tup {t b : Addr} {vs ws : List Value} {Q : Value → Shared → Prop} (ht : IsTup s.heap t vs.toArray) (hb : IsTup s.heap b ws.toArray) (hv : vs ≠ [])
    (h1 : ws = [] → Q (.ref t) s) (h2 : ws ≠ [] → Q (.ref s.heap.objs.size) { s with heap := s.heap.push { cls := .type "tuple", data := .seq (vs ++ ws).toArray } })
    (hsz : vs.length + ws.length ≤ sizeLine) : wpAny (model prog w) A (binaryOp .Add (.ref t) (.ref b)) Q E s := by
  obtain ⟨⟨cls, dd, data, sl⟩, ho, hc, n, hd⟩ := id ht
  obtain ⟨⟨cls2, dd2, data2, sl2⟩, ho2, hc2, n2, hd2⟩ := id hb
  simp only at hc hd hc2 hd2
  subst hc hd hc2 hd2
  have e : vs.toArray ++ ws.toArray = (vs ++ ws).toArray := by simp
  by_cases hw : ws = []
  · exact concat_meets ⟨_, ho, rfl⟩ ⟨_, ho2, rfl⟩ noFill_tuple_add seq_tuple_add PySem.F.slot_tuple_add PySem.F.entry_tuple_add (PySem.F.args_tuple_add_2 _ _)
      (tuple_addW1 t b vs.toArray ws.toArray n n2 dd dd2 sl sl2 (by simpa using hv) (by simp [hw])) ⟨ho, ho2, h1 hw⟩
  · refine concat_meets ⟨_, ho, rfl⟩ ⟨_, ho2, rfl⟩ noFill_tuple_add seq_tuple_add PySem.F.slot_tuple_add PySem.F.entry_tuple_add (PySem.F.args_tuple_add_2 _ _)
      (tuple_addW2 t b vs.toArray ws.toArray n n2 dd dd2 sl sl2 (by simpa using hv) (by simpa using hw) (by rw [List.size_toArray, List.size_toArray]; exact hsz)) ⟨ho, ho2, ?_⟩
    rw [e]
    exact h2 hw
noncomputable def sIx (n d : Nat) : Option Int → Nat
  | none => d
  | some v => if v < 0 then (v + (n : Int)).toNat else min v.toNat n
theorem sIx_le (n d : Nat) (hd : d ≤ n) (o : Option Int) : sIx n d o ≤ n := by
  cases o with
  | none => exact hd
  | some v =>
    show (if v < 0 then (v + (n : Int)).toNat else min v.toNat n) ≤ n
    by_cases hv : v < 0
    · rw [if_pos hv]; omega
    · rw [if_neg hv]; exact Nat.min_le_right _ _
theorem clip_eq (v : Int) (n d : Nat) : (if v < 0 then max (v + (n : Int)) 0 else min v (n : Int)) = ((sIx n d (some v) : Nat) : Int) := by
  show (if v < 0 then max (v + (n : Int)) 0 else min v (n : Int)) = (((if v < 0 then (v + (n : Int)).toNat else min v.toNat n) : Nat) : Int)
  by_cases hv : v < 0
  · simp only [if_pos hv]; omega
  · simp only [if_neg hv]; omega
theorem adjust_gen (lo hi : Option Int) (n : Nat) : Builtin.Slice.sliceAdjust lo hi 1 (n : Int) = (((sIx n 0 lo : Nat) : Int), ((sIx n n hi : Nat) : Int)) := by
  have h1 : ¬ ((1 : Int) < 0) := by omega
  unfold Builtin.Slice.sliceAdjust
  simp only [h1, if_false]
  refine Prod.ext ?_ ?_
  · cases lo with
    | none => rfl
    | some v => exact clip_eq v n 0
  · cases hi with
    | none => rfl
    | some v => exact clip_eq v n n
theorem places_gen (i j : Nat) : Builtin.Slice.slicePlaces (i : Int) (j : Int) 1 = j - i := by
  unfold Builtin.Slice.slicePlaces
  have h1 : (1 : Int) > 0 := by omega
  simp only [h1, if_true, Int.ediv_one]
  split <;> omega
theorem slicePart_ {v : Value} {o : Option Int} {Q : Option Int → Shared → Prop} (p : IsPart v o) (h : Q o s) : wpAny (model prog w) A (Builtin.Slice.slicePartIndex v) Q E s := by
  cases p with
  | none => exact slicePart_none h
  | int i t => exact slicePart_int h
theorem sliceApplied_gen {sl : Addr} {vl vu : Value} {lo hi : Option Int} {n : Nat} {Q : Int × Int × Nat → Shared → Prop} (hs : s.heap.IsSliceOf sl vl vu .none) (pl : IsPart vl lo) (pu : IsPart vu hi)
    (h : Q (((sIx n 0 lo : Nat) : Int), 1, sIx n n hi - sIx n 0 lo) s) : wpAny (model prog w) A (Builtin.Slice.sliceApplied (.ref sl) (pure (n : Int))) Q E s := by
  obtain ⟨os, hos, hcs, hds⟩ := id hs
  unfold Builtin.Slice.sliceApplied Builtin.Slice.sliceFields
  refine wpAny_bind (wpAny_bind (wpAny_field hos hds (x := vl) rfl (wpAny_bind (wpAny_field hos hds (x := vu) rfl (wpAny_bind (wpAny_field hos hds (x := .none) rfl (wpAny_pure ?_)))))))
  refine wpAny_bind (slicePart_none ?_)
  show wpAny _ _ (if ((1 : Int) == 0) = true then _ else _) _ _ s
  rw [if_neg (by decide)]
  refine wpAny_bind (slicePart_ pl (wpAny_bind (slicePart_ pu (wpAny_bind (wpAny_pure ?_)))))
  show wpAny _ _ (match Builtin.Slice.sliceAdjust lo hi 1 (n : Int) with | (lo, hi) => pure (lo, (1 : Int), Builtin.Slice.slicePlaces lo hi 1)) _ _ s
  rw [adjust_gen lo hi n]
  show wpAny _ _ (pure (((sIx n 0 lo : Nat) : Int), (1 : Int), Builtin.Slice.slicePlaces ((sIx n 0 lo : Nat) : Int) ((sIx n n hi : Nat) : Int) 1)) _ _ s
  rw [places_gen]
  exact wpAny_pure h
theorem pick_gen (xs : Array Value) (i k : Nat) : ((List.range k).filterMap fun (m : Nat) => xs[((i : Int) + (m : Int) * 1).toNat]?).toArray = ((xs.toList.drop i).take k).toArray := by
  have e : (fun (m : Nat) => xs[((i : Int) + (m : Int) * 1).toNat]?) = fun m => xs[i + m]? := by
    funext m
    have : ((i : Int) + (m : Int) * 1).toNat = i + m := by omega
    rw [this]
  rw [e]
  have := pick_run xs i k
  rw [List.filterMap_map] at this
  have e2 : ((fun x => xs[x]?) ∘ fun x => i + x) = fun m => xs[i + m]? := rfl
  rw [e2] at this
  rw [this]
theorem getItem_tuple_cut {t sl : Addr} {items : Array Value} {vl vu : Value} {lo hi : Option Int} {Q : Value → Shared → Prop} (ht : IsTup s.heap t items) (hs : s.heap.IsSliceOf sl vl vu .none) (pl : IsPart vl lo) (pu : IsPart vu hi)
    (hw : ¬ (sIx items.size 0 lo = 0 ∧ sIx items.size items.size hi = items.size))
    (h : Q (.ref s.heap.objs.size) { s with heap := s.heap.push { cls := .type "tuple", data := .seq ((items.toList.drop (sIx items.size 0 lo)).take (sIx items.size items.size hi - sIx items.size 0 lo)).toArray } })
    (hsz : items.size ≤ sizeLine) : wpAny (model prog w) A (getItem (.ref t) (.ref sl)) Q E s := by
  have htake : sizeOk (.seq ((items.toList.drop (sIx items.size 0 lo)).take (sIx items.size items.size hi - sIx items.size 0 lo)).toArray) := by
    show ((items.toList.drop (sIx items.size 0 lo)).take (sIx items.size items.size hi - sIx items.size 0 lo)).toArray.size ≤ sizeLine
    rw [List.size_toArray, List.length_take, List.length_drop, Array.length_toList]
    omega
  have hj : sIx items.size items.size hi ≤ items.size := sIx_le _ _ (Nat.le_refl _) hi
  obtain ⟨os, hos, hcs, hds⟩ := id hs
  have hTs : s.TypeIs (.ref sl) "slice" := ⟨os, hos, hcs⟩
  unfold getItem
  try with_reducible refine wpAny_holding ?_
  first | refine wpAny_bind (wpAny_pure ?_) | skip
  refine wpAny_bind (wpAny_sequenceKey ht.typeIs (by decide) ?_)
  refine wpAny_bind (wpAny_callSpecial?_slot (name := Str.ofString "__getitem__") ht.typeIs PyProof.Rows.slot_tuple_getitem
    (wpAny_call_entry PyProof.Rows.slot_tuple_getitem ht.typeIs entry_tuple_getitem ?_ (args_tuple_getitem _ _)))
  show wpAny _ _ (Builtin.Tuple.tupleItemsOf (.ref t) >>= _) _ _ s
  refine wpAny_bind (tupleItemsOf_ ht ?_)
  refine wpAny_bind (wpAny_typeOf hTs ?_)
  rw [if_pos (by decide)]
  refine wpAny_bind (sliceApplied_gen hs pl pu ?_)
  have hno : ¬ ((((sIx items.size 0 lo : Nat) : Int) == 0 && (1 : Int) == 1 && (sIx items.size items.size hi - sIx items.size 0 lo) == items.size) = true) := by
    intro q
    rw [Bool.and_eq_true, Bool.and_eq_true] at q
    have q1 : ((sIx items.size 0 lo : Nat) : Int) = 0 := eq_of_beq q.1.1
    have q2 : sIx items.size items.size hi - sIx items.size 0 lo = items.size := eq_of_beq q.2
    exact hw ⟨by omega, by omega⟩
  show wpAny _ _ (if (((sIx items.size 0 lo : Nat) : Int) == 0 && (1 : Int) == 1 && (sIx items.size items.size hi - sIx items.size 0 lo) == items.size) = true then _ else _) _ _ s
  rw [if_neg hno, pick_gen]
  first
    | exact wpAny_bind (m := Builtin.Tuple.tupleExact _) (wpAny_newObj_type (wpAny_pure ⟨_, rfl, wpAny_pure h⟩) htake)
    | exact wpAny_bind (m := Builtin.Tuple.tupleExact _) (wpAny_newObj_type (wpAny_bind (wpAny_pure (wpAny_pure ⟨_, rfl, wpAny_pure h⟩))) htake)
    | exact wpAny_bind (wpAny_bind (m := Builtin.Tuple.tupleExact _) (wpAny_newObj_type (wpAny_pure (wpAny_pure ⟨_, rfl, wpAny_pure h⟩)) htake))
    | exact wpAny_bind (wpAny_bind (m := Builtin.Tuple.tupleExact _) (wpAny_newObj_type (wpAny_pure ⟨_, rfl, wpAny_pure h⟩) htake))
end
end HT
namespace L2
open PySem PySem.Spec PyProof.Rows
noncomputable abbrev TO := St → Hp → (Option Int → Hp → Prop) → Prop
noncomputable def PO (X : Cx) (e : Option Expr) (t : TO) : Prop :=
  ∀ (pins : List (Addr × Obj)) (s : Shared) (σ : St) (H : Hp) (Q : Option Int → Hp → Prop), Inv X pins σ H s → t σ H Q →
    wpAny (model X.prog X.w) X.A (evalPart e X.env) (fun u s' => ∃ o H', Inv X pins σ H' s' ∧ IsPart u o ∧ Q o H') X.xe s
noncomputable def tNoPart : TO := fun _ H Q => Q none H
noncomputable def tPart (t : TE) : TO := fun σ H Q => t σ H fun x H1 => ∃ i, x = .int i ∧ Q (some i) H1
theorem intsAre_of {ns : List Int} : ∀ {us : List Value}, Vals (ns.map V.int) us → IntsAre us ns := by
  induction ns with
  | nil => intro us r; rw [List.map_nil] at r; cases r; exact .nil
  | cons n ns ih =>
    intro us r
    rw [List.map_cons] at r
    cases r with
    | cons r1 r2 =>
      obtain ⟨t, e⟩ := r1
      subst e
      exact .cons n t (ih r2)
section
variable {X : Cx} {e : Expr} {te : TE} {lo hi : Option Expr} {tl th : TO} {pos p2 : Pos}
theorem po_none : PO X none tNoPart := by
  intro pins s σ H Q I h
  rw [evalPart_none]
  exact wpAny_pure ⟨none, H, I, .none, h⟩
theorem po_some (h : PE X e te) : PO X (some e) (tPart te) := by
  intro pins s σ H Q I hw
  rw [evalPart_some]
  refine thn (h pins s σ H _ I hw) fun u s1 zz => ?_
  obtain ⟨x, H1, I1, r1, q1⟩ := zz
  obtain ⟨i, rfl, q⟩ := q1
  obtain ⟨t, rfl⟩ := r1
  exact ⟨some i, H1, I1, .int i t, q⟩
noncomputable def SlR (X : Cx) (r : V → Option Int → Option Int → Hp → VK → Prop) : Prop :=
  ∀ (pins : List (Addr × Obj)) (s : Shared) (σ : St) (H : Hp) (x : V) (v vl vu : Value) (lo hi : Option Int) (sl : Addr) (Q : VK), Inv X pins σ H s → RelV x v → s.heap.IsSliceOf sl vl vu .none → IsPart vl lo → IsPart vu hi → r x lo hi H Q →
    ∃ T id, typeLookup (.type T) "__getitem__" = pure (some (.builtin id)) ∧ s.TypeIs v T ∧ wpAny (model X.prog X.w) X.A (getItem v (.ref sl)) (EP X pins σ Q) X.xe s
noncomputable def tSl (r : V → Option Int → Option Int → Hp → VK → Prop) (te : TE) (tl th : TO) : TE := fun σ H Q => te σ H fun x H1 => tl σ H1 fun l H2 => th σ H2 fun u H3 => r x l u H3 Q
theorem pe_slice {r : V → Option Int → Option Int → Hp → VK → Prop} (hr : SlR X r) (he : PE X e te) (hl : PO X lo tl) (hu : PO X hi th) : PE X (.Subscript e (.Slice lo hi none p2) pos) (tSl r te tl th) := by
  intro pins s σ H Q I h
  refine Subscript_ (thn (he pins s σ H _ I h) fun v s1 zz => ?_)
  obtain ⟨x, H1, I1, r1, q1⟩ := zz
  refine wpAny_Slice (thn (hl pins s1 σ H1 _ I1 q1) fun vl s2 ⟨l, H2, I2, pl, q2⟩ => thn (hu pins s2 σ H2 _ I2 q2) fun vu s3 zz => ?_)
  obtain ⟨u, H3, I3, pu, q3⟩ := zz
  rw [evalPart_none]
  refine wpAny_pure ?_
  have I4 : Inv X pins σ H3 { s3 with heap := s3.heap.push { cls := .type "slice", data := .fields #[vl, vu, .none] } } := I3.kept (t' := s3.toks) fun b ob q => Heap.get?_push_of_some _ q
  obtain ⟨T, id, hT, ht, hg⟩ := hr pins { s3 with heap := s3.heap.push { cls := .type "slice", data := .fields #[vl, vu, .none] } } σ H3 x v vl vu l u s3.heap.objs.size Q I4 r1 (Heap.IsSliceOf.new ..) pl pu q3
  show wpAny (model X.prog X.w) X.A (subscriptTail e (.Slice lo hi none p2) v (.ref s3.heap.objs.size)) (EP X pins σ Q) X.xe { s3 with heap := s3.heap.push { cls := .type "slice", data := .fields #[vl, vu, .none] } }
  exact tail_any (ops := [.ref s3.heap.objs.size, v]) ht hT hg (by with_unfolding_all rfl)
noncomputable def cutV (xs : List V) (lo hi : Option Int) : List V := (xs.drop (HT.sIx xs.length 0 lo)).take (HT.sIx xs.length xs.length hi - HT.sIx xs.length 0 lo)
theorem cutV_length (xs : List V) (lo hi : Option Int) : (cutV xs lo hi).length ≤ xs.length := by
  unfold cutV
  rw [List.length_take, List.length_drop]
  omega
noncomputable def rSlT (K : PySem.W.Frag) : V → Option Int → Option Int → Hp → VK → Prop := fun x lo hi H Q => ∃ a xs, x = .ref a ∧ SqT K H a xs ∧
  ¬ (HT.sIx xs.length 0 lo = 0 ∧ HT.sIx xs.length xs.length hi = xs.length) ∧ ∀ p, H p = none → Q (.ref p) (upd H p (.tup (cutV xs lo hi)))
theorem sl_tup : SlR X (rSlT X.K) := by
  intro pins s σ H x v vl vu lo hi sl Q I rx hs pl pu h
  obtain ⟨a, xs, rfl, hx, hw, q⟩ := h
  cases rx
  obtain ⟨its, r, ht, hz⟩ := I.tuple hx
  have hlen : its.toArray.size = xs.length := by rw [List.size_toArray]; exact r.length.symm
  refine ⟨"tuple", _, PyProof.Rows.slot_tuple_getitem.lookup, ht.typeIs, ?_⟩
  refine HT.getItem_tuple_cut ht hs pl pu (by rw [hlen]; exact hw) ?_ (by rw [hlen]; exact hz)
  rw [hlen]
  refine ⟨.ref s.heap.objs.size, _, I.laid (t' := s.toks) (o := .tup (cutV xs lo hi)) (fun b ob q => Heap.get?_push_of_some _ q) (Nat.le_refl _) ?_, rfl, q _ (I.hok.fresh (Nat.le_refl _))⟩
  exact ⟨Nat.le_trans (cutV_length xs lo hi) hz, _, (r.drop (HT.sIx xs.length 0 lo)).take (HT.sIx xs.length xs.length hi - HT.sIx xs.length 0 lo), IsTuN.new _ _⟩
noncomputable def rCatT (K : PySem.W.Frag) : R2 := fun x y H Q => ∃ a b xs ys, x = .ref a ∧ y = .ref b ∧ SqT K H a xs ∧ SqT K H b ys ∧ xs ≠ [] ∧ xs.length + ys.length ≤ sizeLine ∧
  (ys = [] → Q (.ref a) H) ∧ (ys ≠ [] → ∀ p, H p = none → Q (.ref p) (upd H p (.tup (xs ++ ys))))
theorem Vals.nil_iff {xs : List V} {us : List Value} (r : Vals xs us) : us = [] ↔ xs = [] := by
  cases r with
  | nil => simp
  | cons _ _ => simp
theorem op_catT : OpR X (binaryOp .Add) (rCatT X.K) := by
  intro pins s σ H x y v u Q I rx ry h
  obtain ⟨a, b, xs, ys, rfl, rfl, ha, hb, hx, hz, q1, q2⟩ := h
  cases rx
  cases ry
  obtain ⟨its, r1, p1, _⟩ := I.tuple ha
  obtain ⟨its2, r2, p2, _⟩ := I.tuple hb
  refine HT.cat_tup p1 p2 (fun z => hx (r1.nil_iff.mp z)) (fun z => ⟨.ref a, H, I, rfl, q1 (r2.nil_iff.mp z)⟩) (fun z => ?_) (by rw [← r1.length, ← r2.length]; exact hz)
  refine ⟨.ref s.heap.objs.size, _, I.laid (t' := s.toks) (o := .tup (xs ++ ys)) (fun b ob q => Heap.get?_push_of_some _ q) (Nat.le_refl _) ?_, rfl, q2 (fun w => z (r2.nil_iff.mpr w)) _ (I.hok.fresh (Nat.le_refl _))⟩
  exact ⟨by rw [List.length_append]; exact hz, _, r1.append r2, IsTuN.new _ _⟩
end
end L2
namespace L2
open PySem PySem.Spec PyProof.Rows
noncomputable def ixN (n : Nat) (i : Int) : Option Nat := if 0 ≤ i then (if i < n then some i.toNat else none) else if -(n : Int) ≤ i then some (i + n).toNat else none
noncomputable def atI {α : Type} (xs : List α) (i : Int) : Option α := (ixN xs.length i).bind fun j => xs[j]?
theorem ixN_seq {n : Nat} {i : Int} {j : Nat} (h : ixN n i = some j) : seqIndex? i n = some j ∧ j < n ∧ -(n : Int) ≤ i ∧ i < n := by
  unfold ixN at h
  by_cases h0 : 0 ≤ i
  · rw [if_pos h0] at h
    by_cases h1 : i < n
    · rw [if_pos h1] at h
      have e : i.toNat = j := Option.some.inj h
      exact ⟨by rw [seqIndex_of h0 h1, e], by omega, by omega, h1⟩
    · rw [if_neg h1] at h; cases h
  · rw [if_neg h0] at h
    by_cases h1 : -(n : Int) ≤ i
    · rw [if_pos h1] at h
      have e : (i + n).toNat = j := Option.some.inj h
      exact ⟨by rw [seqIndex_neg (by omega) h1, e], by omega, h1, by omega⟩
    · rw [if_neg h1] at h; cases h
theorem atI_get {α : Type} {xs : List α} {i : Int} {v : α} (h : atI xs i = some v) : ∃ j, seqIndex? i xs.length = some j ∧ xs[j]? = some v ∧ j < xs.length ∧ -(xs.length : Int) ≤ i ∧ i < xs.length := by
  unfold atI at h
  cases e : ixN xs.length i with
  | none => rw [e] at h; cases h
  | some j =>
    rw [e] at h
    obtain ⟨h1, h2, h3, h4⟩ := ixN_seq e
    exact ⟨j, h1, h, h2, h3, h4⟩
theorem atI_nat {α : Type} {xs : List α} {j : Nat} {v : α} (h : xs[j]? = some v) : atI xs (j : Int) = some v := by
  have hj : j < xs.length := (List.getElem?_eq_some_iff.mp h).1
  have e : ixN xs.length (j : Int) = some j := by
    unfold ixN
    rw [if_pos (by omega), if_pos (by omega)]; simp
  unfold atI; rw [e]; exact h
noncomputable def PlainIx (b : Expr) : Prop := ∀ o i, subscripted b false o i = operate [o, i] (getItem o i)
noncomputable def IxR (X : Cx) (r : R2) : Prop :=
  ∀ (value slice : Expr) (pins : List (Addr × Obj)) (s : Shared) (σ : St) (H : Hp) (x y : V) (v u : Value) (Q : VK), Inv X pins σ H s → RelV x v → RelV y u → r x y H Q →
    subscripted slice false v u = operate [v, u] (getItem v u) → wpAny (model X.prog X.w) X.A (subscriptTail value slice v u) (EP X pins σ Q) X.xe s
noncomputable def MtR (X : Cx) (id : String) (r : V → List V → Hp → VK → Prop) : Prop :=
  ∀ (pins : List (Addr × Obj)) (s : Shared) (σ : St) (H : Hp) (x : V) (xs : List V) (v : Value) (us : List Value) (Q : VK), Inv X pins σ H s → RelV x v → Vals xs us → r x xs H Q →
    wpAny (model X.prog X.w) X.A (call (.builtin id) (v :: us)) (EP X pins σ Q) X.xe s
section
variable {X : Cx} {a b : Expr} {ta tb : TE} {pos : Pos}
theorem pe_ix {r : R2} (hr : IxR X r) (ha : PE X a ta) (hb : PE X b tb) (hs : PlainIx b) : PE X (.Subscript a b pos) (tOp r ta tb) := by
  intro pins s σ H Q I h
  exact Subscript_ (binT ha hb I h fun v u s2 x y H2 I2 rx ry q => hr a b pins s2 σ H2 x y v u Q I2 rx ry q (hs _ _))
noncomputable def rIxL (K : PySem.W.Frag) : R2 := fun x y H Q => ∃ p xs i v, x = .ref p ∧ y = .int i ∧ SqL K H p xs ∧ atI xs i = some v ∧ Q v H
noncomputable def rIxT (K : PySem.W.Frag) : R2 := fun x y H Q => ∃ p xs i v, x = .ref p ∧ y = .int i ∧ SqT K H p xs ∧ atI xs i = some v ∧ Q v H
theorem ix_list : IxR X (rIxL X.K) := by
  intro value slice pins s σ H x y v u Q I rx ry h hs
  obtain ⟨p, xs, i, z, rfl, rfl, hq, he, q⟩ := h
  cases rx
  obtain ⟨t, rfl⟩ := ry
  obtain ⟨its, r, pl, hz⟩ := I.list hq
  obtain ⟨j, h1, h2, h3, h4, h5⟩ := atI_get he
  obtain ⟨w, ew, rw'⟩ := r.get h2
  have hl := r.length
  have hn := line63
  have fin : EP X pins σ Q w s := ⟨z, H, I, rw', q⟩
  by_cases h0 : 0 ≤ i
  · have hj : i.toNat = j := by
      rw [seqIndex_of h0 h5] at h1
      exact Option.some.inj h1
    exact item_listR pl.isList h0 (by omega) (by rw [hj]; simpa using ew) fin hs
  · have hj : (i + (its.toArray.size : Int)).toNat = j := by
      rw [seqIndex_neg (by omega) h4] at h1
      rw [List.size_toArray, ← hl]
      exact Option.some.inj h1
    exact subscriptTail_builtinR (x := w) pl.isList.typeIs slot_list_getitem.lookup
      (wpAny_getItem_list_neg (Q := fun r s' => r = w ∧ EP X pins σ Q r s') pl.isList (by omega) (by rw [List.size_toArray] <;> omega) (by omega) (by rw [hj]; simpa using ew) ⟨rfl, fin⟩) hs
theorem ix_tup : IxR X (rIxT X.K) := by
  intro value slice pins s σ H x y v u Q I rx ry h hs
  obtain ⟨p, xs, i, z, rfl, rfl, hq, he, q⟩ := h
  cases rx
  obtain ⟨t, rfl⟩ := ry
  obtain ⟨its, r, pl, hz⟩ := I.tuple hq
  obtain ⟨j, h1, h2, h3, h4, h5⟩ := atI_get he
  obtain ⟨w, ew, rw'⟩ := r.get h2
  have hl := r.length
  have hn := line63
  have fin : EP X pins σ Q w s := ⟨z, H, I, rw', q⟩
  exact subscriptTail_builtinR (x := w) pl.typeIs slot_tuple_getitem.lookup
    (getItem_tuple (j := j) (Q := fun r s' => r = w ∧ EP X pins σ Q r s') pl (by omega) (by omega) (by rw [List.size_toArray, ← hl]; exact h1) (by simpa using ew) ⟨rfl, fin⟩) hs
theorem Inv.lst {pins : List (Addr × Obj)} {σ : St} {H : Hp} {s : Shared} {p : Addr} {xs : List V} (I : Inv X pins σ H s) (h : H p = some (.lst xs)) :
    ∃ (its : List Value) (n : Nat), Vals xs its ∧ s.heap.get? p = some { cls := .type "list", data := .seq its.toArray n } ∧ xs.length ≤ sizeLine := by
  obtain ⟨z, its, n, r, e⟩ := I.hok p _ h
  exact ⟨its, n, r, e, z⟩
theorem slice_bounds (lo hi : Option Int) (n : Nat) : (sliceBounds lo hi none n).1 = ((HT.sIx n 0 lo : Nat) : Int) ∧ (sliceBounds lo hi none n).2.1 = ((HT.sIx n n hi : Nat) : Int) ∧ (sliceBounds lo hi none n).2.2 = 1 := by
  refine ⟨?_, ?_, rfl⟩
  · cases lo with
    | none => simp [sliceBounds, HT.sIx]
    | some i =>
      simp only [sliceBounds, HT.sIx, Option.getD_none, show (1 : Int) > 0 by decide, if_true]
      by_cases h : i < 0
      · simp only [h, if_true] <;> omega
      · simp only [h, if_false] <;> omega
  · cases hi with
    | none => simp [sliceBounds, HT.sIx]
    | some i =>
      simp only [sliceBounds, HT.sIx, Option.getD_none, show (1 : Int) > 0 by decide, if_true]
      by_cases h : i < 0
      · simp only [h, if_true] <;> omega
      · simp only [h, if_false] <;> omega
theorem slicePick_cut (its : List Value) (lo hi : Option Int) : slicePick its.toArray lo hi none = ((its.drop (HT.sIx its.length 0 lo)).take (HT.sIx its.length its.length hi - HT.sIx its.length 0 lo)).toArray := by
  obtain ⟨h1, h2, h3⟩ := slice_bounds lo hi its.toArray.size
  unfold slicePick
  rw [h1, h2, h3]
  simp only [sliceRange_one, pick_run, List.size_toArray] <;> rfl
noncomputable def rSlL (K : PySem.W.Frag) : V → Option Int → Option Int → Hp → VK → Prop := fun x lo hi H Q => ∃ a xs, x = .ref a ∧ SqL K H a xs ∧ ∀ p, H p = none → Q (.ref p) (upd H p (.lst (cutV xs lo hi)))
theorem sl_list : SlR X (rSlL X.K) := by
  intro pins s σ H x v vl vu lo hi sl Q I rx hs pl pu h
  obtain ⟨a, xs, rfl, hx, q⟩ := h
  cases rx
  obtain ⟨its, r, ht, hz⟩ := I.list hx
  have hlen := r.length
  refine ⟨"list", _, slot_list_getitem.lookup, ht.isList.typeIs, ?_⟩
  refine wpAny_getItem_list_slice ht.isList hs pl pu .none (by simp) ?_ (by rw [List.size_toArray] <;> omega)
  rw [slicePick_cut, ← hlen]
  refine ⟨.ref s.heap.objs.size, _, I.laid (t' := s.toks) (o := .lst (cutV xs lo hi)) (fun b ob q => Heap.get?_push_of_some _ q) (Nat.le_refl _) ?_, rfl, q _ (I.hok.fresh (Nat.le_refl _))⟩
  exact ⟨Nat.le_trans (cutV_length xs lo hi) hz, _, 0, (r.drop (HT.sIx xs.length 0 lo)).take (HT.sIx xs.length xs.length hi - HT.sIx xs.length 0 lo), Heap.get?_push_size _ rfl⟩
theorem call_len_seq : CallR X (.builtin "len") (fun xs H Q => ∃ p ys, xs = [.ref p] ∧ (SqL X.K H p ys ∨ SqT X.K H p ys) ∧ Q (.int ys.length) H) := by
  intro pins s σ H xs us Q I r h
  obtain ⟨p, ys, rfl, hq, q⟩ := h
  obtain ⟨u, rfl, rx⟩ := vals1 r
  cases rx
  have hn := line63
  rcases hq with hq | hq
  · obtain ⟨its, r', pl, hz⟩ := I.list hq
    have hlen := r'.length
    exact Calls.call_len_list pl.isList (by simp only [List.size_toArray] <;> omega) ⟨.int ys.length, H, I.tok _, ⟨s.toks + 1, by rw [List.size_toArray, hlen]⟩, q⟩
  · obtain ⟨its, r', pl, hz⟩ := I.tuple hq
    have hlen := r'.length
    exact len_tuple pl (by simp only [List.size_toArray] <;> omega) ⟨.int ys.length, H, I.tok _, ⟨s.toks + 1, by rw [List.size_toArray, hlen]⟩, q⟩
theorem call_len_str : CallR X (.builtin "len") (fun xs H Q => ∃ z, xs = [.str z] ∧ z.length ≤ sizeLine ∧ Q (.int z.length) H) := by
  intro pins s σ H xs us Q I r h
  obtain ⟨z, rfl, hz, q⟩ := h
  obtain ⟨u, rfl, t, rfl⟩ := vals1 r
  have hn := line63
  exact len_str (by omega) ⟨.int z.length, H, I.tok _, ⟨_, rfl⟩, q⟩
theorem call_tuple_of : CallR X (.type "tuple") (fun xs H Q => ∃ p ys, xs = [.ref p] ∧ ((SqL X.K H p ys ∧ ∀ l, H l = none → Q (.ref l) (upd H l (.tup ys))) ∨ (SqT X.K H p ys ∧ Q (.ref p) H))) := by
  intro pins s σ H xs us Q I r h
  obtain ⟨p, ys, rfl, h⟩ := h
  obtain ⟨u, rfl, rx⟩ := vals1 r
  cases rx
  rcases h with ⟨hq, q⟩ | ⟨hq, q⟩
  · obtain ⟨its, r', pl, hz⟩ := I.list hq
    have hlen := r'.length
    refine call_tuple_list pl.isList (fun h' kp => ?_) (by simp only [List.size_toArray] <;> omega)
    have I1 : Inv X pins σ H { s with heap := h' } := I.kept (t' := s.toks) kp
    have I2 : Inv X pins σ (upd H h'.objs.size (.tup ys)) { s with heap := h'.push { cls := .type "tuple", data := .seq its.toArray } } :=
      I1.laid (t' := s.toks) (fun b o e => Heap.get?_push_of_some _ e) (Nat.le_refl _) (show ObjOk X.prog X.w _ _ _ (.tup ys) from ⟨hz, its, r', IsTuN.new _ _⟩)
    exact ⟨.ref h'.objs.size, _, I2, rfl, q _ (I1.hok.fresh (Nat.le_refl _))⟩
  · obtain ⟨its, r', pl, hz⟩ := I.tuple hq
    exact call_tuple_same pl ⟨.ref p, H, I, rfl, q⟩
noncomputable def tyV (K : PySem.W.Frag) (T : String) (x : V) (H : Hp) : Prop := match x with
  | .str _ => T = "str"
  | .int _ => T = "int"
  | .ref p => (T = "list" ∧ ∃ xs, SqL K H p xs) ∨ (T = "tuple" ∧ ∃ o, K.lookup p = some o ∧ o.cls = .type "tuple" ∧ o.dict = none) ∨
      (T = "dict" ∧ ((∃ kvs, H p = some (.dK kvs)) ∨ ∃ kvs, H p = some (.dT kvs))) ∨ (T = "set" ∧ ∃ S n, H p = some (.set S n))
  | _ => False
theorem tyV_is {pins : List (Addr × Obj)} {σ : St} {H : Hp} {s : Shared} {T : String} {x : V} {v : Value} (I : Inv X pins σ H s) (r : RelV x v) (ty : tyV X.K T x H) :
    s.TypeIs v T ∧ ∀ a, v = .ref a → ∃ ob, s.heap.get? a = some ob ∧ ob.dict = none := by
  cases x with
  | str z =>
    obtain ⟨t, rfl⟩ := r
    cases (show T = "str" from ty)
    exact ⟨typeIs_str s z t, fun _ e => nomatch e⟩
  | int i =>
    obtain ⟨t, rfl⟩ := r
    cases (show T = "int" from ty)
    exact ⟨typeIs_int s i t, fun _ e => nomatch e⟩
  | ref p =>
    cases r
    rcases ty with ⟨rfl, xs, hq⟩ | ⟨rfl, o, hk, hc, hd⟩ | ⟨rfl, hk⟩ | ⟨rfl, S, n, hk⟩
    · obtain ⟨its, _, pl, _⟩ := I.list hq
      refine ⟨pl.isList.typeIs, fun a e => ?_⟩
      cases e
      obtain ⟨o, n, e, c, hd, _⟩ := pl
      exact ⟨o, e, hd⟩
    · refine ⟨⟨o, I.kIn p o hk, hc⟩, fun a e => ?_⟩
      cases e
      exact ⟨o, I.kIn _ o hk, hd⟩
    · have z : ∃ o, s.heap.get? p = some o ∧ o.ExactDict := by
        rcases hk with ⟨kvs, hk⟩ | ⟨kvs, hk⟩
        · obtain ⟨_, _, _, _, o, _, _, e, ex, _⟩ := I.hok p _ hk
          exact ⟨o, e, ex⟩
        · obtain ⟨_, _, _, _, o, _, _, e, ex, _⟩ := I.hok p _ hk
          exact ⟨o, e, ex⟩
      obtain ⟨o, e, ex⟩ := z
      refine ⟨⟨o, e, ex.1⟩, fun a e2 => ?_⟩
      cases e2
      exact ⟨o, e, ex.2.1⟩
    · obtain ⟨o, _, _, _, e, ex, _⟩ := I.hok p _ hk
      refine ⟨⟨o, e, ex.1⟩, fun a e2 => ?_⟩
      cases e2
      exact ⟨o, e, ex.2.1⟩
  | _ => exact False.elim ty
noncomputable def tBM (K : PySem.W.Frag) (T : String) (r : V → List V → Hp → VK → Prop) (to : TE) (t : TA) : TE := fun σ H Q => to σ H fun x H1 => tyV K T x H1 ∧ t σ H1 fun xs H2 => r x xs H2 Q
variable {o e : Expr} {es : List Expr} {to : TE} {t : TA} {name : Str} {apos cpos : Pos} {T id : String} {r : V → List V → Hp → VK → Prop}
theorem pe_bm (pa : PlainAttrs T) (slot : Slot T name id) (hty : typeOf (.builtin id) = pure (.type "method_descriptor")) (hm : MtR X id r) (ho : PE X o to) (ha : PA X (e :: es) t)
    (hbase : attributeBase o name X.env (eval o X.env) = eval o X.env := by rfl)
    (hfew : ((backTo cpos (starEach (e :: es) X.env)).all (fun x => !x.1) && (backToKw cpos (keywordEach [] X.env)).all (fun x => x.1.isSome)
      && decide ((e :: es).length + ([] : List Keyword).length + (if ([] : List Keyword).isEmpty then 0 else 1) < 30)) = true := by rfl)
    (hline : (apos.endLine == cpos.line) = true := by rfl) (hs : starEach (e :: es) X.env = (false, eval e X.env) :: starEach es X.env := by rfl) (hplain : (backTo cpos (starEach es X.env)).any (·.1) = false := by rfl) :
    PE X (.Call (.Attribute o name apos) (e :: es) [] cpos) (tBM X.K T r to t) := by
  intro pins s σ H Q I h
  refine wpAny_Call_method_late hbase hfew hline rfl (thn (ho pins s σ H _ I h) fun v s1 zz => ?_)
  obtain ⟨x, H1, I1, r1, ty, q1⟩ := zz
  obtain ⟨h1, h2⟩ := tyV_is I1 r1 ty
  refine ⟨T, id, pa, slot, hty, h1, h2, ?_⟩
  have hA := ha cpos pins s1 σ H1 _ I1 q1
  rw [hs] at hA ⊢
  refine Calls.callWith_builtin (by show (false || (backTo cpos (starEach es X.env)).any (·.1)) = false; rw [hplain] <;> rfl) (Calls.evalArgs_plain ?_)
  exact thn hA fun us s2 ⟨vs, H2, I2, r2, q2⟩ => hm pins s2 σ H2 x vs v us Q I2 r1 r2 q2
end
end L2
namespace L2
open PySem PySem.Spec PyProof.Rows
noncomputable def MtM (X : Cx) (id : String) (r : V → List V → Hp → VK → Prop) : Prop :=
  ∀ (pins : List (Addr × Obj)) (s : Shared) (σ : St) (H : Hp) (x : V) (xs : List V) (v : Value) (us : List Value) (Q : VK), Inv X pins σ H s → RelV x v → Vals xs us → r x xs H Q →
    wpAny (model X.prog X.w) X.A (call (.builtin id) (v :: us)) (EP X pins σ Q) X.xe s
theorem Vals.one : ∀ {x : V} {us : List Value}, Vals [x] us → ∃ u, us = [u] ∧ RelV x u := by
  intro x us h
  cases h with
  | cons r t => cases t; exact ⟨_, rfl, r⟩
theorem Vals.two : ∀ {x y : V} {us : List Value}, Vals [x, y] us → ∃ u v, us = [u, v] ∧ RelV x u ∧ RelV y v
  | _, _, _, .cons r (.cons q .nil) => ⟨_, _, rfl, r, q⟩
theorem Vals.zero : ∀ {us : List Value}, Vals [] us → us = []
  | _, .nil => rfl
theorem Vals.eraseIdx : ∀ {xs : List V} {us : List Value} (i : Nat), Vals xs us → Vals (xs.eraseIdx i) (us.eraseIdx i)
  | _, _, _, .nil => .nil
  | _, _, 0, .cons _ t => t
  | _, _, i + 1, .cons r t => .cons r (Vals.eraseIdx i t)
theorem Vals.reverse {xs : List V} {us : List Value} (h : Vals xs us) : Vals xs.reverse us.reverse := by
  induction h with
  | nil => exact .nil
  | cons r t ih => rw [List.reverse_cons, List.reverse_cons]; exact Vals.append ih (.cons r .nil)
theorem Vals.rep {xs : List V} {us : List Value} (h : Vals xs us) : ∀ k : Nat, Vals (List.replicate k xs).flatten (List.replicate k us).flatten
  | 0 => .nil
  | k + 1 => by
    rw [List.replicate_succ, List.replicate_succ, List.flatten_cons, List.flatten_cons]
    exact Vals.append h (Vals.rep h k)
theorem foldl_rep (its : List Value) : ∀ (k : Nat) (acc : List Value),
    List.foldl (fun x1 x2 => x1 ++ x2) acc.toArray (List.replicate k its.toArray) = (acc ++ (List.replicate k its).flatten).toArray
  | 0, acc => by simp
  | k + 1, acc => by
    have e : acc.toArray ++ its.toArray = (acc ++ its).toArray := by simp
    have e2 : (acc ++ its) ++ (List.replicate k its).flatten = acc ++ (List.replicate (k + 1) its).flatten := by
      rw [List.replicate_succ, List.flatten_cons, List.append_assoc]
    rw [← e2, ← foldl_rep its k (acc ++ its), ← e, List.replicate_succ, List.foldl_cons]
section
variable {X : Cx} {pins : List (Addr × Obj)} {σ : St} {H : Hp} {s : Shared} {l b : Addr} {xs ys zs : List V}
theorem Inv.lset {its its' : List Value} {n : Nat} {f : Array Value → Array Value} {t' : Nat} (I : Inv X pins σ H s) (hH : H l = some (.lst xs))
    (e : s.heap.get? l = some { cls := .type "list", data := .seq its.toArray n }) (hf : f its.toArray = its'.toArray) (hv : Vals ys its') (hz : ys.length ≤ sizeLine) :
    Inv X pins σ (upd H l (.lst ys)) { s with heap := s.heap.update l (Obj.mapSeq f), toks := t' } := by
  have q := PySem.IsL.update e f
  rw [hf] at q
  refine I.write (x := l) (e := l) (by rw [hH]; exact trivial) (.inl rfl) (fun b' u hb hu => (Heap.get?_update_other s.heap (Obj.mapSeq f) (Ne.symm hb)).trans hu) ⟨_, q⟩ ?_
  exact ⟨hz, its', _, hv, q⟩
theorem Inv.lnew {its : List Value} {t' : Nat} (I : Inv X pins σ H s) (hv : Vals ys its) (hz : ys.length ≤ sizeLine) :
    Inv X pins σ (upd H s.heap.objs.size (.lst ys)) { s with heap := s.heap.push { cls := .type "list", data := .seq its.toArray }, toks := t' } :=
  I.laid (fun _ _ q => Heap.get?_push_of_some _ q) (Nat.le_refl _) ⟨hz, its, 0, hv, Heap.get?_push_size _ rfl⟩
theorem Inv.fresh (I : Inv X pins σ H s) : H s.heap.objs.size = none := I.hok.fresh (Nat.le_refl _)
theorem Inv.lstM (I : Inv X pins σ H s) (hH : H l = some (.lst xs)) : xs.length ≤ sizeLine ∧ ∃ (its : List Value) (n : Nat), Vals xs its ∧ xs.length = its.length ∧ s.heap.get? l = some { cls := .type "list", data := .seq its.toArray n } := by
  obtain ⟨z, its, n, r, e⟩ := I.hok l _ hH
  exact ⟨z, its, n, r, r.length, e⟩
theorem notLongL {n : Nat} (h : n ≤ sizeLine) : Builtin.List.listTooLong n = false := by
  unfold Builtin.List.listTooLong
  exact decide_eq_false (by omega)
end
section
variable {X : Cx}
noncomputable def rAppend : V → List V → Hp → VK → Prop := fun x vs H Q => ∃ l xs y, x = .ref l ∧ vs = [y] ∧ H l = some (.lst xs) ∧ xs.length < sizeLine ∧ Q .non (upd H l (.lst (xs ++ [y])))
theorem mt_append : MtM X "list.append" rAppend := by
  intro pins s σ H x vs v us Q I rx rv h
  obtain ⟨l, xs, y, rfl, rfl, hH, hz, q⟩ := h
  cases rx
  obtain ⟨u, rfl, ru⟩ := rv.one
  obtain ⟨z, its, n, r, hl, e⟩ := I.lstM hH
  refine call_meets F.slot_list_append ⟨_, e, rfl⟩ F.entry_list_append (F.args_list_append_2 _ _) (PySem.list_append l its.toArray n u (by rw [List.size_toArray]; omega)) ⟨e, ?_⟩
  refine ⟨.non, _, I.lset (its' := its ++ [u]) hH e (by simp) (r.append (.cons ru .nil)) ?_, rfl, q⟩
  rw [List.length_append, List.length_singleton]
  omega
noncomputable def rExtend : V → List V → Hp → VK → Prop := fun x vs H Q => ∃ l b xs zs, x = .ref l ∧ vs = [.ref b] ∧ H l = some (.lst xs) ∧ H b = some (.lst zs) ∧ xs.length + zs.length ≤ sizeLine ∧ Q .non (upd H l (.lst (xs ++ zs)))
theorem mt_extend : MtM X "list.extend" rExtend := by
  intro pins s σ H x vs v us Q I rx rv h
  obtain ⟨l, b, xs, zs, rfl, rfl, hH, hB, hz, q⟩ := h
  cases rx
  obtain ⟨u, rfl, ru⟩ := rv.one
  cases ru
  obtain ⟨z, its, n, r, hl, e⟩ := I.lstM hH
  obtain ⟨z2, its2, n2, r2, hl2, e2⟩ := I.lstM hB
  have hsz : its.toArray.size + its2.toArray.size ≤ sizeLine := by rw [List.size_toArray, List.size_toArray]; omega
  have hlong : ¬ (!its.toArray.isEmpty && Builtin.List.listTooLong (its.toArray.size + its2.toArray.size)) = true := by
    rw [notLongL hsz, Bool.and_false]
    exact Bool.false_ne_true
  refine call_meets F.slot_list_extend ⟨_, e, rfl⟩ F.entry_list_extend (F.args_list_extend_2 _ _)
    (AutoSeq1.list_extend_list_list_0 l its.toArray n b its2.toArray n2 hlong (by rw [List.size_toArray]; omega) (by omega)) ⟨e, e2, ?_⟩
  refine ⟨.non, _, I.lset (its' := its ++ its2) hH e (by simp) (r.append r2) ?_, rfl, q⟩
  rw [List.length_append]
  omega
noncomputable def rCat : R2 := fun x y H Q => ∃ l b xs zs, x = .ref l ∧ y = .ref b ∧ H l = some (.lst xs) ∧ H b = some (.lst zs) ∧ xs.length + zs.length ≤ sizeLine ∧ ∀ p, H p = none → Q (.ref p) (upd H p (.lst (xs ++ zs)))
theorem op_cat : OpR X (binaryOp .Add) rCat := by
  intro pins s σ H x y v u Q I rx ry h
  obtain ⟨l, b, xs, zs, rfl, rfl, hH, hB, hz, q⟩ := h
  cases rx
  cases ry
  obtain ⟨z, its, n, r, hl, e⟩ := I.lstM hH
  obtain ⟨z2, its2, n2, r2, hl2, e2⟩ := I.lstM hB
  refine PySem.P.add_list e e2 ?_ (by rw [List.size_toArray, List.size_toArray]; omega)
  have ea : its.toArray ++ its2.toArray = (its ++ its2).toArray := by simp
  rw [ea]
  exact ⟨.ref _, _, I.lnew (t' := s.toks) (r.append r2) (by rw [List.length_append]; omega), rfl, q _ I.fresh⟩
noncomputable def rRep : R2 := fun x y H Q => ∃ l k xs, x = .ref l ∧ y = .int k ∧ H l = some (.lst xs) ∧ -(2 ^ 63) ≤ k ∧ k < 2 ^ 63 ∧ xs.length * k.toNat ≤ sizeLine ∧
  ∀ p, H p = none → Q (.ref p) (upd H p (.lst (List.replicate k.toNat xs).flatten))
theorem len_rep {α : Type} (xs : List α) (k : Nat) : (List.replicate k xs).flatten.length = k * xs.length := by
  induction k with
  | zero => simp
  | succ k ih => rw [List.replicate_succ, List.flatten_cons, List.length_append, ih, Nat.succ_mul, Nat.add_comm]
theorem op_rep : OpR X (binaryOp .Mult) rRep := by
  intro pins s σ H x y v u Q I rx ry h
  obtain ⟨l, k, xs, rfl, rfl, hH, h1, h2, hz, q⟩ := h
  cases rx
  obtain ⟨t, rfl⟩ := ry
  obtain ⟨z, its, n, r, hl, e⟩ := I.lstM hH
  have hlen : its.toArray.size * k.toNat ≤ sizeLine := by rw [List.size_toArray, ← hl]; exact hz
  have hcap : ¬ its.toArray.size * k.toNat > (2 ^ 63 - 1) / 8 := by
    have : (sizeLine : Nat) ≤ (2 ^ 63 - 1) / 8 := by decide
    omega
  have hfit : ¬ (!Builtin.List.listFitsIndex k) = true := by
    rw [fitsIndex_both h1 h2]
    exact Bool.false_ne_true
  have hlong : ¬ Builtin.List.listTooLong (its.toArray.size * k.toNat) = true := by
    rw [notLongL hlen]
    exact Bool.false_ne_true
  have hnew : List.foldl (fun x1 x2 => x1 ++ x2) #[] (List.replicate (if its.toArray.isEmpty = true then 0 else k.toNat) its.toArray) = (List.replicate k.toNat its).flatten.toArray := by
    have f0 : ∀ m : Nat, List.foldl (fun x1 x2 => x1 ++ x2) #[] (List.replicate m its.toArray) = (List.replicate m its).flatten.toArray := fun m => by
      have := foldl_rep its m []
      rw [List.nil_append] at this
      exact this
    rw [f0]
    cases its with
    | nil => simp
    | cons a r' => rw [if_neg (by simp)]
  refine wpAny_binaryOp_repeat_ref (T := "list") (U := "int") (by decide) ⟨_, e, rfl⟩ (fun s' => typeIs_int s' k t) noFill_list_mul F.fills_int_mul F.slot_int_rmul repeat_list F.slot_int_index.lookup
    (call_meets F.slot_int_rmul (typeIs_int s k t) F.entry_int_rmul (F.args_int_rmul_2 _ _) (int___rmul___int_list k t l its.toArray n)
      ⟨e, rfl, ⟨_, e, rfl⟩, call_meets F.slot_list_mul ⟨_, e, rfl⟩ F.entry_list_mul (F.args_list_mul_2 _ _) (AutoListH.list___mul___list_int_3 l its.toArray n k t hfit hcap hlong) ⟨e, ?_⟩⟩)
  rw [hnew]
  exact ⟨.ref _, _, I.lnew (t' := s.toks) (r.rep k.toNat) (by rw [len_rep, Nat.mul_comm]; exact hz), rfl, q _ I.fresh⟩
end
section
variable {prog : Program} {w : World} {A : Around} {E : Value → Shared → Prop} {s : Shared}
set_option maxRecDepth 100000 in
end
section
variable {X : Cx}
end
end L2
namespace Att
open PySem PySem.W PySem.Calls PyProof.Rows
theorem ints_of_wellAll {P : Params} {h : Heap} : ∀ (ns : List Int) (vs : List Value), WellAll P h vs (ns.map WData.int) → IntsAre vs ns := by
  intro ns
  induction ns with
  | nil =>
    intro vs w
    rw [List.map_nil] at w
    cases w
    exact .nil
  | cons n ns ih =>
    intro vs w
    rw [List.map_cons] at w
    cases w with
    | cons a b =>
      cases a
      exact .cons _ _ (ih _ b)
theorem script_of {l : OpenLaw} {n : Nat} (hn : l.most = some n) {P : Params} {h : Heap} {args : List WData} {vals : List Value}
    (hpre : l.row.toRowW.claim.pre args = true) (hwl : WellAll P h vals args) :
    ∃ a vs ns, vals = [Value.ref a] ∧ args = [WData.list (ns.map WData.int)] ∧ h.get? a = some { cls := .type "list", data := .seq vs.toArray } ∧ IntsAre vs ns ∧ ns.length ≤ n := by
  have hsh : WShape.hasAll [] args [.list .int] = true := (pre_splitW hpre).1
  have hc : l.pre.holds [] { args := args } = true := (pre_splitW hpre).2
  obtain ⟨d, r, rfl, h1, h2⟩ := hasAllW_cons hsh
  obtain rfl := hasAllW_nil h2
  obtain ⟨xs, rfl, h3⟩ := hasW_list h1
  obtain ⟨ns, rfl⟩ := items_int h3
  have hlen : ns.length ≤ n := by
    unfold OpenLaw.pre at hc
    have h4 : (WTm.not (.lt (.lit (.int (n : Int))) (.len (.arg 0)))).holds [] { args := [.list (ns.map .int)] } = true := by
      have h4 := (holds_andW hc).1
      rw [hn] at h4
      exact h4
    have h5 := condW_of h4 (w_not (w_lt w_lit (w_len_list (w_arg rfl))))
    rw [List.length_map] at h5
    refine Nat.le_of_not_lt fun q => ?_
    have q' : (n : Int) < ((ns.length : Nat) : Int) := by omega
    first
      | (rw [decide_eq_true q'] at h5; exact absurd h5 (by decide))
      | (simp at h5; omega)
  cases hwl with
  | cons w1 w2 =>
    cases w2
    cases w1 with
    | list ho hall => exact ⟨_, _, ns, rfl, rfl, ho, ints_of_wellAll ns _ hall, hlen⟩
theorem post_true (l : OpenLaw) (args : List WData) : l.row.toRowW.claim.post args (.bool true) args = true :=
  postW_of (r := l.row.toRowW) (X := (true == true))
    (show WShape.has [] (.bool true) .bool = true by first | rfl | decide | simp [WShape.has, WShape.arms, WShape.armsAll])
    (show (WTm.eq .res (.lit (.bool true))).value [] { args := args, res := some (.bool true), after := args } = some (.bool (true == true)) from w_eq_bool (w_res rfl) w_lit) rfl
theorem attach_call {l : OpenLaw} {n : Nat} {q : Program} {loose : List Str} {XP : (Str → Option Value) → Heap → Prop} {YP : World → Heap → Prop} {d : DefRec}
    (hn : l.most = some n) (hdf : d.params.defaults = [])
    (call : ∀ (w : World) (s₀ s₁ : Shared) (mg mb : Str → Option Value) (fa : Addr) (o : Obj) (pm cd doc : Value) (a : Addr) (vs : List Value) (ns : List Int),
      Ground q loose [] XP w s₀ mg mb s₁.heap → YP w s₁.heap →
      s₁.heap.get? fa = some o → o.data = .func (docDef d.name d.params d.body d.scope pm cd doc) → s₁.heap.CodeRec cd d.name → mg d.name = some (.ref fa) →
      s₁.heap.get? a = some { cls := .type "list", data := .seq vs.toArray } → IntsAre vs ns → ns.length ≤ n → s₁.gens = #[] →
      codeAny (model l.prog w) callerA (.call (.ref fa) ⟨[.ref a], []⟩) (fun r s' => r = .ok (.ret (.bool true)) ∧ OldK s₁.heap s'.heap ∧ s'.os = s₁.os ∧ AllBare s'.gens) s₁) :
    WalkO q loose XP YP l.row.toRowW d [] (fun f vs => PySem.call f vs) := by
  intro w s₀ s₁ mg mb G Y fa o pm cd doc dV kV ho hd hcd hD hmg hg args vals as hpre hlay hrd hwl hlo
  obtain rfl : dV = .none := Dflts.none hD hdf
  obtain rfl : kV = .none := Dflts.noKw hD
  obtain ⟨a, vs, ns, rfl, rfl, hobj, hints, hlen⟩ := script_of hn hpre hwl
  refine enter_call (codeAny_mono (call w s₀ s₁ mg mb fa o pm cd doc a vs ns G Y ho (fd_plain hd) hcd hmg hobj hints hlen hg) fun r s' hq => ?_)
  obtain ⟨rfl, h2, h3, h4⟩ := hq
  exact ⟨.inl ⟨.bool true, .bool true, [], rfl, fun _ => rfl, .bool true, post_true l _, fun _ => ⟨List.Pairwise.nil, fun _ hm => (nomatch hm)⟩⟩, h2, h3, h4⟩
section
variable {prog : Program} {w : World} {A : Around} {E : Value → Shared → Prop} {s : Shared} {K : Frag}
end
end Att
namespace L2
open PySem PySem.Spec PyProof.Rows
theorem vals_ints : ∀ {vs : List Value} {ns : List Int}, IntsAre vs ns → Vals (ns.map V.int) vs
  | _, _, .nil => .nil
  | _, _, .cons n t h => .cons ⟨t, rfl⟩ (vals_ints h)
noncomputable def Only (H : Hp) : Prop := ∀ b, H b = none ∨ ∃ o xs, H b = some (.frz o (.lst xs))
theorem law_call {P : Program} {w : World} {K : PySem.W.Frag} {mg mb : Str → Option Value} {CX : CXT} {k : Nat} {fa a : Addr} {fd : FuncData} {x : Str} {sp : Sp} {s₁ : Shared} {vs : List Value} {ns : List Int}
    (KX : K.In s₁.heap) (hns : s₁.heap.Ns mainGlobals mg) (hb : s₁.heap.Ns builtinsNs mb) (hbb : ∀ x : Str, x ≠ "__name__" → mb x = bootBuiltins x) (hlim : s₁.heap.NoLimit) (hg : s₁.gens = #[])
    (ha : s₁.heap.get? a = some { cls := .type "list", data := .seq vs.toArray }) (hi : IntsAre vs ns) (hl : ns.length ≤ sizeLine) (hr : Room k callerA)
    (F : ∀ base : Heap, K.In base → base.Ns mainGlobals mg → FnOk P w K mg base CX k fa fd [x] sp) (hbind : ∀ (s : Shared) (u : Value), BindsTo s fd ⟨[u], []⟩ [(x, u)])
    (hsp : ∀ H : Hp, Only H → SqL K H a (ns.map V.int) → sp [.ref a] H (fun v _ => v = .bl true) fun _ _ _ => False)
    (hCX : ∀ H e s', CX [] H s₁ (fun _ _ _ => False) e s' → False) :
    codeAny (model P w) callerA (.call (.ref fa) ⟨[.ref a], []⟩) (fun r s' => r = .ok (.ret (.bool true)) ∧ OldK s₁.heap s'.heap ∧ s'.os = s₁.os ∧ AllBare s'.gens) s₁ := by
  have rv := vals_ints hi
  have lenV := hi.length
  -- from an abstract heap in which nothing but the script may be tracked
  have core : ∀ H : Hp, Only H → SqL K H a (ns.map V.int) → HOk P w H s₁.heap → (∀ b, H b ≠ none → b = a) → (H a ≠ none → K.lookup a = none) →
      codeAny (model P w) callerA (.call (.ref fa) ⟨[.ref a], []⟩) (fun r s' => r = .ok (.ret (.bool true)) ∧ OldK s₁.heap s'.heap ∧ s'.os = s₁.os ∧ AllBare s'.gens) s₁ := by
    intro H hO hS hok hA hK
    have base_of : ∀ {b : Addr} {o : Obj}, s₁.heap.get? b = some o → H b = none → (hidT s₁.heap H).get? b = some o := fun e n => hidT_get e n
    have noA : ∀ {b : Addr} {o : Obj} {es : Array DictEntry} {ep : Nat}, s₁.heap.get? b = some o → o.data = .dict es ep → H b = none := fun {b o es ep} e d => by
      cases q : H b with
      | none => rfl
      | some u =>
        have e' : b = a := hA b (by rw [q]; simp)
        subst e'
        rw [ha] at e; cases e
        have d' : Data.seq vs.toArray _ = Data.dict es ep := d
        cases d'
    have nsK : ∀ {b : Addr} {m : Str → Option Value}, s₁.heap.Ns b m → (hidT s₁.heap H).Ns b m := fun {b m} ⟨o, es, ep, e, d, r⟩ => ⟨o, es, ep, base_of e (noA e d), d, r⟩
    have hKb : K.In (hidT s₁.heap H) := fun b o e => base_of (KX b o e) (by
      cases q : H b with
      | none => rfl
      | some u =>
        have e' : b = a := hA b (by rw [q]; simp)
        subst e'
        rw [hK (by rw [q]; simp)] at e; cases e)
    have hM : Mod K mg (hidT s₁.heap H) := ⟨hKb, nsK hns, ⟨mb, nsK hb, hbb⟩, let ⟨mc, h1, h2⟩ := hlim; ⟨mc, nsK h1, h2⟩⟩
    have e0 : Env0 P w K mg (hidT s₁.heap H) callerA [] s₁ H := ⟨rfl, hM, fun b o e => of_hidT e, Nat.le_of_eq (hidT_size _ _), trivial, fun b hb => absurd (show b ∈ ([] : List Addr) from hb) (by simp), hok, .of_eq hg⟩
    refine codeAny_mono ((F _ hKb (nsK hns)).run callerA [] s₁ H ⟨[.ref a], []⟩ [.ref a] [.ref a] _ _ hr e0 (hbind s₁ (.ref a)) (.cons rfl .nil) (hsp H hO hS)) fun r s' h => ?_
    cases r with
    | error e => exact (hCX H e s' h).elim
    | ok fl =>
      cases fl with
      | next => exact False.elim h
      | brk => exact False.elim h
      | cont => exact False.elim h
      | ret u =>
        obtain ⟨v, H', os, bare, un, hok', r', q⟩ := h
        have q' : v = .bl true := q
        subst q'
        obtain rfl : u = Value.bool true := r'
        refine ⟨rfl, OldK.of_keep fun b o e => ?_, os, bare⟩
        cases q : H b with
        | none => exact un.keep b o e q (by intro z; exact absurd (show b ∈ ([] : List Addr) from z) (by simp)) (by simp)
        | some u =>
          rcases hO b with z | ⟨ob, xs, z⟩
          · rw [q] at z; cases z
          · have z2 := un.frzs b ob _ z
            obtain ⟨e1, _⟩ := hok b _ z
            obtain ⟨e2, _⟩ := hok' b _ z2
            rw [e] at e1; cases e1
            exact e2
  cases hk : K.lookup a with
  | some o =>
    -- the script is one of the module's own objects
    have e := KX a o hk
    rw [ha] at e
    cases e
    refine core (fun _ => none) (fun _ => .inl rfl) (.inr ⟨_, vs.toArray, _, hk, rfl, rfl, rfl, by rw [List.size_toArray, lenV]; exact hl, by simpa using rv⟩) (fun b u z => by have z' : (none : Option HO) = some u := z; cases z') (fun b z => absurd rfl z) fun z => absurd rfl z
  | none =>
    refine core (fun b => if b = a then some (.frz { cls := .type "list", data := .seq vs.toArray } (.lst (ns.map V.int))) else none) (fun b => ?_) (.inl (.inr ⟨{ cls := .type "list", data := .seq vs.toArray }, if_pos rfl⟩)) (fun b u z => ?_) (fun b z => ?_) fun _ => hk
    · by_cases hb : b = a
      · exact .inr ⟨_, _, if_pos hb⟩
      · exact .inl (if_neg hb)
    · by_cases hb : b = a
      · have z' := (if_pos hb).symm.trans z
        cases z'
        subst hb
        exact ⟨ha, by rw [List.length_map]; exact hl, vs, _, rv, ha⟩
      · have z' := (if_neg hb).symm.trans z
        cases z'
    · by_cases hb : b = a
      · exact hb
      · exact absurd (if_neg hb) z
end L2
namespace L2
open PySem PySem.Spec PyProof.Rows
noncomputable abbrev KOf {K : PySem.W.Frag} {h : Heap} (_ : K.In h) : PySem.W.Frag := K
theorem walk_of {l : PySem.W.OpenLaw} {n k : Nat} {q : Program} {loose : List Str} {XP : (Str → Option Value) → Heap → Prop} {YP : World → Heap → Prop} {d : DefRec} {K : Params → PySem.W.Frag} {CX : World → CXT} {sp : World → Sp} {x : Str}
    (hn : l.most = some n) (hn2 : n ≤ sizeLine) (hdf : d.params.defaults = []) (hr : Room k callerA)
    (hY : ∀ (w : World) (h : Heap), YP w h → (K w.params).In h)
    (F : ∀ (w : World) (mg : Str → Option Value) (fa : Addr) (h : Heap), (K w.params).In h → h.Ns mainGlobals mg → mg d.name = some (.ref fa) →
      ∃ fd : FuncData, (∀ (s : Shared) (u : Value), BindsTo s fd ⟨[u], []⟩ [(x, u)]) ∧
        ∀ base : Heap, (K w.params).In base → base.Ns mainGlobals mg → FnOk l.prog w (K w.params) mg base (CX w) k fa fd [x] (sp w))
    (hsp : ∀ (w : World) (H : Hp) (a : Addr) (ns : List Int), ns.length ≤ n → Only H → SqL (K w.params) H a (ns.map V.int) → sp w [.ref a] H (fun v _ => v = .bl true) fun _ _ _ => False)
    (hCX : ∀ (w : World) (H : Hp) (s : Shared) (e : Value) (s' : Shared), CX w [] H s (fun _ _ _ => False) e s' → False) :
    PySem.W.WalkO q loose XP YP l.row.toRowW d [] (fun f vs => PySem.call f vs) := by
  refine Att.attach_call hn hdf fun w s₀ s₁ mg mb fa o pm cd doc a vs ns G Y ho hd hcd hmg hobj hints hlen hg => ?_
  have KX := hY w _ Y
  obtain ⟨fd, hb, hF⟩ := F w mg fa _ KX G.T.g hmg
  exact law_call KX G.T.g G.T.b G.T.builtins G.T.nolimit hg hobj hints (Nat.le_trans hlen hn2) hr hF hb (fun H hO hS => hsp w H a ns hlen hO hS) fun H e s' => hCX w H s₁ e s'
theorem walk_ofK {l : PySem.W.OpenLaw} {n k : Nat} {q : Program} {loose : List Str} {XP : (Str → Option Value) → Heap → Prop} {YP : World → Heap → Prop} {d : DefRec} {K : Params → PySem.W.Frag} {CX : CXT} {sp : PySem.W.Frag → Sp} {x : Str}
    (hn : l.most = some n) (hn2 : n ≤ sizeLine) (hdf : d.params.defaults = []) (hr : Room k callerA)
    (hY : ∀ (w : World) (h : Heap), YP w h → (K w.params).In h)
    (F : ∀ (w : World) (mg : Str → Option Value) (fa : Addr) (h : Heap), (K w.params).In h → h.Ns mainGlobals mg → mg d.name = some (.ref fa) →
      ∃ fd : FuncData, (∀ (s : Shared) (u : Value), BindsTo s fd ⟨[u], []⟩ [(x, u)]) ∧
        ∀ base : Heap, (K w.params).In base → base.Ns mainGlobals mg → FnOk l.prog w (K w.params) mg base CX k fa fd [x] (sp (K w.params)))
    (hsp : ∀ (K : PySem.W.Frag) (H : Hp) (a : Addr) (ns : List Int), ns.length ≤ n → Only H → SqL K H a (ns.map V.int) → sp K [.ref a] H (fun v _ => v = .bl true) fun _ _ _ => False)
    (hCX : ∀ (H : Hp) (s : Shared) (e : Value) (s' : Shared), CX [] H s (fun _ _ _ => False) e s' → False) :
    PySem.W.WalkO q loose XP YP l.row.toRowW d [] (fun f vs => PySem.call f vs) :=
  walk_of (K := K) (CX := fun _ => CX) (sp := fun w => sp (K w.params)) hn hn2 hdf hr hY F (fun w H a ns h1 h2 h3 => hsp (K w.params) H a ns h1 h2 h3) fun _ H s e s' => hCX H s e s'
end L2
namespace L2
open PySem PySem.Spec PyProof.Rows
noncomputable def defArgs (s : Stmt) : Arguments := match s with
  | .FunctionDef _ a _ _ _ _ _ _ _ _ => a
  | _ => { posonlyargs := [], args := [], vararg := none, kwonlyargs := [], kw_defaults := [], kwarg := none, defaults := [] }
noncomputable def defBody (s : Stmt) : List Stmt := match s with
  | .FunctionDef _ _ b _ _ _ _ _ _ _ => b
  | _ => []
noncomputable def defScope (s : Stmt) : Scope := match s with
  | .FunctionDef _ _ _ _ _ _ sc _ _ _ => sc
  | _ => { kind := .function, names := [], isGenerator := false, isCoroutine := false }
noncomputable abbrev CX0 : CXT := fun _ _ _ _ _ _ => False
noncomputable abbrev E0 : XK := fun _ _ _ => False
theorem pass0 {X : Cx} : Passes CX0 X E0 := fun _ _ _ _ _ _ _ h => h.elim
structure Fun (K : PySem.W.Frag) (x qual : Str) (st : Stmt) (f : Addr) (fd : FuncData) : Prop where
  ex : ∃ (oc : Value) (od : Option Addr) (kV doc pm : Value) (an : Option Addr) (cdv ct : Value) (osl : Array (Option Value)),
    fd = PySem.W.fnOf x qual (defArgs st) (defBody st) (defScope st) .none kV doc pm an cdv ct ∧ K.lookup f = some ⟨oc, od, .func fd, osl⟩ ∧ PySem.W.codeIn K cdv qual = true
  kp : PySem.W.keepIn K (.ref f) = true
section
variable {P : Program} {w : World} {K : PySem.W.Frag} {mg : Str → Option Value} {base : Heap}
theorem Fun.ok {x qual : Str} {st : Stmt} {f : Addr} {fd : FuncData} {N ps : List Str} {k : Nat} {sp : Sp} (F : Fun K x qual st f fd) (S : FnScope N ps (defScope st)) (len : ∀ vs H Q E, sp vs H Q E → vs.length = ps.length)
    (hbody : ∀ (cdv : Value) (A : Around) (outer : List Env) (s : Shared) (H : Hp) (vs : List V) (Q : VK) (E : XK), Room k (A.deeper (envOfC qual (defScope st) s.heap.objs.size f cdv)) → sp vs H Q E →
      ∃ t, PSs (cxOf CX0 P w K mg base N qual (defScope st) f cdv A outer s H E).nox (defBody st) t ∧ t { nx := fun _ H' => Q .non H', rt := Q } (start N vs) H) : FnOk P w K mg base CX0 (k + 1) f fd ps sp := by
  obtain ⟨oc, od, kV, doc, pm, an, cdv, ct, osl, rfl, lk, hcd⟩ := F.ex
  refine fn_of lk hcd S len fun A outer s H vs Q E hr hsp => ?_
  obtain ⟨t, h, q⟩ := hbody cdv A outer s H vs Q E hr hsp
  exact ⟨t, h.nox, q⟩
theorem Fun.binds {x qual : Str} {st : Stmt} {f : Addr} {fd : FuncData} {ps : List Str} (F : Fun K x qual st f fd)
    (h : ∀ (kV doc pm : Value) (an : Option Addr) (cdv ct : Value) (us : List Value), us.length = ps.length → bindArgs (PySem.W.fnOf x qual (defArgs st) (defBody st) (defScope st) .none kV doc pm an cdv ct) ⟨us, []⟩ = pure (ps.zip us)) : Binds K fd ps [] := by
  obtain ⟨oc, od, kV, doc, pm, an, cdv, ct, osl, rfl, lk, hcd⟩ := F.ex
  exact .all (h kV doc pm an cdv ct)
theorem fun_mk {x qual : Str} {st : Stmt} {f : Addr} {oc : Value} {od an : Option Addr} {osl : Array (Option Value)} {kV doc pm cdv ct : Value} (l : K.lookup f = some ⟨oc, od, .func (PySem.W.fnOf x qual (defArgs st) (defBody st) (defScope st) .none kV doc pm an cdv ct), osl⟩)
    (c : PySem.W.codeIn K cdv qual = true) (k : PySem.W.keepIn K (.ref f) = true) : Fun K x qual st f (PySem.W.fnOf x qual (defArgs st) (defBody st) (defScope st) .none kV doc pm an cdv ct) := ⟨⟨oc, od, kV, doc, pm, an, cdv, ct, osl, rfl, l, c⟩, k⟩
end
section
variable {X : Cx}
theorem pv (i : Nat) {x : Str} {pos : Pos} (hN : X.N[i]? = some x := by rfl) (hv : Vis X.env.scope x := by first | exact Or.inl rfl | exact Or.inr (Or.inl rfl) | exact Or.inr (Or.inr rfl)) (hd : (x == ("__debug__" : Str)) = false := by decide)
    (hcd : (x == ("__classdict__" : Str)) = false := by decide) : PE X (.Name x pos) (tVar i) := pe_var hN hv hd hcd
end
noncomputable def Same (H H' : Hp) : Prop := ∀ b o, H b = some o → H' b = some o
theorem Same.refl (H : Hp) : Same H H := fun _ _ h => h
theorem Same.trans {H H1 H2 : Hp} (a : Same H H1) (b : Same H1 H2) : Same H H2 := fun c o h => b c o (a c o h)
theorem Same.free {H H' : Hp} (e : Same H H') {l : Addr} (h : H' l = Option.none) : H l = Option.none := by
  cases q : H l with
  | none => rfl
  | some o =>
    rw [e l o q] at h
    cases h
theorem Same.seq {K : PySem.W.Frag} {H H' : Hp} {a : Addr} {xs : List V} (e : Same H H') (h : SqL K H a xs) : SqL K H' a xs := by
  rcases h with (h | ⟨o, h⟩) | h
  · exact .inl (.inl (e _ _ h))
  · exact .inl (.inr ⟨o, e _ _ h⟩)
  · exact .inr h
end L2
set_option maxHeartbeats 4000000
set_option autoImplicit false
namespace DL
open PySem PySem.Spec PyProof.Rows L2
noncomputable def numOf : Value → Option Int
  | .int i _ => some i
  | .bool b => some (if b then 1 else 0)
  | _ => none
noncomputable def numIs (k : Int) (v : Value) : Bool := numOf v == some k
theorem numIs_shape {k : Int} {v : Value} (h : numIs k v = true) : (∃ t, v = .int k t) ∨ ∃ b, v = .bool b ∧ k = (if b then 1 else 0) := by
  have h : numOf v = some k := eq_of_beq h
  cases v with
  | int i t => exact .inl ⟨t, by cases h; rfl⟩
  | bool b => exact .inr ⟨b, rfl, (Option.some.inj h).symm⟩
  | _ => cases h
section
variable {prog : Program} {w : World} {A : Around} {E : Value → Shared → Prop} {s : Shared}
theorem pyHash_bool {b : Bool} {Q : Int → Shared → Prop} (h : Q (hashInt (if b then 1 else 0)) { s with toks := s.toks + 1 }) : wpAny (model prog w) A (pyHash (.bool b)) Q E s := by
  have hr := rawHash_range (if b then 1 else 0)
  have tb : s.TypeIs (.bool b) "bool" := rfl
  unfold pyHash
  have hv : [Value.bool b].any Value.onHeap = false := rfl
  refine wpAny_bind ?_
  rw [cRoomFor, if_neg (by rw [hv]; exact Bool.false_ne_true)]; refine wpAny_pure ?_
  refine wpAny_bind (wpAny_specialOf tb F.slot_bool_hash.lookup ?_)
  show wpAny _ _ (if (some (Value.builtin "int.__hash__") == some Value.none) = true then _ else _) Q E s
  rw [if_neg (by rw [beq_builtin_none]; exact Bool.false_ne_true)]
  refine wpAny_bind (wpAny_specialOf tb F.slot_bool_hash.lookup ?_)
  show wpAny _ _ (callSpecialIfBoundUnlessNone? (.bool b) "__hash__" _ >>= _) Q E s
  refine wpAny_bind (wpAny_callSpecialIfBoundUnlessNone?_slot tb F.slot_bool_hash
    (wpAny_call_entry F.slot_bool_hash tb entry_int_hash
      (show wpAny _ _ (do ret (← mkInt (rawHash (if b then 1 else 0)))) _ _ s from wpAny_ret_mkInt ?_) (args_int_hash _)))
  show wpAny _ _ (if (decide (-(2 : Int) ^ 63 ≤ rawHash (if b then 1 else 0)) && decide (rawHash (if b then 1 else 0) < 2 ^ 63)) = true then _ else _) Q E _
  rw [if_pos (by rw [decide_eq_true hr.1, decide_eq_true hr.2]; rfl)]
  exact wpAny_pure h
end
noncomputable def numKind (prog : Program) (w : World) : KeyKind prog w Int where
  is := numIs
  hash := hashInt
  inj := fun v a b ha hb => by
    unfold numIs at ha hb
    have := (eq_of_beq ha).symm.trans (eq_of_beq hb)
    exact Option.some.inj this
  byValue := fun k v h => by rcases numIs_shape h with ⟨t, rfl⟩ | ⟨b, rfl, _⟩ <;> rfl
  pyHash := fun hv h => by
    rcases numIs_shape hv with ⟨t, rfl⟩ | ⟨b, rfl, rfl⟩
    · exact wpAny_pyHash_int h
    · exact pyHash_bool h
  eqBool := fun {A E s a b u v Q} hu hv h => by
    rcases numIs_shape hu with ⟨t, rfl⟩ | ⟨c, rfl, rfl⟩ <;> rcases numIs_shape hv with ⟨t', rfl⟩ | ⟨c', rfl, rfl⟩
    · exact wpAny_eqBool_int h
    · exact PySem.SeqAt.EqAt.int_bool _ _ _ prog w E Q h
    · exact PySem.SeqAt.EqAt.bool_int _ _ _ prog w E Q h
    · refine PySem.SeqAt.EqAt.bool_bool _ _ prog w E Q ?_
      have e : (c == c') = decide ((if c then (1 : Int) else 0) = (if c' then 1 else 0)) := by cases c <;> cases c' <;> rfl
      rw [e]; exact h
  «strs» := fun k x t v h => by simp [numIs, numOf] at h
end DL
namespace DL
open PySem PySem.Spec PyProof.Rows L2
inductive D where
  | non | bl (b : Bool) | int (i : Int) | str (x : Str) | ty (n : String) | tup (xs : List D) | fl (xs : List D) | ref (n : Nat)
inductive DO where
  | lst (xs : List D) | dic (kvs : List (D × D)) (fz : Bool) | dci (kvs : List (Int × D)) | dcn (kvs : List (D × D))
noncomputable abbrev HD := List DO
noncomputable abbrev SD := List (Option D)
noncomputable def FzL (K : PySem.W.Frag) (H : Hp) (a : Addr) (xs : List V) : Prop :=
  (∃ o, H a = some (.frz o (.lst xs))) ∨
    ∃ (o : Obj) (its : Array Value) (n : Nat), K.lookup a = some o ∧ o.cls = .type "list" ∧ o.dict = none ∧ o.data = .seq its n ∧ its.size ≤ sizeLine ∧ Vals xs its.toList
theorem FzL.sq {K : PySem.W.Frag} {H : Hp} {a : Addr} {xs : List V} (h : FzL K H a xs) : SqL K H a xs := by
  rcases h with h | h
  · exact .inl (.inr h)
  · exact .inr h
mutual
noncomputable def Rep (K : PySem.W.Frag) (H : Hp) (ι : List Addr) : D → V → Prop
  | .non, v => v = .non
  | .bl b, v => v = .bl b
  | .int i, v => v = .int i
  | .str x, v => v = .str x
  | .ty n, v => v = .ty n
  | .tup ds, v => ∃ a vs, v = .ref a ∧ SqT K H a vs ∧ RepL K H ι ds vs
  | .fl ds, v => ∃ a vs, v = .ref a ∧ FzL K H a vs ∧ RepL K H ι ds vs
  | .ref n, v => ∃ a, v = .ref a ∧ ι[n]? = some a
noncomputable def RepL (K : PySem.W.Frag) (H : Hp) (ι : List Addr) : List D → List V → Prop
  | [], vs => vs = []
  | d :: ds, vs => ∃ v r, vs = v :: r ∧ Rep K H ι d v ∧ RepL K H ι ds r
end
section
variable {α β : Type} {F G : α → β → Prop}
theorem Prd.len : ∀ {xs : List α} {us : List β}, Paired F xs us → xs.length = us.length
  | _, _, .nil => rfl
  | _, _, .cons _ t => by simp [Prd.len t]
theorem Prd.get : ∀ {xs : List α} {us : List β} {i : Nat} {x : α}, Paired F xs us → xs[i]? = some x → ∃ u, us[i]? = some u ∧ F x u
  | _, _, _, _, .nil, e => by simp at e
  | _, _, 0, _, .cons r _, e => by simp at e; subst e; exact ⟨_, rfl, r⟩
  | _, _, i + 1, x, .cons _ t, e => by
    obtain ⟨u, h1, h2⟩ := Prd.get (i := i) (x := x) t (by simpa using e)
    exact ⟨u, by simpa using h1, h2⟩
theorem Prd.set {x : α} {u : β} (r : F x u) : ∀ {xs : List α} {us : List β} (i : Nat), Paired F xs us → Paired F (xs.set i x) (us.set i u)
  | _, _, _, .nil => .nil
  | _, _, 0, .cons _ t => .cons r t
  | _, _, i + 1, .cons q t => .cons q (Prd.set r i t)
theorem Prd.append : ∀ {xs ys : List α} {us ws : List β}, Paired F xs us → Paired F ys ws → Paired F (xs ++ ys) (us ++ ws)
  | _, _, _, _, .nil, s => s
  | _, _, _, _, .cons r t, s => .cons r (Prd.append t s)
theorem Prd.take : ∀ {xs : List α} {us : List β} (n : Nat), Paired F xs us → Paired F (xs.take n) (us.take n)
  | _, _, 0, _ => .nil
  | _, _, _ + 1, .nil => .nil
  | _, _, n + 1, .cons r t => .cons r (Prd.take n t)
theorem Prd.drop : ∀ {xs : List α} {us : List β} (n : Nat), Paired F xs us → Paired F (xs.drop n) (us.drop n)
  | _, _, 0, r => r
  | _, _, _ + 1, .nil => .nil
  | _, _, n + 1, .cons _ t => Prd.drop n t
theorem Prd.eraseIdx : ∀ {xs : List α} {us : List β} (i : Nat), Paired F xs us → Paired F (xs.eraseIdx i) (us.eraseIdx i)
  | _, _, _, .nil => .nil
  | _, _, 0, .cons _ t => t
  | _, _, i + 1, .cons r t => .cons r (Prd.eraseIdx i t)
theorem Prd.rep {xs : List α} {us : List β} (h : Paired F xs us) : ∀ k : Nat, Paired F (List.replicate k xs).flatten (List.replicate k us).flatten
  | 0 => .nil
  | k + 1 => by
    rw [List.replicate_succ, List.flatten_cons, List.replicate_succ, List.flatten_cons]
    exact Prd.append h (Prd.rep h k)
theorem Prd.imp : ∀ {xs : List α} {us : List β}, Paired F xs us → (∀ a b, a ∈ xs → F a b → G a b) → Paired G xs us
  | _, _, .nil, _ => .nil
  | _, _, .cons r t, f => .cons (f _ _ (by simp) r) (Prd.imp t fun a b h => f a b (by simp [h]))
theorem Prd.reverse : ∀ {xs : List α} {us : List β}, Paired F xs us → Paired F xs.reverse us.reverse
  | _, _, .nil => .nil
  | _, _, .cons r t => by
    rw [List.reverse_cons, List.reverse_cons]
    exact Prd.append (Prd.reverse t) (.cons r .nil)
end
section
variable {K : PySem.W.Frag} {H H' : Hp} {ι ι' : List Addr}
theorem repL_iff : ∀ {ds : List D} {vs : List V}, RepL K H ι ds vs ↔ Paired (Rep K H ι) ds vs
  | [], vs => by
    constructor
    · intro h; rw [RepL] at h; subst h; exact .nil
    · intro h; cases h; rw [RepL]
  | d :: ds, vs => by
    constructor
    · intro h; rw [RepL] at h
      obtain ⟨v, r, rfl, h1, h2⟩ := h
      exact .cons h1 (repL_iff.mp h2)
    · intro h
      cases h with
      | cons h1 h2 => rw [RepL]; exact ⟨_, _, rfl, h1, repL_iff.mpr h2⟩
@[simp] theorem rep_non {v : V} : Rep K H ι .non v ↔ v = .non := by rw [Rep]
@[simp] theorem rep_bl {b : Bool} {v : V} : Rep K H ι (.bl b) v ↔ v = .bl b := by rw [Rep]
@[simp] theorem rep_int {i : Int} {v : V} : Rep K H ι (.int i) v ↔ v = .int i := by rw [Rep]
@[simp] theorem rep_str {x : Str} {v : V} : Rep K H ι (.str x) v ↔ v = .str x := by rw [Rep]
@[simp] theorem rep_ty {n : String} {v : V} : Rep K H ι (.ty n) v ↔ v = .ty n := by rw [Rep]
theorem rep_tup {ds : List D} {v : V} : Rep K H ι (.tup ds) v ↔ ∃ a vs, v = .ref a ∧ SqT K H a vs ∧ Paired (Rep K H ι) ds vs := by
  rw [Rep]
  constructor
  · rintro ⟨a, vs, h1, h2, h3⟩; exact ⟨a, vs, h1, h2, repL_iff.mp h3⟩
  · rintro ⟨a, vs, h1, h2, h3⟩; exact ⟨a, vs, h1, h2, repL_iff.mpr h3⟩
theorem rep_fl {ds : List D} {v : V} : Rep K H ι (.fl ds) v ↔ ∃ a vs, v = .ref a ∧ FzL K H a vs ∧ Paired (Rep K H ι) ds vs := by
  rw [Rep]
  constructor
  · rintro ⟨a, vs, h1, h2, h3⟩; exact ⟨a, vs, h1, h2, repL_iff.mp h3⟩
  · rintro ⟨a, vs, h1, h2, h3⟩; exact ⟨a, vs, h1, h2, repL_iff.mpr h3⟩
theorem rep_ref {n : Nat} {v : V} : Rep K H ι (.ref n) v ↔ ∃ a, v = .ref a ∧ ι[n]? = some a := by rw [Rep]
structure Lw (K : PySem.W.Frag) (H : Hp) (ι : List Addr) (H' : Hp) (ι' : List Addr) : Prop where
  tup : ∀ a xs, SqT K H a xs → SqT K H' a xs
  fz : ∀ a xs, FzL K H a xs → FzL K H' a xs
  pre : ∃ t, ι' = ι ++ t
  fr : ∀ a o u, H a = some (.frz o u) → H' a = some (.frz o u)
structure Le (K : PySem.W.Frag) (H : Hp) (ι : List Addr) (H' : Hp) (ι' : List Addr) : Prop extends Lw K H ι H' ι' where
  frame : ∀ a o, H a = some o → a ∉ ι → H' a = some o ∧ a ∉ ι'
theorem Le.refl : Le K H ι H ι := ⟨⟨fun _ _ h => h, fun _ _ h => h, ⟨[], by simp⟩, fun _ _ _ h => h⟩, fun _ _ h n => ⟨h, n⟩⟩
theorem Le.trans {H1 H2 : Hp} {ι1 ι2 : List Addr} (a : Le K H ι H1 ι1) (b : Le K H1 ι1 H2 ι2) : Le K H ι H2 ι2 := by
  refine ⟨⟨fun x xs h => b.tup x xs (a.tup x xs h), fun x xs h => b.fz x xs (a.fz x xs h), ?_, fun x o u h => b.fr x o u (a.fr x o u h)⟩, fun x o h n => ?_⟩
  · obtain ⟨t, e⟩ := a.pre
    obtain ⟨u, e'⟩ := b.pre
    exact ⟨t ++ u, by rw [e', e, List.append_assoc]⟩
  · obtain ⟨h1, n1⟩ := a.frame x o h n
    exact b.frame x o h1 n1
theorem Lw.get (l : Lw K H ι H' ι') {n : Nat} {a : Addr} (h : ι[n]? = some a) : ι'[n]? = some a := by
  obtain ⟨t, e⟩ := l.pre
  rw [e, List.getElem?_append_left (by exact (List.getElem?_eq_some_iff.mp h).1), h]
mutual
theorem Rep.monoW (l : Lw K H ι H' ι') : ∀ {d : D} {v : V}, Rep K H ι d v → Rep K H' ι' d v
  | .non, v, h => by rw [Rep] at h ⊢; exact h
  | .bl _, v, h => by rw [Rep] at h ⊢; exact h
  | .int _, v, h => by rw [Rep] at h ⊢; exact h
  | .str _, v, h => by rw [Rep] at h ⊢; exact h
  | .ty _, v, h => by rw [Rep] at h ⊢; exact h
  | .tup ds, v, h => by
    rw [Rep] at h ⊢
    obtain ⟨a, vs, h1, h2, h3⟩ := h
    exact ⟨a, vs, h1, l.tup a vs h2, RepL.monoW l h3⟩
  | .fl ds, v, h => by
    rw [Rep] at h ⊢
    obtain ⟨a, vs, h1, h2, h3⟩ := h
    exact ⟨a, vs, h1, l.fz a vs h2, RepL.monoW l h3⟩
  | .ref n, v, h => by
    rw [Rep] at h ⊢
    obtain ⟨a, h1, h2⟩ := h
    exact ⟨a, h1, l.get h2⟩
theorem RepL.monoW (l : Lw K H ι H' ι') : ∀ {ds : List D} {vs : List V}, RepL K H ι ds vs → RepL K H' ι' ds vs
  | [], vs, h => by rw [RepL] at h ⊢; exact h
  | d :: ds, vs, h => by
    rw [RepL] at h ⊢
    obtain ⟨v, r, h1, h2, h3⟩ := h
    exact ⟨v, r, h1, Rep.monoW l h2, RepL.monoW l h3⟩
end
theorem Rep.mono (l : Le K H ι H' ι') {d : D} {v : V} (h : Rep K H ι d v) : Rep K H' ι' d v := Rep.monoW l.toLw h
theorem Prd.monoW (l : Lw K H ι H' ι') {ds : List D} {vs : List V} (h : Paired (Rep K H ι) ds vs) : Paired (Rep K H' ι') ds vs := repL_iff.mp (RepL.monoW l (repL_iff.mpr h))
theorem Prd.mono (l : Le K H ι H' ι') {ds : List D} {vs : List V} (h : Paired (Rep K H ι) ds vs) : Paired (Rep K H' ι') ds vs := Prd.monoW l.toLw h
noncomputable def nkOf : D → Option Int
  | .int i => some i
  | .bl b => some (if b then 1 else 0)
  | _ => none
noncomputable def nksOf : List D → Option (List Int)
  | [] => some []
  | d :: r => (nkOf d).bind fun k => (nksOf r).map fun ks => k :: ks
noncomputable def nk : D → Option (List Int)
  | .tup ds => nksOf ds
  | _ => none
noncomputable def kHash (ks : List Int) : Int := reduceHash (Builtin.Tuple.tupleHashOf (ks.map hashInt))
noncomputable def DicAt (a : Addr) (xs : List (List Int × Addr × Value)) (h : Heap) : Prop :=
  ∃ o es ep, h.get? a = some o ∧ o.ExactDict ∧ o.data = .dict es ep ∧ es.toList = xs.map (fun x => (⟨kHash x.1, .ref x.2.1, x.2.2⟩ : DictEntry)) ∧ (xs.map (·.1)).Nodup
theorem DicAt.keep {a : Addr} {xs : List (List Int × Addr × Value)} {h1 h2 : Heap} (d : DicAt a xs h1) (k : ∀ o, h1.get? a = some o → h2.get? a = some o) : DicAt a xs h2 := by
  obtain ⟨o, es, ep, e, r⟩ := d
  exact ⟨o, es, ep, k o e, r⟩
noncomputable def KRep (K : PySem.W.Frag) (H : Hp) (ι : List Addr) (p : D × D) (x : List Int × Addr × Value) : Prop := nk p.1 = some x.1 ∧ Rep K H ι p.1 (.ref x.2.1) ∧ ∃ v, RelV v x.2.2 ∧ Rep K H ι p.2 v
noncomputable def DciAt (a : Addr) (xs : List (Int × Value)) (h : Heap) : Prop := ∀ (p : Program) (w : World), h.DictOf (numKind p w) a xs
theorem DciAt.keep {a : Addr} {xs : List (Int × Value)} {h1 h2 : Heap} (d : DciAt a xs h1) (k : ∀ o, h1.get? a = some o → h2.get? a = some o) : DciAt a xs h2 := fun p w => by
  obtain ⟨o, es, ep, e, r⟩ := d p w
  exact ⟨o, es, ep, k o e, r⟩
noncomputable def IRep (K : PySem.W.Frag) (H : Hp) (ι : List Addr) (p : Int × D) (x : Int × Value) : Prop := p.1 = x.1 ∧ ∃ v, RelV v x.2 ∧ Rep K H ι p.2 v
noncomputable def nk2 : D → Option (Int × List Int)
  | .tup [a, b] => (nkOf a).bind fun i => (nk b).map fun ks => (i, ks)
  | _ => none
noncomputable def nHash (k : Int × List Int) : Int := reduceHash (Builtin.Tuple.tupleHashOf [hashInt k.1, kHash k.2])
noncomputable def DcnAt (a : Addr) (xs : List ((Int × List Int) × Addr × Value)) (h : Heap) : Prop :=
  ∃ o es ep, h.get? a = some o ∧ o.ExactDict ∧ o.data = .dict es ep ∧ es.toList = xs.map (fun x => (⟨nHash x.1, .ref x.2.1, x.2.2⟩ : DictEntry)) ∧ (xs.map (·.1)).Nodup
theorem DcnAt.keep {a : Addr} {xs : List ((Int × List Int) × Addr × Value)} {h1 h2 : Heap} (d : DcnAt a xs h1) (k : ∀ o, h1.get? a = some o → h2.get? a = some o) : DcnAt a xs h2 := by
  obtain ⟨o, es, ep, e, r⟩ := d
  exact ⟨o, es, ep, k o e, r⟩
noncomputable def NRep (K : PySem.W.Frag) (H : Hp) (ι : List Addr) (p : D × D) (x : (Int × List Int) × Addr × Value) : Prop := nk2 p.1 = some x.1 ∧ Rep K H ι p.1 (.ref x.2.1) ∧ ∃ v, RelV v x.2.2 ∧ Rep K H ι p.2 v
noncomputable def ORep (K : PySem.W.Frag) (H : Hp) (ι : List Addr) (a : Addr) : DO → Prop
  | .lst ds => ∃ vs, H a = some (.lst vs) ∧ Paired (Rep K H ι) ds vs
  | .dic kvs fz => (a == sysModules) = false ∧ kvs.length ≤ sizeLine ∧ ∃ xs, (if fz = true then ∃ o, H a = some (.frz o (.ext (DicAt a xs))) else H a = some (.ext (DicAt a xs))) ∧ Paired (KRep K H ι) kvs xs
  | .dci kvs => (a == sysModules) = false ∧ kvs.length ≤ sizeLine ∧ ∃ xs, H a = some (.ext (DciAt a xs)) ∧ Paired (IRep K H ι) kvs xs
  | .dcn kvs => (a == sysModules) = false ∧ kvs.length ≤ sizeLine ∧ ∃ xs, H a = some (.ext (DcnAt a xs)) ∧ Paired (NRep K H ι) kvs xs
structure HRep (K : PySem.W.Frag) (H : Hp) (ι : List Addr) (Hd : HD) : Prop where
  len : ι.length = Hd.length
  nd : ι.Nodup
  obj : ∀ (n : Nat) (a : Addr) (o : DO), ι[n]? = some a → Hd[n]? = some o → ORep K H ι a o
theorem ORep.there {a : Addr} {o : DO} (h : ORep K H ι a o) : H a ≠ none := by
  cases o with
  | lst ds => obtain ⟨vs, e, _⟩ := h; rw [e]; simp
  | dic kv fz =>
    obtain ⟨_, _, xs, e, _⟩ := h
    cases fz with
    | true => rw [if_pos rfl] at e; obtain ⟨ob, e⟩ := e; rw [e]; simp
    | false => rw [if_neg (by simp)] at e; rw [e]; simp
  | dci kv => obtain ⟨_, _, xs, e, _⟩ := h; rw [e]; simp
  | dcn kv => obtain ⟨_, _, xs, e, _⟩ := h; rw [e]; simp
theorem ORep.step {a : Addr} {o : DO} (h : ORep K H ι a o) (l : Lw K H ι H' ι') (e : H' a = H a) : ORep K H' ι' a o := by
  cases o with
  | lst ds => obtain ⟨vs, q, r⟩ := h; exact ⟨vs, by rw [e, q], Prd.monoW l r⟩
  | dic kv fz => obtain ⟨h1, h2, xs, q, r⟩ := h; exact ⟨h1, h2, xs, by rw [e]; exact q, Prd.imp r fun p x _ z => ⟨z.1, Rep.monoW l z.2.1, let ⟨v, z1, z2⟩ := z.2.2; ⟨v, z1, Rep.monoW l z2⟩⟩⟩
  | dci kv => obtain ⟨h1, h2, xs, q, r⟩ := h; exact ⟨h1, h2, xs, by rw [e]; exact q, Prd.imp r fun p x _ z => ⟨z.1, let ⟨v, z1, z2⟩ := z.2; ⟨v, z1, Rep.monoW l z2⟩⟩⟩
  | dcn kv => obtain ⟨h1, h2, xs, q, r⟩ := h; exact ⟨h1, h2, xs, by rw [e]; exact q, Prd.imp r fun p x _ z => ⟨z.1, Rep.monoW l z.2.1, let ⟨v, z1, z2⟩ := z.2.2; ⟨v, z1, Rep.monoW l z2⟩⟩⟩
theorem HRep.at {Hd : HD} (h : HRep K H ι Hd) {n : Nat} {o : DO} (e : Hd[n]? = some o) : ∃ a, ι[n]? = some a ∧ ORep K H ι a o := by
  have hl : n < ι.length := by rw [h.len]; exact (List.getElem?_eq_some_iff.mp e).1
  exact ⟨ι[n], by simp [hl], h.obj n _ o (by simp [hl]) e⟩
theorem HRep.has {Hd : HD} (h : HRep K H ι Hd) {a : Addr} (hm : a ∈ ι) : ∃ (n : Nat) (o : DO), ι[n]? = some a ∧ Hd[n]? = some o ∧ ORep K H ι a o := by
  obtain ⟨n, hn⟩ := List.mem_iff_getElem?.mp hm
  have hl : n < Hd.length := by rw [← h.len]; exact (List.getElem?_eq_some_iff.mp hn).1
  exact ⟨n, Hd[n], hn, by simp [hl], h.obj n a Hd[n] hn (by simp [hl])⟩
theorem HRep.fresh {Hd : HD} (h : HRep K H ι Hd) {p : Addr} (hp : H p = none) : p ∉ ι := fun hm => by
  obtain ⟨_, _, _, _, o⟩ := h.has hm
  exact o.there hp
theorem HRep.keep {Hd : HD} (h : HRep K H ι Hd) (l : Lw K H ι H' ι) (e : ∀ a ∈ ι, H' a = H a) : HRep K H' ι Hd :=
  ⟨h.len, h.nd, fun n a o h1 h2 => (h.obj n a o h1 h2).step l (e a (List.mem_of_getElem? h1))⟩
theorem Lw.fresh {p : Addr} (hp : H p = none) (o : HO) : Lw K H ι (upd H p o) ι where
  tup := fun a xs h => by
    rcases h with (h | ⟨ob, h⟩) | h
    · exact .inl (.inl (by rw [upd_ne (ne_of_none h hp)]; exact h))
    · exact .inl (.inr ⟨ob, by rw [upd_ne (ne_of_none h hp)]; exact h⟩)
    · exact .inr h
  fz := fun a xs h => by
    rcases h with ⟨ob, h⟩ | h
    · exact .inl ⟨ob, by rw [upd_ne (ne_of_none h hp)]; exact h⟩
    · exact .inr h
  pre := ⟨[], by simp⟩
  fr := fun a ob u h => by rw [upd_ne (ne_of_none h hp)]; exact h
theorem Le.fresh {p : Addr} (hp : H p = none) (o : HO) : Le K H ι (upd H p o) ι := ⟨Lw.fresh hp o, fun a ob h n => ⟨by rw [upd_ne (ne_of_none h hp)]; exact h, n⟩⟩
theorem Le.fresh1 {p : Addr} (hp : H p = none) (o : HO) : Le K H ι (upd H p o) (ι ++ [p]) where
  tup := (Le.fresh (ι := ι) hp o).tup
  fz := (Le.fresh (ι := ι) hp o).fz
  pre := ⟨[p], rfl⟩
  fr := (Le.fresh (K := K) (ι := ι) hp o).fr
  frame := fun a ob h n => ⟨by rw [upd_ne (ne_of_none h hp)]; exact h, by
    have := ne_of_none h hp
    simp [n, this]⟩
theorem HRep.tup {Hd : HD} (h : HRep K H ι Hd) {p : Addr} (hp : H p = none) (o : HO) : HRep K (upd H p o) ι Hd :=
  h.keep (Lw.fresh hp o) fun a ha => upd_ne fun z => by subst z; exact h.fresh hp ha
theorem HRep.new {Hd : HD} (h : HRep K H ι Hd) {p : Addr} (hp : H p = none) {u : HO} {o : DO} (ho : ORep K (upd H p u) (ι ++ [p]) p o) : HRep K (upd H p u) (ι ++ [p]) (Hd ++ [o]) := by
  have hf := h.fresh hp
  refine ⟨by simp [h.len], by simp only [List.nodup_append, h.nd, true_and]; exact ⟨by simp, fun a ha b hb e => hf (by simp at hb; rw [← hb, ← e]; exact ha)⟩, fun n a ob h1 h2 => ?_⟩
  by_cases hn : n < ι.length
  · rw [List.getElem?_append_left hn] at h1
    rw [List.getElem?_append_left (by rw [← h.len]; exact hn)] at h2
    have ha : a ∈ ι := List.mem_of_getElem? h1
    exact (h.obj n a ob h1 h2).step (Le.fresh1 hp u).toLw (upd_ne fun z => by subst z; exact hf ha)
  · rw [List.getElem?_append_right (by omega)] at h1
    rw [List.getElem?_append_right (by rw [← h.len]; omega)] at h2
    rw [← h.len] at h2
    have : n - ι.length = 0 := by
      have := (List.getElem?_eq_some_iff.mp h1).1
      simp at this; omega
    rw [this] at h1 h2
    simp at h1 h2
    subst h1; subst h2
    exact ho
noncomputable def Loose : HO → Prop
  | .lst _ => True
  | .ext _ => True
  | _ => False
theorem Le.upd {a : Addr} (ha : a ∈ ι) {o : HO} (e : H a = some o) (lo : Loose o) (u : HO) : Le K H ι (upd H a u) ι where
  tup := fun b xs h => by
    rcases h with (h | ⟨ob, h⟩) | h
    · refine .inl (.inl ?_)
      rw [upd_ne (ne_of h e (by rintro rfl; exact lo))]; exact h
    · refine .inl (.inr ⟨ob, ?_⟩)
      rw [upd_ne (ne_of h e (by rintro rfl; exact lo))]; exact h
    · exact .inr h
  fz := fun b xs h => by
    rcases h with ⟨ob, h⟩ | h
    · refine .inl ⟨ob, ?_⟩
      rw [upd_ne (ne_of h e (by rintro rfl; exact lo))]; exact h
    · exact .inr h
  pre := ⟨[], by simp⟩
  fr := fun b ob w h => by rw [upd_ne (ne_of h e (by rintro rfl; exact lo))]; exact h
  frame := fun b ob h n => ⟨by rw [upd_ne (by rintro rfl; exact n ha)]; exact h, n⟩
theorem HRep.upd {Hd : HD} (h : HRep K H ι Hd) {n : Nat} {a : Addr} (hn : ι[n]? = some a) {o u : HO} (e : H a = some o) (lo : Loose o) {ob : DO} (ho : ORep K (upd H a u) ι a ob) : HRep K (upd H a u) ι (Hd.set n ob) := by
  refine ⟨by simp [h.len], h.nd, fun m b oc h1 h2 => ?_⟩
  by_cases hm : n = m
  · subst hm
    rw [hn] at h1; cases h1
    rw [List.getElem?_set] at h2
    rw [if_pos rfl] at h2
    split at h2
    · cases h2; exact ho
    · cases h2
  · rw [List.getElem?_set_ne hm] at h2
    have hb : b ≠ a := fun z => by
      subst z
      have l1 := (List.getElem?_eq_some_iff.mp hn).1
      exact hm ((List.getElem?_inj l1 h.nd).mp (hn.trans h1.symm))
    exact (h.obj m b oc h1 h2).step (Le.upd (List.mem_of_getElem? hn) e lo u).toLw (upd_ne hb)
theorem HRep.add {Hd : HD} (h : HRep K H ι Hd) {p : Addr} (hp : p ∉ ι) {o : DO} (ho : ORep K H (ι ++ [p]) p o) : HRep K H (ι ++ [p]) (Hd ++ [o]) := by
  refine ⟨by simp [h.len], by simp only [List.nodup_append, h.nd, true_and]; exact ⟨by simp, fun a ha b hb e => hp (by simp at hb; rw [← hb, ← e]; exact ha)⟩, fun n a ob h1 h2 => ?_⟩
  by_cases hn : n < ι.length
  · rw [List.getElem?_append_left hn] at h1
    rw [List.getElem?_append_left (by rw [← h.len]; exact hn)] at h2
    exact (h.obj n a ob h1 h2).step ⟨fun _ _ z => z, fun _ _ z => z, ⟨[p], rfl⟩, fun _ _ _ z => z⟩ rfl
  · rw [List.getElem?_append_right (by omega)] at h1
    rw [List.getElem?_append_right (by rw [← h.len]; omega)] at h2
    rw [← h.len] at h2
    have : n - ι.length = 0 := by
      have := (List.getElem?_eq_some_iff.mp h1).1
      simp at this; omega
    rw [this] at h1 h2
    simp at h1 h2
    subst h1; subst h2
    exact ho
theorem Lw.side {p : Addr} {ys : List V} (hp : H p = some (.lst ys)) (u : HO) : Lw K H ι (L2.upd H p u) ι where
  tup := fun a xs h => by
    rcases h with (h | ⟨ob, h⟩) | h
    · refine .inl (.inl ?_)
      rw [upd_ne (ne_of h hp (by intro z; cases z))]; exact h
    · refine .inl (.inr ⟨ob, ?_⟩)
      rw [upd_ne (ne_of h hp (by intro z; cases z))]; exact h
    · exact .inr h
  fz := fun a xs h => by
    rcases h with ⟨ob, h⟩ | h
    · refine .inl ⟨ob, ?_⟩
      rw [upd_ne (ne_of h hp (by intro z; cases z))]; exact h
    · exact .inr h
  pre := ⟨[], by simp⟩
  fr := fun a ob w h => by rw [upd_ne (ne_of h hp (by intro z; cases z))]; exact h
theorem Lw.trans {H1 H2 : Hp} {ι1 ι2 : List Addr} (a : Lw K H ι H1 ι1) (b : Lw K H1 ι1 H2 ι2) : Lw K H ι H2 ι2 := by
  refine ⟨fun x xs h => b.tup x xs (a.tup x xs h), fun x xs h => b.fz x xs (a.fz x xs h), ?_, fun x o u h => b.fr x o u (a.fr x o u h)⟩
  obtain ⟨t, e⟩ := a.pre
  obtain ⟨u, e'⟩ := b.pre
  exact ⟨t ++ u, by rw [e', e, List.append_assoc]⟩
theorem Le.side {H1 : Hp} {ι1 : List Addr} {p : Addr} {ys : List V} (l : Le K H ι H1 ι1) (h0 : H p = none) (h1 : H1 p = some (.lst ys)) (u : HO) : Le K H ι (L2.upd H1 p u) ι1 :=
  ⟨l.toLw.trans (Lw.side h1 u), fun a o h n => by
    obtain ⟨q, m⟩ := l.frame a o h n
    exact ⟨by rw [upd_ne (ne_of_none h h0)]; exact q, m⟩⟩
structure SRep (K : PySem.W.Frag) (H : Hp) (ι : List Addr) (σ : L2.St) (σd : SD) : Prop where
  len : σ.length = σd.length
  var : ∀ (i : Nat) (d : D), σd[i]? = some (some d) → ∃ v, σ[i]? = some (some v) ∧ Rep K H ι d v
theorem SRep.mono {σ : L2.St} {σd : SD} (s : SRep K H ι σ σd) (l : Le K H ι H' ι') : SRep K H' ι' σ σd :=
  ⟨s.len, fun i d h => let ⟨v, h1, h2⟩ := s.var i d h; ⟨v, h1, h2.mono l⟩⟩
theorem SRep.set {σ : L2.St} {σd : SD} {d : D} {v : V} (s : SRep K H ι σ σd) (r : Rep K H ι d v) (i : Nat) : SRep K H ι (σ.set i (some v)) (σd.set i (some d)) := by
  refine ⟨by simp [s.len], fun j e h => ?_⟩
  by_cases hj : i = j
  · subst hj
    rw [List.getElem?_set] at h ⊢
    rw [if_pos rfl] at h ⊢
    split at h
    · rename_i hl
      rw [if_pos (by rw [s.len]; exact hl)]
      cases h
      exact ⟨v, rfl, r⟩
    · cases h
  · rw [List.getElem?_set_ne hj] at h ⊢
    exact s.var j e h
end
noncomputable def noStar : Expr → Bool
  | .Starred _ _ => false
  | _ => true
theorem star_cons {e : Expr} {es : List Expr} {env : Env} (h : noStar e = true) : starEach (e :: es) env = (false, eval e env) :: starEach es env := by
  cases e <;> first | rfl | cases h
theorem star_any {pos : Pos} {env : Env} : ∀ {es : List Expr}, es.all noStar = true → (backTo pos (starEach es env)).any (·.1) = false
  | [], _ => rfl
  | e :: es, h => by
    rw [List.all_cons, Bool.and_eq_true] at h
    rw [star_cons h.1]
    show (false || (backTo pos (starEach es env)).any (·.1)) = false
    rw [star_any h.2]
    rfl
theorem star_few {pos : Pos} {env : Env} {es : List Expr} (h : es.all noStar = true) (hl : es.length < 30) : ((backTo pos (starEach es env)).all (fun x => !x.1) && (backToKw pos (keywordEach [] env)).all (fun x => x.1.isSome)
      && decide (es.length + ([] : List Keyword).length + (if ([] : List Keyword).isEmpty then 0 else 1) < 30)) = true := by
  have h1 := star_any (pos := pos) (env := env) h
  have h2 : (backTo pos (starEach es env)).all (fun x => !x.1) = true := by
    rw [List.all_eq_true]
    intro x hx
    rw [List.any_eq_false] at h1
    have := h1 x hx
    simpa using this
  have h3 : decide (es.length + ([] : List Keyword).length + (if ([] : List Keyword).isEmpty then 0 else 1) < 30) = true := by
    rw [decide_eq_true_eq]
    simpa using hl
  rw [h2, h3]
  rfl
end DL
namespace DL
open PySem PySem.Spec PyProof.Rows L2
noncomputable abbrev EF := SD → HD → Option (D × HD)
noncomputable abbrev TF := SD → HD → Option (Bool × HD)
noncomputable abbrev AF := SD → HD → Option (List D × HD)
inductive FD where
  | nx | bk | ct | rt (d : D)
noncomputable abbrev SF := SD → HD → Option (FD × SD × HD)
noncomputable abbrev GF := D → SD → HD → Option (SD × HD)
noncomputable abbrev FF := List D → HD → Option (D × HD)
noncomputable abbrev F2 := D → D → HD → Option (D × HD)
noncomputable def QE (K : PySem.W.Frag) (H : Hp) (ι : List Addr) (d : D) (Hd' : HD) (Q : VK) : Prop := ∀ v H' ι', Le K H ι H' ι' → HRep K H' ι' Hd' → Rep K H' ι' d v → Q v H'
noncomputable def rdE (K : PySem.W.Frag) (f : EF) : TE := fun σ H Q => ∃ ι σd Hd d Hd', SRep K H ι σ σd ∧ HRep K H ι Hd ∧ f σd Hd = some (d, Hd') ∧ QE K H ι d Hd' Q
noncomputable def rdT (K : PySem.W.Frag) (f : TF) : TT := fun σ H Q => ∃ ι σd Hd b Hd', SRep K H ι σ σd ∧ HRep K H ι Hd ∧ f σd Hd = some (b, Hd') ∧ ∀ H' ι', Le K H ι H' ι' → HRep K H' ι' Hd' → Q b H'
noncomputable def rdA (K : PySem.W.Frag) (f : AF) : TA := fun σ H Q => ∃ ι σd Hd ds Hd', SRep K H ι σ σd ∧ HRep K H ι Hd ∧ f σd Hd = some (ds, Hd') ∧ ∀ vs H' ι', Le K H ι H' ι' → HRep K H' ι' Hd' → Paired (Rep K H' ι') ds vs → Q vs H'
noncomputable def QS (K : PySem.W.Frag) (H : Hp) (ι : List Addr) (fl : FD) (σd' : SD) (Hd' : HD) (E : Ends) : Prop := ∀ σ' H' ι', Le K H ι H' ι' → HRep K H' ι' Hd' → SRep K H' ι' σ' σd' →
  match fl with
  | .nx => E.nx σ' H'
  | .bk => E.bk σ' H'
  | .ct => E.ct σ' H'
  | .rt d => ∀ v, Rep K H' ι' d v → E.rt v H'
noncomputable def rdS (K : PySem.W.Frag) (f : SF) : TS := fun E σ H => ∃ ι σd Hd fl σd' Hd', SRep K H ι σ σd ∧ HRep K H ι Hd ∧ f σd Hd = some (fl, σd', Hd') ∧ QS K H ι fl σd' Hd' E
noncomputable def rdG (K : PySem.W.Frag) (g : GF) : TG := fun v σ H Q => ∃ ι σd Hd d σd' Hd', SRep K H ι σ σd ∧ HRep K H ι Hd ∧ Rep K H ι d v ∧ g d σd Hd = some (σd', Hd') ∧
  ∀ σ' H' ι', Le K H ι H' ι' → HRep K H' ι' Hd' → SRep K H' ι' σ' σd' → Q σ' H'
noncomputable def rd2 (K : PySem.W.Frag) (g : F2) : R2 := fun x y H Q => ∃ ι dx dy Hd d Hd', HRep K H ι Hd ∧ Rep K H ι dx x ∧ Rep K H ι dy y ∧ g dx dy Hd = some (d, Hd') ∧ QE K H ι d Hd' Q
noncomputable def rd1 (K : PySem.W.Frag) (g : D → HD → Option (D × HD)) : V → Hp → VK → Prop := fun x H Q => ∃ ι dx Hd d Hd', HRep K H ι Hd ∧ Rep K H ι dx x ∧ g dx Hd = some (d, Hd') ∧ QE K H ι d Hd' Q
noncomputable def rdC (K : PySem.W.Frag) (g : FF) : List V → Hp → VK → Prop := fun vs H Q => ∃ ι ds Hd d Hd', HRep K H ι Hd ∧ Paired (Rep K H ι) ds vs ∧ g ds Hd = some (d, Hd') ∧ QE K H ι d Hd' Q
noncomputable def rdM (K : PySem.W.Frag) (g : D → List D → HD → Option (D × HD)) : V → List V → Hp → VK → Prop := fun v vs H Q => ∃ ι x ds Hd d Hd', HRep K H ι Hd ∧ Rep K H ι x v ∧ Paired (Rep K H ι) ds vs ∧ g x ds Hd = some (d, Hd') ∧ QE K H ι d Hd' Q
noncomputable def PEf (X : Cx) (e : Expr) (f : EF) : Prop := PE X e (rdE X.K f)
noncomputable def PTf (X : Cx) (e : Expr) (f : TF) : Prop := PT X e (rdT X.K f)
noncomputable def PWf (X : Cx) (e : Expr) (f : TF) : Prop := PW X e (rdT X.K f)
noncomputable def PAf (X : Cx) (es : List Expr) (f : AF) : Prop := PA X es (rdA X.K f)
noncomputable def PSf (X : Cx) (st : Stmt) (f : SF) : Prop := PS X st (rdS X.K f)
noncomputable def PSsf (X : Cx) (st : List Stmt) (f : SF) : Prop := PSs X st (rdS X.K f)
noncomputable def PGf (X : Cx) (tg : Expr) (g : GF) : Prop := PG X tg (rdG X.K g)
noncomputable def OpF (X : Cx) (f : Value → Value → Sem Value) (g : F2) : Prop := OpR X f (rd2 X.K g)
noncomputable def UnF (X : Cx) (f : Value → Sem Value) (g : D → HD → Option (D × HD)) : Prop := UnR X f (rd1 X.K g)
noncomputable def CallF (X : Cx) (f : Value) (g : FF) : Prop := CallR X f (rdC X.K g)
noncomputable def IxF (X : Cx) (g : F2) : Prop := IxR X (rd2 X.K g)
noncomputable def MtF (X : Cx) (id : String) (g : D → List D → HD → Option (D × HD)) : Prop := MtR X id (rdM X.K g)
section
variable {X : Cx} {e a b c : Expr} {es : List Expr} {pos : Pos} {st : Stmt} {sts : List Stmt}
theorem PEi {t t' : TE} (h : PE X e t) (i : ∀ σ H Q, t' σ H Q → t σ H Q) : PE X e t' := fun pins s σ H Q I q => h pins s σ H Q I (i σ H Q q)
theorem PTi {t t' : TT} (h : PT X e t) (i : ∀ σ H Q, t' σ H Q → t σ H Q) : PT X e t' := fun pins s σ H Q I q => h pins s σ H Q I (i σ H Q q)
theorem PWi {t t' : TT} (h : PW X e t) (i : ∀ σ H Q, t' σ H Q → t σ H Q) : PW X e t' := fun wh pins s σ H Q I q => h wh pins s σ H Q I (i σ H Q q)
theorem PAi {t t' : TA} (h : PA X es t) (i : ∀ σ H Q, t' σ H Q → t σ H Q) : PA X es t' := fun ps pins s σ H Q I q => h ps pins s σ H Q I (i σ H Q q)
theorem PSi {t t' : TS} (h : PS X st t) (i : ∀ E σ H, t' E σ H → t E σ H) : PS X st t' := fun pins s σ H E I q => h pins s σ H E I (i E σ H q)
theorem PSsi {t t' : TS} (h : PSs X sts t) (i : ∀ E σ H, t' E σ H → t E σ H) : PSs X sts t' := fun pins s σ H E I q => h pins s σ H E I (i E σ H q)
theorem PGi {t t' : TG} (h : PG X e t) (i : ∀ v σ H Q, t' v σ H Q → t v σ H Q) : PG X e t' := fun pins s σ H v u Q I r q => h pins s σ H v u Q I r (i v σ H Q q)
theorem OpRi {f : Value → Value → Sem Value} {t t' : R2} (h : OpR X f t) (i : ∀ x y H Q, t' x y H Q → t x y H Q) : OpR X f t' := fun pins s σ H x y v u Q I r1 r2 q => h pins s σ H x y v u Q I r1 r2 (i x y H Q q)
noncomputable def eVar (i : Nat) : EF := fun σ H => (σ[i]?).join.map fun d => (d, H)
noncomputable def eC (d : D) : EF := fun _ H => some (d, H)
theorem pef_var {i : Nat} {x : Str} (h : PE X (.Name x pos) (tVar i)) : PEf X (.Name x pos) (eVar i) := by
  refine PEi h fun σ H Q zz => ?_
  obtain ⟨ι, σd, Hd, d, Hd', s, hr, e, q⟩ := zz
  unfold eVar at e
  cases hx : σd[i]? with
  | none => rw [hx] at e; cases e
  | some o =>
    cases o with
    | none => rw [hx] at e; cases e
    | some d0 =>
      rw [hx] at e
      have e' : (d0, Hd) = (d, Hd') := Option.some.inj e
      obtain ⟨rfl, rfl⟩ := Prod.mk.inj e'
      obtain ⟨v, h1, h2⟩ := s.var i d0 hx
      exact ⟨v, h1, q v H ι Le.refl hr h2⟩
theorem pef_C {v : V} {d : D} (h : PE X e (tC v)) (r : ∀ H ι, Rep X.K H ι d v) : PEf X e (eC d) := by
  refine PEi h fun σ H Q zz => ?_
  obtain ⟨ι, σd, Hd, d', Hd', s, hr, e, q⟩ := zz
  cases e
  exact q v H ι Le.refl hr (r H ι)
theorem pef_int {i j} : PEf X (.Constant (.int i) j pos) (eC (.int i)) := pef_C pe_int fun _ _ => by simp
theorem pef_bl {b j} : PEf X (.Constant (.bool b) j pos) (eC (.bl b)) := pef_C pe_bl fun _ _ => by simp
theorem pef_non {j} : PEf X (.Constant .none j pos) (eC .non) := pef_C pe_non fun _ _ => by simp
theorem pef_str {x j} : PEf X (.Constant (.str x) j pos) (eC (.str x)) := pef_C pe_str fun _ _ => by simp
theorem pef_ty {x : Str} {n : String} (hg : Gl X x) (hm : X.mg x = none) (hv : bootBuiltins x = some (.type n)) (hn : x ≠ "__name__" := by decide) (hd : (x == ("__debug__" : Str)) = false := by decide) : PEf X (.Name x pos) (eC (.ty n)) :=
  pef_C (pe_bltn (v := .ty n) hg hm hv rfl hn hd) fun _ _ => by simp
noncomputable def eOp (g : F2) (fa fb : EF) : EF := fun σ H => (fa σ H).bind fun p => (fb σ p.2).bind fun q => g p.1 q.1 q.2
theorem rd_op {fa fb : EF} {g : F2} {σ : L2.St} {H : Hp} {Q : VK} {K : PySem.W.Frag} (h : rdE K (eOp g fa fb) σ H Q) : tOp (rd2 K g) (rdE K fa) (rdE K fb) σ H Q := by
  obtain ⟨ι, σd, Hd, d, Hd', s, hr, e, q⟩ := h
  obtain ⟨⟨x, H1⟩, e1, e⟩ := Option.bind_eq_some_iff.mp e
  obtain ⟨⟨y, H2⟩, e2, e⟩ := Option.bind_eq_some_iff.mp e
  exact ⟨ι, σd, Hd, x, H1, s, hr, e1, fun v1 H1' ι1 l1 h1 r1 => ⟨ι1, σd, H1, y, H2, s.mono l1, h1, e2, fun v2 H2' ι2 l2 h2 r2 =>
    ⟨ι2, x, y, H2, d, Hd', h2, r1.mono l2, r2, e, fun v H' ι' l h r => q v H' ι' ((l1.trans l2).trans l) h r⟩⟩⟩
theorem pef_op {op : Operator} {g : F2} {fa fb : EF} (ho : OpF X (binaryOp op) g) (ha : PEf X a fa) (hb : PEf X b fb) : PEf X (.BinOp a op b pos) (eOp g fa fb) :=
  PEi (pe_op ho ha hb) fun _ _ _ h => rd_op h
theorem pef_cmp {op : CmpOp} {g : F2} {fa fb : EF} (ho : OpF X (compareOp op) g) (ha : PEf X a fa) (hb : PEf X b fb) (hm : behindInMarks op b = false) : PEf X (.Compare a [op] [b] pos) (eOp g fa fb) :=
  PEi (pe_cmpR ho ha hb hm) fun _ _ _ h => rd_op h
theorem pef_ix {g : F2} {fa fb : EF} (ho : IxF X g) (ha : PEf X a fa) (hb : PEf X b fb) (hs : PlainIx b) : PEf X (.Subscript a b pos) (eOp g fa fb) :=
  PEi (pe_ix ho ha hb hs) fun _ _ _ h => rd_op h
noncomputable def eUn (g : D → HD → Option (D × HD)) (fa : EF) : EF := fun σ H => (fa σ H).bind fun p => g p.1 p.2
theorem pef_un {op : UnaryOp} {g : D → HD → Option (D × HD)} {fa : EF} (ho : UnF X (unaryOp op) g) (ha : PEf X a fa) : PEf X (.UnaryOp op a pos) (eUn g fa) := by
  refine PEi (pe_un ho ha) fun σ H Q zz => ?_
  obtain ⟨ι, σd, Hd, d, Hd', s, hr, e, q⟩ := zz
  obtain ⟨⟨x, H1⟩, e1, e⟩ := Option.bind_eq_some_iff.mp e
  exact ⟨ι, σd, Hd, x, H1, s, hr, e1, fun v1 H1' ι1 l1 h1 r1 => ⟨ι1, x, H1, d, Hd', h1, r1, e, fun v H' ι' l h r => q v H' ι' (l1.trans l) h r⟩⟩
noncomputable def blD : D → Option Bool
  | .bl b => some b
  | _ => none
noncomputable def tOf (f : EF) : TF := fun σ H => (f σ H).bind fun p => (blD p.1).map fun b => (b, p.2)
theorem rep_blD {K : PySem.W.Frag} {H : Hp} {ι : List Addr} {d : D} {b : Bool} {v : V} (e : blD d = some b) (r : Rep K H ι d v) : v = .bl b := by
  cases d <;> simp [blD] at e
  subst e
  simpa using r
theorem ptf_cmp {op : CmpOp} {g : F2} {fa fb : EF} (ho : OpF X (compareOp op) g) (ha : PEf X a fa) (hb : PEf X b fb) (hm : behindInMarks op b = false) : PTf X (.Compare a [op] [b] pos) (tOf (eOp g fa fb)) := by
  refine PTi (pt_cmpR ho ha hb hm) fun σ H Q zz => ?_
  obtain ⟨ι, σd, Hd, bb, Hd', s, hr, e, q⟩ := zz
  obtain ⟨⟨x, H1⟩, e1, e⟩ := Option.bind_eq_some_iff.mp e
  obtain ⟨b', eb, e⟩ := Option.map_eq_some_iff.mp e
  cases e
  exact rd_op ⟨ι, σd, Hd, x, H1, s, hr, e1, fun v H' ι' l h r => ⟨bb, rep_blD eb r, q H' ι' l h⟩⟩
noncomputable def truD : D → HD → Option Bool
  | .non, _ => some false
  | .bl b, _ => some b
  | .int i, _ => some (i != 0)
  | .tup xs, _ => some (!xs.isEmpty)
  | .fl xs, _ => some (!xs.isEmpty)
  | .str x, _ => if x.length ≤ sizeLine then some ((x.length : Int) != 0) else none
  | .ref n, H => match H[n]? with
    | some (.lst xs) => some (!xs.isEmpty)
    | _ => none
  | _, _ => none
theorem prd_empty {α β : Type} {F : α → β → Prop} {xs : List α} {us : List β} (r : Paired F xs us) : (!us.isEmpty) = !xs.isEmpty := by cases r <;> rfl
theorem truV_of {K : PySem.W.Frag} {H : Hp} {ι : List Addr} {Hd : HD} {d : D} {k : Bool} {v : V} (hr : HRep K H ι Hd) (r : Rep K H ι d v) (e : truD d Hd = some k) : TruV K v H k := by
  cases d with
  | non => simp at r; subst r; simp [truD] at e; subst e; exact rfl
  | bl b => simp at r; subst r; simp [truD] at e; subst e; exact rfl
  | int i => simp at r; subst r; simp [truD] at e; subst e; exact rfl
  | ty n => simp [truD] at e
  | str x =>
    simp at r; subst r
    simp only [truD] at e
    split at e
    · rename_i hl
      cases e
      exact ⟨hl, rfl⟩
    · cases e
  | tup xs =>
    obtain ⟨ad, vs, rfl, h, p⟩ := rep_tup.mp r
    cases (show some (!xs.isEmpty) = some k from e)
    exact .inr (.inl ⟨vs, h, by rw [prd_empty p]⟩)
  | fl xs =>
    obtain ⟨ad, vs, rfl, h, p⟩ := rep_fl.mp r
    cases (show some (!xs.isEmpty) = some k from e)
    exact .inl ⟨vs, h.sq, by rw [prd_empty p]⟩
  | ref n =>
    obtain ⟨ad, rfl, h⟩ := rep_ref.mp r
    simp only [truD] at e
    split at e
    · rename_i xs ho
      cases e
      obtain ⟨vs, h1, p⟩ := hr.obj n ad _ h ho
      exact .inl ⟨vs, SqL.of h1, by rw [prd_empty p]⟩
    · cases e
noncomputable def tTru (f : EF) : TF := fun σ H => (f σ H).bind fun p => (truD p.1 p.2).map fun b => (b, p.2)
theorem ptf_truth {fa : EF} (ha : PEf X a fa) (he : ∀ whole, isTrue a X.env whole = (do let v ← whole; standAt a.pos; holding [v] (truthy v))) : PTf X a (tTru fa) := by
  refine PTi (pt_truth ha he) fun σ H Q zz => ?_
  obtain ⟨ι, σd, Hd, bb, Hd', s, hr, e, q⟩ := zz
  obtain ⟨⟨x, H1⟩, e1, e⟩ := Option.bind_eq_some_iff.mp e
  obtain ⟨b', eb, e⟩ := Option.map_eq_some_iff.mp e
  cases e
  exact ⟨ι, σd, Hd, x, H1, s, hr, e1, fun v H' ι' l h r => ⟨bb, truV_of h r eb, q H' ι' l h⟩⟩
noncomputable def tNo (t : TF) : TF := fun σ H => (t σ H).map fun p => (!p.1, p.2)
noncomputable def tAn (t u : TF) : TF := fun σ H => (t σ H).bind fun p => if p.1 = true then u σ p.2 else some (false, p.2)
noncomputable def tOrr (t u : TF) : TF := fun σ H => (t σ H).bind fun p => if p.1 = true then some (true, p.2) else u σ p.2
theorem ptf_not {t : TF} (h : PTf X a t) : PTf X (.UnaryOp .Not a pos) (tNo t) := by
  refine PTi (pt_not h) fun σ H Q zz => ?_
  obtain ⟨ι, σd, Hd, bb, Hd', s, hr, e, q⟩ := zz
  obtain ⟨⟨x, H1⟩, e1, e⟩ := Option.map_eq_some_iff.mp e
  cases e
  exact ⟨ι, σd, Hd, x, H1, s, hr, e1, fun H' ι' l h => q H' ι' l h⟩
theorem pwf_and1 {t : TF} (h : PTf X a t) : PWf X (.BoolOp .And [a] pos) t := pw_and1 h
theorem pwf_or1 {t : TF} (h : PTf X a t) : PWf X (.BoolOp .Or [a] pos) t := pw_or1 h
theorem pwf_and {t u : TF} (h : PTf X a t) (h2 : PWf X (.BoolOp .And (b :: es) pos) u) : PWf X (.BoolOp .And (a :: b :: es) pos) (tAn t u) := by
  refine PWi (pw_and h h2) fun σ H Q zz => ?_
  obtain ⟨ι, σd, Hd, bb, Hd', s, hr, e, q⟩ := zz
  obtain ⟨⟨x, H1⟩, e1, e⟩ := Option.bind_eq_some_iff.mp e
  refine ⟨ι, σd, Hd, x, H1, s, hr, e1, fun H' ι' l h => ?_⟩
  cases x with
  | true =>
    rw [if_pos rfl]
    exact ⟨ι', σd, H1, bb, Hd', s.mono l, h, by simpa using e, fun H2 ι2 l2 h2 => q H2 ι2 (l.trans l2) h2⟩
  | false =>
    rw [if_neg (by simp)]
    simp at e
    obtain ⟨rfl, rfl⟩ := e
    exact q H' ι' l h
theorem pwf_or {t u : TF} (h : PTf X a t) (h2 : PWf X (.BoolOp .Or (b :: es) pos) u) : PWf X (.BoolOp .Or (a :: b :: es) pos) (tOrr t u) := by
  refine PWi (pw_or h h2) fun σ H Q zz => ?_
  obtain ⟨ι, σd, Hd, bb, Hd', s, hr, e, q⟩ := zz
  obtain ⟨⟨x, H1⟩, e1, e⟩ := Option.bind_eq_some_iff.mp e
  refine ⟨ι, σd, Hd, x, H1, s, hr, e1, fun H' ι' l h => ?_⟩
  cases x with
  | true =>
    rw [if_pos rfl]
    simp at e
    obtain ⟨rfl, rfl⟩ := e
    exact q H' ι' l h
  | false =>
    rw [if_neg (by simp)]
    exact ⟨ι', σd, H1, bb, Hd', s.mono l, h, by simpa using e, fun H2 ι2 l2 h2 => q H2 ι2 (l.trans l2) h2⟩
theorem PWf.pt {t : TF} (h : PWf X a t) : PTf X a t := h _
noncomputable def eNo (f : EF) : EF := fun σ H => (f σ H).bind fun p => (blD p.1).map fun b => (.bl (!b), p.2)
noncomputable def eAn (f g : EF) : EF := fun σ H => (f σ H).bind fun p => (blD p.1).bind fun b => if b = true then g σ p.2 else some (.bl false, p.2)
noncomputable def eOrr (f g : EF) : EF := fun σ H => (f σ H).bind fun p => (blD p.1).bind fun b => if b = true then some (.bl true, p.2) else g σ p.2
noncomputable def eIf (t : TF) (f g : EF) : EF := fun σ H => (t σ H).bind fun p => if p.1 = true then f σ p.2 else g σ p.2
theorem pef_not {f : EF} (h : PEf X a f) : PEf X (.UnaryOp .Not a pos) (eNo f) := by
  refine PEi (pe_not h) fun σ H Q zz => ?_
  obtain ⟨ι, σd, Hd, d, Hd', s, hr, e, q⟩ := zz
  obtain ⟨⟨x, H1⟩, e1, e⟩ := Option.bind_eq_some_iff.mp e
  obtain ⟨b', eb, e⟩ := Option.map_eq_some_iff.mp e
  cases e
  exact ⟨ι, σd, Hd, x, H1, s, hr, e1, fun v H' ι' l h r => ⟨b', rep_blD eb r, q _ H' ι' l h (by simp)⟩⟩
theorem pef_one {op} {f : EF} (h : PEf X a f) : PEf X (.BoolOp op [a] pos) f := pe_one h
theorem pef_and {f g : EF} (h : PEf X a f) (h2 : PEf X (.BoolOp .And (b :: es) pos) g) : PEf X (.BoolOp .And (a :: b :: es) pos) (eAn f g) := by
  refine PEi (pe_and h h2) fun σ H Q zz => ?_
  obtain ⟨ι, σd, Hd, d, Hd', s, hr, e, q⟩ := zz
  obtain ⟨⟨x, H1⟩, e1, e⟩ := Option.bind_eq_some_iff.mp e
  obtain ⟨b', eb, e⟩ := Option.bind_eq_some_iff.mp e
  refine ⟨ι, σd, Hd, x, H1, s, hr, e1, fun v H' ι' l h r => ⟨b', rep_blD eb r, ?_⟩⟩
  cases b' with
  | true =>
    rw [if_pos rfl]
    exact ⟨ι', σd, H1, d, Hd', s.mono l, h, by simpa using e, fun v2 H2 ι2 l2 h2 r2 => q v2 H2 ι2 (l.trans l2) h2 r2⟩
  | false =>
    rw [if_neg (by simp)]
    simp at e
    obtain ⟨rfl, rfl⟩ := e
    exact q _ H' ι' l h (by simp)
theorem pef_or {f g : EF} (h : PEf X a f) (h2 : PEf X (.BoolOp .Or (b :: es) pos) g) : PEf X (.BoolOp .Or (a :: b :: es) pos) (eOrr f g) := by
  refine PEi (pe_or h h2) fun σ H Q zz => ?_
  obtain ⟨ι, σd, Hd, d, Hd', s, hr, e, q⟩ := zz
  obtain ⟨⟨x, H1⟩, e1, e⟩ := Option.bind_eq_some_iff.mp e
  obtain ⟨b', eb, e⟩ := Option.bind_eq_some_iff.mp e
  refine ⟨ι, σd, Hd, x, H1, s, hr, e1, fun v H' ι' l h r => ⟨b', rep_blD eb r, ?_⟩⟩
  cases b' with
  | true =>
    rw [if_pos rfl]
    simp at e
    obtain ⟨rfl, rfl⟩ := e
    exact q _ H' ι' l h (by simp)
  | false =>
    rw [if_neg (by simp)]
    exact ⟨ι', σd, H1, d, Hd', s.mono l, h, by simpa using e, fun v2 H2 ι2 l2 h2 r2 => q v2 H2 ι2 (l.trans l2) h2 r2⟩
theorem pef_if {t : TF} {f g : EF} (hc : PTf X c t) (ha : PEf X a f) (hb : PEf X b g) : PEf X (.IfExp c a b pos) (eIf t f g) := by
  refine PEi (pe_ifExp hc ha hb) fun σ H Q zz => ?_
  obtain ⟨ι, σd, Hd, d, Hd', s, hr, e, q⟩ := zz
  obtain ⟨⟨x, H1⟩, e1, e⟩ := Option.bind_eq_some_iff.mp e
  refine ⟨ι, σd, Hd, x, H1, s, hr, e1, fun H' ι' l h => ?_⟩
  cases x with
  | true =>
    rw [if_pos rfl]
    exact ⟨ι', σd, H1, d, Hd', s.mono l, h, by simpa using e, fun v2 H2 ι2 l2 h2 r2 => q v2 H2 ι2 (l.trans l2) h2 r2⟩
  | false =>
    rw [if_neg (by simp)]
    exact ⟨ι', σd, H1, d, Hd', s.mono l, h, by simpa using e, fun v2 H2 ι2 l2 h2 r2 => q v2 H2 ι2 (l.trans l2) h2 r2⟩
noncomputable def aNil : AF := fun _ H => some ([], H)
noncomputable def aCons (f : EF) (g : AF) : AF := fun σ H => (f σ H).bind fun p => (g σ p.2).map fun q => (p.1 :: q.1, q.2)
theorem paf_nil : PAf X [] aNil := by
  refine PAi pa_nil fun σ H Q zz => ?_
  obtain ⟨ι, σd, Hd, d, Hd', s, hr, e, q⟩ := zz
  cases e
  exact q [] H ι Le.refl hr .nil
theorem paf_cons {f : EF} {g : AF} (ha : PEf X e f) (hr : PAf X es g) (hs : starEach (e :: es) X.env = (false, eval e X.env) :: starEach es X.env := by exact star_cons rfl) : PAf X (e :: es) (aCons f g) := by
  refine PAi (pa_cons ha hr hs) fun σ H Q zz => ?_
  obtain ⟨ι, σd, Hd, d, Hd', s, hr, e, q⟩ := zz
  obtain ⟨⟨x, H1⟩, e1, e⟩ := Option.bind_eq_some_iff.mp e
  obtain ⟨⟨y, H2⟩, e2, e⟩ := Option.map_eq_some_iff.mp e
  cases e
  exact ⟨ι, σd, Hd, x, H1, s, hr, e1, fun v1 H1' ι1 l1 h1 r1 => ⟨ι1, σd, H1, y, H2, s.mono l1, h1, e2, fun vs H2' ι2 l2 h2 r2 => q _ H2' ι2 (l1.trans l2) h2 (.cons (r1.mono l2) r2)⟩⟩
noncomputable def mkT (xs : List D) (H : HD) : Option (D × HD) := if xs.length ≤ sizeLine then some (.tup xs, H) else none
noncomputable def mkL (xs : List D) (H : HD) : Option (D × HD) := if xs.length ≤ sizeLine then some (.ref H.length, H ++ [.lst xs]) else none
theorem mkT_some {xs : List D} {H : HD} {r : D × HD} (h : mkT xs H = some r) : xs.length ≤ sizeLine ∧ r = (.tup xs, H) := by
  unfold mkT at h
  split at h
  · rename_i hl; cases h; exact ⟨hl, rfl⟩
  · cases h
theorem mkL_some {xs : List D} {H : HD} {r : D × HD} (h : mkL xs H = some r) : xs.length ≤ sizeLine ∧ r = (.ref H.length, H ++ [.lst xs]) := by
  unfold mkL at h
  split at h
  · rename_i hl; cases h; exact ⟨hl, rfl⟩
  · cases h
theorem new_tup {K : PySem.W.Frag} {H : Hp} {ι : List Addr} {Hd Hd' : HD} {xs : List D} {vs : List V} {d : D} {Q : VK} (hr : HRep K H ι Hd) (r : Paired (Rep K H ι) xs vs) (e : mkT xs Hd = some (d, Hd')) (q : QE K H ι d Hd' Q) :
    vs.length ≤ sizeLine ∧ ∀ p, H p = none → Q (.ref p) (upd H p (.tup vs)) := by
  obtain ⟨hl, e⟩ := mkT_some e
  cases e
  refine ⟨by rw [← Prd.len r]; exact hl, fun p hp => ?_⟩
  exact q _ _ ι (Le.fresh hp _) (hr.tup hp _) (rep_tup.mpr ⟨p, vs, rfl, SqT.of upd_same, Prd.mono (Le.fresh hp _) r⟩)
theorem new_lst {K : PySem.W.Frag} {H : Hp} {ι : List Addr} {Hd Hd' : HD} {xs : List D} {vs : List V} {d : D} {Q : VK} (hr : HRep K H ι Hd) (r : Paired (Rep K H ι) xs vs) (e : mkL xs Hd = some (d, Hd')) (q : QE K H ι d Hd' Q) :
    vs.length ≤ sizeLine ∧ ∀ p, H p = none → Q (.ref p) (upd H p (.lst vs)) := by
  obtain ⟨hl, e⟩ := mkL_some e
  cases e
  refine ⟨by rw [← Prd.len r]; exact hl, fun p hp => ?_⟩
  refine q _ _ (ι ++ [p]) (Le.fresh1 hp _) (hr.new hp ⟨vs, upd_same, Prd.mono (Le.fresh1 hp _) r⟩) (rep_ref.mpr ⟨p, rfl, ?_⟩)
  rw [← hr.len]; simp
noncomputable def eTup (f : AF) : EF := fun σ H => (f σ H).bind fun p => mkT p.1 p.2
noncomputable def eLst (f : AF) : EF := fun σ H => (f σ H).bind fun p => mkL p.1 p.2
theorem pef_tup {f : AF} {x1} (h : PAf X es f) : PEf X (.Tuple es x1 pos) (eTup f) := by
  refine PEi (pe_tup h) fun σ H Q zz => ?_
  obtain ⟨ι, σd, Hd, d, Hd', s, hr, e, q⟩ := zz
  obtain ⟨⟨x, H1⟩, e1, e⟩ := Option.bind_eq_some_iff.mp e
  exact ⟨ι, σd, Hd, x, H1, s, hr, e1, fun vs H' ι' l h r => new_tup h r e fun v2 H2 ι2 l2 h2 r2 => q v2 H2 ι2 (l.trans l2) h2 r2⟩
theorem pef_lst {f : AF} (h : PAf X es f) : PEf X (.List es pos) (eLst f) := by
  refine PEi (pe_lst h) fun σ H Q zz => ?_
  obtain ⟨ι, σd, Hd, d, Hd', s, hr, e, q⟩ := zz
  obtain ⟨⟨x, H1⟩, e1, e⟩ := Option.bind_eq_some_iff.mp e
  exact ⟨ι, σd, Hd, x, H1, s, hr, e1, fun vs H' ι' l h r => new_lst h r e fun v2 H2 ι2 l2 h2 r2 => q v2 H2 ι2 (l.trans l2) h2 r2⟩
noncomputable def eCB (g : FF) (f : AF) : EF := fun σ H => (f σ H).bind fun p => g p.1 p.2
theorem rd_cb {f : AF} {g : FF} {σ : L2.St} {H : Hp} {Q : VK} {K : PySem.W.Frag} (h : rdE K (eCB g f) σ H Q) : tCB (rdC K g) (rdA K f) σ H Q := by
  obtain ⟨ι, σd, Hd, d, Hd', s, hr, e, q⟩ := h
  obtain ⟨⟨x, H1⟩, e1, e⟩ := Option.bind_eq_some_iff.mp e
  exact ⟨ι, σd, Hd, x, H1, s, hr, e1, fun vs H' ι' l h r => ⟨ι', x, H1, d, Hd', h, r, e, fun v2 H2 ι2 l2 h2 r2 => q v2 H2 ι2 (l.trans l2) h2 r2⟩⟩
theorem pef_callB {x : Str} {id : String} {g : FF} {f : AF} {p : Pos} (hc : CallF X (.builtin id) g) (hg : Gl X x) (hm : X.mg x = none) (hv : bootBuiltins x = some (.builtin id)) (ha : PAf X (e :: es) f) (hn : x ≠ "__name__" := by decide) (hdb : (x == ("__debug__" : Str)) = false := by decide)
    (he : starEach (e :: es) X.env = (false, eval e X.env) :: starEach es X.env := by exact star_cons rfl) (hpl : (backTo pos (starEach es X.env)).any (·.1) = false := by exact star_any rfl) : PEf X (.Call (.Name x p) (e :: es) [] pos) (eCB g f) :=
  PEi (pe_callB hc hg hm hv ha hn hdb he hpl) fun _ _ _ h => rd_cb h
theorem pef_callTy {x : Str} {T : String} {g : FF} {f : AF} {p : Pos} (hc : CallF X (.type T) g) (hg : Gl X x) (hm : X.mg x = none) (hv : bootBuiltins x = some (.type T)) (ha : PAf X (e :: es) f) (hn : x ≠ "__name__" := by decide) (hdb : (x == ("__debug__" : Str)) = false := by decide)
    (he : starEach (e :: es) X.env = (false, eval e X.env) :: starEach es X.env := by exact star_cons rfl) (hpl : (backTo pos (starEach es X.env)).any (·.1) = false := by exact star_any rfl) : PEf X (.Call (.Name x p) (e :: es) [] pos) (eCB g f) :=
  PEi (pe_callTy hc hg hm hv ha hn hdb he hpl) fun _ _ _ h => rd_cb h
noncomputable def spF (K : PySem.W.Frag) (n : Nat) (F : FF) : Sp := fun vs H Q _ => ∃ ι ds Hd d Hd', ds.length = n ∧ HRep K H ι Hd ∧ Paired (Rep K H ι) ds vs ∧ F ds Hd = some (d, Hd') ∧ QE K H ι d Hd' Q
noncomputable def eCall (n : Nat) (F : FF) (f : AF) : EF := fun σ H => (f σ H).bind fun p => if p.1.length = n then F p.1 p.2 else none
theorem pef_call {k n : Nat} {f : Addr} {fd : FuncData} {ps : List Str} {x : Str} {p : Pos} {F : FF} {fa : AF} (G : FnOk X.prog X.w X.K X.mg X.base CX0 k f fd ps (spF X.K n F)) (hr : Room k X.A) (hg : Gl X x) (hm : X.mg x = some (.ref f)) (hk : PySem.W.keepIn X.K (.ref f) = true)
    (hb : Binds X.K fd ps []) (ha : PAf X (e :: es) fa) (hdb : (x == ("__debug__" : Str)) = false := by decide) (he : starEach (e :: es) X.env = (false, eval e X.env) :: starEach es X.env := by exact star_cons rfl) (hpl : (backTo pos (starEach es X.env)).any (·.1) = false := by exact star_any rfl) :
    PEf X (.Call (.Name x p) (e :: es) [] pos) (eCall n F fa) := by
  refine PEi (pe_call (E := E0) G hr hg hm hk hb .nil pass0 ha hdb he hpl) fun σ H Q zz => ?_
  obtain ⟨ι, σd, Hd, d, Hd', s, hr, e, q⟩ := zz
  obtain ⟨⟨x, H1⟩, e1, e⟩ := Option.bind_eq_some_iff.mp e
  refine ⟨ι, σd, Hd, x, H1, s, hr, e1, fun vs H' ι' l h r => ?_⟩
  dsimp only at e
  split at e
  · rename_i hl
    exact ⟨ι', x, H1, d, Hd', hl, h, by simpa using r, e, fun v2 H2 ι2 l2 h2 r2 => q v2 H2 ι2 (l.trans l2) h2 r2⟩
  · cases e
noncomputable def isLst : D → HD → Bool
  | .ref n, H => match H[n]? with
    | some (.lst _) => true
    | _ => false
  | _, _ => false
theorem isLst_ty {K : PySem.W.Frag} {H : Hp} {ι : List Addr} {Hd : HD} {d : D} {v : V} (hr : HRep K H ι Hd) (r : Rep K H ι d v) (e : isLst d Hd = true) : tyV K "list" v H := by
  cases d with
  | ref n =>
    obtain ⟨ad, rfl, h⟩ := rep_ref.mp r
    simp only [isLst] at e
    split at e
    · rename_i xs ho
      obtain ⟨vs, h1, p⟩ := hr.obj n ad _ h ho
      exact .inl ⟨rfl, vs, SqL.of h1⟩
    · cases e
  | _ => simp [isLst] at e
noncomputable def eLM (g : D → List D → HD → Option (D × HD)) (fo : EF) (f : AF) : EF := fun σ H => (fo σ H).bind fun o => if isLst o.1 o.2 = true then (f σ o.2).bind fun p => g o.1 p.1 p.2 else none
theorem pef_lm {o : Expr} {name : Str} {apos cpos : Pos} {id : String} {g : D → List D → HD → Option (D × HD)} {fo : EF} {f : AF} (slot : Slot "list" name id) (hty : typeOf (.builtin id) = pure (.type "method_descriptor")) (hm : MtF X id g) (ho : PEf X o fo) (ha : PAf X (e :: es) f)
    (hbase : attributeBase o name X.env (eval o X.env) = eval o X.env := by rfl)
    (hfew : ((backTo cpos (starEach (e :: es) X.env)).all (fun x => !x.1) && (backToKw cpos (keywordEach [] X.env)).all (fun x => x.1.isSome)
      && decide ((e :: es).length + ([] : List Keyword).length + (if ([] : List Keyword).isEmpty then 0 else 1) < 30)) = true := by exact star_few rfl (by decide))
    (hline : (apos.endLine == cpos.line) = true := by rfl) (hs : starEach (e :: es) X.env = (false, eval e X.env) :: starEach es X.env := by exact star_cons rfl) (hplain : (backTo cpos (starEach es X.env)).any (·.1) = false := by exact star_any rfl) :
    PEf X (.Call (.Attribute o name apos) (e :: es) [] cpos) (eLM g fo f) := by
  refine PEi (pe_bm PySem.F.plainAttrs_list slot hty hm ho ha hbase hfew hline hs hplain) fun σ H Q zz => ?_
  obtain ⟨ι, σd, Hd, d, Hd', s, hr, e, q⟩ := zz
  obtain ⟨⟨x, H1⟩, e1, e⟩ := Option.bind_eq_some_iff.mp e
  dsimp only at e
  split at e
  · rename_i hl
    obtain ⟨⟨y, H2⟩, e2, e⟩ := Option.bind_eq_some_iff.mp e
    exact ⟨ι, σd, Hd, x, H1, s, hr, e1, fun v1 H1' ι1 l1 h1 r1 => ⟨isLst_ty h1 r1 hl, ι1, σd, H1, y, H2, s.mono l1, h1, e2, fun vs H2' ι2 l2 h2 r2 =>
      ⟨ι2, x, y, H2, d, Hd', h2, r1.mono l2, r2, e, fun v H' ι' l h r => q v H' ι' ((l1.trans l2).trans l) h r⟩⟩⟩
  · cases e
noncomputable def sNil : SF := fun σ H => some (.nx, σ, H)
noncomputable def sSeq (f g : SF) : SF := fun σ H => (f σ H).bind fun r => match r.1 with
  | .nx => g r.2.1 r.2.2
  | _ => some r
theorem pssf_nil : PSsf X [] sNil := by
  refine PSsi pss_nil fun E σ H zz => ?_
  obtain ⟨ι, σd, Hd, fl, σd', Hd', s, hr, e, q⟩ := zz
  cases e
  exact q σ H ι Le.refl hr s
theorem pssf_cons {f g : SF} (h1 : PSf X st f) (h2 : PSsf X sts g) : PSsf X (st :: sts) (sSeq f g) := by
  refine PSsi (pss_cons h1 h2) fun E σ H zz => ?_
  obtain ⟨ι, σd, Hd, fl, σd', Hd', s, hr, e, q⟩ := zz
  obtain ⟨⟨f1, σ1, H1⟩, e1, e⟩ := Option.bind_eq_some_iff.mp e
  refine ⟨ι, σd, Hd, f1, σ1, H1, s, hr, e1, fun σ' H' ι' l h ss => ?_⟩
  cases f1 with
  | nx => exact ⟨ι', σ1, H1, fl, σd', Hd', ss, h, e, fun σ2 H2 ι2 l2 h2 s2 => q σ2 H2 ι2 (l.trans l2) h2 s2⟩
  | bk => cases e; exact q σ' H' ι' l h ss
  | ct => cases e; exact q σ' H' ι' l h ss
  | rt d => cases e; exact q σ' H' ι' l h ss
noncomputable def sRet (f : EF) : SF := fun σ H => (f σ H).map fun p => (.rt p.1, σ, p.2)
theorem psf_ret {f : EF} (he : PEf X e f) : PSf X (.Return (some e) pos) (sRet f) := by
  refine PSi (ps_ret he) fun E σ H zz => ?_
  obtain ⟨ι, σd, Hd, fl, σd', Hd', s, hr, e, q⟩ := zz
  obtain ⟨⟨x, H1⟩, e1, e⟩ := Option.map_eq_some_iff.mp e
  cases e
  exact ⟨ι, σd, Hd, x, H1, s, hr, e1, fun v H' ι' l h r => q σ H' ι' l h (s.mono l) v r⟩
noncomputable def sRetN : SF := fun σ H => some (.rt .non, σ, H)
noncomputable def sBrk : SF := fun σ H => some (.bk, σ, H)
noncomputable def sCnt : SF := fun σ H => some (.ct, σ, H)
noncomputable def sExpr (f : EF) : SF := fun σ H => (f σ H).map fun p => (.nx, σ, p.2)
theorem psf_expr {f : EF} (he : PEf X e f) (hs : swapsWith e none pos.line X.env = pure false := by rfl) : PSf X (.Expr e pos) (sExpr f) := by
  refine PSi (ps_expr he hs) fun E σ H zz => ?_
  obtain ⟨ι, σd, Hd, fl, σd', Hd', s, hr, e, q⟩ := zz
  obtain ⟨⟨x, H1⟩, e1, e⟩ := Option.map_eq_some_iff.mp e
  cases e
  exact ⟨ι, σd, Hd, x, H1, s, hr, e1, fun v H' ι' l h r => q σ H' ι' l h (s.mono l)⟩
noncomputable def sIf (t : TF) (f g : SF) : SF := fun σ H => (t σ H).bind fun p => if p.1 = true then f σ p.2 else g σ p.2
theorem psf_if {t : TF} {f g : SF} {as bs : List Stmt} (hc : PTf X c t) (ha : PSsf X as f) (hb : PSsf X bs g) : PSf X (.If c as bs pos) (sIf t f g) := by
  refine PSi (ps_if hc ha hb) fun E σ H zz => ?_
  obtain ⟨ι, σd, Hd, fl, σd', Hd', s, hr, e, q⟩ := zz
  obtain ⟨⟨x, H1⟩, e1, e⟩ := Option.bind_eq_some_iff.mp e
  refine ⟨ι, σd, Hd, x, H1, s, hr, e1, fun H' ι' l h => ?_⟩
  cases x with
  | true =>
    rw [if_pos rfl]
    exact ⟨ι', σd, H1, fl, σd', Hd', s.mono l, h, by simpa using e, fun σ2 H2 ι2 l2 h2 s2 => q σ2 H2 ι2 (l.trans l2) h2 s2⟩
  | false =>
    rw [if_neg (by simp)]
    exact ⟨ι', σd, H1, fl, σd', Hd', s.mono l, h, by simpa using e, fun σ2 H2 ι2 l2 h2 s2 => q σ2 H2 ι2 (l.trans l2) h2 s2⟩
noncomputable def sSet (i : Nat) (f : EF) : SF := fun σ H => (f σ H).map fun p => (.nx, σ.set i (some p.1), p.2)
theorem psf_set {i : Nat} {x : Str} {f : EF} {pos' : Pos} (hN : X.N.Nodup) (hi : X.N[i]? = some x) (hx : Loc X.env.scope x) (he : PEf X e f) (hs : swapsWith e (some (.Name x pos')) pos.line X.env = pure false := by rfl) (hf : X.fn x = true ∨ X.env.scope.names.lookup x = some .local := by first | exact .inl rfl | exact .inr rfl | assumption) :
    PSf X (.Assign [.Name x pos'] e pos) (sSet i f) := by
  refine PSi (ps_set hN hi hx he hs hf) fun E σ H zz => ?_
  obtain ⟨ι, σd, Hd, fl, σd', Hd', s, hr, e, q⟩ := zz
  obtain ⟨⟨x, H1⟩, e1, e⟩ := Option.map_eq_some_iff.mp e
  cases e
  exact ⟨ι, σd, Hd, x, H1, s, hr, e1, fun v H' ι' l h r => q _ H' ι' l h ((s.mono l).set r i)⟩
noncomputable def gNm (i : Nat) : GF := fun d σ H => some (σ.set i (some d), H)
theorem pgf_name {i : Nat} {x : Str} (hN : X.N.Nodup) (hi : X.N[i]? = some x) (hx : Loc X.env.scope x) (hf : X.fn x = true ∨ X.env.scope.names.lookup x = some .local := by first | exact .inl rfl | exact .inr rfl | assumption) : PGf X (.Name x pos) (gNm i) := by
  refine PGi (pg_name hN hi hx hf) fun v σ H Q zz => ?_
  obtain ⟨ι, σd, Hd, d, σd', Hd', s, hr, r, e, q⟩ := zz
  cases e
  exact q _ H ι Le.refl hr (s.set r i)
noncomputable abbrev FSet := D → D → D → HD → Option HD
noncomputable def rdSet (K : PySem.W.Frag) (g : FSet) : TSet := fun o i v H Q => ∃ ι od id vd Hd Hd', HRep K H ι Hd ∧ Rep K H ι od o ∧ Rep K H ι id i ∧ Rep K H ι vd v ∧ g od id vd Hd = some Hd' ∧ ∀ H' ι', Le K H ι H' ι' → HRep K H' ι' Hd' → Q H'
noncomputable def PSetf (X : Cx) (g : FSet) : Prop := PSet X (rdSet X.K g)
noncomputable def gSb (fo fi : EF) (g : FSet) : GF := fun d σ H => (fo σ H).bind fun o => (fi σ o.2).bind fun i => (g o.1 i.1 d i.2).map fun H' => (σ, H')
theorem pgf_sub {o i : Expr} {fo fi : EF} {g : FSet} (ho : PEf X o fo) (hi : PEf X i fi) (hs : PSetf X g)
    (ha : ∀ v, assign (.Subscript o i pos) X.env v = (do
      let ov ← holding [v] (eval o X.env)
      let iv ← holding [v, ov] (eval i X.env)
      standAt pos
      holding [v, ov, iv] (setItem ov iv v)
      release [v, ov, iv] []) := by intro _; rfl) : PGf X (.Subscript o i pos) (gSb fo fi g) := by
  refine PGi (pg_sub ho hi hs ha) fun v σ H Q zz => ?_
  obtain ⟨ι, σd, Hd, d, σd', Hd', s, hr, r, e, q⟩ := zz
  obtain ⟨⟨x, H1⟩, e1, e⟩ := Option.bind_eq_some_iff.mp e
  obtain ⟨⟨y, H2⟩, e2, e⟩ := Option.bind_eq_some_iff.mp e
  obtain ⟨H3, e3, e⟩ := Option.map_eq_some_iff.mp e
  obtain ⟨rfl, rfl⟩ := Prod.mk.inj e
  exact ⟨ι, σd, Hd, x, H1, s, hr, e1, fun v1 H1' ι1 l1 h1 r1 => ⟨ι1, σd, H1, y, H2, s.mono l1, h1, e2, fun v2 H2' ι2 l2 h2 r2 =>
    ⟨ι2, x, y, d, H2, H3, h2, r1.mono l2, r2, r.mono (l1.trans l2), e3, fun H' ι' l h => q σ H' ι' ((l1.trans l2).trans l) h (s.mono ((l1.trans l2).trans l))⟩⟩⟩
noncomputable abbrev GFs := List D → SD → HD → Option (SD × HD)
noncomputable def rdGs (K : PySem.W.Frag) (g : GFs) : TGs := fun vs σ H Q => ∃ ι σd Hd ds σd' Hd', SRep K H ι σ σd ∧ HRep K H ι Hd ∧ Paired (Rep K H ι) ds vs ∧ g ds σd Hd = some (σd', Hd') ∧
  ∀ σ' H' ι', Le K H ι H' ι' → HRep K H' ι' Hd' → SRep K H' ι' σ' σd' → Q σ' H'
noncomputable def PGsf (X : Cx) (ts : List Expr) (g : GFs) : Prop := PGs X ts (rdGs X.K g)
noncomputable def gNl : GFs := fun ds σ H => match ds with
  | [] => some (σ, H)
  | _ => none
noncomputable def gCn (g : GF) (h : GFs) : GFs := fun ds σ H => match ds with
  | d :: r => (g d σ H).bind fun p => h r p.1 p.2
  | [] => none
theorem PGsi {ts : List Expr} {t t' : TGs} (h : PGs X ts t) (i : ∀ v σ H Q, t' v σ H Q → t v σ H Q) : PGs X ts t' := fun pins s σ H v u Q I r q => h pins s σ H v u Q I r (i v σ H Q q)
theorem pgsf_nil : PGsf X [] gNl := by
  refine PGsi pgs_nil fun vs σ H Q zz => ?_
  obtain ⟨ι, σd, Hd, ds, σd', Hd', s, hr, r, e, q⟩ := zz
  cases r with
  | nil => cases e; exact ⟨rfl, q σ H ι Le.refl hr s⟩
  | cons _ _ => cases e
theorem pgsf_cons {g : GF} {h : GFs} (h1 : PGf X e g) (h2 : PGsf X es h) (hs : (assignEach (e :: es) X.env).map (·.2) = assign e X.env :: (assignEach es X.env).map (·.2) := by rfl) : PGsf X (e :: es) (gCn g h) := by
  refine PGsi (pgs_cons h1 h2 hs) fun vs σ H Q zz => ?_
  obtain ⟨ι, σd, Hd, ds, σd', Hd', s, hr, r, e, q⟩ := zz
  cases r with
  | nil => cases e
  | cons r rr =>
    obtain ⟨⟨σ1, H1⟩, e1, e⟩ := Option.bind_eq_some_iff.mp e
    exact ⟨_, _, rfl, ι, σd, Hd, _, σ1, H1, s, hr, r, e1, fun σ' H' ι' l h ss => ⟨ι', σ1, H1, _, σd', Hd', ss, h, Prd.mono l rr, e, fun σ2 H2 ι2 l2 h2 s2 => q σ2 H2 ι2 (l.trans l2) h2 s2⟩⟩
noncomputable def gTp (n : Nat) (g : GFs) : GF := fun d σ H => match d with
  | .tup ds => if ds.length = n then g ds σ H else none
  | _ => none
theorem pgf_tup {k n : Nat} {g : GFs} (hc : X.calm = true) (h : PGsf X es g) (hn : (assignEach es X.env).length = n := by rfl) (hst : (assignEach es X.env).findIdx? (·.1) = none := by rfl) : PGf X (.Tuple es k pos) (gTp n g) := by
  refine PGi (pg_tup hc h hn hst) fun v σ H Q zz => ?_
  obtain ⟨ι, σd, Hd, d, σd', Hd', s, hr, r, e, q⟩ := zz
  cases d with
  | tup ds =>
    obtain ⟨a, vs, rfl, h1, p⟩ := rep_tup.mp r
    simp only [gTp] at e
    split at e
    · rename_i hl
      exact ⟨a, vs, rfl, h1, by rw [← Prd.len p]; exact hl, ι, σd, Hd, ds, σd', Hd', s, hr, p, e, q⟩
    · cases e
  | _ => simp [gTp] at e
noncomputable def sAsg (f : EF) (g : GF) : SF := fun σ H => (f σ H).bind fun p => (g p.1 σ p.2).map fun q => (.nx, q.1, q.2)
theorem psf_asg {tg : Expr} {f : EF} {g : GF} (he : PEf X e f) (hg : PGf X tg g) (hs : swapsWithSole [tg] e pos.line X.env = pure false := by rfl) (hw : swappedStores [tg] e X.env = pure none := by rfl)
    (h1 : (assignEach [tg] X.env).map (·.2) = [assign tg X.env] := by rfl) : PSf X (.Assign [tg] e pos) (sAsg f g) := by
  refine PSi (ps_asg he hg hs hw h1) fun E σ H zz => ?_
  obtain ⟨ι, σd, Hd, fl, σd', Hd', s, hr, e, q⟩ := zz
  obtain ⟨⟨x, H1⟩, e1, e⟩ := Option.bind_eq_some_iff.mp e
  obtain ⟨⟨σ2, H2⟩, e2, e⟩ := Option.map_eq_some_iff.mp e
  cases e
  exact ⟨ι, σd, Hd, x, H1, s, hr, e1, fun v H' ι' l h r => ⟨ι', σd, H1, x, σ2, H2, s.mono l, h, r, e2, fun σ3 H3 ι3 l3 h3 s3 => q σ3 H3 ι3 (l.trans l3) h3 s3⟩⟩
noncomputable abbrev OwnD := List (Nat × DO)
noncomputable def okOwn (own : OwnD) (H : HD) : Prop := ∀ p ∈ own, H[p.1]? = some p.2
noncomputable abbrev ItF := SD → HD → Option ((List D × OwnD) × HD)
structure ItRep (K : PySem.W.Frag) (J : It) (xs : List D) (own : OwnD) (H0 : Hp) (ι0 : List Addr) : Prop where
  go : ∀ i H ι Hd, Le K H0 ι0 H ι → HRep K H ι Hd → okOwn own Hd → i < xs.length → J.go i H
  yld : ∀ i H ι Hd d x H', Le K H0 ι0 H ι → HRep K H ι Hd → okOwn own Hd → xs[i]? = some d → J.yld i H x H' → ∃ ι', Le K H ι H' ι' ∧ HRep K H' ι' Hd ∧ Rep K H' ι' d x
  stop : ∀ i H ι Hd, Le K H0 ι0 H ι → HRep K H ι Hd → okOwn own Hd → xs.length ≤ i → J.stop i H
noncomputable def rdI (K : PySem.W.Frag) (f : ItF) : TI := fun σ H R => ∃ ι σd Hd xs own Hd', SRep K H ι σ σd ∧ HRep K H ι Hd ∧ f σd Hd = some ((xs, own), Hd') ∧ ∀ J H' ι', Le K H ι H' ι' → HRep K H' ι' Hd' → ItRep K J xs own H' ι' → R J H'
noncomputable def PIf (X : Cx) (tg iter : Expr) (f : ItF) : Prop := PI X tg iter (rdI X.K f)
theorem PIi {tg iter : Expr} {t t' : TI} (h : PI X tg iter t) (i : ∀ σ H R, t' σ H R → t σ H R) : PI X tg iter t' := fun pins s σ H R I q => h pins s σ H R I (i σ H R q)
open Classical in
noncomputable def forL (own : OwnD) (g : GF) (body : SF) : List D → SF
  | [], σ, H => if okOwn own H then some (.nx, σ, H) else none
  | x :: r, σ, H => if okOwn own H then (g x σ H).bind fun p => (body p.1 p.2).bind fun q => match q.1 with
      | .nx => forL own g body r q.2.1 q.2.2
      | .ct => forL own g body r q.2.1 q.2.2
      | .bk => some (.nx, q.2.1, q.2.2)
      | .rt d => some (.rt d, q.2.1, q.2.2)
    else none
noncomputable def sFor (it : ItF) (g : GF) (body : SF) : SF := fun σ H => (it σ H).bind fun p => forL p.1.2 g body p.1.1 σ p.2
theorem psf_for {tg iter : Expr} {body : List Stmt} {f : ItF} {g : GF} {b : SF} (hp : PassesOwn (model X.prog X.w) X.A X.env X.xe) (hc : X.calm = true) (hi : PIf X tg iter f) (hg : PGf X tg g) (hb : PSsf X body b)
    (hs : ∀ x, foldedSetIterable iter X.env x = pure x := by intro _; rfl) : PSf X (.For tg iter body [] pos) (sFor f g b) := by
  refine PSi (ps_for hp hc hi hg hb hs) fun E σ H zz => ?_
  obtain ⟨ι, σd, Hd, fl, σf, Hf, s, hr, e, q⟩ := zz
  obtain ⟨⟨⟨xs, own⟩, H1⟩, e1, e⟩ := Option.bind_eq_some_iff.mp e
  refine ⟨ι, σd, Hd, xs, own, H1, s, hr, e1, fun J H0 ι0 l0 h0 it => ?_⟩
  refine ⟨fun i m σ H => m = xs.length - i ∧ i ≤ xs.length ∧ ∃ ι σd Hd, Le X.K H0 ι0 H ι ∧ SRep X.K H ι σ σd ∧ HRep X.K H ι Hd ∧ forL own g b (xs.drop i) σd Hd = some (fl, σf, Hf),
    ⟨xs.length, by simp, Nat.zero_le _, ι0, σd, H1, Le.refl, s.mono l0, h0, by simpa using e⟩, ?_⟩
  rintro i m σ2 H2 ⟨rfl, hi, ι2, σd2, Hd2, l2, s2, h2, e2⟩
  by_cases hlt : i < xs.length
  · have ed : xs.drop i = xs[i] :: xs.drop (i + 1) := List.drop_eq_getElem_cons hlt
    rw [ed, forL] at e2
    split at e2
    · rename_i ok
      obtain ⟨⟨σ3, H3⟩, e3, e2⟩ := Option.bind_eq_some_iff.mp e2
      obtain ⟨⟨f4, σ4, H4⟩, e4, e2⟩ := Option.bind_eq_some_iff.mp e2
      refine .inr ⟨it.go i H2 ι2 Hd2 l2 h2 ok hlt, fun σ' H' => (xs.length - (i + 1) = xs.length - (i + 1) ∧ i + 1 ≤ xs.length ∧ ∃ ι σd Hd, Le X.K H0 ι0 H' ι ∧ SRep X.K H' ι σ' σd ∧ HRep X.K H' ι Hd ∧ forL own g b (xs.drop (i + 1)) σd Hd = some (fl, σf, Hf)),
        fun σ' H' p => ⟨_, by omega, p⟩, fun x H' y => ?_⟩
      obtain ⟨ι3, l3, h3, r3⟩ := it.yld i H2 ι2 Hd2 xs[i] x H' l2 h2 ok (by simp [hlt]) y
      refine ⟨ι3, σd2, Hd2, xs[i], σ3, H3, s2.mono l3, h3, r3, e3, fun σ5 H5 ι5 l5 h5 s5 => ?_⟩
      refine ⟨ι5, σ3, H3, f4, σ4, H4, s5, h5, e4, fun σ6 H6 ι6 l6 h6 s6 => ?_⟩
      have L : Le X.K H0 ι0 H6 ι6 := ((l2.trans l3).trans l5).trans l6
      cases f4 with
      | nx => exact ⟨rfl, hlt, ι6, σ4, H4, L, s6, h6, e2⟩
      | ct => exact ⟨rfl, hlt, ι6, σ4, H4, L, s6, h6, e2⟩
      | bk => cases e2; exact q σ6 H6 ι6 (l0.trans L) h6 s6
      | rt d => cases e2; exact q σ6 H6 ι6 (l0.trans L) h6 s6
    · cases e2
  · have hi' : i = xs.length := by omega
    rw [List.drop_eq_nil_of_le (by omega), forL] at e2
    split at e2
    · rename_i ok
      have e3 : (FD.nx, σd2, Hd2) = (fl, σf, Hf) := Option.some.inj e2
      obtain ⟨rfl, e4⟩ := Prod.mk.inj e3
      obtain ⟨rfl, rfl⟩ := Prod.mk.inj e4
      exact .inl ⟨it.stop i H2 ι2 _ l2 h2 ok (by omega), q σ2 H2 ι2 (l0.trans l2) h2 s2⟩
    · cases e2
end
noncomputable def runB (n N : Nat) (b : SF) : FF := fun ds H => if ds.length = n then (b (ds.map some ++ List.replicate (N - ds.length) none) H).bind fun r => match r.1 with
    | .rt d => some (d, r.2.2)
    | .nx => some (.non, r.2.2)
    | _ => none
  else none
section
variable {P : Program} {w : World} {K : PySem.W.Frag} {mg : Str → Option Value} {base : Heap}
theorem fn_f {x qual : Str} {st : Stmt} {f : Addr} {fd : FuncData} {N ps : List Str} {k : Nat} {b : SF} (F : Fun K x qual st f fd) (S : FnScope N ps (defScope st))
    (hb : ∀ (cdv : Value) (A : Around) (outer : List Env) (s : Shared) (H : Hp) (E : XK), Room k (A.deeper (envOfC qual (defScope st) s.heap.objs.size f cdv)) →
      PSsf (cxOf CX0 P w K mg base N qual (defScope st) f cdv A outer s H E).nox (defBody st) b) : FnOk P w K mg base CX0 (k + 1) f fd ps (spF K ps.length (runB ps.length N.length b)) := by
  refine F.ok S (fun vs H Q E h => ?_) (fun cdv A outer s H vs Q E hr h => ?_)
  · obtain ⟨ι, ds, Hd, d, Hd', hl, _, r, _⟩ := h
    rw [← Prd.len r]; exact hl
  · obtain ⟨ι, ds, Hd, d, Hd', hl, hh, r, e, q⟩ := h
    refine ⟨_, hb cdv A outer s H E hr, ?_⟩
    unfold runB at e
    rw [if_pos hl] at e
    obtain ⟨⟨fl, σ1, H1⟩, e1, e⟩ := Option.bind_eq_some_iff.mp e
    refine ⟨ι, _, Hd, fl, σ1, H1, ?_, hh, e1, fun σ' H' ι' l h ss => ?_⟩
    · refine ⟨by simp [L2.start, Prd.len r], fun i d0 h0 => ?_⟩
      unfold L2.start
      by_cases hi : i < ds.length
      · rw [List.getElem?_append_left (by simpa using hi), List.getElem?_map] at h0
        cases ed : ds[i]? with
        | none => rw [ed] at h0; cases h0
        | some d1 =>
          rw [ed] at h0
          cases h0
          obtain ⟨v, hv, rv⟩ := Prd.get r ed
          refine ⟨v, ?_, rv⟩
          rw [List.getElem?_append_left (by rw [List.length_map, ← Prd.len r]; exact hi), List.getElem?_map, hv]
          rfl
      · rw [List.getElem?_append_right (by simpa using hi), List.getElem?_replicate] at h0
        split at h0 <;> cases h0
    · cases fl with
      | rt d1 => cases e; exact fun v rv => q v H' ι' l h rv
      | nx => cases e; exact q .non H' ι' l h (by simp)
      | bk => cases e
      | ct => cases e
end
end DL
namespace DL
open PySem PySem.Spec PyProof.Rows L2
noncomputable def clOf (env : Env) : List (Str × NameKind) → List (Str × Addr) → List (Str × Addr)
  | [], cs => cs
  | (n, k) :: r, cs => clOf env r (if k = .free then (match env.cells.lookup n with | some a => (n, a) :: cs | none => cs) else cs)
theorem closure_eq (env : Env) (scope : Scope) (h : ∀ y ∈ scope.names, y.2 = .free → (env.cells.lookup y.1).isSome = true) : closureFor scope env = pure (clOf env scope.names []) := by
  have key : ∀ (ns : List (Str × NameKind)) (cs : List (Str × Addr)), (∀ y ∈ ns, y.2 = .free → (env.cells.lookup y.1).isSome = true) →
      (forIn ns cs fun (x : Str × NameKind) cs => match x with
        | (name, kind) => if (kind == .free) = true then (do let a ← cellOf env name; pure (ForInStep.yield ((name, a) :: cs))) else pure (ForInStep.yield cs) : Sem (List (Str × Addr))) = pure (clOf env ns cs) := by
    intro ns
    induction ns with
    | nil => intro cs _; rfl
    | cons x r ih =>
      intro cs hh
      obtain ⟨n, k⟩ := x
      have hr := ih
      rw [List.forIn_cons]
      by_cases hk : k = .free
      · subst hk
        have q := hh (n, .free) (by simp) rfl
        cases e : env.cells.lookup n with
        | none => rw [e] at q; cases q
        | some a =>
          have e2 : cellOf env n = pure a := by unfold cellOf; rw [e]
          simp only [beq_self_eq_true, if_true, e2, pure_bind, clOf, e]
          exact ih _ fun y hy => hh y (List.mem_cons_of_mem _ hy)
      · have hb : (k == NameKind.free) = false := by simpa using hk
        simp only [hb, Bool.false_eq_true, if_false, pure_bind, clOf, hk]
        exact ih _ fun y hy => hh y (List.mem_cons_of_mem _ hy)
  have e : closureFor scope env = ((forIn scope.names [] fun (x : Str × NameKind) cs => match x with
        | (name, kind) => if (kind == .free) = true then (do let a ← cellOf env name; pure (ForInStep.yield ((name, a) :: cs))) else pure (ForInStep.yield cs) : Sem (List (Str × Addr))) >>= pure) := rfl
  rw [e, bind_pure]
  exact key scope.names [] h
theorem clOf_sub (env : Env) : ∀ (ns : List (Str × NameKind)) (cs : List (Str × Addr)), (∀ x c, cs.lookup x = some c → env.cells.lookup x = some c) → ∀ x c, (clOf env ns cs).lookup x = some c → env.cells.lookup x = some c
  | [], cs, h => h
  | (n, k) :: r, cs, h => by
    unfold clOf
    refine clOf_sub env r _ ?_
    split
    · cases e : env.cells.lookup n with
      | none => exact h
      | some a =>
        intro x c q
        dsimp only at q
        rw [List.lookup_cons] at q
        split at q
        · rename_i hb
          have hb' : x = n := by simpa using hb
          subst hb'; cases q; exact e
        · exact h x c q
    · exact h
theorem clOf_has (env : Env) : ∀ (ns : List (Str × NameKind)) (cs : List (Str × Addr)) (x : Str), ((cs.lookup x).isSome = true ∨ ((x, NameKind.free) ∈ ns ∧ (env.cells.lookup x).isSome = true)) → ((clOf env ns cs).lookup x).isSome = true
  | [], cs, x, h => by
    rcases h with h | ⟨h, _⟩
    · exact h
    · simp at h
  | (n, k) :: r, cs, x, h => by
    unfold clOf
    refine clOf_has env r _ x ?_
    by_cases hk : k = .free
    · rw [if_pos hk]
      cases e : env.cells.lookup n with
      | none =>
        rcases h with h | ⟨h, h2⟩
        · exact .inl h
        · rcases List.mem_cons.mp h with h | h
          · cases h; rw [e] at h2; cases h2
          · exact .inr ⟨h, h2⟩
      | some a =>
        dsimp only
        rw [List.lookup_cons]
        by_cases hx : x = n
        · subst hx; simp
        · have : (x == n) = false := by simpa using hx
          rw [this]
          rcases h with h | ⟨h, h2⟩
          · exact .inl h
          · rcases List.mem_cons.mp h with h | h
            · cases h; exact absurd rfl hx
            · exact .inr ⟨h, h2⟩
    · rw [if_neg hk]
      rcases h with h | ⟨h, h2⟩
      · exact .inl h
      · rcases List.mem_cons.mp h with h | h
        · cases h; exact absurd rfl hk
        · exact .inr ⟨h, h2⟩
theorem relabel_vis {env : Env} : ∀ {names : List (Str × NameKind)} {x : Str}, names.lookup x = some .free →
    ((names.map fun (n, k) => if (k == NameKind.free && env.scope.kind == .function && env.kindOf n == some .cell) then (n, NameKind.cell) else (n, k)).lookup x = some .cell ∨
     (names.map fun (n, k) => if (k == NameKind.free && env.scope.kind == .function && env.kindOf n == some .cell) then (n, NameKind.cell) else (n, k)).lookup x = some .free)
  | [], _, h => by simp at h
  | (n, k) :: r, x, h => by
    have ih := @relabel_vis env r x
    show List.lookup x ((if (k == NameKind.free && env.scope.kind == .function && env.kindOf n == some .cell) = true then (n, NameKind.cell) else (n, k)) :: _) = _ ∨ List.lookup x ((if (k == NameKind.free && env.scope.kind == .function && env.kindOf n == some .cell) = true then (n, NameKind.cell) else (n, k)) :: _) = _
    cases hx : x == n with
    | true =>
      simp only [List.lookup_cons, hx] at h
      cases h
      by_cases hc : (NameKind.free == NameKind.free && env.scope.kind == .function && env.kindOf n == some .cell) = true
      · rw [if_pos hc]; simp only [List.lookup_cons, hx]; simp
      · rw [if_neg hc]; simp only [List.lookup_cons, hx]; simp
    | false =>
      simp only [List.lookup_cons, hx] at h
      by_cases hc : (k == NameKind.free && env.scope.kind == .function && env.kindOf n == some .cell) = true
      · rw [if_pos hc]; simp only [List.lookup_cons, hx]; exact ih h
      · rw [if_neg hc]; simp only [List.lookup_cons, hx]; exact ih h
theorem relabel_free {env : Env} : ∀ {names : List (Str × NameKind)} {x : Str}, (∀ y ∈ names, y.2 ≠ .cell) →
    ((names.map fun (n, k) => if (k == NameKind.free && env.scope.kind == .function && env.kindOf n == some .cell) then (n, NameKind.cell) else (n, k)).lookup x = some .cell ∨
     (names.map fun (n, k) => if (k == NameKind.free && env.scope.kind == .function && env.kindOf n == some .cell) then (n, NameKind.cell) else (n, k)).lookup x = some .free) → (x, NameKind.free) ∈ names
  | [], _, _, h => by simp at h
  | (n, k) :: r, x, hn, h => by
    have ih := @relabel_free env r x (fun y hy => hn y (List.mem_cons_of_mem _ hy))
    have h : List.lookup x ((if (k == NameKind.free && env.scope.kind == .function && env.kindOf n == some .cell) = true then (n, NameKind.cell) else (n, k)) :: _) = _ ∨ List.lookup x ((if (k == NameKind.free && env.scope.kind == .function && env.kindOf n == some .cell) = true then (n, NameKind.cell) else (n, k)) :: _) = _ := h
    cases hx : x == n with
    | true =>
      have hx' : x = n := by simpa using hx
      subst hx'
      by_cases hc : (k == NameKind.free && env.scope.kind == .function && env.kindOf x == some .cell) = true
      · have hk : k = .free := by
          rw [Bool.and_eq_true, Bool.and_eq_true] at hc
          simpa using hc.1.1
        subst hk; simp
      · rw [if_neg hc] at h
        simp only [List.lookup_cons, hx] at h
        rcases h with h | h
        · cases h; exact absurd rfl (hn (x, .cell) (by simp))
        · cases h; simp
    | false =>
      refine List.mem_cons_of_mem _ (ih ?_)
      by_cases hc : (k == NameKind.free && env.scope.kind == .function && env.kindOf n == some .cell) = true
      · rw [if_pos hc] at h; simp only [List.lookup_cons, hx] at h; exact h
      · rw [if_neg hc] at h; simp only [List.lookup_cons, hx] at h; exact h
noncomputable def blk (X : Cx) (scope : Scope) (N : List Str) (cl : List (Str × Addr)) (C : Addr) (s : Shared) (H : Hp) (fp : List Addr) (pn : List (Addr × Obj)) : Cx where
  prog := X.prog
  w := X.w
  K := X.K
  mg := X.mg
  base := X.base
  A := X.A
  N := N
  s₀ := s
  H₀ := H
  env := compEnvC scope cl C X.env
  outer := X.stack
  stack := X.stack
  ex := fp
  fn := fun _ => false
  calm := X.calm
  pn := pn
  xe := fun _ _ => False
structure BlkOk (X : Cx) (scope : Scope) (x : Str) (cn : List Str) (ci : List Nat) : Prop where
  kind : scope.kind = .function
  nocell : ∀ y ∈ scope.names, y.2 ≠ .cell
  names : ∀ y ∈ scope.names, y.2 = .local → scope.names.lookup y.1 = some .local
  tgt : scope.names.lookup x = some .local
  free : ∀ y ∈ scope.names, y.2 = .free → (X.env.cells.lookup y.1).isSome = true
  nd : (x :: cn).Nodup
  len : ci.length = cn.length
  cap : ∀ (j : Nat) (y : Str), cn[j]? = some y → ∃ i, ci[j]? = some i ∧ X.N[i]? = some y ∧ scope.names.lookup y = some .free ∧ (X.env.kindOf y = some .cell ∨ X.env.kindOf y = some .free)
noncomputable def capS (ci : List Nat) (σ : L2.St) : L2.St := ci.map fun i => (σ[i]?).join
section
variable {X : Cx} {pins : List (Addr × Obj)} {σ : L2.St} {H : Hp} {s : Shared} {scope : Scope} {x : Str} {cn : List Str} {ci : List Nat} {fp : List Addr}
theorem inv_blk {h₁ : Heap} {tk : Nat} {o₁ : Obj} (I : Inv X pins σ H s) (B : BlkOk X scope x cn ci) (hf : ∀ b ∈ fp, FpOk X pins H b) (hlt : ∀ b ∈ fp, b < s.heap.objs.size)
    (hns : h₁.Ns s.heap.objs.size (fun _ => none)) (hsb : Heap.SameBut s.heap.objs.size (s.heap.push o₁) h₁) :
    Inv (blk X scope (x :: cn) (clOf X.env scope.names []) s.heap.objs.size s H fp (X.pn ++ pins)) [] (none :: capS ci σ) H { s with heap := h₁, toks := tk } := by
  have old : ∀ b o, s.heap.get? b = some o → h₁.get? b = some o := fun b o e => hsb.extBut b o (Nat.ne_of_lt (Heap.lt_size e)) (Heap.get?_push_of_some _ e)
  have sub := clOf_sub X.env scope.names [] (by intro x c h; simp at h)
  have has : ∀ y, (y, NameKind.free) ∈ scope.names → ∃ c, (clOf X.env scope.names []).lookup y = some c := fun y hy =>
    Option.isSome_iff_exists.mp (clOf_has X.env scope.names [] y (.inr ⟨hy, B.free _ hy rfl⟩))
  refine ⟨⟨I.ok.mod, B.kind, I.ok.glob, I.ok.blt, Nat.le_refl _, fun y z c h1 h2 => I.ok.inj y z c (sub y c h1) (sub z c h2), fun y hy => has y (relabel_free B.nocell hy), fun y c hy => absurd hy (by show ¬ (false = true); simp), I.ok.hd, I.ok.frames, .inl rfl,
      fun b hb => ⟨Nat.ne_of_lt (hlt b hb), fun y c e => (hf b hb).2.2.2.2.1 y c (sub y c e)⟩, I.bs, Nat.le_trans I.ok.bsz I.sz, fun b o e hb => ?_, fun b hb z => ?_, I.stack, I.stkFree⟩,
    rfl, I.bare, Un.kept old, ⟨_, hns, fun i y v h1 h2 h3 => ?_⟩, fun y c e => ?_, I.hok.fresh (Nat.le_refl _), fun y c e => I.freeC y c (sub y c e), fun p hp => ?_, I.hok.kept old, ?_⟩
  · rcases (hf b hb).2.2.2.1 with z | z
    · exact I.ok.noex b o e z
    · exact absurd (Nat.lt_of_lt_of_le (Heap.lt_size e) (Nat.le_trans I.ok.bsz z)) (Nat.lt_irrefl _)
  · exact (List.mem_cons.mp (I.stkSub b z)).elim (hf b hb).2.1 (hf b hb).2.2.1
  · cases i with
    | zero => simp at h2
    | succ j =>
      have h1' : cn[j]? = some y := by simpa [blk] using h1
      have h2' : (capS ci σ)[j]? = some (some v) := by simpa using h2
      obtain ⟨i, e1, e2, e3, e4⟩ := B.cap j y h1'
      have e5 : σ[i]? = some (some v) := by
        unfold capS at h2'
        rw [List.getElem?_map, e1] at h2'
        simp at h2'
        cases e : σ[i]? with
        | none => rw [e] at h2'; cases h2'
        | some o => rw [e] at h2'; simp at h2'; rw [h2']
      obtain ⟨m, hn, hl⟩ := I.loc
      have hv : Vis X.env.scope y := by
        rcases e4 with e4 | e4
        · exact .inr (.inl e4)
        · exact .inr (.inr e4)
      obtain ⟨u, r, l⟩ := hl i y v e2 e5 hv
      refine ⟨u, r, .inr ⟨relabel_vis e3, ?_⟩⟩
      obtain ⟨c, ec⟩ := has y (PySem.mem_of_lookup e3)
      refine ⟨c, ec, ?_⟩
      rcases l with ⟨l, _⟩ | ⟨_, c', ec', hc⟩
      · rcases e4 with e4 | e4 <;> rw [e4] at l <;> cases l
      · rw [sub y c ec] at ec'
        cases ec'
        obtain ⟨ob, q1, q2⟩ := hc
        exact ⟨ob, old _ _ q1, q2⟩
  · obtain ⟨v, ob, q1, q2⟩ := I.cell y c (sub y c e)
    exact ⟨v, ob, old _ _ q1, q2⟩
  · have hp' : p ∈ X.pn ++ pins := by simpa [blk] using hp
    obtain ⟨q1, q2, q3, q4, q5⟩ := I.pin p hp'
    refine ⟨old _ _ q1, q2, Nat.ne_of_lt (Heap.lt_size q1), fun z => ?_, q5⟩
    exact (List.mem_cons.mp (I.stkSub p.1 z)).elim q3 q4
  · simp [blk, capS, B.len]
noncomputable def PTs (X : Cx) (ifs : List Expr) (t : TT) : Prop :=
  ∀ (pins : List (Addr × Obj)) (s : Shared) (σ : L2.St) (H : Hp) (Q : Bool → Hp → Prop), Inv X pins σ H s → t σ H Q →
    wpAny (model X.prog X.w) X.A (forIn ifs true fun c r => if r = true then do let ok ← isTrue c X.env (eval c X.env); pure (ForInStep.yield ok) else pure (ForInStep.yield r)) (TP X pins σ Q) X.xe s
theorem pts_nil : PTs X [] (fun _ H Q => Q true H) := fun _ _ _ H _ I h => wpAny_tests_nil ⟨H, I, h⟩
theorem pts_one {c : Expr} {t : TT} (h : PT X c t) : PTs X [c] t := fun pins s σ H Q I q => wpAny_tests_one (h pins s σ H Q I q)
noncomputable def LcW (J : It) (ci : List Nat) (tt : TT) (te : TE) (σ : L2.St) (Q : VK) (H1 : Hp) : Prop := ∀ p, H1 p = none → ∃ W : Nat → Nat → List V → Hp → Prop, (∃ m, W 0 m [] (upd H1 p (.lst []))) ∧ ∀ i m ys H, W i m ys H →
  H p = some (.lst ys) ∧ ((J.stop i H ∧ Q (.ref p) H) ∨ (J.go i H ∧ ∀ v H', J.yld i H v H' → tt (some v :: capS ci σ) H' fun b H2 =>
    if b = true then te (some v :: capS ci σ) H2 fun y H3 => H3 p = some (.lst ys) ∧ ys.length < sizeLine ∧ ∃ m', m' < m ∧ W (i + 1) m' (ys ++ [y]) (upd H3 p (.lst (ys ++ [y])))
    else ∃ m', m' < m ∧ W (i + 1) m' ys H2))
structure Gone (X : Cx) (pins : List (Addr × Obj)) (H : Hp) (s : Shared) (C : Addr) : Prop where
  ns : ∃ m, s.heap.Ns C m
  free : H C = none
  nl : C ≠ X.env.locals
  up : X.s₀.heap.objs.size ≤ C
  nc : ∀ x c, X.env.cells.lookup x = some c → c ≠ C
  np : ∀ p ∈ X.pn ++ pins, p.1 ≠ C
theorem Gone.go {σ : L2.St} {h' : Heap} {C : Addr} (g : Gone X pins H s C) (I : Inv X pins σ H s) (hs : Heap.SameBut C s.heap h') : Inv X pins σ H { s with heap := h' } :=
  I.turned (t' := s.toks) (fun b o hb e => hs.extBut b o hb e) g.free g.nl (.inr g.up) g.nc g.np
theorem lc_block {elt iter : Expr} {px pos : Pos} {ifs : List Expr} {tt : TT} {te : TE} {Q : VK} {E : Value → Shared → Prop} {RR : Value → Addr → Result → Shared → Prop} {it : Addr} {tn : Nat → Heap → Prop} {J : It}
    (I : Inv X pins σ H s) (hc : X.calm = true) (B : BlkOk X scope x cn ci) (T : Turn X.prog X.w X.K (.Name x px) J fp it tn) (st : tn 0 s.heap) (hf : ∀ b ∈ fp, FpOk X pins H b)
    (ht : ∀ cl C s H fp pn, PTs (blk X scope (x :: cn) cl C s H fp pn) ifs tt) (he : ∀ cl C s H fp pn, PE (blk X scope (x :: cn) cl C s H fp pn) elt te)
    (hw : LcW J ci tt te σ Q H) (hRR : ∀ p C H' s', Inv X pins σ H' s' → Gone X pins H' s' C → Q (.ref p) H' → RR (.ref p) C (.ok .next) s') :
    wpAny (model X.prog X.w) X.A (newList []) (fun acc s₃ => wpAny (model X.prog X.w) X.A (newFunctionEnv scope X.env.globals (clOf X.env scope.names []) [] X.env.qual none .none (some X.env)) (fun cenv s₄ =>
      codeAny (model X.prog X.w) X.A (.compStart (.ListComp elt [⟨.Name x px, iter, ifs, 0⟩] scope pos) 0 (.ref it) acc { cenv with scope := relabel scope X.env }) (RR acc cenv.locals) s₄) E s₃) E s := by
  have hp0 : H s.heap.objs.size = none := I.hok.fresh (Nat.le_refl _)
  obtain ⟨W, ⟨m0, w0⟩, turn⟩ := hw _ hp0
  refine wpAny_newObj_type (wpAny_newFunctionEnv B.nocell (by intro y hy; simp at hy) (fun h₁ hns₁ hsb₁ => ?_) B.kind)
  dsimp only at hns₁ hsb₁ ⊢
  have I3 : Inv X pins σ (upd H s.heap.objs.size (.lst [])) { s with heap := s.heap.push { cls := .type "list", dict := none, data := .seq ([] : List Value).toArray } } :=
    I.laid (t' := s.toks) (fun b u e => Heap.get?_push_of_some _ e) (Nat.le_refl _) ⟨Nat.zero_le _, [], 0, .nil, Heap.get?_push_size _ rfl⟩
  generalize hH3 : s.heap.push { cls := .type "list", dict := none, data := .seq ([] : List Value).toArray } = hp3 at hns₁ hsb₁ I3 ⊢
  have flt : ∀ b ∈ fp, b < s.heap.objs.size := fun b hb => by
    obtain ⟨o, e, _⟩ := T.obj 0 _ st b hb
    exact Heap.lt_size e
  have sz3 : hp3.objs.size = s.heap.objs.size + 1 := by rw [← hH3, Heap.size_push]
  have f3 : ∀ b ∈ fp, FpOk X pins (upd H s.heap.objs.size (.lst [])) b := fun b hb => ⟨by rw [upd_ne (Nat.ne_of_lt (flt b hb))]; exact (hf b hb).1, (hf b hb).2⟩
  have old3 : ∀ b o, s.heap.get? b = some o → hp3.get? b = some o := fun b o e => by rw [← hH3]; exact Heap.get?_push_of_some _ e
  have I4 := inv_blk (s := { s with heap := hp3 }) (tk := s.toks + ([] : List (Str × Value)).length) I3 B f3 (fun b hb => by show b < hp3.objs.size; rw [sz3]; exact Nat.lt_succ_of_lt (flt b hb)) (by simpa using hns₁) hsb₁
  have old4 : ∀ b o, hp3.get? b = some o → h₁.get? b = some o := fun b o e => hsb₁.extBut b o (Nat.ne_of_lt (Heap.lt_size e)) (Heap.get?_push_of_some _ e)
  generalize hX' : blk X scope (x :: cn) (clOf X.env scope.names []) hp3.objs.size { s with heap := hp3 } (upd H s.heap.objs.size (.lst [])) fp (X.pn ++ pins) = X' at I4
  have ePr : X'.prog = X.prog := by rw [← hX']; rfl
  have eW : X'.w = X.w := by rw [← hX']; rfl
  have eK : X'.K = X.K := by rw [← hX']; rfl
  have eA : X'.A = X.A := by rw [← hX']; rfl
  have eEnv : X'.env = compEnvC scope (clOf X.env scope.names []) hp3.objs.size X.env := by rw [← hX']; rfl
  have eEx : X'.ex = fp := by rw [← hX']; rfl
  have ht' : PTs X' ifs tt := by rw [← hX']; exact ht _ _ _ _ _ _
  have he' : PE X' elt te := by rw [← hX']; exact he _ _ _ _ _ _
  have eXe : X'.xe = fun _ _ => False := by rw [← hX']; rfl
  have hg' : PG X' (.Name x px) (gName 0) := by
    rw [← hX']
    exact pg_name (X := blk X scope (x :: cn) _ _ _ _ _ _) B.nd rfl (.inl (lookup_relabel_local B.tgt)) (.inr (lookup_relabel_local B.tgt))
  -- the iterator's objects, seen from the block
  have stat : ∀ {H' : Hp}, (∀ b ∈ fp, H' b = none) → ∀ b ∈ fp, FpOk X' [] H' b := fun {H'} hn b hb => by
    rw [← hX']
    refine ⟨hn b hb, (by show b ≠ hp3.objs.size; rw [sz3]; exact Nat.ne_of_lt (Nat.lt_succ_of_lt (flt b hb))), fun z => (List.mem_cons.mp (I3.stkSub b z)).elim (hf b hb).2.1 (hf b hb).2.2.1, .inl hb, fun y c e => ?_, fun p hp => ?_⟩
    · exact (hf b hb).2.2.2.2.1 y c (clOf_sub X.env scope.names [] (by intro x c h; simp at h) y c e)
    · exact (hf b hb).2.2.2.2.2 p (by simpa [blk] using hp)
  have back : ∀ {σ' : L2.St} {H' : Hp} {s' : Shared}, Inv X' [] σ' H' s' → Inv X pins σ H' s' ∧ Gone X pins H' s' hp3.objs.size := fun {σ' H' s'} I5 => by
    have u : Un (frs X.stack) fp (upd H s.heap.objs.size (.lst [])) H' hp3 s'.heap := by
      have := I5.base
      rw [← hX'] at this
      exact this
    have hok : HOk X.prog X.w H' s'.heap := by have := I5.hok; rw [ePr, eW] at this; exact this
    have ho : s'.os = s.os := by have := I5.os; rw [← hX'] at this; exact this
    refine ⟨I3.call' ho u hok I5.bare fun b hb => ⟨(hf b hb).2.2.2.1, (hf b hb).2.1, (hf b hb).2.2.2.2.1, (hf b hb).2.2.2.2.2⟩, ?_, ?_, ?_, ?_, fun y c e z => ?_, fun p hp z => ?_⟩
    · obtain ⟨m, hn, _⟩ := I5.loc
      rw [eEnv] at hn
      exact ⟨m, hn⟩
    · have := I5.free
      rw [eEnv] at this
      exact this
    · exact Nat.ne_of_gt (I3.lt)
    · exact I3.sz
    · obtain ⟨v, q⟩ := I3.cell y c e
      exact absurd (Nat.lt_of_lt_of_le q.lt (by rw [z]; exact Nat.le_refl _)) (Nat.lt_irrefl _)
    · have := Heap.lt_size (I3.pin p hp).1
      rw [z] at this
      exact Nat.lt_irrefl _ this
  have loop : codeAny (model X.prog X.w) X.A (.compLoop (.ListComp elt [⟨.Name x px, iter, ifs, 0⟩] scope pos) 0 (.ref it) (.ref s.heap.objs.size) (compEnvC scope (clOf X.env scope.names []) hp3.objs.size X.env))
      (RR (.ref s.heap.objs.size) hp3.objs.size) { s with heap := h₁, toks := s.toks + ([] : List (Str × Value)).length } := by
    refine codeAny_loop rfl (fun n s' => ∃ i o ys H', Inv X' [] (o :: capS ci σ) H' s' ∧ tn i s'.heap ∧ (∀ b ∈ fp, H' b = none) ∧ W i n ys H') (fun n s' hI => ?_) m0
      ⟨0, none, [], _, I4, T.keep _ _ _ st (fun b hb o e => old4 b o (old3 b o e)), fun b hb => (f3 b hb).1, w0⟩
    obtain ⟨i, o, ys, H', I5, st5, fr5, w5⟩ := hI
    show wpAny _ X.A ((compTurn (.ListComp elt [⟨.Name x px, iter, ifs, 0⟩] scope pos) 0 (.ref it) (.ref s.heap.objs.size) (compEnvC scope (clOf X.env scope.names []) hp3.objs.size X.env)).onRaise (fun x => do noteFrame x (compEnvC scope (clOf X.env scope.names []) hp3.objs.size X.env); theTreesLotGoes x)) _ _ s'
    refine wpAny_noted ?_
    rw [compTurn_list, ← eEnv, ← ePr, ← eW, ← eA]
    refine wpAny_mono (E := fun _ _ => False) ?_ (fun _ _ q => q) (fun _ _ z => z.elim)
    obtain ⟨hpl, wt⟩ := turn i n ys H' w5
    refine wpAny_bind (wpAny_standAt (wpAny_bind ?_))
    rcases wt with ⟨stop, q⟩ | ⟨go, step⟩
    · have z := T.done X' ePr eW eK (by rw [← hX']; exact hc) i [] s' _ H' (fun _ _ => False) I5 (stat fr5) st5 stop
      rw [← ePr, ← eW] at z
      refine thn z fun r s6 zz => ?_
      obtain ⟨hr, I6⟩ := zz
      subst hr
      obtain ⟨J1, g1⟩ := back I6
      exact wpAny_pure (hRR _ _ H' s6 J1 g1 q)
    · have z := T.item X' ePr eW eK (by rw [← hX']; exact hc) i [] s' _ H' (fun _ _ => False) I5 (stat fr5) st5 go
      rw [← ePr, ← eW] at z
      refine thn z fun r s6 zz => ?_
      obtain ⟨u, hr, h6⟩ := zz
      subst hr
      refine wpAny_bind (thn h6 fun _ s7 zz => ?_)
      obtain ⟨v, H7, I7, r7, y7, st7, fr7⟩ := zz
      have I7' := I7.pinned (stat fr7) (T.obj _ _ st7)
      rw [← eXe]
      refine wpAny_bind (thn (hg' _ s7 _ H7 v u _ I7' r7 (show gName 0 v (o :: capS ci σ) H7 (fun σ8 H8 => σ8 = some v :: capS ci σ ∧ H8 = H7) from ⟨rfl, rfl⟩)) fun _ s8 zz => ?_)
      obtain ⟨σ8, H8, I8, e8, e8'⟩ := zz
      subst e8 e8'
      refine wpAny_bind (thn (ht' _ s8 _ _ _ I8 (step v _ y7)) fun b s9 zz => ?_)
      obtain ⟨H9, I9, q9⟩ := zz
      have tnK : ∀ {σ' : L2.St} {H' : Hp} {s' : Shared}, Inv X' (([] : List (Addr × Obj)) ++ pinsAt fp s7.heap) σ' H' s' → tn (i + 1) s'.heap ∧ ∀ b ∈ fp, H' b = none := fun {σ' H' s'} I' =>
        ⟨T.keep _ _ _ st7 fun b hb o e => (I'.pin (b, o) (List.mem_append_right _ (List.mem_append_right _ (mem_pinsAt hb e)))).1, fun b hb => by
          obtain ⟨ob, e, d⟩ := T.obj _ _ st7 b hb
          exact (I'.pin (b, ob) (List.mem_append_right _ (List.mem_append_right _ (mem_pinsAt hb e)))).2.1⟩
      cases b with
      | false =>
        obtain ⟨m', hm, w9⟩ := q9
        obtain ⟨t9, f9⟩ := tnK I9
        exact wpAny_pure ⟨rfl, m', hm, i + 1, _, ys, H9, I9.unpinned, t9, f9, w9⟩
      | true =>
        refine wpAny_bind (wpAny_bind (thn (he' _ s9 _ _ _ I9 q9) fun yv s10 zz => ?_))
        obtain ⟨y, H10, I10, r10, hp10, hz10, m', hm, w10⟩ := zz
        refine wpAny_bind (thn (mt_append (X := X') _ s10 _ H10 (.ref s.heap.objs.size) [y] (.ref s.heap.objs.size) [yv] (fun _ H11 => H11 = upd H10 s.heap.objs.size (.lst (ys ++ [y]))) I10 rfl (.cons r10 .nil) ⟨_, ys, y, rfl, rfl, hp10, hz10, rfl⟩) fun _ s11 zz => ?_)
        obtain ⟨_, H11, I11, _, e11⟩ := zz
        subst e11
        obtain ⟨t11, f11⟩ := tnK I11
        exact wpAny_pure (wpAny_pure ⟨rfl, m', hm, i + 1, _, ys ++ [y], _, I11.unpinned, t11, f11, w10⟩)
  exact codeAny_compStart_list loop (T.self _ 0 _ _ _ (T.keep _ _ _ st (fun b hb o e => old4 b o (old3 b o e))) loop)
noncomputable def tLC (wi : TI) (ci : List Nat) (tt : TT) (te : TE) : TE := fun σ H Q => wi σ H fun J H1 => LcW J ci tt te σ Q H1
theorem pe_lc {elt iter : Expr} {px pos : Pos} {ifs : List Expr} {wi : TI} {tt : TT} {te : TE} (hc : X.calm = true) (B : BlkOk X scope x cn ci) (hi : PI X (.Name x px) iter wi)
    (ht : ∀ cl C s H fp pn, PTs (blk X scope (x :: cn) cl C s H fp pn) ifs tt) (he : ∀ cl C s H fp pn, PE (blk X scope (x :: cn) cl C s H fp pn) elt te)
    (hs : ∀ x, foldedSetIterable iter X.env x = pure x := by rintro _; rfl) : PE X (.ListComp elt [⟨.Name x px, iter, ifs, 0⟩] scope pos) (tLC wi ci tt te) := by
  intro pins s σ H Q I h
  rw [eval_ListComp]
  refine wpAny_comprehension_free (use := none) rfl hs (closure_eq X.env scope B.free) B.kind B.names ?_
  refine thn (hi pins s σ H _ I h) fun v s1 h1 => thn h1 fun itv s2 h2 => ?_
  obtain ⟨it, fp, tn, J, H2, e, I2, T, st2, f2, w2⟩ := h2
  subst e
  refine lc_block (RR := fun acc C => compPost (model X.prog X.w) X.A X.xe none (EP X pins σ Q) acc C) I2 hc B T st2 f2 ht he w2 fun p C H' s' I' g q => ?_
  obtain ⟨m, hn⟩ := g.ns
  exact ⟨m, hn, fun h' hs' => ⟨.ref p, H', g.go I' hs', rfl, q⟩⟩
theorem ps_lcset {elt iter : Expr} {px py pos spos : Pos} {ifs : List Expr} {wi : TI} {tt : TT} {te : TE} {i : Nat} {y : Str} (hc : X.calm = true) (B : BlkOk X scope x cn ci) (hi : PI X (.Name x px) iter wi)
    (ht : ∀ cl C s H fp pn, PTs (blk X scope (x :: cn) cl C s H fp pn) ifs tt) (he : ∀ cl C s H fp pn, PE (blk X scope (x :: cn) cl C s H fp pn) elt te)
    (hN : X.N.Nodup) (hiN : X.N[i]? = some y) (hy : X.env.scope.names.lookup y = some .local)
    (hsw : swapsWith (.ListComp elt [⟨.Name x px, iter, ifs, 0⟩] scope pos) (some (.Name y py)) spos.line X.env = pure true := by rfl)
    (hs : ∀ x, foldedSetIterable iter X.env x = pure x := by rintro _; rfl) : PS X (.Assign [.Name y py] (.ListComp elt [⟨.Name x px, iter, ifs, 0⟩] scope pos) spos) (tAsg (tLC wi ci tt te) (gName i)) := by
  intro pins s σ H E I h
  rw [exec_Assign_Name_used _ _ _ _ hsw]
  refine wpAny_bind (wpAny_standAt (wpAny_bind ?_))
  show wpAny _ X.A (do let _ ← comprehension (.ListComp elt [⟨.Name x px, iter, ifs, 0⟩] scope pos) scope X.env _ (newList []) false (eval iter X.env) (some (assign (.Name y py) X.env))) _ _ s
  refine wpAny_bind (wpAny_mono (wpAny_comprehension_free (use := some (assign (.Name y py) X.env)) (Q := fun _ s' => SP X pins E .next s') rfl hs (closure_eq X.env scope B.free) B.kind B.names ?_) (fun _ s' hq => wpAny_pure (wpAny_pure hq)) fun _ _ e => e)
  refine thn (hi pins s σ H _ I h) fun v s1 h1 => thn h1 fun itv s2 h2 => ?_
  obtain ⟨it, fp, tn, J, H2, e, I2, T, st2, f2, w2⟩ := h2
  subst e
  refine lc_block (RR := fun acc C => compPost (model X.prog X.w) X.A X.xe (some (assign (.Name y py) X.env)) (fun _ s' => SP X pins E .next s') acc C) I2 hc B T st2 f2 ht he w2 fun p C H' s' I' g q => ?_
  show wpAny _ X.A (assign (.Name y py) X.env (.ref p)) _ _ _
  have hk : X.env.kindOf y = some .local := hy
  refine wpAny_assign_Name (store_ok2 I' hN hiN (.inl hy) (v := .ref p) (u := .ref p) rfl (fun s'' I'' ch => ?_) (.inr hy))
  obtain ⟨m, hn⟩ := g.ns
  obtain ⟨a, hsb, ha⟩ := ch
  have haC : C ≠ a := by
    rcases ha with ha | ha
    · rw [ha]; exact g.nl
    · exact Ne.symm (g.nc y a ha)
  have hn2 : s''.heap.Ns C m := hn.sameBut hsb haC
  exact ⟨m, hn2, fun h' hs' => ⟨_, H', Gone.go ⟨⟨m, hn2⟩, g.free, g.nl, g.up, g.nc, g.np⟩ I'' hs', q⟩⟩
end
noncomputable def capD (ci : List Nat) (σd : SD) : SD := ci.map fun i => (σd[i]?).join
open Classical in
noncomputable def compL (own : OwnD) (c0 : SD) (tt : TF) (te : EF) : List D → HD → Option (List D × HD)
  | [], H => if okOwn own H then some ([], H) else none
  | x :: r, H => if okOwn own H then (tt (some x :: c0) H).bind fun t => if t.1 = true then (te (some x :: c0) t.2).bind fun e => (compL own c0 tt te r e.2).map fun q => (e.1 :: q.1, q.2) else compL own c0 tt te r t.2 else none
noncomputable def eLC (it : ItF) (ci : List Nat) (tt : TF) (te : EF) : EF := fun σ H => (it σ H).bind fun p => (compL p.1.2 (capD ci σ) tt te p.1.1 p.2).bind fun q => mkL q.1 q.2
noncomputable def tYes : TF := fun _ H => some (true, H)
noncomputable def PTsf (X : Cx) (ifs : List Expr) (t : TF) : Prop := PTs X ifs (rdT X.K t)
section
variable {X : Cx} {scope : Scope} {x : Str} {cn : List Str} {ci : List Nat}
theorem ptsf_nil : PTsf X [] tYes := by
  rintro pins s σ H Q I ⟨ι, σd, Hd, b, Hd', sr, hr, e, q⟩
  cases e
  exact pts_nil pins s σ H Q I (q H ι Le.refl hr)
theorem ptsf_one {c : Expr} {t : TF} (h : PTf X c t) : PTsf X [c] t := pts_one h
theorem SRep.cap {K : PySem.W.Frag} {H : Hp} {ι : List Addr} {σ : L2.St} {σd : SD} {d : D} {v : V} (s : SRep K H ι σ σd) (r : Rep K H ι d v) : SRep K H ι (some v :: capS ci σ) (some d :: capD ci σd) := by
  refine ⟨by simp [capS, capD], fun i e h => ?_⟩
  cases i with
  | zero => simp at h; subst h; exact ⟨v, rfl, r⟩
  | succ j =>
    simp only [List.getElem?_cons_succ, capS, capD, List.getElem?_map] at h ⊢
    cases ej : ci[j]? with
    | none => rw [ej] at h; simp at h
    | some i =>
      rw [ej] at h
      simp only [Option.map_some, Option.some.injEq] at h ⊢
      cases es : σd[i]? with
      | none => rw [es] at h; simp at h
      | some o =>
        rw [es] at h
        simp at h
        subst h
        obtain ⟨u, h1, h2⟩ := s.var i e es
        exact ⟨u, by rw [h1]; rfl, h2⟩
theorem rd_lc {K : PySem.W.Frag} {it : ItF} {tt : TF} {te : EF} {σ : L2.St} {H : Hp} {Q : VK} (h : rdE K (eLC it ci tt te) σ H Q) : tLC (rdI K it) ci (rdT K tt) (rdE K te) σ H Q := by
  obtain ⟨ι, σd, Hd, d, Hd', s, hr, e, q⟩ := h
  obtain ⟨⟨⟨xs, own⟩, H1⟩, e1, e⟩ := Option.bind_eq_some_iff.mp e
  obtain ⟨⟨ds, H2⟩, e2, e⟩ := Option.bind_eq_some_iff.mp e
  obtain ⟨hz, e⟩ := mkL_some e
  cases e
  dsimp only at e2 hz
  refine ⟨ι, σd, Hd, xs, own, H1, s, hr, e1, fun J H0 ι0 l0 h0 itr p hp => ?_⟩
  have s0 := s.mono l0
  refine ⟨fun i m ys H => m = xs.length - i ∧ i ≤ xs.length ∧ H p = some (.lst ys) ∧ ∃ ι Hd done rest, Le K H0 ι0 H ι ∧ p ∉ ι ∧ HRep K H ι Hd ∧ Paired (Rep K H ι) done ys ∧ compL own (capD ci σd) tt te (xs.drop i) Hd = some (rest, H2) ∧ ds = done ++ rest,
    ⟨xs.length, by simp, Nat.zero_le _, upd_same, ι0, H1, [], ds, Le.fresh hp _, h0.fresh hp, h0.tup hp _, .nil, by simpa using e2, by simp⟩, ?_⟩
  rintro i m ys H5 ⟨rfl, hi, hpl, ι5, Hd5, done, rest, l5, np5, h5, pd5, e5, eds⟩
  refine ⟨hpl, ?_⟩
  by_cases hlt : i < xs.length
  · have ed : xs.drop i = xs[i] :: xs.drop (i + 1) := List.drop_eq_getElem_cons hlt
    rw [ed, compL] at e5
    split at e5
    · rename_i ok
      obtain ⟨⟨b6, H6⟩, e6, e5⟩ := Option.bind_eq_some_iff.mp e5
      refine .inr ⟨itr.go i H5 ι5 Hd5 l5 h5 ok hlt, fun v H' y => ?_⟩
      obtain ⟨ι6, l6, h6, r6⟩ := itr.yld i H5 ι5 Hd5 xs[i] v H' l5 h5 ok (by simp [hlt]) y
      obtain ⟨hp6, np6⟩ := l6.frame p _ hpl np5
      have s6 := SRep.cap (ci := ci) (s0.mono (l5.trans l6)) r6
      refine ⟨ι6, _, Hd5, b6, H6, s6, h6, e6, fun H7 ι7 l7 h7 => ?_⟩
      obtain ⟨hp7, np7⟩ := l7.frame p _ hp6 np6
      have L7 := (l5.trans l6).trans l7
      cases b6 with
      | true =>
        rw [if_pos rfl]
        dsimp only at e5
        rw [if_pos rfl] at e5
        obtain ⟨⟨d8, H8⟩, e8, e5⟩ := Option.bind_eq_some_iff.mp e5
        obtain ⟨⟨r9, H9⟩, e9, e5⟩ := Option.map_eq_some_iff.mp e5
        cases e5
        refine ⟨ι7, _, H6, d8, H8, s6.mono l7, h7, e8, fun v8 H8' ι8 l8 h8 rr8 => ?_⟩
        obtain ⟨hp8, np8⟩ := l8.frame p _ hp7 np7
        have ly : ys.length < sizeLine := by
          rw [← Prd.len pd5]
          rw [eds] at hz
          simp at hz
          omega
        have w8 : Lw K H8' ι8 (upd H8' p (.lst (ys ++ [v8]))) ι8 := Lw.side hp8 _
        refine ⟨hp8, ly, xs.length - (i + 1), by omega, rfl, hlt, upd_same, ι8, H8, done ++ [d8], r9, (L7.trans l8).side hp hp8 _, np8, h8.keep w8 (fun a ha => upd_ne fun z => by subst z; exact np8 ha), ?_, e9, by rw [eds]; simp⟩
        exact Prd.append (Prd.monoW w8 (Prd.mono ((l6.trans l7).trans l8) pd5)) (.cons (Rep.monoW w8 rr8) .nil)
      | false =>
        rw [if_neg (by simp)]
        dsimp only at e5
        rw [if_neg (by simp)] at e5
        exact ⟨xs.length - (i + 1), by omega, rfl, hlt, hp7, ι7, H6, done, rest, L7, np7, h7, Prd.mono (l6.trans l7) pd5, e5, eds⟩
    · cases e5
  · rw [List.drop_eq_nil_of_le (by omega), compL] at e5
    split at e5
    · rename_i ok
      have e6 : (([] : List D), Hd5) = (rest, H2) := Option.some.inj e5
      obtain ⟨rfl, rfl⟩ := Prod.mk.inj e6
      refine .inl ⟨itr.stop i H5 ι5 _ l5 h5 ok (by omega), ?_⟩
      have w5 : Lw K H5 ι5 H5 (ι5 ++ [p]) := ⟨fun _ _ z => z, fun _ _ z => z, ⟨[p], rfl⟩, fun _ _ _ z => z⟩
      have L := l0.trans l5
      simp at eds
      subst eds
      refine q _ H5 (ι5 ++ [p]) ⟨L.toLw.trans w5, fun a o ha na => ?_⟩ (h5.add np5 ⟨ys, hpl, Prd.monoW w5 pd5⟩) (rep_ref.mpr ⟨p, rfl, by rw [← h5.len]; simp⟩)
      obtain ⟨q1, q2⟩ := L.frame a o ha na
      refine ⟨q1, ?_⟩
      have : a ≠ p := fun z => by
        subst z
        have := (l0.frame a o ha na).1
        rw [hp] at this; cases this
      simp [q2, this]
    · cases e5
theorem pef_lc {elt iter : Expr} {px pos : Pos} {ifs : List Expr} {it : ItF} {tt : TF} {te : EF} (hc : X.calm = true) (B : BlkOk X scope x cn ci) (hi : PIf X (.Name x px) iter it)
    (ht : ∀ cl C s H fp pn, PTsf (blk X scope (x :: cn) cl C s H fp pn) ifs tt) (he : ∀ cl C s H fp pn, PEf (blk X scope (x :: cn) cl C s H fp pn) elt te)
    (hs : ∀ x, foldedSetIterable iter X.env x = pure x := by rintro _; rfl) : PEf X (.ListComp elt [⟨.Name x px, iter, ifs, 0⟩] scope pos) (eLC it ci tt te) :=
  PEi (pe_lc (tt := rdT X.K tt) (te := rdE X.K te) hc B hi ht he hs) fun _ _ _ h => rd_lc h
theorem psf_lcset {elt iter : Expr} {px py pos spos : Pos} {ifs : List Expr} {it : ItF} {tt : TF} {te : EF} {i : Nat} {y : Str} (hc : X.calm = true) (B : BlkOk X scope x cn ci) (hi : PIf X (.Name x px) iter it)
    (ht : ∀ cl C s H fp pn, PTsf (blk X scope (x :: cn) cl C s H fp pn) ifs tt) (he : ∀ cl C s H fp pn, PEf (blk X scope (x :: cn) cl C s H fp pn) elt te)
    (hN : X.N.Nodup) (hiN : X.N[i]? = some y) (hy : X.env.scope.names.lookup y = some .local)
    (hsw : swapsWith (.ListComp elt [⟨.Name x px, iter, ifs, 0⟩] scope pos) (some (.Name y py)) spos.line X.env = pure true := by rfl)
    (hs : ∀ x, foldedSetIterable iter X.env x = pure x := by rintro _; rfl) : PSf X (.Assign [.Name y py] (.ListComp elt [⟨.Name x px, iter, ifs, 0⟩] scope pos) spos) (sSet i (eLC it ci tt te)) := by
  refine PSi (ps_lcset (tt := rdT X.K tt) (te := rdE X.K te) hc B hi ht he hN hiN hy hsw hs) fun E σ H zz => ?_
  obtain ⟨ι, σd, Hd, fl, σd', Hd', s, hr, e, q⟩ := zz
  obtain ⟨⟨x, H1⟩, e1, e⟩ := Option.map_eq_some_iff.mp e
  cases e
  exact rd_lc ⟨ι, σd, Hd, x, H1, s, hr, e1, fun v H' ι' l h r => q _ H' ι' l h ((s.mono l).set r i)⟩
end
end DL
namespace DL
open PySem PySem.Spec PyProof.Rows L2
theorem noFillT : fillsNumberSlot (.type "tuple") "mul" = pure false :=
  PySem.fillsNumberSlot_seq (id := "tuple.__mul__") (r := some (.builtin "tuple.__rmul__")) F.slot_tuple_mul.lookup (by decide +kernel) F.slot_tuple_rmul.lookup (by decide +kernel)
theorem repT : seqRepeat? (.type "tuple") = pure (some (.builtin "tuple.__mul__")) := by
  unfold seqRepeat?
  rw [PySem.seqSlot_of (T := "tuple") (name := "__mul__") (id := "tuple.__mul__") F.slot_tuple_mul.lookup (by decide +kernel), PySem.seqSlot_of (T := "tuple") (name := "__rmul__") (id := "tuple.__rmul__") F.slot_tuple_rmul.lookup (by decide +kernel)]
  rfl
section
variable {dd : Option Addr} {sl : Array (Option Value)}
theorem rmulT (a : Int) (t : Tok) (l : Addr) (items : Array Value) (n : Nat) :
    Meets (Builtin.«int.__rmul__» ⟨[.int a t, .ref l], []⟩) (fun _ R s => s.heap.get? l = some { cls := .type "tuple", dict := dd, data := .seq items n, slots := sl } ∧ R (.ok (.ret Value.notImplemented)) s) :=
  .of_wp fun prog w A R s h => by obtain ⟨hp, g, d, tk, os⟩ := s; obtain ⟨hl, h⟩ := h; wp_walk; exact ⟨_, rfl, h⟩
theorem mulT_same (l : Addr) (items : Array Value) (n : Nat) (x : Int) (u : Tok) (h1 : (decide (x < -(2 ^ 63)) || decide (x ≥ 2 ^ 63)) = false) (h2 : (items.isEmpty || x == 1) = true) :
    Meets (Builtin.«tuple.__mul__» ⟨[.ref l, .int x u], []⟩) (fun _ R s => s.heap.get? l = some { cls := .type "tuple", dict := dd, data := .seq items n, slots := sl } ∧ R (.ok (.ret (.ref l))) s) :=
  .of_wp fun prog w A R s h => by
    obtain ⟨hp, g, d, tk, os⟩ := s; obtain ⟨hl, h⟩ := h
    have f1 := AutoSeq1.idx_int
    wp_walk
    simp only [h1, Bool.false_eq_true, if_false]
    wp_walk using wpAny_loadPart' hl
    simp only [h2, if_true]
    wp_walk using wpAny_loadPart' hl
    exact ⟨_, rfl, h⟩
theorem mulT_none (l : Addr) (items : Array Value) (n : Nat) (x : Int) (u : Tok) (h1 : (decide (x < -(2 ^ 63)) || decide (x ≥ 2 ^ 63)) = false) (h2 : (items.isEmpty || x == 1) = false) (h3 : (decide (x ≤ 0) || items.isEmpty) = true) :
    Meets (Builtin.«tuple.__mul__» ⟨[.ref l, .int x u], []⟩) (fun _ R s => s.heap.get? l = some { cls := .type "tuple", dict := dd, data := .seq items n, slots := sl } ∧ R (.ok (.ret (.ref s.heap.objs.size))) { s with heap := s.heap.push { cls := Value.type "tuple", data := Data.seq #[] } }) :=
  .of_wp fun prog w A R s h => by
    obtain ⟨hp, g, d, tk, os⟩ := s; obtain ⟨hl, h⟩ := h
    have f1 := AutoSeq1.idx_int
    wp_walk
    simp only [h1, Bool.false_eq_true, if_false]
    wp_walk using wpAny_loadPart' hl
    try simp only [h2, h3, Bool.false_eq_true, if_false, if_true]
    try (wp_walk using wpAny_loadPart' hl)
    exact ⟨_, rfl, h⟩
theorem mulT_new (l : Addr) (items : Array Value) (n : Nat) (x : Int) (u : Tok) (h1 : (decide (x < -(2 ^ 63)) || decide (x ≥ 2 ^ 63)) = false) (h2 : (items.isEmpty || x == 1) = false) (h3 : (decide (x ≤ 0) || items.isEmpty) = false) (h4 : ¬ (items.size * x : Int) > (2 ^ 63 - 1) / 8) (h5 : Builtin.Tuple.tupleTooMany (items.size * x) = false)
    (hs : (List.foldl (fun x1 x2 => x1 ++ x2) #[] (List.replicate x.toNat items)).size ≤ sizeLine) :
    Meets (Builtin.«tuple.__mul__» ⟨[.ref l, .int x u], []⟩) (fun _ R s => s.heap.get? l = some { cls := .type "tuple", dict := dd, data := .seq items n, slots := sl } ∧ R (.ok (.ret (.ref s.heap.objs.size))) { s with heap := s.heap.push { cls := Value.type "tuple", data := Data.seq (List.foldl (fun x1 x2 => x1 ++ x2) #[] (List.replicate x.toNat items)) } }) :=
  .of_wp fun prog w A R s h => by
    obtain ⟨hp, g, d, tk, os⟩ := s; obtain ⟨hl, h⟩ := h
    have f1 := AutoSeq1.idx_int
    wp_walk
    simp only [h1, Bool.false_eq_true, if_false]
    wp_walk using wpAny_loadPart' hl
    simp only [h2, h3, h5, Bool.false_eq_true, if_false, if_neg h4]
    wp_walk using wpAny_loadPart' hl
    exact ⟨_, rfl, h⟩
end
theorem foldl_reps (its : List Value) (m : Nat) : List.foldl (fun x1 x2 => x1 ++ x2) #[] (List.replicate m its.toArray) = (List.replicate m its).flatten.toArray := by
  have := foldl_rep its m []
  rw [List.nil_append] at this
  exact this
section
variable {prog : Program} {w : World} {A : Around} {E : Value → Shared → Prop} {s : Shared}
theorem mul_tup {l : Addr} {its : List Value} {k : Int} {t : Tok} {Q : Value → Shared → Prop} (p : IsTup s.heap l its.toArray) (h1 : -(2 ^ 63) ≤ k) (h2 : k < 2 ^ 63) (hz : its.length * k.toNat ≤ sizeLine)
    (qs : (its = [] ∨ k = 1) → Q (.ref l) s) (qn : its ≠ [] → k ≠ 1 → Q (.ref s.heap.objs.size) { s with heap := s.heap.push { cls := .type "tuple", data := .seq (List.replicate k.toNat its).flatten.toArray } }) :
    wpAny (model prog w) A (binaryOp .Mult (.ref l) (.int k t)) Q E s := by
  obtain ⟨o, e, hc, n, hd⟩ := p
  obtain ⟨c, dd, da, sl⟩ := o
  have hc' : c = .type "tuple" := hc
  have hd' : da = .seq its.toArray n := hd
  subst hc' hd'
  have b1 : (decide (k < -(2 ^ 63)) || decide (k ≥ 2 ^ 63)) = false := by simp; omega
  refine wpAny_binaryOp_repeat_ref (T := "tuple") (U := "int") (by decide) ⟨_, e, rfl⟩ (fun s' => typeIs_int s' k t) noFillT F.fills_int_mul F.slot_int_rmul repT F.slot_int_index.lookup
    (call_meets F.slot_int_rmul (typeIs_int s k t) F.entry_int_rmul (F.args_int_rmul_2 _ _) (rmulT k t l its.toArray n) ⟨e, rfl, ⟨_, e, rfl⟩, ?_⟩)
  by_cases hs : its = [] ∨ k = 1
  · exact call_meets F.slot_tuple_mul ⟨_, e, rfl⟩ F.entry_tuple_mul (F.args_tuple_mul_2 _ _) (mulT_same l its.toArray n k t b1 (by rcases hs with h | h <;> simp [h])) ⟨e, qs hs⟩
  · have hne : its ≠ [] := fun h => hs (.inl h)
    have hk : k ≠ 1 := fun h => hs (.inr h)
    have b2 : (its.toArray.isEmpty || k == 1) = false := by cases its <;> simp_all
    have new := qn hne hk
    by_cases h0 : k ≤ 0
    · have z : k.toNat = 0 := by omega
      rw [z] at new
      exact call_meets F.slot_tuple_mul ⟨_, e, rfl⟩ F.entry_tuple_mul (F.args_tuple_mul_2 _ _) (mulT_none l its.toArray n k t b1 b2 (by simp [h0])) ⟨e, new⟩
    · have sz : sizeLine = 16777216 := PySem.sizeLine_eq
      have hm : (its.toArray.size : Int) * k ≤ 16777216 := by
        have e1 : k = (k.toNat : Int) := by omega
        rw [List.size_toArray, e1, ← Int.natCast_mul]
        omega
      have b3 : (decide (k ≤ 0) || its.toArray.isEmpty) = false := by cases its <;> simp_all
      refine call_meets F.slot_tuple_mul ⟨_, e, rfl⟩ F.entry_tuple_mul (F.args_tuple_mul_2 _ _) (mulT_new l its.toArray n k t b1 b2 b3 (by omega) (by simp only [Builtin.Tuple.tupleTooMany, decide_eq_false_iff_not, sz]; omega) ?_) ⟨e, ?_⟩
      · rw [foldl_reps, List.size_toArray, len_rep, Nat.mul_comm]; exact hz
      · rw [foldl_reps]; exact new
end
variable {X : Cx}
noncomputable def rRepT (K : PySem.W.Frag) : R2 := fun x y H Q => ∃ l k xs, x = .ref l ∧ y = .int k ∧ SqT K H l xs ∧ -(2 ^ 63) ≤ k ∧ k < 2 ^ 63 ∧ xs.length * k.toNat ≤ sizeLine ∧ ((xs = [] ∨ k = 1) → Q (.ref l) H) ∧
  (xs ≠ [] → k ≠ 1 → ∀ p, H p = none → Q (.ref p) (upd H p (.tup (List.replicate k.toNat xs).flatten)))
theorem op_repT : OpR X (binaryOp .Mult) (rRepT X.K) := by
  intro pins s σ H x y v u Q I rx ry h
  obtain ⟨l, k, xs, rfl, rfl, ha, h1, h2, hz, q1, q2⟩ := h
  cases rx
  obtain ⟨t, rfl⟩ := ry
  obtain ⟨its, r1, p1, _⟩ := I.tuple ha
  refine mul_tup p1 h1 h2 (by rw [← r1.length]; exact hz) (fun z => ⟨.ref l, H, I, rfl, q1 (z.imp r1.nil_iff.mp id)⟩) (fun z zk => ?_)
  refine ⟨.ref s.heap.objs.size, _, I.laid (t' := s.toks) (o := .tup (List.replicate k.toNat xs).flatten) (fun b ob q => Heap.get?_push_of_some _ q) (Nat.le_refl _) ?_, rfl, q2 (fun w => z (r1.nil_iff.mpr w)) zk _ (I.hok.fresh (Nat.le_refl _))⟩
  exact ⟨by rw [len_rep, Nat.mul_comm]; exact hz, _, r1.rep k.toNat, IsTuN.new _ _⟩
end DL
namespace DL
open PySem PySem.Spec PyProof.Rows L2
section
variable {X : Cx}
noncomputable def iiD (C : Int → Int → Prop) [∀ i j, Decidable (C i j)] (g : Int → Int → D) : F2 := fun x y H => match x, y with
  | .int i, .int j => if C i j then some (g i j, H) else none
  | _, _ => none
theorem opf_ii {f : Value → Value → Sem Value} {C : Int → Int → Prop} [∀ i j, Decidable (C i j)] {g : Int → Int → Int} (h : OpR X f (rI C fun i j => .int (g i j))) : OpF X f (iiD C fun i j => .int (g i j)) := by
  refine OpRi h fun x y H Q zz => ?_
  obtain ⟨ι, dx, dy, Hd, d, Hd', hr, r1, r2, e, q⟩ := zz
  cases dx <;> cases dy <;> simp only [iiD] at e <;> try cases e
  rename_i i j
  split at e
  · rename_i hc
    cases e
    simp at r1 r2
    exact ⟨i, j, r1, r2, hc, q _ H ι Le.refl hr (by simp)⟩
  · cases e
noncomputable def CT (_ _ : Int) : Prop := True
instance : ∀ i j, Decidable (CT i j) := fun _ _ => instDecidableTrue
theorem rI0_of {f : Value → Value → Sem Value} {g : Int → Int → V} (h : OpR X f (rI0 g)) : OpR X f (rI CT g) := OpRi h fun x y H Q ⟨i, j, e1, e2, _, q⟩ => ⟨i, j, e1, e2, q⟩
theorem opf_ib {f : Value → Value → Sem Value} {g : Int → Int → Bool} (h : OpR X f (rI0 fun i j => .bl (g i j))) : OpF X f (iiD CT fun i j => .bl (g i j)) := by
  refine OpRi h fun x y H Q zz => ?_
  obtain ⟨ι, dx, dy, Hd, d, Hd', hr, r1, r2, e, q⟩ := zz
  cases dx <;> cases dy <;> simp only [iiD] at e <;> try cases e
  rename_i i j
  simp at r1 r2
  exact ⟨i, j, r1, r2, q _ H ι Le.refl hr (by simp)⟩
instance (i j : Int) : Decidable (CDiv i j) := by unfold CDiv; exact inferInstance
instance (i j : Int) : Decidable (CMul i j) := by unfold CMul; exact inferInstance
instance (i j : Int) : Decidable (CPow i j) := by unfold CPow; exact inferInstance
noncomputable def CPos (_ j : Int) : Prop := 0 < j
instance (i j : Int) : Decidable (CPos i j) := by unfold CPos; exact inferInstance
noncomputable def subD : F2 := iiD CT fun i j => .int (i - j)
noncomputable def fdivD : F2 := iiD CDiv fun i j => .int (i / j)
noncomputable def modD : F2 := iiD CPos fun i j => .int (i % j)
noncomputable def powD : F2 := iiD CPow fun i j => .int (i ^ j.toNat)
noncomputable def ltD : F2 := iiD CT fun i j => .bl (decide (i < j))
noncomputable def leD : F2 := iiD CT fun i j => .bl (decide (i ≤ j))
noncomputable def gtD : F2 := iiD CT fun i j => .bl (decide (j < i))
noncomputable def geD : F2 := iiD CT fun i j => .bl (decide (j ≤ i))
theorem opf_sub : OpF X (binaryOp .Sub) subD := opf_ii (rI0_of op_sub)
theorem opf_fdiv : OpF X (binaryOp .FloorDiv) fdivD := opf_ii op_fdiv
theorem opf_mod : OpF X (binaryOp .Mod) modD := opf_ii (C := CPos) op_mod
theorem opf_pow : OpF X (binaryOp .Pow) powD := opf_ii op_pow
theorem opf_lt : OpF X (compareOp .Lt) ltD := opf_ib op_lt
theorem opf_gt : OpF X (compareOp .Gt) gtD := opf_ib op_gt
theorem opf_ge : OpF X (compareOp .GtE) geD := opf_ib op_ge
noncomputable def negD : D → HD → Option (D × HD) := fun x H => match x with
  | .int i => some (.int (-i), H)
  | _ => none
theorem unf_neg : UnF X (unaryOp .USub) negD := by
  rintro pins s σ H x v Q I rx ⟨ι, dx, Hd, d, Hd', hr, r1, e, q⟩
  cases dx <;> simp only [negD] at e <;> try cases e
  simp at r1
  exact un_neg pins s σ H x v Q I rx ⟨_, r1, q _ H ι Le.refl hr (by simp)⟩
theorem cat_tup0 {prog : Program} {w : World} {A : Around} {E : Value → Shared → Prop} {s : Shared} {t b : Addr} {ws : List Value} {Q : Value → Shared → Prop} (ht : IsTup s.heap t #[]) (hb : IsTup s.heap b ws.toArray)
    (h1 : Q (.ref b) s) : wpAny (model prog w) A (binaryOp .Add (.ref t) (.ref b)) Q E s := by
  obtain ⟨⟨cls, dd, data, sl⟩, ho, hc, n, hd⟩ := id ht
  obtain ⟨⟨cls2, dd2, data2, sl2⟩, ho2, hc2, n2, hd2⟩ := id hb
  simp only at hc hd hc2 hd2
  subst hc hd hc2 hd2
  exact concat_meets ⟨_, ho, rfl⟩ ⟨_, ho2, rfl⟩ noFill_tuple_add seq_tuple_add PySem.F.slot_tuple_add PySem.F.entry_tuple_add (PySem.F.args_tuple_add_2 _ _)
      (tuple_addW0 t b #[] ws.toArray n n2 dd dd2 sl sl2 (by simp)) ⟨ho, ho2, h1⟩
noncomputable def addD : F2 := fun x y H => match x, y with
  | .int i, .int j => some (.int (i + j), H)
  | .str a, .str b => if a.length + b.length ≤ sizeLine then some (.str (a ++ b), H) else none
  | .tup a, .tup b => mkT (a ++ b) H
  | .ref n, .ref m => match H[n]?, H[m]? with
    | some (.lst a), some (.lst b) => mkL (a ++ b) H
    | _, _ => none
  | _, _ => none
theorem opf_add : OpF X (binaryOp .Add) addD := by
  rintro pins s σ H x y v u Q I rx ry ⟨ι, dx, dy, Hd, d, Hd', hr, r1, r2, e, q⟩
  cases dx <;> cases dy <;> simp only [addD] at e <;> try cases e
  · simp at r1 r2
    exact op_add pins s σ H x y v u Q I rx ry ⟨_, _, r1, r2, q _ H ι Le.refl hr (by simp)⟩
  · simp at r1 r2
    split at e
    · rename_i hl
      cases e
      exact op_add_str pins s σ H x y v u Q I rx ry ⟨_, _, r1, r2, hl, q _ H ι Le.refl hr (by simp)⟩
    · cases e
  · rename_i as bs
    obtain ⟨a, vs, rfl, h1, p1⟩ := rep_tup.mp r1
    obtain ⟨b, ws, rfl, h2, p2⟩ := rep_tup.mp r2
    cases p1 with
    | nil =>
      obtain ⟨hl, e⟩ := mkT_some e
      simp only [List.nil_append, Prod.mk.injEq] at e
      obtain ⟨rfl, rfl⟩ := e
      cases rx
      cases ry
      obtain ⟨its, q1, t1, _⟩ := I.tuple h1
      obtain ⟨its2, q2, t2, _⟩ := I.tuple h2
      cases q1
      exact cat_tup0 t1 t2 ⟨.ref b, H, I, rfl, q _ H ι Le.refl hr r2⟩
    | cons p p' =>
      have P := Prd.append (.cons p p') p2
      obtain ⟨hl, e'⟩ := mkT_some e
      cases p2 with
      | nil =>
        simp only [List.append_nil, Prod.mk.injEq] at e'
        obtain ⟨rfl, rfl⟩ := e'
        refine op_catT pins s σ H _ _ v u Q I rx ry ⟨a, b, _, _, rfl, rfl, h1, h2, by simp, ?_, fun _ => q _ H ι Le.refl hr r1, fun z => absurd rfl z⟩
        have := Prd.len P
        simp only [List.append_nil] at this hl
        simp only [List.length_nil]
        omega
      | cons p3 p4 =>
        obtain ⟨k1, k2⟩ := new_tup hr P e q
        refine op_catT pins s σ H _ _ v u Q I rx ry ⟨a, b, _, _, rfl, rfl, h1, h2, by simp, ?_, fun z => absurd z (by simp), fun _ => k2⟩
        rw [← List.length_append]; exact k1
  · rename_i n m
    obtain ⟨a, rfl, ha⟩ := rep_ref.mp r1
    obtain ⟨b, rfl, hb⟩ := rep_ref.mp r2
    split at e
    · rename_i as bs e1 e2
      obtain ⟨vs, h1, p1⟩ := hr.obj n a _ ha e1
      obtain ⟨ws, h2, p2⟩ := hr.obj m b _ hb e2
      obtain ⟨k1, k2⟩ := new_lst hr (Prd.append p1 p2) e q
      exact op_cat pins s σ H _ _ v u Q I rx ry ⟨a, b, vs, ws, rfl, rfl, h1, h2, by rw [← List.length_append]; exact k1, k2⟩
    · cases e
noncomputable def mulD : F2 := fun x y H => match x, y with
  | .int i, .int j => if CMul i j then some (.int (i * j), H) else none
  | .ref n, .int k => match H[n]? with
    | some (.lst a) => if -(2 ^ 63) ≤ k ∧ k < 2 ^ 63 ∧ a.length * k.toNat ≤ sizeLine then mkL (List.replicate k.toNat a).flatten H else none
    | _ => none
  | .tup a, .int k => if -(2 ^ 63) ≤ k ∧ k < 2 ^ 63 ∧ a.length * k.toNat ≤ sizeLine then mkT (List.replicate k.toNat a).flatten H else none
  | _, _ => none
theorem opf_mul : OpF X (binaryOp .Mult) mulD := by
  rintro pins s σ H x y v u Q I rx ry ⟨ι, dx, dy, Hd, d, Hd', hr, r1, r2, e, q⟩
  cases dx <;> cases dy <;> simp only [mulD] at e <;> try cases e
  · simp at r1 r2
    split at e
    · rename_i hc
      cases e
      exact op_mul pins s σ H x y v u Q I rx ry ⟨_, _, r1, r2, hc, q _ H ι Le.refl hr (by simp)⟩
    · cases e
  · rename_i as k
    obtain ⟨a, vs, rfl, h1, p1⟩ := rep_tup.mp r1
    simp at r2
    split at e
    · rename_i hc
      have hlen := Prd.len p1
      obtain ⟨k1, k2⟩ := new_tup hr (Prd.rep p1 k.toNat) e q
      refine op_repT pins s σ H _ _ v u Q I rx ry ⟨a, k, vs, rfl, r2, h1, hc.1, hc.2.1, by rw [← hlen]; exact hc.2.2, fun z => ?_, fun _ _ => k2⟩
      obtain ⟨_, e'⟩ := mkT_some e
      have hf : (List.replicate k.toNat as).flatten = as := by
        rcases z with z | z
        · have : as = [] := List.eq_nil_of_length_eq_zero (by rw [hlen, z]; rfl)
          subst this
          simp
        · subst z
          simp
      rw [hf] at e'
      cases e'
      exact q _ H ι Le.refl hr r1
    · cases e
  · rename_i n k
    obtain ⟨a, rfl, ha⟩ := rep_ref.mp r1
    simp at r2
    split at e
    · rename_i as e1
      obtain ⟨vs, h1, p1⟩ := hr.obj n a _ ha e1
      split at e
      · rename_i hc
        obtain ⟨k1, k2⟩ := new_lst hr (Prd.rep p1 _) e q
        exact op_rep pins s σ H _ _ v u Q I rx ry ⟨a, k, vs, rfl, r2, h1, hc.1, hc.2.1, by rw [← Prd.len p1]; exact hc.2.2, k2⟩
      · cases e
    · cases e
noncomputable def seqD : D → HD → Option (List D)
  | .tup xs, _ => some xs
  | .fl xs, _ => some xs
  | .ref n, H => match H[n]? with
    | some (.lst xs) => some xs
    | _ => none
  | _, _ => none
theorem seq_rd {K : PySem.W.Frag} {H : Hp} {ι : List Addr} {Hd : HD} {d : D} {xs : List D} {v : V} (hr : HRep K H ι Hd) (r : Rep K H ι d v) (e : seqD d Hd = some xs) : ∃ p vs, v = .ref p ∧ (SqL K H p vs ∨ SqT K H p vs) ∧ Paired (Rep K H ι) xs vs := by
  cases d with
  | tup ys => cases e; obtain ⟨a, vs, rfl, h, p⟩ := rep_tup.mp r; exact ⟨a, vs, rfl, .inr h, p⟩
  | fl ys => cases e; obtain ⟨a, vs, rfl, h, p⟩ := rep_fl.mp r; exact ⟨a, vs, rfl, .inl h.sq, p⟩
  | ref n =>
    obtain ⟨a, rfl, ha⟩ := rep_ref.mp r
    simp only [seqD] at e
    split at e
    · rename_i ys e1
      cases e
      obtain ⟨vs, h1, p1⟩ := hr.obj n a _ ha e1
      exact ⟨a, vs, rfl, .inl (SqL.of h1), p1⟩
    · cases e
  | _ => simp [seqD] at e
theorem prd_atI {α β : Type} {F : α → β → Prop} {xs : List α} {us : List β} {i : Int} {x : α} (r : Paired F xs us) (h : atI xs i = some x) : ∃ u, atI us i = some u ∧ F x u := by
  unfold atI at h ⊢
  rw [← Prd.len r]
  obtain ⟨j, h1, h2⟩ := Option.bind_eq_some_iff.mp h
  obtain ⟨u, h3, h4⟩ := Prd.get r h2
  exact ⟨u, by rw [h1]; exact h3, h4⟩
noncomputable def ixD : F2 := fun x y H => match y with
  | .int i => (seqD x H).bind fun xs => (atI xs i).map fun d => (d, H)
  | _ => none
theorem ixf : IxF X ixD := by
  rintro va sl pins s σ H x y v u Q I rx ry ⟨ι, dx, dy, Hd, d, Hd', hr, r1, r2, e, q⟩ hs
  cases dy <;> simp only [ixD] at e <;> try cases e
  rename_i i
  simp at r2
  obtain ⟨xs, e1, e⟩ := Option.bind_eq_some_iff.mp e
  obtain ⟨d', e2, e⟩ := Option.map_eq_some_iff.mp e
  obtain ⟨rfl, rfl⟩ := Prod.mk.inj e
  obtain ⟨p, vs, rfl, h, P⟩ := seq_rd hr r1 e1
  obtain ⟨z, hz, rz⟩ := prd_atI P e2
  rcases h with h | h
  · exact ix_list va sl pins s σ H _ _ v u Q I rx ry ⟨p, vs, i, z, rfl, r2, h, hz, q _ H ι Le.refl hr rz⟩ hs
  · exact ix_tup va sl pins s σ H _ _ v u Q I rx ry ⟨p, vs, i, z, rfl, r2, h, hz, q _ H ι Le.refl hr rz⟩ hs
noncomputable def setD : FSet := fun o i v H => match o, i with
  | .ref n, .int k => match H[n]? with
    | some (.lst xs) => (ixN xs.length k).map fun j => H.set n (.lst (xs.set j v))
    | _ => none
  | _, _ => none
noncomputable def cutD (xs : List D) (lo hi : Option Int) : List D := (xs.drop (HT.sIx xs.length 0 lo)).take (HT.sIx xs.length xs.length hi - HT.sIx xs.length 0 lo)
theorem prd_cut {K : PySem.W.Frag} {H : Hp} {ι : List Addr} {xs : List D} {vs : List V} (P : Paired (Rep K H ι) xs vs) (lo hi : Option Int) : Paired (Rep K H ι) (cutD xs lo hi) (cutV vs lo hi) := by
  unfold cutD cutV
  rw [← Prd.len P]
  exact Prd.take _ (Prd.drop _ P)
noncomputable abbrev OF := SD → HD → Option (Option Int × HD)
noncomputable def rdO (K : PySem.W.Frag) (f : OF) : TO := fun σ H Q => ∃ ι σd Hd o Hd', SRep K H ι σ σd ∧ HRep K H ι Hd ∧ f σd Hd = some (o, Hd') ∧ ∀ H' ι', Le K H ι H' ι' → HRep K H' ι' Hd' → Q o H'
noncomputable def POf (X : Cx) (e : Option Expr) (f : OF) : Prop := PO X e (rdO X.K f)
noncomputable def oNone : OF := fun _ H => some (none, H)
noncomputable def oSome (f : EF) : OF := fun σ H => (f σ H).bind fun p => match p.1 with
  | .int i => some (some i, p.2)
  | _ => none
theorem pof_none : POf X none oNone := by
  rintro pins s σ H Q I ⟨ι, σd, Hd, o, Hd', sr, hr, e, q⟩
  cases e
  exact po_none pins s σ H Q I (q H ι Le.refl hr)
theorem pof_some {e : Expr} {f : EF} (h : PEf X e f) : POf X (some e) (oSome f) := by
  rintro pins s σ H Q I ⟨ι, σd, Hd, o, Hd', sr, hr, e, q⟩
  obtain ⟨⟨d, H1⟩, e1, e⟩ := Option.bind_eq_some_iff.mp e
  cases d <;> try cases e
  rename_i i
  exact po_some h pins s σ H Q I ⟨ι, σd, Hd, _, _, sr, hr, e1, fun v H' ι' l h r => ⟨i, by simpa using r, q H' ι' l h⟩⟩
noncomputable def slD (x : D) (lo hi : Option Int) (H : HD) : Option (D × HD) := match x with
  | .tup xs => some (.tup (cutD xs lo hi), H)
  | .fl xs => some (.ref H.length, H ++ [.lst (cutD xs lo hi)])
  | .ref n => match H[n]? with
    | some (.lst xs) => some (.ref H.length, H ++ [.lst (cutD xs lo hi)])
    | _ => none
  | _ => none
theorem getItem_tuple_whole {prog : Program} {w : World} {A : Around} {E : Value → Shared → Prop} {s : Shared} {t sl : Addr} {items : Array Value} {vl vu : Value} {lo hi : Option Int} {Q : Value → Shared → Prop} (ht : IsTup s.heap t items) (hs : s.heap.IsSliceOf sl vl vu .none) (pl : IsPart vl lo) (pu : IsPart vu hi)
    (hw : HT.sIx items.size 0 lo = 0 ∧ HT.sIx items.size items.size hi = items.size) (h : Q (.ref t) s) : wpAny (model prog w) A (getItem (.ref t) (.ref sl)) Q E s := by
  obtain ⟨os, hos, hcs, hds⟩ := id hs
  have hTs : s.TypeIs (.ref sl) "slice" := ⟨os, hos, hcs⟩
  obtain ⟨ot, hot, hct, nt, hdt⟩ := id ht
  unfold getItem
  try with_reducible refine wpAny_holding ?_
  first | refine wpAny_bind (wpAny_pure ?_) | skip
  refine wpAny_bind (wpAny_sequenceKey ht.typeIs (by decide) ?_)
  refine wpAny_bind (wpAny_callSpecial?_slot (name := Str.ofString "__getitem__") ht.typeIs PyProof.Rows.slot_tuple_getitem
    (wpAny_call_entry PyProof.Rows.slot_tuple_getitem ht.typeIs entry_tuple_getitem ?_ (args_tuple_getitem _ _)))
  show wpAny _ _ (Builtin.Tuple.tupleItemsOf (.ref t) >>= _) _ _ s
  refine wpAny_bind (tupleItemsOf_ ht ?_)
  refine wpAny_bind (wpAny_typeOf hTs ?_)
  rw [if_pos (by decide)]
  refine wpAny_bind (HT.sliceApplied_gen hs pl pu ?_)
  show wpAny _ _ (if (((HT.sIx items.size 0 lo : Nat) : Int) == 0 && (1 : Int) == 1 && (HT.sIx items.size items.size hi - HT.sIx items.size 0 lo) == items.size) = true then _ else _) _ _ s
  rw [if_pos (by rw [hw.1, hw.2]; simp)]
  show wpAny _ _ (Builtin.Tuple.tupleIsExact (Value.ref t) >>= _) _ _ s
  unfold Builtin.Tuple.tupleIsExact
  refine wpAny_bind (wpAny_bind (wpAny_typeOf ht.typeIs (wpAny_pure ?_)))
  rw [if_pos (by decide)]
  exact wpAny_bind (wpAny_rule (wpAny_pure ⟨_, rfl, wpAny_pure h⟩))
theorem cutD_whole {xs : List D} {lo hi : Option Int} (h : HT.sIx xs.length 0 lo = 0 ∧ HT.sIx xs.length xs.length hi = xs.length) : cutD xs lo hi = xs := by
  unfold cutD
  rw [h.1, h.2]; simp
noncomputable def rdSl (K : PySem.W.Frag) : V → Option Int → Option Int → Hp → VK → Prop := fun x lo hi H Q => ∃ ι dx Hd d Hd', HRep K H ι Hd ∧ Rep K H ι dx x ∧ slD dx lo hi Hd = some (d, Hd') ∧ QE K H ι d Hd' Q
theorem slf : SlR X (rdSl X.K) := by
  rintro pins s σ H x v vl vu lo hi sl Q I rx hs pl pu ⟨ι, dx, Hd, d, Hd', hr, r, e, q⟩
  have lists : ∀ {a : Addr} {xs : List D} {vs : List V}, x = .ref a → SqL X.K H a vs → Paired (Rep X.K H ι) xs vs → (D.ref Hd.length, Hd ++ [DO.lst (cutD xs lo hi)]) = (d, Hd') →
      ∃ T id, typeLookup (.type T) "__getitem__" = pure (some (.builtin id)) ∧ s.TypeIs v T ∧ wpAny (model X.prog X.w) X.A (getItem v (.ref sl)) (EP X pins σ Q) X.xe s := fun {a xs vs} ex h P e => by
    obtain ⟨_, _, _, hz⟩ := I.list h
    have hz2 : (cutD xs lo hi).length ≤ sizeLine := by
      rw [Prd.len (prd_cut P lo hi)]
      exact Nat.le_trans (cutV_length vs lo hi) hz
    obtain ⟨k1, k2⟩ := new_lst hr (prd_cut P lo hi) (show mkL (cutD xs lo hi) Hd = some (d, Hd') by unfold mkL; rw [if_pos hz2, e]) q
    exact sl_list pins s σ H x v vl vu lo hi sl Q I rx hs pl pu ⟨a, vs, ex, h, k2⟩
  cases dx with
  | tup xs =>
    obtain ⟨a, vs, rfl, h, P⟩ := rep_tup.mp r
    simp only [slD, Option.some.injEq] at e
    obtain ⟨its, rv, ht, hz⟩ := I.tuple h
    have hlen : its.toArray.size = vs.length := by rw [List.size_toArray]; exact rv.length.symm
    by_cases hw : HT.sIx vs.length 0 lo = 0 ∧ HT.sIx vs.length vs.length hi = vs.length
    · cases rx
      refine ⟨"tuple", _, PyProof.Rows.slot_tuple_getitem.lookup, ht.typeIs, getItem_tuple_whole ht hs pl pu (by rw [hlen]; exact hw) ?_⟩
      rw [cutD_whole (by rw [Prd.len P]; exact hw)] at e
      obtain ⟨rfl, rfl⟩ := Prod.mk.inj e
      exact ⟨.ref a, H, I, rfl, q _ H ι Le.refl hr r⟩
    · have hz2 : (cutD xs lo hi).length ≤ sizeLine := by
        rw [Prd.len (prd_cut P lo hi)]
        exact Nat.le_trans (cutV_length vs lo hi) hz
      obtain ⟨k1, k2⟩ := new_tup hr (prd_cut P lo hi) (show mkT (cutD xs lo hi) Hd = some (d, Hd') by unfold mkT; rw [if_pos hz2, e]) q
      exact sl_tup pins s σ H _ v vl vu lo hi sl Q I rx hs pl pu ⟨a, vs, rfl, h, hw, k2⟩
  | fl xs =>
    obtain ⟨a, vs, rfl, h, P⟩ := rep_fl.mp r
    simp only [slD, Option.some.injEq] at e
    exact lists rfl h.sq P e
  | ref n =>
    obtain ⟨a, rfl, ha⟩ := rep_ref.mp r
    simp only [slD] at e
    split at e
    · rename_i xs e1
      obtain ⟨vs, h1, P⟩ := hr.obj n a _ ha e1
      exact lists rfl (SqL.of h1) P (Option.some.inj e)
    · cases e
  | _ => simp [slD] at e
noncomputable def eSl (fe : EF) (fl fh : OF) : EF := fun σ H => (fe σ H).bind fun p => (fl σ p.2).bind fun l => (fh σ l.2).bind fun h => slD p.1 l.1 h.1 h.2
theorem pef_slice {e : Expr} {lo hi : Option Expr} {fe : EF} {fl fh : OF} {pos p2 : Pos} (he : PEf X e fe) (hl : POf X lo fl) (hu : POf X hi fh) : PEf X (.Subscript e (.Slice lo hi none p2) pos) (eSl fe fl fh) := by
  refine PEi (pe_slice slf he hl hu) fun σ H Q zz => ?_
  obtain ⟨ι, σd, Hd, d, Hd', s, hr, e, q⟩ := zz
  obtain ⟨⟨x, H1⟩, e1, e⟩ := Option.bind_eq_some_iff.mp e
  obtain ⟨⟨y, H2⟩, e2, e⟩ := Option.bind_eq_some_iff.mp e
  obtain ⟨⟨z, H3⟩, e3, e⟩ := Option.bind_eq_some_iff.mp e
  exact ⟨ι, σd, Hd, x, H1, s, hr, e1, fun v1 H1' ι1 l1 h1 r1 => ⟨ι1, σd, H1, y, H2, s.mono l1, h1, e2, fun H2' ι2 l2 h2 => ⟨ι2, σd, H2, z, H3, s.mono (l1.trans l2), h2, e3, fun H3' ι3 l3 h3 =>
    ⟨ι3, x, H3, d, Hd', h3, r1.mono (l2.trans l3), e, fun v H' ι' l h r => q v H' ι' (((l1.trans l2).trans l3).trans l) h r⟩⟩⟩⟩
noncomputable def lenD : FF := fun ds H => match ds with
  | [.str x] => if x.length ≤ sizeLine then some (.int x.length, H) else none
  | [d] => (seqD d H).map fun xs => (.int xs.length, H)
  | _ => none
theorem prd1 {K : PySem.W.Frag} {H : Hp} {ι : List Addr} {d : D} {vs : List V} (P : Paired (Rep K H ι) [d] vs) : ∃ v, vs = [v] ∧ Rep K H ι d v := by
  cases P with
  | cons r t => cases t; exact ⟨_, rfl, r⟩
theorem prd2 {K : PySem.W.Frag} {H : Hp} {ι : List Addr} {d d' : D} {vs : List V} (P : Paired (Rep K H ι) [d, d'] vs) : ∃ v v', vs = [v, v'] ∧ Rep K H ι d v ∧ Rep K H ι d' v' := by
  cases P with
  | cons r t => obtain ⟨v, rfl, r'⟩ := prd1 t; exact ⟨_, _, rfl, r, r'⟩
theorem callf_len : CallF X (.builtin "len") lenD := by
  rintro pins s σ H xs us Q I rv ⟨ι, ds, Hd, d, Hd', hr, P, e, q⟩
  unfold lenD at e
  split at e
  · obtain ⟨v, rfl, r⟩ := prd1 P
    simp at r
    subst r
    split at e
    · rename_i hl
      cases e
      exact call_len_str pins s σ H _ us Q I rv ⟨_, rfl, hl, q _ H ι Le.refl hr (by simp)⟩
    · cases e
  · obtain ⟨v, rfl, r⟩ := prd1 P
    obtain ⟨ys, e1, e⟩ := Option.map_eq_some_iff.mp e
    obtain ⟨rfl, rfl⟩ := Prod.mk.inj e
    obtain ⟨p, vs, rfl, h, P2⟩ := seq_rd hr r e1
    exact call_len_seq pins s σ H _ us Q I rv ⟨p, vs, rfl, h, q _ H ι Le.refl hr (by simp [Prd.len P2])⟩
  · cases e
noncomputable def absD : FF := fun ds H => match ds with
  | [.int i] => some (.int (if i < 0 then -i else i), H)
  | _ => none
theorem callf_abs : CallF X (.builtin "abs") absD := by
  rintro pins s σ H xs us Q I rv ⟨ι, ds, Hd, d, Hd', hr, P, e, q⟩
  unfold absD at e
  split at e
  · obtain ⟨v, rfl, r⟩ := prd1 P
    simp at r
    subst r
    cases e
    exact call_abs pins s σ H _ us Q I rv ⟨_, rfl, q _ H ι Le.refl hr (by simp)⟩
  · cases e
noncomputable def maxD : FF := fun ds H => match ds with
  | [.int i, .int j] => some (.int (if j > i then j else i), H)
  | _ => none
noncomputable def minD : FF := fun ds H => match ds with
  | [.int i, .int j] => some (.int (if j < i then j else i), H)
  | _ => none
noncomputable def intD : FF := fun ds H => match ds with
  | [.int i] => some (.int i, H)
  | [.bl b] => some (.int (if b then 1 else 0), H)
  | _ => none
theorem callf_int : CallF X (.type "int") intD := by
  rintro pins s σ H xs us Q I rv ⟨ι, ds, Hd, d, Hd', hr, P, e, q⟩
  unfold intD at e
  split at e
  · obtain ⟨v, rfl, r⟩ := prd1 P
    simp at r
    subst r
    cases e
    exact call_int1 pins s σ H _ us Q I rv (.inl ⟨_, rfl, q _ H ι Le.refl hr (by simp)⟩)
  · obtain ⟨v, rfl, r⟩ := prd1 P
    simp at r
    subst r
    cases e
    exact call_int1 pins s σ H _ us Q I rv (.inr ⟨_, rfl, q _ H ι Le.refl hr (by simp)⟩)
  · cases e
theorem seq_size {pins : List (Addr × Obj)} {s : Shared} {σ : L2.St} {H : Hp} {p : Addr} {vs : List V} (I : Inv X pins σ H s) (h : SqL X.K H p vs ∨ SqT X.K H p vs) : vs.length ≤ sizeLine := by
  rcases h with h | h
  · obtain ⟨_, _, _, z⟩ := I.list h; exact z
  · obtain ⟨_, _, _, z⟩ := I.tuple h; exact z
noncomputable def tupleD : FF := fun ds H => match ds with
  | [d] => (seqD d H).map fun xs => (.tup xs, H)
  | _ => none
theorem callf_tuple : CallF X (.type "tuple") tupleD := by
  rintro pins s σ H xs us Q I rv ⟨ι, ds, Hd, d, Hd', hr, P, e, q⟩
  unfold tupleD at e
  split at e
  · rename_i d0
    obtain ⟨v, rfl, r⟩ := prd1 P
    obtain ⟨ys, e1, e⟩ := Option.map_eq_some_iff.mp e
    obtain ⟨p, vs, rfl, h, P2⟩ := seq_rd hr r e1
    obtain ⟨k1, k2⟩ := new_tup hr P2 (show mkT ys Hd = some (d, Hd') by unfold mkT; rw [if_pos (by rw [Prd.len P2]; exact seq_size I h), e]) q
    refine call_tuple_of pins s σ H _ us Q I rv ⟨p, vs, rfl, ?_⟩
    rcases h with h | h
    · exact .inl ⟨h, k2⟩
    · obtain ⟨rfl, rfl⟩ := Prod.mk.inj e
      exact .inr ⟨h, q _ H ι Le.refl hr (rep_tup.mpr ⟨p, vs, rfl, h, P2⟩)⟩
  · cases e
noncomputable def appendD (x : D) (ds : List D) (H : HD) : Option (D × HD) := match x, ds with
  | .ref n, [d] => match H[n]? with
    | some (.lst xs) => if xs.length < sizeLine then some (.non, H.set n (.lst (xs ++ [d]))) else none
    | _ => none
  | _, _ => none
theorem mtf_append : MtF X "list.append" appendD := by
  rintro pins s σ H x xs v us Q I rx rv ⟨ι, dx, ds, Hd, d, Hd', hr, r1, P, e, q⟩
  unfold appendD at e
  split at e
  · rename_i n d1
    obtain ⟨a, rfl, ha⟩ := rep_ref.mp r1
    obtain ⟨z, rfl, rz⟩ := prd1 P
    split at e
    · rename_i ys e1
      split at e
      · rename_i hl
        cases e
        obtain ⟨vs, h1, P1⟩ := hr.obj n a _ ha e1
        refine mt_append pins s σ H _ _ v us Q I rx rv ⟨a, vs, z, rfl, rfl, h1, by rw [← Prd.len P1]; exact hl, ?_⟩
        have L : Le X.K H ι (upd H a (.lst (vs ++ [z]))) ι := Le.upd (List.mem_of_getElem? ha) h1 trivial _
        exact q _ _ ι L (hr.upd ha h1 trivial ⟨_, upd_same, Prd.append (Prd.mono L P1) (.cons (rz.mono L) .nil)⟩) (by simp)
      · cases e
    · cases e
  · cases e
noncomputable def popD (x : D) (ds : List D) (H : HD) : Option (D × HD) := match x, ds with
  | .ref n, [.int i] => match H[n]? with
    | some (.lst xs) => if -(2 ^ 63) ≤ i ∧ i < 2 ^ 63 then (seqIndex? i xs.length).bind fun k => (xs[k]?).map fun d => (d, H.set n (.lst (xs.eraseIdx k))) else none
    | _ => none
  | _, _ => none
end
end DL
namespace DL
open PySem PySem.Spec PyProof.Rows L2
mutual
noncomputable def toP (H : HD) : Nat → D → Option PyData
  | _, .non => some .none
  | _, .bl b => some (.bool b)
  | _, .int i => some (.int i)
  | _, .str x => some (.str x)
  | _, .ty _ => none
  | n, .tup xs => (toPs H n xs).map .tuple
  | n, .fl xs => (toPs H n xs).map .list
  | 0, .ref _ => none
  | n + 1, .ref k => match H[k]? with
    | some (.lst xs) => (toPs H n xs).map .list
    | _ => none
termination_by n d => (n, sizeOf d)
noncomputable def toPs (H : HD) : Nat → List D → Option (List PyData)
  | _, [] => some []
  | n, d :: ds => (toP H n d).bind fun x => (toPs H n ds).map fun r => x :: r
termination_by n ds => (n, sizeOf ds)
end
section
variable {X : Cx} {pins : List (Addr × Obj)} {σ : L2.St} {H : Hp} {s : Shared} {ι : List Addr} {Hd : HD}
mutual
theorem reads_of (I : Inv X pins σ H s) (hr : HRep X.K H ι Hd) : ∀ (n : Nat) (d : D) {x : PyData} {v : V} {u : Value}, toP Hd n d = some x → Rep X.K H ι d v → RelV v u → ∃ as, Reads s.heap u x as
  | n, .non, x, v, u, e, r, q => by
    rw [toP] at e; cases e; simp at r; subst r; cases q; exact ⟨_, .none⟩
  | n, .bl b, x, v, u, e, r, q => by
    rw [toP] at e; cases e; simp at r; subst r; cases q; exact ⟨_, .bool b⟩
  | n, .int i, x, v, u, e, r, q => by
    rw [toP] at e; cases e; simp at r; subst r; obtain ⟨t, rfl⟩ := q; exact ⟨_, .int i t⟩
  | n, .str z, x, v, u, e, r, q => by
    rw [toP] at e; cases e; simp at r; subst r; obtain ⟨t, rfl⟩ := q; exact ⟨_, .str z t⟩
  | n, .ty _, x, v, u, e, r, q => by rw [toP] at e; cases e
  | n, .tup xs, x, v, u, e, r, q => by
    rw [toP] at e
    obtain ⟨ps, e1, rfl⟩ := Option.map_eq_some_iff.mp e
    obtain ⟨a, vs, rfl, h, P⟩ := rep_tup.mp r
    cases q
    obtain ⟨its, rv, ⟨o, ho, hc, m, hd⟩, hz⟩ := I.tuple h
    obtain ⟨as, ra⟩ := readsAll_of I hr n xs e1 P rv
    exact ⟨_, .tuple ho hc hd (by simpa using ra)⟩
  | n, .fl xs, x, v, u, e, r, q => by
    rw [toP] at e
    obtain ⟨ps, e1, rfl⟩ := Option.map_eq_some_iff.mp e
    obtain ⟨a, vs, rfl, h, P⟩ := rep_fl.mp r
    cases q
    obtain ⟨its, rv, pl, hz⟩ := I.list h.sq
    obtain ⟨o, ho, hc, m, hd⟩ := pl.isList
    obtain ⟨as, ra⟩ := readsAll_of I hr n xs e1 P rv
    exact ⟨_, .list ho hc hd (by simpa using ra)⟩
  | 0, .ref k, x, v, u, e, r, q => by rw [toP] at e; cases e
  | n + 1, .ref k, x, v, u, e, r, q => by
    rw [toP] at e
    split at e
    · rename_i xs eo
      obtain ⟨ps, e1, rfl⟩ := Option.map_eq_some_iff.mp e
      obtain ⟨a, rfl, ha⟩ := rep_ref.mp r
      cases q
      obtain ⟨vs, h1, P⟩ := hr.obj k a _ ha eo
      obtain ⟨its, rv, pl, hz⟩ := I.list (SqL.of h1)
      obtain ⟨o, ho, hc, m, hd⟩ := pl.isList
      obtain ⟨as, ra⟩ := readsAll_of I hr n xs e1 P rv
      exact ⟨_, .list ho hc hd (by simpa using ra)⟩
    · cases e
termination_by n d => (n, sizeOf d)
theorem readsAll_of (I : Inv X pins σ H s) (hr : HRep X.K H ι Hd) : ∀ (n : Nat) (ds : List D) {xs : List PyData} {vs : List V} {us : List Value}, toPs Hd n ds = some xs → Paired (Rep X.K H ι) ds vs → Vals vs us → ∃ as, ReadsAll s.heap us xs as
  | n, [], xs, vs, us, e, P, q => by
    rw [toPs] at e; cases e; cases P; cases q; exact ⟨_, .nil⟩
  | n, d :: ds, xs, vs, us, e, P, q => by
    rw [toPs] at e
    obtain ⟨x, e1, e⟩ := Option.bind_eq_some_iff.mp e
    obtain ⟨r, e2, rfl⟩ := Option.map_eq_some_iff.mp e
    cases P with
    | cons p P =>
      cases q with
      | cons q Q =>
        obtain ⟨as, ra⟩ := reads_of I hr n d e1 p q
        obtain ⟨bs, rb⟩ := readsAll_of I hr n ds e2 P Q
        exact ⟨_, .cons ra rb⟩
termination_by n ds => (n, sizeOf ds)
end
noncomputable def okP (x : PyData) : Bool := x.canLay0 && decide (x.depth ≤ 30)
noncomputable def dat (d : D) (H : HD) : Option PyData := (toP H 30 d).bind fun x => if okP x = true then some x else none
theorem dat_some {d : D} {x : PyData} (e : dat d Hd = some x) : toP Hd 30 d = some x ∧ x.canLay0 = true ∧ x.depth ≤ 30 := by
  obtain ⟨y, e1, e⟩ := Option.bind_eq_some_iff.mp e
  split at e
  · rename_i h
    cases e
    rw [okP, Bool.and_eq_true, decide_eq_true_eq] at h
    exact ⟨e1, h⟩
  · cases e
noncomputable def twoS : D → D → Option (Str × Str)
  | .str a, .str b => some (a, b)
  | _, _ => none
theorem twoS_some {x y : D} {a b : Str} (h : twoS x y = some (a, b)) : x = .str a ∧ y = .str b := by
  unfold twoS at h
  split at h
  · cases h; exact ⟨rfl, rfl⟩
  · cases h
noncomputable def eqD : F2 := fun x y H => match twoS x y with
  | some (a, b) => some (.bl (a == b), H)
  | none => (dat x H).bind fun p => (dat y H).map fun q => (.bl (PyData.eqv p q), H)
noncomputable def neD : F2 := fun x y H => match twoS x y with
  | some (a, b) => some (.bl (a != b), H)
  | none => (dat x H).bind fun p => (dat y H).map fun q => (.bl (!PyData.eqv p q), H)
theorem opf_eq (hu : X.A.units + 64 < cLine) : OpF X (compareOp .Eq) eqD := by
  rintro pins s σ H x y v u Q I rx ry ⟨ι, dx, dy, Hd, d, Hd', hr, r1, r2, e, q⟩
  unfold eqD at e
  split at e
  · rename_i a b es
    obtain ⟨rfl, rfl⟩ := twoS_some es
    obtain ⟨rfl, rfl⟩ := Prod.mk.inj (Option.some.inj e)
    simp at r1 r2
    subst r1 r2
    obtain ⟨t1, rfl⟩ := rx
    obtain ⟨t2, rfl⟩ := ry
    exact PyProof.Rows.eq_str ⟨.bl _, H, I, rfl, q _ H ι Le.refl hr (by simp)⟩
  · obtain ⟨p, e1, e⟩ := Option.bind_eq_some_iff.mp e
    obtain ⟨p2, e2, e⟩ := Option.map_eq_some_iff.mp e
    obtain ⟨rfl, rfl⟩ := Prod.mk.inj e
    obtain ⟨t1, c1, d1⟩ := dat_some e1
    obtain ⟨t2, c2, d2⟩ := dat_some e2
    obtain ⟨as, ra⟩ := reads_of I hr _ _ t1 r1 rx
    obtain ⟨bs, rb⟩ := reads_of I hr _ _ t2 r2 ry
    exact SeqAt.compareEq_reads ra rb c1 c2 (by omega) ⟨.bl _, H, I, rfl, q _ H ι Le.refl hr (by simp)⟩
theorem opf_ne (hu : X.A.units + 64 < cLine) : OpF X (compareOp .NotEq) neD := by
  rintro pins s σ H x y v u Q I rx ry ⟨ι, dx, dy, Hd, d, Hd', hr, r1, r2, e, q⟩
  unfold neD at e
  split at e
  · rename_i a b es
    obtain ⟨rfl, rfl⟩ := twoS_some es
    obtain ⟨rfl, rfl⟩ := Prod.mk.inj (Option.some.inj e)
    simp at r1 r2
    subst r1 r2
    obtain ⟨t1, rfl⟩ := rx
    obtain ⟨t2, rfl⟩ := ry
    exact PyProof.Rows.ne_str ⟨.bl _, H, I, rfl, q _ H ι Le.refl hr (by simp)⟩
  · obtain ⟨p, e1, e⟩ := Option.bind_eq_some_iff.mp e
    obtain ⟨p2, e2, e⟩ := Option.map_eq_some_iff.mp e
    obtain ⟨rfl, rfl⟩ := Prod.mk.inj e
    obtain ⟨t1, c1, d1⟩ := dat_some e1
    obtain ⟨t2, c2, d2⟩ := dat_some e2
    obtain ⟨as, ra⟩ := reads_of I hr _ _ t1 r1 rx
    obtain ⟨bs, rb⟩ := reads_of I hr _ _ t2 r2 ry
    exact SeqAt.compareNe_reads ra rb c1 c2 (by omega) ⟨.bl _, H, I, rfl, q _ H ι Le.refl hr (by simp)⟩
noncomputable def itemsP : PyData → Option (List PyData)
  | .list xs => some xs
  | .tuple xs => some xs
  | _ => none
noncomputable def isB (x y : D) : Option Bool := match y, x with
  | .non, .non => some true
  | .non, _ => some false
  | .bl b, .bl c => some (c == b)
  | .bl _, _ => some false
  | _, _ => none
noncomputable def isD : F2 := fun x y H => (isB x y).map fun b => (.bl b, H)
noncomputable def isnD : F2 := fun x y H => (isB x y).map fun b => (.bl (!b), H)
theorem is_bool_gen {M : Model} {A : Around} {E : Value → Shared → Prop} {s : Shared} {Q : Value → Shared → Prop} {v : Value} {b : Bool} (hv : ∀ i, v ≠ .builtin i) (h : Q (.bool (v == .bool b)) s) : wpAny M A (compareOp .Is v (.bool b)) Q E s := by
  cases v <;> first | exact wpAny_pure h | exact absurd rfl (hv _)
theorem isnot_bool_gen {M : Model} {A : Around} {E : Value → Shared → Prop} {s : Shared} {Q : Value → Shared → Prop} {v : Value} {b : Bool} (hv : ∀ i, v ≠ .builtin i) (h : Q (.bool (!(v == .bool b))) s) : wpAny M A (compareOp .IsNot v (.bool b)) Q E s := by
  cases v <;> first | exact wpAny_pure h | exact absurd rfl (hv _)
theorem relV_nb {x : V} {v : Value} (r : RelV x v) : ∀ i, v ≠ .builtin i := by
  intro i
  cases x with
  | non => cases r; intro z; cases z
  | bl _ => cases r; intro z; cases z
  | int _ => obtain ⟨t, rfl⟩ := r; intro z; cases z
  | str _ => obtain ⟨t, rfl⟩ := r; intro z; cases z
  | byt _ => obtain ⟨t, rfl⟩ := r; intro z; cases z
  | flt _ => obtain ⟨t, rfl⟩ := r; intro z; cases z
  | ref _ => cases r; intro z; cases z
  | ty _ => cases r; intro z; cases z
theorem isB_ok {dx dy : D} {x y : V} {v u : Value} {b : Bool} (r1 : Rep X.K H ι dx x) (r2 : Rep X.K H ι dy y) (rx : RelV x v) (ry : RelV y u) (e : isB dx dy = some b) :
    (u = .none ∧ b = (v == .none)) ∨ ∃ c, u = .bool c ∧ b = (v == .bool c) := by
  cases dy with
  | non =>
    simp at r2; subst r2; cases ry
    refine .inl ⟨rfl, ?_⟩
    cases dx with
    | non => simp at r1; subst r1; cases rx; cases e; rfl
    | bl _ => simp at r1; subst r1; cases rx; cases e; rfl
    | int _ => simp at r1; subst r1; obtain ⟨t, rfl⟩ := rx; cases e; rfl
    | str _ => simp at r1; subst r1; obtain ⟨t, rfl⟩ := rx; cases e; rfl
    | ty _ => simp at r1; subst r1; cases rx; cases e; rfl
    | tup _ => obtain ⟨a, _, rfl, _⟩ := rep_tup.mp r1; cases rx; cases e; rfl
    | fl _ => obtain ⟨a, _, rfl, _⟩ := rep_fl.mp r1; cases rx; cases e; rfl
    | ref _ => obtain ⟨a, rfl, _⟩ := rep_ref.mp r1; cases rx; cases e; rfl
  | bl c =>
    simp at r2; subst r2; cases ry
    refine .inr ⟨c, rfl, ?_⟩
    cases dx with
    | non => simp at r1; subst r1; cases rx; cases e; rfl
    | bl z => simp at r1; subst r1; cases rx; cases e; cases z <;> cases c <;> rfl
    | int _ => simp at r1; subst r1; obtain ⟨t, rfl⟩ := rx; cases e; rfl
    | str _ => simp at r1; subst r1; obtain ⟨t, rfl⟩ := rx; cases e; rfl
    | ty _ => simp at r1; subst r1; cases rx; cases e; rfl
    | tup _ => obtain ⟨a, _, rfl, _⟩ := rep_tup.mp r1; cases rx; cases e; rfl
    | fl _ => obtain ⟨a, _, rfl, _⟩ := rep_fl.mp r1; cases rx; cases e; rfl
    | ref _ => obtain ⟨a, rfl, _⟩ := rep_ref.mp r1; cases rx; cases e; rfl
  | _ => simp [isB] at e
theorem opf_is : OpF X (compareOp .Is) isD := by
  rintro pins s σ H x y v u Q I rx ry ⟨ι, dx, dy, Hd, d, Hd', hr, r1, r2, e, q⟩
  obtain ⟨b, e1, e⟩ := Option.map_eq_some_iff.mp e
  obtain ⟨rfl, rfl⟩ := Prod.mk.inj e
  have fin : EP X pins σ Q (.bool b) s := ⟨.bl _, H, I, rfl, q _ H ι Le.refl hr (by simp)⟩
  rcases isB_ok r1 r2 rx ry e1 with ⟨rfl, rfl⟩ | ⟨c, rfl, rfl⟩
  · exact is_none_gen fin
  · exact is_bool_gen (relV_nb rx) fin
theorem opf_isn : OpF X (compareOp .IsNot) isnD := by
  rintro pins s σ H x y v u Q I rx ry ⟨ι, dx, dy, Hd, d, Hd', hr, r1, r2, e, q⟩
  obtain ⟨b, e1, e⟩ := Option.map_eq_some_iff.mp e
  obtain ⟨rfl, rfl⟩ := Prod.mk.inj e
  have fin : EP X pins σ Q (.bool (!b)) s := ⟨.bl _, H, I, rfl, q _ H ι Le.refl hr (by simp)⟩
  rcases isB_ok r1 r2 rx ry e1 with ⟨rfl, rfl⟩ | ⟨c, rfl, rfl⟩
  · exact isnot_none_gen fin
  · exact isnot_bool_gen (relV_nb rx) fin
noncomputable def tyD : D → HD → Option String
  | .non, _ => some "NoneType"
  | .bl _, _ => some "bool"
  | .int _, _ => some "int"
  | .str _, _ => some "str"
  | .tup _, _ => some "tuple"
  | .fl _, _ => some "list"
  | .ref n, H => match H[n]? with
    | some (.lst _) => some "list"
    | _ => none
  | _, _ => none
noncomputable def asked (c : String) : Bool := c == "bool" || c == "int" || c == "str" || c == "tuple" || c == "list"
noncomputable def isiD : FF := fun ds H => match ds with
  | [x, .ty c] => if asked c = true then (tyD x H).map fun t => (.bl (t == c || (t == "bool" && c == "int")), H) else none
  | _ => none
noncomputable def tys : List String := ["NoneType", "bool", "int", "str", "tuple", "list"]
theorem tyD_mem {d : D} {t : String} (e : tyD d Hd = some t) : t ∈ tys := by
  cases d with
  | ref n =>
    simp only [tyD] at e
    split at e
    · cases e; decide
    · cases e
  | ty n => simp [tyD] at e
  | _ => simp only [tyD] at e; cases e; decide
theorem kit_ok (K : PySem.W.Frag) {t c : String} (ht : t ∈ tys) (hc : asked c = true) : PySem.W.kitOne K (.type t) (.type c) = some (t == c || (t == "bool" && c == "int")) := by
  have hc' : c = "bool" ∨ c = "int" ∨ c = "str" ∨ c = "tuple" ∨ c = "list" := by
    simpa [asked, or_assoc] using hc
  simp only [tys, List.mem_cons, List.not_mem_nil, or_false] at ht
  rcases ht with rfl | rfl | rfl | rfl | rfl | rfl <;> rcases hc' with rfl | rfl | rfl | rfl | rfl <;> first | rfl | (with_unfolding_all rfl) | kernel_rfl
theorem callf_isi : CallF X (.builtin "isinstance") isiD := by
  rintro pins s σ H xs us Q I rv ⟨ι, ds, Hd, d, Hd', hr, P, e, q⟩
  unfold isiD at e
  split at e
  · rename_i x c
    split at e
    · rename_i hc
      obtain ⟨t, e1, e⟩ := Option.map_eq_some_iff.mp e
      obtain ⟨rfl, rfl⟩ := Prod.mk.inj e
      obtain ⟨v, v', rfl, r, r'⟩ := prd2 P
      obtain ⟨u, u', rfl, ru, ru'⟩ := vals2 rv
      simp at r'
      subst r'
      cases ru'
      have k := kit_ok X.K (tyD_mem e1) hc
      have fin : ∀ tk, EP X pins σ Q (.bool (t == c || (t == "bool" && c == "int"))) { s with toks := tk } := fun tk => ⟨.bl _, H, I.tok tk, rfl, q _ H ι Le.refl hr (by simp)⟩
      cases x with
      | non => simp at r; subst r; cases ru; cases e1; exact PySem.W.kia_one PySem.W.kitx_none I.kIn True.intro k (fun z => nomatch z) fin
      | bl y => simp at r; subst r; cases ru; cases e1; exact PySem.W.kia_one PySem.W.kitx_bool I.kIn True.intro k (fun z => nomatch z) fin
      | int y => simp at r; subst r; obtain ⟨t, rfl⟩ := ru; cases e1; exact PySem.W.kia_one PySem.W.kitx_int I.kIn True.intro k (fun z => nomatch z) fin
      | str y => simp at r; subst r; obtain ⟨t, rfl⟩ := ru; cases e1; exact PySem.W.kia_one PySem.W.kitx_str I.kIn True.intro k (fun z => nomatch z) fin
      | ty _ => simp [tyD] at e1
      | tup ys =>
        obtain ⟨a, vs, rfl, h, _⟩ := rep_tup.mp r
        cases ru; cases e1
        obtain ⟨its, _, ⟨o, ho, hcl, _⟩, _⟩ := I.tuple h
        exact PySem.W.kia_one PySem.W.kitx_tuple I.kIn ⟨o, ho, hcl⟩ k (fun z => nomatch z) fin
      | fl ys =>
        obtain ⟨a, vs, rfl, h, _⟩ := rep_fl.mp r
        cases ru; cases e1
        obtain ⟨its, _, pl, _⟩ := I.list h.sq
        obtain ⟨o, ho, hcl, _⟩ := pl.isList
        exact PySem.W.kia_one PySem.W.kitx_list I.kIn ⟨o, ho, hcl⟩ k (fun z => nomatch z) fin
      | ref n =>
        obtain ⟨a, rfl, ha⟩ := rep_ref.mp r
        cases ru
        simp only [tyD] at e1
        split at e1
        · rename_i ys eo
          cases e1
          obtain ⟨vs, h1, _⟩ := hr.obj n a _ ha eo
          obtain ⟨its, _, pl, _⟩ := I.list (SqL.of h1)
          obtain ⟨o, ho, hcl, _⟩ := pl.isList
          exact PySem.W.kia_one PySem.W.kitx_list I.kIn ⟨o, ho, hcl⟩ k (fun z => nomatch z) fin
        · cases e1
    · cases e
  · cases e
noncomputable def isTup : D → Bool
  | .tup _ => true
  | _ => false
noncomputable def intsD : List D → Option (List Int)
  | [] => some []
  | .int i :: r => (intsD r).map fun s => i :: s
  | _ => none
noncomputable def isort (ns : List Int) : List Int := ns.mergeSort (fun a b => decide (a ≤ b))
noncomputable def sortedD : FF := fun ds H => match ds with
  | [d] => (seqD d H).bind fun xs => (intsD xs).bind fun ns => if ns.length < 64 ∧ isTup d = false then some (.ref H.length, H ++ [.lst ((isort ns).map .int)]) else none
  | _ => none
theorem intsD_rep {K : PySem.W.Frag} : ∀ {xs : List D} {ns : List Int} {vs : List V}, intsD xs = some ns → Paired (Rep K H ι) xs vs → vs = ns.map V.int
  | [], ns, vs, e, P => by cases P; cases e; rfl
  | .int i :: r, ns, vs, e, P => by
    simp only [intsD] at e
    obtain ⟨s, e1, rfl⟩ := Option.map_eq_some_iff.mp e
    cases P with
    | cons p P =>
      simp at p
      subst p
      rw [intsD_rep e1 P]
      rfl
  | .non :: _, _, _, e, _ => by simp [intsD] at e
  | .bl _ :: _, _, _, e, _ => by simp [intsD] at e
  | .str _ :: _, _, _, e, _ => by simp [intsD] at e
  | .ty _ :: _, _, _, e, _ => by simp [intsD] at e
  | .tup _ :: _, _, _, e, _ => by simp [intsD] at e
  | .fl _ :: _, _, _, e, _ => by simp [intsD] at e
  | .ref _ :: _, _, _, e, _ => by simp [intsD] at e
end
section
variable {X : Cx} {tg : Expr}
noncomputable def itemsD : D → HD → Option (List D × OwnD)
  | .tup xs, _ => some (xs, [])
  | .fl xs, _ => some (xs, [])
  | .ref n, H => match H[n]? with
    | some (.lst xs) => some (xs, [(n, .lst xs)])
    | _ => none
  | _, _ => none
noncomputable def smallI (i : Int) : Prop := -(2 ^ 62) ≤ i ∧ i < 2 ^ 62
instance (i : Int) : Decidable (smallI i) := by unfold smallI; exact inferInstance
noncomputable def rangeL (lo : Int) (n : Nat) : List D := (List.range n).map fun k : Nat => .int (lo + (k : Int))
theorem rangeL_get {lo : Int} {n i : Nat} {d : D} (h : (rangeL lo n)[i]? = some d) : i < n ∧ d = .int (lo + i) := by
  unfold rangeL at h
  rw [List.getElem?_map] at h
  obtain ⟨k, h1, rfl⟩ := Option.map_eq_some_iff.mp h
  rw [List.getElem?_eq_some_iff] at h1
  obtain ⟨hl, h1⟩ := h1
  simp at h1 hl
  subst h1
  exact ⟨hl, rfl⟩
theorem itr_range {K : PySem.W.Frag} {H0 : Hp} {ι0 : List Addr} (lo : Int) (n : Nat) : ItRep K (Itr lo n) (rangeL lo n) [] H0 ι0 := by
  refine ⟨fun i H2 ι2 Hd2 l2 h2 _ hi => (show i < n by simpa [rangeL] using hi), fun i H2 ι2 Hd2 d x H3 l2 h2 _ hd y => ?_, fun i H2 ι2 Hd2 l2 h2 _ hi => (show n ≤ i by simpa [rangeL] using hi)⟩
  obtain ⟨rfl, rfl⟩ := y
  obtain ⟨_, rfl⟩ := rangeL_get hd
  exact ⟨ι2, Le.refl, h2, by simp⟩
noncomputable def iR1 (f : AF) : ItF := fun σ H => (f σ H).bind fun p => match p.1 with
  | [.int j] => if smallI j then some ((rangeL 0 j.toNat, []), p.2) else none
  | _ => none
noncomputable def iR2 (f : AF) : ItF := fun σ H => (f σ H).bind fun p => match p.1 with
  | [.int i, .int j] => if smallI i ∧ smallI j then some ((rangeL i (j - i).toNat, []), p.2) else none
  | _ => none
theorem pif_range1 {a : Expr} {f : AF} {p pos : Pos} (hg : Gl X "range") (hm : X.mg "range" = none) (ha : PAf X [a] f) (hs : starEach [a] X.env = [(false, eval a X.env)] := by rfl) : PIf X tg (.Call (.Name "range" p) [a] [] pos) (iR1 f) := by
  refine PIi (pi_range1 hg hm ha hs) fun σ H R zz => ?_
  obtain ⟨ι, σd, Hd, xs, own, Hd', s, hr, e, q⟩ := zz
  obtain ⟨⟨ds, H1⟩, e1, e⟩ := Option.bind_eq_some_iff.mp e
  dsimp only at e
  split at e
  · rename_i j
    split at e
    · rename_i hj
      cases e
      refine ⟨ι, σd, Hd, _, _, s, hr, e1, fun vs H' ι' l h P => ?_⟩
      obtain ⟨v, rfl, r⟩ := prd1 P
      simp at r
      subst r
      exact ⟨j, rfl, hj.1, hj.2, q _ H' ι' l h (itr_range 0 _)⟩
    · cases e
  · cases e
end
end DL
namespace DL
open PySem PySem.Spec PyProof.Rows L2
open Builtin.SmallTypes (nextOf)
section
variable {prog : Program} {w : World} {A : Around} {E : Value → Shared → Prop} {s : Shared}
theorem nxt_item {j t : Addr} {i : Nat} {its : Array Value} {x : Value} {Q : Value → Shared → Prop} (hj : s.heap.IsTupleIter j t i) (ht : s.heap.IsTuple t its) (hx : its[i]? = some x)
    (hQ : ∀ h', h'.IsTupleIter j t (i + 1) → Heap.SameBut j s.heap h' → Q x { s with heap := h' }) : wpAny (model prog w) A (nextOf (.ref j)) Q E s := by
  obtain ⟨oj, ho, hcj, hdj⟩ := id hj
  obtain ⟨ot, hot, _, nt, hdt⟩ := ht
  unfold nextOf
  refine wpAny_bind (wpAny_callSpecial?_slot (name := Str.ofString "__next__") hj.typeIs F.slot_tuple_iterator_next (wpAny_call_entry F.slot_tuple_iterator_next hj.typeIs F.entry_tuple_iterator_next ?_ (F.args_tuple_iterator_next_1 _)))
  show wpAny _ _ (field (.ref j) 0 >>= _) _ _ s
  refine wpAny_bind (wpAny_field ho hdj (x := .ref t) rfl ?_)
  show wpAny _ _ (if (Value.ref t == Value.none) = true then _ else _) _ _ s
  rw [if_neg (show ¬ ((Value.ref t == Value.none) = true) by intro z; cases z)]
  show wpAny _ _ (field (.ref j) 1 >>= _) _ _ s
  refine wpAny_bind (wpAny_field ho hdj (x := .int i 0) rfl ?_)
  show wpAny _ _ (seqItems? (.ref t) >>= _) _ _ s
  refine wpAny_bind (wpAny_seqItems hot hdt ?_)
  simp only [Int.toNat_natCast, hx]
  refine wpAny_bind (wpAny_setField ho hdj (by simp) (wpAny_pure ⟨x, rfl, wpAny_pure (hQ _ ⟨_, Heap.get?_update_self _ ho (Obj.isFreed_of_fields (Obj.data_mapFields hdj _)), (Obj.cls_mapFields ..).trans hcj, ?_⟩ (Heap.SameBut.update ..))⟩))
  rw [Obj.data_mapFields hdj]; simp [rawInt]
theorem nxt_end {j t : Addr} {i : Nat} {its : Array Value} {Q : Value → Shared → Prop} (hh : A.handled = none) (hj : s.heap.IsTupleIter j t i) (ht : s.heap.IsTuple t its) (hx : its[i]? = none)
    (hE : ∀ h' e, Heap.ExtBut j s.heap h' → (∃ o, h'.get? e = some o ∧ o.cls = .type "StopIteration") → E (.ref e) { s with heap := h' }) : wpAny (model prog w) A (nextOf (.ref j)) Q E s := by
  obtain ⟨oj, ho, hcj, hdj⟩ := id hj
  obtain ⟨ot, hot, _, nt, hdt⟩ := ht
  unfold nextOf
  refine wpAny_bind (wpAny_callSpecial?_slot (name := Str.ofString "__next__") hj.typeIs F.slot_tuple_iterator_next (wpAny_call_entry F.slot_tuple_iterator_next hj.typeIs F.entry_tuple_iterator_next ?_ (F.args_tuple_iterator_next_1 _)))
  show wpAny _ _ (field (.ref j) 0 >>= _) _ _ s
  refine wpAny_bind (wpAny_field ho hdj (x := .ref t) rfl ?_)
  show wpAny _ _ (if (Value.ref t == Value.none) = true then _ else _) _ _ s
  rw [if_neg (show ¬ ((Value.ref t == Value.none) = true) by intro z; cases z)]
  show wpAny _ _ (field (.ref j) 1 >>= _) _ _ s
  refine wpAny_bind (wpAny_field ho hdj (x := .int i 0) rfl ?_)
  show wpAny _ _ (seqItems? (.ref t) >>= _) _ _ s
  refine wpAny_bind (wpAny_seqItems hot hdt ?_)
  simp only [Int.toNat_natCast, hx]
  refine wpAny_bind (wpAny_rule (wpAny_bind (wpAny_setField ho hdj (by simp) ?_)))
  show wpAny _ _ (newExc (.type "StopIteration") [] >>= _) _ _ _
  refine wpAny_bind ?_
  simp only [newExc, newTuple]
  refine wpAny_bind (wpAny_newObj_type ?_ (by size_fits))
  refine wpAny_bind (m := firstArgMember _ _) (wpAny_of_eq (a := Value.none) (by first | rfl | (simp only [firstArgMember]; rfl)) (wpAny_newObj_type ?_ (by size_fits)))
  simp only [raiseNew]
  refine wpAny_bind (wpAny_handled ?_)
  first | rw [show A.in1.handled = none from hh] | rw [hh]
  exact wpAny_bind (wpAny_pure (wpAny_throw (hE _ _ (((Heap.SameBut.update ..).extBut.push _).push _) ⟨_, Heap.get?_push_size _ rfl, rfl⟩)))
theorem enum_step {e j t : Addr} {i : Nat} {c : Int} {its : Array Value} {x old : Value} {Q : Option Value → Shared → Prop} (he : IsEnum s.heap e j c old) (hj : s.heap.IsTupleIter j t i) (ht : s.heap.IsTuple t its) (hx : its[i]? = some x) (hne : e ≠ j)
    (hQ : ∀ h' tk, IsEnumOut h' e j (c + 1) x s.heap.objs.size → h'.IsTupleIter j t (i + 1) → h'.get? s.heap.objs.size = some { cls := .type "tuple", data := .seq #[.int c tk, x] } → h'.objs.size = s.heap.objs.size + 1 →
      (∀ b o, b ≠ e → b ≠ j → s.heap.get? b = some o → h'.get? b = some o) → Q (some (.ref s.heap.objs.size)) { s with heap := h', toks := s.toks + 1 }) :
    wpAny (model prog w) A (pyNext (.ref e)) Q E s := by
  have hT : s.TypeIs (.ref e) "enumerate" := ⟨_, he, rfl⟩
  unfold pyNext
  refine wpAny_bind (wpAny_attempt (wpAny_callSpecial?_slot (name := Str.ofString "__next__") hT F.slot_enumerate_next (wpAny_call_entry F.slot_enumerate_next hT F.entry_enumerate_next ?_ (F.args_enumerate_next_1 _))))
  obtain ⟨hp, g, d, tk, os⟩ := s
  show wpAny _ _ (field (.ref e) 2 >>= _) _ _ _
  refine wpAny_bind (wpAny_field he rfl (x := .ref j) rfl (wpAny_bind (nxt_item hj ht hx fun h1 j1 s1 => ?_)))
  replace s1 : Heap.SameBut j hp h1 := s1
  have e1 : IsEnum h1 e j c old := (s1.2 e hne).trans he
  show wpAny _ _ (field (.ref e) 3 >>= _) _ _ ⟨h1, g, d, tk, os⟩
  refine wpAny_bind (wpAny_field e1 rfl (x := rawInt c) rfl ?_)
  show wpAny _ _ (field (.ref e) 4 >>= _) _ _ ⟨h1, g, d, tk, os⟩
  refine wpAny_bind (wpAny_field e1 rfl (x := .none) rfl ?_)
  show wpAny _ _ (mkInt c >>= _) _ _ ⟨h1, g, d, tk, os⟩
  refine wpAny_bind (wpAny_mkInt ?_)
  show wpAny _ _ (setField (.ref e) 3 (rawInt (c + 1)) >>= _) _ _ ⟨h1, g, d, tk + 1, os⟩
  refine wpAny_bind (wpAny_setField_rec e1 (by simp) fun h2 e2 s2 => ?_)
  replace s2 : Heap.SameBut e h1 h2 := s2
  replace e2 : IsEnum h2 e j (c + 1) old := e2
  show wpAny _ _ (setField (.ref e) 4 .none >>= _) _ _ ⟨h2, g, d, tk + 1, os⟩
  refine wpAny_bind (wpAny_setField_rec e2 (by simp) fun h3 e3 s3 => ?_)
  replace s3 : Heap.SameBut e h2 h3 := s3
  replace e3 : IsEnum h3 e j (c + 1) old := e3
  show wpAny _ _ (newTuple [.int c tk, x] >>= _) _ _ ⟨h3, g, d, tk + 1, os⟩
  refine wpAny_bind (wpAny_newTuple ?_)
  have e4 : IsEnum (h3.push { cls := .type "tuple", data := .seq #[.int c tk, x] }) e j (c + 1) old := Heap.get?_push_of_some _ e3
  generalize q4 : h3.push { cls := .type "tuple", data := .seq #[.int c tk, x] } = h4 at e4
  have zz : h3.objs.size = hp.objs.size := by rw [s3.1, s2.1, s1.1]
  have lt : e < hp.objs.size := Heap.lt_size he
  have t4 : h4.get? hp.objs.size = some { cls := .type "tuple", data := .seq #[.int c tk, x] } := by rw [← q4, ← zz]; exact Heap.get?_push_size _ rfl
  have z4 : h4.objs.size = hp.objs.size + 1 := by rw [← q4, Heap.size_push, zz]
  have k4 : ∀ b o, b ≠ e → b ≠ j → hp.get? b = some o → h4.get? b = some o := fun b o n1 n2 q => by
    rw [← q4]; exact Heap.get?_push_of_some _ (s3.extBut b o n1 (s2.extBut b o n1 (s1.extBut b o n2 q)))
  have j4 : h4.IsTupleIter j t (i + 1) := by
    obtain ⟨o, ho, r⟩ := id j1
    exact ⟨o, by rw [← q4]; exact Heap.get?_push_of_some _ (s3.extBut j o (Ne.symm hne) (s2.extBut j o (Ne.symm hne) ho)), r⟩
  show wpAny _ _ (Builtin.SmallTypes.ownedTupleIsFree (.ref e) >>= _) _ _ ⟨h4, g, d, tk + 1, os⟩
  rw [zz]
  clear q4 e3 s3 e2 s2 e1 s1 j1 zz h3 h2 h1
  refine wpAny_bind ?_
  unfold Builtin.SmallTypes.ownedTupleIsFree
  refine wpAny_bind (wpAny_field e4 rfl (x := .none) rfl (wpAny_pure ?_))
  simp only [if_true]
  refine wpAny_bind (wpAny_rule (wpAny_bind (wpAny_field e4 rfl (x := old) rfl (wpAny_bind (wpAny_setField_rec e4 (by simp) fun h5 e5 s5 => ?_)))))
  replace s5 : Heap.SameBut e h4 h5 := s5
  replace e5 : IsEnum h5 e j (c + 1) x := e5
  show wpAny _ _ (Builtin.SmallTypes.ownedTupleHandOut (.ref e) (.ref hp.objs.size) >>= _) _ _ ⟨h5, g, d, tk + 1, os⟩
  refine wpAny_bind ?_
  unfold Builtin.SmallTypes.ownedTupleHandOut
  refine wpAny_bind (wpAny_setField_rec e5 (by simp) fun h6 e6 s6 => ?_)
  replace s6 : Heap.SameBut e h5 h6 := s6
  replace e6 : IsEnumOut h6 e j (c + 1) x hp.objs.size := e6
  refine wpAny_setField_rec e6 (by simp) fun h7 e7 s7 => ?_
  replace s7 : Heap.SameBut e h6 h7 := s7
  replace e7 : IsEnumOut h7 e j (c + 1) x hp.objs.size := e7
  have up : ∀ b o, b ≠ e → h4.get? b = some o → h7.get? b = some o := fun b o n q => s7.extBut b o n (s6.extBut b o n (s5.extBut b o n q))
  refine wpAny_bind (wpAny_letGo (wpAny_pure ⟨_, rfl, wpAny_pure (hQ h7 tk e7 ?_ (up _ _ (Nat.ne_of_gt lt) t4) (by rw [s7.1, s6.1, s5.1, z4]) fun b o n1 n2 q => up b o n1 (k4 b o n1 n2 q))⟩))
  obtain ⟨o, ho, r⟩ := id j4
  exact ⟨o, up j o (Ne.symm hne) ho, r⟩
theorem enum_stop {e j t : Addr} {i : Nat} {c : Int} {its : Array Value} {old : Value} {Q : Option Value → Shared → Prop} (hh : A.handled = none) (he : IsEnum s.heap e j c old) (hj : s.heap.IsTupleIter j t i) (ht : s.heap.IsTuple t its) (hx : its[i]? = none)
    (hQ : ∀ h', Heap.ExtBut j s.heap h' → Q none { s with heap := h' }) : wpAny (model prog w) A (pyNext (.ref e)) Q E s := by
  have hT : s.TypeIs (.ref e) "enumerate" := ⟨_, he, rfl⟩
  unfold pyNext
  refine wpAny_bind (wpAny_attempt (wpAny_callSpecial?_slot (name := Str.ofString "__next__") hT F.slot_enumerate_next (wpAny_call_entry F.slot_enumerate_next hT F.entry_enumerate_next ?_ (F.args_enumerate_next_1 _))))
  show wpAny _ _ (field (.ref e) 2 >>= _) _ _ _
  refine wpAny_bind (wpAny_field he rfl (x := .ref j) rfl (wpAny_bind (nxt_end hh hj ht hx fun h' z he' zz => ?_)))
  obtain ⟨o, ho, hc⟩ := zz
  exact wpAny_bind (wpAny_isInstance (T := "StopIteration") (b := true) ⟨o, ho, hc⟩ isSubtype_stop (wpAny_pure (hQ _ he')))
open AutoSeq1 (wpAny_loadPart') in
theorem enum_newT (t : Addr) (its : Array Value) (n : Nat) (dct : Option Addr) (sl : Array (Option Value)) :
    Meets (Builtin.«enumerate.__new__» ⟨[.type "enumerate", .ref t], []⟩) (fun _ R s => s.heap.get? t = some { cls := .type "tuple", dict := dct, data := .seq its n, slots := sl } ∧
      R (.ok (.ret (.ref (s.heap.push { cls := .type "tuple_iterator", data := .fields #[.ref t, .int 0 0] }).objs.size)))
        { s with heap := (s.heap.push { cls := .type "tuple_iterator", data := .fields #[.ref t, .int 0 0] }).push { cls := .type "enumerate", data := .fields #[.none, .bool false, .ref s.heap.objs.size, rawInt 0, .none, .none] } }) :=
  .of_wp fun prog w A R s h => by
    obtain ⟨hp, g, d, tk, os⟩ := s; obtain ⟨hl, h⟩ := h
    have hsub := sub_enumerate
    have hL : Heap.IsTuple (Shared.heap ⟨hp, g, d, tk, os⟩) t its := ⟨_, hl, rfl, n, rfl⟩
    wp_walk using wpAny_loadPart' hl
    refine wpAny_stack_any fun st => wpAny_pure ?_
    split
    · rename_i k _ _ _ _ _
      cases (k == Value.type "enumerate") <;> (wp_walk using wpAny_loadPart' hl, wpAny_pyIter_tuple hL; exact ⟨_, rfl, h⟩)
    · wp_walk using wpAny_loadPart' hl, wpAny_pyIter_tuple hL
      exact ⟨_, rfl, h⟩
theorem call_enumT {t : Addr} {its : Array Value} {Q : Value → Shared → Prop} (hL : s.heap.IsTuple t its)
    (h : ∀ h', IsEnum h' (s.heap.objs.size + 1) s.heap.objs.size 0 .none → h'.IsTupleIter s.heap.objs.size t 0 → h'.objs.size = s.heap.objs.size + 2 →
      (∀ b o, s.heap.get? b = some o → h'.get? b = some o) → Q (.ref (s.heap.objs.size + 1)) { s with heap := h' }) :
    wpAny (model prog w) A (call (.type "enumerate") [.ref t]) Q E s := by
  obtain ⟨⟨k, dct, dt, sl⟩, hl, hc, n, hd⟩ := hL
  replace hc : k = .type "tuple" := hc
  replace hd : dt = .seq its n := hd
  subst hc hd
  refine callType_new F.called_enumerate (by decide) (F.typeCall_enumerate_1 _) (F.newCall_enumerate_1 _) (fun obj => F.args_object_init_2 obj _) F.entry_enumerate_new (enum_newT t its n dct sl) ⟨hl, ?_⟩
  have hz : (s.heap.push { cls := .type "tuple_iterator", data := .fields #[.ref t, .int 0 0] }).objs.size = s.heap.objs.size + 1 := Heap.size_push ..
  show _ ∧ _
  rw [hz]
  have he : IsEnum ((s.heap.push { cls := .type "tuple_iterator", data := .fields #[.ref t, .int 0 0] }).push { cls := .type "enumerate", data := .fields #[.none, .bool false, .ref s.heap.objs.size, rawInt 0, .none, .none] }) (s.heap.objs.size + 1) s.heap.objs.size 0 .none := by
    have q := Heap.get?_push_size (s.heap.push { cls := .type "tuple_iterator", data := .fields #[.ref t, .int 0 0] }) (o := { cls := .type "enumerate", data := .fields #[.none, .bool false, .ref s.heap.objs.size, rawInt 0, .none, .none] }) rfl
    rw [hz] at q; exact q
  exact ⟨⟨_, he, rfl⟩, h _ he ⟨_, Heap.get?_push_of_some _ (Heap.get?_push_size _ rfl), rfl, rfl⟩ (by rw [Heap.size_push, hz]) fun b o x => Heap.get?_push_of_some _ (Heap.get?_push_of_some _ x)⟩
end
noncomputable def IteT (K : PySem.W.Frag) (c : Int) (a : Addr) : It :=
  ⟨fun i H => ∃ xs x, SqT K H a xs ∧ xs[i]? = some x, fun i H v H' => ∃ p x, H p = none ∧ v = .ref p ∧ H' = upd H p (.tup [.int (c + i), x]) ∧ ∀ xs, SqT K H a xs → xs[i]? = some x, fun i H => ∃ xs, SqT K H a xs ∧ xs.length ≤ i⟩
theorem turn_enumT {P : Program} {w : World} {K : PySem.W.Frag} {es : List Expr} {k : Nat} {pos : Pos} (a e j : Addr) (c : Int) (hne : e ≠ j) : Turn P w K (.Tuple es k pos) (IteT K c a) [e, j] e (fun i h => ∃ old, IsEnum h e j (c + i) old ∧ h.IsTupleIter j a i) where
  mem := by simp
  obj := fun i h st b hb => by
    obtain ⟨old, he, o, ho, hc, hd⟩ := st
    rcases List.mem_cons.mp hb with rfl | hb
    · exact ⟨_, he, fun v z => by cases z⟩
    · have : b = j := by simpa using hb
      subst this
      exact ⟨o, ho, fun v z => by rw [hd] at z; cases z⟩
  keep := fun i h h' st kk => by
    obtain ⟨old, he, o, ho, r⟩ := st
    exact ⟨old, kk e (by simp) _ he, o, kk j (by simp) o ho, r⟩
  item := by
    intro X hP hw hK hc i pins s σ H E I hf st hg
    subst hP hw hK
    obtain ⟨xs, x, hq, hx⟩ := hg
    obtain ⟨old, he, hj⟩ := st
    obtain ⟨its, rv, p, hz⟩ := I.tuple hq
    obtain ⟨u, hu, ru⟩ := rv.get hx
    have fe := hf e (by simp)
    have fj := hf j (by simp)
    refine enum_step he hj (show s.heap.IsTuple a its.toArray from p) (x := u) (by simpa using hu) hne fun h' tk eo j' t' z' kk => ?_
    refine ⟨_, rfl, wpAny_letOwnedTupleGo_enum (s := { s with heap := h', toks := s.toks + 1 }) eo fun h2 e2 s2 => ?_⟩
    replace s2 : Heap.SameBut e h' h2 := s2
    have le : e < s.heap.objs.size := Heap.lt_size he
    have ne2 : s.heap.objs.size ≠ e := Nat.ne_of_gt le
    -- the iterator's two records have turned, the pair is new
    have t2 : h2.get? s.heap.objs.size = some { cls := .type "tuple", data := .seq #[.int (c + i) tk, u] } := s2.extBut _ _ ne2 t'
    have hp0 : H s.heap.objs.size = none := I.hok.fresh (Nat.le_refl _)
    have up : ∀ b o, b ∉ [e, j] → s.heap.get? b = some o → h2.get? b = some o := fun b o hb q =>
      s2.extBut b o (fun z => hb (by simp [z])) (kk b o (fun z => hb (by simp [z])) (fun z => hb (by simp [z])) q)
    have I2 : Inv X pins σ (upd H s.heap.objs.size (.tup [.int (c + i), x])) { s with heap := h2, toks := s.toks + 1 } := by
      refine I.step (g' := s.gens) (d' := s.drawn) (t' := s.toks + 1) (ch := [e, j]) (fun b hb => ?_) (fun b o _ _ hb q n => up b o hb q) (fun b o _ _ hb q n => ⟨o.slots, up b o hb q⟩) (fun b o _ q n => ?_) (fun b o hb q => ⟨o, up b o hb q⟩) (fun b ys q => ?_) (fun b o y q => ?_) (fun b ps q => ⟨#[], ?_⟩) (fun m hm => ?_) (fun b o q => ?_) I.bare
      · have := hf b hb; exact ⟨this.2.2.2.1, this.2.1, this.2.2.2.2.1, this.2.2.2.2.2⟩
      · rw [upd_ne (Nat.ne_of_lt (Heap.lt_size q))]; exact n
      · rw [upd_ne (ne_of_none q hp0)]; exact q
      · rw [upd_ne (ne_of_none q hp0)]; exact q
      · rw [upd_ne (ne_of_none q hp0), q]; simp
      · obtain ⟨o, es', ep, ho, r⟩ := hm
        exact ⟨o, es', ep, s2.extBut _ o (Ne.symm fe.2.1) (kk _ o (Ne.symm fe.2.1) (Ne.symm fj.2.1) ho), r⟩
      · by_cases hb : b = s.heap.objs.size
        · subst hb
          rw [upd_same] at q
          cases q
          exact ⟨(by show 2 ≤ sizeLine; decide), [.int (c + i) tk, u], .cons ⟨tk, rfl⟩ (.cons ru .nil), _, t2, rfl, ⟨_, rfl⟩, rfl⟩
        · rw [upd_ne hb] at q
          refine (I.hok b o q).stay (fun d v hd z => up d v (fun hm => ?_) z) (fun d z => by rw [upd_ne (ne_of_none z hp0)]; exact z) fun d ys z => by rw [upd_ne (ne_of_none z hp0)]; exact z
          have : H d ≠ none := by
            rcases hd with rfl | hd
            · rw [q]; simp
            · rw [hd]; simp
          exact this (hf d hm).1
    refine ⟨.ref s.heap.objs.size, _, I2, rfl, ⟨_, x, hp0, rfl, rfl, fun ys hy => by rw [I.tuple_inj hy hq]; exact hx⟩, ?_, fun b hb => ?_⟩
    · obtain ⟨o, ho, r⟩ := id j'
      have ec : c + ((i + 1 : Nat) : Int) = c + (i : Int) + 1 := by push_cast; omega
      exact ⟨u, by rw [ec]; exact e2, o, s2.extBut j o (Ne.symm hne) ho, r⟩
    · have hb2 : b ≠ s.heap.objs.size := by
        rcases List.mem_cons.mp hb with rfl | hb
        · exact Nat.ne_of_lt le
        · have : b = j := by simpa using hb
          subst this
          obtain ⟨o, ho, _⟩ := id hj
          exact Nat.ne_of_lt (Heap.lt_size ho)
      rw [upd_ne hb2]; exact (hf b hb).1
  done := by
    intro X hP hw hK hc i pins s σ H E I hf st hg
    subst hP hw hK
    obtain ⟨xs, hq, hx⟩ := hg
    obtain ⟨old, he, hj⟩ := st
    obtain ⟨its, rv, p, hz⟩ := I.tuple hq
    obtain ⟨f0, f1, f2, f3, f4, f5⟩ := hf j (by simp)
    have hl := rv.length
    exact enum_stop (I.ok.hd hc) he hj (show s.heap.IsTuple a its.toArray from p) (by simp; omega) fun h' eb => ⟨rfl, I.turned (t' := s.toks) (fun b o hb q => eb b o hb q) f0 f1 f3 f4 f5⟩
  self := fun _ _ _ _ _ st h => by
    obtain ⟨old, he, _⟩ := st
    exact wpAny_pyIter_enum he h
end DL
namespace DL
open PySem PySem.Spec PyProof.Rows L2
section
variable {X : Cx}
noncomputable def enumL (c : Int) : List D → List D
  | [] => []
  | x :: r => .tup [.int c, x] :: enumL (c + 1) r
theorem enumL_len : ∀ (xs : List D) (c : Int), (enumL c xs).length = xs.length
  | [], _ => rfl
  | x :: r, c => by simp [enumL, enumL_len r]
theorem enumL_get : ∀ {xs : List D} {c : Int} {i : Nat} {d : D}, (enumL c xs)[i]? = some d → ∃ x, xs[i]? = some x ∧ d = .tup [.int (c + i), x]
  | [], c, i, d, h => by simp [enumL] at h
  | x :: r, c, 0, d, h => by simp [enumL] at h; exact ⟨x, rfl, by rw [← h]; simp⟩
  | x :: r, c, i + 1, d, h => by
    simp only [enumL, List.getElem?_cons_succ] at h
    obtain ⟨y, h1, h2⟩ := enumL_get h
    refine ⟨y, by simpa using h1, ?_⟩
    rw [h2]
    have : c + 1 + (i : Int) = c + ((i + 1 : Nat) : Int) := by push_cast; omega
    rw [this]
theorem itr_enum {K : PySem.W.Frag} {H0 : Hp} {ι0 : List Addr} {a : Addr} {c : Int} {xs : List D} {vs : List V} (hS : SqT K H0 a vs) (P : Paired (Rep K H0 ι0) xs vs)
    (inj : ∀ (i : Nat) (H : Hp) (x : V), (∀ ys, SqT K H a ys → ys[i]? = some x) → SqT K H a vs → vs[i]? = some x) : ItRep K (IteT K c a) (enumL c xs) [] H0 ι0 := by
  refine ⟨fun i H2 ι2 Hd2 l2 h2 _ hi => ?_, fun i H2 ι2 Hd2 d v H3 l2 h2 _ hd y => ?_, fun i H2 ι2 Hd2 l2 h2 _ hi => ⟨vs, l2.tup a vs hS, by rw [← Prd.len P, ← enumL_len xs c]; exact hi⟩⟩
  · exact ⟨vs, vs[i]'(by rw [← Prd.len P, ← enumL_len xs c]; exact hi), l2.tup a vs hS, by simp⟩
  · obtain ⟨p, x, hp, rfl, rfl, y⟩ := y
    obtain ⟨x', hx', rfl⟩ := enumL_get hd
    obtain ⟨u, hu, ru⟩ := Prd.get P hx'
    have := y vs (l2.tup a vs hS)
    rw [hu] at this
    cases this
    refine ⟨ι2, Le.fresh hp _, h2.tup hp _, rep_tup.mpr ⟨p, _, rfl, SqT.of upd_same, .cons (by simp) (.cons ((ru.mono l2).mono (Le.fresh hp _)) .nil)⟩⟩
noncomputable def iEnum (f : AF) : ItF := fun σ H => (f σ H).bind fun p => match p.1 with
  | [.tup xs] => some ((enumL 0 xs, []), p.2)
  | _ => none
theorem pif_enum {es : List Expr} {k : Nat} {tp p pos : Pos} {a : Expr} {f : AF} (hg : Gl X "enumerate") (hm : X.mg "enumerate" = none) (ha : PAf X [a] f) (hs : starEach [a] X.env = [(false, eval a X.env)] := by rfl) : PIf X (.Tuple es k tp) (.Call (.Name "enumerate" p) [a] [] pos) (iEnum f) := by
  rintro pins s σ H R I ⟨ι, σd, Hd, xs, own, Hd', sr, hr, e, q⟩
  obtain ⟨⟨ds, H1⟩, e1, e⟩ := Option.bind_eq_some_iff.mp e
  dsimp only at e
  split at e
  · rename_i ys
    cases e
    refine Call_ (ld_blt I hg hm boot_enumerate (PyProof.Rows.callWith_type1 (thn (ha pos pins s σ H (fun vs H' => ∃ a ws, vs = [.ref a] ∧ SqT X.K H' a ws ∧ ∀ (J : It) (H2 : Hp), H2 = H' → J = IteT X.K 0 a → R J H2) I ⟨ι, σd, Hd, _, _, sr, hr, e1, fun vs H' ι' l h P => ?_⟩) fun us s1 ⟨vs, H2, I2, r2, q2⟩ => ?_) hs rfl))
    · obtain ⟨v, rfl, r⟩ := prd1 P
      obtain ⟨ad, ws, rfl, hS, P2⟩ := rep_tup.mp r
      refine ⟨ad, ws, rfl, hS, fun J H2 e2 e3 => ?_⟩
      subst e2 e3
      exact q _ _ ι' l h (itr_enum hS P2 fun i H x y h => y ws h)
    · obtain ⟨ad, ws, rfl, hS, q2⟩ := q2
      obtain ⟨u, rfl, ru⟩ := vals1 r2
      cases ru
      obtain ⟨its, rv, p, hz⟩ := I2.tuple hS
      refine call_enumT (show s1.heap.IsTuple ad its.toArray from p) fun h' he hj z' kk => ?_
      have I3 : Inv X pins σ H2 { s1 with heap := h' } := I2.kept (t' := s1.toks) kk
      refine wpAny_pyIter_enum (s := { s1 with heap := h' }) he ?_
      have ne : s1.heap.objs.size + 1 ≠ s1.heap.objs.size := Nat.succ_ne_self _
      refine ⟨s1.heap.objs.size + 1, [s1.heap.objs.size + 1, s1.heap.objs.size], _, IteT X.K 0 ad, H2, rfl, I3, turn_enumT ad _ _ 0 ne, ⟨.none, by simpa using he, hj⟩, fun b hb => ?_, q2 _ _ rfl rfl⟩
      have : s1.heap.objs.size ≤ b := by
        rcases List.mem_cons.mp hb with rfl | hb
        · exact Nat.le_succ _
        · have : b = s1.heap.objs.size := by simpa using hb
          rw [this]; exact Nat.le_refl _
      have fp := I2.fpOk (b := b) (H' := H2) this (I2.hok.fresh this)
      exact fp
  · cases e
end
structure Five (z a b c d : Addr) : Prop where
  az : a ≠ z
  bz : b ≠ z
  cz : c ≠ z
  dz : d ≠ z
  ab : a ≠ b
  ac : a ≠ c
  ad : a ≠ d
  bc : b ≠ c
  bd : b ≠ d
  cd : c ≠ d
section
variable {X : Cx}
noncomputable def zipL : List D → List D → List D
  | x :: xs, y :: ys => .tup [x, y] :: zipL xs ys
  | _, _ => []
noncomputable def rangeL3 (lo c : Int) (n : Nat) : List D := (List.range n).map fun k : Nat => .int (lo + (k : Int) * c)
noncomputable def size3 (i j c : Int) : Nat := if i < j then ((j - i - 1) / c + 1).toNat else 0
noncomputable def small3 (i j c : Int) : Prop := -(2 ^ 60) ≤ i ∧ i < 2 ^ 60 ∧ -(2 ^ 60) ≤ j ∧ j < 2 ^ 60 ∧ 0 < c ∧ c < 2 ^ 20
instance (i j c : Int) : Decidable (small3 i j c) := by unfold small3; exact inferInstance
noncomputable def iR3 (f : AF) : ItF := fun σ H => (f σ H).bind fun p => match p.1 with
  | [.int i, .int j, .int c] => if small3 i j c then some ((rangeL3 i c (size3 i j c), []), p.2) else none
  | _ => none
end
end DL
namespace DL
open PySem PySem.Spec PyProof.Rows L2
section
variable {X : Cx}
noncomputable def eLR2 (f : AF) : EF := fun σ H => (f σ H).bind fun p => match p.1 with
  | [.int i, .int j] => if smallI i ∧ smallI j ∧ (j - i).toNat ≤ 1000000 then some (.ref p.2.length, p.2 ++ [.lst (rangeL i (j - i).toNat)]) else none
  | _ => none
end
structure Fn (P : Program) (w : World) (K : PySem.W.Frag) (mg : Str → Option Value) (base : Heap) (k : Nat) (x : Str) (ps : List Str) (F : FF) : Prop where
  ex : ∃ f fd, FnOk P w K mg base CX0 k f fd ps (spF K ps.length F) ∧ Binds K fd ps [] ∧ PySem.W.keepIn K (.ref f) = true ∧ mg x = some (.ref f) ∧ ∃ (oc : Value) (od : Option Addr) (osl : Array (Option Value)), K.lookup f = some ⟨oc, od, .func fd, osl⟩
theorem pef_fn {X : Cx} {k n : Nat} {ps : List Str} {x : Str} {p pos : Pos} {F : FF} {fa : AF} {e : Expr} {es : List Expr} (G : Fn X.prog X.w X.K X.mg X.base k x ps F) (hr : Room k X.A) (hg : Gl X x)
    (ha : PAf X (e :: es) fa) (hdb : (x == ("__debug__" : Str)) = false := by decide) (he : starEach (e :: es) X.env = (false, eval e X.env) :: starEach es X.env := by exact star_cons rfl) (hpl : (backTo pos (starEach es X.env)).any (·.1) = false := by exact star_any rfl) (hn : ps.length = n := by rfl) :
    PEf X (.Call (.Name x p) (e :: es) [] pos) (eCall n F fa) := by
  subst hn
  obtain ⟨f, fd, G1, hb, hk, hm, _⟩ := G.ex
  exact pef_call G1 hr hg hm hk hb ha hdb he hpl
noncomputable def Tf (K : PySem.W.Frag) (mg : Str → Option Value) (x : Str) (st : Stmt) : Prop := ∃ f fd, Fun K x x st f fd ∧ mg x = some (.ref f)
theorem us0 {us : List Value} (h : us.length = 0) : us = [] := List.length_eq_zero_iff.mp h
theorem us1 {us : List Value} (h : us.length = 1) : ∃ a, us = [a] := by
  obtain ⟨a, r⟩ := List.exists_cons_of_length_eq_add_one h
  obtain ⟨t, rfl⟩ := r
  rw [us0 (us := t) (by simpa using h)]
  exact ⟨a, rfl⟩
theorem us2 {us : List Value} (h : us.length = 2) : ∃ a b, us = [a, b] := by
  obtain ⟨a, t, rfl⟩ := List.exists_cons_of_length_eq_add_one h
  obtain ⟨b, rfl⟩ := us1 (us := t) (by simpa using h)
  exact ⟨a, b, rfl⟩
theorem us3 {us : List Value} (h : us.length = 3) : ∃ a b c, us = [a, b, c] := by
  obtain ⟨a, t, rfl⟩ := List.exists_cons_of_length_eq_add_one h
  obtain ⟨b, c, rfl⟩ := us2 (us := t) (by simpa using h)
  exact ⟨a, b, c, rfl⟩
theorem us4 {us : List Value} (h : us.length = 4) : ∃ a b c d, us = [a, b, c, d] := by
  obtain ⟨a, t, rfl⟩ := List.exists_cons_of_length_eq_add_one h
  obtain ⟨b, c, d, rfl⟩ := us3 (us := t) (by simpa using h)
  exact ⟨a, b, c, d, rfl⟩
theorem us5 {us : List Value} (h : us.length = 5) : ∃ a b c d e, us = [a, b, c, d, e] := by
  obtain ⟨a, t, rfl⟩ := List.exists_cons_of_length_eq_add_one h
  obtain ⟨b, c, d, e, rfl⟩ := us4 (us := t) (by simpa using h)
  exact ⟨a, b, c, d, e, rfl⟩
theorem tf_mk {K : PySem.W.Frag} {h : Heap} {mg : Str → Option Value} {x : Str} {st : Stmt} {f : Addr} {oc : Value} {od an : Option Addr} {osl : Array (Option Value)} {kV doc pm cdv ct : Value} (X : K.In h) (G : h.Ns mainGlobals mg)
    (a : PySem.W.nsIn K mainGlobals x = some (some (.ref f))) (l : K.lookup f = some ⟨oc, od, .func (PySem.W.fnOf x x (defArgs st) (defBody st) (defScope st) .none kV doc pm an cdv ct), osl⟩)
    (c : PySem.W.codeIn K cdv x = true) (k : PySem.W.keepIn K (.ref f) = true) : Tf K mg x st := ⟨f, _, fun_mk l c k, PySem.W.mg_of X G a⟩
theorem fn_mk {P : Program} {w : World} {K : PySem.W.Frag} {mg : Str → Option Value} {base : Heap} {x : Str} {st : Stmt} {N ps : List Str} {k : Nat} {b : SF} (T : Tf K mg x st) (S : FnScope N ps (defScope st))
    (hbd : ∀ (kV doc pm : Value) (an : Option Addr) (cdv ct : Value) (us : List Value), us.length = ps.length → bindArgs (PySem.W.fnOf x x (defArgs st) (defBody st) (defScope st) .none kV doc pm an cdv ct) ⟨us, []⟩ = pure (ps.zip us))
    (hb : ∀ (f : Addr) (cdv : Value) (A : Around) (outer : List Env) (s : Shared) (H : Hp) (E : XK), Room k (A.deeper (envOfC x (defScope st) s.heap.objs.size f cdv)) →
      PSsf (cxOf CX0 P w K mg base N x (defScope st) f cdv A outer s H E).nox (defBody st) b) : Fn P w K mg base (k + 1) x ps (runB ps.length N.length b) := by
  obtain ⟨f, fd, F, hm⟩ := T
  refine ⟨f, fd, fn_f F S fun cdv A outer s H E hr => hb f cdv A outer s H E hr, F.binds hbd, F.kp, hm, ?_⟩
  obtain ⟨oc, od, kV, doc, pm, an, cdv, ct, osl, rfl, lk, hcd⟩ := F.ex
  exact ⟨oc, od, osl, lk⟩
noncomputable def blkB (sc scope : Scope) (N : List Str) (x : Str) (cn : List Str) (ci : List Nat) : Bool :=
  (scope.kind == .function) && scope.names.all (fun y => y.2 != .cell) && scope.names.all (fun y => y.2 != .local || scope.names.lookup y.1 == some .local) && (scope.names.lookup x == some .local) &&
  scope.names.all (fun y => y.2 != .free || sc.names.lookup y.1 == some .cell) && decide (x :: cn).Nodup && (ci.length == cn.length) &&
  (cn.zip ci).all (fun p => N[p.2]? == some p.1 && scope.names.lookup p.1 == some .free && sc.names.lookup p.1 == some .cell)
theorem blk_fn {P : Program} {w : World} {K : PySem.W.Frag} {mg : Str → Option Value} {base : Heap} {N : List Str} {qual : Str} {sc scope : Scope} {f : Addr} {cdv : Value} {A : Around} {outer : List Env} {s : Shared} {H : Hp} {E : XK} {x : Str} {cn : List Str} {ci : List Nat}
    (h : blkB sc scope N x cn ci = true) : BlkOk (cxOf CX0 P w K mg base N qual sc f cdv A outer s H E).nox scope x cn ci := by
  unfold blkB at h
  simp only [Bool.and_eq_true, List.all_eq_true, Bool.or_eq_true, bne_iff_ne, ne_eq, beq_iff_eq, decide_eq_true_eq] at h
  obtain ⟨⟨⟨⟨⟨⟨⟨h1, h2⟩, h3⟩, h4⟩, h5⟩, h6⟩, h7⟩, h8⟩ := h
  refine ⟨h1, fun y hy => h2 y hy, fun y hy hl => (h3 y hy).resolve_left fun z => z hl, h4, fun y hy hf => ?_, h6, h7, fun j y hj => ?_⟩
  · have := (h5 y hy).resolve_left fun z => z hf
    obtain ⟨c, hc⟩ := cell_has (n := s.heap.objs.size + 1) this
    exact Option.isSome_iff_exists.mpr ⟨c, hc⟩
  · have hl : j < ci.length := by rw [h7]; exact (List.getElem?_eq_some_iff.mp hj).1
    have hm : (y, ci[j]) ∈ cn.zip ci := by
      refine List.mem_iff_getElem?.mpr ⟨j, ?_⟩
      rw [List.getElem?_zip_eq_some]
      exact ⟨hj, by simp [hl]⟩
    obtain ⟨⟨k1, k2⟩, k3⟩ := h8 _ hm
    exact ⟨ci[j], by simp [hl], k1, k2, .inl k3⟩
theorem bb_len : bootBuiltins "len" = some (.builtin "len") := by decide +kernel
theorem bb_abs : bootBuiltins "abs" = some (.builtin "abs") := by decide +kernel
theorem bb_sorted : bootBuiltins "sorted" = some (.builtin "sorted") := by decide +kernel
theorem bb_isinstance : bootBuiltins "isinstance" = some (.builtin "isinstance") := by decide +kernel
theorem bb_all : bootBuiltins "all" = some (.builtin "all") := by decide +kernel
theorem bb_int : bootBuiltins "int" = some (.type "int") := by decide +kernel
theorem bb_tuple : bootBuiltins "tuple" = some (.type "tuple") := by decide +kernel
theorem bb_bool : bootBuiltins "bool" = some (.type "bool") := by decide +kernel
end DL
namespace DL
open PySem PySem.Spec PyProof.Rows L2
section
variable {X : Cx} {tg : Expr}
theorem itr_tup {K : PySem.W.Frag} {H0 : Hp} {ι0 : List Addr} {a : Addr} {xs : List D} {vs : List V} (hS : SqT K H0 a vs) (P : Paired (Rep K H0 ι0) xs vs) : ItRep K (Itt K a) xs [] H0 ι0 := by
  refine ⟨fun i H2 ι2 Hd2 l2 h2 _ hi => ?_, fun i H2 ι2 Hd2 d x H3 l2 h2 _ hd y => ?_, fun i H2 ι2 Hd2 l2 h2 _ hi => ⟨vs, l2.tup a vs hS, by rw [← Prd.len P]; exact hi⟩⟩
  · exact ⟨vs, vs[i]'(by rw [← Prd.len P]; exact hi), l2.tup a vs hS, by simp⟩
  · obtain ⟨rfl, y⟩ := y
    obtain ⟨u, hu, ru⟩ := Prd.get P hd
    have := y vs (l2.tup a vs hS)
    rw [hu] at this
    cases this
    exact ⟨ι2, Le.refl, h2, ru.mono l2⟩
theorem itr_fl {K : PySem.W.Frag} {H0 : Hp} {ι0 : List Addr} {a : Addr} {xs : List D} {vs : List V} (hS : FzL K H0 a vs) (P : Paired (Rep K H0 ι0) xs vs) : ItRep K (Itl K a) xs [] H0 ι0 := by
  refine ⟨fun i H2 ι2 Hd2 l2 h2 _ hi => ?_, fun i H2 ι2 Hd2 d x H3 l2 h2 _ hd y => ?_, fun i H2 ι2 Hd2 l2 h2 _ hi => ⟨vs, (l2.fz a vs hS).sq, by rw [← Prd.len P]; exact hi⟩⟩
  · exact ⟨vs, vs[i]'(by rw [← Prd.len P]; exact hi), (l2.fz a vs hS).sq, by simp⟩
  · obtain ⟨rfl, y⟩ := y
    obtain ⟨u, hu, ru⟩ := Prd.get P hd
    have := y vs (l2.fz a vs hS).sq
    rw [hu] at this
    cases this
    exact ⟨ι2, Le.refl, h2, ru.mono l2⟩
theorem itr_lst {K : PySem.W.Frag} {H0 : Hp} {ι0 : List Addr} {a : Addr} {n : Nat} {xs : List D} (ha : ι0[n]? = some a) : ItRep K (Itl K a) xs [(n, .lst xs)] H0 ι0 := by
  have now : ∀ {H2 : Hp} {ι2 : List Addr} {Hd2 : HD}, Le K H0 ι0 H2 ι2 → HRep K H2 ι2 Hd2 → okOwn [(n, DO.lst xs)] Hd2 → ∃ ws, H2 a = some (.lst ws) ∧ Paired (Rep K H2 ι2) xs ws := fun {H2 ι2 Hd2} l2 h2 ok =>
    h2.obj n a _ (l2.get ha) (ok (n, .lst xs) (by simp))
  refine ⟨fun i H2 ι2 Hd2 l2 h2 ok hi => ?_, fun i H2 ι2 Hd2 d x H3 l2 h2 ok hd y => ?_, fun i H2 ι2 Hd2 l2 h2 ok hi => ?_⟩
  · obtain ⟨ws, h3, P3⟩ := now l2 h2 ok
    exact ⟨ws, ws[i]'(by rw [← Prd.len P3]; exact hi), SqL.of h3, by simp⟩
  · obtain ⟨ws, h3, P3⟩ := now l2 h2 ok
    obtain ⟨rfl, y⟩ := y
    obtain ⟨u, hu, ru⟩ := Prd.get P3 hd
    have := y ws (SqL.of h3)
    rw [hu] at this
    cases this
    exact ⟨ι2, Le.refl, h2, ru⟩
  · obtain ⟨ws, h3, P3⟩ := now l2 h2 ok
    exact ⟨ws, SqL.of h3, by rw [← Prd.len P3]; exact hi⟩
noncomputable def iSq (f : EF) : ItF := fun σ H => (f σ H).bind fun p => (itemsD p.1 p.2).map fun r => (r, p.2)
theorem pif_seq {l : Expr} {f : EF} (hl : PEf X l f) : PIf X tg l (iSq f) := by
  rintro pins s σ H R I ⟨ι, σd, Hd, xs, own, Hd', sr, hr, e, q⟩
  obtain ⟨⟨d, H1⟩, e1, e⟩ := Option.bind_eq_some_iff.mp e
  obtain ⟨⟨ys, ow⟩, e2, e⟩ := Option.map_eq_some_iff.mp e
  obtain ⟨e3, rfl⟩ := Prod.mk.inj e
  obtain ⟨rfl, rfl⟩ := Prod.mk.inj e3
  refine thn (hl pins s σ H (fun v H1 => ∃ a, v = .ref a ∧ (((∃ xs, SqL X.K H1 a xs) ∧ R (Itl X.K a) H1) ∨ ((∃ xs, SqT X.K H1 a xs) ∧ R (Itt X.K a) H1))) I ⟨ι, σd, Hd, _, _, sr, hr, e1, fun v H' ι' l h r => ?_⟩) fun v s1 ⟨x, H2, I2, r2, q2⟩ => ?_
  · cases d with
    | tup zs =>
      cases e2
      obtain ⟨a, vs, rfl, hS, P⟩ := rep_tup.mp r
      exact ⟨a, rfl, .inr ⟨⟨vs, hS⟩, q _ H' ι' l h (itr_tup hS P)⟩⟩
    | fl zs =>
      cases e2
      obtain ⟨a, vs, rfl, hS, P⟩ := rep_fl.mp r
      exact ⟨a, rfl, .inl ⟨⟨vs, hS.sq⟩, q _ H' ι' l h (itr_fl hS P)⟩⟩
    | ref n =>
      simp only [itemsD] at e2
      split at e2
      · rename_i zs eo
        obtain ⟨e5, e6⟩ := Prod.mk.inj (Option.some.inj e2)
        subst e5 e6
        obtain ⟨a, rfl, ha⟩ := rep_ref.mp r
        obtain ⟨vs, h1, P⟩ := h.obj n a _ ha eo
        exact ⟨a, rfl, .inl ⟨⟨vs, SqL.of h1⟩, q _ H' ι' l h (itr_lst ha)⟩⟩
      · cases e2
    | _ => simp [itemsD] at e2
  · obtain ⟨a, rfl, q2⟩ := q2
    cases r2
    have fp : ∀ b ∈ [s1.heap.objs.size], FpOk X pins H2 b := fun b hb => by
      have e : b = s1.heap.objs.size := by simpa using hb
      subst e
      exact I2.fpOk (Nat.le_refl _) (I2.hok.fresh (Nat.le_refl _))
    rcases q2 with ⟨⟨xs, hq⟩, q2⟩ | ⟨⟨xs, hq⟩, q2⟩
    · obtain ⟨its, rv, p, hz⟩ := I2.list hq
      exact wpAny_pyIter_list p.isList ⟨s1.heap.objs.size, [s1.heap.objs.size], _, _, H2, rfl, I2.kept (t' := s1.toks) fun b o e => Heap.get?_push_of_some _ e, turn_list a _, ⟨_, Heap.get?_push_size _ rfl, rfl, rfl⟩, fp, q2⟩
    · obtain ⟨its, rv, p, hz⟩ := I2.tuple hq
      exact wpAny_pyIter_tuple (show s1.heap.IsTuple a its.toArray from p) ⟨s1.heap.objs.size, [s1.heap.objs.size], _, _, H2, rfl, I2.kept (t' := s1.toks) fun b o e => Heap.get?_push_of_some _ e, turn_tuple a _, ⟨_, Heap.get?_push_size _ rfl, rfl, rfl⟩, fp, q2⟩
end
theorem paf_c {X : Cx} {e : Expr} {es : List Expr} {f : EF} {g : AF} (ha : PEf X e f) (hr : PAf X es g) (hs : noStar e = true) : PAf X (e :: es) (aCons f g) := paf_cons ha hr (star_cons hs)
noncomputable def spLaw (F : FF) (K : PySem.W.Frag) : Sp := spF K 1 F
theorem law_start {F : FF} (h : ∀ ns : List Int, ns.length ≤ 63 → ∃ Hd', F [.fl (ns.map .int)] [] = some (.bl true, Hd')) :
    ∀ (K : PySem.W.Frag) (H : Hp) (a : Addr) (ns : List Int), ns.length ≤ 63 → Only H → SqL K H a (ns.map V.int) → spLaw F K [.ref a] H (fun v _ => v = .bl true) fun _ _ _ => False := by
  intro K H a ns hl hO hS
  obtain ⟨Hd', e⟩ := h ns hl
  have fz : FzL K H a (ns.map V.int) := by
    rcases hS with (h | h) | h
    · rcases hO a with z | ⟨o, xs, z⟩
      · rw [h] at z; cases z
      · rw [h] at z; cases z
    · exact .inl h
    · exact .inr h
  have P : Paired (Rep K H []) (ns.map D.int) (ns.map V.int) := by
    generalize ns = ks
    induction ks with
    | nil => exact .nil
    | cons k ks ih => exact .cons (by simp) ih
  refine ⟨[], [.fl (ns.map .int)], [], .bl true, Hd', rfl, ⟨rfl, List.nodup_nil, fun n a o h1 h2 => by simp at h1⟩, .cons (rep_fl.mpr ⟨a, _, rfl, fz, P⟩) .nil, e, fun v H' ι' l h r => by simpa using r⟩
end DL
namespace DL
open PySem PySem.Spec PyProof.Rows L2
variable {X : Cx}
noncomputable def canShow (x : PyData) : Bool := x.canLay0 && x.showable && decide (x.depth ≤ 30) && decide (x.shown.length ≤ sizeLine)
noncomputable def reprD : FF := fun ds H => match ds with
  | [d] => (toP H 30 d).bind fun x => if canShow x = true then some (.str x.shown, H) else none
  | _ => none
noncomputable def blsD : List D → Option (List Bool)
  | [] => some []
  | .bl b :: r => (blsD r).map fun x => b :: x
  | _ :: _ => none
theorem blsD_vals {K : PySem.W.Frag} {H : Hp} {ι : List Addr} : ∀ {xs : List D} {bs : List Bool} {vs : List V} {us : List Value}, blsD xs = some bs → Paired (Rep K H ι) xs vs → Vals vs us → us = bs.map .bool
  | [], bs, vs, us, e, P, q => by cases e; cases P; cases q; rfl
  | d :: r, bs, vs, us, e, P, q => by
    cases P with
    | cons p P =>
      cases q with
      | cons q Q =>
        cases d <;> simp only [blsD] at e <;> try cases e
        obtain ⟨y, e1, rfl⟩ := Option.map_eq_some_iff.mp e
        simp at p
        subst p
        cases q
        rw [blsD_vals e1 P Q]
        rfl
noncomputable def allD : FF := fun ds H => match ds with
  | [.ref n] => match H[n]? with
    | some (.lst xs) => (blsD xs).map fun bs => (.bl (bs.all id), H)
    | _ => none
  | _ => none
theorem range_all (bs : List Bool) : ((List.range bs.length).all fun i => (bs[i]?).getD true) = bs.all id := by
  rw [Bool.eq_iff_iff, List.all_eq_true, List.all_eq_true]
  constructor
  · intro h x hx
    obtain ⟨i, hi, rfl⟩ := List.getElem_of_mem hx
    have := h i (by simpa using hi)
    simpa [hi] using this
  · intro h i hi
    have hi : i < bs.length := by simpa using hi
    have := h _ (List.getElem_mem hi)
    simpa [hi] using this
theorem callf_all (hc : X.calm = true) : CallF X (.builtin "all") allD := by
  rintro pins s σ H xs us Q I rv ⟨ι, ds, Hd, d, Hd', hr, P, e, q⟩
  unfold allD at e
  split at e
  · rename_i n
    split at e
    · rename_i ys eo
      obtain ⟨bs, e1, e⟩ := Option.map_eq_some_iff.mp e
      obtain ⟨rfl, rfl⟩ := Prod.mk.inj e
      obtain ⟨v, rfl, r⟩ := prd1 P
      obtain ⟨a, rfl, ha⟩ := rep_ref.mp r
      obtain ⟨vs, h1, P2⟩ := hr.obj n a _ ha eo
      cases rv with
      | cons rx rv =>
        cases rv
        cases rx
        obtain ⟨its, rv2, p, hz⟩ := I.list (SqL.of h1)
        have eits := blsD_vals e1 P2 rv2
        have hlt : a < s.heap.objs.size := by
          obtain ⟨o, ho, _⟩ := p.isList
          exact Heap.lt_size ho
        refine call_all_walk (wpAny_pyIter_list p.isList ⟨s.heap.objs.size, [s.heap.objs.size, a], [s.heap.objs.size], its.toArray.size, _, _, fun i => (bs[i]?).getD true, rfl,
          Walks.list (A := X.A.in1) (show X.A.in1.handled = none from I.ok.hd hc) s.heap.objs.size a (Nat.ne_of_lt hlt) its.toArray, ⟨⟨_, Heap.get?_push_size _ rfl, rfl, rfl⟩, p.isList.at fun o z => Heap.get?_push_of_some _ z⟩, ?_, fun h' tk k => ?_⟩)
        · intro i v s2 Q2 E2 hv hq
          rw [eits] at hv
          have hv2 : (bs.map Value.bool)[i]? = some v := by simpa using hv
          rw [List.getElem?_map] at hv2
          obtain ⟨b, hb, rfl⟩ := Option.map_eq_some_iff.mp hv2
          refine wpAny_truthy_bool ?_
          simpa [hb] using hq
        · have hn : its.toArray.size = bs.length := by rw [eits]; simp
          rw [hn, range_all]
          refine ⟨.bl (bs.all id), H, I.kept (t' := tk) fun b o z => k b o ?_ (Heap.get?_push_of_some _ z), rfl, q _ H ι Le.refl hr (by simp)⟩
          intro hm
          have : b = s.heap.objs.size := by simpa using hm
          exact absurd (this ▸ Heap.lt_size z) (Nat.lt_irrefl _)
    · cases e
  · cases e
end DL
namespace HT
open PySem PySem.Spec PyProof.Rows
section
variable {prog : Program} {w : World} {A : Around} {E : Value → Shared → Prop} {s : Shared}
end
end HT
namespace DL
open PySem PySem.Spec PyProof.Rows L2
variable {X : Cx}
section
variable {a b c : Expr} {pos : Pos}
noncomputable def eCh (g g' : F2) (fa fb fc : EF) : EF := fun σ H => (fa σ H).bind fun p => (fb σ p.2).bind fun q => (g p.1 q.1 q.2).bind fun z => (blD z.1).bind fun k => if k = true then (fc σ z.2).bind fun w => g' q.1 w.1 w.2 else some (.bl false, z.2)
end
noncomputable def Gc (K : PySem.W.Frag) (mg : Str → Option Value) (x : Str) (d : D) : Prop := ∃ u v, mg x = some u ∧ RelV v u ∧ ∀ H ι, Rep K H ι d v
theorem pef_gc {x : Str} {d : D} {pos : Pos} (hg : Gl X x) (h : Gc X.K X.mg x d) (hd : (x == ("__debug__" : Str)) = false := by decide) : PEf X (.Name x pos) (eC d) := by
  obtain ⟨u, v, hm, r, rp⟩ := h
  exact pef_C (pe_glob (v := v) hg hm r hd) rp
noncomputable def revD (x : D) (H : HD) : Option (D × HD) := match x with
  | .tup xs => mkT xs.reverse H
  | _ => none
noncomputable def eRv (fe : EF) : EF := fun σ H => (fe σ H).bind fun p => revD p.1 p.2
end DL
namespace DL
open PySem PySem.Spec PyProof.Rows L2
variable {X : Cx}
noncomputable def dlook (kvs : List (D × D)) (k : List Int) : Option D := (kvs.find? fun p => nk p.1 == some k).map (·.2)
noncomputable def dput (kvs : List (D × D)) (kd : D) (k : List Int) (vd : D) : List (D × D) :=
  if (dlook kvs k).isSome then kvs.map (fun p => if nk p.1 = some k then (p.1, vd) else p) else kvs ++ [(kd, vd)]
section
variable {K : PySem.W.Frag} {H : Hp} {ι : List Addr}
theorem krep_at {kvs : List (D × D)} {xs : List (List Int × Addr × Value)} (h : Paired (KRep K H ι) kvs xs) (k : List Int) :
    (dlook kvs k = none ∧ atKey xs k = none) ∨ ∃ vd b u v, dlook kvs k = some vd ∧ atKey xs k = some (b, u) ∧ RelV v u ∧ Rep K H ι vd v := by
  unfold dlook atKey
  induction h with
  | nil => exact .inl ⟨rfl, rfl⟩
  | @cons p x ps ys r t ih =>
    obtain ⟨r1, r2, v, r3, r4⟩ := r
    by_cases hk : x.1 = k
    · have e1 : (nk p.1 == some k) = true := by rw [r1, hk]; simp
      refine .inr ⟨p.2, x.2.1, x.2.2, v, ?_, ?_, r3, r4⟩
      · rw [List.find?_cons]; simp only [e1]; rfl
      · rw [List.find?_cons]; simp only [hk, decide_true]; rfl
    · have e1 : ¬ (nk p.1 == some k) = true := by rw [r1]; simpa using hk
      have e1' : (nk p.1 == some k) = false := by simpa using e1
      have e2' : decide (x.1 = k) = false := decide_eq_false hk
      rw [List.find?_cons, List.find?_cons]
      simp only [e1', e2']
      exact ih
theorem krep_put {kvs : List (D × D)} {xs : List (List Int × Addr × Value)} {kd vd : D} {k : List Int} {b : Addr} {u : Value} {v : V} (h : Paired (KRep K H ι) kvs xs) (h1 : nk kd = some k) (h2 : Rep K H ι kd (.ref b)) (rv : RelV v u) (r : Rep K H ι vd v) :
    Paired (KRep K H ι) (dput kvs kd k vd) (storedH xs k b u) := by
  have all : ∀ {ls : List (D × D)} {ys : List (List Int × Addr × Value)}, Paired (KRep K H ι) ls ys → Paired (KRep K H ι) (ls.map (fun p => if nk p.1 = some k then (p.1, vd) else p)) (ys.map (putAt k u)) := by
    intro ls ys q
    induction q with
    | nil => exact .nil
    | @cons p x ps zs r' t ih =>
      refine .cons ?_ ih
      obtain ⟨r1, r2, r3⟩ := r'
      unfold putAt
      by_cases hk : x.1 = k
      · have e : nk p.1 = some k := by rw [r1, hk]
        show KRep K H ι (if nk p.1 = some k then (p.1, vd) else p) (if x.1 = k then (x.1, x.2.1, u) else x)
        rw [if_pos hk, if_pos e]
        exact ⟨r1, r2, v, rv, r⟩
      · have e : ¬ nk p.1 = some k := by rw [r1]; simpa using hk
        show KRep K H ι (if nk p.1 = some k then (p.1, vd) else p) (if x.1 = k then (x.1, x.2.1, u) else x)
        rw [if_neg hk, if_neg e]
        exact ⟨r1, r2, r3⟩
  unfold dput storedH
  rcases krep_at h k with ⟨e1, e2⟩ | ⟨_, _, _, _, e1, e2, _⟩
  · rw [e1, e2]
    exact Prd.append h (.cons ⟨h1, h2, v, rv, r⟩ .nil)
  · rw [e1, e2]
    exact all h
theorem dput_len (kvs : List (D × D)) (kd : D) (k : List Int) (vd : D) : (dput kvs kd k vd).length ≤ kvs.length + 1 := by
  unfold dput; split <;> simp
end
section
variable {pins : List (Addr × Obj)} {σ : L2.St} {H : Hp} {s : Shared} {ι : List Addr} {Hd : HD}
theorem num_of {d : D} {v : V} {u : Value} {k : Int} {K : PySem.W.Frag} (e : nkOf d = some k) (r : Rep K H ι d v) (q : RelV v u) : numIs k u = true := by
  cases d with
  | bl b => cases e; simp at r; subst r; cases q; simp [numIs, numOf]
  | int i => cases e; simp at r; subst r; obtain ⟨t, rfl⟩ := q; simp [numIs, numOf]
  | _ => cases e
theorem items_num {P : Program} {w : World} {K : PySem.W.Frag} : ∀ {ds : List D} {vs : List V} {us : List Value} {ks : List Int}, nksOf ds = some ks → Paired (Rep K H ι) ds vs → Vals vs us → ItemsAre (numKind P w) ks us
  | [], vs, us, ks, e, p, q => by cases e; cases p; cases q; exact .nil
  | d :: ds, vs, us, ks, e, p, q => by
    cases p with
    | cons p1 p2 =>
      cases q with
      | cons q1 q2 =>
        simp only [nksOf] at e
        obtain ⟨k, e1, e⟩ := Option.bind_eq_some_iff.mp e
        obtain ⟨r, e2, rfl⟩ := Option.map_eq_some_iff.mp e
        exact .cons (num_of e1 p1 q1) (items_num e2 p2 q2)
theorem key_is (I : Inv X pins σ H s) {d : D} {k : List Int} {b : Addr} (e : nk d = some k) (r : Rep X.K H ι d (.ref b)) : (tupleKind (numKind X.prog X.w)).is s.heap k b := by
  cases d <;> simp only [nk] at e <;> try cases e
  rename_i ds
  obtain ⟨a, vs, ea, h, P⟩ := rep_tup.mp r
  cases ea
  obtain ⟨its, rv, ht, hz⟩ := I.tuple h
  obtain ⟨o, h1, h2, n, h3⟩ := ht
  exact ⟨o, its.toArray, n, h1, h2, h3, by simpa using items_num e P rv⟩
theorem dic_of (I : Inv X pins σ H s) {a : Addr} {kvs : List (D × D)} {fz : Bool} (h : ORep X.K H ι a (.dic kvs fz)) : (a == sysModules) = false ∧ kvs.length ≤ sizeLine ∧ ∃ xs, (if fz = true then ∃ o, H a = some (.frz o (.ext (DicAt a xs))) else H a = some (.ext (DicAt a xs))) ∧ Paired (KRep X.K H ι) kvs xs ∧ s.heap.DictOfH (tupleKind (numKind X.prog X.w)) a xs := by
  obtain ⟨h1, h2, xs, e, p⟩ := h
  have rd : Rd H a (.ext (DicAt a xs)) := by
    cases fz with
    | true => rw [if_pos rfl] at e; exact .inr e
    | false => rw [if_neg (by simp)] at e; exact .inl e
  obtain ⟨⟨o, es, ep, g1, g2, g3, g4, g5⟩, _⟩ := (show ObjOk X.prog X.w H s.heap a (.ext (DicAt a xs)) from rd.ok I.hok)
  refine ⟨h1, h2, xs, e, p, o, es, ep, g1, g2, g3, g4, ?_, g5⟩
  have all : ∀ {l : List (D × D)} {m : List (List Int × Addr × Value)}, Paired (KRep X.K H ι) l m → ∀ x ∈ m, (tupleKind (numKind X.prog X.w)).is s.heap x.1 x.2.1 := by
    intro l m q
    induction q with
    | nil => intro x hx; exact nomatch hx
    | @cons p x ps qs hq t ih =>
      intro y hy
      rcases List.mem_cons.mp hy with e | hy
      · subst e
        exact key_is I hq.1 hq.2.1
      · exact ih y hy
  exact all p
end
noncomputable def dicD (x : D) (H : HD) : Option (List (D × D)) := match x with
  | .ref n => match H[n]? with
    | some (.dic kvs _) => some kvs
    | _ => none
  | _ => none
theorem dicD_some {x : D} {Hd : HD} {kvs : List (D × D)} (e : dicD x Hd = some kvs) : ∃ n fz, x = .ref n ∧ Hd[n]? = some (.dic kvs fz) := by
  cases x <;> simp only [dicD] at e <;> try cases e
  rename_i n
  split at e
  · rename_i fz h; cases e; exact ⟨n, fz, rfl, h⟩
  · cases e
noncomputable def dgetD : F2 := fun x y H => (dicD x H).bind fun kvs => (nk y).bind fun k => (dlook kvs k).map fun v => (v, H)
theorem nk_ref {K : PySem.W.Frag} {H : Hp} {ι : List Addr} {d : D} {k : List Int} {v : V} (e : nk d = some k) (r : Rep K H ι d v) : ∃ b, v = .ref b := by
  cases d <;> simp only [nk] at e <;> try cases e
  obtain ⟨a, vs, rfl, _⟩ := rep_tup.mp r
  exact ⟨a, rfl⟩
theorem dgetf (hu : X.A.units + 64 < cLine) : IxF X dgetD := by
  rintro va sl pins s σ H x y v u Q I rx ry ⟨ι, dx, dy, Hd, d, Hd', hr, r1, r2, e, q⟩ hs
  obtain ⟨kvs, e1, e⟩ := Option.bind_eq_some_iff.mp e
  obtain ⟨k, e2, e⟩ := Option.bind_eq_some_iff.mp e
  obtain ⟨vd, e3, e⟩ := Option.map_eq_some_iff.mp e
  obtain ⟨rfl, rfl⟩ := Prod.mk.inj e
  obtain ⟨n, fz, rfl, hn⟩ := dicD_some e1
  obtain ⟨a, rfl, ha⟩ := rep_ref.mp r1
  obtain ⟨b, rfl⟩ := nk_ref e2 r2
  cases rx
  cases ry
  obtain ⟨h1, h2, xs, h3, P, dd⟩ := dic_of I (hr.obj n a _ ha hn)
  have key := key_is I e2 r2
  rcases krep_at P k with ⟨z, _⟩ | ⟨vd', b', u', v', z1, z2, z3, z4⟩
  · rw [z] at e3; cases e3
  · rw [z1] at e3; cases e3
    have ty : s.TypeIs (.ref a) "dict" := dd.typeIs
    refine tail_any (ops := [.ref a, .ref b]) ty PySem.F.slot_dict_getitem.lookup (wpAny_getItem_heap (knd := tupleKind (numKind X.prog X.w)) (tupleKind_room_in1 (by omega)) key dd z2 ?_) hs
    exact ⟨v', H, I.tok _, z3, q _ H ι Le.refl hr z4⟩
noncomputable def dinD : F2 := fun x y H => (dicD y H).bind fun kvs => (nk x).map fun k => (.bl (dlook kvs k).isSome, H)
theorem dinf (hu : X.A.units + 64 < cLine) : OpF X (compareOp .In) dinD := by
  rintro pins s σ H x y v u Q I rx ry ⟨ι, dx, dy, Hd, d, Hd', hr, r1, r2, e, q⟩
  obtain ⟨kvs, e1, e⟩ := Option.bind_eq_some_iff.mp e
  obtain ⟨k, e2, e⟩ := Option.map_eq_some_iff.mp e
  obtain ⟨rfl, rfl⟩ := Prod.mk.inj e
  obtain ⟨n, fz, rfl, hn⟩ := dicD_some e1
  obtain ⟨a, rfl, ha⟩ := rep_ref.mp r2
  obtain ⟨b, rfl⟩ := nk_ref e2 r1
  cases rx
  cases ry
  obtain ⟨h1, h2, xs, h3, P, dd⟩ := dic_of I (hr.obj n a _ ha hn)
  refine wpAny_in_heap (knd := tupleKind (numKind X.prog X.w)) (tupleKind_room_in1 (by omega)) (key_is I e2 r1) h1 dd ?_
  have e3 : (atKey xs k).isSome = (dlook kvs k).isSome := by
    rcases krep_at P k with ⟨z1, z2⟩ | ⟨_, _, _, _, z1, z2, _⟩ <;> rw [z1, z2] <;> rfl
  rw [e3]
  exact ⟨.bl _, H, I.tok _, rfl, q _ H ι Le.refl hr (by simp)⟩
noncomputable def eDN : EF := fun _ H => some (.ref H.length, H ++ [.dic [] false])
theorem pef_dnew {pos : Pos} : PEf X (.Dict [] [] pos) eDN := by
  rintro pins s σ H Q I ⟨ι, σd, Hd, d, Hd', sr, hr, e, q⟩
  cases e
  have hb : sysModules < s.heap.objs.size := Nat.lt_trans (by decide) (show mainGlobals < s.heap.objs.size from (I.mod.glob.keeps I.bk).lt)
  have hp := I.hok.fresh (Nat.le_refl s.heap.objs.size)
  have ok : ObjOk X.prog X.w (upd H s.heap.objs.size (.ext (DicAt s.heap.objs.size []))) (s.heap.push { cls := .type "dict", data := .dict #[] }) s.heap.objs.size (.ext (DicAt s.heap.objs.size [])) :=
    ⟨⟨_, #[], 0, Heap.get?_push_size _ rfl, ⟨rfl, rfl, rfl⟩, rfl, rfl, List.nodup_nil⟩, ⟨_, Heap.get?_push_size _ rfl⟩, fun h1 h2 d k => DicAt.keep d k⟩
  refine wpAny_Dict_empty ⟨.ref s.heap.objs.size, _, I.laid (a := s.heap.objs.size) (o := .ext (DicAt s.heap.objs.size [])) (t' := s.toks) (fun _ _ q => Heap.get?_push_of_some _ q) (Nat.le_refl _) ok, rfl, ?_⟩
  have hl : ι.length = Hd.length := hr.len
  refine q _ _ (ι ++ [s.heap.objs.size]) (Le.fresh1 hp _) (hr.new hp ⟨beq_eq_false_iff_ne.mpr (Ne.symm (Nat.ne_of_lt hb)), Nat.zero_le _, [], by rw [if_neg (by simp)]; exact upd_same, .nil⟩) (rep_ref.mpr ⟨_, rfl, by rw [← hl]; simp⟩)
noncomputable def dsetD : FSet := fun o i v H => match o with
  | .ref n => match H[n]? with
    | some (.dic kvs false) => (nk i).bind fun k => if kvs.length < sizeLine then some (H.set n (.dic (dput kvs i k v) false)) else none
    | _ => none
  | _ => none
theorem dic_write {pins : List (Addr × Obj)} {σ : L2.St} {H : Hp} {s : Shared} {a : Addr} {xs xs' : List (List Int × Addr × Value)} {h' : Heap} {t' : Nat} (I : Inv X pins σ H s) (h3 : H a = some (.ext (DicAt a xs))) (dd : h'.DictOfH (tupleKind (numKind X.prog X.w)) a xs') (hs : Heap.SameBut a s.heap h') :
    Inv X pins σ (upd H a (.ext (DicAt a xs'))) { s with heap := h', toks := t' } := by
  obtain ⟨o, es, ep, g1, g2, g3, g4, _, g5⟩ := dd
  have ok : ObjOk X.prog X.w (upd H a (.ext (DicAt a xs'))) h' a (.ext (DicAt a xs')) := ⟨⟨o, es, ep, g1, g2, g3, g4, g5⟩, ⟨o, g1⟩, fun h1 h2 d k => DicAt.keep d k⟩
  exact I.write (x := a) (e := a) (by rw [h3]; exact True.intro) (.inl rfl) (fun b q hb z => (hs.2 b hb).trans z) ⟨o, g1⟩ ok
theorem dic_upd {H : Hp} {ι : List Addr} {Hd : HD} {n : Nat} {a : Addr} {kvs : List (D × D)} {xs : List (List Int × Addr × Value)} {kd vd : D} {k : List Int} {b : Addr} {u : Value} {v : V} (hr : HRep X.K H ι Hd) (ha : ι[n]? = some a) (h1 : (a == sysModules) = false) (hl : kvs.length < sizeLine) (h3 : H a = some (.ext (DicAt a xs))) (P : Paired (KRep X.K H ι) kvs xs) (e2 : nk kd = some k) (r2 : Rep X.K H ι kd (.ref b)) (rv : RelV v u) (r3 : Rep X.K H ι vd v) :
    Le X.K H ι (upd H a (.ext (DicAt a (storedH xs k b u)))) ι ∧ HRep X.K (upd H a (.ext (DicAt a (storedH xs k b u)))) ι (Hd.set n (.dic (dput kvs kd k vd) false)) := by
  have L : Le X.K H ι (upd H a (.ext (DicAt a (storedH xs k b u)))) ι := Le.upd (List.mem_of_getElem? ha) h3 trivial _
  refine ⟨L, hr.upd ha h3 trivial ⟨h1, ?_, _, by rw [if_neg (by simp)]; exact upd_same, ?_⟩⟩
  · have := dput_len kvs kd k vd; omega
  · refine krep_put (Prd.imp P fun p x _ z => ⟨z.1, z.2.1.mono L, let ⟨v, z1, z2⟩ := z.2.2; ⟨v, z1, z2.mono L⟩⟩) e2 (r2.mono L) rv (r3.mono L)
theorem dsetf (hu : X.A.units + 64 < cLine) : PSetf X dsetD := by
  rintro pins s σ H o i v ov iv u Q I ro ri rv ⟨ι, od, id, vd, Hd, Hd', hr, r1, r2, r3, e, q⟩
  cases od <;> simp only [dsetD] at e <;> try cases e
  rename_i n
  split at e
  · rename_i kvs hn
    obtain ⟨k, e2, e⟩ := Option.bind_eq_some_iff.mp e
    split at e
    · rename_i hl
      cases e
      obtain ⟨a, rfl, ha⟩ := rep_ref.mp r1
      obtain ⟨b, rfl⟩ := nk_ref e2 r2
      cases ro
      cases ri
      obtain ⟨h1, h2, xs, h3, P, dd⟩ := dic_of I (hr.obj n a _ ha hn)
      rw [if_neg (by simp)] at h3
      have hz : xs.length ≤ sizeLine := by rw [← Prd.len P]; exact h2
      refine wpAny_setItem_heap (knd := tupleKind (numKind X.prog X.w)) (hsz := hz) (tupleKind_room_in1 (by omega)) (key_is I e2 r2) dd fun h' dd' hs => ?_
      obtain ⟨L, hr'⟩ := dic_upd hr ha h1 hl h3 P e2 r2 rv r3
      exact ⟨_, dic_write I h3 dd' hs, q _ ι L hr'⟩
    · cases e
  · cases e
section
variable {prog : Program} {w : World} {kd : HeapKind prog w (List Int)} {A : Around} {E : Value → Shared → Prop} {s : Shared}
theorem setDef_heap {d b : Addr} {xs : List (List Int × Addr × Value)} {k : List Int} {v : Value} {Q : Value → Shared → Prop} (rm : kd.room A) (key : kd.is s.heap k b) (dm : s.heap.DictOfH kd d xs) (sz : xs.length ≤ sizeLine)
    (old : ∀ p, atKey xs k = some p → Q p.2 { s with toks := s.toks + kd.draws k })
    (new : atKey xs k = none → ∀ h2, h2.DictOfH kd d (storedH xs k b v) → Heap.SameBut d s.heap h2 → Q v { s with heap := h2, toks := s.toks + kd.draws k }) :
    wpAny (model prog w) A (dictSetDefault d (.ref b) v) Q E s := by
  obtain ⟨ob, es, ep, g1, g2, g3, g4, g5, g6⟩ := dm
  unfold dictSetDefault
  refine wpAny_holding (wpAny_bind (kd.pyHash rm key (wpAny_bind (wpAny_dictFind_heap (s := { s with toks := s.toks + kd.draws k }) rm key g1 g3 g4 g5 g6 (fun no => ?_) (fun j p hj => ?_)))))
  · have em := atKey_none_of_get no
    have sm : ∀ f, Heap.SameBut d s.heap (s.heap.update d f) := fun f => Heap.SameBut.update ..
    have len := size_of_entries g4
    refine wpAny_bind (wpAny_rule (wpAny_bind (wpAny_updateDictKeys (s := { s with toks := s.toks + kd.draws k }) (hz := by omega) g1 g3 (wpAny_pure (new em _ ?_ (sm _))))))
    refine ⟨_, _, ep + 1, Heap.get?_update_self _ g1 (Obj.isFreed_of_dict (Obj.data_mapDictKeys g3 _)), g2.mapDictKeys _, Obj.data_mapDictKeys g3 _, ?_⟩
    rw [storedH_new em]
    refine ⟨by simp [g4, entryOfKey], fun x hx => ?_, ?_⟩
    · have one : kd.is s.heap x.1 x.2.1 := by
        rcases List.mem_append.mp hx with hx | hx
        · exact g5 x hx
        · rw [List.mem_singleton.mp hx]; exact key
      exact kd.keeps one g1 g3 (sm _)
    · have nm := not_mem_keys_of_get no
      rw [List.map_append, List.nodup_append]
      refine ⟨g6, by simp, fun x hx y hy e => nm ?_⟩
      have yk : y = k := by simpa using hy
      rw [← yk, ← e]
      exact hx
  · have ae := entry_at g4 j
    rw [hj] at ae
    refine wpAny_bind (wpAny_dictEntries (s := { s with toks := s.toks + kd.draws k }) g1 g3 ?_)
    rw [ae]
    exact wpAny_bind (wpAny_rule (wpAny_pure (old p (atKey_of_get g6 hj))))
end
noncomputable def sdefD (x : D) (ds : List D) (H : HD) : Option (D × HD) := match x, ds with
  | .ref n, [y, v] => match H[n]? with
    | some (.dic kvs false) => (nk y).bind fun k => if kvs.length < sizeLine then match dlook kvs k with
      | some z => some (z, H)
      | none => some (v, H.set n (.dic (dput kvs y k v) false))
      else none
    | _ => none
  | _, _ => none
theorem sdeff (hu : X.A.units + 64 < cLine) : MtF X "dict.setdefault" sdefD := by
  rintro pins s σ H x xs v us Q I rx rv ⟨ι, dx, ds, Hd, d, Hd', hr, r1, P1, e, q⟩
  unfold sdefD at e
  split at e
  · rename_i n y vd
    split at e
    · rename_i kvs hn
      obtain ⟨k, e2, e⟩ := Option.bind_eq_some_iff.mp e
      split at e
      · rename_i hl
        obtain ⟨a, rfl, ha⟩ := rep_ref.mp r1
        obtain ⟨v1, v2, rfl, ry, rd⟩ := prd2 P1
        obtain ⟨b, rfl⟩ := nk_ref e2 ry
        cases rx
        cases rv with
        | cons q1 rv =>
          cases rv with
          | cons q2 rv =>
            cases rv
            cases q1
            rename_i u2
            obtain ⟨h1, h2, ys, h3, P, dd⟩ := dic_of I (hr.obj n a _ ha hn)
            rw [if_neg (by simp)] at h3
            have hz : ys.length ≤ sizeLine := by rw [← Prd.len P]; exact h2
            have ty : s.TypeIs (.ref a) "dict" := dd.typeIs
            have body : wpAny (model X.prog X.w) X.A.in1 (Builtin.«dict.setdefault» ⟨[.ref a, .ref b, u2], []⟩) (fun fin s' => ∃ r, fin = .done (.ret r) ∧ EP X pins σ Q r s') X.xe s := by
              unfold Builtin.«dict.setdefault» Builtin.Dict.keyAndDefault
              refine wpAny_bind (wpAny_bind (wpAny_notOrdered_dict ty (wpAny_pure ?_)))
              show wpAny _ _ (if (a == sysModules) = true then _ else (dictSetDefault a (.ref b) u2 >>= _)) _ _ s
              rw [if_neg (by rw [h1]; decide)]
              refine wpAny_bind (setDef_heap (kd := tupleKind (numKind X.prog X.w)) (show (tupleKind (numKind X.prog X.w)).room X.A.in1 from (by show X.A.units + 1 < cLine; omega)) (key_is I e2 ry) dd hz (fun p hp => ?_) (fun hp h2' dd' hs => ?_))
              · rcases krep_at P k with ⟨_, z⟩ | ⟨vd', b', u', v', z1, z2, z3, z4⟩
                · rw [z] at hp; cases hp
                · rw [z2] at hp; cases hp
                  rw [z1] at e; cases e
                  exact wpAny_pure ⟨_, rfl, v', H, I.tok _, z3, q _ H ι Le.refl hr z4⟩
              · rcases krep_at P k with ⟨z, _⟩ | ⟨vd', b', u', v', z1, z2, z3, z4⟩
                · rw [z] at e; cases e
                  obtain ⟨L, hr'⟩ := dic_upd hr ha h1 hl h3 P e2 ry q2 rd
                  exact wpAny_pure ⟨_, rfl, v2, _, dic_write I h3 dd' hs, q2, q _ _ ι L hr' (rd.mono L)⟩
                · rw [z2] at hp; cases hp
            exact wpAny_call_entry PySem.F.slot_dict_setdefault ty PySem.F.entry_dict_setdefault body (PySem.F.args_dict_setdefault_3 _ _ _)
      · cases e
    · cases e
  · cases e
noncomputable def isDic : D → HD → Bool
  | .ref n, H => match H[n]? with
    | some (.dic _ _) => true
    | _ => false
  | _, _ => false
noncomputable def eDM (g : D → List D → HD → Option (D × HD)) (fo : EF) (f : AF) : EF := fun σ H => (fo σ H).bind fun o => if isDic o.1 o.2 = true then (f σ o.2).bind fun p => g o.1 p.1 p.2 else none
theorem isDic_ty {pins : List (Addr × Obj)} {σ : L2.St} {H : Hp} {s : Shared} {ι : List Addr} {Hd : HD} {x : D} {v : V} {u : Value} (I : Inv X pins σ H s) (hr : HRep X.K H ι Hd) (r : Rep X.K H ι x v) (rv : RelV v u) (e : isDic x Hd = true) :
    s.TypeIs u "dict" ∧ ∀ b, u = .ref b → ∃ ob, s.heap.get? b = some ob ∧ ob.dict = none := by
  cases x <;> simp only [isDic] at e <;> try cases e
  rename_i n
  split at e
  · rename_i kvs fz hn
    obtain ⟨a, rfl, ha⟩ := rep_ref.mp r
    cases rv
    obtain ⟨_, _, xs, _, _, dd⟩ := dic_of I (hr.obj n a _ ha hn)
    refine ⟨dd.typeIs, fun b eb => ?_⟩
    cases eb
    obtain ⟨ob, _, _, g1, g2, _⟩ := dd
    exact ⟨ob, g1, g2.2.1⟩
  · cases e
theorem pef_dm {e o : Expr} {es : List Expr} {name : Str} {apos cpos : Pos} {id : String} {g : D → List D → HD → Option (D × HD)} {fo : EF} {f : AF} (slot : Slot "dict" name id) (hty : typeOf (.builtin id) = pure (.type "method_descriptor")) (hm : MtF X id g) (ho : PEf X o fo) (ha : PAf X (e :: es) f)
    (hbase : attributeBase o name X.env (eval o X.env) = eval o X.env := by rfl)
    (hfew : ((backTo cpos (starEach (e :: es) X.env)).all (fun x => !x.1) && (backToKw cpos (keywordEach [] X.env)).all (fun x => x.1.isSome)
      && decide ((e :: es).length + ([] : List Keyword).length + (if ([] : List Keyword).isEmpty then 0 else 1) < 30)) = true := by exact star_few rfl (by decide))
    (hline : (apos.endLine == cpos.line) = true := by rfl) (hs : starEach (e :: es) X.env = (false, eval e X.env) :: starEach es X.env := by exact star_cons rfl) (hplain : (backTo cpos (starEach es X.env)).any (·.1) = false := by exact star_any rfl) :
    PEf X (.Call (.Attribute o name apos) (e :: es) [] cpos) (eDM g fo f) := by
  rintro pins s σ H Q I ⟨ι, σd, Hd, d, Hd', sr, hr, e0, q⟩
  obtain ⟨⟨x, H1⟩, e1, e0⟩ := Option.bind_eq_some_iff.mp e0
  dsimp only at e0
  split at e0
  · rename_i hl
    obtain ⟨⟨y, H2⟩, e2, e0⟩ := Option.bind_eq_some_iff.mp e0
    let P1 : VK := fun v1 H1' => ∃ ι1, Le X.K H ι H1' ι1 ∧ HRep X.K H1' ι1 H1 ∧ Rep X.K H1' ι1 x v1
    refine wpAny_Call_method_late hbase hfew hline rfl (thn (ho pins s σ H P1 I ⟨ι, σd, Hd, x, H1, sr, hr, e1, fun v1 H1' ι1 l1 h1 r1 => ⟨ι1, l1, h1, r1⟩⟩) fun v s1 zz => ?_)
    obtain ⟨xv, H1', I1, rx, ι1, l1, h1, r1⟩ := zz
    obtain ⟨t1, t2⟩ := isDic_ty I1 h1 r1 rx hl
    refine ⟨"dict", id, PySem.F.plainAttrs_dict, slot, hty, t1, t2, ?_⟩
    let P2 : List V → Hp → Prop := fun vs H2' => ∃ ι2, Le X.K H ι H2' ι2 ∧ HRep X.K H2' ι2 H2 ∧ Rep X.K H2' ι2 x xv ∧ Paired (Rep X.K H2' ι2) y vs
    have hA := ha cpos pins s1 σ H1' P2 I1 ⟨ι1, σd, H1, y, H2, sr.mono l1, h1, e2, fun vs H2' ι2 l2 h2 r2 => ⟨ι2, l1.trans l2, h2, r1.mono l2, r2⟩⟩
    rw [hs] at hA ⊢
    refine Calls.callWith_builtin (by show (false || (backTo cpos (starEach es X.env)).any (·.1)) = false; rw [hplain] <;> rfl) (Calls.evalArgs_plain ?_)
    exact thn hA fun us s2 ⟨vs, H2', I2, r2, ι2, l2, h2, rx2, rp⟩ => hm pins s2 σ H2' xv vs v us Q I2 rx r2 ⟨ι2, x, y, H2, d, Hd', h2, rx2, rp, e0, fun v H' ι' l h r => q v H' ι' (l2.trans l) h r⟩
  · cases e0
noncomputable def dlenD : FF := fun ds H => match ds with
  | [x] => (dicD x H).map fun kvs => (.int kvs.length, H)
  | _ => none
theorem callf_dlen : CallF X (.builtin "len") dlenD := by
  rintro pins s σ H xs us Q I rv ⟨ι, ds, Hd, d, Hd', hr, P, e, q⟩
  unfold dlenD at e
  split at e
  · rename_i x
    obtain ⟨kvs, e1, e⟩ := Option.map_eq_some_iff.mp e
    obtain ⟨rfl, rfl⟩ := Prod.mk.inj e
    obtain ⟨n, fz, rfl, hn⟩ := dicD_some e1
    obtain ⟨v, rfl, r⟩ := prd1 P
    obtain ⟨a, rfl, ha⟩ := rep_ref.mp r
    cases rv with
    | cons q1 rv =>
      cases rv
      cases q1
      obtain ⟨h1, h2, ys, _, PK, dd⟩ := dic_of I (hr.obj n a _ ha hn)
      have ty : s.TypeIs (.ref a) "dict" := dd.typeIs
      obtain ⟨ob, es, ep, g1, g2, g3, g4, _⟩ := dd
      have sz : es.size = kvs.length := by
        have a1 := size_of_entries g4
        have a2 := Prd.len PK
        omega
      have l63 : (kvs.length : Int) < 2 ^ 63 := by rw [PySem.sizeLine_eq] at h2; omega
      have ask : ∀ A' E', wpAny (model X.prog X.w) A' (Builtin.«dict.__len__» ⟨[.ref a], []⟩) (fun fin s' => ∃ r, fin = .done (.ret r) ∧ r = .int kvs.length s.toks ∧ s' = { s with toks := s.toks + 1 }) E' s := by
        intro A' E'
        show wpAny _ _ (dictSize a >>= _) _ _ s
        unfold dictSize
        refine wpAny_bind (wpAny_bind (wpAny_dictEntries g1 g3 (wpAny_pure (wpAny_bind (wpAny_pendingCount_other h1 (wpAny_ret_mkInt ?_))))))
        rw [Nat.add_zero, sz]
        exact ⟨rfl, rfl⟩
      refine Calls.call_function_entry kind_len plain_len entry_len (args_len1 _) ?_
      unfold Builtin.«len»
      refine wpAny_bind (m := oneArg "len" _) (wpAny_pure (wpAny_bind (m := callSpecial? (.ref a) (Str.ofString "__len__")) (wpAny_callSpecial?_slot (name := Str.ofString "__len__") ty PySem.F.slot_dict_len
        (wpAny_call_entry PySem.F.slot_dict_len ty PySem.F.entry_dict_len (thn (ask _ _) fun fin s' ⟨r, f1, f2, f3⟩ => ⟨r, f1, ?_⟩) (PySem.F.args_dict_len_1 _)))))
      subst f2 f3
      refine wpAny_bind (wpAny_holding (wpAny_pure (wpAny_bind (wpAny_letGo ?_))))
      show wpAny _ _ (if ((kvs.length : Nat) : Int) < 0 then _ else if ((kvs.length : Nat) : Int) ≥ 2 ^ 63 then _ else _) _ _ _
      rw [if_neg (by omega), if_neg (by omega)]
      exact wpAny_bind (wpAny_mkInt (wpAny_pure ⟨_, rfl, .int kvs.length, H, I.tok _, ⟨_, rfl⟩, q _ H ι Le.refl hr (by simp)⟩))
  · cases e
end DL
namespace DL
open PySem PySem.Spec PyProof.Rows L2
section
variable {prog : Program} {w : World} {A : Around} {E : Value → Shared → Prop} {s : Shared}
theorem iter_dic {d : Addr} {ob : Obj} {es : Array DictEntry} {ep : Nat} {Q : Value → Shared → Prop} (h0 : (d == sysModules) = false) (g1 : s.heap.get? d = some ob) (g2 : ob.ExactDict) (g3 : ob.data = .dict es ep)
    (q : Q (.ref s.heap.objs.size) { s with heap := s.heap.push { cls := .type "dict_keyiterator", data := .fields #[.ref d, .int 0 0, .int es.size 0, .int ep 0] } }) : wpAny (model prog w) A (pyIter (.ref d)) Q E s := by
  have ty : s.TypeIs (.ref d) "dict" := ⟨ob, g1, g2.1⟩
  refine wpAny_pyIter_slot ty F.slot_dict_iter (wpAny_call_entry F.slot_dict_iter ty F.entry_dict_iter ?_ (F.args_dict_iter_1 _))
  unfold Builtin.«dict.__iter__» Builtin.Dict.dictSlotNone
  refine wpAny_bind (wpAny_bind (wpAny_notOrdered_dict ty (wpAny_pure ?_)))
  show wpAny _ _ (Builtin.Dict.showsAll d >>= _) _ _ s
  unfold Builtin.Dict.showsAll
  rw [if_neg (by rw [h0]; decide)]
  refine wpAny_bind (wpAny_pure (wpAny_bind (wpAny_dictEntries g1 g3 (wpAny_bind (wpAny_dictEpoch g1 g3 (wpAny_bind (wpAny_newObj_type (wpAny_pure ?_))))))))
  exact ⟨_, rfl, "dict_keyiterator", _, ⟨_, Heap.get?_push_size _ rfl, rfl⟩, F.slot_dict_keyiterator_next.lookup, by simpa [rawInt] using q⟩
theorem next_in {d it : Addr} {ob : Obj} {es : Array DictEntry} {i ep : Nat} {Q : Option Value → Shared → Prop} (hit : s.heap.IsKeyIter it d i es.size ep) (g1 : s.heap.get? d = some ob) (g3 : ob.data = .dict es ep) (lt : i < es.size)
    (q : ∀ h2, h2.IsKeyIter it d (i + 1) es.size ep → Heap.SameBut it s.heap h2 → Q (some es[i].key) { s with heap := h2 }) : wpAny (model prog w) A (pyNext (.ref it)) Q E s := by
  have ty := hit.typeIs
  obtain ⟨oi, i1, i2, i3⟩ := id hit
  have own : Builtin.Dict_items.ownsTuple "dict_keyiterator" = false := by decide
  unfold pyNext
  refine wpAny_bind (wpAny_attempt (wpAny_callSpecial?_slot (name := Str.ofString "__next__") ty F.slot_dict_keyiterator_next (wpAny_call_entry F.slot_dict_keyiterator_next ty F.entry_dict_keyiterator_next ?_ (F.args_dict_keyiterator_next_1 _))))
  refine wpAny_bind (wpAny_pure (wpAny_bind (wpAny_bind ?_)))
  refine wpAny_bind (wpAny_typeNameOfWhole_keyiter ty (wpAny_pure (wpAny_bind (wpAny_fieldsOf i1 i3 ?_))))
  simp only [own, Bool.false_eq_true, if_false]
  show wpAny _ _ (if (Value.ref d == Value.none) = true then _ else _) _ _ s
  have nn : ¬ ((Value.ref d == Value.none) = true) := Bool.false_ne_true
  rw [if_neg nn]
  refine wpAny_bind (wpAny_pure (wpAny_bind (wpAny_dictEntries g1 g3 ?_)))
  rw [if_neg (by simp)]
  refine wpAny_bind (wpAny_pure (wpAny_bind (wpAny_dictEpoch g1 g3 ?_)))
  rw [if_neg (by simp)]
  refine wpAny_pure ?_
  have neg : ¬ ((i : Int) < 0) := by omega
  simp only [neg, if_false, Int.toNat_natCast, Array.getElem?_eq_getElem lt]
  refine wpAny_bind (wpAny_bind (wpAny_typeNameOfWhole_keyiter ty (wpAny_pure (wpAny_bind (wpAny_isOneOf_keyiter ty ?_)))))
  show wpAny _ _ (setField (.ref it) 1 (rawInt ((i : Int) + 1)) >>= _) _ _ s
  let h2 := s.heap.update it (Obj.mapFields (·.setIfInBounds 1 (rawInt ((i : Int) + 1))))
  have it2 : h2.IsKeyIter it d (i + 1) es.size ep :=
    ⟨_, Heap.get?_update_self _ i1 (Obj.isFreed_of_fields (Obj.data_mapFields i3 _)), (Obj.cls_mapFields ..).trans i2, by rw [Obj.data_mapFields i3]; simp [rawInt]⟩
  refine wpAny_bind (wpAny_setField i1 i3 (by simp) (wpAny_bind (wpAny_holding (wpAny_bind (wpAny_isOneOf_keyiter (s := { s with heap := h2 }) it2.typeIs ?_)))))
  show wpAny _ _ (pure es[i].key) _ _ _
  exact wpAny_pure (wpAny_pure ⟨_, rfl, wpAny_pure (q h2 it2 (Heap.SameBut.update ..))⟩)
theorem next_out {d it : Addr} {ob : Obj} {es : Array DictEntry} {i ep : Nat} {Q : Option Value → Shared → Prop} (hh : A.handled = none) (hit : s.heap.IsKeyIter it d i es.size ep) (g1 : s.heap.get? d = some ob) (g3 : ob.data = .dict es ep) (ge : es.size ≤ i)
    (q : ∀ h2, Heap.ExtBut it s.heap h2 → Q none { s with heap := h2 }) : wpAny (model prog w) A (pyNext (.ref it)) Q E s := by
  have ty := hit.typeIs
  obtain ⟨oi, i1, i2, i3⟩ := id hit
  have own : Builtin.Dict_items.ownsTuple "dict_keyiterator" = false := by decide
  unfold pyNext
  refine wpAny_bind (wpAny_attempt (wpAny_callSpecial?_slot (name := Str.ofString "__next__") ty F.slot_dict_keyiterator_next (wpAny_call_entry F.slot_dict_keyiterator_next ty F.entry_dict_keyiterator_next ?_ (F.args_dict_keyiterator_next_1 _))))
  refine wpAny_bind (wpAny_pure (wpAny_bind (wpAny_bind ?_)))
  refine wpAny_bind (wpAny_typeNameOfWhole_keyiter ty (wpAny_pure (wpAny_bind (wpAny_fieldsOf i1 i3 ?_))))
  simp only [own, Bool.false_eq_true, if_false]
  show wpAny _ _ (if (Value.ref d == Value.none) = true then _ else _) _ _ s
  have nn : ¬ ((Value.ref d == Value.none) = true) := Bool.false_ne_true
  rw [if_neg nn]
  refine wpAny_bind (wpAny_pure (wpAny_bind (wpAny_dictEntries g1 g3 ?_)))
  rw [if_neg (by simp)]
  refine wpAny_bind (wpAny_pure (wpAny_bind (wpAny_dictEpoch g1 g3 ?_)))
  rw [if_neg (by simp)]
  refine wpAny_pure ?_
  have neg : ¬ ((i : Int) < 0) := by omega
  simp only [neg, if_false, Int.toNat_natCast, Array.getElem?_eq_none ge]
  refine wpAny_bind (wpAny_bind (wpAny_typeNameOfWhole_keyiter ty (wpAny_pure ?_)))
  show wpAny _ _ (setField (.ref it) 0 .none >>= _) _ _ s
  refine wpAny_bind (wpAny_setField i1 i3 (by simp) ?_)
  show wpAny _ _ (newExc (.type "StopIteration") [] >>= _) _ _ _
  simp only [newExc, newTuple]
  refine wpAny_bind (wpAny_bind (wpAny_newObj_type (wpAny_bind (m := firstArgMember _ _) (wpAny_of_eq (a := Value.none) (by first | rfl | (simp only [firstArgMember]; rfl)) (wpAny_newObj_type ?_ (by size_fits)))) (by size_fits)))
  simp only [raiseNew]
  refine wpAny_bind (wpAny_handled ?_)
  have hh1 : A.in1.handled = none := hh
  rw [hh1]
  refine wpAny_bind (wpAny_pure (wpAny_throw ?_))
  refine wpAny_bind (wpAny_isInstance (T := "StopIteration") (b := true) (by exact ⟨_, Heap.get?_push_size _ rfl, rfl⟩) isSubtype_stop ?_)
  exact wpAny_pure (q _ (((Heap.SameBut.update ..).extBut.push _).push _))
end
noncomputable def Itd (a : Addr) (ob : Obj) (u : HO) (ks : List Addr) : It :=
  ⟨fun i H => H a = some (.frz ob u) ∧ i < ks.length, fun i H x H' => H' = H ∧ ∃ b, ks[i]? = some b ∧ x = .ref b, fun i H => H a = some (.frz ob u) ∧ ks.length ≤ i⟩
theorem turn_dic {P : Program} {w : World} {K : PySem.W.Frag} {tg : Expr} (a it : Addr) {ob : Obj} {u : HO} {es : Array DictEntry} {ep : Nat} {ks : List Addr} (g3 : ob.data = .dict es ep) (hk : es.toList.map (·.key) = ks.map Value.ref) :
    Turn P w K tg (Itd a ob u ks) [it] it (fun i h => h.IsKeyIter it a i es.size ep) where
  mem := by simp
  obj := fun i h st b hb => by
    have e : b = it := by simpa using hb
    subst e
    obtain ⟨o, e, c, d⟩ := st
    exact ⟨o, e, fun v z => by rw [d] at z; cases z⟩
  keep := fun i h h' st k => st.at fun o e => k it (by simp) o e
  item := by
    intro X hP hw hK hc i pins s σ H E I hf st hg
    subst hP hw hK
    obtain ⟨hq, hx⟩ := hg
    obtain ⟨g1, _⟩ := (show ObjOk X.prog X.w H s.heap a (.frz ob u) from I.hok a _ hq)
    obtain ⟨f0, f1, f2, f3, f4, f5⟩ := hf it (by simp)
    have hl : es.size = ks.length := by
      have := congrArg List.length hk
      simpa using this
    have lt : i < es.size := by omega
    have key : es[i].key = Value.ref ks[i] := by
      have e1 : (es.toList.map (·.key))[i]? = some es[i].key := by simp [lt]
      rw [hk, List.getElem?_map, List.getElem?_eq_getElem hx] at e1
      exact (Option.some.inj e1).symm
    refine next_in st g1 g3 lt fun h' st' sb => ?_
    have I1 : Inv X pins σ H { s with heap := h' } := I.turned (t' := s.toks) (fun b o hb e => (sb.2 b hb).trans e) f0 f1 f3 f4 f5
    obtain ⟨o, e, c, d⟩ := id st'
    exact ⟨_, rfl, go_of (s := { s with heap := h' }) e c d (by decide) ⟨.ref ks[i], H, I1, key, ⟨rfl, ks[i], List.getElem?_eq_getElem hx, rfl⟩, st', fun b hb => (hf b hb).1⟩⟩
  done := by
    intro X hP hw hK hc i pins s σ H E I hf st hg
    subst hP hw hK
    obtain ⟨hq, hx⟩ := hg
    obtain ⟨g1, _⟩ := (show ObjOk X.prog X.w H s.heap a (.frz ob u) from I.hok a _ hq)
    obtain ⟨f0, f1, f2, f3, f4, f5⟩ := hf it (by simp)
    have hl : es.size = ks.length := by
      have := congrArg List.length hk
      simpa using this
    exact next_out (I.ok.hd hc) st g1 g3 (by omega) fun h' eb => ⟨rfl, I.turned (t' := s.toks) (fun b o hb e => eb b o hb e) f0 f1 f3 f4 f5⟩
  self := fun _ _ _ _ _ st h => wpAny_pyIter_keyiter st h
variable {X : Cx} {tg : Expr}
noncomputable def iDic (f : EF) : ItF := fun σ H => (f σ H).bind fun p => match p.1 with
  | .ref n => match p.2[n]? with
    | some (.dic kvs _) => some ((kvs.map (·.1), [(n, .dic kvs true)]), p.2.set n (.dic kvs true))
    | _ => none
  | _ => none
theorem krep_keys {K : PySem.W.Frag} {H : Hp} {ι : List Addr} {kvs : List (D × D)} {xs : List (List Int × Addr × Value)} (h : Paired (KRep K H ι) kvs xs) : Paired (Rep K H ι) (kvs.map (·.1)) (xs.map fun x => V.ref x.2.1) := by
  induction h with
  | nil => exact .nil
  | cons r t ih => exact .cons r.2.1 ih
theorem pif_dic {l : Expr} {f : EF} (hl : PEf X l f) : PIf X tg l (iDic f) := by
  rintro pins s σ H R I ⟨ι, σd, Hd, xs, own, Hd', sr, hr, e, q⟩
  obtain ⟨⟨x, H1⟩, e1, e⟩ := Option.bind_eq_some_iff.mp e
  obtain ⟨n, rfl⟩ : ∃ n, x = .ref n := by cases x <;> first | exact ⟨_, rfl⟩ | cases e
  let P1 : VK := fun v1 H1' => ∃ ι1, Le X.K H ι H1' ι1 ∧ HRep X.K H1' ι1 H1 ∧ Rep X.K H1' ι1 (.ref n) v1
  refine thn (hl pins s σ H P1 I ⟨ι, σd, Hd, .ref n, H1, sr, hr, e1, fun v1 H1' ι1 l1 h1 r1 => ⟨ι1, l1, h1, r1⟩⟩) fun v s1 zz => ?_
  obtain ⟨xv, H1', I1, rx, ι1, l1, h1, r1⟩ := zz
  simp only at e
  split at e
  · rename_i kvs fz hn
    cases e
    obtain ⟨a, rfl, ha⟩ := rep_ref.mp r1
    cases rx
    obtain ⟨z1, z2, ys, z3, PK, dd⟩ := dic_of I1 (h1.obj n a _ ha hn)
    obtain ⟨ob, es, ep, g1, g2, g3, g4, g5, g6⟩ := dd
    refine iter_dic z1 g1 g2 g3 ?_
    let u : HO := .ext (DicAt a ys)
    let H2 : Hp := upd H1' a (.frz ob u)
    have keys : es.toList.map (·.key) = (ys.map fun x => x.2.1).map Value.ref := by rw [g4, List.map_map, List.map_map]; rfl
    have da : DicAt a ys s1.heap := ⟨ob, es, ep, g1, g2, g3, g4, g6⟩
    have okN : ∀ Hx, ObjOk X.prog X.w Hx s1.heap a (.frz ob u) := fun Hx => ⟨g1, da, ⟨ob, g1⟩, fun h1 h2 d k => DicAt.keep d k⟩
    have froz : Inv X pins σ H2 s1 ∧ Le X.K H1' ι1 H2 ι1 := by
      cases fz with
      | false =>
        rw [if_neg (by simp)] at z3
        exact ⟨I1.write (t' := s1.toks) (h' := s1.heap) (x := a) (e := a) (by rw [z3]; exact True.intro) (.inl rfl) (fun b q hb z => z) ⟨ob, g1⟩ (okN _), Le.upd (List.mem_of_getElem? ha) z3 trivial _⟩
      | true =>
        rw [if_pos rfl] at z3
        obtain ⟨o2, z3⟩ := z3
        obtain ⟨g1', _⟩ := (show ObjOk X.prog X.w H1' s1.heap a (.frz o2 (.ext (DicAt a ys))) from I1.hok a _ z3)
        have eo : o2 = ob := Option.some.inj (g1'.symm.trans g1)
        have eH : H2 = H1' := by
          funext b
          by_cases hb : b = a
          · subst hb; show upd H1' b (.frz ob u) b = H1' b; rw [upd_same, z3, eo]
          · exact upd_ne hb
        rw [eH]
        exact ⟨I1, Le.refl⟩
    obtain ⟨I2, L2'⟩ := froz
    have hr2 : HRep X.K H2 ι1 (H1.set n (.dic kvs true)) := by
      refine ⟨by simp [h1.len], h1.nd, fun m b oc m1 m2 => ?_⟩
      by_cases hm : n = m
      · subst hm
        rw [ha] at m1; cases m1
        rw [List.getElem?_set] at m2
        rw [if_pos rfl] at m2
        split at m2
        · cases m2
          exact ⟨z1, z2, ys, by rw [if_pos rfl]; exact ⟨ob, upd_same⟩, Prd.imp PK fun p x _ z => ⟨z.1, z.2.1.mono L2', let ⟨v, w1, w2⟩ := z.2.2; ⟨v, w1, w2.mono L2'⟩⟩⟩
        · cases m2
      · rw [List.getElem?_set_ne hm] at m2
        have hb : b ≠ a := fun z => by
          subst z
          exact hm ((List.getElem?_inj (List.getElem?_eq_some_iff.mp ha).1 h1.nd).mp (ha.trans m1.symm))
        exact (h1.obj m b oc m1 m2).step L2'.toLw (upd_ne hb)
    have I3 : Inv X pins σ H2 { s1 with heap := s1.heap.push { cls := .type "dict_keyiterator", data := .fields #[.ref a, .int 0 0, .int es.size 0, .int ep 0] } } := I2.kept (t' := s1.toks) fun b o e => Heap.get?_push_of_some _ e
    refine ⟨s1.heap.objs.size, [s1.heap.objs.size], _, Itd a ob u (ys.map fun x => x.2.1), H2, rfl, I3, turn_dic a _ g3 keys, ⟨_, Heap.get?_push_size _ rfl, rfl, rfl⟩, fun b hb => ?_, ?_⟩
    · have e : b = s1.heap.objs.size := by simpa using hb
      subst e
      exact I2.fpOk (Nat.le_refl _) (I2.hok.fresh (Nat.le_refl _))
    · have fa : H2 a = some (.frz ob u) := upd_same
      have pk := krep_keys PK
      refine q _ H2 ι1 (l1.trans L2') hr2 ⟨fun i H3 ι3 Hd3 l3 h3 _ hi => ⟨l3.fr _ _ _ fa, ?_⟩, fun i H3 ι3 Hd3 d x H4 l3 h3 _ hd y => ?_, fun i H3 ι3 Hd3 l3 h3 _ hi => ⟨l3.fr _ _ _ fa, ?_⟩⟩
      · have := Prd.len PK; simp only [List.length_map] at hi ⊢; omega
      · obtain ⟨rfl, b, hb, rfl⟩ := y
        obtain ⟨v, hv, rv⟩ := Prd.get pk hd
        have ev : v = .ref b := by
          rw [List.getElem?_map] at hv hb
          cases hy : ys[i]? with
          | none => rw [hy] at hv; cases hv
          | some yv => rw [hy] at hv hb; cases hv; cases hb; rfl
        subst ev
        exact ⟨ι3, Le.refl, h3, (rv.mono L2').mono l3⟩
      · have := Prd.len PK; simp only [List.length_map] at hi ⊢; omega
  · cases e
end DL
namespace DL
open PySem PySem.Spec PyProof.Rows L2
noncomputable def recF (n N : Nat) (b : FF → SF) : Nat → FF
  | 0 => runB n N fun _ _ => none
  | j + 1 => runB n N (b (recF n N b j))
theorem fn_rec {P : Program} {w : World} {K : PySem.W.Frag} {mg : Str → Option Value} {base : Heap} {x : Str} {st : Stmt} {N ps : List Str} {k : Nat} {b : FF → SF} (T : Tf K mg x st) (S : FnScope N ps (defScope st))
    (hbd : ∀ (kV doc pm : Value) (an : Option Addr) (cdv ct : Value) (us : List Value), us.length = ps.length → bindArgs (PySem.W.fnOf x x (defArgs st) (defBody st) (defScope st) .none kV doc pm an cdv ct) ⟨us, []⟩ = pure (ps.zip us))
    (hb : ∀ (F : FF) (j : Nat), Fn P w K mg base (k + 1 + j) x ps F → ∀ (f : Addr) (cdv : Value) (A : Around) (outer : List Env) (s : Shared) (H : Hp) (E : XK), Room (k + 1 + j) (A.deeper (envOfC x (defScope st) s.heap.objs.size f cdv)) →
      PSsf (cxOf CX0 P w K mg base N x (defScope st) f cdv A outer s H E).nox (defBody st) (b F)) : ∀ j, Fn P w K mg base (k + 1 + j) x ps (recF ps.length N.length b j)
  | 0 => fn_mk (k := k) T S hbd fun f cdv A outer s H E _ => by
    rintro pins s' σ H' E' I ⟨ι, σd, Hd, fl, σd', Hd', _, _, e, _⟩
    cases e
  | j + 1 => fn_mk (k := k + 1 + j) T S hbd fun f cdv A outer s H E hr => hb _ j (fn_rec T S hbd hb j) f cdv A outer s H E hr
theorem gc_bools2 {K : PySem.W.Frag} {h : Heap} {mg : Str → Option Value} {x : Str} {b1 b2 : Bool} {p : Addr} {n : Nat} {osl : Array (Option Value)} (X : K.In h) (G : h.Ns mainGlobals mg) (a : PySem.W.nsIn K mainGlobals x = some (some (.ref p)))
    (l : K.lookup p = some ⟨.type "tuple", none, .seq #[.bool b1, .bool b2] n, osl⟩) : Gc K mg x (.tup [.bl b1, .bl b2]) := by
  refine ⟨_, .ref p, PySem.W.mg_of X G a, rfl, fun H ι => rep_tup.mpr ⟨p, [.bl b1, .bl b2], rfl, .inr ⟨_, _, _, l, rfl, rfl, ?_, ?_, rfl⟩, ?_⟩⟩
  · show 2 ≤ sizeLine
    rw [PySem.sizeLine_eq]; omega
  · exact .cons rfl (.cons rfl .nil)
  · exact .cons (by simp) (.cons (by simp) .nil)
end DL
namespace DL
open PySem PySem.Spec PyProof.Rows L2
section
variable {prog : Program} {w : World} {A : Around} {E : Value → Shared → Prop} {s : Shared}
theorem init_kw {T newId : String} {self a : Value} {kw : List (Str × Value)} (hl : typeLookup (.type T) "__init__" = pure (some (.builtin "object.__init__")))
    (hm : Bind.madeBy (.type T) = pure (some newId)) (hne : (some newId != some "object.__new__") = true) :
    Meets (Builtin.«object.__init__» ⟨[self, a], kw⟩) (fun _ R s => s.TypeIs self T ∧ R (.ok (.ret .none)) s) := by
  refine Meets.of_wp fun prog w A R s zz => ?_
  obtain ⟨hT, hq⟩ := zz
  repeat (any_goals (first | assumption | wp_step))
  exact ⟨_, rfl, hq⟩
theorem tc_kw (a v : Value) : checkTypeCall "enumerate" ⟨[a], [("start", v)]⟩ = pure () := by kernel_rfl
theorem nc_kw (a v : Value) : checkBuiltinCall "enumerate.__new__" ⟨[.type "enumerate", a], [("start", v)]⟩ = pure () := by kernel_rfl
open AutoSeq1 (wpAny_loadPart') in
theorem enum_newK (t : Addr) (its : Array Value) (n : Nat) (dct : Option Addr) (sl : Array (Option Value)) (tk0 : Tok) :
    Meets (Builtin.«enumerate.__new__» ⟨[.type "enumerate", .ref t], [("start", .int 1 tk0)]⟩) (fun _ R s => s.heap.get? t = some { cls := .type "tuple", dict := dct, data := .seq its n, slots := sl } ∧
      R (.ok (.ret (.ref (s.heap.push { cls := .type "tuple_iterator", data := .fields #[.ref t, .int 0 0] }).objs.size)))
        { s with heap := (s.heap.push { cls := .type "tuple_iterator", data := .fields #[.ref t, .int 0 0] }).push { cls := .type "enumerate", data := .fields #[.none, .bool false, .ref s.heap.objs.size, rawInt 1, .none, .none] } }) :=
  .of_wp fun prog w A R s h => by
    obtain ⟨hp, g, d, tk, os⟩ := s; obtain ⟨hl, h⟩ := h
    have hsub := sub_enumerate
    have hL : Heap.IsTuple (Shared.heap ⟨hp, g, d, tk, os⟩) t its := ⟨_, hl, rfl, n, rfl⟩
    wp_walk using wpAny_loadPart' hl
    refine wpAny_stack_any fun st => wpAny_pure ?_
    split
    · rename_i k _ _ _ _ _
      cases (k == Value.type "enumerate") <;> (wp_walk using wpAny_loadPart' hl, wpAny_pyIter_tuple hL; exact ⟨_, rfl, h⟩)
    · wp_walk using wpAny_loadPart' hl, wpAny_pyIter_tuple hL
      exact ⟨_, rfl, h⟩
end
end DL
namespace DL
open PySem PySem.Spec PyProof.Rows L2
section
variable {prog : Program} {w : World} {A : Around} {E : Value → Shared → Prop} {s : Shared}
theorem type_kw {args : List Value} {kw : List (Str × Value)} {newId : String} {Bn : Builtin} {T : String} {S : PySem.Spec} {Q : Value → Shared → Prop} (ft : TypeCalled T newId "object.__init__") (hne : (some newId != some "object.__new__") = true)
    (hct : checkTypeCall T ⟨args, kw⟩ = pure ()) (hcn : checkBuiltinCall newId ⟨.type T :: args, kw⟩ = pure ()) (entryN : entryFor table newId = some Bn) (g : Meets (Bn ⟨.type T :: args, kw⟩) S)
    (hok : ∀ obj, argsOk "object.__init__" ⟨obj :: args, kw⟩) (gi : ∀ obj, Meets (Builtin.«object.__init__» ⟨obj :: args, kw⟩) (fun _ R s => s.TypeIs obj T ∧ R (.ok (.ret .none)) s))
    (h : S A.in1 (wants (fun obj s₁ => s₁.TypeIs obj T ∧ Q obj s₁) E) s) : wpAny (model prog w) A (call (.type T) args kw) Q E s := by
  obtain ⟨c, tl, hmro⟩ := ft.mro
  have hmade := ft.made
  have hsub := ft.sub
  have n1 := ft.notType
  have n2 := ft.canCreate
  refine wpAny_call (codeAny_of_tree (show wpAny _ _ (callAny (.type T) _) _ _ _ from wpAny_pure ⟨Code.quiet_builtin _ (by decide +kernel), codeAny_builtin F.entry_type_call ?_⟩))
  rw [Around.under_plain (weight_type_call_type T args kw) (units_type_call_type T args kw)]
  repeat (any_goals (first | assumption | wp_step))
  refine codeAny_mono (codeAny_call_builtin ft.plain entryN (wpAny_of_eq hcn (g prog w A.in1 _ s h))) fun r s₁ hr => ?_
  cases r with
  | error e => exact hr
  | ok fl =>
    cases fl with
    | ret obj =>
      obtain ⟨hT, hq⟩ : s₁.TypeIs obj T ∧ Q obj s₁ := hr
      have hli := ft.init.lookup
      have hbi := ft.init.bind obj
      repeat (any_goals (first | assumption | wp_step))
      refine codeAny_mono (codeAny_call_builtin ft.init.plain F.entry_object_init (ft.init.check _ _ _ _ _ _ _ _ hT (hok obj) (gi obj prog w A.in1 (wants (fun r s₂ => r = .none ∧ Q obj s₂) E) s₁ ⟨hT, rfl, hq⟩))) fun r₂ s₂ hr₂ => ?_
      cases r₂ with
      | error e => exact hr₂
      | ok fl₂ =>
        cases fl₂ with
        | ret r =>
          obtain ⟨rfl, hq2⟩ := hr₂
          repeat (any_goals (first | assumption | wp_step))
        | _ => exact hr₂.elim
    | _ => exact hr.elim
theorem callWith_typeK {M : Model} {pos : Pos} {T : String} {args : List (Bool × Sem Value)} {kws : List (Option Str × Sem Value)} {Q : Value → Shared → Prop} (h1 : args.any (·.1) = false) (h2 : kws.any (·.1.isNone) = false)
    (h : wpAny M A (evalArgs (.type T) true args kws) (fun a s₁ => wpAny M A (call (.type T) a.pos a.kw) Q E s₁) E s) : wpAny M A (callWith pos (.type T) [] args kws) Q E s := by
  unfold callWith
  refine wpAny_bind (wpAny_holding (thn h fun a s₁ q => wpAny_bind (wpAny_standAt ?_)))
  simp only [h1, h2, Bool.or_false]
  exact wpAny_bind (wpAny_pure (wpAny_bind (thn q fun r s₂ q2 => wpAny_bind (wpAny_holding (wpAny_point (wpAny_pure q2))))))
theorem init_args (a b v : Value) : argsOk "object.__init__" ⟨[a, b], [("start", v)]⟩ := by
  unfold argsOk
  first | decide +kernel | kernel_rfl | (intro _; kernel_rfl)
theorem call_enumK {t : Addr} {its : Array Value} {tk : Tok} {Q : Value → Shared → Prop} (hL : s.heap.IsTuple t its)
    (h : ∀ h', IsEnum h' (s.heap.objs.size + 1) s.heap.objs.size 1 .none → h'.IsTupleIter s.heap.objs.size t 0 → h'.objs.size = s.heap.objs.size + 2 →
      (∀ b o, s.heap.get? b = some o → h'.get? b = some o) → Q (.ref (s.heap.objs.size + 1)) { s with heap := h' }) :
    wpAny (model prog w) A (call (.type "enumerate") [.ref t] [("start", .int 1 tk)]) Q E s := by
  obtain ⟨⟨k, dct, dt, sl⟩, hl, hc, n, hd⟩ := hL
  replace hc : k = .type "tuple" := hc
  replace hd : dt = .seq its n := hd
  subst hc hd
  refine type_kw F.called_enumerate (by decide) (tc_kw _ _) (nc_kw _ _) F.entry_enumerate_new (enum_newK t its n dct sl tk) (fun obj => init_args _ _ _) (fun obj => init_kw F.called_enumerate.init.lookup F.called_enumerate.made (by decide)) ⟨hl, ?_⟩
  have hz : (s.heap.push { cls := .type "tuple_iterator", data := .fields #[.ref t, .int 0 0] }).objs.size = s.heap.objs.size + 1 := Heap.size_push ..
  show _ ∧ _
  rw [hz]
  have he : IsEnum ((s.heap.push { cls := .type "tuple_iterator", data := .fields #[.ref t, .int 0 0] }).push { cls := .type "enumerate", data := .fields #[.none, .bool false, .ref s.heap.objs.size, rawInt 1, .none, .none] }) (s.heap.objs.size + 1) s.heap.objs.size 1 .none := by
    have q := Heap.get?_push_size (s.heap.push { cls := .type "tuple_iterator", data := .fields #[.ref t, .int 0 0] }) (o := { cls := .type "enumerate", data := .fields #[.none, .bool false, .ref s.heap.objs.size, rawInt 1, .none, .none] }) rfl
    rw [hz] at q; exact q
  exact ⟨⟨_, he, rfl⟩, h _ he ⟨_, Heap.get?_push_of_some _ (Heap.get?_push_size _ rfl), rfl, rfl⟩ (by rw [Heap.size_push, hz]) fun b o x => Heap.get?_push_of_some _ (Heap.get?_push_of_some _ x)⟩
end
variable {X : Cx}
noncomputable def iEnum1 (f : AF) : ItF := fun σ H => (f σ H).bind fun p => match p.1 with
  | [.tup xs] => some ((enumL 1 xs, []), p.2)
  | _ => none
theorem pif_enum1 {es : List Expr} {k : Nat} {tp p pos kp cp : Pos} {cj : Nat} {a : Expr} {f : AF} (hg : Gl X "enumerate") (hm : X.mg "enumerate" = none) (ha : PAf X [a] f) (hs : starEach [a] X.env = [(false, eval a X.env)] := by rfl) :
    PIf X (.Tuple es k tp) (.Call (.Name "enumerate" p) [a] [⟨some "start", .Constant (.int 1) cj cp, kp⟩] pos) (iEnum1 f) := by
  rintro pins s σ H R I ⟨ι, σd, Hd, xs, own, Hd', sr, hr, e, q⟩
  obtain ⟨⟨ds, H1⟩, e1, e⟩ := Option.bind_eq_some_iff.mp e
  dsimp only at e
  split at e
  · rename_i ys
    cases e
    show wpAny _ _ (do callWith pos (← eval (.Name "enumerate" p) X.env) [] (backTo pos (starEach [a] X.env)) (backToKw pos (keywordEach [⟨some "start", .Constant (.int 1) cj cp, kp⟩] X.env))) _ _ _
    let P1 : List V → Hp → Prop := fun vs H' => ∃ ad ws, vs = [.ref ad] ∧ SqT X.K H' ad ws ∧ ∀ (J : It) (H2 : Hp), H2 = H' → J = IteT X.K 1 ad → R J H2
    refine wpAny_bind (ld_blt I hg hm boot_enumerate (callWith_typeK (by rw [hs]; rfl) rfl ?_))
    have hA := ha pos pins s σ H P1 I ⟨ι, σd, Hd, _, _, sr, hr, e1, fun vs H' ι' l h P => by
      obtain ⟨v, rfl, r⟩ := prd1 P
      obtain ⟨ad, ws, rfl, hS, P2⟩ := rep_tup.mp r
      refine ⟨ad, ws, rfl, hS, fun J H2 e2 e3 => ?_⟩
      subst e2 e3
      exact q _ _ ι' l h (itr_enum hS P2 fun i H x y h => y ws h)⟩
    rw [hs] at hA ⊢
    refine evalArgs_kwB rfl (thn hA fun us s1 zz => ?_)
    obtain ⟨vs, H2, I2, r2, ad, ws, e2, hS, q2⟩ := zz
    subst e2
    obtain ⟨u, rfl, ru⟩ := vals1 r2
    cases ru
    refine kws_cons (thn (pe_int pins s1 σ H2 (fun x H' => x = .int 1 ∧ H' = H2) I2 ⟨rfl, rfl⟩) fun v s2 ⟨x, H3, I3, rx, ex, eH⟩ => kws_nil ?_)
    subst ex eH
    obtain ⟨t, rfl⟩ := rx
    obtain ⟨its, rv, p, hz⟩ := I3.tuple hS
    show wpAny _ _ (call (.type "enumerate") [.ref ad] [("start", .int 1 t)]) _ _ _
    refine call_enumK (show s2.heap.IsTuple ad its.toArray from p) fun h' he hj z' kk => ?_
    have I4 : Inv X pins σ H3 { s2 with heap := h' } := I3.kept (t' := s2.toks) kk
    refine wpAny_pyIter_enum (s := { s2 with heap := h' }) he ?_
    have ne : s2.heap.objs.size + 1 ≠ s2.heap.objs.size := Nat.succ_ne_self _
    refine ⟨s2.heap.objs.size + 1, [s2.heap.objs.size + 1, s2.heap.objs.size], _, IteT X.K 1 ad, H3, rfl, I4, turn_enumT ad _ _ 1 ne, ⟨.none, by simpa using he, hj⟩, fun b hb => ?_, q2 _ _ rfl rfl⟩
    have : s2.heap.objs.size ≤ b := by
      rcases List.mem_cons.mp hb with rfl | hb
      · exact Nat.le_succ _
      · have : b = s2.heap.objs.size := by simpa using hb
        rw [this]; exact Nat.le_refl _
    exact I3.fpOk (b := b) (H' := H3) this (I3.hok.fresh this)
  · cases e
end DL
namespace DL
open PySem PySem.Spec PyProof.Rows L2
variable {X : Cx} {tg : Expr}
end DL
namespace DL
open PySem PySem.Spec PyProof.Rows L2
end DL
namespace DL
open PySem PySem.Spec PyProof.Rows L2
noncomputable def sWh (t : TF) (b : SF) : Nat → SF
  | 0 => fun _ _ => none
  | n + 1 => fun σ H => (t σ H).bind fun p => if p.1 = true then (b σ p.2).bind fun q => match q.1 with
      | .nx => sWh t b n q.2.1 q.2.2
      | .ct => sWh t b n q.2.1 q.2.2
      | .bk => some (.nx, q.2.1, q.2.2)
      | .rt d => some (.rt d, q.2.1, q.2.2)
    else some (.nx, σ, p.2)
section
variable {X : Cx} {c : Expr} {pos : Pos}
theorem psf_while {body : List Stmt} {t : TF} {b : SF} {n : Nat} (hp : PassesOwn (model X.prog X.w) X.A X.env X.xe) (hc : PTf X c t) (hb : PSsf X body b) : PSf X (.While c body [] pos) (sWh t b n) := by
  refine PSi (ps_while hp hc hb) fun E σ H zz => ?_
  obtain ⟨ι, σd, Hd, fl, σf, Hf, s, hr, e, q⟩ := zz
  refine ⟨fun m σ' H' => ∃ ι' σd' Hd', Le X.K H ι H' ι' ∧ SRep X.K H' ι' σ' σd' ∧ HRep X.K H' ι' Hd' ∧ sWh t b m σd' Hd' = some (fl, σf, Hf), ⟨n, ι, σd, Hd, Le.refl, s, hr, e⟩, ?_⟩
  rintro m σ1 H1 ⟨ι1, σd1, Hd1, l1, s1, h1, e1⟩
  cases m with
  | zero => cases e1
  | succ m =>
    rw [sWh] at e1
    obtain ⟨⟨x, H2⟩, e2, e1⟩ := Option.bind_eq_some_iff.mp e1
    refine ⟨ι1, σd1, Hd1, x, H2, s1, h1, e2, fun H3 ι3 l3 h3 => ?_⟩
    cases x with
    | true =>
      rw [if_pos rfl]
      dsimp only at e1
      rw [if_pos rfl] at e1
      obtain ⟨⟨f4, σ4, H4⟩, e4, e1⟩ := Option.bind_eq_some_iff.mp e1
      refine ⟨fun σ' H' => ∃ ι' σd' Hd', Le X.K H ι H' ι' ∧ SRep X.K H' ι' σ' σd' ∧ HRep X.K H' ι' Hd' ∧ sWh t b m σd' Hd' = some (fl, σf, Hf), fun σ' H' p => ⟨m, Nat.lt_succ_self m, p⟩, ?_⟩
      refine ⟨ι3, σd1, H2, f4, σ4, H4, s1.mono l3, h3, e4, fun σ6 H6 ι6 l6 h6 s6 => ?_⟩
      have L : Le X.K H ι H6 ι6 := (l1.trans l3).trans l6
      cases f4 with
      | nx => exact ⟨ι6, σ4, H4, L, s6, h6, e1⟩
      | ct => exact ⟨ι6, σ4, H4, L, s6, h6, e1⟩
      | bk => cases e1; exact q σ6 H6 ι6 L h6 s6
      | rt d => cases e1; exact q σ6 H6 ι6 L h6 s6
    | false =>
      rw [if_neg (by simp)]
      dsimp only at e1
      rw [if_neg (by simp)] at e1
      cases e1
      exact q σ1 H3 ι3 (l1.trans l3) h3 (s1.mono l3)
end
section
variable {X : Cx} {e : Expr} {es : List Expr} {pos : Pos}
noncomputable def eTM (g : D → List D → HD → Option (D × HD)) (fo : EF) (f : AF) : EF := fun σ H => (fo σ H).bind fun o => if isTup o.1 = true then (f σ o.2).bind fun p => g o.1 p.1 p.2 else none
noncomputable def tBMT (K : PySem.W.Frag) (r : V → List V → Hp → VK → Prop) (to : TE) (t : TA) : TE := fun σ H Q => to σ H fun x H1 => (∃ a xs, x = .ref a ∧ SqT K H1 a xs) ∧ t σ H1 fun xs H2 => r x xs H2 Q
theorem pe_tm {o : Expr} {name : Str} {apos cpos : Pos} {id : String} {r : V → List V → Hp → VK → Prop} {to : TE} {t : TA} (slot : Slot "tuple" name id) (hty : typeOf (.builtin id) = pure (.type "method_descriptor")) (hm : MtR X id r) (ho : PE X o to) (ha : PA X (e :: es) t)
    (hbase : attributeBase o name X.env (eval o X.env) = eval o X.env := by rfl)
    (hfew : ((backTo cpos (starEach (e :: es) X.env)).all (fun x => !x.1) && (backToKw cpos (keywordEach [] X.env)).all (fun x => x.1.isSome)
      && decide ((e :: es).length + ([] : List Keyword).length + (if ([] : List Keyword).isEmpty then 0 else 1) < 30)) = true := by rfl)
    (hline : (apos.endLine == cpos.line) = true := by rfl) (hs : starEach (e :: es) X.env = (false, eval e X.env) :: starEach es X.env := by rfl) (hplain : (backTo cpos (starEach es X.env)).any (·.1) = false := by rfl) :
    PE X (.Call (.Attribute o name apos) (e :: es) [] cpos) (tBMT X.K r to t) := by
  intro pins s σ H Q I h
  refine wpAny_Call_method_late hbase hfew hline rfl (thn (ho pins s σ H _ I h) fun v s1 zz => ?_)
  obtain ⟨x, H1, I1, r1, ⟨a, xs, ex, hq⟩, q1⟩ := zz
  subst ex
  have rv := r1
  cases rv
  have ho1 : ∃ o1, s1.heap.get? a = some o1 ∧ o1.cls = .type "tuple" ∧ o1.dict = none := by
    rcases hq with hq | ⟨o1, its, n, hk, hc, hs, hz, r, hd⟩
    · obtain ⟨z, its, rr, o1, g1, g2, g3, g4⟩ := hq.ok I1.hok
      exact ⟨o1, g1, g2, g4⟩
    · exact ⟨o1, I1.kIn a o1 hk, hc, hd⟩
  obtain ⟨o1, g1, g2, g4⟩ := ho1
  refine ⟨"tuple", id, PySem.F.plainAttrs_tuple, slot, hty, ⟨o1, g1, g2⟩, fun b eb => ?_, ?_⟩
  · cases eb
    exact ⟨o1, g1, g4⟩
  · have hA := ha cpos pins s1 σ H1 _ I1 q1
    rw [hs] at hA ⊢
    refine Calls.callWith_builtin (by show (false || (backTo cpos (starEach es X.env)).any (·.1)) = false; rw [hplain] <;> rfl) (Calls.evalArgs_plain ?_)
    exact thn hA fun us s2 ⟨vs, H2, I2, r2, q2⟩ => hm pins s2 σ H2 _ vs _ us Q I2 r1 r2 q2
theorem pef_tm {o : Expr} {name : Str} {apos cpos : Pos} {id : String} {g : D → List D → HD → Option (D × HD)} {fo : EF} {f : AF} (slot : Slot "tuple" name id) (hty : typeOf (.builtin id) = pure (.type "method_descriptor")) (hm : MtF X id g) (ho : PEf X o fo) (ha : PAf X (e :: es) f)
    (hbase : attributeBase o name X.env (eval o X.env) = eval o X.env := by rfl)
    (hfew : ((backTo cpos (starEach (e :: es) X.env)).all (fun x => !x.1) && (backToKw cpos (keywordEach [] X.env)).all (fun x => x.1.isSome)
      && decide ((e :: es).length + ([] : List Keyword).length + (if ([] : List Keyword).isEmpty then 0 else 1) < 30)) = true := by exact star_few rfl (by decide))
    (hline : (apos.endLine == cpos.line) = true := by rfl) (hs : starEach (e :: es) X.env = (false, eval e X.env) :: starEach es X.env := by exact star_cons rfl) (hplain : (backTo cpos (starEach es X.env)).any (·.1) = false := by exact star_any rfl) :
    PEf X (.Call (.Attribute o name apos) (e :: es) [] cpos) (eTM g fo f) := by
  refine PEi (pe_tm slot hty hm ho ha hbase hfew hline hs hplain) fun σ H Q zz => ?_
  obtain ⟨ι, σd, Hd, d, Hd', s, hr, e, q⟩ := zz
  obtain ⟨⟨x, H1⟩, e1, e⟩ := Option.bind_eq_some_iff.mp e
  dsimp only at e
  split at e
  · rename_i hl
    obtain ⟨⟨y, H2⟩, e2, e⟩ := Option.bind_eq_some_iff.mp e
    refine ⟨ι, σd, Hd, x, H1, s, hr, e1, fun v1 H1' ι1 l1 h1 r1 => ⟨?_, ι1, σd, H1, y, H2, s.mono l1, h1, e2, fun vs H2' ι2 l2 h2 r2 =>
      ⟨ι2, x, y, H2, d, Hd', h2, r1.mono l2, r2, e, fun v H' ι' l h r => q v H' ι' ((l1.trans l2).trans l) h r⟩⟩⟩
    cases x with
    | tup ds =>
      obtain ⟨a, vs, rfl, hq, _⟩ := rep_tup.mp r1
      exact ⟨a, vs, rfl, hq⟩
    | _ => simp [isTup] at hl
  · cases e
noncomputable def countD (x : D) (ds : List D) (H : HD) : Option (D × HD) := match x, ds with
  | .tup xs, [d] => (dat (.tup xs) H).bind fun p => (dat d H).bind fun q => (itemsP p).map fun ps => (.int (ps.countP fun z => PyData.eqv z q : Nat), H)
  | _, _ => none
theorem count_data {h : Heap} {vs : Array Value} {xs : List PyData} {as : List Addr} {d : PyData} (rs : ReadsAll h vs.toList xs as) (hxs : PyData.canLayAll0 xs = true) :
    vs.toList.countP (fun y => PyData.eqv (SeqAt.readOf h y) d) = xs.countP fun z => PyData.eqv z d := by
  have e := SeqAt.readsAll_map xs _ _ hxs rs
  rw [← e, List.countP_map]
  rfl
theorem mtf_count (hu : X.A.units + 64 < cLine) : MtF X "tuple.count" countD := by
  rintro pins s σ H x xs v us Q I rx rv ⟨ι, dx, ds, Hd, d, Hd', hr, r1, P, e, q⟩
  unfold countD at e
  split at e
  · rename_i ys0 d1
    obtain ⟨z, rfl, rz⟩ := prd1 P
    obtain ⟨u, rfl, ru⟩ := rv.one
    obtain ⟨p, e1, e⟩ := Option.bind_eq_some_iff.mp e
    obtain ⟨p2, e2, e⟩ := Option.bind_eq_some_iff.mp e
    obtain ⟨ys, e3, e⟩ := Option.map_eq_some_iff.mp e
    obtain ⟨rfl, rfl⟩ := Prod.mk.inj e
    obtain ⟨t1, c1, k1⟩ := dat_some e1
    obtain ⟨t2, c2, k2⟩ := dat_some e2
    obtain ⟨as, ra⟩ := reads_of I hr _ _ t1 r1 rx
    obtain ⟨bs, rb⟩ := reads_of I hr _ _ t2 rz ru
    obtain ⟨ws, rfl⟩ : ∃ ws, p = .tuple ws := by
      rw [toP] at t1
      obtain ⟨ws, _, rfl⟩ := Option.map_eq_some_iff.mp t1
      exact ⟨ws, rfl⟩
    cases e3
    simp only [PyData.canLay0] at c1
    simp only [PyData.depth] at k1
    cases ra with
    | tuple h1 h2 h3 h4 =>
      rename_i a o its n
      obtain ⟨cl, dd, dt, sl⟩ := o
      cases h2
      cases h3
      refine call_meets PySem.F.slot_tuple_count ⟨_, h1, rfl⟩ PySem.F.entry_tuple_count (PySem.F.args_tuple_count_2 _ _) (SeqAt.tuple_countAt _ _ _ dd sl u _) ⟨h1, SeqAt.items_eqAt h4 rb c1 c2 (by omega), ?_⟩
      exact ⟨.int _, H, I.tok _, ⟨_, by rw [count_data h4 c1]⟩, q _ H ι Le.refl hr (by simp)⟩
  · cases e
end
end DL
namespace DL
open PySem PySem.Spec PyProof.Rows L2
noncomputable def allBut (h : Heap) (L : Addr) : List (Addr × Obj) := (List.range h.objs.size).filterMap fun a => if a = L then none else (h.get? a).map fun o => (a, o)
theorem allBut_in {h : Heap} {L b : Addr} {o : Obj} (hb : b ≠ L) (e : h.get? b = some o) : (b, o) ∈ allBut h L := by
  refine List.mem_filterMap.mpr ⟨b, List.mem_range.mpr (Heap.lt_size e), ?_⟩
  rw [if_neg hb, e]; rfl
theorem allBut_at {h : Heap} {L : Addr} {p : Addr × Obj} (hp : p ∈ allBut h L) : h.get? p.1 = some p.2 ∧ p.1 ≠ L := by
  obtain ⟨a, _, e⟩ := List.mem_filterMap.mp hp
  split at e
  · cases e
  · rename_i ne
    obtain ⟨o, e1, rfl⟩ := Option.map_eq_some_iff.mp e
    exact ⟨e1, ne⟩
theorem none_in (b : Addr) : ({} : Heap).get? b = none := by
  cases e : ({} : Heap).get? b with
  | none => rfl
  | some o => exact absurd (Heap.lt_size e) (Nat.not_lt_zero _)
section
variable {prog : Program} {w : World} {A : Around} {E : Value → Shared → Prop} {s : Shared}
end
theorem inv_laidL {X : Cx} {pins : List (Addr × Obj)} {σ : L2.St} {H : Hp} {s : Shared} {h' : Heap} {a : Addr} {o : HO} {t' : Nat} (I : Inv X pins σ H s) (k : ∀ b u, b ≠ X.env.locals → s.heap.get? b = some u → h'.get? b = some u)
    (ns : ∀ m, s.heap.Ns X.env.locals m → h'.Ns X.env.locals m) (hp : s.heap.objs.size ≤ a) (new : ObjOk X.prog X.w (upd H a o) h' a o) : Inv X pins σ (upd H a o) { s with heap := h', toks := t' } := by
  have hn := I.hok.fresh hp
  have there : ∀ b u, s.heap.get? b = some u → ∃ o', h'.get? b = some o' := fun b u e => by
    by_cases hb : b = X.env.locals
    · subst hb
      obtain ⟨m, hm, _⟩ := I.loc
      obtain ⟨o, _, _, ho, _⟩ := ns m hm
      exact ⟨o, ho⟩
    · exact ⟨u, k b u hb e⟩
  refine I.step (g' := s.gens) (d' := s.drawn) (ch := []) (fun _ z => nomatch z) (fun b u hb _ _ e _ => k b u hb e) (fun b u hb _ _ e _ => ⟨u.slots, k b u hb e⟩) (fun b u _ e n => ?_) (fun b u _ e => there b u e) (fun b xs q => ?_) (fun b u xs q => ?_) (fun b ps q => ⟨#[], ?_⟩) ns (fun b u e => ?_) I.bare
  · rw [upd_ne (Nat.ne_of_lt (Nat.lt_of_lt_of_le (Heap.lt_size e) hp))]; exact n
  · rw [upd_ne (ne_of_none q hn)]; exact q
  · rw [upd_ne (ne_of_none q hn)]; exact q
  · rw [upd_ne (ne_of_none q hn), q]; simp
  · by_cases hb : b = a
    · subst hb; rw [upd_same] at e; cases e; exact new
    · rw [upd_ne hb] at e
      have nL : ∀ c, (c = b ∨ H c = some (.own b)) → c ≠ X.env.locals := fun c hc z => by
        subst z
        have := I.free
        rcases hc with rfl | hc
        · rw [this] at e; cases e
        · rw [this] at hc; cases hc
      exact (I.hok b u e).stay (fun c v hc q => k c v (nL c hc) q) (fun c q => by rw [upd_ne (ne_of_none q hn)]; exact q) fun c xs q => by rw [upd_ne (ne_of_none q hn)]; exact q
end DL
namespace DL
open PySem PySem.Spec PyProof.Rows L2
open Builtin.SmallTypes (nextOf)
noncomputable def SqI (b : Bool) (h : Heap) (i l : Addr) (n : Nat) : Prop := ∃ o, h.get? i = some o ∧ o.cls = .type (if b then "list_iterator" else "tuple_iterator") ∧ o.data = .fields #[.ref l, .int n 0]
noncomputable def SqX (b : Bool) (h : Heap) (l : Addr) (xs : Array Value) : Prop := ∃ o, h.get? l = some o ∧ o.cls = .type (if b then "list" else "tuple") ∧ ∃ n, o.data = .seq xs n
theorem SqI.mv {b : Bool} {h h' : Heap} {i l : Addr} {n : Nat} (x : SqI b h i l n) (k : ∀ o, h.get? i = some o → h'.get? i = some o) : SqI b h' i l n := let ⟨o, e, r⟩ := x; ⟨o, k o e, r⟩
theorem SqX.mv {b : Bool} {h h' : Heap} {l : Addr} {xs : Array Value} (x : SqX b h l xs) (k : ∀ o, h.get? l = some o → h'.get? l = some o) : SqX b h' l xs := let ⟨o, e, r⟩ := x; ⟨o, k o e, r⟩
theorem SqI.lt {b : Bool} {h : Heap} {i l : Addr} {n : Nat} (x : SqI b h i l n) : i < h.objs.size := let ⟨_, e, _⟩ := x; Heap.lt_size e
section
variable {prog : Program} {w : World} {A : Around} {E : Value → Shared → Prop} {s : Shared}
variable {z TI TO i1 i2 l1 l2 : Addr} {k1 k2 : Nat} {xs ys : Array Value} {b1 b2 : Bool}
end
noncomputable def srcD (d : D) (H : HD) : Option (List D × OwnD) := match d with
  | .tup xs => some (xs, [])
  | .ref n => match H[n]? with
    | some (.lst xs) => some (xs, [(n, .lst xs)])
    | _ => none
  | _ => none
section
variable {X : Cx} {pins : List (Addr × Obj)} {σ : L2.St} {H : Hp} {s : Shared} {b : Bool} {l : Addr} {xs ys : List V}
end
noncomputable def iZipS (f : AF) : ItF := fun σ H => (f σ H).bind fun p => match p.1 with
  | [d1, d2] => (srcD d1 p.2).bind fun a => (srcD d2 p.2).map fun b => ((zipL a.1 b.1, a.2 ++ b.2), p.2)
  | _ => none
end DL
namespace DL
open PySem PySem.Spec PyProof.Rows L2
theorem vals_ints : ∀ {ns : List Int} {us : List Value}, Vals (ns.map V.int) us → us.length = ns.length ∧ ∀ (i : Nat) (v : Value), us[i]? = some v → ∃ t, v = .int ((ns[i]?).getD 0) t
  | [], us, h => by
    cases h
    exact ⟨rfl, by intro i v e; simp at e⟩
  | n :: r, us, h => by
    cases h with
    | cons p Q =>
      obtain ⟨h1, h2⟩ := vals_ints Q
      refine ⟨by simp [h1], ?_⟩
      intro i v e
      cases i with
      | zero =>
        obtain ⟨t, rfl⟩ := p
        simp at e
        exact ⟨t, by simpa using e.symm⟩
      | succ i =>
        simp at e
        simpa using h2 i v e
section
variable {X : Cx}
end
end DL
namespace DL
open PySem PySem.Spec PyProof.Rows L2
section
variable {X : Cx} {e : Expr} {pos : Pos}
end
end DL
namespace DL
open PySem PySem.Spec PyProof.Rows L2
noncomputable def LtAt (A : Around) (s : Shared) (x y : Value) (b : Bool) : Prop := ∀ (prog : Program) (w : World) (E Q : Value → Shared → Prop), Q (.bool b) s → wpAny (model prog w) A (richCompare .Lt x y) Q E s
inductive LexAt (A : Around) (s : Shared) : List Value → List Value → Bool → Prop
  | nn : LexAt A s [] [] false
  | nc {w ws} : LexAt A s [] (w :: ws) true
  | cn {v vs} : LexAt A s (v :: vs) [] false
  | eq {v vs w ws r} : SeqAt.EqAt A s v w true → LexAt A s vs ws r → LexAt A s (v :: vs) (w :: ws) r
  | ne {v vs w ws r} : SeqAt.EqAt A s v w false → LtAt A s v w r → LexAt A s (v :: vs) (w :: ws) r
section
open PySem.SeqAt
open PySem.AutoSeq1 (wpAny_loadPart')
open PySem.MeetsSeq PySem.MeetsSeq2 PySem.MeetsSeq3
end
end DL
namespace DL
open PySem PySem.Spec PyProof.Rows L2
section
variable {prog : Program} {w : World} {A : Around} {R : Result → Shared → Prop} {J S : Addr} {fp wr : List Addr} {n : Nat} {P : Nat → Value → Prop} {St : Nat → Heap → Prop} {Gd : Heap → Prop} {bt : Nat → Nat → Bool}
noncomputable def Holds (wr : List Addr) (S : Addr) (h h' : Heap) : Prop := ∀ b o, b ∉ wr → b ≠ S → h.get? b = some o → h'.get? b = some o
end
end DL
namespace DL
open PySem PySem.Spec PyProof.Rows L2
section
variable {X : Cx}
end
end DL
namespace DL
open PySem PySem.Spec PyProof.Rows L2
theorem miss_keys : typeLookup (.type "list") "keys" = pure none := am_miss_of_fast (by kernel_rfl)
theorem no_keys {prog : Program} {w : World} {A : Around} {E : Value → Shared → Prop} {s : Shared} {l : Addr} {ob : Obj} {xs : Array Value} {k : Nat} {Q : Option Value → Shared → Prop} (g1 : s.heap.get? l = some ob) (g2 : ob.cls = .type "list") (g3 : ob.data = .seq xs k) (g4 : ob.dict = none) (hh : A.handled = none)
    (q : ∀ h' tk, (∀ b o, s.heap.get? b = some o → h'.get? b = some o) → Q none { s with heap := h', toks := tk }) : wpAny (model prog w) A (getAttr? (.ref l) "keys") Q E s := by
  obtain ⟨c, dd, dt, sl⟩ := ob
  simp only at g2 g3 g4
  subst g2 g3 g4
  obtain ⟨hp, g, d, tk, os⟩ := s
  have ty : ∀ t, (⟨hp, g, d, t, os⟩ : Shared).TypeIs (.ref l) "list" := fun _ => ⟨_, g1, rfl⟩
  have f1 := sub_AttributeError
  have f2 := F.slot_list_getattribute.lookup
  have f3 := F.slot_list_getattribute.bind (.ref l)
  have f4 := am_list_getattr_none
  unfold getAttr? getAttrBy? getAttrBy
  repeat (any_goals (first | assumption | exact ty _ | ((with_reducible show wpAny _ _ (call (Value.builtin "list.__getattribute__") _ _) _ _ _); refine call_meets F.slot_list_getattribute (ty _) am_entry_list_getattribute (F.args_list_getattribute_2 _ _) (meets_getattribute_miss_list l xs k sl "keys" _ miss_keys (by decide) (by decide)) ⟨g1, hh, fun h1 t1 e x1 => ?_⟩) | wp_step))
  obtain ⟨t2, u2, e2⟩ := x1.there
  show wpAny _ _ (getattributeRaised _ _ _ _ none false false) _ _ _
  unfold getattributeRaised
  repeat (any_goals (first | assumption | wp_step))
  exact q _ _ x1.keeps
theorem plain_upd : plainId "dict.update.loop" = true := by decide +kernel
theorem entry_upd : entryFor table "dict.update.loop" = some Builtin.«dict.update.loop» := entryFor_of_tree (by kernel_rfl)
theorem pair_items {prog : Program} {w : World} {A : Around} {E : Value → Shared → Prop} {s : Shared} {t : Addr} {xs : Array Value} {Q : List Value → Shared → Prop} (h : IsTup s.heap t xs) (q : Q xs.toList s) : wpAny (model prog w) A (Builtin.Dict.pairItems (.ref t)) Q E s := by
  obtain ⟨o, g1, g2, n, g3⟩ := id h
  unfold Builtin.Dict.pairItems
  refine wpAny_bind (wpAny_typeOf h.typeIs ?_)
  rw [if_pos (by decide)]
  refine wpAny_bind (wpAny_seqItems g1 g3 (wpAny_pure ?_))
  exact q
section
variable {prog : Program} {w : World} {A : Around} {R : Result → Shared → Prop} {J d : Addr} {fp wr : List Addr} {n : Nat} {P : Nat → Value → Prop} {St : Nat → Heap → Prop} {Gd : Nat → Heap → Prop}
theorem upd_loop (W : Walks prog w A.in1 J fp wr n P St) (hg : ∀ i h h', Gd i h → (∀ b o, b ∉ wr → h.get? b = some o → h'.get? b = some o) → Gd i h')
    (st : ∀ i v (s : Shared), i < n → P i v → Gd i s.heap → ∃ t k u, v = .ref t ∧ IsTup s.heap t #[k, u] ∧ ∀ (Q : Unit → Shared → Prop) (E : Value → Shared → Prop), (∀ h' tk, Gd (i + 1) h' → (∀ b ∈ fp, ∀ o, s.heap.get? b = some o → h'.get? b = some o) → Q () { s with heap := h', toks := tk }) → wpAny (model prog w) A.in1 (dictSet d k u) Q E s) :
    ∀ (m i : Nat) (s : Shared) (z : Int) (tz : Tok), i + m = n → St i s.heap → Gd i s.heap → (∀ h' tk, Gd n h' → R (.ok (.ret .none)) { s with heap := h', toks := tk }) →
    codeAny (model prog w) A (.builtin "dict.update.loop" ⟨[.ref d, .ref J, .int z tz, .none], []⟩) R s
  | 0, i, s, z, tz, hm, hs, gd, q => by
    refine codeAny_builtin entry_upd ?_; rw [Around.under_plainId plain_upd _]
    have hi : i = n := by omega
    subst hi
    show wpAny _ A.in1 (pyNext (Value.ref J) >>= _) _ _ s
    refine wpAny_bind (W.done s _ _ hs fun h1 t1 k1 => ?_)
    refine wpAny_bind (wpAny_pure ?_)
    exact wpAny_pure (q h1 t1 (hg _ _ _ gd k1))
  | m + 1, i, s, z, tz, hm, hs, gd, q => by
    refine codeAny_builtin entry_upd ?_; rw [Around.under_plainId plain_upd _]
    show wpAny _ A.in1 (pyNext (Value.ref J) >>= _) _ _ s
    refine wpAny_bind (W.item i s _ _ (by omega) hs fun v h1 t1 hv hs1 k1 => ?_)
    have g1 := hg _ _ _ gd k1
    obtain ⟨t, k, u, rfl, ht, go⟩ := st i v { s with heap := h1, toks := t1 } (by omega) hv g1
    refine wpAny_bind (wpAny_holding ?_)
    refine wpAny_bind (wpAny_tryCatch (pair_items ht ?_))
    refine wpAny_holding (go _ _ fun h2 t2 g2 k2 => ?_)
    exact wpAny_pure ⟨plainId_quiet plain_upd _, upd_loop W hg st m (i + 1) _ _ _ (by omega) (W.frame _ _ _ hs1 k2) g2 fun h3 t3 g3 => q h3 t3 g3⟩
end
theorem call_dictL {prog : Program} {w : World} {A : Around} {E : Value → Shared → Prop} {s : Shared} {l : Addr} {ob : Obj} {xs : Array Value} {kk : Nat} {Q : Value → Shared → Prop} (g1 : s.heap.get? l = some ob) (g2 : ob.cls = .type "list") (g3 : ob.data = .seq xs kk) (g4 : ob.dict = none) (hh : A.handled = none) {Gd : Nat → Heap → Prop}
    (g0 : ∀ h', (∀ b o, (s.heap.push { cls := .type "dict", data := .dict #[] }).get? b = some o → h'.get? b = some o) → Gd 0 h')
    (hg : ∀ i h h', Gd i h → (∀ b o, b < s.heap.objs.size + 1 → h.get? b = some o → h'.get? b = some o) → Gd i h')
    (st : ∀ i v (z : Shared), xs[i]? = some v → Gd i z.heap → ∃ t k u, v = .ref t ∧ IsTup z.heap t #[k, u] ∧ ∀ (Q : Unit → Shared → Prop) (E : Value → Shared → Prop), (∀ h' tk, Gd (i + 1) h' → (∀ b o, b ≠ s.heap.objs.size → z.heap.get? b = some o → h'.get? b = some o) → Q () { z with heap := h', toks := tk }) → wpAny (model prog w) A.in1.in1 (dictSet s.heap.objs.size k u) Q E z)
    (q : ∀ h' tk, Gd xs.size h' → Q (.ref s.heap.objs.size) { s with heap := h', toks := tk }) : wpAny (model prog w) A (call (.type "dict") [.ref l]) Q E s := by
  refine callType_codes (Q₁ := fun a z => a = .ref s.heap.objs.size ∧ z = { s with heap := s.heap.push { cls := .type "dict", data := .dict #[] } }) F.kt_called_dict (F.kt_typeCall_dict_1 _) F.entry_dict_init (kt_code_dict_new _ ⟨rfl, rfl⟩) ?_
  rintro a z ⟨rfl, rfl⟩
  have hlt : l < s.heap.objs.size := Heap.lt_size g1
  have ty : ({ s with heap := s.heap.push { cls := .type "dict", data := .dict #[] } } : Shared).TypeIs (.ref s.heap.objs.size) "dict" := ⟨_, Heap.get?_push_size _ rfl, rfl⟩
  have ty2 : ({ s with heap := s.heap.push { cls := .type "dict", data := .dict #[] } } : Shared).TypeIs (.ref l) "list" := ⟨_, Heap.get?_push_of_some _ g1, g2⟩
  refine ⟨ty, F.args_dict_init_2 _ _, ?_⟩
  unfold Builtin.«dict.__init__» Builtin.Dict.selfAndRest; refine wpAny_bind (wpAny_bind (wpAny_notOrdered_dict ty ?_))
  show wpAny _ _ (pure (s.heap.objs.size, [Value.ref l])) _ _ { s with heap := s.heap.push { cls := .type "dict", data := .dict #[] } }
  refine wpAny_pure ?_; show wpAny _ _ (Builtin.Dict.updateFrom "dict.__init__" s.heap.objs.size (Value.ref l) [] .none) _ _ _
  unfold Builtin.Dict.updateFrom
  refine wpAny_bind (wpAny_typeOf ty2 ?_)
  rw [if_pos (by decide)]
  refine wpAny_bind (no_keys (A := A.in1.in1) (Heap.get?_push_of_some _ g1) g2 g3 g4 (show A.in1.in1.handled = none from hh) fun h1 t1 k1 => ?_)
  have l1 : h1.IsList l xs := ⟨ob, k1 _ _ (Heap.get?_push_of_some _ g1), g2, kk, g3⟩
  have sz : s.heap.objs.size + 1 ≤ h1.objs.size := by
    have e0 : (s.heap.push { cls := .type "dict", data := .dict #[] }).get? s.heap.objs.size = some { cls := .type "dict", data := .dict #[] } := Heap.get?_push_size _ rfl
    exact Heap.lt_size (k1 _ _ e0)
  simp only [Option.isNone_none, if_true]
  refine wpAny_bind (wpAny_rule ?_)
  refine wpAny_bind (wpAny_pyIter_list (s := { s with heap := h1, toks := t1 }) l1 ?_)
  refine wpAny_pure ⟨plainId_quiet plain_upd _, upd_loop (A := A.in1) (Gd := Gd) (Walks.list (A := A.in1.in1) (show A.in1.in1.handled = none from hh) h1.objs.size l (Nat.ne_of_lt (Nat.lt_of_lt_of_le hlt (Nat.le_trans (Nat.le_succ _) sz))) xs) ?_ ?_ xs.size 0 _ _ _ (by omega) ⟨⟨_, Heap.get?_push_size _ rfl, rfl, rfl⟩, l1.at fun o z => Heap.get?_push_of_some _ z⟩ (hg _ _ _ (g0 h1 k1) fun b o _ e => Heap.get?_push_of_some _ e) fun h3 t3 g3 => ⟨rfl, q h3 t3 g3⟩⟩
  · intro i h h' gd k
    refine hg i h h' gd fun b o hb e => k b o ?_ e
    intro hm
    have : b = h1.objs.size := by simpa using hm
    subst this
    exact absurd (Nat.lt_of_lt_of_le hb sz) (Nat.lt_irrefl _)
  · intro i v z hi hv gd
    obtain ⟨t, k, u, e, ht, go⟩ := st i v z hv gd
    refine ⟨t, k, u, e, ht, fun Q E qq => go Q E fun h2 t2 g2 k2 => qq h2 t2 g2 fun b hb o e => k2 b o ?_ e⟩
    intro e1
    subst e1
    simp only [List.mem_cons, List.not_mem_nil, or_false] at hb
    rcases hb with hb | hb
    · exact absurd (Nat.lt_of_lt_of_le (Nat.lt_succ_self _) sz) (by rw [← hb]; exact Nat.lt_irrefl _)
    · exact absurd hlt (by rw [← hb]; exact Nat.lt_irrefl _)
end DL
namespace DL
open PySem PySem.Spec PyProof.Rows L2
structure BlkOk2 (X : Cx) (scope : Scope) (x y : Str) (cn : List Str) (ci : List Nat) : Prop where
  kind : scope.kind = .function
  nocell : ∀ y ∈ scope.names, y.2 ≠ .cell
  names : ∀ y ∈ scope.names, y.2 = .local → scope.names.lookup y.1 = some .local
  tgt : scope.names.lookup x = some .local
  tgt2 : scope.names.lookup y = some .local
  free : ∀ y ∈ scope.names, y.2 = .free → (X.env.cells.lookup y.1).isSome = true
  nd : (x :: y :: cn).Nodup
  len : ci.length = cn.length
  cap : ∀ (j : Nat) (y : Str), cn[j]? = some y → ∃ i, ci[j]? = some i ∧ X.N[i]? = some y ∧ scope.names.lookup y = some .free ∧ (X.env.kindOf y = some .cell ∨ X.env.kindOf y = some .free)
section
variable {X : Cx} {pins : List (Addr × Obj)} {σ : L2.St} {H : Hp} {s : Shared} {scope : Scope} {x y0 : Str} {cn : List Str} {ci : List Nat} {fp : List Addr}
theorem inv_blk2 {h₁ : Heap} {tk : Nat} {o₁ : Obj} (I : Inv X pins σ H s) (B : BlkOk2 X scope x y0 cn ci) (hf : ∀ b ∈ fp, FpOk X pins H b) (hlt : ∀ b ∈ fp, b < s.heap.objs.size)
    (hns : h₁.Ns s.heap.objs.size (fun _ => none)) (hsb : Heap.SameBut s.heap.objs.size (s.heap.push o₁) h₁) :
    Inv (blk X scope (x :: y0 :: cn) (clOf X.env scope.names []) s.heap.objs.size s H fp (X.pn ++ pins)) [] (none :: none :: capS ci σ) H { s with heap := h₁, toks := tk } := by
  have old : ∀ b o, s.heap.get? b = some o → h₁.get? b = some o := fun b o e => hsb.extBut b o (Nat.ne_of_lt (Heap.lt_size e)) (Heap.get?_push_of_some _ e)
  have sub := clOf_sub X.env scope.names [] (by intro x c h; simp at h)
  have has : ∀ y, (y, NameKind.free) ∈ scope.names → ∃ c, (clOf X.env scope.names []).lookup y = some c := fun y hy =>
    Option.isSome_iff_exists.mp (clOf_has X.env scope.names [] y (.inr ⟨hy, B.free _ hy rfl⟩))
  refine ⟨⟨I.ok.mod, B.kind, I.ok.glob, I.ok.blt, Nat.le_refl _, fun y z c h1 h2 => I.ok.inj y z c (sub y c h1) (sub z c h2), fun y hy => has y (relabel_free B.nocell hy), fun y c hy => absurd hy (by show ¬ (false = true); simp), I.ok.hd, I.ok.frames, .inl rfl,
      fun b hb => ⟨Nat.ne_of_lt (hlt b hb), fun y c e => (hf b hb).2.2.2.2.1 y c (sub y c e)⟩, I.bs, Nat.le_trans I.ok.bsz I.sz, fun b o e hb => ?_, fun b hb z => ?_, I.stack, I.stkFree⟩,
    rfl, I.bare, Un.kept old, ⟨_, hns, fun i y v h1 h2 h3 => ?_⟩, fun y c e => ?_, I.hok.fresh (Nat.le_refl _), fun y c e => I.freeC y c (sub y c e), fun p hp => ?_, I.hok.kept old, ?_⟩
  · rcases (hf b hb).2.2.2.1 with z | z
    · exact I.ok.noex b o e z
    · exact absurd (Nat.lt_of_lt_of_le (Heap.lt_size e) (Nat.le_trans I.ok.bsz z)) (Nat.lt_irrefl _)
  · exact (List.mem_cons.mp (I.stkSub b z)).elim (hf b hb).2.1 (hf b hb).2.2.1
  · match i, h1, h2 with
    | 0, h1, h2 => simp at h2
    | 1, h1, h2 => simp at h2
    | j + 2, h1, h2 =>
      have h1' : cn[j]? = some y := by simpa [blk] using h1
      have h2' : (capS ci σ)[j]? = some (some v) := by simpa using h2
      obtain ⟨i, e1, e2, e3, e4⟩ := B.cap j y h1'
      have e5 : σ[i]? = some (some v) := by
        unfold capS at h2'
        rw [List.getElem?_map, e1] at h2'
        simp at h2'
        cases e : σ[i]? with
        | none => rw [e] at h2'; cases h2'
        | some o => rw [e] at h2'; simp at h2'; rw [h2']
      obtain ⟨m, hn, hl⟩ := I.loc
      have hv : Vis X.env.scope y := by
        rcases e4 with e4 | e4
        · exact .inr (.inl e4)
        · exact .inr (.inr e4)
      obtain ⟨u, r, l⟩ := hl i y v e2 e5 hv
      refine ⟨u, r, .inr ⟨relabel_vis e3, ?_⟩⟩
      obtain ⟨c, ec⟩ := has y (PySem.mem_of_lookup e3)
      refine ⟨c, ec, ?_⟩
      rcases l with ⟨l, _⟩ | ⟨_, c', ec', hc⟩
      · rcases e4 with e4 | e4 <;> rw [e4] at l <;> cases l
      · rw [sub y c ec] at ec'
        cases ec'
        obtain ⟨ob, q1, q2⟩ := hc
        exact ⟨ob, old _ _ q1, q2⟩
  · obtain ⟨v, ob, q1, q2⟩ := I.cell y c (sub y c e)
    exact ⟨v, ob, old _ _ q1, q2⟩
  · have hp' : p ∈ X.pn ++ pins := by simpa [blk] using hp
    obtain ⟨q1, q2, q3, q4, q5⟩ := I.pin p hp'
    refine ⟨old _ _ q1, q2, Nat.ne_of_lt (Heap.lt_size q1), fun z => ?_, q5⟩
    exact (List.mem_cons.mp (I.stkSub p.1 z)).elim q3 q4
  · simp [blk, capS, B.len]
noncomputable def LcW2 (K : PySem.W.Frag) (J : It) (ci : List Nat) (tt : TT) (te : TE) (σ : L2.St) (Q : VK) (H1 : Hp) : Prop := ∀ p, H1 p = none → ∃ W : Nat → Nat → List V → Hp → Prop, (∃ m, W 0 m [] (upd H1 p (.lst []))) ∧ ∀ i m ys H, W i m ys H →
  H p = some (.lst ys) ∧ ((J.stop i H ∧ Q (.ref p) H) ∨ (J.go i H ∧ ∀ v H', J.yld i H v H' → ∃ a v1 v2, v = .ref a ∧ SqT K H' a [v1, v2] ∧ tt (some v1 :: some v2 :: capS ci σ) H' fun b H2 =>
    if b = true then te (some v1 :: some v2 :: capS ci σ) H2 fun y H3 => H3 p = some (.lst ys) ∧ ys.length < sizeLine ∧ ∃ m', m' < m ∧ W (i + 1) m' (ys ++ [y]) (upd H3 p (.lst (ys ++ [y])))
    else ∃ m', m' < m ∧ W (i + 1) m' ys H2))
theorem lc_block2 {elt iter : Expr} {px py pt pos : Pos} {kt : Nat} {ifs : List Expr} {tt : TT} {te : TE} {Q : VK} {E : Value → Shared → Prop} {RR : Value → Addr → Result → Shared → Prop} {it : Addr} {tn : Nat → Heap → Prop} {J : It}
    (I : Inv X pins σ H s) (hc : X.calm = true) (B : BlkOk2 X scope x y0 cn ci) (T : Turn X.prog X.w X.K (.Tuple [.Name x px, .Name y0 py] kt pt) J fp it tn) (st : tn 0 s.heap) (hf : ∀ b ∈ fp, FpOk X pins H b)
    (ht : ∀ cl C s H fp pn, PTs (blk X scope (x :: y0 :: cn) cl C s H fp pn) ifs tt) (he : ∀ cl C s H fp pn, PE (blk X scope (x :: y0 :: cn) cl C s H fp pn) elt te)
    (hw : LcW2 X.K J ci tt te σ Q H) (hRR : ∀ p C H' s', Inv X pins σ H' s' → Gone X pins H' s' C → Q (.ref p) H' → RR (.ref p) C (.ok .next) s') :
    wpAny (model X.prog X.w) X.A (newList []) (fun acc s₃ => wpAny (model X.prog X.w) X.A (newFunctionEnv scope X.env.globals (clOf X.env scope.names []) [] X.env.qual none .none (some X.env)) (fun cenv s₄ =>
      codeAny (model X.prog X.w) X.A (.compStart (.ListComp elt [⟨.Tuple [.Name x px, .Name y0 py] kt pt, iter, ifs, 0⟩] scope pos) 0 (.ref it) acc { cenv with scope := relabel scope X.env }) (RR acc cenv.locals) s₄) E s₃) E s := by
  have hp0 : H s.heap.objs.size = none := I.hok.fresh (Nat.le_refl _)
  obtain ⟨W, ⟨m0, w0⟩, turn⟩ := hw _ hp0
  refine wpAny_newObj_type (wpAny_newFunctionEnv B.nocell (by intro y hy; simp at hy) (fun h₁ hns₁ hsb₁ => ?_) B.kind)
  dsimp only at hns₁ hsb₁ ⊢
  have I3 : Inv X pins σ (upd H s.heap.objs.size (.lst [])) { s with heap := s.heap.push { cls := .type "list", dict := none, data := .seq ([] : List Value).toArray } } :=
    I.laid (t' := s.toks) (fun b u e => Heap.get?_push_of_some _ e) (Nat.le_refl _) ⟨Nat.zero_le _, [], 0, .nil, Heap.get?_push_size _ rfl⟩
  generalize hH3 : s.heap.push { cls := .type "list", dict := none, data := .seq ([] : List Value).toArray } = hp3 at hns₁ hsb₁ I3 ⊢
  have flt : ∀ b ∈ fp, b < s.heap.objs.size := fun b hb => by
    obtain ⟨o, e, _⟩ := T.obj 0 _ st b hb
    exact Heap.lt_size e
  have sz3 : hp3.objs.size = s.heap.objs.size + 1 := by rw [← hH3, Heap.size_push]
  have f3 : ∀ b ∈ fp, FpOk X pins (upd H s.heap.objs.size (.lst [])) b := fun b hb => ⟨by rw [upd_ne (Nat.ne_of_lt (flt b hb))]; exact (hf b hb).1, (hf b hb).2⟩
  have old3 : ∀ b o, s.heap.get? b = some o → hp3.get? b = some o := fun b o e => by rw [← hH3]; exact Heap.get?_push_of_some _ e
  have I4 := inv_blk2 (s := { s with heap := hp3 }) (tk := s.toks + ([] : List (Str × Value)).length) I3 B f3 (fun b hb => by show b < hp3.objs.size; rw [sz3]; exact Nat.lt_succ_of_lt (flt b hb)) (by simpa using hns₁) hsb₁
  have old4 : ∀ b o, hp3.get? b = some o → h₁.get? b = some o := fun b o e => hsb₁.extBut b o (Nat.ne_of_lt (Heap.lt_size e)) (Heap.get?_push_of_some _ e)
  generalize hX' : blk X scope (x :: y0 :: cn) (clOf X.env scope.names []) hp3.objs.size { s with heap := hp3 } (upd H s.heap.objs.size (.lst [])) fp (X.pn ++ pins) = X' at I4
  have ePr : X'.prog = X.prog := by rw [← hX']; rfl
  have eW : X'.w = X.w := by rw [← hX']; rfl
  have eK : X'.K = X.K := by rw [← hX']; rfl
  have eA : X'.A = X.A := by rw [← hX']; rfl
  have eEnv : X'.env = compEnvC scope (clOf X.env scope.names []) hp3.objs.size X.env := by rw [← hX']; rfl
  have eEx : X'.ex = fp := by rw [← hX']; rfl
  have ht' : PTs X' ifs tt := by rw [← hX']; exact ht _ _ _ _ _ _
  have he' : PE X' elt te := by rw [← hX']; exact he _ _ _ _ _ _
  have eXe : X'.xe = fun _ _ => False := by rw [← hX']; rfl
  have hg' : PG X' (.Tuple [.Name x px, .Name y0 py] kt pt) (gTup X.K 2 (gCons (gName 0) (gCons (gName 1) gNil))) := by
    rw [← hX']
    exact pg_tup (X := blk X scope (x :: y0 :: cn) _ _ _ _ _ _) hc (pgs_cons (pg_name (X := blk X scope (x :: y0 :: cn) _ _ _ _ _ _) B.nd rfl (.inl (lookup_relabel_local B.tgt)) (.inr (lookup_relabel_local B.tgt))) (pgs_cons (pg_name (X := blk X scope (x :: y0 :: cn) _ _ _ _ _ _) B.nd rfl (.inl (lookup_relabel_local B.tgt2)) (.inr (lookup_relabel_local B.tgt2))) pgs_nil))
  -- the iterator's objects, seen from the block
  have stat : ∀ {H' : Hp}, (∀ b ∈ fp, H' b = none) → ∀ b ∈ fp, FpOk X' [] H' b := fun {H'} hn b hb => by
    rw [← hX']
    refine ⟨hn b hb, (by show b ≠ hp3.objs.size; rw [sz3]; exact Nat.ne_of_lt (Nat.lt_succ_of_lt (flt b hb))), fun z => (List.mem_cons.mp (I3.stkSub b z)).elim (hf b hb).2.1 (hf b hb).2.2.1, .inl hb, fun y c e => ?_, fun p hp => ?_⟩
    · exact (hf b hb).2.2.2.2.1 y c (clOf_sub X.env scope.names [] (by intro x c h; simp at h) y c e)
    · exact (hf b hb).2.2.2.2.2 p (by simpa [blk] using hp)
  have back : ∀ {σ' : L2.St} {H' : Hp} {s' : Shared}, Inv X' [] σ' H' s' → Inv X pins σ H' s' ∧ Gone X pins H' s' hp3.objs.size := fun {σ' H' s'} I5 => by
    have u : Un (frs X.stack) fp (upd H s.heap.objs.size (.lst [])) H' hp3 s'.heap := by
      have := I5.base
      rw [← hX'] at this
      exact this
    have hok : HOk X.prog X.w H' s'.heap := by have := I5.hok; rw [ePr, eW] at this; exact this
    have ho : s'.os = s.os := by have := I5.os; rw [← hX'] at this; exact this
    refine ⟨I3.call' ho u hok I5.bare fun b hb => ⟨(hf b hb).2.2.2.1, (hf b hb).2.1, (hf b hb).2.2.2.2.1, (hf b hb).2.2.2.2.2⟩, ?_, ?_, ?_, ?_, fun y c e z => ?_, fun p hp z => ?_⟩
    · obtain ⟨m, hn, _⟩ := I5.loc
      rw [eEnv] at hn
      exact ⟨m, hn⟩
    · have := I5.free
      rw [eEnv] at this
      exact this
    · exact Nat.ne_of_gt (I3.lt)
    · exact I3.sz
    · obtain ⟨v, q⟩ := I3.cell y c e
      exact absurd (Nat.lt_of_lt_of_le q.lt (by rw [z]; exact Nat.le_refl _)) (Nat.lt_irrefl _)
    · have := Heap.lt_size (I3.pin p hp).1
      rw [z] at this
      exact Nat.lt_irrefl _ this
  have loop : codeAny (model X.prog X.w) X.A (.compLoop (.ListComp elt [⟨.Tuple [.Name x px, .Name y0 py] kt pt, iter, ifs, 0⟩] scope pos) 0 (.ref it) (.ref s.heap.objs.size) (compEnvC scope (clOf X.env scope.names []) hp3.objs.size X.env))
      (RR (.ref s.heap.objs.size) hp3.objs.size) { s with heap := h₁, toks := s.toks + ([] : List (Str × Value)).length } := by
    refine codeAny_loop rfl (fun n s' => ∃ i o o2 ys H', Inv X' [] (o :: o2 :: capS ci σ) H' s' ∧ tn i s'.heap ∧ (∀ b ∈ fp, H' b = none) ∧ W i n ys H') (fun n s' hI => ?_) m0
      ⟨0, none, none, [], _, I4, T.keep _ _ _ st (fun b hb o e => old4 b o (old3 b o e)), fun b hb => (f3 b hb).1, w0⟩
    obtain ⟨i, o, o2, ys, H', I5, st5, fr5, w5⟩ := hI
    show wpAny _ X.A ((compTurn (.ListComp elt [⟨.Tuple [.Name x px, .Name y0 py] kt pt, iter, ifs, 0⟩] scope pos) 0 (.ref it) (.ref s.heap.objs.size) (compEnvC scope (clOf X.env scope.names []) hp3.objs.size X.env)).onRaise (fun x => do noteFrame x (compEnvC scope (clOf X.env scope.names []) hp3.objs.size X.env); theTreesLotGoes x)) _ _ s'
    refine wpAny_noted ?_
    rw [compTurn_list, ← eEnv, ← ePr, ← eW, ← eA]
    refine wpAny_mono (E := fun _ _ => False) ?_ (fun _ _ q => q) (fun _ _ z => z.elim)
    obtain ⟨hpl, wt⟩ := turn i n ys H' w5
    refine wpAny_bind (wpAny_standAt (wpAny_bind ?_))
    rcases wt with ⟨stop, q⟩ | ⟨go, step⟩
    · have z := T.done X' ePr eW eK (by rw [← hX']; exact hc) i [] s' _ H' (fun _ _ => False) I5 (stat fr5) st5 stop
      rw [← ePr, ← eW] at z
      refine thn z fun r s6 zz => ?_
      obtain ⟨hr, I6⟩ := zz
      subst hr
      obtain ⟨J1, g1⟩ := back I6
      exact wpAny_pure (hRR _ _ H' s6 J1 g1 q)
    · have z := T.item X' ePr eW eK (by rw [← hX']; exact hc) i [] s' _ H' (fun _ _ => False) I5 (stat fr5) st5 go
      rw [← ePr, ← eW] at z
      refine thn z fun r s6 zz => ?_
      obtain ⟨u, hr, h6⟩ := zz
      subst hr
      refine wpAny_bind (thn h6 fun _ s7 zz => ?_)
      obtain ⟨v, H7, I7, r7, y7, st7, fr7⟩ := zz
      have I7' := I7.pinned (stat fr7) (T.obj _ _ st7)
      rw [← eXe]
      obtain ⟨a7, v1, v2, ev, sq, step7⟩ := step v _ y7
      refine wpAny_bind (thn (hg' _ s7 _ H7 v u _ I7' r7 (show gTup X.K 2 (gCons (gName 0) (gCons (gName 1) gNil)) v (o :: o2 :: capS ci σ) H7 (fun σ8 H8 => σ8 = some v1 :: some v2 :: capS ci σ ∧ H8 = H7) from ⟨a7, [v1, v2], ev, sq, rfl, ⟨v1, [v2], rfl, v2, [], rfl, rfl, rfl, rfl⟩⟩)) fun _ s8 zz => ?_)
      obtain ⟨σ8, H8, I8, e8, e8'⟩ := zz
      subst e8 e8'
      refine wpAny_bind (thn (ht' _ s8 _ _ _ I8 step7) fun b s9 zz => ?_)
      obtain ⟨H9, I9, q9⟩ := zz
      have tnK : ∀ {σ' : L2.St} {H' : Hp} {s' : Shared}, Inv X' (([] : List (Addr × Obj)) ++ pinsAt fp s7.heap) σ' H' s' → tn (i + 1) s'.heap ∧ ∀ b ∈ fp, H' b = none := fun {σ' H' s'} I' =>
        ⟨T.keep _ _ _ st7 fun b hb o e => (I'.pin (b, o) (List.mem_append_right _ (List.mem_append_right _ (mem_pinsAt hb e)))).1, fun b hb => by
          obtain ⟨ob, e, d⟩ := T.obj _ _ st7 b hb
          exact (I'.pin (b, ob) (List.mem_append_right _ (List.mem_append_right _ (mem_pinsAt hb e)))).2.1⟩
      cases b with
      | false =>
        obtain ⟨m', hm, w9⟩ := q9
        obtain ⟨t9, f9⟩ := tnK I9
        exact wpAny_pure ⟨rfl, m', hm, i + 1, _, _, ys, H9, I9.unpinned, t9, f9, w9⟩
      | true =>
        refine wpAny_bind (wpAny_bind (thn (he' _ s9 _ _ _ I9 q9) fun yv s10 zz => ?_))
        obtain ⟨y, H10, I10, r10, hp10, hz10, m', hm, w10⟩ := zz
        refine wpAny_bind (thn (mt_append (X := X') _ s10 _ H10 (.ref s.heap.objs.size) [y] (.ref s.heap.objs.size) [yv] (fun _ H11 => H11 = upd H10 s.heap.objs.size (.lst (ys ++ [y]))) I10 rfl (.cons r10 .nil) ⟨_, ys, y, rfl, rfl, hp10, hz10, rfl⟩) fun _ s11 zz => ?_)
        obtain ⟨_, H11, I11, _, e11⟩ := zz
        subst e11
        obtain ⟨t11, f11⟩ := tnK I11
        exact wpAny_pure (wpAny_pure ⟨rfl, m', hm, i + 1, _, _, ys ++ [y], _, I11.unpinned, t11, f11, w10⟩)
  exact codeAny_compStart_list loop (T.self _ 0 _ _ _ (T.keep _ _ _ st (fun b hb o e => old4 b o (old3 b o e))) loop)
noncomputable def tLC2 (K : PySem.W.Frag) (wi : TI) (ci : List Nat) (tt : TT) (te : TE) : TE := fun σ H Q => wi σ H fun J H1 => LcW2 K J ci tt te σ Q H1
theorem pe_lc2 {elt iter : Expr} {px py pt pos : Pos} {kt : Nat} {ifs : List Expr} {wi : TI} {tt : TT} {te : TE} (hc : X.calm = true) (B : BlkOk2 X scope x y0 cn ci) (hi : PI X (.Tuple [.Name x px, .Name y0 py] kt pt) iter wi)
    (ht : ∀ cl C s H fp pn, PTs (blk X scope (x :: y0 :: cn) cl C s H fp pn) ifs tt) (he : ∀ cl C s H fp pn, PE (blk X scope (x :: y0 :: cn) cl C s H fp pn) elt te)
    (hs : ∀ x, foldedSetIterable iter X.env x = pure x := by rintro _; rfl) : PE X (.ListComp elt [⟨.Tuple [.Name x px, .Name y0 py] kt pt, iter, ifs, 0⟩] scope pos) (tLC2 X.K wi ci tt te) := by
  intro pins s σ H Q I h
  rw [eval_ListComp]
  refine wpAny_comprehension_free (use := none) rfl hs (closure_eq X.env scope B.free) B.kind B.names ?_
  refine thn (hi pins s σ H _ I h) fun v s1 h1 => thn h1 fun itv s2 h2 => ?_
  obtain ⟨it, fp, tn, J, H2, e, I2, T, st2, f2, w2⟩ := h2
  subst e
  refine lc_block2 (RR := fun acc C => compPost (model X.prog X.w) X.A X.xe none (EP X pins σ Q) acc C) I2 hc B T st2 f2 ht he w2 fun p C H' s' I' g q => ?_
  obtain ⟨m, hn⟩ := g.ns
  exact ⟨m, hn, fun h' hs' => ⟨.ref p, H', g.go I' hs', rfl, q⟩⟩
end
noncomputable def blkB2 (sc scope : Scope) (N : List Str) (x y : Str) (cn : List Str) (ci : List Nat) : Bool :=
  (scope.kind == .function) && scope.names.all (fun y => y.2 != .cell) && scope.names.all (fun y => y.2 != .local || scope.names.lookup y.1 == some .local) && (scope.names.lookup x == some .local) && (scope.names.lookup y == some .local) &&
  scope.names.all (fun y => y.2 != .free || sc.names.lookup y.1 == some .cell) && decide (x :: y :: cn).Nodup && (ci.length == cn.length) &&
  (cn.zip ci).all (fun p => N[p.2]? == some p.1 && scope.names.lookup p.1 == some .free && sc.names.lookup p.1 == some .cell)
theorem blk_fn2 {P : Program} {w : World} {K : PySem.W.Frag} {mg : Str → Option Value} {base : Heap} {N : List Str} {qual : Str} {sc scope : Scope} {f : Addr} {cdv : Value} {A : Around} {outer : List Env} {s : Shared} {H : Hp} {E : XK} {x y0 : Str} {cn : List Str} {ci : List Nat}
    (h : blkB2 sc scope N x y0 cn ci = true) : BlkOk2 (cxOf CX0 P w K mg base N qual sc f cdv A outer s H E).nox scope x y0 cn ci := by
  unfold blkB2 at h
  simp only [Bool.and_eq_true, List.all_eq_true, Bool.or_eq_true, bne_iff_ne, ne_eq, beq_iff_eq, decide_eq_true_eq] at h
  obtain ⟨⟨⟨⟨⟨⟨⟨⟨h1, h2⟩, h3⟩, h4⟩, h4b⟩, h5⟩, h6⟩, h7⟩, h8⟩ := h
  refine ⟨h1, fun y hy => h2 y hy, fun y hy hl => (h3 y hy).resolve_left fun z => z hl, h4, h4b, fun y hy hf => ?_, h6, h7, fun j y hj => ?_⟩
  · have := (h5 y hy).resolve_left fun z => z hf
    obtain ⟨c, hc⟩ := cell_has (n := s.heap.objs.size + 1) this
    exact Option.isSome_iff_exists.mpr ⟨c, hc⟩
  · have hl : j < ci.length := by rw [h7]; exact (List.getElem?_eq_some_iff.mp hj).1
    have hm : (y, ci[j]) ∈ cn.zip ci := by
      refine List.mem_iff_getElem?.mpr ⟨j, ?_⟩
      rw [List.getElem?_zip_eq_some]
      exact ⟨hj, by simp [hl]⟩
    obtain ⟨⟨k1, k2⟩, k3⟩ := h8 _ hm
    exact ⟨ci[j], by simp [hl], k1, k2, .inl k3⟩
end DL
namespace DL
open PySem PySem.Spec PyProof.Rows L2
open Builtin.SmallTypes (nextOf)
section
variable {prog : Program} {w : World} {A : Around} {E : Value → Shared → Prop} {s : Shared}
open AutoSeq1 (wpAny_loadPart') in
theorem enum_newL (t : Addr) (its : Array Value) (n : Nat) (dct : Option Addr) (sl : Array (Option Value)) :
    Meets (Builtin.«enumerate.__new__» ⟨[.type "enumerate", .ref t], []⟩) (fun _ R s => s.heap.get? t = some { cls := .type "list", dict := dct, data := .seq its n, slots := sl } ∧
      R (.ok (.ret (.ref (s.heap.push { cls := .type "list_iterator", data := .fields #[.ref t, .int 0 0] }).objs.size)))
        { s with heap := (s.heap.push { cls := .type "list_iterator", data := .fields #[.ref t, .int 0 0] }).push { cls := .type "enumerate", data := .fields #[.none, .bool false, .ref s.heap.objs.size, rawInt 0, .none, .none] } }) :=
  .of_wp fun prog w A R s h => by
    obtain ⟨hp, g, d, tk, os⟩ := s; obtain ⟨hl, h⟩ := h
    have hsub := sub_enumerate
    have hL : Heap.IsList (Shared.heap ⟨hp, g, d, tk, os⟩) t its := ⟨_, hl, rfl, n, rfl⟩
    wp_walk using wpAny_loadPart' hl
    refine wpAny_stack_any fun st => wpAny_pure ?_
    split
    · rename_i k _ _ _ _ _
      cases (k == Value.type "enumerate") <;> (wp_walk using wpAny_loadPart' hl, wpAny_pyIter_list hL; exact ⟨_, rfl, h⟩)
    · wp_walk using wpAny_loadPart' hl, wpAny_pyIter_list hL
      exact ⟨_, rfl, h⟩
end
end DL
namespace DL
open PySem PySem.Spec PyProof.Rows L2
noncomputable def two2 : D → Option (D × D)
  | .tup [a, b] => some (a, b)
  | _ => none
theorem two2_some {x a b : D} (h : two2 x = some (a, b)) : x = .tup [a, b] := by
  unfold two2 at h
  split at h
  · cases h; rfl
  · cases h
open Classical in
noncomputable def compL2 (own : OwnD) (c0 : SD) (tt : TF) (te : EF) : List D → HD → Option (List D × HD)
  | [], H => if okOwn own H then some ([], H) else none
  | x :: r, H => (two2 x).bind fun ab => if okOwn own H then (tt (some ab.1 :: some ab.2 :: c0) H).bind fun t => if t.1 = true then (te (some ab.1 :: some ab.2 :: c0) t.2).bind fun e => (compL2 own c0 tt te r e.2).map fun q => (e.1 :: q.1, q.2) else compL2 own c0 tt te r t.2 else none
noncomputable def eLC2 (it : ItF) (ci : List Nat) (tt : TF) (te : EF) : EF := fun σ H => (it σ H).bind fun p => (compL2 p.1.2 (capD ci σ) tt te p.1.1 p.2).bind fun q => mkL q.1 q.2
theorem comp2_some {own : OwnD} {c0 : SD} {tt : TF} {te : EF} {x : D} {r : List D} {H : HD} {z : List D × HD} (h : compL2 own c0 tt te (x :: r) H = some z) : ∃ a b, x = .tup [a, b] ∧ okOwn own H ∧ ((tt (some a :: some b :: c0) H).bind fun t => if t.1 = true then (te (some a :: some b :: c0) t.2).bind fun e => (compL2 own c0 tt te r e.2).map fun q => (e.1 :: q.1, q.2) else compL2 own c0 tt te r t.2) = some z := by
  rw [compL2] at h
  obtain ⟨⟨a, b⟩, e, h⟩ := Option.bind_eq_some_iff.mp h
  split at h
  · rename_i ok
    exact ⟨a, b, two2_some e, ok, h⟩
  · cases h
section
variable {X : Cx} {scope : Scope} {x y0 : Str} {cn : List Str} {ci : List Nat}
theorem prdTwo {α β : Type} {F : α → β → Prop} {a b : α} {us : List β} (h : Paired F [a, b] us) : ∃ u v, us = [u, v] ∧ F a u ∧ F b v := by
  cases h with
  | cons p P => cases P with
    | cons q P => cases P; exact ⟨_, _, rfl, p, q⟩
theorem SRep.cap2 {K : PySem.W.Frag} {H : Hp} {ι : List Addr} {σ : L2.St} {σd : SD} {d e : D} {v u : V} (s : SRep K H ι σ σd) (r : Rep K H ι d v) (r2 : Rep K H ι e u) : SRep K H ι (some v :: some u :: capS ci σ) (some d :: some e :: capD ci σd) := by
  have c := SRep.cap (ci := ci) s r2
  refine ⟨by simpa using c.len, fun i z h => ?_⟩
  cases i with
  | zero => simp at h; subst h; exact ⟨v, rfl, r⟩
  | succ j =>
    rw [List.getElem?_cons_succ] at h ⊢
    exact c.var j z h
theorem rd_lc2 {K : PySem.W.Frag} {it : ItF} {tt : TF} {te : EF} {σ : L2.St} {H : Hp} {Q : VK} (h : rdE K (eLC2 it ci tt te) σ H Q) : tLC2 K (rdI K it) ci (rdT K tt) (rdE K te) σ H Q := by
  obtain ⟨ι, σd, Hd, d, Hd', s, hr, e, q⟩ := h
  obtain ⟨⟨⟨xs, own⟩, H1⟩, e1, e⟩ := Option.bind_eq_some_iff.mp e
  obtain ⟨⟨ds, H2⟩, e2, e⟩ := Option.bind_eq_some_iff.mp e
  obtain ⟨hz, e⟩ := mkL_some e
  cases e
  dsimp only at e2 hz
  refine ⟨ι, σd, Hd, xs, own, H1, s, hr, e1, fun J H0 ι0 l0 h0 itr p hp => ?_⟩
  have s0 := s.mono l0
  refine ⟨fun i m ys H => m = xs.length - i ∧ i ≤ xs.length ∧ H p = some (.lst ys) ∧ ∃ ι Hd done rest, Le K H0 ι0 H ι ∧ p ∉ ι ∧ HRep K H ι Hd ∧ Paired (Rep K H ι) done ys ∧ compL2 own (capD ci σd) tt te (xs.drop i) Hd = some (rest, H2) ∧ ds = done ++ rest,
    ⟨xs.length, by simp, Nat.zero_le _, upd_same, ι0, H1, [], ds, Le.fresh hp _, h0.fresh hp, h0.tup hp _, .nil, by simpa using e2, by simp⟩, ?_⟩
  rintro i m ys H5 ⟨rfl, hi, hpl, ι5, Hd5, done, rest, l5, np5, h5, pd5, e5, eds⟩
  refine ⟨hpl, ?_⟩
  by_cases hlt : i < xs.length
  · have ed : xs.drop i = xs[i] :: xs.drop (i + 1) := List.drop_eq_getElem_cons hlt
    rw [ed] at e5
    obtain ⟨a1, a2, ex, ok, e5⟩ := comp2_some e5
    obtain ⟨⟨b6, H6⟩, e6, e5⟩ := Option.bind_eq_some_iff.mp e5
    refine .inr ⟨itr.go i H5 ι5 Hd5 l5 h5 ok hlt, fun v H' y => ?_⟩
    obtain ⟨ι6, l6, h6, r6⟩ := itr.yld i H5 ι5 Hd5 xs[i] v H' l5 h5 ok (by simp [hlt]) y
    obtain ⟨hp6, np6⟩ := l6.frame p _ hpl np5
    rw [ex] at r6
    obtain ⟨a6, ws6, ev6, sq6, P6⟩ := rep_tup.mp r6
    obtain ⟨u1, u2, rfl, p1, p2⟩ := prdTwo P6
    have s6 := SRep.cap2 (ci := ci) (s0.mono (l5.trans l6)) p1 p2
    refine ⟨a6, u1, u2, ev6, sq6, ι6, _, Hd5, b6, H6, s6, h6, e6, fun H7 ι7 l7 h7 => ?_⟩
    obtain ⟨hp7, np7⟩ := l7.frame p _ hp6 np6
    have L7 := (l5.trans l6).trans l7
    cases b6 with
    | true =>
      rw [if_pos rfl]
      dsimp only at e5
      rw [if_pos rfl] at e5
      obtain ⟨⟨d8, H8⟩, e8, e5⟩ := Option.bind_eq_some_iff.mp e5
      obtain ⟨⟨r9, H9⟩, e9, e5⟩ := Option.map_eq_some_iff.mp e5
      cases e5
      refine ⟨ι7, _, H6, d8, H8, s6.mono l7, h7, e8, fun v8 H8' ι8 l8 h8 rr8 => ?_⟩
      obtain ⟨hp8, np8⟩ := l8.frame p _ hp7 np7
      have ly : ys.length < sizeLine := by
        rw [← Prd.len pd5]
        rw [eds] at hz
        simp at hz
        omega
      have w8 : Lw K H8' ι8 (upd H8' p (.lst (ys ++ [v8]))) ι8 := Lw.side hp8 _
      refine ⟨hp8, ly, xs.length - (i + 1), by omega, rfl, hlt, upd_same, ι8, H8, done ++ [d8], r9, (L7.trans l8).side hp hp8 _, np8, h8.keep w8 (fun a ha => upd_ne fun z => by subst z; exact np8 ha), ?_, e9, by rw [eds]; simp⟩
      exact Prd.append (Prd.monoW w8 (Prd.mono ((l6.trans l7).trans l8) pd5)) (.cons (Rep.monoW w8 rr8) .nil)
    | false =>
      rw [if_neg (by simp)]
      dsimp only at e5
      rw [if_neg (by simp)] at e5
      exact ⟨xs.length - (i + 1), by omega, rfl, hlt, hp7, ι7, H6, done, rest, L7, np7, h7, Prd.mono (l6.trans l7) pd5, e5, eds⟩
  · rw [List.drop_eq_nil_of_le (by omega), compL2] at e5
    split at e5
    · rename_i ok
      have e6 : (([] : List D), Hd5) = (rest, H2) := Option.some.inj e5
      obtain ⟨rfl, rfl⟩ := Prod.mk.inj e6
      refine .inl ⟨itr.stop i H5 ι5 _ l5 h5 ok (by omega), ?_⟩
      have w5 : Lw K H5 ι5 H5 (ι5 ++ [p]) := ⟨fun _ _ z => z, fun _ _ z => z, ⟨[p], rfl⟩, fun _ _ _ z => z⟩
      have L := l0.trans l5
      simp at eds
      subst eds
      refine q _ H5 (ι5 ++ [p]) ⟨L.toLw.trans w5, fun a o ha na => ?_⟩ (h5.add np5 ⟨ys, hpl, Prd.monoW w5 pd5⟩) (rep_ref.mpr ⟨p, rfl, by rw [← h5.len]; simp⟩)
      obtain ⟨q1, q2⟩ := L.frame a o ha na
      refine ⟨q1, ?_⟩
      have : a ≠ p := fun z => by
        subst z
        have := (l0.frame a o ha na).1
        rw [hp] at this; cases this
      simp [q2, this]
    · cases e5
theorem pef_lc2 {elt iter : Expr} {px py pt pos : Pos} {kt : Nat} {ifs : List Expr} {it : ItF} {tt : TF} {te : EF} (hc : X.calm = true) (B : BlkOk2 X scope x y0 cn ci) (hi : PIf X (.Tuple [.Name x px, .Name y0 py] kt pt) iter it)
    (ht : ∀ cl C s H fp pn, PTsf (blk X scope (x :: y0 :: cn) cl C s H fp pn) ifs tt) (he : ∀ cl C s H fp pn, PEf (blk X scope (x :: y0 :: cn) cl C s H fp pn) elt te)
    (hs : ∀ x, foldedSetIterable iter X.env x = pure x := by rintro _; rfl) : PEf X (.ListComp elt [⟨.Tuple [.Name x px, .Name y0 py] kt pt, iter, ifs, 0⟩] scope pos) (eLC2 it ci tt te) :=
  PEi (pe_lc2 (tt := rdT X.K tt) (te := rdE X.K te) hc B hi ht he hs) fun _ _ _ h => rd_lc2 h
end
end DL
namespace DL
open PySem PySem.Spec PyProof.Rows L2
section
variable {K : PySem.W.Frag} {H : Hp} {ι : List Addr}
end
section
variable {X : Cx} {pins : List (Addr × Obj)} {σ : L2.St} {H : Hp} {s : Shared} {ι : List Addr}
end
section
variable {X : Cx}
theorem bb_dict : bootBuiltins "dict" = some (.type "dict") := by decide +kernel
end
end DL
namespace DL
open PySem PySem.Spec PyProof.Rows L2
section
variable {X : Cx}
end
end DL
namespace DL
open PySem PySem.Spec PyProof.Rows L2
section
variable {X : Cx}
noncomputable def CBig (i j : Int) : Prop := i.natAbs < 2 ^ 1000 ∧ j.natAbs < 2 ^ 1000
instance (i j : Int) : Decidable (CBig i j) := by unfold CBig; exact inferInstance
theorem bits_big {i : Int} (h : i.natAbs < 2 ^ 1000) : Builtin.Int.intBits i ≤ 2 ^ 20 := by
  unfold Builtin.Int.intBits
  split
  · exact Nat.zero_le _
  · rename_i h0
    have h1 : i.natAbs ≠ 0 := by intro z; apply h0; simp; omega
    have : i.natAbs.log2 < 1000 := (Nat.log2_lt h1).mpr h
    have e : (2 : Nat) ^ 20 = 1048576 := by decide
    omega
theorem op_mulB : OpR X (binaryOp .Mult) (rI CBig fun i j => .int (i * j)) := opI fun _ _ _ _ _ _ _ hc q => mul_int q (IntMulOk.of_bits (bits_big hc.1) (bits_big hc.2))
noncomputable def mulBD : F2 := iiD CBig fun i j => .int (i * j)
theorem opf_mulB : OpF X (binaryOp .Mult) mulBD := opf_ii op_mulB
theorem isKey_keep {P : Program} {w : World} {h h' : Heap} {k : List Int} {b : Addr} (x : (tupleKind (numKind P w)).is h k b) (kp : ∀ o, h.get? b = some o → h'.get? b = some o) : (tupleKind (numKind P w)).is h' k b := by
  obtain ⟨o, its, n, h1, r⟩ := x
  exact ⟨o, its, n, kp o h1, r⟩
theorem isKey_lt {P : Program} {w : World} {h : Heap} {k : List Int} {b : Addr} (x : (tupleKind (numKind P w)).is h k b) : b < h.objs.size := by
  obtain ⟨o, its, n, h1, r⟩ := x
  exact Heap.lt_size h1
end
end DL
namespace DL
open PySem PySem.Spec PyProof.Rows L2 PySem.W
section
variable {prog : Program} {w : World} {A : Around} {E : Value → Shared → Prop} {s : Shared}
noncomputable def EntAt (d : Addr) (es : Array DictEntry) (ep : Nat) (h : Heap) : Prop := ∃ o, h.get? d = some o ∧ o.cls = .type "dict" ∧ o.data = .dict es ep
theorem EntAt.at {d : Addr} {es : Array DictEntry} {ep : Nat} {h h' : Heap} (x : EntAt d es ep h) (k : ∀ o, h.get? d = some o → h'.get? d = some o) : EntAt d es ep h' := let ⟨o, e, r⟩ := x; ⟨o, k o e, r⟩
end
section
variable {X : Cx}
end
end DL
namespace DL
open PySem PySem.Spec PyProof.Rows L2
section
variable {X : Cx}
noncomputable def smallB (i j c : Int) : Prop := -(2 ^ 60) ≤ i ∧ i < 2 ^ 60 ∧ -(2 ^ 60) ≤ j ∧ j < 2 ^ 60 ∧ c = -1
instance (i j c : Int) : Decidable (smallB i j c) := by unfold smallB; exact inferInstance
end
end DL
namespace L2
open PySem PySem.Spec PyProof.Rows
theorem ObjOk.here {P : Program} {w : World} {H : Hp} {h : Heap} {a : Addr} {o : HO} (x : ObjOk P w H h a o) : ∃ ob, h.get? a = some ob := by
  cases o with
  | lst xs => obtain ⟨_, its, n, _, e⟩ := x; exact ⟨_, e⟩
  | tup xs => obtain ⟨_, its, _, ob, e, _⟩ := x; exact ⟨_, e⟩
  | dK kvs => obtain ⟨_, _, vs, _, ob, es, ep, e, _⟩ := x; exact ⟨_, e⟩
  | dT kvs => obtain ⟨_, _, xs, _, ob, es, ep, e, _⟩ := x; exact ⟨_, e⟩
  | set S n => obtain ⟨ob, es, ep, t, e, _⟩ := x; exact ⟨_, e⟩
  | ins C dx fs => obtain ⟨_, _, _, e, _⟩ := x; exact ⟨_, e⟩
  | own y => obtain ⟨ob, e⟩ := x; exact ⟨_, e⟩
  | xd fs => obtain ⟨mA, ⟨od, es, ep, e, _⟩, _⟩ := x; exact ⟨_, e⟩
  | rng lo hi => obtain ⟨t, u, v, e⟩ := x; exact ⟨_, e⟩
  | frz ob u => obtain ⟨e, _⟩ := x; exact ⟨_, e⟩
  | tbl ps => exact ⟨_, x⟩
  | met f y => exact ⟨_, x⟩
  | ext φ => obtain ⟨_, e, _⟩ := x; exact e
end L2
namespace DL
open PySem PySem.Spec PyProof.Rows L2 PySem.W
structure Fly (l : List Env) (H H1 : Hp) (h0 h1 : Heap) (a : Addr) (C : Value) : Prop where
  new : h0.get? a = none
  fly : ∃ (B : Heap) (a0 : Value), Heap.FlyingW B l a C a0 h1 ∧ (∀ b o, h0.get? b = some o → b ∉ frs l → ∃ o', B.get? b = some o' ∧ (H b = none → o' = o)) ∧ ∀ b ho, H1 b = some ho → ∃ o, h1.get? b = some o ∧ B.get? b = some o
noncomputable def CXe (P : Program) (w : World) : CXT := fun outer H s E e s' => ∃ (a : Addr) (C : Value) (H1 : Hp), e = .ref a ∧ E C none H1 ∧ s'.os = s.os ∧ AllBare s'.gens ∧ Un (frs outer) [] H H1 s.heap s'.heap ∧ HOk P w H1 s'.heap ∧ Fly outer H H1 s.heap s'.heap a C
structure ExcT (K : PySem.W.Frag) (mg : Str → Option Value) (x : Str) (C : Addr) : Prop where
  bound : mg x = some (.ref C)
  kp : PySem.W.keepIn K (.ref C) = true
  inK : ∃ (bm : List Value) (B newId initId : String), PySem.W.excIn K C bm newId = true ∧ ExcBaseFacts B newId initId bm
section
variable {P : Program} {w : World} {K : PySem.W.Frag} {mg : Str → Option Value} {base : Heap} {N : List Str} {qual : Str} {scope : Scope} {f : Addr} {cd : Value} {A : Around} {outer : List Env} {s s1 : Shared} {H H1 : Hp} {E : XK} {pins : List (Addr × Obj)} {σ : L2.St}
end
end DL
namespace DL
open PySem PySem.Spec PyProof.Rows L2 PySem.W
noncomputable abbrev XFF := List D → HD → Option HD
section
variable {X : Cx} {C : Addr} {st : Stmt} {sts : List Stmt} {e c : Expr} {pos np cpos : Pos} {x : Str}
noncomputable def spX (K : PySem.W.Frag) (C : Addr) (n : Nat) (F : XFF) : Sp := fun vs H _ E => ∃ ι ds Hd Hd', ds.length = n ∧ HRep K H ι Hd ∧ Paired (Rep K H ι) ds vs ∧ F ds Hd = some Hd' ∧ ∀ H1 ι', Le K H ι H1 ι' → HRep K H1 ι' Hd' → E (.ref C) none H1
end
section
variable {X : Cx} {C f : Addr} {k n : Nat} {fd : FuncData} {ps : List Str} {XF : XFF} {fa : AF} {x : Str} {a : Expr} {as : List Expr} {sts : List Stmt} {p cp ep : Pos}
end
section
variable {P : Program} {w : World} {K : PySem.W.Frag} {mg : Str → Option Value} {base : Heap}
end
end DL
namespace L2
open PySem PySem.Spec PyProof.Rows
end L2
namespace DL
open PySem PySem.Spec PyProof.Rows L2 PySem.W
end DL
namespace DL
open PySem PySem.Spec PyProof.Rows L2 PySem.W
structure ExcL (K : PySem.W.Frag) (C : Addr) : Prop where
  ga : findIn K (.ref C) "__getattribute__" = some (some (.builtin "BaseException.__getattribute__"))
  gr : findIn K (.ref C) "__getattr__" = some none
  cl : findIn K (.ref C) "__class__" = some (some (.builtin "object.__class__"))
  gt : specialIn K (.builtin "object.__class__") "__get__" = some (some (.builtin "getset_descriptor.__get__"))
  tk : takesIn K (.builtin "object.__class__") = some true
  mr : mroIn K C (.type "object") = some true
  sb : subIn K (.ref C) (.type "BaseException") = some true
  cs : (clsIn K C).isSome = true
section
variable {prog : Program} {w : World} {A : Around} {E : Value → Shared → Prop} {s : Shared} {K : PySem.W.Frag} {x C : Addr} {ox : Obj}
structure ExcO (h : Heap) (x : Addr) (ox : Obj) (C : Addr) : Prop where
  at_ : h.get? x = some ox
  cls : ox.cls = .ref C
theorem ExcO.type {M : Model} {h : Heap} (I : ExcO h x ox C) : Looks M h (typeOf (.ref x)) (.ref C) := by rw [← I.cls]; exact (Looks.ld I.at_).andThen .now
end
end DL
namespace DL
open PySem PySem.Spec PyProof.Rows L2 PySem.W
section
variable {X : Cx}
end
end DL
namespace DL
open PySem PySem.Spec PyProof.Rows L2 PySem.W
section
variable {X : Cx}
end
structure FnX (P : Program) (w : World) (K : PySem.W.Frag) (mg : Str → Option Value) (base : Heap) (k : Nat) (x : Str) (ps : List Str) (xn : Str) (F : XFF) : Prop where
  ex : ∃ f fd, (∀ C, ExcT K mg xn C → FnOk P w K mg base (CXe P w) k f fd ps (spX K C ps.length F)) ∧ Binds K fd ps [] ∧ PySem.W.keepIn K (.ref f) = true ∧ mg x = some (.ref f)
structure Refu (K : PySem.W.Frag) (mg : Str → Option Value) (xn xc : Str) (C : Addr) (cV : Value) (cs : List Addr) : Prop where
  exc : ExcT K mg xn C
  look : ExcL K C
  cls : mg xc = some cV
  one : exmOne K (.ref C) cV = some true
  any : kitAny K (.ref C) (cs.map .ref) = some false
  val : kitOne K (.ref C) (.type "ValueError") = some true
section
variable {X : Cx}
end
end DL
namespace DL
open PySem PySem.Spec PyProof.Rows L2
section
variable {X : Cx}
noncomputable def CNn (_ j : Int) : Prop := 0 ≤ j
instance (i j : Int) : Decidable (CNn i j) := by unfold CNn; exact inferInstance
end
end DL
namespace DL
open PySem PySem.Spec PyProof.Rows L2
section
variable {X : Cx}
end
end DL
namespace DL
open PySem PySem.Spec PyProof.Rows L2
section
variable {X : Cx}
end
end DL
namespace DL
open PySem PySem.Spec PyProof.Rows L2
noncomputable def Its (x : Str) : It := ⟨fun i _ => i < x.cps.size, fun i H v H' => H' = H ∧ ∃ c, x.cps[i]? = some c ∧ v = .str ⟨#[c]⟩, fun i _ => x.cps.size ≤ i⟩
theorem turn_str {P : Program} {w : World} {K : PySem.W.Frag} {tg : Expr} (it : Addr) (x : Str) (t : Tok) : Turn P w K tg (Its x) [it] it (fun i h => h.IsStrIter it "str_ascii_iterator" x t i) where
  mem := by simp
  obj := fun i h st b hb => by
    have e : b = it := by simpa using hb
    subst e
    obtain ⟨o, e, c, d⟩ := st
    exact ⟨o, e, fun v z => by rw [d] at z; cases z⟩
  keep := fun i h h' st k => by
    obtain ⟨o, e, r⟩ := st
    exact ⟨o, k it (by simp) o e, r⟩
  item := by
    intro X hP hw hK hc i pins s σ H E I hf st hg
    subst hP hw hK
    have hi : i < x.cps.size := hg
    obtain ⟨f0, f1, f2, f3, f4, f5⟩ := hf it (by simp)
    refine wpAny_pyNext_ascii_item st (c := x.cps[i]) (by simp [hi]) fun h' st' sb => ?_
    have I1 : Inv X pins σ H { s with heap := h', toks := s.toks + 1 } := I.turned (t' := s.toks + 1) (fun b o hb e => (sb.2 b hb).trans e) f0 f1 f3 f4 f5
    obtain ⟨o, e, c, d⟩ := id st'
    exact ⟨_, rfl, go_of (s := { s with heap := h', toks := s.toks + 1 }) e c d (by decide) ⟨.str ⟨#[x.cps[i]]⟩, H, I1, ⟨_, rfl⟩, ⟨rfl, _, by simp [hi], rfl⟩, st', fun b hb => (hf b hb).1⟩⟩
  done := by
    intro X hP hw hK hc i pins s σ H E I hf st hg
    subst hP hw hK
    have hi : x.cps.size ≤ i := hg
    obtain ⟨f0, f1, f2, f3, f4, f5⟩ := hf it (by simp)
    exact wpAny_pyNext_ascii_end (I.ok.hd hc) st (by simp [hi]) fun h' eb => ⟨rfl, I.turned (t' := s.toks) (fun b o hb e => eb b o hb e) f0 f1 f3 f4 f5⟩
  self := fun _ _ _ _ _ st h => wpAny_pyIter_striter_ascii st h
noncomputable def signs (x : Str) : List D := x.cps.toList.map fun c => .str ⟨#[c]⟩
theorem it_signs {K : PySem.W.Frag} {H0 : Hp} {ι0 : List Addr} (x : Str) : ItRep K (Its x) (signs x) [] H0 ι0 := by
  refine ⟨fun i H2 ι2 Hd2 l2 h2 _ hi => (show i < x.cps.size by simpa [signs] using hi), fun i H2 ι2 Hd2 d v H3 l2 h2 _ hd y => ?_, fun i H2 ι2 Hd2 l2 h2 _ hi => (show x.cps.size ≤ i by simpa [signs] using hi)⟩
  obtain ⟨rfl, c, hc, rfl⟩ := y
  unfold signs at hd
  rw [List.getElem?_map, Array.getElem?_toList, hc] at hd
  cases hd
  exact ⟨ι2, Le.refl, h2, by simp⟩
section
variable {X : Cx} {tg : Expr}
noncomputable def iTxt (f : EF) : ItF := fun σ H => (f σ H).bind fun p => match p.1 with
  | .str x => if x.cps.all (· < 128) = true then some ((signs x, []), p.2) else none
  | _ => none
noncomputable def tiTxt (tl : TE) : TI := fun σ H R => tl σ H fun v H1 => ∃ x : Str, v = .str x ∧ x.cps.all (· < 128) = true ∧ R (Its x) H1
theorem pi_txt {l : Expr} {tl : TE} (hl : PE X l tl) : PI X tg l (tiTxt tl) := by
  intro pins s σ H R I h
  refine thn (hl pins s σ H _ I h) fun v s1 zz => ?_
  obtain ⟨y, H1, I1, r1, q1⟩ := zz
  obtain ⟨x, rfl, ha, q⟩ := q1
  obtain ⟨t, rfl⟩ := r1
  refine wpAny_pyIter_ascii ha ?_
  refine ⟨s1.heap.objs.size, [s1.heap.objs.size], _, _, H1, rfl, I1.kept (t' := s1.toks) fun b o e => Heap.get?_push_of_some _ e, turn_str _ x t, ⟨_, Heap.get?_push_size _ rfl, rfl, rfl⟩, fun b hb => ?_, q⟩
  have e : b = s1.heap.objs.size := by simpa using hb
  subst e
  exact I1.fpOk (Nat.le_refl _) (I1.hok.fresh (Nat.le_refl _))
theorem pif_txt {e : Expr} {f : EF} (he : PEf X e f) : PIf X tg e (iTxt f) := by
  refine PIi (pi_txt he) fun σ H R zz => ?_
  obtain ⟨ι, σd, Hd, xs, own, Hd', s, hr, e, q⟩ := zz
  obtain ⟨⟨d, H1⟩, e1, e⟩ := Option.bind_eq_some_iff.mp e
  dsimp only at e
  split at e
  · rename_i x
    split at e
    · rename_i ha
      cases e
      refine ⟨ι, σd, Hd, _, _, s, hr, e1, fun v H' ι' l h r => ?_⟩
      have r : v = .str x := by simpa using r
      subst r
      exact ⟨x, rfl, ha, q _ H' ι' l h (it_signs x)⟩
    · cases e
  · cases e
end
end DL
namespace DL
open PySem PySem.Spec PyProof.Rows L2
noncomputable def extendD (x : D) (ds : List D) (H : HD) : Option (D × HD) := match x, ds with
  | .ref n, [.ref m] => match H[n]?, H[m]? with
    | some (.lst xs), some (.lst ys) => if xs.length + ys.length ≤ sizeLine then some (.non, H.set n (.lst (xs ++ ys))) else none
    | _, _ => none
  | _, _ => none
section
variable {X : Cx}
theorem mtf_extend : MtF X "list.extend" extendD := by
  rintro pins s σ H x xs v us Q I rx rv ⟨ι, dx, ds, Hd, d, Hd', hr, r1, P, e, q⟩
  unfold extendD at e
  split at e
  · rename_i n m
    obtain ⟨a, rfl, ha⟩ := rep_ref.mp r1
    obtain ⟨z, rfl, rz⟩ := prd1 P
    obtain ⟨b, rfl, hb⟩ := rep_ref.mp rz
    split at e
    · rename_i ys zs e1 e2
      split at e
      · rename_i hl
        cases e
        obtain ⟨vs, h1, P1⟩ := hr.obj n a _ ha e1
        obtain ⟨ws, h2, P2⟩ := hr.obj m b _ hb e2
        refine mt_extend pins s σ H _ _ v us Q I rx rv ⟨a, b, vs, ws, rfl, rfl, h1, h2, by rw [← Prd.len P1, ← Prd.len P2]; exact hl, ?_⟩
        have L : Le X.K H ι (upd H a (.lst (vs ++ ws))) ι := Le.upd (List.mem_of_getElem? ha) h1 trivial _
        exact q _ _ ι L (hr.upd ha h1 trivial ⟨_, upd_same, Prd.append (Prd.mono L P1) (Prd.mono L P2)⟩) (by simp)
      · cases e
    · cases e
  · cases e
end
end DL
namespace DL
open PySem PySem.Spec PyProof.Rows L2
section
variable {P P2 : Program} {w w2 : World}
theorem items_any {ks : List Int} {vs : List Value} (h : ItemsAre (numKind P w) ks vs) : ItemsAre (numKind P2 w2) ks vs := by
  induction h with
  | nil => exact .nil
  | cons a b ih => exact .cons a ih
theorem tkey_any {h : Heap} {ks : List Int} {a : Addr} (x : (tupleKind (numKind P w)).is h ks a) : (tupleKind (numKind P2 w2)).is h ks a := by
  obtain ⟨o, its, n, e1, e2, e3, e4⟩ := x
  exact ⟨o, its, n, e1, e2, e3, items_any e4⟩
noncomputable def IsPK (P : Program) (w : World) (h : Heap) (k : Int × List Int) (a : Addr) : Prop := ∃ o v b n, h.get? a = some o ∧ o.cls = .type "tuple" ∧ o.data = .seq #[v, .ref b] n ∧ numIs k.1 v = true ∧ (tupleKind (numKind P w)).is h k.2 b
theorem IsPK.typeIs {s : Shared} {k : Int × List Int} {a : Addr} (x : IsPK P w s.heap k a) : s.TypeIs (.ref a) "tuple" := by
  obtain ⟨o, v, b, n, e1, e2, _⟩ := x
  exact ⟨o, e1, e2⟩
theorem IsPK.inj {h : Heap} {a : Addr} {x y : Int × List Int} (hx : IsPK P w h x a) (hy : IsPK P w h y a) : x = y := by
  obtain ⟨o, v, b, n, e1, _, e3, e4, e5⟩ := hx
  obtain ⟨o', v', b', n', f1, _, f3, f4, f5⟩ := hy
  rw [e1] at f1
  cases f1
  rw [e3] at f3
  injection f3 with g1 _
  have g2 := congrArg Array.toList g1
  simp at g2
  obtain ⟨rfl, rfl⟩ := g2
  exact Prod.ext ((numKind P w).inj _ _ _ e4 f4) ((tupleKind (numKind P w)).inj e5 f5)
theorem IsPK.keeps {h h' : Heap} {k : Int × List Int} {a d : Addr} {o : Obj} {es ep} (x : IsPK P w h k a) (ho : h.get? d = some o) (hd : o.data = .dict es ep) (hs : Heap.SameBut d h h') : IsPK P w h' k a := by
  obtain ⟨o', v, b, n, e1, e2, e3, e4, e5⟩ := x
  have hne : a ≠ d := fun z => by
    subst z
    rw [e1] at ho
    cases ho
    rw [hd] at e3
    cases e3
  exact ⟨o', v, b, n, (hs.2 a hne).trans e1, e2, e3, e4, (tupleKind (numKind P w)).keeps e5 ho hd hs⟩
variable {A : Around} {E : Value → Shared → Prop} {s : Shared}
theorem pk_hash {k : Int × List Int} {a : Addr} {Q : Int → Shared → Prop} (hu : A.units + 1 < cLine) (x : IsPK P w s.heap k a) (q : Q (nHash k) { s with toks := s.toks + (k.2.length + 3) }) : wpAny (model P w) A (pyHash (.ref a)) Q E s := by
  have hT := x.typeIs
  obtain ⟨o, v, b, n, e1, e2, e3, e4, e5⟩ := x
  refine PySem.W.pyHash_slot hT F.slot_tuple_hash F.entry_tuple_hash (F.args_tuple_hash_1 _) (beq_builtin_none _) (.inr (Nat.lt_of_succ_lt hu)) ?_
  show wpAny _ _ (Builtin.Tuple.tupleItemsOf (.ref a) >>= _) _ _ s
  refine wpAny_bind (wpAny_tupleItemsOf e1 e3 (wpAny_bind ?_))
  rw [← Array.forIn_toList]
  simp only [List.forIn_cons, List.forIn_nil]
  refine wpAny_bind (wpAny_bind ((numKind P w).pyHash e4 (wpAny_bind (wpAny_pure (wpAny_pure ?_)))))
  refine wpAny_bind (wpAny_bind ((tupleKind (numKind P w)).pyHash (show A.in1.units < cLine by simpa using hu) e5 (wpAny_pure ?_)))
  refine wpAny_pure ?_
  show wpAny _ _ (retInt (Builtin.Tuple.tupleHashOf _)) _ _ _
  refine wpAny_bind (wpAny_mkInt (wpAny_pure ⟨_, _, rfl, ?_⟩))
  have : s.toks + 1 + (k.2.length + 1) + 1 = s.toks + (k.2.length + 3) := by omega
  have q2 : Q (nHash k) { s with toks := s.toks + 1 + (k.2.length + 1) + 1 } := by rw [this]; exact q
  exact q2
theorem num_eqAt {A : Around} {s : Shared} {i j : Int} {u v : Value} (hu : numIs i u = true) (hv : numIs j v = true) : SeqAt.EqAt A s u v (decide (i = j)) := fun P w E Q h => (numKind P w).eqBool (a := i) (b := j) hu hv h
theorem tup_eqAt {A : Around} {s : Shared} {i j : List Int} {u v : Addr} (hr : A.units < cLine) (hu : (tupleKind (numKind P w)).is s.heap i u) (hv : (tupleKind (numKind P w)).is s.heap j v) : SeqAt.EqAt A s (.ref u) (.ref v) (decide (i = j)) := fun P2 w2 E Q h => (tupleKind (numKind P2 w2)).eqBool hr (tkey_any hu) (tkey_any hv) h
theorem pk_eq {x y : Int × List Int} {a b : Addr} {Q : Bool → Shared → Prop} (hu : A.units + 1 < cLine) (hx : IsPK P w s.heap x a) (hy : IsPK P w s.heap y b) (q : Q (decide (x = y)) s) : wpAny (model P w) A (eqBool (.ref a) (.ref b)) Q E s := by
  by_cases hab : a = b
  · subst hab
    obtain rfl := hx.inj hy
    exact SeqAt.EqAt.same (A := A) (s := s) (.ref a) P w E Q (by simpa using q)
  · obtain ⟨o, v, c, n, e1, e2, e3, e4, e5⟩ := hx
    obtain ⟨o', v', c', n', f1, f2, f3, f4, f5⟩ := hy
    have R := SeqAt.RcAt.tuples (A := A) (s := s) (l := a) (b := b) (items := #[v, .ref c]) (items2 := #[v', .ref c']) (e := fun j => if j = 0 then decide (x.1 = y.1) else decide (x.2 = y.2)) ⟨o, e1, e2, n, e3⟩ ⟨o', f1, f2, n', f3⟩ (Nat.lt_of_succ_lt hu) fun j h1 h2 => by
      match j, h1 with
      | 0, _ => exact num_eqAt e4 f4
      | 1, _ => exact tup_eqAt (show A.in1.units < cLine by simpa using hu) e5 f5
    refine SeqAt.EqAt.of_refs hab R P w E Q ?_
    have : ((List.range (min (#[v, Value.ref c]).size (#[v', Value.ref c']).size)).all (fun j => if j = 0 then decide (x.1 = y.1) else decide (x.2 = y.2)) && (#[v, Value.ref c]).size == (#[v', Value.ref c']).size) = decide (x = y) := by
      obtain ⟨x1, x2⟩ := x
      obtain ⟨y1, y2⟩ := y
      simp [List.range, List.range.loop]
    rw [this]
    exact q
theorem tup_quiet (m : Nat) {ks : List Int} {a : Addr} {Q : Bool → Shared → Prop} (x : (tupleKind (numKind P w)).is s.heap ks a) (q : Q true s) : wpAny (model P w) A (eqIsQuiet (m + 1) (.ref a)) Q E s := by
  have hT : s.TypeIs (.ref a) "tuple" := IsTupleKey.typeIs (knd := numKind P w) x
  obtain ⟨o, its, n, e1, e2, e3, e4⟩ := x
  unfold eqIsQuiet
  refine wpAny_bind (wpAny_specialOf hT F.slot_tuple_eq.lookup ?_)
  refine wpAny_bind (wpAny_isInstance hT isSubtype_tuple_tuple ?_)
  simp only [Bool.not_true, Bool.false_eq_true, if_false]
  refine wpAny_bind (wpAny_seqItems e1 e3 (wpAny_bind ?_))
  show wpAny _ _ (forIn its _ _) _ _ s
  rw [← Array.forIn_toList]
  have all := e4.byValue
  clear e3 e4
  generalize its.toList = l at all
  induction l with
  | nil => exact wpAny_pure (wpAny_pure q)
  | cons v r ih =>
    rw [List.forIn_cons, eqIsQuiet_byValue _ (all v List.mem_cons_self)]
    refine wpAny_bind (wpAny_bind (wpAny_pure ?_))
    simp only [Bool.not_true, Bool.false_eq_true, if_false]
    exact wpAny_pure (ih fun z hz => all z (List.mem_cons_of_mem _ hz))
theorem pk_quiet {k : Int × List Int} {a : Addr} {Q : Bool → Shared → Prop} (x : IsPK P w s.heap k a) (q : Q true s) : wpAny (model P w) A (eqIsQuiet 8 (.ref a)) Q E s := by
  have hT := x.typeIs
  obtain ⟨o, v, b, n, e1, e2, e3, e4, e5⟩ := x
  unfold eqIsQuiet
  refine wpAny_bind (wpAny_specialOf hT F.slot_tuple_eq.lookup ?_)
  refine wpAny_bind (wpAny_isInstance hT isSubtype_tuple_tuple ?_)
  simp only [Bool.not_true, Bool.false_eq_true, if_false]
  refine wpAny_bind (wpAny_seqItems e1 e3 (wpAny_bind ?_))
  show wpAny _ _ (forIn (#[v, Value.ref b]) _ _) _ _ s
  rw [← Array.forIn_toList]
  simp only [List.forIn_cons, List.forIn_nil]
  rw [eqIsQuiet_byValue _ ((numKind P w).byValue _ _ e4)]
  refine wpAny_bind (wpAny_bind (wpAny_pure ?_))
  simp only [Bool.not_true, Bool.false_eq_true, if_false]
  refine wpAny_pure ?_
  refine wpAny_bind (wpAny_bind (tup_quiet 6 e5 ?_))
  simp only [Bool.not_true, Bool.false_eq_true, if_false]
  exact wpAny_pure (wpAny_pure (wpAny_pure q))
end
noncomputable def pairKind (P : Program) (w : World) : HeapKind P w (Int × List Int) where
  is := IsPK P w
  hash := nHash
  draws := fun k => k.2.length + 3
  room := fun A => A.units + 1 < cLine
  inj := fun hx hy => hx.inj hy
  keeps := fun x ho hd hs => x.keeps ho hd hs
  pyHash := fun hu hk h => pk_hash hu hk h
  eqBool := fun hu hx hy h => pk_eq hu hx hy h
  quiet := fun hk h => pk_quiet hk h
end DL
namespace DL
open PySem PySem.Spec PyProof.Rows L2
noncomputable abbrev PK := Int × List Int
noncomputable def nlook (kvs : List (D × D)) (k : PK) : Option D := (kvs.find? fun p => nk2 p.1 == some k).map (·.2)
noncomputable def nput (kvs : List (D × D)) (kd : D) (k : PK) (vd : D) : List (D × D) :=
  if (nlook kvs k).isSome then kvs.map (fun p => if nk2 p.1 = some k then (p.1, vd) else p) else kvs ++ [(kd, vd)]
noncomputable def pkv2 : List D → Option (List (D × PK × D))
  | [] => some []
  | .tup [k, v] :: r => (nk2 k).bind fun q => (pkv2 r).map fun t => (k, q, v) :: t
  | _ :: _ => none
noncomputable def nmake (ps : List (D × PK × D)) : List (D × D) := ps.foldl (fun acc p => nput acc p.1 p.2.1 p.2.2) []
noncomputable def dictND : FF := fun ds H => match ds with
  | [.ref n] => match H[n]? with
    | some (.lst xs) => (pkv2 xs).bind fun ps => if ps.length < sizeLine then some (.ref H.length, H ++ [.dcn (nmake ps)]) else none
    | _ => none
  | _ => none
noncomputable def dcnD (x : D) (H : HD) : Option (List (D × D)) := match x with
  | .ref n => match H[n]? with
    | some (.dcn kvs) => some kvs
    | _ => none
  | _ => none
noncomputable def ngetD : F2 := fun x y H => (dcnD x H).bind fun kvs => (nk2 y).bind fun k => (nlook kvs k).map fun v => (v, H)
theorem dcnD_some {x : D} {Hd : HD} {kvs : List (D × D)} (e : dcnD x Hd = some kvs) : ∃ n, x = .ref n ∧ Hd[n]? = some (.dcn kvs) := by
  cases x <;> simp only [dcnD] at e <;> try cases e
  rename_i n
  split at e
  · rename_i h; cases e; exact ⟨n, rfl, h⟩
  · cases e
section
variable {K : PySem.W.Frag} {H : Hp} {ι : List Addr}
theorem nrep_at {kvs : List (D × D)} {xs : List (PK × Addr × Value)} (h : Paired (NRep K H ι) kvs xs) (k : PK) :
    (nlook kvs k = none ∧ atKey xs k = none) ∨ ∃ vd b u v, nlook kvs k = some vd ∧ atKey xs k = some (b, u) ∧ RelV v u ∧ Rep K H ι vd v := by
  unfold nlook atKey
  induction h with
  | nil => exact .inl ⟨rfl, rfl⟩
  | @cons p x ps ys r t ih =>
    obtain ⟨r1, r2, v, r3, r4⟩ := r
    rw [List.find?_cons, List.find?_cons]
    by_cases hk : x.1 = k
    · have e1 : (nk2 p.1 == some k) = true := by rw [r1, hk]; simp
      simp only [e1, hk, decide_true]
      exact .inr ⟨p.2, x.2.1, x.2.2, v, rfl, rfl, r3, r4⟩
    · have e1 : (nk2 p.1 == some k) = false := by rw [r1]; simpa using hk
      simp only [e1, decide_eq_false hk]
      exact ih
theorem nrep_put {kvs : List (D × D)} {xs : List (PK × Addr × Value)} {kd vd : D} {k : PK} {b : Addr} {u : Value} {v : V} (h : Paired (NRep K H ι) kvs xs) (h1 : nk2 kd = some k) (h2 : Rep K H ι kd (.ref b)) (rv : RelV v u) (r : Rep K H ι vd v) :
    Paired (NRep K H ι) (nput kvs kd k vd) (storedH xs k b u) := by
  have all : ∀ {ls : List (D × D)} {ys : List (PK × Addr × Value)}, Paired (NRep K H ι) ls ys → Paired (NRep K H ι) (ls.map (fun p => if nk2 p.1 = some k then (p.1, vd) else p)) (ys.map (putAt k u)) := by
    intro ls ys q
    induction q with
    | nil => exact .nil
    | @cons p x ps zs r' t ih =>
      obtain ⟨r1, r2, r3⟩ := r'
      refine .cons ?_ ih
      unfold putAt
      dsimp only
      by_cases hk : x.1 = k
      · rw [if_pos hk, if_pos (show nk2 p.1 = some k by rw [r1, hk])]
        exact ⟨r1, r2, v, rv, r⟩
      · rw [if_neg hk, if_neg (show ¬ nk2 p.1 = some k by rw [r1]; simpa using hk)]
        exact ⟨r1, r2, r3⟩
  unfold nput storedH
  rcases nrep_at h k with ⟨e1, e2⟩ | ⟨_, _, _, _, e1, e2, _⟩ <;> rw [e1, e2]
  · exact Prd.append h (.cons ⟨h1, h2, v, rv, r⟩ .nil)
  · exact all h
theorem nk2_ref {d : D} {k : PK} {v : V} (e : nk2 d = some k) (r : Rep K H ι d v) : ∃ b, v = .ref b := by
  unfold nk2 at e
  split at e
  · obtain ⟨a, vs, rfl, _⟩ := rep_tup.mp r
    exact ⟨a, rfl⟩
  · cases e
end
section
variable {X : Cx} {pins : List (Addr × Obj)} {σ : L2.St} {H : Hp} {s : Shared} {ι : List Addr}
theorem key2_is (I : Inv X pins σ H s) {d : D} {k : PK} {b : Addr} (e : nk2 d = some k) (r : Rep X.K H ι d (.ref b)) : (pairKind X.prog X.w).is s.heap k b := by
  unfold nk2 at e
  split at e
  · rename_i x y
    obtain ⟨i, e1, e⟩ := Option.bind_eq_some_iff.mp e
    obtain ⟨ks, e2, rfl⟩ := Option.map_eq_some_iff.mp e
    obtain ⟨a, vs, ea, h, P⟩ := rep_tup.mp r
    cases ea
    obtain ⟨v1, v2, rfl, p1, p2⟩ := prd2 P
    obtain ⟨c, rfl⟩ := nk_ref e2 p2
    obtain ⟨its, rv, ht, hz⟩ := I.tuple h
    obtain ⟨o, h1, h2, n, h3⟩ := ht
    cases rv with
    | cons q1 rv =>
      cases rv with
      | cons q2 rv =>
        cases rv
        cases q2
        exact ⟨o, _, c, n, h1, h2, h3, num_of e1 p1 q1, key_is I e2 p2⟩
  · cases e
theorem dcn_of (I : Inv X pins σ H s) {a : Addr} {kvs : List (D × D)} (h : ORep X.K H ι a (.dcn kvs)) : (a == sysModules) = false ∧ ∃ xs, Paired (NRep X.K H ι) kvs xs ∧ s.heap.DictOfH (pairKind X.prog X.w) a xs := by
  obtain ⟨h1, h2, xs, e, p⟩ := h
  obtain ⟨o, es, ep, g1, g2, g3, g4, g5⟩ := (I.hok a _ e).1
  refine ⟨h1, xs, p, o, es, ep, g1, g2, g3, g4, ?_, g5⟩
  clear g4 g5 e
  induction p with
  | nil => intro x hx; exact nomatch hx
  | @cons p x ps qs hq t ih =>
    intro y hy
    rcases List.mem_cons.mp hy with e | hy
    · subst e
      exact key2_is I hq.1 hq.2.1
    · exact ih (by simp at h2; omega) y hy
end
section
variable {X : Cx}
theorem ngetf (hu : X.A.units + 64 < cLine) : IxF X ngetD := by
  rintro va sl pins s σ H x y v u Q I rx ry ⟨ι, dx, dy, Hd, d, Hd', hr, r1, r2, e, q⟩ hs
  obtain ⟨kvs, e1, e⟩ := Option.bind_eq_some_iff.mp e
  obtain ⟨k, e2, e⟩ := Option.bind_eq_some_iff.mp e
  obtain ⟨vd, e3, e⟩ := Option.map_eq_some_iff.mp e
  cases e
  obtain ⟨n, rfl, hn⟩ := dcnD_some e1
  obtain ⟨a, rfl, ha⟩ := rep_ref.mp r1
  obtain ⟨b, rfl⟩ := nk2_ref e2 r2
  cases rx
  cases ry
  obtain ⟨h1, xs, P, dd⟩ := dcn_of I (hr.obj n a _ ha hn)
  have key := key2_is I e2 r2
  rcases nrep_at P k with ⟨z, _⟩ | ⟨vd', b', u', v', z1, z2, z3, z4⟩
  · rw [z] at e3; cases e3
  · rw [z1] at e3; cases e3
    refine tail_any (ops := [.ref a, .ref b]) dd.typeIs PySem.F.slot_dict_getitem.lookup (wpAny_getItem_heap (knd := pairKind X.prog X.w) (show X.A.in1.units + 1 < cLine by simp; omega) key dd z2 ?_) hs
    exact ⟨v', H, I.tok _, z3, q _ H ι Le.refl hr z4⟩
noncomputable def TRep2 (K : PySem.W.Frag) (H : Hp) (ι : List Addr) (p : D × PK × D) (x : PK × Addr × Value) : Prop := p.2.1 = x.1 ∧ nk2 p.1 = some x.1 ∧ Rep K H ι p.1 (.ref x.2.1) ∧ ∃ v, RelV v x.2.2 ∧ Rep K H ι p.2.2 v
noncomputable def sofarN (ps : List (PK × Addr × Value)) (i : Nat) : List (PK × Addr × Value) := (ps.take i).foldl (fun acc p => storedH acc p.1 p.2.1 p.2.2) []
theorem sofarN_succ {ps : List (PK × Addr × Value)} {i : Nat} {p : PK × Addr × Value} (h : ps[i]? = some p) : sofarN ps (i + 1) = storedH (sofarN ps i) p.1 p.2.1 p.2.2 := by
  unfold sofarN
  rw [List.take_add_one, h]
  simp
theorem sofarN_len (ps : List (PK × Addr × Value)) : ∀ i, (sofarN ps i).length ≤ i
  | 0 => by simp [sofarN]
  | i + 1 => by
    have l := sofarN_len ps i
    cases h : ps[i]? with
    | none =>
      have e : sofarN ps (i + 1) = sofarN ps i := by unfold sofarN; rw [List.take_add_one, h]; simp
      rw [e]; omega
    | some p =>
      rw [sofarN_succ h]
      unfold storedH
      split <;> simp <;> omega
theorem storedN_mem {xs : List (PK × Addr × Value)} {k : PK} {b : Addr} {u : Value} {x : PK × Addr × Value} (h : x ∈ storedH xs k b u) : x.2.1 = b ∨ ∃ y ∈ xs, x.2.1 = y.2.1 := by
  unfold storedH at h
  split at h
  · obtain ⟨y, hy, rfl⟩ := List.mem_map.mp h
    exact .inr ⟨y, hy, by unfold putAt; split <;> rfl⟩
  · rcases List.mem_append.mp h with h | h
    · exact .inr ⟨x, h, rfl⟩
    · simp at h; subst h; exact .inl rfl
theorem sofarN_all {K : PySem.W.Frag} {H : Hp} {ι : List Addr} {kvs : List (D × PK × D)} {ps : List (PK × Addr × Value)} (h : Paired (TRep2 K H ι) kvs ps) : Paired (NRep K H ι) (nmake kvs) (sofarN ps ps.length) := by
  unfold nmake sofarN
  rw [List.take_length]
  have gen : ∀ (a : List (D × D)) (b : List (PK × Addr × Value)), Paired (NRep K H ι) a b → Paired (NRep K H ι) (kvs.foldl (fun acc p => nput acc p.1 p.2.1 p.2.2) a) (ps.foldl (fun acc p => storedH acc p.1 p.2.1 p.2.2) b) := by
    induction h with
    | nil => intro a b h; exact h
    | cons p q ih =>
      intro a b h
      obtain ⟨e, e1, r, v, rv, z⟩ := p
      rw [List.foldl_cons, List.foldl_cons, e]
      exact ih _ _ (nrep_put h e1 r rv z)
  exact gen [] [] .nil
theorem pairsN_of {pins : List (Addr × Obj)} {σ : L2.St} {H : Hp} {s : Shared} {ι : List Addr} (I : Inv X pins σ H s) : ∀ {xs : List D} {kvs : List (D × PK × D)} {vs : List V} {us : List Value}, pkv2 xs = some kvs → Paired (Rep X.K H ι) xs vs → Vals vs us → ∃ ps : List (PK × Addr × Value), ps.length = us.length ∧ Paired (TRep2 X.K H ι) kvs ps ∧ ∀ (i : Nat) (v : Value), us[i]? = some v → ∃ t k b u, v = .ref t ∧ IsTup s.heap t #[.ref b, u] ∧ ps[i]? = some (k, b, u) ∧ (pairKind X.prog X.w).is s.heap k b
  | [], kvs, _, _, e, .nil, .nil => by
    cases e
    exact ⟨[], rfl, .nil, fun i v h => by simp at h⟩
  | d :: r, kvs, _, _, e, .cons p P, .cons q W => by
    unfold pkv2 at e
    split at e
    · rename_i h; cases h
    · rename_i kd vd r' he
      obtain ⟨rfl, rfl⟩ := List.cons.inj he
      obtain ⟨k, ek, e⟩ := Option.bind_eq_some_iff.mp e
      obtain ⟨ks, e1, rfl⟩ := Option.map_eq_some_iff.mp e
      obtain ⟨ps, l, P2, hx⟩ := pairsN_of I e1 P W
      obtain ⟨t, ws, rfl, sq, P3⟩ := rep_tup.mp p
      obtain ⟨v1, v2, rfl, p1, p2⟩ := prd2 P3
      obtain ⟨b, rfl⟩ := nk2_ref ek p1
      cases q
      obtain ⟨its, rv, ht, hz⟩ := I.tuple sq
      cases rv with
      | cons q1 rv =>
        cases rv with
        | cons q2 rv =>
          cases rv
          cases q1
          rename_i u
          refine ⟨(k, b, u) :: ps, by simp [l], .cons ⟨rfl, ek, p1, v2, q2, p2⟩ P2, fun i v h => ?_⟩
          cases i with
          | zero => simp at h; subst h; exact ⟨t, k, b, u, rfl, ht, rfl, key2_is I ek p1⟩
          | succ i => simp at h; obtain ⟨a1, a2, a3, a4, h1, h2, h3, h4⟩ := hx i v h; exact ⟨a1, a2, a3, a4, h1, h2, by simpa using h3, h4⟩
    · cases e
noncomputable def PKlt (P : Program) (w : World) (h : Heap) (n : Nat) (k : PK) (b : Addr) : Prop := b < n ∧ ∃ o v c m, h.get? b = some o ∧ o.cls = .type "tuple" ∧ o.data = .seq #[v, .ref c] m ∧ numIs k.1 v = true ∧ (tupleKind (numKind P w)).is h k.2 c ∧ c < n
theorem PKlt.is {P : Program} {w : World} {h : Heap} {n : Nat} {k : PK} {b : Addr} (x : PKlt P w h n k b) : (pairKind P w).is h k b := by
  obtain ⟨_, o, v, c, m, e1, e2, e3, e4, e5, _⟩ := x
  exact ⟨o, v, c, m, e1, e2, e3, e4, e5⟩
theorem PKlt.mv {P : Program} {w : World} {h h' : Heap} {n : Nat} {k : PK} {b : Addr} (x : PKlt P w h n k b) (ex : ∀ b o, b < n → h.get? b = some o → h'.get? b = some o) : PKlt P w h' n k b := by
  obtain ⟨l, o, v, c, m, e1, e2, e3, e4, e5, l2⟩ := x
  exact ⟨l, o, v, c, m, ex _ _ l e1, e2, e3, e4, isKey_keep e5 fun o2 z => ex _ _ l2 z, l2⟩
theorem PKlt.of {P : Program} {w : World} {h : Heap} {k : PK} {b : Addr} (x : (pairKind P w).is h k b) : PKlt P w h h.objs.size k b := by
  obtain ⟨o, v, c, m, e1, e2, e3, e4, e5⟩ := x
  exact ⟨Heap.lt_size e1, o, v, c, m, e1, e2, e3, e4, e5, isKey_lt e5⟩
theorem callf_dictN (hc : X.calm = true) (hu : X.A.units + 64 < cLine) : CallF X (.type "dict") dictND := by
  rintro pins s σ H xs us Q I rv ⟨ι, ds, Hd, d, Hd', hr, P, e, q⟩
  unfold dictND at e
  split at e
  · rename_i n
    split at e
    · rename_i ys eo
      obtain ⟨kvs, e1, e⟩ := Option.bind_eq_some_iff.mp e
      split at e
      · rename_i hlen
        obtain ⟨rfl, rfl⟩ := Prod.mk.inj (Option.some.inj e)
        obtain ⟨v, rfl, r⟩ := prd1 P
        obtain ⟨a, rfl, ha⟩ := rep_ref.mp r
        obtain ⟨vs, h1, P2⟩ := hr.obj n a _ ha eo
        obtain ⟨u, rfl, ru⟩ := rv.one
        cases ru
        obtain ⟨z, its, m, rl, hl, eo2⟩ := I.lstM h1
        obtain ⟨ps, lp, PP, hps⟩ := pairsN_of I e1 P2 rl
        have lk : ps.length = kvs.length := (Prd.len PP).symm
        have hb : sysModules < s.heap.objs.size := Nat.lt_trans (by decide) (show mainGlobals < s.heap.objs.size from (I.mod.glob.keeps I.bk).lt)
        have hp := I.hok.fresh (Nat.le_refl s.heap.objs.size)
        refine call_dictL (Gd := fun i h => (∀ b o, s.heap.get? b = some o → h.get? b = some o) ∧ h.DictOfH (pairKind X.prog X.w) s.heap.objs.size (sofarN ps i) ∧ ∀ x ∈ sofarN ps i, PKlt X.prog X.w h s.heap.objs.size x.1 x.2.1) eo2 rfl rfl rfl (I.ok.hd hc) ?_ ?_ ?_ ?_
        · intro h' k
          refine ⟨fun b o e => k b o (Heap.get?_push_of_some _ e), ?_, fun x hx => by simp [sofarN] at hx⟩
          obtain ⟨o, es, ep, e2, f1, f2, f3, f4, f5⟩ := Heap.DictOfH.new (knd := pairKind X.prog X.w) s.heap
          exact ⟨o, es, ep, k _ _ e2, f1, f2, f3, fun x hx => by simp [sofarN] at hx, f5⟩
        · rintro i h h' ⟨g1, g2, g3⟩ k
          have g3' : ∀ x ∈ sofarN ps i, PKlt X.prog X.w h' s.heap.objs.size x.1 x.2.1 := fun x hx => (g3 x hx).mv fun b o l e => k b o (Nat.lt_succ_of_lt l) e
          refine ⟨fun b o e => k b o (Nat.lt_succ_of_lt (Heap.lt_size e)) (g1 b o e), ?_, g3'⟩
          obtain ⟨o, es, ep, e2, f1, f2, f3, f4, f5⟩ := g2
          exact ⟨o, es, ep, k _ _ (Nat.lt_succ_self _) e2, f1, f2, f3, fun x hx => (g3' x hx).is, f5⟩
        · rintro i v zz hv ⟨g1, g2, g3⟩
          obtain ⟨t, k, b, u, rfl, ht, hp2, hk⟩ := hps i v (by simpa using hv)
          have hi : i < ps.length := (List.getElem?_eq_some_iff.mp hp2).1
          have hk2 : PKlt X.prog X.w zz.heap s.heap.objs.size k b := (PKlt.of hk).mv fun b o _ e => g1 b o e
          refine ⟨t, .ref b, u, rfl, ?_, fun Q E qq => ?_⟩
          · obtain ⟨o, e2, r2⟩ := ht
            exact ⟨o, g1 _ _ e2, r2⟩
          · refine wpAny_dictSet_heap (knd := pairKind X.prog X.w) (k := k) (show X.A.units + 2 + 1 < cLine by omega) hk2.is g2 (fun h' d' sb => ?_) (by have := sofarN_len ps i; omega)
            have up : ∀ b o, b < s.heap.objs.size → zz.heap.get? b = some o → h'.get? b = some o := fun b o l e => sb.extBut b o (Nat.ne_of_lt l) e
            refine qq h' _ ⟨fun b o e => sb.extBut b o (Nat.ne_of_lt (Heap.lt_size e)) (g1 b o e), ?_, ?_⟩ fun b o hb e => sb.extBut b o hb e
            · rw [sofarN_succ hp2]; exact d'
            · rw [sofarN_succ hp2]
              intro x hx
              obtain ⟨o2, es2, ep2, _, _, _, _, f4, _⟩ := d'
              have fx := f4 x hx
              rcases storedN_mem hx with e | ⟨y, hy, e⟩
              · rw [e] at fx ⊢
                have h2 := hk2.mv up
                rw [(pairKind X.prog X.w).inj fx h2.is]
                exact h2
              · rw [e] at fx ⊢
                have h2 := (g3 y hy).mv up
                rw [(pairKind X.prog X.w).inj fx h2.is]
                exact h2
        · rintro h' tk ⟨g1, g2, g3⟩
          have ez : its.toArray.size = ps.length := by simp [lp]
          rw [ez] at g2
          obtain ⟨o, es, ep, e2, f1, f2, f3, f4, f5⟩ := g2
          have d3 : DcnAt s.heap.objs.size (sofarN ps ps.length) h' := ⟨o, es, ep, e2, f1, f2, f3, f5⟩
          have ok : ObjOk X.prog X.w (upd H s.heap.objs.size (.ext (DcnAt s.heap.objs.size (sofarN ps ps.length)))) h' s.heap.objs.size (.ext (DcnAt s.heap.objs.size (sofarN ps ps.length))) := ⟨d3, ⟨o, e2⟩, fun h1 h2 d k => DcnAt.keep d k⟩
          refine ⟨.ref s.heap.objs.size, _, I.laid (a := s.heap.objs.size) (o := .ext (DcnAt s.heap.objs.size (sofarN ps ps.length))) (t' := tk) g1 (Nat.le_refl _) ok, rfl, ?_⟩
          have hl2 : ι.length = Hd.length := hr.len
          have L := Le.fresh1 (K := X.K) (ι := ι) hp (.ext (DcnAt s.heap.objs.size (sofarN ps ps.length)))
          have PA := sofarN_all PP
          refine q _ _ (ι ++ [s.heap.objs.size]) L (hr.new hp ⟨beq_eq_false_iff_ne.mpr (Ne.symm (Nat.ne_of_lt hb)), ?_, _, upd_same, Prd.imp PA fun p x _ z => ⟨z.1, z.2.1.mono L, let ⟨v, z1, z2⟩ := z.2.2; ⟨v, z1, z2.mono L⟩⟩⟩) (rep_ref.mpr ⟨_, rfl, by rw [← hl2]; simp⟩)
          have := sofarN_len ps ps.length
          rw [Prd.len PA]; omega
      · cases e
    · cases e
  · cases e
end
end DL
namespace DL
open PySem PySem.Spec PyProof.Rows L2
open Builtin.SmallTypes (nextOf)
noncomputable def ZipO (h : Heap) (z TI TO a : Addr) (f : Bool) : Prop := h.get? z = some { cls := .type "zip", dict := none, data := .fields #[rawInt a, .bool f, .bool false, .ref TI, .ref TO], slots := #[] }
section
variable {prog : Program} {w : World} {A : Around} {E : Value → Shared → Prop} {s : Shared}
variable {z TI TO i1 i2 l1 l2 : Addr} {k1 k2 : Nat} {xs ys : Array Value} {b1 b2 : Bool}
structure ZS (n : Nat) (z TI TO i1 i2 l1 l2 : Addr) (b1 b2 : Bool) (xs ys : Array Value) (i : Nat) (h : Heap) : Prop where
  ti : IsPair h TI (.ref i1) (.ref i2)
  s1 : SqI b1 h i1 l1 i
  s2 : SqI b2 h i2 l2 i
  q1 : SqX b1 h l1 xs
  q2 : SqX b2 h l2 ys
  zz : (IsZip h z TI TO .none ∧ ∃ u v, IsPair h TO u v) ∨ ∃ a f oa, ZipO h z TI TO a f ∧ h.get? a = some oa ∧ n ≤ a
theorem ZS.mv {n : Nat} {i : Nat} {h h' : Heap} (x : ZS n z TI TO i1 i2 l1 l2 b1 b2 xs ys i h) (k : ∀ c o, (c = z ∨ c = TI ∨ c = TO ∨ c = i1 ∨ c = i2 ∨ c = l1 ∨ c = l2 ∨ n ≤ c) → h.get? c = some o → h'.get? c = some o) : ZS n z TI TO i1 i2 l1 l2 b1 b2 xs ys i h' := by
  obtain ⟨c1, c2, c3, c4, c5, c6⟩ := x
  refine ⟨k _ _ (by simp) c1, c2.mv fun o e => k _ _ (by simp) e, c3.mv fun o e => k _ _ (by simp) e, c4.mv fun o e => k _ _ (by simp) e, c5.mv fun o e => k _ _ (by simp) e, ?_⟩
  rcases c6 with ⟨e, u, v, e2⟩ | ⟨a, f, oa, e, e2, l⟩
  · exact .inl ⟨k _ _ (by simp) e, u, v, k _ _ (by simp) e2⟩
  · exact .inr ⟨a, f, oa, k _ _ (by simp) e, k _ _ (by simp [l]) e2, l⟩
end
end DL
namespace DL
open PySem PySem.Spec PyProof.Rows L2
section
variable {prog : Program} {w : World} {A : Around} {R : Result → Shared → Prop} {d z TI TO i1 i2 l1 l2 : Addr} {n m : Nat} {xs ys : Array Value} {b1 b2 : Bool} {Gd : Nat → Heap → Prop}
end
end DL
namespace DL
open PySem PySem.Spec PyProof.Rows L2
section
variable {X : Cx}
end
end DL
namespace DL
open PySem PySem.Spec PyProof.Rows L2
open PySem.W (KasT kas_rev kas_asc kas_desc kas_tail3 kas_descPart kas_count kas_place kas_bin kas_sort)
noncomputable def krun {α : Type} (c : Nat → Nat → Bool) : KasT α → α
  | .ret a => a
  | .ask i j k => krun c (k (c i j))
noncomputable def KOk {α : Type} (n : Nat) (R : α → Prop) : KasT α → Prop
  | .ret a => R a
  | .ask i j k => i < n ∧ j < n ∧ ∀ b, KOk n R (k b)
theorem KOk.bind {α β : Type} {n : Nat} {R : α → Prop} {S : β → Prop} {f : α → KasT β} : ∀ {t : KasT α}, KOk n R t → (∀ a, R a → KOk n S (f a)) → KOk n S (t.bind f)
  | .ret a, h, g => g a h
  | .ask i j k, h, g => ⟨h.1, h.2.1, fun b => KOk.bind (h.2.2 b) g⟩
theorem KOk.run {α : Type} {n : Nat} {R : α → Prop} {c : Nat → Nat → Bool} : ∀ {t : KasT α}, KOk n R t → R (krun c t)
  | .ret a, h => h
  | .ask i j k, h => KOk.run (t := k (c i j)) (h.2.2 _)
theorem KOk.wp {α : Type} {n : Nat} {R : α → Prop} {c : Nat → Nat → Bool} {s : Shared} {cmp : Nat → Nat → (Bool → Shared → Prop) → Shared → Prop} (hc : ∀ i j C, i < n → j < n → C (c i j) s → cmp i j C s) {G : α → Shared → Prop} : ∀ {t : KasT α}, KOk n R t → G (krun c t) s → t.kasWp cmp G s
  | .ret a, _, g => g
  | .ask i j k, h, g => hc i j _ h.1 h.2.1 (KOk.wp hc (t := k (c i j)) (h.2.2 _) g)
noncomputable def Pm (n : Nat) (p : Array Nat) : Prop := p.toList.Perm (List.range n)
section
variable {n : Nat}
theorem Pm.rev {p : Array Nat} (h : Pm n p) (i j : Nat) : Pm n (kas_rev p i j) := (Array.Perm.toList (mirror_perm p i j _)).trans h
theorem Pm.bub {p : Array Nat} (h : Pm n p) (i j : Nat) : Pm n (bubble p i j) := (Array.Perm.toList (bubble_perm p i j)).trans h
theorem Pm.at {p : Array Nat} (h : Pm n p) (h0 : 0 < n) (i : Nat) : p.getD i 0 < n := by
  unfold Array.getD
  split
  · rename_i hi
    have : p[i] ∈ p.toList := by simp
    exact List.mem_range.mp (h.mem_iff.mp this)
  · exact h0
variable (h0 : 0 < n)
include h0
theorem ok_asc {p : Array Nat} (h : Pm n p) : ∀ (f m : Nat), KOk n (fun _ => True) (kas_asc p f m)
  | 0, m => trivial
  | f + 1, m => ⟨h.at h0 _, h.at h0 _, fun b => by
    cases b with
    | true => exact trivial
    | false => exact ok_asc h f (m + 1)⟩
theorem ok_desc : ∀ (f : Nat) (p : Array Nat) (m q : Nat), Pm n p → KOk n (fun r => Pm n r.1) (kas_desc f p m q)
  | 0, p, m, q, h => h
  | f + 1, p, m, q, h => ⟨h.at h0 _, h.at h0 _, fun b => by
    cases b with
    | true =>
      show KOk n _ (if q > 0 then kas_desc f (kas_rev p (m - (q + 1)) m) (m + 1) 0 else kas_desc f p (m + 1) 0)
      split
      · exact ok_desc f _ _ _ (h.rev _ _)
      · exact ok_desc f _ _ _ h
    | false =>
      exact ⟨h.at h0 _, h.at h0 _, fun b => by
        cases b with
        | true => exact h
        | false => exact ok_desc f _ _ _ h⟩⟩
theorem ok_tail3 {p : Array Nat} (h : Pm n p) (m k : Nat) : KOk n (fun r => Pm n r.2) (kas_tail3 m k p) := (ok_asc h0 (h.rev _ _) _ _).bind fun _ _ => h.rev _ _
theorem ok_descPart {p : Array Nat} (h : Pm n p) (m k : Nat) : KOk n (fun r => Pm n r.2) (kas_descPart m k p) := (ok_desc h0 _ p _ _ h).bind fun r hr => by
  split
  · exact ok_tail3 h0 (hr.rev _ _) _ _
  · exact ok_tail3 h0 hr _ _
theorem ok_count {p : Array Nat} (h : Pm n p) (k : Nat) : KOk n (fun r => Pm n r.2) (kas_count k p) := (ok_asc h0 h _ _).bind fun m _ => by
  split
  · exact h
  · split
    · exact ⟨h.at h0 _, h.at h0 _, fun b => by
        cases b with
        | true => exact h
        | false => exact ok_descPart h0 (h.rev _ _) _ _⟩
    · exact ok_descPart h0 h _ _
theorem ok_place {p : Array Nat} (h : Pm n p) (k : Nat) : ∀ (f l r : Nat), KOk n (fun _ => True) (kas_place p k f l r)
  | 0, l, r => trivial
  | f + 1, l, r => by
    unfold kas_place
    split
    · exact trivial
    · exact ⟨h.at h0 _, h.at h0 _, fun b => by
        cases b with
        | true => exact ok_place h k f _ _
        | false => exact ok_place h k f _ _⟩
theorem ok_bin : ∀ (f : Nat) (p : Array Nat) (k : Nat), Pm n p → KOk n (Pm n) (kas_bin f p k)
  | 0, p, k, h => h
  | f + 1, p, k, h => (ok_place h0 h k _ _ _).bind fun l _ => ok_bin f _ _ (h.bub _ _)
theorem ok_sort : KOk n (Pm n) (kas_sort n) := (ok_count h0 (show Pm n (List.toArray (List.range n)) from List.Perm.refl _) n).bind fun r hr => by
  split
  · exact ok_bin h0 _ _ _ hr
  · exact hr
end
noncomputable def ksorted {α : Type} (c : Nat → Nat → Bool) (d : α) (xs : List α) : List α := if xs.length < 2 then xs else (krun c (kas_sort xs.length)).toList.map fun i => xs.getD i d
theorem ksorted_perm {α : Type} (c : Nat → Nat → Bool) (d : α) (xs : List α) : (ksorted c d xs).Perm xs := by
  unfold ksorted
  split
  · exact List.Perm.refl _
  · have h := KOk.run (c := c) (ok_sort (n := xs.length) (by omega))
    have e : (List.range xs.length).map (fun i => xs.getD i d) = xs := by
      apply List.ext_getElem?
      intro i
      rw [List.getElem?_map]
      by_cases hi : i < xs.length
      · simp [hi]
      · simp [hi]
    have := List.Perm.map (fun i => xs.getD i d) h
    rw [e] at this
    exact this
end DL
namespace DL
open PySem PySem.Spec PyProof.Rows L2
open PySem.W (KatLex KatGo)
section
variable {prog : Program} {w : World} {A : Around} {E : Value → Shared → Prop} {s : Shared}
noncomputable def TupI (h : Heap) (v : Value) (ns : List Int) : Prop := ∃ a items, v = .ref a ∧ IsTup h a items ∧ IntsAre items.toList ns
noncomputable def KindIs (κ : SortKind) : Prop := κ = tuples' true ∨ κ = general' ∨ κ = oneType'
theorem lex_end {ns ms : List Int} (h : ns = [] ∨ ms = []) : HT.lexLt ns ms = decide (ns.length < ms.length) := by
  rcases h with rfl | rfl
  · cases ms <;> simp [HT.lexLt]
  · cases ns <;> simp [HT.lexLt]
theorem lex_lt {fin : Bool} {Q : Bool → Shared → Prop} : ∀ {vs ws : List Value} {ns ms : List Int} (i : Nat), IntsAre vs ns → IntsAre ws ms → fin = decide (ns.length < ms.length) → Q (HT.lexLt ns ms) s → KatLex prog w A true fin Q (vs.zip ws) i s
  | _, _, _, _, i, .nil, hw, hf, q => by
    rw [lex_end (.inl rfl), ← hf] at q
    rw [List.zip_nil_left]
    exact PySem.W.kat_nil q
  | _, _, _, _, i, .cons a t hv, .nil, hf, q => by
    rw [lex_end (.inr rfl), ← hf] at q
    rw [List.zip_nil_right]
    exact PySem.W.kat_nil q
  | _, _, _, _, i, .cons a t hv, .cons c u hw, hf, q => by
    rw [List.zip_cons_cons]
    refine PySem.W.kat_cons ?_
    rw [HT.lexLt_cons] at q
    obtain ⟨e, he, hiff⟩ := HT.eqAt_int A s a t c u
    refine he prog w _ _ ?_
    cases e with
    | true =>
      rw [if_pos (hiff.mp rfl)] at q
      exact PySem.W.kat_yes (lex_lt (i + 1) hv hw (by rw [hf]; simp) q)
    | false =>
      rw [if_neg (fun z => absurd (hiff.mpr z) Bool.false_ne_true)] at q
      refine PySem.W.kat_no ?_
      cases i with
      | zero => exact oneLt_int q
      | succ i => exact PySem.W.kat_one _ _ (lt_int q)
theorem key_lt {κ : SortKind} {x y : Value} {ns ms : List Int} {Q : Bool → Shared → Prop} (hu : A.units + 1 < cLine) (hk : KindIs κ) (hx : TupI s.heap x ns) (hy : TupI s.heap y ms) (q : Q (HT.lexLt ns ms) s) : wpAny (model prog w) A (keyLt' κ x y) Q E s := by
  obtain ⟨a, its, rfl, ha, ia⟩ := hx
  obtain ⟨b, jts, rfl, hb, ib⟩ := hy
  rcases hk with rfl | rfl | rfl
  · obtain ⟨o, e1, _, n, e2⟩ := id ha
    obtain ⟨o', f1, _, n', f2⟩ := id hb
    refine PySem.W.kat_lt e1 e2 f1 f2 (lex_lt 0 ia ib ?_ q)
    rw [← ia.length, ← ib.length]
    simp
  · exact PySem.W.kat_one (.ref a) (.ref b) (HT.lt_tupInts ha hb ia ib (Nat.lt_of_succ_lt hu) q)
  · rw [keyLt'_oneType, oneLt'_eq]
    simp only [if_true]
    obtain ⟨⟨cls, dd, data, sl⟩, e1, ec, n, e2⟩ := id ha
    obtain ⟨⟨cls', dd', data', sl'⟩, f1, fc, n', f2⟩ := id hb
    simp only at ec e2 fc f2
    subst ec e2 fc f2
    refine wpAny_bind (wpAny_cRoomFor_or (.inr (Nat.lt_of_succ_lt hu)) ?_)
    refine wpAny_bind (wpAny_callSpecialIfBound?_slot (name := Str.ofString "__lt__") ha.typeIs PySem.F.slot_tuple_lt (call_meets PySem.F.slot_tuple_lt ha.typeIs PySem.F.entry_tuple_lt (PySem.F.args_tuple_lt_2 _ _) (HT.tuple_lt_ints a b its jts n n' dd dd' sl sl' ns ms ia ib) ⟨e1, f1, ?_⟩))
    exact wpAny_truthy_bool q
theorem firsts_any {M : Model} : ∀ {vs : List Value} {nss : List (List Int)}, Paired (TupI s.heap) vs nss → ∃ os : List (Option Value), os.length = vs.length ∧ (∀ o ∈ os, o = none ∨ ∃ n t, o = some (.int n t)) ∧ ∀ (Q : List (Option Value) → Shared → Prop), Q os s → wpAny M A (vs.mapM firstOfTuple') Q E s
  | _, _, .nil => ⟨[], rfl, (fun _ h => by cases h), fun Q q => by rw [List.mapM_nil]; exact wpAny_pure q⟩
  | _, _, .cons h t => by
    obtain ⟨os, l, ho, go⟩ := firsts_any (M := M) t
    obtain ⟨a, its, rfl, ⟨ob, e1, e2, n, e3⟩, hi⟩ := h
    have first : its[0]? = none ∨ ∃ n t, its[0]? = some (.int n t) := by
      rw [← Array.getElem?_toList]
      generalize its.toList = l at hi
      cases hi with
      | nil => exact .inl rfl
      | cons n t _ => exact .inr ⟨n, t, rfl⟩
    refine ⟨its[0]? :: os, by simp [l], fun o hm => ?_, fun Q q => ?_⟩
    · rcases List.mem_cons.mp hm with z | z
      · rw [z]; exact first
      · exact ho o z
    · rw [List.mapM_cons, PySem.W.kas_first_eq]
      refine wpAny_bind (wpAny_bind (PySem.W.Looks.here (show PySem.W.Looks M s.heap (typeOf (.ref a)) ob.cls from (PySem.W.Looks.ld e1).andThen .now) ?_))
      rw [e2, if_neg (by first | decide | simp)]
      refine wpAny_bind (listItems_at e1 e3 (wpAny_pure ?_))
      exact wpAny_bind (go _ (wpAny_pure q))
theorem kind_any {M : Model} {vs : List Value} {nss : List (List Int)} {Q : SortKind → Shared → Prop} (hv : Paired (TupI s.heap) vs nss) (hne : 0 < vs.length) (q : ∀ κ, KindIs κ → Q κ s) : wpAny M A (keyKind' vs.toArray) Q E s := by
  obtain ⟨os, l, ho, go⟩ := firsts_any (A := A) (E := E) (M := M) hv
  rw [keyKind'_eq, List.mapM_toArray, map_eq_pure_bind]
  refine wpAny_bind (wpAny_bind (go _ (wpAny_pure ?_)))
  by_cases ha : (os.toArray.all fun x => x.isSome) = true
  · rw [if_pos ha]
    refine wpAny_bind (wpAny_rule ?_)
    obtain ⟨f, fs, ef⟩ : ∃ f fs, os.toArray.filterMap id = (f :: fs).toArray := by
      cases os with
      | nil => simp at l; omega
      | cons o r =>
        cases o with
        | none => simp at ha
        | some f => exact ⟨f, r.filterMap id, by simp⟩
    have fi : ∀ v ∈ f :: fs, ∃ n t, v = .int n t := fun v hm => by
      have : v ∈ (os.toArray.filterMap id).toList := by rw [ef]; exact hm
      simp only [Array.toList_filterMap, List.mem_filterMap, id_eq] at this
      obtain ⟨o, h1, h2⟩ := this
      subst h2
      rcases ho _ h1 with z | ⟨n, t, z⟩
      · cases z
      · cases z; exact ⟨n, t, rfl⟩
    rw [ef, oneTypeOnly'_eq, List.mapM_toArray, map_eq_pure_bind]
    refine wpAny_bind (wpAny_bind (wpAny_bind (PySem.W.kas_mapM (r := Value.type "int") _ (fun v hm Q' hq => ?_) (wpAny_pure ?_))))
    · obtain ⟨n, t, rfl⟩ := fi v hm
      exact wpAny_pure hq
    · have h1 : ((List.map (fun _ => Value.type "int") (f :: fs)).toArray.all fun x => x == Value.type "int") = true := by
        simp
      have h0 : (List.map (fun _ => Value.type "int") (f :: fs)).toArray[0]? = some (Value.type "int") := by simp
      rw [h0]
      simp only [h1, if_true]
      exact wpAny_pure (wpAny_pure (q _ (.inl (by first | rfl | decide))))
  · rw [if_neg ha]
    by_cases hb : (os.toArray[0]?.bind id).isSome = true
    · rw [if_pos hb]
      exact wpAny_pure (q _ (.inr (.inl rfl)))
    · rw [if_neg hb]
      have ty : ∀ {vs : List Value} {nss : List (List Int)}, Paired (TupI s.heap) vs nss → ∀ v ∈ vs, ∃ a ob, v = .ref a ∧ s.heap.get? a = some ob ∧ ob.cls = .type "tuple" := by
        intro vs nss h
        induction h with
        | nil => intro v hv; cases hv
        | cons h t ih =>
          intro v hv
          rcases List.mem_cons.mp hv with z | z
          · subst z
            obtain ⟨a, its, rfl, ⟨ob, e1, e2, n, e3⟩, hi⟩ := h
            exact ⟨a, ob, rfl, e1, e2⟩
          · exact ih v z
      have tv := ty hv
      obtain ⟨v, r, rfl⟩ : ∃ v r, vs = v :: r := by
        cases vs with
        | nil => simp at hne
        | cons v r => exact ⟨v, r, rfl⟩
      rw [oneTypeOnly'_eq, List.mapM_toArray, map_eq_pure_bind]
      refine wpAny_bind (wpAny_bind (wpAny_bind (PySem.W.kas_mapM (r := Value.type "tuple") _ (fun v hm Q' hq => ?_) (wpAny_pure ?_))))
      · obtain ⟨a, ob, rfl, e1, e2⟩ := tv v hm
        refine PySem.W.Looks.here (show PySem.W.Looks M s.heap (typeOf (.ref a)) ob.cls from (PySem.W.Looks.ld e1).andThen .now) ?_
        rw [e2]
        exact hq
      · have h1 : ((List.map (fun _ => Value.type "tuple") (v :: r)).toArray.all fun x => x == Value.type "tuple") = true := by simp
        have h0 : (List.map (fun _ => Value.type "tuple") (v :: r)).toArray[0]? = some (Value.type "tuple") := by simp
        rw [h0]
        simp only [h1, if_true]
        exact wpAny_pure (wpAny_pure (q _ (.inr (.inr rfl))))
end
end DL
namespace DL
open PySem PySem.Spec PyProof.Rows L2
open PySem.W (KdlSrc)
noncomputable def DiAt (d : Addr) (es : Array DictEntry) (ep : Nat) (h : Heap) : Prop := (d == sysModules) = false ∧ ∃ o, h.get? d = some o ∧ o.ExactDict ∧ o.data = .dict es ep
theorem DiAt.mv {d : Addr} {es : Array DictEntry} {ep : Nat} {h h' : Heap} (x : DiAt d es ep h) (k : ∀ o, h.get? d = some o → h'.get? d = some o) : DiAt d es ep h' := let ⟨a, o, e, r⟩ := x; ⟨a, o, k o e, r⟩
section
variable {prog : Program} {w : World} {A : Around} {E : Value → Shared → Prop} {s : Shared}
theorem dk_walks (hh : A.handled = none) (I d : Addr) (ne : d ≠ I) (es : Array DictEntry) (ep : Nat) :
    Walks prog w A I [I, d] [I] es.size (fun i v => ∃ e, es[i]? = some e ∧ v = e.key) (fun i h => h.IsKeyIter I d i es.size ep ∧ DiAt d es ep h) where
  sub := fun b hb => by simp at hb; simp [hb]
  frame := fun _ _ _ st hk => ⟨st.1.at fun o e => hk I (by simp) o e, st.2.mv fun o e => hk d (by simp) o e⟩
  item := fun i s _ _ hi st hQ => by
    obtain ⟨_, ob, g1, g2, g3⟩ := st.2
    refine next_in st.1 g1 g3 hi fun h' hit' hs' => ?_
    exact hQ _ h' s.toks ⟨es[i], by simp [hi], rfl⟩ ⟨hit', st.2.mv fun o e => hs'.extBut d o ne e⟩ fun b o hb e => hs'.extBut b o (fun h => hb (by simp [h])) e
  done := fun s Q E st hQ => by
    obtain ⟨_, ob, g1, g2, g3⟩ := st.2
    exact next_out hh st.1 g1 g3 (Nat.le_refl _) fun h' he' => hQ h' s.toks fun b o hb e => he' b o (fun h => hb (by simp [h])) e
  self := fun _ _ _ _ st r => wpAny_pyIter_keyiter st.1 r
theorem dk_src {d : Addr} {es : Array DictEntry} {ep : Nat} : KdlSrc prog w "dict" d d es.size (fun i v => ∃ e, es[i]? = some e ∧ v = e.key) (DiAt d es ep) where
  type := fun _ ⟨_, o, e, x, _⟩ => ⟨o, e, x.1⟩
  there := fun _ ⟨_, o, e, _⟩ => ⟨Heap.lt_size e, Heap.lt_size e⟩
  keep := fun _ _ x k => x.mv fun o e => k d (.inl rfl) o e
  notList := by decide
  notTuple := by decide
  hint := fun _ _ _ _ ⟨_, o, e, x, _⟩ r => PySem.W.kdl_hint_dict ⟨o, e, x.1⟩ r
  iter := fun _ s hh x => by
    obtain ⟨h0, ob, g1, g2, g3⟩ := id x
    exact ⟨_, _, (fun _ _ hq => iter_dic h0 g1 g2 g3 hq), dk_walks hh _ d (Nat.ne_of_lt (Heap.lt_size g1)) es ep, ⟨⟨_, Heap.get?_push_size _ rfl, rfl, rfl⟩, x.mv fun o e => Heap.get?_push_of_some _ e⟩⟩
theorem collect_dic {d : Addr} {es : Array DictEntry} {ep : Nat} {R : List Value → Shared → Prop} (hh : A.handled = none) (x : DiAt d es ep s.heap) (hz : es.size ≤ sizeLine)
    (h : ∀ h' tk, (∀ b o, s.heap.get? b = some o → h'.get? b = some o) → s.heap.objs.size ≤ h'.objs.size → R (es.toList.map (·.key)) { s with heap := h', toks := tk }) : wpAny (model prog w) A (collect (.ref d)) R E s := by
  have hN : (s.heap.push (seqObj "list" #[] 0)).get? s.heap.objs.size = some (seqObj "list" #[] 0) := Heap.get?_push_size _ rfl
  have dl : d < s.heap.objs.size := let ⟨_, _, e, _⟩ := x; Heap.lt_size e
  unfold collect
  refine wpAny_bind (wpAny_runValue (codeAny_builtin entry_proto_collect' (show wpAny _ _ (do again (.builtin "list.__iadd__" ⟨[← newList [], .ref d], []⟩)) _ _ s from wpAny_bind (wpAny_newList (wpAny_pure ⟨Code.quiet_builtin _ (by decide +kernel), codeAny_builtin entry_list_iadd' ?_⟩)))))
  show wpAny _ _ (Builtin.List.listExtendWith (.ref s.heap.objs.size) (.ref d) (.ref s.heap.objs.size)) _ _ { s with heap := s.heap.push (seqObj "list" #[] 0) }
  rw [Around.under_plainId (show plainId "list.__iadd__" = true by decide +kernel)]
  have E1 : wpAny (model prog w) A.in1 (Builtin.List.listExtendWith (.ref s.heap.objs.size) (.ref d) (.ref s.heap.objs.size)) _ _ { s with heap := s.heap.push (seqObj "list" #[] 0) } := PySem.W.kdl_extend (s := { s with heap := s.heap.push (seqObj "list" #[] 0) }) (R := fun r s' => r = .ok (.ret (.ref s.heap.objs.size)) ∧ wpAny (model prog w) A (load s.heap.objs.size) (fun o s2 => ∃ xs ep, o.data = .seq xs ep ∧ R xs.toList s2) E s') (dk_src (ep := ep)) hh (x.mv fun o e => Heap.get?_push_of_some _ e) s.heap.objs.size (Ne.symm (Nat.ne_of_lt dl)) (Ne.symm (Nat.ne_of_lt dl)) (.ref s.heap.objs.size) 0 hN (fun h' tk acc c k1 k2 hi => by
    have ea : acc.toList = es.toList.map (·.key) := by
      apply List.ext_getElem?
      intro i
      rw [List.getElem?_map, Array.getElem?_toList, Array.getElem?_toList]
      by_cases hl : i < es.size
      · have la : i < acc.size := by rw [hi.1]; exact hl
        obtain ⟨e, e1, e2⟩ := hi.2 i acc[i] (Array.getElem?_eq_getElem la)
        rw [Array.getElem?_eq_getElem la, e1, e2]
        rfl
      · rw [Array.getElem?_eq_none (by rw [hi.1]; omega), Array.getElem?_eq_none (by omega)]
        rfl
    refine ⟨rfl, wpAny_load k2 ⟨acc, c, rfl, ?_⟩⟩
    rw [ea]
    exact h h' tk (fun b o e => k1 b o (Nat.ne_of_lt (Heap.lt_size e)) (Heap.get?_push_of_some _ e)) (Nat.le_of_lt (Heap.lt_size k2))) hz
  have fin : ∀ s', wpAny (model prog w) A (load s.heap.objs.size) (fun o s2 => ∃ xs ep, o.data = .seq xs ep ∧ R xs.toList s2) E s' → wpAny (model prog w) A (do match (← load s.heap.objs.size).data with | .seq xs _ => pure xs.toList | _ => unsupported "internal:collect") R E s' := fun s' z => by
    refine wpAny_bind (wpAny_mono z (fun o s2 ⟨xs, ep, e1, e2⟩ => ?_) fun _ _ x => x)
    rw [e1]
    exact wpAny_pure e2
  refine wpAny_mono E1 (fun f s' z => ?_) (fun e s' z => ?_)
  · cases f with
    | done f =>
      obtain ⟨z1, z2⟩ := z
      cases z1
      exact fin s' z2
    | again c =>
      refine ⟨z.1, codeAny_mono z.2 fun r s2 z => ?_⟩
      obtain ⟨rfl, z2⟩ := z
      exact fin s2 z2
  · cases z.1
end
end DL
namespace DL
open PySem PySem.Spec PyProof.Rows L2
open PySem.W (UpdF KasFin kas_sort)
section
variable {prog : Program} {w : World} {A : Around} {E : Value → Shared → Prop} {s : Shared}
theorem sort_few {a : Addr} {vs : List Value} {n : Nat} {P : PySem.Fin → Shared → Prop} (g0 : s.heap.get? a = some (seqObj "list" vs.toArray n)) (hl : vs.length < 2)
    (q : ∀ h' c, (∀ b o, b ≠ a → s.heap.get? b = some o → h'.get? b = some o) → h'.get? a = some (seqObj "list" vs.toArray c) → P (.done (.ret .none)) { s with heap := h' }) : wpAny (model prog w) A (Builtin.«list.sort» ⟨[.ref a], []⟩) P E s := by
  have sz : sizeLine = 16777216 := sizeLine_eq
  have t1 := Heap.SameBut.update s.heap a (Obj.mapSeq fun _ => (#[] : Array Value))
  obtain ⟨c1, g1⟩ : ∃ c, (s.heap.update a (Obj.mapSeq fun _ => (#[] : Array Value))).get? a = some (seqObj "list" #[] c) := ⟨_, get?_update_seq g0 fun _ => #[]⟩
  let h3 : Heap := ((s.heap.update a (Obj.mapSeq fun _ => (#[] : Array Value))).push (seqObj "tuple" vs.toArray 0)).push (seqObj "list" #[] 0)
  have g3 : h3.get? a = some (seqObj "list" #[] c1) := Heap.get?_push_of_some _ (Heap.get?_push_of_some _ g1)
  have t2 := Heap.SameBut.update h3 a (Obj.mapSeq fun _ => vs.toArray)
  obtain ⟨c2, g2⟩ : ∃ c, (h3.update a (Obj.mapSeq fun _ => vs.toArray)).get? a = some (seqObj "list" vs.toArray c) := ⟨_, get?_update_seq g3 fun _ => vs.toArray⟩
  rw [list_sort_plain]
  refine wpAny_bind (listItems_at g0 rfl (wpAny_bind (listUpdate_at g0 rfl (wpAny_bind (seqEpoch_at g1 rfl (wpAny_bind (wpAny_newTuple (wpAny_bind (wpAny_newList (wpAny_holding ?_) (Nat.zero_le _))) (show vs.length ≤ _ by omega))))) (by rw [List.size_toArray]; omega) (Nat.zero_le _))))
  show wpAny (model prog w) A _ P E { s with heap := h3 }
  dsimp only
  have lt : vs.toArray.size < 2 := by simpa using hl
  rw [if_pos lt, if_pos lt]
  have ez : (vs.toArray.zip vs.toArray).map (·.2) = vs.toArray := by
    apply Array.toList_inj.mp
    simp [List.map_snd_zip]
  refine wpAny_bind (wpAny_pure (wpAny_bind (wpAny_pure ?_)))
  dsimp only
  show wpAny _ _ (seqEpoch a >>= _) _ _ _
  refine wpAny_bind (seqEpoch_at g3 rfl (wpAny_bind (listUpdate_at (f := fun _ => (vs.toArray.zip vs.toArray).map (·.2)) g3 rfl ?_ (Nat.zero_le _) (by simp; omega))))
  rw [ez]
  show wpAny _ _ (if (c1 != c1) = true then _ else _) _ _ _
  rw [if_neg (by simp)]
  exact wpAny_pure (q _ c2 (fun b o hb e => t2.extBut b o hb (Heap.get?_push_of_some _ (Heap.get?_push_of_some _ (t1.extBut b o hb e)))) g2)
theorem tup_ns {h : Heap} {L a : Addr} {m : Str → Option Value} {its : Array Value} (hn : h.Ns L m) (ht : IsTup h a its) : a ≠ L := fun z => by
  subst z
  obtain ⟨o, es, ep, e1, e2, _⟩ := hn
  obtain ⟨o', f1, _, n, f2⟩ := ht
  rw [e1] at f1
  cases f1
  rw [e2] at f2
  cases f2
theorem TupI.mv {h h' : Heap} {v : Value} {ns : List Int} (x : TupI h v ns) (k : ∀ a its, v = .ref a → IsTup h a its → ∀ o, h.get? a = some o → h'.get? a = some o) : TupI h' v ns := by
  obtain ⟨a, its, rfl, ht, hi⟩ := x
  obtain ⟨o, e, r⟩ := id ht
  exact ⟨a, its, rfl, ⟨o, k a its rfl ht o e, r⟩, hi⟩
noncomputable def lexC (nss : List (List Int)) (i j : Nat) : Bool := HT.lexLt (nss.getD i []) (nss.getD j [])
theorem sort_dic {d L : Addr} {m : Str → Option Value} {es : Array DictEntry} {ep : Nat} {nss : List (List Int)} {Q : Value → Shared → Prop} (hn : s.heap.Ns L m) (hh : A.handled = none) (hu : A.units + 4 < cLine) (x : DiAt d es ep s.heap) (hv : Paired (TupI s.heap) (es.toList.map (·.key)) nss) (h64 : es.size < 64)
    (h : ∀ h' tk D c, h'.Ns L m → (∀ b o, b ≠ L → s.heap.get? b = some o → h'.get? b = some o) → s.heap.objs.size ≤ D → h'.get? D = some (seqObj "list" (ksorted (lexC nss) Value.none (es.toList.map (·.key))).toArray c) → Q (.ref D) { s with heap := h', toks := tk }) :
    wpAny (model prog w) A (call (.builtin "sorted") [.ref d]) Q E s := by
  have sz : sizeLine = 16777216 := sizeLine_eq
  have lt := hn.lt
  refine Calls.call_function_entry kind_sorted plain_sorted entry_sorted (args_sorted1 _) ?_
  unfold Builtin.«sorted»
  refine wpAny_bind (m := checkCount "sorted" 1 1 _) (wpAny_pure (wpAny_bind (collect_dic (show A.in1.handled = none from hh) x (by omega) fun h1 tk k1 le => wpAny_bind (wpAny_newList ?_ (by simp; omega)))))
  generalize ev : es.toList.map (·.key) = vs at *
  have lv : vs.length = es.size := by rw [← ev]; simp
  let h2 : Heap := h1.push (seqObj "list" vs.toArray 0)
  have at2 : h2.get? h1.objs.size = some (seqObj "list" vs.toArray 0) := Heap.get?_push_size _ rfl
  have kp : ∀ b o, s.heap.get? b = some o → h2.get? b = some o := fun b o e => Heap.get?_push_of_some _ (k1 b o e)
  have ltD : ∀ b o, s.heap.get? b = some o → b ≠ h1.objs.size := fun b o e => Nat.ne_of_lt (Nat.lt_of_lt_of_le (Heap.lt_size e) le)
  have LD : h1.objs.size ≠ L := Ne.symm (Nat.ne_of_lt (Nat.lt_of_lt_of_le lt le))
  have F0 : Fr {} L s.heap m := ⟨hn, fun b o e => absurd ((none_in b).symm.trans e) (by simp), Nat.zero_le _⟩
  have N0 : News {} L s.heap (allBut s.heap L) := fun p hp => ⟨(allBut_at hp).1, (allBut_at hp).2, none_in _⟩
  show wpAny _ _ _ _ _ { s with heap := h2, toks := tk }
  refine wpAny_bind (wpAny_holding (wpAny_call_entry (s := { s with heap := h2, toks := tk }) slot_list_sort ⟨_, at2, rfl⟩ entry_list_sort ?body (args_list_sort _)))
  case body =>
    by_cases few : vs.length < 2
    · refine sort_few (s := { s with heap := h2, toks := tk }) at2 few fun h' c k' g' => ⟨_, rfl, wpAny_pure ⟨_, rfl, h h' tk _ c (hn.at' fun o e => k' _ _ (Ne.symm LD) (kp _ _ e)) (fun b o _ e => k' b o (ltD b o e) (kp b o e)) le ?_⟩⟩
      unfold ksorted
      rw [if_pos few]
      exact g'
    · refine PySem.W.kat_list_sort (s := { s with heap := h2, toks := tk }) (news := allBut s.heap L) (F0.kept kp) (N0.grown kp) at2 LD (none_in _) (fun p hp => ltD _ _ (allBut_at hp).1) (by omega) (by omega) fun e1 h' F' N' => ?_
      have hv' : Paired (TupI h') vs nss := Prd.imp hv fun v ns _ z => z.mv fun a its _ ht o e => (N' _ (List.mem_cons_of_mem _ (allBut_in (tup_ns hn ht) e))).1
      refine kind_any (s := { s with heap := h', toks := tk }) hv' (by omega) fun κ hκ => ?_
      refine KOk.wp (c := lexC nss) (n := vs.length) (fun i j C hi hj q => ?_) (ok_sort (by omega)) ?_
      · obtain ⟨ns, hi2, ti⟩ := Prd.get hv' (List.getElem?_eq_getElem hi)
        obtain ⟨ms, hj2, tj⟩ := Prd.get hv' (List.getElem?_eq_getElem hj)
        unfold PySem.W.kas_ask
        have e1 : vs.getD i Value.none = vs[i] := by simp [hi]
        have e2 : vs.getD j Value.none = vs[j] := by simp [hj]
        rw [e1, e2]
        refine key_lt (s := { s with heap := h', toks := tk }) (show A.in1.in1.units + 1 < cLine by simp; omega) hκ ti tj ?_
        unfold lexC at q
        rw [List.getD_eq_getElem?_getD, List.getD_eq_getElem?_getD, hi2, hj2] at q
        exact q
      · refine KasFin.intro (s := { s with heap := h', toks := tk }) F' N' (UpdF.head fun p hp => ltD _ _ (allBut_at hp).1) fun h3 c F3 N3 => ⟨_, rfl, wpAny_pure ⟨_, rfl, h h3 tk _ c F3.ns (fun b o hb e => (N3 _ (List.mem_cons_of_mem _ (allBut_in hb e))).1) le ?_⟩⟩
        unfold ksorted
        rw [if_neg few]
        exact (N3 _ (List.mem_cons_self ..)).1
end
end DL
namespace DL
open PySem PySem.Spec PyProof.Rows L2
theorem ksorted_map {α β : Type} {c : Nat → Nat → Bool} {f : α → β} {d : α} {e : β} (xs : List α) : ksorted c e (xs.map f) = (ksorted c d xs).map f := by
  unfold ksorted
  rw [List.length_map]
  split
  · rfl
  · have h := KOk.run (c := c) (ok_sort (n := xs.length) (by omega))
    rw [List.map_map]
    refine List.map_congr_left fun i hi => ?_
    have l := List.mem_range.mp (h.mem_iff.mp hi)
    simp [l]
theorem ksorted_len {α : Type} {c : Nat → Nat → Bool} {d : α} (xs : List α) : (ksorted c d xs).length = xs.length := (ksorted_perm c d xs).length_eq
noncomputable def rowI : D → Option (List Int)
  | .tup ds => intsD ds
  | _ => none
noncomputable def rowsI : List D → Option (List (List Int))
  | [] => some []
  | d :: r => (rowI d).bind fun a => (rowsI r).map fun t => a :: t
noncomputable def sortTD : FF := fun ds H => match ds with
  | [.ref n] => match H[n]? with
    | some (.dic kvs _) => (rowsI (kvs.map (·.1))).bind fun nss => if kvs.length < 64 then some (.ref H.length, H ++ [.lst (ksorted (lexC nss) .non (kvs.map (·.1)))]) else none
    | _ => none
  | _ => none
section
variable {X : Cx} {pins : List (Addr × Obj)} {σ : L2.St} {H : Hp} {s : Shared} {ι : List Addr}
theorem rows_tups (I : Inv X pins σ H s) : ∀ {ds : List D} {as : List Addr} {nss : List (List Int)}, rowsI ds = some nss → Paired (Rep X.K H ι) ds (as.map V.ref) → Paired (TupI s.heap) (as.map Value.ref) nss
  | [], as, nss, e, p => by
    cases e
    cases as with
    | nil => exact .nil
    | cons a r => cases p
  | d :: ds, as, nss, e, p => by
    obtain ⟨ns, e1, e⟩ := Option.bind_eq_some_iff.mp e
    obtain ⟨t, e2, rfl⟩ := Option.map_eq_some_iff.mp e
    cases as with
    | nil => cases p
    | cons a r =>
      rw [List.map_cons] at p ⊢
      cases p with
      | cons p1 p2 =>
        refine .cons ?_ (rows_tups I e2 p2)
        unfold rowI at e1
        split at e1
        · obtain ⟨b, vs, eb, sq, P⟩ := rep_tup.mp p1
          cases eb
          have ev := intsD_rep e1 P
          subst ev
          obtain ⟨its, ri, ht, _⟩ := I.tuple sq
          exact ⟨a, _, rfl, ht, by simpa using intsAre_of ri⟩
        · cases e1
end
theorem prd_map {α β γ : Type} {F : β → γ → Prop} {f : α → β} {g : α → γ} {xs : List α} (h : ∀ x ∈ xs, F (f x) (g x)) : Paired F (xs.map f) (xs.map g) := by
  induction xs with
  | nil => exact .nil
  | cons x r ih => exact .cons (h x (by simp)) (ih fun y hy => h y (by simp [hy]))
theorem prd_zip {β γ : Type} {F : β → γ → Prop} : ∀ {xs : List β} {ys : List γ}, Paired F xs ys → ∃ zs : List (β × γ), xs = zs.map (·.1) ∧ ys = zs.map (·.2) ∧ ∀ z ∈ zs, F z.1 z.2
  | _, _, .nil => ⟨[], rfl, rfl, fun _ h => by cases h⟩
  | _, _, .cons h t => by
    obtain ⟨zs, e1, e2, hz⟩ := prd_zip t
    refine ⟨(_, _) :: zs, by rw [e1]; rfl, by rw [e2]; rfl, fun z hm => ?_⟩
    rcases List.mem_cons.mp hm with q | q
    · rw [q]; exact h
    · exact hz z q
theorem prd_sorted {β γ : Type} {F : β → γ → Prop} {c : Nat → Nat → Bool} {d : β} {e : γ} {xs : List β} {ys : List γ} (h : Paired F xs ys) : Paired F (ksorted c d xs) (ksorted c e ys) := by
  obtain ⟨zs, rfl, rfl, hz⟩ := prd_zip h
  rw [ksorted_map (d := (d, e)), ksorted_map (d := (d, e))]
  exact prd_map fun z hm => hz z ((ksorted_perm c _ zs).mem_iff.mp hm)
section
variable {X : Cx}
theorem callf_sortT (hc : X.calm = true) (hu : X.A.units + 64 < cLine) : CallF X (.builtin "sorted") sortTD := by
  rintro pins s σ H xs us Q I rv ⟨ι, ds, Hd, d, Hd', hr, P, e, q⟩
  unfold sortTD at e
  split at e
  · rename_i n
    split at e
    · rename_i kvs fz eo
      obtain ⟨nss, e1, e⟩ := Option.bind_eq_some_iff.mp e
      split at e
      · rename_i hlen
        obtain ⟨v, rfl, r⟩ := prd1 P
        obtain ⟨a, rfl, ha⟩ := rep_ref.mp r
        obtain ⟨u, rfl, ru⟩ := rv.one
        cases ru
        obtain ⟨h1, h2, ys, h3, PK, dd⟩ := dic_of I (hr.obj n a _ ha eo)
        obtain ⟨o, es, ep, g1, g2, g3, g4, g5, g6⟩ := dd
        have PR := krep_keys PK
        have ek : es.toList.map (·.key) = (ys.map fun x => x.2.1).map Value.ref := by rw [g4, List.map_map, List.map_map]; rfl
        have er : (ys.map fun x => V.ref x.2.1) = (ys.map fun x => x.2.1).map V.ref := by rw [List.map_map]; rfl
        rw [er] at PR
        have ly : ys.length = kvs.length := (Prd.len PK).symm
        have ls : es.size = ys.length := by rw [← Array.length_toList, g4, List.length_map]
        obtain ⟨m, hn, _⟩ := I.loc
        have hv := rows_tups I e1 PR
        refine sort_dic hn (I.ok.hd hc) (by omega) ⟨h1, o, g1, g2, g3⟩ (by rw [ek]; exact hv) (by omega) fun h' tk Da c hn' kk hD hat => ?_
        rw [ek, ksorted_map (d := 0)] at hat
        generalize hA : ksorted (lexC nss) 0 (ys.map fun x => x.2.1) = as at hat
        have la : as.length = kvs.length := by rw [← hA, ksorted_len, List.length_map, ly]
        have PS : Paired (Rep X.K H ι) (ksorted (lexC nss) .non (kvs.map (·.1))) (as.map V.ref) := by
          rw [← hA, ← ksorted_map (d := 0) (e := V.non)]
          exact prd_sorted PR
        have sz : sizeLine = 16777216 := sizeLine_eq
        have va : Vals (as.map V.ref) (as.map Value.ref) := by
          clear hat PS la hA
          induction as with
          | nil => exact .nil
          | cons b r ih => exact .cons rfl ih
        have hl : (as.map V.ref).length ≤ sizeLine := by rw [List.length_map]; omega
        refine ⟨.ref Da, _, inv_laidL (o := .lst (as.map V.ref)) I kk (fun m' hm' => by rw [hm'.eq_nsMap, ← hn.eq_nsMap]; exact hn') hD ⟨hl, as.map Value.ref, c, va, hat⟩, rfl, ?_⟩
        have hz2 : (ksorted (lexC nss) D.non (kvs.map (·.1))).length ≤ sizeLine := by rw [ksorted_len, List.length_map]; omega
        exact (new_lst hr PS (show mkL (ksorted (lexC nss) D.non (kvs.map (·.1))) Hd = some (d, Hd') by unfold mkL; rw [if_pos hz2, e]) (fun v H' ι' l h r => q v H' ι' l h r)).2 _ (I.hok.fresh hD)
      · cases e
    · cases e
  · cases e
end
end DL
namespace DL
open PySem L2
theorem size_ok {n : Nat} (h : n ≤ 1000000) : n ≤ sizeLine := by rw [PySem.sizeLine_eq]; omega
theorem atI_toNat {xs : List D} {i : Int} {d : D} (h0 : 0 ≤ i) (h : xs[i.toNat]? = some d) : atI xs i = some d := by
  have : i = (i.toNat : Int) := by omega
  rw [this]; exact atI_nat h
structure Ext (n : Nat) (H H' : HD) : Prop where
  feed : ∃ a b, H'[n]? = some (.lst [.int a, .int b])
  old : ∀ m o, m ≠ n → H[m]? = some o → H'[m]? = some o
  len : H.length ≤ H'.length
theorem Ext.trans {n : Nat} {H H1 H2 : HD} (a : Ext n H H1) (b : Ext n H1 H2) : Ext n H H2 := ⟨b.feed, fun m o h q => b.old m o h (a.old m o h q), Nat.le_trans a.len b.len⟩
theorem Ext.refl {n : Nat} {H : HD} (h : ∃ a b, H[n]? = some (.lst [.int a, .int b])) : Ext n H H := ⟨h, fun _ _ _ q => q, Nat.le_refl _⟩
theorem Ext.app {n : Nat} {H : HD} (h : ∃ a b, H[n]? = some (.lst [.int a, .int b])) (o : DO) : Ext n H (H ++ [o]) := by
  obtain ⟨a, b, e⟩ := h
  refine ⟨⟨a, b, ?_⟩, fun m u _ q => ?_, by simp⟩
  · rw [List.getElem?_append_left (List.getElem?_eq_some_iff.mp e).1]; exact e
  · rw [List.getElem?_append_left (List.getElem?_eq_some_iff.mp q).1]; exact q
end DL
namespace LH
open PySem L2 DL
noncomputable def b_law_take : SF :=
  (sSeq (sIf (tOf (eOp gtD (eOp ixD (eVar 0) (eC (.int 0))) (eC (.int 0)))) (sSeq (sSet 2 (eOp modD (eOp ixD (eVar 0) (eC (.int 0))) (eVar 1)))
  (sSeq (sAsg (eOp fdivD (eOp ixD (eVar 0) (eC (.int 0))) (eVar 1)) (gSb (eVar 0) (eC (.int 0)) setD))
  (sSeq (sRet (eVar 2))
  sNil))) sNil)
  (sSeq (sAsg (eOp modD (eOp addD (eOp mulD (eOp ixD (eVar 0) (eC (.int 1))) (eC (.int 69621))) (eC (.int 12345))) (eC (.int 2147483647))) (gSb (eVar 0) (eC (.int 1)) setD))
  (sSeq (sRet (eOp modD (eOp fdivD (eOp ixD (eVar 0) (eC (.int 1))) (eC (.int 8191))) (eVar 1)))
  sNil)))
noncomputable def m_law_take : FF := runB 2 3 b_law_take
noncomputable def b_law_pick : SF :=
  (sSeq (sRet (eOp ixD (eVar 1) (eCall 2 m_law_take (aCons (eVar 0) (aCons (eCB lenD (aCons (eVar 1) aNil)) aNil)))))
  sNil)
noncomputable def m_law_pick : FF := runB 2 2 b_law_pick
noncomputable def Seqs (n : Nat) (s : D) (xs : List D) (H : HD) : Prop := s = .tup xs ∨ ∃ m, s = .ref m ∧ m ≠ n ∧ H[m]? = some (.lst xs)
theorem Seqs.seq {n : Nat} {s : D} {xs : List D} {H : HD} (h : Seqs n s xs H) : seqD s H = some xs := by
  rcases h with rfl | ⟨m, rfl, _, e⟩
  · rfl
  · simp [seqD, e]
theorem Seqs.ext {n : Nat} {s : D} {xs : List D} {H H' : HD} (h : Seqs n s xs H) (e : Ext n H H') : Seqs n s xs H' := by
  rcases h with rfl | ⟨m, rfl, hm, q⟩
  · exact .inl rfl
  · exact .inr ⟨m, rfl, hm, e.old m _ hm q⟩
noncomputable def b_law_row : SF :=
  (sSeq (sSet 2 (eLst (aCons (eC (.int 1)) (aCons (eC (.int 2)) (aCons (eC (.int 2)) (aCons (eC (.int 3)) (aCons (eC (.int 3)) (aCons (eC (.int 4)) (aCons (eC (.int 2)) (aCons (eC (.int 3)) (aCons (eC (.int 1)) (aCons (eOp addD (eC (.int 5)) (eCall 2 m_law_take (aCons (eVar 0) (aCons (eC (.int 4)) aNil)))) (aCons (eC (.int 2)) (aCons (eOp mulD (eC (.int 2)) (eCB intD (aCons (eOp gtD (eCall 2 m_law_take (aCons (eVar 0) (aCons (eC (.int 6)) aNil))) (eC (.int 0))) aNil))) aNil))))))))))))))
  (sSeq (sSet 3 (eCB minD (aCons (eVar 1) (aCons (eCall 2 m_law_pick (aCons (eVar 0) (aCons (eVar 2) aNil))) aNil))))
  (sSeq (sSet 4 (eLR2 (aCons (eC (.int 1)) (aCons (eOp addD (eVar 1) (eC (.int 1))) aNil))))
  (sSeq (sSet 5 (eLst aNil))
  (sSeq (sFor (iR1 (aCons (eVar 3) aNil)) (gNm 6) (sSeq (sExpr (eLM appendD (eVar 5) (aCons (eLM popD (eVar 4) (aCons (eCall 2 m_law_take (aCons (eVar 0) (aCons (eCB lenD (aCons (eVar 4) aNil)) aNil))) aNil)) aNil)))
  sNil))
  (sSeq (sRet (eCB tupleD (aCons (eLC (iSq (eCB sortedD (aCons (eVar 5) aNil))) [0] tYes (eOp ixD (eLst (aCons (eVar 0) (aCons (eUn negD (eVar 0)) aNil))) (eCall 2 m_law_take (aCons (eVar 1) (aCons (eC (.int 2)) aNil))))) aNil)))
  sNil))))))
noncomputable def m_law_row : FF := runB 2 7 b_law_row
structure ExtS (S : List Nat) (H H' : HD) : Prop where
  old : ∀ m o, m ∉ S → H[m]? = some o → H'[m]? = some o
  len : H.length ≤ H'.length
theorem ExtS.trans {S : List Nat} {H H1 H2 : HD} (a : ExtS S H H1) (b : ExtS S H1 H2) : ExtS S H H2 := ⟨fun m o h q => b.old m o h (a.old m o h q), Nat.le_trans a.len b.len⟩
theorem ExtS.refl {S : List Nat} {H : HD} : ExtS S H H := ⟨fun _ _ _ q => q, Nat.le_refl _⟩
theorem ExtS.set {S : List Nat} {H : HD} {p : Nat} {o : DO} (h : p ∈ S) : ExtS S H (H.set p o) := ⟨fun m u hm q => by rw [List.getElem?_set_ne (fun z => hm (by rw [← z]; exact h))]; exact q, by simp⟩
noncomputable def absZ (l : Int) : Int := if l < 0 then -l else l
noncomputable def Up (m : Int) : Int → List Int → Prop
  | _, [] => True
  | last, l :: r => last < absZ l ∧ absZ l ≤ m ∧ Up m (absZ l) r
theorem seq_nx {f g : SF} {σ σ1 : SD} {H H1 : HD} (h : f σ H = some (.nx, σ1, H1)) : sSeq f g σ H = g σ1 H1 := by
  unfold sSeq
  rw [h]
  rfl
theorem seq_rt {f g : SF} {σ σ1 : SD} {H H1 : HD} {d : D} (h : f σ H = some (.rt d, σ1, H1)) : sSeq f g σ H = some (.rt d, σ1, H1) := by
  unfold sSeq
  rw [h]
  rfl
theorem set_nx {i : Nat} {f : EF} {σ : SD} {H H1 : HD} {d : D} (h : f σ H = some (d, H1)) : sSet i f σ H = some (.nx, σ.set i (some d), H1) := by
  unfold sSet
  rw [h]
  rfl
noncomputable def IsKind (d : D) : Prop := d = .str "all" ∨ d = .str "some"
noncomputable def IsRow (d : D) : Prop := ∃ ls : List Int, d = .tup (ls.map .int) ∧ (∀ l ∈ ls, l ≠ 0 ∧ -10 ≤ l ∧ l ≤ 10) ∧ ls.length ≤ 9
theorem ok_nil {H : HD} : okOwn [] H := by intro x hx; simp at hx
end LH
namespace LH
open PySem L2 DL
theorem toP_int (H : HD) (n : Nat) (i : Int) : toP H n (.int i) = some (.int i) := by cases n <;> rw [toP]
theorem toP_bl (H : HD) (n : Nat) (b : Bool) : toP H n (.bl b) = some (.bool b) := by cases n <;> rw [toP]
theorem toP_non (H : HD) (n : Nat) : toP H n .non = some .none := by cases n <;> rw [toP]
theorem dat_int (H : HD) (i : Int) : dat (.int i) H = some (.int i) := by
  simp [dat, toP_int, okP, PyData.canLay0, PyData.depth]
theorem dat_bl (H : HD) (b : Bool) : dat (.bl b) H = some (.bool b) := by
  simp [dat, toP_bl, okP, PyData.canLay0, PyData.depth]
theorem eq_int (i j : Int) (H : HD) : eqD (.int i) (.int j) H = some (.bl (i == j), H) := by
  simp [eqD, twoS, dat_int, PyData.eqv]
theorem ne_int (i j : Int) (H : HD) : neD (.int i) (.int j) H = some (.bl (!(i == j)), H) := by
  simp [neD, twoS, dat_int, PyData.eqv]
theorem eq_bl (i j : Bool) (H : HD) : eqD (.bl i) (.bl j) H = some (.bl (i == j), H) := by
  simp [eqD, twoS, dat_bl, PyData.eqv]
theorem flt {n : Nat} {H : HD} (hf : ∃ a b, H[n]? = some (.lst [.int a, .int b])) : n < H.length := by obtain ⟨a, b, e⟩ := hf; exact (List.getElem?_eq_some_iff.mp e).1
noncomputable def RowIn (m : Int) (d : D) : Prop := ∃ ls : List Int, d = .tup (ls.map .int) ∧ (∀ l ∈ ls, l ≠ 0 ∧ -10 ≤ l ∧ l ≤ 10) ∧ ls.length ≤ 9 ∧ Up m 0 ls
theorem RowIn.row {m : Int} {d : D} (h : RowIn m d) : IsRow d := by
  obtain ⟨ls, a, b, c, _⟩ := h
  exact ⟨ls, a, b, c⟩
end LH
namespace LH
open PySem L2 DL
structure Sh (x : PyData) (w dp : Nat) : Prop where
  lay : x.canLay0 = true
  sh : x.showable = true
  dep : x.depth ≤ dp
  lv : x.leavesShort 40 = true
  wt : x.weight ≤ w
theorem Sh.can {x : PyData} {w dp : Nat} (h : Sh x w dp) (hw : w ≤ 100000) (hd : dp ≤ 30) : canShow x = true := by
  have sz : sizeLine = 16777216 := PySem.sizeLine_eq
  have l := PyData.shown_le 40 (by omega) x h.lv
  have h1 : x.shown.length ≤ sizeLine := by
    have := h.wt
    rw [sz]; omega
  have h2 : x.depth ≤ 30 := Nat.le_trans h.dep hd
  simp [canShow, h.lay, h.sh, h1, h2]
noncomputable def Showy (d : D) (w dp : Nat) : Prop := ∃ x, (∀ H n, toP H n d = some x) ∧ Sh x w dp
theorem shInts : ∀ k : Fin 61, (PyData.shown (.int ((k.val : Int) - 30))).length ≤ 40 ∧ ((PyData.int ((k.val : Int) - 30)).showable = true) ∧ (PyData.int ((k.val : Int) - 30)).weight ≤ 40 := by decide
theorem Sh.int {i : Int} (h0 : -30 ≤ i) (h1 : i ≤ 30) : Sh (.int i) 40 0 := by
  have h := shInts ⟨(i + 30).toNat, by omega⟩
  have e : (((i + 30).toNat : Nat) : Int) - 30 = i := by omega
  simp only [e] at h
  exact ⟨rfl, h.2.1, Nat.le_refl _, by simpa [PyData.leavesShort] using h.1, h.2.2⟩
theorem Showy.int {i : Int} (h0 : -30 ≤ i) (h1 : i ≤ 30) : Showy (.int i) 40 0 := ⟨.int i, fun H n => toP_int H n i, Sh.int h0 h1⟩
theorem Showy.bl {b : Bool} : Showy (.bl b) 40 0 := ⟨.bool b, fun H n => toP_bl H n b, rfl, rfl, Nat.le_refl _, rfl, Nat.zero_le _⟩
theorem Showy.non : Showy .non 40 0 := ⟨.none, fun H n => toP_non H n, rfl, rfl, Nat.le_refl _, rfl, Nat.zero_le _⟩
theorem toP_str (H : HD) (n : Nat) (x : Str) : toP H n (.str x) = some (.str x) := by cases n <;> rw [toP]
theorem Showy.str {x : Str} (h : PyData.strOk x = true) (h2 : (x.cps.toList.all fun c => decide (c < 16 ^ 8)) = true) (h3 : x.cps.size ≤ 40) : Showy (.str x) 40 0 :=
  ⟨.str x, fun H n => toP_str H n x, h, rfl, Nat.le_refl _, h2, h3⟩
theorem strOk_list {x : Str} (h : (x.cps.toList.all fun c => decide (c < 0x110000)) = true) : PyData.strOk x = true := by
  unfold PyData.strOk
  rw [← Array.all_toList]
  exact h
theorem Showy.kind {d : D} (h : IsKind d) : Showy d 40 0 := by
  rcases h with rfl | rfl
  · exact Showy.str (strOk_list (by decide)) (by decide) (by decide)
  · exact Showy.str (strOk_list (by decide)) (by decide) (by decide)
theorem sh_all {H : HD} {n w dp : Nat} : ∀ xs : List D, (∀ d ∈ xs, ∃ x, toP H n d = some x ∧ Sh x w dp) → ∃ ps, toPs H n xs = some ps ∧ PyData.canLayAll0 ps = true ∧ PyData.showableAll ps = true ∧ PyData.depthAll ps ≤ dp ∧ PyData.leavesShortAll 40 ps = true ∧ PyData.weightAll ps ≤ xs.length * (w + 1) ∧ ps.length = xs.length
  | [], _ => ⟨[], by rw [toPs], rfl, rfl, Nat.zero_le _, rfl, Nat.zero_le _, rfl⟩
  | d :: xs, h => by
    obtain ⟨x, e1, s⟩ := h d (by simp)
    obtain ⟨ps, e2, a1, a2, a3, a4, a5, a6⟩ := sh_all (H := H) (n := n) (w := w) (dp := dp) xs fun z hz => h z (by simp [hz])
    refine ⟨x :: ps, ?_, ?_, ?_, ?_, ?_, ?_, by simp [a6]⟩
    · rw [toPs, e1, e2]; rfl
    · simp [PyData.canLayAll0, s.lay, a1]
    · simp [PyData.showableAll, s.sh, a2]
    · simp only [PyData.depthAll]; exact Nat.max_le.mpr ⟨s.dep, a3⟩
    · simp [PyData.leavesShortAll, s.lv, a4]
    · simp only [PyData.weightAll, List.length_cons, Nat.succ_mul]
      have := s.wt
      omega
theorem Showy.tup {xs : List D} {w dp : Nat} (h : ∀ d ∈ xs, Showy d w dp) : Showy (.tup xs) (xs.length * (w + 1)) (dp + 1) := by
  have all : ∀ H n, ∃ ps, toPs H n xs = some ps ∧ PyData.canLayAll0 ps = true ∧ PyData.showableAll ps = true ∧ PyData.depthAll ps ≤ dp ∧ PyData.leavesShortAll 40 ps = true ∧ PyData.weightAll ps ≤ xs.length * (w + 1) ∧ ps.length = xs.length := fun H n => sh_all xs fun d hd => by
    obtain ⟨x, e, s⟩ := h d hd
    exact ⟨x, e H n, s⟩
  have same : ∀ (xs : List D), (∀ d ∈ xs, Showy d w dp) → ∀ H n, toPs H n xs = toPs [] 0 xs := by
    intro xs
    induction xs with
    | nil => intro _ H n; rw [toPs, toPs]
    | cons d r ih =>
      intro h H n
      obtain ⟨x, e, _⟩ := h d (by simp)
      rw [toPs, toPs, e, e, ih (fun z hz => h z (by simp [hz])) H n]
  obtain ⟨ps, e, a1, a2, a3, a4, a5, _⟩ := all [] 0
  refine ⟨.tuple ps, fun H n => ?_, ⟨a1, a2, Nat.succ_le_succ a3, a4, a5⟩⟩
  have q : toPs H n xs = some ps := (same xs h H n).trans e
  cases n <;> rw [toP, q] <;> rfl
theorem Showy.le {d : D} {w dp w' dp' : Nat} (h : Showy d w dp) (hw : w ≤ w') (hd : dp ≤ dp') : Showy d w' dp' := by
  obtain ⟨x, e, s⟩ := h
  exact ⟨x, e, s.lay, s.sh, Nat.le_trans s.dep hd, s.lv, Nat.le_trans s.wt hw⟩
theorem Showy.rep {d : D} {w dp : Nat} (h : Showy d w dp) (hw : w ≤ 100000) (hd : dp ≤ 30) : ∃ t : Str, ∀ H, reprD [d] H = some (.str t, H) := by
  obtain ⟨x, e, s⟩ := h
  refine ⟨x.shown, fun H => ?_⟩
  unfold reprD
  simp only [e, Option.bind_some, if_pos (s.can hw hd)]
theorem cut_lo (xs : List D) (k : Nat) : cutD xs (some (k : Int)) none = xs.drop k := by
  unfold cutD
  have h1 : HT.sIx xs.length 0 (some (k : Int)) = min k xs.length := by
    show (if (k : Int) < 0 then ((k : Int) + (xs.length : Int)).toNat else min (k : Int).toNat xs.length) = min k xs.length
    rw [if_neg (by omega), Int.toNat_natCast]
  have h2 : HT.sIx xs.length xs.length none = xs.length := rfl
  rw [h1, h2]
  by_cases h : k ≤ xs.length
  · rw [Nat.min_eq_left h]
    exact List.take_of_length_le (by simp)
  · rw [Nat.min_eq_right (by omega), List.drop_of_length_le (Nat.le_refl _), List.drop_of_length_le (by omega)]
    simp
theorem cut_hi (xs : List D) (k : Nat) : cutD xs none (some (k : Int)) = xs.take k := by
  unfold cutD
  have h1 : HT.sIx xs.length 0 none = 0 := rfl
  have h2 : HT.sIx xs.length xs.length (some (k : Int)) = min k xs.length := by
    show (if (k : Int) < 0 then ((k : Int) + (xs.length : Int)).toNat else min (k : Int).toNat xs.length) = min k xs.length
    rw [if_neg (by omega), Int.toNat_natCast]
  rw [h1, h2]
  simp
theorem ac {f : EF} {g : AF} {σ : SD} {H H1 H2 : HD} {d : D} {ds : List D} (h1 : f σ H = some (d, H1)) (h2 : g σ H1 = some (ds, H2)) : aCons f g σ H = some (d :: ds, H2) := by
  unfold aCons; rw [h1]; simp only [Option.bind_some]; rw [h2]; rfl
theorem an {σ : SD} {H : HD} : aNil σ H = some ([], H) := rfl
theorem cb {g : FF} {f : AF} {σ : SD} {H H1 : HD} {ds : List D} {r : Option (D × HD)} (h1 : f σ H = some (ds, H1)) (h2 : g ds H1 = r) : eCB g f σ H = r := by
  unfold eCB; rw [h1]; exact h2
theorem tu {n : Nat} {xs : List D} {H : HD} (h : H[n]? = some (.lst xs)) : tupleD [.ref n] H = some (.tup xs, H) := by
  simp [tupleD, seqD, h]
theorem tp {f : AF} {σ : SD} {H H1 : HD} {ds : List D} (h1 : f σ H = some (ds, H1)) (h2 : ds.length ≤ 1000000) : eTup f σ H = some (.tup ds, H1) := by
  unfold eTup; rw [h1]; exact if_pos (size_ok h2)
theorem ls {f : AF} {σ : SD} {H H1 : HD} {ds : List D} (h1 : f σ H = some (ds, H1)) (h2 : ds.length ≤ 1000000) : eLst f σ H = some (.ref H1.length, H1 ++ [.lst ds]) := by
  unfold eLst; rw [h1]; exact if_pos (size_ok h2)
theorem ca {n : Nat} {F : FF} {f : AF} {σ : SD} {H H1 : HD} {ds : List D} {r : Option (D × HD)} (h1 : f σ H = some (ds, H1)) (hl : ds.length = n) (h2 : F ds H1 = r) : eCall n F f σ H = r := by
  unfold eCall; rw [h1]; simp only [Option.bind_some]; rw [if_pos hl]; exact h2
theorem rt {f : EF} {σ : SD} {H H1 : HD} {d : D} (h : f σ H = some (d, H1)) : sRet f σ H = some (.rt d, σ, H1) := by
  unfold sRet; rw [h]; rfl
theorem op {g : F2} {fa fb : EF} {σ : SD} {H H1 H2 : HD} {d1 d2 : D} {r : Option (D × HD)} (h1 : fa σ H = some (d1, H1)) (h2 : fb σ H1 = some (d2, H2)) (h3 : g d1 d2 H2 = r) : eOp g fa fb σ H = r := by
  unfold eOp; rw [h1]; simp only [Option.bind_some]; rw [h2]; exact h3
theorem iff_t {t : TF} {f g : SF} {σ : SD} {H H1 : HD} {b : Bool} (h : t σ H = some (b, H1)) : sIf t f g σ H = if b = true then f σ H1 else g σ H1 := by
  unfold sIf; rw [h]; rfl
theorem tof {f : EF} {σ : SD} {H H1 : HD} {b : Bool} (h : f σ H = some (.bl b, H1)) : tOf f σ H = some (b, H1) := by
  unfold tOf; rw [h]; rfl
theorem lenT (xs : List D) (H : HD) : lenD [.tup xs] H = some (.int xs.length, H) := by simp [lenD, seqD]
theorem lenB (bs : List Bool) (H : HD) : lenD [.tup (bs.map .bl)] H = some (.int bs.length, H) := by simp [lenD, seqD]
theorem ixT {xs : List D} {i : Int} {d : D} {H : HD} (h : atI xs i = some d) : ixD (.tup xs) (.int i) H = some (d, H) := by simp [ixD, seqD, h]
theorem skip {t : TF} {f g : SF} {σ : SD} {H H1 : HD} (h : t σ H = some (false, H1)) : sSeq (sIf t f sNil) g σ H = g σ H1 := by
  refine seq_nx ?_
  rw [iff_t h]
  rfl
theorem hit {t : TF} {f f2 g : SF} {σ σ1 : SD} {H H1 H2 : HD} {d : D} (h : t σ H = some (true, H1)) (h2 : f σ H1 = some (.rt d, σ1, H2)) : sSeq (sIf t (sSeq f sNil) f2) g σ H = some (.rt d, σ1, H2) := by
  refine seq_rt ?_
  rw [iff_t h]
  exact seq_rt h2
theorem vr {i : Nat} {σ : SD} {H : HD} {d : D} (h : σ[i]? = some (some d)) : eVar i σ H = some (d, H) := by simp [eVar, h]
theorem sl {fe : EF} {fl fh : OF} {σ : SD} {H H1 H2 H3 : HD} {d : D} {l h : Option Int} {r : Option (D × HD)} (h1 : fe σ H = some (d, H1)) (h2 : fl σ H1 = some (l, H2)) (h3 : fh σ H2 = some (h, H3)) (h4 : slD d l h H3 = r) : eSl fe fl fh σ H = r := by
  unfold eSl; rw [h1]; simp only [Option.bind_some]; rw [h2]; simp only [Option.bind_some]; rw [h3]; exact h4
theorem os {f : EF} {σ : SD} {H H1 : HD} {i : Int} (h : f σ H = some (.int i, H1)) : oSome f σ H = some (some i, H1) := by
  unfold oSome; rw [h]; rfl
theorem on {σ : SD} {H : HD} : oNone σ H = some (none, H) := rfl
theorem slhi {xs : List D} {k : Nat} {H : HD} : slD (.tup xs) none (some (k : Int)) H = some (.tup (xs.take k), H) := by
  rw [← cut_hi]; rfl
theorem sllo {xs : List D} {k : Nat} {H : HD} : slD (.tup xs) (some (k : Int)) none H = some (.tup (xs.drop k), H) := by
  rw [← cut_lo]; rfl
theorem adT {xs ys : List D} {H : HD} (h : xs.length + ys.length ≤ 1000000) : addD (.tup xs) (.tup ys) H = some (.tup (xs ++ ys), H) :=
  if_pos (size_ok (by rw [List.length_append]; exact h))
theorem adI (i j : Int) (H : HD) : addD (.int i) (.int j) H = some (.int (i + j), H) := rfl
theorem suI (i j : Int) (H : HD) : subD (.int i) (.int j) H = some (.int (i - j), H) := by simp [subD, iiD, CT]
theorem ExtS.app {S : List Nat} {H : HD} (L : HD) : ExtS S H (H ++ L) := ⟨fun m o _ q => by
  have : m < H.length := (List.getElem?_eq_some_iff.mp q).1
  rw [List.getElem?_append_left this]; exact q, by simp⟩
theorem ExtS.weak {p : Nat} {H H1 H' : HD} (e0 : ExtS [] H H1) (e : ExtS [p] H1 H') (hp : H.length ≤ p) : ExtS [] H H' := ⟨fun m o _ q => by
  have : m < H.length := (List.getElem?_eq_some_iff.mp q).1
  exact e.old m o (by simp; omega) (e0.old m o (by simp) q), Nat.le_trans e0.len e.len⟩
noncomputable def rowD (ls : List Int) : D := .tup (ls.map .int)
end LH
namespace LH
open PySem L2 DL
theorem orF {t u : TF} {σ : SD} {H H1 : HD} (h : t σ H = some (false, H1)) : tOrr t u σ H = u σ H1 := by unfold tOrr; rw [h]; rfl
theorem orT {t u : TF} {σ : SD} {H H1 : HD} (h : t σ H = some (true, H1)) : tOrr t u σ H = some (true, H1) := by unfold tOrr; rw [h]; rfl
theorem anF {t u : TF} {σ : SD} {H H1 : HD} (h : t σ H = some (false, H1)) : tAn t u σ H = some (false, H1) := by unfold tAn; rw [h]; rfl
theorem anT {t u : TF} {σ : SD} {H H1 : HD} (h : t σ H = some (true, H1)) : tAn t u σ H = u σ H1 := by unfold tAn; rw [h]; rfl
theorem Sh.can' {x : PyData} {w dp : Nat} (h : Sh x w dp) (hw : w ≤ 390000) (hd : dp ≤ 30) : canShow x = true := by
  have sz : sizeLine = 16777216 := PySem.sizeLine_eq
  have l := PyData.shown_le 40 (by omega) x h.lv
  have h1 : x.shown.length ≤ sizeLine := by
    have := h.wt
    rw [sz]; omega
  have h2 : x.depth ≤ 30 := Nat.le_trans h.dep hd
  simp [canShow, h.lay, h.sh, h1, h2]
noncomputable def V (n : Nat) (H : HD) (k w : Nat) (d : D) : Prop := ∃ x, (∀ H', Ext n H H' → ∀ m, k ≤ m → toP H' m d = some x) ∧ Sh x w k
theorem V.of {n : Nat} {H : HD} {k w : Nat} {d : D} (h : Showy d w k) : V n H k w d := by
  obtain ⟨x, e, s⟩ := h
  exact ⟨x, fun H' _ m _ => e H' m, s⟩
theorem V.le {n : Nat} {H : HD} {k w k' w' : Nat} {d : D} (h : V n H k w d) (hk : k ≤ k') (hw : w ≤ w') : V n H k' w' d := by
  obtain ⟨x, e, s⟩ := h
  exact ⟨x, fun H' y m hm => e H' y m (Nat.le_trans hk hm), s.lay, s.sh, Nat.le_trans s.dep hk, s.lv, Nat.le_trans s.wt hw⟩
theorem V.ext {n : Nat} {H H1 : HD} {k w : Nat} {d : D} (h : V n H k w d) (y : Ext n H H1) : V n H1 k w d := by
  obtain ⟨x, e, s⟩ := h
  exact ⟨x, fun H' z m hm => e H' (y.trans z) m hm, s⟩
theorem V.same {n : Nat} {H : HD} {k w : Nat} (hf : ∃ a b, H[n]? = some (.lst [.int a, .int b])) : ∀ ds : List D, (∀ e ∈ ds, V n H k w e) → ∀ H', Ext n H H' → ∀ m, k ≤ m → toPs H' m ds = toPs H k ds
  | [], _, H', _, m, _ => by rw [toPs, toPs]
  | d :: ds, h, H', y, m, hm => by
    obtain ⟨x, e, _⟩ := h d (by simp)
    rw [toPs, toPs, e H' y m hm, e H (Ext.refl hf) k (Nat.le_refl _), V.same hf ds (fun z hz => h z (by simp [hz])) H' y m hm]
theorem V.all {n : Nat} {H : HD} {k w : Nat} {ds : List D} (hf : ∃ a b, H[n]? = some (.lst [.int a, .int b])) (h : ∀ e ∈ ds, V n H k w e) :
    ∃ ps, (∀ H', Ext n H H' → ∀ m, k ≤ m → toPs H' m ds = some ps) ∧ Sh (.tuple ps) (ds.length * (w + 1)) (k + 1) ∧ Sh (.list ps) (ds.length * (w + 1)) (k + 1) := by
  obtain ⟨ps, e, a1, a2, a3, a4, a5, _⟩ := sh_all (H := H) (n := k) (w := w) (dp := k) ds fun d hd => by
    obtain ⟨x, e, s⟩ := h d hd
    exact ⟨x, e H (Ext.refl hf) k (Nat.le_refl _), s⟩
  exact ⟨ps, fun H' y m hm => (V.same hf ds h H' y m hm).trans e, ⟨a1, a2, Nat.succ_le_succ a3, a4, a5⟩, ⟨a1, a2, Nat.succ_le_succ a3, a4, a5⟩⟩
theorem V.tup {n : Nat} {H : HD} {k w : Nat} {ds : List D} (hf : ∃ a b, H[n]? = some (.lst [.int a, .int b])) (h : ∀ e ∈ ds, V n H k w e) : V n H (k + 1) (ds.length * (w + 1)) (.tup ds) := by
  obtain ⟨ps, e, s, _⟩ := V.all hf h
  refine ⟨.tuple ps, fun H' y m hm => ?_, s⟩
  have q := e H' y m (by omega)
  cases m <;> rw [toP, q] <;> rfl
theorem V.lst {n : Nat} {H : HD} {k w p : Nat} {ds : List D} (hf : ∃ a b, H[n]? = some (.lst [.int a, .int b])) (hp : p ≠ n) (hd : H[p]? = some (.lst ds)) (h : ∀ e ∈ ds, V n H k w e) : V n H (k + 1) (ds.length * (w + 1)) (.ref p) := by
  obtain ⟨ps, e, _, s⟩ := V.all hf h
  refine ⟨.list ps, fun H' y m hm => ?_, s⟩
  match m, hm with
  | m + 1, hm =>
    rw [toP]
    simp only [y.old p _ hp hd, e H' y m (by omega), Option.map_some]
theorem V.rep {n : Nat} {H : HD} {k w : Nat} {d : D} (h : V n H k w d) (hw : w ≤ 390000) (hk : k ≤ 30) : ∃ t : Str, ∀ H', Ext n H H' → reprD [d] H' = some (.str t, H') := by
  obtain ⟨x, e, s⟩ := h
  refine ⟨x.shown, fun H' y => ?_⟩
  unfold reprD
  simp only [e H' y 30 hk, Option.bind_some, if_pos (s.can' hw hk)]
noncomputable def OkE (H : HD) (d : D) : Prop := ∃ x, toP H 30 d = some x ∧ x.canLay0 = true ∧ x.depth ≤ 30
theorem V.ok {n : Nat} {H : HD} {k w : Nat} {d : D} (hf : ∃ a b, H[n]? = some (.lst [.int a, .int b])) (h : V n H k w d) (hk : k ≤ 30) : OkE H d := by
  obtain ⟨x, e, s⟩ := h
  exact ⟨x, e H (Ext.refl hf) 30 hk, s.lay, Nat.le_trans s.dep hk⟩
theorem okE_items {H : HD} {N : Nat} : ∀ (ds : List D) (ps : List PyData), toPs H N ds = some ps → PyData.canLayAll0 ps = true → PyData.depthAll ps ≤ 29 → ∀ e ∈ ds, ∃ y, toP H N e = some y ∧ y.canLay0 = true ∧ y.depth ≤ 30
  | [], _, _, _, _, e, he => by simp at he
  | d :: ds, ps, h, c, b, e, he => by
    rw [toPs] at h
    obtain ⟨x, e1, h⟩ := Option.bind_eq_some_iff.mp h
    obtain ⟨qs, e2, rfl⟩ := Option.map_eq_some_iff.mp h
    simp only [PyData.canLayAll0, Bool.and_eq_true] at c
    simp only [PyData.depthAll] at b
    rcases List.mem_cons.mp he with rfl | he
    · exact ⟨x, e1, c.1, by omega⟩
    · exact okE_items ds qs e2 c.2 (by omega) e he
theorem OkE.item {H : HD} {ds : List D} (h : OkE H (.tup ds)) : ∀ e ∈ ds, OkE H e := by
  obtain ⟨x, e, c, b⟩ := h
  rw [toP] at e
  obtain ⟨ps, e2, rfl⟩ := Option.map_eq_some_iff.mp e
  simp only [PyData.canLay0] at c
  simp only [PyData.depth] at b
  exact okE_items ds ps e2 c (by omega)
theorem OkE.dat {H : HD} {d : D} (h : OkE H d) : ∃ x, dat d H = some x ∧ toP H 30 d = some x := by
  obtain ⟨x, e, c, b⟩ := h
  refine ⟨x, ?_, e⟩
  unfold DL.dat
  rw [e]
  simp [okP, c, b]
noncomputable def tyOf : D → String
  | .non => "NoneType"
  | .bl _ => "bool"
  | .int _ => "int"
  | .str _ => "str"
  | .tup _ => "tuple"
  | .fl _ => "list"
  | .ref _ => "list"
  | _ => "?"
theorem OkE.ty {H : HD} {d : D} (h : OkE H d) : tyD d H = some (tyOf d) := by
  obtain ⟨x, e, _⟩ := h
  cases d with
  | ty c => rw [toP] at e; cases e
  | ref m =>
    rw [toP] at e
    simp only [tyD, tyOf]
    split at e
    · rfl
    · cases e
  | _ => rfl
end LH
namespace WP
open PySem L2 DL LH
noncomputable def wE (r : Option (D × HD)) (Q : D → HD → Prop) : Prop := ∃ d H, r = some (d, H) ∧ Q d H
noncomputable def wT (r : Option (Bool × HD)) (Q : Bool → HD → Prop) : Prop := ∃ d H, r = some (d, H) ∧ Q d H
noncomputable def wA (r : Option (List D × HD)) (Q : List D → HD → Prop) : Prop := ∃ d H, r = some (d, H) ∧ Q d H
noncomputable def wO (r : Option (Option Int × HD)) (Q : Option Int → HD → Prop) : Prop := ∃ d H, r = some (d, H) ∧ Q d H
noncomputable def wI (r : Option ((List D × OwnD) × HD)) (Q : List D → OwnD → HD → Prop) : Prop := ∃ d o H, r = some ((d, o), H) ∧ Q d o H
noncomputable def wG (r : Option (SD × HD)) (Q : SD → HD → Prop) : Prop := ∃ d H, r = some (d, H) ∧ Q d H
noncomputable def wH (r : Option HD) (Q : HD → Prop) : Prop := ∃ H, r = some H ∧ Q H
noncomputable def wS (r : Option (FD × SD × HD)) (Q : FD → SD → HD → Prop) : Prop := ∃ x d H, r = some (x, d, H) ∧ Q x d H
noncomputable def wN (n : Nat) (F : FF) (ds : List D) (H : HD) (Q : D → HD → Prop) : Prop := ds.length = n ∧ wE (F ds H) Q
noncomputable def br (b : Bool) (P Q : Prop) : Prop := (b = true → P) ∧ (b = false → Q)
noncomputable def kont (k : SD → HD → Prop) (Q : FD → SD → HD → Prop) : FD → SD → HD → Prop
  | .nx, σ, H => k σ H
  | r, σ, H => Q r σ H
noncomputable def fin (Q : D → HD → Prop) : FD → SD → HD → Prop
  | .rt d, _, H => Q d H
  | .nx, _, H => Q .non H
  | _, _, _ => False
section
variable {σ : SD} {H : HD} {Q : D → HD → Prop}
theorem wE.mono {r : Option (D × HD)} {Q' : D → HD → Prop} (h : wE r Q) (q : ∀ d H, Q d H → Q' d H) : wE r Q' := by
  obtain ⟨d, H, e, x⟩ := h; exact ⟨d, H, e, q d H x⟩
theorem wS.mono {r : Option (FD × SD × HD)} {Q Q' : FD → SD → HD → Prop} (h : wS r Q) (q : ∀ x d H, Q x d H → Q' x d H) : wS r Q' := by
  obtain ⟨x, d, H, e, z⟩ := h; exact ⟨x, d, H, e, q x d H z⟩
theorem w_var {i : Nat} {d : D} (h : (σ[i]?).join = some d) (q : Q d H) : wE (eVar i σ H) Q := ⟨d, H, by unfold eVar; rw [h]; rfl, q⟩
theorem w_c {d : D} (q : Q d H) : wE (eC d σ H) Q := ⟨d, H, rfl, q⟩
theorem w_op {g : F2} {fa fb : EF} (h : wE (fa σ H) fun x H1 => wE (fb σ H1) fun y H2 => wE (g x y H2) Q) : wE (eOp g fa fb σ H) Q := by
  obtain ⟨x, H1, e1, y, H2, e2, d, H3, e3, q⟩ := h
  exact ⟨d, H3, op e1 e2 e3, q⟩
theorem w_un {g : D → HD → Option (D × HD)} {fa : EF} (h : wE (fa σ H) fun x H1 => wE (g x H1) Q) : wE (eUn g fa σ H) Q := by
  obtain ⟨x, H1, e1, d, H3, e3, q⟩ := h
  exact ⟨d, H3, by unfold eUn; rw [e1]; exact e3, q⟩
theorem w_ch {g g' : F2} {fa fb fc : EF} (h : wE (fa σ H) fun x H1 => wE (fb σ H1) fun y H2 => wE (g x y H2) fun z H3 => ∃ k, z = .bl k ∧ br k (wE (fc σ H3) fun w H4 => wE (g' y w H4) Q) (Q (.bl false) H3)) : wE (eCh g g' fa fb fc σ H) Q := by
  obtain ⟨x, H1, e1, y, H2, e2, z, H3, e3, k, rfl, b1, b2⟩ := h
  unfold eCh
  rw [e1]; simp only [Option.bind_some]; rw [e2]; simp only [Option.bind_some]; rw [e3]; simp only [Option.bind_some, blD]
  cases k with
  | true =>
    obtain ⟨w, H4, e4, d, H5, e5, q⟩ := b1 rfl
    exact ⟨d, H5, by rw [if_pos rfl, e4]; exact e5, q⟩
  | false => exact ⟨.bl false, H3, by rw [if_neg (by simp)], b2 rfl⟩
theorem w_tof {f : EF} {Q : Bool → HD → Prop} (h : wE (f σ H) fun d H1 => ∃ b, d = .bl b ∧ Q b H1) : wT (tOf f σ H) Q := by
  obtain ⟨d, H1, e, b, rfl, q⟩ := h
  exact ⟨b, H1, tof e, q⟩
theorem w_bl {b : Bool} {P : Bool → Prop} (h : P b) : ∃ c, D.bl b = .bl c ∧ P c := ⟨b, rfl, h⟩
theorem w_ttru {f : EF} {Q : Bool → HD → Prop} (h : wE (f σ H) fun d H1 => ∃ b, truD d H1 = some b ∧ Q b H1) : wT (tTru f σ H) Q := by
  obtain ⟨d, H1, e, b, e2, q⟩ := h
  exact ⟨b, H1, by unfold tTru; rw [e]; simp only [Option.bind_some]; rw [e2]; rfl, q⟩
theorem w_no {t : TF} {Q : Bool → HD → Prop} (h : wT (t σ H) fun b H1 => Q (!b) H1) : wT (tNo t σ H) Q := by
  obtain ⟨b, H1, e, q⟩ := h
  exact ⟨!b, H1, by unfold tNo; rw [e]; rfl, q⟩
theorem w_an {t u : TF} {Q : Bool → HD → Prop} (h : wT (t σ H) fun b H1 => br b (wT (u σ H1) Q) (Q false H1)) : wT (tAn t u σ H) Q := by
  obtain ⟨b, H1, e, q1, q2⟩ := h
  cases b with
  | true => obtain ⟨c, H2, e2, q⟩ := q1 rfl; exact ⟨c, H2, (anT e).trans e2, q⟩
  | false => exact ⟨false, H1, anF e, q2 rfl⟩
theorem w_or {t u : TF} {Q : Bool → HD → Prop} (h : wT (t σ H) fun b H1 => br b (Q true H1) (wT (u σ H1) Q)) : wT (tOrr t u σ H) Q := by
  obtain ⟨b, H1, e, q1, q2⟩ := h
  cases b with
  | true => exact ⟨true, H1, orT e, q1 rfl⟩
  | false => obtain ⟨c, H2, e2, q⟩ := q2 rfl; exact ⟨c, H2, (orF e).trans e2, q⟩
theorem w_eno {f : EF} (h : wE (f σ H) fun d H1 => ∃ b, d = .bl b ∧ Q (.bl (!b)) H1) : wE (eNo f σ H) Q := by
  obtain ⟨d, H1, e, b, rfl, q⟩ := h
  exact ⟨.bl (!b), H1, by unfold eNo; rw [e]; rfl, q⟩
theorem w_ean {f g : EF} (h : wE (f σ H) fun d H1 => ∃ b, d = .bl b ∧ br b (wE (g σ H1) Q) (Q (.bl false) H1)) : wE (eAn f g σ H) Q := by
  obtain ⟨d, H1, e, b, rfl, q1, q2⟩ := h
  unfold eAn
  rw [e]; simp only [Option.bind_some, blD]
  cases b with
  | true => rw [if_pos rfl]; exact q1 rfl
  | false => rw [if_neg (by simp)]; exact ⟨_, _, rfl, q2 rfl⟩
theorem w_eorr {f g : EF} (h : wE (f σ H) fun d H1 => ∃ b, d = .bl b ∧ br b (Q (.bl true) H1) (wE (g σ H1) Q)) : wE (eOrr f g σ H) Q := by
  obtain ⟨d, H1, e, b, rfl, q1, q2⟩ := h
  unfold eOrr
  rw [e]; simp only [Option.bind_some, blD]
  cases b with
  | true => rw [if_pos rfl]; exact ⟨_, _, rfl, q1 rfl⟩
  | false => rw [if_neg (by simp)]; exact q2 rfl
theorem w_eif {t : TF} {f g : EF} (h : wT (t σ H) fun b H1 => br b (wE (f σ H1) Q) (wE (g σ H1) Q)) : wE (eIf t f g σ H) Q := by
  obtain ⟨b, H1, e, q1, q2⟩ := h
  unfold eIf
  rw [e]; simp only [Option.bind_some]
  cases b with
  | true => rw [if_pos rfl]; exact q1 rfl
  | false => rw [if_neg (by simp)]; exact q2 rfl
theorem w_anil {Q : List D → HD → Prop} (q : Q [] H) : wA (aNil σ H) Q := ⟨[], H, rfl, q⟩
theorem w_acons {f : EF} {g : AF} {Q : List D → HD → Prop} (h : wE (f σ H) fun d H1 => wA (g σ H1) fun ds H2 => Q (d :: ds) H2) : wA (aCons f g σ H) Q := by
  obtain ⟨d, H1, e1, ds, H2, e2, q⟩ := h
  exact ⟨d :: ds, H2, ac e1 e2, q⟩
theorem w_cb {g : FF} {f : AF} (h : wA (f σ H) fun ds H1 => wE (g ds H1) Q) : wE (eCB g f σ H) Q := by
  obtain ⟨ds, H1, e1, d, H2, e2, q⟩ := h
  exact ⟨d, H2, cb e1 e2, q⟩
theorem w_call {n : Nat} {F : FF} {f : AF} (h : wA (f σ H) fun ds H1 => wN n F ds H1 Q) : wE (eCall n F f σ H) Q := by
  obtain ⟨ds, H1, e1, hl, d, H2, e2, q⟩ := h
  exact ⟨d, H2, ca e1 hl e2, q⟩
theorem w_n {n : Nat} {F : FF} {ds : List D} (hl : ds.length = n) (h : wE (F ds H) Q) : wN n F ds H Q := ⟨hl, h⟩
theorem w_tup {f : AF} (h : wA (f σ H) fun ds H1 => ds.length ≤ 1000000 ∧ Q (.tup ds) H1) : wE (eTup f σ H) Q := by
  obtain ⟨ds, H1, e1, hl, q⟩ := h
  exact ⟨_, H1, tp e1 hl, q⟩
theorem w_lst {f : AF} (h : wA (f σ H) fun ds H1 => ds.length ≤ 1000000 ∧ Q (.ref H1.length) (H1 ++ [.lst ds])) : wE (eLst f σ H) Q := by
  obtain ⟨ds, H1, e1, hl, q⟩ := h
  exact ⟨_, _, ls e1 hl, q⟩
theorem w_lm {g : D → List D → HD → Option (D × HD)} {fo : EF} {f : AF} (h : wE (fo σ H) fun o H1 => isLst o H1 = true ∧ wA (f σ H1) fun ds H2 => wE (g o ds H2) Q) : wE (eLM g fo f σ H) Q := by
  obtain ⟨o, H1, e1, i, ds, H2, e2, d, H3, e3, q⟩ := h
  exact ⟨d, H3, by unfold eLM; rw [e1]; simp only [Option.bind_some]; rw [if_pos i, e2]; exact e3, q⟩
theorem w_tm {g : D → List D → HD → Option (D × HD)} {fo : EF} {f : AF} (h : wE (fo σ H) fun o H1 => isTup o = true ∧ wA (f σ H1) fun ds H2 => wE (g o ds H2) Q) : wE (eTM g fo f σ H) Q := by
  obtain ⟨o, H1, e1, i, ds, H2, e2, d, H3, e3, q⟩ := h
  exact ⟨d, H3, by unfold eTM; rw [e1]; simp only [Option.bind_some]; rw [if_pos i, e2]; exact e3, q⟩
theorem w_dm {g : D → List D → HD → Option (D × HD)} {fo : EF} {f : AF} (h : wE (fo σ H) fun o H1 => isDic o H1 = true ∧ wA (f σ H1) fun ds H2 => wE (g o ds H2) Q) : wE (eDM g fo f σ H) Q := by
  obtain ⟨o, H1, e1, i, ds, H2, e2, d, H3, e3, q⟩ := h
  exact ⟨d, H3, by unfold eDM; rw [e1]; simp only [Option.bind_some]; rw [if_pos i, e2]; exact e3, q⟩
theorem w_dn (q : Q (.ref H.length) (H ++ [.dic [] false])) : wE (eDN σ H) Q := ⟨_, _, rfl, q⟩
theorem w_on {Q : Option Int → HD → Prop} (q : Q none H) : wO (oNone σ H) Q := ⟨none, H, rfl, q⟩
theorem w_os {f : EF} {Q : Option Int → HD → Prop} (h : wE (f σ H) fun d H1 => ∃ i, d = .int i ∧ Q (some i) H1) : wO (oSome f σ H) Q := by
  obtain ⟨d, H1, e, i, rfl, q⟩ := h
  exact ⟨some i, H1, os e, q⟩
theorem w_int {i : Int} {P : Int → Prop} (h : P i) : ∃ c, D.int i = .int c ∧ P c := ⟨i, rfl, h⟩
theorem w_sl {fe : EF} {fl fh : OF} (h : wE (fe σ H) fun x H1 => wO (fl σ H1) fun l H2 => wO (fh σ H2) fun u H3 => wE (slD x l u H3) Q) : wE (eSl fe fl fh σ H) Q := by
  obtain ⟨x, H1, e1, l, H2, e2, u, H3, e3, d, H4, e4, q⟩ := h
  exact ⟨d, H4, sl e1 e2 e3 e4, q⟩
theorem w_rv {fe : EF} (h : wE (fe σ H) fun x H1 => ∃ xs, x = .tup xs ∧ xs.length ≤ 1000000 ∧ Q (.tup xs.reverse) H1) : wE (eRv fe σ H) Q := by
  obtain ⟨x, H1, e1, xs, rfl, hl, q⟩ := h
  exact ⟨_, H1, by unfold eRv; rw [e1]; exact if_pos (size_ok (by rw [List.length_reverse]; exact hl)), q⟩
variable {R : FD → SD → HD → Prop}
theorem w_snil (q : R .nx σ H) : wS (sNil σ H) R := ⟨_, _, _, rfl, q⟩
theorem w_seq {f g : SF} (h : wS (f σ H) (kont (fun σ1 H1 => wS (g σ1 H1) R) R)) : wS (sSeq f g σ H) R := by
  obtain ⟨x, σ1, H1, e, k⟩ := h
  unfold sSeq
  rw [e]; simp only [Option.bind_some]
  cases x with
  | nx => exact k
  | bk => exact ⟨_, _, _, rfl, k⟩
  | ct => exact ⟨_, _, _, rfl, k⟩
  | rt d => exact ⟨_, _, _, rfl, k⟩
theorem w_kn {k : SD → HD → Prop} (h : k σ H) : kont k R .nx σ H := h
theorem w_kr {k : SD → HD → Prop} {d : D} (h : R (.rt d) σ H) : kont k R (.rt d) σ H := h
theorem w_kb {k : SD → HD → Prop} (h : R .bk σ H) : kont k R .bk σ H := h
theorem w_kc {k : SD → HD → Prop} (h : R .ct σ H) : kont k R .ct σ H := h
theorem w_cut {r : Option (FD × SD × HD)} {k : SD → HD → Prop} (J : SD → HD → Prop) (h : wS r fun x σ H => x = .nx ∧ J σ H) (q : ∀ σ H, J σ H → k σ H) : wS r (kont k R) := by
  obtain ⟨x, s, H, e, rfl, j⟩ := h
  exact ⟨_, s, H, e, q s H j⟩
theorem w_fr {d : D} (h : Q d H) : fin Q (.rt d) σ H := h
theorem w_fn (h : Q .non H) : fin Q .nx σ H := h
theorem w_ret {f : EF} (h : wE (f σ H) fun d H1 => R (.rt d) σ H1) : wS (sRet f σ H) R := by
  obtain ⟨d, H1, e, q⟩ := h; exact ⟨_, _, _, rt e, q⟩
theorem w_retn (h : R (.rt .non) σ H) : wS (sRetN σ H) R := ⟨_, _, _, rfl, h⟩
theorem w_brk (h : R .bk σ H) : wS (sBrk σ H) R := ⟨_, _, _, rfl, h⟩
theorem w_cnt (h : R .ct σ H) : wS (sCnt σ H) R := ⟨_, _, _, rfl, h⟩
theorem w_expr {f : EF} (h : wE (f σ H) fun d H1 => R .nx σ H1) : wS (sExpr f σ H) R := by
  obtain ⟨d, H1, e, q⟩ := h; exact ⟨_, _, _, by unfold sExpr; rw [e]; rfl, q⟩
theorem w_if {t : TF} {f g : SF} (h : wT (t σ H) fun b H1 => br b (wS (f σ H1) R) (wS (g σ H1) R)) : wS (sIf t f g σ H) R := by
  obtain ⟨b, H1, e, q1, q2⟩ := h
  rw [iff_t e]
  cases b with
  | true => rw [if_pos rfl]; exact q1 rfl
  | false => rw [if_neg (by simp)]; exact q2 rfl
theorem w_set {i : Nat} {f : EF} (h : wE (f σ H) fun d H1 => R .nx (σ.set i (some d)) H1) : wS (sSet i f σ H) R := by
  obtain ⟨d, H1, e, q⟩ := h; exact ⟨_, _, _, by unfold sSet; rw [e]; rfl, q⟩
theorem w_asg {f : EF} {g : GF} (h : wE (f σ H) fun d H1 => wG (g d σ H1) fun σ2 H2 => R .nx σ2 H2) : wS (sAsg f g σ H) R := by
  obtain ⟨d, H1, e, σ2, H2, e2, q⟩ := h; exact ⟨_, _, _, by unfold sAsg; rw [e]; simp only [Option.bind_some]; rw [e2]; rfl, q⟩
theorem w_gnm {i : Nat} {d : D} {Q : SD → HD → Prop} (h : Q (σ.set i (some d)) H) : wG (gNm i d σ H) Q := ⟨_, _, rfl, h⟩
theorem w_gsb {fo fi : EF} {g : FSet} {d : D} {Q : SD → HD → Prop} (h : wE (fo σ H) fun o H1 => wE (fi σ H1) fun i H2 => wH (g o i d H2) fun H3 => Q σ H3) : wG (gSb fo fi g d σ H) Q := by
  obtain ⟨o, H1, e1, i, H2, e2, H3, e3, q⟩ := h
  exact ⟨σ, H3, by unfold gSb; rw [e1]; simp only [Option.bind_some]; rw [e2]; simp only [Option.bind_some]; rw [e3]; rfl, q⟩
theorem w_gtp {n : Nat} {g : GFs} {ds : List D} {Q : SD → HD → Prop} (hl : ds.length = n) (h : wG (g ds σ H) Q) : wG (gTp n g (.tup ds) σ H) Q := by
  obtain ⟨s, H1, e, q⟩ := h
  exact ⟨s, H1, by unfold gTp; simp only [if_pos hl]; exact e, q⟩
theorem w_gnl {Q : SD → HD → Prop} (h : Q σ H) : wG (gNl [] σ H) Q := ⟨_, _, rfl, h⟩
theorem w_gcn {g : GF} {h : GFs} {d : D} {r : List D} {Q : SD → HD → Prop} (q : wG (g d σ H) fun σ1 H1 => wG (h r σ1 H1) Q) : wG (gCn g h (d :: r) σ H) Q := by
  obtain ⟨s, H1, e, s2, H2, e2, q⟩ := q
  exact ⟨s2, H2, by unfold gCn; simp only; rw [e]; exact e2, q⟩
theorem w_for {it : ItF} {g : GF} {b : SF} (h : wI (it σ H) fun xs own H1 => wS (forL own g b xs σ H1) R) : wS (sFor it g b σ H) R := by
  obtain ⟨xs, own, H1, e, q⟩ := h
  unfold sFor; rw [e]; exact q
theorem w_run {n N : Nat} {b : SF} {ds : List D} (hl : ds.length = n) (h : wS (b (ds.map some ++ List.replicate (N - ds.length) none) H) (fin Q)) : wE (runB n N b ds H) Q := by
  obtain ⟨x, s, H1, e, q⟩ := h
  unfold runB
  rw [if_pos hl, e]
  simp only [Option.bind_some]
  cases x with
  | nx => exact ⟨_, _, rfl, q⟩
  | rt d => exact ⟨_, _, rfl, q⟩
  | bk => exact q.elim
  | ct => exact q.elim
theorem w_lc {it : ItF} {ci : List Nat} {tt : TF} {te : EF} (h : wI (it σ H) fun xs own H1 => wA (compL own (capD ci σ) tt te xs H1) fun ds H2 => ds.length ≤ 1000000 ∧ Q (.ref H2.length) (H2 ++ [.lst ds])) : wE (eLC it ci tt te σ H) Q := by
  obtain ⟨xs, own, H1, e, ds, H2, e2, hl, q⟩ := h
  exact ⟨_, _, by unfold eLC; rw [e]; simp only [Option.bind_some]; rw [e2]; exact if_pos (size_ok hl), q⟩
theorem w_bt {P S : Prop} (h : P) : br true P S := ⟨fun _ => h, nofun⟩
theorem w_bf {P S : Prop} (h : S) : br false P S := ⟨nofun, fun _ => h⟩
theorem w_bnt {P S : Prop} (h : P) : br (!false) P S := ⟨fun _ => h, nofun⟩
theorem w_bnf {P S : Prop} (h : S) : br (!true) P S := ⟨nofun, fun _ => h⟩
theorem w_bT {b : Bool} {P S : Prop} (e : b = true) (h : P) : br b P S := by subst e; exact w_bt h
theorem w_bF {b : Bool} {P S : Prop} (e : b = false) (h : S) : br b P S := by subst e; exact w_bf h
theorem w_sz {ds : List D} {P : Prop} (h : ds.length ≤ 1000000) (q : P) : ds.length ≤ 1000000 ∧ P := ⟨h, q⟩
theorem w_addI {i j : Int} (q : Q (.int (i + j)) H) : wE (addD (.int i) (.int j) H) Q := ⟨_, _, rfl, q⟩
theorem w_addT {a b : List D} (h : a.length + b.length ≤ 1000000) (q : Q (.tup (a ++ b)) H) : wE (addD (.tup a) (.tup b) H) Q := ⟨_, _, adT h, q⟩
theorem w_subI {i j : Int} (q : Q (.int (i - j)) H) : wE (subD (.int i) (.int j) H) Q := ⟨_, _, suI i j H, q⟩
theorem w_lt {i j : Int} (q : Q (.bl (decide (i < j))) H) : wE (ltD (.int i) (.int j) H) Q := ⟨_, _, by simp [ltD, iiD, CT], q⟩
theorem w_le {i j : Int} (q : Q (.bl (decide (i ≤ j))) H) : wE (leD (.int i) (.int j) H) Q := ⟨_, _, by simp [leD, iiD, CT], q⟩
theorem w_gt {i j : Int} (q : Q (.bl (decide (j < i))) H) : wE (gtD (.int i) (.int j) H) Q := ⟨_, _, by simp [gtD, iiD, CT], q⟩
theorem w_ge {i j : Int} (q : Q (.bl (decide (j ≤ i))) H) : wE (geD (.int i) (.int j) H) Q := ⟨_, _, by simp [geD, iiD, CT], q⟩
theorem w_mod {i j : Int} (h : 0 < j) (q : Q (.int (i % j)) H) : wE (modD (.int i) (.int j) H) Q := ⟨_, _, by have c : CPos i j := h; simp [modD, iiD, c], q⟩
theorem w_fdiv {i j : Int} (h : 0 < j) (h2 : j < 1073741824) (q : Q (.int (i / j)) H) : wE (fdivD (.int i) (.int j) H) Q := ⟨_, _, by have c : CDiv i j := ⟨h, h2⟩; simp [fdivD, iiD, c], q⟩
theorem w_mulL {i j : Int} (h1 : -(2 ^ 64) < i) (h2 : i < 2 ^ 64) (q : Q (.int (i * j)) H) : wE (mulD (.int i) (.int j) H) Q := ⟨_, _, by have c : CMul i j := .inl ⟨h1, h2⟩; simp [mulD, c], q⟩
theorem w_mulR {i j : Int} (h1 : -(2 ^ 64) < j) (h2 : j < 2 ^ 64) (q : Q (.int (i * j)) H) : wE (mulD (.int i) (.int j) H) Q := ⟨_, _, by have c : CMul i j := .inr ⟨h1, h2⟩; simp [mulD, c], q⟩
theorem w_pow {i j : Int} (h1 : 0 ≤ j) (h2 : j ≤ 1000000) (h3 : i.natAbs < 2 ^ 64) (q : Q (.int (i ^ j.toNat)) H) : wE (powD (.int i) (.int j) H) Q := ⟨_, _, by have c : CPow i j := ⟨h1, h2, h3⟩; simp [powD, iiD, c], q⟩
theorem w_neg {i : Int} (q : Q (.int (-i)) H) : wE (negD (.int i) H) Q := ⟨_, _, rfl, q⟩
theorem w_eqI {i j : Int} (q : Q (.bl (i == j)) H) : wE (eqD (.int i) (.int j) H) Q := ⟨_, _, eq_int _ _ _, q⟩
theorem w_eqS {a b : Str} (q : Q (.bl (a == b)) H) : wE (eqD (.str a) (.str b) H) Q := ⟨_, _, rfl, q⟩
theorem w_neS {a b : Str} (q : Q (.bl (a != b)) H) : wE (neD (.str a) (.str b) H) Q := ⟨_, _, rfl, q⟩
theorem w_lenT {xs : List D} (q : Q (.int xs.length) H) : wE (lenD [.tup xs] H) Q := ⟨_, _, lenT xs H, q⟩
theorem w_lenR {n : Nat} {xs : List D} (h : H[n]? = some (.lst xs)) (q : Q (.int xs.length) H) : wE (lenD [.ref n] H) Q := ⟨_, _, by simp [lenD, seqD, h], q⟩
theorem w_lenF {xs : List D} (q : Q (.int xs.length) H) : wE (lenD [.fl xs] H) Q := ⟨_, _, by simp [lenD, seqD], q⟩
theorem w_abs {i : Int} (q : Q (.int (absZ i)) H) : wE (absD [.int i] H) Q := ⟨_, _, rfl, q⟩
theorem w_ixT {xs : List D} {i : Int} {d : D} (h : atI xs i = some d) (q : Q d H) : wE (ixD (.tup xs) (.int i) H) Q := ⟨_, _, ixT h, q⟩
theorem w_ixR {n : Nat} {xs : List D} {i : Int} {d : D} (g : H[n]? = some (.lst xs)) (h : atI xs i = some d) (q : Q d H) : wE (ixD (.ref n) (.int i) H) Q := ⟨_, _, by simp [ixD, seqD, g, h], q⟩
theorem w_ixF {xs : List D} {i : Int} {d : D} (h : atI xs i = some d) (q : Q d H) : wE (ixD (.fl xs) (.int i) H) Q := ⟨_, _, by simp [ixD, seqD, h], q⟩
theorem w_intI {i : Int} (q : Q (.int i) H) : wE (intD [.int i] H) Q := ⟨_, _, rfl, q⟩
theorem w_intB {b : Bool} (q : Q (.int (if b then 1 else 0)) H) : wE (intD [.bl b] H) Q := ⟨_, _, rfl, q⟩
theorem w_max {i j : Int} (q : Q (.int (if j > i then j else i)) H) : wE (maxD [.int i, .int j] H) Q := ⟨_, _, rfl, q⟩
theorem w_min {i j : Int} (q : Q (.int (if j < i then j else i)) H) : wE (minD [.int i, .int j] H) Q := ⟨_, _, rfl, q⟩
theorem w_tupR {n : Nat} {xs : List D} (h : H[n]? = some (.lst xs)) (q : Q (.tup xs) H) : wE (tupleD [.ref n] H) Q := ⟨_, _, tu h, q⟩
theorem w_app {n : Nat} {xs : List D} {d : D} (h : H[n]? = some (.lst xs)) (hl : xs.length < 1000000) (q : Q .non (H.set n (.lst (xs ++ [d])))) : wE (appendD (.ref n) [d] H) Q :=
  ⟨_, _, by simp [appendD, h, Nat.lt_of_lt_of_le hl (size_ok (Nat.le_refl _))], q⟩
theorem w_isi {d : D} {c t : String} (ha : asked c = true) (h : tyD d H = some t) (q : Q (.bl (t == c || (t == "bool" && c == "int"))) H) : wE (isiD [d, .ty c] H) Q := ⟨_, _, by simp [isiD, ha, h], q⟩
theorem w_isN {d : D} {b : Bool} (h : isB d .non = some b) (q : Q (.bl b) H) : wE (isD d .non H) Q := ⟨_, _, by simp [isD, h], q⟩
theorem w_isnN {d : D} {b : Bool} (h : isB d .non = some b) (q : Q (.bl (!b)) H) : wE (isnD d .non H) Q := ⟨_, _, by simp [isnD, h], q⟩
theorem w_isBl {d : D} {c b : Bool} (h : isB d (.bl c) = some b) (q : Q (.bl b) H) : wE (isD d (.bl c) H) Q := ⟨_, _, by simp [isD, h], q⟩
theorem w_isnBl {d : D} {c b : Bool} (h : isB d (.bl c) = some b) (q : Q (.bl (!b)) H) : wE (isnD d (.bl c) H) Q := ⟨_, _, by simp [isnD, h], q⟩
theorem w_dlen {n : Nat} {kvs : List (D × D)} {fz : Bool} (h : H[n]? = some (.dic kvs fz)) (q : Q (.int kvs.length) H) : wE (dlenD [.ref n] H) Q := ⟨_, _, by simp [dlenD, dicD, h], q⟩
theorem w_truB {b : Bool} {P : Bool → Prop} (h : P b) : ∃ c, truD (.bl b) H = some c ∧ P c := ⟨b, rfl, h⟩
theorem w_truT {xs : List D} {P : Bool → Prop} (h : P (!xs.isEmpty)) : ∃ c, truD (.tup xs) H = some c ∧ P c := ⟨_, rfl, h⟩
theorem w_truN {P : Bool → Prop} (h : P false) : ∃ c, truD .non H = some c ∧ P c := ⟨_, rfl, h⟩
theorem w_isi' {d : D} {c t : String} {r : Bool} (ha : asked c = true) (h : tyD d H = some t) (hr : (t == c || (t == "bool" && c == "int")) = r) (q : Q (.bl r) H) : wE (isiD [d, .ty c] H) Q := w_isi ha h (by rw [hr]; exact q)
theorem w_eqS' {a b : Str} {r : Bool} (hr : (a == b) = r) (q : Q (.bl r) H) : wE (eqD (.str a) (.str b) H) Q := w_eqS (by rw [hr]; exact q)
theorem w_neS' {a b : Str} {r : Bool} (hr : (a == b) = r) (q : Q (.bl (!r)) H) : wE (neD (.str a) (.str b) H) Q := w_neS (by rw [bne, hr]; exact q)
theorem w_eqI' {a b : Int} {r : Bool} (hr : (a == b) = r) (q : Q (.bl r) H) : wE (eqD (.int a) (.int b) H) Q := w_eqI (by rw [hr]; exact q)
theorem w_slhi {xs : List D} {k : Nat} (q : Q (.tup (xs.take k)) H) : wE (slD (.tup xs) none (some (k : Int)) H) Q := ⟨_, _, slhi, q⟩
theorem w_sllo {xs : List D} {k : Nat} (q : Q (.tup (xs.drop k)) H) : wE (slD (.tup xs) (some (k : Int)) none H) Q := ⟨_, _, sllo, q⟩
theorem w_sllo1 {xs : List D} {k : Nat} (q : Q (.tup (xs.drop (k + 1))) H) : wE (slD (.tup xs) (some ((k : Int) + 1)) none H) Q := ⟨_, _, sllo (k := k + 1), q⟩
variable {I : List D → OwnD → HD → Prop}
theorem w_isq {f : EF} (h : wE (f σ H) fun d H1 => ∃ xs own, itemsD d H1 = some (xs, own) ∧ I xs own H1) : wI (iSq f σ H) I := by
  obtain ⟨d, H1, e, xs, own, e2, q⟩ := h
  exact ⟨xs, own, H1, by unfold iSq; rw [e]; simp only [Option.bind_some]; rw [e2]; rfl, q⟩
theorem w_itT {xs : List D} {P : List D → OwnD → Prop} (h : P xs []) : ∃ ys own, itemsD (.tup xs) H = some (ys, own) ∧ P ys own := ⟨_, _, rfl, h⟩
theorem w_itF {xs : List D} {P : List D → OwnD → Prop} (h : P xs []) : ∃ ys own, itemsD (.fl xs) H = some (ys, own) ∧ P ys own := ⟨_, _, rfl, h⟩
theorem w_itR {n : Nat} {xs : List D} {P : List D → OwnD → Prop} (g : H[n]? = some (.lst xs)) (h : P xs [(n, .lst xs)]) : ∃ ys own, itemsD (.ref n) H = some (ys, own) ∧ P ys own := ⟨_, _, by simp [itemsD, g], h⟩
theorem w_ir1 {f : AF} (h : wA (f σ H) fun ds H1 => ∃ j, ds = [.int j] ∧ smallI j ∧ I (rangeL 0 j.toNat) [] H1) : wI (iR1 f σ H) I := by
  obtain ⟨ds, H1, e, j, rfl, s, q⟩ := h
  exact ⟨_, _, H1, by unfold iR1; rw [e]; exact if_pos s, q⟩
theorem w_ir2 {f : AF} (h : wA (f σ H) fun ds H1 => ∃ i j, ds = [.int i, .int j] ∧ smallI i ∧ smallI j ∧ I (rangeL i (j - i).toNat) [] H1) : wI (iR2 f σ H) I := by
  obtain ⟨ds, H1, e, i, j, rfl, s1, s2, q⟩ := h
  exact ⟨_, _, H1, by unfold iR2; rw [e]; exact if_pos ⟨s1, s2⟩, q⟩
theorem w_ir3 {f : AF} (h : wA (f σ H) fun ds H1 => ∃ i j c, ds = [.int i, .int j, .int c] ∧ small3 i j c ∧ I (rangeL3 i c (size3 i j c)) [] H1) : wI (iR3 f σ H) I := by
  obtain ⟨ds, H1, e, i, j, c, rfl, s1, q⟩ := h
  exact ⟨_, _, H1, by unfold iR3; rw [e]; exact if_pos s1, q⟩
theorem w_idic {f : EF} (h : wE (f σ H) fun d H1 => ∃ n kvs fz, d = .ref n ∧ H1[n]? = some (.dic kvs fz) ∧ I (kvs.map (·.1)) [(n, .dic kvs true)] (H1.set n (.dic kvs true))) : wI (iDic f σ H) I := by
  obtain ⟨d, H1, e, n, kvs, fz, rfl, g, q⟩ := h
  exact ⟨_, _, _, by unfold iDic; rw [e]; simp only [Option.bind_some, g], q⟩
theorem w_enum {f : AF} (h : wA (f σ H) fun ds H1 => ∃ xs, ds = [.tup xs] ∧ I (enumL 0 xs) [] H1) : wI (iEnum f σ H) I := by
  obtain ⟨ds, H1, e, xs, rfl, q⟩ := h
  exact ⟨_, _, H1, by unfold iEnum; rw [e]; rfl, q⟩
theorem w_enum1 {f : AF} (h : wA (f σ H) fun ds H1 => ∃ xs, ds = [.tup xs] ∧ I (enumL 1 xs) [] H1) : wI (iEnum1 f σ H) I := by
  obtain ⟨ds, H1, e, xs, rfl, q⟩ := h
  exact ⟨_, _, H1, by unfold iEnum1; rw [e]; rfl, q⟩
theorem w_zip {f : AF} (h : wA (f σ H) fun ds H1 => ∃ d1 d2 a b, ds = [d1, d2] ∧ srcD d1 H1 = some a ∧ srcD d2 H1 = some b ∧ I (zipL a.1 b.1) (a.2 ++ b.2) H1) : wI (iZipS f σ H) I := by
  obtain ⟨ds, H1, e, d1, d2, a, b, rfl, e1, e2, q⟩ := h
  exact ⟨_, _, H1, by unfold iZipS; rw [e]; simp only [Option.bind_some]; rw [e1]; simp only [Option.bind_some]; rw [e2]; rfl, q⟩
theorem w_fnil {own : OwnD} {g : GF} {b : SF} (h : okOwn own H) (q : R .nx σ H) : wS (forL own g b [] σ H) R := ⟨_, _, _, by rw [forL, if_pos h], q⟩
noncomputable def again (k : SD → HD → Prop) (R : FD → SD → HD → Prop) : FD → SD → HD → Prop
  | .nx, σ, H => k σ H
  | .ct, σ, H => k σ H
  | .bk, σ, H => R .nx σ H
  | .rt d, σ, H => R (.rt d) σ H
theorem w_fcons {own : OwnD} {g : GF} {b : SF} {x : D} {r : List D} (h : okOwn own H) (q : wG (g x σ H) fun σ1 H1 => wS (b σ1 H1) (again (fun σ2 H2 => wS (forL own g b r σ2 H2) R) R)) : wS (forL own g b (x :: r) σ H) R := by
  obtain ⟨σ1, H1, e1, y, σ2, H2, e2, q⟩ := q
  rw [forL, if_pos h, e1]
  simp only [Option.bind_some]
  rw [e2]
  cases y with
  | nx => exact q
  | ct => exact q
  | bk => exact ⟨_, _, _, rfl, q⟩
  | rt d => exact ⟨_, _, _, rfl, q⟩
theorem w_agn {k : SD → HD → Prop} (h : k σ H) : again k R .nx σ H := h
theorem w_agc {k : SD → HD → Prop} (h : k σ H) : again k R .ct σ H := h
theorem w_agb {k : SD → HD → Prop} (h : R .nx σ H) : again k R .bk σ H := h
theorem w_agr {k : SD → HD → Prop} {d : D} (h : R (.rt d) σ H) : again k R (.rt d) σ H := h
theorem w_loop {own : OwnD} {g : GF} {b : SF} (Inv : List D → List D → SD → HD → Prop) (ho : ∀ d t σ H, Inv d t σ H → okOwn own H)
    (st : ∀ d x t σ H, Inv d (x :: t) σ H → wG (g x σ H) fun σ1 H1 => wS (b σ1 H1) (again (fun σ2 H2 => Inv (d ++ [x]) t σ2 H2) R))
    (q : ∀ d σ H, Inv d [] σ H → R .nx σ H) : ∀ (t d : List D) (σ : SD) (H : HD), Inv d t σ H → wS (forL own g b t σ H) R
  | [], d, σ, H, i => w_fnil (ho _ _ _ _ i) (q d σ H i)
  | x :: t, d, σ, H, i => by
    refine w_fcons (ho _ _ _ _ i) ?_
    obtain ⟨σ1, H1, e1, y, σ2, H2, e2, k⟩ := st d x t σ H i
    refine ⟨σ1, H1, e1, y, σ2, H2, e2, ?_⟩
    cases y with
    | nx => exact w_loop Inv ho st q t _ σ2 H2 k
    | ct => exact w_loop Inv ho st q t _ σ2 H2 k
    | bk => exact k
    | rt d => exact k
theorem w_wh {t : TF} {b : SF} {n : Nat} (h : wT (t σ H) fun x H1 => br x (wS (b σ H1) (again (fun σ2 H2 => wS (sWh t b n σ2 H2) R) R)) (R .nx σ H1)) : wS (sWh t b (n + 1) σ H) R := by
  obtain ⟨x, H1, e, q1, q2⟩ := h
  rw [sWh]
  dsimp only
  rw [e]
  simp only [Option.bind_some]
  cases x with
  | true =>
    rw [if_pos rfl]
    obtain ⟨y, σ2, H2, e2, q⟩ := q1 rfl
    rw [e2]
    cases y with
    | nx => exact q
    | ct => exact q
    | bk => exact ⟨_, _, _, rfl, q⟩
    | rt d => exact ⟨_, _, _, rfl, q⟩
  | false => rw [if_neg (by simp)]; exact ⟨_, _, _, rfl, q2 rfl⟩
theorem w_while {t : TF} {b : SF} (Inv : Nat → SD → HD → Prop) (st : ∀ m σ H, Inv m σ H → wT (t σ H) fun x H1 => br x (∃ m', m = m' + 1 ∧ wS (b σ H1) (again (Inv m') R)) (R .nx σ H1)) : ∀ (n m : Nat) (σ : SD) (H : HD), m < n → Inv m σ H → wS (sWh t b n σ H) R
  | 0, m, σ, H, h, i => by omega
  | n + 1, m, σ, H, h, i => by
    refine w_wh ?_
    obtain ⟨x, H1, e, q1, q2⟩ := st m σ H i
    refine ⟨x, H1, e, fun hx => ?_, q2⟩
    obtain ⟨m', rfl, y, σ2, H2, e2, q⟩ := q1 hx
    refine ⟨y, σ2, H2, e2, ?_⟩
    cases y with
    | nx => exact w_while Inv st n m' σ2 H2 (by omega) q
    | ct => exact w_while Inv st n m' σ2 H2 (by omega) q
    | bk => exact q
    | rt d => exact q
theorem w_cnil {own : OwnD} {c0 : SD} {tt : TF} {te : EF} {Q : List D → HD → Prop} (h : okOwn own H) (q : Q [] H) : wA (compL own c0 tt te [] H) Q := ⟨_, _, by rw [compL, if_pos h], q⟩
theorem w_ccons {own : OwnD} {c0 : SD} {tt : TF} {te : EF} {x : D} {r : List D} {Q : List D → HD → Prop} (h : okOwn own H)
    (q : wT (tt (some x :: c0) H) fun b H1 => br b (wE (te (some x :: c0) H1) fun e H2 => wA (compL own c0 tt te r H2) fun es H3 => Q (e :: es) H3) (wA (compL own c0 tt te r H1) Q)) : wA (compL own c0 tt te (x :: r) H) Q := by
  obtain ⟨b, H1, e1, q1, q2⟩ := q
  rw [compL, if_pos h, e1]
  simp only [Option.bind_some]
  cases b with
  | true =>
    obtain ⟨e, H2, e2, es, H3, e3, q⟩ := q1 rfl
    exact ⟨e :: es, H3, by rw [if_pos rfl, e2]; simp only [Option.bind_some]; rw [e3]; rfl, q⟩
  | false => rw [if_neg (by simp)]; exact q2 rfl
theorem w_yes {Q : Bool → HD → Prop} (q : Q true H) : wT (tYes σ H) Q := ⟨_, _, rfl, q⟩
theorem w_comp {own : OwnD} {c0 : SD} {tt : TF} {te : EF} (Inv : List D → List D → List D → HD → Prop) (ho : ∀ d t o H, Inv d t o H → okOwn own H)
    (st : ∀ d x t o H, Inv d (x :: t) o H → wT (tt (some x :: c0) H) fun b H1 => br b (wE (te (some x :: c0) H1) fun e H2 => Inv (d ++ [x]) t (o ++ [e]) H2) (Inv (d ++ [x]) t o H1))
    {Q : List D → HD → Prop} : ∀ (t d o : List D) (H : HD), Inv d t o H → (∀ d o' H', Inv d [] (o ++ o') H' → Q o' H') → wA (compL own c0 tt te t H) Q
  | [], d, o, H, i, q => w_cnil (ho _ _ _ _ i) (q d [] H (by rw [List.append_nil]; exact i))
  | x :: t, d, o, H, i, q => by
    refine w_ccons (ho _ _ _ _ i) ?_
    obtain ⟨b, H1, e1, q1, q2⟩ := st d x t o H i
    refine ⟨b, H1, e1, fun h => ?_, fun h => ?_⟩
    · obtain ⟨e, H2, e2, k⟩ := q1 h
      refine ⟨e, H2, e2, ?_⟩
      refine w_comp Inv ho st t _ _ H2 k fun d' o' H' i' => q d' (e :: o') H' ?_
      rw [List.append_assoc] at i'; exact i'
    · exact w_comp Inv ho st t _ _ H1 (q2 h) fun d' o' H' i' => q d' o' H' i'
theorem w_cfilter {own : OwnD} {c0 : SD} {tt : TF} (f : D → Bool) (J : HD → Prop) (ho : ∀ H, J H → okOwn own H) {Q : List D → HD → Prop} : ∀ (xs : List D) (st : ∀ x ∈ xs, ∀ H, J H → wT (tt (some x :: c0) H) fun b H1 => b = f x ∧ J H1) (H : HD), J H → (∀ H', J H' → Q (xs.filter f) H') → wA (compL own c0 tt (eVar 0) xs H) Q
  | [], st, H, j, q => w_cnil (ho H j) (q H j)
  | x :: xs, st, H, j, q => by
    refine w_ccons (ho H j) ?_
    obtain ⟨b, H1, e, rfl, j1⟩ := st x (by simp) H j
    refine ⟨_, H1, e, fun h => ?_, fun h => ?_⟩
    · refine ⟨x, H1, rfl, ?_⟩
      refine w_cfilter f J ho xs (fun y hy => st y (by simp [hy])) H1 j1 fun H' j' => ?_
      have := q H' j'
      rwa [List.filter_cons_of_pos h] at this
    · refine w_cfilter f J ho xs (fun y hy => st y (by simp [hy])) H1 j1 fun H' j' => ?_
      have := q H' j'
      rwa [List.filter_cons_of_neg (by rw [h]; simp)] at this
theorem w_cmap {own : OwnD} {c0 : SD} {te : EF} (g : D → D) (J : HD → Prop) (ho : ∀ H, J H → okOwn own H) {Q : List D → HD → Prop} : ∀ (xs : List D) (st : ∀ x ∈ xs, ∀ H, J H → wE (te (some x :: c0) H) fun d H1 => d = g x ∧ J H1) (H : HD), J H → (∀ H', J H' → Q (xs.map g) H') → wA (compL own c0 tYes te xs H) Q
  | [], st, H, j, q => w_cnil (ho H j) (q H j)
  | x :: xs, st, H, j, q => by
    refine w_ccons (ho H j) (w_yes (w_bt ?_))
    obtain ⟨b, H1, e, rfl, j1⟩ := st x (by simp) H j
    exact ⟨_, H1, e, w_cmap g J ho xs (fun y hy => st y (by simp [hy])) H1 j1 q⟩
end
structure Fm (S : List Nat) (H H' : HD) : Prop where
  old : ∀ (m : Nat) (o : DO), m ∉ S → H[m]? = some o → H'[m]? = some o ∨ ∃ kvs, o = .dic kvs false ∧ H'[m]? = some (.dic kvs true)
  len : H.length ≤ H'.length
theorem Fm.refl {S : List Nat} {H : HD} : Fm S H H := ⟨fun _ _ _ h => .inl h, Nat.le_refl _⟩
theorem Fm.trans {S : List Nat} {H H1 H2 : HD} (a : Fm S H H1) (b : Fm S H1 H2) : Fm S H H2 := by
  refine ⟨fun m o hm h => ?_, Nat.le_trans a.len b.len⟩
  rcases a.old m o hm h with h1 | ⟨kvs, rfl, h1⟩
  · exact b.old m o hm h1
  · rcases b.old m _ hm h1 with h2 | ⟨k2, e, _⟩
    · exact .inr ⟨kvs, rfl, h2⟩
    · cases e
theorem Fm.sub {S T : List Nat} {H H' : HD} (a : Fm S H H') (h : ∀ m ∈ S, m ∈ T) : Fm T H H' := ⟨fun m o hm q => a.old m o (fun z => hm (h m z)) q, a.len⟩
theorem Fm.app {S : List Nat} {H : HD} (L : HD) : Fm S H (H ++ L) := ⟨fun m o _ q => .inl (by
  have : m < H.length := (List.getElem?_eq_some_iff.mp q).1
  rw [List.getElem?_append_left this]; exact q), by simp⟩
theorem Fm.set {S : List Nat} {H : HD} {p : Nat} {o : DO} (h : p ∈ S) : Fm S H (H.set p o) := ⟨fun m u hm q => .inl (by rw [List.getElem?_set_ne (fun z => hm (by rw [← z]; exact h))]; exact q), by simp⟩
theorem Fm.new {S T : List Nat} {H H1 H' : HD} (a : Fm S H H1) (b : Fm T H1 H') (h : ∀ m ∈ T, m ∉ S → H.length ≤ m) : Fm S H H' := by
  refine ⟨fun m o hm q => ?_, Nat.le_trans a.len b.len⟩
  have lt : m < H.length := (List.getElem?_eq_some_iff.mp q).1
  have ht : m ∉ T := fun z => by have := h m z hm; omega
  rcases a.old m o hm q with h1 | ⟨kvs, rfl, h1⟩
  · exact b.old m o ht h1
  · rcases b.old m _ ht h1 with h2 | ⟨k2, e, _⟩
    · exact .inr ⟨kvs, rfl, h2⟩
    · cases e
theorem Fm.lst {S : List Nat} {H H' : HD} (x : Fm S H H') {m : Nat} {xs : List D} (hm : m ∉ S) (h : H[m]? = some (.lst xs)) : H'[m]? = some (.lst xs) := by
  rcases x.old m _ hm h with h1 | ⟨k2, e, _⟩
  · exact h1
  · cases e
theorem Fm.fr {S : List Nat} {H H' : HD} (x : Fm S H H') {m : Nat} {kvs : List (D × D)} (hm : m ∉ S) (h : H[m]? = some (.dic kvs true)) : H'[m]? = some (.dic kvs true) := by
  rcases x.old m _ hm h with h1 | ⟨k2, e, _⟩
  · exact h1
  · cases e
theorem Fm.dic {S : List Nat} {H H' : HD} (x : Fm S H H') {m : Nat} {kvs : List (D × D)} {fz : Bool} (hm : m ∉ S) (h : H[m]? = some (.dic kvs fz)) : ∃ fz', H'[m]? = some (.dic kvs fz') := by
  rcases x.old m _ hm h with h1 | ⟨k2, e, h1⟩
  · exact ⟨fz, h1⟩
  · cases e; exact ⟨true, h1⟩
theorem _root_.DL.Ext.fm {n : Nat} {H H' : HD} (x : Ext n H H') : Fm [n] H H' := ⟨fun m o hm q => .inl (x.old m o (by simpa using hm) q), x.len⟩
theorem _root_.LH.ExtS.fm {S : List Nat} {H H' : HD} (x : ExtS S H H') : Fm S H H' := ⟨fun m o hm q => .inl (x.old m o hm q), x.len⟩
theorem isl {H : HD} {n : Nat} {xs : List D} (h : H[n]? = some (.lst xs)) : isLst (.ref n) H = true := by simp [isLst, h]
theorem own1 {H : HD} {n : Nat} {o : DO} (h : H[n]? = some o) : okOwn [(n, o)] H := by intro p hp; simp at hp; subst hp; exact h
theorem own0 {H : HD} : okOwn [] H := by intro p hp; cases hp
theorem last {H : HD} {o : DO} : (H ++ [o])[H.length]? = some o := by simp
theorem appL {H : HD} {n : Nat} {o u : DO} (h : H[n]? = some o) : (H ++ [u])[n]? = some o := by
  rw [List.getElem?_append_left (List.getElem?_eq_some_iff.mp h).1]; exact h
theorem setO {H : HD} {n m : Nat} {o u : DO} (hn : n ≠ m) (h : H[m]? = some o) : (H.set n u)[m]? = some o := by rw [List.getElem?_set_ne hn]; exact h
theorem setS {H : HD} {n : Nat} {o u : DO} (h : H[n]? = some u) : (H.set n o)[n]? = some o := List.getElem?_set_self (List.getElem?_eq_some_iff.mp h).1
end WP
namespace WP
open PySem L2 DL LH
structure Fine (d : D) (x : PyData) (h : Nat) : Prop where
  to : ∀ H n, toP H n d = some x
  lay : x.canLay0 = true
  dep : x.depth ≤ h
theorem Fine.le {d : D} {x : PyData} {h h' : Nat} (f : Fine d x h) (l : h ≤ h') : Fine d x h' := ⟨f.to, f.lay, Nat.le_trans f.dep l⟩
theorem Fine.int (i : Int) : Fine (.int i) (.int i) 0 := ⟨fun H n => toP_int H n i, rfl, Nat.le_refl _⟩
theorem Fine.bl (b : Bool) : Fine (.bl b) (.bool b) 0 := ⟨fun H n => toP_bl H n b, rfl, Nat.le_refl _⟩
theorem Fine.non : Fine .non .none 0 := ⟨fun H n => toP_non H n, rfl, Nat.le_refl _⟩
theorem Fine.str {s : Str} (h : PyData.strOk s = true) : Fine (.str s) (.str s) 0 := ⟨fun H n => toP_str H n s, h, Nat.le_refl _⟩
structure Fines (ds : List D) (xs : List PyData) (h : Nat) : Prop where
  to : ∀ H n, toPs H n ds = some xs
  lay : PyData.canLayAll0 xs = true
  dep : PyData.depthAll xs ≤ h
  len : xs.length = ds.length
theorem Fines.nil {h : Nat} : Fines [] [] h := ⟨fun H n => by rw [toPs], rfl, Nat.zero_le _, rfl⟩
theorem Fines.cons {d : D} {x : PyData} {ds : List D} {xs : List PyData} {h : Nat} (a : Fine d x h) (b : Fines ds xs h) : Fines (d :: ds) (x :: xs) h :=
  ⟨fun H n => by rw [toPs, a.to, b.to]; rfl, by simp [PyData.canLayAll0, a.lay, b.lay], by simp only [PyData.depthAll]; exact Nat.max_le.mpr ⟨a.dep, b.dep⟩, by simp [b.len]⟩
theorem Fines.le {ds : List D} {xs : List PyData} {h h' : Nat} (f : Fines ds xs h) (l : h ≤ h') : Fines ds xs h' := ⟨f.to, f.lay, Nat.le_trans f.dep l, f.len⟩
theorem Fines.of {h : Nat} : ∀ ds : List D, (∀ d ∈ ds, ∃ x, Fine d x h) → ∃ xs, Fines ds xs h
  | [], _ => ⟨[], .nil⟩
  | d :: ds, f => by
    obtain ⟨x, a⟩ := f d (by simp)
    obtain ⟨xs, b⟩ := Fines.of ds fun e he => f e (by simp [he])
    exact ⟨x :: xs, .cons a b⟩
theorem Fine.tup {ds : List D} {xs : List PyData} {h : Nat} (f : Fines ds xs h) : Fine (.tup ds) (.tuple xs) (h + 1) :=
  ⟨fun H n => by cases n <;> rw [toP, f.to] <;> rfl, f.lay, Nat.succ_le_succ f.dep⟩
theorem Fine.dat {d : D} {x : PyData} {h : Nat} (f : Fine d x h) (l : h ≤ 30) (H : HD) : DL.dat d H = some x := by
  unfold DL.dat
  rw [f.to]
  have : x.depth ≤ 30 := Nat.le_trans f.dep l
  simp [okP, f.lay, this]
theorem Fines.dat {ds : List D} {xs : List PyData} {h : Nat} (f : Fines ds xs h) (l : h < 30) {H : HD} {p : Nat} (g : H[p]? = some (.lst ds)) : DL.dat (.ref p) H = some (.list xs) := by
  unfold DL.dat
  rw [toP]
  simp only [g]
  rw [f.to]
  have : (PyData.list xs).depth ≤ 30 := Nat.le_trans (Nat.succ_le_succ f.dep) l
  have h2 : (PyData.list xs).canLay0 = true := f.lay
  simp [okP, h2, this]
theorem eqD_dat {a b : D} {x y : PyData} {H : HD} (h1 : dat a H = some x) (h2 : dat b H = some y) : eqD a b H = some (.bl (PyData.eqv x y), H) := by
  unfold eqD
  cases e : twoS a b with
  | none => rw [h1, h2]; rfl
  | some p =>
    obtain ⟨s, t⟩ := p
    unfold twoS at e
    split at e
    · cases e
      unfold dat at h1 h2
      rw [toP_str] at h1 h2
      simp only [Option.bind_some] at h1 h2
      split at h1
      · split at h2
        · cases h1; cases h2; simp [PyData.eqv]
        · cases h2
      · cases h1
    · cases e
theorem neD_dat {a b : D} {x y : PyData} {H : HD} (h1 : dat a H = some x) (h2 : dat b H = some y) : neD a b H = some (.bl (!PyData.eqv x y), H) := by
  unfold neD
  cases e : twoS a b with
  | none => rw [h1, h2]; rfl
  | some p =>
    obtain ⟨s, t⟩ := p
    unfold twoS at e
    split at e
    · cases e
      unfold dat at h1 h2
      rw [toP_str] at h1 h2
      simp only [Option.bind_some] at h1 h2
      split at h1
      · split at h2
        · cases h1; cases h2; simp [PyData.eqv]; rfl
        · cases h2
      · cases h1
    · cases e
variable {H : HD} {Q : D → HD → Prop}
theorem w_eqF {a b : D} {x y : PyData} {h k : Nat} (f : Fine a x h) (g : Fine b y k) (hh : h ≤ 30) (hk : k ≤ 30) (q : Q (.bl (PyData.eqv x y)) H) : wE (eqD a b H) Q := ⟨_, _, eqD_dat (f.dat hh H) (g.dat hk H), q⟩
theorem w_neF {a b : D} {x y : PyData} {h k : Nat} (f : Fine a x h) (g : Fine b y k) (hh : h ≤ 30) (hk : k ≤ 30) (q : Q (.bl (!PyData.eqv x y)) H) : wE (neD a b H) Q := ⟨_, _, neD_dat (f.dat hh H) (g.dat hk H), q⟩
theorem w_neI {i j : Int} (q : Q (.bl (!(i == j))) H) : wE (neD (.int i) (.int j) H) Q := w_neF (.int i) (.int j) (by omega) (by omega) (by simpa [PyData.eqv] using q)
theorem w_neI' {i j : Int} {r : Bool} (hr : (i == j) = r) (q : Q (.bl (!r)) H) : wE (neD (.int i) (.int j) H) Q := w_neI (by rw [hr]; exact q)
end WP
set_option maxHeartbeats 8000000
namespace K08
open PySem L2 DL
noncomputable def k_TRUTHS : D := (.tup [(.bl false), (.bl true)])
noncomputable def b_is_truth : SF :=
  (sSeq (sRet (eOrr (eOp isD (eVar 0) (eC (.bl true))) (eOp isD (eVar 0) (eC (.bl false)))))
  sNil)
noncomputable def m_is_truth : FF := runB 1 1 b_is_truth
noncomputable def b_is_open : SF :=
  (sSeq (sRet (eOp gtD (eCB absD (aCons (eVar 0) aNil)) (eCB lenD (aCons (eVar 1) aNil))))
  sNil)
noncomputable def m_is_open : FF := runB 2 2 b_is_open
noncomputable def b_is_right : SF :=
  (sSeq (sRet (eAn (eNo (eCall 2 m_is_open (aCons (eVar 0) (aCons (eVar 1) aNil)))) (eOp eqD (eOp ixD (eVar 1) (eOp subD (eCB absD (aCons (eVar 0) aNil)) (eC (.int 1)))) (eOp gtD (eVar 0) (eC (.int 0))))))
  sNil)
noncomputable def m_is_right : FF := runB 2 2 b_is_right
noncomputable def b_is_kept : SF :=
  (sSeq (sFor (iSq (eVar 0)) (gNm 2) (sSeq (sIf (tTru (eCall 2 m_is_right (aCons (eVar 2) (aCons (eVar 1) aNil)))) (sSeq (sRet (eC (.bl true)))
  sNil) sNil)
  sNil))
  (sSeq (sRet (eC (.bl false)))
  sNil))
noncomputable def m_is_kept : FF := runB 2 3 b_is_kept
noncomputable def b_first_numbers : SF :=
  (sSeq (sSet 1 eDN)
  (sSeq (sFor (iEnum (aCons (eVar 0) aNil)) (gTp 2 (gCn (gNm 2) (gCn (gNm 3) gNl))) (sSeq (sExpr (eDM sdefD (eVar 1) (aCons (eVar 3) (aCons (eVar 2) aNil))))
  sNil))
  (sSeq (sRet (eVar 1))
  sNil)))
noncomputable def m_first_numbers : FF := runB 1 4 b_first_numbers
noncomputable def b_rows_behind : SF :=
  (sSeq (sSet 3 (eIf (tTru (eVar 2)) (eVar 1) (eUn negD (eVar 1))))
  (sSeq (sSet 4 eDN)
  (sSeq (sFor (iDic (eVar 0)) (gNm 5) (sSeq (sSet 6 (eIf (tTru (eVar 5)) (eOp ixD (eVar 5) (eC (.int 0))) (eC (.int 0))))
  (sSeq (sIf (tOf (eOp eqD (eVar 6) (eUn negD (eVar 3)))) (sSeq (sExpr (eDM sdefD (eVar 4) (aCons (eSl (eVar 5) (oSome (eC (.int 1))) oNone) (aCons (eOp dgetD (eVar 0) (eVar 5)) aNil))))
  sNil) (sSeq (sIf (tOf (eOp neD (eVar 6) (eVar 3))) (sSeq (sExpr (eDM sdefD (eVar 4) (aCons (eVar 5) (aCons (eOp dgetD (eVar 0) (eVar 5)) aNil))))
  sNil) sNil)
  sNil))
  sNil)))
  (sSeq (sRet (eVar 4))
  sNil))))
noncomputable def m_rows_behind : FF := runB 3 7 b_rows_behind
noncomputable def b_rows_behind_play : SF :=
  (sSeq (sSet 2 (eCall 1 m_first_numbers (aCons (eVar 0) aNil)))
  (sSeq (sFor (iEnum1 (aCons (eVar 1) aNil)) (gTp 2 (gCn (gNm 3) (gCn (gNm 4) gNl))) (sSeq (sSet 2 (eCall 3 m_rows_behind (aCons (eVar 2) (aCons (eVar 3) (aCons (eVar 4) aNil)))))
  sNil))
  (sSeq (sRet (eVar 2))
  sNil)))
noncomputable def m_rows_behind_play : FF := runB 2 5 b_rows_behind_play
noncomputable def b_other_side : SF :=
  (sSeq (sRet (eIf (tOf (eOp eqD (eVar 0) (eC (.str "some")))) (eC (.str "all")) (eC (.str "some"))))
  sNil)
noncomputable def m_other_side : FF := runB 1 1 b_other_side
noncomputable def b_winner_behind (F : FF) : SF :=
  (sSeq (sIf (tOf (eOp dinD (eTup aNil) (eVar 1))) (sSeq (sRet (eC (.str "all")))
  sNil) sNil)
  (sSeq (sIf (tOf (eOp eqD (eCB dlenD (aCons (eVar 1) aNil)) (eC (.int 0)))) (sSeq (sRet (eC (.str "some")))
  sNil) sNil)
  (sSeq (sSet 3 (eOp ixD (eVar 0) (eVar 2)))
  (sSeq (sFor (iSq (eC k_TRUTHS)) (gNm 4) (sSeq (sIf (tOf (eOp eqD (eCall 3 F (aCons (eVar 0) (aCons (eCall 3 m_rows_behind (aCons (eVar 1) (aCons (eOp addD (eVar 2) (eC (.int 1))) (aCons (eVar 4) aNil)))) (aCons (eOp addD (eVar 2) (eC (.int 1))) aNil)))) (eVar 3))) (sSeq (sRet (eVar 3))
  sNil) sNil)
  sNil))
  (sSeq (sRet (eCall 1 m_other_side (aCons (eVar 3) aNil)))
  sNil)))))
noncomputable def m_winner_behind : FF := recF 3 5 b_winner_behind 10
noncomputable def b_winner : SF :=
  (sSeq (sRet (eCall 3 m_winner_behind (aCons (eOp ixD (eVar 0) (eC (.int 0))) (aCons (eCall 2 m_rows_behind_play (aCons (eOp ixD (eVar 0) (eC (.int 1))) (aCons (eVar 1) aNil))) (aCons (eCB lenD (aCons (eVar 1) aNil)) aNil)))))
  sNil)
noncomputable def m_winner : FF := runB 2 2 b_winner
noncomputable def b_plans_behind (F : FF) : SF :=
  (sSeq (sIf (tOf (eOp eqD (eVar 3) (eCB lenD (aCons (eVar 0) aNil)))) (sSeq (sSet 5 (eIf (tOf (eOp eqD (eCB dlenD (aCons (eVar 2) aNil)) (eC (.int 0)))) (eC (.str "some")) (eC (.str "all"))))
  (sSeq (sRet (eIf (tOf (eOp eqD (eVar 5) (eVar 1))) (eC (.int 1)) (eC (.int 0))))
  sNil)) sNil)
  (sSeq (sSet 4 (eLC (iSq (eC k_TRUTHS)) [0, 1, 2, 3] tYes (eCall 4 F (aCons (eVar 1) (aCons (eVar 2) (aCons (eCall 3 m_rows_behind (aCons (eVar 3) (aCons (eOp addD (eVar 4) (eC (.int 1))) (aCons (eVar 0) aNil)))) (aCons (eOp addD (eVar 4) (eC (.int 1))) aNil)))))))
  (sSeq (sRet (eIf (tOf (eOp eqD (eOp ixD (eVar 0) (eVar 3)) (eVar 1))) (eOp addD (eOp ixD (eVar 4) (eC (.int 0))) (eOp ixD (eVar 4) (eC (.int 1)))) (eOp mulBD (eOp ixD (eVar 4) (eC (.int 0))) (eOp ixD (eVar 4) (eC (.int 1))))))
  sNil)))
noncomputable def m_plans_behind : FF := recF 4 6 b_plans_behind 10
noncomputable def b_how_many_plans : SF :=
  (sSeq (sRet (eCall 4 m_plans_behind (aCons (eOp ixD (eVar 0) (eC (.int 0))) (aCons (eVar 1) (aCons (eCall 1 m_first_numbers (aCons (eOp ixD (eVar 0) (eC (.int 1))) aNil)) (aCons (eC (.int 0)) aNil))))))
  sNil)
noncomputable def m_how_many_plans : FF := runB 2 2 b_how_many_plans
noncomputable def b_names_ahead : SF :=
  (sSeq (sRet (eLC (iR1 (aCons (eCB lenD (aCons (eVar 0) aNil)) aNil)) [0] tYes (eTM countD (eSl (eVar 1) oNone (oSome (eVar 0))) (aCons (eC (.str "all")) aNil))))
  sNil)
noncomputable def m_names_ahead : FF := runB 1 1 b_names_ahead
noncomputable def b_choices : SF :=
  (sSeq (sSet 1 (eLst (aCons (eTup aNil) aNil)))
  (sSeq (sWh (tOf (eOp ltD (eCB lenD (aCons (eOp ixD (eVar 1) (eC (.int 0))) aNil)) (eVar 0))) (sSeq (sSet 2 (eLst aNil))
  (sSeq (sFor (iSq (eVar 1)) (gNm 3) (sSeq (sExpr (eLM extendD (eVar 2) (aCons (eLC (iSq (eC k_TRUTHS)) [3] tYes (eOp addD (eVar 1) (eTup (aCons (eVar 0) aNil)))) aNil)))
  sNil))
  (sSeq (sSet 1 (eVar 2))
  sNil))) 1000)
  (sSeq (sRet (eVar 1))
  sNil)))
noncomputable def m_choices : FF := runB 1 4 b_choices
noncomputable def b_parts_of : SF :=
  (sSeq (sSet 1 (eLst aNil))
  (sSeq (sSet 2 (eCall 1 m_names_ahead (aCons (eVar 0) aNil)))
  (sSeq (sFor (iEnum (aCons (eVar 0) aNil)) (gTp 2 (gCn (gNm 3) (gCn (gNm 4) gNl))) (sSeq (sIf (tOf (eOp eqD (eVar 4) (eC (.str "some")))) (sSeq (sExpr (eLM extendD (eVar 1) (aCons (eLC (iSq (eCall 1 m_choices (aCons (eOp ixD (eVar 2) (eVar 3)) aNil))) [3] tYes (eTup (aCons (eOp addD (eVar 1) (eC (.int 1))) (aCons (eVar 0) aNil)))) aNil)))
  sNil) sNil)
  sNil))
  (sSeq (sRet (eCB tupleD (aCons (eVar 1) aNil)))
  sNil))))
noncomputable def m_parts_of : FF := runB 1 5 b_parts_of
noncomputable def b_row_spread : SF :=
  (sSeq (sSet 5 (eLst aNil))
  (sSeq (sFor (iSq (eVar 3)) (gNm 6) (sSeq (sSet 7 (eCB absD (aCons (eVar 6) aNil)))
  (sSeq (sSet 8 (eOp ixD (eVar 1) (eOp subD (eVar 7) (eC (.int 1)))))
  (sSeq (sIf (tOf (eOp eqD (eOp ixD (eVar 0) (eOp subD (eVar 7) (eC (.int 1)))) (eC (.str "some")))) (sSeq (sSet 9 (eOp ngetD (eVar 2) (eTup (aCons (eVar 7) (aCons (eSl (eVar 4) oNone (oSome (eVar 8))) aNil)))))
  (sSeq (sExpr (eLM appendD (eVar 5) (aCons (eIf (tOf (eOp gtD (eVar 6) (eC (.int 0)))) (eVar 9) (eUn negD (eVar 9))) aNil)))
  sNil)) (sSeq (sIf (tOf (eOp eqD (eOp ixD (eVar 4) (eVar 8)) (eOp gtD (eVar 6) (eC (.int 0))))) (sSeq (sRet (eC .non))
  sNil) sNil)
  sNil))
  sNil))))
  (sSeq (sRet (eCB tupleD (aCons (eVar 5) aNil)))
  sNil)))
noncomputable def m_row_spread : FF := runB 5 10 b_row_spread
noncomputable def b_spread : SF :=
  (sSeq (sSet 1 (eOp ixD (eVar 0) (eC (.int 0))))
  (sSeq (sSet 2 (eCall 1 m_parts_of (aCons (eVar 1) aNil)))
  (sSeq (sSet 3 (eCB dictND (aCons (eLC2 (iEnum1 (aCons (eVar 2) aNil)) [] tYes (eTup (aCons (eVar 1) (aCons (eVar 0) aNil)))) aNil)))
  (sSeq (sSet 4 (eCall 1 m_names_ahead (aCons (eVar 1) aNil)))
  (sSeq (sSet 5 eDN)
  (sSeq (sFor (iSq (eCall 1 m_choices (aCons (eTM countD (eVar 1) (aCons (eC (.str "all")) aNil)) aNil))) (gNm 6) (sSeq (sFor (iSq (eOp ixD (eVar 0) (eC (.int 1)))) (gNm 7) (sSeq (sSet 8 (eCall 5 m_row_spread (aCons (eVar 1) (aCons (eVar 4) (aCons (eVar 3) (aCons (eVar 7) (aCons (eVar 6) aNil)))))))
  (sSeq (sIf (tOf (eOp isnD (eVar 8) (eC .non))) (sSeq (sAsg (eC (.bl true)) (gSb (eVar 5) (eVar 8) dsetD))
  sNil) sNil)
  sNil)))
  sNil))
  (sSeq (sRet (eTup (aCons (eVar 2) (aCons (eCB tupleD (aCons (eCB sortTD (aCons (eVar 5) aNil)) aNil)) aNil))))
  sNil)))))))
noncomputable def m_spread : FF := runB 1 9 b_spread
noncomputable def b_keeps : SF :=
  (sSeq (sIf (tOrr (tNo (tTru (eCB isiD (aCons (eVar 1) (aCons (eC (.ty "tuple")) aNil))))) (tOf (eOp neD (eCB lenD (aCons (eVar 1) aNil)) (eCB lenD (aCons (eCall 1 m_parts_of (aCons (eOp ixD (eVar 0) (eC (.int 0))) aNil)) aNil))))) (sSeq (sRet (eC (.bl false)))
  sNil) sNil)
  (sSeq (sIf (tNo (tTru (eCB allD (aCons (eLC (iSq (eVar 1)) [] tYes (eCall 1 m_is_truth (aCons (eVar 0) aNil))) aNil)))) (sSeq (sRet (eC (.bl false)))
  sNil) sNil)
  (sSeq (sRet (eCB allD (aCons (eLC (iSq (eOp ixD (eCall 1 m_spread (aCons (eVar 0) aNil)) (eC (.int 1)))) [1] tYes (eCall 2 m_is_kept (aCons (eVar 0) (aCons (eVar 1) aNil)))) aNil)))
  sNil)))
noncomputable def m_keeps : FF := runB 2 2 b_keeps
noncomputable def b_law_mix : SF :=
  (sSeq (sSet 2 (eOp ixD (eLst (aCons (eC (.int 2147483647)) (aCons (eC (.int 2147483629)) (aCons (eC (.int 2147483587)) (aCons (eC (.int 2147483579)) (aCons (eC (.int 2147483563)) (aCons (eC (.int 2147483549)) (aCons (eC (.int 2147483543)) aNil)))))))) (eOp modD (eVar 1) (eC (.int 7)))))
  (sSeq (sSet 3 (eOp modD (eOp mulD (eOp addD (eOp modD (eVar 0) (eC (.int 998244353))) (eOp mulD (eC (.int 104729)) (eOp addD (eVar 1) (eC (.int 1))))) (eOp addD (eOp addD (eOp mulD (eVar 1) (eVar 1)) (eOp mulD (eC (.int 7)) (eVar 1))) (eC (.int 13)))) (eVar 2)))
  (sSeq (sSet 3 (eOp modD (eOp powD (eVar 3) (eC (.int 5))) (eC (.int 1000000007))))
  (sSeq (sSet 3 (eOp modD (eOp addD (eOp addD (eOp mulD (eVar 3) (eC (.int 48271))) (eOp mulD (eC (.int 31)) (eVar 1))) (eC (.int 5))) (eVar 2)))
  (sSeq (sRet (eOp fdivD (eOp modD (eOp powD (eVar 3) (eC (.int 3))) (eC (.int 998244353))) (eC (.int 8))))
  sNil)))))
noncomputable def m_law_mix : FF := runB 2 4 b_law_mix
noncomputable def b_law_digits : SF :=
  (sSeq (sSet 2 (eLst aNil))
  (sSeq (sSet 3 (eCB absD (aCons (eVar 0) aNil)))
  (sSeq (sSet 4 (eOp geD (eVar 3) (eOp powD (eC (.int 10)) (eC (.int 18)))))
  (sSeq (sFor (iR1 (aCons (eVar 1) aNil)) (gNm 5) (sSeq (sIf (tAn (tTru (eVar 4)) (tOf (eOp gtD (eVar 3) (eC (.int 0))))) (sSeq (sExpr (eLM appendD (eVar 2) (aCons (eOp modD (eVar 3) (eC (.int 10007))) aNil)))
  (sSeq (sSet 3 (eOp fdivD (eVar 3) (eC (.int 10007))))
  sNil)) (sSeq (sExpr (eLM appendD (eVar 2) (aCons (eCall 2 m_law_mix (aCons (eVar 0) (aCons (eVar 5) aNil))) aNil)))
  sNil))
  sNil))
  (sSeq (sRet (eVar 2))
  sNil)))))
noncomputable def m_law_digits : FF := runB 2 6 b_law_digits
noncomputable def b_law_at : SF :=
  (sSeq (sIf (tOf (eOp ltD (eVar 1) (eCB lenD (aCons (eVar 0) aNil)))) (sSeq (sRet (eOp ixD (eVar 0) (eVar 1)))
  sNil) sNil)
  (sSeq (sRet (eOp addD (eOp addD (eOp mulD (eC (.int 67)) (eVar 1)) (eC (.int 19))) (eCB lenD (aCons (eVar 0) aNil))))
  sNil))
noncomputable def m_law_at : FF := runB 2 2 b_law_at
noncomputable def b_law_row : SF :=
  (sSeq (sSet 3 (eCall 2 m_law_digits (aCons (eVar 0) (aCons (eOp addD (eVar 1) (eC (.int 1))) aNil))))
  (sSeq (sSet 4 (eLst aNil))
  (sSeq (sFor (iR1 (aCons (eVar 1) aNil)) (gNm 5) (sSeq (sIf (tOf (eOp ltD (eOp modD (eOp ixD (eVar 3) (eOp addD (eC (.int 1)) (eVar 5))) (eOp addD (eVar 1) (eC (.int 1)))) (eOp addD (eVar 2) (eOp modD (eOp ixD (eVar 3) (eC (.int 0))) (eC (.int 3)))))) (sSeq (sExpr (eLM appendD (eVar 4) (aCons (eOp ixD (eLst (aCons (eOp addD (eVar 5) (eC (.int 1))) (aCons (eOp subD (eOp subD (eC (.int 0)) (eVar 5)) (eC (.int 1))) aNil))) (eOp modD (eOp fdivD (eOp ixD (eVar 3) (eOp addD (eC (.int 1)) (eVar 5))) (eOp addD (eVar 1) (eC (.int 1)))) (eC (.int 2)))) aNil)))
  sNil) sNil)
  sNil))
  (sSeq (sRet (eCB tupleD (aCons (eVar 4) aNil)))
  sNil))))
noncomputable def m_law_row : FF := runB 3 6 b_law_row
noncomputable def b_law_small : SF :=
  (sSeq (sSet 1 (eCall 2 m_law_digits (aCons (eCall 2 m_law_at (aCons (eVar 0) (aCons (eC (.int 0)) aNil))) (aCons (eC (.int 14)) aNil))))
  (sSeq (sSet 2 (eLst (aCons (eC (.str "sasas")) (aCons (eC (.str "asss")) (aCons (eC (.str "ssas")) (aCons (eC (.str "sssssss")) (aCons (eC (.str "sasss")) (aCons (eC (.str "asas")) (aCons (eC (.str "aas")) (aCons (eC (.str "ssass")) aNil))))))))))
  (sSeq (sSet 2 (eOp addD (eVar 2) (eLst (aCons (eC (.str "sass")) (aCons (eC (.str "")) (aCons (eC (.str "a")) (aCons (eC (.str "s")) (aCons (eC (.str "sa")) (aCons (eC (.str "as")) (aCons (eC (.str "ass")) (aCons (eC (.str "aaaa")) aNil)))))))))))
  (sSeq (sSet 3 (eCB tupleD (aCons (eLC (iTxt (eOp ixD (eVar 2) (eOp modD (eOp ixD (eVar 1) (eC (.int 0))) (eC (.int 16))))) [] tYes (eOp ixD (eLst (aCons (eC (.str "all")) (aCons (eC (.str "some")) aNil))) (eCB intD (aCons (eOp eqD (eVar 0) (eC (.str "s"))) aNil)))) aNil)))
  (sSeq (sSet 4 (eLC (iR1 (aCons (eOp ixD (eLst (aCons (eOp modD (eOp ixD (eVar 1) (eC (.int 1))) (eC (.int 5))) (aCons (eOp modD (eOp ixD (eVar 1) (eC (.int 1))) (eC (.int 9))) aNil))) (eOp modD (eOp ixD (eVar 1) (eC (.int 2))) (eC (.int 2)))) aNil)) [0, 3] tYes (eCall 3 m_law_row (aCons (eCall 2 m_law_at (aCons (eVar 1) (aCons (eOp addD (eC (.int 1)) (eVar 0)) aNil))) (aCons (eCB lenD (aCons (eVar 2) aNil)) (aCons (eC (.int 1)) aNil))))))
  (sSeq (sIf (tOf (eOp gtD (eOp modD (eOp ixD (eVar 1) (eC (.int 3))) (eC (.int 4))) (eC (.int 0)))) (sSeq (sSet 4 (eLC (iSq (eVar 4)) [] (tOf (eOp neD (eVar 0) (eTup aNil))) (eVar 0)))
  sNil) sNil)
  (sSeq (sRet (eTup (aCons (eVar 3) (aCons (eCB tupleD (aCons (eVar 4) aNil)) aNil))))
  sNil)))))))
noncomputable def m_law_small : FF := runB 1 5 b_law_small
noncomputable def b_law_choices : SF :=
  (sSeq (sSet 1 (eLst (aCons (eTup aNil) aNil)))
  (sSeq (sFor (iR1 (aCons (eVar 0) aNil)) (gNm 2) (sSeq (sSet 3 (eLst aNil))
  (sSeq (sFor (iSq (eVar 1)) (gNm 4) (sSeq (sSet 3 (eOp addD (eVar 3) (eLst (aCons (eOp addD (eVar 4) (eTup (aCons (eC (.bl false)) aNil))) (aCons (eOp addD (eVar 4) (eTup (aCons (eC (.bl true)) aNil))) aNil)))))
  sNil))
  (sSeq (sSet 1 (eVar 3))
  sNil))))
  (sSeq (sRet (eVar 1))
  sNil)))
noncomputable def m_law_choices : FF := runB 1 5 b_law_choices
noncomputable def b_law : SF :=
  (sSeq (sSet 1 (eCall 1 m_law_small (aCons (eVar 0) aNil)))
  (sSeq (sSet 2 (eOp ixD (eCall 1 m_spread (aCons (eVar 1) aNil)) (eC (.int 0))))
  (sSeq (sIf (tOf (eOp gtD (eCB lenD (aCons (eVar 2) aNil)) (eC (.int 7)))) (sSeq (sRet (eC (.bl false)))
  sNil) sNil)
  (sSeq (sSet 3 (eCB lenD (aCons (eLC (iSq (eCall 1 m_law_choices (aCons (eCB lenD (aCons (eVar 2) aNil)) aNil))) [1] (tOf (eOp isD (eCall 2 m_keeps (aCons (eVar 1) (aCons (eVar 0) aNil))) (eC (.bl true)))) (eVar 0)) aNil)))
  (sSeq (sSet 4 (eCall 2 m_how_many_plans (aCons (eVar 1) (aCons (eC (.str "some")) aNil))))
  (sSeq (sIf (tOrr (tTru (eCB isiD (aCons (eVar 4) (aCons (eC (.ty "bool")) aNil)))) (tOrr (tNo (tTru (eCB isiD (aCons (eVar 4) (aCons (eC (.ty "int")) aNil))))) (tOf (eOp neD (eVar 4) (eVar 3))))) (sSeq (sRet (eC (.bl false)))
  sNil) sNil)
  (sSeq (sRet (eOp eqD (eOp gtD (eVar 3) (eC (.int 0))) (eOp eqD (eCall 2 m_winner (aCons (eVar 1) (aCons (eTup aNil) aNil))) (eC (.str "some")))))
  sNil)))))))
noncomputable def m_law : FF := runB 1 5 b_law
end K08
set_option maxHeartbeats 4000000
namespace K08
open PySem L2 DL LH
noncomputable def opn (bs : List Bool) (l : Int) : Bool := decide ((bs.length : Int) < absZ l)
noncomputable def rig (bs : List Bool) (l : Int) : Bool := match bs[(absZ l - 1).toNat]? with
  | some b => b == decide (0 < l)
  | none => false
noncomputable def kept (bs : List Bool) (ls : List Int) : Bool := ls.any (rig bs)
noncomputable def rest (bs : List Bool) (ls : List Int) : List Int := ls.filter (opn bs)
noncomputable def nextR (b : Int) : List Int → List Int
  | [] => []
  | l :: r => if absZ l = b + 1 then r else l :: r
noncomputable def hits (b : Int) (t : Bool) : List Int → Bool
  | [] => false
  | l :: _ => decide (absZ l = b + 1) && (t == decide (0 < l))
theorem up_open {m : Int} (bs : List Bool) : ∀ (ls : List Int) (last : Int), Up m last ls → (bs.length : Int) ≤ last → rest bs ls = ls ∧ kept bs ls = false
  | [], _, _, _ => ⟨rfl, rfl⟩
  | l :: r, last, u, h => by
    obtain ⟨h1, h2, h3⟩ := u
    obtain ⟨a, b⟩ := up_open bs r (absZ l) h3 (by omega)
    have o : opn bs l = true := decide_eq_true (by omega)
    have g : rig bs l = false := by
      unfold rig
      rw [List.getElem?_eq_none (by omega)]
    refine ⟨?_, ?_⟩
    · unfold rest; rw [List.filter_cons_of_pos o]; exact congrArg _ a
    · unfold kept; rw [List.any_cons, g]; exact b
theorem rig_app {bs : List Bool} {t : Bool} {l : Int} (h : absZ l ≤ bs.length) (h0 : 0 < absZ l) : rig (bs ++ [t]) l = rig bs l := by
  unfold rig
  rw [List.getElem?_append_left (by omega)]
theorem next_ok {m : Int} (bs : List Bool) (t : Bool) : ∀ (ls : List Int) (last : Int), 0 ≤ last → Up m last ls → rest (bs ++ [t]) ls = nextR bs.length (rest bs ls) ∧ kept (bs ++ [t]) ls = (kept bs ls || hits bs.length t (rest bs ls))
  | [], _, _, _ => ⟨rfl, rfl⟩
  | l :: r, last, h0, u => by
    obtain ⟨h1, h2, h3⟩ := u
    have la : (((bs ++ [t]).length : Nat) : Int) = bs.length + 1 := by simp
    by_cases c1 : absZ l ≤ bs.length
    · obtain ⟨a, b⟩ := next_ok bs t r (absZ l) (by omega) h3
      have o1 : opn bs l = false := decide_eq_false (by omega)
      have o2 : opn (bs ++ [t]) l = false := decide_eq_false (by rw [la]; omega)
      have e : rest bs (l :: r) = rest bs r := by unfold rest; rw [List.filter_cons_of_neg (by rw [o1]; simp)]
      have e' : rest (bs ++ [t]) (l :: r) = rest (bs ++ [t]) r := by unfold rest; rw [List.filter_cons_of_neg (by rw [o2]; simp)]
      rw [e, e']
      refine ⟨a, ?_⟩
      have k : ∀ cs, kept cs (l :: r) = (rig cs l || kept cs r) := fun cs => by unfold kept; rw [List.any_cons]
      rw [k, k, rig_app c1 (by omega), b, Bool.or_assoc]
    · have o1 : opn bs l = true := decide_eq_true (by omega)
      obtain ⟨a1, a2⟩ := up_open bs r (absZ l) h3 (by omega)
      have e : rest bs (l :: r) = l :: r := by unfold rest; rw [List.filter_cons_of_pos o1]; exact congrArg _ a1
      have g1 : rig bs l = false := by unfold rig; rw [List.getElem?_eq_none (by omega)]
      have k : ∀ cs, kept cs (l :: r) = (rig cs l || kept cs r) := fun cs => by unfold kept; rw [List.any_cons]
      by_cases c2 : absZ l = bs.length + 1
      · obtain ⟨b1, b2⟩ := up_open (bs ++ [t]) r (absZ l) h3 (by rw [la]; omega)
        have o2 : opn (bs ++ [t]) l = false := decide_eq_false (by rw [la]; omega)
        have e' : rest (bs ++ [t]) (l :: r) = r := by unfold rest; rw [List.filter_cons_of_neg (by rw [o2]; simp)]; exact b1
        have g2 : rig (bs ++ [t]) l = (t == decide (0 < l)) := by
          unfold rig
          have : (absZ l - 1).toNat = bs.length := by omega
          rw [this]; simp
        rw [e, e', k, k, g1, g2, a2, b2]
        refine ⟨by simp [nextR, c2], by simp [hits, c2]⟩
      · obtain ⟨b1, b2⟩ := up_open (bs ++ [t]) (l :: r) (absZ l - 1) ⟨by omega, h2, h3⟩ (by rw [la]; omega)
        rw [e, b1, k bs, g1, a2, b2]
        refine ⟨by simp [nextR, c2], by simp [hits, c2]⟩
theorem nks_ints : ∀ ls : List Int, nksOf (ls.map .int) = some ls
  | [] => rfl
  | l :: r => by simp [nksOf, nkOf, nks_ints r]
theorem nk_row (ls : List Int) : nk (rowD ls) = some ls := nks_ints ls
theorem look_put {kvs : List (D × D)} {kd vd : D} {k k' : List Int} (h : nk kd = some k) (h0 : dlook kvs k = none) : (dlook (dput kvs kd k vd) k').isSome = ((dlook kvs k').isSome || decide (k' = k)) := by
  have e : dput kvs kd k vd = kvs ++ [(kd, vd)] := by unfold dput; rw [h0]; rfl
  rw [e]
  unfold dlook
  rw [List.find?_append]
  cases q : kvs.find? (fun p => nk p.1 == some k') with
  | some p => simp
  | none =>
    by_cases c : k' = k
    · subst c; simp [h]
    · have : (nk kd == some k') = false := by rw [h]; simp; exact fun z => c z.symm
      simp [List.find?_cons, this, c]
structure DR (rss : List (List Int)) (bs : List Bool) (kvs : List (D × D)) : Prop where
  key : ∀ p ∈ kvs, ∃ ls ∈ rss, kept bs ls = false ∧ p.1 = rowD (rest bs ls)
  all : ∀ ls ∈ rss, kept bs ls = false → (dlook kvs (rest bs ls)).isSome = true
  len : kvs.length ≤ rss.length
  val : ∀ p ∈ kvs, ∃ (i : Nat) (ls : List Int), rss[i]? = some ls ∧ kept bs ls = false ∧ p = (rowD (rest bs ls), .int i)
end K08
namespace K08
open PySem L2 DL LH
structure Fz (H H' : HD) : Prop where
  old : ∀ (m : Nat) (o : DO), H[m]? = some o → H'[m]? = some o ∨ ∃ kvs, o = .dic kvs false ∧ H'[m]? = some (.dic kvs true)
  len : H.length ≤ H'.length
theorem Fz.refl {H : HD} : Fz H H := ⟨fun _ _ h => .inl h, Nat.le_refl _⟩
theorem Fz.trans {H H1 H2 : HD} (a : Fz H H1) (b : Fz H1 H2) : Fz H H2 := by
  refine ⟨fun m o h => ?_, Nat.le_trans a.len b.len⟩
  rcases a.old m o h with h1 | ⟨kvs, rfl, h1⟩
  · exact b.old m o h1
  · rcases b.old m _ h1 with h2 | ⟨k2, e, _⟩
    · exact .inr ⟨kvs, rfl, h2⟩
    · cases e
theorem Fz.app {H : HD} (L : HD) : Fz H (H ++ L) := ⟨fun m o q => .inl (by
  have : m < H.length := (List.getElem?_eq_some_iff.mp q).1
  rw [List.getElem?_append_left this]; exact q), by simp⟩
theorem Fz.dic {H H' : HD} (x : Fz H H') {m : Nat} {kvs : List (D × D)} {fz : Bool} (h : H[m]? = some (.dic kvs fz)) : ∃ fz', H'[m]? = some (.dic kvs fz') := by
  rcases x.old m _ h with h1 | ⟨k2, e, h1⟩
  · exact ⟨fz, h1⟩
  · cases e; exact ⟨true, h1⟩
theorem Fz.ext {n : Nat} {H H' : HD} (x : Fz H H') (hf : ∃ a b, H[n]? = some (.lst [.int a, .int b])) : ∃ a b, H'[n]? = some (.lst [.int a, .int b]) := by
  obtain ⟨a, b, f⟩ := hf
  rcases x.old n _ f with h | ⟨_, e, _⟩
  · exact ⟨a, b, h⟩
  · cases e
theorem dm {g : D → List D → HD → Option (D × HD)} {fo : EF} {f : AF} {σ : SD} {H H1 H2 : HD} {o : D} {ds : List D} {r : Option (D × HD)} (h1 : fo σ H = some (o, H1)) (hd : isDic o H1 = true) (h2 : f σ H1 = some (ds, H2)) (h3 : g o ds H2 = r) : eDM g fo f σ H = r := by
  unfold eDM; rw [h1]; simp only [Option.bind_some]; rw [if_pos hd, h2]; exact h3
theorem ex {f : EF} {σ : SD} {H H1 : HD} {d : D} (h : f σ H = some (d, H1)) : sExpr f σ H = some (.nx, σ, H1) := by unfold sExpr; rw [h]; rfl
noncomputable def addK (acc : List (D × D)) (k : List Int) (v : D) : List (D × D) := if (dlook acc k).isSome = true then acc else acc ++ [(rowD k, v)]
theorem sdef_ok {q : Nat} {acc : List (D × D)} {k : List Int} {v : D} {H : HD} (h : H[q]? = some (.dic acc false)) (hl : acc.length ≤ 100000) : ∃ z, sdefD (.ref q) [rowD k, v] H = some (z, H.set q (.dic (addK acc k v) false)) := by
  have sz : acc.length < sizeLine := by rw [PySem.sizeLine_eq]; omega
  unfold sdefD
  simp only [h, nk_row, Option.bind_some, if_pos sz]
  cases e : dlook acc k with
  | some z =>
    refine ⟨z, ?_⟩
    have : addK acc k v = acc := by unfold addK; rw [e]; rfl
    rw [this]
    obtain ⟨h1, h2⟩ := List.getElem?_eq_some_iff.mp h
    rw [← h2, List.set_getElem_self h1]
  | none =>
    refine ⟨v, ?_⟩
    have e1 : dput acc (rowD k) k v = acc ++ [(rowD k, v)] := by unfold dput; rw [e]; rfl
    have e2 : addK acc k v = acc ++ [(rowD k, v)] := by unfold addK; rw [e]; rfl
    rw [e1, e2]
theorem add_look {acc : List (D × D)} {k k' : List Int} {v : D} : (dlook (addK acc k v) k').isSome = ((dlook acc k').isSome || decide (k' = k)) := by
  unfold addK
  cases e : dlook acc k with
  | some z =>
    rw [if_pos (by simp)]
    by_cases c : k' = k
    · subst c; rw [e]; rfl
    · simp [c]
  | none =>
    have := look_put (kvs := acc) (kd := rowD k) (vd := v) (k := k) (k' := k') (nk_row k) e
    have e1 : dput acc (rowD k) k v = acc ++ [(rowD k, v)] := by unfold dput; rw [e]; rfl
    rw [e1] at this
    rw [if_neg (by simp)]; exact this
theorem add_len (acc : List (D × D)) (k : List Int) (v : D) : (addK acc k v).length ≤ acc.length + 1 := by unfold addK; split <;> simp
theorem add_mem {acc : List (D × D)} {k : List Int} {v : D} {p : D × D} (h : p ∈ addK acc k v) : p ∈ acc ∨ p.1 = rowD k := by
  unfold addK at h
  split at h
  · exact .inl h
  · rcases List.mem_append.mp h with h | h
    · exact .inl h
    · simp at h; subst h; exact .inr rfl
theorem add_mem2 {acc : List (D × D)} {k : List Int} {v : D} {p : D × D} (h : p ∈ addK acc k v) : p ∈ acc ∨ p = (rowD k, v) := by
  unfold addK at h
  split at h
  · exact .inl h
  · rcases List.mem_append.mp h with h | h
    · exact .inl h
    · simp at h; subst h; exact .inr rfl
noncomputable abbrev fb : SF := (sSeq (sExpr (eDM sdefD (eVar 1) (aCons (eVar 3) (aCons (eVar 2) aNil)))) sNil)
theorem first_loop {q : Nat} {r : D} : ∀ (rss : List (List Int)) (c : Int) (acc : List (D × D)) (H : HD) (z2 z3 : Option D), H[q]? = some (.dic acc false) → acc.length + rss.length ≤ 100000 →
    ∃ (acc' : List (D × D)) (z2' z3' : Option D), forL [] (gTp 2 (gCn (gNm 2) (gCn (gNm 3) gNl))) fb (enumL c (rss.map rowD)) [some r, some (.ref q), z2, z3] H = some (.nx, [some r, some (.ref q), z2', z3'], H.set q (.dic acc' false)) ∧
      (∀ p ∈ acc', p ∈ acc ∨ ∃ ls ∈ rss, p.1 = rowD ls) ∧ (∀ k, (dlook acc k).isSome = true → (dlook acc' k).isSome = true) ∧ (∀ ls ∈ rss, (dlook acc' ls).isSome = true) ∧ acc'.length ≤ acc.length + rss.length ∧ (∀ p ∈ acc', p ∈ acc ∨ ∃ (i : Nat) (ls : List Int), rss[i]? = some ls ∧ p = (rowD ls, .int (c + i)))
  | [], c, acc, H, z2, z3, hq, _ => by
    obtain ⟨h1, h2⟩ := List.getElem?_eq_some_iff.mp hq
    refine ⟨acc, z2, z3, ?_, fun p hp => .inl hp, fun _ h => h, by simp, by simp, fun p hp => .inl hp⟩
    rw [List.map_nil, enumL, forL, if_pos ok_nil, ← h2, List.set_getElem_self h1]
  | ls :: rss, c, acc, H, z2, z3, hq, hl => by
    rw [List.map_cons, enumL, forL, if_pos ok_nil]
    simp only [gTp, List.length_cons, List.length_nil, gCn, gNm, gNl, List.set, Option.bind_some, if_true, Nat.zero_add, Nat.reduceAdd]
    obtain ⟨z, es⟩ := sdef_ok (k := ls) (v := .int c) hq (by omega)
    have lt := (List.getElem?_eq_some_iff.mp hq).1
    have st : fb [some r, some (.ref q), some (.int c), some (rowD ls)] H = some (.nx, [some r, some (.ref q), some (.int c), some (rowD ls)], H.set q (.dic (addK acc ls (.int c)) false)) :=
      (seq_nx (ex (dm (vr rfl) (by simp [isDic, hq]) (ac (vr rfl) (ac (vr rfl) an)) es))).trans rfl
    rw [st]
    simp only [Option.bind_some]
    have al := add_len acc ls (.int c)
    obtain ⟨acc', z2', z3', e, a1, a2, a3, a4, a5⟩ := first_loop (q := q) (r := r) rss (c + 1) (addK acc ls (.int c)) (H.set q (.dic (addK acc ls (.int c)) false)) (some (.int c)) (some (rowD ls)) (by rw [List.getElem?_set_self lt]) (by simp at hl ⊢; omega)
    refine ⟨acc', z2', z3', by rw [e, List.set_set], fun p hp => ?_, fun k hk => a2 k (by rw [add_look, hk]; rfl), fun l hl' => ?_, by omega, fun p hp => ?_⟩
    · rcases a1 p hp with h | ⟨l, h1, h2⟩
      · rcases add_mem h with h | h
        · exact .inl h
        · exact .inr ⟨ls, by simp, h⟩
      · exact .inr ⟨l, by simp [h1], h2⟩
    · rcases List.mem_cons.mp hl' with rfl | hl'
      · exact a2 _ (by rw [add_look]; simp)
      · exact a3 l hl'
    · rcases a5 p hp with h | ⟨i, l, h1, h2⟩
      · rcases add_mem2 h with h | h
        · exact .inl h
        · exact .inr ⟨0, ls, rfl, by rw [h]; simp⟩
      · exact .inr ⟨i + 1, l, by simpa using h1, by rw [h2]; simp; omega⟩
theorem first_ok {rss : List (List Int)} {m : Int} (hu : ∀ ls ∈ rss, Up m 0 ls) (hl : rss.length ≤ 1000) (H : HD) :
    ∃ (kvs : List (D × D)) (H' : HD) (q : Nat), m_first_numbers [.tup (rss.map rowD)] H = some (.ref q, H') ∧ H'[q]? = some (.dic kvs false) ∧ DR rss [] kvs ∧ Fz H H' := by
  have s1 : sSet 1 eDN [some (.tup (rss.map rowD)), none, none, none] H = some (.nx, [some (.tup (rss.map rowD)), some (.ref H.length), none, none], H ++ [.dic [] false]) := rfl
  obtain ⟨kvs, z2, z3, e, a1, a2, a3, a4, a5⟩ := first_loop (q := H.length) (r := .tup (rss.map rowD)) rss 0 [] (H ++ [.dic [] false]) none none (by simp) (by simp; omega)
  have e1 : sFor (iEnum (aCons (eVar 0) aNil)) (gTp 2 (gCn (gNm 2) (gCn (gNm 3) gNl))) fb [some (.tup (rss.map rowD)), some (.ref H.length), none, none] (H ++ [.dic [] false]) = some (.nx, [some (.tup (rss.map rowD)), some (.ref H.length), z2, z3], (H ++ [DO.dic [] false]).set H.length (DO.dic kvs false)) := by
    unfold sFor iEnum
    rw [ac (vr rfl) an]
    exact e
  have es : (H ++ [DO.dic [] false]).set H.length (.dic kvs false) = H ++ [.dic kvs false] := by simp
  rw [es] at e1
  refine ⟨kvs, H ++ [.dic kvs false], H.length, ?_, by simp, ⟨fun p hp => ?_, fun ls hls _ => ?_, by simpa using a4, fun p hp => ?_⟩, Fz.app _⟩
  · show ((b_first_numbers [some (.tup (rss.map rowD)), none, none, none] H).bind _) = _
    unfold b_first_numbers
    rw [seq_nx s1, seq_nx e1]
    rfl
  · rcases a1 p hp with h | ⟨ls, h1, h2⟩
    · simp at h
    · obtain ⟨o1, o2⟩ := up_open [] ls 0 (hu ls h1) (by simp)
      exact ⟨ls, h1, o2, by rw [o1]; exact h2⟩
  · obtain ⟨o1, o2⟩ := up_open [] ls 0 (hu ls hls) (by simp)
    rw [o1]; exact a3 ls hls
  · rcases a5 p hp with h | ⟨i, ls, h1, h2⟩
    · simp at h
    · obtain ⟨o1, o2⟩ := up_open [] ls 0 (hu ls (List.mem_of_getElem? h1)) (by simp)
      exact ⟨i, ls, h1, o2, by rw [o1, h2]; simp⟩
end K08
namespace K08
open PySem L2 DL LH
noncomputable def hd0 : List Int → Int
  | [] => 0
  | l :: _ => l
theorem act {b : Int} {t : Bool} {ls : List Int} (hb : 0 ≤ b) :
    (hd0 ls = -(if t = true then b + 1 else -(b + 1)) → hits b t ls = false ∧ nextR b ls = ls.drop 1) ∧
    (hd0 ls ≠ -(if t = true then b + 1 else -(b + 1)) → hd0 ls ≠ (if t = true then b + 1 else -(b + 1)) → hits b t ls = false ∧ nextR b ls = ls) ∧
    (hd0 ls ≠ -(if t = true then b + 1 else -(b + 1)) → hd0 ls = (if t = true then b + 1 else -(b + 1)) → hits b t ls = true) := by
  cases ls with
  | nil =>
    refine ⟨fun h => ?_, fun _ _ => ⟨rfl, rfl⟩, fun _ h => ?_⟩
    · simp only [hd0] at h; split at h <;> omega
    · simp only [hd0] at h; split at h <;> omega
  | cons l r =>
    simp only [hd0, hits, nextR, List.drop_one, List.tail_cons]
    cases t with
    | true =>
      simp only [if_true]
      refine ⟨fun h => ?_, fun h1 h2 => ?_, fun h1 h2 => ?_⟩
      · have e : absZ l = b + 1 := by unfold absZ; split <;> omega
        have g : decide (0 < l) = false := decide_eq_false (by omega)
        rw [g, if_pos e]; simp
      · have e : absZ l ≠ b + 1 := by unfold absZ; split <;> omega
        rw [if_neg e, decide_eq_false e]; simp
      · have e : absZ l = b + 1 := by unfold absZ; split <;> omega
        have g : decide (0 < l) = true := decide_eq_true (by omega)
        rw [g, decide_eq_true e]; rfl
    | false =>
      simp only [Bool.false_eq_true, if_false]
      refine ⟨fun h => ?_, fun h1 h2 => ?_, fun h1 h2 => ?_⟩
      · have e : absZ l = b + 1 := by unfold absZ; split <;> omega
        have g : decide (0 < l) = true := decide_eq_true (by omega)
        rw [g, if_pos e]; simp
      · have e : absZ l ≠ b + 1 := by unfold absZ; split <;> omega
        rw [if_neg e, decide_eq_false e]; simp
      · have e : absZ l = b + 1 := by unfold absZ; split <;> omega
        have g : decide (0 < l) = false := decide_eq_false (by omega)
        rw [g, decide_eq_true e]; rfl
noncomputable abbrev bb : SF := (sSeq (sSet 6 (eIf (tTru (eVar 5)) (eOp ixD (eVar 5) (eC (.int 0))) (eC (.int 0))))
  (sSeq (sIf (tOf (eOp eqD (eVar 6) (eUn negD (eVar 3)))) (sSeq (sExpr (eDM sdefD (eVar 4) (aCons (eSl (eVar 5) (oSome (eC (.int 1))) oNone) (aCons (eOp dgetD (eVar 0) (eVar 5)) aNil))))
  sNil) (sSeq (sIf (tOf (eOp neD (eVar 6) (eVar 3))) (sSeq (sExpr (eDM sdefD (eVar 4) (aCons (eVar 5) (aCons (eOp dgetD (eVar 0) (eVar 5)) aNil))))
  sNil) sNil)
  sNil))
  sNil))
theorem un {g : D → HD → Option (D × HD)} {f : EF} {σ : SD} {H H1 : HD} {d : D} {r : Option (D × HD)} (h1 : f σ H = some (d, H1)) (h2 : g d H1 = r) : eUn g f σ H = r := by
  unfold eUn; rw [h1]; exact h2
theorem bb_ok {p q : Nat} {kvs acc : List (D × D)} {b : Int} {t : Bool} {a1 a2 z6 : Option D} {ls : List Int} {H : HD} (hb : 0 ≤ b) (hp : H[p]? = some (.dic kvs true)) (hq : H[q]? = some (.dic acc false)) (hl : acc.length ≤ 100000) (hk : (dlook kvs ls).isSome = true) :
    ∃ (v : D) (z6' : Option D), dlook kvs ls = some v ∧ bb [some (.ref p), a1, a2, some (.int (if t = true then b + 1 else -(b + 1))), some (.ref q), some (rowD ls), z6] H = some (.nx, [some (.ref p), a1, a2, some (.int (if t = true then b + 1 else -(b + 1))), some (.ref q), some (rowD ls), z6'], H.set q (.dic (if hits b t ls = true then acc else addK acc (nextR b ls) v) false)) := by
  let R : Int := if t = true then b + 1 else -(b + 1)
  obtain ⟨v, ev⟩ := Option.isSome_iff_exists.mp hk
  have self : H.set q (.dic acc false) = H := by
    obtain ⟨h1, h2⟩ := List.getElem?_eq_some_iff.mp hq
    rw [← h2, List.set_getElem_self h1]
  have s1 : sSet 6 (eIf (tTru (eVar 5)) (eOp ixD (eVar 5) (eC (.int 0))) (eC (.int 0))) [some (.ref p), a1, a2, some (.int R), some (.ref q), some (rowD ls), z6] H = some (.nx, [some (.ref p), a1, a2, some (.int R), some (.ref q), some (rowD ls), some (.int (hd0 ls))], H) := by
    refine set_nx (d := .int (hd0 ls)) ?_
    have tv : tTru (eVar 5) [some (.ref p), a1, a2, some (.int R), some (.ref q), some (rowD ls), z6] H = some (!ls.isEmpty, H) := by
      unfold tTru; rw [vr (d := rowD ls) rfl]; simp [rowD, truD]
    unfold eIf
    rw [tv]
    cases ls with
    | nil => rfl
    | cons l r =>
      have : atI ((l :: r).map D.int) 0 = some (.int l) := atI_nat (j := 0) rfl
      show eOp ixD (eVar 5) (eC (.int 0)) [some (.ref p), a1, a2, some (.int R), some (.ref q), some (rowD (l :: r)), z6] H = some (.int l, H)
      exact op (vr rfl) rfl (ixT this)
  let σ : SD := [some (.ref p), a1, a2, some (.int R), some (.ref q), some (rowD ls), some (.int (hd0 ls))]
  have dg : eOp dgetD (eVar 0) (eVar 5) σ H = some (v, H) := by
    refine op (vr rfl) (vr rfl) ?_
    simp [dgetD, dicD, hp, nk_row, ev]
  have t1 : tOf (eOp eqD (eVar 6) (eUn negD (eVar 3))) σ H = some (hd0 ls == -R, H) := tof (op (vr rfl) (un (vr rfl) rfl) (eq_int _ _ _))
  have t2 : tOf (eOp neD (eVar 6) (eVar 3)) σ H = some (!(hd0 ls == R), H) := tof (op (vr rfl) (vr rfl) (ne_int _ _ _))
  have id1 : isDic (.ref q) H = true := by simp [isDic, hq]
  obtain ⟨A1, A2, A3⟩ := act (b := b) (t := t) (ls := ls) hb
  refine ⟨v, some (.int (hd0 ls)), ev, ?_⟩
  show bb [some (.ref p), a1, a2, some (.int R), some (.ref q), some (rowD ls), z6] H = some (.nx, σ, _)
  unfold bb
  rw [seq_nx s1]
  by_cases c1 : hd0 ls = -R
  · obtain ⟨h1, h2⟩ := A1 c1
    have sd : slD (rowD ls) (some 1) none H = some (rowD (ls.drop 1), H) := by
      have := sllo (xs := ls.map D.int) (k := 1) (H := H)
      rw [← List.map_drop] at this
      exact this
    obtain ⟨z, es⟩ := sdef_ok (k := ls.drop 1) (v := v) hq hl
    rw [h1, if_neg (by simp), h2]
    refine (seq_nx (σ1 := σ) (H1 := H.set q (.dic (addK acc (ls.drop 1) v) false)) ?_).trans rfl
    rw [iff_t t1, if_pos (by simpa using c1)]
    exact (seq_nx (ex (dm (vr rfl) id1 (ac (sl (vr rfl) (os rfl) on sd) (ac dg an)) es))).trans rfl
  · by_cases c2 : hd0 ls = R
    · rw [A3 c1 c2, if_pos rfl, self]
      refine (seq_nx (σ1 := σ) (H1 := H) ?_).trans rfl
      rw [iff_t t1, if_neg (by simpa using c1)]
      refine (seq_nx (σ1 := σ) (H1 := H) ?_).trans rfl
      rw [iff_t t2, if_neg (by simpa using c2)]
      rfl
    · obtain ⟨h1, h2⟩ := A2 c1 c2
      obtain ⟨z, es⟩ := sdef_ok (k := ls) (v := v) hq hl
      rw [h1, if_neg (by simp), h2]
      refine (seq_nx (σ1 := σ) (H1 := H.set q (.dic (addK acc ls v) false)) ?_).trans rfl
      rw [iff_t t1, if_neg (by simpa using c1)]
      refine (seq_nx (σ1 := σ) (H1 := H.set q (.dic (addK acc ls v) false)) ?_).trans rfl
      rw [iff_t t2, if_pos (by simpa using c2)]
      exact (seq_nx (ex (dm (vr rfl) id1 (ac (vr rfl) (ac dg an)) es))).trans rfl
theorem bb_loop {p q : Nat} {kvs : List (D × D)} {b : Int} {t : Bool} {a1 a2 : Option D} (hb : 0 ≤ b) (hpq : p ≠ q) : ∀ (qs : List (List Int)) (acc : List (D × D)) (H : HD) (z5 z6 : Option D), H[p]? = some (.dic kvs true) → H[q]? = some (.dic acc false) → acc.length + qs.length ≤ 100000 → (∀ ls ∈ qs, (dlook kvs ls).isSome = true) →
    ∃ (acc' : List (D × D)) (z5' z6' : Option D), forL [(p, .dic kvs true)] (gNm 5) bb (qs.map rowD) [some (.ref p), a1, a2, some (.int (if t = true then b + 1 else -(b + 1))), some (.ref q), z5, z6] H = some (.nx, [some (.ref p), a1, a2, some (.int (if t = true then b + 1 else -(b + 1))), some (.ref q), z5', z6'], H.set q (.dic acc' false)) ∧
      (∀ x ∈ acc', x ∈ acc ∨ ∃ ls ∈ qs, hits b t ls = false ∧ x.1 = rowD (nextR b ls)) ∧ (∀ k, (dlook acc k).isSome = true → (dlook acc' k).isSome = true) ∧ (∀ ls ∈ qs, hits b t ls = false → (dlook acc' (nextR b ls)).isSome = true) ∧ acc'.length ≤ acc.length + qs.length ∧ (∀ x ∈ acc', x ∈ acc ∨ ∃ ls ∈ qs, hits b t ls = false ∧ x.1 = rowD (nextR b ls) ∧ dlook kvs ls = some x.2)
  | [], acc, H, z5, z6, hp, hq, _, _ => by
    obtain ⟨h1, h2⟩ := List.getElem?_eq_some_iff.mp hq
    refine ⟨acc, z5, z6, ?_, fun p hp => .inl hp, fun _ h => h, by simp, by simp, fun p hp => .inl hp⟩
    rw [List.map_nil, forL, if_pos (by intro x hx; simp at hx; subst hx; exact hp), ← h2, List.set_getElem_self h1]
  | ls :: qs, acc, H, z5, z6, hp, hq, hl, hk => by
    have lt := (List.getElem?_eq_some_iff.mp hq).1
    rw [List.map_cons, forL, if_pos (by intro x hx; simp at hx; subst hx; exact hp)]
    simp only [gNm, List.set, Option.bind_some]
    obtain ⟨v, z6', ev, e1⟩ := bb_ok (t := t) (a1 := a1) (a2 := a2) (z6 := z6) (ls := ls) hb hp hq (by omega) (hk ls (by simp))
    rw [e1]
    simp only [Option.bind_some]
    let acc1 := if hits b t ls = true then acc else addK acc (nextR b ls) v
    have al : acc1.length ≤ acc.length + 1 := by
      show (if hits b t ls = true then acc else addK acc (nextR b ls) v).length ≤ _
      split
      · omega
      · exact add_len _ _ _
    obtain ⟨acc', z5', z6'', e, a1', a2', a3', a4', a5'⟩ := bb_loop (p := p) (q := q) (kvs := kvs) (t := t) (a1 := a1) (a2 := a2) hb hpq qs acc1 (H.set q (.dic acc1 false)) (some (rowD ls)) z6' (by rw [List.getElem?_set_ne (Ne.symm hpq)]; exact hp) (by rw [List.getElem?_set_self lt]) (by simp at hl ⊢; omega) (fun l hl => hk l (by simp [hl]))
    have mono : ∀ k, (dlook acc k).isSome = true → (dlook acc1 k).isSome = true := fun k hk => by
      show (dlook (if hits b t ls = true then acc else addK acc (nextR b ls) v) k).isSome = true
      split
      · exact hk
      · rw [add_look, hk]; rfl
    have lenF : acc'.length ≤ acc.length + (ls :: qs).length := by
      have e8 : (ls :: qs).length = qs.length + 1 := rfl
      have e9 : acc'.length ≤ acc1.length + qs.length := a4'
      omega
    refine ⟨acc', z5', z6'', by rw [e, List.set_set], fun x hx => ?_, fun k hk => a2' k (mono k hk), fun l hl' hh => ?_, lenF, fun x hx => ?_⟩
    · rcases a1' x hx with h | ⟨l, h1, h2⟩
      · cases hc : hits b t ls with
        | true =>
          have : acc1 = acc := if_pos hc
          rw [this] at h; exact .inl h
        | false =>
          have : acc1 = addK acc (nextR b ls) v := if_neg (by rw [hc]; simp)
          rw [this] at h
          rcases add_mem h with h | h
          · exact .inl h
          · exact .inr ⟨ls, by simp, hc, h⟩
      · exact .inr ⟨l, by simp [h1], h2⟩
    · rcases List.mem_cons.mp hl' with rfl | hl'
      · refine a2' _ ?_
        have : acc1 = addK acc (nextR b l) v := if_neg (by rw [hh]; simp)
        rw [this, add_look]; simp
      · exact a3' l hl' hh
    · rcases a5' x hx with h | ⟨l, h1, h2⟩
      · cases hc : hits b t ls with
        | true =>
          have : acc1 = acc := if_pos hc
          rw [this] at h; exact .inl h
        | false =>
          have : acc1 = addK acc (nextR b ls) v := if_neg (by rw [hc]; simp)
          rw [this] at h
          rcases add_mem2 h with h | h
          · exact .inl h
          · exact .inr ⟨ls, by simp, hc, by rw [h], by rw [h]; exact ev⟩
      · exact .inr ⟨l, by simp [h1], h2⟩
end K08
namespace K08
open PySem L2 DL LH
theorem dlook_mem {kvs : List (D × D)} {k : List Int} (h : (dlook kvs k).isSome = true) : ∃ p ∈ kvs, nk p.1 = some k := by
  unfold dlook at h
  rw [Option.isSome_map] at h
  obtain ⟨p, e⟩ := Option.isSome_iff_exists.mp h
  exact ⟨p, List.mem_of_find?_eq_some e, by have := List.find?_some e; simpa using this⟩
theorem mem_dlook {kvs : List (D × D)} {k : List Int} {p : D × D} (hp : p ∈ kvs) (h : nk p.1 = some k) : (dlook kvs k).isSome = true := by
  unfold dlook
  rw [Option.isSome_map, List.find?_isSome]
  exact ⟨p, hp, by simp [h]⟩
theorem dlook_at {kvs : List (D × D)} {k : List Int} {v : D} (h : dlook kvs k = some v) : ∃ p ∈ kvs, nk p.1 = some k ∧ p.2 = v := by
  unfold dlook at h
  obtain ⟨p, e, rfl⟩ := Option.map_eq_some_iff.mp h
  exact ⟨p, List.mem_of_find?_eq_some e, by have := List.find?_some e; simpa using this, rfl⟩
theorem keys_of {rss : List (List Int)} {bs : List Bool} : ∀ {kvs : List (D × D)}, (∀ p ∈ kvs, ∃ ls ∈ rss, kept bs ls = false ∧ p.1 = rowD (rest bs ls)) → ∃ qs : List (List Int), kvs.map (·.1) = qs.map rowD ∧ ∀ q ∈ qs, ∃ ls ∈ rss, kept bs ls = false ∧ q = rest bs ls
  | [], _ => ⟨[], rfl, by simp⟩
  | p :: kvs, h => by
    obtain ⟨ls, h1, h2, h3⟩ := h p (by simp)
    obtain ⟨qs, e, g⟩ := keys_of (kvs := kvs) fun x hx => h x (by simp [hx])
    refine ⟨rest bs ls :: qs, by rw [List.map_cons, List.map_cons, e, h3], fun q hq => ?_⟩
    rcases List.mem_cons.mp hq with rfl | hq
    · exact ⟨ls, h1, h2, rfl⟩
    · exact g q hq
theorem behind_ok {rss : List (List Int)} {m : Int} {bs : List Bool} {t : Bool} {kvs : List (D × D)} {fz : Bool} {p : Nat} {H : HD} (hu : ∀ ls ∈ rss, Up m 0 ls) (hl : rss.length ≤ 1000) (hp : H[p]? = some (.dic kvs fz)) (dr : DR rss bs kvs) :
    ∃ (kvs' : List (D × D)) (H' : HD) (q : Nat), m_rows_behind [.ref p, .int ((bs.length : Int) + 1), .bl t] H = some (.ref q, H') ∧ H'[q]? = some (.dic kvs' false) ∧ DR rss (bs ++ [t]) kvs' ∧ Fz H H' := by
  obtain ⟨qs, eq, gq⟩ := keys_of dr.key
  let b : Int := bs.length
  have hb : 0 ≤ b := by show (0 : Int) ≤ bs.length; omega
  let R : Int := if t = true then b + 1 else -(b + 1)
  have ltp := (List.getElem?_eq_some_iff.mp hp).1
  have s1 : sSet 3 (eIf (tTru (eVar 2)) (eVar 1) (eUn negD (eVar 1))) [some (.ref p), some (.int (b + 1)), some (.bl t), none, none, none, none] H = some (.nx, [some (.ref p), some (.int (b + 1)), some (.bl t), some (.int R), none, none, none], H) := by
    refine set_nx (d := .int R) ?_
    cases t <;> rfl
  have s2 : sSet 4 eDN [some (.ref p), some (.int (b + 1)), some (.bl t), some (.int R), none, none, none] H = some (.nx, [some (.ref p), some (.int (b + 1)), some (.bl t), some (.int R), some (.ref H.length), none, none], H ++ [.dic [] false]) := rfl
  let H1 : HD := (H ++ [DO.dic [] false]).set p (DO.dic kvs true)
  have hp0 : (H ++ [DO.dic [] false])[p]? = some (.dic kvs fz) := by rw [List.getElem?_append_left ltp]; exact hp
  have hp1 : H1[p]? = some (.dic kvs true) := by rw [List.getElem?_set_self (by simp; omega)]
  have hq1 : H1[H.length]? = some (.dic [] false) := by rw [List.getElem?_set_ne (by omega)]; simp
  have lq : qs.length = kvs.length := by have := congrArg List.length eq; simpa using this.symm
  have kk : ∀ ls ∈ qs, (dlook kvs ls).isSome = true := fun ls hls => by
    have : rowD ls ∈ kvs.map (·.1) := by rw [eq]; exact List.mem_map_of_mem hls
    obtain ⟨x, hx, ex⟩ := List.mem_map.mp this
    exact mem_dlook hx (by rw [ex, nk_row])
  have dl := dr.len
  obtain ⟨acc, z5, z6, e, a1, a2, a3, a4, a5⟩ := bb_loop (p := p) (q := H.length) (kvs := kvs) (b := b) (t := t) (a1 := some (.int (b + 1))) (a2 := some (.bl t)) hb (by omega) qs [] H1 none none hp1 hq1 (by simp; omega) kk
  have e1 : sFor (iDic (eVar 0)) (gNm 5) bb [some (.ref p), some (.int (b + 1)), some (.bl t), some (.int R), some (.ref H.length), none, none] (H ++ [.dic [] false]) = some (.nx, [some (.ref p), some (.int (b + 1)), some (.bl t), some (.int R), some (.ref H.length), z5, z6], H1.set H.length (.dic acc false)) := by
    unfold sFor iDic
    rw [vr (d := .ref p) rfl]
    simp only [Option.bind_some, hp0]
    rw [eq]
    exact e
  have lt1 : H.length < H1.length := (List.getElem?_eq_some_iff.mp hq1).1
  refine ⟨acc, H1.set H.length (.dic acc false), H.length, ?_, by rw [List.getElem?_set_self lt1], ⟨fun x hx => ?_, fun ls hls hk => ?_, ?_, fun x hx => ?_⟩, ⟨fun mm o ho => ?_, by simp [H1]⟩⟩
  · show ((b_rows_behind [some (.ref p), some (.int (b + 1)), some (.bl t), none, none, none, none] H).bind _) = _
    unfold b_rows_behind
    rw [seq_nx s1, seq_nx s2, seq_nx e1]
    rfl
  · rcases a1 x hx with h | ⟨q, h1, h2, h3⟩
    · simp at h
    · obtain ⟨ls, g1, g2, rfl⟩ := gq q h1
      obtain ⟨n1, n2⟩ := next_ok bs t ls 0 (Int.le_refl _) (hu ls g1)
      refine ⟨ls, g1, ?_, by rw [n1]; exact h3⟩
      rw [n2, g2]; exact h2
  · obtain ⟨n1, n2⟩ := next_ok bs t ls 0 (Int.le_refl _) (hu ls hls)
    rw [n2, Bool.or_eq_false_iff] at hk
    obtain ⟨x, hx, ex⟩ := dlook_mem (dr.all ls hls hk.1)
    have hm : x.1 ∈ qs.map rowD := by rw [← eq]; exact List.mem_map_of_mem hx
    obtain ⟨q, hq, eqq⟩ := List.mem_map.mp hm
    have : q = rest bs ls := by rw [← eqq, nk_row] at ex; exact Option.some.inj ex
    subst this
    rw [n1]
    exact a3 _ hq hk.2
  · simp at a4; omega
  · rcases a5 x hx with h | ⟨q, h1, h2, h3, h4⟩
    · simp at h
    · obtain ⟨y, y1, y2, y3⟩ := dlook_at h4
      obtain ⟨i, ls, g1, g2, rfl⟩ := dr.val y y1
      have : q = rest bs ls := by rw [nk_row] at y2; exact (Option.some.inj y2).symm
      subst this
      obtain ⟨n1, n2⟩ := next_ok bs t ls 0 (Int.le_refl _) (hu ls (List.mem_of_getElem? g1))
      exact ⟨i, ls, g1, by rw [n2, g2]; exact h2, Prod.ext (by rw [n1]; exact h3) y3.symm⟩
  · have lm : mm < H.length := (List.getElem?_eq_some_iff.mp ho).1
    rw [List.getElem?_set_ne (by omega)]
    by_cases c : p = mm
    · subst c
      rw [hp] at ho
      cases ho
      cases fz with
      | true => exact .inl hp1
      | false => exact .inr ⟨kvs, rfl, hp1⟩
    · refine .inl ?_
      show ((H ++ [DO.dic [] false]).set p (.dic kvs true))[mm]? = some o
      rw [List.getElem?_set_ne c, List.getElem?_append_left lm]; exact ho
end K08
namespace K08
open PySem L2 DL LH
theorem play_loop {rss : List (List Int)} {m : Int} {r pl : D} (hu : ∀ ls ∈ rss, Up m 0 ls) (hl : rss.length ≤ 1000) : ∀ (ts bs : List Bool) (kvs : List (D × D)) (p : Nat) (fz : Bool) (H : HD) (z3 z4 : Option D), H[p]? = some (.dic kvs fz) → DR rss bs kvs →
    ∃ (kvs' : List (D × D)) (H' : HD) (q : Nat) (fz' : Bool) (z3' z4' : Option D), forL [] (gTp 2 (gCn (gNm 3) (gCn (gNm 4) gNl))) (sSeq (sSet 2 (eCall 3 m_rows_behind (aCons (eVar 2) (aCons (eVar 3) (aCons (eVar 4) aNil))))) sNil) (enumL ((bs.length : Int) + 1) (ts.map .bl)) [some r, some pl, some (.ref p), z3, z4] H = some (.nx, [some r, some pl, some (.ref q), z3', z4'], H') ∧ H'[q]? = some (.dic kvs' fz') ∧ DR rss (bs ++ ts) kvs' ∧ Fz H H'
  | [], bs, kvs, p, fz, H, z3, z4, hp, dr => ⟨kvs, H, p, fz, z3, z4, by rw [List.map_nil, enumL, forL, if_pos ok_nil], hp, by rw [List.append_nil]; exact dr, Fz.refl⟩
  | t :: ts, bs, kvs, p, fz, H, z3, z4, hp, dr => by
    rw [List.map_cons, enumL, forL, if_pos ok_nil]
    simp only [gTp, List.length_cons, List.length_nil, gCn, gNm, gNl, List.set, Option.bind_some, if_true, Nat.zero_add, Nat.reduceAdd]
    obtain ⟨k1, H1, q1, e1, g1, d1, x1⟩ := behind_ok (t := t) hu hl hp dr
    have st : (sSeq (sSet 2 (eCall 3 m_rows_behind (aCons (eVar 2) (aCons (eVar 3) (aCons (eVar 4) aNil))))) sNil) [some r, some pl, some (.ref p), some (.int ((bs.length : Int) + 1)), some (.bl t)] H = some (.nx, [some r, some pl, some (.ref q1), some (.int ((bs.length : Int) + 1)), some (.bl t)], H1) :=
      (seq_nx (set_nx (ca (ac (vr rfl) (ac (vr rfl) (ac (vr rfl) an))) rfl e1))).trans rfl
    rw [st]
    simp only [Option.bind_some]
    obtain ⟨k2, H2, q2, fz2, z3', z4', e2, g2, d2, x2⟩ := play_loop (r := r) (pl := pl) hu hl ts (bs ++ [t]) k1 q1 false H1 (some (.int ((bs.length : Int) + 1))) (some (.bl t)) g1 d1
    have ec : (((bs ++ [t]).length : Nat) : Int) + 1 = (bs.length : Int) + 1 + 1 := by simp
    rw [ec] at e2
    refine ⟨k2, H2, q2, fz2, z3', z4', e2, g2, ?_, x1.trans x2⟩
    rw [List.append_assoc] at d2
    exact d2
theorem behind_play_ok {rss : List (List Int)} {m : Int} {bs : List Bool} (hu : ∀ ls ∈ rss, Up m 0 ls) (hl : rss.length ≤ 1000) (H : HD) :
    ∃ (kvs : List (D × D)) (H' : HD) (q : Nat) (fz : Bool), m_rows_behind_play [.tup (rss.map rowD), .tup (bs.map .bl)] H = some (.ref q, H') ∧ H'[q]? = some (.dic kvs fz) ∧ DR rss bs kvs ∧ Fz H H' := by
  obtain ⟨k1, H1, q1, e1, g1, d1, x1⟩ := first_ok hu hl H
  have s1 : sSet 2 (eCall 1 m_first_numbers (aCons (eVar 0) aNil)) [some (.tup (rss.map rowD)), some (.tup (bs.map .bl)), none, none, none] H = some (.nx, [some (.tup (rss.map rowD)), some (.tup (bs.map .bl)), some (.ref q1), none, none], H1) := set_nx (ca (ac (vr rfl) an) rfl e1)
  obtain ⟨k2, H2, q2, fz2, z3', z4', e2, g2, d2, x2⟩ := play_loop (r := .tup (rss.map rowD)) (pl := .tup (bs.map .bl)) hu hl bs [] k1 q1 false H1 none none g1 d1
  have e3 : sFor (iEnum1 (aCons (eVar 1) aNil)) (gTp 2 (gCn (gNm 3) (gCn (gNm 4) gNl))) (sSeq (sSet 2 (eCall 3 m_rows_behind (aCons (eVar 2) (aCons (eVar 3) (aCons (eVar 4) aNil))))) sNil) [some (.tup (rss.map rowD)), some (.tup (bs.map .bl)), some (.ref q1), none, none] H1 = some (.nx, [some (.tup (rss.map rowD)), some (.tup (bs.map .bl)), some (.ref q2), z3', z4'], H2) := by
    unfold sFor iEnum1
    rw [ac (vr rfl) an]
    exact e2
  refine ⟨k2, H2, q2, fz2, ?_, g2, d2, x1.trans x2⟩
  show ((b_rows_behind_play [some (.tup (rss.map rowD)), some (.tup (bs.map .bl)), none, none, none] H).bind _) = _
  unfold b_rows_behind_play
  rw [seq_nx s1, seq_nx e3]
  rfl
end K08
namespace K08
open PySem L2 DL LH
noncomputable def kS (d : D) : Bool := match d with
  | .str s => s == "some"
  | _ => false
noncomputable def sideD (b : Bool) : D := if b then .str "some" else .str "all"
theorem kind_side {d : D} (h : IsKind d) : d = sideD (kS d) := by
  rcases h with rfl | rfl
  · have : kS (.str "all") = false := by decide
    rw [this]; rfl
  · have : kS (.str "some") = true := by decide
    rw [this]; rfl
noncomputable def W (ks : List D) (rss : List (List Int)) : Nat → List Bool → Bool
  | 0, bs => rss.all (kept bs)
  | j + 1, bs =>
    let who := kS (ks.getD bs.length .non)
    if W ks rss j (bs ++ [false]) == who || W ks rss j (bs ++ [true]) == who then who else !who
theorem kept_more {bs : List Bool} {t : Bool} {ls : List Int} {m : Int} (hu : Up m 0 ls) (h : kept bs ls = true) : kept (bs ++ [t]) ls = true := by
  rw [(next_ok bs t ls 0 (Int.le_refl _) hu).2, h]; rfl
theorem W_some {ks : List D} {rss : List (List Int)} {m : Int} (hu : ∀ ls ∈ rss, Up m 0 ls) : ∀ (j : Nat) (bs : List Bool), (∀ ls ∈ rss, kept bs ls = true) → W ks rss j bs = true
  | 0, bs, h => by unfold W; rw [List.all_eq_true]; exact h
  | j + 1, bs, h => by
    have a := W_some (ks := ks) hu j (bs ++ [false]) fun ls hl => kept_more (hu ls hl) (h ls hl)
    have b := W_some (ks := ks) hu j (bs ++ [true]) fun ls hl => kept_more (hu ls hl) (h ls hl)
    unfold W
    rw [a, b]
    cases kS (ks.getD bs.length .non) <;> rfl
theorem lost_more {bs : List Bool} {t : Bool} {ls : List Int} {m : Int} (hu : Up m 0 ls) (h : kept bs ls = false ∧ rest bs ls = []) : kept (bs ++ [t]) ls = false ∧ rest (bs ++ [t]) ls = [] := by
  obtain ⟨n1, n2⟩ := next_ok bs t ls 0 (Int.le_refl _) hu
  rw [n1, n2, h.1, h.2]; exact ⟨rfl, rfl⟩
theorem W_all {ks : List D} {rss : List (List Int)} {m : Int} {ls : List Int} (hl : ls ∈ rss) (hu : Up m 0 ls) : ∀ (j : Nat) (bs : List Bool), kept bs ls = false ∧ rest bs ls = [] → W ks rss j bs = false
  | 0, bs, h => by
    unfold W
    cases e : rss.all (kept bs) with
    | false => rfl
    | true => rw [List.all_eq_true.mp e ls hl] at h; cases h.1
  | j + 1, bs, h => by
    have a := W_all (ks := ks) hl hu j (bs ++ [false]) (lost_more hu h)
    have b := W_all (ks := ks) hl hu j (bs ++ [true]) (lost_more hu h)
    unfold W
    rw [a, b]
    cases kS (ks.getD bs.length .non) <;> rfl
theorem up_end {m : Int} (bs : List Bool) (h : m ≤ bs.length) : ∀ (ls : List Int) (last : Int), Up m last ls → rest bs ls = []
  | [], _, _ => rfl
  | l :: r, last, u => by
    have o : opn bs l = false := decide_eq_false (by have := u.2.1; omega)
    unfold rest
    rw [List.filter_cons_of_neg (by rw [o]; simp)]
    exact up_end bs h r (absZ l) u.2.2
theorem other_ok (b : Bool) (H : HD) : m_other_side [sideD b] H = some (sideD (!b), H) := by
  cases b
  · have : ((("all" : Str)) == ("some" : Str)) = false := by decide
    simp [m_other_side, b_other_side, runB, sideD, sSeq, sRet, eIf, tOf, eOp, eqD, twoS, eVar, eC, blD, this]
  · simp [m_other_side, b_other_side, runB, sideD, sSeq, sRet, eIf, tOf, eOp, eqD, twoS, eVar, eC, blD]
theorem side_eq (a b : Bool) (H : HD) : eqD (sideD a) (sideD b) H = some (.bl (a == b), H) := by
  have e1 : ((("all" : Str)) == ("some" : Str)) = false := by decide
  have e2 : ((("some" : Str)) == ("all" : Str)) = false := by decide
  cases a <;> cases b <;> simp [eqD, twoS, sideD, e1, e2]
noncomputable def playD (bs : List Bool) : D := .tup (bs.map .bl)
end K08
namespace K08
open PySem L2 DL LH
noncomputable abbrev wb (F : FF) : SF := (sSeq (sIf (tOf (eOp eqD (eCall 3 F (aCons (eVar 0) (aCons (eCall 3 m_rows_behind (aCons (eVar 1) (aCons (eOp addD (eVar 2) (eC (.int 1))) (aCons (eVar 4) aNil)))) (aCons (eOp addD (eVar 2) (eC (.int 1))) aNil)))) (eVar 3))) (sSeq (sRet (eVar 3))
  sNil) sNil)
  sNil)
theorem winb_ok {ks : List D} {rss : List (List Int)} (hk : ∀ d ∈ ks, IsKind d) (hu : ∀ ls ∈ rss, Up ks.length 0 ls) (hl : rss.length ≤ 1000) : ∀ (j f : Nat) (bs : List Bool) (kvs : List (D × D)) (p : Nat) (fz : Bool) (H : HD), j < f → bs.length + j = ks.length → H[p]? = some (.dic kvs fz) → DR rss bs kvs →
    ∃ H', recF 3 5 b_winner_behind f [.tup ks, .ref p, .int bs.length] H = some (sideD (W ks rss j bs), H') ∧ Fz H H'
  | j, 0, bs, kvs, p, fz, H, hf, _, _, _ => by omega
  | j, f + 1, bs, kvs, p, fz, H, hf, hj, hp, dr => by
    show ∃ H', ((b_winner_behind (recF 3 5 b_winner_behind f) [some (.tup ks), some (.ref p), some (.int bs.length), none, none] H).bind _) = _ ∧ _
    generalize hF : recF 3 5 b_winner_behind f = F
    let σ0 : SD := [some (.tup ks), some (.ref p), some (.int bs.length), none, none]
    have t1 : tOf (eOp dinD (eTup aNil) (eVar 1)) σ0 H = some ((dlook kvs []).isSome, H) := by
      refine tof (op (tp (ds := []) an (by simp)) (vr rfl) ?_)
      simp [dinD, dicD, hp, nk, nksOf]
    have t2 : tOf (eOp eqD (eCB dlenD (aCons (eVar 1) aNil)) (eC (.int 0))) σ0 H = some ((kvs.length : Int) == 0, H) := by
      refine tof (op (cb (ac (vr rfl) an) (r := some (.int kvs.length, H)) ?_) rfl (eq_int _ _ _))
      simp [dlenD, dicD, hp]
    cases c1 : (dlook kvs []).isSome with
    | true =>
      rw [c1] at t1
      obtain ⟨x, hx, ex⟩ := dlook_mem c1
      obtain ⟨ls, g1, g2, g3⟩ := dr.key x hx
      have r0 : rest bs ls = [] := by rw [g3, nk_row] at ex; exact Option.some.inj ex
      refine ⟨H, ?_, Fz.refl⟩
      unfold b_winner_behind
      rw [hit (σ1 := σ0) t1 (rt rfl), W_all g1 (hu ls g1) j bs ⟨g2, r0⟩]
      rfl
    | false =>
      rw [c1] at t1
      by_cases c2 : kvs = []
      · subst c2
        have al : ∀ ls ∈ rss, kept bs ls = true := fun ls h => by
          cases e : kept bs ls with
          | true => rfl
          | false => have := dr.all ls h e; simp [dlook] at this
        refine ⟨H, ?_, Fz.refl⟩
        unfold b_winner_behind
        rw [skip t1, hit (σ1 := σ0) t2 (rt rfl), W_some hu j bs al]
        rfl
      · have t2' : tOf (eOp eqD (eCB dlenD (aCons (eVar 1) aNil)) (eC (.int 0))) σ0 H = some (false, H) := by
          rw [t2]
          have : ((kvs.length : Int) == 0) = false := by
            have := List.length_pos_iff.mpr c2
            simp; exact c2
          rw [this]
        -- a name is left
        match j, hj, hf with
        | 0, hj, hf =>
          exfalso
          obtain ⟨x, kr, e⟩ := List.exists_cons_of_ne_nil c2
          obtain ⟨ls, g1, g2, g3⟩ := dr.key x (by rw [e]; simp)
          have r0 := up_end bs (m := ks.length) (by omega) ls 0 (hu ls g1)
          have := dr.all ls g1 g2
          rw [r0, c1] at this; cases this
        | j + 1, hj, hf =>
          have lt : bs.length < ks.length := by omega
          let who : Bool := kS (ks.getD bs.length .non)
          have gw : ks[bs.length]? = some (sideD who) := by
            have e0 : ks.getD bs.length .non = ks[bs.length] := by simp [List.getD, lt]
            have := kind_side (hk ks[bs.length] (List.getElem_mem lt))
            rw [List.getElem?_eq_getElem lt, this]
            show some (sideD (kS ks[bs.length])) = some (sideD (kS (ks.getD bs.length .non)))
            rw [e0]
          have s3 : sSet 3 (eOp ixD (eVar 0) (eVar 2)) σ0 H = some (.nx, [some (.tup ks), some (.ref p), some (.int bs.length), some (sideD who), none], H) := set_nx (op (vr rfl) (vr rfl) (ixT (atI_nat gw)))
          -- one pick
          have one : ∀ (t : Bool) (z4 : Option D) (H0 : HD) (fz0 : Bool), H0[p]? = some (.dic kvs fz0) → ∃ H1, tOf (eOp eqD (eCall 3 F (aCons (eVar 0) (aCons (eCall 3 m_rows_behind (aCons (eVar 1) (aCons (eOp addD (eVar 2) (eC (.int 1))) (aCons (eVar 4) aNil)))) (aCons (eOp addD (eVar 2) (eC (.int 1))) aNil)))) (eVar 3)) [some (.tup ks), some (.ref p), some (.int bs.length), some (sideD who), some (.bl t)] H0 = some (W ks rss j (bs ++ [t]) == who, H1) ∧ Fz H0 H1 := by
            intro t z4 H0 fz0 h0
            obtain ⟨k1, H1, q1, e1, g1, d1, x1⟩ := behind_ok (t := t) hu hl h0 dr
            obtain ⟨H2, e2, x2⟩ := winb_ok hk hu hl j f (bs ++ [t]) k1 q1 false H1 (by omega) (by simp; omega) g1 d1
            have el : (((bs ++ [t]).length : Nat) : Int) = (bs.length : Int) + 1 := by simp
            rw [el, hF] at e2
            refine ⟨H2, tof (op (ca (ac (vr rfl) (ac (ca (ac (vr rfl) (ac (op (vr rfl) rfl (adI _ _ _)) (ac (vr rfl) an))) rfl e1) (ac (op (vr rfl) rfl (adI _ _ _)) an))) rfl e2) (vr rfl) (side_eq _ _ _)), x1.trans x2⟩
          obtain ⟨H1, o1, x1⟩ := one false none H fz hp
          obtain ⟨fz1, h1⟩ := x1.dic hp
          obtain ⟨H2, o2, x2⟩ := one true none H1 fz1 h1
          have Wd : W ks rss (j + 1) bs = (if W ks rss j (bs ++ [false]) == who || W ks rss j (bs ++ [true]) == who then who else !who) := by
            conv => lhs; unfold W
          have it : ∀ Hx, iSq (eC k_TRUTHS) [some (.tup ks), some (.ref p), some (.int bs.length), some (sideD who), none] Hx = some (([.bl false, .bl true], []), Hx) := fun _ => rfl
          have st : ∀ (t b : Bool) (Ha Hb : HD), tOf (eOp eqD (eCall 3 F (aCons (eVar 0) (aCons (eCall 3 m_rows_behind (aCons (eVar 1) (aCons (eOp addD (eVar 2) (eC (.int 1))) (aCons (eVar 4) aNil)))) (aCons (eOp addD (eVar 2) (eC (.int 1))) aNil)))) (eVar 3)) [some (.tup ks), some (.ref p), some (.int bs.length), some (sideD who), some (.bl t)] Ha = some (b, Hb) →
              wb F [some (.tup ks), some (.ref p), some (.int bs.length), some (sideD who), some (.bl t)] Ha = some (if b = true then .rt (sideD who) else .nx, [some (.tup ks), some (.ref p), some (.int bs.length), some (sideD who), some (.bl t)], Hb) := by
            intro t b Ha Hb h
            cases b with
            | true => exact hit h (rt (vr rfl))
            | false => exact (skip h).trans rfl
          unfold b_winner_behind
          rw [skip t1, skip t2', seq_nx s3]
          cases w1 : (W ks rss j (bs ++ [false]) == who) with
          | true =>
            rw [w1] at o1
            refine ⟨H1, ?_, x1⟩
            have lp : sFor (iSq (eC k_TRUTHS)) (gNm 4) (wb F) [some (.tup ks), some (.ref p), some (.int bs.length), some (sideD who), none] H = some (.rt (sideD who), [some (.tup ks), some (.ref p), some (.int bs.length), some (sideD who), some (.bl false)], H1) := by
              unfold sFor
              rw [it]
              simp only [Option.bind_some]
              rw [forL, if_pos ok_nil]
              simp only [gNm, List.set, Option.bind_some]
              rw [st _ _ _ _ o1]
              rfl
            rw [seq_rt lp, Wd, w1]
            rfl
          | false =>
            rw [w1] at o1
            have lp : sFor (iSq (eC k_TRUTHS)) (gNm 4) (wb F) [some (.tup ks), some (.ref p), some (.int bs.length), some (sideD who), none] H = some (if (W ks rss j (bs ++ [true]) == who) = true then .rt (sideD who) else .nx, [some (.tup ks), some (.ref p), some (.int bs.length), some (sideD who), some (.bl true)], H2) := by
              unfold sFor
              rw [it]
              simp only [Option.bind_some]
              rw [forL, if_pos ok_nil]
              simp only [gNm, List.set, Option.bind_some]
              rw [st _ _ _ _ o1]
              simp only [Option.bind_some, Bool.false_eq_true, if_false]
              rw [forL, if_pos ok_nil]
              simp only [gNm, List.set, Option.bind_some]
              rw [st _ _ _ _ o2]
              cases (W ks rss j (bs ++ [true]) == who) with
              | true => rfl
              | false =>
                simp only [Option.bind_some, Bool.false_eq_true, if_false]
                rw [forL, if_pos ok_nil]
            refine ⟨H2, ?_, x1.trans x2⟩
            cases w2 : (W ks rss j (bs ++ [true]) == who) with
            | true =>
              rw [w2, if_pos rfl] at lp
              rw [seq_rt lp, Wd, w1, w2]
              rfl
            | false =>
              rw [w2, if_neg (by simp)] at lp
              have eo : eCall 1 m_other_side (aCons (eVar 3) aNil) [some (.tup ks), some (.ref p), some (.int bs.length), some (sideD who), some (.bl true)] H2 = some (sideD (!who), H2) := ca (ac (vr rfl) an) rfl (other_ok who H2)
              rw [seq_nx lp, seq_rt (rt eo), Wd, w1, w2]
              rfl
theorem winner_ok {ks : List D} {rss : List (List Int)} {bs : List Bool} {j : Nat} (hk : ∀ d ∈ ks, IsKind d) (hu : ∀ ls ∈ rss, Up ks.length 0 ls) (hl : rss.length ≤ 1000) (h8 : ks.length ≤ 8) (hj : bs.length + j = ks.length) (H : HD) :
    ∃ H', m_winner [.tup [.tup ks, .tup (rss.map rowD)], .tup (bs.map .bl)] H = some (sideD (W ks rss j bs), H') ∧ Fz H H' := by
  obtain ⟨kvs, H1, q, fz, e1, g1, d1, x1⟩ := behind_play_ok (bs := bs) hu hl H
  obtain ⟨H2, e2, x2⟩ := winb_ok hk hu hl j 10 bs kvs q fz H1 (by omega) hj g1 d1
  refine ⟨H2, ?_, x1.trans x2⟩
  have at0 : atI [D.tup ks, D.tup (rss.map rowD)] 0 = some (.tup ks) := atI_nat (j := 0) rfl
  have at1 : atI [D.tup ks, D.tup (rss.map rowD)] 1 = some (.tup (rss.map rowD)) := atI_nat (j := 1) rfl
  show ((b_winner [some (.tup [.tup ks, .tup (rss.map rowD)]), some (.tup (bs.map .bl))] H).bind _) = _
  unfold b_winner
  have e2' : m_winner_behind [.tup ks, .ref q, .int bs.length] H1 = some (sideD (W ks rss j bs), H2) := e2
  have ec : eCall 3 m_winner_behind (aCons (eOp ixD (eVar 0) (eC (.int 0))) (aCons (eCall 2 m_rows_behind_play (aCons (eOp ixD (eVar 0) (eC (.int 1))) (aCons (eVar 1) aNil))) (aCons (eCB lenD (aCons (eVar 1) aNil)) aNil))) [some (.tup [.tup ks, .tup (rss.map rowD)]), some (.tup (bs.map .bl))] H = some (sideD (W ks rss j bs), H2) :=
    ca (ac (op (vr rfl) rfl (ixT at0)) (ac (ca (ac (op (vr rfl) rfl (ixT at1)) (ac (vr rfl) an)) rfl e1) (ac (cb (ac (vr rfl) an) (lenB bs _)) an))) rfl e2'
  rw [seq_rt (rt ec)]
  rfl
end K08
namespace K08
open PySem L2 DL LH WP
theorem at0 (a b : D) : atI [a, b] 0 = some a := atI_nat (j := 0) rfl
theorem at1 (a b : D) : atI [a, b] 1 = some b := atI_nat (j := 1) rfl
theorem Fz.fm {H H' : HD} (x : Fz H H') : Fm [] H H' := ⟨fun m o _ h => x.old m o h, x.len⟩
structure Cl (ks : List D) (rss : List (List Int)) : Prop where
  hk : ∀ d ∈ ks, IsKind d
  hu : ∀ ls ∈ rss, Up ks.length 0 ls
  hl : rss.length ≤ 1000
  h8 : ks.length ≤ 8
noncomputable def claimD (ks : List D) (rss : List (List Int)) : D := .tup [.tup ks, .tup (rss.map rowD)]
variable {H : HD} {Q : D → HD → Prop}
theorem w_cl0 {ks : List D} {rss : List (List Int)} (q : Q (.tup ks) H) : wE (ixD (claimD ks rss) (.int 0) H) Q := ⟨_, _, ixT (at0 _ _), q⟩
theorem w_cl1 {ks : List D} {rss : List (List Int)} (q : Q (.tup (rss.map rowD)) H) : wE (ixD (claimD ks rss) (.int 1) H) Q := ⟨_, _, ixT (at1 _ _), q⟩
noncomputable def FW (ks : List D) (rss : List (List Int)) (bs : List Bool) : D := sideD (W ks rss (ks.length - bs.length) bs)
theorem w_lenP {bs : List Bool} {H : HD} {Q : D → HD → Prop} (q : Q (.int bs.length) H) : wE (lenD [playD bs] H) Q := ⟨_, _, lenB bs H, q⟩
theorem w_addP {bs : List Bool} {t : Bool} {H : HD} {Q : D → HD → Prop} (h : bs.length ≤ 1000) (q : Q (playD (bs ++ [t])) H) : wE (addD (playD bs) (.tup [.bl t]) H) Q :=
  ⟨playD (bs ++ [t]), H, by unfold playD; rw [adT (by simp; omega), List.map_append]; rfl, q⟩
theorem side_of {ks : List D} (hk : ∀ d ∈ ks, IsKind d) {i : Nat} (h : i < ks.length) : ks[i]? = some (sideD (kS (ks.getD i .non))) := by
  have e0 : ks.getD i .non = ks[i] := by simp [List.getD, h]
  have := kind_side (hk ks[i] (List.getElem_mem h))
  rw [List.getElem?_eq_getElem h, e0]
  exact congrArg some this
theorem w_eqW {ks : List D} {rss : List (List Int)} {bs : List Bool} {b : Bool} {H : HD} {Q : D → HD → Prop} (q : Q (.bl (W ks rss (ks.length - bs.length) bs == b)) H) : wE (eqD (FW ks rss bs) (sideD b) H) Q := ⟨_, _, side_eq _ _ _, q⟩
theorem w_eqSide {a b : Bool} (q : Q (.bl (a == b)) H) : wE (eqD (sideD a) (sideD b) H) Q := ⟨_, _, side_eq _ _ _, q⟩
theorem w_behind {ks : List D} {rss : List (List Int)} {bs : List Bool} {t : Bool} {kvs : List (D × D)} {p : Nat} {fz : Bool} (c : Cl ks rss) (g : H[p]? = some (.dic kvs fz)) (dr : DR rss bs kvs)
    (q : ∀ kvs' r H', H'[r]? = some (.dic kvs' false) → DR rss (bs ++ [t]) kvs' → Fm [] H H' → Q (.ref r) H') : wE (m_rows_behind [.ref p, .int ((bs.length : Int) + 1), .bl t] H) Q := by
  obtain ⟨kvs', H', r, e, g', d', x⟩ := behind_ok (t := t) c.hu c.hl g dr
  exact ⟨_, _, e, q kvs' r H' g' d' x.fm⟩
theorem w_first {ks : List D} {rss : List (List Int)} (c : Cl ks rss) (q : ∀ kvs r H', H'[r]? = some (.dic kvs false) → DR rss [] kvs → Fm [] H H' → Q (.ref r) H') : wE (m_first_numbers [.tup (rss.map rowD)] H) Q := by
  obtain ⟨kvs', H', r, e, g', d', x⟩ := first_ok c.hu c.hl H
  exact ⟨_, _, e, q kvs' r H' g' d' x.fm⟩
end K08
namespace K08
open PySem L2 DL LH WP
noncomputable def PC (ks : List D) (rss : List (List Int)) (side : Bool) : Nat → List Bool → Nat
  | 0, bs => if rss.all (kept bs) == side then 1 else 0
  | j + 1, bs => if kS (ks.getD bs.length .non) == side then PC ks rss side j (bs ++ [false]) + PC ks rss side j (bs ++ [true]) else PC ks rss side j (bs ++ [false]) * PC ks rss side j (bs ++ [true])
theorem PC_le {ks : List D} {rss : List (List Int)} {side : Bool} : ∀ (j : Nat) (bs : List Bool), PC ks rss side j bs ≤ 2 ^ 2 ^ j
  | 0, bs => by
    unfold PC
    split <;> decide
  | j + 1, bs => by
    have a := PC_le (ks := ks) (rss := rss) (side := side) j (bs ++ [false])
    have b := PC_le (ks := ks) (rss := rss) (side := side) j (bs ++ [true])
    have e : (2 : Nat) ^ 2 ^ (j + 1) = 2 ^ 2 ^ j * 2 ^ 2 ^ j := by rw [← Nat.pow_add, Nat.pow_succ, Nat.mul_two]
    have one : 2 ≤ 2 ^ 2 ^ j := Nat.le_trans (show 2 ≤ 2 ^ 1 by decide) (Nat.pow_le_pow_right (by omega) Nat.one_le_two_pow)
    have sq : 2 * 2 ^ 2 ^ j ≤ 2 ^ 2 ^ j * 2 ^ 2 ^ j := Nat.mul_le_mul one (Nat.le_refl _)
    unfold PC
    rw [e]
    split
    · omega
    · exact Nat.mul_le_mul a b
theorem PC_win {ks : List D} {rss : List (List Int)} {side : Bool} : ∀ (j : Nat) (bs : List Bool), 0 < PC ks rss side j bs ↔ W ks rss j bs = side
  | 0, bs => by
    unfold PC W
    cases rss.all (kept bs) <;> cases side <;> simp
  | j + 1, bs => by
    have a := PC_win (ks := ks) (rss := rss) (side := side) j (bs ++ [false])
    have b := PC_win (ks := ks) (rss := rss) (side := side) j (bs ++ [true])
    have eW : W ks rss (j + 1) bs = (if W ks rss j (bs ++ [false]) == kS (ks.getD bs.length .non) || W ks rss j (bs ++ [true]) == kS (ks.getD bs.length .non) then kS (ks.getD bs.length .non) else !kS (ks.getD bs.length .non)) := by
      conv => lhs; unfold W
    rw [eW]
    have eP : PC ks rss side (j + 1) bs = if kS (ks.getD bs.length .non) == side then PC ks rss side j (bs ++ [false]) + PC ks rss side j (bs ++ [true]) else PC ks rss side j (bs ++ [false]) * PC ks rss side j (bs ++ [true]) := rfl
    rw [eP]
    generalize PC ks rss side j (bs ++ [false]) = x at *
    generalize PC ks rss side j (bs ++ [true]) = y at *
    generalize W ks rss j (bs ++ [false]) = u at *
    generalize W ks rss j (bs ++ [true]) = v at *
    generalize kS (ks.getD bs.length .non) = w at *
    by_cases h : w = side
    · subst h
      have e1 : 0 < x + y ↔ 0 < x ∨ 0 < y := by omega
      simp only [beq_self_eq_true, if_true, e1, a, b]
      cases u <;> cases v <;> cases w <;> simp
    · have e1 : 0 < x * y ↔ 0 < x ∧ 0 < y := ⟨fun z => ⟨Nat.pos_of_mul_pos_right z, Nat.pos_of_mul_pos_left z⟩, fun z => Nat.mul_pos z.1 z.2⟩
      rw [show (w == side) = false by simp [h]]
      simp only [Bool.false_eq_true, if_false, e1, a, b]
      cases u <;> cases v <;> cases w <;> cases side <;> simp_all
end K08
namespace K08
open PySem L2 DL LH WP
local macro_rules | `(tactic| fail $s:str) => do
  if s.getString == "lk" then `(tactic| first | assumption | with_reducible exact WP.last | (with_reducible refine WP.appL ?_; fail "lk"))
  else if s.getString == "go" then do
    let a0 ← `(by with_unfolding_all rfl)
    let a1 ← `(?_)
    let a2 ← `(by first | (simp; done) | (simp; omega) | omega)
    let a3 ← `(by decide)
    let a4 ← `(by with_unfolding_all first | exact (rfl : _ = true) | exact (rfl : _ = false))
    let a5 ← `(by fail "lk")
    let a6 ← `(by with_unfolding_all exact rfl)
    let t ← ([`WP.w_var].map (·, [a0, a1]) ++ [`WP.w_c, `WP.w_seq, `WP.w_kn, `WP.w_set, `WP.w_op, `WP.w_acons, `WP.w_anil, `WP.w_call, `WP.w_cb, `WP.w_tof, `WP.w_bl, `WP.w_bt, `WP.w_bf, `WP.w_bnt, `WP.w_bnf, `WP.w_ret, `WP.w_fr, `WP.w_kr, `WP.w_snil, `WP.w_expr, `WP.w_for, `WP.w_or, `WP.w_an, `WP.w_no, `WP.w_ttru, `WP.w_eif, `WP.w_eno, `WP.w_ean, `WP.w_eorr, `WP.w_un, `WP.w_ch, `WP.w_int, `WP.w_tup, `WP.w_lst, `WP.w_lm, `WP.w_tm, `WP.w_dm, `WP.w_dn, `WP.w_on, `WP.w_os, `WP.w_sl, `WP.w_rv, `WP.w_lc, `WP.w_asg, `WP.w_gnm, `WP.w_gsb, `WP.w_gcn, `WP.w_gnl].map (·, [a1]) ++ [`WP.w_n, `WP.w_gtp, `WP.w_ixT, `WP.w_isN, `WP.w_isnN, `WP.w_isBl, `WP.w_isnBl].map (·, [a0, a1]) ++ [`WP.w_sz, `WP.w_addT].map (·, [a2, a1]) ++ [`WP.w_mod].map (·, [a3, a1]) ++ [`WP.w_fdiv, `WP.w_mulL, `WP.w_mulR].map (·, [a3, a3, a1]) ++ [`WP.w_eqI', `WP.w_neI', `WP.w_eqS', `WP.w_neS'].map (·, [a4, a1]) ++ [`WP.w_lenR, `WP.w_tupR, `WP.w_itR].map (·, [a5, a1]) ++ [`WP.w_ixR].map (·, [a5, a0, a1]) ++ [`WP.w_isi'].map (·, [a0, a0, a4, a1]) ++ [`WP.w_addI, `WP.w_subI, `WP.w_lt, `WP.w_le, `WP.w_gt, `WP.w_ge, `WP.w_slhi, `WP.w_sllo, `WP.w_sllo1, `WP.w_neg, `WP.w_eqI, `WP.w_neI, `WP.w_eqS, `WP.w_neS, `WP.w_lenT, `WP.w_lenF, `WP.w_abs, `WP.w_intI, `WP.w_intB, `WP.w_max, `WP.w_min, `WP.w_truB, `WP.w_truT, `WP.w_truN, `WP.w_isq, `WP.w_itT, `WP.w_itF, `WP.w_ir1, `WP.w_ir2, `WP.w_ir3, `WP.w_idic, `WP.w_enum, `WP.w_enum1, `WP.w_zip, `WP.w_yes, `WP.w_retn, `WP.w_fn, `WP.w_agn, `WP.w_agr, `WP.w_kb, `WP.w_kc, `WP.w_agb, `WP.w_agc, `WP.w_brk, `WP.w_cnt].map (·, [a1]) ++ [`WP.w_bT, `WP.w_bF].map (·, [a6, a1]) : List (Lean.Name × List Lean.Term)).foldrM (fun p (r : Lean.TSyntax `tactic) => `(tactic| first | with_reducible refine $(Lean.Syntax.mkApp (Lean.mkIdent p.1) p.2.toArray) | $r:tactic)) (← `(tactic| fail "no"))
    return t
  else Lean.Macro.throwUnsupported
local macro_rules | `(tactic| fail $s:str) => do
  if s.getString == "go" then `(tactic| first | with_reducible refine w_lenP ?_ | with_reducible refine w_addP (by omega) ?_ | with_reducible refine w_cl0 ?_ | with_reducible refine w_cl1 ?_)
  else Lean.Macro.throwUnsupported
variable {H : HD} {Q : D → HD → Prop}
theorem w_mulB {i j : Int} (h1 : i.natAbs < 2 ^ 1000) (h2 : j.natAbs < 2 ^ 1000) (q : Q (.int (i * j)) H) : wE (mulBD (.int i) (.int j) H) Q := ⟨_, _, by
  show (if CBig i j then some (D.int (i * j), H) else none) = _
  rw [if_pos ⟨h1, h2⟩], q⟩
theorem PC_small {ks : List D} {rss : List (List Int)} {side : Bool} {j : Nat} (hj : j ≤ 8) (bs : List Bool) : ((PC ks rss side j bs : Nat) : Int).natAbs < 2 ^ 1000 := by
  have a := PC_le (ks := ks) (rss := rss) (side := side) j bs
  have b : 2 ^ 2 ^ j ≤ 2 ^ 2 ^ 8 := Nat.pow_le_pow_right (by omega) (Nat.pow_le_pow_right (by omega) hj)
  have c : (2 : Nat) ^ 2 ^ 8 < 2 ^ 1000 := Nat.pow_lt_pow_right (by omega) (by decide)
  rw [Int.natAbs_natCast]
  exact Nat.lt_of_le_of_lt (Nat.le_trans a b) c
theorem empty_kept {ks : List D} {rss : List (List Int)} {bs : List Bool} {kvs : List (D × D)} (c : Cl ks rss) (hb : bs.length = ks.length) (dr : DR rss bs kvs) : (kvs.length == 0) = rss.all (kept bs) := by
  cases h : rss.all (kept bs) with
  | true =>
    have al := List.all_eq_true.mp h
    cases kvs with
    | nil => rfl
    | cons y r =>
      obtain ⟨i, ls, v1, v2, v3⟩ := dr.val y (by simp)
      rw [al ls (List.mem_of_getElem? v1)] at v2; cases v2
  | false =>
    obtain ⟨ls, hl, hk⟩ := List.all_eq_false.mp h
    cases kvs with
    | nil =>
      have := dr.all ls hl (by simpa using hk)
      simp [dlook] at this
    | cons y r => rfl
theorem w_plansB {ks : List D} {rss : List (List Int)} {side : Bool} (c : Cl ks rss) : ∀ (f j : Nat) (bs : List Bool) (kvs : List (D × D)) (p : Nat) (fz : Bool) (H : HD) (Q : D → HD → Prop), j < f → bs.length + j = ks.length → H[p]? = some (.dic kvs fz) → DR rss bs kvs →
    (∀ H', Fm [] H H' → Q (.int (PC ks rss side j bs : Nat)) H') → wE (recF 4 6 b_plans_behind f [.tup ks, sideD side, .ref p, .int bs.length] H) Q
  | 0, _, _, _, _, _, _, _, h, _, _, _, _ => by omega
  | f + 1, j, bs, kvs, p, fz, H, Q, hf, hj, g, dr, q => by
    have h8 := c.h8
    have ih := w_plansB (side := side) c f
    show wE (runB 4 6 (b_plans_behind _) _ H) Q
    refine w_run rfl ?_
    show wS (b_plans_behind _ [some (.tup ks), some (sideD side), some (.ref p), some (.int bs.length), none, none] H) _
    generalize recF 4 6 b_plans_behind f = F at *
    unfold b_plans_behind
    (repeat fail "go"); (refine WP.w_if ?_; (repeat fail "go"))
    cases j with
    | zero =>
      have hb : bs.length = ks.length := by omega
      refine w_bT (by simp; omega) ?_
      (repeat fail "go")
      refine w_dlen g ?_
      (repeat fail "go")
      have ek := empty_kept c hb dr
      have ek2 : (((kvs.length : Nat) : Int) == 0) = rss.all (kept bs) := by
        rw [← ek]
        cases kvs <;> simp
        all_goals omega
      rw [ek2]
      have eP : PC ks rss side 0 bs = if rss.all (kept bs) == side then 1 else 0 := rfl
      rw [eP] at q
      cases hA : rss.all (kept bs) with
      | true =>
        rw [hA] at q
        (repeat fail "go")
        refine w_eqSide (a := true) ?_
        cases side <;> ((repeat fail "go"); exact q H Fm.refl)
      | false =>
        rw [hA] at q
        (repeat fail "go")
        refine w_eqSide (a := false) ?_
        cases side <;> ((repeat fail "go"); exact q H Fm.refl)
    | succ j =>
      refine w_bF (by simp; omega) ?_
      (repeat fail "go")
      rw [k_TRUTHS]
      (repeat fail "go")
      have lb : ∀ t : Bool, (((bs ++ [t]).length : Nat) : Int) = (bs.length : Int) + 1 := fun t => by simp
      refine w_ccons own0 ?_
      (repeat fail "go")
      refine w_behind c g dr fun kvs1 r1 H1 g1 d1 x1 => ?_
      (repeat fail "go")
      rw [← lb false]
      refine ih j (bs ++ [false]) kvs1 r1 false H1 _ (by omega) (by simp; omega) g1 d1 fun H2 x2 => ?_
      obtain ⟨fz2, g2⟩ := (x1.trans x2).dic (by simp) g
      refine w_ccons own0 ?_
      (repeat fail "go")
      refine w_behind c g2 dr fun kvs3 r3 H3 g3 d3 x3 => ?_
      (repeat fail "go")
      rw [← lb true]
      refine ih j (bs ++ [true]) kvs3 r3 false H3 _ (by omega) (by simp; omega) g3 d3 fun H4 x4 => ?_
      refine w_cnil own0 ?_
      refine ⟨by simp, ?_⟩
      (repeat fail "go")
      refine w_ixT (atI_nat (side_of c.hk (by omega))) ?_
      (repeat fail "go")
      refine w_eqSide ?_
      have X : Fm [] H (H4 ++ [.lst [.int (PC ks rss side j (bs ++ [false]) : Nat), .int (PC ks rss side j (bs ++ [true]) : Nat)]]) := (((x1.trans x2).trans x3).trans x4).trans (Fm.app _)
      have eP : PC ks rss side (j + 1) bs = if kS (ks.getD bs.length .non) == side then PC ks rss side j (bs ++ [false]) + PC ks rss side j (bs ++ [true]) else PC ks rss side j (bs ++ [false]) * PC ks rss side j (bs ++ [true]) := rfl
      have q' := q _ X
      rw [eP] at q'
      cases hw : kS (ks.getD bs.length .non) == side with
      | true =>
        rw [hw] at q'
        (repeat fail "go")
        rw [if_pos rfl] at q'
        rw [Int.natCast_add] at q'
        exact q'
      | false =>
        rw [hw] at q'
        (repeat fail "go")
        refine w_mulB (PC_small (by omega) _) (PC_small (by omega) _) ?_
        (repeat fail "go")
        rw [if_neg (by simp)] at q'
        rw [Int.natCast_mul] at q'
        exact q'
theorem w_plans {ks : List D} {rss : List (List Int)} {side : Bool} (c : Cl ks rss) (q : ∀ H', Fm [] H H' → Q (.int (PC ks rss side ks.length [] : Nat)) H') : wE (m_how_many_plans [claimD ks rss, sideD side] H) Q := by
  have h8 := c.h8
  refine w_run rfl ?_
  show wS (b_how_many_plans [some (claimD ks rss), some (sideD side)] H) _
  unfold b_how_many_plans
  (repeat fail "go")
  refine w_first c fun kvs r H1 g1 d1 x1 => ?_
  (repeat fail "go")
  refine w_plansB c 10 ks.length [] kvs r false H1 _ (by omega) (by simp) g1 d1 fun H2 x2 => ?_
  (repeat fail "go")
  exact q H2 (x1.trans x2)
theorem w_ifB' {t : TF} {f g : SF} {σ : SD} {R : FD → SD → HD → Prop} (B : Bool) (h : wT (t σ H) fun b H' => H' = H ∧ b = B) (ht : B = true → wS (f σ H) R) (hf : B = false → wS (g σ H) R) : wS (sIf t f g σ H) R := by
  obtain ⟨b, H1, e, rfl, rfl⟩ := h
  exact w_if ⟨_, _, e, ht, hf⟩
theorem w_mix {cell k : Int} (h0 : 0 ≤ k) (h1 : k ≤ 100) (q : ∀ r H', 0 ≤ r → r < 2147483648 → Fm [] H H' → Q (.int r) H') : wE (m_law_mix [.int cell, .int k] H) Q := by
  refine w_run rfl ?_
  show wS (b_law_mix [some (.int cell), some (.int k), none, none] H) _
  unfold b_law_mix
  obtain ⟨P, hP, hP2, eP⟩ : ∃ P : Int, 0 < P ∧ P < 2147483648 ∧ atI [D.int 2147483647, .int 2147483629, .int 2147483587, .int 2147483579, .int 2147483563, .int 2147483549, .int 2147483543] (k % 7) = some (.int P) := by
    rcases (show k % 7 = 0 ∨ k % 7 = 1 ∨ k % 7 = 2 ∨ k % 7 = 3 ∨ k % 7 = 4 ∨ k % 7 = 5 ∨ k % 7 = 6 by omega) with h | h | h | h | h | h | h <;> rw [h]
    · exact ⟨2147483647, by omega, by omega, rfl⟩
    · exact ⟨2147483629, by omega, by omega, rfl⟩
    · exact ⟨2147483587, by omega, by omega, rfl⟩
    · exact ⟨2147483579, by omega, by omega, rfl⟩
    · exact ⟨2147483563, by omega, by omega, rfl⟩
    · exact ⟨2147483549, by omega, by omega, rfl⟩
    · exact ⟨2147483543, by omega, by omega, rfl⟩
  (repeat fail "go")
  refine w_ixR last eP ?_
  (repeat fail "go")
  have c0 := Int.emod_nonneg cell (show (998244353 : Int) ≠ 0 by decide)
  have c1 := Int.emod_lt_of_pos cell (show (0 : Int) < 998244353 by decide)
  generalize cell % 998244353 = c at *
  refine w_mulL (by omega) (by omega) ?_
  (repeat fail "go")
  refine w_mulL (by omega) (by omega) ?_
  (repeat fail "go")
  refine w_mod hP ?_
  have a0 := Int.emod_nonneg ((c + 104729 * (k + 1)) * (k * k + 7 * k + 13)) (show P ≠ 0 by omega)
  have a1 := Int.emod_lt_of_pos ((c + 104729 * (k + 1)) * (k * k + 7 * k + 13)) hP
  generalize (c + 104729 * (k + 1)) * (k * k + 7 * k + 13) % P = a at *
  (repeat fail "go")
  refine w_pow (by decide) (by decide) (by omega) ?_
  (repeat fail "go")
  have b0 := Int.emod_nonneg (a ^ (5 : Int).toNat) (show (1000000007 : Int) ≠ 0 by decide)
  have b1 := Int.emod_lt_of_pos (a ^ (5 : Int).toNat) (show (0 : Int) < 1000000007 by decide)
  generalize a ^ (5 : Int).toNat % 1000000007 = b at *
  refine w_mod hP ?_
  have d0 := Int.emod_nonneg (b * 48271 + 31 * k + 5) (show P ≠ 0 by omega)
  have d1 := Int.emod_lt_of_pos (b * 48271 + 31 * k + 5) hP
  generalize (b * 48271 + 31 * k + 5) % P = d at *
  (repeat fail "go")
  refine w_pow (by decide) (by decide) (by omega) ?_
  (repeat fail "go")
  have e0 := Int.emod_nonneg (d ^ (3 : Int).toNat) (show (998244353 : Int) ≠ 0 by decide)
  have e1 := Int.emod_lt_of_pos (d ^ (3 : Int).toNat) (show (0 : Int) < 998244353 by decide)
  generalize d ^ (3 : Int).toNat % 998244353 = e at *
  exact q _ _ (by omega) (by omega) (Fm.app _)
noncomputable def Digs (ds : List Int) : Prop := ∀ d ∈ ds, 0 ≤ d ∧ d < 2147483648
theorem w_digits {cell : Int} {many : Nat} (h1 : many ≤ 100) (q : ∀ (ds : List Int) p H', ds.length = many → Digs ds → H'[p]? = some (.lst (ds.map .int)) → H.length ≤ p → Fm [] H H' → Q (.ref p) H') : wE (m_law_digits [.int cell, .int many] H) Q := by
  refine w_run rfl ?_
  show wS (b_law_digits [some (.int cell), some (.int many), none, none, none, none] H) _
  unfold b_law_digits
  (repeat fail "go")
  refine w_pow (by decide) (by decide) (by decide) ?_
  (repeat fail "go")
  generalize decide ((10 : Int) ^ (18 : Int).toNat ≤ absZ cell) = wide
  refine ⟨_, rfl, ⟨by omega, by omega⟩, ?_⟩
  rw [show ((many : Int)).toNat = many by omega]
  refine w_loop (fun d t σ H' => d ++ t = rangeL 0 many ∧ ∃ (ds : List Int) (L : Int) (z5 : Option D), ds.length = d.length ∧ Digs ds ∧ H'[H.length]? = some (.lst (ds.map .int)) ∧ Fm [H.length] (H ++ [.lst []]) H' ∧ 0 ≤ L ∧ σ = [some (.int cell), some (.int many), some (.ref H.length), some (.int L), some (.bl wide), z5]) (fun _ _ _ _ _ => own0) (fun d x t σ H1 ⟨e0, ds, L, z5, e1, e2, e3, x1, hL, e5⟩ => ?_) (fun d σ H1 ⟨e0, ds, L, z5, e1, e2, e3, x1, hL, e5⟩ => ?_) _ [] _ _ ⟨rfl, [], absZ cell, _, rfl, (by intro d h; cases h), last, Fm.refl, (by unfold absZ; split <;> omega), rfl⟩
  · subst e5
    have hx : x ∈ rangeL 0 many := by rw [← e0]; simp
    simp only [rangeL, List.mem_map, List.mem_range] at hx
    obtain ⟨i, hi, rfl⟩ := hx
    have hd : d.length ≤ 100 := by
      have := congrArg List.length e0
      simp [rangeL] at this
      omega
    (repeat fail "go")
    refine w_ifB' (wide && decide (0 < L)) ?_ (fun h => ?_) (fun h => ?_)
    · (repeat fail "go")
      cases wide
      · exact ⟨(fun z => nomatch z), fun _ => ⟨rfl, rfl⟩⟩
      · refine ⟨fun _ => ?_, (fun z => nomatch z)⟩
        (repeat fail "go")
        exact ⟨rfl, by simp⟩
    · (repeat fail "go")
      refine ⟨isl e3, ?_⟩
      (repeat fail "go")
      refine w_app e3 (by simp; omega) ?_
      (repeat fail "go")
      have m0 := Int.emod_nonneg L (show (10007 : Int) ≠ 0 by decide)
      have m1 := Int.emod_lt_of_pos L (show (0 : Int) < 10007 by decide)
      refine ⟨by rw [← e0]; simp, ds ++ [L % 10007], L / 10007, _, by simp [e1], ?_, ?_, x1.trans (Fm.set (by simp)), Int.ediv_nonneg hL (by decide), rfl⟩
      · intro y hy
        rcases List.mem_append.mp hy with h | h
        · exact e2 y h
        · simp at h; subst h; exact ⟨m0, by omega⟩
      · rw [List.map_append]; exact setS e3
    · (repeat fail "go")
      refine ⟨isl e3, ?_⟩
      (repeat fail "go")
      refine w_mix (by omega) (by omega) fun r H2 r0 r1 x2 => ?_
      (repeat fail "go")
      have e3' := x2.lst (by simp) e3
      refine w_app e3' (by simp; omega) ?_
      (repeat fail "go")
      refine ⟨by rw [← e0]; simp, ds ++ [r], L, _, by simp [e1], ?_, ?_, (x1.trans (x2.sub (by simp))).trans (Fm.set (by simp)), hL, rfl⟩
      · intro y hy
        rcases List.mem_append.mp hy with h | h
        · exact e2 y h
        · simp at h; subst h; exact ⟨r0, r1⟩
      · rw [List.map_append]; exact setS e3'
  · subst e5
    have hd : d.length = many := by
      have := congrArg List.length e0
      simpa [rangeL] using this
    (repeat fail "go")
    exact q ds _ H1 (by omega) e2 e3 (Nat.le_refl _) ((Fm.app (S := []) _).new x1 (by intro m hm _; simp at hm; omega))
theorem w_at {ns : List Int} {k : Int} (h0 : 0 ≤ k) (h1 : k ≤ 1000) (q : ∀ c, Q (.int c) H) : wE (m_law_at [.fl (ns.map .int), .int k] H) Q := by
  refine w_run rfl ?_
  show wS (b_law_at [some (.fl (ns.map .int)), some (.int k)] H) _
  unfold b_law_at
  (repeat fail "go"); (refine WP.w_if ?_; (repeat fail "go"))
  refine ⟨fun h => ?_, fun h => ?_⟩
  · have lt : k.toNat < ns.length := by have := of_decide_eq_true h; simp at this; omega
    (repeat fail "go")
    refine w_ixF (atI_toNat h0 (d := .int ns[k.toNat]) (by rw [List.getElem?_map, List.getElem?_eq_getElem lt]; rfl)) ?_
    (repeat fail "go")
    exact q _
  · (repeat fail "go")
    exact q _
theorem w_dig {p : Nat} {ds : List Int} {i : Int} (g : H[p]? = some (.lst (ds.map .int))) (hd : Digs ds) (h0 : 0 ≤ i) (h1 : i < ds.length) (q : ∀ r, 0 ≤ r → r < 2147483648 → Q (.int r) H) : wE (ixD (.ref p) (.int i) H) Q := by
  have lt : i.toNat < ds.length := by omega
  have hm := hd _ (List.getElem_mem lt)
  exact w_ixR g (atI_toNat h0 (d := .int ds[i.toNat]) (by rw [List.getElem?_map, List.getElem?_eq_getElem lt]; rfl)) (q _ hm.1 hm.2)
theorem up_snoc {m : Int} : ∀ (ls : List Int) (last l : Int), Up m last ls → (∀ x ∈ ls, absZ x < absZ l) → last < absZ l → absZ l ≤ m → Up m last (ls ++ [l])
  | [], last, l, _, _, h1, h2 => ⟨h1, h2, trivial⟩
  | x :: r, last, l, u, h, h1, h2 => by
    obtain ⟨u1, u2, u3⟩ := u
    exact ⟨u1, u2, up_snoc r (absZ x) l u3 (fun y hy => h y (by simp [hy])) (h x (by simp)) h2⟩
theorem range_cons43 (lo : Int) (m : Nat) : rangeL lo (m + 1) = .int lo :: rangeL (lo + 1) m := by
  unfold rangeL
  rw [List.range_succ_eq_map, List.map_cons, List.map_map]
  have e0 : D.int (lo + ((0 : Nat) : Int)) = .int lo := by simp
  rw [e0]
  refine congrArg (List.cons _) (List.map_congr_left fun a _ => ?_)
  show D.int _ = D.int _
  congr 1
  omega
theorem w_row43 {cell : Int} {M : Nat} {wide : Int} (hM : M ≤ 8) (q : ∀ ls H', Up M 0 ls → Fm [] H H' → Q (rowD ls) H') : wE (m_law_row [.int cell, .int M, .int wide] H) Q := by
  refine w_run rfl ?_
  show wS (b_law_row [some (.int cell), some (.int M), some (.int wide), none, none, none] H) _
  unfold b_law_row
  (repeat fail "go")
  rw [show (M : Int) + 1 = ((M + 1 : Nat) : Int) by omega]
  refine w_digits (by omega) fun ds p H1 l1 d1 g1 n1 x1 => ?_
  (repeat fail "go")
  refine ⟨_, rfl, ⟨by omega, by omega⟩, ?_⟩
  rw [Int.toNat_natCast]
  refine w_loop (fun d t σ H' => ∃ ls : List Int, t = rangeL (d.length : Int) (M - d.length) ∧ H'[p]? = some (.lst (ds.map .int)) ∧ H'[H1.length]? = some (.lst (ls.map .int)) ∧ ls.length ≤ d.length ∧ d.length ≤ M ∧ Up M 0 ls ∧ (∀ x ∈ ls, absZ x ≤ d.length) ∧ Fm [] H H' ∧ ∃ z, σ = [some (.int cell), some (.int M), some (.int wide), some (.ref p), some (.ref H1.length), z]) (fun _ _ _ _ _ => own0) (fun d x t σ H2 ⟨ls, i1, i2, i3, i4, i5, i6, i7, i8, z, i9⟩ => ?_) (fun d σ H2 ⟨ls, i1, i2, i3, i4, i5, i6, i7, i8, z, i9⟩ => ?_) _ [] _ _ ⟨[], by simp, appL g1, last, by simp, by simp, trivial, by simp, x1.trans (Fm.app _), none, rfl⟩
  · subst i9
    obtain ⟨k, hk⟩ : ∃ k, M - d.length = k + 1 := by
      cases h : M - d.length with
      | zero => rw [h] at i1; simp [rangeL] at i1
      | succ k => exact ⟨k, rfl⟩
    rw [hk, range_cons43] at i1
    obtain ⟨rfl, rfl⟩ := List.cons.inj i1
    have tl : rangeL ((d.length : Int) + 1) k = rangeL (((d ++ [D.int (d.length : Int)]).length : Nat) : Int) (M - (d ++ [D.int (d.length : Int)]).length) := by
      simp only [List.length_append, List.length_cons, List.length_nil]
      congr 1
      omega
    (repeat fail "go"); (refine WP.w_if ?_; (repeat fail "go"))
    refine w_dig i2 d1 (by omega) (by omega) fun r r0 r1 => ?_
    (repeat fail "go")
    refine w_mod (by omega) ?_
    (repeat fail "go")
    refine w_dig i2 d1 (by omega) (by omega) fun r' r0' r1' => ?_
    (repeat fail "go")
    refine ⟨fun h => ?_, fun h => ?_⟩
    · (repeat fail "go")
      refine ⟨isl i3, ?_⟩
      (repeat fail "go")
      refine w_dig (appL i2) d1 (by omega) (by omega) fun r2 r20 r21 => ?_
      (repeat fail "go")
      refine w_fdiv (by omega) (by omega) ?_
      (repeat fail "go")
      have m2 : r2 / ((M : Int) + 1) % 2 = 0 ∨ r2 / ((M : Int) + 1) % 2 = 1 := by omega
      obtain ⟨l, hl, el⟩ : ∃ l : Int, absZ l = (d.length : Int) + 1 ∧ atI [D.int ((d.length : Int) + 1), .int (0 - (d.length : Int) - 1)] (r2 / ((M : Int) + 1) % 2) = some (.int l) := by
        rcases m2 with z | z <;> rw [z]
        · exact ⟨_, by unfold absZ; split <;> omega, rfl⟩
        · exact ⟨_, by unfold absZ; split <;> omega, rfl⟩
      refine w_ixR last el ?_
      (repeat fail "go")
      refine w_app (appL i3) (by simp; omega) ?_
      (repeat fail "go")
      have np : H1.length ≠ p := by have := (List.getElem?_eq_some_iff.mp g1).1; omega
      refine ⟨ls ++ [l], tl, setO np (appL i2), by rw [setS (appL i3)]; simp, by simp; omega, by simp; omega, up_snoc ls 0 l i6 (fun x hx => by have := i7 x hx; omega) (by omega) (by omega), fun x hx => ?_, ?_, _, rfl⟩
      · rcases List.mem_append.mp hx with z | z
        · have := i7 x z; simp; omega
        · simp at z; subst z; simp; omega
      · exact (i8.trans (Fm.app _)).new (Fm.set (S := [H1.length]) (by simp)) (fun q hq _ => by simp at hq; subst hq; exact x1.len)
    · (repeat fail "go")
      exact ⟨ls, tl, i2, i3, by simp; omega, by simp; omega, i6, fun x hx => by have := i7 x hx; simp; omega, i8, _, rfl⟩
  · subst i9
    (repeat fail "go")
    exact q ls H2 i6 i8
theorem Digs.drop {ds : List Int} (h : Digs ds) (k : Nat) : Digs (ds.drop k) := fun d hd => h d (List.mem_of_mem_drop hd)
theorem fine_ints (ls : List Int) : Fines (ls.map .int) (ls.map .int) 0 := by
  induction ls with
  | nil => exact .nil
  | cons l r ih => exact .cons (.int l) ih
theorem up_len {m : Int} : ∀ (ls : List Int) (last : Int), Up m last ls → ls.length ≤ (m - last).toNat
  | [], _, _ => Nat.zero_le _
  | x :: r, last, u => by
    obtain ⟨u1, u2, u3⟩ := u
    have := up_len r _ u3
    simp only [List.length_cons]
    omega
noncomputable def two (bs : List Bool) : List (List Bool) := [bs ++ [false], bs ++ [true]]
noncomputable def lev : Nat → List (List Bool)
  | 0 => [[]]
  | k + 1 => (lev k).flatMap two
theorem lev_len : ∀ (k : Nat), ∀ bs ∈ lev k, bs.length = k
  | 0, bs, h => by simp [lev] at h; subst h; rfl
  | k + 1, bs, h => by
    obtain ⟨x, hx, h⟩ := List.mem_flatMap.mp h
    have := lev_len k x hx
    simp only [two, List.mem_cons, List.not_mem_nil, or_false] at h
    rcases h with rfl | rfl <;> simp [this]
theorem two_len (xs : List (List Bool)) : (xs.flatMap two).length = 2 * xs.length := by
  induction xs with
  | nil => rfl
  | cons x r ih => rw [List.flatMap_cons, List.length_append, ih]; simp [two]; omega
theorem lev_size : ∀ k : Nat, (lev k).length = 2 ^ k
  | 0 => rfl
  | k + 1 => by
    show ((lev k).flatMap two).length = _
    rw [two_len, lev_size k, Nat.pow_succ]; omega
theorem lev_256 {k : Nat} (h : k ≤ 8) : (lev k).length ≤ 256 := by
  rw [lev_size]
  exact Nat.le_trans (Nat.pow_le_pow_right (by omega) h) (by decide)
theorem lev_nodup : ∀ k : Nat, (lev k).Nodup
  | 0 => by simp [lev]
  | k + 1 => by
    have : ∀ xs : List (List Bool), xs.Nodup → (xs.flatMap two).Nodup := fun xs => by
      induction xs with
      | nil => intro _; simp
      | cons x r ih =>
        intro h
        obtain ⟨h1, h2⟩ := List.nodup_cons.mp h
        rw [List.flatMap_cons]
        refine List.nodup_append.mpr ⟨by simp [two], ih h2, ?_⟩
        intro a ha b hb e
        subst e
        obtain ⟨y, hy, hb⟩ := List.mem_flatMap.mp hb
        simp only [two, List.mem_cons, List.not_mem_nil, or_false] at ha hb
        have : x = y := by
          rcases ha with ha | ha <;> rcases hb with hb | hb <;> rw [ha] at hb <;> exact (List.append_inj' hb rfl).1
        exact h1 (this ▸ hy)
    exact this _ (lev_nodup k)
theorem w_addL {p q : Nat} {xs ys : List D} (h1 : H[p]? = some (.lst xs)) (h2 : H[q]? = some (.lst ys)) (hl : xs.length + ys.length ≤ 100000) (k : Q (.ref H.length) (H ++ [.lst (xs ++ ys)])) : wE (addD (.ref p) (.ref q) H) Q := by
  have z : (xs ++ ys).length ≤ sizeLine := size_ok (by simp; omega)
  exact ⟨_, _, by simp only [addD, h1, h2]; exact if_pos z, k⟩
theorem w_turn43 {k q : Nat} {a0 a2 z4 : Option D} {R : FD → SD → HD → Prop} {H : HD} (hk : k ≤ 8) (g : H[q]? = some (.lst ((lev k).map playD)))
    (h : ∀ m z H', H'[m]? = some (.lst ((lev (k + 1)).map playD)) → ExtS [] H H' → R .nx [a0, some (.ref q), a2, some (.ref m), z] H') :
    wS (forL [(q, .lst ((lev k).map playD))] (gNm 4) (sSeq (sSet 3 (eOp addD (eVar 3) (eLst (aCons (eOp addD (eVar 4) (eTup (aCons (eC (.bl false)) aNil))) (aCons (eOp addD (eVar 4) (eTup (aCons (eC (.bl true)) aNil))) aNil))))) sNil) ((lev k).map playD) [a0, some (.ref q), a2, some (.ref H.length), z4] (H ++ [.lst []])) R := by
  have l256 := lev_256 hk
  refine w_loop (fun d t σ H' => ∃ (dn td : List (List Bool)) (m : Nat) (z : Option D), d = dn.map playD ∧ t = td.map playD ∧ lev k = dn ++ td ∧ H'[m]? = some (.lst ((dn.flatMap two).map playD)) ∧ H'[q]? = some (.lst ((lev k).map playD)) ∧ ExtS [] H H' ∧ σ = [a0, some (.ref q), a2, some (.ref m), z]) (fun d t σ H' ⟨dn, td, m, z, i1, i2, i3, i4, i5, i6, i7⟩ => own1 i5) (fun d x t σ H' ⟨dn, td, m, z, i1, i2, i3, i4, i5, i6, i7⟩ => ?_) (fun d σ H' ⟨dn, td, m, z, i1, i2, i3, i4, i5, i6, i7⟩ => ?_) _ [] _ _ ⟨[], lev k, H.length, z4, rfl, rfl, rfl, last, appL g, ExtS.app _, rfl⟩
  · subst i7 i1
    obtain ⟨b, tr, rfl, rfl, rfl⟩ : ∃ b tr, td = b :: tr ∧ x = playD b ∧ t = tr.map playD := by
      cases td with
      | nil => cases i2
      | cons b tr => obtain ⟨e1, e2⟩ := List.cons.inj i2; exact ⟨b, tr, rfl, e1, e2⟩
    have lb : b.length = k := lev_len k b (by rw [i3]; simp)
    have ln : dn.length ≤ 256 := by have := congrArg List.length i3; simp at this; omega
    (repeat fail "go")
    refine w_addL (appL i4) last (by rw [List.length_map, two_len]; simp; omega) ?_
    (repeat fail "go")
    refine ⟨dn ++ [b], tr, _, _, by simp, rfl, by rw [i3]; simp, ?_, appL (appL i5), (i6.trans (ExtS.app _)).trans (ExtS.app _), rfl⟩
    rw [last]
    simp [two]
  · subst i7
    cases td with
    | cons b tr => cases i2
    | nil =>
      rw [List.append_nil] at i3
      subst i3
      exact h m z H' i4 i6
theorem up_in {m : Int} : ∀ (ls : List Int) (last : Int), 0 ≤ last → Up m last ls → ∀ l ∈ ls, 0 < absZ l ∧ absZ l ≤ m
  | [], _, _, _, l, h => by simp at h
  | x :: r, last, h0, u, l, h => by
    obtain ⟨u1, u2, u3⟩ := u
    rcases List.mem_cons.mp h with rfl | h
    · exact ⟨by omega, u2⟩
    · exact up_in r (absZ x) (by omega) u3 l h
noncomputable def enc (bs : List Bool) : List Int := bs.map fun b => if b then 1 else 0
theorem nk_play (bs : List Bool) : nk (playD bs) = some (enc bs) := by
  show nksOf (bs.map D.bl) = _
  induction bs with
  | nil => rfl
  | cons b r ih =>
    rw [List.map_cons, nksOf, ih]
    cases b <;> rfl
theorem enc_inj : ∀ a b : List Bool, enc a = enc b → a = b
  | [], [], _ => rfl
  | [], _ :: _, h => by simp [enc] at h
  | _ :: _, [], h => by simp [enc] at h
  | x :: a, y :: b, h => by
    have h1 : (if x then (1 : Int) else 0) = (if y then 1 else 0) := (List.cons.inj h).1
    have h2 : enc a = enc b := (List.cons.inj h).2
    rw [enc_inj a b h2]
    cases x <;> cases y <;> simp at h1 <;> rfl
theorem Fm.froz {p : Nat} {kvs : List (D × D)} {fz : Bool} (g : H[p]? = some (.dic kvs fz)) : Fm [] H (H.set p (.dic kvs true)) := by
  refine ⟨fun m o _ q => ?_, by simp⟩
  by_cases e : p = m
  · subst e
    rw [g] at q
    cases q
    cases fz with
    | true => exact .inl (setS g)
    | false => exact .inr ⟨kvs, rfl, setS g⟩
  · exact .inl (setO e q)
noncomputable abbrev Ky := Nat × List Bool
noncomputable def ud (g : Ky → Bool) (p : Ky) (b : Bool) : Ky → Bool := fun q => if q = p then b else g q
noncomputable def cnt (F : (Ky → Bool) → Bool) : List Ky → (Ky → Bool) → Nat
  | [], g => if F g = true then 1 else 0
  | p :: P, g => cnt F P (ud g p false) + cnt F P (ud g p true)
noncomputable def asg : List Ky → List Bool → (Ky → Bool) → (Ky → Bool)
  | p :: P, b :: bs, g => asg P bs (ud g p b)
  | _, _, g => g
theorem lev_front : ∀ k : Nat, lev (k + 1) = (lev k).map (false :: ·) ++ (lev k).map (true :: ·)
  | 0 => rfl
  | k + 1 => by
    have two_c : ∀ (b : Bool) (xs : List (List Bool)), (xs.map (b :: ·)).flatMap two = (xs.flatMap two).map (b :: ·) := fun b xs => by
      induction xs with
      | nil => rfl
      | cons x r ih => rw [List.map_cons, List.flatMap_cons, List.flatMap_cons, ih, List.map_append]; rfl
    show (lev (k + 1)).flatMap two = _
    conv => lhs; rw [lev_front k]
    rw [List.flatMap_append, two_c, two_c]
    rfl
theorem cnt_lev (F : (Ky → Bool) → Bool) : ∀ (P : List Ky) (g : Ky → Bool), (lev P.length).countP (fun one => F (asg P one g)) = cnt F P g
  | [], g => by
    show ([[]] : List (List Bool)).countP _ = _
    simp only [cnt, asg, List.countP_cons, List.countP_nil, Nat.zero_add]
  | p :: P, g => by
    rw [List.length_cons, lev_front, List.countP_append, List.countP_map, List.countP_map]
    show (lev P.length).countP (fun one => F (asg P one (ud g p false))) + (lev P.length).countP (fun one => F (asg P one (ud g p true))) = _
    rw [cnt_lev F P, cnt_lev F P]
    rfl
theorem asg_out : ∀ (P : List Ky) (bs : List Bool) (g : Ky → Bool) (q : Ky), q ∉ P → asg P bs g q = g q
  | [], bs, g, q, _ => by cases bs <;> rfl
  | p :: P, [], g, q, _ => rfl
  | p :: P, b :: bs, g, q, h => by
    show asg P bs (ud g p b) q = _
    rw [asg_out P bs _ q (fun z => h (by simp [z]))]
    unfold ud
    rw [if_neg (fun z => h (by simp [z]))]
theorem asg_at : ∀ (P : List Ky) (bs : List Bool) (g : Ky → Bool) (i : Nat) (p : Ky) (b : Bool), P.Nodup → P[i]? = some p → bs[i]? = some b → asg P bs g p = b
  | [], _, _, _, _, _, _, h, _ => by simp at h
  | p :: P, [], _, _, _, _, _, _, h => by simp at h
  | p :: P, b :: bs, g, 0, q, c, nd, h1, h2 => by
    simp at h1 h2
    subst h1; subst h2
    show asg P bs (ud g p b) p = b
    rw [asg_out P bs _ p (List.nodup_cons.mp nd).1]
    simp [ud]
  | p :: P, b :: bs, g, i + 1, q, c, nd, h1, h2 => by
    show asg P bs (ud g p b) q = c
    exact asg_at P bs _ i q c (List.nodup_cons.mp nd).2 (by simpa using h1) (by simpa using h2)
theorem cnt_congr {F G : (Ky → Bool) → Bool} : ∀ (P : List Ky) (g : Ky → Bool), (∀ f, (∀ q, q ∉ P → f q = g q) → F f = G f) → cnt F P g = cnt G P g
  | [], g, h => by simp only [cnt]; rw [h g fun _ _ => rfl]
  | p :: P, g, h => by
    simp only [cnt]
    have one : ∀ b, cnt F P (ud g p b) = cnt G P (ud g p b) := fun b => cnt_congr P _ fun f hf => h f fun q hq => by
      rw [hf q fun z => hq (by simp [z])]
      unfold ud
      rw [if_neg fun z => hq (by simp [z])]
    rw [one, one]
noncomputable def Sees (F : (Ky → Bool) → Bool) (S : Ky → Bool) : Prop := ∀ f g : Ky → Bool, (∀ q, S q = true → f q = g q) → F f = F g
theorem cnt_blind {F : (Ky → Bool) → Bool} {S : Ky → Bool} (h : Sees F S) : ∀ (P : List Ky) (f g : Ky → Bool), (∀ q, S q = true → f q = g q) → cnt F P f = cnt F P g
  | [], f, g, e => by simp only [cnt]; rw [h f g e]
  | p :: P, f, g, e => by
    simp only [cnt]
    have one : ∀ b, cnt F P (ud f p b) = cnt F P (ud g p b) := fun b => cnt_blind h P _ _ fun q hq => by unfold ud; split; rfl; exact e q hq
    rw [one, one]
theorem cnt_and {F G : (Ky → Bool) → Bool} {s : Ky → Bool} (hF : Sees F fun q => !s q) (hG : Sees G s) : ∀ (P : List Ky) (g : Ky → Bool), cnt (fun f => F f && G f) P g = cnt F (P.filter fun q => !s q) g * cnt G (P.filter s) g
  | [], g => by
    simp only [cnt, List.filter_nil]
    by_cases h1 : F g = true <;> by_cases h2 : G g = true <;> simp [h1, h2]
  | p :: P, g => by
    simp only [cnt]
    rw [cnt_and hF hG P, cnt_and hF hG P]
    cases hs : s p with
    | true =>
      rw [List.filter_cons_of_neg (by simp [hs]), List.filter_cons_of_pos (by simp [hs])]
      have e : ∀ b, cnt F (P.filter fun q => !s q) (ud g p b) = cnt F (P.filter fun q => !s q) g := fun b => cnt_blind hF _ _ _ fun q hq => by
        unfold ud
        rw [if_neg]
        rintro rfl
        simp [hs] at hq
      rw [e, e, ← Nat.mul_add]
      rfl
    | false =>
      rw [List.filter_cons_of_pos (by simp [hs]), List.filter_cons_of_neg (by simp [hs])]
      have e : ∀ b, cnt G (P.filter s) (ud g p b) = cnt G (P.filter s) g := fun b => cnt_blind hG _ _ _ fun q hq => by
        unfold ud
        rw [if_neg]
        rintro rfl
        rw [hs] at hq
        cases hq
      rw [e, e, ← Nat.add_mul]
      rfl
noncomputable def sm (sd : Bool) (ks : List D) (i : Nat) : Nat := (ks.take i).countP fun d => kS d != sd
noncomputable def blk (sd : Bool) (ks : List D) (i : Nat) : List Ky := if (kS (ks.getD i .non) == sd) = true then (lev (sm sd ks i)).map fun c => (i + 1, c) else []
noncomputable def PTd (sd : Bool) (ks : List D) : Nat → Nat → List Ky
  | 0, _ => []
  | j + 1, i => blk sd ks i ++ PTd sd ks j (i + 1)
noncomputable def AW (sd : Bool) (ks : List D) (rss : List (List Int)) (f : Ky → Bool) : Nat → List Bool → List Bool → Bool
  | 0, bs, _ => rss.all (kept bs) == sd
  | j + 1, bs, mt => if (kS (ks.getD bs.length .non) == sd) = true then AW sd ks rss f j (bs ++ [f (bs.length + 1, mt)]) mt else AW sd ks rss f j (bs ++ [false]) (mt ++ [false]) && AW sd ks rss f j (bs ++ [true]) (mt ++ [true])
noncomputable def ext (mt : List Bool) (q : Ky) : Bool := q.2.take mt.length == mt
section
variable {sd : Bool} {ks : List D} {rss : List (List Int)}
theorem sm_next {i : Nat} (h : i < ks.length) : sm sd ks (i + 1) = sm sd ks i + (if (kS (ks.getD i .non) == sd) = true then 0 else 1) := by
  unfold sm
  rw [List.take_add_one, List.getElem?_eq_getElem h, List.countP_append, List.getD_eq_getElem?_getD, List.getElem?_eq_getElem h]
  simp only [Option.toList_some, List.countP_cons, List.countP_nil, Nat.zero_add, Option.getD_some]
  by_cases h1 : kS ks[i] = sd
  · simp [h1]
  · have h2 : (kS ks[i] == sd) = false := by simpa using h1
    have h3 : (kS ks[i] != sd) = true := by simpa using h1
    rw [if_pos h3, if_neg (show ¬ (kS ks[i] == sd) = true by simp [h2])]
theorem AW_sees : ∀ (j : Nat) (bs mt : List Bool), Sees (fun f => AW sd ks rss f j bs mt) fun q => ext mt q
  | 0, bs, mt => fun f g e => rfl
  | j + 1, bs, mt => fun f g e => by
    have hm : ∀ c : Bool, ∀ q, ext (mt ++ [c]) q = true → ext mt q = true := fun c q h => by
      unfold ext at h ⊢
      have h2 : q.2.take (mt.length + 1) = mt ++ [c] := by simpa using h
      have := congrArg (List.take mt.length) h2
      rw [List.take_take, Nat.min_eq_left (by omega), List.take_left] at this
      simpa using this
    simp only [AW]
    split
    · have : f (bs.length + 1, mt) = g (bs.length + 1, mt) := e _ (by simp [ext])
      rw [this]
      exact AW_sees j _ _ f g e
    · have a1 : AW sd ks rss f j (bs ++ [false]) (mt ++ [false]) = AW sd ks rss g j (bs ++ [false]) (mt ++ [false]) := AW_sees j _ _ f g fun q hq => e q (hm _ q hq)
      have a2 : AW sd ks rss f j (bs ++ [true]) (mt ++ [true]) = AW sd ks rss g j (bs ++ [true]) (mt ++ [true]) := AW_sees j _ _ f g fun q hq => e q (hm _ q hq)
      rw [a1, a2]
theorem PTd_mem : ∀ (j i : Nat), i + j = ks.length → ∀ q ∈ PTd sd ks j i, i < q.1 ∧ sm sd ks i ≤ q.2.length
  | 0, i, _, q, h => by cases h
  | j + 1, i, e, q, h => by
    rcases List.mem_append.mp h with h | h
    · unfold blk at h
      split at h
      · obtain ⟨c, hc, rfl⟩ := List.mem_map.mp h
        have := lev_len _ c hc
        exact ⟨Nat.lt_succ_self _, by simp [this]⟩
      · cases h
    · have := PTd_mem j (i + 1) (by omega) q h
      have l := sm_next (sd := sd) (ks := ks) (i := i) (by omega)
      exact ⟨by omega, by omega⟩
theorem lev_all : ∀ (k : Nat) (c : List Bool), c.length = k → c ∈ lev k
  | 0, c, h => by rw [List.length_eq_zero_iff.mp h]; exact List.mem_singleton.mpr rfl
  | k + 1, c, h => by
    cases c with
    | nil => cases h
    | cons b r =>
      have := lev_all k r (by simpa using h)
      rw [lev_front]
      cases b <;> simp [this]
theorem filter_one {α : Type} [BEq α] [LawfulBEq α] {a : α} : ∀ {xs : List α}, xs.Nodup → a ∈ xs → xs.filter (fun x => x == a) = [a]
  | [], _, h => by cases h
  | x :: xs, nd, h => by
    obtain ⟨n1, n2⟩ := List.nodup_cons.mp nd
    by_cases e : x = a
    · subst e
      rw [List.filter_cons_of_pos (by simp)]
      have : xs.filter (fun y => y == x) = [] := by
        rw [List.filter_eq_nil_iff]
        intro y hy z
        have := eq_of_beq z
        subst this
        exact n1 hy
      rw [this]
    · rw [List.filter_cons_of_neg (by simpa using e)]
      exact filter_one n2 (by rcases List.mem_cons.mp h with z | z; exact absurd z.symm e; exact z)
theorem blk_ext {i : Nat} {mt : List Bool} (hk : (kS (ks.getD i .non) == sd) = true) (hm : mt.length = sm sd ks i) : (blk sd ks i).filter (ext mt) = [(i + 1, mt)] := by
  unfold blk
  rw [if_pos hk, List.filter_map]
  have : (lev (sm sd ks i)).filter (ext mt ∘ fun c => (i + 1, c)) = (lev (sm sd ks i)).filter (fun c => c == mt) := by
    refine List.filter_congr fun c hc => ?_
    have := lev_len _ c hc
    show (c.take mt.length == mt) = _
    rw [List.take_of_length_le (by omega)]
  rw [this, filter_one (lev_nodup _) (lev_all _ _ hm)]
  rfl
theorem ext_two {mt : List Bool} {q : Ky} (h : mt.length < q.2.length) (c : Bool) : ext (mt ++ [c]) q = (ext mt q && (q.2[mt.length]? == some c)) := by
  unfold ext
  rw [List.length_append, List.length_singleton, List.take_add_one, List.getElem?_eq_getElem h]
  simp only [Option.toList_some]
  by_cases e : q.2.take mt.length = mt
  · rw [e]
    cases q.2[mt.length] <;> cases c <;> simp
  · have e2 : (q.2.take mt.length == mt) = false := by simpa using e
    rw [e2, Bool.false_and]
    simp only [beq_eq_false_iff_ne, ne_eq]
    intro z
    exact e (List.append_inj_left z (by simp; omega))
theorem cnt_PC (c8 : ks.length ≤ 8) : ∀ (j : Nat) (bs mt : List Bool) (g : Ky → Bool), bs.length + j = ks.length → mt.length = sm sd ks bs.length → cnt (fun f => AW sd ks rss f j bs mt) ((PTd sd ks j bs.length).filter (ext mt)) g = PC ks rss sd j bs
  | 0, bs, mt, g, e, _ => by
    simp only [PTd, List.filter_nil, cnt, AW, PC]
  | j + 1, bs, mt, g, e, hm => by
    have hl : bs.length < ks.length := by omega
    have sn := sm_next (sd := sd) hl
    simp only [PTd, PC]
    rw [List.filter_append]
    cases hk : (kS (ks.getD bs.length .non) == sd) with
    | true =>
      rw [blk_ext hk hm]
      rw [hk, if_pos rfl] at sn
      rw [if_pos rfl]
      show cnt _ ((PTd sd ks j (bs.length + 1)).filter (ext mt)) _ + cnt _ ((PTd sd ks j (bs.length + 1)).filter (ext mt)) _ = _
      have one : ∀ b, cnt (fun f => AW sd ks rss f (j + 1) bs mt) ((PTd sd ks j (bs.length + 1)).filter (ext mt)) (ud g (bs.length + 1, mt) b) = PC ks rss sd j (bs ++ [b]) := fun b => by
        have ih := cnt_PC c8 j (bs ++ [b]) mt (ud g (bs.length + 1, mt) b) (by simp; omega) (by simp [hm, sn])
        rw [List.length_append, List.length_singleton] at ih
        rw [← ih]
        refine cnt_congr _ _ fun f hf => ?_
        have : f (bs.length + 1, mt) = b := by
          rw [hf _ (fun z => by have := (PTd_mem j (bs.length + 1) (by omega) _ (List.mem_filter.mp z).1).1; simp at this)]
          simp [ud]
        simp only [AW, hk, if_true, this]
      rw [one, one]
    | false =>
      have bn : blk sd ks bs.length = [] := by unfold blk; rw [hk, if_neg (by simp)]
      rw [hk, if_neg (by simp)] at sn
      rw [bn, List.filter_nil, List.nil_append, if_neg (by simp)]
      have eF : (fun f => AW sd ks rss f (j + 1) bs mt) = fun f => AW sd ks rss f j (bs ++ [false]) (mt ++ [false]) && AW sd ks rss f j (bs ++ [true]) (mt ++ [true]) := by
        funext f
        simp only [AW, hk]
        rw [if_neg (by simp)]
      rw [eF, cnt_and (s := fun q => q.2[mt.length]? == some true)]
      · have lt : ∀ q ∈ PTd sd ks j (bs.length + 1), mt.length < q.2.length := fun q hq => by have := (PTd_mem j (bs.length + 1) (by omega) q hq).2; omega
        have e1 : ((PTd sd ks j (bs.length + 1)).filter (ext mt)).filter (fun q => !(q.2[mt.length]? == some true)) = (PTd sd ks j (bs.length + 1)).filter (ext (mt ++ [false])) := by
          rw [List.filter_filter]
          refine List.filter_congr fun q hq => ?_
          rw [ext_two (lt q hq), List.getElem?_eq_getElem (lt q hq), Bool.and_comm]
          generalize q.2[mt.length]'(lt q hq) = b
          cases b <;> simp
        have e2 : ((PTd sd ks j (bs.length + 1)).filter (ext mt)).filter (fun q => q.2[mt.length]? == some true) = (PTd sd ks j (bs.length + 1)).filter (ext (mt ++ [true])) := by
          rw [List.filter_filter]
          refine List.filter_congr fun q hq => ?_
          rw [ext_two (lt q hq), Bool.and_comm]
        rw [e1, e2]
        have i1 := cnt_PC c8 j (bs ++ [false]) (mt ++ [false]) g (by simp; omega) (by simp [hm, sn])
        have i2 := cnt_PC c8 j (bs ++ [true]) (mt ++ [true]) g (by simp; omega) (by simp [hm, sn])
        rw [List.length_append, List.length_singleton] at i1 i2
        rw [i1, i2]
      · intro f g' h
        refine AW_sees j _ _ f g' fun q hq => h q ?_
        have h2 : q.2.take (mt.length + 1) = mt ++ [false] := by simpa [ext] using hq
        have h3 := congrArg (fun l => l[mt.length]?) h2
        simp only [List.getElem?_take, Nat.lt_succ_self, if_true, List.getElem?_append_right (Nat.le_refl _), Nat.sub_self] at h3
        dsimp only
        rw [h3]; rfl
      · intro f g' h
        refine AW_sees j _ _ f g' fun q hq => h q ?_
        have h2 : q.2.take (mt.length + 1) = mt ++ [true] := by simpa [ext] using hq
        have h3 := congrArg (fun l => l[mt.length]?) h2
        simp only [List.getElem?_take, Nat.lt_succ_self, if_true, List.getElem?_append_right (Nat.le_refl _), Nat.sub_self] at h3
        dsimp only
        rw [h3]; rfl
theorem cnt_all (c8 : ks.length ≤ 8) (g : Ky → Bool) : cnt (fun f => AW sd ks rss f ks.length [] []) (PTd sd ks ks.length 0) g = PC ks rss sd ks.length [] := by
  have := cnt_PC (sd := sd) (rss := rss) c8 ks.length [] [] g (by simp) (by simp [sm])
  have e : (PTd sd ks ks.length 0).filter (ext []) = PTd sd ks ks.length 0 := List.filter_eq_self.mpr fun q _ => by simp [ext]
  simp only [List.length_nil] at this
  rw [e] at this
  exact this
end
noncomputable def PL (sd : Bool) (ks : List D) (f : Ky → Bool) (c : List Bool) : Nat → List Bool → Nat → List Bool
  | 0, bs, _ => bs
  | j + 1, bs, m => if (kS (ks.getD bs.length .non) == sd) = true then PL sd ks f c j (bs ++ [f (bs.length + 1, c.take m)]) m else PL sd ks f c j (bs ++ [c.getD m false]) (m + 1)
section
variable {sd : Bool} {ks : List D} {rss : List (List Int)} {f : Ky → Bool}
theorem sm_all : ∀ (j i : Nat), i + j = ks.length → sm sd ks i ≤ sm sd ks ks.length
  | 0, i, e => by rw [show i = ks.length by omega]; exact Nat.le_refl _
  | j + 1, i, e => by
    have := sm_all j (i + 1) (by omega)
    have := sm_next (sd := sd) (ks := ks) (i := i) (by omega)
    omega
theorem AW_iff : ∀ (j : Nat) (bs mt : List Bool), bs.length + j = ks.length → mt.length = sm sd ks bs.length →
    (AW sd ks rss f j bs mt = true ↔ ∀ c : List Bool, c.length = sm sd ks ks.length → c.take mt.length = mt → (rss.all (kept (PL sd ks f c j bs mt.length)) == sd) = true)
  | 0, bs, mt, e, hm => by
    simp only [AW, PL]
    constructor
    · intro h c _ _; exact h
    · intro h; exact h mt (by rw [hm]; simp at e; rw [e]) (List.take_length)
  | j + 1, bs, mt, e, hm => by
    have hl : bs.length < ks.length := by omega
    have sn := sm_next (sd := sd) hl
    simp only [AW, PL]
    cases hk : (kS (ks.getD bs.length .non) == sd) with
    | true =>
      rw [if_pos rfl, AW_iff j _ mt (by simp; omega) (by rw [hk, if_pos rfl] at sn; simp [hm, sn])]
      constructor
      · intro h c h1 h2
        rw [if_pos rfl, h2]
        exact h c h1 h2
      · intro h c h1 h2
        have := h c h1 h2
        rw [if_pos rfl, h2] at this
        exact this
    | false =>
      rw [hk, if_neg (by simp)] at sn
      rw [if_neg (by simp), Bool.and_eq_true, AW_iff j _ (mt ++ [false]) (by simp; omega) (by simp [hm, sn]), AW_iff j _ (mt ++ [true]) (by simp; omega) (by simp [hm, sn])]
      have sa := sm_all (sd := sd) (ks := ks) j (bs.length + 1) (by omega)
      have tk : ∀ (c : List Bool) (b : Bool), c.length = sm sd ks ks.length → (c.take (mt ++ [b]).length = mt ++ [b] ↔ c.take mt.length = mt ∧ c.getD mt.length false = b) := fun c b h1 => by
        have lc : mt.length < c.length := by omega
        rw [List.length_append, List.length_singleton, List.take_add_one, List.getElem?_eq_getElem lc, List.getD_eq_getElem?_getD, List.getElem?_eq_getElem lc]
        simp only [Option.toList_some, Option.getD_some]
        constructor
        · intro z
          obtain ⟨z1, z2⟩ := List.append_inj z (by simp; omega)
          exact ⟨z1, by simpa using z2⟩
        · rintro ⟨z1, z2⟩
          rw [z1, z2]
      constructor
      · rintro ⟨h1, h2⟩ c h3 h4
        rw [if_neg (by simp)]
        cases hb : c.getD mt.length false with
        | false => have := h1 c h3 ((tk c false h3).mpr ⟨h4, hb⟩); simpa using this
        | true => have := h2 c h3 ((tk c true h3).mpr ⟨h4, hb⟩); simpa using this
      · intro h
        constructor
        · intro c h3 h4
          obtain ⟨z1, z2⟩ := (tk c false h3).mp h4
          have := h c h3 z1
          rw [if_neg (by simp), z2] at this
          simpa using this
        · intro c h3 h4
          obtain ⟨z1, z2⟩ := (tk c true h3).mp h4
          have := h c h3 z1
          rw [if_neg (by simp), z2] at this
          simpa using this
theorem AW_top : AW sd ks rss f ks.length [] [] = (lev (sm sd ks ks.length)).all fun c => rss.all (kept (PL sd ks f c ks.length [] 0)) == sd := by
  rw [Bool.eq_iff_iff, AW_iff ks.length [] [] (by simp) (by simp [sm]), List.all_eq_true]
  constructor
  · intro h c hc; exact h c (lev_len _ c hc) rfl
  · intro h c h1 _; exact h c (lev_all _ c h1)
theorem PTd_nodup : ∀ (j i : Nat), i + j = ks.length → (PTd sd ks j i).Nodup
  | 0, i, _ => List.nodup_nil
  | j + 1, i, e => by
    unfold PTd
    rw [List.nodup_append]
    refine ⟨?_, PTd_nodup j (i + 1) (by omega), fun a ha b hb z => ?_⟩
    · unfold blk
      split
      · have nd := lev_nodup (sm sd ks i)
        unfold List.Nodup at nd ⊢
        rw [List.pairwise_map]
        exact nd.imp fun h z => h (by simpa using z)
      · exact List.nodup_nil
    · subst z
      have h2 := (PTd_mem j (i + 1) (by omega) a hb).1
      unfold blk at ha
      split at ha
      · obtain ⟨c, _, rfl⟩ := List.mem_map.mp ha
        simp at h2
      · cases ha
theorem PTd_has : ∀ (j i : Nat), i + j = ks.length → ∀ (k : Nat) (c : List Bool), i ≤ k → k < ks.length → (kS (ks.getD k .non) == sd) = true → c.length = sm sd ks k → (k + 1, c) ∈ PTd sd ks j i
  | 0, i, e, k, c, h1, h2, _, _ => absurd h2 (by omega)
  | j + 1, i, e, k, c, h1, h2, h3, h4 => by
    unfold PTd
    rw [List.mem_append]
    by_cases hk : k = i
    · subst hk
      left
      unfold blk
      rw [if_pos h3]
      exact List.mem_map.mpr ⟨c, lev_all _ c h4, rfl⟩
    · exact .inr (PTd_has j (i + 1) (by omega) k c (by omega) h2 h3 h4)
end
theorem w_choices44 {n : Nat} (hn : n ≤ 8) (q : ∀ p H', H'[p]? = some (.lst ((lev n).map playD)) → ExtS [] H H' → Q (.ref p) H') : wE (m_law_choices [.int n] H) Q := by
  refine w_run rfl ?_
  show wS (b_law_choices [some (.int n), none, none, none, none] H) _
  unfold b_law_choices
  (repeat fail "go")
  refine ⟨_, rfl, ⟨by omega, by omega⟩, ?_⟩
  rw [Int.toNat_natCast]
  refine w_loop (fun d t σ H' => ∃ (m : Nat) (z2 z3 z4 : Option D), d.length + t.length = n ∧ H'[m]? = some (.lst ((lev d.length).map playD)) ∧ ExtS [] H H' ∧ σ = [some (.int n), some (.ref m), z2, z3, z4]) (fun _ _ _ _ _ => own0) (fun d x t σ H' ⟨m, z2, z3, z4, i1, i2, i3, i4⟩ => ?_) (fun d σ H' ⟨m, z2, z3, z4, i1, i2, i3, i4⟩ => ?_) _ [] _ _ ⟨H.length, none, none, none, by simp [rangeL], last, ExtS.app _, rfl⟩
  · subst i4
    (repeat fail "go")
    refine w_turn43 (k := d.length) (by simp at i1; omega) i2 fun m' z H2 g2 x2 => ?_
    (repeat fail "go")
    refine ⟨m', _, _, _, by simp at i1 ⊢; omega, by rw [g2]; simp, i3.trans x2, rfl⟩
  · subst i4
    simp only [List.length_nil, Nat.add_zero] at i1
    subst i1
    (repeat fail "go")
    exact q m H' i2 i3
noncomputable def keyD (p : Ky) : D := .tup [.int p.1, playD p.2]
noncomputable def kk (p : Ky) : PK := ((p.1 : Int), enc p.2)
theorem nk2_key (p : Ky) : nk2 (keyD p) = some (kk p) := by
  show (nkOf (.int p.1)).bind (fun i => (nk (playD p.2)).map fun ks => (i, ks)) = _
  rw [nk_play]
  rfl
theorem kk_inj {a b : Ky} (h : kk a = kk b) : a = b := by
  obtain ⟨a1, a2⟩ := a
  obtain ⟨b1, b2⟩ := b
  unfold kk at h
  injection h with h1 h2
  have e1 : a1 = b1 := by have : (a1 : Int) = b1 := h1; omega
  have e2 : a2 = b2 := enc_inj _ _ h2
  rw [e1, e2]
theorem _root_.WP.Fm.dcn {S : List Nat} {H H' : HD} (x : Fm S H H') {m : Nat} {kvs : List (D × D)} (hm : m ∉ S) (h : H[m]? = some (.dcn kvs)) : H'[m]? = some (.dcn kvs) := by
  rcases x.old m _ hm h with e | ⟨kv, e, _⟩
  · exact e
  · cases e
theorem w_nget {n : Nat} {kvs : List (D × D)} {k : D} {q : PK} {v : D} (g : H[n]? = some (.dcn kvs)) (hk : nk2 k = some q) (hv : nlook kvs q = some v) (k2 : Q v H) : wE (ngetD (.ref n) k H) Q := ⟨_, _, by simp [ngetD, dcnD, g, hk, hv], k2⟩
noncomputable def WS : List Str := ["sasas", "asss", "ssas", "sssssss", "sasss", "asas", "aas", "ssass", "sass", "", "a", "s", "sa", "as", "ass", "aaaa"]
noncomputable def WB : List (List Bool) := [[true, false, true, false, true], [false, true, true, true], [true, true, false, true], [true, true, true, true, true, true, true], [true, false, true, true, true], [false, true, false, true], [false, false, true], [true, true, false, true, true], [true, false, true, true], [], [false], [true], [true, false], [false, true], [false, true, true], [false, false, false, false]]
noncomputable def sgn (b : Bool) : D := .str (if b then "s" else "a")
theorem ws_is : ∀ i : Nat, i < 16 → ∃ x w, WS[i]? = some x ∧ w ∈ WB ∧ x.cps.all (· < 128) = true ∧ signs x = w.map sgn := fun i hi => by
  refine ⟨WS.getD i "", WB.getD i [], ?_⟩
  have h : i = 0 ∨ i = 1 ∨ i = 2 ∨ i = 3 ∨ i = 4 ∨ i = 5 ∨ i = 6 ∨ i = 7 ∨ i = 8 ∨ i = 9 ∨ i = 10 ∨ i = 11 ∨ i = 12 ∨ i = 13 ∨ i = 14 ∨ i = 15 := by omega
  rcases h with rfl | rfl | rfl | rfl | rfl | rfl | rfl | rfl | rfl | rfl | rfl | rfl | rfl | rfl | rfl | rfl <;>
    exact ⟨rfl, by simp [WB], by decide +kernel, rfl⟩
theorem w_itxt {σ : SD} {f : EF} {I : List D → OwnD → HD → Prop} (h : wE (f σ H) fun d H1 => ∃ x : Str, d = .str x ∧ x.cps.all (· < 128) = true ∧ I (signs x) [] H1) : wI (iTxt f σ H) I := by
  obtain ⟨d, H1, e, x, rfl, e2, q⟩ := h
  exact ⟨_, _, H1, by unfold iTxt; rw [e]; simp only [Option.bind_some]; rw [if_pos e2], q⟩
theorem w_kinds44 {w : List Bool} {J : HD} {ps : List (Nat × DO)} (hl : w.length ≤ 8) {Q : List D → HD → Prop} (q : ∀ H', Fm [] J H' → Q (w.map sideD) H') :
    wA (compL [] (capD [] []) tYes (eOp ixD (eLst (aCons (eC (.str "all")) (aCons (eC (.str "some")) aNil))) (eCB intD (aCons (eOp eqD (eVar 0) (eC (.str "s"))) aNil))) (w.map sgn) J) Q := by
  refine w_comp (fun d t o H' => ∃ u v : List Bool, w = u ++ v ∧ t = v.map sgn ∧ o = u.map sideD ∧ Fm [] J H') (fun _ _ _ _ _ => own0) (fun d x t o H3 ⟨u, v, i1, i2, i3, i4⟩ => ?_) _ [] [] _ ⟨[], w, rfl, rfl, rfl, Fm.refl⟩ (fun d o H3 ⟨u, v, i1, i2, i3, i4⟩ => ?_)
  · obtain ⟨b, v', rfl, rfl, rfl⟩ : ∃ b v', v = b :: v' ∧ x = sgn b ∧ t = v'.map sgn := by
      cases v with
      | nil => cases i2
      | cons b v' => obtain ⟨e1, e2⟩ := List.cons.inj i2; exact ⟨b, v', rfl, e1, e2⟩
    (repeat fail "go")
    refine w_eqS' (r := b) (by cases b <;> decide) ?_
    (repeat fail "go")
    have e : atI [D.str "all", .str "some"] (if b then 1 else 0) = some (sideD b) := by cases b <;> rfl
    refine w_ixR last e ?_
    exact ⟨u ++ [b], v', by rw [i1]; simp, rfl, by rw [i3]; simp, i4.trans (Fm.app _)⟩
  · cases v with
    | cons b v' => cases i2
    | nil =>
      rw [List.append_nil] at i1
      subst i1
      rw [List.nil_append] at i3
      subst i3
      exact q H3 i4
theorem wb_len : ∀ w ∈ WB, w.length ≤ 8 := by decide
theorem w_small44 {ns : List Int} (q : ∀ (w : List Bool) (rss : List (List Int)) H', w ∈ WB → (∀ ls ∈ rss, Up w.length 0 ls) → rss.length ≤ 8 → Fm [] H H' → Q (claimD (w.map sideD) rss) H') : wE (m_law_small [.fl (ns.map .int)] H) Q := by
  refine w_run rfl ?_
  show wS (b_law_small [some (.fl (ns.map .int)), none, none, none, none] H) _
  unfold b_law_small
  (repeat fail "go")
  refine w_at (by omega) (by omega) fun c => ?_
  (repeat fail "go")
  refine w_digits (many := 14) (by omega) fun ds pd H1 l1 d1 g1 n1 x1 => ?_
  (repeat fail "go")
  refine w_addL (appL last) last (by simp) ?_
  (repeat fail "go")
  have gw : ∀ (A B : DO), (H1 ++ [A] ++ [B] ++ [DO.lst (WS.map .str)])[pd]? = some (.lst (ds.map .int)) := fun A B => appL (appL (appL g1))
  have XW : ∀ (A B : DO), Fm [] H (H1 ++ [A] ++ [B] ++ [DO.lst (WS.map .str)]) := fun A B => ((x1.trans (Fm.app _)).trans (Fm.app _)).trans (Fm.app _)
  refine w_itxt ?_
  (repeat fail "go")
  refine w_dig (gw _ _) d1 (by omega) (by omega) fun a a0 a1 => ?_
  (repeat fail "go")
  obtain ⟨x, w, e1, hw, e3, e4⟩ := ws_is (a % 16).toNat (by omega)
  have ex : atI (WS.map D.str) (a % 16) = some (.str x) := by
    have : a % 16 = ((a % 16).toNat : Int) := by omega
    rw [this]
    exact atI_nat (by rw [List.getElem?_map, e1]; rfl)
  refine w_ixR last ex ?_
  refine ⟨x, rfl, e3, ?_⟩
  rw [e4]
  have h8 := wb_len w hw
  refine w_kinds44 (ps := []) h8 fun H2 x2 => ?_
  have lw : (w.map sideD).length = w.length := by simp
  refine ⟨by omega, ?_⟩
  have X2 : Fm [] H H2 := (XW _ _).trans x2
  have g2 := x2.lst (by simp) (gw _ _)
  (repeat fail "go")
  have g3 : (H2 ++ [DO.lst (w.map sideD)])[pd]? = some (.lst (ds.map .int)) := appL g2
  have X3 : Fm [] H (H2 ++ [DO.lst (w.map sideD)]) := X2.trans (Fm.app _)
  generalize H2 ++ [DO.lst (w.map sideD)] = H3 at *
  refine w_dig g3 d1 (by omega) (by omega) fun u0 u1 u2 => ?_
  (repeat fail "go")
  refine w_dig g3 d1 (by omega) (by omega) fun v0 v1 v2 => ?_
  (repeat fail "go")
  refine w_dig (appL g3) d1 (by omega) (by omega) fun e e0 e1' => ?_
  (repeat fail "go")
  have m2 : e % 2 = 0 ∨ e % 2 = 1 := by omega
  obtain ⟨Z, hZ, eZ⟩ : ∃ Z : Nat, Z ≤ 8 ∧ atI [D.int (u0 % 5), .int (v0 % 9)] (e % 2) = some (.int Z) := by
    rcases m2 with z | z <;> rw [z]
    · refine ⟨(u0 % 5).toNat, by omega, ?_⟩
      rw [Int.toNat_of_nonneg (by omega)]; rfl
    · refine ⟨(v0 % 9).toNat, by omega, ?_⟩
      rw [Int.toNat_of_nonneg (by omega)]; rfl
  refine w_ixR last eZ ?_
  (repeat fail "go")
  refine ⟨_, rfl, ⟨by omega, by omega⟩, ?_⟩
  rw [Int.toNat_natCast]
  have Y : Fm [] H (H3 ++ [DO.lst [D.int (u0 % 5), .int (v0 % 9)]]) := X3.trans (Fm.app _)
  refine w_comp (fun d t o H' => ∃ rss : List (List Int), o = rss.map rowD ∧ rss.length = d.length ∧ d.length + t.length = Z ∧ (∀ ls ∈ rss, Up w.length 0 ls) ∧ (∀ x ∈ t, ∃ i : Nat, x = .int i ∧ i ≤ 100) ∧ H'[pd]? = some (.lst (ds.map .int)) ∧ Fm [] H H') (fun _ _ _ _ _ => own0) (fun d x t o H3 ⟨rss, i1, i2, i3, i4, i5, i7, i8⟩ => ?_) _ [] [] _ ⟨[], rfl, rfl, by simp [rangeL], by simp, fun x hx => ?_, appL g3, Y⟩ (fun d o H3 ⟨rss, i1, i2, i3, i4, i5, i7, i8⟩ => ?_)
  · obtain ⟨i, rfl, hi⟩ := i5 x (by simp)
    (repeat fail "go")
    refine w_at (by omega) (by omega) fun cell => ?_
    (repeat fail "go")
    rw [lw]
    refine w_row43 (by omega) fun ls H4 u x4 => ?_
    refine ⟨rss ++ [ls], by rw [i1]; simp, by simp [i2], by simp at i3 ⊢; omega, fun y hy => ?_, fun y hy => i5 y (by simp [hy]), x4.lst (by simp) i7, i8.trans x4⟩
    rcases List.mem_append.mp hy with z | z
    · exact i4 y z
    · simp at z; subst z; exact u
  · simp only [rangeL, List.mem_map, List.mem_range] at hx
    obtain ⟨k, hk, rfl⟩ := hx
    exact ⟨k, by simp, by omega⟩
  rw [List.nil_append] at i1
  simp only [List.length_nil, Nat.add_zero] at i3
  subst i1
  refine ⟨by simp; omega, ?_⟩
  refine w_kn ?_
  refine w_seq (w_cut (fun σ H' => ∃ (rs : List (List Int)) (pr : Nat) (z2 : Option D), H'[pr]? = some (.lst (rs.map rowD)) ∧ rs.length ≤ 8 ∧ (∀ ls ∈ rs, Up w.length 0 ls) ∧ Fm [] H H' ∧ σ = [some (.fl (ns.map .int)), some (.ref pd), z2, some (.tup (w.map sideD)), some (.ref pr)]) ?_ ?_)
  · (refine WP.w_if ?_; (repeat fail "go"))
    refine w_dig (appL i7) d1 (by omega) (by omega) fun r r0 r1 => ?_
    (repeat fail "go")
    refine ⟨fun h => ?_, fun h => ?_⟩
    · (repeat fail "go")
      refine w_cfilter (fun d => match d with | .tup xs => !xs.isEmpty | _ => true) (fun H' => H' = H3 ++ [.lst (rss.map rowD)]) (fun _ j => by rw [j]; exact own1 last) _ (fun x hx H4 j => ?_) _ rfl fun H4 j => ?_
      · obtain ⟨ls, hls, rfl⟩ := List.mem_map.mp hx
        subst j
        (repeat fail "go")
        refine w_neF (Fine.tup (fine_ints ls)) (Fine.tup (h := 0) Fines.nil) (by omega) (by omega) ?_
        refine ⟨_, rfl, ?_, rfl⟩
        cases ls <;> simp [PyData.eqv, PyData.eqvAll, rowD]
      · subst j
        have ef : (rss.map rowD).filter (fun d => match d with | .tup xs => !xs.isEmpty | _ => true) = (rss.filter fun ls => !ls.isEmpty).map rowD := by
          rw [List.filter_map]
          congr 1
          exact List.filter_congr fun ls _ => by cases ls <;> rfl
        rw [ef]
        have lf := List.length_filter_le (fun ls : List Int => !ls.isEmpty) rss
        refine ⟨by simp; omega, ?_⟩
        (repeat fail "go")
        exact ⟨rfl, _, _, _, last, by omega, fun ls h => i4 ls (List.mem_filter.mp h).1, (i8.trans (Fm.app _)).trans (Fm.app _), rfl⟩
    · (repeat fail "go")
      exact ⟨rfl, rss, _, _, last, by omega, i4, i8.trans (Fm.app _), rfl⟩
  rintro _ H4 ⟨rs, pr, z2, g4, l4, u4, X4, rfl⟩
  (repeat fail "go")
  exact q w rs H4 hw u4 l4 X4
section
variable {ks : List D} {f : Ky → Bool} {c : List Bool}
noncomputable def bit (ks : List D) (f : Ky → Bool) (c : List Bool) (i : Nat) : Bool := if (kS (ks.getD i .non) == true) = true then f (i + 1, c.take (sm true ks i)) else c.getD (sm true ks i) false
theorem PL_bits : ∀ (j : Nat) (bs : List Bool), bs.length + j = ks.length → PL true ks f c j bs (sm true ks bs.length) = bs ++ (List.range' bs.length j).map (bit ks f c)
  | 0, bs, e => by simp [PL]
  | j + 1, bs, e => by
    have hl : bs.length < ks.length := by omega
    have sn := sm_next (sd := true) hl
    unfold PL
    rw [List.range'_succ, List.map_cons]
    cases hk : (kS (ks.getD bs.length .non) == true) with
    | true =>
      rw [if_pos rfl]
      rw [hk, if_pos rfl] at sn
      replace sn : sm true ks (bs.length + 1) = sm true ks bs.length := by omega
      have ih := PL_bits j (bs ++ [f (bs.length + 1, c.take (sm true ks bs.length))]) (by simp; omega)
      rw [List.length_append, List.length_singleton, sn] at ih
      rw [ih]
      simp only [bit, hk, if_true, List.append_assoc, List.singleton_append]
    | false =>
      rw [if_neg (by simp)]
      rw [hk, if_neg (by simp)] at sn
      have ih := PL_bits j (bs ++ [c.getD (sm true ks bs.length) false]) (by simp; omega)
      rw [List.length_append, List.length_singleton, sn] at ih
      rw [ih]
      simp only [bit, hk, List.append_assoc, List.singleton_append]
      rw [if_neg (by simp)]
theorem rig_bit {l : Int} (h0 : 0 < absZ l) (h1 : absZ l ≤ ks.length) : rig (PL true ks f c ks.length [] 0) l = (bit ks f c (absZ l - 1).toNat == decide (0 < l)) := by
  have e : PL true ks f c ks.length [] 0 = (List.range' 0 ks.length).map (bit ks f c) := by
    have := PL_bits (ks := ks) (f := f) (c := c) ks.length [] (by simp)
    simpa [sm] using this
  unfold rig
  rw [e, List.getElem?_map, List.getElem?_range' (by omega)]
  simp
noncomputable def num (P : List Ky) (p : Ky) : Int := (P.idxOf p : Int) + 1
noncomputable def part (ks : List D) (c : List Bool) (l : Int) : Ky := (absZ l, c.take (sm true ks (absZ l - 1).toNat)) |> fun x => (x.1.toNat, x.2)
noncomputable def rsp (ks : List D) (P : List Ky) (c : List Bool) : List Int → Option (List Int)
  | [] => some []
  | l :: r => if (kS (ks.getD (absZ l - 1).toNat .non) == true) = true then (rsp ks P c r).map fun t => (if 0 < l then num P (part ks c l) else - num P (part ks c l)) :: t
    else if (c.getD (sm true ks (absZ l - 1).toNat) false == decide (0 < l)) = true then none else rsp ks P c r
theorem absN_num (P : List Ky) (p : Ky) (l : Int) : absZ (if 0 < l then num P p else - num P p) = (P.idxOf p : Int) + 1 ∧ (decide (0 < (if 0 < l then num P p else - num P p)) = decide (0 < l)) := by
  unfold num
  by_cases h : 0 < l
  · rw [if_pos h]
    refine ⟨by unfold absZ; split <;> omega, ?_⟩
    rw [decide_eq_true h, decide_eq_true (by omega)]
  · rw [if_neg h]
    refine ⟨by unfold absZ; split <;> omega, ?_⟩
    rw [decide_eq_false h, decide_eq_false (by omega)]
theorem rsp_kept {P : List Ky} {one : List Bool} {g : Ky → Bool} (nd : P.Nodup) (hl : one.length = P.length) (hf : f = asg P one g) (hP : ∀ (k : Nat) (m : List Bool), k < ks.length → (kS (ks.getD k .non) == true) = true → m.length = sm true ks k → (k + 1, m) ∈ P) (hc : c.length = sm true ks ks.length) : ∀ (ls : List Int), (∀ l ∈ ls, 0 < absZ l ∧ absZ l ≤ ks.length) →
    match rsp ks P c ls with
    | none => kept (PL true ks f c ks.length [] 0) ls = true
    | some xs => kept one xs = kept (PL true ks f c ks.length [] 0) ls ∧ (∀ x ∈ xs, 0 < absZ x) ∧ xs.length ≤ ls.length
  | [], _ => ⟨rfl, (fun _ h => by cases h), Nat.le_refl _⟩
  | l :: r, h => by
    obtain ⟨h0, h1⟩ := h l (by simp)
    have ih := rsp_kept nd hl hf hP hc r fun x hx => h x (by simp [hx])
    have rb := rig_bit (ks := ks) (f := f) (c := c) h0 h1
    have hi : (absZ l - 1).toNat < ks.length := by omega
    have ek : kept (PL true ks f c ks.length [] 0) (l :: r) = (rig (PL true ks f c ks.length [] 0) l || kept (PL true ks f c ks.length [] 0) r) := by unfold kept; rw [List.any_cons]
    unfold rsp
    cases hk : (kS (ks.getD (absZ l - 1).toNat .non) == true) with
    | true =>
      rw [if_pos rfl]
      cases hr : rsp ks P c r with
      | none =>
        rw [hr] at ih
        show kept _ (l :: r) = true
        rw [ek]
        have ih' : kept (PL true ks f c ks.length [] 0) r = true := ih
        rw [ih', Bool.or_true]
      | some t =>
        rw [hr] at ih
        obtain ⟨i1, i2, i3⟩ := ih
        have sa := sm_all (sd := true) (ks := ks) (ks.length - (absZ l - 1).toNat) (absZ l - 1).toNat (by omega)
        have tl : (c.take (sm true ks (absZ l - 1).toNat)).length = sm true ks (absZ l - 1).toNat := by rw [List.length_take]; omega
        have ep : part ks c l = ((absZ l - 1).toNat + 1, c.take (sm true ks (absZ l - 1).toNat)) := by
          unfold part
          simp only [Prod.mk.injEq, and_true]
          omega
        have mp : part ks c l ∈ P := by rw [ep]; exact hP _ _ hi hk tl
        obtain ⟨n1, n2⟩ := absN_num P (part ks c l) l
        have il : P.idxOf (part ks c l) < P.length := List.idxOf_lt_length_of_mem mp
        have gi : P[P.idxOf (part ks c l)]? = some (part ks c l) := by rw [List.getElem?_eq_getElem il, List.getElem_idxOf]
        have lo : P.idxOf (part ks c l) < one.length := by omega
        have fo : f (part ks c l) = one[P.idxOf (part ks c l)] := by rw [hf]; exact asg_at P one g _ _ _ nd gi (List.getElem?_eq_getElem lo)
        have r1 : rig one (if 0 < l then num P (part ks c l) else - num P (part ks c l)) = rig (PL true ks f c ks.length [] 0) l := by
          rw [rb]
          unfold rig
          rw [n1, n2, show ((P.idxOf (part ks c l) : Int) + 1 - 1).toNat = P.idxOf (part ks c l) by omega, List.getElem?_eq_getElem lo]
          show (one[P.idxOf (part ks c l)] == decide (0 < l)) = _
          rw [← fo, ep]
          unfold bit
          rw [hk, if_pos rfl]
        refine ⟨?_, fun x hx => ?_, ?_⟩
        · rw [ek, ← i1, ← r1]
          unfold kept
          rw [List.any_cons]
        · rcases List.mem_cons.mp hx with z | z
          · rw [z, n1]; omega
          · exact i2 x z
        · simp; omega
    | false =>
      rw [if_neg (by simp)]
      have eb : bit ks f c (absZ l - 1).toNat = c.getD (sm true ks (absZ l - 1).toNat) false := by unfold bit; rw [hk, if_neg (by simp)]
      rw [eb] at rb
      cases hb : (c.getD (sm true ks (absZ l - 1).toNat) false == decide (0 < l)) with
      | true =>
        rw [if_pos rfl]
        show kept _ (l :: r) = true
        rw [ek, rb, hb, Bool.true_or]
      | false =>
        rw [if_neg (by simp)]
        rw [hb] at rb
        rw [ek, rb, Bool.false_or]
        cases hr : rsp ks P c r with
        | none => rw [hr] at ih; exact ih
        | some t => rw [hr] at ih; exact ⟨ih.1, ih.2.1, by simp; omega⟩
end
theorem w_ext {p q : Nat} {xs ys : List D} (g : H[p]? = some (.lst xs)) (g2 : H[q]? = some (.lst ys)) (hl : xs.length + ys.length ≤ 100000) (k : Q .non (H.set p (.lst (xs ++ ys)))) : wE (extendD (.ref p) [.ref q] H) Q := by
  have sz : sizeLine = 16777216 := PySem.sizeLine_eq
  exact ⟨_, _, by simp only [extendD, g, g2]; rw [if_pos (by omega)], k⟩
theorem w_longer {k q r : Nat} {a0 z3 : Option D} {R : FD → SD → HD → Prop} {H : HD} (hk : k ≤ 8) (hr : r ≠ q) (g : H[q]? = some (.lst ((lev k).map playD))) (gr : H[r]? = some (.lst []))
    (h : ∀ z H', H'[r]? = some (.lst ((lev (k + 1)).map playD)) → ExtS [r] H H' → R .nx [a0, some (.ref q), some (.ref r), z] H') :
    wS (forL [(q, .lst ((lev k).map playD))] (gNm 3) (sSeq (sExpr (eLM extendD (eVar 2) (aCons (eLC (iSq (eC k_TRUTHS)) [3] tYes (eOp addD (eVar 1) (eTup (aCons (eVar 0) aNil)))) aNil))) sNil) ((lev k).map playD) [a0, some (.ref q), some (.ref r), z3] H) R := by
  have l256 := lev_256 hk
  refine w_loop (fun d t σ H' => ∃ (dn td : List (List Bool)) (z : Option D), t = td.map playD ∧ lev k = dn ++ td ∧ H'[r]? = some (.lst ((dn.flatMap two).map playD)) ∧ ExtS [r] H H' ∧ σ = [a0, some (.ref q), some (.ref r), z]) (fun d t σ H' ⟨dn, td, z, i1, i2, i3, i4, i5⟩ => own1 (i4.old _ _ (by simpa using Ne.symm hr) g)) (fun d x t σ H' ⟨dn, td, z, i1, i2, i3, i4, i5⟩ => ?_) (fun d σ H' ⟨dn, td, z, i1, i2, i3, i4, i5⟩ => ?_) _ [] _ _ ⟨[], lev k, z3, rfl, rfl, gr, ExtS.refl, rfl⟩
  · subst i5
    obtain ⟨b, tr, rfl, rfl, rfl⟩ : ∃ b tr, td = b :: tr ∧ x = playD b ∧ t = tr.map playD := by
      cases td with
      | nil => cases i1
      | cons b tr => obtain ⟨e1, e2⟩ := List.cons.inj i1; exact ⟨b, tr, rfl, e1, e2⟩
    have lb : b.length = k := lev_len k b (by rw [i2]; simp)
    have ln : dn.length ≤ 256 := by have := congrArg List.length i2; simp at this; omega
    (repeat fail "go")
    refine ⟨by simp [isLst, i3], ?_⟩
    (repeat fail "go")
    unfold k_TRUTHS
    (repeat fail "go")
    refine w_cmap (fun d => match d with | .bl t => playD (b ++ [t]) | _ => .non) (fun H2 => H2 = H') (fun _ _ => own0) _ (fun y hy H2 j => ?_) _ rfl fun H2 j => ?_
    · subst j
      obtain ⟨t, rfl⟩ : ∃ t, y = .bl t := by
        simp at hy
        rcases hy with z | z <;> exact ⟨_, z⟩
      (repeat fail "go")
      exact ⟨rfl, rfl⟩
    subst j
    refine ⟨by simp, ?_⟩
    (repeat fail "go")
    refine w_ext (appL i3) last (by rw [List.length_map, two_len]; simp; omega) ?_
    (repeat fail "go")
    refine ⟨dn ++ [b], tr, _, rfl, by rw [i2]; simp, ?_, (i4.trans (ExtS.app _)).trans (ExtS.set (by simp)), rfl⟩
    have hp : r < (H2 ++ [DO.lst [playD (b ++ [false]), playD (b ++ [true])]]).length := by have := (List.getElem?_eq_some_iff.mp i3).1; simp; omega
    show (List.set (H2 ++ [DO.lst [playD (b ++ [false]), playD (b ++ [true])]]) r _)[r]? = _
    rw [List.getElem?_set_self hp]
    simp [two]
  · subst i5
    cases td with
    | cons b tr => cases i1
    | nil =>
      rw [List.append_nil] at i2
      subst i2
      exact h z H' i3 i4
theorem w_choices42 {n : Nat} (hn : n ≤ 8) (q : ∀ p H', H'[p]? = some (.lst ((lev n).map playD)) → H.length ≤ p → ExtS [] H H' → Q (.ref p) H') : wE (m_choices [.int n] H) Q := by
  refine w_run rfl ?_
  show wS (b_choices [some (.int n), none, none, none] H) _
  unfold b_choices
  (repeat fail "go")
  refine w_while (fun m σ H' => ∃ (p : Nat) (z2 z3 : Option D) (k : Nat), k + m = n ∧ H'[p]? = some (.lst ((lev k).map playD)) ∧ H.length ≤ p ∧ ExtS [] H H' ∧ σ = [some (.int n), some (.ref p), z2, z3]) (fun m σ H' ⟨p, z2, z3, k, i1, i2, i3, i4, i5⟩ => ?_) _ n _ _ (by omega) ⟨H.length, none, none, 0, by omega, last, Nat.le_refl _, ExtS.app _, rfl⟩
  subst i5
  obtain ⟨c0, cr, ec⟩ : ∃ c0 cr, lev k = c0 :: cr := by
    cases hq : lev k with
    | nil => have := lev_size k; rw [hq] at this; have := Nat.two_pow_pos k; simp at *; omega
    | cons a b => exact ⟨a, b, rfl⟩
  have lc : c0.length = k := lev_len k c0 (by rw [ec]; simp)
  (repeat fail "go")
  refine w_ixR i2 (d := playD c0) (by rw [ec]; exact atI_nat (j := 0) rfl) ?_
  (repeat fail "go")
  rw [lc]
  refine ⟨fun hb => ?_, fun hb => ?_⟩
  · have hlt : k < n := by have := of_decide_eq_true hb; omega
    refine ⟨m - 1, by omega, ?_⟩
    (repeat fail "go")
    refine w_longer (k := k) (by omega) (fun z => ?_) (appL i2) last fun z H2 g2 x2 => ?_
    · have := (List.getElem?_eq_some_iff.mp i2).1
      omega
    · (repeat fail "go")
      exact ⟨_, _, _, k + 1, by omega, g2, by have := i4.len; omega, ExtS.weak i4 ((ExtS.app _).trans x2) i4.len, rfl⟩
  · have hge : k = n := by have := of_decide_eq_false hb; omega
    subst hge
    (repeat fail "go")
    exact q p H' i2 i3 i4
theorem count_all (ks : List D) (hk : ∀ d ∈ ks, IsKind d) (i : Nat) : ∃ xs : List PyData, Fines (ks.take i) xs 0 ∧ (xs.countP fun z => PyData.eqv z (.str "all")) = sm true ks i := by
  unfold sm
  have hk' : ∀ d ∈ ks.take i, IsKind d := fun d hd => hk d (List.mem_of_mem_take hd)
  generalize ks.take i = l at hk'
  induction l with
  | nil => exact ⟨[], .nil, rfl⟩
  | cons d r ih =>
    obtain ⟨xs, f, e⟩ := ih fun x hx => hk' x (by simp [hx])
    have h := hk' d (by simp)
    rcases h with rfl | rfl
    · refine ⟨.str "all" :: xs, .cons (Fine.str (strOk_list (by decide))) f, ?_⟩
      rw [List.countP_cons, List.countP_cons, e]
      congr 1
    · refine ⟨.str "some" :: xs, .cons (Fine.str (strOk_list (by decide))) f, ?_⟩
      rw [List.countP_cons, List.countP_cons, e]
      congr 1
theorem w_cntAll {ks : List D} {i : Nat} (hk : ∀ d ∈ ks, IsKind d) (q : Q (.int (sm true ks i : Nat)) H) : wE (countD (.tup (ks.take i)) [.str "all"] H) Q := by
  obtain ⟨xs, f, e⟩ := count_all ks hk i
  refine ⟨_, _, ?_, q⟩
  unfold countD
  dsimp only
  have fa : Fine (D.str "all") (.str "all") 0 := Fine.str (strOk_list (by decide))
  rw [(Fine.tup f).dat (by omega), Option.bind_some, fa.dat (by omega)]
  rw [← e]
  rfl
theorem w_cntAll2 {ks : List D} (hk : ∀ d ∈ ks, IsKind d) (q : Q (.int (sm true ks ks.length : Nat)) H) : wE (countD (.tup ks) [.str "all"] H) Q := by
  have := w_cntAll (i := ks.length) hk q
  rwa [List.take_length] at this
noncomputable def aheadL (ks : List D) : List D := (List.range ks.length).map fun i => .int (sm true ks i : Nat)
theorem w_ahead42 {ks : List D} (hk : ∀ d ∈ ks, IsKind d) (h8 : ks.length ≤ 8) (q : ∀ (p : Nat) (H' : HD), H'[p]? = some (.lst (aheadL ks)) → H.length ≤ p → Fm [] H H' → Q (.ref p) H') : wE (m_names_ahead [.tup ks] H) Q := by
  refine w_run rfl ?_
  show wS (b_names_ahead [some (.tup ks)] H) _
  unfold b_names_ahead
  (repeat fail "go")
  refine ⟨_, rfl, ⟨by omega, by omega⟩, ?_⟩
  rw [Int.toNat_natCast]
  refine w_cmap (fun d => match d with | .int i => .int (sm true ks i.toNat : Nat) | _ => .non) (fun H2 => H2 = H) (fun _ _ => own0) _ (fun y hy H2 j => ?_) _ rfl fun H2 j => ?_
  · subst j
    simp only [rangeL, List.mem_map, List.mem_range] at hy
    obtain ⟨i, hi, rfl⟩ := hy
    rw [Int.zero_add]
    (repeat fail "go")
    refine ⟨rfl, ?_⟩
    (repeat fail "go")
    refine w_cntAll hk ?_
    exact ⟨by simp, rfl⟩
  · subst j
    have e : (rangeL 0 ks.length).map (fun d => match d with | .int i => D.int (sm true ks i.toNat : Nat) | _ => .non) = aheadL ks := by
      unfold rangeL aheadL
      rw [List.map_map]
      exact List.map_congr_left fun i _ => by simp
    rw [e]
    refine ⟨by simp [aheadL]; omega, ?_⟩
    (repeat fail "go")
    exact q _ _ last (Nat.le_refl _) (Fm.app _)
theorem sm8 {ks : List D} (h8 : ks.length ≤ 8) (i : Nat) : sm true ks i ≤ 8 := by
  unfold sm
  have := List.countP_le_length (p := fun d => kS d != true) (l := ks.take i)
  have := List.length_take_le' i ks
  omega
theorem ahead_at {ks : List D} {i : Nat} (hi : i < ks.length) : atI (aheadL ks) (i : Int) = some (.int (sm true ks i : Nat)) := by
  refine atI_nat ?_
  unfold aheadL
  rw [List.getElem?_map, List.getElem?_range hi]
  rfl
theorem w_parts42 {ks : List D} (hk : ∀ d ∈ ks, IsKind d) (h8 : ks.length ≤ 8) (hP : (PTd true ks ks.length 0).length ≤ 8) (q : ∀ H', Fm [] H H' → Q (.tup ((PTd true ks ks.length 0).map keyD)) H') : wE (m_parts_of [.tup ks] H) Q := by
  refine w_run rfl ?_
  show wS (b_parts_of [some (.tup ks), none, none, none, none] H) _
  unfold b_parts_of
  (repeat fail "go")
  refine w_ahead42 hk h8 fun a H1 g1 l1 x1 => ?_
  (repeat fail "go")
  refine ⟨_, rfl, ?_⟩
  have gr : H1[H.length]? = some (.lst []) := x1.lst (by simp) last
  have ar : H.length ≠ a := fun z => by subst z; simp at l1; omega
  refine w_loop (fun d t σ H' => ∃ (i m : Nat) (dn : List Ky) (z3 z4 : Option D), i + m = ks.length ∧ t = enumL i (ks.drop i) ∧ H'[H.length]? = some (.lst (dn.map keyD)) ∧ dn ++ PTd true ks m i = PTd true ks ks.length 0 ∧ Fm [H.length] H1 H' ∧ σ = [some (.tup ks), some (.ref H.length), some (.ref a), z3, z4]) (fun _ _ _ _ _ => own0) (fun d x t σ H' ⟨i, m, dn, z3, z4, i1, i2, i3, i4, i5, i6⟩ => ?_) (fun d σ H' ⟨i, m, dn, z3, z4, i1, i2, i3, i4, i5, i6⟩ => ?_) _ [] _ _ ⟨0, ks.length, [], none, none, by omega, rfl, gr, rfl, Fm.refl, rfl⟩
  · subst i6
    have hi : i < ks.length := by
      refine Nat.lt_of_not_le fun z => ?_
      rw [List.drop_eq_nil_of_le z] at i2
      cases i2
    obtain ⟨m, rfl⟩ : ∃ k, m = k + 1 := ⟨m - 1, by omega⟩
    rw [List.drop_eq_getElem_cons hi] at i2
    obtain ⟨rfl, rfl⟩ := List.cons.inj i2
    have dl : dn.length ≤ 8 := by have := congrArg List.length i4; simp at this; omega
    have ek : ks[i] = sideD (kS (ks.getD i .non)) := by
      have := side_of hk hi
      rw [List.getElem?_eq_getElem hi] at this
      exact Option.some.inj this
    have ga : H'[a]? = some (.lst (aheadL ks)) := i5.lst (by simpa using Ne.symm ar) g1
    rw [ek]
    (repeat fail "go")
    refine w_cut (fun σ H2 => H2[H.length]? = some (.lst ((dn ++ blk true ks i).map keyD)) ∧ Fm [H.length] H1 H2 ∧ σ = [some (.tup ks), some (.ref H.length), some (.ref a), some (.int i), some (sideD (kS (ks.getD i .non)))]) ?_ ?_
    · (refine WP.w_if ?_; (repeat fail "go"))
      show wE (eqD (sideD _) (sideD true) _) _
      refine w_eqSide ⟨_, rfl, ⟨fun hb => ?_, fun hb => ?_⟩⟩
      · (repeat fail "go")
        refine ⟨by simp [isLst, i3], ?_⟩
        (repeat fail "go")
        refine w_ixR ga (ahead_at hi) ?_
        (repeat fail "go")
        refine w_choices42 (sm8 h8 i) fun r2 H2 g2 l2 x2' => ?_
        have x2 : Fm [] H' H2 := ⟨fun m o hm h => .inl (x2'.old m o hm h), x2'.len⟩
        (repeat fail "go")
        refine w_cmap (fun d => .tup [.int ((i : Int) + 1), d]) (fun H3 => H3 = H2) (fun H3 j => by rw [j]; exact own1 g2) _ (fun y hy H3 j => ?_) _ rfl fun H3 j => ?_
        · subst j
          (repeat fail "go")
          exact ⟨rfl, rfl⟩
        subst j
        have l256 := lev_256 (sm8 h8 i)
        refine ⟨by simp; omega, ?_⟩
        (repeat fail "go")
        have gr2 : H3[H.length]? = some (.lst (dn.map keyD)) := x2.lst (by simp) i3
        refine w_ext (appL gr2) last (by simp; omega) ?_
        (repeat fail "go")
        refine ⟨rfl, ?_, ((i5.trans (x2.sub (by simp))).trans (Fm.app _)).trans (Fm.set (by simp)), rfl⟩
        have hp : H.length < (H3 ++ [DO.lst (((lev (sm true ks i)).map playD).map fun d => D.tup [.int ((i : Int) + 1), d])]).length := by have := (List.getElem?_eq_some_iff.mp gr2).1; simp; omega
        rw [List.getElem?_set_self hp]
        unfold blk
        rw [if_pos hb, List.map_append, List.map_map, List.map_map]
        rfl
      · (repeat fail "go")
        refine ⟨rfl, ?_, i5, rfl⟩
        unfold blk
        rw [hb, if_neg (by simp), List.append_nil]
        exact i3
    rintro _ H2 ⟨g2, x2, rfl⟩
    (repeat fail "go")
    exact ⟨i + 1, m, dn ++ blk true ks i, _, _, by omega, rfl, g2, by rw [List.append_assoc]; exact i4, x2, rfl⟩
  · subst i6
    have hi : ¬ i < ks.length := fun z => by
      rw [List.drop_eq_getElem_cons z] at i2
      cases i2
    have : m = 0 := by omega
    subst this
    simp only [PTd, List.append_nil] at i4
    subst i4
    (repeat fail "go")
    exact q H' (((Fm.app (S := []) [DO.lst []]).trans x1).new i5 fun m hm _ => by simp at hm; omega)
noncomputable def zkg (x : Ky × D) : D × D := (keyD x.1, x.2)
noncomputable def NumsT (P : List Ky) (kvs : List (D × D)) : Prop := ∀ p ∈ P, nlook kvs (kk p) = some (.int (num P p))
theorem nlookg_none {k : Ky} : ∀ {xs : List (Ky × D)}, (∀ x ∈ xs, x.1 ≠ k) → nlook (xs.map zkg) (kk k) = none
  | [], _ => rfl
  | x :: xs, h => by
    have e : (nk2 (zkg x).1 == some (kk k)) = false := by
      show (nk2 (keyD x.1) == _) = false
      rw [nk2_key]
      simp only [beq_eq_false_iff_ne, ne_eq, Option.some.injEq]
      exact fun z => h x (by simp) (kk_inj z)
    unfold nlook
    rw [List.map_cons, List.find?_cons]
    simp only [e]
    exact nlookg_none fun y hy => h y (by simp [hy])
theorem nlookg_at : ∀ {xs : List (Ky × D)} {i : Nat} {k : Ky} {v : D}, (xs.map (·.1)).Nodup → xs[i]? = some (k, v) → nlook (xs.map zkg) (kk k) = some v
  | [], i, k, v, _, h => by simp at h
  | x :: xs, i, k, v, nd, h => by
    rw [List.map_cons, List.nodup_cons] at nd
    unfold nlook
    rw [List.map_cons, List.find?_cons]
    cases i with
    | zero =>
      simp at h
      subst h
      have e : (nk2 (zkg (k, v)).1 == some (kk k)) = true := by show (nk2 (keyD k) == _) = true; rw [nk2_key]; simp
      simp only [e]
      rfl
    | succ i =>
      have hm : k ∈ xs.map (·.1) := List.mem_map.mpr ⟨(k, v), List.mem_of_getElem? (by simpa using h), rfl⟩
      have e : (nk2 (zkg x).1 == some (kk k)) = false := by
        show (nk2 (keyD x.1) == _) = false
        rw [nk2_key]
        simp only [beq_eq_false_iff_ne, ne_eq, Option.some.injEq]
        exact fun z => nd.1 (by rw [kk_inj z]; exact hm)
      simp only [e]
      exact nlookg_at nd.2 (by simpa using h)
theorem nmakeg : ∀ (xs acc : List (Ky × D)), ((acc ++ xs).map (·.1)).Nodup → (xs.map fun x => (keyD x.1, kk x.1, x.2)).foldl (fun acc p => nput acc p.1 p.2.1 p.2.2) (acc.map zkg) = (acc ++ xs).map zkg
  | [], acc, _ => by simp
  | x :: xs, acc, nd => by
    rw [List.map_cons, List.foldl_cons]
    have e : nput (acc.map zkg) (keyD x.1) (kk x.1) x.2 = (acc ++ [x]).map zkg := by
      unfold nput
      rw [nlookg_none (xs := acc) fun y hy z => ?_]
      · rw [List.map_append]; rfl
      · rw [List.map_append, List.nodup_append] at nd
        exact nd.2.2 y.1 (List.mem_map.mpr ⟨y, hy, rfl⟩) x.1 (by simp) z
    show List.foldl _ (nput (acc.map zkg) (keyD x.1) (kk x.1) x.2) _ = _
    rw [e, nmakeg xs (acc ++ [x]) (by simpa using nd)]
    simp
noncomputable def en (c : Int) : List Ky → List (Ky × D)
  | [] => []
  | p :: r => (p, .int c) :: en (c + 1) r
theorem en_keys : ∀ (P : List Ky) (c : Int), (en c P).map (·.1) = P
  | [], _ => rfl
  | p :: r, c => by rw [en, List.map_cons, en_keys r]
theorem en_at : ∀ (P : List Ky) (c : Int) (i : Nat) (p : Ky), P[i]? = some p → (en c P)[i]? = some (p, .int (c + i))
  | [], _, _, _, h => by simp at h
  | q :: r, c, 0, p, h => by simp at h; subst h; simp [en]
  | q :: r, c, i + 1, p, h => by
    have := en_at r (c + 1) i p (by simpa using h)
    rw [en, List.getElem?_cons_succ, this]
    congr 3
    omega
theorem pkv2_en : ∀ (P : List Ky) (c : Int), pkv2 ((en c P).map fun x => .tup [keyD x.1, x.2]) = some ((en c P).map fun x => (keyD x.1, kk x.1, x.2))
  | [], _ => rfl
  | p :: r, c => by
    rw [en, List.map_cons, pkv2, nk2_key, Option.bind_some, pkv2_en r]
    rfl
theorem w_comp42 {own : OwnD} (ho : okOwn own H) : ∀ (P : List Ky) (c : Int) {R : List D → HD → Prop}, R ((en c P).map fun x => .tup [keyD x.1, x.2]) H → wA (compL2 own [] tYes (eTup (aCons (eVar 1) (aCons (eVar 0) aNil))) (enumL c (P.map keyD)) H) R
  | [], c, R, q => ⟨_, _, by rw [List.map_nil, enumL, compL2, if_pos ho]; rfl, q⟩
  | p :: r, c, R, q => by
    obtain ⟨ds, H1, e, h⟩ := w_comp42 ho r (c + 1) (R := fun ds H1 => R (.tup [keyD p, .int c] :: ds) H1) q
    refine ⟨_, H1, ?_, h⟩
    rw [List.map_cons, enumL, compL2]
    simp only [two2, Option.bind_some]
    rw [if_pos ho]
    have et : eTup (aCons (eVar 1) (aCons (eVar 0) aNil)) [some (.int c), some (keyD p)] H = some (.tup [keyD p, .int c], H) := rfl
    simp only [tYes, Option.bind_some, if_true]
    rw [et]
    simp only [Option.bind_some]
    rw [e]; rfl
theorem w_lc2' {it : ItF} {ci : List Nat} {tt : TF} {te : EF} {σ : SD} (h : wI (it σ H) fun xs own H1 => wA (compL2 own (capD ci σ) tt te xs H1) fun ds H2 => ds.length ≤ 1000000 ∧ Q (.ref H2.length) (H2 ++ [.lst ds])) : wE (eLC2 it ci tt te σ H) Q := by
  obtain ⟨xs, own, H1, e1, ds, H2, e2, hz, q⟩ := h
  have sz : sizeLine = 16777216 := PySem.sizeLine_eq
  refine ⟨_, _, ?_, q⟩
  unfold eLC2
  rw [e1]
  simp only [Option.bind_some]
  rw [e2]
  simp only [Option.bind_some]
  unfold mkL
  rw [if_pos (by omega)]
theorem nums_en {P : List Ky} (nd : P.Nodup) : NumsT P (nmake ((en 1 P).map fun x => (keyD x.1, kk x.1, x.2))) := by
  have e := nmakeg (en 1 P) [] (by simpa [en_keys] using nd)
  simp only [List.map_nil, List.nil_append] at e
  intro p hp
  have il : P.idxOf p < P.length := List.idxOf_lt_length_of_mem hp
  have gi : P[P.idxOf p]? = some p := by rw [List.getElem?_eq_getElem il, List.getElem_idxOf]
  show nlook (List.foldl _ [] _) _ = _
  rw [e, nlookg_at (by rw [en_keys]; exact nd) (en_at P 1 _ p gi)]
  unfold num
  congr 2
  omega
theorem w_dictN {n : Nat} {P : List Ky} (g : H[n]? = some (.lst ((en 1 P).map fun x => .tup [keyD x.1, x.2]))) (hl : P.length ≤ 1000) (q : Q (.ref H.length) (H ++ [.dcn (nmake ((en 1 P).map fun x => (keyD x.1, kk x.1, x.2)))])) : wE (dictND [.ref n] H) Q := by
  have sz : sizeLine = 16777216 := PySem.sizeLine_eq
  have l : (en 1 P).length = P.length := by have := congrArg List.length (en_keys P 1); simpa using this
  refine ⟨_, _, ?_, q⟩
  unfold dictND
  simp only [g, pkv2_en, Option.bind_some]
  rw [if_pos (by simp [l]; omega)]
theorem w_eqB {a b : Bool} (q : Q (.bl (a == b)) H) : wE (eqD (.bl a) (.bl b) H) Q := w_eqF (.bl a) (.bl b) (by omega) (by omega) (by simpa [PyData.eqv] using q)
theorem rsp_cons {ks : List D} {P : List Ky} {c : List Bool} (l : Int) (r : List Int) : rsp ks P c (l :: r) = if (kS (ks.getD (absZ l - 1).toNat .non) == true) = true then (rsp ks P c r).map fun t => (if 0 < l then num P (part ks c l) else - num P (part ks c l)) :: t
    else if (c.getD (sm true ks (absZ l - 1).toNat) false == decide (0 < l)) = true then none else rsp ks P c r := rfl
theorem rsp_app {ks : List D} {P : List Ky} {c : List Bool} : ∀ (dn td xs : List Int), rsp ks P c dn = some xs → rsp ks P c (dn ++ td) = (rsp ks P c td).map (xs ++ ·)
  | [], td, xs, h => by
    cases h
    rw [List.nil_append]
    cases rsp ks P c td <;> rfl
  | l :: r, td, xs, h => by
    rw [rsp_cons l r] at h
    rw [List.cons_append, rsp_cons l (r ++ td)]
    split at h
    · rename_i hk
      rw [if_pos hk]
      obtain ⟨t, e1, rfl⟩ := Option.map_eq_some_iff.mp h
      rw [rsp_app r td t e1, Option.map_map]
      rfl
    · rename_i hk
      rw [if_neg hk]
      split at h
      · cases h
      · rename_i hb
        rw [if_neg hb]
        exact rsp_app r td xs h
noncomputable def rspD (o : Option (List Int)) : D := match o with
  | none => .non
  | some xs => rowD xs
theorem w_lit42 {ks : List D} {P : List Ky} {kvs : List (D × D)} {c : List Bool} {l : Int} {a n r : Nat} {xs : List Int} {z3 z7 z8 z9 : Option D} {R : FD → SD → HD → Prop} (hk : ∀ d ∈ ks, IsKind d) (h0 : 0 < absZ l) (h1 : absZ l ≤ ks.length) (hP : ∀ (k : Nat) (m : List Bool), k < ks.length → (kS (ks.getD k .non) == true) = true → m.length = sm true ks k → (k + 1, m) ∈ P) (hc : c.length = sm true ks ks.length) (T : NumsT P kvs) (ga : H[a]? = some (.lst (aheadL ks))) (gn : H[n]? = some (.dcn kvs)) (gr : H[r]? = some (.lst (xs.map .int))) (hx : xs.length ≤ 1000)
    (hn : rsp ks P c [l] = none → R (.rt .non) [some (.tup ks), some (.ref a), some (.ref n), z3, some (playD c), some (.ref r), some (.int l), some (.int (absZ l)), some (.int (sm true ks (absZ l - 1).toNat : Nat)), z9] H)
    (hs : ∀ ys z7 z8 z9 H', rsp ks P c [l] = some ys → H'[r]? = some (.lst ((xs ++ ys).map .int)) → ExtS [r] H H' → R .nx [some (.tup ks), some (.ref a), some (.ref n), z3, some (playD c), some (.ref r), some (.int l), z7, z8, z9] H') :
    wS (sSeq (sSet 7 (eCB absD (aCons (eVar 6) aNil))) (sSeq (sSet 8 (eOp ixD (eVar 1) (eOp subD (eVar 7) (eC (.int 1))))) (sSeq (sIf (tOf (eOp eqD (eOp ixD (eVar 0) (eOp subD (eVar 7) (eC (.int 1)))) (eC (.str "some")))) (sSeq (sSet 9 (eOp ngetD (eVar 2) (eTup (aCons (eVar 7) (aCons (eSl (eVar 4) oNone (oSome (eVar 8))) aNil))))) (sSeq (sExpr (eLM appendD (eVar 5) (aCons (eIf (tOf (eOp gtD (eVar 6) (eC (.int 0)))) (eVar 9) (eUn negD (eVar 9))) aNil))) sNil)) (sSeq (sIf (tOf (eOp eqD (eOp ixD (eVar 4) (eVar 8)) (eOp gtD (eVar 6) (eC (.int 0))))) (sSeq (sRet (eC .non)) sNil) sNil) sNil)) sNil)) [some (.tup ks), some (.ref a), some (.ref n), z3, some (playD c), some (.ref r), some (.int l), z7, z8, z9] H) R := by
  have hi : (absZ l - 1).toNat < ks.length := by omega
  have ei : absZ l - 1 = (((absZ l - 1).toNat : Nat) : Int) := by omega
  have sn := sm_next (sd := true) hi
  have sa := sm_all (sd := true) (ks := ks) (ks.length - ((absZ l - 1).toNat + 1)) ((absZ l - 1).toNat + 1) (by omega)
  (repeat fail "go")
  refine w_ixR ga (d := .int (sm true ks (absZ l - 1).toNat : Nat)) (by rw [ei]; exact ahead_at hi) ?_
  (repeat fail "go"); (refine WP.w_if ?_; (repeat fail "go"))
  refine w_ixT (d := sideD (kS (ks.getD (absZ l - 1).toNat .non))) (by rw [ei]; exact atI_nat (side_of hk hi)) ?_
  (repeat fail "go")
  show wE (eqD (sideD _) (sideD true) _) _
  refine w_eqSide ⟨_, rfl, ⟨fun hb => ?_, fun hb => ?_⟩⟩
  · have tl : (c.take (sm true ks (absZ l - 1).toNat)).length = sm true ks (absZ l - 1).toNat := by rw [List.length_take]; omega
    have ep : part ks c l = ((absZ l - 1).toNat + 1, c.take (sm true ks (absZ l - 1).toNat)) := by
      unfold part
      simp only [Prod.mk.injEq, and_true]
      omega
    have mp : part ks c l ∈ P := by rw [ep]; exact hP _ _ hi hb tl
    have key : nk2 (.tup [.int (absZ l), .tup ((c.map .bl).take (sm true ks (absZ l - 1).toNat))]) = some (kk (part ks c l)) := by
      have e1 : D.tup [.int (absZ l), .tup ((c.map D.bl).take (sm true ks (absZ l - 1).toNat))] = keyD (part ks c l) := by
        rw [ep]
        unfold keyD playD
        rw [List.map_take]
        congr 3
        show absZ l = (((absZ l - 1).toNat + 1 : Nat) : Int)
        omega
      rw [e1]
      exact nk2_key _
    have er : rsp ks P c [l] = some [if 0 < l then num P (part ks c l) else - num P (part ks c l)] := by
      unfold rsp
      rw [if_pos hb]
      rfl
    (repeat fail "go")
    unfold playD
    refine w_slhi ?_
    (repeat fail "go")
    refine w_nget gn key (T _ mp) ?_
    (repeat fail "go")
    refine ⟨by simp [isLst, gr], ?_⟩
    refine w_acons ?_
    have hp : r < H.length := (List.getElem?_eq_some_iff.mp gr).1
    by_cases hl : 0 < l
    · (repeat fail "go")
      refine w_bT (decide_eq_true hl) ?_
      (repeat fail "go")
      refine w_app gr (by simp; omega) ?_
      (repeat fail "go")
      refine hs _ _ _ _ _ er ?_ (ExtS.set (by simp))
      rw [List.getElem?_set_self hp, if_pos hl]
      simp
    · (repeat fail "go")
      refine w_bF (decide_eq_false hl) ?_
      (repeat fail "go")
      refine w_app gr (by simp; omega) ?_
      (repeat fail "go")
      refine hs _ _ _ _ _ er ?_ (ExtS.set (by simp))
      rw [List.getElem?_set_self hp, if_neg hl]
      simp
  · rw [hb, if_neg (by simp)] at sn
    have at1 : atI (c.map D.bl) (sm true ks (absZ l - 1).toNat : Nat) = some (.bl (c.getD (sm true ks (absZ l - 1).toNat) false)) := by
      refine atI_nat ?_
      rw [List.getElem?_map, List.getD_eq_getElem?_getD, List.getElem?_eq_getElem (by omega)]
      rfl
    (repeat fail "go"); (refine WP.w_if ?_; (repeat fail "go"))
    unfold playD
    refine w_ixT at1 ?_
    (repeat fail "go")
    refine w_eqB ?_
    have er : rsp ks P c [l] = if (c.getD (sm true ks (absZ l - 1).toNat) false == decide (0 < l)) = true then none else some [] := by
      unfold rsp
      rw [if_neg (by rw [hb]; simp)]
      rfl
    refine ⟨_, rfl, ⟨fun hq => ?_, fun hq => ?_⟩⟩
    · (repeat fail "go")
      refine hn ?_
      rw [er, if_pos hq]
    · (repeat fail "go")
      refine hs [] _ _ _ _ (by rw [er, if_neg (by rw [hq]; simp)]) (by simpa using gr) ExtS.refl
theorem rsp_len {ks : List D} {P : List Ky} {c : List Bool} : ∀ (ls xs : List Int), rsp ks P c ls = some xs → xs.length ≤ ls.length
  | [], xs, h => by cases h; simp
  | l :: r, xs, h => by
    rw [rsp_cons] at h
    split at h
    · obtain ⟨t, e1, rfl⟩ := Option.map_eq_some_iff.mp h
      have := rsp_len r t e1
      simp; omega
    · split at h
      · cases h
      · have := rsp_len r xs h
        simp; omega
theorem w_rowS42 {ks : List D} {P : List Ky} {kvs : List (D × D)} {c : List Bool} {ls : List Int} {a n : Nat} (hk : ∀ d ∈ ks, IsKind d) (h8 : ks.length ≤ 8) (hu : Up ks.length 0 ls) (hP : ∀ (k : Nat) (m : List Bool), k < ks.length → (kS (ks.getD k .non) == true) = true → m.length = sm true ks k → (k + 1, m) ∈ P) (hc : c.length = sm true ks ks.length) (T : NumsT P kvs) (ga : H[a]? = some (.lst (aheadL ks))) (gn : H[n]? = some (.dcn kvs))
    (q : ∀ H', ExtS [] H H' → Q (rspD (rsp ks P c ls)) H') : wE (m_row_spread [.tup ks, .ref a, .ref n, rowD ls, playD c] H) Q := by
  have ub := up_in ls 0 (by omega) hu
  have ul := up_len ls 0 hu
  refine w_run rfl ?_
  show wS (b_row_spread [some (.tup ks), some (.ref a), some (.ref n), some (rowD ls), some (playD c), none, none, none, none, none] H) _
  unfold b_row_spread
  (repeat fail "go")
  refine ⟨ls.map D.int, [], rfl, ?_⟩
  refine w_loop (fun d t σ H' => ∃ (dn td xs : List Int) (z6 z7 z8 z9 : Option D), t = td.map .int ∧ ls = dn ++ td ∧ rsp ks P c dn = some xs ∧ H'[H.length]? = some (.lst (xs.map .int)) ∧ ExtS [H.length] (H ++ [.lst []]) H' ∧ σ = [some (.tup ks), some (.ref a), some (.ref n), some (rowD ls), some (playD c), some (.ref H.length), z6, z7, z8, z9]) (fun _ _ _ _ _ => own0) (fun d x t σ H' ⟨dn, td, xs, z6, z7, z8, z9, i1, i2, i3, i4, i5, i6⟩ => ?_) (fun d σ H' ⟨dn, td, xs, z6, z7, z8, z9, i1, i2, i3, i4, i5, i6⟩ => ?_) _ [] _ _ ⟨[], ls, [], none, none, none, none, rfl, rfl, rfl, last, ExtS.refl, rfl⟩
  · subst i6
    obtain ⟨l, tr, rfl, rfl, rfl⟩ : ∃ l tr, td = l :: tr ∧ x = .int l ∧ t = tr.map .int := by
      cases td with
      | nil => cases i1
      | cons b tr => obtain ⟨e1, e2⟩ := List.cons.inj i1; exact ⟨b, tr, rfl, e1, e2⟩
    obtain ⟨l0, l1⟩ := ub l (by rw [i2]; simp)
    have lx := rsp_len dn xs i3
    have ld : dn.length ≤ ls.length := by rw [i2]; simp
    have la : a < H.length := (List.getElem?_eq_some_iff.mp ga).1
    have ln : n < H.length := (List.getElem?_eq_some_iff.mp gn).1
    refine w_gnm ?_
    refine w_lit42 (P := P) (kvs := kvs) hk l0 l1 hP hc T (i5.old _ _ (by simp; omega) (appL ga)) (i5.old _ _ (by simp; omega) (appL gn)) i4 (by omega) (fun hn => ?_) fun ys z7 z8 z9 H2 hy g2 x2 => ?_
    · have e : rsp ks P c ls = none := by
        rw [i2, rsp_app dn (l :: tr) xs i3, rsp_cons]
        rw [rsp_cons] at hn
        split at hn
        · rename_i hb
          obtain ⟨t, e1, _⟩ := (show ∃ t, rsp ks P c [] = some t ∧ True from ⟨[], rfl, trivial⟩)
          rw [e1] at hn
          cases hn
        · rename_i hb
          split at hn
          · rename_i hq
            rw [if_neg hb, if_pos hq]
            rfl
          · cases hn
      (repeat fail "go")
      have := q H' (ExtS.weak (ExtS.app _) i5 (Nat.le_refl _))
      rw [e] at this
      exact this
    · (repeat fail "go")
      refine ⟨dn ++ [l], tr, xs ++ ys, _, _, _, _, rfl, by rw [i2]; simp, ?_, g2, i5.trans x2, rfl⟩
      rw [rsp_app dn [l] xs i3, hy]
      rfl
  · subst i6
    cases td with
    | cons b tr => cases i1
    | nil =>
      rw [List.append_nil] at i2
      subst i2
      (repeat fail "go")
      have := q H' (ExtS.weak (ExtS.app _) i5 (Nat.le_refl _))
      rw [i3] at this
      exact this
noncomputable def kvT (xs : List Int) : D × D := (rowD xs, .bl true)
noncomputable def addX (xss : List (List Int)) (xs : List Int) : List (List Int) := if xs ∈ xss then xss else xss ++ [xs]
theorem lookT {xs : List Int} : ∀ xss : List (List Int), (dlook (xss.map kvT) xs).isSome = decide (xs ∈ xss)
  | [] => by simp [dlook]
  | y :: r => by
    unfold dlook
    rw [List.map_cons, List.find?_cons]
    by_cases h : y = xs
    · subst h
      have e : (nk (kvT y).1 == some y) = true := by show (nk (rowD y) == some y) = true; rw [nk_row]; simp
      simp [e]
    · have e : (nk (kvT y).1 == some xs) = false := by show (nk (rowD y) == some xs) = false; rw [nk_row]; simpa using h
      simp only [e]
      have := lookT (xs := xs) r
      unfold dlook at this
      rw [this]
      have h2 : ¬ xs = y := fun z => h z.symm
      simp [h2]
theorem putT (xss : List (List Int)) (xs : List Int) : dput (xss.map kvT) (rowD xs) xs (.bl true) = (addX xss xs).map kvT := by
  unfold dput addX
  rw [lookT]
  by_cases h : xs ∈ xss
  · rw [if_pos (by simpa using h), if_pos h, List.map_map]
    refine List.map_congr_left fun y _ => ?_
    show (if nk (rowD y) = some xs then (rowD y, D.bl true) else kvT y) = kvT y
    split <;> rfl
  · rw [if_neg (by simpa using h), if_neg h, List.map_append]
    rfl
theorem w_setT {xss : List (List Int)} {xs : List Int} {p : Nat} {R : HD → Prop} (g : H[p]? = some (.dic (xss.map kvT) false)) (hl : xss.length ≤ 10000) (q : R (H.set p (.dic ((addX xss xs).map kvT) false))) : wH (dsetD (.ref p) (rowD xs) (.bl true) H) R := by
  have sz : sizeLine = 16777216 := PySem.sizeLine_eq
  refine ⟨_, ?_, q⟩
  unfold dsetD
  simp only [g, nk_row, Option.bind_some]
  rw [if_pos (by simp; omega), putT]
theorem addX_mem {xss : List (List Int)} {xs y : List Int} : y ∈ addX xss xs ↔ y ∈ xss ∨ y = xs := by
  unfold addX
  split
  · rename_i h
    constructor
    · exact .inl
    · rintro (z | z)
      · exact z
      · rw [z]; exact h
  · simp
theorem addX_nd {xss : List (List Int)} {xs : List Int} (h : xss.Nodup) : (addX xss xs).Nodup := by
  unfold addX
  split
  · exact h
  · rename_i hn
    rw [List.nodup_append]
    exact ⟨h, by simp, fun a ha b hb z => hn (by simp at hb; rw [← hb, ← z]; exact ha)⟩
theorem addX_len (xss : List (List Int)) (xs : List Int) : (addX xss xs).length ≤ xss.length + 1 := by unfold addX; split <;> simp
theorem rowsI_rows : ∀ xss : List (List Int), rowsI (xss.map rowD) = some xss
  | [] => rfl
  | xs :: r => by
    have e : rowI (rowD xs) = some xs := by
      show intsD (xs.map .int) = some xs
      induction xs with
      | nil => rfl
      | cons x t ih => rw [List.map_cons, intsD, ih]; rfl
    rw [List.map_cons, rowsI, e, Option.bind_some, rowsI_rows r]
    rfl
theorem w_sortT {xss : List (List Int)} {p : Nat} {fz : Bool} (g : H[p]? = some (.dic (xss.map kvT) fz)) (hl : xss.length < 64) (q : ∀ out, out.Perm (xss.map rowD) → Q (.ref H.length) (H ++ [.lst out])) : wE (sortTD [.ref p] H) Q := by
  have e : (xss.map kvT).map (·.1) = xss.map rowD := by rw [List.map_map]; rfl
  refine ⟨_, _, ?_, q _ (ksorted_perm (lexC xss) .non _)⟩
  unfold sortTD
  simp only [g, e, rowsI_rows, Option.bind_some]
  rw [if_pos (by simpa using hl)]
noncomputable def Met (ks : List D) (P : List Ky) (rss : List (List Int)) (cs : List (List Bool)) (xs : List Int) : Prop := ∃ c ∈ cs, ∃ ls ∈ rss, rsp ks P c ls = some xs
theorem w_inner42 {ks : List D} {rss : List (List Int)} {P : List Ky} {kvs : List (D × D)} {c : List Bool} {dn : List (List Bool)} {xss : List (List Int)} {a n p : Nat} {z2 z7 z8 : Option D} {R : FD → SD → HD → Prop} (cl : Cl ks rss) (hP : ∀ (k : Nat) (m : List Bool), k < ks.length → (kS (ks.getD k .non) == true) = true → m.length = sm true ks k → (k + 1, m) ∈ P) (hc : c.length = sm true ks ks.length) (T : NumsT P kvs) (ga : H[a]? = some (.lst (aheadL ks))) (gn : H[n]? = some (.dcn kvs)) (gp : H[p]? = some (.dic (xss.map kvT) false)) (hnd : xss.Nodup) (hx : xss.length ≤ dn.length * rss.length) (hd : dn.length ≤ 256) (hr : rss.length ≤ 8) (hm : ∀ xs, xs ∈ xss ↔ Met ks P rss dn xs)
    (h : ∀ (yss : List (List Int)) z7 z8 H', H'[p]? = some (.dic (yss.map kvT) false) → yss.Nodup → yss.length ≤ (dn.length + 1) * rss.length → (∀ xs, xs ∈ yss ↔ Met ks P rss (dn ++ [c]) xs) → Fm [p] H H' → R .nx [some (claimD ks rss), some (.tup ks), z2, some (.ref n), some (.ref a), some (.ref p), some (playD c), z7, z8] H') :
    wS (forL [] (gNm 7) (sSeq (sSet 8 (eCall 5 m_row_spread (aCons (eVar 1) (aCons (eVar 4) (aCons (eVar 3) (aCons (eVar 7) (aCons (eVar 6) aNil))))))) (sSeq (sIf (tOf (eOp isnD (eVar 8) (eC .non))) (sSeq (sAsg (eC (.bl true)) (gSb (eVar 5) (eVar 8) dsetD)) sNil) sNil) sNil)) (rss.map rowD) [some (claimD ks rss), some (.tup ks), z2, some (.ref n), some (.ref a), some (.ref p), some (playD c), z7, z8] H) R := by
  have mul : dn.length * rss.length ≤ 256 * 8 := Nat.mul_le_mul hd hr
  have np : n ≠ p := fun z => by subst z; rw [gn] at gp; cases gp
  have ap : a ≠ p := fun z => by subst z; rw [ga] at gp; cases gp
  refine w_loop (fun d t σ H' => ∃ (dr tr : List (List Int)) (yss : List (List Int)) (z7 z8 : Option D), t = tr.map rowD ∧ rss = dr ++ tr ∧ H'[p]? = some (.dic (yss.map kvT) false) ∧ yss.Nodup ∧ yss.length ≤ dn.length * rss.length + dr.length ∧ (∀ xs, xs ∈ yss ↔ Met ks P rss dn xs ∨ ∃ ls ∈ dr, rsp ks P c ls = some xs) ∧ Fm [p] H H' ∧ σ = [some (claimD ks rss), some (.tup ks), z2, some (.ref n), some (.ref a), some (.ref p), some (playD c), z7, z8]) (fun _ _ _ _ _ => own0) (fun d x t σ H' ⟨dr, tr, yss, z7, z8, i1, i2, i3, i4, i5, i6, i7, i8⟩ => ?_) (fun d σ H' ⟨dr, tr, yss, z7, z8, i1, i2, i3, i4, i5, i6, i7, i8⟩ => ?_) _ [] _ _ ⟨[], rss, xss, z7, z8, rfl, rfl, gp, hnd, by simpa using hx, fun xs => by rw [hm]; simp, Fm.refl, rfl⟩
  · subst i8
    obtain ⟨ls, t', rfl, rfl, rfl⟩ : ∃ ls t', tr = ls :: t' ∧ x = rowD ls ∧ t = t'.map rowD := by
      cases tr with
      | nil => cases i1
      | cons b t' => obtain ⟨e1, e2⟩ := List.cons.inj i1; exact ⟨b, t', rfl, e1, e2⟩
    have dl : dr.length ≤ 8 := by have := congrArg List.length i2; simp at this; omega
    (repeat fail "go")
    refine w_rowS42 (P := P) (kvs := kvs) cl.hk cl.h8 (cl.hu ls (by rw [i2]; simp)) hP hc T (i7.lst (by simpa using ap) ga) (i7.dcn (by simpa using np) gn) fun H2 x2 => ?_
    have g2 : H2[p]? = some (.dic (yss.map kvT) false) := x2.old _ _ (by simp) i3
    have f2 : Fm [p] H H2 := i7.trans ⟨fun m o _ h => .inl (x2.old m o (by simp) h), x2.len⟩
    (repeat fail "go")
    refine w_cut (fun σ H3 => ∃ (zss : List (List Int)) (z8 : Option D), H3[p]? = some (.dic (zss.map kvT) false) ∧ zss.Nodup ∧ zss.length ≤ yss.length + 1 ∧ (∀ xs, xs ∈ zss ↔ xs ∈ yss ∨ rsp ks P c ls = some xs) ∧ Fm [p] H H3 ∧ σ = [some (claimD ks rss), some (.tup ks), z2, some (.ref n), some (.ref a), some (.ref p), some (playD c), some (rowD ls), z8]) ?_ ?_
    · cases hr' : rsp ks P c ls with
      | none =>
        (refine WP.w_if ?_; (repeat fail "go"))
        exact ⟨rfl, yss, _, g2, i4, by omega, fun xs => by simp, f2, rfl⟩
      | some xs =>
        (refine WP.w_if ?_; (repeat fail "go"))
        refine w_setT g2 (by omega) ?_
        (repeat fail "go")
        have hp : p < H2.length := (List.getElem?_eq_some_iff.mp g2).1
        refine ⟨rfl, addX yss xs, _, by rw [List.getElem?_set_self hp], addX_nd i4, addX_len _ _, fun y => ?_, f2.trans (Fm.set (by simp)), rfl⟩
        rw [addX_mem]
        constructor
        · rintro (z | z)
          · exact .inl z
          · exact .inr (by rw [z])
        · rintro (z | z)
          · exact .inl z
          · cases z; exact .inr rfl
    rintro _ H3 ⟨zss, z8', g3, n3, l3, m3, x3, rfl⟩
    (repeat fail "go")
    refine ⟨dr ++ [ls], t', zss, _, _, rfl, by rw [i2]; simp, g3, n3, by simp; omega, fun xs => ?_, x3, rfl⟩
    rw [m3, i6]
    constructor
    · rintro ((z | ⟨l', h1, h2⟩) | z)
      · exact .inl z
      · exact .inr ⟨l', by simp [h1], h2⟩
      · exact .inr ⟨ls, by simp, z⟩
    · rintro (z | ⟨l', h1, h2⟩)
      · exact .inl (.inl z)
      · rcases List.mem_append.mp h1 with y | y
        · exact .inl (.inr ⟨l', y, h2⟩)
        · simp at y; subst y; exact .inr h2
  · subst i8
    cases tr with
    | cons b t' => cases i1
    | nil =>
      rw [List.append_nil] at i2
      subst i2
      refine h yss z7 z8 H' i3 i4 (by rw [Nat.add_mul]; omega) (fun xs => ?_) i7
      rw [i6]
      unfold Met
      constructor
      · rintro (⟨c', hc', r⟩ | ⟨ls, hl, r⟩)
        · exact ⟨c', by simp [hc'], r⟩
        · exact ⟨c, by simp, ls, hl, r⟩
      · rintro ⟨c', hc', ls, hl, r⟩
        rcases List.mem_append.mp hc' with z | z
        · exact .inl ⟨c', z, ls, hl, r⟩
        · simp at z; subst z; exact .inr ⟨ls, hl, r⟩
theorem rsp_all {ks : List D} {P : List Ky} {c : List Bool} (h : ∀ d ∈ ks, kS d = false) : ∀ (ls xs : List Int), (∀ l ∈ ls, 0 < absZ l ∧ absZ l ≤ ks.length) → rsp ks P c ls = some xs → xs = []
  | [], xs, _, e => by cases e; rfl
  | l :: r, xs, hl, e => by
    obtain ⟨h0, h1⟩ := hl l (by simp)
    have hi : (absZ l - 1).toNat < ks.length := by omega
    have : kS (ks.getD (absZ l - 1).toNat .non) = false := by
      rw [List.getD_eq_getElem?_getD, List.getElem?_eq_getElem hi]
      exact h _ (List.getElem_mem _)
    rw [rsp_cons, this, if_neg (by simp)] at e
    split at e
    · cases e
    · exact rsp_all h r xs (fun x hx => hl x (by simp [hx])) e
theorem nd_one {xss : List (List Int)} (nd : xss.Nodup) (h : ∀ xs ∈ xss, xs = []) : xss.length ≤ 1 := by
  match xss, nd, h with
  | [], _, _ => simp
  | [_], _, _ => simp
  | a :: b :: r, nd, h =>
    have e1 := h a (by simp)
    have e2 := h b (by simp)
    rw [List.nodup_cons] at nd
    exact absurd (by rw [e1, e2]; simp) nd.1
theorem w_spread42 {ks : List D} {rss : List (List Int)} (cl : Cl ks rss) (hP : (PTd true ks ks.length 0).length ≤ 8) (hr : rss.length ≤ 8) (hS : sm true ks ks.length ≤ 2 ∨ ∀ d ∈ ks, kS d = false)
    (q : ∀ (out : List D) (xss : List (List Int)) H', out.Perm (xss.map rowD) → (∀ xs, xs ∈ xss ↔ Met ks (PTd true ks ks.length 0) rss (lev (sm true ks ks.length)) xs) → xss.length < 64 → Fm [] H H' → Q (.tup [.tup ((PTd true ks ks.length 0).map keyD), .tup out]) H') : wE (m_spread [claimD ks rss] H) Q := by
  have h8 := cl.h8
  have s8 := sm8 h8 ks.length
  have hin : ∀ (k : Nat) (m : List Bool), k < ks.length → (kS (ks.getD k .non) == true) = true → m.length = sm true ks k → (k + 1, m) ∈ PTd true ks ks.length 0 := fun k m h1 h2 h3 => PTd_has ks.length 0 (by omega) k m (by omega) h1 h2 h3
  refine w_run rfl ?_
  show wS (b_spread [some (claimD ks rss), none, none, none, none, none, none, none, none] H) _
  unfold b_spread
  (repeat fail "go")
  refine w_parts42 cl.hk h8 hP fun H1 x1 => ?_
  (repeat fail "go")
  refine w_lc2' (w_enum1 ?_)
  (repeat fail "go")
  refine ⟨_, rfl, ?_⟩
  refine w_comp42 own0 _ 1 ?_
  have l := congrArg List.length (en_keys (PTd true ks ks.length 0) 1)
  rw [List.length_map] at l
  refine ⟨by simp; omega, ?_⟩
  (repeat fail "go")
  refine w_dictN last (by omega) ?_
  (repeat fail "go")
  have T := nums_en (PTd_nodup (sd := true) (ks := ks) ks.length 0 (by omega))
  generalize ekv : nmake ((en 1 (PTd true ks ks.length 0)).map fun x => (keyD x.1, kk x.1, x.2)) = kvs at T
  have X2 : ∀ A : DO, Fm [] H (H1 ++ [A] ++ [DO.dcn kvs]) := fun A => (x1.trans (Fm.app _)).trans (Fm.app _)
  refine w_ahead42 cl.hk h8 fun a H2 g2 l2 x2 => ?_
  have gn : H2[(H1 ++ [DO.lst ((en 1 (PTd true ks ks.length 0)).map fun x => D.tup [keyD x.1, x.2])]).length]? = some (.dcn kvs) := x2.dcn (by simp) last
  have Y2 : Fm [] H H2 := (X2 _).trans x2
  generalize (H1 ++ [DO.lst ((en 1 (PTd true ks ks.length 0)).map fun x => D.tup [keyD x.1, x.2])]).length = n at gn
  (repeat fail "go")
  refine ⟨rfl, ?_⟩
  (repeat fail "go")
  refine w_cntAll2 cl.hk ?_
  (repeat fail "go")
  refine w_choices42 s8 fun rc H3 g3 l3 x3 => ?_
  have gd : H3[H2.length]? = some (.dic (([] : List (List Int)).map kvT) false) := x3.old _ _ (by simp) last
  have ga3 : H3[a]? = some (.lst (aheadL ks)) := x3.old _ _ (by simp) (appL g2)
  have gn3 : H3[n]? = some (.dcn kvs) := x3.old _ _ (by simp) (appL gn)
  have dp : ∀ {m : Nat} {o : DO}, H3[m]? = some o → (∀ kv f, o ≠ .dic kv f) → m ≠ H2.length := fun h1 h2 z => by subst z; rw [gd] at h1; cases h1; exact h2 _ _ rfl
  have nc : rc ≠ H2.length := dp g3 (by simp)
  have na : a ≠ H2.length := dp ga3 (by simp)
  have nn : n ≠ H2.length := dp gn3 (by simp)
  have l256 := lev_256 s8
  have Y3 : Fm [] H H3 := (Y2.trans (Fm.app _)).trans ⟨fun m o hm h => .inl (x3.old m o hm h), x3.len⟩
  (repeat fail "go")
  refine w_loop (fun d t σ H' => ∃ (dn td : List (List Bool)) (xss : List (List Int)) (z6 z7 z8 : Option D), t = td.map playD ∧ lev (sm true ks ks.length) = dn ++ td ∧ H'[H2.length]? = some (.dic (xss.map kvT) false) ∧ xss.Nodup ∧ xss.length ≤ dn.length * rss.length ∧ (∀ xs, xs ∈ xss ↔ Met ks (PTd true ks ks.length 0) rss dn xs) ∧ Fm [H2.length] H3 H' ∧ σ = [some (claimD ks rss), some (.tup ks), some (.tup ((PTd true ks ks.length 0).map keyD)), some (.ref n), some (.ref a), some (.ref H2.length), z6, z7, z8]) (fun d t σ H' ⟨dn, td, xss, z6, z7, z8, i1, i2, i3, i4, i5, i6, i7, i8⟩ => own1 (i7.lst (by simpa using nc) g3)) (fun d x t σ H' ⟨dn, td, xss, z6, z7, z8, i1, i2, i3, i4, i5, i6, i7, i8⟩ => ?_) (fun d σ H' ⟨dn, td, xss, z6, z7, z8, i1, i2, i3, i4, i5, i6, i7, i8⟩ => ?_) _ [] _ _ ⟨[], _, [], none, none, none, rfl, rfl, gd, List.nodup_nil, by simp, fun xs => by simp [Met], Fm.refl, rfl⟩
  · subst i8
    obtain ⟨c, tr, rfl, rfl, rfl⟩ : ∃ c tr, td = c :: tr ∧ x = playD c ∧ t = tr.map playD := by
      cases td with
      | nil => cases i1
      | cons b tr => obtain ⟨e1, e2⟩ := List.cons.inj i1; exact ⟨b, tr, rfl, e1, e2⟩
    have lc : c.length = sm true ks ks.length := lev_len _ c (by rw [i2]; simp)
    have dl : dn.length ≤ 256 := by have := congrArg List.length i2; simp at this; omega
    (repeat fail "go")
    refine w_inner42 cl hin lc T (i7.lst (by simpa using na) ga3) (i7.dcn (by simpa using nn) gn3) i3 i4 i5 dl hr i6 fun yss z7 z8 H4 g4 n4 l4 m4 x4 => ?_
    (repeat fail "go")
    exact ⟨dn ++ [c], tr, yss, _, _, _, rfl, by rw [i2]; simp, g4, n4, by simpa using l4, m4, i7.trans x4, rfl⟩
  · subst i8
    cases td with
    | cons b tr => cases i1
    | nil =>
      rw [List.append_nil] at i2
      have few : xss.length < 64 := by
        rcases hS with h | h
        · have e1 : dn.length ≤ 4 := by
            have z := lev_size (sm true ks ks.length)
            rw [i2] at z
            have : 2 ^ sm true ks ks.length ≤ 2 ^ 2 := Nat.pow_le_pow_right (by omega) h
            omega
          have := Nat.mul_le_mul e1 hr
          omega
        · have := nd_one i4 fun xs hx => by
            obtain ⟨c, _, ls, hl, e⟩ := (i6 xs).mp hx
            exact rsp_all h ls xs (up_in ls 0 (by omega) (cl.hu ls hl)) e
          omega
      (repeat fail "go")
      refine w_sortT i3 few fun out ho => ?_
      (repeat fail "go")
      have Y5 : Fm [] H (H' ++ [DO.lst out]) := (Y3.new i7 fun m hm _ => by simp at hm; have := Y2.len; omega).trans (Fm.app _)
      exact q out xss _ ho (by rw [i2]; exact i6) few Y5
theorem w_open {bs : List Bool} {l : Int} (q : Q (.bl (opn bs l)) H) : wE (m_is_open [.int l, playD bs] H) Q := by
  refine w_run rfl ?_
  show wS (b_is_open [some (.int l), some (playD bs)] H) _
  unfold b_is_open
  (repeat fail "go")
  exact q
theorem w_right {bs : List Bool} {l : Int} (h0 : 0 < absZ l) (q : Q (.bl (rig bs l)) H) : wE (m_is_right [.int l, playD bs] H) Q := by
  refine w_run rfl ?_
  show wS (b_is_right [some (.int l), some (playD bs)] H) _
  unfold b_is_right
  (repeat fail "go")
  refine w_open ?_
  (repeat fail "go")
  cases ho : opn bs l with
  | true =>
    have e : rig bs l = false := by
      unfold rig
      have := of_decide_eq_true ho
      rw [List.getElem?_eq_none (by omega)]
    rw [e] at q
    (repeat fail "go")
    exact q
  | false =>
    have hh := of_decide_eq_false ho
    have lt : (absZ l - 1).toNat < bs.length := by omega
    (repeat fail "go")
    unfold playD
    refine w_ixT (atI_toNat (by omega) (d := .bl (bs[(absZ l - 1).toNat])) (by rw [List.getElem?_map, List.getElem?_eq_getElem lt]; rfl)) ?_
    (repeat fail "go")
    refine w_eqB ?_
    have e : rig bs l = (bs[(absZ l - 1).toNat] == decide (0 < l)) := by
      unfold rig
      rw [List.getElem?_eq_getElem lt]
    rw [e] at q
    exact q
theorem w_kept {bs : List Bool} {ls : List Int} (h0 : ∀ l ∈ ls, 0 < absZ l) (q : Q (.bl (kept bs ls)) H) : wE (m_is_kept [rowD ls, playD bs] H) Q := by
  refine w_run rfl ?_
  show wS (b_is_kept [some (rowD ls), some (playD bs), none] H) _
  unfold b_is_kept rowD
  (repeat fail "go")
  refine w_loop (fun d t σ H' => d ++ t = ls.map .int ∧ (∀ l, D.int l ∈ d → rig bs l = false) ∧ H' = H ∧ ∃ b, σ = [some (.tup (ls.map .int)), some (playD bs), b]) (fun _ _ _ _ j => own0) (fun d x t σ H1 ⟨i1, i2, i3, b, i4⟩ => ?_) (fun d σ H1 ⟨i1, i2, i3, b, i4⟩ => ?_) _ [] _ _ ⟨rfl, by simp, rfl, _, rfl⟩
  · subst i4 i3
    have hm : x ∈ ls.map D.int := by rw [← i1]; simp
    obtain ⟨l, hl, rfl⟩ := List.mem_map.mp hm
    (repeat fail "go"); (refine WP.w_if ?_; (repeat fail "go"))
    refine w_right (h0 l hl) ?_
    refine ⟨_, rfl, fun h => ?_, fun h => ?_⟩
    · (repeat fail "go")
      have e : kept bs ls = true := List.any_eq_true.mpr ⟨l, hl, h⟩
      rw [e] at q; exact q
    · (repeat fail "go")
      refine ⟨by rw [← i1]; simp, fun m hm => ?_, rfl, _, rfl⟩
      rcases List.mem_append.mp hm with hm | hm
      · exact i2 m hm
      · simp at hm; rw [hm]; exact h
  · subst i4 i3
    (repeat fail "go")
    have e : kept bs ls = false := List.any_eq_false.mpr fun l hl => by
      rw [List.append_nil] at i1
      rw [i2 l (by rw [i1]; exact List.mem_map.mpr ⟨l, hl, rfl⟩)]; simp
    rw [e] at q; exact q
noncomputable def intsOf : D → List Int
  | .tup ds => ds.filterMap fun
    | .int i => some i
    | _ => none
  | _ => []
theorem ints_row (ls : List Int) : intsOf (rowD ls) = ls := by
  show (ls.map D.int).filterMap _ = ls
  induction ls with
  | nil => rfl
  | cons l r ih => rw [List.map_cons, List.filterMap_cons]; simp only []; rw [ih]
theorem w_truth {b : Bool} (q : Q (.bl true) H) : wE (m_is_truth [.bl b] H) Q := by
  refine w_run rfl ?_
  show wS (b_is_truth [some (.bl b)] H) _
  unfold b_is_truth
  cases b <;> ((repeat fail "go"); exact q)
theorem w_allB42 {p : Nat} {bs : List Bool} (g : H[p]? = some (.lst (bs.map .bl))) (q : Q (.bl (bs.all id)) H) : wE (allD [.ref p] H) Q := by
  refine ⟨_, _, ?_, q⟩
  have e : ∀ bs : List Bool, blsD (bs.map .bl) = some bs := fun bs => by
    induction bs with
    | nil => rfl
    | cons b r ih => simp [blsD, ih]
  simp [allD, g, e]
theorem w_keeps42 {ks : List D} {rss : List (List Int)} {one : List Bool} (cl : Cl ks rss) (hP : (PTd true ks ks.length 0).length ≤ 8) (hr : rss.length ≤ 8) (hS : sm true ks ks.length ≤ 2 ∨ ∀ d ∈ ks, kS d = false) (hl : one.length = (PTd true ks ks.length 0).length)
    (q : ∀ H', Fm [] H H' → Q (.bl (AW true ks rss (asg (PTd true ks ks.length 0) one fun _ => false) ks.length [] [])) H') : wE (m_keeps [claimD ks rss, playD one] H) Q := by
  refine w_run rfl ?_
  show wS (b_keeps [some (claimD ks rss), some (playD one)] H) _
  unfold b_keeps
  unfold playD
  (repeat fail "go"); (refine WP.w_if ?_; (repeat fail "go"))
  refine w_parts42 cl.hk cl.h8 hP fun H1 x1 => ?_
  (repeat fail "go")
  refine w_bF (by simp [hl]) ?_
  (repeat fail "go"); (refine WP.w_if ?_; (repeat fail "go"))
  refine w_cmap (fun _ => .bl true) (fun H2 => H2 = H1) (fun _ _ => own0) _ (fun y hy H2 j => ?_) _ rfl fun H2 j => ?_
  · obtain ⟨b, _, rfl⟩ := List.mem_map.mp hy
    subst j
    (repeat fail "go")
    exact w_truth ⟨rfl, rfl⟩
  subst j
  have e1 : (one.map D.bl).map (fun _ => D.bl true) = (one.map fun _ => true).map D.bl := by rw [List.map_map, List.map_map]; rfl
  rw [e1]
  refine ⟨by simp; omega, ?_⟩
  (repeat fail "go")
  refine w_allB42 last ?_
  (repeat fail "go")
  refine w_bF (by simp) ?_
  (repeat fail "go")
  refine w_spread42 cl hP hr hS fun out xss H3 ho hm hl3 x3 => ?_
  (repeat fail "go")
  have kp : ∀ xs ∈ xss, ∀ x ∈ xs, 0 < absZ x := fun xs hx => by
    obtain ⟨c, hc, ls, hls, e⟩ := (hm xs).mp hx
    have := rsp_kept (ks := ks) (f := asg (PTd true ks ks.length 0) one fun _ => false) (c := c) (P := PTd true ks ks.length 0) (one := one) (g := fun _ => false) (PTd_nodup _ _ (by omega)) hl rfl (fun k m h1 h2 h3 => PTd_has ks.length 0 (by omega) k m (by omega) h1 h2 h3) (lev_len _ c hc) ls (up_in ls 0 (by omega) (cl.hu ls hls))
    rw [e] at this
    exact this.2.1
  refine w_cmap (fun d => .bl (kept one (intsOf d))) (fun H4 => H4 = H3) (fun _ _ => own0) _ (fun y hy H4 j => ?_) _ rfl fun H4 j => ?_
  · subst j
    obtain ⟨xs, hx, rfl⟩ := List.mem_map.mp (ho.mem_iff.mp hy)
    (repeat fail "go")
    refine w_kept (bs := one) (kp xs hx) ?_
    exact ⟨by rw [ints_row], rfl⟩
  subst j
  have lo : out.length = xss.length := by rw [ho.length_eq, List.length_map]
  refine ⟨by simp; omega, ?_⟩
  (repeat fail "go")
  have e2 : out.map (fun d => D.bl (kept one (intsOf d))) = (out.map fun d => kept one (intsOf d)).map D.bl := by rw [List.map_map]; rfl
  refine w_allB42 (bs := out.map fun d => kept one (intsOf d)) (by rw [last, e2]) ?_
  (repeat fail "go")
  have eA : (out.map fun d => kept one (intsOf d)).all id = AW true ks rss (asg (PTd true ks ks.length 0) one fun _ => false) ks.length [] [] := by
    rw [AW_top, Bool.eq_iff_iff, List.all_eq_true, List.all_eq_true]
    have key : ∀ c ∈ lev (sm true ks ks.length), ∀ ls ∈ rss, _ := fun c hc ls hls => rsp_kept (ks := ks) (f := asg (PTd true ks ks.length 0) one fun _ => false) (c := c) (P := PTd true ks ks.length 0) (one := one) (g := fun _ => false) (PTd_nodup _ _ (by omega)) hl rfl (fun k m h1 h2 h3 => PTd_has ks.length 0 (by omega) k m (by omega) h1 h2 h3) (lev_len _ c hc) ls (up_in ls 0 (by omega) (cl.hu ls hls))
    constructor
    · intro h c hc
      rw [beq_iff_eq, List.all_eq_true]
      intro ls hls
      have kk := key c hc ls hls
      cases er : rsp ks (PTd true ks ks.length 0) c ls with
      | none => rw [er] at kk; exact kk
      | some xs =>
        rw [er] at kk
        rw [← kk.1]
        have hx := (hm xs).mpr ⟨c, hc, ls, hls, er⟩
        have hy : rowD xs ∈ out := ho.mem_iff.mpr (List.mem_map.mpr ⟨xs, hx, rfl⟩)
        have := h _ (List.mem_map.mpr ⟨rowD xs, hy, rfl⟩)
        rw [ints_row] at this
        exact this
    · intro h b hb
      obtain ⟨d, hd, rfl⟩ := List.mem_map.mp hb
      obtain ⟨xs, hx, rfl⟩ := List.mem_map.mp (ho.mem_iff.mp hd)
      obtain ⟨c, hc, ls, hls, er⟩ := (hm xs).mp hx
      have kk := key c hc ls hls
      rw [er] at kk
      rw [ints_row]
      show kept one xs = true
      rw [kk.1]
      have := h c hc
      rw [beq_iff_eq, List.all_eq_true] at this
      exact this ls hls
  rw [eA]
  exact q _ (((x1.trans (Fm.app _)).trans x3).trans (Fm.app _))
section
variable {H : HD} {Q : D → HD → Prop}
theorem w_winner42 {ks : List D} {rss : List (List Int)} (c : Cl ks rss) (q : ∀ H', Fm [] H H' → Q (FW ks rss []) H') : wE (m_winner [claimD ks rss, .tup []] H) Q := by
  obtain ⟨H1, e1, x1⟩ := winner_ok (bs := []) (j := ks.length) c.hk c.hu c.hl c.h8 (by simp) H
  exact ⟨_, _, e1, q H1 x1.fm⟩
noncomputable def unb : D → Bool
  | .bl b => b
  | _ => false
theorem unb_map (bs : List Bool) : (bs.map D.bl).map unb = bs := by
  induction bs with
  | nil => rfl
  | cons b r ih => rw [List.map_cons, List.map_cons, ih]; rfl
noncomputable def goodS (ks : List D) (rss : List (List Int)) : D → Bool
  | .tup xs => AW true ks rss (asg (PTd true ks ks.length 0) (xs.map unb) fun _ => false) ks.length [] []
  | _ => false
theorem good_count (ks : List D) (rss : List (List Int)) (h8 : ks.length ≤ 8) : (((lev (PTd true ks ks.length 0).length).map playD).filter (goodS ks rss)).length = PC ks rss true ks.length [] := by
  rw [List.filter_map, List.length_map, ← cnt_all h8 fun _ => false, ← cnt_lev, List.countP_eq_length_filter]
  congr 1
  refine List.filter_congr fun bs _ => ?_
  show AW true ks rss (asg _ ((bs.map D.bl).map unb) _) _ _ _ = _
  rw [unb_map]
theorem w_many42 {ks : List D} {rss : List (List Int)} {σ : SD} (c : Cl ks rss) (hP : (PTd true ks ks.length 0).length ≤ 8) (hr : rss.length ≤ 8) (hS : sm true ks ks.length ≤ 2 ∨ ∀ d ∈ ks, kS d = false) (h1 : (σ[1]?).join = some (claimD ks rss)) (h2 : (σ[2]?).join = some (.tup ((PTd true ks ks.length 0).map keyD))) (q : ∀ H', Fm [] H H' → Q (.int (PC ks rss true ks.length [] : Nat)) H') :
    wE (eCB lenD (aCons (eLC (iSq (eCall 1 m_law_choices (aCons (eCB lenD (aCons (eVar 2) aNil)) aNil))) [1] (tOf (eOp isD (eCall 2 m_keeps (aCons (eVar 1) (aCons (eVar 0) aNil))) (eC (.bl true)))) (eVar 0)) aNil) σ H) Q := by
  refine w_cb (w_acons (w_lc (w_isq ?_)))
  refine w_call (w_acons (w_cb (w_acons (w_var h2 (w_anil ?_)))))
  refine w_lenT (w_anil (w_n rfl ?_))
  rw [List.length_map]
  refine w_choices44 hP fun r2 H2 g2 x2 => ?_
  have f2 : Fm [] H H2 := ⟨fun m o hm h => .inl (x2.old m o hm h), x2.len⟩
  refine w_itR g2 ?_
  have cp : capD [1] σ = [some (claimD ks rss)] := by
    show [(σ[1]?).join] = _
    rw [h1]
  rw [cp]
  refine w_cfilter (goodS ks rss) (fun H' => Fm [] H2 H') (fun H' j => own1 (j.lst (by simp) g2)) _ (fun x hx H3 j => ?_) _ Fm.refl fun H3 j => ?_
  · obtain ⟨bs, hb, rfl⟩ := List.mem_map.mp hx
    have lb := lev_len _ bs hb
    (repeat fail "go")
    refine w_keeps42 c hP hr hS lb fun H4 x4 => ?_
    (repeat fail "go")
    have e : AW true ks rss (asg (PTd true ks ks.length 0) bs fun _ => false) ks.length [] [] = goodS ks rss (playD bs) := by
      show _ = AW true ks rss (asg _ ((bs.map D.bl).map unb) _) _ _ _
      rw [unb_map]
    rw [e]
    cases hg : goodS ks rss (playD bs)
    · exact ⟨rfl, j.trans x4⟩
    · exact ⟨rfl, j.trans x4⟩
  · have gc := good_count ks rss c.h8
    have lf := List.length_filter_le (goodS ks rss) ((lev (PTd true ks ks.length 0).length).map playD)
    have l256 := lev_256 hP
    rw [List.length_map] at lf
    refine ⟨by omega, ?_⟩
    (repeat fail "go")
    rw [gc]
    exact q _ ((f2.trans j).trans (Fm.app _))
end
theorem wb_parts42 : ∀ w ∈ WB, (PTd true (w.map sideD) (w.map sideD).length 0).length ≤ 7 := by decide +kernel
theorem wb_few : ∀ w ∈ WB, sm true (w.map sideD) (w.map sideD).length ≤ 2 ∨ ∀ d ∈ w.map sideD, kS d = false := by
  have h : ∀ w ∈ WB, sm true (w.map sideD) (w.map sideD).length ≤ 2 ∨ (w.map sideD).all (fun d => !kS d) = true := by decide +kernel
  intro w hw
  rcases h w hw with z | z
  · exact .inl z
  · exact .inr fun d hd => by have := List.all_eq_true.mp z d hd; simpa using this
theorem side_kind (w : List Bool) : ∀ d ∈ w.map sideD, IsKind d := fun d hd => by
  obtain ⟨b, _, rfl⟩ := List.mem_map.mp hd
  cases b
  · exact .inl rfl
  · exact .inr rfl
theorem pos_int (a : Nat) : decide ((0 : Int) < (a : Int)) = decide (0 < a) := by
  by_cases h : 0 < a
  · rw [decide_eq_true h, decide_eq_true (by omega)]
  · rw [decide_eq_false h, decide_eq_false (by omega)]
theorem pure_law : ∀ ns : List Int, ns.length ≤ 63 → ∃ Hd', m_law [.fl (ns.map .int)] [] = some (.bl true, Hd') := by
  intro ns hn
  suffices h : wE (m_law [.fl (ns.map .int)] []) fun d _ => d = .bl true by
    obtain ⟨d, H, e, rfl⟩ := h; exact ⟨H, e⟩
  refine w_run rfl ?_
  show wS (b_law [some (.fl (ns.map .int)), none, none, none, none] []) _
  unfold b_law
  (repeat fail "go")
  refine w_small44 fun w rss H1 hw hu hl x1 => ?_
  have h8 := wb_len w hw
  have lk : (w.map sideD).length = w.length := by simp
  have pl := wb_parts42 w hw
  have fw := wb_few w hw
  have c : Cl (w.map sideD) rss := ⟨side_kind w, fun ls h => by rw [lk]; exact hu ls h, by omega, by omega⟩
  generalize w.map sideD = ks at *
  (repeat fail "go")
  refine w_spread42 c (by omega) hl fw fun out xss H2 ho hm hl2 x2 => ?_
  (repeat fail "go"); (refine WP.w_if ?_; (repeat fail "go"))
  refine w_bF (decide_eq_false (by simp; omega)) ?_
  refine w_snil (w_kn (w_seq (w_set ?_)))
  refine w_many42 c (by omega) hl fw rfl rfl fun H4 x4 => ?_
  (repeat fail "go")
  refine w_plans (side := true) c fun H5 x5 => ?_
  (repeat fail "go"); (refine WP.w_if ?_; (repeat fail "go"))
  refine w_bF (by simp) ?_
  (repeat fail "go")
  refine w_winner42 c fun H6 x6 => ?_
  (repeat fail "go")
  show wE (eqD (FW ks rss []) (sideD true) _) _
  refine w_eqW ?_
  rw [pos_int]
  refine ⟨_, _, eq_bl _ _ _, ?_⟩
  have pw := PC_win (ks := ks) (rss := rss) (side := true) ks.length []
  have e : decide (0 < PC ks rss true ks.length []) = (W ks rss (ks.length - ([] : List Bool).length) [] == true) := by
    rw [List.length_nil, Nat.sub_zero]
    rw [Bool.eq_iff_iff, decide_eq_true_iff, pw]
    simp
  (repeat fail "go")
  rw [e]
  simp
end K08
set_option maxHeartbeats 8000000
namespace K08
open PySem PySem.Spec PyProof.Rows L2 DL
noncomputable def top (i : Nat) : Stmt := PySem.Challenge.pw_allsome_k42_whole_all_full_plans_tried.main.body.getD i (.Pass ⟨0, 0, 0, 0⟩)
noncomputable abbrev s_is_truth : Stmt := top 2
theorem sc_is_truth : FnScope ["thing"] ["thing"] (defScope s_is_truth) := ⟨rfl, rfl, rfl, by decide +kernel, rfl, by decide +kernel, by decide +kernel⟩
noncomputable abbrev s_is_open : Stmt := top 3
theorem sc_is_open : FnScope ["literal", "play"] ["literal", "play"] (defScope s_is_open) := ⟨rfl, rfl, rfl, by decide +kernel, rfl, by decide +kernel, by decide +kernel⟩
noncomputable abbrev s_is_right : Stmt := top 4
theorem sc_is_right : FnScope ["literal", "play"] ["literal", "play"] (defScope s_is_right) := ⟨rfl, rfl, rfl, by decide +kernel, rfl, by decide +kernel, by decide +kernel⟩
noncomputable abbrev s_is_kept : Stmt := top 5
theorem sc_is_kept : FnScope ["row", "play", "literal"] ["row", "play"] (defScope s_is_kept) := ⟨rfl, rfl, rfl, by decide +kernel, rfl, by decide +kernel, by decide +kernel⟩
noncomputable abbrev s_first_numbers : Stmt := top 7
theorem sc_first_numbers : FnScope ["rows", "told", "number", "row"] ["rows"] (defScope s_first_numbers) := ⟨rfl, rfl, rfl, by decide +kernel, rfl, by decide +kernel, by decide +kernel⟩
noncomputable abbrev s_rows_behind : Stmt := top 8
theorem sc_rows_behind : FnScope ["rows", "name", "truth", "right", "told", "row", "first"] ["rows", "name", "truth"] (defScope s_rows_behind) := ⟨rfl, rfl, rfl, by decide +kernel, rfl, by decide +kernel, by decide +kernel⟩
noncomputable abbrev s_rows_behind_play : Stmt := top 9
theorem sc_rows_behind_play : FnScope ["rows", "play", "told", "name", "truth"] ["rows", "play"] (defScope s_rows_behind_play) := ⟨rfl, rfl, rfl, by decide +kernel, rfl, by decide +kernel, by decide +kernel⟩
noncomputable abbrev s_other_side : Stmt := top 10
theorem sc_other_side : FnScope ["side"] ["side"] (defScope s_other_side) := ⟨rfl, rfl, rfl, by decide +kernel, rfl, by decide +kernel, by decide +kernel⟩
noncomputable abbrev s_winner_behind : Stmt := top 11
theorem sc_winner_behind : FnScope ["kinds", "rows", "many", "who", "truth"] ["kinds", "rows", "many"] (defScope s_winner_behind) := ⟨rfl, rfl, rfl, by decide +kernel, rfl, by decide +kernel, by decide +kernel⟩
noncomputable abbrev s_winner : Stmt := top 12
theorem sc_winner : FnScope ["claim", "play"] ["claim", "play"] (defScope s_winner) := ⟨rfl, rfl, rfl, by decide +kernel, rfl, by decide +kernel, by decide +kernel⟩
noncomputable abbrev s_plans_behind : Stmt := top 14
theorem sc_plans_behind : FnScope ["kinds", "side", "rows", "many", "told", "won_by"] ["kinds", "side", "rows", "many"] (defScope s_plans_behind) := ⟨rfl, rfl, rfl, by decide +kernel, rfl, by decide +kernel, by decide +kernel⟩
noncomputable abbrev s_how_many_plans : Stmt := top 15
theorem sc_how_many_plans : FnScope ["claim", "side"] ["claim", "side"] (defScope s_how_many_plans) := ⟨rfl, rfl, rfl, by decide +kernel, rfl, by decide +kernel, by decide +kernel⟩
noncomputable abbrev s_names_ahead : Stmt := top 17
theorem sc_names_ahead : FnScope ["kinds"] ["kinds"] (defScope s_names_ahead) := ⟨rfl, rfl, rfl, by decide +kernel, rfl, by decide +kernel, by decide +kernel⟩
noncomputable abbrev s_choices : Stmt := top 18
theorem sc_choices : FnScope ["many", "told", "longer", "choice"] ["many"] (defScope s_choices) := ⟨rfl, rfl, rfl, by decide +kernel, rfl, by decide +kernel, by decide +kernel⟩
noncomputable abbrev s_parts_of : Stmt := top 19
theorem sc_parts_of : FnScope ["kinds", "told", "ahead", "number", "kind"] ["kinds"] (defScope s_parts_of) := ⟨rfl, rfl, rfl, by decide +kernel, rfl, by decide +kernel, by decide +kernel⟩
noncomputable abbrev s_row_spread : Stmt := top 20
theorem sc_row_spread : FnScope ["kinds", "ahead", "numbers", "row", "choice", "told", "literal", "name", "many", "number"] ["kinds", "ahead", "numbers", "row", "choice"] (defScope s_row_spread) := ⟨rfl, rfl, rfl, by decide +kernel, rfl, by decide +kernel, by decide +kernel⟩
noncomputable abbrev s_spread : Stmt := top 21
theorem sc_spread : FnScope ["claim", "kinds", "parts", "numbers", "ahead", "rows", "choice", "row", "told"] ["claim"] (defScope s_spread) := ⟨rfl, rfl, rfl, by decide +kernel, rfl, by decide +kernel, by decide +kernel⟩
noncomputable abbrev s_keeps : Stmt := top 22
theorem sc_keeps : FnScope ["claim", "thing"] ["claim", "thing"] (defScope s_keeps) := ⟨rfl, rfl, rfl, by decide +kernel, rfl, by decide +kernel, by decide +kernel⟩
noncomputable abbrev s_law_mix : Stmt := top 24
theorem sc_law_mix : FnScope ["cell", "k", "prime", "one"] ["cell", "k"] (defScope s_law_mix) := ⟨rfl, rfl, rfl, by decide +kernel, rfl, by decide +kernel, by decide +kernel⟩
noncomputable abbrev s_law_digits : Stmt := top 25
theorem sc_law_digits : FnScope ["cell", "many", "found", "left_over", "wide", "k"] ["cell", "many"] (defScope s_law_digits) := ⟨rfl, rfl, rfl, by decide +kernel, rfl, by decide +kernel, by decide +kernel⟩
noncomputable abbrev s_law_at : Stmt := top 26
theorem sc_law_at : FnScope ["script", "k"] ["script", "k"] (defScope s_law_at) := ⟨rfl, rfl, rfl, by decide +kernel, rfl, by decide +kernel, by decide +kernel⟩
noncomputable abbrev s_law_row : Stmt := top 27
theorem sc_law_row : FnScope ["cell", "many", "wide", "some", "found", "k"] ["cell", "many", "wide"] (defScope s_law_row) := ⟨rfl, rfl, rfl, by decide +kernel, rfl, by decide +kernel, by decide +kernel⟩
noncomputable abbrev s_law_small : Stmt := top 28
theorem sc_law_small : FnScope ["script", "some", "words", "kinds", "rows"] ["script"] (defScope s_law_small) := ⟨rfl, rfl, rfl, by decide +kernel, rfl, by decide +kernel, by decide +kernel⟩
noncomputable abbrev s_law_choices : Stmt := top 29
theorem sc_law_choices : FnScope ["many", "found", "turn", "both", "one"] ["many"] (defScope s_law_choices) := ⟨rfl, rfl, rfl, by decide +kernel, rfl, by decide +kernel, by decide +kernel⟩
noncomputable abbrev s_law : Stmt := top 30
theorem sc_law : FnScope ["script", "claim", "parts", "many", "told"] ["script"] (defScope s_law) := ⟨rfl, rfl, rfl, by decide +kernel, rfl, by decide +kernel, by decide +kernel⟩
structure Top (K : PySem.W.Frag) (mg : Str → Option Value) : Prop where
  t_is_truth : Tf K mg "is_truth" s_is_truth
  t_is_open : Tf K mg "is_open" s_is_open
  t_is_right : Tf K mg "is_right" s_is_right
  t_is_kept : Tf K mg "is_kept" s_is_kept
  t_first_numbers : Tf K mg "first_numbers" s_first_numbers
  t_rows_behind : Tf K mg "rows_behind" s_rows_behind
  t_rows_behind_play : Tf K mg "rows_behind_play" s_rows_behind_play
  t_other_side : Tf K mg "other_side" s_other_side
  t_winner_behind : Tf K mg "winner_behind" s_winner_behind
  t_winner : Tf K mg "winner" s_winner
  t_plans_behind : Tf K mg "plans_behind" s_plans_behind
  t_how_many_plans : Tf K mg "how_many_plans" s_how_many_plans
  t_names_ahead : Tf K mg "names_ahead" s_names_ahead
  t_choices : Tf K mg "choices" s_choices
  t_parts_of : Tf K mg "parts_of" s_parts_of
  t_row_spread : Tf K mg "row_spread" s_row_spread
  t_spread : Tf K mg "spread" s_spread
  t_keeps : Tf K mg "keeps" s_keeps
  t_law_mix : Tf K mg "_law_mix" s_law_mix
  t_law_digits : Tf K mg "_law_digits" s_law_digits
  t_law_at : Tf K mg "_law_at" s_law_at
  t_law_row : Tf K mg "_law_row" s_law_row
  t_law_small : Tf K mg "_law_small" s_law_small
  t_law_choices : Tf K mg "_law_choices" s_law_choices
  t_law : Tf K mg "law" s_law
  n_abs : mg "abs" = none
  n_all : mg "all" = none
  n_bool : mg "bool" = none
  n_dict : mg "dict" = none
  n_enumerate : mg "enumerate" = none
  n_int : mg "int" = none
  n_isinstance : mg "isinstance" = none
  n_len : mg "len" = none
  n_range : mg "range" = none
  n_sorted : mg "sorted" = none
  n_tuple : mg "tuple" = none
  c_TRUTHS : Gc K mg "TRUTHS" k_TRUTHS
section
variable {P : Program} {w : World} {K : PySem.W.Frag} {mg : Str → Option Value} {base : Heap}
theorem ok_is_truth (T : Top K mg) : Fn P w K mg base 1 "is_truth" ["thing"] m_is_truth := by
  refine (fun h => h : _ → Fn P w K mg base 1 "is_truth" ["thing"] (runB 1 1 b_is_truth)) (fn_mk (N := ["thing"]) (k := 0) T.t_is_truth sc_is_truth (fun _ _ _ _ _ _ us hl => by obtain ⟨_, rfl⟩ := us1 hl; rfl) ?_)
  intro f cdv A outer s H E hr
  unfold b_is_truth
  refine pssf_cons ?_ pssf_nil
  refine psf_ret ?_
  refine pef_or ?_ ?_
  exact pef_cmp opf_is (pef_var (pv 0)) pef_bl (nomark _)
  refine pef_one ?_
  exact pef_cmp opf_is (pef_var (pv 0)) pef_bl (nomark _)
theorem ok_is_open (T : Top K mg) : Fn P w K mg base 1 "is_open" ["literal", "play"] m_is_open := by
  refine (fun h => h : _ → Fn P w K mg base 1 "is_open" ["literal", "play"] (runB 2 2 b_is_open)) (fn_mk (N := ["literal", "play"]) (k := 0) T.t_is_open sc_is_open (fun _ _ _ _ _ _ us hl => by obtain ⟨_, _, rfl⟩ := us2 hl; rfl) ?_)
  intro f cdv A outer s H E hr
  unfold b_is_open
  refine pssf_cons ?_ pssf_nil
  refine psf_ret ?_
  refine pef_cmp opf_gt ?_ ?_ (nomark _)
  refine pef_callB callf_abs ?_ T.n_abs bb_abs ?_
  rfl
  refine paf_c ?_ ?_ ?_
  exact (pef_var (pv 0))
  exact paf_nil
  rfl
  refine pef_callB callf_len ?_ T.n_len bb_len ?_
  rfl
  refine paf_c ?_ ?_ ?_
  exact (pef_var (pv 1))
  exact paf_nil
  rfl
theorem ok_is_right (T : Top K mg) (F_is_open : Fn P w K mg base 1 "is_open" ["literal", "play"] m_is_open) : Fn P w K mg base 2 "is_right" ["literal", "play"] m_is_right := by
  refine (fun h => h : _ → Fn P w K mg base 2 "is_right" ["literal", "play"] (runB 2 2 b_is_right)) (fn_mk (N := ["literal", "play"]) (k := 1) T.t_is_right sc_is_right (fun _ _ _ _ _ _ us hl => by obtain ⟨_, _, rfl⟩ := us2 hl; rfl) ?_)
  intro f cdv A outer s H E hr
  unfold b_is_right
  refine pssf_cons ?_ pssf_nil
  refine psf_ret ?_
  refine pef_and ?_ ?_
  refine pef_not ?_
  refine pef_fn F_is_open (hr.mono (by decide)) ?_ ?_
  rfl
  refine paf_c ?_ ?_ ?_
  exact (pef_var (pv 0))
  refine paf_c ?_ ?_ ?_
  exact (pef_var (pv 1))
  exact paf_nil
  rfl
  rfl
  refine pef_one ?_
  refine pef_cmp (opf_eq hr.units) ?_ ?_ (nomark _)
  refine pef_ix ixf (pef_var (pv 1)) ?_ (fun _ _ => rfl)
  refine pef_op opf_sub ?_ pef_int
  refine pef_callB callf_abs ?_ T.n_abs bb_abs ?_
  rfl
  refine paf_c ?_ ?_ ?_
  exact (pef_var (pv 0))
  exact paf_nil
  rfl
  exact pef_cmp opf_gt (pef_var (pv 0)) pef_int (nomark _)
theorem ok_is_kept (T : Top K mg) (F_is_right : Fn P w K mg base 2 "is_right" ["literal", "play"] m_is_right) : Fn P w K mg base 3 "is_kept" ["row", "play"] m_is_kept := by
  refine (fun h => h : _ → Fn P w K mg base 3 "is_kept" ["row", "play"] (runB 2 3 b_is_kept)) (fn_mk (N := ["row", "play", "literal"]) (k := 2) T.t_is_kept sc_is_kept (fun _ _ _ _ _ _ us hl => by obtain ⟨_, _, rfl⟩ := us2 hl; rfl) ?_)
  intro f cdv A outer s H E hr
  unfold b_is_kept
  refine pssf_cons ?_ ?_
  refine psf_for PassesOwn.never ?_ ?_ ?_ ?_
  rfl
  exact pif_seq (pef_var (pv 0))
  refine pgf_name (i := 2) ?_ ?_ ?_
  exact sc_is_kept.nd
  rfl
  first | exact Or.inl rfl | exact Or.inr rfl
  refine pssf_cons ?_ pssf_nil
  refine psf_if ?_ ?_ pssf_nil
  refine ptf_truth ?_ (fun _ => rfl)
  refine pef_fn F_is_right (hr.mono (by decide)) ?_ ?_
  rfl
  refine paf_c ?_ ?_ ?_
  exact (pef_var (pv 2))
  refine paf_c ?_ ?_ ?_
  exact (pef_var (pv 1))
  exact paf_nil
  rfl
  rfl
  refine pssf_cons ?_ pssf_nil
  exact psf_ret pef_bl
  refine pssf_cons ?_ pssf_nil
  exact psf_ret pef_bl
theorem ok_first_numbers (T : Top K mg) : Fn P w K mg base 1 "first_numbers" ["rows"] m_first_numbers := by
  refine (fun h => h : _ → Fn P w K mg base 1 "first_numbers" ["rows"] (runB 1 4 b_first_numbers)) (fn_mk (N := ["rows", "told", "number", "row"]) (k := 0) T.t_first_numbers sc_first_numbers (fun _ _ _ _ _ _ us hl => by obtain ⟨_, rfl⟩ := us1 hl; rfl) ?_)
  intro f cdv A outer s H E hr
  unfold b_first_numbers
  refine pssf_cons ?_ ?_
  refine psf_set (i := 1) ?_ ?_ ?_ pef_dnew
  exact sc_first_numbers.nd
  rfl
  first | exact Or.inl rfl | exact Or.inr rfl
  refine pssf_cons ?_ ?_
  refine psf_for PassesOwn.never ?_ ?_ ?_ ?_
  rfl
  refine pif_enum ?_ T.n_enumerate ?_
  rfl
  refine paf_c ?_ ?_ ?_
  exact (pef_var (pv 0))
  exact paf_nil
  rfl
  refine pgf_tup ?_ ?_
  rfl
  refine pgsf_cons ?_ ?_
  refine pgf_name (i := 2) ?_ ?_ ?_
  exact sc_first_numbers.nd
  rfl
  first | exact Or.inl rfl | exact Or.inr rfl
  refine pgsf_cons ?_ pgsf_nil
  refine pgf_name (i := 3) ?_ ?_ ?_
  exact sc_first_numbers.nd
  rfl
  first | exact Or.inl rfl | exact Or.inr rfl
  refine pssf_cons ?_ pssf_nil
  refine psf_expr ?_
  refine pef_dm PySem.F.slot_dict_setdefault PySem.F.type_dict_setdefault (sdeff hr.units) (pef_var (pv 1)) ?_
  refine paf_c ?_ ?_ ?_
  exact (pef_var (pv 3))
  refine paf_c ?_ ?_ ?_
  exact (pef_var (pv 2))
  exact paf_nil
  rfl
  rfl
  refine pssf_cons ?_ pssf_nil
  exact psf_ret (pef_var (pv 1))
theorem ok_rows_behind (T : Top K mg) : Fn P w K mg base 1 "rows_behind" ["rows", "name", "truth"] m_rows_behind := by
  refine (fun h => h : _ → Fn P w K mg base 1 "rows_behind" ["rows", "name", "truth"] (runB 3 7 b_rows_behind)) (fn_mk (N := ["rows", "name", "truth", "right", "told", "row", "first"]) (k := 0) T.t_rows_behind sc_rows_behind (fun _ _ _ _ _ _ us hl => by obtain ⟨_, _, _, rfl⟩ := us3 hl; rfl) ?_)
  intro f cdv A outer s H E hr
  unfold b_rows_behind
  refine pssf_cons ?_ ?_
  refine psf_set (i := 3) ?_ ?_ ?_ ?_
  exact sc_rows_behind.nd
  rfl
  first | exact Or.inl rfl | exact Or.inr rfl
  refine pef_if ?_ (pef_var (pv 1)) ?_
  exact ptf_truth (pef_var (pv 2)) (fun _ => rfl)
  exact pef_un unf_neg (pef_var (pv 1))
  refine pssf_cons ?_ ?_
  refine psf_set (i := 4) ?_ ?_ ?_ pef_dnew
  exact sc_rows_behind.nd
  rfl
  first | exact Or.inl rfl | exact Or.inr rfl
  refine pssf_cons ?_ ?_
  refine psf_for PassesOwn.never ?_ ?_ ?_ ?_
  rfl
  exact pif_dic (pef_var (pv 0))
  refine pgf_name (i := 5) ?_ ?_ ?_
  exact sc_rows_behind.nd
  rfl
  first | exact Or.inl rfl | exact Or.inr rfl
  refine pssf_cons ?_ ?_
  refine psf_set (i := 6) ?_ ?_ ?_ ?_
  exact sc_rows_behind.nd
  rfl
  first | exact Or.inl rfl | exact Or.inr rfl
  refine pef_if ?_ ?_ pef_int
  exact ptf_truth (pef_var (pv 5)) (fun _ => rfl)
  exact pef_ix ixf (pef_var (pv 5)) pef_int (fun _ _ => rfl)
  refine pssf_cons ?_ pssf_nil
  refine psf_if ?_ ?_ ?_
  refine ptf_cmp (opf_eq hr.units) (pef_var (pv 6)) ?_ (nomark _)
  exact pef_un unf_neg (pef_var (pv 3))
  refine pssf_cons ?_ pssf_nil
  refine psf_expr ?_
  refine pef_dm PySem.F.slot_dict_setdefault PySem.F.type_dict_setdefault (sdeff hr.units) (pef_var (pv 4)) ?_
  refine paf_c ?_ ?_ ?_
  refine pef_slice (pef_var (pv 5)) ?_ pof_none
  exact pof_some pef_int
  refine paf_c ?_ ?_ ?_
  exact pef_ix (dgetf hr.units) (pef_var (pv 0)) (pef_var (pv 5)) (fun _ _ => rfl)
  exact paf_nil
  rfl
  rfl
  refine pssf_cons ?_ pssf_nil
  refine psf_if ?_ ?_ pssf_nil
  exact ptf_cmp (opf_ne hr.units) (pef_var (pv 6)) (pef_var (pv 3)) (nomark _)
  refine pssf_cons ?_ pssf_nil
  refine psf_expr ?_
  refine pef_dm PySem.F.slot_dict_setdefault PySem.F.type_dict_setdefault (sdeff hr.units) (pef_var (pv 4)) ?_
  refine paf_c ?_ ?_ ?_
  exact (pef_var (pv 5))
  refine paf_c ?_ ?_ ?_
  exact pef_ix (dgetf hr.units) (pef_var (pv 0)) (pef_var (pv 5)) (fun _ _ => rfl)
  exact paf_nil
  rfl
  rfl
  refine pssf_cons ?_ pssf_nil
  exact psf_ret (pef_var (pv 4))
theorem ok_rows_behind_play (T : Top K mg) (F_rows_behind : Fn P w K mg base 1 "rows_behind" ["rows", "name", "truth"] m_rows_behind) (F_first_numbers : Fn P w K mg base 1 "first_numbers" ["rows"] m_first_numbers) : Fn P w K mg base 2 "rows_behind_play" ["rows", "play"] m_rows_behind_play := by
  refine (fun h => h : _ → Fn P w K mg base 2 "rows_behind_play" ["rows", "play"] (runB 2 5 b_rows_behind_play)) (fn_mk (N := ["rows", "play", "told", "name", "truth"]) (k := 1) T.t_rows_behind_play sc_rows_behind_play (fun _ _ _ _ _ _ us hl => by obtain ⟨_, _, rfl⟩ := us2 hl; rfl) ?_)
  intro f cdv A outer s H E hr
  unfold b_rows_behind_play
  refine pssf_cons ?_ ?_
  refine psf_set (i := 2) ?_ ?_ ?_ ?_
  exact sc_rows_behind_play.nd
  rfl
  first | exact Or.inl rfl | exact Or.inr rfl
  refine pef_fn F_first_numbers (hr.mono (by decide)) ?_ ?_
  rfl
  refine paf_c ?_ ?_ ?_
  exact (pef_var (pv 0))
  exact paf_nil
  rfl
  refine pssf_cons ?_ ?_
  refine psf_for PassesOwn.never ?_ ?_ ?_ ?_
  rfl
  refine pif_enum1 ?_ T.n_enumerate ?_
  rfl
  refine paf_c ?_ ?_ ?_
  exact (pef_var (pv 1))
  exact paf_nil
  rfl
  refine pgf_tup ?_ ?_
  rfl
  refine pgsf_cons ?_ ?_
  refine pgf_name (i := 3) ?_ ?_ ?_
  exact sc_rows_behind_play.nd
  rfl
  first | exact Or.inl rfl | exact Or.inr rfl
  refine pgsf_cons ?_ pgsf_nil
  refine pgf_name (i := 4) ?_ ?_ ?_
  exact sc_rows_behind_play.nd
  rfl
  first | exact Or.inl rfl | exact Or.inr rfl
  refine pssf_cons ?_ pssf_nil
  refine psf_set (i := 2) ?_ ?_ ?_ ?_
  exact sc_rows_behind_play.nd
  rfl
  first | exact Or.inl rfl | exact Or.inr rfl
  refine pef_fn F_rows_behind (hr.mono (by decide)) ?_ ?_
  rfl
  refine paf_c ?_ ?_ ?_
  exact (pef_var (pv 2))
  refine paf_c ?_ ?_ ?_
  exact (pef_var (pv 3))
  refine paf_c ?_ ?_ ?_
  exact (pef_var (pv 4))
  exact paf_nil
  rfl
  rfl
  rfl
  refine pssf_cons ?_ pssf_nil
  exact psf_ret (pef_var (pv 2))
theorem ok_other_side (T : Top K mg) : Fn P w K mg base 1 "other_side" ["side"] m_other_side := by
  refine (fun h => h : _ → Fn P w K mg base 1 "other_side" ["side"] (runB 1 1 b_other_side)) (fn_mk (N := ["side"]) (k := 0) T.t_other_side sc_other_side (fun _ _ _ _ _ _ us hl => by obtain ⟨_, rfl⟩ := us1 hl; rfl) ?_)
  intro f cdv A outer s H E hr
  unfold b_other_side
  refine pssf_cons ?_ pssf_nil
  refine psf_ret ?_
  refine pef_if ?_ pef_str pef_str
  exact ptf_cmp (opf_eq hr.units) (pef_var (pv 0)) pef_str (nomark _)
theorem ok_winner_behind (T : Top K mg) (F_other_side : Fn P w K mg base 1 "other_side" ["side"] m_other_side) (F_rows_behind : Fn P w K mg base 1 "rows_behind" ["rows", "name", "truth"] m_rows_behind) : Fn P w K mg base 12 "winner_behind" ["kinds", "rows", "many"] m_winner_behind := by
  refine (fun h => h : _ → Fn P w K mg base 12 "winner_behind" ["kinds", "rows", "many"] (recF 3 5 b_winner_behind 10)) (fn_rec (N := ["kinds", "rows", "many", "who", "truth"]) (k := 1) T.t_winner_behind sc_winner_behind (fun _ _ _ _ _ _ us hl => by obtain ⟨_, _, _, rfl⟩ := us3 hl; rfl) ?_ 10)
  intro F j G f cdv A outer s H E hr
  unfold b_winner_behind
  refine pssf_cons ?_ ?_
  refine psf_if ?_ ?_ pssf_nil
  refine ptf_cmp (dinf hr.units) ?_ (pef_var (pv 1)) ?_
  exact pef_tup paf_nil
  with_unfolding_all rfl
  refine pssf_cons ?_ pssf_nil
  exact psf_ret pef_str
  refine pssf_cons ?_ ?_
  refine psf_if ?_ ?_ pssf_nil
  refine ptf_cmp (opf_eq hr.units) ?_ pef_int (nomark _)
  refine pef_callB callf_dlen ?_ T.n_len bb_len ?_
  rfl
  refine paf_c ?_ ?_ ?_
  exact (pef_var (pv 1))
  exact paf_nil
  rfl
  refine pssf_cons ?_ pssf_nil
  exact psf_ret pef_str
  refine pssf_cons ?_ ?_
  refine psf_set (i := 3) ?_ ?_ ?_ ?_
  exact sc_winner_behind.nd
  rfl
  first | exact Or.inl rfl | exact Or.inr rfl
  exact pef_ix ixf (pef_var (pv 0)) (pef_var (pv 2)) (fun _ _ => rfl)
  refine pssf_cons ?_ ?_
  refine psf_for PassesOwn.never ?_ ?_ ?_ ?_
  rfl
  refine pif_seq ?_
  refine pef_gc ?_ T.c_TRUTHS
  rfl
  refine pgf_name (i := 4) ?_ ?_ ?_
  exact sc_winner_behind.nd
  rfl
  first | exact Or.inl rfl | exact Or.inr rfl
  refine pssf_cons ?_ pssf_nil
  refine psf_if ?_ ?_ pssf_nil
  refine ptf_cmp (opf_eq hr.units) ?_ (pef_var (pv 3)) (nomark _)
  refine pef_fn G (hr.mono (Nat.le_refl _)) ?_ ?_
  rfl
  refine paf_c ?_ ?_ ?_
  exact (pef_var (pv 0))
  refine paf_c ?_ ?_ ?_
  refine pef_fn F_rows_behind (hr.mono (by omega)) ?_ ?_
  rfl
  refine paf_c ?_ ?_ ?_
  exact (pef_var (pv 1))
  refine paf_c ?_ ?_ ?_
  exact pef_op opf_add (pef_var (pv 2)) pef_int
  refine paf_c ?_ ?_ ?_
  exact (pef_var (pv 4))
  exact paf_nil
  rfl
  rfl
  rfl
  refine paf_c ?_ ?_ ?_
  exact pef_op opf_add (pef_var (pv 2)) pef_int
  exact paf_nil
  rfl
  rfl
  rfl
  refine pssf_cons ?_ pssf_nil
  exact psf_ret (pef_var (pv 3))
  refine pssf_cons ?_ pssf_nil
  refine psf_ret ?_
  refine pef_fn F_other_side (hr.mono (by omega)) ?_ ?_
  rfl
  refine paf_c ?_ ?_ ?_
  exact (pef_var (pv 3))
  exact paf_nil
  rfl
theorem ok_winner (T : Top K mg) (F_winner_behind : Fn P w K mg base 12 "winner_behind" ["kinds", "rows", "many"] m_winner_behind) (F_rows_behind_play : Fn P w K mg base 2 "rows_behind_play" ["rows", "play"] m_rows_behind_play) : Fn P w K mg base 13 "winner" ["claim", "play"] m_winner := by
  refine (fun h => h : _ → Fn P w K mg base 13 "winner" ["claim", "play"] (runB 2 2 b_winner)) (fn_mk (N := ["claim", "play"]) (k := 12) T.t_winner sc_winner (fun _ _ _ _ _ _ us hl => by obtain ⟨_, _, rfl⟩ := us2 hl; rfl) ?_)
  intro f cdv A outer s H E hr
  unfold b_winner
  refine pssf_cons ?_ pssf_nil
  refine psf_ret ?_
  refine pef_fn F_winner_behind (hr.mono (by decide)) ?_ ?_
  rfl
  refine paf_c ?_ ?_ ?_
  exact pef_ix ixf (pef_var (pv 0)) pef_int (fun _ _ => rfl)
  refine paf_c ?_ ?_ ?_
  refine pef_fn F_rows_behind_play (hr.mono (by decide)) ?_ ?_
  rfl
  refine paf_c ?_ ?_ ?_
  exact pef_ix ixf (pef_var (pv 0)) pef_int (fun _ _ => rfl)
  refine paf_c ?_ ?_ ?_
  exact (pef_var (pv 1))
  exact paf_nil
  rfl
  rfl
  refine paf_c ?_ ?_ ?_
  refine pef_callB callf_len ?_ T.n_len bb_len ?_
  rfl
  refine paf_c ?_ ?_ ?_
  exact (pef_var (pv 1))
  exact paf_nil
  rfl
  exact paf_nil
  rfl
  rfl
  rfl
theorem ok_plans_behind (T : Top K mg) (F_rows_behind : Fn P w K mg base 1 "rows_behind" ["rows", "name", "truth"] m_rows_behind) : Fn P w K mg base 12 "plans_behind" ["kinds", "side", "rows", "many"] m_plans_behind := by
  refine (fun h => h : _ → Fn P w K mg base 12 "plans_behind" ["kinds", "side", "rows", "many"] (recF 4 6 b_plans_behind 10)) (fn_rec (N := ["kinds", "side", "rows", "many", "told", "won_by"]) (k := 1) T.t_plans_behind sc_plans_behind (fun _ _ _ _ _ _ us hl => by obtain ⟨_, _, _, _, rfl⟩ := us4 hl; rfl) ?_ 10)
  intro F j G f cdv A outer s H E hr
  unfold b_plans_behind
  refine pssf_cons ?_ ?_
  refine psf_if ?_ ?_ pssf_nil
  refine ptf_cmp (opf_eq hr.units) (pef_var (pv 3)) ?_ (nomark _)
  refine pef_callB callf_len ?_ T.n_len bb_len ?_
  rfl
  refine paf_c ?_ ?_ ?_
  exact (pef_var (pv 0))
  exact paf_nil
  rfl
  refine pssf_cons ?_ ?_
  refine psf_set (i := 5) ?_ ?_ ?_ ?_
  exact sc_plans_behind.nd
  rfl
  first | exact Or.inl rfl | exact Or.inr rfl
  refine pef_if ?_ pef_str pef_str
  refine ptf_cmp (opf_eq hr.units) ?_ pef_int (nomark _)
  refine pef_callB callf_dlen ?_ T.n_len bb_len ?_
  rfl
  refine paf_c ?_ ?_ ?_
  exact (pef_var (pv 2))
  exact paf_nil
  rfl
  refine pssf_cons ?_ pssf_nil
  refine psf_ret ?_
  refine pef_if ?_ pef_int pef_int
  exact ptf_cmp (opf_eq hr.units) (pef_var (pv 5)) (pef_var (pv 1)) (nomark _)
  refine pssf_cons ?_ ?_
  refine psf_lcset (i := 4) (cn := ["kinds", "side", "rows", "many"]) ?_ (blk_fn (x := "truth") (cn := ["kinds", "side", "rows", "many"]) (ci := [0, 1, 2, 3]) (by decide +kernel)) ?_ ?_ ?_ ?_ ?_ ?_
  rfl
  refine pif_seq ?_
  refine pef_gc ?_ T.c_TRUTHS
  rfl
  intro _ _ _ _ _ _
  exact ptsf_nil
  intro _ _ _ _ _ _
  refine pef_fn G (hr.mono (Nat.le_refl _)) ?_ ?_
  rfl
  refine paf_c ?_ ?_ ?_
  exact (pef_var (pv 1))
  refine paf_c ?_ ?_ ?_
  exact (pef_var (pv 2))
  refine paf_c ?_ ?_ ?_
  refine pef_fn F_rows_behind (hr.mono (by omega)) ?_ ?_
  rfl
  refine paf_c ?_ ?_ ?_
  exact (pef_var (pv 3))
  refine paf_c ?_ ?_ ?_
  exact pef_op opf_add (pef_var (pv 4)) pef_int
  refine paf_c ?_ ?_ ?_
  exact (pef_var (pv 0))
  exact paf_nil
  rfl
  rfl
  rfl
  refine paf_c ?_ ?_ ?_
  exact pef_op opf_add (pef_var (pv 4)) pef_int
  exact paf_nil
  rfl
  rfl
  rfl
  rfl
  exact sc_plans_behind.nd
  rfl
  rfl
  refine pssf_cons ?_ pssf_nil
  refine psf_ret ?_
  refine pef_if ?_ ?_ ?_
  refine ptf_cmp (opf_eq hr.units) ?_ (pef_var (pv 1)) (nomark _)
  exact pef_ix ixf (pef_var (pv 0)) (pef_var (pv 3)) (fun _ _ => rfl)
  refine pef_op opf_add ?_ ?_
  exact pef_ix ixf (pef_var (pv 4)) pef_int (fun _ _ => rfl)
  exact pef_ix ixf (pef_var (pv 4)) pef_int (fun _ _ => rfl)
  refine pef_op opf_mulB ?_ ?_
  exact pef_ix ixf (pef_var (pv 4)) pef_int (fun _ _ => rfl)
  exact pef_ix ixf (pef_var (pv 4)) pef_int (fun _ _ => rfl)
theorem ok_how_many_plans (T : Top K mg) (F_plans_behind : Fn P w K mg base 12 "plans_behind" ["kinds", "side", "rows", "many"] m_plans_behind) (F_first_numbers : Fn P w K mg base 1 "first_numbers" ["rows"] m_first_numbers) : Fn P w K mg base 13 "how_many_plans" ["claim", "side"] m_how_many_plans := by
  refine (fun h => h : _ → Fn P w K mg base 13 "how_many_plans" ["claim", "side"] (runB 2 2 b_how_many_plans)) (fn_mk (N := ["claim", "side"]) (k := 12) T.t_how_many_plans sc_how_many_plans (fun _ _ _ _ _ _ us hl => by obtain ⟨_, _, rfl⟩ := us2 hl; rfl) ?_)
  intro f cdv A outer s H E hr
  unfold b_how_many_plans
  refine pssf_cons ?_ pssf_nil
  refine psf_ret ?_
  refine pef_fn F_plans_behind (hr.mono (by decide)) ?_ ?_
  rfl
  refine paf_c ?_ ?_ ?_
  exact pef_ix ixf (pef_var (pv 0)) pef_int (fun _ _ => rfl)
  refine paf_c ?_ ?_ ?_
  exact (pef_var (pv 1))
  refine paf_c ?_ ?_ ?_
  refine pef_fn F_first_numbers (hr.mono (by decide)) ?_ ?_
  rfl
  refine paf_c ?_ ?_ ?_
  exact pef_ix ixf (pef_var (pv 0)) pef_int (fun _ _ => rfl)
  exact paf_nil
  rfl
  refine paf_c ?_ ?_ ?_
  exact pef_int
  exact paf_nil
  rfl
  rfl
  rfl
  rfl
theorem ok_names_ahead (T : Top K mg) : Fn P w K mg base 1 "names_ahead" ["kinds"] m_names_ahead := by
  refine (fun h => h : _ → Fn P w K mg base 1 "names_ahead" ["kinds"] (runB 1 1 b_names_ahead)) (fn_mk (N := ["kinds"]) (k := 0) T.t_names_ahead sc_names_ahead (fun _ _ _ _ _ _ us hl => by obtain ⟨_, rfl⟩ := us1 hl; rfl) ?_)
  intro f cdv A outer s H E hr
  unfold b_names_ahead
  refine pssf_cons ?_ pssf_nil
  refine psf_ret ?_
  refine pef_lc (cn := ["kinds"]) ?_ (blk_fn (x := "number") (cn := ["kinds"]) (ci := [0]) (by decide +kernel)) ?_ ?_ ?_
  rfl
  refine pif_range1 ?_ T.n_range ?_
  rfl
  refine paf_c ?_ ?_ ?_
  refine pef_callB callf_len ?_ T.n_len bb_len ?_
  rfl
  refine paf_c ?_ ?_ ?_
  exact (pef_var (pv 0))
  exact paf_nil
  rfl
  exact paf_nil
  rfl
  intro _ _ _ _ _ _
  exact ptsf_nil
  intro _ _ _ _ _ _
  refine pef_tm PySem.F.slot_tuple_count PySem.F.type_tuple_count (mtf_count hr.units) ?_ ?_
  refine pef_slice (pef_var (pv 1)) pof_none ?_
  exact pof_some (pef_var (pv 0))
  refine paf_c ?_ ?_ ?_
  exact pef_str
  exact paf_nil
  rfl
theorem ok_choices (T : Top K mg) : Fn P w K mg base 1 "choices" ["many"] m_choices := by
  refine (fun h => h : _ → Fn P w K mg base 1 "choices" ["many"] (runB 1 4 b_choices)) (fn_mk (N := ["many", "told", "longer", "choice"]) (k := 0) T.t_choices sc_choices (fun _ _ _ _ _ _ us hl => by obtain ⟨_, rfl⟩ := us1 hl; rfl) ?_)
  intro f cdv A outer s H E hr
  unfold b_choices
  refine pssf_cons ?_ ?_
  refine psf_set (i := 1) ?_ ?_ ?_ ?_
  exact sc_choices.nd
  rfl
  first | exact Or.inl rfl | exact Or.inr rfl
  refine pef_lst ?_
  refine paf_c ?_ ?_ ?_
  exact pef_tup paf_nil
  exact paf_nil
  rfl
  refine pssf_cons ?_ ?_
  refine psf_while PassesOwn.never ?_ ?_
  refine ptf_cmp opf_lt ?_ (pef_var (pv 0)) (nomark _)
  refine pef_callB callf_len ?_ T.n_len bb_len ?_
  rfl
  refine paf_c ?_ ?_ ?_
  exact pef_ix ixf (pef_var (pv 1)) pef_int (fun _ _ => rfl)
  exact paf_nil
  rfl
  refine pssf_cons ?_ ?_
  refine psf_set (i := 2) ?_ ?_ ?_ ?_
  exact sc_choices.nd
  rfl
  first | exact Or.inl rfl | exact Or.inr rfl
  exact pef_lst paf_nil
  refine pssf_cons ?_ ?_
  refine psf_for PassesOwn.never ?_ ?_ ?_ ?_
  rfl
  exact pif_seq (pef_var (pv 1))
  refine pgf_name (i := 3) ?_ ?_ ?_
  exact sc_choices.nd
  rfl
  first | exact Or.inl rfl | exact Or.inr rfl
  refine pssf_cons ?_ pssf_nil
  refine psf_expr ?_
  refine pef_lm PySem.F.slot_list_extend PySem.F.type_list_extend mtf_extend (pef_var (pv 2)) ?_
  refine paf_c ?_ ?_ ?_
  refine pef_lc (cn := ["choice"]) ?_ (blk_fn (x := "truth") (cn := ["choice"]) (ci := [3]) (by decide +kernel)) ?_ ?_ ?_
  rfl
  refine pif_seq ?_
  refine pef_gc ?_ T.c_TRUTHS
  rfl
  intro _ _ _ _ _ _
  exact ptsf_nil
  intro _ _ _ _ _ _
  refine pef_op opf_add (pef_var (pv 1)) ?_
  refine pef_tup ?_
  refine paf_c ?_ ?_ ?_
  exact (pef_var (pv 0))
  exact paf_nil
  rfl
  exact paf_nil
  rfl
  refine pssf_cons ?_ pssf_nil
  refine psf_set (i := 1) ?_ ?_ ?_ (pef_var (pv 2))
  exact sc_choices.nd
  rfl
  first | exact Or.inl rfl | exact Or.inr rfl
  refine pssf_cons ?_ pssf_nil
  exact psf_ret (pef_var (pv 1))
theorem ok_parts_of (T : Top K mg) (F_choices : Fn P w K mg base 1 "choices" ["many"] m_choices) (F_names_ahead : Fn P w K mg base 1 "names_ahead" ["kinds"] m_names_ahead) : Fn P w K mg base 2 "parts_of" ["kinds"] m_parts_of := by
  refine (fun h => h : _ → Fn P w K mg base 2 "parts_of" ["kinds"] (runB 1 5 b_parts_of)) (fn_mk (N := ["kinds", "told", "ahead", "number", "kind"]) (k := 1) T.t_parts_of sc_parts_of (fun _ _ _ _ _ _ us hl => by obtain ⟨_, rfl⟩ := us1 hl; rfl) ?_)
  intro f cdv A outer s H E hr
  unfold b_parts_of
  refine pssf_cons ?_ ?_
  refine psf_set (i := 1) ?_ ?_ ?_ ?_
  exact sc_parts_of.nd
  rfl
  first | exact Or.inl rfl | exact Or.inr rfl
  exact pef_lst paf_nil
  refine pssf_cons ?_ ?_
  refine psf_set (i := 2) ?_ ?_ ?_ ?_
  exact sc_parts_of.nd
  rfl
  first | exact Or.inl rfl | exact Or.inr rfl
  refine pef_fn F_names_ahead (hr.mono (by decide)) ?_ ?_
  rfl
  refine paf_c ?_ ?_ ?_
  exact (pef_var (pv 0))
  exact paf_nil
  rfl
  refine pssf_cons ?_ ?_
  refine psf_for PassesOwn.never ?_ ?_ ?_ ?_
  rfl
  refine pif_enum ?_ T.n_enumerate ?_
  rfl
  refine paf_c ?_ ?_ ?_
  exact (pef_var (pv 0))
  exact paf_nil
  rfl
  refine pgf_tup ?_ ?_
  rfl
  refine pgsf_cons ?_ ?_
  refine pgf_name (i := 3) ?_ ?_ ?_
  exact sc_parts_of.nd
  rfl
  first | exact Or.inl rfl | exact Or.inr rfl
  refine pgsf_cons ?_ pgsf_nil
  refine pgf_name (i := 4) ?_ ?_ ?_
  exact sc_parts_of.nd
  rfl
  first | exact Or.inl rfl | exact Or.inr rfl
  refine pssf_cons ?_ pssf_nil
  refine psf_if ?_ ?_ pssf_nil
  exact ptf_cmp (opf_eq hr.units) (pef_var (pv 4)) pef_str (nomark _)
  refine pssf_cons ?_ pssf_nil
  refine psf_expr ?_
  refine pef_lm PySem.F.slot_list_extend PySem.F.type_list_extend mtf_extend (pef_var (pv 1)) ?_
  refine paf_c ?_ ?_ ?_
  refine pef_lc (cn := ["number"]) ?_ (blk_fn (x := "choice") (cn := ["number"]) (ci := [3]) (by decide +kernel)) ?_ ?_ ?_
  rfl
  refine pif_seq ?_
  refine pef_fn F_choices (hr.mono (by decide)) ?_ ?_
  rfl
  refine paf_c ?_ ?_ ?_
  exact pef_ix ixf (pef_var (pv 2)) (pef_var (pv 3)) (fun _ _ => rfl)
  exact paf_nil
  rfl
  intro _ _ _ _ _ _
  exact ptsf_nil
  intro _ _ _ _ _ _
  refine pef_tup ?_
  refine paf_c ?_ ?_ ?_
  exact pef_op opf_add (pef_var (pv 1)) pef_int
  refine paf_c ?_ ?_ ?_
  exact (pef_var (pv 0))
  exact paf_nil
  rfl
  rfl
  exact paf_nil
  rfl
  refine pssf_cons ?_ pssf_nil
  refine psf_ret ?_
  refine pef_callTy callf_tuple ?_ T.n_tuple bb_tuple ?_
  rfl
  refine paf_c ?_ ?_ ?_
  exact (pef_var (pv 1))
  exact paf_nil
  rfl
theorem ok_row_spread (T : Top K mg) : Fn P w K mg base 1 "row_spread" ["kinds", "ahead", "numbers", "row", "choice"] m_row_spread := by
  refine (fun h => h : _ → Fn P w K mg base 1 "row_spread" ["kinds", "ahead", "numbers", "row", "choice"] (runB 5 10 b_row_spread)) (fn_mk (N := ["kinds", "ahead", "numbers", "row", "choice", "told", "literal", "name", "many", "number"]) (k := 0) T.t_row_spread sc_row_spread (fun _ _ _ _ _ _ us hl => by obtain ⟨_, _, _, _, _, rfl⟩ := us5 hl; rfl) ?_)
  intro f cdv A outer s H E hr
  unfold b_row_spread
  refine pssf_cons ?_ ?_
  refine psf_set (i := 5) ?_ ?_ ?_ ?_
  exact sc_row_spread.nd
  rfl
  first | exact Or.inl rfl | exact Or.inr rfl
  exact pef_lst paf_nil
  refine pssf_cons ?_ ?_
  refine psf_for PassesOwn.never ?_ ?_ ?_ ?_
  rfl
  exact pif_seq (pef_var (pv 3))
  refine pgf_name (i := 6) ?_ ?_ ?_
  exact sc_row_spread.nd
  rfl
  first | exact Or.inl rfl | exact Or.inr rfl
  refine pssf_cons ?_ ?_
  refine psf_set (i := 7) ?_ ?_ ?_ ?_
  exact sc_row_spread.nd
  rfl
  first | exact Or.inl rfl | exact Or.inr rfl
  refine pef_callB callf_abs ?_ T.n_abs bb_abs ?_
  rfl
  refine paf_c ?_ ?_ ?_
  exact (pef_var (pv 6))
  exact paf_nil
  rfl
  refine pssf_cons ?_ ?_
  refine psf_set (i := 8) ?_ ?_ ?_ ?_
  exact sc_row_spread.nd
  rfl
  first | exact Or.inl rfl | exact Or.inr rfl
  refine pef_ix ixf (pef_var (pv 1)) ?_ (fun _ _ => rfl)
  exact pef_op opf_sub (pef_var (pv 7)) pef_int
  refine pssf_cons ?_ pssf_nil
  refine psf_if ?_ ?_ ?_
  refine ptf_cmp (opf_eq hr.units) ?_ pef_str (nomark _)
  refine pef_ix ixf (pef_var (pv 0)) ?_ (fun _ _ => rfl)
  exact pef_op opf_sub (pef_var (pv 7)) pef_int
  refine pssf_cons ?_ ?_
  refine psf_set (i := 9) ?_ ?_ ?_ ?_
  exact sc_row_spread.nd
  rfl
  first | exact Or.inl rfl | exact Or.inr rfl
  refine pef_ix (ngetf hr.units) (pef_var (pv 2)) ?_ (fun _ _ => rfl)
  refine pef_tup ?_
  refine paf_c ?_ ?_ ?_
  exact (pef_var (pv 7))
  refine paf_c ?_ ?_ ?_
  refine pef_slice (pef_var (pv 4)) pof_none ?_
  exact pof_some (pef_var (pv 8))
  exact paf_nil
  rfl
  rfl
  refine pssf_cons ?_ pssf_nil
  refine psf_expr ?_
  refine pef_lm PySem.F.slot_list_append PySem.F.type_list_append mtf_append (pef_var (pv 5)) ?_
  refine paf_c ?_ ?_ ?_
  refine pef_if ?_ (pef_var (pv 9)) ?_
  exact ptf_cmp opf_gt (pef_var (pv 6)) pef_int (nomark _)
  exact pef_un unf_neg (pef_var (pv 9))
  exact paf_nil
  rfl
  refine pssf_cons ?_ pssf_nil
  refine psf_if ?_ ?_ pssf_nil
  refine ptf_cmp (opf_eq hr.units) ?_ ?_ (nomark _)
  exact pef_ix ixf (pef_var (pv 4)) (pef_var (pv 8)) (fun _ _ => rfl)
  exact pef_cmp opf_gt (pef_var (pv 6)) pef_int (nomark _)
  refine pssf_cons ?_ pssf_nil
  exact psf_ret pef_non
  refine pssf_cons ?_ pssf_nil
  refine psf_ret ?_
  refine pef_callTy callf_tuple ?_ T.n_tuple bb_tuple ?_
  rfl
  refine paf_c ?_ ?_ ?_
  exact (pef_var (pv 5))
  exact paf_nil
  rfl
theorem ok_spread (T : Top K mg) (F_choices : Fn P w K mg base 1 "choices" ["many"] m_choices) (F_row_spread : Fn P w K mg base 1 "row_spread" ["kinds", "ahead", "numbers", "row", "choice"] m_row_spread) (F_names_ahead : Fn P w K mg base 1 "names_ahead" ["kinds"] m_names_ahead) (F_parts_of : Fn P w K mg base 2 "parts_of" ["kinds"] m_parts_of) : Fn P w K mg base 3 "spread" ["claim"] m_spread := by
  refine (fun h => h : _ → Fn P w K mg base 3 "spread" ["claim"] (runB 1 9 b_spread)) (fn_mk (N := ["claim", "kinds", "parts", "numbers", "ahead", "rows", "choice", "row", "told"]) (k := 2) T.t_spread sc_spread (fun _ _ _ _ _ _ us hl => by obtain ⟨_, rfl⟩ := us1 hl; rfl) ?_)
  intro f cdv A outer s H E hr
  unfold b_spread
  refine pssf_cons ?_ ?_
  refine psf_set (i := 1) ?_ ?_ ?_ ?_
  exact sc_spread.nd
  rfl
  first | exact Or.inl rfl | exact Or.inr rfl
  exact pef_ix ixf (pef_var (pv 0)) pef_int (fun _ _ => rfl)
  refine pssf_cons ?_ ?_
  refine psf_set (i := 2) ?_ ?_ ?_ ?_
  exact sc_spread.nd
  rfl
  first | exact Or.inl rfl | exact Or.inr rfl
  refine pef_fn F_parts_of (hr.mono (by decide)) ?_ ?_
  rfl
  refine paf_c ?_ ?_ ?_
  exact (pef_var (pv 1))
  exact paf_nil
  rfl
  refine pssf_cons ?_ ?_
  refine psf_set (i := 3) ?_ ?_ ?_ ?_
  exact sc_spread.nd
  rfl
  first | exact Or.inl rfl | exact Or.inr rfl
  refine pef_callTy (callf_dictN (by rfl) hr.units) ?_ T.n_dict bb_dict ?_
  rfl
  refine paf_c ?_ ?_ ?_
  refine pef_lc2 (cn := []) ?_ (blk_fn2 (x := "number") (y0 := "part") (cn := []) (ci := []) (by decide +kernel)) ?_ ?_ ?_
  rfl
  refine pif_enum1 ?_ T.n_enumerate ?_
  rfl
  refine paf_c ?_ ?_ ?_
  exact (pef_var (pv 2))
  exact paf_nil
  rfl
  intro _ _ _ _ _ _
  exact ptsf_nil
  intro _ _ _ _ _ _
  refine pef_tup ?_
  refine paf_c ?_ ?_ ?_
  exact (pef_var (pv 1))
  refine paf_c ?_ ?_ ?_
  exact (pef_var (pv 0))
  exact paf_nil
  rfl
  rfl
  exact paf_nil
  rfl
  refine pssf_cons ?_ ?_
  refine psf_set (i := 4) ?_ ?_ ?_ ?_
  exact sc_spread.nd
  rfl
  first | exact Or.inl rfl | exact Or.inr rfl
  refine pef_fn F_names_ahead (hr.mono (by decide)) ?_ ?_
  rfl
  refine paf_c ?_ ?_ ?_
  exact (pef_var (pv 1))
  exact paf_nil
  rfl
  refine pssf_cons ?_ ?_
  refine psf_set (i := 5) ?_ ?_ ?_ pef_dnew
  exact sc_spread.nd
  rfl
  first | exact Or.inl rfl | exact Or.inr rfl
  refine pssf_cons ?_ ?_
  refine psf_for PassesOwn.never ?_ ?_ ?_ ?_
  rfl
  refine pif_seq ?_
  refine pef_fn F_choices (hr.mono (by decide)) ?_ ?_
  rfl
  refine paf_c ?_ ?_ ?_
  refine pef_tm PySem.F.slot_tuple_count PySem.F.type_tuple_count (mtf_count hr.units) (pef_var (pv 1)) ?_
  refine paf_c ?_ ?_ ?_
  exact pef_str
  exact paf_nil
  rfl
  exact paf_nil
  rfl
  refine pgf_name (i := 6) ?_ ?_ ?_
  exact sc_spread.nd
  rfl
  first | exact Or.inl rfl | exact Or.inr rfl
  refine pssf_cons ?_ pssf_nil
  refine psf_for PassesOwn.never ?_ ?_ ?_ ?_
  rfl
  refine pif_seq ?_
  exact pef_ix ixf (pef_var (pv 0)) pef_int (fun _ _ => rfl)
  refine pgf_name (i := 7) ?_ ?_ ?_
  exact sc_spread.nd
  rfl
  first | exact Or.inl rfl | exact Or.inr rfl
  refine pssf_cons ?_ ?_
  refine psf_set (i := 8) ?_ ?_ ?_ ?_
  exact sc_spread.nd
  rfl
  first | exact Or.inl rfl | exact Or.inr rfl
  refine pef_fn F_row_spread (hr.mono (by decide)) ?_ ?_
  rfl
  refine paf_c ?_ ?_ ?_
  exact (pef_var (pv 1))
  refine paf_c ?_ ?_ ?_
  exact (pef_var (pv 4))
  refine paf_c ?_ ?_ ?_
  exact (pef_var (pv 3))
  refine paf_c ?_ ?_ ?_
  exact (pef_var (pv 7))
  refine paf_c ?_ ?_ ?_
  exact (pef_var (pv 6))
  exact paf_nil
  rfl
  rfl
  rfl
  rfl
  rfl
  refine pssf_cons ?_ pssf_nil
  refine psf_if ?_ ?_ pssf_nil
  exact ptf_cmp opf_isn (pef_var (pv 8)) pef_non (nomark _)
  refine pssf_cons ?_ pssf_nil
  refine psf_asg pef_bl ?_
  exact pgf_sub (pef_var (pv 5)) (pef_var (pv 8)) (dsetf hr.units)
  refine pssf_cons ?_ pssf_nil
  refine psf_ret ?_
  refine pef_tup ?_
  refine paf_c ?_ ?_ ?_
  exact (pef_var (pv 2))
  refine paf_c ?_ ?_ ?_
  refine pef_callTy callf_tuple ?_ T.n_tuple bb_tuple ?_
  rfl
  refine paf_c ?_ ?_ ?_
  refine pef_callB (callf_sortT (by rfl) hr.units) ?_ T.n_sorted bb_sorted ?_
  rfl
  refine paf_c ?_ ?_ ?_
  exact (pef_var (pv 5))
  exact paf_nil
  rfl
  exact paf_nil
  rfl
  exact paf_nil
  rfl
  rfl
theorem ok_keeps (T : Top K mg) (F_spread : Fn P w K mg base 3 "spread" ["claim"] m_spread) (F_is_kept : Fn P w K mg base 3 "is_kept" ["row", "play"] m_is_kept) (F_is_truth : Fn P w K mg base 1 "is_truth" ["thing"] m_is_truth) (F_parts_of : Fn P w K mg base 2 "parts_of" ["kinds"] m_parts_of) : Fn P w K mg base 4 "keeps" ["claim", "thing"] m_keeps := by
  refine (fun h => h : _ → Fn P w K mg base 4 "keeps" ["claim", "thing"] (runB 2 2 b_keeps)) (fn_mk (N := ["claim", "thing"]) (k := 3) T.t_keeps sc_keeps (fun _ _ _ _ _ _ us hl => by obtain ⟨_, _, rfl⟩ := us2 hl; rfl) ?_)
  intro f cdv A outer s H E hr
  unfold b_keeps
  refine pssf_cons ?_ ?_
  refine psf_if ?_ ?_ pssf_nil
  refine PWf.pt ?_
  refine pwf_or ?_ ?_
  refine ptf_not ?_
  refine ptf_truth ?_ (fun _ => rfl)
  refine pef_callB callf_isi ?_ T.n_isinstance bb_isinstance ?_
  rfl
  refine paf_c ?_ ?_ ?_
  exact (pef_var (pv 1))
  refine paf_c ?_ ?_ ?_
  refine pef_ty ?_ T.n_tuple bb_tuple
  rfl
  exact paf_nil
  rfl
  rfl
  refine pwf_or1 ?_
  refine ptf_cmp (opf_ne hr.units) ?_ ?_ (nomark _)
  refine pef_callB callf_len ?_ T.n_len bb_len ?_
  rfl
  refine paf_c ?_ ?_ ?_
  exact (pef_var (pv 1))
  exact paf_nil
  rfl
  refine pef_callB callf_len ?_ T.n_len bb_len ?_
  rfl
  refine paf_c ?_ ?_ ?_
  refine pef_fn F_parts_of (hr.mono (by decide)) ?_ ?_
  rfl
  refine paf_c ?_ ?_ ?_
  exact pef_ix ixf (pef_var (pv 0)) pef_int (fun _ _ => rfl)
  exact paf_nil
  rfl
  exact paf_nil
  rfl
  refine pssf_cons ?_ pssf_nil
  exact psf_ret pef_bl
  refine pssf_cons ?_ ?_
  refine psf_if ?_ ?_ pssf_nil
  refine ptf_not ?_
  refine ptf_truth ?_ (fun _ => rfl)
  refine pef_callB (callf_all (by rfl)) ?_ T.n_all bb_all ?_
  rfl
  refine paf_c ?_ ?_ ?_
  refine pef_lc (cn := []) ?_ (blk_fn (x := "picked") (cn := []) (ci := []) (by decide +kernel)) ?_ ?_ ?_
  rfl
  exact pif_seq (pef_var (pv 1))
  intro _ _ _ _ _ _
  exact ptsf_nil
  intro _ _ _ _ _ _
  refine pef_fn F_is_truth (hr.mono (by decide)) ?_ ?_
  rfl
  refine paf_c ?_ ?_ ?_
  exact (pef_var (pv 0))
  exact paf_nil
  rfl
  exact paf_nil
  rfl
  refine pssf_cons ?_ pssf_nil
  exact psf_ret pef_bl
  refine pssf_cons ?_ pssf_nil
  refine psf_ret ?_
  refine pef_callB (callf_all (by rfl)) ?_ T.n_all bb_all ?_
  rfl
  refine paf_c ?_ ?_ ?_
  refine pef_lc (cn := ["thing"]) ?_ (blk_fn (x := "row") (cn := ["thing"]) (ci := [1]) (by decide +kernel)) ?_ ?_ ?_
  rfl
  refine pif_seq ?_
  refine pef_ix ixf ?_ pef_int (fun _ _ => rfl)
  refine pef_fn F_spread (hr.mono (by decide)) ?_ ?_
  rfl
  refine paf_c ?_ ?_ ?_
  exact (pef_var (pv 0))
  exact paf_nil
  rfl
  intro _ _ _ _ _ _
  exact ptsf_nil
  intro _ _ _ _ _ _
  refine pef_fn F_is_kept (hr.mono (by decide)) ?_ ?_
  rfl
  refine paf_c ?_ ?_ ?_
  exact (pef_var (pv 0))
  refine paf_c ?_ ?_ ?_
  exact (pef_var (pv 1))
  exact paf_nil
  rfl
  rfl
  exact paf_nil
  rfl
theorem ok_law_mix (T : Top K mg) : Fn P w K mg base 1 "_law_mix" ["cell", "k"] m_law_mix := by
  refine (fun h => h : _ → Fn P w K mg base 1 "_law_mix" ["cell", "k"] (runB 2 4 b_law_mix)) (fn_mk (N := ["cell", "k", "prime", "one"]) (k := 0) T.t_law_mix sc_law_mix (fun _ _ _ _ _ _ us hl => by obtain ⟨_, _, rfl⟩ := us2 hl; rfl) ?_)
  intro f cdv A outer s H E hr
  unfold b_law_mix
  refine pssf_cons ?_ ?_
  refine psf_set (i := 2) ?_ ?_ ?_ ?_
  exact sc_law_mix.nd
  rfl
  first | exact Or.inl rfl | exact Or.inr rfl
  refine pef_ix ixf ?_ ?_ (fun _ _ => rfl)
  refine pef_lst ?_
  refine paf_c ?_ ?_ ?_
  exact pef_int
  refine paf_c ?_ ?_ ?_
  exact pef_int
  refine paf_c ?_ ?_ ?_
  exact pef_int
  refine paf_c ?_ ?_ ?_
  exact pef_int
  refine paf_c ?_ ?_ ?_
  exact pef_int
  refine paf_c ?_ ?_ ?_
  exact pef_int
  refine paf_c ?_ ?_ ?_
  exact pef_int
  exact paf_nil
  rfl
  rfl
  rfl
  rfl
  rfl
  rfl
  rfl
  exact pef_op opf_mod (pef_var (pv 1)) pef_int
  refine pssf_cons ?_ ?_
  refine psf_set (i := 3) ?_ ?_ ?_ ?_
  exact sc_law_mix.nd
  rfl
  first | exact Or.inl rfl | exact Or.inr rfl
  refine pef_op opf_mod ?_ (pef_var (pv 2))
  refine pef_op opf_mul ?_ ?_
  refine pef_op opf_add ?_ ?_
  exact pef_op opf_mod (pef_var (pv 0)) pef_int
  refine pef_op opf_mul pef_int ?_
  exact pef_op opf_add (pef_var (pv 1)) pef_int
  refine pef_op opf_add ?_ pef_int
  refine pef_op opf_add ?_ ?_
  exact pef_op opf_mul (pef_var (pv 1)) (pef_var (pv 1))
  exact pef_op opf_mul pef_int (pef_var (pv 1))
  refine pssf_cons ?_ ?_
  refine psf_set (i := 3) ?_ ?_ ?_ ?_
  exact sc_law_mix.nd
  rfl
  first | exact Or.inl rfl | exact Or.inr rfl
  refine pef_op opf_mod ?_ pef_int
  exact pef_op opf_pow (pef_var (pv 3)) pef_int
  refine pssf_cons ?_ ?_
  refine psf_set (i := 3) ?_ ?_ ?_ ?_
  exact sc_law_mix.nd
  rfl
  first | exact Or.inl rfl | exact Or.inr rfl
  refine pef_op opf_mod ?_ (pef_var (pv 2))
  refine pef_op opf_add ?_ pef_int
  refine pef_op opf_add ?_ ?_
  exact pef_op opf_mul (pef_var (pv 3)) pef_int
  exact pef_op opf_mul pef_int (pef_var (pv 1))
  refine pssf_cons ?_ pssf_nil
  refine psf_ret ?_
  refine pef_op opf_fdiv ?_ pef_int
  refine pef_op opf_mod ?_ pef_int
  exact pef_op opf_pow (pef_var (pv 3)) pef_int
theorem ok_law_digits (T : Top K mg) (F_law_mix : Fn P w K mg base 1 "_law_mix" ["cell", "k"] m_law_mix) : Fn P w K mg base 2 "_law_digits" ["cell", "many"] m_law_digits := by
  refine (fun h => h : _ → Fn P w K mg base 2 "_law_digits" ["cell", "many"] (runB 2 6 b_law_digits)) (fn_mk (N := ["cell", "many", "found", "left_over", "wide", "k"]) (k := 1) T.t_law_digits sc_law_digits (fun _ _ _ _ _ _ us hl => by obtain ⟨_, _, rfl⟩ := us2 hl; rfl) ?_)
  intro f cdv A outer s H E hr
  unfold b_law_digits
  refine pssf_cons ?_ ?_
  refine psf_set (i := 2) ?_ ?_ ?_ ?_
  exact sc_law_digits.nd
  rfl
  first | exact Or.inl rfl | exact Or.inr rfl
  exact pef_lst paf_nil
  refine pssf_cons ?_ ?_
  refine psf_set (i := 3) ?_ ?_ ?_ ?_
  exact sc_law_digits.nd
  rfl
  first | exact Or.inl rfl | exact Or.inr rfl
  refine pef_callB callf_abs ?_ T.n_abs bb_abs ?_
  rfl
  refine paf_c ?_ ?_ ?_
  exact (pef_var (pv 0))
  exact paf_nil
  rfl
  refine pssf_cons ?_ ?_
  refine psf_set (i := 4) ?_ ?_ ?_ ?_
  exact sc_law_digits.nd
  rfl
  first | exact Or.inl rfl | exact Or.inr rfl
  refine pef_cmp opf_ge (pef_var (pv 3)) ?_ (nomark _)
  exact pef_op opf_pow pef_int pef_int
  refine pssf_cons ?_ ?_
  refine psf_for PassesOwn.never ?_ ?_ ?_ ?_
  rfl
  refine pif_range1 ?_ T.n_range ?_
  rfl
  refine paf_c ?_ ?_ ?_
  exact (pef_var (pv 1))
  exact paf_nil
  rfl
  refine pgf_name (i := 5) ?_ ?_ ?_
  exact sc_law_digits.nd
  rfl
  first | exact Or.inl rfl | exact Or.inr rfl
  refine pssf_cons ?_ pssf_nil
  refine psf_if ?_ ?_ ?_
  refine PWf.pt ?_
  refine pwf_and ?_ ?_
  exact ptf_truth (pef_var (pv 4)) (fun _ => rfl)
  refine pwf_and1 ?_
  exact ptf_cmp opf_gt (pef_var (pv 3)) pef_int (nomark _)
  refine pssf_cons ?_ ?_
  refine psf_expr ?_
  refine pef_lm PySem.F.slot_list_append PySem.F.type_list_append mtf_append (pef_var (pv 2)) ?_
  refine paf_c ?_ ?_ ?_
  exact pef_op opf_mod (pef_var (pv 3)) pef_int
  exact paf_nil
  rfl
  refine pssf_cons ?_ pssf_nil
  refine psf_set (i := 3) ?_ ?_ ?_ ?_
  exact sc_law_digits.nd
  rfl
  first | exact Or.inl rfl | exact Or.inr rfl
  exact pef_op opf_fdiv (pef_var (pv 3)) pef_int
  refine pssf_cons ?_ pssf_nil
  refine psf_expr ?_
  refine pef_lm PySem.F.slot_list_append PySem.F.type_list_append mtf_append (pef_var (pv 2)) ?_
  refine paf_c ?_ ?_ ?_
  refine pef_fn F_law_mix (hr.mono (by decide)) ?_ ?_
  rfl
  refine paf_c ?_ ?_ ?_
  exact (pef_var (pv 0))
  refine paf_c ?_ ?_ ?_
  exact (pef_var (pv 5))
  exact paf_nil
  rfl
  rfl
  exact paf_nil
  rfl
  refine pssf_cons ?_ pssf_nil
  exact psf_ret (pef_var (pv 2))
theorem ok_law_at (T : Top K mg) : Fn P w K mg base 1 "_law_at" ["script", "k"] m_law_at := by
  refine (fun h => h : _ → Fn P w K mg base 1 "_law_at" ["script", "k"] (runB 2 2 b_law_at)) (fn_mk (N := ["script", "k"]) (k := 0) T.t_law_at sc_law_at (fun _ _ _ _ _ _ us hl => by obtain ⟨_, _, rfl⟩ := us2 hl; rfl) ?_)
  intro f cdv A outer s H E hr
  unfold b_law_at
  refine pssf_cons ?_ ?_
  refine psf_if ?_ ?_ pssf_nil
  refine ptf_cmp opf_lt (pef_var (pv 1)) ?_ (nomark _)
  refine pef_callB callf_len ?_ T.n_len bb_len ?_
  rfl
  refine paf_c ?_ ?_ ?_
  exact (pef_var (pv 0))
  exact paf_nil
  rfl
  refine pssf_cons ?_ pssf_nil
  refine psf_ret ?_
  exact pef_ix ixf (pef_var (pv 0)) (pef_var (pv 1)) (fun _ _ => rfl)
  refine pssf_cons ?_ pssf_nil
  refine psf_ret ?_
  refine pef_op opf_add ?_ ?_
  refine pef_op opf_add ?_ pef_int
  exact pef_op opf_mul pef_int (pef_var (pv 1))
  refine pef_callB callf_len ?_ T.n_len bb_len ?_
  rfl
  refine paf_c ?_ ?_ ?_
  exact (pef_var (pv 0))
  exact paf_nil
  rfl
theorem ok_law_row (T : Top K mg) (F_law_digits : Fn P w K mg base 2 "_law_digits" ["cell", "many"] m_law_digits) : Fn P w K mg base 3 "_law_row" ["cell", "many", "wide"] m_law_row := by
  refine (fun h => h : _ → Fn P w K mg base 3 "_law_row" ["cell", "many", "wide"] (runB 3 6 b_law_row)) (fn_mk (N := ["cell", "many", "wide", "some", "found", "k"]) (k := 2) T.t_law_row sc_law_row (fun _ _ _ _ _ _ us hl => by obtain ⟨_, _, _, rfl⟩ := us3 hl; rfl) ?_)
  intro f cdv A outer s H E hr
  unfold b_law_row
  refine pssf_cons ?_ ?_
  refine psf_set (i := 3) ?_ ?_ ?_ ?_
  exact sc_law_row.nd
  rfl
  first | exact Or.inl rfl | exact Or.inr rfl
  refine pef_fn F_law_digits (hr.mono (by decide)) ?_ ?_
  rfl
  refine paf_c ?_ ?_ ?_
  exact (pef_var (pv 0))
  refine paf_c ?_ ?_ ?_
  exact pef_op opf_add (pef_var (pv 1)) pef_int
  exact paf_nil
  rfl
  rfl
  refine pssf_cons ?_ ?_
  refine psf_set (i := 4) ?_ ?_ ?_ ?_
  exact sc_law_row.nd
  rfl
  first | exact Or.inl rfl | exact Or.inr rfl
  exact pef_lst paf_nil
  refine pssf_cons ?_ ?_
  refine psf_for PassesOwn.never ?_ ?_ ?_ ?_
  rfl
  refine pif_range1 ?_ T.n_range ?_
  rfl
  refine paf_c ?_ ?_ ?_
  exact (pef_var (pv 1))
  exact paf_nil
  rfl
  refine pgf_name (i := 5) ?_ ?_ ?_
  exact sc_law_row.nd
  rfl
  first | exact Or.inl rfl | exact Or.inr rfl
  refine pssf_cons ?_ pssf_nil
  refine psf_if ?_ ?_ pssf_nil
  refine ptf_cmp opf_lt ?_ ?_ (nomark _)
  refine pef_op opf_mod ?_ ?_
  refine pef_ix ixf (pef_var (pv 3)) ?_ (fun _ _ => rfl)
  exact pef_op opf_add pef_int (pef_var (pv 5))
  exact pef_op opf_add (pef_var (pv 1)) pef_int
  refine pef_op opf_add (pef_var (pv 2)) ?_
  refine pef_op opf_mod ?_ pef_int
  exact pef_ix ixf (pef_var (pv 3)) pef_int (fun _ _ => rfl)
  refine pssf_cons ?_ pssf_nil
  refine psf_expr ?_
  refine pef_lm PySem.F.slot_list_append PySem.F.type_list_append mtf_append (pef_var (pv 4)) ?_
  refine paf_c ?_ ?_ ?_
  refine pef_ix ixf ?_ ?_ (fun _ _ => rfl)
  refine pef_lst ?_
  refine paf_c ?_ ?_ ?_
  exact pef_op opf_add (pef_var (pv 5)) pef_int
  refine paf_c ?_ ?_ ?_
  refine pef_op opf_sub ?_ pef_int
  exact pef_op opf_sub pef_int (pef_var (pv 5))
  exact paf_nil
  rfl
  rfl
  refine pef_op opf_mod ?_ pef_int
  refine pef_op opf_fdiv ?_ ?_
  refine pef_ix ixf (pef_var (pv 3)) ?_ (fun _ _ => rfl)
  exact pef_op opf_add pef_int (pef_var (pv 5))
  exact pef_op opf_add (pef_var (pv 1)) pef_int
  exact paf_nil
  rfl
  refine pssf_cons ?_ pssf_nil
  refine psf_ret ?_
  refine pef_callTy callf_tuple ?_ T.n_tuple bb_tuple ?_
  rfl
  refine paf_c ?_ ?_ ?_
  exact (pef_var (pv 4))
  exact paf_nil
  rfl
theorem ok_law_small (T : Top K mg) (F_law_row : Fn P w K mg base 3 "_law_row" ["cell", "many", "wide"] m_law_row) (F_law_at : Fn P w K mg base 1 "_law_at" ["script", "k"] m_law_at) (F_law_digits : Fn P w K mg base 2 "_law_digits" ["cell", "many"] m_law_digits) : Fn P w K mg base 4 "_law_small" ["script"] m_law_small := by
  refine (fun h => h : _ → Fn P w K mg base 4 "_law_small" ["script"] (runB 1 5 b_law_small)) (fn_mk (N := ["script", "some", "words", "kinds", "rows"]) (k := 3) T.t_law_small sc_law_small (fun _ _ _ _ _ _ us hl => by obtain ⟨_, rfl⟩ := us1 hl; rfl) ?_)
  intro f cdv A outer s H E hr
  unfold b_law_small
  refine pssf_cons ?_ ?_
  refine psf_set (i := 1) ?_ ?_ ?_ ?_
  exact sc_law_small.nd
  rfl
  first | exact Or.inl rfl | exact Or.inr rfl
  refine pef_fn F_law_digits (hr.mono (by decide)) ?_ ?_
  rfl
  refine paf_c ?_ ?_ ?_
  refine pef_fn F_law_at (hr.mono (by decide)) ?_ ?_
  rfl
  refine paf_c ?_ ?_ ?_
  exact (pef_var (pv 0))
  refine paf_c ?_ ?_ ?_
  exact pef_int
  exact paf_nil
  rfl
  rfl
  refine paf_c ?_ ?_ ?_
  exact pef_int
  exact paf_nil
  rfl
  rfl
  refine pssf_cons ?_ ?_
  refine psf_set (i := 2) ?_ ?_ ?_ ?_
  exact sc_law_small.nd
  rfl
  first | exact Or.inl rfl | exact Or.inr rfl
  refine pef_lst ?_
  refine paf_c ?_ ?_ ?_
  exact pef_str
  refine paf_c ?_ ?_ ?_
  exact pef_str
  refine paf_c ?_ ?_ ?_
  exact pef_str
  refine paf_c ?_ ?_ ?_
  exact pef_str
  refine paf_c ?_ ?_ ?_
  exact pef_str
  refine paf_c ?_ ?_ ?_
  exact pef_str
  refine paf_c ?_ ?_ ?_
  exact pef_str
  refine paf_c ?_ ?_ ?_
  exact pef_str
  exact paf_nil
  rfl
  rfl
  rfl
  rfl
  rfl
  rfl
  rfl
  rfl
  refine pssf_cons ?_ ?_
  refine psf_set (i := 2) ?_ ?_ ?_ ?_
  exact sc_law_small.nd
  rfl
  first | exact Or.inl rfl | exact Or.inr rfl
  refine pef_op opf_add (pef_var (pv 2)) ?_
  refine pef_lst ?_
  refine paf_c ?_ ?_ ?_
  exact pef_str
  refine paf_c ?_ ?_ ?_
  exact pef_str
  refine paf_c ?_ ?_ ?_
  exact pef_str
  refine paf_c ?_ ?_ ?_
  exact pef_str
  refine paf_c ?_ ?_ ?_
  exact pef_str
  refine paf_c ?_ ?_ ?_
  exact pef_str
  refine paf_c ?_ ?_ ?_
  exact pef_str
  refine paf_c ?_ ?_ ?_
  exact pef_str
  exact paf_nil
  rfl
  rfl
  rfl
  rfl
  rfl
  rfl
  rfl
  rfl
  refine pssf_cons ?_ ?_
  refine psf_set (i := 3) ?_ ?_ ?_ ?_
  exact sc_law_small.nd
  rfl
  first | exact Or.inl rfl | exact Or.inr rfl
  refine pef_callTy callf_tuple ?_ T.n_tuple bb_tuple ?_
  rfl
  refine paf_c ?_ ?_ ?_
  refine pef_lc (cn := []) ?_ (blk_fn (x := "sign") (cn := []) (ci := []) (by decide +kernel)) ?_ ?_ ?_
  rfl
  refine pif_txt ?_
  refine pef_ix ixf (pef_var (pv 2)) ?_ (fun _ _ => rfl)
  refine pef_op opf_mod ?_ pef_int
  exact pef_ix ixf (pef_var (pv 1)) pef_int (fun _ _ => rfl)
  intro _ _ _ _ _ _
  exact ptsf_nil
  intro _ _ _ _ _ _
  refine pef_ix ixf ?_ ?_ (fun _ _ => rfl)
  refine pef_lst ?_
  refine paf_c ?_ ?_ ?_
  exact pef_str
  refine paf_c ?_ ?_ ?_
  exact pef_str
  exact paf_nil
  rfl
  rfl
  refine pef_callTy callf_int ?_ T.n_int bb_int ?_
  rfl
  refine paf_c ?_ ?_ ?_
  exact pef_cmp (opf_eq hr.units) (pef_var (pv 0)) pef_str (nomark _)
  exact paf_nil
  rfl
  exact paf_nil
  rfl
  refine pssf_cons ?_ ?_
  refine psf_lcset (i := 4) (cn := ["script", "kinds"]) ?_ (blk_fn (x := "k") (cn := ["script", "kinds"]) (ci := [0, 3]) (by decide +kernel)) ?_ ?_ ?_ ?_ ?_ ?_
  rfl
  refine pif_range1 ?_ T.n_range ?_
  rfl
  refine paf_c ?_ ?_ ?_
  refine pef_ix ixf ?_ ?_ (fun _ _ => rfl)
  refine pef_lst ?_
  refine paf_c ?_ ?_ ?_
  refine pef_op opf_mod ?_ pef_int
  exact pef_ix ixf (pef_var (pv 1)) pef_int (fun _ _ => rfl)
  refine paf_c ?_ ?_ ?_
  refine pef_op opf_mod ?_ pef_int
  exact pef_ix ixf (pef_var (pv 1)) pef_int (fun _ _ => rfl)
  exact paf_nil
  rfl
  rfl
  refine pef_op opf_mod ?_ pef_int
  exact pef_ix ixf (pef_var (pv 1)) pef_int (fun _ _ => rfl)
  exact paf_nil
  rfl
  intro _ _ _ _ _ _
  exact ptsf_nil
  intro _ _ _ _ _ _
  refine pef_fn F_law_row (hr.mono (by decide)) ?_ ?_
  rfl
  refine paf_c ?_ ?_ ?_
  refine pef_fn F_law_at (hr.mono (by decide)) ?_ ?_
  rfl
  refine paf_c ?_ ?_ ?_
  exact (pef_var (pv 1))
  refine paf_c ?_ ?_ ?_
  exact pef_op opf_add pef_int (pef_var (pv 0))
  exact paf_nil
  rfl
  rfl
  refine paf_c ?_ ?_ ?_
  refine pef_callB callf_len ?_ T.n_len bb_len ?_
  rfl
  refine paf_c ?_ ?_ ?_
  exact (pef_var (pv 2))
  exact paf_nil
  rfl
  refine paf_c ?_ ?_ ?_
  exact pef_int
  exact paf_nil
  rfl
  rfl
  rfl
  exact sc_law_small.nd
  rfl
  rfl
  refine pssf_cons ?_ ?_
  refine psf_if ?_ ?_ pssf_nil
  refine ptf_cmp opf_gt ?_ pef_int (nomark _)
  refine pef_op opf_mod ?_ pef_int
  exact pef_ix ixf (pef_var (pv 1)) pef_int (fun _ _ => rfl)
  refine pssf_cons ?_ pssf_nil
  refine psf_lcset (i := 4) (cn := []) ?_ (blk_fn (x := "row") (cn := []) (ci := []) (by decide +kernel)) ?_ ?_ ?_ ?_ ?_ ?_
  rfl
  exact pif_seq (pef_var (pv 4))
  intro _ _ _ _ _ _
  refine ptsf_one ?_
  refine ptf_cmp (opf_ne hr.units) (pef_var (pv 0)) ?_ (nomark _)
  exact pef_tup paf_nil
  intro _ _ _ _ _ _
  exact (pef_var (pv 0))
  exact sc_law_small.nd
  rfl
  rfl
  refine pssf_cons ?_ pssf_nil
  refine psf_ret ?_
  refine pef_tup ?_
  refine paf_c ?_ ?_ ?_
  exact (pef_var (pv 3))
  refine paf_c ?_ ?_ ?_
  refine pef_callTy callf_tuple ?_ T.n_tuple bb_tuple ?_
  rfl
  refine paf_c ?_ ?_ ?_
  exact (pef_var (pv 4))
  exact paf_nil
  rfl
  exact paf_nil
  rfl
  rfl
theorem ok_law_choices (T : Top K mg) : Fn P w K mg base 1 "_law_choices" ["many"] m_law_choices := by
  refine (fun h => h : _ → Fn P w K mg base 1 "_law_choices" ["many"] (runB 1 5 b_law_choices)) (fn_mk (N := ["many", "found", "turn", "both", "one"]) (k := 0) T.t_law_choices sc_law_choices (fun _ _ _ _ _ _ us hl => by obtain ⟨_, rfl⟩ := us1 hl; rfl) ?_)
  intro f cdv A outer s H E hr
  unfold b_law_choices
  refine pssf_cons ?_ ?_
  refine psf_set (i := 1) ?_ ?_ ?_ ?_
  exact sc_law_choices.nd
  rfl
  first | exact Or.inl rfl | exact Or.inr rfl
  refine pef_lst ?_
  refine paf_c ?_ ?_ ?_
  exact pef_tup paf_nil
  exact paf_nil
  rfl
  refine pssf_cons ?_ ?_
  refine psf_for PassesOwn.never ?_ ?_ ?_ ?_
  rfl
  refine pif_range1 ?_ T.n_range ?_
  rfl
  refine paf_c ?_ ?_ ?_
  exact (pef_var (pv 0))
  exact paf_nil
  rfl
  refine pgf_name (i := 2) ?_ ?_ ?_
  exact sc_law_choices.nd
  rfl
  first | exact Or.inl rfl | exact Or.inr rfl
  refine pssf_cons ?_ ?_
  refine psf_set (i := 3) ?_ ?_ ?_ ?_
  exact sc_law_choices.nd
  rfl
  first | exact Or.inl rfl | exact Or.inr rfl
  exact pef_lst paf_nil
  refine pssf_cons ?_ ?_
  refine psf_for PassesOwn.never ?_ ?_ ?_ ?_
  rfl
  exact pif_seq (pef_var (pv 1))
  refine pgf_name (i := 4) ?_ ?_ ?_
  exact sc_law_choices.nd
  rfl
  first | exact Or.inl rfl | exact Or.inr rfl
  refine pssf_cons ?_ pssf_nil
  refine psf_set (i := 3) ?_ ?_ ?_ ?_
  exact sc_law_choices.nd
  rfl
  first | exact Or.inl rfl | exact Or.inr rfl
  refine pef_op opf_add (pef_var (pv 3)) ?_
  refine pef_lst ?_
  refine paf_c ?_ ?_ ?_
  refine pef_op opf_add (pef_var (pv 4)) ?_
  refine pef_tup ?_
  refine paf_c ?_ ?_ ?_
  exact pef_bl
  exact paf_nil
  rfl
  refine paf_c ?_ ?_ ?_
  refine pef_op opf_add (pef_var (pv 4)) ?_
  refine pef_tup ?_
  refine paf_c ?_ ?_ ?_
  exact pef_bl
  exact paf_nil
  rfl
  exact paf_nil
  rfl
  rfl
  refine pssf_cons ?_ pssf_nil
  refine psf_set (i := 1) ?_ ?_ ?_ (pef_var (pv 3))
  exact sc_law_choices.nd
  rfl
  first | exact Or.inl rfl | exact Or.inr rfl
  refine pssf_cons ?_ pssf_nil
  exact psf_ret (pef_var (pv 1))
theorem ok_law (T : Top K mg) (F_winner : Fn P w K mg base 13 "winner" ["claim", "play"] m_winner) (F_how_many_plans : Fn P w K mg base 13 "how_many_plans" ["claim", "side"] m_how_many_plans) (F_law_choices : Fn P w K mg base 1 "_law_choices" ["many"] m_law_choices) (F_keeps : Fn P w K mg base 4 "keeps" ["claim", "thing"] m_keeps) (F_spread : Fn P w K mg base 3 "spread" ["claim"] m_spread) (F_law_small : Fn P w K mg base 4 "_law_small" ["script"] m_law_small) : Fn P w K mg base 14 "law" ["script"] m_law := by
  refine (fun h => h : _ → Fn P w K mg base 14 "law" ["script"] (runB 1 5 b_law)) (fn_mk (N := ["script", "claim", "parts", "many", "told"]) (k := 13) T.t_law sc_law (fun _ _ _ _ _ _ us hl => by obtain ⟨_, rfl⟩ := us1 hl; rfl) ?_)
  intro f cdv A outer s H E hr
  unfold b_law
  refine pssf_cons ?_ ?_
  refine psf_set (i := 1) ?_ ?_ ?_ ?_
  exact sc_law.nd
  rfl
  first | exact Or.inl rfl | exact Or.inr rfl
  refine pef_fn F_law_small (hr.mono (by decide)) ?_ ?_
  rfl
  refine paf_c ?_ ?_ ?_
  exact (pef_var (pv 0))
  exact paf_nil
  rfl
  refine pssf_cons ?_ ?_
  refine psf_set (i := 2) ?_ ?_ ?_ ?_
  exact sc_law.nd
  rfl
  first | exact Or.inl rfl | exact Or.inr rfl
  refine pef_ix ixf ?_ pef_int (fun _ _ => rfl)
  refine pef_fn F_spread (hr.mono (by decide)) ?_ ?_
  rfl
  refine paf_c ?_ ?_ ?_
  exact (pef_var (pv 1))
  exact paf_nil
  rfl
  refine pssf_cons ?_ ?_
  refine psf_if ?_ ?_ pssf_nil
  refine ptf_cmp opf_gt ?_ pef_int (nomark _)
  refine pef_callB callf_len ?_ T.n_len bb_len ?_
  rfl
  refine paf_c ?_ ?_ ?_
  exact (pef_var (pv 2))
  exact paf_nil
  rfl
  refine pssf_cons ?_ pssf_nil
  exact psf_ret pef_bl
  refine pssf_cons ?_ ?_
  refine psf_set (i := 3) ?_ ?_ ?_ ?_
  exact sc_law.nd
  rfl
  first | exact Or.inl rfl | exact Or.inr rfl
  refine pef_callB callf_len ?_ T.n_len bb_len ?_
  rfl
  refine paf_c ?_ ?_ ?_
  refine pef_lc (cn := ["claim"]) ?_ (blk_fn (x := "one") (cn := ["claim"]) (ci := [1]) (by decide +kernel)) ?_ ?_ ?_
  rfl
  refine pif_seq ?_
  refine pef_fn F_law_choices (hr.mono (by decide)) ?_ ?_
  rfl
  refine paf_c ?_ ?_ ?_
  refine pef_callB callf_len ?_ T.n_len bb_len ?_
  rfl
  refine paf_c ?_ ?_ ?_
  exact (pef_var (pv 2))
  exact paf_nil
  rfl
  exact paf_nil
  rfl
  intro _ _ _ _ _ _
  refine ptsf_one ?_
  refine ptf_cmp opf_is ?_ pef_bl (nomark _)
  refine pef_fn F_keeps (hr.mono (by decide)) ?_ ?_
  rfl
  refine paf_c ?_ ?_ ?_
  exact (pef_var (pv 1))
  refine paf_c ?_ ?_ ?_
  exact (pef_var (pv 0))
  exact paf_nil
  rfl
  rfl
  intro _ _ _ _ _ _
  exact (pef_var (pv 0))
  exact paf_nil
  rfl
  refine pssf_cons ?_ ?_
  refine psf_set (i := 4) ?_ ?_ ?_ ?_
  exact sc_law.nd
  rfl
  first | exact Or.inl rfl | exact Or.inr rfl
  refine pef_fn F_how_many_plans (hr.mono (by decide)) ?_ ?_
  rfl
  refine paf_c ?_ ?_ ?_
  exact (pef_var (pv 1))
  refine paf_c ?_ ?_ ?_
  exact pef_str
  exact paf_nil
  rfl
  rfl
  refine pssf_cons ?_ ?_
  refine psf_if ?_ ?_ pssf_nil
  refine PWf.pt ?_
  refine pwf_or ?_ ?_
  refine ptf_truth ?_ (fun _ => rfl)
  refine pef_callB callf_isi ?_ T.n_isinstance bb_isinstance ?_
  rfl
  refine paf_c ?_ ?_ ?_
  exact (pef_var (pv 4))
  refine paf_c ?_ ?_ ?_
  refine pef_ty ?_ T.n_bool bb_bool
  rfl
  exact paf_nil
  rfl
  rfl
  refine pwf_or ?_ ?_
  refine ptf_not ?_
  refine ptf_truth ?_ (fun _ => rfl)
  refine pef_callB callf_isi ?_ T.n_isinstance bb_isinstance ?_
  rfl
  refine paf_c ?_ ?_ ?_
  exact (pef_var (pv 4))
  refine paf_c ?_ ?_ ?_
  refine pef_ty ?_ T.n_int bb_int
  rfl
  exact paf_nil
  rfl
  rfl
  refine pwf_or1 ?_
  exact ptf_cmp (opf_ne hr.units) (pef_var (pv 4)) (pef_var (pv 3)) (nomark _)
  refine pssf_cons ?_ pssf_nil
  exact psf_ret pef_bl
  refine pssf_cons ?_ pssf_nil
  refine psf_ret ?_
  refine pef_cmp (opf_eq hr.units) ?_ ?_ (nomark _)
  exact pef_cmp opf_gt (pef_var (pv 3)) pef_int (nomark _)
  refine pef_cmp (opf_eq hr.units) ?_ pef_str (nomark _)
  refine pef_fn F_winner (hr.mono (by decide)) ?_ ?_
  rfl
  refine paf_c ?_ ?_ ?_
  exact (pef_var (pv 1))
  refine paf_c ?_ ?_ ?_
  exact pef_tup paf_nil
  exact paf_nil
  rfl
  rfl
theorem ok_all (T : Top K mg) : Fn P w K mg base 14 "law" ["script"] m_law := by
  have F_is_truth := ok_is_truth (P := P) (w := w) (base := base) T
  have F_is_open := ok_is_open (P := P) (w := w) (base := base) T
  have F_is_right := ok_is_right (P := P) (w := w) (base := base) T F_is_open
  have F_is_kept := ok_is_kept (P := P) (w := w) (base := base) T F_is_right
  have F_first_numbers := ok_first_numbers (P := P) (w := w) (base := base) T
  have F_rows_behind := ok_rows_behind (P := P) (w := w) (base := base) T
  have F_rows_behind_play := ok_rows_behind_play (P := P) (w := w) (base := base) T F_rows_behind F_first_numbers
  have F_other_side := ok_other_side (P := P) (w := w) (base := base) T
  have F_winner_behind := ok_winner_behind (P := P) (w := w) (base := base) T F_other_side F_rows_behind
  have F_winner := ok_winner (P := P) (w := w) (base := base) T F_winner_behind F_rows_behind_play
  have F_plans_behind := ok_plans_behind (P := P) (w := w) (base := base) T F_rows_behind
  have F_how_many_plans := ok_how_many_plans (P := P) (w := w) (base := base) T F_plans_behind F_first_numbers
  have F_names_ahead := ok_names_ahead (P := P) (w := w) (base := base) T
  have F_choices := ok_choices (P := P) (w := w) (base := base) T
  have F_parts_of := ok_parts_of (P := P) (w := w) (base := base) T F_choices F_names_ahead
  have F_row_spread := ok_row_spread (P := P) (w := w) (base := base) T
  have F_spread := ok_spread (P := P) (w := w) (base := base) T F_choices F_row_spread F_names_ahead F_parts_of
  have F_keeps := ok_keeps (P := P) (w := w) (base := base) T F_spread F_is_kept F_is_truth F_parts_of
  have F_law_mix := ok_law_mix (P := P) (w := w) (base := base) T
  have F_law_digits := ok_law_digits (P := P) (w := w) (base := base) T F_law_mix
  have F_law_at := ok_law_at (P := P) (w := w) (base := base) T
  have F_law_row := ok_law_row (P := P) (w := w) (base := base) T F_law_digits
  have F_law_small := ok_law_small (P := P) (w := w) (base := base) T F_law_row F_law_at F_law_digits
  have F_law_choices := ok_law_choices (P := P) (w := w) (base := base) T
  have F_law := ok_law (P := P) (w := w) (base := base) T F_winner F_how_many_plans F_law_choices F_keeps F_spread F_law_small
  exact F_law
end
theorem walk {l : PySem.W.OpenLaw} {q : Program} {loose : List Str} {XP : (Str → Option Value) → Heap → Prop} {YP : World → Heap → Prop} {d : DefRec} {K : Params → PySem.W.Frag} (hn : l.most = some 63) (hdf : d.params.defaults = [])
    (hd : d.name = "law") (hY : ∀ (w : World) (h : Heap), YP w h → (K w.params).In h) (hT : ∀ (w : World) (mg : Str → Option Value) (h : Heap), (K w.params).In h → h.Ns mainGlobals mg → Top (K w.params) mg)
    (pure : ∀ ns : List Int, ns.length ≤ 63 → ∃ Hd', m_law [.fl (ns.map .int)] [] = some (.bl true, Hd')) : PySem.W.WalkO q loose XP YP l.row.toRowW d [] (fun f vs => PySem.call f vs) := by
  refine L2.walk_ofK (n := 63) (k := 14) (x := "script") (CX := CX0) (sp := spLaw m_law) hn (by decide) hdf ⟨rfl, by decide, by decide, rfl⟩ hY (fun w mg fa h KX G hmg => ?_) (law_start pure) (fun _ _ _ _ z => z)
  have T := hT w mg h KX G
  obtain ⟨f, fd, F, hm⟩ := T.t_law
  have e0 : f = fa := by rw [hd] at hmg; rw [hm] at hmg; cases hmg; rfl
  subst e0
  have B := F.binds (ps := ["script"]) (fun _ _ _ _ _ _ us hl => by obtain ⟨_, rfl⟩ := us1 hl; rfl)
  refine ⟨fd, fun s u => ?_, fun base kb nb => ?_⟩
  · obtain ⟨oc, od, kV, doc, pm, an, cdv, ct, osl, rfl, lk, hcd⟩ := F.ex
    exact .of_eq rfl
  · obtain ⟨f', fd', G1, hb, hk, hm', oc', od', osl', lk'⟩ := (ok_all (P := l.prog) (w := w) (base := base) T).ex
    have e1 : f' = f := by rw [hm] at hm'; cases hm'; rfl
    subst e1
    have e2 : fd' = fd := by
      obtain ⟨oc, od, kV, doc, pm, an, cdv, ct, osl, e3, lk, hcd⟩ := F.ex
      rw [lk] at lk'
      have e4 := Option.some.inj lk'
      injection e4 with _ _ e5 _
      injection e5 with e6
      exact e6.symm
    subst e2
    exact G1
end K08
open PySem PySem.W PyProof.Rows L2 DL
set_option maxRecDepth 100000 in
set_option maxHeartbeats 0 in
theorem PySem.Challenge.cw_allsome_k42_whole_all_full_plans_tried_holds : PySem.Challenge.rw_allsome_k42_whole_all_full_plans_tried.Holds := by
  w_on; o_law; refine holds_open (q := (PySem.Challenge.vwOf PySem.Challenge.pw_allsome_k42_whole_all_full_plans_tried)) (loose := []) (Xt := PySem.Challenge.xt0) (XP := XL (PySem.Challenge.vwOf PySem.Challenge.pw_allsome_k42_whole_all_full_plans_tried) []) (Yf := Hook.obs PySem.Challenge.hk0) (Ya := Hook.val PySem.Challenge.hk0) (YP := InK PySem.Challenge.mk0.heap_39) (N := 1738) PySem.Challenge.left0 (Hook.of PySem.Challenge.hk0) (Hook.keeps PySem.Challenge.hk0) (fun s e => xl_of s (Bool.and_eq_true_iff.mp e).1) XL.keeps (by rfl) (by rfl) (by rfl) (fun s e => recFacts_of (Bool.and_eq_true_iff.mp e).2) (by rfl) (by assumption) (by decide +kernel) ⟨rfl, rfl, rfl, rfl, rfl, by decide +kernel⟩ ?hw ?hc
  (case hw => w_witness2)
  k_fill
  refine K08.walk (l := PySem.Challenge.rw_allsome_k42_whole_all_full_plans_tried) rfl rfl rfl (fun w h Y => Y) ?T K08.pure_law
  case T =>
    intro w mg h KX G
    have t_is_truth : Tf (L2.KOf KX) mg "is_truth" K08.s_is_truth := by
      dsimp only [L2.KOf]
      refine' tf_mk KX G ?a ?l ?c ?k
      (case a => k_is); (case l => k_is); (case c => k_is); (case k => k_is)
    have t_is_open : Tf (L2.KOf KX) mg "is_open" K08.s_is_open := by
      dsimp only [L2.KOf]
      refine' tf_mk KX G ?a ?l ?c ?k
      (case a => k_is); (case l => k_is); (case c => k_is); (case k => k_is)
    have t_is_right : Tf (L2.KOf KX) mg "is_right" K08.s_is_right := by
      dsimp only [L2.KOf]
      refine' tf_mk KX G ?a ?l ?c ?k
      (case a => k_is); (case l => k_is); (case c => k_is); (case k => k_is)
    have t_is_kept : Tf (L2.KOf KX) mg "is_kept" K08.s_is_kept := by
      dsimp only [L2.KOf]
      refine' tf_mk KX G ?a ?l ?c ?k
      (case a => k_is); (case l => k_is); (case c => k_is); (case k => k_is)
    have t_first_numbers : Tf (L2.KOf KX) mg "first_numbers" K08.s_first_numbers := by
      dsimp only [L2.KOf]
      refine' tf_mk KX G ?a ?l ?c ?k
      (case a => k_is); (case l => k_is); (case c => k_is); (case k => k_is)
    have t_rows_behind : Tf (L2.KOf KX) mg "rows_behind" K08.s_rows_behind := by
      dsimp only [L2.KOf]
      refine' tf_mk KX G ?a ?l ?c ?k
      (case a => k_is); (case l => k_is); (case c => k_is); (case k => k_is)
    have t_rows_behind_play : Tf (L2.KOf KX) mg "rows_behind_play" K08.s_rows_behind_play := by
      dsimp only [L2.KOf]
      refine' tf_mk KX G ?a ?l ?c ?k
      (case a => k_is); (case l => k_is); (case c => k_is); (case k => k_is)
    have t_other_side : Tf (L2.KOf KX) mg "other_side" K08.s_other_side := by
      dsimp only [L2.KOf]
      refine' tf_mk KX G ?a ?l ?c ?k
      (case a => k_is); (case l => k_is); (case c => k_is); (case k => k_is)
    have t_winner_behind : Tf (L2.KOf KX) mg "winner_behind" K08.s_winner_behind := by
      dsimp only [L2.KOf]
      refine' tf_mk KX G ?a ?l ?c ?k
      (case a => k_is); (case l => k_is); (case c => k_is); (case k => k_is)
    have t_winner : Tf (L2.KOf KX) mg "winner" K08.s_winner := by
      dsimp only [L2.KOf]
      refine' tf_mk KX G ?a ?l ?c ?k
      (case a => k_is); (case l => k_is); (case c => k_is); (case k => k_is)
    have t_plans_behind : Tf (L2.KOf KX) mg "plans_behind" K08.s_plans_behind := by
      dsimp only [L2.KOf]
      refine' tf_mk KX G ?a ?l ?c ?k
      (case a => k_is); (case l => k_is); (case c => k_is); (case k => k_is)
    have t_how_many_plans : Tf (L2.KOf KX) mg "how_many_plans" K08.s_how_many_plans := by
      dsimp only [L2.KOf]
      refine' tf_mk KX G ?a ?l ?c ?k
      (case a => k_is); (case l => k_is); (case c => k_is); (case k => k_is)
    have t_names_ahead : Tf (L2.KOf KX) mg "names_ahead" K08.s_names_ahead := by
      dsimp only [L2.KOf]
      refine' tf_mk KX G ?a ?l ?c ?k
      (case a => k_is); (case l => k_is); (case c => k_is); (case k => k_is)
    have t_choices : Tf (L2.KOf KX) mg "choices" K08.s_choices := by
      dsimp only [L2.KOf]
      refine' tf_mk KX G ?a ?l ?c ?k
      (case a => k_is); (case l => k_is); (case c => k_is); (case k => k_is)
    have t_parts_of : Tf (L2.KOf KX) mg "parts_of" K08.s_parts_of := by
      dsimp only [L2.KOf]
      refine' tf_mk KX G ?a ?l ?c ?k
      (case a => k_is); (case l => k_is); (case c => k_is); (case k => k_is)
    have t_row_spread : Tf (L2.KOf KX) mg "row_spread" K08.s_row_spread := by
      dsimp only [L2.KOf]
      refine' tf_mk KX G ?a ?l ?c ?k
      (case a => k_is); (case l => k_is); (case c => k_is); (case k => k_is)
    have t_spread : Tf (L2.KOf KX) mg "spread" K08.s_spread := by
      dsimp only [L2.KOf]
      refine' tf_mk KX G ?a ?l ?c ?k
      (case a => k_is); (case l => k_is); (case c => k_is); (case k => k_is)
    have t_keeps : Tf (L2.KOf KX) mg "keeps" K08.s_keeps := by
      dsimp only [L2.KOf]
      refine' tf_mk KX G ?a ?l ?c ?k
      (case a => k_is); (case l => k_is); (case c => k_is); (case k => k_is)
    have t_law_mix : Tf (L2.KOf KX) mg "_law_mix" K08.s_law_mix := by
      dsimp only [L2.KOf]
      refine' tf_mk KX G ?a ?l ?c ?k
      (case a => k_is); (case l => k_is); (case c => k_is); (case k => k_is)
    have t_law_digits : Tf (L2.KOf KX) mg "_law_digits" K08.s_law_digits := by
      dsimp only [L2.KOf]
      refine' tf_mk KX G ?a ?l ?c ?k
      (case a => k_is); (case l => k_is); (case c => k_is); (case k => k_is)
    have t_law_at : Tf (L2.KOf KX) mg "_law_at" K08.s_law_at := by
      dsimp only [L2.KOf]
      refine' tf_mk KX G ?a ?l ?c ?k
      (case a => k_is); (case l => k_is); (case c => k_is); (case k => k_is)
    have t_law_row : Tf (L2.KOf KX) mg "_law_row" K08.s_law_row := by
      dsimp only [L2.KOf]
      refine' tf_mk KX G ?a ?l ?c ?k
      (case a => k_is); (case l => k_is); (case c => k_is); (case k => k_is)
    have t_law_small : Tf (L2.KOf KX) mg "_law_small" K08.s_law_small := by
      dsimp only [L2.KOf]
      refine' tf_mk KX G ?a ?l ?c ?k
      (case a => k_is); (case l => k_is); (case c => k_is); (case k => k_is)
    have t_law_choices : Tf (L2.KOf KX) mg "_law_choices" K08.s_law_choices := by
      dsimp only [L2.KOf]
      refine' tf_mk KX G ?a ?l ?c ?k
      (case a => k_is); (case l => k_is); (case c => k_is); (case k => k_is)
    have t_law : Tf (L2.KOf KX) mg "law" K08.s_law := by
      dsimp only [L2.KOf]
      refine' tf_mk KX G ?a ?l ?c ?k
      (case a => k_is); (case l => k_is); (case c => k_is); (case k => k_is)
    have n_abs : mg "abs" = none := by
      refine' PySem.W.mg_none_of KX G ?z
      (case z => k_is)
    have n_all : mg "all" = none := by
      refine' PySem.W.mg_none_of KX G ?z
      (case z => k_is)
    have n_bool : mg "bool" = none := by
      refine' PySem.W.mg_none_of KX G ?z
      (case z => k_is)
    have n_dict : mg "dict" = none := by
      refine' PySem.W.mg_none_of KX G ?z
      (case z => k_is)
    have n_enumerate : mg "enumerate" = none := by
      refine' PySem.W.mg_none_of KX G ?z
      (case z => k_is)
    have n_int : mg "int" = none := by
      refine' PySem.W.mg_none_of KX G ?z
      (case z => k_is)
    have n_isinstance : mg "isinstance" = none := by
      refine' PySem.W.mg_none_of KX G ?z
      (case z => k_is)
    have n_len : mg "len" = none := by
      refine' PySem.W.mg_none_of KX G ?z
      (case z => k_is)
    have n_range : mg "range" = none := by
      refine' PySem.W.mg_none_of KX G ?z
      (case z => k_is)
    have n_sorted : mg "sorted" = none := by
      refine' PySem.W.mg_none_of KX G ?z
      (case z => k_is)
    have n_tuple : mg "tuple" = none := by
      refine' PySem.W.mg_none_of KX G ?z
      (case z => k_is)
    have c_TRUTHS : Gc (L2.KOf KX) mg "TRUTHS" K08.k_TRUTHS := by
      dsimp only [L2.KOf]
      refine' gc_bools2 KX G ?a ?l
      (case a => k_is); (case l => k_is)
    exact ⟨t_is_truth, t_is_open, t_is_right, t_is_kept, t_first_numbers, t_rows_behind, t_rows_behind_play, t_other_side, t_winner_behind, t_winner, t_plans_behind, t_how_many_plans, t_names_ahead, t_choices, t_parts_of, t_row_spread, t_spread, t_keeps, t_law_mix, t_law_digits, t_law_at, t_law_row, t_law_small, t_law_choices, t_law, n_abs, n_all, n_bool, n_dict, n_enumerate, n_int, n_isinstance, n_len, n_range, n_sorted, n_tuple, c_TRUTHS⟩
