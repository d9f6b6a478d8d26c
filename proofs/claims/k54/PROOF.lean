import PyProof.Rows.All
import Wide.All
import OpenK.AllK
import Wide.FinOn
import Lean
import PyProof.EqAt
import PyProof.EqKinds
import PyProof.TupleCall
import KE.KDictList
import KE.KDictOf
import KE.KSortKey
import KE.KTryMore
import PyProof.AttrMissHeap
import PyProof.AutoSeq1
import PyProof.ExcAttrAll.ValueError
import PyProof.FitsBits
import PyProof.MinMaxWalk
import PyProof.P3Eq
import PyProof.P3In
import PyProof.ReprLen
import PyProof.Rows.Own
import PyProof.Rows.RuleB_bool
import PyProof.Rows.TupIter
import PyProof.SeqI3
import PyProof.StrWalks
import PyProof.SumWalkG
import PyProof.WalkInts
import PySem.Challenge.RW_allsome_k54_rows_needless_and_lean
set_option Elab.async false
set_option compiler.extract_closed false
set_option bootstrap.genMatcherCode false
set_option linter.all false
set_option maxRecDepth 100000
section
open PySem PySem.W PyProof.Rows
noncomputable def PySem.Challenge.vwOf (p : Program) : Program := { p with main := { p.main with body := [1, 2, 3, 4, 5, 6, 7, 8, 9, 11, 12, 13, 14, 15, 16, 17, 18, 19, 21, 22, 23, 24, 25, 26, 27, 28, 29, 30, 31, 32, 33].filterMap fun i => p.main.body[i]? } }
local macro_rules | `(tactic| o_head $_) => `(tactic| exact False.elim (by assumption))
set_option maxRecDepth 100000 in
set_option maxHeartbeats 0 in
theorem PySem.Challenge.mk0 : False → PySem.Challenge.rw_allsome_k54_rows_needless_and_lean.Holds := by
  intro f; w_on; o_law; k_head
noncomputable def PySem.Challenge.hk0 : Hook := kHook PySem.Challenge.mk0.heap_39 [2, 3, 15, 22, 23, 24, 25, 28, 35, 37, 38, 40, 41, 42, 43, 44, 47, 54, 56, 57, 59, 60, 61, 62, 63, 66, 73, 74, 75, 78, 85, 86, 87, 90, 97, 98, 99, 102, 109, 110, 111, 114, 121, 122, 123, 126, 133, 134, 135, 138, 140, 141, 143, 144, 145, 147, 148, 150, 151, 152, 154, 155, 157, 158, 159, 161, 162, 164, 165, 166, 169, 170, 171, 173, 174, 176, 177, 178, 180, 181, 183, 184, 185, 187, 188, 190, 191, 192, 194, 195, 197, 198, 199, 201, 202, 204, 205, 206, 208, 209, 211, 212, 213, 215, 216, 218, 219, 227, 230, 231, 232, 235, 236, 237, 239, 240, 242, 243, 244, 246, 247, 249, 250, 251, 254, 255, 256, 259, 260, 261, 264, 265, 266, 268, 269, 271, 272, 273, 276, 277] (fun _ => by kernel_rfl)
noncomputable def PySem.Challenge.xt0 (s : Shared) : Bool := xlAt (PySem.Challenge.vwOf PySem.Challenge.pw_allsome_k54_rows_needless_and_lean) [] s && recOk (RowW.records (OpenRow.toRowW (OpenLaw.row PySem.Challenge.rw_allsome_k54_rows_needless_and_lean))) s
set_option maxRecDepth 100000 in
theorem PySem.Challenge.left0 : LeftO (OpenLaw.row PySem.Challenge.rw_allsome_k54_rows_needless_and_lean).prog (PySem.Challenge.vwOf PySem.Challenge.pw_allsome_k54_rows_needless_and_lean) [] PySem.Challenge.xt0 PySem.Challenge.hk0.obs PySem.Challenge.hk0.val 5422 := by
  intro w
  unfold PySem.Challenge.xt0
  rewrite [PySem.W.Fast.te4187177175401517315, PySem.W.Fast.te5923862056798008813, PySem.W.Fast.te2368527892694137696, PySem.W.Fast.te6181473134233523009, PySem.W.Fast.te9179835594536175308, PySem.W.Fast.te14364793385576792824]
  kernel_rfl
end
namespace L2
open PySem PySem.Spec PyProof.Rows
noncomputable abbrev Key := Sum Int Str
noncomputable def keyIs : Key → Value → Bool
  | .inl k, v => Value.isInt k v
  | .inr x, v => Value.isStrOf x v
noncomputable def keyH (w : World) : Key → Int
  | .inl k => hashInt k
  | .inr x => hashStr w x
theorem keyIs_shape : ∀ {k : Key} {v : Value}, keyIs k v = true → (∃ i t, k = Sum.inl i ∧ v = Value.int i t) ∨ (∃ x t, k = Sum.inr x ∧ v = Value.str x t)
  | .inl i, v, h => by
    obtain ⟨t, e⟩ := Value.isInt_shape (k := i) (v := v) h
    exact .inl ⟨i, t, rfl, e⟩
  | .inr x, v, h => by
    obtain ⟨t, e⟩ := Value.isStrOf_shape (x := x) (v := v) h
    exact .inr ⟨x, t, rfl, e⟩
theorem key_ll (a b : Int) : decide ((Sum.inl a : Key) = Sum.inl b) = (a == b) := by
  by_cases e : a = b
  · subst e; simp
  · have h : ¬ (Sum.inl a : Key) = Sum.inl b := fun q => e (Sum.inl.inj q)
    rw [decide_eq_false h]
    exact (beq_eq_false_iff_ne.mpr e).symm
theorem key_rr (a b : Str) : decide ((Sum.inr a : Key) = Sum.inr b) = decide (a = b) := by
  by_cases e : a = b
  · subst e; simp
  · have h : ¬ (Sum.inr a : Key) = Sum.inr b := fun q => e (Sum.inr.inj q)
    rw [decide_eq_false h, decide_eq_false e]
theorem key_lr (a : Int) (b : Str) : decide ((Sum.inl a : Key) = Sum.inr b) = false := decide_eq_false (fun q => nomatch q)
theorem key_rl (a : Str) (b : Int) : decide ((Sum.inr a : Key) = Sum.inl b) = false := decide_eq_false (fun q => nomatch q)
noncomputable def mixKind (prog : Program) (w : World) : PySem.KeyKind prog w Key where
  is := keyIs
  hash := keyH w
  inj := fun v a b ha hb => by
    rcases keyIs_shape ha with ⟨i, t, rfl, rfl⟩ | ⟨x, t, rfl, rfl⟩
    · rcases keyIs_shape hb with ⟨j, u, rfl, e⟩ | ⟨y, u, rfl, e⟩
      · injection e with e1 _; rw [e1]
      · exact nomatch e
    · rcases keyIs_shape hb with ⟨j, u, rfl, e⟩ | ⟨y, u, rfl, e⟩
      · exact nomatch e
      · injection e with e1 _; rw [e1]
  byValue := fun k v h => by
    rcases keyIs_shape h with ⟨i, t, rfl, rfl⟩ | ⟨x, t, rfl, rfl⟩ <;> rfl
  pyHash := fun hv h => by
    rcases keyIs_shape hv with ⟨i, t, rfl, rfl⟩ | ⟨x, t, rfl, rfl⟩
    · exact wpAny_pyHash_int h
    · exact wpAny_pyHash_str h
  eqBool := fun hu hv h => by
    rcases keyIs_shape hu with ⟨i, t, rfl, rfl⟩ | ⟨x, t, rfl, rfl⟩
    · rcases keyIs_shape hv with ⟨j, u, rfl, rfl⟩ | ⟨y, u, rfl, rfl⟩
      · rw [key_ll] at h; exact wpAny_eqBool_int h
      · rw [key_lr] at h; exact SeqAt.EqAt.int_str i t y u _ _ _ _ h
    · rcases keyIs_shape hv with ⟨j, u, rfl, rfl⟩ | ⟨y, u, rfl, rfl⟩
      · rw [key_rl] at h; exact SeqAt.EqAt.str_int x t j u _ _ _ _ h
      · rw [key_rr] at h; exact wpAny_eqBool_str h
  «strs» := fun k x t v h => by
    rcases keyIs_shape h with ⟨i, u, rfl, e⟩ | ⟨y, u, rfl, e⟩
    · exact nomatch e
    · injection e with e1 _
      subst e1
      cases v <;> rfl
end L2
namespace L2
open PySem PySem.Spec PyProof.Rows
inductive V where
  | non | bl (b : Bool) | int (i : Int) | str (x : Str) | byt (b : Array UInt8) | flt (b : UInt64) | ref (a : Addr) | ty (n : String)
noncomputable def RelV : V → Value → Prop
  | .non, u => u = Value.none
  | .bl b, u => u = Value.bool b
  | .int i, u => ∃ t, u = Value.int i t
  | .str x, u => ∃ t, u = Value.str x t
  | .byt b, u => ∃ t, u = Value.bytes b t
  | .flt b, u => ∃ t, u = Value.float b t
  | .ref a, u => u = Value.ref a
  | .ty n, u => u = Value.type n
noncomputable abbrev Vals : List V → List Value → Prop := Paired RelV
theorem Vals.length {xs : List V} {us : List Value} (r : Vals xs us) : xs.length = us.length := Paired.length r
theorem Vals.get : ∀ {xs : List V} {us : List Value} {i : Nat} {x : V}, Vals xs us → xs[i]? = some x → ∃ u, us[i]? = some u ∧ RelV x u
  | _, _, _, _, .nil, e => by simp at e
  | _, _, 0, _, .cons r _, e => by simp at e; subst e; exact ⟨_, rfl, r⟩
  | _, _, i + 1, x, .cons _ t, e => by
    obtain ⟨u, h1, h2⟩ := Vals.get (i := i) (x := x) t (by simpa using e)
    exact ⟨u, by simpa using h1, h2⟩
theorem Vals.set {x : V} {u : Value} (r : RelV x u) : ∀ {xs : List V} {us : List Value} (i : Nat), Vals xs us → Vals (xs.set i x) (us.set i u)
  | _, _, _, .nil => .nil
  | _, _, 0, .cons _ t => .cons r t
  | _, _, i + 1, .cons q t => .cons q (Vals.set r i t)
theorem Vals.append : ∀ {xs ys : List V} {us ws : List Value}, Vals xs us → Vals ys ws → Vals (xs ++ ys) (us ++ ws)
  | _, _, _, _, .nil, s => s
  | _, _, _, _, .cons r t, s => .cons r (Vals.append t s)
theorem Vals.take : ∀ {xs : List V} {us : List Value} (n : Nat), Vals xs us → Vals (xs.take n) (us.take n)
  | _, _, 0, _ => .nil
  | _, _, _ + 1, .nil => .nil
  | _, _, n + 1, .cons r t => .cons r (Vals.take n t)
theorem Vals.drop : ∀ {xs : List V} {us : List Value} (n : Nat), Vals xs us → Vals (xs.drop n) (us.drop n)
  | _, _, 0, r => r
  | _, _, _ + 1, .nil => .nil
  | _, _, n + 1, .cons _ t => Vals.drop n t
noncomputable def RelO : Option V → Option Value → Prop
  | some v, some u => RelV v u
  | none, none => True
  | _, _ => False
noncomputable def KV {κ : Type} : List (κ × V) → List (κ × Value) → Prop := Paired fun (p : κ × V) (q : κ × Value) => p.1 = q.1 ∧ RelV p.2 q.2
noncomputable def kV : Key → V
  | .inl i => .int i
  | .inr x => .str x
inductive HO where
  | lst (xs : List V)
  | tup (xs : List V)
  | dK (kvs : List (Key × V)) | dT (kvs : List (List Key × V))
  | set (S : Int → Bool) (n : Nat)
  | ins (C dx : Addr) (fs : List (Str × V))
  | own (x : Addr)
  | xd (fs : List (Str × V))
  | met (f x : Addr)
  | rng (lo hi : Int)
  | frz (o : Obj) (u : HO)
  | tbl (ps : Array Value)
  | ext (φ : Heap → Prop)
noncomputable abbrev Hp := Addr → Option HO
noncomputable def upd (H : Hp) (a : Addr) (o : HO) : Hp := fun b => if b = a then some o else H b
theorem upd_same {H : Hp} {a : Addr} {o : HO} : upd H a o a = some o := by unfold upd; rw [if_pos rfl]
theorem upd_ne {H : Hp} {a b : Addr} {o : HO} (h : b ≠ a) : upd H a o b = H b := by unfold upd; rw [if_neg h]
theorem ne_of {H : Hp} {a b : Addr} {o u : HO} (h : H a = some o) (h' : H b = some u) (d : o ≠ u) : a ≠ b := by
  intro e; subst e; rw [h] at h'; exact d (Option.some.inj h')
theorem ne_of_none {H : Hp} {a b : Addr} {o : HO} (h : H a = some o) (h' : H b = none) : a ≠ b := by
  intro e; subst e; rw [h] at h'; cases h'
noncomputable def IsTuN (h : Heap) (a : Addr) (items : Array Value) : Prop := ∃ o, h.get? a = some o ∧ o.cls = .type "tuple" ∧ (∃ n, o.data = .seq items n) ∧ o.dict = none
theorem IsTuN.new (h : Heap) (items : Array Value) : IsTuN (h.push { cls := .type "tuple", data := .seq items }) h.objs.size items := ⟨_, Heap.get?_push_size _ rfl, rfl, ⟨_, rfl⟩, rfl⟩
theorem IsTuN.tup {h : Heap} {a : Addr} {items : Array Value} (x : IsTuN h a items) : IsTup h a items := let ⟨o, e, c, d, _⟩ := x; ⟨o, e, c, d⟩
section
variable (P : Program) (w : World)
noncomputable def ObjOk (H : Hp) (h : Heap) (a : Addr) : HO → Prop
  | .lst xs => xs.length ≤ sizeLine ∧ ∃ (its : List Value) (n : Nat), Vals xs its ∧ h.get? a = some { cls := .type "list", data := .seq its.toArray n }
  | .tup xs => xs.length ≤ sizeLine ∧ ∃ its : List Value, Vals xs its ∧ IsTuN h a its.toArray
  | .dK kvs => kvs.length ≤ sizeLine ∧ (a == sysModules) = false ∧ ∃ vs, KV kvs vs ∧ h.DictOf (mixKind P w) a vs
  | .dT kvs => kvs.length ≤ sizeLine ∧ (a == sysModules) = false ∧ ∃ xs : List (List Key × Addr × Value),
      Paired (fun (p : List Key × V) (q : List Key × Addr × Value) => p.1 = q.1 ∧ H q.2.1 = some (.tup (p.1.map kV)) ∧ RelV p.2 q.2.2) kvs xs ∧
      ∃ o es ep, h.get? a = some o ∧ o.ExactDict ∧ o.data = .dict es ep ∧ es.toList = xs.map (entryOfKey (tupleKind (mixKind P w))) ∧ (xs.map (·.1)).Nodup
  | .set S n => h.SetOf (intKind P w) a S n
  | .ins C dx fs => H dx = some (.own a) ∧ fs.length ≤ 1000 ∧ dx ≠ a ∧ h.get? a = some (PySem.W.instObj C dx) ∧
      ∃ mA, h.Ns1 dx mA ∧ (∀ f, RelO (fs.lookup f) (mA f)) ∧ PySem.Within mA (fs.map (·.1))
  | .own _ => ∃ o, h.get? a = some o
  | .xd fs => ∃ mA, h.Ns1 a mA ∧ ∀ f, RelO (fs.lookup f) (mA f)
  | .rng lo hi => ∃ t u v, h.get? a = some { cls := .type "range", data := .fields #[.int lo t, .int hi u, .int 1 v] }
  | .frz o u => h.get? a = some o ∧ ObjOk H h a u
  | .tbl ps => h.get? a = some { cls := .none, data := .fields ps }
  | .met f x => h.get? a = some (PySem.W.methodObj (.ref f) (.ref x))
  | .ext φ => φ h ∧ (∃ o, h.get? a = some o) ∧ ∀ h1 h2 : Heap, φ h1 → (∀ o, h1.get? a = some o → h2.get? a = some o) → φ h2
noncomputable def HOk (H : Hp) (h : Heap) : Prop := ∀ a o, H a = some o → ObjOk P w H h a o
end
section
variable {P : Program} {w : World} {H H' : Hp} {h h' : Heap} {a : Addr} {o : HO}
theorem ObjOk.lt (x : ObjOk P w H h a o) : a < h.objs.size := by
  cases o with
  | lst xs => obtain ⟨_, _, _, _, e⟩ := x; exact Heap.lt_size e
  | tup xs => obtain ⟨_, _, _, p⟩ := x; exact p.tup.lt
  | dK kvs => obtain ⟨_, _, _, _, o, _, _, e, _⟩ := x; exact Heap.lt_size e
  | dT kvs => obtain ⟨_, _, _, _, o, _, _, e, _⟩ := x; exact Heap.lt_size e
  | set S n => obtain ⟨o, _, _, _, e, _⟩ := x; exact Heap.lt_size e
  | ins C dx fs => obtain ⟨_, _, _, e, _⟩ := x; exact Heap.lt_size e
  | own y => obtain ⟨_, e⟩ := x; exact Heap.lt_size e
  | xd fs => obtain ⟨_, ⟨_, _, _, e, _⟩, _⟩ := x; exact Heap.lt_size e
  | rng lo hi => obtain ⟨_, _, _, e⟩ := x; exact Heap.lt_size e
  | frz ob u => obtain ⟨e, _⟩ := x; exact Heap.lt_size e
  | tbl ps => exact Heap.lt_size (show h.get? a = some _ from x)
  | met f y => exact Heap.lt_size (show h.get? a = some _ from x)
  | ext φ => obtain ⟨_, ⟨_, e⟩, _⟩ := x; exact Heap.lt_size e
theorem Paired.mapP {α β : Type} {F G : α → β → Prop} : ∀ {l₁ : List α} {l₂ : List β}, Paired F l₁ l₂ → (∀ a b, F a b → G a b) → Paired G l₁ l₂
  | _, _, .nil, _ => .nil
  | _, _, .cons r t, f => .cons (f _ _ r) (Paired.mapP t f)
theorem ObjOk.stay (x : ObjOk P w H h a o) (k : ∀ b u, (b = a ∨ H b = some (.own a)) → h.get? b = some u → h'.get? b = some u)
    (ho : ∀ b, H b = some (.own a) → H' b = some (.own a)) (ht : ∀ b xs, H b = some (.tup xs) → H' b = some (.tup xs)) : ObjOk P w H' h' a o := by
  induction o with
  | lst xs => obtain ⟨z, its, n, r, e⟩ := x; exact ⟨z, its, n, r, k _ _ (.inl rfl) e⟩
  | tup xs => obtain ⟨z, its, r, ob, e, c⟩ := x; exact ⟨z, its, r, ob, k _ _ (.inl rfl) e, c⟩
  | dK kvs => obtain ⟨z, y, vs, r, ob, es, ep, e, c⟩ := x; exact ⟨z, y, vs, r, ob, es, ep, k _ _ (.inl rfl) e, c⟩
  | dT kvs =>
    obtain ⟨z, y, xs, r, ob, es, ep, e, c⟩ := x
    exact ⟨z, y, xs, Paired.mapP r fun p q z => ⟨z.1, ht _ _ z.2.1, z.2.2⟩, ob, es, ep, k _ _ (.inl rfl) e, c⟩
  | set S n => obtain ⟨ob, es, ep, t, e, c⟩ := x; exact ⟨ob, es, ep, t, k _ _ (.inl rfl) e, c⟩
  | ins C dx fs =>
    obtain ⟨d, z, ne, e, mA, ⟨od, es, ep, e2, c⟩, r⟩ := x
    exact ⟨ho _ d, z, ne, k _ _ (.inl rfl) e, mA, ⟨od, es, ep, k _ _ (.inr d) e2, c⟩, r⟩
  | own y => obtain ⟨ob, e⟩ := x; exact ⟨ob, k _ _ (.inl rfl) e⟩
  | xd fs => obtain ⟨mA, ⟨od, es, ep, e, c⟩, r⟩ := x; exact ⟨mA, ⟨od, es, ep, k _ _ (.inl rfl) e, c⟩, r⟩
  | rng lo hi => obtain ⟨t, u, v, e⟩ := x; exact ⟨t, u, v, k _ _ (.inl rfl) e⟩
  | frz ob u ih => obtain ⟨e, q⟩ := x; exact ⟨k _ _ (.inl rfl) e, ih q⟩
  | tbl ps =>
    have e : h.get? a = some { cls := .none, data := .fields ps } := x
    show h'.get? a = some { cls := .none, data := .fields ps }
    exact k a _ (.inl rfl) e
  | met f y =>
    have e : h.get? a = some (PySem.W.methodObj (.ref f) (.ref y)) := x
    show h'.get? a = some (PySem.W.methodObj (.ref f) (.ref y))
    exact k a _ (.inl rfl) e
  | ext φ => obtain ⟨p, ⟨o, e⟩, st⟩ := x; exact ⟨st _ _ p fun o q => k _ _ (.inl rfl) q, ⟨o, k _ _ (.inl rfl) e⟩, st⟩
theorem HOk.lt (x : HOk P w H h) (e : H a = some o) : a < h.objs.size := (x a o e).lt
theorem HOk.fresh (x : HOk P w H h) (e : h.objs.size ≤ a) : H a = none := by
  cases q : H a with
  | none => rfl
  | some u => exact absurd (Nat.lt_of_lt_of_le (x.lt q) e) (Nat.lt_irrefl _)
theorem HOk.kept (x : HOk P w H h) (k : ∀ b u, h.get? b = some u → h'.get? b = some u) : HOk P w H h' := fun a o e =>
  (x a o e).stay (fun b u _ q => k b u q) (fun _ q => q) fun _ _ q => q
theorem HOk.laid (x : HOk P w H h) (k : ∀ b u, h.get? b = some u → h'.get? b = some u) (hp : h.objs.size ≤ a) (new : ObjOk P w (upd H a o) h' a o) : HOk P w (upd H a o) h' := fun b u e => by
  have hn := x.fresh hp
  by_cases hb : b = a
  · subst hb; rw [upd_same] at e; cases e; exact new
  · rw [upd_ne hb] at e
    exact (x b u e).stay (fun c v _ q => k c v q) (fun c q => by rw [upd_ne (ne_of_none q hn)]; exact q) fun c xs q => by rw [upd_ne (ne_of_none q hn)]; exact q
end
noncomputable def Rd (H : Hp) (a : Addr) (u : HO) : Prop := H a = some u ∨ ∃ o, H a = some (.frz o u)
theorem Rd.ok {P : Program} {w : World} {H : Hp} {h : Heap} {a : Addr} {u : HO} (r : Rd H a u) (x : HOk P w H h) : ObjOk P w H h a u := by
  rcases r with r | ⟨o, r⟩
  · exact x a u r
  · obtain ⟨_, q⟩ := x a _ r
    exact q
noncomputable def Mut : Option HO → Prop
  | some (.lst _) => True
  | some (.dK _) => True
  | some (.dT _) => True
  | some (.set _ _) => True
  | some (.ins _ _ _) => True
  | some (.ext _) => True
  | _ => False
section
variable {P : Program} {w : World} {H : Hp} {h h' : Heap} {x e : Addr} {o' : HO}
theorem HOk.write (ok : HOk P w H h) (mu : Mut (H x)) (he : e = x ∨ H e = some (.own x)) (k : ∀ b u, b ≠ e → h.get? b = some u → h'.get? b = some u) (heo : ∃ u, h'.get? e = some u)
    (new : ObjOk P w (upd H x o') h' x o') : HOk P w (upd H x o') h' := fun b u q => by
  have nown : ∀ c y, H c = some (.own y) → c ≠ x := fun c y r z => by subst z; rw [r] at mu; exact mu
  have ntup : ∀ c xs, H c = some (.tup xs) → c ≠ x := fun c xs r z => by subst z; rw [r] at mu; exact mu
  by_cases hb : b = x
  · subst hb; rw [upd_same] at q; cases q; exact new
  · rw [upd_ne hb] at q
    by_cases hbe : b = e
    · have q' : H b = some (.own x) := by
        rcases he with z | z
        · exact absurd (hbe.trans z) hb
        · rw [hbe]; exact z
      rw [q] at q'; cases q'
      obtain ⟨v, hv⟩ := heo
      exact ⟨v, by rw [hbe]; exact hv⟩
    · refine (ok b u q).stay (fun c v hc r => k c v ?_ r) (fun c r => by rw [upd_ne (nown c b r)]; exact r) fun c xs r => by rw [upd_ne (ntup c xs r)]; exact r
      rcases hc with rfl | hc
      · exact hbe
      · rintro rfl
        rcases he with z | z
        · exact nown c b hc z
        · rw [hc] at z; cases z; exact hb rfl
end
structure Un (fs ex : List Addr) (H H' : Hp) (h h' : Heap) : Prop where
  keep : ∀ b o, h.get? b = some o → H b = none → b ∉ fs → b ∉ ex → h'.get? b = some o
  slot : ∀ b o, h.get? b = some o → H b = none → b ∈ fs → b ∉ ex → ∃ sl, h'.get? b = some { o with slots := sl }
  free : ∀ b o, h.get? b = some o → H b = none → b ∉ ex → H' b = none
  there : ∀ b o, h.get? b = some o → b ∉ ex → ∃ o', h'.get? b = some o'
  tups : ∀ b xs, H b = some (.tup xs) → H' b = some (.tup xs)
  frzs : ∀ b o u, H b = some (.frz o u) → H' b = some (.frz o u)
  tbls : ∀ b ps, H b = some (.tbl ps) → ∃ more, H' b = some (.tbl (ps ++ more))
section
variable {fs fs' ex ex' : List Addr} {H H1 H2 : Hp} {h h1 h2 h' : Heap} {a x e : Addr} {o : HO}
theorem Un.any (u : Un fs ex H H1 h h1) {b : Addr} {ob : Obj} (q : h.get? b = some ob) (n : H b = none) (hx : b ∉ ex) : ∃ sl, h1.get? b = some { ob with slots := sl } := by
  by_cases hb : b ∈ fs
  · exact u.slot b ob q n hb hx
  · exact ⟨ob.slots, u.keep b ob q n hb hx⟩
theorem Un.trans (a : Un fs ex H H1 h h1) (b : Un fs ex H1 H2 h1 h2) : Un fs ex H H2 h h2 where
  keep := fun c ob q n hc hx => b.keep c ob (a.keep c ob q n hc hx) (a.free c ob q n hx) hc hx
  slot := fun c ob q n hc hx => by
    obtain ⟨sl, e1⟩ := a.slot c ob q n hc hx
    obtain ⟨sl', e2⟩ := b.slot c _ e1 (a.free c ob q n hx) hc hx
    exact ⟨sl', e2⟩
  free := fun c ob q n hx => by
    obtain ⟨o', e1⟩ := a.there c ob q hx
    exact b.free c o' e1 (a.free c ob q n hx) hx
  there := fun c ob q hx => by
    obtain ⟨o', e1⟩ := a.there c ob q hx
    exact b.there c o' e1 hx
  tups := fun c xs q => b.tups c xs (a.tups c xs q)
  frzs := fun c ob xs q => b.frzs c ob xs (a.frzs c ob xs q)
  tbls := fun c ps q => by
    obtain ⟨m1, e1⟩ := a.tbls c ps q
    obtain ⟨m2, e2⟩ := b.tbls c _ e1
    exact ⟨m1 ++ m2, by rw [e2, Array.append_assoc]⟩
theorem Un.kept (k : ∀ b u, h.get? b = some u → h'.get? b = some u) : Un fs ex H H h h' :=
  ⟨fun b ob q _ _ _ => k b ob q, fun b ob q _ _ _ => ⟨ob.slots, k b ob q⟩, fun _ _ _ n _ => n, fun b ob q _ => ⟨ob, k b ob q⟩, fun _ _ q => q, fun _ _ _ q => q, fun _ ps q => ⟨#[], by rw [q]; simp⟩⟩
theorem Un.refl : Un fs ex H H h h := Un.kept fun _ _ q => q
theorem Un.laid (k : ∀ b u, h.get? b = some u → h'.get? b = some u) (hp : h.objs.size ≤ a) (hn : H a = none) : Un fs ex H (upd H a o) h h' where
  keep := fun b u q _ _ _ => k b u q
  slot := fun b u q _ _ _ => ⟨u.slots, k b u q⟩
  free := fun b u q n _ => by rw [upd_ne (Nat.ne_of_lt (Nat.lt_of_lt_of_le (Heap.lt_size q) hp))]; exact n
  there := fun b u q _ => ⟨u, k b u q⟩
  tups := fun b xs q => by rw [upd_ne (ne_of_none q hn)]; exact q
  frzs := fun b u xs q => by rw [upd_ne (ne_of_none q hn)]; exact q
  tbls := fun b ps q => ⟨#[], by rw [upd_ne (ne_of_none q hn), q]; simp⟩
theorem Un.write (mu : Mut (H x)) (he : e = x ∨ H e = some (.own x)) (k : ∀ b u, b ≠ e → h.get? b = some u → h'.get? b = some u) (heo : ∃ u, h'.get? e = some u) : Un fs ex H (upd H x o) h h' := by
  have hx : ∀ b, H b = none → b ≠ x := fun b n z => by subst z; rw [n] at mu; exact mu
  have hb : ∀ b, H b = none → b ≠ e := fun b n z => by
    subst z
    rcases he with r | r
    · exact hx b n r
    · rw [n] at r; cases r
  have hm : ∀ b u, H b = some u → ¬ Mut (some u) → b ≠ x := fun b u q nm z => by subst z; rw [q] at mu; exact nm mu
  refine ⟨fun b u q n _ _ => k b u (hb b n) q, fun b u q n _ _ => ⟨u.slots, k b u (hb b n) q⟩, fun b u q n _ => by rw [upd_ne (hx b n)]; exact n, fun b u q _ => ?_,
    fun b xs q => by rw [upd_ne (hm b _ q fun z => z)]; exact q, fun b u xs q => by rw [upd_ne (hm b _ q fun z => z)]; exact q, fun b ps q => ⟨#[], by rw [upd_ne (hm b _ q fun z => z), q]; simp⟩⟩
  by_cases hbe : b = e
  · subst hbe; exact heo
  · exact ⟨u, k b u hbe q⟩
theorem Un.mono (u : Un fs ex H H1 h h1) (hs : ∀ b ∈ fs, b ∈ fs') (hx : ∀ b ∈ ex, b ∈ ex') : Un fs' ex' H H1 h h1 :=
  ⟨fun b ob q n hb he => u.keep b ob q n (fun z => hb (hs b z)) fun z => he (hx b z), fun _ _ q n _ he => u.any q n fun z => he (hx _ z), fun b ob q n he => u.free b ob q n fun z => he (hx b z), fun b ob q he => u.there b ob q fun z => he (hx b z), u.tups, u.frzs, u.tbls⟩
end
noncomputable def trk (h : Heap) (H : Hp) : List Addr := (List.range h.objs.size).filter fun a => (H a).isSome
noncomputable def hidT (h : Heap) (H : Hp) : Heap := PySem.W.hideAll h (trk h H)
theorem hidT_size (h : Heap) (H : Hp) : (hidT h H).objs.size = h.objs.size := PySem.W.hideAll_size _ _
theorem hidT_get {h : Heap} {H : Hp} {b : Addr} {o : Obj} (e : h.get? b = some o) (n : H b = none) : (hidT h H).get? b = some o :=
  PySem.W.hideAll_get _ e fun hm => by
    have q : (H b).isSome = true := (List.mem_filter.mp hm).2
    rw [n] at q; simp at q
theorem of_hidT {h : Heap} {H : Hp} {b : Addr} {o : Obj} (e : (hidT h H).get? b = some o) : h.get? b = some o ∧ H b = none := by
  have e' : h.get? b = some o := PySem.W.of_hideAll (trk h H) e
  refine ⟨e', ?_⟩
  cases q : H b with
  | none => rfl
  | some x =>
    have hm : b ∈ trk h H := List.mem_filter.mpr ⟨List.mem_range.mpr (Heap.lt_size e'), by simp [q]⟩
    have z : (hidT h H).get? b = none := PySem.W.hideAll_none (trk h H) hm
    rw [z] at e; cases e
end L2
namespace L2
open PySem PySem.Spec PyProof.Rows
structure Mod (K : PySem.W.Frag) (mg : Str → Option Value) (base : Heap) : Prop where
  kin : K.In base
  glob : base.Ns mainGlobals mg
  blt : ∃ mb, base.Ns builtinsNs mb ∧ ∀ x : Str, x ≠ "__name__" → mb x = bootBuiltins x
  nolimit : base.NoLimit
structure Cx where
  prog : Program
  w : World
  K : PySem.W.Frag
  mg : Str → Option Value
  base : Heap
  A : Around
  N : List Str
  s₀ : Shared
  H₀ : Hp
  env : Env
  outer : List Env
  stack : List Env
  ex : List Addr
  fn : Str → Bool
  calm : Bool
  pn : List (Addr × Obj)
  xe : Value → Shared → Prop
noncomputable def frs (l : List Env) : List Addr := l.filterMap (·.frame)
noncomputable abbrev Cx.fs (X : Cx) : List Addr := frs X.outer
noncomputable def Vis (sc : Scope) (x : Str) : Prop := sc.names.lookup x = some .local ∨ sc.names.lookup x = some .cell ∨ sc.names.lookup x = some .free
noncomputable def Loc (sc : Scope) (x : Str) : Prop := sc.names.lookup x = some .local ∨ sc.names.lookup x = some .cell
noncomputable def Look (env : Env) (h : Heap) (m : Str → Option Value) (x : Str) (u : Value) : Prop :=
  (env.kindOf x = some .local ∧ m x = some u) ∨ ((env.kindOf x = some .cell ∨ env.kindOf x = some .free) ∧ ∃ c, env.cells.lookup x = some c ∧ h.IsCell c (some u))
structure Cx.Ok (X : Cx) : Prop where
  mod : Mod X.K X.mg X.base
  kind : X.env.scope.kind = .function
  glob : X.env.globals = mainGlobals
  blt : X.env.builtins = builtinsNs
  above : X.s₀.heap.objs.size ≤ X.env.locals
  inj : ∀ x y c, X.env.cells.lookup x = some c → X.env.cells.lookup y = some c → x = y
  has : ∀ x, (X.env.kindOf x = some .cell ∨ X.env.kindOf x = some .free) → ∃ c, X.env.cells.lookup x = some c
  cab : ∀ x c, X.fn x = true → X.env.cells.lookup x = some c → X.s₀.heap.objs.size ≤ c
  hd : X.calm = true → X.A.handled = none
  frames : X.A.frames = some X.stack
  stk : X.stack = X.outer ∨ (X.stack = X.env :: X.outer ∧ X.env.frame = some X.env.locals)
  exf : ∀ b ∈ X.ex, b ≠ X.env.locals ∧ ∀ x c, X.env.cells.lookup x = some c → c ≠ b
  bs : ∀ b o, X.base.get? b = some o → X.s₀.heap.get? b = some o ∧ X.H₀ b = none
  bsz : X.base.objs.size ≤ X.s₀.heap.objs.size
  noex : ∀ b o, X.base.get? b = some o → b ∉ X.ex
  exfs : ∀ b ∈ X.ex, b ∉ X.fs
  funs : X.s₀.heap.FunFrames X.base X.outer
  frf : ∀ b ∈ X.fs, X.H₀ b = none
structure Inv (X : Cx) (pins : List (Addr × Obj)) (σ : List (Option V)) (H : Hp) (s : Shared) : Prop where
  ok : X.Ok
  os : s.os = X.s₀.os
  bare : AllBare s.gens
  base : Un X.fs X.ex X.H₀ H X.s₀.heap s.heap
  loc : ∃ m, s.heap.Ns X.env.locals m ∧ ∀ (i : Nat) (x : Str) (v : V), X.N[i]? = some x → σ[i]? = some (some v) → Vis X.env.scope x → ∃ u, RelV v u ∧ Look X.env s.heap m x u
  cell : ∀ x c, X.env.cells.lookup x = some c → ∃ v, s.heap.IsCell c v
  free : H X.env.locals = none
  freeC : ∀ x c, X.env.cells.lookup x = some c → H c = none
  pin : ∀ p ∈ X.pn ++ pins, s.heap.get? p.1 = some p.2 ∧ H p.1 = none ∧ p.1 ≠ X.env.locals ∧ p.1 ∉ X.fs ∧ ∀ v, p.2.data ≠ .cell v
  hok : HOk X.prog X.w H s.heap
  len : σ.length = X.N.length
section
variable {X : Cx} {pins : List (Addr × Obj)} {σ : List (Option V)} {H H' : Hp} {s : Shared} {h' : Heap}
theorem Cx.Ok.nofr (ok : X.Ok) {b : Addr} {o : Obj} (e : X.base.get? b = some o) : b ∉ X.fs := fun hb => by
  have := (ok.funs.mem hb).1
  rw [e] at this; cases this
theorem Inv.bs (I : Inv X pins σ H s) : ∀ b o, X.base.get? b = some o → s.heap.get? b = some o ∧ H b = none := fun b o e =>
  ⟨I.base.keep b o (I.ok.bs b o e).1 (I.ok.bs b o e).2 (I.ok.nofr e) (I.ok.noex b o e), I.base.free b o (I.ok.bs b o e).1 (I.ok.bs b o e).2 (I.ok.noex b o e)⟩
theorem Inv.bk (I : Inv X pins σ H s) : ∀ b o, X.base.get? b = some o → s.heap.get? b = some o := fun b o e => (I.bs b o e).1
theorem Inv.mod (I : Inv X pins σ H s) : Mod X.K X.mg X.base := I.ok.mod
theorem Inv.kIn (I : Inv X pins σ H s) : X.K.In s.heap := I.ok.mod.kin.keeps I.bk
theorem Inv.lt (I : Inv X pins σ H s) : X.env.locals < s.heap.objs.size := let ⟨_, hn, _⟩ := I.loc; hn.lt
theorem Inv.sz (I : Inv X pins σ H s) : X.s₀.heap.objs.size ≤ s.heap.objs.size := Nat.le_trans I.ok.above (Nat.le_of_lt I.lt)
theorem Inv.nofs (I : Inv X pins σ H s) {a : Addr} (h : s.heap.objs.size ≤ a) : a ∉ X.fs := fun hb => by
  obtain ⟨_, o, ho, _⟩ := I.ok.funs.mem hb
  exact absurd (Nat.lt_of_lt_of_le (Heap.lt_size ho) (Nat.le_trans I.sz h)) (Nat.lt_irrefl _)
theorem Inv.cne (I : Inv X pins σ H s) : ∀ x c, X.env.cells.lookup x = some c → c ≠ X.env.locals := fun x c e z => by
  obtain ⟨v, o, ho, hd⟩ := I.cell x c e
  obtain ⟨m, ⟨o', es, ep, ho', hd', _⟩, _⟩ := I.loc
  rw [z, ho'] at ho; cases ho; rw [hd'] at hd; cases hd
theorem Inv.funs (I : Inv X pins σ H s) : s.heap.FunFrames X.base X.outer := by
  have all : ∀ (l : List Env), (∀ b ∈ frs l, b ∈ X.fs) → X.s₀.heap.FunFrames X.base l → s.heap.FunFrames X.base l := by
    intro l
    induction l with
    | nil => intro _ _; trivial
    | cons env r ih =>
      intro hs hl
      obtain ⟨hk, ⟨L, o, hf, hn, ho, hd⟩, hr⟩ := hl
      have hL : L ∈ X.fs := hs L (by unfold frs; rw [List.filterMap_cons, hf]; exact List.mem_cons_self)
      obtain ⟨sl, e⟩ := I.base.slot L o ho (I.ok.frf L hL) hL fun z => I.ok.exfs L z hL
      exact ⟨hk, ⟨L, _, hf, hn, e, hd⟩, ih (fun b hb => hs b (by unfold frs; rw [List.filterMap_cons, hf]; exact List.mem_cons_of_mem _ hb)) hr⟩
  exact all X.outer (fun _ hb => hb) I.ok.funs
theorem Inv.stack (I : Inv X pins σ H s) : s.heap.FunFrames X.base X.stack := by
  rcases I.ok.stk with e | ⟨e, hf⟩
  · rw [e]; exact I.funs
  · rw [e]
    obtain ⟨m, hn, _⟩ := I.loc
    refine .cons (by rw [I.ok.kind]; decide) hf hn ?_ I.funs
    exact Heap.get?_none_of_le (Nat.le_trans I.ok.bsz I.ok.above)
theorem Inv.stkSub (I : Inv X pins σ H s) : ∀ b ∈ frs X.stack, b ∈ X.env.locals :: X.fs := fun b hb => by
  rcases I.ok.stk with e | ⟨e, hf⟩
  · rw [e] at hb; exact List.mem_cons_of_mem _ hb
  · rw [e] at hb
    unfold frs at hb
    rw [List.filterMap_cons, hf] at hb
    exact hb
theorem Inv.stkFree (I : Inv X pins σ H s) : ∀ b ∈ frs X.stack, H b = none := fun b hb => by
  rcases List.mem_cons.mp (I.stkSub b hb) with e | hb
  · rw [e]; exact I.free
  · obtain ⟨_, o, ho, _⟩ := I.ok.funs.mem hb
    exact I.base.free b o ho (I.ok.frf b hb) fun z => I.ok.exfs b z hb
theorem Inv.step {g' : Array GenState} {t' : Nat} {d' : Drawn} {ch : List Addr} (I : Inv X pins σ H s)
    (hch : ∀ b ∈ ch, (b ∈ X.ex ∨ X.s₀.heap.objs.size ≤ b) ∧ b ≠ X.env.locals ∧ (∀ x c, X.env.cells.lookup x = some c → c ≠ b) ∧ ∀ p ∈ X.pn ++ pins, p.1 ≠ b)
    (keep : ∀ b o, b ≠ X.env.locals → b ∉ X.fs → b ∉ ch → s.heap.get? b = some o → H b = none → h'.get? b = some o)
    (slot : ∀ b o, b ≠ X.env.locals → b ∈ X.fs → b ∉ ch → s.heap.get? b = some o → H b = none → ∃ sl, h'.get? b = some { o with slots := sl }) (free : ∀ b o, b ∉ ch → s.heap.get? b = some o → H b = none → H' b = none)
    (there : ∀ b o, b ∉ ch → s.heap.get? b = some o → ∃ o', h'.get? b = some o')
    (tups : ∀ b xs, H b = some (.tup xs) → H' b = some (.tup xs)) (frzs : ∀ b o u, H b = some (.frz o u) → H' b = some (.frz o u)) (tbls : ∀ b ps, H b = some (.tbl ps) → ∃ more, H' b = some (.tbl (ps ++ more)))
    (ns : ∀ m, s.heap.Ns X.env.locals m → h'.Ns X.env.locals m) (hok : HOk X.prog X.w H' h') (hg : AllBare g') :
    Inv X pins σ H' { s with heap := h', gens := g', drawn := d', toks := t' } := by
  have neL : ∀ b o, X.s₀.heap.get? b = some o → b ≠ X.env.locals := fun b o e => Nat.ne_of_lt (Nat.lt_of_lt_of_le (Heap.lt_size e) I.ok.above)
  have neC : ∀ b o, X.s₀.heap.get? b = some o → b ∉ X.ex → b ∉ ch := fun b o e hx hb => by
    rcases (hch b hb).1 with z | z
    · exact hx z
    · exact absurd (Nat.lt_of_lt_of_le (Heap.lt_size e) z) (Nat.lt_irrefl _)
  have cellK : ∀ x c, X.env.cells.lookup x = some c → ∀ v, s.heap.IsCell c v → h'.IsCell c v := fun x c e v ⟨o, ho, hd⟩ => by
    have nch : c ∉ ch := fun z => (hch c z).2.2.1 x c e rfl
    by_cases hc : c ∈ X.fs
    · obtain ⟨sl, q⟩ := slot c o (I.cne x c e) hc nch ho (I.freeC x c e)
      exact ⟨_, q, hd⟩
    · exact ⟨o, keep c o (I.cne x c e) hc nch ho (I.freeC x c e), hd⟩
  refine ⟨I.ok, I.os, hg, ⟨fun b o e n hb hx => ?_, fun b o e n hb hx => ?_, fun b o e n hx => ?_, fun b o e hx => ?_, fun b xs e => tups b xs (I.base.tups b xs e), fun b o xs e => frzs b o xs (I.base.frzs b o xs e), fun b ps e => ?_⟩, ?_, fun x c e => ?_, ?_, fun x c e => ?_, fun p hp => ?_, hok, I.len⟩
  · exact keep b o (neL b o e) hb (neC b o e hx) (I.base.keep b o e n hb hx) (I.base.free b o e n hx)
  · obtain ⟨sl, e1⟩ := I.base.slot b o e n hb hx
    obtain ⟨sl', e2⟩ := slot b _ (neL b o e) hb (neC b o e hx) e1 (I.base.free b o e n hx)
    exact ⟨sl', e2⟩
  · obtain ⟨o', e1⟩ := I.base.there b o e hx
    exact free b o' (neC b o e hx) e1 (I.base.free b o e n hx)
  · obtain ⟨o', e1⟩ := I.base.there b o e hx
    exact there b o' (neC b o e hx) e1
  · obtain ⟨m1, e1⟩ := I.base.tbls b ps e
    obtain ⟨m2, e2⟩ := tbls b _ e1
    exact ⟨m1 ++ m2, by rw [e2, Array.append_assoc]⟩
  · obtain ⟨m, hn, hl⟩ := I.loc
    refine ⟨m, ns m hn, fun i x v e1 e2 e3 => ?_⟩
    obtain ⟨u, r, l⟩ := hl i x v e1 e2 e3
    refine ⟨u, r, ?_⟩
    rcases l with l | ⟨k, c, e, z⟩
    · exact .inl l
    · exact .inr ⟨k, c, e, cellK x c e _ z⟩
  · obtain ⟨v, z⟩ := I.cell x c e
    exact ⟨v, cellK x c e v z⟩
  · obtain ⟨m, ⟨o, _, _, ho, _⟩, _⟩ := I.loc
    exact free _ o (fun z => (hch _ z).2.1 rfl) ho I.free
  · obtain ⟨v, o, ho, hd⟩ := I.cell x c e
    exact free c o (fun z => (hch c z).2.2.1 x c e rfl) ho (I.freeC x c e)
  · obtain ⟨e, n, ne, nf, d⟩ := I.pin p hp
    have nch : p.1 ∉ ch := fun z => (hch p.1 z).2.2.2 p hp rfl
    exact ⟨keep p.1 p.2 ne nf nch e n, free p.1 p.2 nch e n, ne, nf, d⟩
theorem Inv.un {t' : Nat} (I : Inv X pins σ H s) (u : Un X.fs [] H H' s.heap h') (hok : HOk X.prog X.w H' h') : Inv X pins σ H' { s with heap := h', toks := t' } := by
  obtain ⟨m, ⟨o, es, ep, ho, r⟩, _⟩ := id I.loc
  obtain ⟨sl, hL⟩ := u.any ho I.free (by simp)
  exact I.step (g' := s.gens) (d' := s.drawn) (ch := []) (fun _ z => nomatch z) (fun b o _ hb _ e n => u.keep b o e n hb (by simp)) (fun b o _ hb _ e n => u.slot b o e n hb (by simp)) (fun b o _ e n => u.free b o e n (by simp)) (fun b o _ e => u.there b o e (by simp)) u.tups u.frzs u.tbls (fun m' hm => by
    obtain ⟨o', es', ep', ho', r'⟩ := hm
    rw [ho] at ho'; cases ho'
    exact ⟨_, es', ep', hL, r'⟩) hok I.bare
theorem Inv.call {g' : Array GenState} {t' : Nat} {d' : Drawn} {ch : List Addr} (I : Inv X pins σ H s) (u : Un (frs X.stack) ch H H' s.heap h') (hok : HOk X.prog X.w H' h') (hg : AllBare g')
    (hch : ∀ b ∈ ch, (b ∈ X.ex ∨ X.s₀.heap.objs.size ≤ b) ∧ b ≠ X.env.locals ∧ (∀ x c, X.env.cells.lookup x = some c → c ≠ b) ∧ ∀ p ∈ X.pn ++ pins, p.1 ≠ b) :
    Inv X pins σ H' { s with heap := h', gens := g', drawn := d', toks := t' } := by
  obtain ⟨m, ⟨o, es, ep, ho, r⟩, _⟩ := id I.loc
  obtain ⟨sl, hL⟩ := u.any ho I.free fun z => (hch _ z).2.1 rfl
  exact I.step (ch := ch) hch (fun b o hL hb hc e n => u.keep b o e n (fun z => (List.mem_cons.mp (I.stkSub b z)).elim hL hb) hc) (fun b o _ _ hc e n => u.any e n hc) (fun b o hc e n => u.free b o e n hc) (fun b o hc e => u.there b o e hc) u.tups u.frzs u.tbls (fun m' hm => by
    obtain ⟨o', es', ep', ho', r'⟩ := hm
    rw [ho] at ho'; cases ho'
    exact ⟨_, es', ep', hL, r'⟩) hok hg
theorem Inv.turned {t' : Nat} {it : Addr} (I : Inv X pins σ H s) (k : ∀ b o, b ≠ it → s.heap.get? b = some o → h'.get? b = some o) (hn : H it = none) (hL : it ≠ X.env.locals)
    (h1 : it ∈ X.ex ∨ X.s₀.heap.objs.size ≤ it) (h2 : ∀ x c, X.env.cells.lookup x = some c → c ≠ it) (h3 : ∀ p ∈ X.pn ++ pins, p.1 ≠ it) : Inv X pins σ H { s with heap := h', toks := t' } := by
  have nit : ∀ b u, H b = some u → b ≠ it := fun b u e z => by rw [z, hn] at e; cases e
  refine I.step (g' := s.gens) (d' := s.drawn) (ch := [it]) (fun b hb => ?_) (fun b o _ _ hc e _ => k b o (fun z => hc (by simp [z])) e) (fun b o _ _ hc e _ => ⟨o.slots, k b o (fun z => hc (by simp [z])) e⟩) (fun _ _ _ _ n => n)
    (fun b o hc e => ⟨o, k b o (fun z => hc (by simp [z])) e⟩) (fun _ _ e => e) (fun _ _ _ e => e) (fun b ps e => ⟨#[], by rw [e]; simp⟩) (fun m hm => ?_) (fun b u e => ?_) I.bare
  · have e : b = it := by simpa using hb
    subst e
    exact ⟨h1, hL, h2, h3⟩
  · obtain ⟨o, es, ep, ho, r⟩ := hm
    exact ⟨o, es, ep, k _ o (Ne.symm hL) ho, r⟩
  · refine (I.hok b u e).stay (fun c v hc q => k c v ?_ q) (fun _ q => q) fun _ _ q => q
    rcases hc with z | z
    · rw [z]; exact nit b u e
    · exact nit c _ z
theorem Inv.tok (I : Inv X pins σ H s) (t : Nat) : Inv X pins σ H { s with toks := t } := I.un (h' := s.heap) (t' := t) Un.refl I.hok
theorem Inv.kept {t' : Nat} (I : Inv X pins σ H s) (k : ∀ b u, s.heap.get? b = some u → h'.get? b = some u) : Inv X pins σ H { s with heap := h', toks := t' } := I.un (Un.kept k) (I.hok.kept k)
theorem Inv.laid {a : Addr} {o : HO} {t' : Nat} (I : Inv X pins σ H s) (k : ∀ b u, s.heap.get? b = some u → h'.get? b = some u) (hp : s.heap.objs.size ≤ a) (new : ObjOk X.prog X.w (upd H a o) h' a o) :
    Inv X pins σ (upd H a o) { s with heap := h', toks := t' } := I.un (Un.laid k hp (I.hok.fresh hp)) (I.hok.laid k hp new)
theorem Inv.write {x e : Addr} {o : HO} {t' : Nat} (I : Inv X pins σ H s) (mu : Mut (H x)) (he : e = x ∨ H e = some (.own x)) (k : ∀ b u, b ≠ e → s.heap.get? b = some u → h'.get? b = some u) (heo : ∃ u, h'.get? e = some u)
    (new : ObjOk X.prog X.w (upd H x o) h' x o) : Inv X pins σ (upd H x o) { s with heap := h', toks := t' } := I.un (Un.write mu he k heo) (I.hok.write mu he k heo new)
theorem Inv.pins_of {pins' : List (Addr × Obj)} (I : Inv X pins σ H s) (h : ∀ p ∈ pins', s.heap.get? p.1 = some p.2 ∧ H p.1 = none ∧ p.1 ≠ X.env.locals ∧ p.1 ∉ X.fs ∧ ∀ v, p.2.data ≠ .cell v) : Inv X pins' σ H s :=
  ⟨I.ok, I.os, I.bare, I.base, I.loc, I.cell, I.free, I.freeC, fun p hp => (List.mem_append.mp hp).elim (fun z => I.pin p (List.mem_append_left _ z)) (h p), I.hok, I.len⟩
theorem nodup_ix {N : List Str} (hN : N.Nodup) {i j : Nat} {x : Str} (a : N[i]? = some x) (b : N[j]? = some x) : i = j := by
  obtain ⟨h1, e1⟩ := List.getElem?_eq_some_iff.mp a
  obtain ⟨h2, e2⟩ := List.getElem?_eq_some_iff.mp b
  exact (List.getElem_inj hN).mp (e1.trans e2.symm)
theorem store_ok2 {M : Model} {A : Around} {E : Value → Shared → Prop} {i : Nat} {x : Str} {v : V} {u : Value} {Q : Unit → Shared → Prop} (I : Inv X pins σ H s) (hN : X.N.Nodup) (hi : X.N[i]? = some x) (hx : Loc X.env.scope x) (r : RelV v u)
    (h : ∀ s', Inv X pins (σ.set i (some v)) H s' → (∃ a, Heap.SameBut a s.heap s'.heap ∧ (a = X.env.locals ∨ X.env.cells.lookup x = some a)) → Q () s') (hf : X.fn x = true ∨ X.env.scope.names.lookup x = some .local := by first | exact .inl rfl | exact .inr rfl | assumption) : wpAny M A (storeName X.env x u) Q E s := by
  obtain ⟨m, hn, hl⟩ := id I.loc
  have hcls : (X.env.scope.kind == .class || (X.env.scope.kind == .module && X.env.locals != X.env.globals)) = false := by rw [I.ok.kind]; rfl
  have hiσ : i < σ.length := by rw [I.len]; exact (List.getElem?_eq_some_iff.mp hi).1
  have cne := I.cne
  have tracked : ∀ {a : Addr} {h' : Heap}, (∃ o, s.heap.get? a = some o ∧ H a = none) → Heap.SameBut a s.heap h' → HOk X.prog X.w H h' := fun {a h'} ha hs b ob e => by
    obtain ⟨_, _, hfree⟩ := ha
    refine (I.hok b ob e).stay (fun c w' hc q => (hs.2 c ?_).trans q) (fun _ q => q) fun _ _ q => q
    rintro rfl
    rcases hc with rfl | hc
    · rw [hfree] at e; cases e
    · rw [hfree] at hc; cases hc
  rcases hx with hk | hk
  · refine wpAny_storeName_local hk hn (fun h' hn' hs => ?_) hcls
    obtain ⟨oL, _, _, hoL, _⟩ := id hn
    refine h _ ⟨I.ok, I.os, I.bare, ⟨fun b o e n hb hx => ?_, fun b o e n hb hx => ?_, I.base.free, fun b o e hx => ?_, I.base.tups, I.base.frzs, I.base.tbls⟩, ⟨_, hn', fun j y v' e1 e2 e3 => ?_⟩, fun y c e => ?_, I.free, I.freeC, fun p hp => ?_, tracked ⟨oL, hoL, I.free⟩ hs, by simpa using I.len⟩ ⟨_, hs, .inl rfl⟩
    · exact (hs.2 b (Nat.ne_of_lt (Nat.lt_of_lt_of_le (Heap.lt_size e) I.ok.above))).trans (I.base.keep b o e n hb hx)
    · obtain ⟨sl, e1⟩ := I.base.slot b o e n hb hx
      exact ⟨sl, (hs.2 b (Nat.ne_of_lt (Nat.lt_of_lt_of_le (Heap.lt_size e) I.ok.above))).trans e1⟩
    · obtain ⟨o', e1⟩ := I.base.there b o e hx
      exact ⟨o', (hs.2 b (Nat.ne_of_lt (Nat.lt_of_lt_of_le (Heap.lt_size e) I.ok.above))).trans e1⟩
    · by_cases hj : j = i
      · subst hj
        rw [hi] at e1; cases e1
        rw [List.getElem?_set_self hiσ] at e2
        cases e2
        exact ⟨u, r, .inl ⟨hk, by simp⟩⟩
      · rw [List.getElem?_set_ne (Ne.symm hj)] at e2
        obtain ⟨u', r', q⟩ := hl j y v' e1 e2 e3
        refine ⟨u', r', ?_⟩
        rcases q with ⟨k, e⟩ | ⟨k, c, e, z⟩
        · refine .inl ⟨k, ?_⟩
          have : y ≠ x := fun e => hj (nodup_ix hN e1 (e ▸ hi))
          simp [this, e]
        · exact .inr ⟨k, c, e, z.sameBut hs (cne y c e)⟩
    · obtain ⟨w', z⟩ := I.cell y c e
      exact ⟨w', z.sameBut hs (cne y c e)⟩
    · obtain ⟨e, n, ne, nf, d⟩ := I.pin p hp
      exact ⟨(hs.2 p.1 ne).trans e, n, ne, nf, d⟩
  · have hfn : X.fn x = true := by
      rcases hf with z | z
      · exact z
      · rw [z] at hk; cases hk
    obtain ⟨c, hc⟩ := I.ok.has x (.inl hk)
    obtain ⟨w', z⟩ := I.cell x c hc
    refine wpAny_storeName_cell I.ok.kind hk hc z (fun h' hc' hs => ?_)
    obtain ⟨oc, hoc, hocd⟩ := id z
    refine h { s with heap := h' } ⟨I.ok, I.os, I.bare, ⟨fun b o e n hb hx => ?_, fun b o e n hb hx => ?_, I.base.free, fun b o e hx => ?_, I.base.tups, I.base.frzs, I.base.tbls⟩, ⟨m, hn.sameBut hs (Ne.symm (cne x c hc)), fun j y v' e1 e2 e3 => ?_⟩, fun y c' e => ?_, I.free, I.freeC, fun p hp => ?_, tracked ⟨oc, hoc, I.freeC x c hc⟩ hs, by simpa using I.len⟩ ⟨c, hs, .inr hc⟩
    · exact (hs.2 b (Nat.ne_of_lt (Nat.lt_of_lt_of_le (Heap.lt_size e) (I.ok.cab x c hfn hc)))).trans (I.base.keep b o e n hb hx)
    · obtain ⟨sl, e1⟩ := I.base.slot b o e n hb hx
      exact ⟨sl, (hs.2 b (Nat.ne_of_lt (Nat.lt_of_lt_of_le (Heap.lt_size e) (I.ok.cab x c hfn hc)))).trans e1⟩
    · obtain ⟨o', e1⟩ := I.base.there b o e hx
      exact ⟨o', (hs.2 b (Nat.ne_of_lt (Nat.lt_of_lt_of_le (Heap.lt_size e) (I.ok.cab x c hfn hc)))).trans e1⟩
    · by_cases hj : j = i
      · subst hj
        rw [hi] at e1; cases e1
        rw [List.getElem?_set_self hiσ] at e2
        cases e2
        exact ⟨u, r, .inr ⟨.inl hk, c, hc, hc'⟩⟩
      · rw [List.getElem?_set_ne (Ne.symm hj)] at e2
        obtain ⟨u', r', q⟩ := hl j y v' e1 e2 e3
        refine ⟨u', r', ?_⟩
        rcases q with q | ⟨k, c', e, z'⟩
        · exact .inl q
        · refine .inr ⟨k, c', e, z'.sameBut hs ?_⟩
          rintro rfl
          exact hj (nodup_ix hN e1 (I.ok.inj _ _ _ e hc ▸ hi))
    · by_cases hcc : c' = c
      · subst hcc; exact ⟨_, hc'⟩
      · obtain ⟨w2, z2⟩ := I.cell y c' e
        exact ⟨w2, z2.sameBut hs hcc⟩
    · obtain ⟨e, n, ne, nf, d⟩ := I.pin p hp
      refine ⟨(hs.2 p.1 ?_).trans e, n, ne, nf, d⟩
      intro q
      rw [q, hoc] at e
      have q' : oc = p.2 := Option.some.inj e
      exact d w' (by rw [← q']; exact hocd)
theorem store_ok {M : Model} {A : Around} {E : Value → Shared → Prop} {i : Nat} {x : Str} {v : V} {u : Value} {Q : Unit → Shared → Prop} (I : Inv X pins σ H s) (hN : X.N.Nodup) (hi : X.N[i]? = some x) (hx : Loc X.env.scope x) (r : RelV v u)
    (h : ∀ s', Inv X pins (σ.set i (some v)) H s' → Q () s') (hf : X.fn x = true ∨ X.env.scope.names.lookup x = some .local := by first | exact .inl rfl | exact .inr rfl | assumption) : wpAny M A (storeName X.env x u) Q E s :=
  store_ok2 I hN hi hx r (fun s' I' _ => h s' I') hf
theorem Inv.call' {s' : Shared} {ch : List Addr} (I : Inv X pins σ H s) (ho : s'.os = s.os) (u : Un (frs X.stack) ch H H' s.heap s'.heap) (hok : HOk X.prog X.w H' s'.heap) (hg : AllBare s'.gens)
    (hch : ∀ b ∈ ch, (b ∈ X.ex ∨ X.s₀.heap.objs.size ≤ b) ∧ b ≠ X.env.locals ∧ (∀ x c, X.env.cells.lookup x = some c → c ≠ b) ∧ ∀ p ∈ X.pn ++ pins, p.1 ≠ b) : Inv X pins σ H' s' := by
  obtain ⟨h', g', d', t', o'⟩ := s'
  have e : o' = s.os := ho
  subst e
  exact I.call (g' := g') (t' := t') (d' := d') u hok hg hch
end
noncomputable abbrev XK := Value → Option Addr → Hp → Prop
noncomputable abbrev St := List (Option V)
noncomputable abbrev VK := V → Hp → Prop
noncomputable abbrev TE := St → Hp → VK → Prop
noncomputable abbrev TT := St → Hp → (Bool → Hp → Prop) → Prop
noncomputable abbrev TA := St → Hp → (List V → Hp → Prop) → Prop
structure Ends where
  nx : St → Hp → Prop
  rt : VK
  bk : St → Hp → Prop := fun _ _ => False
  ct : St → Hp → Prop := fun _ _ => False
noncomputable abbrev TS := Ends → St → Hp → Prop
noncomputable def EP (X : Cx) (pins : List (Addr × Obj)) (σ : St) (Q : VK) (u : Value) (s' : Shared) : Prop := ∃ v H', Inv X pins σ H' s' ∧ RelV v u ∧ Q v H'
noncomputable def TP (X : Cx) (pins : List (Addr × Obj)) (σ : St) (Q : Bool → Hp → Prop) (b : Bool) (s' : Shared) : Prop := ∃ H', Inv X pins σ H' s' ∧ Q b H'
noncomputable def AP (X : Cx) (pins : List (Addr × Obj)) (σ : St) (Q : List V → Hp → Prop) (us : List Value) (s' : Shared) : Prop := ∃ vs H', Inv X pins σ H' s' ∧ Vals vs us ∧ Q vs H'
noncomputable def SP (X : Cx) (pins : List (Addr × Obj)) (D : Ends) (f : Flow) (s' : Shared) : Prop :=
  match f with
  | .next => ∃ σ' H', Inv X pins σ' H' s' ∧ D.nx σ' H'
  | .brk => ∃ σ' H', Inv X pins σ' H' s' ∧ D.bk σ' H'
  | .cont => ∃ σ' H', Inv X pins σ' H' s' ∧ D.ct σ' H'
  | .ret u => ∃ v σ' H', Inv X pins σ' H' s' ∧ RelV v u ∧ D.rt v H'
noncomputable def PE (X : Cx) (e : Expr) (t : TE) : Prop :=
  ∀ (pins : List (Addr × Obj)) (s : Shared) (σ : St) (H : Hp) (Q : VK), Inv X pins σ H s → t σ H Q → wpAny (model X.prog X.w) X.A (eval e X.env) (EP X pins σ Q) X.xe s
noncomputable def PT (X : Cx) (e : Expr) (t : TT) : Prop :=
  ∀ (pins : List (Addr × Obj)) (s : Shared) (σ : St) (H : Hp) (Q : Bool → Hp → Prop), Inv X pins σ H s → t σ H Q → wpAny (model X.prog X.w) X.A (isTrue e X.env (eval e X.env)) (TP X pins σ Q) X.xe s
noncomputable def PW (X : Cx) (e : Expr) (t : TT) : Prop :=
  ∀ (whole : Sem Value) (pins : List (Addr × Obj)) (s : Shared) (σ : St) (H : Hp) (Q : Bool → Hp → Prop), Inv X pins σ H s → t σ H Q → wpAny (model X.prog X.w) X.A (isTrue e X.env whole) (TP X pins σ Q) X.xe s
noncomputable def PA (X : Cx) (es : List Expr) (t : TA) : Prop :=
  ∀ (pos : Pos) (pins : List (Addr × Obj)) (s : Shared) (σ : St) (H : Hp) (Q : List V → Hp → Prop), Inv X pins σ H s → t σ H Q → wpAny (model X.prog X.w) X.A (spliced (backTo pos (starEach es X.env))) (AP X pins σ Q) X.xe s
noncomputable def PS (X : Cx) (st : Stmt) (t : TS) : Prop :=
  ∀ (pins : List (Addr × Obj)) (s : Shared) (σ : St) (H : Hp) (D : Ends), Inv X pins σ H s → t D σ H → wpAny (model X.prog X.w) X.A (exec st X.env) (SP X pins D) X.xe s
noncomputable def PSs (X : Cx) (st : List Stmt) (t : TS) : Prop :=
  ∀ (pins : List (Addr × Obj)) (s : Shared) (σ : St) (H : Hp) (D : Ends), Inv X pins σ H s → t D σ H → wpAny (model X.prog X.w) X.A (execs st X.env) (SP X pins D) X.xe s
theorem thn {α : Type} {t : Sem α} {Q Q' : α → Shared → Prop} {M : Model} {A : Around} {E : Value → Shared → Prop} {s : Shared} (h : wpAny M A t Q E s) (hQ : ∀ a s, Q a s → Q' a s) : wpAny M A t Q' E s := wpAny_mono h hQ fun _ _ x => x
end L2
namespace L2
open PySem PySem.Spec PyProof.Rows
section
variable {X : Cx}
noncomputable def tVar (i : Nat) : TE := fun σ H Q => ∃ v, σ[i]? = some (some v) ∧ Q v H
noncomputable def tC (v : V) : TE := fun _ H Q => Q v H
theorem pe_var {i : Nat} {x : Str} {pos : Pos} (hN : X.N[i]? = some x) (hv : Vis X.env.scope x) (hd : (x == ("__debug__" : Str)) = false := by decide) (hcd : (x == ("__classdict__" : Str)) = false := by decide) : PE X (.Name x pos) (tVar i) := by
  intro pins s σ H Q I h
  obtain ⟨v, e, h⟩ := h
  obtain ⟨m, hn, hl⟩ := I.loc
  obtain ⟨u, r, l⟩ := hl i x v hN e hv
  have fin : EP X pins σ Q u s := ⟨v, H, I, r, h⟩
  rcases l with ⟨hk, hm⟩ | ⟨hk, c, hc, hcell⟩
  · exact wpAny_Name (wpAny_loadName_local I.ok.kind hk hn hm fin) hd
  · rcases hk with hk | hk
    · exact wpAny_Name (wpAny_loadName_cell I.ok.kind hk hc hcell fin) hd
    · exact wpAny_Name (wpAny_loadName_free I.ok.kind hk hc hcell fin hcd) hd
theorem pe_int {i j pos} : PE X (.Constant (.int i) j pos) (tC (.int i)) := fun _ _ _ H _ I h => wpAny_Constant_int ⟨.int i, H, I.tok _, ⟨_, rfl⟩, h⟩
theorem pe_bl {b j pos} : PE X (.Constant (.bool b) j pos) (tC (.bl b)) := fun _ _ _ H _ I h => Constant_bool ⟨.bl b, H, I, rfl, h⟩
theorem pe_str {x j pos} : PE X (.Constant (.str x) j pos) (tC (.str x)) := fun _ _ _ H _ I h => Calls.Constant_str ⟨.str x, H, I.tok _, ⟨_, rfl⟩, h⟩
noncomputable def Gl (X : Cx) (x : Str) : Prop := X.env.kindOf x = some .globalImplicit
theorem ld_glob {E : Value → Shared → Prop} {pins : List (Addr × Obj)} {s : Shared} {σ : St} {H : Hp} {x : Str} {u : Value} {pos : Pos} {Q : Value → Shared → Prop} (I : Inv X pins σ H s) (hg : Gl X x) (hm : X.mg x = some u) (h : Q u s)
    (hd : (x == ("__debug__" : Str)) = false := by decide) : wpAny (model X.prog X.w) X.A (eval (.Name x pos) X.env) Q E s :=
  Calls.Name_function_global I.ok.kind hg (Calls.loadGlobal_global (by rw [I.ok.glob]; exact I.mod.glob.keeps I.bk) hm h) hd
theorem ld_blt {E : Value → Shared → Prop} {pins : List (Addr × Obj)} {s : Shared} {σ : St} {H : Hp} {x : Str} {u : Value} {pos : Pos} {Q : Value → Shared → Prop} (I : Inv X pins σ H s) (hg : Gl X x) (hm : X.mg x = none) (hv : bootBuiltins x = some u) (h : Q u s)
    (hn : x ≠ "__name__" := by decide) (hd : (x == ("__debug__" : Str)) = false := by decide) : wpAny (model X.prog X.w) X.A (eval (.Name x pos) X.env) Q E s := by
  obtain ⟨mb, h1, h2⟩ := I.mod.blt
  exact Calls.Name_function_global I.ok.kind hg (Calls.loadGlobal_builtin (by rw [I.ok.glob]; exact I.mod.glob.keeps I.bk) hm (by rw [I.ok.blt]; exact h1.keeps I.bk) ((h2 x hn).trans hv) h) hd
theorem pe_glob {x : Str} {v : V} {u : Value} {pos : Pos} (hg : Gl X x) (hm : X.mg x = some u) (r : RelV v u) (hd : (x == ("__debug__" : Str)) = false := by decide) : PE X (.Name x pos) (tC v) :=
  fun _ _ _ H _ I h => ld_glob I hg hm ⟨v, H, I, r, h⟩ hd
theorem pe_bltn {x : Str} {v : V} {u : Value} {pos : Pos} (hg : Gl X x) (hm : X.mg x = none) (hv : bootBuiltins x = some u) (r : RelV v u) (hn : x ≠ "__name__" := by decide) (hd : (x == ("__debug__" : Str)) = false := by decide) : PE X (.Name x pos) (tC v) :=
  fun _ _ _ H _ I h => ld_blt I hg hm hv ⟨v, H, I, r, h⟩ hn hd
variable {a b : Expr} {ta tb : TE} {pos : Pos}
variable {tA tB' : TT} {rest : List Expr}
noncomputable def tAnd (t u : TT) : TT := fun σ H Q => t σ H fun c H1 => if c = true then u σ H1 Q else Q false H1
noncomputable def tOr (t u : TT) : TT := fun σ H Q => t σ H fun c H1 => if c = true then Q true H1 else u σ H1 Q
noncomputable def tNot (t : TT) : TT := fun σ H Q => t σ H fun c H1 => Q (!c) H1
theorem pw_and1 (ha : PT X a tA) : PW X (.BoolOp .And [a] pos) tA := by
  intro wh pins s σ H Q I h
  refine isTrue_and (thn (ha pins s σ H Q I h) fun c s1 e => ?_)
  cases c with
  | true => exact isTrue_and_nil e
  | false => exact e
theorem pw_or1 (ha : PT X a tA) : PW X (.BoolOp .Or [a] pos) tA := by
  intro wh pins s σ H Q I h
  refine isTrue_or (thn (ha pins s σ H Q I h) fun c s1 e => ?_)
  cases c with
  | false => exact isTrue_or_nil e
  | true => exact e
theorem pw_and (ha : PT X a tA) (hb : PW X (.BoolOp .And (b :: rest) pos) tB') : PW X (.BoolOp .And (a :: b :: rest) pos) (tAnd tA tB') := by
  intro wh pins s σ H Q I h
  refine isTrue_and (thn (ha pins s σ H _ I h) fun c s1 zz => ?_)
  obtain ⟨H1, I1, q1⟩ := zz
  cases c with
  | true => exact hb wh pins s1 σ H1 Q I1 q1
  | false => exact ⟨H1, I1, q1⟩
theorem pw_or (ha : PT X a tA) (hb : PW X (.BoolOp .Or (b :: rest) pos) tB') : PW X (.BoolOp .Or (a :: b :: rest) pos) (tOr tA tB') := by
  intro wh pins s σ H Q I h
  refine isTrue_or (thn (ha pins s σ H _ I h) fun c s1 zz => ?_)
  obtain ⟨H1, I1, q1⟩ := zz
  cases c with
  | true => exact ⟨H1, I1, q1⟩
  | false => exact hb wh pins s1 σ H1 Q I1 q1
theorem pt_not (ha : PT X a tA) : PT X (.UnaryOp .Not a pos) (tNot tA) := by
  intro pins s σ H Q I h
  exact isTrue_not (ha pins s σ H (fun c H1 => Q (!c) H1) I h)
noncomputable def tAndV (ta tb : TE) : TE := fun σ H Q => ta σ H fun x H1 => ∃ c, x = .bl c ∧ if c = true then tb σ H1 Q else Q (.bl false) H1
noncomputable def tNotV (ta : TE) : TE := fun σ H Q => ta σ H fun x H1 => ∃ c, x = .bl c ∧ Q (.bl (!c)) H1
theorem pe_one {op} {t : TE} (h : PE X a t) : PE X (.BoolOp op [a] pos) t := fun pins s σ H Q I hw => BoolOp_one (h pins s σ H Q I hw)
theorem pe_and (ha : PE X a ta) (hb : PE X (.BoolOp .And (b :: rest) pos) tb) : PE X (.BoolOp .And (a :: b :: rest) pos) (tAndV ta tb) := by
  intro pins s σ H Q I h
  refine BoolOp_and (thn (ha pins s σ H _ I h) fun v s1 zz => ?_)
  obtain ⟨x, H1, I1, r1, q1⟩ := zz
  obtain ⟨c, rfl, q1⟩ := q1
  cases r1
  refine wpAny_truthy_bool ?_
  cases c with
  | true => exact hb pins s1 σ H1 Q I1 q1
  | false => exact ⟨.bl false, H1, I1, rfl, q1⟩
theorem pe_not (ha : PE X a ta) : PE X (.UnaryOp .Not a pos) (tNotV ta) := by
  intro pins s σ H Q I h
  refine UnaryOp_ (thn (ha pins s σ H _ I h) fun v s1 zz => ?_)
  obtain ⟨x, H1, I1, r1, q1⟩ := zz
  obtain ⟨c, rfl, q1⟩ := q1
  cases r1
  exact not_of (wpAny_truthy_bool ⟨.bl (!c), H1, I1, rfl, q1⟩)
noncomputable def tIf (t : TT) (ta tb : TE) : TE := fun σ H Q => t σ H fun c H1 => if c = true then ta σ H1 Q else tb σ H1 Q
theorem pe_ifExp {c : Expr} (hc : PT X c tA) (ha : PE X a ta) (hb : PE X b tb) : PE X (.IfExp c a b pos) (tIf tA ta tb) := by
  intro pins s σ H Q I h
  refine wpAny_IfExp (thn (hc pins s σ H _ I h) fun d s1 zz => ?_)
  obtain ⟨H1, I1, q1⟩ := zz
  cases d with
  | true => exact ha pins s1 σ H1 Q I1 q1
  | false => exact hb pins s1 σ H1 Q I1 q1
end
end L2
namespace L2
open PySem PySem.Spec PyProof.Rows
noncomputable def SqL (K : PySem.W.Frag) (H : Hp) (a : Addr) (xs : List V) : Prop :=
  Rd H a (.lst xs) ∨
    ∃ (o : Obj) (its : Array Value) (n : Nat), K.lookup a = some o ∧ o.cls = .type "list" ∧ o.dict = none ∧ o.data = .seq its n ∧ its.size ≤ sizeLine ∧ Vals xs its.toList
noncomputable def SqT (K : PySem.W.Frag) (H : Hp) (a : Addr) (xs : List V) : Prop :=
  Rd H a (.tup xs) ∨
    ∃ (o : Obj) (its : Array Value) (n : Nat), K.lookup a = some o ∧ o.cls = .type "tuple" ∧ o.data = .seq its n ∧ its.size ≤ sizeLine ∧ Vals xs its.toList ∧ o.dict = none
noncomputable def absV : Value → Option V
  | .none => some .non
  | .bool b => some (.bl b)
  | .int i _ => some (.int i)
  | .str x _ => some (.str x)
  | .bytes b _ => some (.byt b)
  | .float b _ => some (.flt b)
  | .ref a => some (.ref a)
  | .type n => some (.ty n)
  | _ => none
theorem RelV.abs {x : V} {u : Value} (r : RelV x u) : absV u = some x := by
  cases x with
  | non => cases r; rfl
  | bl _ => cases r; rfl
  | int _ => obtain ⟨t, rfl⟩ := r; rfl
  | str _ => obtain ⟨t, rfl⟩ := r; rfl
  | byt _ => obtain ⟨t, rfl⟩ := r; rfl
  | flt _ => obtain ⟨t, rfl⟩ := r; rfl
  | ref _ => cases r; rfl
  | ty _ => cases r; rfl
theorem RelV.inj {x y : V} {u : Value} (r : RelV x u) (q : RelV y u) : x = y := Option.some.inj (r.abs.symm.trans q.abs)
theorem Vals.inj : ∀ {xs ys : List V} {us : List Value}, Vals xs us → Vals ys us → xs = ys := by
  intro xs ys us h
  induction h generalizing ys with
  | nil => intro h'; cases h'; rfl
  | cons r t ih =>
    intro h'
    cases h' with
    | cons r' t' => rw [r.inj r', ih t']
section
variable {X : Cx} {pins : List (Addr × Obj)} {σ : St} {H : Hp} {s : Shared} {a : Addr} {xs ys : List V}
theorem SqL.of {K : PySem.W.Frag} (h : H a = some (.lst xs)) : SqL K H a xs := .inl (.inl h)
theorem SqT.of {K : PySem.W.Frag} (h : H a = some (.tup xs)) : SqT K H a xs := .inl (.inl h)
theorem Inv.list (I : Inv X pins σ H s) (h : SqL X.K H a xs) : ∃ its : List Value, Vals xs its ∧ PlainL s.heap a its.toArray ∧ xs.length ≤ sizeLine := by
  rcases h with h | ⟨o, its, n, hk, hc, hd, hs, hz, r⟩
  · obtain ⟨z, its, n, r, e⟩ := h.ok I.hok
    exact ⟨its, r, ⟨_, n, e, rfl, rfl, rfl⟩, z⟩
  · refine ⟨its.toList, r, ⟨o, n, I.kIn a o hk, hc, hd, by simpa using hs⟩, ?_⟩
    have e := r.length
    simp only [Array.length_toList] at e
    omega
theorem Inv.tuple (I : Inv X pins σ H s) (h : SqT X.K H a xs) : ∃ its : List Value, Vals xs its ∧ IsTup s.heap a its.toArray ∧ xs.length ≤ sizeLine := by
  rcases h with h | ⟨o, its, n, hk, hc, hs, hz, r, _⟩
  · obtain ⟨z, its, r, p⟩ := h.ok I.hok
    exact ⟨its, r, p.tup, z⟩
  · refine ⟨its.toList, r, ⟨o, I.kIn a o hk, hc, n, by simpa using hs⟩, ?_⟩
    have e := r.length
    simp only [Array.length_toList] at e
    omega
theorem Inv.list_inj (I : Inv X pins σ H s) (h : SqL X.K H a xs) (h' : SqL X.K H a ys) : xs = ys := by
  obtain ⟨its, r, ⟨o, n, e, _, _, d⟩, _⟩ := I.list h
  obtain ⟨its', r', ⟨o', n', e', _, _, d'⟩, _⟩ := I.list h'
  rw [e] at e'; cases e'
  rw [d] at d'
  injection d' with d1 _
  have : its = its' := by simpa using congrArg Array.toList d1
  subst this
  exact r.inj r'
theorem Inv.tuple_inj (I : Inv X pins σ H s) (h : SqT X.K H a xs) (h' : SqT X.K H a ys) : xs = ys := by
  obtain ⟨its, r, ⟨o, e, _, n, d⟩, _⟩ := I.tuple h
  obtain ⟨its', r', ⟨o', e', _, n', d'⟩, _⟩ := I.tuple h'
  rw [e] at e'; cases e'
  rw [d] at d'
  injection d' with d1 _
  have : its = its' := by simpa using congrArg Array.toList d1
  subst this
  exact r.inj r'
end
noncomputable abbrev Cx.wish (X : Cx) (E : Value → Shared → Prop) : Cx := { X with xe := E }
noncomputable abbrev Cx.nox (X : Cx) : Cx := X.wish fun _ _ => False
theorem Cx.Ok.wish {X : Cx} (ok : X.Ok) (E : Value → Shared → Prop) : (X.wish E).Ok :=
  ⟨ok.mod, ok.kind, ok.glob, ok.blt, ok.above, ok.inj, ok.has, ok.cab, ok.hd, ok.frames, ok.stk, ok.exf, ok.bs, ok.bsz, ok.noex, ok.exfs, ok.funs, ok.frf⟩
theorem Cx.Ok.unwish {X : Cx} {E : Value → Shared → Prop} (ok : (X.wish E).Ok) : X.Ok :=
  ⟨ok.mod, ok.kind, ok.glob, ok.blt, ok.above, ok.inj, ok.has, ok.cab, ok.hd, ok.frames, ok.stk, ok.exf, ok.bs, ok.bsz, ok.noex, ok.exfs, ok.funs, ok.frf⟩
section
variable {X : Cx} {pins : List (Addr × Obj)} {σ : St} {H : Hp} {s : Shared} {E : Value → Shared → Prop}
theorem Inv.wish (I : Inv X pins σ H s) (E : Value → Shared → Prop) : Inv (X.wish E) pins σ H s := ⟨I.ok.wish E, I.os, I.bare, I.base, I.loc, I.cell, I.free, I.freeC, I.pin, I.hok, I.len⟩
theorem Inv.unwish (I : Inv (X.wish E) pins σ H s) : Inv X pins σ H s := ⟨I.ok.unwish, I.os, I.bare, I.base, I.loc, I.cell, I.free, I.freeC, I.pin, I.hok, I.len⟩
theorem SP.unwish {D : Ends} {f : Flow} {s' : Shared} (h : SP (X.wish E) pins D f s') : SP X pins D f s' := by
  cases f with
  | next => obtain ⟨σ', H', I, q⟩ := h; exact ⟨σ', H', I.unwish, q⟩
  | brk => obtain ⟨σ', H', I, q⟩ := h; exact ⟨σ', H', I.unwish, q⟩
  | cont => obtain ⟨σ', H', I, q⟩ := h; exact ⟨σ', H', I.unwish, q⟩
  | ret u => obtain ⟨v, σ', H', I, r, q⟩ := h; exact ⟨v, σ', H', I.unwish, r, q⟩
theorem PT.nox {e : Expr} {t : TT} (h : PT X.nox e t) : PT X e t := fun pins s σ H Q I hw =>
  wpAny_mono (h pins s σ H Q (I.wish _) hw) (fun _ _ ⟨H', I', q⟩ => ⟨H', I'.unwish, q⟩) fun _ _ z => False.elim z
theorem PSs.nox {st : List Stmt} {t : TS} (h : PSs X.nox st t) : PSs X st t := fun pins s σ H D I hw =>
  wpAny_mono (h pins s σ H D (I.wish _) hw) (fun _ _ q => q.unwish) fun _ _ z => False.elim z
end
section
variable {X : Cx} {st : Stmt} {rest : List Stmt} {t u : TS} {e : Expr} {te : TE} {pos : Pos}
noncomputable def tNext : TS := fun D σ H => D.nx σ H
noncomputable def tSeq (t u : TS) : TS := fun D σ H => t { D with nx := u D } σ H
theorem pss_nil : PSs X [] tNext := fun _ _ σ H _ I h => wpAny_execs_nil ⟨σ, H, I, h⟩
theorem pss_cons (h1 : PS X st t) (h2 : PSs X rest u) : PSs X (st :: rest) (tSeq t u) := by
  intro pins s σ H D I h
  refine wpAny_execs_cons (thn (h1 pins s σ H { D with nx := u D } I h) fun f s1 q => ?_)
  cases f with
  | next =>
    obtain ⟨σ', H', I', q⟩ := q
    exact h2 pins s1 σ' H' D I' q
  | ret v => exact q
  | brk => exact q
  | cont => exact q
theorem pss_one (h1 : PS X st t) : PSs X [st] t := by
  intro pins s σ H D I h
  refine wpAny_execs_cons (thn (h1 pins s σ H D I h) fun f s1 q => ?_)
  cases f with
  | next => exact wpAny_execs_nil q
  | ret v => exact q
  | brk => exact q
  | cont => exact q
theorem Inv.quiet {pins : List (Addr × Obj)} {σ : St} {H : Hp} {s : Shared} (I : Inv X pins σ H s) : interactive X.env = false := by simp [interactive, I.ok.kind]
noncomputable def tDrop (te : TE) : TS := fun D σ H => te σ H fun _ H1 => D.nx σ H1
theorem ps_expr (he : PE X e te) (hs : swapsWith e none pos.line X.env = pure false := by rfl) : PS X (.Expr e pos) (tDrop te) := by
  intro pins s σ H D I h
  exact wpAny_Expr_any (thn (he pins s σ H _ I h) fun v s1 ⟨x, H1, I1, r1, q1⟩ => ⟨σ, H1, I1, q1⟩) I.quiet hs
noncomputable def tRet (te : TE) : TS := fun D σ H => te σ H D.rt
theorem ps_ret (he : PE X e te) : PS X (.Return (some e) pos) (tRet te) := by
  intro pins s σ H D I h
  exact wpAny_Return_some (thn (he pins s σ H _ I h) fun v s1 ⟨x, H1, I1, r1, q1⟩ => ⟨x, σ, H1, I1, r1, q1⟩)
noncomputable def tIfS (c : TT) (t u : TS) : TS := fun D σ H => c σ H fun b H1 => if b = true then t D σ H1 else u D σ H1
theorem ps_if {c : Expr} {a b : List Stmt} {tc : TT} (hc : PT X c tc) (ha : PSs X a t) (hb : PSs X b u) : PS X (.If c a b pos) (tIfS tc t u) := by
  intro pins s σ H D I h
  refine wpAny_If (thn (hc pins s σ H _ I h) fun d s1 zz => ?_)
  obtain ⟨H1, I1, q1⟩ := zz
  cases d with
  | true => exact ha pins s1 σ H1 D I1 q1
  | false => exact hb pins s1 σ H1 D I1 q1
end
noncomputable abbrev TG := V → St → Hp → (St → Hp → Prop) → Prop
noncomputable abbrev TGs := List V → St → Hp → (St → Hp → Prop) → Prop
noncomputable def PG (X : Cx) (target : Expr) (t : TG) : Prop :=
  ∀ (pins : List (Addr × Obj)) (s : Shared) (σ : St) (H : Hp) (v : V) (u : Value) (Q : St → Hp → Prop), Inv X pins σ H s → RelV v u → t v σ H Q →
    wpAny (model X.prog X.w) X.A (assign target X.env u) (fun _ s' => ∃ σ' H', Inv X pins σ' H' s' ∧ Q σ' H') X.xe s
noncomputable def PGs (X : Cx) (ts : List Expr) (t : TGs) : Prop :=
  ∀ (pins : List (Addr × Obj)) (s : Shared) (σ : St) (H : Hp) (vs : List V) (us : List Value) (Q : St → Hp → Prop), Inv X pins σ H s → Vals vs us → t vs σ H Q →
    wpAny (model X.prog X.w) X.A (assignInOrder ((assignEach ts X.env).map (·.2)) us) (fun _ s' => ∃ σ' H', Inv X pins σ' H' s' ∧ Q σ' H') X.xe s
noncomputable abbrev TSet := V → V → V → Hp → (Hp → Prop) → Prop
noncomputable def PSet (X : Cx) (t : TSet) : Prop :=
  ∀ (pins : List (Addr × Obj)) (s : Shared) (σ : St) (H : Hp) (o i v : V) (ov iv u : Value) (Q : Hp → Prop), Inv X pins σ H s → RelV o ov → RelV i iv → RelV v u → t o i v H Q →
    wpAny (model X.prog X.w) X.A (setItem ov iv u) (fun _ s' => ∃ H', Inv X pins σ H' s' ∧ Q H') X.xe s
noncomputable abbrev TIp := V → V → Hp → VK → Prop
noncomputable def PIp (X : Cx) (op : Operator) (t : TIp) : Prop :=
  ∀ (pins : List (Addr × Obj)) (s : Shared) (σ : St) (H : Hp) (x y : V) (v u : Value) (Q : VK), Inv X pins σ H s → RelV x v → RelV y u → t x y H Q →
    wpAny (model X.prog X.w) X.A (inplaceOp op v u) (EP X pins σ Q) X.xe s
section
variable {X : Cx} {pos : Pos}
noncomputable def gName (i : Nat) : TG := fun v σ H Q => Q (σ.set i (some v)) H
theorem pg_name {i : Nat} {x : Str} (hN : X.N.Nodup) (hi : X.N[i]? = some x) (hx : Loc X.env.scope x) (hf : X.fn x = true ∨ X.env.scope.names.lookup x = some .local := by first | exact .inl rfl | exact .inr rfl | assumption) : PG X (.Name x pos) (gName i) := by
  intro pins s σ H v u Q I r h
  exact wpAny_assign_Name (store_ok I hN hi hx r (fun s' I' => ⟨_, H, I', h⟩) hf)
noncomputable def gNil : TGs := fun vs σ H Q => vs = [] ∧ Q σ H
noncomputable def gCons (t : TG) (u : TGs) : TGs := fun vs σ H Q => ∃ v r, vs = v :: r ∧ t v σ H fun σ' H' => u r σ' H' Q
theorem pgs_nil : PGs X [] gNil := by
  intro pins s σ H vs us Q I r h
  obtain ⟨e, h⟩ := h
  subst e
  cases r
  exact assignInOrder_nil ⟨σ, H, I, h⟩
theorem pgs_cons {e : Expr} {es : List Expr} {t : TG} {u : TGs} (h1 : PG X e t) (h2 : PGs X es u)
    (hs : (assignEach (e :: es) X.env).map (·.2) = assign e X.env :: (assignEach es X.env).map (·.2) := by rfl) : PGs X (e :: es) (gCons t u) := by
  intro pins s σ H vs us Q I r h
  obtain ⟨v, vr, e1, h⟩ := h
  subst e1
  cases r with
  | cons r rr =>
    rw [hs]
    refine assignInOrder_cons (thn (h1 pins s σ H _ _ _ I r h) fun _ s1 zz => ?_)
    obtain ⟨σ1, H1, I1, q1⟩ := zz
    exact h2 pins s1 σ1 H1 _ _ Q I1 rr q1
noncomputable def gTup (K : PySem.W.Frag) (n : Nat) (t : TGs) : TG := fun v σ H Q => ∃ a xs, v = .ref a ∧ SqT K H a xs ∧ xs.length = n ∧ t xs σ H Q
theorem pg_tup {es : List Expr} {k : Nat} {t : TGs} {n : Nat} (hc : X.calm = true) (h : PGs X es t)
    (hn : (assignEach es X.env).length = n := by rfl) (hst : (assignEach es X.env).findIdx? (·.1) = none := by rfl) : PG X (.Tuple es k pos) (gTup X.K n t) := by
  intro pins s σ H v u Q I r hw
  obtain ⟨a, xs, e1, hq, hl, hw⟩ := hw
  subst e1
  cases r
  obtain ⟨its, rv, ht, hz⟩ := I.tuple hq
  refine assign_Tuple_tuple (I.ok.hd hc) ht (by simp [hn, ← hl, rv.length]) hst fun h' hx => ?_
  have I1 : Inv X pins σ H { s with heap := h' } := I.kept (t' := s.toks) fun b o e => hx b o (Nat.ne_of_lt (Heap.lt_size e)) e
  exact h pins _ σ H xs _ Q I1 (by simpa using rv) hw
noncomputable def gSub (to ti : TE) (t : TSet) : TG := fun v σ H Q => to σ H fun o H1 => ti σ H1 fun i H2 => t o i v H2 fun H3 => Q σ H3
theorem pg_sub {o i : Expr} {to ti : TE} {t : TSet} (ho : PE X o to) (hi : PE X i ti) (hs : PSet X t)
    (ha : ∀ v, assign (.Subscript o i pos) X.env v = (do
      let ov ← holding [v] (eval o X.env)
      let iv ← holding [v, ov] (eval i X.env)
      standAt pos
      holding [v, ov, iv] (setItem ov iv v)
      release [v, ov, iv] []) := by intro _; rfl) : PG X (.Subscript o i pos) (gSub to ti t) := by
  intro pins s σ H v u Q I r h
  rw [ha]
  refine wpAny_bind (wpAny_holding (thn (ho pins s σ H _ I h) fun ov s1 zz => ?_))
  obtain ⟨x, H1, I1, r1, q1⟩ := zz
  refine wpAny_bind (wpAny_holding (thn (hi pins s1 σ H1 _ I1 q1) fun iv s2 zz => ?_))
  obtain ⟨y, H2, I2, r2, q2⟩ := zz
  refine wpAny_bind (wpAny_standAt (wpAny_bind (wpAny_holding (thn (hs pins s2 σ H2 x y v ov iv u _ I2 r1 r2 r q2) fun _ s3 zz => ?_))))
  obtain ⟨H3, I3, q3⟩ := zz
  exact wpAny_release ⟨σ, H3, I3, q3⟩
noncomputable def tAsg (te : TE) (g : TG) : TS := fun D σ H => te σ H fun x H1 => g x σ H1 D.nx
theorem ps_asg {tg e : Expr} {te : TE} {g : TG} (he : PE X e te) (hg : PG X tg g) (hs : swapsWithSole [tg] e pos.line X.env = pure false := by rfl) (hw : swappedStores [tg] e X.env = pure none := by rfl)
    (h1 : (assignEach [tg] X.env).map (·.2) = [assign tg X.env] := by rfl) : PS X (.Assign [tg] e pos) (tAsg te g) := by
  intro pins s σ H D I h
  refine wpAny_Assign_stores (thn (he pins s σ H _ I h) fun v s1 ⟨x, H1, I1, r1, q1⟩ => ?_) hs hw
  rw [h1]
  exact thn (hg pins s1 σ H1 x v _ I1 r1 q1) fun _ s2 q => q
theorem ps_set {i : Nat} {x : Str} {e : Expr} {te : TE} {pos' : Pos} (hN : X.N.Nodup) (hi : X.N[i]? = some x) (hx : Loc X.env.scope x) (he : PE X e te) (hs : swapsWith e (some (.Name x pos')) pos.line X.env = pure false := by rfl) (hf : X.fn x = true ∨ X.env.scope.names.lookup x = some .local := by first | exact .inl rfl | exact .inr rfl | assumption) :
    PS X (.Assign [.Name x pos'] e pos) (tAsg te (gName i)) := by
  intro pins s σ H D I h
  refine wpAny_Assign_Name (thn (he pins s σ H _ I h) fun v s1 ⟨y, H1, I1, r1, q1⟩ => ?_) hs
  exact store_ok I1 hN hi hx r1 (fun s2 I2 => ⟨_, H1, I2, q1⟩) hf
noncomputable def tAug (i : Nat) (te : TE) (ti : TIp) : TS := fun D σ H => ∃ x, σ[i]? = some (some x) ∧ te σ H fun y H1 => ti x y H1 fun z H2 => D.nx (σ.set i (some z)) H2
theorem ps_aug {i : Nat} {x : Str} {e : Expr} {te : TE} {op : Operator} {ti : TIp} {pos' : Pos} (hN : X.N.Nodup) (hi : X.N[i]? = some x) (hx : Loc X.env.scope x) (he : PE X e te) (ho : PIp X op ti) (hf : X.fn x = true ∨ X.env.scope.names.lookup x = some .local := by first | exact .inl rfl | exact .inr rfl | assumption) :
    PS X (.AugAssign (.Name x pos') op e pos) (tAug i te ti) := by
  intro pins s σ H D I h
  obtain ⟨v, e1, h⟩ := h
  obtain ⟨m, hn, hl⟩ := I.loc
  have vis : Vis X.env.scope x := by rcases hx with k | k; exact .inl k; exact .inr (.inl k)
  obtain ⟨u, r, l⟩ := hl i x v hi e1 vis
  refine wpAny_AugAssign_Name ?_
  have go : wpAny (model X.prog X.w) X.A (eval e X.env) (fun w s₂ => wpAny (model X.prog X.w) X.A (inplaceOp op u w) (fun r s₃ => wpAny (model X.prog X.w) X.A (storeName X.env x r) (fun _ => SP X pins D .next) X.xe s₃) X.xe s₂) X.xe s := by
    refine thn (he pins s σ H _ I h) fun w s1 zz => ?_
    obtain ⟨y, H1, I1, r1, q1⟩ := zz
    refine thn (ho pins s1 σ H1 v y u w _ I1 r r1 q1) fun z s2 zz => ?_
    obtain ⟨zv, H2, I2, r2, q2⟩ := zz
    exact store_ok I2 hN hi hx r2 (fun s3 I3 => ⟨_, H2, I3, q2⟩) hf
  rcases l with ⟨hk, hm⟩ | ⟨hk, c, hc, hcell⟩
  · exact wpAny_loadName_local I.ok.kind hk hn hm go
  · rcases hk with hk | hk
    · exact wpAny_loadName_cell I.ok.kind hk hc hcell go
    · rcases hx with k | k
      · have : X.env.scope.names.lookup x = some .free := hk
        rw [k] at this; cases this
      · have : X.env.scope.names.lookup x = some .free := hk
        rw [k] at this; cases this
noncomputable def ipI (f : Int → Int → Int) : TIp := fun x y H Q => ∃ i j, x = .int i ∧ y = .int j ∧ Q (.int (f i j)) H
end
section
variable {X : Cx} {pos : Pos}
end
structure It where
  go : Nat → Hp → Prop
  yld : Nat → Hp → V → Hp → Prop
  stop : Nat → Hp → Prop
noncomputable def FpOk (X : Cx) (pins : List (Addr × Obj)) (H : Hp) (b : Addr) : Prop :=
  H b = none ∧ b ≠ X.env.locals ∧ b ∉ X.fs ∧ (b ∈ X.ex ∨ X.s₀.heap.objs.size ≤ b) ∧ (∀ x c, X.env.cells.lookup x = some c → c ≠ b) ∧ ∀ p ∈ X.pn ++ pins, p.1 ≠ b
theorem Inv.fpOk {X : Cx} {pins : List (Addr × Obj)} {σ : St} {H H' : Hp} {s : Shared} {b : Addr} (I : Inv X pins σ H s) (hb : s.heap.objs.size ≤ b) (hn : H' b = none) : FpOk X pins H' b := by
  refine ⟨hn, Nat.ne_of_gt (Nat.lt_of_lt_of_le I.lt hb), I.nofs hb, .inr (Nat.le_trans I.sz hb), fun x c e z => ?_, fun p hp z => ?_⟩
  · obtain ⟨v, q⟩ := I.cell x c e
    exact absurd (Nat.lt_of_lt_of_le q.lt (by rw [z]; exact hb)) (Nat.lt_irrefl _)
  · exact absurd (Nat.lt_of_lt_of_le (Heap.lt_size (I.pin p hp).1) (by rw [z]; exact hb)) (Nat.lt_irrefl _)
structure Turn (P : Program) (w : World) (K : PySem.W.Frag) (tg : Expr) (J : It) (fp : List Addr) (it : Addr) (tn : Nat → Heap → Prop) : Prop where
  mem : it ∈ fp
  obj : ∀ i h, tn i h → ∀ b ∈ fp, ∃ o, h.get? b = some o ∧ ∀ v, o.data ≠ .cell v
  keep : ∀ i h h', tn i h → (∀ b ∈ fp, ∀ o, h.get? b = some o → h'.get? b = some o) → tn i h'
  item : ∀ (X : Cx), X.prog = P → X.w = w → X.K = K → X.calm = true → ∀ (i : Nat) (pins : List (Addr × Obj)) (s : Shared) (σ : St) (H : Hp) (E : Value → Shared → Prop), Inv X pins σ H s → (∀ b ∈ fp, FpOk X pins H b) → tn i s.heap → J.go i H →
    wpAny (model P w) X.A (pyNext (.ref it)) (fun r s1 => ∃ u, r = some u ∧
      wpAny (model P w) X.A (letOwnedTupleGo tg (.ref it) u) (fun _ s2 => ∃ x H', Inv X pins σ H' s2 ∧ RelV x u ∧ J.yld i H x H' ∧ tn (i + 1) s2.heap ∧ ∀ b ∈ fp, H' b = none) E s1) E s
  done : ∀ (X : Cx), X.prog = P → X.w = w → X.K = K → X.calm = true → ∀ (i : Nat) (pins : List (Addr × Obj)) (s : Shared) (σ : St) (H : Hp) (E : Value → Shared → Prop), Inv X pins σ H s → (∀ b ∈ fp, FpOk X pins H b) → tn i s.heap → J.stop i H →
    wpAny (model P w) X.A (pyNext (.ref it)) (fun r s1 => r = none ∧ Inv X pins σ H s1) E s
  self : ∀ (A : Around) (i : Nat) (s : Shared) (Q : Value → Shared → Prop) (E : Value → Shared → Prop), tn i s.heap → Q (.ref it) s → wpAny (model P w) A (pyIter (.ref it)) Q E s
noncomputable abbrev TI := St → Hp → (It → Hp → Prop) → Prop
noncomputable def PIE (X : Cx) (pins : List (Addr × Obj)) (σ : St) (tg : Expr) (R : It → Hp → Prop) (itv : Value) (s2 : Shared) : Prop :=
  ∃ (it : Addr) (fp : List Addr) (tn : Nat → Heap → Prop) (J : It) (H' : Hp), itv = .ref it ∧ Inv X pins σ H' s2 ∧ Turn X.prog X.w X.K tg J fp it tn ∧ tn 0 s2.heap ∧ (∀ b ∈ fp, FpOk X pins H' b) ∧ R J H'
noncomputable def PI (X : Cx) (tg iter : Expr) (wi : TI) : Prop :=
  ∀ (pins : List (Addr × Obj)) (s : Shared) (σ : St) (H : Hp) (R : It → Hp → Prop), Inv X pins σ H s → wi σ H R →
    wpAny (model X.prog X.w) X.A (eval iter X.env) (fun v s1 => wpAny (model X.prog X.w) X.A (pyIter v) (PIE X pins σ tg R) X.xe s1) X.xe s
theorem go_of {M : Model} {A : Around} {E : Value → Shared → Prop} {s : Shared} {tg : Expr} {it : Addr} {u : Value} {o : Obj} {n : String} {vs : Array Value} {Q : Unit → Shared → Prop} (ho : s.heap.get? it = some o) (hc : o.cls = .type n) (hd : o.data = .fields vs)
    (hn : ["enumerate", "zip", "dict_itemiterator", "dict_reverseitemiterator", "odict_iterator", "itertools.zip_longest", "itertools.pairwise"].contains n = false) (hQ : Q () s) : wpAny M A (letOwnedTupleGo tg (.ref it) u) Q E s := by
  unfold letOwnedTupleGo
  cases tg <;> first
    | exact wpAny_pure hQ
    | (cases u <;> first
        | exact wpAny_pure hQ
        | (refine wpAny_bind (wpAny_load ho ?_)
           rw [hc, hd]
           show wpAny M A (if (["enumerate", "zip", "dict_itemiterator", "dict_reverseitemiterator", "odict_iterator", "itertools.zip_longest", "itertools.pairwise"].contains n && vs[0]? == some (rawInt _)) = true then _ else _) Q E s
           rw [if_neg (by intro h; rw [hn, Bool.false_and] at h; cases h)]
           exact wpAny_pure hQ))
noncomputable def Itl (K : PySem.W.Frag) (a : Addr) : It :=
  ⟨fun i H => ∃ xs x, SqL K H a xs ∧ xs[i]? = some x, fun i H x H' => H' = H ∧ ∀ xs, SqL K H a xs → xs[i]? = some x, fun i H => ∃ xs, SqL K H a xs ∧ xs.length ≤ i⟩
noncomputable def Itt (K : PySem.W.Frag) (a : Addr) : It :=
  ⟨fun i H => ∃ xs x, SqT K H a xs ∧ xs[i]? = some x, fun i H x H' => H' = H ∧ ∀ xs, SqT K H a xs → xs[i]? = some x, fun i H => ∃ xs, SqT K H a xs ∧ xs.length ≤ i⟩
noncomputable def Itr (lo : Int) (n : Nat) : It := ⟨fun i _ => i < n, fun i H x H' => H' = H ∧ x = .int (lo + i), fun i _ => n ≤ i⟩
theorem turn_list {P : Program} {w : World} {K : PySem.W.Frag} {tg : Expr} (a it : Addr) : Turn P w K tg (Itl K a) [it] it (fun i h => h.IsListIter it a i) where
  mem := by simp
  obj := fun i h st b hb => by
    have e : b = it := by simpa using hb
    subst e
    obtain ⟨o, e, c, d⟩ := st
    exact ⟨o, e, fun v z => by rw [d] at z; cases z⟩
  keep := fun i h h' st k => st.at fun o e => k it (by simp) o e
  item := by
    intro X hP hw hK hc i pins s σ H E I hf st hg
    subst hP hw hK
    obtain ⟨xs, x, hq, hx⟩ := hg
    obtain ⟨its, rv, p, hz⟩ := I.list hq
    obtain ⟨u, hu, ru⟩ := rv.get hx
    obtain ⟨f0, f1, f2, f3, f4, f5⟩ := hf it (by simp)
    refine wpAny_pyNext_list_item st p.isList (x := u) (by simpa using hu) fun h' st' sb => ?_
    have I1 : Inv X pins σ H { s with heap := h' } := I.turned (t' := s.toks) (fun b o hb e => (sb.2 b hb).trans e) f0 f1 f3 f4 f5
    obtain ⟨o, e, c, d⟩ := id st'
    exact ⟨u, rfl, go_of (s := { s with heap := h' }) e c d (by decide) ⟨x, H, I1, ru, ⟨rfl, fun ys hy => by rw [I.list_inj hy hq]; exact hx⟩, st', fun b hb => (hf b hb).1⟩⟩
  done := by
    intro X hP hw hK hc i pins s σ H E I hf st hg
    subst hP hw hK
    obtain ⟨xs, hq, hx⟩ := hg
    obtain ⟨its, rv, p, hz⟩ := I.list hq
    obtain ⟨f0, f1, f2, f3, f4, f5⟩ := hf it (by simp)
    have hl := rv.length
    exact wpAny_pyNext_list_end (I.ok.hd hc) st p.isList (by simp; omega) fun h' eb => ⟨rfl, I.turned (t' := s.toks) (fun b o hb e => eb b o hb e) f0 f1 f3 f4 f5⟩
  self := fun _ _ _ _ _ st h => wpAny_pyIter_listiter st h
theorem turn_tuple {P : Program} {w : World} {K : PySem.W.Frag} {tg : Expr} (a it : Addr) : Turn P w K tg (Itt K a) [it] it (fun i h => h.IsTupleIter it a i) where
  mem := by simp
  obj := fun i h st b hb => by
    have e : b = it := by simpa using hb
    subst e
    obtain ⟨o, e, c, d⟩ := st
    exact ⟨o, e, fun v z => by rw [d] at z; cases z⟩
  keep := fun i h h' st k => st.at fun o e => k it (by simp) o e
  item := by
    intro X hP hw hK hc i pins s σ H E I hf st hg
    subst hP hw hK
    obtain ⟨xs, x, hq, hx⟩ := hg
    obtain ⟨its, rv, p, hz⟩ := I.tuple hq
    obtain ⟨u, hu, ru⟩ := rv.get hx
    obtain ⟨f0, f1, f2, f3, f4, f5⟩ := hf it (by simp)
    refine wpAny_pyNext_tuple_item st (show s.heap.IsTuple a its.toArray from p) (x := u) (by simpa using hu) fun h' st' sb => ?_
    have I1 : Inv X pins σ H { s with heap := h' } := I.turned (t' := s.toks) (fun b o hb e => (sb.2 b hb).trans e) f0 f1 f3 f4 f5
    obtain ⟨o, e, c, d⟩ := id st'
    exact ⟨u, rfl, go_of (s := { s with heap := h' }) e c d (by decide) ⟨x, H, I1, ru, ⟨rfl, fun ys hy => by rw [I.tuple_inj hy hq]; exact hx⟩, st', fun b hb => (hf b hb).1⟩⟩
  done := by
    intro X hP hw hK hc i pins s σ H E I hf st hg
    subst hP hw hK
    obtain ⟨xs, hq, hx⟩ := hg
    obtain ⟨its, rv, p, hz⟩ := I.tuple hq
    obtain ⟨f0, f1, f2, f3, f4, f5⟩ := hf it (by simp)
    have hl := rv.length
    exact wpAny_pyNext_tuple_end (I.ok.hd hc) st (show s.heap.IsTuple a its.toArray from p) (by simp; omega) fun h' eb => ⟨rfl, I.turned (t' := s.toks) (fun b o hb e => eb b o hb e) f0 f1 f3 f4 f5⟩
  self := fun _ _ _ _ _ st h => wpAny_pyIter_tupleiter st h
theorem turn_range {P : Program} {w : World} {K : PySem.W.Frag} {tg : Expr} (it : Addr) (lo : Int) (n : Nat) : Turn P w K tg (Itr lo n) [it] it (fun i h => IsRangeIter h it (lo + (i : Nat) * 1) ((n : Int) - (i : Nat)) 1) where
  mem := by simp
  obj := fun i h st b hb => by
    have e : b = it := by simpa using hb
    subst e
    exact ⟨_, st, fun v z => by
      have z' : Data.fields _ = Data.cell v := z
      cases z'⟩
  keep := fun i h h' st k => k it (by simp) _ st
  item := by
    intro X hP hw hK hc i pins s σ H E I hf st hg
    subst hP hw hK
    obtain ⟨f0, f1, f2, f3, f4, f5⟩ := hf it (by simp)
    have W := Walks.range (prog := X.prog) (w := X.w) (I.ok.hd hc) it lo 1 n
    refine W.item i s _ _ hg st fun v h' tk hv st' kk => ?_
    obtain ⟨t, rfl⟩ := hv
    have I1 : Inv X pins σ H { s with heap := h', toks := tk } := I.turned (fun b o hb e => kk b o (by simpa using hb) e) f0 f1 f3 f4 f5
    refine ⟨_, rfl, go_of (s := { s with heap := h', toks := tk }) (n := "range_iterator") st' rfl rfl (by decide) ⟨.int (lo + i), H, I1, ⟨t, ?_⟩, ⟨rfl, rfl⟩, st', fun b hb => (hf b hb).1⟩⟩
    rw [Int.mul_one]
  done := by
    intro X hP hw hK hc i pins s σ H E I hf st hg
    subst hP hw hK
    obtain ⟨f0, f1, f2, f3, f4, f5⟩ := hf it (by simp)
    exact wpAny_pyNext_range_end (I.ok.hd hc) st (by have : n ≤ i := hg; omega) fun h' eb => ⟨rfl, I.turned (t' := s.toks) (fun b o hb e => eb b o hb e) f0 f1 f3 f4 f5⟩
  self := fun _ _ _ _ _ st h => wpAny_pyIter_rangeiter st h
end L2
namespace L2
open PySem PySem.Spec PyProof.Rows
section
variable {X : Cx} {tg : Expr}
theorem range_it {pins : List (Addr × Obj)} {σ : St} {H : Hp} {s : Shared} {R : It → Hp → Prop} {E : Value → Shared → Prop} {lo hi : Int} {t u v : Tok} {tk : Nat} (I : Inv X pins σ H s) (h1 : -(2 ^ 62) ≤ lo) (h2 : lo < 2 ^ 62) (h3 : -(2 ^ 62) ≤ hi) (h4 : hi < 2 ^ 62)
    (q : R (Itr lo (hi - lo).toNat) H) : wpAny (model X.prog X.w) X.A (pyIter (.ref s.heap.objs.size)) (PIE X pins σ tg R) E { s with heap := s.heap.push { cls := .type "range", data := .fields #[.int lo t, .int hi u, .int 1 v] }, toks := tk } := by
  refine wpAny_pyIter_range (IsRange.new ..) (small_one h1 h2 h3 h4) ?_
  have I1 : Inv X pins σ H { s with heap := s.heap.push { cls := .type "range", data := .fields #[.int lo t, .int hi u, .int 1 v] }, toks := tk } := I.kept fun b o e => Heap.get?_push_of_some _ e
  refine ⟨(s.heap.push { cls := .type "range", data := .fields #[.int lo t, .int hi u, .int 1 v] }).objs.size, [(s.heap.push { cls := .type "range", data := .fields #[.int lo t, .int hi u, .int 1 v] }).objs.size], _, _, H, rfl,
    I1.kept (t' := tk) fun b o e => Heap.get?_push_of_some _ e, turn_range _ lo (hi - lo).toNat, ?_, fun b hb => ?_, q⟩
  · have e1 : lo + ((0 : Nat) : Int) * 1 = lo := by simp
    have e2 : (((hi - lo).toNat : Nat) : Int) - ((0 : Nat) : Int) = Builtin.Range.rangeSize lo hi 1 := by rw [rangeSize_one]; split <;> omega
    show IsRangeIter _ _ (lo + ((0 : Nat) : Int) * 1) ((((hi - lo).toNat : Nat) : Int) - ((0 : Nat) : Int)) 1
    rw [e1, e2]
    exact Heap.get?_push_size _ rfl
  · have e : b = (s.heap.push { cls := .type "range", data := .fields #[.int lo t, .int hi u, .int 1 v] }).objs.size := by simpa using hb
    subst e
    exact I1.fpOk (Nat.le_refl _) (I1.hok.fresh (Nat.le_refl _))
noncomputable def iRng1 (ta : TA) : TI := fun σ H R => ta σ H fun vs H1 => ∃ j : Int, vs = [.int j] ∧ -(2 ^ 62) ≤ j ∧ j < 2 ^ 62 ∧ R (Itr 0 j.toNat) H1
noncomputable def iRng2 (ta : TA) : TI := fun σ H R => ta σ H fun vs H1 => ∃ i j : Int, vs = [.int i, .int j] ∧ (-(2 ^ 62) ≤ i ∧ i < 2 ^ 62 ∧ -(2 ^ 62) ≤ j ∧ j < 2 ^ 62) ∧ R (Itr i (j - i).toNat) H1
theorem pi_range1 {a : Expr} {ta : TA} {p pos : Pos} (hg : Gl X "range") (hm : X.mg "range" = none) (ha : PA X [a] ta) (hs : starEach [a] X.env = [(false, eval a X.env)] := by rfl) : PI X tg (.Call (.Name "range" p) [a] [] pos) (iRng1 ta) := by
  intro pins s σ H R I h
  refine Call_ (ld_blt I hg hm boot_range (PyProof.Rows.callWith_type1 (thn (ha pos pins s σ H _ I h) fun us s1 ⟨vs, H1, I1, r1, q1⟩ => ?_) hs rfl))
  obtain ⟨j, e, q1, q2, q⟩ := q1
  subst e
  cases r1 with
  | cons r rr =>
    cases rr
    obtain ⟨t, rfl⟩ := r
    exact call_range_1 (range_it I1 (by omega) (by omega) q1 q2 (by simpa using q))
theorem pi_range2 {a b : Expr} {ta : TA} {p pos : Pos} (hg : Gl X "range") (hm : X.mg "range" = none) (ha : PA X [a, b] ta) (hs : starEach [a, b] X.env = [(false, eval a X.env), (false, eval b X.env)] := by rfl) (hs2 : starEach [b] X.env = [(false, eval b X.env)] := by rfl) :
    PI X tg (.Call (.Name "range" p) [a, b] [] pos) (iRng2 ta) := by
  intro pins s σ H R I h
  refine Call_ (ld_blt I hg hm boot_range (PyProof.Rows.callWith_type1 (thn (ha pos pins s σ H _ I h) fun us s1 ⟨vs, H1, I1, r1, q1⟩ => ?_) (by rw [hs, hs2]) (by rw [hs2]; rfl)))
  obtain ⟨i, j, e, ⟨q1, q2, q3, q4⟩, q⟩ := q1
  subst e
  cases r1 with
  | cons r rr =>
    cases rr with
    | cons r' rr =>
      cases rr
      obtain ⟨t, rfl⟩ := r
      obtain ⟨t', rfl⟩ := r'
      exact call_range_2 (range_it I1 q1 q2 q3 q4 q)
noncomputable def tFor (wi : TI) (g : TG) (tb : TS) : TS := fun D σ H => wi σ H fun J H1 => ∃ W : Nat → Nat → St → Hp → Prop, (∃ m, W 0 m σ H1) ∧ ∀ i m σ H, W i m σ H →
  (J.stop i H ∧ D.nx σ H) ∨ (J.go i H ∧ ∃ N : St → Hp → Prop, (∀ σ' H', N σ' H' → ∃ m', m' < m ∧ W (i + 1) m' σ' H') ∧ ∀ x H', J.yld i H x H' → g x σ H' fun σ2 H2 => tb { D with nx := N, ct := N, bk := D.nx } σ2 H2)
noncomputable def pinsAt (fp : List Addr) (h : Heap) : List (Addr × Obj) := fp.filterMap fun b => (h.get? b).map fun o => (b, o)
theorem mem_pinsAt {fp : List Addr} {h : Heap} {b : Addr} {o : Obj} (hb : b ∈ fp) (e : h.get? b = some o) : (b, o) ∈ pinsAt fp h := List.mem_filterMap.mpr ⟨b, hb, by rw [e]; rfl⟩
theorem of_pinsAt {fp : List Addr} {h : Heap} {p : Addr × Obj} (hp : p ∈ pinsAt fp h) : p.1 ∈ fp ∧ h.get? p.1 = some p.2 := by
  obtain ⟨b, hb, e⟩ := List.mem_filterMap.mp hp
  cases q : h.get? b with
  | none => rw [q] at e; cases e
  | some o =>
    rw [q] at e
    have e' : (b, o) = p := Option.some.inj e
    subst e'
    exact ⟨hb, q⟩
theorem Inv.pinned {pins : List (Addr × Obj)} {σ : St} {H : Hp} {s : Shared} {fp : List Addr} (I : Inv X pins σ H s) (hf : ∀ b ∈ fp, FpOk X pins H b) (ho : ∀ b ∈ fp, ∃ o, s.heap.get? b = some o ∧ ∀ v, o.data ≠ .cell v) : Inv X (pins ++ pinsAt fp s.heap) σ H s :=
  I.pins_of fun p hp => (List.mem_append.mp hp).elim (fun z => I.pin p (List.mem_append_right _ z)) fun z => by
    obtain ⟨hb, e⟩ := of_pinsAt z
    obtain ⟨f0, f1, f2, _⟩ := hf p.1 hb
    obtain ⟨o, e', d⟩ := ho p.1 hb
    rw [e] at e'; cases e'
    exact ⟨e, f0, f1, f2, d⟩
theorem Inv.unpinned {pins pl : List (Addr × Obj)} {σ : St} {H : Hp} {s : Shared} (I : Inv X (pins ++ pl) σ H s) : Inv X pins σ H s := I.pins_of fun p hp => I.pin p (List.mem_append_right _ (List.mem_append_left _ hp))
theorem ps_for {iter : Expr} {body : List Stmt} {wi : TI} {g : TG} {tb : TS} {pos : Pos} (hp : PassesOwn (model X.prog X.w) X.A X.env X.xe) (hc : X.calm = true) (hi : PI X tg iter wi) (hg : PG X tg g) (hb : PSs X body tb)
    (hs : ∀ x, foldedSetIterable iter X.env x = pure x := by intro _; rfl) : PS X (.For tg iter body [] pos) (tFor wi g tb) := by
  intro pins s σ H D I h
  refine wpAny_For (thn (hi pins s σ H _ I h) fun v s1 h1 => thn h1 fun itv s2 h2 => ?_) hs
  obtain ⟨it, fp, tn, J, H2, e, I2, T, st2, f2, W, ⟨m0, w0⟩, turn⟩ := h2
  subst e
  -- what stays true of the iterator's objects through the loop
  have stat : ∀ {H' : Hp}, (∀ b ∈ fp, H' b = none) → ∀ b ∈ fp, FpOk X pins H' b := fun hn b hb => ⟨hn b hb, (f2 b hb).2⟩
  refine codeAny_forLoop_any (fun n s' => ∃ i σ' H', Inv X pins σ' H' s' ∧ tn i s'.heap ∧ (∀ b ∈ fp, H' b = none) ∧ W i n σ' H') ?_ m0 ⟨0, σ, H2, I2, st2, fun b hb => (f2 b hb).1, w0⟩
  rintro n s3 ⟨i, σ3, H3, I3, st3, fr3, w3⟩
  rcases turn i n σ3 H3 w3 with ⟨stop, qn⟩ | ⟨go, N, hN, step⟩
  · refine wpAny_passesOwn hp (thn (T.done X rfl rfl rfl hc i pins s3 σ3 H3 X.xe I3 (stat fr3) st3 stop) fun r s4 zz => ?_)
    obtain ⟨hr, I4⟩ := zz
    subst hr
    exact wpAny_execs_nil ⟨σ3, H3, I4, qn⟩
  · refine wpAny_passesOwn hp (thn (T.item X rfl rfl rfl hc i pins s3 σ3 H3 X.xe I3 (stat fr3) st3 go) fun r s4 zz => ?_)
    obtain ⟨u, hr, h4⟩ := zz
    subst hr
    refine wpAny_passesOwn hp (thn h4 fun _ s5 zz => ?_)
    obtain ⟨x, H5, I5, r5, y5, st5, fr5⟩ := zz
    have I5' := I5.pinned (stat fr5) (T.obj _ _ st5)
    refine wpAny_passesOwn hp (thn (hg _ s5 σ3 H5 x u _ I5' r5 (step x H5 y5)) fun _ s6 zz => ?_)
    obtain ⟨σ6, H6, I6, q6⟩ := zz
    refine wpAny_passesOwn hp (thn (hb _ s6 σ6 H6 _ I6 q6) fun f s7 q7 => ?_)
    have again : ∀ {σ7 : St} {H7 : Hp}, Inv X (pins ++ pinsAt fp s5.heap) σ7 H7 s7 → N σ7 H7 → ∃ m, m < n ∧ ∃ i σ' H', Inv X pins σ' H' s7 ∧ tn i s7.heap ∧ (∀ b ∈ fp, H' b = none) ∧ W i m σ' H' := fun {σ7 H7} I7 n7 => by
      obtain ⟨m', hm, w7⟩ := hN σ7 H7 n7
      refine ⟨m', hm, i + 1, σ7, H7, I7.unpinned, T.keep _ _ _ st5 fun b hb o e => (I7.pin (b, o) (List.mem_append_right _ (List.mem_append_right _ (mem_pinsAt hb e)))).1, fun b hb => ?_, w7⟩
      obtain ⟨o, e, d⟩ := T.obj _ _ st5 b hb
      exact (I7.pin (b, o) (List.mem_append_right _ (List.mem_append_right _ (mem_pinsAt hb e)))).2.1
    cases f with
    | next => obtain ⟨σ7, H7, I7, n7⟩ := q7; exact again I7 n7
    | cont => obtain ⟨σ7, H7, I7, n7⟩ := q7; exact again I7 n7
    | brk => obtain ⟨σ7, H7, I7, q7⟩ := q7; exact ⟨σ7, H7, I7.unpinned, q7⟩
    | ret v => obtain ⟨x7, σ7, H7, I7, r7, q7⟩ := q7; exact ⟨x7, σ7, H7, I7.unpinned, r7, q7⟩
end
end L2
namespace L2
open PySem PySem.Spec PyProof.Rows
noncomputable abbrev R2 := V → V → Hp → VK → Prop
noncomputable def OpR (X : Cx) (f : Value → Value → Sem Value) (r : R2) : Prop :=
  ∀ (pins : List (Addr × Obj)) (s : Shared) (σ : St) (H : Hp) (x y : V) (v u : Value) (Q : VK), Inv X pins σ H s → RelV x v → RelV y u → r x y H Q →
    wpAny (model X.prog X.w) X.A (f v u) (EP X pins σ Q) X.xe s
noncomputable def UnR (X : Cx) (f : Value → Sem Value) (r : V → Hp → VK → Prop) : Prop :=
  ∀ (pins : List (Addr × Obj)) (s : Shared) (σ : St) (H : Hp) (x : V) (v : Value) (Q : VK), Inv X pins σ H s → RelV x v → r x H Q →
    wpAny (model X.prog X.w) X.A (f v) (EP X pins σ Q) X.xe s
noncomputable def CallR (X : Cx) (f : Value) (r : List V → Hp → VK → Prop) : Prop :=
  ∀ (pins : List (Addr × Obj)) (s : Shared) (σ : St) (H : Hp) (xs : List V) (us : List Value) (Q : VK), Inv X pins σ H s → Vals xs us → r xs H Q →
    wpAny (model X.prog X.w) X.A (call f us) (EP X pins σ Q) X.xe s
noncomputable def TruR (X : Cx) (r : V → Hp → (Bool → Hp → Prop) → Prop) : Prop :=
  ∀ (pins : List (Addr × Obj)) (s : Shared) (σ : St) (H : Hp) (x : V) (v : Value) (Q : Bool → Hp → Prop), Inv X pins σ H s → RelV x v → r x H Q →
    wpAny (model X.prog X.w) X.A (truthy v) (TP X pins σ Q) X.xe s
noncomputable def tOp (r : R2) (ta tb : TE) : TE := fun σ H Q => ta σ H fun x H1 => tb σ H1 fun y H2 => r x y H2 Q
noncomputable def tUn (r : V → Hp → VK → Prop) (ta : TE) : TE := fun σ H Q => ta σ H fun x H1 => r x H1 Q
noncomputable def rI (C : Int → Int → Prop) (g : Int → Int → V) : R2 := fun x y H Q => ∃ i j, x = .int i ∧ y = .int j ∧ C i j ∧ Q (g i j) H
noncomputable def rI0 (g : Int → Int → V) : R2 := fun x y H Q => ∃ i j, x = .int i ∧ y = .int j ∧ Q (g i j) H
noncomputable def rU (g : Int → V) : V → Hp → VK → Prop := fun x H Q => ∃ i, x = .int i ∧ Q (g i) H
section
variable {X : Cx} {a b c : Expr} {ta tb tc : TE} {pos : Pos}
theorem binT (ha : PE X a ta) (hb : PE X b tb) {pins : List (Addr × Obj)} {s : Shared} {σ : St} {H : Hp} {R : V → V → Hp → Prop} (I : Inv X pins σ H s)
    (h : ta σ H fun x H1 => tb σ H1 fun y H2 => R x y H2) {Q : Value → Shared → Prop} {f : Value → Value → Sem Value}
    (hf : ∀ v u s2 x y H2, Inv X pins σ H2 s2 → RelV x v → RelV y u → R x y H2 → wpAny (model X.prog X.w) X.A (f v u) Q X.xe s2) :
    wpAny (model X.prog X.w) X.A (eval a X.env) (fun v s₁ => wpAny (model X.prog X.w) X.A (eval b X.env) (fun u s₂ => wpAny (model X.prog X.w) X.A (f v u) Q X.xe s₂) X.xe s₁) X.xe s := by
  refine thn (ha pins s σ H _ I h) fun v s1 zz => ?_
  obtain ⟨x, H1, I1, r1, q1⟩ := zz
  refine thn (hb pins s1 σ H1 _ I1 q1) fun u s2 zz => ?_
  obtain ⟨y, H2, I2, r2, q2⟩ := zz
  exact hf v u s2 x y H2 I2 r1 r2 q2
theorem pe_op {op : Operator} {r : R2} (ho : OpR X (binaryOp op) r) (ha : PE X a ta) (hb : PE X b tb) : PE X (.BinOp a op b pos) (tOp r ta tb) := by
  intro pins s σ H Q I h
  exact wpAny_BinOp (binT ha hb I h fun v u s2 x y H2 I2 rx ry q => ho pins s2 σ H2 x y v u Q I2 rx ry q)
theorem pe_un {op : UnaryOp} {r : V → Hp → VK → Prop} (ho : UnR X (unaryOp op) r) (ha : PE X a ta) : PE X (.UnaryOp op a pos) (tUn r ta) := by
  intro pins s σ H Q I h
  exact UnaryOp_ (thn (ha pins s σ H _ I h) fun v s1 ⟨x, H1, I1, r1, q1⟩ => ho pins s1 σ H1 x v Q I1 r1 q1)
theorem opI {f : Value → Value → Sem Value} {C : Int → Int → Prop} {g : Int → Int → Int}
    (rule : ∀ (i j : Int) (t u : Tok) (s : Shared) (Q : Value → Shared → Prop) (E : Value → Shared → Prop), C i j → Q (.int (g i j) s.toks) { s with toks := s.toks + 1 } → wpAny (model X.prog X.w) X.A (f (.int i t) (.int j u)) Q E s) :
    OpR X f (rI C fun i j => .int (g i j)) := by
  intro pins s σ H x y v u Q I rx ry h
  obtain ⟨i, j, rfl, rfl, hc, q⟩ := h
  obtain ⟨t, rfl⟩ := rx
  obtain ⟨t', rfl⟩ := ry
  exact rule i j t t' s _ _ hc ⟨.int (g i j), H, I.tok _, ⟨_, rfl⟩, q⟩
theorem opI0 {f : Value → Value → Sem Value} {g : Int → Int → Int}
    (rule : ∀ (i j : Int) (t u : Tok) (s : Shared) (Q : Value → Shared → Prop) (E : Value → Shared → Prop), Q (.int (g i j) s.toks) { s with toks := s.toks + 1 } → wpAny (model X.prog X.w) X.A (f (.int i t) (.int j u)) Q E s) :
    OpR X f (rI0 fun i j => .int (g i j)) := by
  intro pins s σ H x y v u Q I rx ry h
  obtain ⟨i, j, rfl, rfl, q⟩ := h
  obtain ⟨t, rfl⟩ := rx
  obtain ⟨t', rfl⟩ := ry
  exact rule i j t t' s _ _ ⟨.int (g i j), H, I.tok _, ⟨_, rfl⟩, q⟩
theorem opB0 {f : Value → Value → Sem Value} {g : Int → Int → Bool}
    (rule : ∀ (i j : Int) (t u : Tok) (s : Shared) (Q : Value → Shared → Prop) (E : Value → Shared → Prop), Q (.bool (g i j)) s → wpAny (model X.prog X.w) X.A (f (.int i t) (.int j u)) Q E s) :
    OpR X f (rI0 fun i j => .bl (g i j)) := by
  intro pins s σ H x y v u Q I rx ry h
  obtain ⟨i, j, rfl, rfl, q⟩ := h
  obtain ⟨t, rfl⟩ := rx
  obtain ⟨t', rfl⟩ := ry
  exact rule i j t t' s _ _ ⟨.bl (g i j), H, I, rfl, q⟩
noncomputable def CDiv (i j : Int) : Prop := 0 < j ∧ j < 1073741824
noncomputable def CPow (i j : Int) : Prop := 0 ≤ j ∧ j ≤ 1000000 ∧ i.natAbs < 2 ^ 64
noncomputable def CMul (i j : Int) : Prop := (-(2 ^ 64) < i ∧ i < 2 ^ 64) ∨ (-(2 ^ 64) < j ∧ j < 2 ^ 64)
theorem CMul.ok {i j : Int} (h : CMul i j) : IntMulOk i j := by
  rcases h with ⟨h1, h2⟩ | ⟨h1, h2⟩
  · exact .of_left (intBits_le_64 h1 h2)
  · exact .of_right (intBits_le_64 h1 h2)
theorem two_pow_nn (k : Nat) : (0 : Int) ≤ 2 ^ k := by
  rw [two_pow_cast]
  exact Int.natCast_nonneg _
theorem op_add : OpR X (binaryOp .Add) (rI0 fun i j => .int (i + j)) := opI0 fun _ _ _ _ _ _ _ q => add_int q
theorem op_sub : OpR X (binaryOp .Sub) (rI0 fun i j => .int (i - j)) := opI0 fun _ _ _ _ _ _ _ q => sub_int q
theorem op_mul : OpR X (binaryOp .Mult) (rI CMul fun i j => .int (i * j)) := opI fun _ _ _ _ _ _ _ hc q => mul_int q hc.ok
theorem op_fdiv : OpR X (binaryOp .FloorDiv) (rI CDiv fun i j => .int (i / j)) := opI fun i j _ _ _ _ _ hc q => by
  have h1 : (0 : Int) < j := hc.1
  have h2 : j < 1073741824 := hc.2
  exact floordiv_int (by omega) (by rw [Int.fdiv_eq_ediv_of_nonneg i (by omega)]; exact q) (.inl (PyProof.noPylong_small (by omega)))
theorem op_mod : OpR X (binaryOp .Mod) (rI (fun _ j => 0 < j) fun i j => .int (i % j)) := opI fun i j _ _ _ _ _ hc q => by
  have h1 : (0 : Int) < j := hc
  exact mod_int' (by omega) (by rw [Int.fmod_eq_emod_of_nonneg i (by omega)]; exact q)
theorem op_pow : OpR X (binaryOp .Pow) (rI CPow fun i j => .int (i ^ j.toNat)) := opI fun _ _ _ _ _ _ _ hc q => pow_int_small hc.1 hc.2.1 hc.2.2 q
theorem op_shl : OpR X (binaryOp .LShift) (rI CPow fun i j => .int (i * 2 ^ j.toNat)) := opI fun _ _ _ _ _ _ _ hc q => lshift_int_small hc.1 hc.2.1 hc.2.2 q
theorem op_shr : OpR X (binaryOp .RShift) (rI (fun _ j => 0 ≤ j) fun i j => .int (i / 2 ^ j.toNat)) := opI fun i j _ _ _ _ _ hc q =>
  rshift_int hc (by rw [Int.fdiv_eq_ediv_of_nonneg i (two_pow_nn _)]; exact q)
theorem op_and : OpR X (binaryOp .BitAnd) (rI0 fun i j => .int (Builtin.bitAnd i j)) := opI0 fun _ _ _ _ _ _ _ q => and_int q
theorem op_or : OpR X (binaryOp .BitOr) (rI0 fun i j => .int (Builtin.bitOr i j)) := opI0 fun _ _ _ _ _ _ _ q => or_int q
theorem op_xor : OpR X (binaryOp .BitXor) (rI0 fun i j => .int (Builtin.bitXor i j)) := opI0 fun _ _ _ _ _ _ _ q => xor_int q
theorem iop_and : OpR X (inplaceOp .BitAnd) (rI0 fun i j => .int (Builtin.bitAnd i j)) := opI0 fun _ _ _ _ _ _ _ q => iand_int q
theorem iop_or : OpR X (inplaceOp .BitOr) (rI0 fun i j => .int (Builtin.bitOr i j)) := opI0 fun _ _ _ _ _ _ _ q => ior_int q
theorem unI {f : Value → Sem Value} {g : Int → Int}
    (rule : ∀ (i : Int) (t : Tok) (s : Shared) (Q : Value → Shared → Prop) (E : Value → Shared → Prop), Q (.int (g i) s.toks) { s with toks := s.toks + 1 } → wpAny (model X.prog X.w) X.A (f (.int i t)) Q E s) :
    UnR X f (rU fun i => .int (g i)) := by
  intro pins s σ H x v Q I rx h
  obtain ⟨i, rfl, q⟩ := h
  obtain ⟨t, rfl⟩ := rx
  exact rule i t s _ _ ⟨.int (g i), H, I.tok _, ⟨_, rfl⟩, q⟩
theorem un_neg : UnR X (unaryOp .USub) (rU fun i => .int (-i)) := unI fun _ _ _ _ _ q => neg_int q
end
section
variable {X : Cx} {a b c : Expr} {ta tb tc : TE} {pos : Pos}
theorem op_lt : OpR X (compareOp .Lt) (rI0 fun i j => .bl (decide (i < j))) := opB0 fun _ _ _ _ _ _ _ q => lt_int q
theorem op_le : OpR X (compareOp .LtE) (rI0 fun i j => .bl (decide (i ≤ j))) := opB0 fun _ _ _ _ _ _ _ q => le_int q
theorem op_gt : OpR X (compareOp .Gt) (rI0 fun i j => .bl (decide (j < i))) := opB0 fun _ _ _ _ _ _ _ q => gt_int q
theorem op_ge : OpR X (compareOp .GtE) (rI0 fun i j => .bl (decide (j ≤ i))) := opB0 fun _ _ _ _ _ _ _ q => ge_int q
theorem nomark (b : Expr) {op : CmpOp} (h : op ≠ .In := by decide) (h2 : op ≠ .NotIn := by decide) : behindInMarks op b = false := by
  have e1 : (op == CmpOp.In) = false := by cases op <;> first | rfl | exact absurd rfl h
  have e2 : (op == CmpOp.NotIn) = false := by cases op <;> first | rfl | exact absurd rfl h2
  cases b <;> simp [behindInMarks, e1, e2]
theorem pe_cmpR {op : CmpOp} {r : R2} (ho : OpR X (compareOp op) r) (ha : PE X a ta) (hb : PE X b tb) (hm : behindInMarks op b = false) : PE X (.Compare a [op] [b] pos) (tOp r ta tb) := by
  intro pins s σ H Q I h
  exact wpAny_Compare1 (binT ha hb I h fun v u s2 x y H2 I2 rx ry q => ho pins s2 σ H2 x y v u Q I2 rx ry q) hm
noncomputable def tTest (t : TE) : TT := fun σ H Q => t σ H fun x H' => ∃ k, x = .bl k ∧ Q k H'
theorem pt_cmpR {op : CmpOp} {r : R2} (ho : OpR X (compareOp op) r) (ha : PE X a ta) (hb : PE X b tb) (hm : behindInMarks op b = false) : PT X (.Compare a [op] [b] pos) (tTest (tOp r ta tb)) := by
  intro pins s σ H Q I h
  refine wpAny_isTrue_Compare1 (thn (ha pins s σ H _ I h) fun v s1 ⟨x, H1, I1, r1, q1⟩ => thn (hb pins s1 σ H1 _ I1 q1) fun u s2 ⟨y, H2, I2, r2, q2⟩ =>
    thn (ho pins s2 σ H2 x y v u _ I2 r1 r2 q2) fun c s3 ⟨z, H3, I3, r3, k, e, q3⟩ => ?_) hm
  subst e
  cases r3
  exact wpAny_truthy_bool ⟨H3, I3, q3⟩
noncomputable def TruV (K : PySem.W.Frag) (x : V) (H : Hp) (k : Bool) : Prop :=
  match x with
  | .non => k = false
  | .bl b => k = b
  | .int i => k = (i != 0)
  | .str y => y.length ≤ sizeLine ∧ k = ((y.length : Int) != 0)
  | .byt y => y.size ≤ sizeLine ∧ k = ((y.size : Int) != 0)
  | .ref p => (∃ xs, SqL K H p xs ∧ k = !xs.isEmpty) ∨ (∃ xs, SqT K H p xs ∧ k = !xs.isEmpty) ∨ ∃ kvs, H p = some (.dK kvs) ∧ k = !kvs.isEmpty
  | _ => False
theorem isEmpty_kv {κ : Type} {kvs : List (κ × V)} {vs : List (κ × Value)} (r : KV kvs vs) : (!vs.isEmpty) = !kvs.isEmpty := by
  cases r <;> rfl
theorem isEmpty_of {xs : List V} {its : List Value} (r : Vals xs its) : (!its.toArray.isEmpty) = !xs.isEmpty := by
  cases r <;> simp
theorem line63 : (sizeLine : Nat) < 2 ^ 63 := by rw [sizeLine_eq]; decide
theorem tru_ok : TruR X (fun x H Q => ∃ k, TruV X.K x H k ∧ Q k H) := by
  intro pins s σ H x v Q I rx h
  obtain ⟨k, e, q⟩ := h
  have hl := line63
  have hs : sizeLine = 16777216 := sizeLine_eq
  cases x with
  | non =>
    cases rx
    have e' : k = false := e
    subst e'
    exact truthy_none ⟨H, I, q⟩
  | bl b =>
    cases rx
    have e' : k = b := e
    subst e'
    exact wpAny_truthy_bool ⟨H, I, q⟩
  | int i =>
    obtain ⟨t, rfl⟩ := rx
    have e' : k = (i != 0) := e
    subst e'
    exact PySem.P.truthy_int ⟨H, I, q⟩
  | str y =>
    obtain ⟨t, rfl⟩ := rx
    obtain ⟨hy, e'⟩ : y.length ≤ sizeLine ∧ k = ((y.length : Int) != 0) := e
    subst e'
    exact PySem.P.truthy_str (by omega) ⟨H, I.tok _, q⟩
  | byt y =>
    obtain ⟨t, rfl⟩ := rx
    obtain ⟨hy, e'⟩ : y.size ≤ sizeLine ∧ k = ((y.size : Int) != 0) := e
    subst e'
    exact PySem.W.truthy_bytes (by omega) ⟨H, I.tok _, q⟩
  | ref p =>
    cases rx
    have e' : (∃ xs, SqL X.K H p xs ∧ k = !xs.isEmpty) ∨ (∃ xs, SqT X.K H p xs ∧ k = !xs.isEmpty) ∨ ∃ kvs, H p = some (.dK kvs) ∧ k = !kvs.isEmpty := e
    rcases e' with ⟨xs, hx, e'⟩ | ⟨xs, hx, e'⟩ | ⟨kvs, hx, e'⟩
    · subst e'
      obtain ⟨its, r, pl, hz⟩ := I.list hx
      have hlen := r.length
      exact wpAny_truthy_list pl.isList (by simp only [List.size_toArray]; omega) ⟨H, I.tok _, by rw [isEmpty_of r]; exact q⟩
    · subst e'
      obtain ⟨its, r, pl, hz⟩ := I.tuple hx
      have hlen := r.length
      exact truthy_tuple pl (by simp only [List.size_toArray]; omega) ⟨H, I.tok _, by rw [isEmpty_of r]; exact q⟩
    · subst e'
      obtain ⟨hz, hS, vs, r, m⟩ : kvs.length ≤ sizeLine ∧ (p == sysModules) = false ∧ ∃ vs, KV kvs vs ∧ s.heap.DictOf (mixKind X.prog X.w) p vs := I.hok p _ hx
      have hlen : kvs.length = vs.length := Paired.length r
      exact wpAny_truthy_dict hS m (by omega) ⟨H, I.tok _, by rw [isEmpty_kv r]; exact q⟩
  | _ => exact (show False from e).elim
theorem pt_truth (ha : PE X a ta) (he : ∀ whole, isTrue a X.env whole = (do let v ← whole; standAt a.pos; holding [v] (truthy v))) :
    PT X a (fun σ H Q => ta σ H fun x H' => ∃ k, TruV X.K x H' k ∧ Q k H') := by
  intro pins s σ H Q I h
  exact isTrue_plain (thn (ha pins s σ H _ I h) fun v s1 ⟨x, H1, I1, r1, q1⟩ => tru_ok pins s1 σ H1 x v Q I1 r1 q1) (he _)
theorem op_add_str : OpR X (binaryOp .Add) (fun x y H Q => ∃ i j, x = .str i ∧ y = .str j ∧ i.length + j.length ≤ sizeLine ∧ Q (.str (i ++ j)) H) := by
  intro pins s σ H x y v u Q I rx ry h
  obtain ⟨i, j, rfl, rfl, hz, q⟩ := h
  obtain ⟨t, rfl⟩ := rx
  obtain ⟨t', rfl⟩ := ry
  exact add_str (fun t' tk => ⟨.str (i ++ j), H, I.tok _, ⟨_, rfl⟩, q⟩) hz
theorem vals1 {x : V} {us : List Value} (r : Vals [x] us) : ∃ u, us = [u] ∧ RelV x u := by
  cases r with
  | cons r1 r2 => cases r2; exact ⟨_, rfl, r1⟩
theorem vals2 {x y : V} {us : List Value} (r : Vals [x, y] us) : ∃ u w', us = [u, w'] ∧ RelV x u ∧ RelV y w' := by
  cases r with
  | cons r1 r2 =>
    cases r2 with
    | cons r3 r4 => cases r4; exact ⟨_, _, rfl, r1, r3⟩
theorem call_abs : CallR X (.builtin "abs") (fun xs H Q => ∃ i, xs = [.int i] ∧ Q (.int (if i < 0 then -i else i)) H) := by
  intro pins s σ H xs us Q I r h
  obtain ⟨i, rfl, q⟩ := h
  obtain ⟨u, rfl, t, rfl⟩ := vals1 r
  exact call_abs_int fun u tk => ⟨.int (if i < 0 then -i else i), H, I.tok _, ⟨_, rfl⟩, q⟩
theorem call_max2 (hc : X.calm = true) : CallR X (.builtin "max") (fun xs H Q => ∃ i j, xs = [.int i, .int j] ∧ Q (.int (if j > i then j else i)) H) := by
  intro pins s σ H xs us Q I r h
  obtain ⟨i, j, rfl, q⟩ := h
  obtain ⟨u, w', rfl, ⟨t, rfl⟩, ⟨t', rfl⟩⟩ := vals2 r
  refine max_two_ints (I.ok.hd hc) fun h' tk k => ⟨_, H, I.kept k, ?_, q⟩
  by_cases hj : j > i
  · rw [if_pos hj, if_pos hj]; exact ⟨_, rfl⟩
  · rw [if_neg hj, if_neg hj]; exact ⟨_, rfl⟩
theorem call_min2 (hc : X.calm = true) : CallR X (.builtin "min") (fun xs H Q => ∃ i j, xs = [.int i, .int j] ∧ Q (.int (if j < i then j else i)) H) := by
  intro pins s σ H xs us Q I r h
  obtain ⟨i, j, rfl, q⟩ := h
  obtain ⟨u, w', rfl, ⟨t, rfl⟩, ⟨t', rfl⟩⟩ := vals2 r
  refine min_two_ints (I.ok.hd hc) fun h' tk k => ⟨_, H, I.kept k, ?_, q⟩
  by_cases hj : j < i
  · rw [if_pos hj, if_pos hj]; exact ⟨_, rfl⟩
  · rw [if_neg hj, if_neg hj]; exact ⟨_, rfl⟩
theorem call_int1 : CallR X (.type "int") (fun xs H Q => (∃ i, xs = [.int i] ∧ Q (.int i) H) ∨ ∃ k, xs = [.bl k] ∧ Q (.int (if k then 1 else 0)) H) := by
  intro pins s σ H xs us Q I r h
  rcases h with ⟨i, rfl, q⟩ | ⟨k, rfl, q⟩
  · obtain ⟨u, rfl, t, rfl⟩ := vals1 r
    exact call_int_int ⟨.int i, H, I, ⟨_, rfl⟩, q⟩
  · obtain ⟨u, rfl, r1⟩ := vals1 r
    cases r1
    exact call_int_bool ⟨.int (if k then 1 else 0), H, I.tok _, ⟨_, rfl⟩, q⟩
end
end L2
namespace L2
open PySem PySem.Spec PyProof.Rows
section
variable {prog : Program} {w : World} {A : Around} {E : Value → Shared → Prop} {s : Shared} {K : PySem.W.Frag} {x dx C f : Addr} {mA : Str → Option Value} {name : Str} {v : Value}
end
section
variable {P : Program} {w : World} {H H' : Hp} {h h' : Heap} {a C dx : Addr} {fs fs' : List (Str × V)}
end
section
variable {X : Cx} {pins : List (Addr × Obj)} {σ : St} {H : Hp} {s : Shared} {a C dx : Addr} {fs : List (Str × V)} {f : Str} {v : V} {A : Around} {E : Value → Shared → Prop}
end
section
variable {X : Cx} {o e value : Expr} {f : Str} {pos pos' tpos : Pos} {ta tv : TE}
end
section
variable {X : Cx} {pins : List (Addr × Obj)} {σ : St} {H : Hp} {s : Shared} {A : Around} {E : Value → Shared → Prop} {Q : Value → Shared → Prop} {c : Value} {b : Bool}
end
end L2
namespace L2
open PySem PySem.Spec PyProof.Rows
structure Room (k : Nat) (A : Around) : Prop where
  hd : A.handled = none
  dp : A.depth + 3 * k + 5 < recursionLimit
  un : A.units + 16 * k + 200 < cLine
  gd : A.guards = some []
theorem Room.mono {j k : Nat} {A : Around} (r : Room k A) (h : j ≤ k) : Room j A := ⟨r.hd, by have := r.dp; omega, by have := r.un; omega, r.gd⟩
theorem Room.deeper {k : Nat} {A : Around} (r : Room (k + 1) A) (env : Env) : Room k (A.deeper env) :=
  ⟨r.hd, by have := r.dp; show A.depth + 1 + 3 * k + 5 < _; omega, by have := r.un; show A.units + 3 + 16 * k + 200 < _; omega, r.gd⟩
theorem Room.depth {k : Nat} {A : Around} (r : Room k A) : A.depth < recursionLimit := by have := r.dp; omega
theorem Room.units {k : Nat} {A : Around} (r : Room k A) : A.units + 64 < cLine := by have := r.un; omega
noncomputable def tNil : TA := fun _ H Q => Q [] H
noncomputable def tCons (ta : TE) (tr : TA) : TA := fun σ H Q => ta σ H fun x H1 => tr σ H1 fun xs H2 => Q (x :: xs) H2
section
variable {X : Cx} {e : Expr} {es : List Expr} {te : TE} {t : TA} {pos : Pos}
theorem pa_nil : PA X [] tNil := fun _ _ _ _ H Q I h => Calls.spliced_nil ⟨[], H, I, .nil, h⟩
theorem pa_cons (ha : PE X e te) (hr : PA X es t) (hs : starEach (e :: es) X.env = (false, eval e X.env) :: starEach es X.env := by rfl) : PA X (e :: es) (tCons te t) := by
  intro pos pins s σ H Q I h
  rw [hs]
  show wpAny _ _ (spliced ((false, eval e X.env) :: backTo pos (starEach es X.env))) _ _ s
  refine Calls.spliced_cons (thn (ha pins s σ H _ I h) fun u s1 zz => ?_)
  obtain ⟨x, H1, I1, r1, q1⟩ := zz
  exact thn (hr pos pins s1 σ H1 _ I1 q1) fun us s2 ⟨xs, H2, I2, r2, q2⟩ => ⟨x :: xs, H2, I2, .cons r1 r2, q2⟩
noncomputable def tTup (t : TA) : TE := fun σ H Q => t σ H fun xs H1 => xs.length ≤ sizeLine ∧ ∀ p, H1 p = none → Q (.ref p) (upd H1 p (.tup xs))
noncomputable def tLst (t : TA) : TE := fun σ H Q => t σ H fun xs H1 => xs.length ≤ sizeLine ∧ ∀ p, H1 p = none → Q (.ref p) (upd H1 p (.lst xs))
theorem pe_tup {x1} (h : PA X es t) : PE X (.Tuple es x1 pos) (tTup t) := by
  intro pins s σ H Q I hq
  refine wpAny_Tuple_spliced (thn (h pos pins s σ H _ I hq) fun us s1 ⟨xs, H1, I1, r, z, q⟩ => ⟨by rw [← r.length]; exact z, ?_⟩)
  have hf : H1 s1.heap.objs.size = none := I1.hok.fresh (Nat.le_refl _)
  refine ⟨.ref s1.heap.objs.size, upd H1 s1.heap.objs.size (.tup xs), I1.laid (t' := s1.toks) (fun b u e => Heap.get?_push_of_some _ e) (Nat.le_refl _) ?_, rfl, q _ hf⟩
  exact ⟨z, us, r, ⟨_, Heap.get?_push_size _ rfl, rfl, ⟨_, rfl⟩, rfl⟩⟩
theorem pe_lst (h : PA X es t) : PE X (.List es pos) (tLst t) := by
  intro pins s σ H Q I hq
  refine wpAny_List_spliced (thn (h pos pins s σ H _ I hq) fun us s1 ⟨xs, H1, I1, r, z, q⟩ => ⟨by rw [← r.length]; exact z, ?_⟩)
  have hf : H1 s1.heap.objs.size = none := I1.hok.fresh (Nat.le_refl _)
  refine ⟨.ref s1.heap.objs.size, upd H1 s1.heap.objs.size (.lst xs), I1.laid (t' := s1.toks) (fun b u e => Heap.get?_push_of_some _ e) (Nat.le_refl _) ?_, rfl, q _ hf⟩
  exact ⟨z, us, 0, r, Heap.get?_push_size _ rfl⟩
end
noncomputable abbrev Sp := List V → Hp → VK → XK → Prop
noncomputable abbrev CXT := List Env → Hp → Shared → XK → Value → Shared → Prop
structure Env0 (P : Program) (w : World) (K : PySem.W.Frag) (mg : Str → Option Value) (base : Heap) (A : Around) (outer : List Env) (s : Shared) (H : Hp) : Prop where
  frames : A.frames = some outer
  mod : Mod K mg base
  bs : ∀ b o, base.get? b = some o → s.heap.get? b = some o ∧ H b = none
  bsz : base.objs.size ≤ s.heap.objs.size
  funs : s.heap.FunFrames base outer
  frf : ∀ b ∈ frs outer, H b = none
  hok : HOk P w H s.heap
  bare : AllBare s.gens
noncomputable def CE (outer : List Env) (P : Program) (w : World) (H : Hp) (s : Shared) (Q : VK) (u : Value) (s' : Shared) : Prop :=
  ∃ v H', s'.os = s.os ∧ AllBare s'.gens ∧ Un (frs outer) [] H H' s.heap s'.heap ∧ HOk P w H' s'.heap ∧ RelV v u ∧ Q v H'
noncomputable def CR (CX : CXT) (outer : List Env) (P : Program) (w : World) (H : Hp) (s : Shared) (Q : VK) (E : XK) (r : Result) (s' : Shared) : Prop :=
  match r with
  | .ok (.ret u) => CE outer P w H s Q u s'
  | .ok _ => False
  | .error e => CX outer H s E e s'
structure FnOk (P : Program) (w : World) (K : PySem.W.Frag) (mg : Str → Option Value) (base : Heap) (CX : CXT) (k : Nat) (f : Addr) (fd : FuncData) (ps : List Str) (sp : Sp) : Prop where
  len : ∀ vs H Q E, sp vs H Q E → vs.length = ps.length
  run : ∀ (A : Around) (outer : List Env) (s : Shared) (H : Hp) (args : Args) (us : List Value) (vs : List V) (Q : VK) (E : XK), Room k A → Env0 P w K mg base A outer s H → BindsTo s fd args (ps.zip us) → Vals vs us → sp vs H Q E →
    codeAny (model P w) A (.call (.ref f) args) (CR CX outer P w H s Q E) s
section
variable {X : Cx} {pins : List (Addr × Obj)} {σ : St} {H : Hp} {s s' : Shared}
theorem Inv.env0 (I : Inv X pins σ H s) : Env0 X.prog X.w X.K X.mg X.base X.A X.stack s H :=
  ⟨I.ok.frames, I.ok.mod, I.bs, Nat.le_trans I.ok.bsz I.sz, I.stack, I.stkFree, I.hok, I.bare⟩
theorem Inv.after {Q : VK} {u : Value} (I : Inv X pins σ H s) (h : CE X.stack X.prog X.w H s Q u s') : EP X pins σ Q u s' := by
  obtain ⟨v, H', os, bare, un, hok, r, q⟩ := h
  obtain ⟨hh, g, d, t, os'⟩ := s'
  obtain rfl : os' = s.os := os
  exact ⟨v, H', I.call (h' := hh) (g' := g) (d' := d) (t' := t) (ch := []) un hok bare (fun b z => absurd z (by simp)), r, q⟩
end
noncomputable def tCall (sp : Sp) (dvs : List V) (E : XK) (t : TA) : TE := fun σ H Q => t σ H fun vs H1 => sp (vs ++ dvs) H1 Q E
noncomputable def Binds (K : PySem.W.Frag) (fd : FuncData) (ps : List Str) (ds : List Value) : Prop :=
  ∀ (s : Shared) (us : List Value), K.In s.heap → (us ++ ds).length = ps.length → BindsTo s fd ⟨us, []⟩ (ps.zip (us ++ ds))
theorem Binds.all {K : PySem.W.Frag} {fd : FuncData} {ps : List Str} (h : ∀ us : List Value, us.length = ps.length → bindArgs fd ⟨us, []⟩ = pure (ps.zip us)) : Binds K fd ps [] := fun s us _ hl => by
  rw [List.append_nil] at hl ⊢
  exact .of_eq (h us hl)
noncomputable def Passes (CX : CXT) (X : Cx) (E : XK) : Prop := ∀ (pins : List (Addr × Obj)) (σ : St) (H : Hp) (s : Shared) (e : Value) (s' : Shared), Inv X pins σ H s → CX X.stack H s E e s' → X.xe e s'
section
variable {X : Cx} {CX : CXT} {k : Nat} {f C : Addr} {fd : FuncData} {ps : List Str} {sp : Sp} {dvs : List V} {ds : List Value} {E : XK} {x m : Str} {p pos apos : Pos} {e o : Expr} {es : List Expr} {ta : TE} {t : TA}
theorem run_fn {pins : List (Addr × Obj)} {σ : St} {H : Hp} {s : Shared} {Q : VK} {us : List Value} {vs : List V} (F : FnOk X.prog X.w X.K X.mg X.base CX k f fd ps sp) (hr : Room k X.A) (hb : Binds X.K fd ps ds) (hd : Vals dvs ds) (hx : Passes CX X E)
    (I : Inv X pins σ H s) (r : Vals vs us) (h : sp (vs ++ dvs) H Q E) : wpAny (model X.prog X.w) X.A (call (.ref f) us) (EP X pins σ Q) X.xe s := by
  have r2 : Vals (vs ++ dvs) (us ++ ds) := r.append hd
  have hl : (us ++ ds).length = ps.length := by rw [← r2.length]; exact F.len _ _ _ _ h
  refine wpAny_call (codeAny_mono (F.run X.A X.stack s H ⟨us, []⟩ (us ++ ds) (vs ++ dvs) Q E hr I.env0 (hb s us I.kIn hl) r2 h) fun r s' hq => ?_)
  cases r with
  | error e => exact hx pins σ H s e s' I hq
  | ok fl =>
    cases fl with
    | ret u => exact I.after hq
    | next => exact False.elim hq
    | brk => exact False.elim hq
    | cont => exact False.elim hq
theorem pe_call (F : FnOk X.prog X.w X.K X.mg X.base CX k f fd ps sp) (hr : Room k X.A) (hg : Gl X x) (hm : X.mg x = some (.ref f)) (hk : PySem.W.keepIn X.K (.ref f) = true) (hb : Binds X.K fd ps ds) (hd : Vals dvs ds) (hx : Passes CX X E)
    (ha : PA X (e :: es) t) (hdb : (x == ("__debug__" : Str)) = false := by decide) (he : starEach (e :: es) X.env = (false, eval e X.env) :: starEach es X.env := by rfl) (hpl : (backTo pos (starEach es X.env)).any (·.1) = false := by rfl) :
    PE X (.Call (.Name x p) (e :: es) [] pos) (tCall sp dvs E t) := by
  intro pins s σ H Q I h
  refine wpAny_Call_Name_kw (ld_glob I hg hm ?_ hdb)
  refine PySem.W.callWith_K (h₀ := X.base) I.ok.mod.kin hk (thn (ha pos pins s σ H _ I h) fun us s1 ⟨vs, H1, I1, r, q⟩ => ⟨I1.kIn, ?_⟩) he hpl
  exact run_fn F hr hb hd hx I1 r q
end
section
variable {X : Cx} {CX : CXT} {k : Nat} {f C : Addr} {fd : FuncData} {ps ks : List Str} {sp : Sp} {E : XK} {x m : Str} {p pos apos kpos : Pos} {e o : Expr} {es : List Expr} {kws : List Keyword} {te ta : TE} {t tk : TA} {nm : Option Str}
variable {g : List Value → List Value → List Value} {gV : List V → List V → List V}
end
structure FnScope (N P : List Str) (sc : Scope) : Prop where
  kind : sc.kind = .function
  co : sc.isCoroutine = false
  gen : sc.isGenerator = false
  nd : N.Nodup
  pre : N.take P.length = P
  par : ∀ x ∈ P, sc.names.lookup x = some .local ∨ sc.names.lookup x = some .cell
  nofree : ∀ y ∈ sc.names, y.2 ≠ .free
theorem bindL_out {kindOf : Str → Option NameKind} {x : Str} : ∀ {binds : List (Str × Value)} {m : Str → Option Value}, (∀ v, (x, v) ∉ binds) → bindL kindOf binds m x = m x
  | [], _, _ => rfl
  | (n, v) :: r, m, h => by
    unfold bindL
    rw [bindL_out fun w hw => h w (List.mem_cons_of_mem _ hw)]
    split
    · have : x ≠ n := by rintro rfl; exact h v List.mem_cons_self
      simp [this]
    · rfl
theorem bindC_out {kindOf : Str → Option NameKind} {x : Str} : ∀ {binds : List (Str × Value)} {m : Str → Option Value}, (∀ v, (x, v) ∉ binds) → bindC kindOf binds m x = m x
  | [], _, _ => rfl
  | (n, v) :: r, m, h => by
    unfold bindC
    rw [bindC_out fun w hw => h w (List.mem_cons_of_mem _ hw)]
    split
    · rfl
    · have : x ≠ n := by rintro rfl; exact h v List.mem_cons_self
      simp [this]
theorem bindL_get {kindOf : Str → Option NameKind} {x : Str} {v : Value} : ∀ {P : List Str} {vs : List Value} {i : Nat} {m : Str → Option Value}, P.Nodup → P[i]? = some x → vs[i]? = some v → kindOf x = some .local →
    bindL kindOf (P.zip vs) m x = some v
  | [], _, _, _, _, h, _, _ => by simp at h
  | _ :: _, [], _, _, _, _, h, _ => by simp at h
  | p :: P, w :: vs, 0, m, nd, h1, h2, hk => by
    simp at h1 h2; subst h1; subst h2
    show bindL kindOf ((p, w) :: P.zip vs) m p = _
    unfold bindL
    rw [bindL_out fun v hv => (List.nodup_cons.mp nd).1 (List.of_mem_zip hv).1, if_pos hk]
    simp
  | p :: P, w :: vs, i + 1, m, nd, h1, h2, hk => by
    show bindL kindOf ((p, w) :: P.zip vs) m x = _
    unfold bindL
    exact bindL_get (i := i) (List.nodup_cons.mp nd).2 (by simpa using h1) (by simpa using h2) hk
theorem bindC_get {kindOf : Str → Option NameKind} {x : Str} {v : Value} : ∀ {P : List Str} {vs : List Value} {i : Nat} {m : Str → Option Value}, P.Nodup → P[i]? = some x → vs[i]? = some v → kindOf x ≠ some .local →
    bindC kindOf (P.zip vs) m x = some v
  | [], _, _, _, _, h, _, _ => by simp at h
  | _ :: _, [], _, _, _, _, h, _ => by simp at h
  | p :: P, w :: vs, 0, m, nd, h1, h2, hk => by
    simp at h1 h2; subst h1; subst h2
    show bindC kindOf ((p, w) :: P.zip vs) m p = _
    unfold bindC
    rw [bindC_out fun v hv => (List.nodup_cons.mp nd).1 (List.of_mem_zip hv).1, if_neg hk]
    simp
  | p :: P, w :: vs, i + 1, m, nd, h1, h2, hk => by
    show bindC kindOf ((p, w) :: P.zip vs) m x = _
    unfold bindC
    exact bindC_get (i := i) (List.nodup_cons.mp nd).2 (by simpa using h1) (by simpa using h2) hk
noncomputable def start (N : List Str) (vs : List V) : St := vs.map some ++ List.replicate (N.length - vs.length) none
noncomputable def cxOf (CX : CXT) (P : Program) (w : World) (K : PySem.W.Frag) (mg : Str → Option Value) (base : Heap) (N : List Str) (qual : Str) (scope : Scope) (f : Addr) (cd : Value) (A : Around) (outer : List Env) (s : Shared) (H : Hp) (E : XK) : Cx where
  prog := P
  w := w
  K := K
  mg := mg
  base := base
  A := A.deeper (envOfC qual scope s.heap.objs.size f cd)
  N := N
  s₀ := s
  H₀ := H
  env := envOfC qual scope s.heap.objs.size f cd
  outer := outer
  stack := envOfC qual scope s.heap.objs.size f cd :: outer
  ex := []
  calm := true
  fn := fun _ => true
  pn := []
  xe := fun e s' => wpAny (model P w) (A.deeper (envOfC qual scope s.heap.objs.size f cd)) (leaving (envOfC qual scope s.heap.objs.size f cd) e) (fun _ s'' => CX outer H s E e s'') (fun e' s'' => CX outer H s E e' s'') s'
theorem cell_has {sc : Scope} {n : Nat} {x : Str} (h : sc.names.lookup x = some .cell) : ∃ c, (cellsFrom n sc.names []).lookup x = some c := by
  have q := PySem.W.cellsFrom_some sc.names n [] (.inl h)
  exact Option.isSome_iff_exists.mp q
theorem inv_start {CX : CXT} {P : Program} {w : World} {K : PySem.W.Frag} {mg : Str → Option Value} {base : Heap} {N ps : List Str} {qual : Str} {scope : Scope} {f : Addr} {cd : Value} {A : Around} {outer : List Env} {s s1 : Shared} {H : Hp} {E : XK} {us : List Value} {vs : List V}
    (S : FnScope N ps scope) (hd : A.handled = none) (e0 : Env0 P w K mg base A outer s H) (hl : vs.length = ps.length) (r : Vals vs us)
    (x : InCallC s s.heap.objs.size (bindL (envOfC qual scope s.heap.objs.size f cd).kindOf (ps.zip us) fun _ => none) (cellsFrom (s.heap.objs.size + 1) scope.names []) (bindC (envOfC qual scope s.heap.objs.size f cd).kindOf (ps.zip us) fun _ => none) s1) :
    Inv (cxOf CX P w K mg base N qual scope f cd A outer s H E) [] (start N vs) H s1 := by
  have hpl : ps.length ≤ N.length := by have := congrArg List.length S.pre; rw [List.length_take] at this; omega
  obtain ⟨h1, tk, rfl, hk⟩ := x.done
  have noA : ∀ b : Addr, b ∉ (cxOf CX P w K mg base N qual scope f cd A outer s H E).ex := fun b z => absurd (show b ∈ ([] : List Addr) from z) (by simp)
  refine ⟨⟨e0.mod, S.kind, rfl, rfl, Nat.le_refl _, fun y z c h1 h2 => ?_, fun y hy => ?_, fun y c _ h => ?_, fun _ => hd, Around.frames_deeper e0.frames, .inr ⟨rfl, rfl⟩, fun b z => absurd z (noA b), e0.bs, e0.bsz, fun b _ _ => noA b, fun b z => absurd z (noA b), e0.funs, e0.frf⟩,
    rfl, e0.bare, Un.kept hk, ⟨_, x.toInCall.ns, fun i y v h1 h2 h3 => ?_⟩, fun y c h => ⟨_, x.cell y c h⟩, e0.hok.fresh (Nat.le_refl _), fun y c h => ?_, fun p hp => absurd (show p ∈ ([] : List (Addr × Obj)) from hp) (by simp), e0.hok.kept hk, ?_⟩
  · exact name_of_addr x.apart (PySem.mem_of_lookup h1) (PySem.mem_of_lookup h2)
  · have hy : scope.names.lookup y = some .cell ∨ scope.names.lookup y = some .free := hy
    rcases hy with hy | hy
    · exact cell_has hy
    · exact absurd rfl (S.nofree _ (PySem.mem_of_lookup hy))
  · exact Nat.le_of_lt (x.above y c (PySem.mem_of_lookup h))
  · have hi : i < vs.length := by
      unfold start at h2
      by_cases hi : i < vs.length
      · exact hi
      · rw [List.getElem?_append_right (by simpa using hi)] at h2
        rw [List.getElem?_replicate] at h2
        split at h2 <;> cases h2
    have ha : vs[i]? = some v := by
      unfold start at h2
      rw [List.getElem?_append_left (by simpa using hi), List.getElem?_map] at h2
      cases e : vs[i]? with
      | none => rw [e] at h2; cases h2
      | some a => rw [e] at h2; cases h2; rfl
    obtain ⟨u, hu, rv⟩ := r.get ha
    have hp : ps[i]? = some y := by
      rw [← S.pre, List.getElem?_take_of_lt (by omega)]; exact h1
    have ndP : ps.Nodup := by rw [← S.pre]; exact S.nd.sublist (List.take_sublist _ _)
    refine ⟨u, rv, ?_⟩
    rcases S.par y (List.mem_of_getElem? hp) with k | k
    · exact .inl ⟨k, bindL_get ndP hp hu k⟩
    · obtain ⟨c, e⟩ := cell_has (n := s.heap.objs.size + 1) k
      refine .inr ⟨.inl k, c, e, ?_⟩
      have q := x.cell y c e
      rw [bindC_get ndP hp hu (by show scope.names.lookup y ≠ _; rw [k]; decide)] at q
      exact q
  · exact e0.hok.fresh (Nat.le_of_lt (x.above y c (PySem.mem_of_lookup h)))
  · unfold start
    show _ = N.length
    rw [List.length_append, List.length_map, List.length_replicate]
    omega
theorem fn_of {CX : CXT} {P : Program} {w : World} {K : PySem.W.Frag} {mg : Str → Option Value} {base : Heap} {k : Nat} {f : Addr} {name qual : Str} {params : Arguments} {body : List Stmt} {scope : Scope} {dV kV doc pm cdv ct oc : Value} {an od : Option Addr}
    {osl : Array (Option Value)} {N ps : List Str} {sp : Sp} (lk : K.lookup f = some ⟨oc, od, .func (PySem.W.fnOf name qual params body scope dV kV doc pm an cdv ct), osl⟩) (hcd : PySem.W.codeIn K cdv qual = true) (S : FnScope N ps scope)
    (len : ∀ vs H Q E, sp vs H Q E → vs.length = ps.length)
    (hbody : ∀ (A : Around) (outer : List Env) (s : Shared) (H : Hp) (vs : List V) (Q : VK) (E : XK), Room k (A.deeper (envOfC qual scope s.heap.objs.size f cdv)) → sp vs H Q E →
      ∃ t, PSs (cxOf CX P w K mg base N qual scope f cdv A outer s H E) body t ∧ t { nx := fun _ H' => Q .non H', rt := Q } (start N vs) H) :
    FnOk P w K mg base CX (k + 1) f (PySem.W.fnOf name qual params body scope dV kV doc pm an cdv ct) ps sp := by
  refine ⟨len, fun A outer s H args us vs Q E hr e0 hb r hsp => ?_⟩
  have hl := len _ _ _ _ hsp
  have KX : K.In s.heap := e0.mod.kin.keeps fun b o e => (e0.bs b o e).1
  have lim : s.heap.NoLimit := e0.mod.nolimit.keeps fun b o e => (e0.bs b o e).1
  have hkind : ∀ y ∈ ps.zip us, scope.names.lookup y.1 = some .local ∨ (scope.names.lookup y.1 = some .cell ∧ ((cellsFrom (s.heap.objs.size + 1) scope.names []).lookup y.1).isSome = true) := fun ⟨n, v⟩ hy => by
    rcases S.par n (List.of_mem_zip hy).1 with q | q
    · exact .inl q
    · exact .inr ⟨q, PySem.W.cellsFrom_some _ _ _ (.inl q)⟩
  refine codeAny_call_function hr.depth (KX _ _ lk) rfl S.co S.gen rfl (PySem.W.codeRec_of KX hcd) (hb _ _ _ _ ?_)
  refine wpAny_newFunctionEnv_cells S.kind hkind fun env he s1 x => ?_
  subst he
  refine ⟨lim.keeps x.toInCall.keep, codeAny_func ?_⟩
  obtain ⟨t, ht, hq⟩ := hbody A outer s H vs Q E (hr.deeper _) hsp
  have I : Inv (cxOf CX P w K mg base N qual scope f cdv A outer s H E) [] (start N vs) H s1 := inv_start S hr.hd e0 hl r x
  refine wpAny_mono (ht [] s1 (start N vs) H _ I hq) (fun fl s' hs => ?_) fun e s' hs => hs
  have fin : ∀ {σ' : St} {H' : Hp} {v : V} {u : Value}, Inv (cxOf CX P w K mg base N qual scope f cdv A outer s H E) [] σ' H' s' → RelV v u → Q v H' → CE outer P w H s Q u s' :=
    fun {σ' H' v u} J rv q => ⟨v, H', J.os, J.bare, J.base, J.hok, rv, q⟩
  cases fl with
  | ret u =>
    obtain ⟨v, σ', H', J, rv, q⟩ := hs
    exact fin J rv q
  | next =>
    obtain ⟨σ', H', J, q⟩ := hs
    exact fin (v := V.non) (u := Value.none) J rfl q
  | brk =>
    obtain ⟨_, _, _, q⟩ := hs
    exact False.elim q
  | cont =>
    obtain ⟨_, _, _, q⟩ := hs
    exact False.elim q
end L2
namespace L2
open PySem PySem.Spec PyProof.Rows
section
variable {X : Cx} {x : Str} {p pos : Pos} {e : Expr} {es : List Expr} {t : TA} {id T : String} {r : List V → Hp → VK → Prop}
noncomputable def tCB (r : List V → Hp → VK → Prop) (t : TA) : TE := fun σ H Q => t σ H fun vs H1 => r vs H1 Q
theorem pe_callB (hc : CallR X (.builtin id) r) (hg : Gl X x) (hm : X.mg x = none) (hv : bootBuiltins x = some (.builtin id)) (ha : PA X (e :: es) t) (hn : x ≠ "__name__" := by decide) (hdb : (x == ("__debug__" : Str)) = false := by decide)
    (he : starEach (e :: es) X.env = (false, eval e X.env) :: starEach es X.env := by rfl) (hpl : (backTo pos (starEach es X.env)).any (·.1) = false := by rfl) : PE X (.Call (.Name x p) (e :: es) [] pos) (tCB r t) := by
  intro pins s σ H Q I h
  refine wpAny_Call_Name_kw (ld_blt I hg hm hv ?_ hn hdb)
  exact PyProof.Rows.callWith_builtin1 (thn (ha pos pins s σ H _ I h) fun us s1 ⟨vs, H1, I1, r1, q1⟩ => hc pins s1 σ H1 vs us Q I1 r1 q1) he hpl
theorem pe_callTy (hc : CallR X (.type T) r) (hg : Gl X x) (hm : X.mg x = none) (hv : bootBuiltins x = some (.type T)) (ha : PA X (e :: es) t) (hn : x ≠ "__name__" := by decide) (hdb : (x == ("__debug__" : Str)) = false := by decide)
    (he : starEach (e :: es) X.env = (false, eval e X.env) :: starEach es X.env := by rfl) (hpl : (backTo pos (starEach es X.env)).any (·.1) = false := by rfl) : PE X (.Call (.Name x p) (e :: es) [] pos) (tCB r t) := by
  intro pins s σ H Q I h
  refine wpAny_Call_Name_kw (ld_blt I hg hm hv ?_ hn hdb)
  exact PyProof.Rows.callWith_type1 (thn (ha pos pins s σ H _ I h) fun us s1 ⟨vs, H1, I1, r1, q1⟩ => hc pins s1 σ H1 vs us Q I1 r1 q1) he hpl
end
end L2
namespace HT
open PySem PyProof.Rows
section
open PySem.SeqAt
open PySem.AutoSeq1 (wpAny_loadPart')
open PySem.MeetsSeq PySem.MeetsSeq2 PySem.MeetsSeq3
end
section
variable {prog : Program} {w : World} {A : Around} {E : Value → Shared → Prop} {s : Shared}
theorem cat_tup {t b : Addr} {vs ws : List Value} {Q : Value → Shared → Prop} (ht : IsTup s.heap t vs.toArray) (hb : IsTup s.heap b ws.toArray) (hv : vs ≠ [])
    (h1 : ws = [] → Q (.ref t) s) (h2 : ws ≠ [] → Q (.ref s.heap.objs.size) { s with heap := s.heap.push { cls := .type "tuple", data := .seq (vs ++ ws).toArray } })
    (hsz : vs.length + ws.length ≤ sizeLine) : wpAny (model prog w) A (binaryOp .Add (.ref t) (.ref b)) Q E s := by
  obtain ⟨⟨cls, dd, data, sl⟩, ho, hc, n, hd⟩ := id ht
  obtain ⟨⟨cls2, dd2, data2, sl2⟩, ho2, hc2, n2, hd2⟩ := id hb
  simp only at hc hd hc2 hd2
  subst hc hd hc2 hd2
  have e : vs.toArray ++ ws.toArray = (vs ++ ws).toArray := by simp
  by_cases hw : ws = []
  · exact concat_meets ⟨_, ho, rfl⟩ ⟨_, ho2, rfl⟩ noFill_tuple_add seq_tuple_add PySem.F.slot_tuple_add PySem.F.entry_tuple_add (PySem.F.args_tuple_add_2 _ _)
      (tuple_addW1 t b vs.toArray ws.toArray n n2 dd dd2 sl sl2 (by simpa using hv) (by simp [hw])) ⟨ho, ho2, h1 hw⟩
  · refine concat_meets ⟨_, ho, rfl⟩ ⟨_, ho2, rfl⟩ noFill_tuple_add seq_tuple_add PySem.F.slot_tuple_add PySem.F.entry_tuple_add (PySem.F.args_tuple_add_2 _ _)
      (tuple_addW2 t b vs.toArray ws.toArray n n2 dd dd2 sl sl2 (by simpa using hv) (by simpa using hw) (by rw [List.size_toArray, List.size_toArray]; exact hsz)) ⟨ho, ho2, ?_⟩
    rw [e]
    exact h2 hw
noncomputable def sIx (n d : Nat) : Option Int → Nat
  | none => d
  | some v => if v < 0 then (v + (n : Int)).toNat else min v.toNat n
theorem sIx_le (n d : Nat) (hd : d ≤ n) (o : Option Int) : sIx n d o ≤ n := by
  cases o with
  | none => exact hd
  | some v =>
    show (if v < 0 then (v + (n : Int)).toNat else min v.toNat n) ≤ n
    by_cases hv : v < 0
    · rw [if_pos hv]; omega
    · rw [if_neg hv]; exact Nat.min_le_right _ _
theorem clip_eq (v : Int) (n d : Nat) : (if v < 0 then max (v + (n : Int)) 0 else min v (n : Int)) = ((sIx n d (some v) : Nat) : Int) := by
  show (if v < 0 then max (v + (n : Int)) 0 else min v (n : Int)) = (((if v < 0 then (v + (n : Int)).toNat else min v.toNat n) : Nat) : Int)
  by_cases hv : v < 0
  · simp only [if_pos hv]; omega
  · simp only [if_neg hv]; omega
theorem adjust_gen (lo hi : Option Int) (n : Nat) : Builtin.Slice.sliceAdjust lo hi 1 (n : Int) = (((sIx n 0 lo : Nat) : Int), ((sIx n n hi : Nat) : Int)) := by
  have h1 : ¬ ((1 : Int) < 0) := by omega
  unfold Builtin.Slice.sliceAdjust
  simp only [h1, if_false]
  refine Prod.ext ?_ ?_
  · cases lo with
    | none => rfl
    | some v => exact clip_eq v n 0
  · cases hi with
    | none => rfl
    | some v => exact clip_eq v n n
theorem places_gen (i j : Nat) : Builtin.Slice.slicePlaces (i : Int) (j : Int) 1 = j - i := by
  unfold Builtin.Slice.slicePlaces
  have h1 : (1 : Int) > 0 := by omega
  simp only [h1, if_true, Int.ediv_one]
  split <;> omega
theorem slicePart_ {v : Value} {o : Option Int} {Q : Option Int → Shared → Prop} (p : IsPart v o) (h : Q o s) : wpAny (model prog w) A (Builtin.Slice.slicePartIndex v) Q E s := by
  cases p with
  | none => exact slicePart_none h
  | int i t => exact slicePart_int h
theorem sliceApplied_gen {sl : Addr} {vl vu : Value} {lo hi : Option Int} {n : Nat} {Q : Int × Int × Nat → Shared → Prop} (hs : s.heap.IsSliceOf sl vl vu .none) (pl : IsPart vl lo) (pu : IsPart vu hi)
    (h : Q (((sIx n 0 lo : Nat) : Int), 1, sIx n n hi - sIx n 0 lo) s) : wpAny (model prog w) A (Builtin.Slice.sliceApplied (.ref sl) (pure (n : Int))) Q E s := by
  obtain ⟨os, hos, hcs, hds⟩ := id hs
  unfold Builtin.Slice.sliceApplied Builtin.Slice.sliceFields
  refine wpAny_bind (wpAny_bind (wpAny_field hos hds (x := vl) rfl (wpAny_bind (wpAny_field hos hds (x := vu) rfl (wpAny_bind (wpAny_field hos hds (x := .none) rfl (wpAny_pure ?_)))))))
  refine wpAny_bind (slicePart_none ?_)
  show wpAny _ _ (if ((1 : Int) == 0) = true then _ else _) _ _ s
  rw [if_neg (by decide)]
  refine wpAny_bind (slicePart_ pl (wpAny_bind (slicePart_ pu (wpAny_bind (wpAny_pure ?_)))))
  show wpAny _ _ (match Builtin.Slice.sliceAdjust lo hi 1 (n : Int) with | (lo, hi) => pure (lo, (1 : Int), Builtin.Slice.slicePlaces lo hi 1)) _ _ s
  rw [adjust_gen lo hi n]
  show wpAny _ _ (pure (((sIx n 0 lo : Nat) : Int), (1 : Int), Builtin.Slice.slicePlaces ((sIx n 0 lo : Nat) : Int) ((sIx n n hi : Nat) : Int) 1)) _ _ s
  rw [places_gen]
  exact wpAny_pure h
theorem pick_gen (xs : Array Value) (i k : Nat) : ((List.range k).filterMap fun (m : Nat) => xs[((i : Int) + (m : Int) * 1).toNat]?).toArray = ((xs.toList.drop i).take k).toArray := by
  have e : (fun (m : Nat) => xs[((i : Int) + (m : Int) * 1).toNat]?) = fun m => xs[i + m]? := by
    funext m
    have : ((i : Int) + (m : Int) * 1).toNat = i + m := by omega
    rw [this]
  rw [e]
  have := pick_run xs i k
  rw [List.filterMap_map] at this
  have e2 : ((fun x => xs[x]?) ∘ fun x => i + x) = fun m => xs[i + m]? := rfl
  rw [e2] at this
  rw [this]
theorem getItem_tuple_cut {t sl : Addr} {items : Array Value} {vl vu : Value} {lo hi : Option Int} {Q : Value → Shared → Prop} (ht : IsTup s.heap t items) (hs : s.heap.IsSliceOf sl vl vu .none) (pl : IsPart vl lo) (pu : IsPart vu hi)
    (hw : ¬ (sIx items.size 0 lo = 0 ∧ sIx items.size items.size hi = items.size))
    (h : Q (.ref s.heap.objs.size) { s with heap := s.heap.push { cls := .type "tuple", data := .seq ((items.toList.drop (sIx items.size 0 lo)).take (sIx items.size items.size hi - sIx items.size 0 lo)).toArray } })
    (hsz : items.size ≤ sizeLine) : wpAny (model prog w) A (getItem (.ref t) (.ref sl)) Q E s := by
  have htake : sizeOk (.seq ((items.toList.drop (sIx items.size 0 lo)).take (sIx items.size items.size hi - sIx items.size 0 lo)).toArray) := by
    show ((items.toList.drop (sIx items.size 0 lo)).take (sIx items.size items.size hi - sIx items.size 0 lo)).toArray.size ≤ sizeLine
    rw [List.size_toArray, List.length_take, List.length_drop, Array.length_toList]
    omega
  have hj : sIx items.size items.size hi ≤ items.size := sIx_le _ _ (Nat.le_refl _) hi
  obtain ⟨os, hos, hcs, hds⟩ := id hs
  have hTs : s.TypeIs (.ref sl) "slice" := ⟨os, hos, hcs⟩
  unfold getItem
  try with_reducible refine wpAny_holding ?_
  first | refine wpAny_bind (wpAny_pure ?_) | skip
  refine wpAny_bind (wpAny_sequenceKey ht.typeIs (by decide) ?_)
  refine wpAny_bind (wpAny_callSpecial?_slot (name := Str.ofString "__getitem__") ht.typeIs PyProof.Rows.slot_tuple_getitem
    (wpAny_call_entry PyProof.Rows.slot_tuple_getitem ht.typeIs entry_tuple_getitem ?_ (args_tuple_getitem _ _)))
  show wpAny _ _ (Builtin.Tuple.tupleItemsOf (.ref t) >>= _) _ _ s
  refine wpAny_bind (tupleItemsOf_ ht ?_)
  refine wpAny_bind (wpAny_typeOf hTs ?_)
  rw [if_pos (by decide)]
  refine wpAny_bind (sliceApplied_gen hs pl pu ?_)
  have hno : ¬ ((((sIx items.size 0 lo : Nat) : Int) == 0 && (1 : Int) == 1 && (sIx items.size items.size hi - sIx items.size 0 lo) == items.size) = true) := by
    intro q
    rw [Bool.and_eq_true, Bool.and_eq_true] at q
    have q1 : ((sIx items.size 0 lo : Nat) : Int) = 0 := eq_of_beq q.1.1
    have q2 : sIx items.size items.size hi - sIx items.size 0 lo = items.size := eq_of_beq q.2
    exact hw ⟨by omega, by omega⟩
  show wpAny _ _ (if (((sIx items.size 0 lo : Nat) : Int) == 0 && (1 : Int) == 1 && (sIx items.size items.size hi - sIx items.size 0 lo) == items.size) = true then _ else _) _ _ s
  rw [if_neg hno, pick_gen]
  first
    | exact wpAny_bind (m := Builtin.Tuple.tupleExact _) (wpAny_newObj_type (wpAny_pure ⟨_, rfl, wpAny_pure h⟩) htake)
    | exact wpAny_bind (m := Builtin.Tuple.tupleExact _) (wpAny_newObj_type (wpAny_bind (wpAny_pure (wpAny_pure ⟨_, rfl, wpAny_pure h⟩))) htake)
    | exact wpAny_bind (wpAny_bind (m := Builtin.Tuple.tupleExact _) (wpAny_newObj_type (wpAny_pure (wpAny_pure ⟨_, rfl, wpAny_pure h⟩)) htake))
    | exact wpAny_bind (wpAny_bind (m := Builtin.Tuple.tupleExact _) (wpAny_newObj_type (wpAny_pure ⟨_, rfl, wpAny_pure h⟩) htake))
end
end HT
namespace L2
open PySem PySem.Spec PyProof.Rows
noncomputable abbrev TO := St → Hp → (Option Int → Hp → Prop) → Prop
noncomputable def PO (X : Cx) (e : Option Expr) (t : TO) : Prop :=
  ∀ (pins : List (Addr × Obj)) (s : Shared) (σ : St) (H : Hp) (Q : Option Int → Hp → Prop), Inv X pins σ H s → t σ H Q →
    wpAny (model X.prog X.w) X.A (evalPart e X.env) (fun u s' => ∃ o H', Inv X pins σ H' s' ∧ IsPart u o ∧ Q o H') X.xe s
noncomputable def tNoPart : TO := fun _ H Q => Q none H
noncomputable def tPart (t : TE) : TO := fun σ H Q => t σ H fun x H1 => ∃ i, x = .int i ∧ Q (some i) H1
theorem intsAre_of {ns : List Int} : ∀ {us : List Value}, Vals (ns.map V.int) us → IntsAre us ns := by
  induction ns with
  | nil => intro us r; rw [List.map_nil] at r; cases r; exact .nil
  | cons n ns ih =>
    intro us r
    rw [List.map_cons] at r
    cases r with
    | cons r1 r2 =>
      obtain ⟨t, e⟩ := r1
      subst e
      exact .cons n t (ih r2)
section
variable {X : Cx} {e : Expr} {te : TE} {lo hi : Option Expr} {tl th : TO} {pos p2 : Pos}
theorem po_none : PO X none tNoPart := by
  intro pins s σ H Q I h
  rw [evalPart_none]
  exact wpAny_pure ⟨none, H, I, .none, h⟩
theorem po_some (h : PE X e te) : PO X (some e) (tPart te) := by
  intro pins s σ H Q I hw
  rw [evalPart_some]
  refine thn (h pins s σ H _ I hw) fun u s1 zz => ?_
  obtain ⟨x, H1, I1, r1, q1⟩ := zz
  obtain ⟨i, rfl, q⟩ := q1
  obtain ⟨t, rfl⟩ := r1
  exact ⟨some i, H1, I1, .int i t, q⟩
noncomputable def SlR (X : Cx) (r : V → Option Int → Option Int → Hp → VK → Prop) : Prop :=
  ∀ (pins : List (Addr × Obj)) (s : Shared) (σ : St) (H : Hp) (x : V) (v vl vu : Value) (lo hi : Option Int) (sl : Addr) (Q : VK), Inv X pins σ H s → RelV x v → s.heap.IsSliceOf sl vl vu .none → IsPart vl lo → IsPart vu hi → r x lo hi H Q →
    ∃ T id, typeLookup (.type T) "__getitem__" = pure (some (.builtin id)) ∧ s.TypeIs v T ∧ wpAny (model X.prog X.w) X.A (getItem v (.ref sl)) (EP X pins σ Q) X.xe s
noncomputable def tSl (r : V → Option Int → Option Int → Hp → VK → Prop) (te : TE) (tl th : TO) : TE := fun σ H Q => te σ H fun x H1 => tl σ H1 fun l H2 => th σ H2 fun u H3 => r x l u H3 Q
theorem pe_slice {r : V → Option Int → Option Int → Hp → VK → Prop} (hr : SlR X r) (he : PE X e te) (hl : PO X lo tl) (hu : PO X hi th) : PE X (.Subscript e (.Slice lo hi none p2) pos) (tSl r te tl th) := by
  intro pins s σ H Q I h
  refine Subscript_ (thn (he pins s σ H _ I h) fun v s1 zz => ?_)
  obtain ⟨x, H1, I1, r1, q1⟩ := zz
  refine wpAny_Slice (thn (hl pins s1 σ H1 _ I1 q1) fun vl s2 ⟨l, H2, I2, pl, q2⟩ => thn (hu pins s2 σ H2 _ I2 q2) fun vu s3 zz => ?_)
  obtain ⟨u, H3, I3, pu, q3⟩ := zz
  rw [evalPart_none]
  refine wpAny_pure ?_
  have I4 : Inv X pins σ H3 { s3 with heap := s3.heap.push { cls := .type "slice", data := .fields #[vl, vu, .none] } } := I3.kept (t' := s3.toks) fun b ob q => Heap.get?_push_of_some _ q
  obtain ⟨T, id, hT, ht, hg⟩ := hr pins { s3 with heap := s3.heap.push { cls := .type "slice", data := .fields #[vl, vu, .none] } } σ H3 x v vl vu l u s3.heap.objs.size Q I4 r1 (Heap.IsSliceOf.new ..) pl pu q3
  show wpAny (model X.prog X.w) X.A (subscriptTail e (.Slice lo hi none p2) v (.ref s3.heap.objs.size)) (EP X pins σ Q) X.xe { s3 with heap := s3.heap.push { cls := .type "slice", data := .fields #[vl, vu, .none] } }
  exact tail_any (ops := [.ref s3.heap.objs.size, v]) ht hT hg (by with_unfolding_all rfl)
noncomputable def cutV (xs : List V) (lo hi : Option Int) : List V := (xs.drop (HT.sIx xs.length 0 lo)).take (HT.sIx xs.length xs.length hi - HT.sIx xs.length 0 lo)
theorem cutV_length (xs : List V) (lo hi : Option Int) : (cutV xs lo hi).length ≤ xs.length := by
  unfold cutV
  rw [List.length_take, List.length_drop]
  omega
noncomputable def rSlT (K : PySem.W.Frag) : V → Option Int → Option Int → Hp → VK → Prop := fun x lo hi H Q => ∃ a xs, x = .ref a ∧ SqT K H a xs ∧
  ¬ (HT.sIx xs.length 0 lo = 0 ∧ HT.sIx xs.length xs.length hi = xs.length) ∧ ∀ p, H p = none → Q (.ref p) (upd H p (.tup (cutV xs lo hi)))
theorem sl_tup : SlR X (rSlT X.K) := by
  intro pins s σ H x v vl vu lo hi sl Q I rx hs pl pu h
  obtain ⟨a, xs, rfl, hx, hw, q⟩ := h
  cases rx
  obtain ⟨its, r, ht, hz⟩ := I.tuple hx
  have hlen : its.toArray.size = xs.length := by rw [List.size_toArray]; exact r.length.symm
  refine ⟨"tuple", _, PyProof.Rows.slot_tuple_getitem.lookup, ht.typeIs, ?_⟩
  refine HT.getItem_tuple_cut ht hs pl pu (by rw [hlen]; exact hw) ?_ (by rw [hlen]; exact hz)
  rw [hlen]
  refine ⟨.ref s.heap.objs.size, _, I.laid (t' := s.toks) (o := .tup (cutV xs lo hi)) (fun b ob q => Heap.get?_push_of_some _ q) (Nat.le_refl _) ?_, rfl, q _ (I.hok.fresh (Nat.le_refl _))⟩
  exact ⟨Nat.le_trans (cutV_length xs lo hi) hz, _, (r.drop (HT.sIx xs.length 0 lo)).take (HT.sIx xs.length xs.length hi - HT.sIx xs.length 0 lo), IsTuN.new _ _⟩
noncomputable def rCatT (K : PySem.W.Frag) : R2 := fun x y H Q => ∃ a b xs ys, x = .ref a ∧ y = .ref b ∧ SqT K H a xs ∧ SqT K H b ys ∧ xs ≠ [] ∧ xs.length + ys.length ≤ sizeLine ∧
  (ys = [] → Q (.ref a) H) ∧ (ys ≠ [] → ∀ p, H p = none → Q (.ref p) (upd H p (.tup (xs ++ ys))))
theorem Vals.nil_iff {xs : List V} {us : List Value} (r : Vals xs us) : us = [] ↔ xs = [] := by
  cases r with
  | nil => simp
  | cons _ _ => simp
theorem op_catT : OpR X (binaryOp .Add) (rCatT X.K) := by
  intro pins s σ H x y v u Q I rx ry h
  obtain ⟨a, b, xs, ys, rfl, rfl, ha, hb, hx, hz, q1, q2⟩ := h
  cases rx
  cases ry
  obtain ⟨its, r1, p1, _⟩ := I.tuple ha
  obtain ⟨its2, r2, p2, _⟩ := I.tuple hb
  refine HT.cat_tup p1 p2 (fun z => hx (r1.nil_iff.mp z)) (fun z => ⟨.ref a, H, I, rfl, q1 (r2.nil_iff.mp z)⟩) (fun z => ?_) (by rw [← r1.length, ← r2.length]; exact hz)
  refine ⟨.ref s.heap.objs.size, _, I.laid (t' := s.toks) (o := .tup (xs ++ ys)) (fun b ob q => Heap.get?_push_of_some _ q) (Nat.le_refl _) ?_, rfl, q2 (fun w => z (r2.nil_iff.mpr w)) _ (I.hok.fresh (Nat.le_refl _))⟩
  exact ⟨by rw [List.length_append]; exact hz, _, r1.append r2, IsTuN.new _ _⟩
end
end L2
namespace L2
open PySem PySem.Spec PyProof.Rows
noncomputable def ixN (n : Nat) (i : Int) : Option Nat := if 0 ≤ i then (if i < n then some i.toNat else none) else if -(n : Int) ≤ i then some (i + n).toNat else none
noncomputable def atI {α : Type} (xs : List α) (i : Int) : Option α := (ixN xs.length i).bind fun j => xs[j]?
theorem ixN_seq {n : Nat} {i : Int} {j : Nat} (h : ixN n i = some j) : seqIndex? i n = some j ∧ j < n ∧ -(n : Int) ≤ i ∧ i < n := by
  unfold ixN at h
  by_cases h0 : 0 ≤ i
  · rw [if_pos h0] at h
    by_cases h1 : i < n
    · rw [if_pos h1] at h
      have e : i.toNat = j := Option.some.inj h
      exact ⟨by rw [seqIndex_of h0 h1, e], by omega, by omega, h1⟩
    · rw [if_neg h1] at h; cases h
  · rw [if_neg h0] at h
    by_cases h1 : -(n : Int) ≤ i
    · rw [if_pos h1] at h
      have e : (i + n).toNat = j := Option.some.inj h
      exact ⟨by rw [seqIndex_neg (by omega) h1, e], by omega, h1, by omega⟩
    · rw [if_neg h1] at h; cases h
theorem atI_get {α : Type} {xs : List α} {i : Int} {v : α} (h : atI xs i = some v) : ∃ j, seqIndex? i xs.length = some j ∧ xs[j]? = some v ∧ j < xs.length ∧ -(xs.length : Int) ≤ i ∧ i < xs.length := by
  unfold atI at h
  cases e : ixN xs.length i with
  | none => rw [e] at h; cases h
  | some j =>
    rw [e] at h
    obtain ⟨h1, h2, h3, h4⟩ := ixN_seq e
    exact ⟨j, h1, h, h2, h3, h4⟩
theorem atI_nat {α : Type} {xs : List α} {j : Nat} {v : α} (h : xs[j]? = some v) : atI xs (j : Int) = some v := by
  have hj : j < xs.length := (List.getElem?_eq_some_iff.mp h).1
  have e : ixN xs.length (j : Int) = some j := by
    unfold ixN
    rw [if_pos (by omega), if_pos (by omega)]; simp
  unfold atI; rw [e]; exact h
noncomputable def PlainIx (b : Expr) : Prop := ∀ o i, subscripted b false o i = operate [o, i] (getItem o i)
noncomputable def IxR (X : Cx) (r : R2) : Prop :=
  ∀ (value slice : Expr) (pins : List (Addr × Obj)) (s : Shared) (σ : St) (H : Hp) (x y : V) (v u : Value) (Q : VK), Inv X pins σ H s → RelV x v → RelV y u → r x y H Q →
    subscripted slice false v u = operate [v, u] (getItem v u) → wpAny (model X.prog X.w) X.A (subscriptTail value slice v u) (EP X pins σ Q) X.xe s
noncomputable def MtR (X : Cx) (id : String) (r : V → List V → Hp → VK → Prop) : Prop :=
  ∀ (pins : List (Addr × Obj)) (s : Shared) (σ : St) (H : Hp) (x : V) (xs : List V) (v : Value) (us : List Value) (Q : VK), Inv X pins σ H s → RelV x v → Vals xs us → r x xs H Q →
    wpAny (model X.prog X.w) X.A (call (.builtin id) (v :: us)) (EP X pins σ Q) X.xe s
section
variable {X : Cx} {a b : Expr} {ta tb : TE} {pos : Pos}
theorem pe_ix {r : R2} (hr : IxR X r) (ha : PE X a ta) (hb : PE X b tb) (hs : PlainIx b) : PE X (.Subscript a b pos) (tOp r ta tb) := by
  intro pins s σ H Q I h
  exact Subscript_ (binT ha hb I h fun v u s2 x y H2 I2 rx ry q => hr a b pins s2 σ H2 x y v u Q I2 rx ry q (hs _ _))
noncomputable def rIxL (K : PySem.W.Frag) : R2 := fun x y H Q => ∃ p xs i v, x = .ref p ∧ y = .int i ∧ SqL K H p xs ∧ atI xs i = some v ∧ Q v H
noncomputable def rIxT (K : PySem.W.Frag) : R2 := fun x y H Q => ∃ p xs i v, x = .ref p ∧ y = .int i ∧ SqT K H p xs ∧ atI xs i = some v ∧ Q v H
theorem ix_list : IxR X (rIxL X.K) := by
  intro value slice pins s σ H x y v u Q I rx ry h hs
  obtain ⟨p, xs, i, z, rfl, rfl, hq, he, q⟩ := h
  cases rx
  obtain ⟨t, rfl⟩ := ry
  obtain ⟨its, r, pl, hz⟩ := I.list hq
  obtain ⟨j, h1, h2, h3, h4, h5⟩ := atI_get he
  obtain ⟨w, ew, rw'⟩ := r.get h2
  have hl := r.length
  have hn := line63
  have fin : EP X pins σ Q w s := ⟨z, H, I, rw', q⟩
  by_cases h0 : 0 ≤ i
  · have hj : i.toNat = j := by
      rw [seqIndex_of h0 h5] at h1
      exact Option.some.inj h1
    exact item_listR pl.isList h0 (by omega) (by rw [hj]; simpa using ew) fin hs
  · have hj : (i + (its.toArray.size : Int)).toNat = j := by
      rw [seqIndex_neg (by omega) h4] at h1
      rw [List.size_toArray, ← hl]
      exact Option.some.inj h1
    exact subscriptTail_builtinR (x := w) pl.isList.typeIs slot_list_getitem.lookup
      (wpAny_getItem_list_neg (Q := fun r s' => r = w ∧ EP X pins σ Q r s') pl.isList (by omega) (by rw [List.size_toArray] <;> omega) (by omega) (by rw [hj]; simpa using ew) ⟨rfl, fin⟩) hs
theorem ix_tup : IxR X (rIxT X.K) := by
  intro value slice pins s σ H x y v u Q I rx ry h hs
  obtain ⟨p, xs, i, z, rfl, rfl, hq, he, q⟩ := h
  cases rx
  obtain ⟨t, rfl⟩ := ry
  obtain ⟨its, r, pl, hz⟩ := I.tuple hq
  obtain ⟨j, h1, h2, h3, h4, h5⟩ := atI_get he
  obtain ⟨w, ew, rw'⟩ := r.get h2
  have hl := r.length
  have hn := line63
  have fin : EP X pins σ Q w s := ⟨z, H, I, rw', q⟩
  exact subscriptTail_builtinR (x := w) pl.typeIs slot_tuple_getitem.lookup
    (getItem_tuple (j := j) (Q := fun r s' => r = w ∧ EP X pins σ Q r s') pl (by omega) (by omega) (by rw [List.size_toArray, ← hl]; exact h1) (by simpa using ew) ⟨rfl, fin⟩) hs
theorem mapSeq_set (its : List Value) (n j : Nat) (u : Value) : Obj.mapSeq (·.setIfInBounds j u) { cls := .type "list", data := .seq its.toArray n } = { cls := .type "list", data := .seq (its.set j u).toArray n } := by
  simp [Obj.mapSeq]
theorem Inv.lst {pins : List (Addr × Obj)} {σ : St} {H : Hp} {s : Shared} {p : Addr} {xs : List V} (I : Inv X pins σ H s) (h : H p = some (.lst xs)) :
    ∃ (its : List Value) (n : Nat), Vals xs its ∧ s.heap.get? p = some { cls := .type "list", data := .seq its.toArray n } ∧ xs.length ≤ sizeLine := by
  obtain ⟨z, its, n, r, e⟩ := I.hok p _ h
  exact ⟨its, n, r, e, z⟩
theorem Inv.lstUpd {pins : List (Addr × Obj)} {σ : St} {H : Hp} {s : Shared} {p : Addr} {xs ys : List V} {its its' : List Value} {n n' : Nat} {f : Obj → Obj} (I : Inv X pins σ H s) (h : H p = some (.lst xs))
    (ho : s.heap.get? p = some { cls := .type "list", data := .seq its.toArray n }) (hf : f { cls := .type "list", data := .seq its.toArray n } = { cls := .type "list", data := .seq its'.toArray n' }) (r : Vals ys its') (hz : ys.length ≤ sizeLine) (t : Nat) :
    Inv X pins σ (upd H p (.lst ys)) { s with heap := s.heap.update p f, toks := t } := by
  have e : (s.heap.update p f).get? p = some { cls := .type "list", data := .seq its'.toArray n' } := by
    rw [Heap.get?_update_self f ho (by rw [hf] <;> rfl), hf]
  refine I.write (x := p) (e := p) (by rw [h]; trivial) (.inl rfl) (fun b u hb q => (Heap.get?_update_other _ _ (Ne.symm hb)).trans q) ⟨_, e⟩ ?_
  exact ⟨hz, its', n', r, e⟩
noncomputable def rSetL : V → V → V → Hp → (Hp → Prop) → Prop := fun o i v H Q => ∃ p xs k j, o = .ref p ∧ i = .int k ∧ H p = some (.lst xs) ∧ ixN xs.length k = some j ∧ Q (upd H p (.lst (xs.set j v)))
theorem set_list : PSet X rSetL := by
  intro pins s σ H o i v ov iv u Q I ro ri rv h
  obtain ⟨p, xs, k, j, rfl, rfl, hp, hj, q⟩ := h
  cases ro
  obtain ⟨t, rfl⟩ := ri
  obtain ⟨its, n, r, ho, hz⟩ := I.lst hp
  obtain ⟨h1, h2, h3, h4⟩ := ixN_seq hj
  have hl := r.length
  have hn := line63
  have I' : Inv X pins σ (upd H p (.lst (xs.set j v))) { s with heap := s.heap.update p (Obj.mapSeq (·.setIfInBounds j u)) } :=
    I.lstUpd hp ho (mapSeq_set its n j u) (r.set rv j) (by rw [List.length_set]; exact hz) s.toks
  by_cases h0 : 0 ≤ k
  · have hk : k.toNat = j := by
      rw [seqIndex_of h0 h4] at h1
      exact Option.some.inj h1
    exact PySem.W.ki_setAt ho h0 (by omega) (by rw [List.size_toArray, ← hl]; exact h4) (by rw [hk]; exact ⟨_, I', q⟩)
  · have hk : (k + (its.toArray.size : Int)).toNat = j := by
      rw [seqIndex_neg (by omega) h3] at h1
      rw [List.size_toArray, ← hl]
      exact Option.some.inj h1
    exact PySem.W.ki_setBack ho (by omega) (by rw [List.size_toArray, ← hl]; exact h3) (by omega) (by rw [hk]; exact ⟨_, I', q⟩)
theorem slice_bounds (lo hi : Option Int) (n : Nat) : (sliceBounds lo hi none n).1 = ((HT.sIx n 0 lo : Nat) : Int) ∧ (sliceBounds lo hi none n).2.1 = ((HT.sIx n n hi : Nat) : Int) ∧ (sliceBounds lo hi none n).2.2 = 1 := by
  refine ⟨?_, ?_, rfl⟩
  · cases lo with
    | none => simp [sliceBounds, HT.sIx]
    | some i =>
      simp only [sliceBounds, HT.sIx, Option.getD_none, show (1 : Int) > 0 by decide, if_true]
      by_cases h : i < 0
      · simp only [h, if_true] <;> omega
      · simp only [h, if_false] <;> omega
  · cases hi with
    | none => simp [sliceBounds, HT.sIx]
    | some i =>
      simp only [sliceBounds, HT.sIx, Option.getD_none, show (1 : Int) > 0 by decide, if_true]
      by_cases h : i < 0
      · simp only [h, if_true] <;> omega
      · simp only [h, if_false] <;> omega
theorem slicePick_cut (its : List Value) (lo hi : Option Int) : slicePick its.toArray lo hi none = ((its.drop (HT.sIx its.length 0 lo)).take (HT.sIx its.length its.length hi - HT.sIx its.length 0 lo)).toArray := by
  obtain ⟨h1, h2, h3⟩ := slice_bounds lo hi its.toArray.size
  unfold slicePick
  rw [h1, h2, h3]
  simp only [sliceRange_one, pick_run, List.size_toArray] <;> rfl
noncomputable def rSlL (K : PySem.W.Frag) : V → Option Int → Option Int → Hp → VK → Prop := fun x lo hi H Q => ∃ a xs, x = .ref a ∧ SqL K H a xs ∧ ∀ p, H p = none → Q (.ref p) (upd H p (.lst (cutV xs lo hi)))
theorem sl_list : SlR X (rSlL X.K) := by
  intro pins s σ H x v vl vu lo hi sl Q I rx hs pl pu h
  obtain ⟨a, xs, rfl, hx, q⟩ := h
  cases rx
  obtain ⟨its, r, ht, hz⟩ := I.list hx
  have hlen := r.length
  refine ⟨"list", _, slot_list_getitem.lookup, ht.isList.typeIs, ?_⟩
  refine wpAny_getItem_list_slice ht.isList hs pl pu .none (by simp) ?_ (by rw [List.size_toArray] <;> omega)
  rw [slicePick_cut, ← hlen]
  refine ⟨.ref s.heap.objs.size, _, I.laid (t' := s.toks) (o := .lst (cutV xs lo hi)) (fun b ob q => Heap.get?_push_of_some _ q) (Nat.le_refl _) ?_, rfl, q _ (I.hok.fresh (Nat.le_refl _))⟩
  exact ⟨Nat.le_trans (cutV_length xs lo hi) hz, _, 0, (r.drop (HT.sIx xs.length 0 lo)).take (HT.sIx xs.length xs.length hi - HT.sIx xs.length 0 lo), Heap.get?_push_size _ rfl⟩
theorem call_len_seq : CallR X (.builtin "len") (fun xs H Q => ∃ p ys, xs = [.ref p] ∧ (SqL X.K H p ys ∨ SqT X.K H p ys) ∧ Q (.int ys.length) H) := by
  intro pins s σ H xs us Q I r h
  obtain ⟨p, ys, rfl, hq, q⟩ := h
  obtain ⟨u, rfl, rx⟩ := vals1 r
  cases rx
  have hn := line63
  rcases hq with hq | hq
  · obtain ⟨its, r', pl, hz⟩ := I.list hq
    have hlen := r'.length
    exact Calls.call_len_list pl.isList (by simp only [List.size_toArray] <;> omega) ⟨.int ys.length, H, I.tok _, ⟨s.toks + 1, by rw [List.size_toArray, hlen]⟩, q⟩
  · obtain ⟨its, r', pl, hz⟩ := I.tuple hq
    have hlen := r'.length
    exact len_tuple pl (by simp only [List.size_toArray] <;> omega) ⟨.int ys.length, H, I.tok _, ⟨s.toks + 1, by rw [List.size_toArray, hlen]⟩, q⟩
theorem call_len_str : CallR X (.builtin "len") (fun xs H Q => ∃ z, xs = [.str z] ∧ z.length ≤ sizeLine ∧ Q (.int z.length) H) := by
  intro pins s σ H xs us Q I r h
  obtain ⟨z, rfl, hz, q⟩ := h
  obtain ⟨u, rfl, t, rfl⟩ := vals1 r
  have hn := line63
  exact len_str (by omega) ⟨.int z.length, H, I.tok _, ⟨_, rfl⟩, q⟩
theorem call_tuple_of : CallR X (.type "tuple") (fun xs H Q => ∃ p ys, xs = [.ref p] ∧ ((SqL X.K H p ys ∧ ∀ l, H l = none → Q (.ref l) (upd H l (.tup ys))) ∨ (SqT X.K H p ys ∧ Q (.ref p) H))) := by
  intro pins s σ H xs us Q I r h
  obtain ⟨p, ys, rfl, h⟩ := h
  obtain ⟨u, rfl, rx⟩ := vals1 r
  cases rx
  rcases h with ⟨hq, q⟩ | ⟨hq, q⟩
  · obtain ⟨its, r', pl, hz⟩ := I.list hq
    have hlen := r'.length
    refine call_tuple_list pl.isList (fun h' kp => ?_) (by simp only [List.size_toArray] <;> omega)
    have I1 : Inv X pins σ H { s with heap := h' } := I.kept (t' := s.toks) kp
    have I2 : Inv X pins σ (upd H h'.objs.size (.tup ys)) { s with heap := h'.push { cls := .type "tuple", data := .seq its.toArray } } :=
      I1.laid (t' := s.toks) (fun b o e => Heap.get?_push_of_some _ e) (Nat.le_refl _) (show ObjOk X.prog X.w _ _ _ (.tup ys) from ⟨hz, its, r', IsTuN.new _ _⟩)
    exact ⟨.ref h'.objs.size, _, I2, rfl, q _ (I1.hok.fresh (Nat.le_refl _))⟩
  · obtain ⟨its, r', pl, hz⟩ := I.tuple hq
    exact call_tuple_same pl ⟨.ref p, H, I, rfl, q⟩
noncomputable def tyV (K : PySem.W.Frag) (T : String) (x : V) (H : Hp) : Prop := match x with
  | .str _ => T = "str"
  | .int _ => T = "int"
  | .ref p => (T = "list" ∧ ∃ xs, SqL K H p xs) ∨ (T = "tuple" ∧ ∃ o, K.lookup p = some o ∧ o.cls = .type "tuple" ∧ o.dict = none) ∨
      (T = "dict" ∧ ((∃ kvs, H p = some (.dK kvs)) ∨ ∃ kvs, H p = some (.dT kvs))) ∨ (T = "set" ∧ ∃ S n, H p = some (.set S n))
  | _ => False
theorem tyV_is {pins : List (Addr × Obj)} {σ : St} {H : Hp} {s : Shared} {T : String} {x : V} {v : Value} (I : Inv X pins σ H s) (r : RelV x v) (ty : tyV X.K T x H) :
    s.TypeIs v T ∧ ∀ a, v = .ref a → ∃ ob, s.heap.get? a = some ob ∧ ob.dict = none := by
  cases x with
  | str z =>
    obtain ⟨t, rfl⟩ := r
    cases (show T = "str" from ty)
    exact ⟨typeIs_str s z t, fun _ e => nomatch e⟩
  | int i =>
    obtain ⟨t, rfl⟩ := r
    cases (show T = "int" from ty)
    exact ⟨typeIs_int s i t, fun _ e => nomatch e⟩
  | ref p =>
    cases r
    rcases ty with ⟨rfl, xs, hq⟩ | ⟨rfl, o, hk, hc, hd⟩ | ⟨rfl, hk⟩ | ⟨rfl, S, n, hk⟩
    · obtain ⟨its, _, pl, _⟩ := I.list hq
      refine ⟨pl.isList.typeIs, fun a e => ?_⟩
      cases e
      obtain ⟨o, n, e, c, hd, _⟩ := pl
      exact ⟨o, e, hd⟩
    · refine ⟨⟨o, I.kIn p o hk, hc⟩, fun a e => ?_⟩
      cases e
      exact ⟨o, I.kIn _ o hk, hd⟩
    · have z : ∃ o, s.heap.get? p = some o ∧ o.ExactDict := by
        rcases hk with ⟨kvs, hk⟩ | ⟨kvs, hk⟩
        · obtain ⟨_, _, _, _, o, _, _, e, ex, _⟩ := I.hok p _ hk
          exact ⟨o, e, ex⟩
        · obtain ⟨_, _, _, _, o, _, _, e, ex, _⟩ := I.hok p _ hk
          exact ⟨o, e, ex⟩
      obtain ⟨o, e, ex⟩ := z
      refine ⟨⟨o, e, ex.1⟩, fun a e2 => ?_⟩
      cases e2
      exact ⟨o, e, ex.2.1⟩
    · obtain ⟨o, _, _, _, e, ex, _⟩ := I.hok p _ hk
      refine ⟨⟨o, e, ex.1⟩, fun a e2 => ?_⟩
      cases e2
      exact ⟨o, e, ex.2.1⟩
  | _ => exact False.elim ty
noncomputable def tBM0 (K : PySem.W.Frag) (T : String) (r : V → List V → Hp → VK → Prop) (to : TE) : TE := fun σ H Q => to σ H fun x H1 => tyV K T x H1 ∧ r x [] H1 Q
noncomputable def tBM (K : PySem.W.Frag) (T : String) (r : V → List V → Hp → VK → Prop) (to : TE) (t : TA) : TE := fun σ H Q => to σ H fun x H1 => tyV K T x H1 ∧ t σ H1 fun xs H2 => r x xs H2 Q
variable {o e : Expr} {es : List Expr} {to : TE} {t : TA} {name : Str} {apos cpos : Pos} {T id : String} {r : V → List V → Hp → VK → Prop}
theorem pe_bm0 (pa : PlainAttrs T) (slot : Slot T name id) (hty : typeOf (.builtin id) = pure (.type "method_descriptor")) (hm : MtR X id r) (ho : PE X o to)
    (hbase : attributeBase o name X.env (eval o X.env) = eval o X.env := by rfl) (hline : (apos.endLine == cpos.line) = true := by rfl) : PE X (.Call (.Attribute o name apos) [] [] cpos) (tBM0 X.K T r to) := by
  intro pins s σ H Q I h
  refine wpAny_Call_method0_late hbase hline (thn (ho pins s σ H _ I h) fun v s1 zz => ?_)
  obtain ⟨x, H1, I1, r1, ty, q1⟩ := zz
  obtain ⟨h1, h2⟩ := tyV_is I1 r1 ty
  exact ⟨T, id, pa, slot, hty, h1, h2, Calls.callWith_builtin rfl (PySem.evalArgs_none (hm pins s1 σ H1 x [] v [] Q I1 r1 .nil q1))⟩
theorem pe_bm (pa : PlainAttrs T) (slot : Slot T name id) (hty : typeOf (.builtin id) = pure (.type "method_descriptor")) (hm : MtR X id r) (ho : PE X o to) (ha : PA X (e :: es) t)
    (hbase : attributeBase o name X.env (eval o X.env) = eval o X.env := by rfl)
    (hfew : ((backTo cpos (starEach (e :: es) X.env)).all (fun x => !x.1) && (backToKw cpos (keywordEach [] X.env)).all (fun x => x.1.isSome)
      && decide ((e :: es).length + ([] : List Keyword).length + (if ([] : List Keyword).isEmpty then 0 else 1) < 30)) = true := by rfl)
    (hline : (apos.endLine == cpos.line) = true := by rfl) (hs : starEach (e :: es) X.env = (false, eval e X.env) :: starEach es X.env := by rfl) (hplain : (backTo cpos (starEach es X.env)).any (·.1) = false := by rfl) :
    PE X (.Call (.Attribute o name apos) (e :: es) [] cpos) (tBM X.K T r to t) := by
  intro pins s σ H Q I h
  refine wpAny_Call_method_late hbase hfew hline rfl (thn (ho pins s σ H _ I h) fun v s1 zz => ?_)
  obtain ⟨x, H1, I1, r1, ty, q1⟩ := zz
  obtain ⟨h1, h2⟩ := tyV_is I1 r1 ty
  refine ⟨T, id, pa, slot, hty, h1, h2, ?_⟩
  have hA := ha cpos pins s1 σ H1 _ I1 q1
  rw [hs] at hA ⊢
  refine Calls.callWith_builtin (by show (false || (backTo cpos (starEach es X.env)).any (·.1)) = false; rw [hplain] <;> rfl) (Calls.evalArgs_plain ?_)
  exact thn hA fun us s2 ⟨vs, H2, I2, r2, q2⟩ => hm pins s2 σ H2 x vs v us Q I2 r1 r2 q2
end
end L2
namespace L2
open PySem PySem.Spec PyProof.Rows
noncomputable def MtM (X : Cx) (id : String) (r : V → List V → Hp → VK → Prop) : Prop :=
  ∀ (pins : List (Addr × Obj)) (s : Shared) (σ : St) (H : Hp) (x : V) (xs : List V) (v : Value) (us : List Value) (Q : VK), Inv X pins σ H s → RelV x v → Vals xs us → r x xs H Q →
    wpAny (model X.prog X.w) X.A (call (.builtin id) (v :: us)) (EP X pins σ Q) X.xe s
theorem Vals.one : ∀ {x : V} {us : List Value}, Vals [x] us → ∃ u, us = [u] ∧ RelV x u := by
  intro x us h
  cases h with
  | cons r t => cases t; exact ⟨_, rfl, r⟩
theorem Vals.eraseIdx : ∀ {xs : List V} {us : List Value} (i : Nat), Vals xs us → Vals (xs.eraseIdx i) (us.eraseIdx i)
  | _, _, _, .nil => .nil
  | _, _, 0, .cons _ t => t
  | _, _, i + 1, .cons r t => .cons r (Vals.eraseIdx i t)
theorem Vals.rep {xs : List V} {us : List Value} (h : Vals xs us) : ∀ k : Nat, Vals (List.replicate k xs).flatten (List.replicate k us).flatten
  | 0 => .nil
  | k + 1 => by
    rw [List.replicate_succ, List.replicate_succ, List.flatten_cons, List.flatten_cons]
    exact Vals.append h (Vals.rep h k)
theorem len_erase {α : Type} : ∀ (l : List α) (i : Nat), (l.eraseIdx i).length ≤ l.length
  | [], _ => Nat.le_refl _
  | _ :: _, 0 => Nat.le_succ _
  | _ :: r, i + 1 => Nat.succ_le_succ (len_erase r i)
theorem foldl_rep (its : List Value) : ∀ (k : Nat) (acc : List Value),
    List.foldl (fun x1 x2 => x1 ++ x2) acc.toArray (List.replicate k its.toArray) = (acc ++ (List.replicate k its).flatten).toArray
  | 0, acc => by simp
  | k + 1, acc => by
    have e : acc.toArray ++ its.toArray = (acc ++ its).toArray := by simp
    have e2 : (acc ++ its) ++ (List.replicate k its).flatten = acc ++ (List.replicate (k + 1) its).flatten := by
      rw [List.replicate_succ, List.flatten_cons, List.append_assoc]
    rw [← e2, ← foldl_rep its k (acc ++ its), ← e, List.replicate_succ, List.foldl_cons]
section
variable {X : Cx} {pins : List (Addr × Obj)} {σ : St} {H : Hp} {s : Shared} {l b : Addr} {xs ys zs : List V}
theorem Inv.lset {its its' : List Value} {n : Nat} {f : Array Value → Array Value} {t' : Nat} (I : Inv X pins σ H s) (hH : H l = some (.lst xs))
    (e : s.heap.get? l = some { cls := .type "list", data := .seq its.toArray n }) (hf : f its.toArray = its'.toArray) (hv : Vals ys its') (hz : ys.length ≤ sizeLine) :
    Inv X pins σ (upd H l (.lst ys)) { s with heap := s.heap.update l (Obj.mapSeq f), toks := t' } := by
  have q := PySem.IsL.update e f
  rw [hf] at q
  refine I.write (x := l) (e := l) (by rw [hH]; exact trivial) (.inl rfl) (fun b' u hb hu => (Heap.get?_update_other s.heap (Obj.mapSeq f) (Ne.symm hb)).trans hu) ⟨_, q⟩ ?_
  exact ⟨hz, its', _, hv, q⟩
theorem Inv.lnew {its : List Value} {t' : Nat} (I : Inv X pins σ H s) (hv : Vals ys its) (hz : ys.length ≤ sizeLine) :
    Inv X pins σ (upd H s.heap.objs.size (.lst ys)) { s with heap := s.heap.push { cls := .type "list", data := .seq its.toArray }, toks := t' } :=
  I.laid (fun _ _ q => Heap.get?_push_of_some _ q) (Nat.le_refl _) ⟨hz, its, 0, hv, Heap.get?_push_size _ rfl⟩
theorem Inv.fresh (I : Inv X pins σ H s) : H s.heap.objs.size = none := I.hok.fresh (Nat.le_refl _)
theorem Inv.lstM (I : Inv X pins σ H s) (hH : H l = some (.lst xs)) : xs.length ≤ sizeLine ∧ ∃ (its : List Value) (n : Nat), Vals xs its ∧ xs.length = its.length ∧ s.heap.get? l = some { cls := .type "list", data := .seq its.toArray n } := by
  obtain ⟨z, its, n, r, e⟩ := I.hok l _ hH
  exact ⟨z, its, n, r, r.length, e⟩
theorem notLongL {n : Nat} (h : n ≤ sizeLine) : Builtin.List.listTooLong n = false := by
  unfold Builtin.List.listTooLong
  exact decide_eq_false (by omega)
end
section
variable {X : Cx}
noncomputable def rAppend : V → List V → Hp → VK → Prop := fun x vs H Q => ∃ l xs y, x = .ref l ∧ vs = [y] ∧ H l = some (.lst xs) ∧ xs.length < sizeLine ∧ Q .non (upd H l (.lst (xs ++ [y])))
theorem mt_append : MtM X "list.append" rAppend := by
  intro pins s σ H x vs v us Q I rx rv h
  obtain ⟨l, xs, y, rfl, rfl, hH, hz, q⟩ := h
  cases rx
  obtain ⟨u, rfl, ru⟩ := rv.one
  obtain ⟨z, its, n, r, hl, e⟩ := I.lstM hH
  refine call_meets F.slot_list_append ⟨_, e, rfl⟩ F.entry_list_append (F.args_list_append_2 _ _) (PySem.list_append l its.toArray n u (by rw [List.size_toArray]; omega)) ⟨e, ?_⟩
  refine ⟨.non, _, I.lset (its' := its ++ [u]) hH e (by simp) (r.append (.cons ru .nil)) ?_, rfl, q⟩
  rw [List.length_append, List.length_singleton]
  omega
noncomputable def rPopAt : V → List V → Hp → VK → Prop := fun x vs H Q => ∃ l xs i k y, x = .ref l ∧ vs = [.int i] ∧ H l = some (.lst xs) ∧ -(2 ^ 63) ≤ i ∧ i < 2 ^ 63 ∧ seqIndex? i xs.length = some k ∧ xs[k]? = some y ∧ Q y (upd H l (.lst (xs.eraseIdx k)))
theorem mt_popAt : MtM X "list.pop" rPopAt := by
  intro pins s σ H x vs v us Q I rx rv h
  obtain ⟨l, xs, i, k, y, rfl, rfl, hH, h1, h2, hk, hy, q⟩ := h
  cases rx
  obtain ⟨u, rfl, ru⟩ := rv.one
  obtain ⟨t, rfl⟩ := ru
  obtain ⟨z, its, n, r, hl, e⟩ := I.lstM hH
  obtain ⟨w, hw, rw'⟩ := r.get hy
  refine call_meets F.slot_list_pop ⟨_, e, rfl⟩ F.entry_list_pop (F.args_list_pop_2 _ _)
    (MeetsSeq.list_pop_at l its.toArray n i t k w (fitsIndex_both h1 h2) (by rw [List.size_toArray, ← hl]; exact hk) (by rw [← Array.getElem?_toList]; exact hw) (by rw [List.size_toArray]; omega)) ⟨e, ?_⟩
  refine ⟨y, _, I.lset (its' := its.eraseIdx k) hH e ?_ (r.eraseIdx k) ?_, rw', q⟩
  · show its.toArray.eraseIdxIfInBounds k = (its.eraseIdx k).toArray
    rw [List.eraseIdxIfInBounds_toArray]
  · have := len_erase xs k
    omega
noncomputable def rCat : R2 := fun x y H Q => ∃ l b xs zs, x = .ref l ∧ y = .ref b ∧ H l = some (.lst xs) ∧ H b = some (.lst zs) ∧ xs.length + zs.length ≤ sizeLine ∧ ∀ p, H p = none → Q (.ref p) (upd H p (.lst (xs ++ zs)))
theorem op_cat : OpR X (binaryOp .Add) rCat := by
  intro pins s σ H x y v u Q I rx ry h
  obtain ⟨l, b, xs, zs, rfl, rfl, hH, hB, hz, q⟩ := h
  cases rx
  cases ry
  obtain ⟨z, its, n, r, hl, e⟩ := I.lstM hH
  obtain ⟨z2, its2, n2, r2, hl2, e2⟩ := I.lstM hB
  refine PySem.P.add_list e e2 ?_ (by rw [List.size_toArray, List.size_toArray]; omega)
  have ea : its.toArray ++ its2.toArray = (its ++ its2).toArray := by simp
  rw [ea]
  exact ⟨.ref _, _, I.lnew (t' := s.toks) (r.append r2) (by rw [List.length_append]; omega), rfl, q _ I.fresh⟩
noncomputable def rRep : R2 := fun x y H Q => ∃ l k xs, x = .ref l ∧ y = .int k ∧ H l = some (.lst xs) ∧ -(2 ^ 63) ≤ k ∧ k < 2 ^ 63 ∧ xs.length * k.toNat ≤ sizeLine ∧
  ∀ p, H p = none → Q (.ref p) (upd H p (.lst (List.replicate k.toNat xs).flatten))
theorem len_rep {α : Type} (xs : List α) (k : Nat) : (List.replicate k xs).flatten.length = k * xs.length := by
  induction k with
  | zero => simp
  | succ k ih => rw [List.replicate_succ, List.flatten_cons, List.length_append, ih, Nat.succ_mul, Nat.add_comm]
theorem op_rep : OpR X (binaryOp .Mult) rRep := by
  intro pins s σ H x y v u Q I rx ry h
  obtain ⟨l, k, xs, rfl, rfl, hH, h1, h2, hz, q⟩ := h
  cases rx
  obtain ⟨t, rfl⟩ := ry
  obtain ⟨z, its, n, r, hl, e⟩ := I.lstM hH
  have hlen : its.toArray.size * k.toNat ≤ sizeLine := by rw [List.size_toArray, ← hl]; exact hz
  have hcap : ¬ its.toArray.size * k.toNat > (2 ^ 63 - 1) / 8 := by
    have : (sizeLine : Nat) ≤ (2 ^ 63 - 1) / 8 := by decide
    omega
  have hfit : ¬ (!Builtin.List.listFitsIndex k) = true := by
    rw [fitsIndex_both h1 h2]
    exact Bool.false_ne_true
  have hlong : ¬ Builtin.List.listTooLong (its.toArray.size * k.toNat) = true := by
    rw [notLongL hlen]
    exact Bool.false_ne_true
  have hnew : List.foldl (fun x1 x2 => x1 ++ x2) #[] (List.replicate (if its.toArray.isEmpty = true then 0 else k.toNat) its.toArray) = (List.replicate k.toNat its).flatten.toArray := by
    have f0 : ∀ m : Nat, List.foldl (fun x1 x2 => x1 ++ x2) #[] (List.replicate m its.toArray) = (List.replicate m its).flatten.toArray := fun m => by
      have := foldl_rep its m []
      rw [List.nil_append] at this
      exact this
    rw [f0]
    cases its with
    | nil => simp
    | cons a r' => rw [if_neg (by simp)]
  refine wpAny_binaryOp_repeat_ref (T := "list") (U := "int") (by decide) ⟨_, e, rfl⟩ (fun s' => typeIs_int s' k t) noFill_list_mul F.fills_int_mul F.slot_int_rmul repeat_list F.slot_int_index.lookup
    (call_meets F.slot_int_rmul (typeIs_int s k t) F.entry_int_rmul (F.args_int_rmul_2 _ _) (int___rmul___int_list k t l its.toArray n)
      ⟨e, rfl, ⟨_, e, rfl⟩, call_meets F.slot_list_mul ⟨_, e, rfl⟩ F.entry_list_mul (F.args_list_mul_2 _ _) (AutoListH.list___mul___list_int_3 l its.toArray n k t hfit hcap hlong) ⟨e, ?_⟩⟩)
  rw [hnew]
  exact ⟨.ref _, _, I.lnew (t' := s.toks) (r.rep k.toNat) (by rw [len_rep, Nat.mul_comm]; exact hz), rfl, q _ I.fresh⟩
end
section
variable {prog : Program} {w : World} {A : Around} {E : Value → Shared → Prop} {s : Shared}
set_option maxRecDepth 100000 in
end
section
variable {X : Cx}
end
end L2
namespace Att
open PySem PySem.W PySem.Calls PyProof.Rows
theorem ints_of_wellAll {P : Params} {h : Heap} : ∀ (ns : List Int) (vs : List Value), WellAll P h vs (ns.map WData.int) → IntsAre vs ns := by
  intro ns
  induction ns with
  | nil =>
    intro vs w
    rw [List.map_nil] at w
    cases w
    exact .nil
  | cons n ns ih =>
    intro vs w
    rw [List.map_cons] at w
    cases w with
    | cons a b =>
      cases a
      exact .cons _ _ (ih _ b)
theorem script_of {l : OpenLaw} {n : Nat} (hn : l.most = some n) {P : Params} {h : Heap} {args : List WData} {vals : List Value}
    (hpre : l.row.toRowW.claim.pre args = true) (hwl : WellAll P h vals args) :
    ∃ a vs ns, vals = [Value.ref a] ∧ args = [WData.list (ns.map WData.int)] ∧ h.get? a = some { cls := .type "list", data := .seq vs.toArray } ∧ IntsAre vs ns ∧ ns.length ≤ n := by
  have hsh : WShape.hasAll [] args [.list .int] = true := (pre_splitW hpre).1
  have hc : l.pre.holds [] { args := args } = true := (pre_splitW hpre).2
  obtain ⟨d, r, rfl, h1, h2⟩ := hasAllW_cons hsh
  obtain rfl := hasAllW_nil h2
  obtain ⟨xs, rfl, h3⟩ := hasW_list h1
  obtain ⟨ns, rfl⟩ := items_int h3
  have hlen : ns.length ≤ n := by
    unfold OpenLaw.pre at hc
    have h4 : (WTm.not (.lt (.lit (.int (n : Int))) (.len (.arg 0)))).holds [] { args := [.list (ns.map .int)] } = true := by
      have h4 := (holds_andW hc).1
      rw [hn] at h4
      exact h4
    have h5 := condW_of h4 (w_not (w_lt w_lit (w_len_list (w_arg rfl))))
    rw [List.length_map] at h5
    refine Nat.le_of_not_lt fun q => ?_
    have q' : (n : Int) < ((ns.length : Nat) : Int) := by omega
    first
      | (rw [decide_eq_true q'] at h5; exact absurd h5 (by decide))
      | (simp at h5; omega)
  cases hwl with
  | cons w1 w2 =>
    cases w2
    cases w1 with
    | list ho hall => exact ⟨_, _, ns, rfl, rfl, ho, ints_of_wellAll ns _ hall, hlen⟩
theorem post_true (l : OpenLaw) (args : List WData) : l.row.toRowW.claim.post args (.bool true) args = true :=
  postW_of (r := l.row.toRowW) (X := (true == true))
    (show WShape.has [] (.bool true) .bool = true by first | rfl | decide | simp [WShape.has, WShape.arms, WShape.armsAll])
    (show (WTm.eq .res (.lit (.bool true))).value [] { args := args, res := some (.bool true), after := args } = some (.bool (true == true)) from w_eq_bool (w_res rfl) w_lit) rfl
theorem attach_call {l : OpenLaw} {n : Nat} {q : Program} {loose : List Str} {XP : (Str → Option Value) → Heap → Prop} {YP : World → Heap → Prop} {d : DefRec}
    (hn : l.most = some n) (hdf : d.params.defaults = [])
    (call : ∀ (w : World) (s₀ s₁ : Shared) (mg mb : Str → Option Value) (fa : Addr) (o : Obj) (pm cd doc : Value) (a : Addr) (vs : List Value) (ns : List Int),
      Ground q loose [] XP w s₀ mg mb s₁.heap → YP w s₁.heap →
      s₁.heap.get? fa = some o → o.data = .func (docDef d.name d.params d.body d.scope pm cd doc) → s₁.heap.CodeRec cd d.name → mg d.name = some (.ref fa) →
      s₁.heap.get? a = some { cls := .type "list", data := .seq vs.toArray } → IntsAre vs ns → ns.length ≤ n → s₁.gens = #[] →
      codeAny (model l.prog w) callerA (.call (.ref fa) ⟨[.ref a], []⟩) (fun r s' => r = .ok (.ret (.bool true)) ∧ OldK s₁.heap s'.heap ∧ s'.os = s₁.os ∧ AllBare s'.gens) s₁) :
    WalkO q loose XP YP l.row.toRowW d [] (fun f vs => PySem.call f vs) := by
  intro w s₀ s₁ mg mb G Y fa o pm cd doc dV kV ho hd hcd hD hmg hg args vals as hpre hlay hrd hwl hlo
  obtain rfl : dV = .none := Dflts.none hD hdf
  obtain rfl : kV = .none := Dflts.noKw hD
  obtain ⟨a, vs, ns, rfl, rfl, hobj, hints, hlen⟩ := script_of hn hpre hwl
  refine enter_call (codeAny_mono (call w s₀ s₁ mg mb fa o pm cd doc a vs ns G Y ho (fd_plain hd) hcd hmg hobj hints hlen hg) fun r s' hq => ?_)
  obtain ⟨rfl, h2, h3, h4⟩ := hq
  exact ⟨.inl ⟨.bool true, .bool true, [], rfl, fun _ => rfl, .bool true, post_true l _, fun _ => ⟨List.Pairwise.nil, fun _ hm => (nomatch hm)⟩⟩, h2, h3, h4⟩
section
variable {prog : Program} {w : World} {A : Around} {E : Value → Shared → Prop} {s : Shared} {K : Frag}
end
end Att
namespace L2
open PySem PySem.Spec PyProof.Rows
theorem vals_ints : ∀ {vs : List Value} {ns : List Int}, IntsAre vs ns → Vals (ns.map V.int) vs
  | _, _, .nil => .nil
  | _, _, .cons n t h => .cons ⟨t, rfl⟩ (vals_ints h)
noncomputable def Only (H : Hp) : Prop := ∀ b, H b = none ∨ ∃ o xs, H b = some (.frz o (.lst xs))
theorem law_call {P : Program} {w : World} {K : PySem.W.Frag} {mg mb : Str → Option Value} {CX : CXT} {k : Nat} {fa a : Addr} {fd : FuncData} {x : Str} {sp : Sp} {s₁ : Shared} {vs : List Value} {ns : List Int}
    (KX : K.In s₁.heap) (hns : s₁.heap.Ns mainGlobals mg) (hb : s₁.heap.Ns builtinsNs mb) (hbb : ∀ x : Str, x ≠ "__name__" → mb x = bootBuiltins x) (hlim : s₁.heap.NoLimit) (hg : s₁.gens = #[])
    (ha : s₁.heap.get? a = some { cls := .type "list", data := .seq vs.toArray }) (hi : IntsAre vs ns) (hl : ns.length ≤ sizeLine) (hr : Room k callerA)
    (F : ∀ base : Heap, K.In base → base.Ns mainGlobals mg → FnOk P w K mg base CX k fa fd [x] sp) (hbind : ∀ (s : Shared) (u : Value), BindsTo s fd ⟨[u], []⟩ [(x, u)])
    (hsp : ∀ H : Hp, Only H → SqL K H a (ns.map V.int) → sp [.ref a] H (fun v _ => v = .bl true) fun _ _ _ => False)
    (hCX : ∀ H e s', CX [] H s₁ (fun _ _ _ => False) e s' → False) :
    codeAny (model P w) callerA (.call (.ref fa) ⟨[.ref a], []⟩) (fun r s' => r = .ok (.ret (.bool true)) ∧ OldK s₁.heap s'.heap ∧ s'.os = s₁.os ∧ AllBare s'.gens) s₁ := by
  have rv := vals_ints hi
  have lenV := hi.length
  -- from an abstract heap in which nothing but the script may be tracked
  have core : ∀ H : Hp, Only H → SqL K H a (ns.map V.int) → HOk P w H s₁.heap → (∀ b, H b ≠ none → b = a) → (H a ≠ none → K.lookup a = none) →
      codeAny (model P w) callerA (.call (.ref fa) ⟨[.ref a], []⟩) (fun r s' => r = .ok (.ret (.bool true)) ∧ OldK s₁.heap s'.heap ∧ s'.os = s₁.os ∧ AllBare s'.gens) s₁ := by
    intro H hO hS hok hA hK
    have base_of : ∀ {b : Addr} {o : Obj}, s₁.heap.get? b = some o → H b = none → (hidT s₁.heap H).get? b = some o := fun e n => hidT_get e n
    have noA : ∀ {b : Addr} {o : Obj} {es : Array DictEntry} {ep : Nat}, s₁.heap.get? b = some o → o.data = .dict es ep → H b = none := fun {b o es ep} e d => by
      cases q : H b with
      | none => rfl
      | some u =>
        have e' : b = a := hA b (by rw [q]; simp)
        subst e'
        rw [ha] at e; cases e
        have d' : Data.seq vs.toArray _ = Data.dict es ep := d
        cases d'
    have nsK : ∀ {b : Addr} {m : Str → Option Value}, s₁.heap.Ns b m → (hidT s₁.heap H).Ns b m := fun {b m} ⟨o, es, ep, e, d, r⟩ => ⟨o, es, ep, base_of e (noA e d), d, r⟩
    have hKb : K.In (hidT s₁.heap H) := fun b o e => base_of (KX b o e) (by
      cases q : H b with
      | none => rfl
      | some u =>
        have e' : b = a := hA b (by rw [q]; simp)
        subst e'
        rw [hK (by rw [q]; simp)] at e; cases e)
    have hM : Mod K mg (hidT s₁.heap H) := ⟨hKb, nsK hns, ⟨mb, nsK hb, hbb⟩, let ⟨mc, h1, h2⟩ := hlim; ⟨mc, nsK h1, h2⟩⟩
    have e0 : Env0 P w K mg (hidT s₁.heap H) callerA [] s₁ H := ⟨rfl, hM, fun b o e => of_hidT e, Nat.le_of_eq (hidT_size _ _), trivial, fun b hb => absurd (show b ∈ ([] : List Addr) from hb) (by simp), hok, .of_eq hg⟩
    refine codeAny_mono ((F _ hKb (nsK hns)).run callerA [] s₁ H ⟨[.ref a], []⟩ [.ref a] [.ref a] _ _ hr e0 (hbind s₁ (.ref a)) (.cons rfl .nil) (hsp H hO hS)) fun r s' h => ?_
    cases r with
    | error e => exact (hCX H e s' h).elim
    | ok fl =>
      cases fl with
      | next => exact False.elim h
      | brk => exact False.elim h
      | cont => exact False.elim h
      | ret u =>
        obtain ⟨v, H', os, bare, un, hok', r', q⟩ := h
        have q' : v = .bl true := q
        subst q'
        obtain rfl : u = Value.bool true := r'
        refine ⟨rfl, OldK.of_keep fun b o e => ?_, os, bare⟩
        cases q : H b with
        | none => exact un.keep b o e q (by intro z; exact absurd (show b ∈ ([] : List Addr) from z) (by simp)) (by simp)
        | some u =>
          rcases hO b with z | ⟨ob, xs, z⟩
          · rw [q] at z; cases z
          · have z2 := un.frzs b ob _ z
            obtain ⟨e1, _⟩ := hok b _ z
            obtain ⟨e2, _⟩ := hok' b _ z2
            rw [e] at e1; cases e1
            exact e2
  cases hk : K.lookup a with
  | some o =>
    -- the script is one of the module's own objects
    have e := KX a o hk
    rw [ha] at e
    cases e
    refine core (fun _ => none) (fun _ => .inl rfl) (.inr ⟨_, vs.toArray, _, hk, rfl, rfl, rfl, by rw [List.size_toArray, lenV]; exact hl, by simpa using rv⟩) (fun b u z => by have z' : (none : Option HO) = some u := z; cases z') (fun b z => absurd rfl z) fun z => absurd rfl z
  | none =>
    refine core (fun b => if b = a then some (.frz { cls := .type "list", data := .seq vs.toArray } (.lst (ns.map V.int))) else none) (fun b => ?_) (.inl (.inr ⟨{ cls := .type "list", data := .seq vs.toArray }, if_pos rfl⟩)) (fun b u z => ?_) (fun b z => ?_) fun _ => hk
    · by_cases hb : b = a
      · exact .inr ⟨_, _, if_pos hb⟩
      · exact .inl (if_neg hb)
    · by_cases hb : b = a
      · have z' := (if_pos hb).symm.trans z
        cases z'
        subst hb
        exact ⟨ha, by rw [List.length_map]; exact hl, vs, _, rv, ha⟩
      · have z' := (if_neg hb).symm.trans z
        cases z'
    · by_cases hb : b = a
      · exact hb
      · exact absurd (if_neg hb) z
end L2
namespace L2
open PySem PySem.Spec PyProof.Rows
noncomputable abbrev KOf {K : PySem.W.Frag} {h : Heap} (_ : K.In h) : PySem.W.Frag := K
theorem walk_of {l : PySem.W.OpenLaw} {n k : Nat} {q : Program} {loose : List Str} {XP : (Str → Option Value) → Heap → Prop} {YP : World → Heap → Prop} {d : DefRec} {K : Params → PySem.W.Frag} {CX : World → CXT} {sp : World → Sp} {x : Str}
    (hn : l.most = some n) (hn2 : n ≤ sizeLine) (hdf : d.params.defaults = []) (hr : Room k callerA)
    (hY : ∀ (w : World) (h : Heap), YP w h → (K w.params).In h)
    (F : ∀ (w : World) (mg : Str → Option Value) (fa : Addr) (h : Heap), (K w.params).In h → h.Ns mainGlobals mg → mg d.name = some (.ref fa) →
      ∃ fd : FuncData, (∀ (s : Shared) (u : Value), BindsTo s fd ⟨[u], []⟩ [(x, u)]) ∧
        ∀ base : Heap, (K w.params).In base → base.Ns mainGlobals mg → FnOk l.prog w (K w.params) mg base (CX w) k fa fd [x] (sp w))
    (hsp : ∀ (w : World) (H : Hp) (a : Addr) (ns : List Int), ns.length ≤ n → Only H → SqL (K w.params) H a (ns.map V.int) → sp w [.ref a] H (fun v _ => v = .bl true) fun _ _ _ => False)
    (hCX : ∀ (w : World) (H : Hp) (s : Shared) (e : Value) (s' : Shared), CX w [] H s (fun _ _ _ => False) e s' → False) :
    PySem.W.WalkO q loose XP YP l.row.toRowW d [] (fun f vs => PySem.call f vs) := by
  refine Att.attach_call hn hdf fun w s₀ s₁ mg mb fa o pm cd doc a vs ns G Y ho hd hcd hmg hobj hints hlen hg => ?_
  have KX := hY w _ Y
  obtain ⟨fd, hb, hF⟩ := F w mg fa _ KX G.T.g hmg
  exact law_call KX G.T.g G.T.b G.T.builtins G.T.nolimit hg hobj hints (Nat.le_trans hlen hn2) hr hF hb (fun H hO hS => hsp w H a ns hlen hO hS) fun H e s' => hCX w H s₁ e s'
theorem walk_ofK {l : PySem.W.OpenLaw} {n k : Nat} {q : Program} {loose : List Str} {XP : (Str → Option Value) → Heap → Prop} {YP : World → Heap → Prop} {d : DefRec} {K : Params → PySem.W.Frag} {CX : CXT} {sp : PySem.W.Frag → Sp} {x : Str}
    (hn : l.most = some n) (hn2 : n ≤ sizeLine) (hdf : d.params.defaults = []) (hr : Room k callerA)
    (hY : ∀ (w : World) (h : Heap), YP w h → (K w.params).In h)
    (F : ∀ (w : World) (mg : Str → Option Value) (fa : Addr) (h : Heap), (K w.params).In h → h.Ns mainGlobals mg → mg d.name = some (.ref fa) →
      ∃ fd : FuncData, (∀ (s : Shared) (u : Value), BindsTo s fd ⟨[u], []⟩ [(x, u)]) ∧
        ∀ base : Heap, (K w.params).In base → base.Ns mainGlobals mg → FnOk l.prog w (K w.params) mg base CX k fa fd [x] (sp (K w.params)))
    (hsp : ∀ (K : PySem.W.Frag) (H : Hp) (a : Addr) (ns : List Int), ns.length ≤ n → Only H → SqL K H a (ns.map V.int) → sp K [.ref a] H (fun v _ => v = .bl true) fun _ _ _ => False)
    (hCX : ∀ (H : Hp) (s : Shared) (e : Value) (s' : Shared), CX [] H s (fun _ _ _ => False) e s' → False) :
    PySem.W.WalkO q loose XP YP l.row.toRowW d [] (fun f vs => PySem.call f vs) :=
  walk_of (K := K) (CX := fun _ => CX) (sp := fun w => sp (K w.params)) hn hn2 hdf hr hY F (fun w H a ns h1 h2 h3 => hsp (K w.params) H a ns h1 h2 h3) fun _ H s e s' => hCX H s e s'
end L2
namespace L2
open PySem PySem.Spec PyProof.Rows
noncomputable def defArgs (s : Stmt) : Arguments := match s with
  | .FunctionDef _ a _ _ _ _ _ _ _ _ => a
  | _ => { posonlyargs := [], args := [], vararg := none, kwonlyargs := [], kw_defaults := [], kwarg := none, defaults := [] }
noncomputable def defBody (s : Stmt) : List Stmt := match s with
  | .FunctionDef _ _ b _ _ _ _ _ _ _ => b
  | _ => []
noncomputable def defScope (s : Stmt) : Scope := match s with
  | .FunctionDef _ _ _ _ _ _ sc _ _ _ => sc
  | _ => { kind := .function, names := [], isGenerator := false, isCoroutine := false }
noncomputable abbrev CX0 : CXT := fun _ _ _ _ _ _ => False
noncomputable abbrev E0 : XK := fun _ _ _ => False
theorem pass0 {X : Cx} : Passes CX0 X E0 := fun _ _ _ _ _ _ _ h => h.elim
structure Fun (K : PySem.W.Frag) (x qual : Str) (st : Stmt) (f : Addr) (fd : FuncData) : Prop where
  ex : ∃ (oc : Value) (od : Option Addr) (kV doc pm : Value) (an : Option Addr) (cdv ct : Value) (osl : Array (Option Value)),
    fd = PySem.W.fnOf x qual (defArgs st) (defBody st) (defScope st) .none kV doc pm an cdv ct ∧ K.lookup f = some ⟨oc, od, .func fd, osl⟩ ∧ PySem.W.codeIn K cdv qual = true
  kp : PySem.W.keepIn K (.ref f) = true
section
variable {P : Program} {w : World} {K : PySem.W.Frag} {mg : Str → Option Value} {base : Heap}
theorem Fun.ok {x qual : Str} {st : Stmt} {f : Addr} {fd : FuncData} {N ps : List Str} {k : Nat} {sp : Sp} (F : Fun K x qual st f fd) (S : FnScope N ps (defScope st)) (len : ∀ vs H Q E, sp vs H Q E → vs.length = ps.length)
    (hbody : ∀ (cdv : Value) (A : Around) (outer : List Env) (s : Shared) (H : Hp) (vs : List V) (Q : VK) (E : XK), Room k (A.deeper (envOfC qual (defScope st) s.heap.objs.size f cdv)) → sp vs H Q E →
      ∃ t, PSs (cxOf CX0 P w K mg base N qual (defScope st) f cdv A outer s H E).nox (defBody st) t ∧ t { nx := fun _ H' => Q .non H', rt := Q } (start N vs) H) : FnOk P w K mg base CX0 (k + 1) f fd ps sp := by
  obtain ⟨oc, od, kV, doc, pm, an, cdv, ct, osl, rfl, lk, hcd⟩ := F.ex
  refine fn_of lk hcd S len fun A outer s H vs Q E hr hsp => ?_
  obtain ⟨t, h, q⟩ := hbody cdv A outer s H vs Q E hr hsp
  exact ⟨t, h.nox, q⟩
theorem Fun.binds {x qual : Str} {st : Stmt} {f : Addr} {fd : FuncData} {ps : List Str} (F : Fun K x qual st f fd)
    (h : ∀ (kV doc pm : Value) (an : Option Addr) (cdv ct : Value) (us : List Value), us.length = ps.length → bindArgs (PySem.W.fnOf x qual (defArgs st) (defBody st) (defScope st) .none kV doc pm an cdv ct) ⟨us, []⟩ = pure (ps.zip us)) : Binds K fd ps [] := by
  obtain ⟨oc, od, kV, doc, pm, an, cdv, ct, osl, rfl, lk, hcd⟩ := F.ex
  exact .all (h kV doc pm an cdv ct)
theorem fun_mk {x qual : Str} {st : Stmt} {f : Addr} {oc : Value} {od an : Option Addr} {osl : Array (Option Value)} {kV doc pm cdv ct : Value} (l : K.lookup f = some ⟨oc, od, .func (PySem.W.fnOf x qual (defArgs st) (defBody st) (defScope st) .none kV doc pm an cdv ct), osl⟩)
    (c : PySem.W.codeIn K cdv qual = true) (k : PySem.W.keepIn K (.ref f) = true) : Fun K x qual st f (PySem.W.fnOf x qual (defArgs st) (defBody st) (defScope st) .none kV doc pm an cdv ct) := ⟨⟨oc, od, kV, doc, pm, an, cdv, ct, osl, rfl, l, c⟩, k⟩
end
section
variable {X : Cx}
theorem pv (i : Nat) {x : Str} {pos : Pos} (hN : X.N[i]? = some x := by rfl) (hv : Vis X.env.scope x := by first | exact Or.inl rfl | exact Or.inr (Or.inl rfl) | exact Or.inr (Or.inr rfl)) (hd : (x == ("__debug__" : Str)) = false := by decide)
    (hcd : (x == ("__classdict__" : Str)) = false := by decide) : PE X (.Name x pos) (tVar i) := pe_var hN hv hd hcd
end
end L2
set_option maxHeartbeats 4000000
set_option autoImplicit false
namespace DL
open PySem PySem.Spec PyProof.Rows L2
noncomputable def numOf : Value → Option Int
  | .int i _ => some i
  | .bool b => some (if b then 1 else 0)
  | _ => none
noncomputable def numIs (k : Int) (v : Value) : Bool := numOf v == some k
theorem numIs_shape {k : Int} {v : Value} (h : numIs k v = true) : (∃ t, v = .int k t) ∨ ∃ b, v = .bool b ∧ k = (if b then 1 else 0) := by
  have h : numOf v = some k := eq_of_beq h
  cases v with
  | int i t => exact .inl ⟨t, by cases h; rfl⟩
  | bool b => exact .inr ⟨b, rfl, (Option.some.inj h).symm⟩
  | _ => cases h
section
variable {prog : Program} {w : World} {A : Around} {E : Value → Shared → Prop} {s : Shared}
theorem pyHash_bool {b : Bool} {Q : Int → Shared → Prop} (h : Q (hashInt (if b then 1 else 0)) { s with toks := s.toks + 1 }) : wpAny (model prog w) A (pyHash (.bool b)) Q E s := by
  have hr := rawHash_range (if b then 1 else 0)
  have tb : s.TypeIs (.bool b) "bool" := rfl
  unfold pyHash
  have hv : [Value.bool b].any Value.onHeap = false := rfl
  refine wpAny_bind ?_
  rw [cRoomFor, if_neg (by rw [hv]; exact Bool.false_ne_true)]; refine wpAny_pure ?_
  refine wpAny_bind (wpAny_specialOf tb F.slot_bool_hash.lookup ?_)
  show wpAny _ _ (if (some (Value.builtin "int.__hash__") == some Value.none) = true then _ else _) Q E s
  rw [if_neg (by rw [beq_builtin_none]; exact Bool.false_ne_true)]
  refine wpAny_bind (wpAny_specialOf tb F.slot_bool_hash.lookup ?_)
  show wpAny _ _ (callSpecialIfBoundUnlessNone? (.bool b) "__hash__" _ >>= _) Q E s
  refine wpAny_bind (wpAny_callSpecialIfBoundUnlessNone?_slot tb F.slot_bool_hash
    (wpAny_call_entry F.slot_bool_hash tb entry_int_hash
      (show wpAny _ _ (do ret (← mkInt (rawHash (if b then 1 else 0)))) _ _ s from wpAny_ret_mkInt ?_) (args_int_hash _)))
  show wpAny _ _ (if (decide (-(2 : Int) ^ 63 ≤ rawHash (if b then 1 else 0)) && decide (rawHash (if b then 1 else 0) < 2 ^ 63)) = true then _ else _) Q E _
  rw [if_pos (by rw [decide_eq_true hr.1, decide_eq_true hr.2]; rfl)]
  exact wpAny_pure h
end
noncomputable def numKind (prog : Program) (w : World) : KeyKind prog w Int where
  is := numIs
  hash := hashInt
  inj := fun v a b ha hb => by
    unfold numIs at ha hb
    have := (eq_of_beq ha).symm.trans (eq_of_beq hb)
    exact Option.some.inj this
  byValue := fun k v h => by rcases numIs_shape h with ⟨t, rfl⟩ | ⟨b, rfl, _⟩ <;> rfl
  pyHash := fun hv h => by
    rcases numIs_shape hv with ⟨t, rfl⟩ | ⟨b, rfl, rfl⟩
    · exact wpAny_pyHash_int h
    · exact pyHash_bool h
  eqBool := fun {A E s a b u v Q} hu hv h => by
    rcases numIs_shape hu with ⟨t, rfl⟩ | ⟨c, rfl, rfl⟩ <;> rcases numIs_shape hv with ⟨t', rfl⟩ | ⟨c', rfl, rfl⟩
    · exact wpAny_eqBool_int h
    · exact PySem.SeqAt.EqAt.int_bool _ _ _ prog w E Q h
    · exact PySem.SeqAt.EqAt.bool_int _ _ _ prog w E Q h
    · refine PySem.SeqAt.EqAt.bool_bool _ _ prog w E Q ?_
      have e : (c == c') = decide ((if c then (1 : Int) else 0) = (if c' then 1 else 0)) := by cases c <;> cases c' <;> rfl
      rw [e]; exact h
  «strs» := fun k x t v h => by simp [numIs, numOf] at h
end DL
namespace DL
open PySem PySem.Spec PyProof.Rows L2
inductive D where
  | non | bl (b : Bool) | int (i : Int) | str (x : Str) | ty (n : String) | tup (xs : List D) | fl (xs : List D) | ref (n : Nat)
inductive DO where
  | lst (xs : List D) | dic (kvs : List (D × D)) (fz : Bool) | dci (kvs : List (Int × D))
noncomputable abbrev HD := List DO
noncomputable abbrev SD := List (Option D)
noncomputable def FzL (K : PySem.W.Frag) (H : Hp) (a : Addr) (xs : List V) : Prop :=
  (∃ o, H a = some (.frz o (.lst xs))) ∨
    ∃ (o : Obj) (its : Array Value) (n : Nat), K.lookup a = some o ∧ o.cls = .type "list" ∧ o.dict = none ∧ o.data = .seq its n ∧ its.size ≤ sizeLine ∧ Vals xs its.toList
theorem FzL.sq {K : PySem.W.Frag} {H : Hp} {a : Addr} {xs : List V} (h : FzL K H a xs) : SqL K H a xs := by
  rcases h with h | h
  · exact .inl (.inr h)
  · exact .inr h
mutual
noncomputable def Rep (K : PySem.W.Frag) (H : Hp) (ι : List Addr) : D → V → Prop
  | .non, v => v = .non
  | .bl b, v => v = .bl b
  | .int i, v => v = .int i
  | .str x, v => v = .str x
  | .ty n, v => v = .ty n
  | .tup ds, v => ∃ a vs, v = .ref a ∧ SqT K H a vs ∧ RepL K H ι ds vs
  | .fl ds, v => ∃ a vs, v = .ref a ∧ FzL K H a vs ∧ RepL K H ι ds vs
  | .ref n, v => ∃ a, v = .ref a ∧ ι[n]? = some a
noncomputable def RepL (K : PySem.W.Frag) (H : Hp) (ι : List Addr) : List D → List V → Prop
  | [], vs => vs = []
  | d :: ds, vs => ∃ v r, vs = v :: r ∧ Rep K H ι d v ∧ RepL K H ι ds r
end
section
variable {α β : Type} {F G : α → β → Prop}
theorem Prd.len : ∀ {xs : List α} {us : List β}, Paired F xs us → xs.length = us.length
  | _, _, .nil => rfl
  | _, _, .cons _ t => by simp [Prd.len t]
theorem Prd.get : ∀ {xs : List α} {us : List β} {i : Nat} {x : α}, Paired F xs us → xs[i]? = some x → ∃ u, us[i]? = some u ∧ F x u
  | _, _, _, _, .nil, e => by simp at e
  | _, _, 0, _, .cons r _, e => by simp at e; subst e; exact ⟨_, rfl, r⟩
  | _, _, i + 1, x, .cons _ t, e => by
    obtain ⟨u, h1, h2⟩ := Prd.get (i := i) (x := x) t (by simpa using e)
    exact ⟨u, by simpa using h1, h2⟩
theorem Prd.set {x : α} {u : β} (r : F x u) : ∀ {xs : List α} {us : List β} (i : Nat), Paired F xs us → Paired F (xs.set i x) (us.set i u)
  | _, _, _, .nil => .nil
  | _, _, 0, .cons _ t => .cons r t
  | _, _, i + 1, .cons q t => .cons q (Prd.set r i t)
theorem Prd.append : ∀ {xs ys : List α} {us ws : List β}, Paired F xs us → Paired F ys ws → Paired F (xs ++ ys) (us ++ ws)
  | _, _, _, _, .nil, s => s
  | _, _, _, _, .cons r t, s => .cons r (Prd.append t s)
theorem Prd.take : ∀ {xs : List α} {us : List β} (n : Nat), Paired F xs us → Paired F (xs.take n) (us.take n)
  | _, _, 0, _ => .nil
  | _, _, _ + 1, .nil => .nil
  | _, _, n + 1, .cons r t => .cons r (Prd.take n t)
theorem Prd.drop : ∀ {xs : List α} {us : List β} (n : Nat), Paired F xs us → Paired F (xs.drop n) (us.drop n)
  | _, _, 0, r => r
  | _, _, _ + 1, .nil => .nil
  | _, _, n + 1, .cons _ t => Prd.drop n t
theorem Prd.eraseIdx : ∀ {xs : List α} {us : List β} (i : Nat), Paired F xs us → Paired F (xs.eraseIdx i) (us.eraseIdx i)
  | _, _, _, .nil => .nil
  | _, _, 0, .cons _ t => t
  | _, _, i + 1, .cons r t => .cons r (Prd.eraseIdx i t)
theorem Prd.rep {xs : List α} {us : List β} (h : Paired F xs us) : ∀ k : Nat, Paired F (List.replicate k xs).flatten (List.replicate k us).flatten
  | 0 => .nil
  | k + 1 => by
    rw [List.replicate_succ, List.flatten_cons, List.replicate_succ, List.flatten_cons]
    exact Prd.append h (Prd.rep h k)
theorem Prd.imp : ∀ {xs : List α} {us : List β}, Paired F xs us → (∀ a b, a ∈ xs → F a b → G a b) → Paired G xs us
  | _, _, .nil, _ => .nil
  | _, _, .cons r t, f => .cons (f _ _ (by simp) r) (Prd.imp t fun a b h => f a b (by simp [h]))
end
section
variable {K : PySem.W.Frag} {H H' : Hp} {ι ι' : List Addr}
theorem repL_iff : ∀ {ds : List D} {vs : List V}, RepL K H ι ds vs ↔ Paired (Rep K H ι) ds vs
  | [], vs => by
    constructor
    · intro h; rw [RepL] at h; subst h; exact .nil
    · intro h; cases h; rw [RepL]
  | d :: ds, vs => by
    constructor
    · intro h; rw [RepL] at h
      obtain ⟨v, r, rfl, h1, h2⟩ := h
      exact .cons h1 (repL_iff.mp h2)
    · intro h
      cases h with
      | cons h1 h2 => rw [RepL]; exact ⟨_, _, rfl, h1, repL_iff.mpr h2⟩
@[simp] theorem rep_non {v : V} : Rep K H ι .non v ↔ v = .non := by rw [Rep]
@[simp] theorem rep_bl {b : Bool} {v : V} : Rep K H ι (.bl b) v ↔ v = .bl b := by rw [Rep]
@[simp] theorem rep_int {i : Int} {v : V} : Rep K H ι (.int i) v ↔ v = .int i := by rw [Rep]
@[simp] theorem rep_str {x : Str} {v : V} : Rep K H ι (.str x) v ↔ v = .str x := by rw [Rep]
@[simp] theorem rep_ty {n : String} {v : V} : Rep K H ι (.ty n) v ↔ v = .ty n := by rw [Rep]
theorem rep_tup {ds : List D} {v : V} : Rep K H ι (.tup ds) v ↔ ∃ a vs, v = .ref a ∧ SqT K H a vs ∧ Paired (Rep K H ι) ds vs := by
  rw [Rep]
  constructor
  · rintro ⟨a, vs, h1, h2, h3⟩; exact ⟨a, vs, h1, h2, repL_iff.mp h3⟩
  · rintro ⟨a, vs, h1, h2, h3⟩; exact ⟨a, vs, h1, h2, repL_iff.mpr h3⟩
theorem rep_fl {ds : List D} {v : V} : Rep K H ι (.fl ds) v ↔ ∃ a vs, v = .ref a ∧ FzL K H a vs ∧ Paired (Rep K H ι) ds vs := by
  rw [Rep]
  constructor
  · rintro ⟨a, vs, h1, h2, h3⟩; exact ⟨a, vs, h1, h2, repL_iff.mp h3⟩
  · rintro ⟨a, vs, h1, h2, h3⟩; exact ⟨a, vs, h1, h2, repL_iff.mpr h3⟩
theorem rep_ref {n : Nat} {v : V} : Rep K H ι (.ref n) v ↔ ∃ a, v = .ref a ∧ ι[n]? = some a := by rw [Rep]
structure Lw (K : PySem.W.Frag) (H : Hp) (ι : List Addr) (H' : Hp) (ι' : List Addr) : Prop where
  tup : ∀ a xs, SqT K H a xs → SqT K H' a xs
  fz : ∀ a xs, FzL K H a xs → FzL K H' a xs
  pre : ∃ t, ι' = ι ++ t
  fr : ∀ a o u, H a = some (.frz o u) → H' a = some (.frz o u)
structure Le (K : PySem.W.Frag) (H : Hp) (ι : List Addr) (H' : Hp) (ι' : List Addr) : Prop extends Lw K H ι H' ι' where
  frame : ∀ a o, H a = some o → a ∉ ι → H' a = some o ∧ a ∉ ι'
theorem Le.refl : Le K H ι H ι := ⟨⟨fun _ _ h => h, fun _ _ h => h, ⟨[], by simp⟩, fun _ _ _ h => h⟩, fun _ _ h n => ⟨h, n⟩⟩
theorem Le.trans {H1 H2 : Hp} {ι1 ι2 : List Addr} (a : Le K H ι H1 ι1) (b : Le K H1 ι1 H2 ι2) : Le K H ι H2 ι2 := by
  refine ⟨⟨fun x xs h => b.tup x xs (a.tup x xs h), fun x xs h => b.fz x xs (a.fz x xs h), ?_, fun x o u h => b.fr x o u (a.fr x o u h)⟩, fun x o h n => ?_⟩
  · obtain ⟨t, e⟩ := a.pre
    obtain ⟨u, e'⟩ := b.pre
    exact ⟨t ++ u, by rw [e', e, List.append_assoc]⟩
  · obtain ⟨h1, n1⟩ := a.frame x o h n
    exact b.frame x o h1 n1
theorem Lw.get (l : Lw K H ι H' ι') {n : Nat} {a : Addr} (h : ι[n]? = some a) : ι'[n]? = some a := by
  obtain ⟨t, e⟩ := l.pre
  rw [e, List.getElem?_append_left (by exact (List.getElem?_eq_some_iff.mp h).1), h]
mutual
theorem Rep.monoW (l : Lw K H ι H' ι') : ∀ {d : D} {v : V}, Rep K H ι d v → Rep K H' ι' d v
  | .non, v, h => by rw [Rep] at h ⊢; exact h
  | .bl _, v, h => by rw [Rep] at h ⊢; exact h
  | .int _, v, h => by rw [Rep] at h ⊢; exact h
  | .str _, v, h => by rw [Rep] at h ⊢; exact h
  | .ty _, v, h => by rw [Rep] at h ⊢; exact h
  | .tup ds, v, h => by
    rw [Rep] at h ⊢
    obtain ⟨a, vs, h1, h2, h3⟩ := h
    exact ⟨a, vs, h1, l.tup a vs h2, RepL.monoW l h3⟩
  | .fl ds, v, h => by
    rw [Rep] at h ⊢
    obtain ⟨a, vs, h1, h2, h3⟩ := h
    exact ⟨a, vs, h1, l.fz a vs h2, RepL.monoW l h3⟩
  | .ref n, v, h => by
    rw [Rep] at h ⊢
    obtain ⟨a, h1, h2⟩ := h
    exact ⟨a, h1, l.get h2⟩
theorem RepL.monoW (l : Lw K H ι H' ι') : ∀ {ds : List D} {vs : List V}, RepL K H ι ds vs → RepL K H' ι' ds vs
  | [], vs, h => by rw [RepL] at h ⊢; exact h
  | d :: ds, vs, h => by
    rw [RepL] at h ⊢
    obtain ⟨v, r, h1, h2, h3⟩ := h
    exact ⟨v, r, h1, Rep.monoW l h2, RepL.monoW l h3⟩
end
theorem Rep.mono (l : Le K H ι H' ι') {d : D} {v : V} (h : Rep K H ι d v) : Rep K H' ι' d v := Rep.monoW l.toLw h
theorem Prd.monoW (l : Lw K H ι H' ι') {ds : List D} {vs : List V} (h : Paired (Rep K H ι) ds vs) : Paired (Rep K H' ι') ds vs := repL_iff.mp (RepL.monoW l (repL_iff.mpr h))
theorem Prd.mono (l : Le K H ι H' ι') {ds : List D} {vs : List V} (h : Paired (Rep K H ι) ds vs) : Paired (Rep K H' ι') ds vs := Prd.monoW l.toLw h
noncomputable def nkOf : D → Option Int
  | .int i => some i
  | .bl b => some (if b then 1 else 0)
  | _ => none
noncomputable def nksOf : List D → Option (List Int)
  | [] => some []
  | d :: r => (nkOf d).bind fun k => (nksOf r).map fun ks => k :: ks
noncomputable def nk : D → Option (List Int)
  | .tup ds => nksOf ds
  | _ => none
noncomputable def kHash (ks : List Int) : Int := reduceHash (Builtin.Tuple.tupleHashOf (ks.map hashInt))
noncomputable def DicAt (a : Addr) (xs : List (List Int × Addr × Value)) (h : Heap) : Prop :=
  ∃ o es ep, h.get? a = some o ∧ o.ExactDict ∧ o.data = .dict es ep ∧ es.toList = xs.map (fun x => (⟨kHash x.1, .ref x.2.1, x.2.2⟩ : DictEntry)) ∧ (xs.map (·.1)).Nodup
theorem DicAt.keep {a : Addr} {xs : List (List Int × Addr × Value)} {h1 h2 : Heap} (d : DicAt a xs h1) (k : ∀ o, h1.get? a = some o → h2.get? a = some o) : DicAt a xs h2 := by
  obtain ⟨o, es, ep, e, r⟩ := d
  exact ⟨o, es, ep, k o e, r⟩
noncomputable def KRep (K : PySem.W.Frag) (H : Hp) (ι : List Addr) (p : D × D) (x : List Int × Addr × Value) : Prop := nk p.1 = some x.1 ∧ Rep K H ι p.1 (.ref x.2.1) ∧ ∃ v, RelV v x.2.2 ∧ Rep K H ι p.2 v
noncomputable def DciAt (a : Addr) (xs : List (Int × Value)) (h : Heap) : Prop := ∀ (p : Program) (w : World), h.DictOf (numKind p w) a xs
theorem DciAt.keep {a : Addr} {xs : List (Int × Value)} {h1 h2 : Heap} (d : DciAt a xs h1) (k : ∀ o, h1.get? a = some o → h2.get? a = some o) : DciAt a xs h2 := fun p w => by
  obtain ⟨o, es, ep, e, r⟩ := d p w
  exact ⟨o, es, ep, k o e, r⟩
noncomputable def IRep (K : PySem.W.Frag) (H : Hp) (ι : List Addr) (p : Int × D) (x : Int × Value) : Prop := p.1 = x.1 ∧ ∃ v, RelV v x.2 ∧ Rep K H ι p.2 v
noncomputable def ORep (K : PySem.W.Frag) (H : Hp) (ι : List Addr) (a : Addr) : DO → Prop
  | .lst ds => ∃ vs, H a = some (.lst vs) ∧ Paired (Rep K H ι) ds vs
  | .dic kvs fz => (a == sysModules) = false ∧ kvs.length ≤ sizeLine ∧ ∃ xs, (if fz = true then ∃ o, H a = some (.frz o (.ext (DicAt a xs))) else H a = some (.ext (DicAt a xs))) ∧ Paired (KRep K H ι) kvs xs
  | .dci kvs => (a == sysModules) = false ∧ kvs.length ≤ sizeLine ∧ ∃ xs, H a = some (.ext (DciAt a xs)) ∧ Paired (IRep K H ι) kvs xs
structure HRep (K : PySem.W.Frag) (H : Hp) (ι : List Addr) (Hd : HD) : Prop where
  len : ι.length = Hd.length
  nd : ι.Nodup
  obj : ∀ (n : Nat) (a : Addr) (o : DO), ι[n]? = some a → Hd[n]? = some o → ORep K H ι a o
theorem ORep.there {a : Addr} {o : DO} (h : ORep K H ι a o) : H a ≠ none := by
  cases o with
  | lst ds => obtain ⟨vs, e, _⟩ := h; rw [e]; simp
  | dic kv fz =>
    obtain ⟨_, _, xs, e, _⟩ := h
    cases fz with
    | true => rw [if_pos rfl] at e; obtain ⟨ob, e⟩ := e; rw [e]; simp
    | false => rw [if_neg (by simp)] at e; rw [e]; simp
  | dci kv => obtain ⟨_, _, xs, e, _⟩ := h; rw [e]; simp
theorem ORep.step {a : Addr} {o : DO} (h : ORep K H ι a o) (l : Lw K H ι H' ι') (e : H' a = H a) : ORep K H' ι' a o := by
  cases o with
  | lst ds => obtain ⟨vs, q, r⟩ := h; exact ⟨vs, by rw [e, q], Prd.monoW l r⟩
  | dic kv fz => obtain ⟨h1, h2, xs, q, r⟩ := h; exact ⟨h1, h2, xs, by rw [e]; exact q, Prd.imp r fun p x _ z => ⟨z.1, Rep.monoW l z.2.1, let ⟨v, z1, z2⟩ := z.2.2; ⟨v, z1, Rep.monoW l z2⟩⟩⟩
  | dci kv => obtain ⟨h1, h2, xs, q, r⟩ := h; exact ⟨h1, h2, xs, by rw [e]; exact q, Prd.imp r fun p x _ z => ⟨z.1, let ⟨v, z1, z2⟩ := z.2; ⟨v, z1, Rep.monoW l z2⟩⟩⟩
theorem HRep.has {Hd : HD} (h : HRep K H ι Hd) {a : Addr} (hm : a ∈ ι) : ∃ (n : Nat) (o : DO), ι[n]? = some a ∧ Hd[n]? = some o ∧ ORep K H ι a o := by
  obtain ⟨n, hn⟩ := List.mem_iff_getElem?.mp hm
  have hl : n < Hd.length := by rw [← h.len]; exact (List.getElem?_eq_some_iff.mp hn).1
  exact ⟨n, Hd[n], hn, by simp [hl], h.obj n a Hd[n] hn (by simp [hl])⟩
theorem HRep.fresh {Hd : HD} (h : HRep K H ι Hd) {p : Addr} (hp : H p = none) : p ∉ ι := fun hm => by
  obtain ⟨_, _, _, _, o⟩ := h.has hm
  exact o.there hp
theorem HRep.keep {Hd : HD} (h : HRep K H ι Hd) (l : Lw K H ι H' ι) (e : ∀ a ∈ ι, H' a = H a) : HRep K H' ι Hd :=
  ⟨h.len, h.nd, fun n a o h1 h2 => (h.obj n a o h1 h2).step l (e a (List.mem_of_getElem? h1))⟩
theorem Lw.fresh {p : Addr} (hp : H p = none) (o : HO) : Lw K H ι (upd H p o) ι where
  tup := fun a xs h => by
    rcases h with (h | ⟨ob, h⟩) | h
    · exact .inl (.inl (by rw [upd_ne (ne_of_none h hp)]; exact h))
    · exact .inl (.inr ⟨ob, by rw [upd_ne (ne_of_none h hp)]; exact h⟩)
    · exact .inr h
  fz := fun a xs h => by
    rcases h with ⟨ob, h⟩ | h
    · exact .inl ⟨ob, by rw [upd_ne (ne_of_none h hp)]; exact h⟩
    · exact .inr h
  pre := ⟨[], by simp⟩
  fr := fun a ob u h => by rw [upd_ne (ne_of_none h hp)]; exact h
theorem Le.fresh {p : Addr} (hp : H p = none) (o : HO) : Le K H ι (upd H p o) ι := ⟨Lw.fresh hp o, fun a ob h n => ⟨by rw [upd_ne (ne_of_none h hp)]; exact h, n⟩⟩
theorem Le.fresh1 {p : Addr} (hp : H p = none) (o : HO) : Le K H ι (upd H p o) (ι ++ [p]) where
  tup := (Le.fresh (ι := ι) hp o).tup
  fz := (Le.fresh (ι := ι) hp o).fz
  pre := ⟨[p], rfl⟩
  fr := (Le.fresh (K := K) (ι := ι) hp o).fr
  frame := fun a ob h n => ⟨by rw [upd_ne (ne_of_none h hp)]; exact h, by
    have := ne_of_none h hp
    simp [n, this]⟩
theorem HRep.tup {Hd : HD} (h : HRep K H ι Hd) {p : Addr} (hp : H p = none) (o : HO) : HRep K (upd H p o) ι Hd :=
  h.keep (Lw.fresh hp o) fun a ha => upd_ne fun z => by subst z; exact h.fresh hp ha
theorem HRep.new {Hd : HD} (h : HRep K H ι Hd) {p : Addr} (hp : H p = none) {u : HO} {o : DO} (ho : ORep K (upd H p u) (ι ++ [p]) p o) : HRep K (upd H p u) (ι ++ [p]) (Hd ++ [o]) := by
  have hf := h.fresh hp
  refine ⟨by simp [h.len], by simp only [List.nodup_append, h.nd, true_and]; exact ⟨by simp, fun a ha b hb e => hf (by simp at hb; rw [← hb, ← e]; exact ha)⟩, fun n a ob h1 h2 => ?_⟩
  by_cases hn : n < ι.length
  · rw [List.getElem?_append_left hn] at h1
    rw [List.getElem?_append_left (by rw [← h.len]; exact hn)] at h2
    have ha : a ∈ ι := List.mem_of_getElem? h1
    exact (h.obj n a ob h1 h2).step (Le.fresh1 hp u).toLw (upd_ne fun z => by subst z; exact hf ha)
  · rw [List.getElem?_append_right (by omega)] at h1
    rw [List.getElem?_append_right (by rw [← h.len]; omega)] at h2
    rw [← h.len] at h2
    have : n - ι.length = 0 := by
      have := (List.getElem?_eq_some_iff.mp h1).1
      simp at this; omega
    rw [this] at h1 h2
    simp at h1 h2
    subst h1; subst h2
    exact ho
noncomputable def Loose : HO → Prop
  | .lst _ => True
  | .ext _ => True
  | _ => False
theorem Le.upd {a : Addr} (ha : a ∈ ι) {o : HO} (e : H a = some o) (lo : Loose o) (u : HO) : Le K H ι (upd H a u) ι where
  tup := fun b xs h => by
    rcases h with (h | ⟨ob, h⟩) | h
    · refine .inl (.inl ?_)
      rw [upd_ne (ne_of h e (by rintro rfl; exact lo))]; exact h
    · refine .inl (.inr ⟨ob, ?_⟩)
      rw [upd_ne (ne_of h e (by rintro rfl; exact lo))]; exact h
    · exact .inr h
  fz := fun b xs h => by
    rcases h with ⟨ob, h⟩ | h
    · refine .inl ⟨ob, ?_⟩
      rw [upd_ne (ne_of h e (by rintro rfl; exact lo))]; exact h
    · exact .inr h
  pre := ⟨[], by simp⟩
  fr := fun b ob w h => by rw [upd_ne (ne_of h e (by rintro rfl; exact lo))]; exact h
  frame := fun b ob h n => ⟨by rw [upd_ne (by rintro rfl; exact n ha)]; exact h, n⟩
theorem HRep.upd {Hd : HD} (h : HRep K H ι Hd) {n : Nat} {a : Addr} (hn : ι[n]? = some a) {o u : HO} (e : H a = some o) (lo : Loose o) {ob : DO} (ho : ORep K (upd H a u) ι a ob) : HRep K (upd H a u) ι (Hd.set n ob) := by
  refine ⟨by simp [h.len], h.nd, fun m b oc h1 h2 => ?_⟩
  by_cases hm : n = m
  · subst hm
    rw [hn] at h1; cases h1
    rw [List.getElem?_set] at h2
    rw [if_pos rfl] at h2
    split at h2
    · cases h2; exact ho
    · cases h2
  · rw [List.getElem?_set_ne hm] at h2
    have hb : b ≠ a := fun z => by
      subst z
      have l1 := (List.getElem?_eq_some_iff.mp hn).1
      exact hm ((List.getElem?_inj l1 h.nd).mp (hn.trans h1.symm))
    exact (h.obj m b oc h1 h2).step (Le.upd (List.mem_of_getElem? hn) e lo u).toLw (upd_ne hb)
theorem HRep.add {Hd : HD} (h : HRep K H ι Hd) {p : Addr} (hp : p ∉ ι) {o : DO} (ho : ORep K H (ι ++ [p]) p o) : HRep K H (ι ++ [p]) (Hd ++ [o]) := by
  refine ⟨by simp [h.len], by simp only [List.nodup_append, h.nd, true_and]; exact ⟨by simp, fun a ha b hb e => hp (by simp at hb; rw [← hb, ← e]; exact ha)⟩, fun n a ob h1 h2 => ?_⟩
  by_cases hn : n < ι.length
  · rw [List.getElem?_append_left hn] at h1
    rw [List.getElem?_append_left (by rw [← h.len]; exact hn)] at h2
    exact (h.obj n a ob h1 h2).step ⟨fun _ _ z => z, fun _ _ z => z, ⟨[p], rfl⟩, fun _ _ _ z => z⟩ rfl
  · rw [List.getElem?_append_right (by omega)] at h1
    rw [List.getElem?_append_right (by rw [← h.len]; omega)] at h2
    rw [← h.len] at h2
    have : n - ι.length = 0 := by
      have := (List.getElem?_eq_some_iff.mp h1).1
      simp at this; omega
    rw [this] at h1 h2
    simp at h1 h2
    subst h1; subst h2
    exact ho
theorem Lw.side {p : Addr} {ys : List V} (hp : H p = some (.lst ys)) (u : HO) : Lw K H ι (L2.upd H p u) ι where
  tup := fun a xs h => by
    rcases h with (h | ⟨ob, h⟩) | h
    · refine .inl (.inl ?_)
      rw [upd_ne (ne_of h hp (by intro z; cases z))]; exact h
    · refine .inl (.inr ⟨ob, ?_⟩)
      rw [upd_ne (ne_of h hp (by intro z; cases z))]; exact h
    · exact .inr h
  fz := fun a xs h => by
    rcases h with ⟨ob, h⟩ | h
    · refine .inl ⟨ob, ?_⟩
      rw [upd_ne (ne_of h hp (by intro z; cases z))]; exact h
    · exact .inr h
  pre := ⟨[], by simp⟩
  fr := fun a ob w h => by rw [upd_ne (ne_of h hp (by intro z; cases z))]; exact h
theorem Lw.trans {H1 H2 : Hp} {ι1 ι2 : List Addr} (a : Lw K H ι H1 ι1) (b : Lw K H1 ι1 H2 ι2) : Lw K H ι H2 ι2 := by
  refine ⟨fun x xs h => b.tup x xs (a.tup x xs h), fun x xs h => b.fz x xs (a.fz x xs h), ?_, fun x o u h => b.fr x o u (a.fr x o u h)⟩
  obtain ⟨t, e⟩ := a.pre
  obtain ⟨u, e'⟩ := b.pre
  exact ⟨t ++ u, by rw [e', e, List.append_assoc]⟩
theorem Le.side {H1 : Hp} {ι1 : List Addr} {p : Addr} {ys : List V} (l : Le K H ι H1 ι1) (h0 : H p = none) (h1 : H1 p = some (.lst ys)) (u : HO) : Le K H ι (L2.upd H1 p u) ι1 :=
  ⟨l.toLw.trans (Lw.side h1 u), fun a o h n => by
    obtain ⟨q, m⟩ := l.frame a o h n
    exact ⟨by rw [upd_ne (ne_of_none h h0)]; exact q, m⟩⟩
structure SRep (K : PySem.W.Frag) (H : Hp) (ι : List Addr) (σ : L2.St) (σd : SD) : Prop where
  len : σ.length = σd.length
  var : ∀ (i : Nat) (d : D), σd[i]? = some (some d) → ∃ v, σ[i]? = some (some v) ∧ Rep K H ι d v
theorem SRep.mono {σ : L2.St} {σd : SD} (s : SRep K H ι σ σd) (l : Le K H ι H' ι') : SRep K H' ι' σ σd :=
  ⟨s.len, fun i d h => let ⟨v, h1, h2⟩ := s.var i d h; ⟨v, h1, h2.mono l⟩⟩
theorem SRep.set {σ : L2.St} {σd : SD} {d : D} {v : V} (s : SRep K H ι σ σd) (r : Rep K H ι d v) (i : Nat) : SRep K H ι (σ.set i (some v)) (σd.set i (some d)) := by
  refine ⟨by simp [s.len], fun j e h => ?_⟩
  by_cases hj : i = j
  · subst hj
    rw [List.getElem?_set] at h ⊢
    rw [if_pos rfl] at h ⊢
    split at h
    · rename_i hl
      rw [if_pos (by rw [s.len]; exact hl)]
      cases h
      exact ⟨v, rfl, r⟩
    · cases h
  · rw [List.getElem?_set_ne hj] at h ⊢
    exact s.var j e h
end
noncomputable def noStar : Expr → Bool
  | .Starred _ _ => false
  | _ => true
theorem star_cons {e : Expr} {es : List Expr} {env : Env} (h : noStar e = true) : starEach (e :: es) env = (false, eval e env) :: starEach es env := by
  cases e <;> first | rfl | cases h
theorem star_any {pos : Pos} {env : Env} : ∀ {es : List Expr}, es.all noStar = true → (backTo pos (starEach es env)).any (·.1) = false
  | [], _ => rfl
  | e :: es, h => by
    rw [List.all_cons, Bool.and_eq_true] at h
    rw [star_cons h.1]
    show (false || (backTo pos (starEach es env)).any (·.1)) = false
    rw [star_any h.2]
    rfl
theorem star_few {pos : Pos} {env : Env} {es : List Expr} (h : es.all noStar = true) (hl : es.length < 30) : ((backTo pos (starEach es env)).all (fun x => !x.1) && (backToKw pos (keywordEach [] env)).all (fun x => x.1.isSome)
      && decide (es.length + ([] : List Keyword).length + (if ([] : List Keyword).isEmpty then 0 else 1) < 30)) = true := by
  have h1 := star_any (pos := pos) (env := env) h
  have h2 : (backTo pos (starEach es env)).all (fun x => !x.1) = true := by
    rw [List.all_eq_true]
    intro x hx
    rw [List.any_eq_false] at h1
    have := h1 x hx
    simpa using this
  have h3 : decide (es.length + ([] : List Keyword).length + (if ([] : List Keyword).isEmpty then 0 else 1) < 30) = true := by
    rw [decide_eq_true_eq]
    simpa using hl
  rw [h2, h3]
  rfl
end DL
namespace DL
open PySem PySem.Spec PyProof.Rows L2
noncomputable abbrev EF := SD → HD → Option (D × HD)
noncomputable abbrev TF := SD → HD → Option (Bool × HD)
noncomputable abbrev AF := SD → HD → Option (List D × HD)
inductive FD where
  | nx | bk | ct | rt (d : D)
noncomputable abbrev SF := SD → HD → Option (FD × SD × HD)
noncomputable abbrev GF := D → SD → HD → Option (SD × HD)
noncomputable abbrev FF := List D → HD → Option (D × HD)
noncomputable abbrev F2 := D → D → HD → Option (D × HD)
noncomputable def QE (K : PySem.W.Frag) (H : Hp) (ι : List Addr) (d : D) (Hd' : HD) (Q : VK) : Prop := ∀ v H' ι', Le K H ι H' ι' → HRep K H' ι' Hd' → Rep K H' ι' d v → Q v H'
noncomputable def rdE (K : PySem.W.Frag) (f : EF) : TE := fun σ H Q => ∃ ι σd Hd d Hd', SRep K H ι σ σd ∧ HRep K H ι Hd ∧ f σd Hd = some (d, Hd') ∧ QE K H ι d Hd' Q
noncomputable def rdT (K : PySem.W.Frag) (f : TF) : TT := fun σ H Q => ∃ ι σd Hd b Hd', SRep K H ι σ σd ∧ HRep K H ι Hd ∧ f σd Hd = some (b, Hd') ∧ ∀ H' ι', Le K H ι H' ι' → HRep K H' ι' Hd' → Q b H'
noncomputable def rdA (K : PySem.W.Frag) (f : AF) : TA := fun σ H Q => ∃ ι σd Hd ds Hd', SRep K H ι σ σd ∧ HRep K H ι Hd ∧ f σd Hd = some (ds, Hd') ∧ ∀ vs H' ι', Le K H ι H' ι' → HRep K H' ι' Hd' → Paired (Rep K H' ι') ds vs → Q vs H'
noncomputable def QS (K : PySem.W.Frag) (H : Hp) (ι : List Addr) (fl : FD) (σd' : SD) (Hd' : HD) (E : Ends) : Prop := ∀ σ' H' ι', Le K H ι H' ι' → HRep K H' ι' Hd' → SRep K H' ι' σ' σd' →
  match fl with
  | .nx => E.nx σ' H'
  | .bk => E.bk σ' H'
  | .ct => E.ct σ' H'
  | .rt d => ∀ v, Rep K H' ι' d v → E.rt v H'
noncomputable def rdS (K : PySem.W.Frag) (f : SF) : TS := fun E σ H => ∃ ι σd Hd fl σd' Hd', SRep K H ι σ σd ∧ HRep K H ι Hd ∧ f σd Hd = some (fl, σd', Hd') ∧ QS K H ι fl σd' Hd' E
noncomputable def rdG (K : PySem.W.Frag) (g : GF) : TG := fun v σ H Q => ∃ ι σd Hd d σd' Hd', SRep K H ι σ σd ∧ HRep K H ι Hd ∧ Rep K H ι d v ∧ g d σd Hd = some (σd', Hd') ∧
  ∀ σ' H' ι', Le K H ι H' ι' → HRep K H' ι' Hd' → SRep K H' ι' σ' σd' → Q σ' H'
noncomputable def rd2 (K : PySem.W.Frag) (g : F2) : R2 := fun x y H Q => ∃ ι dx dy Hd d Hd', HRep K H ι Hd ∧ Rep K H ι dx x ∧ Rep K H ι dy y ∧ g dx dy Hd = some (d, Hd') ∧ QE K H ι d Hd' Q
noncomputable def rd1 (K : PySem.W.Frag) (g : D → HD → Option (D × HD)) : V → Hp → VK → Prop := fun x H Q => ∃ ι dx Hd d Hd', HRep K H ι Hd ∧ Rep K H ι dx x ∧ g dx Hd = some (d, Hd') ∧ QE K H ι d Hd' Q
noncomputable def rdC (K : PySem.W.Frag) (g : FF) : List V → Hp → VK → Prop := fun vs H Q => ∃ ι ds Hd d Hd', HRep K H ι Hd ∧ Paired (Rep K H ι) ds vs ∧ g ds Hd = some (d, Hd') ∧ QE K H ι d Hd' Q
noncomputable def rdM (K : PySem.W.Frag) (g : D → List D → HD → Option (D × HD)) : V → List V → Hp → VK → Prop := fun v vs H Q => ∃ ι x ds Hd d Hd', HRep K H ι Hd ∧ Rep K H ι x v ∧ Paired (Rep K H ι) ds vs ∧ g x ds Hd = some (d, Hd') ∧ QE K H ι d Hd' Q
noncomputable def PEf (X : Cx) (e : Expr) (f : EF) : Prop := PE X e (rdE X.K f)
noncomputable def PTf (X : Cx) (e : Expr) (f : TF) : Prop := PT X e (rdT X.K f)
noncomputable def PWf (X : Cx) (e : Expr) (f : TF) : Prop := PW X e (rdT X.K f)
noncomputable def PAf (X : Cx) (es : List Expr) (f : AF) : Prop := PA X es (rdA X.K f)
noncomputable def PSf (X : Cx) (st : Stmt) (f : SF) : Prop := PS X st (rdS X.K f)
noncomputable def PSsf (X : Cx) (st : List Stmt) (f : SF) : Prop := PSs X st (rdS X.K f)
noncomputable def PGf (X : Cx) (tg : Expr) (g : GF) : Prop := PG X tg (rdG X.K g)
noncomputable def OpF (X : Cx) (f : Value → Value → Sem Value) (g : F2) : Prop := OpR X f (rd2 X.K g)
noncomputable def UnF (X : Cx) (f : Value → Sem Value) (g : D → HD → Option (D × HD)) : Prop := UnR X f (rd1 X.K g)
noncomputable def CallF (X : Cx) (f : Value) (g : FF) : Prop := CallR X f (rdC X.K g)
noncomputable def IxF (X : Cx) (g : F2) : Prop := IxR X (rd2 X.K g)
noncomputable def MtF (X : Cx) (id : String) (g : D → List D → HD → Option (D × HD)) : Prop := MtR X id (rdM X.K g)
section
variable {X : Cx} {e a b c : Expr} {es : List Expr} {pos : Pos} {st : Stmt} {sts : List Stmt}
theorem PEi {t t' : TE} (h : PE X e t) (i : ∀ σ H Q, t' σ H Q → t σ H Q) : PE X e t' := fun pins s σ H Q I q => h pins s σ H Q I (i σ H Q q)
theorem PTi {t t' : TT} (h : PT X e t) (i : ∀ σ H Q, t' σ H Q → t σ H Q) : PT X e t' := fun pins s σ H Q I q => h pins s σ H Q I (i σ H Q q)
theorem PWi {t t' : TT} (h : PW X e t) (i : ∀ σ H Q, t' σ H Q → t σ H Q) : PW X e t' := fun wh pins s σ H Q I q => h wh pins s σ H Q I (i σ H Q q)
theorem PAi {t t' : TA} (h : PA X es t) (i : ∀ σ H Q, t' σ H Q → t σ H Q) : PA X es t' := fun ps pins s σ H Q I q => h ps pins s σ H Q I (i σ H Q q)
theorem PSi {t t' : TS} (h : PS X st t) (i : ∀ E σ H, t' E σ H → t E σ H) : PS X st t' := fun pins s σ H E I q => h pins s σ H E I (i E σ H q)
theorem PSsi {t t' : TS} (h : PSs X sts t) (i : ∀ E σ H, t' E σ H → t E σ H) : PSs X sts t' := fun pins s σ H E I q => h pins s σ H E I (i E σ H q)
theorem PGi {t t' : TG} (h : PG X e t) (i : ∀ v σ H Q, t' v σ H Q → t v σ H Q) : PG X e t' := fun pins s σ H v u Q I r q => h pins s σ H v u Q I r (i v σ H Q q)
theorem OpRi {f : Value → Value → Sem Value} {t t' : R2} (h : OpR X f t) (i : ∀ x y H Q, t' x y H Q → t x y H Q) : OpR X f t' := fun pins s σ H x y v u Q I r1 r2 q => h pins s σ H x y v u Q I r1 r2 (i x y H Q q)
noncomputable def eVar (i : Nat) : EF := fun σ H => (σ[i]?).join.map fun d => (d, H)
noncomputable def eC (d : D) : EF := fun _ H => some (d, H)
theorem pef_var {i : Nat} {x : Str} (h : PE X (.Name x pos) (tVar i)) : PEf X (.Name x pos) (eVar i) := by
  refine PEi h fun σ H Q zz => ?_
  obtain ⟨ι, σd, Hd, d, Hd', s, hr, e, q⟩ := zz
  unfold eVar at e
  cases hx : σd[i]? with
  | none => rw [hx] at e; cases e
  | some o =>
    cases o with
    | none => rw [hx] at e; cases e
    | some d0 =>
      rw [hx] at e
      have e' : (d0, Hd) = (d, Hd') := Option.some.inj e
      obtain ⟨rfl, rfl⟩ := Prod.mk.inj e'
      obtain ⟨v, h1, h2⟩ := s.var i d0 hx
      exact ⟨v, h1, q v H ι Le.refl hr h2⟩
theorem pef_C {v : V} {d : D} (h : PE X e (tC v)) (r : ∀ H ι, Rep X.K H ι d v) : PEf X e (eC d) := by
  refine PEi h fun σ H Q zz => ?_
  obtain ⟨ι, σd, Hd, d', Hd', s, hr, e, q⟩ := zz
  cases e
  exact q v H ι Le.refl hr (r H ι)
theorem pef_int {i j} : PEf X (.Constant (.int i) j pos) (eC (.int i)) := pef_C pe_int fun _ _ => by simp
theorem pef_bl {b j} : PEf X (.Constant (.bool b) j pos) (eC (.bl b)) := pef_C pe_bl fun _ _ => by simp
theorem pef_str {x j} : PEf X (.Constant (.str x) j pos) (eC (.str x)) := pef_C pe_str fun _ _ => by simp
theorem pef_ty {x : Str} {n : String} (hg : Gl X x) (hm : X.mg x = none) (hv : bootBuiltins x = some (.type n)) (hn : x ≠ "__name__" := by decide) (hd : (x == ("__debug__" : Str)) = false := by decide) : PEf X (.Name x pos) (eC (.ty n)) :=
  pef_C (pe_bltn (v := .ty n) hg hm hv rfl hn hd) fun _ _ => by simp
noncomputable def eOp (g : F2) (fa fb : EF) : EF := fun σ H => (fa σ H).bind fun p => (fb σ p.2).bind fun q => g p.1 q.1 q.2
theorem rd_op {fa fb : EF} {g : F2} {σ : L2.St} {H : Hp} {Q : VK} {K : PySem.W.Frag} (h : rdE K (eOp g fa fb) σ H Q) : tOp (rd2 K g) (rdE K fa) (rdE K fb) σ H Q := by
  obtain ⟨ι, σd, Hd, d, Hd', s, hr, e, q⟩ := h
  obtain ⟨⟨x, H1⟩, e1, e⟩ := Option.bind_eq_some_iff.mp e
  obtain ⟨⟨y, H2⟩, e2, e⟩ := Option.bind_eq_some_iff.mp e
  exact ⟨ι, σd, Hd, x, H1, s, hr, e1, fun v1 H1' ι1 l1 h1 r1 => ⟨ι1, σd, H1, y, H2, s.mono l1, h1, e2, fun v2 H2' ι2 l2 h2 r2 =>
    ⟨ι2, x, y, H2, d, Hd', h2, r1.mono l2, r2, e, fun v H' ι' l h r => q v H' ι' ((l1.trans l2).trans l) h r⟩⟩⟩
theorem pef_op {op : Operator} {g : F2} {fa fb : EF} (ho : OpF X (binaryOp op) g) (ha : PEf X a fa) (hb : PEf X b fb) : PEf X (.BinOp a op b pos) (eOp g fa fb) :=
  PEi (pe_op ho ha hb) fun _ _ _ h => rd_op h
theorem pef_cmp {op : CmpOp} {g : F2} {fa fb : EF} (ho : OpF X (compareOp op) g) (ha : PEf X a fa) (hb : PEf X b fb) (hm : behindInMarks op b = false) : PEf X (.Compare a [op] [b] pos) (eOp g fa fb) :=
  PEi (pe_cmpR ho ha hb hm) fun _ _ _ h => rd_op h
theorem pef_ix {g : F2} {fa fb : EF} (ho : IxF X g) (ha : PEf X a fa) (hb : PEf X b fb) (hs : PlainIx b) : PEf X (.Subscript a b pos) (eOp g fa fb) :=
  PEi (pe_ix ho ha hb hs) fun _ _ _ h => rd_op h
noncomputable def eUn (g : D → HD → Option (D × HD)) (fa : EF) : EF := fun σ H => (fa σ H).bind fun p => g p.1 p.2
theorem pef_un {op : UnaryOp} {g : D → HD → Option (D × HD)} {fa : EF} (ho : UnF X (unaryOp op) g) (ha : PEf X a fa) : PEf X (.UnaryOp op a pos) (eUn g fa) := by
  refine PEi (pe_un ho ha) fun σ H Q zz => ?_
  obtain ⟨ι, σd, Hd, d, Hd', s, hr, e, q⟩ := zz
  obtain ⟨⟨x, H1⟩, e1, e⟩ := Option.bind_eq_some_iff.mp e
  exact ⟨ι, σd, Hd, x, H1, s, hr, e1, fun v1 H1' ι1 l1 h1 r1 => ⟨ι1, x, H1, d, Hd', h1, r1, e, fun v H' ι' l h r => q v H' ι' (l1.trans l) h r⟩⟩
noncomputable def blD : D → Option Bool
  | .bl b => some b
  | _ => none
noncomputable def tOf (f : EF) : TF := fun σ H => (f σ H).bind fun p => (blD p.1).map fun b => (b, p.2)
theorem rep_blD {K : PySem.W.Frag} {H : Hp} {ι : List Addr} {d : D} {b : Bool} {v : V} (e : blD d = some b) (r : Rep K H ι d v) : v = .bl b := by
  cases d <;> simp [blD] at e
  subst e
  simpa using r
theorem ptf_cmp {op : CmpOp} {g : F2} {fa fb : EF} (ho : OpF X (compareOp op) g) (ha : PEf X a fa) (hb : PEf X b fb) (hm : behindInMarks op b = false) : PTf X (.Compare a [op] [b] pos) (tOf (eOp g fa fb)) := by
  refine PTi (pt_cmpR ho ha hb hm) fun σ H Q zz => ?_
  obtain ⟨ι, σd, Hd, bb, Hd', s, hr, e, q⟩ := zz
  obtain ⟨⟨x, H1⟩, e1, e⟩ := Option.bind_eq_some_iff.mp e
  obtain ⟨b', eb, e⟩ := Option.map_eq_some_iff.mp e
  cases e
  exact rd_op ⟨ι, σd, Hd, x, H1, s, hr, e1, fun v H' ι' l h r => ⟨bb, rep_blD eb r, q H' ι' l h⟩⟩
noncomputable def truD : D → HD → Option Bool
  | .non, _ => some false
  | .bl b, _ => some b
  | .int i, _ => some (i != 0)
  | .tup xs, _ => some (!xs.isEmpty)
  | .fl xs, _ => some (!xs.isEmpty)
  | .str x, _ => if x.length ≤ sizeLine then some ((x.length : Int) != 0) else none
  | .ref n, H => match H[n]? with
    | some (.lst xs) => some (!xs.isEmpty)
    | _ => none
  | _, _ => none
theorem prd_empty {α β : Type} {F : α → β → Prop} {xs : List α} {us : List β} (r : Paired F xs us) : (!us.isEmpty) = !xs.isEmpty := by cases r <;> rfl
theorem truV_of {K : PySem.W.Frag} {H : Hp} {ι : List Addr} {Hd : HD} {d : D} {k : Bool} {v : V} (hr : HRep K H ι Hd) (r : Rep K H ι d v) (e : truD d Hd = some k) : TruV K v H k := by
  cases d with
  | non => simp at r; subst r; simp [truD] at e; subst e; exact rfl
  | bl b => simp at r; subst r; simp [truD] at e; subst e; exact rfl
  | int i => simp at r; subst r; simp [truD] at e; subst e; exact rfl
  | ty n => simp [truD] at e
  | str x =>
    simp at r; subst r
    simp only [truD] at e
    split at e
    · rename_i hl
      cases e
      exact ⟨hl, rfl⟩
    · cases e
  | tup xs =>
    obtain ⟨ad, vs, rfl, h, p⟩ := rep_tup.mp r
    cases (show some (!xs.isEmpty) = some k from e)
    exact .inr (.inl ⟨vs, h, by rw [prd_empty p]⟩)
  | fl xs =>
    obtain ⟨ad, vs, rfl, h, p⟩ := rep_fl.mp r
    cases (show some (!xs.isEmpty) = some k from e)
    exact .inl ⟨vs, h.sq, by rw [prd_empty p]⟩
  | ref n =>
    obtain ⟨ad, rfl, h⟩ := rep_ref.mp r
    simp only [truD] at e
    split at e
    · rename_i xs ho
      cases e
      obtain ⟨vs, h1, p⟩ := hr.obj n ad _ h ho
      exact .inl ⟨vs, SqL.of h1, by rw [prd_empty p]⟩
    · cases e
noncomputable def tTru (f : EF) : TF := fun σ H => (f σ H).bind fun p => (truD p.1 p.2).map fun b => (b, p.2)
theorem ptf_truth {fa : EF} (ha : PEf X a fa) (he : ∀ whole, isTrue a X.env whole = (do let v ← whole; standAt a.pos; holding [v] (truthy v))) : PTf X a (tTru fa) := by
  refine PTi (pt_truth ha he) fun σ H Q zz => ?_
  obtain ⟨ι, σd, Hd, bb, Hd', s, hr, e, q⟩ := zz
  obtain ⟨⟨x, H1⟩, e1, e⟩ := Option.bind_eq_some_iff.mp e
  obtain ⟨b', eb, e⟩ := Option.map_eq_some_iff.mp e
  cases e
  exact ⟨ι, σd, Hd, x, H1, s, hr, e1, fun v H' ι' l h r => ⟨bb, truV_of h r eb, q H' ι' l h⟩⟩
noncomputable def tNo (t : TF) : TF := fun σ H => (t σ H).map fun p => (!p.1, p.2)
noncomputable def tAn (t u : TF) : TF := fun σ H => (t σ H).bind fun p => if p.1 = true then u σ p.2 else some (false, p.2)
noncomputable def tOrr (t u : TF) : TF := fun σ H => (t σ H).bind fun p => if p.1 = true then some (true, p.2) else u σ p.2
theorem ptf_not {t : TF} (h : PTf X a t) : PTf X (.UnaryOp .Not a pos) (tNo t) := by
  refine PTi (pt_not h) fun σ H Q zz => ?_
  obtain ⟨ι, σd, Hd, bb, Hd', s, hr, e, q⟩ := zz
  obtain ⟨⟨x, H1⟩, e1, e⟩ := Option.map_eq_some_iff.mp e
  cases e
  exact ⟨ι, σd, Hd, x, H1, s, hr, e1, fun H' ι' l h => q H' ι' l h⟩
theorem pwf_and1 {t : TF} (h : PTf X a t) : PWf X (.BoolOp .And [a] pos) t := pw_and1 h
theorem pwf_or1 {t : TF} (h : PTf X a t) : PWf X (.BoolOp .Or [a] pos) t := pw_or1 h
theorem pwf_and {t u : TF} (h : PTf X a t) (h2 : PWf X (.BoolOp .And (b :: es) pos) u) : PWf X (.BoolOp .And (a :: b :: es) pos) (tAn t u) := by
  refine PWi (pw_and h h2) fun σ H Q zz => ?_
  obtain ⟨ι, σd, Hd, bb, Hd', s, hr, e, q⟩ := zz
  obtain ⟨⟨x, H1⟩, e1, e⟩ := Option.bind_eq_some_iff.mp e
  refine ⟨ι, σd, Hd, x, H1, s, hr, e1, fun H' ι' l h => ?_⟩
  cases x with
  | true =>
    rw [if_pos rfl]
    exact ⟨ι', σd, H1, bb, Hd', s.mono l, h, by simpa using e, fun H2 ι2 l2 h2 => q H2 ι2 (l.trans l2) h2⟩
  | false =>
    rw [if_neg (by simp)]
    simp at e
    obtain ⟨rfl, rfl⟩ := e
    exact q H' ι' l h
theorem pwf_or {t u : TF} (h : PTf X a t) (h2 : PWf X (.BoolOp .Or (b :: es) pos) u) : PWf X (.BoolOp .Or (a :: b :: es) pos) (tOrr t u) := by
  refine PWi (pw_or h h2) fun σ H Q zz => ?_
  obtain ⟨ι, σd, Hd, bb, Hd', s, hr, e, q⟩ := zz
  obtain ⟨⟨x, H1⟩, e1, e⟩ := Option.bind_eq_some_iff.mp e
  refine ⟨ι, σd, Hd, x, H1, s, hr, e1, fun H' ι' l h => ?_⟩
  cases x with
  | true =>
    rw [if_pos rfl]
    simp at e
    obtain ⟨rfl, rfl⟩ := e
    exact q H' ι' l h
  | false =>
    rw [if_neg (by simp)]
    exact ⟨ι', σd, H1, bb, Hd', s.mono l, h, by simpa using e, fun H2 ι2 l2 h2 => q H2 ι2 (l.trans l2) h2⟩
theorem PWf.pt {t : TF} (h : PWf X a t) : PTf X a t := h _
noncomputable def eIf (t : TF) (f g : EF) : EF := fun σ H => (t σ H).bind fun p => if p.1 = true then f σ p.2 else g σ p.2
theorem pef_if {t : TF} {f g : EF} (hc : PTf X c t) (ha : PEf X a f) (hb : PEf X b g) : PEf X (.IfExp c a b pos) (eIf t f g) := by
  refine PEi (pe_ifExp hc ha hb) fun σ H Q zz => ?_
  obtain ⟨ι, σd, Hd, d, Hd', s, hr, e, q⟩ := zz
  obtain ⟨⟨x, H1⟩, e1, e⟩ := Option.bind_eq_some_iff.mp e
  refine ⟨ι, σd, Hd, x, H1, s, hr, e1, fun H' ι' l h => ?_⟩
  cases x with
  | true =>
    rw [if_pos rfl]
    exact ⟨ι', σd, H1, d, Hd', s.mono l, h, by simpa using e, fun v2 H2 ι2 l2 h2 r2 => q v2 H2 ι2 (l.trans l2) h2 r2⟩
  | false =>
    rw [if_neg (by simp)]
    exact ⟨ι', σd, H1, d, Hd', s.mono l, h, by simpa using e, fun v2 H2 ι2 l2 h2 r2 => q v2 H2 ι2 (l.trans l2) h2 r2⟩
noncomputable def aNil : AF := fun _ H => some ([], H)
noncomputable def aCons (f : EF) (g : AF) : AF := fun σ H => (f σ H).bind fun p => (g σ p.2).map fun q => (p.1 :: q.1, q.2)
theorem paf_nil : PAf X [] aNil := by
  refine PAi pa_nil fun σ H Q zz => ?_
  obtain ⟨ι, σd, Hd, d, Hd', s, hr, e, q⟩ := zz
  cases e
  exact q [] H ι Le.refl hr .nil
theorem paf_cons {f : EF} {g : AF} (ha : PEf X e f) (hr : PAf X es g) (hs : starEach (e :: es) X.env = (false, eval e X.env) :: starEach es X.env := by exact star_cons rfl) : PAf X (e :: es) (aCons f g) := by
  refine PAi (pa_cons ha hr hs) fun σ H Q zz => ?_
  obtain ⟨ι, σd, Hd, d, Hd', s, hr, e, q⟩ := zz
  obtain ⟨⟨x, H1⟩, e1, e⟩ := Option.bind_eq_some_iff.mp e
  obtain ⟨⟨y, H2⟩, e2, e⟩ := Option.map_eq_some_iff.mp e
  cases e
  exact ⟨ι, σd, Hd, x, H1, s, hr, e1, fun v1 H1' ι1 l1 h1 r1 => ⟨ι1, σd, H1, y, H2, s.mono l1, h1, e2, fun vs H2' ι2 l2 h2 r2 => q _ H2' ι2 (l1.trans l2) h2 (.cons (r1.mono l2) r2)⟩⟩
noncomputable def mkT (xs : List D) (H : HD) : Option (D × HD) := if xs.length ≤ sizeLine then some (.tup xs, H) else none
noncomputable def mkL (xs : List D) (H : HD) : Option (D × HD) := if xs.length ≤ sizeLine then some (.ref H.length, H ++ [.lst xs]) else none
theorem mkT_some {xs : List D} {H : HD} {r : D × HD} (h : mkT xs H = some r) : xs.length ≤ sizeLine ∧ r = (.tup xs, H) := by
  unfold mkT at h
  split at h
  · rename_i hl; cases h; exact ⟨hl, rfl⟩
  · cases h
theorem mkL_some {xs : List D} {H : HD} {r : D × HD} (h : mkL xs H = some r) : xs.length ≤ sizeLine ∧ r = (.ref H.length, H ++ [.lst xs]) := by
  unfold mkL at h
  split at h
  · rename_i hl; cases h; exact ⟨hl, rfl⟩
  · cases h
theorem new_tup {K : PySem.W.Frag} {H : Hp} {ι : List Addr} {Hd Hd' : HD} {xs : List D} {vs : List V} {d : D} {Q : VK} (hr : HRep K H ι Hd) (r : Paired (Rep K H ι) xs vs) (e : mkT xs Hd = some (d, Hd')) (q : QE K H ι d Hd' Q) :
    vs.length ≤ sizeLine ∧ ∀ p, H p = none → Q (.ref p) (upd H p (.tup vs)) := by
  obtain ⟨hl, e⟩ := mkT_some e
  cases e
  refine ⟨by rw [← Prd.len r]; exact hl, fun p hp => ?_⟩
  exact q _ _ ι (Le.fresh hp _) (hr.tup hp _) (rep_tup.mpr ⟨p, vs, rfl, SqT.of upd_same, Prd.mono (Le.fresh hp _) r⟩)
theorem new_lst {K : PySem.W.Frag} {H : Hp} {ι : List Addr} {Hd Hd' : HD} {xs : List D} {vs : List V} {d : D} {Q : VK} (hr : HRep K H ι Hd) (r : Paired (Rep K H ι) xs vs) (e : mkL xs Hd = some (d, Hd')) (q : QE K H ι d Hd' Q) :
    vs.length ≤ sizeLine ∧ ∀ p, H p = none → Q (.ref p) (upd H p (.lst vs)) := by
  obtain ⟨hl, e⟩ := mkL_some e
  cases e
  refine ⟨by rw [← Prd.len r]; exact hl, fun p hp => ?_⟩
  refine q _ _ (ι ++ [p]) (Le.fresh1 hp _) (hr.new hp ⟨vs, upd_same, Prd.mono (Le.fresh1 hp _) r⟩) (rep_ref.mpr ⟨p, rfl, ?_⟩)
  rw [← hr.len]; simp
noncomputable def eTup (f : AF) : EF := fun σ H => (f σ H).bind fun p => mkT p.1 p.2
noncomputable def eLst (f : AF) : EF := fun σ H => (f σ H).bind fun p => mkL p.1 p.2
theorem pef_tup {f : AF} {x1} (h : PAf X es f) : PEf X (.Tuple es x1 pos) (eTup f) := by
  refine PEi (pe_tup h) fun σ H Q zz => ?_
  obtain ⟨ι, σd, Hd, d, Hd', s, hr, e, q⟩ := zz
  obtain ⟨⟨x, H1⟩, e1, e⟩ := Option.bind_eq_some_iff.mp e
  exact ⟨ι, σd, Hd, x, H1, s, hr, e1, fun vs H' ι' l h r => new_tup h r e fun v2 H2 ι2 l2 h2 r2 => q v2 H2 ι2 (l.trans l2) h2 r2⟩
theorem pef_lst {f : AF} (h : PAf X es f) : PEf X (.List es pos) (eLst f) := by
  refine PEi (pe_lst h) fun σ H Q zz => ?_
  obtain ⟨ι, σd, Hd, d, Hd', s, hr, e, q⟩ := zz
  obtain ⟨⟨x, H1⟩, e1, e⟩ := Option.bind_eq_some_iff.mp e
  exact ⟨ι, σd, Hd, x, H1, s, hr, e1, fun vs H' ι' l h r => new_lst h r e fun v2 H2 ι2 l2 h2 r2 => q v2 H2 ι2 (l.trans l2) h2 r2⟩
noncomputable def eCB (g : FF) (f : AF) : EF := fun σ H => (f σ H).bind fun p => g p.1 p.2
theorem rd_cb {f : AF} {g : FF} {σ : L2.St} {H : Hp} {Q : VK} {K : PySem.W.Frag} (h : rdE K (eCB g f) σ H Q) : tCB (rdC K g) (rdA K f) σ H Q := by
  obtain ⟨ι, σd, Hd, d, Hd', s, hr, e, q⟩ := h
  obtain ⟨⟨x, H1⟩, e1, e⟩ := Option.bind_eq_some_iff.mp e
  exact ⟨ι, σd, Hd, x, H1, s, hr, e1, fun vs H' ι' l h r => ⟨ι', x, H1, d, Hd', h, r, e, fun v2 H2 ι2 l2 h2 r2 => q v2 H2 ι2 (l.trans l2) h2 r2⟩⟩
theorem pef_callB {x : Str} {id : String} {g : FF} {f : AF} {p : Pos} (hc : CallF X (.builtin id) g) (hg : Gl X x) (hm : X.mg x = none) (hv : bootBuiltins x = some (.builtin id)) (ha : PAf X (e :: es) f) (hn : x ≠ "__name__" := by decide) (hdb : (x == ("__debug__" : Str)) = false := by decide)
    (he : starEach (e :: es) X.env = (false, eval e X.env) :: starEach es X.env := by exact star_cons rfl) (hpl : (backTo pos (starEach es X.env)).any (·.1) = false := by exact star_any rfl) : PEf X (.Call (.Name x p) (e :: es) [] pos) (eCB g f) :=
  PEi (pe_callB hc hg hm hv ha hn hdb he hpl) fun _ _ _ h => rd_cb h
theorem pef_callTy {x : Str} {T : String} {g : FF} {f : AF} {p : Pos} (hc : CallF X (.type T) g) (hg : Gl X x) (hm : X.mg x = none) (hv : bootBuiltins x = some (.type T)) (ha : PAf X (e :: es) f) (hn : x ≠ "__name__" := by decide) (hdb : (x == ("__debug__" : Str)) = false := by decide)
    (he : starEach (e :: es) X.env = (false, eval e X.env) :: starEach es X.env := by exact star_cons rfl) (hpl : (backTo pos (starEach es X.env)).any (·.1) = false := by exact star_any rfl) : PEf X (.Call (.Name x p) (e :: es) [] pos) (eCB g f) :=
  PEi (pe_callTy hc hg hm hv ha hn hdb he hpl) fun _ _ _ h => rd_cb h
noncomputable def spF (K : PySem.W.Frag) (n : Nat) (F : FF) : Sp := fun vs H Q _ => ∃ ι ds Hd d Hd', ds.length = n ∧ HRep K H ι Hd ∧ Paired (Rep K H ι) ds vs ∧ F ds Hd = some (d, Hd') ∧ QE K H ι d Hd' Q
noncomputable def eCall (n : Nat) (F : FF) (f : AF) : EF := fun σ H => (f σ H).bind fun p => if p.1.length = n then F p.1 p.2 else none
theorem pef_call {k n : Nat} {f : Addr} {fd : FuncData} {ps : List Str} {x : Str} {p : Pos} {F : FF} {fa : AF} (G : FnOk X.prog X.w X.K X.mg X.base CX0 k f fd ps (spF X.K n F)) (hr : Room k X.A) (hg : Gl X x) (hm : X.mg x = some (.ref f)) (hk : PySem.W.keepIn X.K (.ref f) = true)
    (hb : Binds X.K fd ps []) (ha : PAf X (e :: es) fa) (hdb : (x == ("__debug__" : Str)) = false := by decide) (he : starEach (e :: es) X.env = (false, eval e X.env) :: starEach es X.env := by exact star_cons rfl) (hpl : (backTo pos (starEach es X.env)).any (·.1) = false := by exact star_any rfl) :
    PEf X (.Call (.Name x p) (e :: es) [] pos) (eCall n F fa) := by
  refine PEi (pe_call (E := E0) G hr hg hm hk hb .nil pass0 ha hdb he hpl) fun σ H Q zz => ?_
  obtain ⟨ι, σd, Hd, d, Hd', s, hr, e, q⟩ := zz
  obtain ⟨⟨x, H1⟩, e1, e⟩ := Option.bind_eq_some_iff.mp e
  refine ⟨ι, σd, Hd, x, H1, s, hr, e1, fun vs H' ι' l h r => ?_⟩
  dsimp only at e
  split at e
  · rename_i hl
    exact ⟨ι', x, H1, d, Hd', hl, h, by simpa using r, e, fun v2 H2 ι2 l2 h2 r2 => q v2 H2 ι2 (l.trans l2) h2 r2⟩
  · cases e
noncomputable def isLst : D → HD → Bool
  | .ref n, H => match H[n]? with
    | some (.lst _) => true
    | _ => false
  | _, _ => false
theorem isLst_ty {K : PySem.W.Frag} {H : Hp} {ι : List Addr} {Hd : HD} {d : D} {v : V} (hr : HRep K H ι Hd) (r : Rep K H ι d v) (e : isLst d Hd = true) : tyV K "list" v H := by
  cases d with
  | ref n =>
    obtain ⟨ad, rfl, h⟩ := rep_ref.mp r
    simp only [isLst] at e
    split at e
    · rename_i xs ho
      obtain ⟨vs, h1, p⟩ := hr.obj n ad _ h ho
      exact .inl ⟨rfl, vs, SqL.of h1⟩
    · cases e
  | _ => simp [isLst] at e
noncomputable def eLM (g : D → List D → HD → Option (D × HD)) (fo : EF) (f : AF) : EF := fun σ H => (fo σ H).bind fun o => if isLst o.1 o.2 = true then (f σ o.2).bind fun p => g o.1 p.1 p.2 else none
theorem pef_lm {o : Expr} {name : Str} {apos cpos : Pos} {id : String} {g : D → List D → HD → Option (D × HD)} {fo : EF} {f : AF} (slot : Slot "list" name id) (hty : typeOf (.builtin id) = pure (.type "method_descriptor")) (hm : MtF X id g) (ho : PEf X o fo) (ha : PAf X (e :: es) f)
    (hbase : attributeBase o name X.env (eval o X.env) = eval o X.env := by rfl)
    (hfew : ((backTo cpos (starEach (e :: es) X.env)).all (fun x => !x.1) && (backToKw cpos (keywordEach [] X.env)).all (fun x => x.1.isSome)
      && decide ((e :: es).length + ([] : List Keyword).length + (if ([] : List Keyword).isEmpty then 0 else 1) < 30)) = true := by exact star_few rfl (by decide))
    (hline : (apos.endLine == cpos.line) = true := by rfl) (hs : starEach (e :: es) X.env = (false, eval e X.env) :: starEach es X.env := by exact star_cons rfl) (hplain : (backTo cpos (starEach es X.env)).any (·.1) = false := by exact star_any rfl) :
    PEf X (.Call (.Attribute o name apos) (e :: es) [] cpos) (eLM g fo f) := by
  refine PEi (pe_bm PySem.F.plainAttrs_list slot hty hm ho ha hbase hfew hline hs hplain) fun σ H Q zz => ?_
  obtain ⟨ι, σd, Hd, d, Hd', s, hr, e, q⟩ := zz
  obtain ⟨⟨x, H1⟩, e1, e⟩ := Option.bind_eq_some_iff.mp e
  dsimp only at e
  split at e
  · rename_i hl
    obtain ⟨⟨y, H2⟩, e2, e⟩ := Option.bind_eq_some_iff.mp e
    exact ⟨ι, σd, Hd, x, H1, s, hr, e1, fun v1 H1' ι1 l1 h1 r1 => ⟨isLst_ty h1 r1 hl, ι1, σd, H1, y, H2, s.mono l1, h1, e2, fun vs H2' ι2 l2 h2 r2 =>
      ⟨ι2, x, y, H2, d, Hd', h2, r1.mono l2, r2, e, fun v H' ι' l h r => q v H' ι' ((l1.trans l2).trans l) h r⟩⟩⟩
  · cases e
noncomputable def sNil : SF := fun σ H => some (.nx, σ, H)
noncomputable def sSeq (f g : SF) : SF := fun σ H => (f σ H).bind fun r => match r.1 with
  | .nx => g r.2.1 r.2.2
  | _ => some r
theorem pssf_nil : PSsf X [] sNil := by
  refine PSsi pss_nil fun E σ H zz => ?_
  obtain ⟨ι, σd, Hd, fl, σd', Hd', s, hr, e, q⟩ := zz
  cases e
  exact q σ H ι Le.refl hr s
theorem pssf_cons {f g : SF} (h1 : PSf X st f) (h2 : PSsf X sts g) : PSsf X (st :: sts) (sSeq f g) := by
  refine PSsi (pss_cons h1 h2) fun E σ H zz => ?_
  obtain ⟨ι, σd, Hd, fl, σd', Hd', s, hr, e, q⟩ := zz
  obtain ⟨⟨f1, σ1, H1⟩, e1, e⟩ := Option.bind_eq_some_iff.mp e
  refine ⟨ι, σd, Hd, f1, σ1, H1, s, hr, e1, fun σ' H' ι' l h ss => ?_⟩
  cases f1 with
  | nx => exact ⟨ι', σ1, H1, fl, σd', Hd', ss, h, e, fun σ2 H2 ι2 l2 h2 s2 => q σ2 H2 ι2 (l.trans l2) h2 s2⟩
  | bk => cases e; exact q σ' H' ι' l h ss
  | ct => cases e; exact q σ' H' ι' l h ss
  | rt d => cases e; exact q σ' H' ι' l h ss
noncomputable def sRet (f : EF) : SF := fun σ H => (f σ H).map fun p => (.rt p.1, σ, p.2)
theorem psf_ret {f : EF} (he : PEf X e f) : PSf X (.Return (some e) pos) (sRet f) := by
  refine PSi (ps_ret he) fun E σ H zz => ?_
  obtain ⟨ι, σd, Hd, fl, σd', Hd', s, hr, e, q⟩ := zz
  obtain ⟨⟨x, H1⟩, e1, e⟩ := Option.map_eq_some_iff.mp e
  cases e
  exact ⟨ι, σd, Hd, x, H1, s, hr, e1, fun v H' ι' l h r => q σ H' ι' l h (s.mono l) v r⟩
noncomputable def sExpr (f : EF) : SF := fun σ H => (f σ H).map fun p => (.nx, σ, p.2)
theorem psf_expr {f : EF} (he : PEf X e f) (hs : swapsWith e none pos.line X.env = pure false := by rfl) : PSf X (.Expr e pos) (sExpr f) := by
  refine PSi (ps_expr he hs) fun E σ H zz => ?_
  obtain ⟨ι, σd, Hd, fl, σd', Hd', s, hr, e, q⟩ := zz
  obtain ⟨⟨x, H1⟩, e1, e⟩ := Option.map_eq_some_iff.mp e
  cases e
  exact ⟨ι, σd, Hd, x, H1, s, hr, e1, fun v H' ι' l h r => q σ H' ι' l h (s.mono l)⟩
noncomputable def sIf (t : TF) (f g : SF) : SF := fun σ H => (t σ H).bind fun p => if p.1 = true then f σ p.2 else g σ p.2
theorem psf_if {t : TF} {f g : SF} {as bs : List Stmt} (hc : PTf X c t) (ha : PSsf X as f) (hb : PSsf X bs g) : PSf X (.If c as bs pos) (sIf t f g) := by
  refine PSi (ps_if hc ha hb) fun E σ H zz => ?_
  obtain ⟨ι, σd, Hd, fl, σd', Hd', s, hr, e, q⟩ := zz
  obtain ⟨⟨x, H1⟩, e1, e⟩ := Option.bind_eq_some_iff.mp e
  refine ⟨ι, σd, Hd, x, H1, s, hr, e1, fun H' ι' l h => ?_⟩
  cases x with
  | true =>
    rw [if_pos rfl]
    exact ⟨ι', σd, H1, fl, σd', Hd', s.mono l, h, by simpa using e, fun σ2 H2 ι2 l2 h2 s2 => q σ2 H2 ι2 (l.trans l2) h2 s2⟩
  | false =>
    rw [if_neg (by simp)]
    exact ⟨ι', σd, H1, fl, σd', Hd', s.mono l, h, by simpa using e, fun σ2 H2 ι2 l2 h2 s2 => q σ2 H2 ι2 (l.trans l2) h2 s2⟩
noncomputable def sSet (i : Nat) (f : EF) : SF := fun σ H => (f σ H).map fun p => (.nx, σ.set i (some p.1), p.2)
theorem psf_set {i : Nat} {x : Str} {f : EF} {pos' : Pos} (hN : X.N.Nodup) (hi : X.N[i]? = some x) (hx : Loc X.env.scope x) (he : PEf X e f) (hs : swapsWith e (some (.Name x pos')) pos.line X.env = pure false := by rfl) (hf : X.fn x = true ∨ X.env.scope.names.lookup x = some .local := by first | exact .inl rfl | exact .inr rfl | assumption) :
    PSf X (.Assign [.Name x pos'] e pos) (sSet i f) := by
  refine PSi (ps_set hN hi hx he hs hf) fun E σ H zz => ?_
  obtain ⟨ι, σd, Hd, fl, σd', Hd', s, hr, e, q⟩ := zz
  obtain ⟨⟨x, H1⟩, e1, e⟩ := Option.map_eq_some_iff.mp e
  cases e
  exact ⟨ι, σd, Hd, x, H1, s, hr, e1, fun v H' ι' l h r => q _ H' ι' l h ((s.mono l).set r i)⟩
noncomputable def gNm (i : Nat) : GF := fun d σ H => some (σ.set i (some d), H)
theorem pgf_name {i : Nat} {x : Str} (hN : X.N.Nodup) (hi : X.N[i]? = some x) (hx : Loc X.env.scope x) (hf : X.fn x = true ∨ X.env.scope.names.lookup x = some .local := by first | exact .inl rfl | exact .inr rfl | assumption) : PGf X (.Name x pos) (gNm i) := by
  refine PGi (pg_name hN hi hx hf) fun v σ H Q zz => ?_
  obtain ⟨ι, σd, Hd, d, σd', Hd', s, hr, r, e, q⟩ := zz
  cases e
  exact q _ H ι Le.refl hr (s.set r i)
noncomputable abbrev FSet := D → D → D → HD → Option HD
noncomputable def rdSet (K : PySem.W.Frag) (g : FSet) : TSet := fun o i v H Q => ∃ ι od id vd Hd Hd', HRep K H ι Hd ∧ Rep K H ι od o ∧ Rep K H ι id i ∧ Rep K H ι vd v ∧ g od id vd Hd = some Hd' ∧ ∀ H' ι', Le K H ι H' ι' → HRep K H' ι' Hd' → Q H'
noncomputable def PSetf (X : Cx) (g : FSet) : Prop := PSet X (rdSet X.K g)
noncomputable def gSb (fo fi : EF) (g : FSet) : GF := fun d σ H => (fo σ H).bind fun o => (fi σ o.2).bind fun i => (g o.1 i.1 d i.2).map fun H' => (σ, H')
theorem pgf_sub {o i : Expr} {fo fi : EF} {g : FSet} (ho : PEf X o fo) (hi : PEf X i fi) (hs : PSetf X g)
    (ha : ∀ v, assign (.Subscript o i pos) X.env v = (do
      let ov ← holding [v] (eval o X.env)
      let iv ← holding [v, ov] (eval i X.env)
      standAt pos
      holding [v, ov, iv] (setItem ov iv v)
      release [v, ov, iv] []) := by intro _; rfl) : PGf X (.Subscript o i pos) (gSb fo fi g) := by
  refine PGi (pg_sub ho hi hs ha) fun v σ H Q zz => ?_
  obtain ⟨ι, σd, Hd, d, σd', Hd', s, hr, r, e, q⟩ := zz
  obtain ⟨⟨x, H1⟩, e1, e⟩ := Option.bind_eq_some_iff.mp e
  obtain ⟨⟨y, H2⟩, e2, e⟩ := Option.bind_eq_some_iff.mp e
  obtain ⟨H3, e3, e⟩ := Option.map_eq_some_iff.mp e
  obtain ⟨rfl, rfl⟩ := Prod.mk.inj e
  exact ⟨ι, σd, Hd, x, H1, s, hr, e1, fun v1 H1' ι1 l1 h1 r1 => ⟨ι1, σd, H1, y, H2, s.mono l1, h1, e2, fun v2 H2' ι2 l2 h2 r2 =>
    ⟨ι2, x, y, d, H2, H3, h2, r1.mono l2, r2, r.mono (l1.trans l2), e3, fun H' ι' l h => q σ H' ι' ((l1.trans l2).trans l) h (s.mono ((l1.trans l2).trans l))⟩⟩⟩
noncomputable abbrev GFs := List D → SD → HD → Option (SD × HD)
noncomputable def rdGs (K : PySem.W.Frag) (g : GFs) : TGs := fun vs σ H Q => ∃ ι σd Hd ds σd' Hd', SRep K H ι σ σd ∧ HRep K H ι Hd ∧ Paired (Rep K H ι) ds vs ∧ g ds σd Hd = some (σd', Hd') ∧
  ∀ σ' H' ι', Le K H ι H' ι' → HRep K H' ι' Hd' → SRep K H' ι' σ' σd' → Q σ' H'
noncomputable def PGsf (X : Cx) (ts : List Expr) (g : GFs) : Prop := PGs X ts (rdGs X.K g)
noncomputable def gNl : GFs := fun ds σ H => match ds with
  | [] => some (σ, H)
  | _ => none
noncomputable def gCn (g : GF) (h : GFs) : GFs := fun ds σ H => match ds with
  | d :: r => (g d σ H).bind fun p => h r p.1 p.2
  | [] => none
theorem PGsi {ts : List Expr} {t t' : TGs} (h : PGs X ts t) (i : ∀ v σ H Q, t' v σ H Q → t v σ H Q) : PGs X ts t' := fun pins s σ H v u Q I r q => h pins s σ H v u Q I r (i v σ H Q q)
theorem pgsf_nil : PGsf X [] gNl := by
  refine PGsi pgs_nil fun vs σ H Q zz => ?_
  obtain ⟨ι, σd, Hd, ds, σd', Hd', s, hr, r, e, q⟩ := zz
  cases r with
  | nil => cases e; exact ⟨rfl, q σ H ι Le.refl hr s⟩
  | cons _ _ => cases e
theorem pgsf_cons {g : GF} {h : GFs} (h1 : PGf X e g) (h2 : PGsf X es h) (hs : (assignEach (e :: es) X.env).map (·.2) = assign e X.env :: (assignEach es X.env).map (·.2) := by rfl) : PGsf X (e :: es) (gCn g h) := by
  refine PGsi (pgs_cons h1 h2 hs) fun vs σ H Q zz => ?_
  obtain ⟨ι, σd, Hd, ds, σd', Hd', s, hr, r, e, q⟩ := zz
  cases r with
  | nil => cases e
  | cons r rr =>
    obtain ⟨⟨σ1, H1⟩, e1, e⟩ := Option.bind_eq_some_iff.mp e
    exact ⟨_, _, rfl, ι, σd, Hd, _, σ1, H1, s, hr, r, e1, fun σ' H' ι' l h ss => ⟨ι', σ1, H1, _, σd', Hd', ss, h, Prd.mono l rr, e, fun σ2 H2 ι2 l2 h2 s2 => q σ2 H2 ι2 (l.trans l2) h2 s2⟩⟩
noncomputable def gTp (n : Nat) (g : GFs) : GF := fun d σ H => match d with
  | .tup ds => if ds.length = n then g ds σ H else none
  | _ => none
theorem pgf_tup {k n : Nat} {g : GFs} (hc : X.calm = true) (h : PGsf X es g) (hn : (assignEach es X.env).length = n := by rfl) (hst : (assignEach es X.env).findIdx? (·.1) = none := by rfl) : PGf X (.Tuple es k pos) (gTp n g) := by
  refine PGi (pg_tup hc h hn hst) fun v σ H Q zz => ?_
  obtain ⟨ι, σd, Hd, d, σd', Hd', s, hr, r, e, q⟩ := zz
  cases d with
  | tup ds =>
    obtain ⟨a, vs, rfl, h1, p⟩ := rep_tup.mp r
    simp only [gTp] at e
    split at e
    · rename_i hl
      exact ⟨a, vs, rfl, h1, by rw [← Prd.len p]; exact hl, ι, σd, Hd, ds, σd', Hd', s, hr, p, e, q⟩
    · cases e
  | _ => simp [gTp] at e
noncomputable def sAsg (f : EF) (g : GF) : SF := fun σ H => (f σ H).bind fun p => (g p.1 σ p.2).map fun q => (.nx, q.1, q.2)
theorem psf_asg {tg : Expr} {f : EF} {g : GF} (he : PEf X e f) (hg : PGf X tg g) (hs : swapsWithSole [tg] e pos.line X.env = pure false := by rfl) (hw : swappedStores [tg] e X.env = pure none := by rfl)
    (h1 : (assignEach [tg] X.env).map (·.2) = [assign tg X.env] := by rfl) : PSf X (.Assign [tg] e pos) (sAsg f g) := by
  refine PSi (ps_asg he hg hs hw h1) fun E σ H zz => ?_
  obtain ⟨ι, σd, Hd, fl, σd', Hd', s, hr, e, q⟩ := zz
  obtain ⟨⟨x, H1⟩, e1, e⟩ := Option.bind_eq_some_iff.mp e
  obtain ⟨⟨σ2, H2⟩, e2, e⟩ := Option.map_eq_some_iff.mp e
  cases e
  exact ⟨ι, σd, Hd, x, H1, s, hr, e1, fun v H' ι' l h r => ⟨ι', σd, H1, x, σ2, H2, s.mono l, h, r, e2, fun σ3 H3 ι3 l3 h3 s3 => q σ3 H3 ι3 (l.trans l3) h3 s3⟩⟩
noncomputable abbrev OwnD := List (Nat × DO)
noncomputable def okOwn (own : OwnD) (H : HD) : Prop := ∀ p ∈ own, H[p.1]? = some p.2
noncomputable abbrev ItF := SD → HD → Option ((List D × OwnD) × HD)
structure ItRep (K : PySem.W.Frag) (J : It) (xs : List D) (own : OwnD) (H0 : Hp) (ι0 : List Addr) : Prop where
  go : ∀ i H ι Hd, Le K H0 ι0 H ι → HRep K H ι Hd → okOwn own Hd → i < xs.length → J.go i H
  yld : ∀ i H ι Hd d x H', Le K H0 ι0 H ι → HRep K H ι Hd → okOwn own Hd → xs[i]? = some d → J.yld i H x H' → ∃ ι', Le K H ι H' ι' ∧ HRep K H' ι' Hd ∧ Rep K H' ι' d x
  stop : ∀ i H ι Hd, Le K H0 ι0 H ι → HRep K H ι Hd → okOwn own Hd → xs.length ≤ i → J.stop i H
noncomputable def rdI (K : PySem.W.Frag) (f : ItF) : TI := fun σ H R => ∃ ι σd Hd xs own Hd', SRep K H ι σ σd ∧ HRep K H ι Hd ∧ f σd Hd = some ((xs, own), Hd') ∧ ∀ J H' ι', Le K H ι H' ι' → HRep K H' ι' Hd' → ItRep K J xs own H' ι' → R J H'
noncomputable def PIf (X : Cx) (tg iter : Expr) (f : ItF) : Prop := PI X tg iter (rdI X.K f)
theorem PIi {tg iter : Expr} {t t' : TI} (h : PI X tg iter t) (i : ∀ σ H R, t' σ H R → t σ H R) : PI X tg iter t' := fun pins s σ H R I q => h pins s σ H R I (i σ H R q)
open Classical in
noncomputable def forL (own : OwnD) (g : GF) (body : SF) : List D → SF
  | [], σ, H => if okOwn own H then some (.nx, σ, H) else none
  | x :: r, σ, H => if okOwn own H then (g x σ H).bind fun p => (body p.1 p.2).bind fun q => match q.1 with
      | .nx => forL own g body r q.2.1 q.2.2
      | .ct => forL own g body r q.2.1 q.2.2
      | .bk => some (.nx, q.2.1, q.2.2)
      | .rt d => some (.rt d, q.2.1, q.2.2)
    else none
noncomputable def sFor (it : ItF) (g : GF) (body : SF) : SF := fun σ H => (it σ H).bind fun p => forL p.1.2 g body p.1.1 σ p.2
theorem psf_for {tg iter : Expr} {body : List Stmt} {f : ItF} {g : GF} {b : SF} (hp : PassesOwn (model X.prog X.w) X.A X.env X.xe) (hc : X.calm = true) (hi : PIf X tg iter f) (hg : PGf X tg g) (hb : PSsf X body b)
    (hs : ∀ x, foldedSetIterable iter X.env x = pure x := by intro _; rfl) : PSf X (.For tg iter body [] pos) (sFor f g b) := by
  refine PSi (ps_for hp hc hi hg hb hs) fun E σ H zz => ?_
  obtain ⟨ι, σd, Hd, fl, σf, Hf, s, hr, e, q⟩ := zz
  obtain ⟨⟨⟨xs, own⟩, H1⟩, e1, e⟩ := Option.bind_eq_some_iff.mp e
  refine ⟨ι, σd, Hd, xs, own, H1, s, hr, e1, fun J H0 ι0 l0 h0 it => ?_⟩
  refine ⟨fun i m σ H => m = xs.length - i ∧ i ≤ xs.length ∧ ∃ ι σd Hd, Le X.K H0 ι0 H ι ∧ SRep X.K H ι σ σd ∧ HRep X.K H ι Hd ∧ forL own g b (xs.drop i) σd Hd = some (fl, σf, Hf),
    ⟨xs.length, by simp, Nat.zero_le _, ι0, σd, H1, Le.refl, s.mono l0, h0, by simpa using e⟩, ?_⟩
  rintro i m σ2 H2 ⟨rfl, hi, ι2, σd2, Hd2, l2, s2, h2, e2⟩
  by_cases hlt : i < xs.length
  · have ed : xs.drop i = xs[i] :: xs.drop (i + 1) := List.drop_eq_getElem_cons hlt
    rw [ed, forL] at e2
    split at e2
    · rename_i ok
      obtain ⟨⟨σ3, H3⟩, e3, e2⟩ := Option.bind_eq_some_iff.mp e2
      obtain ⟨⟨f4, σ4, H4⟩, e4, e2⟩ := Option.bind_eq_some_iff.mp e2
      refine .inr ⟨it.go i H2 ι2 Hd2 l2 h2 ok hlt, fun σ' H' => (xs.length - (i + 1) = xs.length - (i + 1) ∧ i + 1 ≤ xs.length ∧ ∃ ι σd Hd, Le X.K H0 ι0 H' ι ∧ SRep X.K H' ι σ' σd ∧ HRep X.K H' ι Hd ∧ forL own g b (xs.drop (i + 1)) σd Hd = some (fl, σf, Hf)),
        fun σ' H' p => ⟨_, by omega, p⟩, fun x H' y => ?_⟩
      obtain ⟨ι3, l3, h3, r3⟩ := it.yld i H2 ι2 Hd2 xs[i] x H' l2 h2 ok (by simp [hlt]) y
      refine ⟨ι3, σd2, Hd2, xs[i], σ3, H3, s2.mono l3, h3, r3, e3, fun σ5 H5 ι5 l5 h5 s5 => ?_⟩
      refine ⟨ι5, σ3, H3, f4, σ4, H4, s5, h5, e4, fun σ6 H6 ι6 l6 h6 s6 => ?_⟩
      have L : Le X.K H0 ι0 H6 ι6 := ((l2.trans l3).trans l5).trans l6
      cases f4 with
      | nx => exact ⟨rfl, hlt, ι6, σ4, H4, L, s6, h6, e2⟩
      | ct => exact ⟨rfl, hlt, ι6, σ4, H4, L, s6, h6, e2⟩
      | bk => cases e2; exact q σ6 H6 ι6 (l0.trans L) h6 s6
      | rt d => cases e2; exact q σ6 H6 ι6 (l0.trans L) h6 s6
    · cases e2
  · have hi' : i = xs.length := by omega
    rw [List.drop_eq_nil_of_le (by omega), forL] at e2
    split at e2
    · rename_i ok
      have e3 : (FD.nx, σd2, Hd2) = (fl, σf, Hf) := Option.some.inj e2
      obtain ⟨rfl, e4⟩ := Prod.mk.inj e3
      obtain ⟨rfl, rfl⟩ := Prod.mk.inj e4
      exact .inl ⟨it.stop i H2 ι2 _ l2 h2 ok (by omega), q σ2 H2 ι2 (l0.trans l2) h2 s2⟩
    · cases e2
end
noncomputable def runB (n N : Nat) (b : SF) : FF := fun ds H => if ds.length = n then (b (ds.map some ++ List.replicate (N - ds.length) none) H).bind fun r => match r.1 with
    | .rt d => some (d, r.2.2)
    | .nx => some (.non, r.2.2)
    | _ => none
  else none
section
variable {P : Program} {w : World} {K : PySem.W.Frag} {mg : Str → Option Value} {base : Heap}
theorem fn_f {x qual : Str} {st : Stmt} {f : Addr} {fd : FuncData} {N ps : List Str} {k : Nat} {b : SF} (F : Fun K x qual st f fd) (S : FnScope N ps (defScope st))
    (hb : ∀ (cdv : Value) (A : Around) (outer : List Env) (s : Shared) (H : Hp) (E : XK), Room k (A.deeper (envOfC qual (defScope st) s.heap.objs.size f cdv)) →
      PSsf (cxOf CX0 P w K mg base N qual (defScope st) f cdv A outer s H E).nox (defBody st) b) : FnOk P w K mg base CX0 (k + 1) f fd ps (spF K ps.length (runB ps.length N.length b)) := by
  refine F.ok S (fun vs H Q E h => ?_) (fun cdv A outer s H vs Q E hr h => ?_)
  · obtain ⟨ι, ds, Hd, d, Hd', hl, _, r, _⟩ := h
    rw [← Prd.len r]; exact hl
  · obtain ⟨ι, ds, Hd, d, Hd', hl, hh, r, e, q⟩ := h
    refine ⟨_, hb cdv A outer s H E hr, ?_⟩
    unfold runB at e
    rw [if_pos hl] at e
    obtain ⟨⟨fl, σ1, H1⟩, e1, e⟩ := Option.bind_eq_some_iff.mp e
    refine ⟨ι, _, Hd, fl, σ1, H1, ?_, hh, e1, fun σ' H' ι' l h ss => ?_⟩
    · refine ⟨by simp [L2.start, Prd.len r], fun i d0 h0 => ?_⟩
      unfold L2.start
      by_cases hi : i < ds.length
      · rw [List.getElem?_append_left (by simpa using hi), List.getElem?_map] at h0
        cases ed : ds[i]? with
        | none => rw [ed] at h0; cases h0
        | some d1 =>
          rw [ed] at h0
          cases h0
          obtain ⟨v, hv, rv⟩ := Prd.get r ed
          refine ⟨v, ?_, rv⟩
          rw [List.getElem?_append_left (by rw [List.length_map, ← Prd.len r]; exact hi), List.getElem?_map, hv]
          rfl
      · rw [List.getElem?_append_right (by simpa using hi), List.getElem?_replicate] at h0
        split at h0 <;> cases h0
    · cases fl with
      | rt d1 => cases e; exact fun v rv => q v H' ι' l h rv
      | nx => cases e; exact q .non H' ι' l h (by simp)
      | bk => cases e
      | ct => cases e
end
end DL
namespace DL
open PySem PySem.Spec PyProof.Rows L2
noncomputable def clOf (env : Env) : List (Str × NameKind) → List (Str × Addr) → List (Str × Addr)
  | [], cs => cs
  | (n, k) :: r, cs => clOf env r (if k = .free then (match env.cells.lookup n with | some a => (n, a) :: cs | none => cs) else cs)
theorem closure_eq (env : Env) (scope : Scope) (h : ∀ y ∈ scope.names, y.2 = .free → (env.cells.lookup y.1).isSome = true) : closureFor scope env = pure (clOf env scope.names []) := by
  have key : ∀ (ns : List (Str × NameKind)) (cs : List (Str × Addr)), (∀ y ∈ ns, y.2 = .free → (env.cells.lookup y.1).isSome = true) →
      (forIn ns cs fun (x : Str × NameKind) cs => match x with
        | (name, kind) => if (kind == .free) = true then (do let a ← cellOf env name; pure (ForInStep.yield ((name, a) :: cs))) else pure (ForInStep.yield cs) : Sem (List (Str × Addr))) = pure (clOf env ns cs) := by
    intro ns
    induction ns with
    | nil => intro cs _; rfl
    | cons x r ih =>
      intro cs hh
      obtain ⟨n, k⟩ := x
      have hr := ih
      rw [List.forIn_cons]
      by_cases hk : k = .free
      · subst hk
        have q := hh (n, .free) (by simp) rfl
        cases e : env.cells.lookup n with
        | none => rw [e] at q; cases q
        | some a =>
          have e2 : cellOf env n = pure a := by unfold cellOf; rw [e]
          simp only [beq_self_eq_true, if_true, e2, pure_bind, clOf, e]
          exact ih _ fun y hy => hh y (List.mem_cons_of_mem _ hy)
      · have hb : (k == NameKind.free) = false := by simpa using hk
        simp only [hb, Bool.false_eq_true, if_false, pure_bind, clOf, hk]
        exact ih _ fun y hy => hh y (List.mem_cons_of_mem _ hy)
  have e : closureFor scope env = ((forIn scope.names [] fun (x : Str × NameKind) cs => match x with
        | (name, kind) => if (kind == .free) = true then (do let a ← cellOf env name; pure (ForInStep.yield ((name, a) :: cs))) else pure (ForInStep.yield cs) : Sem (List (Str × Addr))) >>= pure) := rfl
  rw [e, bind_pure]
  exact key scope.names [] h
theorem clOf_sub (env : Env) : ∀ (ns : List (Str × NameKind)) (cs : List (Str × Addr)), (∀ x c, cs.lookup x = some c → env.cells.lookup x = some c) → ∀ x c, (clOf env ns cs).lookup x = some c → env.cells.lookup x = some c
  | [], cs, h => h
  | (n, k) :: r, cs, h => by
    unfold clOf
    refine clOf_sub env r _ ?_
    split
    · cases e : env.cells.lookup n with
      | none => exact h
      | some a =>
        intro x c q
        dsimp only at q
        rw [List.lookup_cons] at q
        split at q
        · rename_i hb
          have hb' : x = n := by simpa using hb
          subst hb'; cases q; exact e
        · exact h x c q
    · exact h
theorem clOf_has (env : Env) : ∀ (ns : List (Str × NameKind)) (cs : List (Str × Addr)) (x : Str), ((cs.lookup x).isSome = true ∨ ((x, NameKind.free) ∈ ns ∧ (env.cells.lookup x).isSome = true)) → ((clOf env ns cs).lookup x).isSome = true
  | [], cs, x, h => by
    rcases h with h | ⟨h, _⟩
    · exact h
    · simp at h
  | (n, k) :: r, cs, x, h => by
    unfold clOf
    refine clOf_has env r _ x ?_
    by_cases hk : k = .free
    · rw [if_pos hk]
      cases e : env.cells.lookup n with
      | none =>
        rcases h with h | ⟨h, h2⟩
        · exact .inl h
        · rcases List.mem_cons.mp h with h | h
          · cases h; rw [e] at h2; cases h2
          · exact .inr ⟨h, h2⟩
      | some a =>
        dsimp only
        rw [List.lookup_cons]
        by_cases hx : x = n
        · subst hx; simp
        · have : (x == n) = false := by simpa using hx
          rw [this]
          rcases h with h | ⟨h, h2⟩
          · exact .inl h
          · rcases List.mem_cons.mp h with h | h
            · cases h; exact absurd rfl hx
            · exact .inr ⟨h, h2⟩
    · rw [if_neg hk]
      rcases h with h | ⟨h, h2⟩
      · exact .inl h
      · rcases List.mem_cons.mp h with h | h
        · cases h; exact absurd rfl hk
        · exact .inr ⟨h, h2⟩
theorem relabel_vis {env : Env} : ∀ {names : List (Str × NameKind)} {x : Str}, names.lookup x = some .free →
    ((names.map fun (n, k) => if (k == NameKind.free && env.scope.kind == .function && env.kindOf n == some .cell) then (n, NameKind.cell) else (n, k)).lookup x = some .cell ∨
     (names.map fun (n, k) => if (k == NameKind.free && env.scope.kind == .function && env.kindOf n == some .cell) then (n, NameKind.cell) else (n, k)).lookup x = some .free)
  | [], _, h => by simp at h
  | (n, k) :: r, x, h => by
    have ih := @relabel_vis env r x
    show List.lookup x ((if (k == NameKind.free && env.scope.kind == .function && env.kindOf n == some .cell) = true then (n, NameKind.cell) else (n, k)) :: _) = _ ∨ List.lookup x ((if (k == NameKind.free && env.scope.kind == .function && env.kindOf n == some .cell) = true then (n, NameKind.cell) else (n, k)) :: _) = _
    cases hx : x == n with
    | true =>
      simp only [List.lookup_cons, hx] at h
      cases h
      by_cases hc : (NameKind.free == NameKind.free && env.scope.kind == .function && env.kindOf n == some .cell) = true
      · rw [if_pos hc]; simp only [List.lookup_cons, hx]; simp
      · rw [if_neg hc]; simp only [List.lookup_cons, hx]; simp
    | false =>
      simp only [List.lookup_cons, hx] at h
      by_cases hc : (k == NameKind.free && env.scope.kind == .function && env.kindOf n == some .cell) = true
      · rw [if_pos hc]; simp only [List.lookup_cons, hx]; exact ih h
      · rw [if_neg hc]; simp only [List.lookup_cons, hx]; exact ih h
theorem relabel_free {env : Env} : ∀ {names : List (Str × NameKind)} {x : Str}, (∀ y ∈ names, y.2 ≠ .cell) →
    ((names.map fun (n, k) => if (k == NameKind.free && env.scope.kind == .function && env.kindOf n == some .cell) then (n, NameKind.cell) else (n, k)).lookup x = some .cell ∨
     (names.map fun (n, k) => if (k == NameKind.free && env.scope.kind == .function && env.kindOf n == some .cell) then (n, NameKind.cell) else (n, k)).lookup x = some .free) → (x, NameKind.free) ∈ names
  | [], _, _, h => by simp at h
  | (n, k) :: r, x, hn, h => by
    have ih := @relabel_free env r x (fun y hy => hn y (List.mem_cons_of_mem _ hy))
    have h : List.lookup x ((if (k == NameKind.free && env.scope.kind == .function && env.kindOf n == some .cell) = true then (n, NameKind.cell) else (n, k)) :: _) = _ ∨ List.lookup x ((if (k == NameKind.free && env.scope.kind == .function && env.kindOf n == some .cell) = true then (n, NameKind.cell) else (n, k)) :: _) = _ := h
    cases hx : x == n with
    | true =>
      have hx' : x = n := by simpa using hx
      subst hx'
      by_cases hc : (k == NameKind.free && env.scope.kind == .function && env.kindOf x == some .cell) = true
      · have hk : k = .free := by
          rw [Bool.and_eq_true, Bool.and_eq_true] at hc
          simpa using hc.1.1
        subst hk; simp
      · rw [if_neg hc] at h
        simp only [List.lookup_cons, hx] at h
        rcases h with h | h
        · cases h; exact absurd rfl (hn (x, .cell) (by simp))
        · cases h; simp
    | false =>
      refine List.mem_cons_of_mem _ (ih ?_)
      by_cases hc : (k == NameKind.free && env.scope.kind == .function && env.kindOf n == some .cell) = true
      · rw [if_pos hc] at h; simp only [List.lookup_cons, hx] at h; exact h
      · rw [if_neg hc] at h; simp only [List.lookup_cons, hx] at h; exact h
noncomputable def blk (X : Cx) (scope : Scope) (N : List Str) (cl : List (Str × Addr)) (C : Addr) (s : Shared) (H : Hp) (fp : List Addr) (pn : List (Addr × Obj)) : Cx where
  prog := X.prog
  w := X.w
  K := X.K
  mg := X.mg
  base := X.base
  A := X.A
  N := N
  s₀ := s
  H₀ := H
  env := compEnvC scope cl C X.env
  outer := X.stack
  stack := X.stack
  ex := fp
  fn := fun _ => false
  calm := X.calm
  pn := pn
  xe := fun _ _ => False
structure BlkOk (X : Cx) (scope : Scope) (x : Str) (cn : List Str) (ci : List Nat) : Prop where
  kind : scope.kind = .function
  nocell : ∀ y ∈ scope.names, y.2 ≠ .cell
  names : ∀ y ∈ scope.names, y.2 = .local → scope.names.lookup y.1 = some .local
  tgt : scope.names.lookup x = some .local
  free : ∀ y ∈ scope.names, y.2 = .free → (X.env.cells.lookup y.1).isSome = true
  nd : (x :: cn).Nodup
  len : ci.length = cn.length
  cap : ∀ (j : Nat) (y : Str), cn[j]? = some y → ∃ i, ci[j]? = some i ∧ X.N[i]? = some y ∧ scope.names.lookup y = some .free ∧ (X.env.kindOf y = some .cell ∨ X.env.kindOf y = some .free)
noncomputable def capS (ci : List Nat) (σ : L2.St) : L2.St := ci.map fun i => (σ[i]?).join
section
variable {X : Cx} {pins : List (Addr × Obj)} {σ : L2.St} {H : Hp} {s : Shared} {scope : Scope} {x : Str} {cn : List Str} {ci : List Nat} {fp : List Addr}
theorem inv_blk {h₁ : Heap} {tk : Nat} {o₁ : Obj} (I : Inv X pins σ H s) (B : BlkOk X scope x cn ci) (hf : ∀ b ∈ fp, FpOk X pins H b) (hlt : ∀ b ∈ fp, b < s.heap.objs.size)
    (hns : h₁.Ns s.heap.objs.size (fun _ => none)) (hsb : Heap.SameBut s.heap.objs.size (s.heap.push o₁) h₁) :
    Inv (blk X scope (x :: cn) (clOf X.env scope.names []) s.heap.objs.size s H fp (X.pn ++ pins)) [] (none :: capS ci σ) H { s with heap := h₁, toks := tk } := by
  have old : ∀ b o, s.heap.get? b = some o → h₁.get? b = some o := fun b o e => hsb.extBut b o (Nat.ne_of_lt (Heap.lt_size e)) (Heap.get?_push_of_some _ e)
  have sub := clOf_sub X.env scope.names [] (by intro x c h; simp at h)
  have has : ∀ y, (y, NameKind.free) ∈ scope.names → ∃ c, (clOf X.env scope.names []).lookup y = some c := fun y hy =>
    Option.isSome_iff_exists.mp (clOf_has X.env scope.names [] y (.inr ⟨hy, B.free _ hy rfl⟩))
  refine ⟨⟨I.ok.mod, B.kind, I.ok.glob, I.ok.blt, Nat.le_refl _, fun y z c h1 h2 => I.ok.inj y z c (sub y c h1) (sub z c h2), fun y hy => has y (relabel_free B.nocell hy), fun y c hy => absurd hy (by show ¬ (false = true); simp), I.ok.hd, I.ok.frames, .inl rfl,
      fun b hb => ⟨Nat.ne_of_lt (hlt b hb), fun y c e => (hf b hb).2.2.2.2.1 y c (sub y c e)⟩, I.bs, Nat.le_trans I.ok.bsz I.sz, fun b o e hb => ?_, fun b hb z => ?_, I.stack, I.stkFree⟩,
    rfl, I.bare, Un.kept old, ⟨_, hns, fun i y v h1 h2 h3 => ?_⟩, fun y c e => ?_, I.hok.fresh (Nat.le_refl _), fun y c e => I.freeC y c (sub y c e), fun p hp => ?_, I.hok.kept old, ?_⟩
  · rcases (hf b hb).2.2.2.1 with z | z
    · exact I.ok.noex b o e z
    · exact absurd (Nat.lt_of_lt_of_le (Heap.lt_size e) (Nat.le_trans I.ok.bsz z)) (Nat.lt_irrefl _)
  · exact (List.mem_cons.mp (I.stkSub b z)).elim (hf b hb).2.1 (hf b hb).2.2.1
  · cases i with
    | zero => simp at h2
    | succ j =>
      have h1' : cn[j]? = some y := by simpa [blk] using h1
      have h2' : (capS ci σ)[j]? = some (some v) := by simpa using h2
      obtain ⟨i, e1, e2, e3, e4⟩ := B.cap j y h1'
      have e5 : σ[i]? = some (some v) := by
        unfold capS at h2'
        rw [List.getElem?_map, e1] at h2'
        simp at h2'
        cases e : σ[i]? with
        | none => rw [e] at h2'; cases h2'
        | some o => rw [e] at h2'; simp at h2'; rw [h2']
      obtain ⟨m, hn, hl⟩ := I.loc
      have hv : Vis X.env.scope y := by
        rcases e4 with e4 | e4
        · exact .inr (.inl e4)
        · exact .inr (.inr e4)
      obtain ⟨u, r, l⟩ := hl i y v e2 e5 hv
      refine ⟨u, r, .inr ⟨relabel_vis e3, ?_⟩⟩
      obtain ⟨c, ec⟩ := has y (PySem.mem_of_lookup e3)
      refine ⟨c, ec, ?_⟩
      rcases l with ⟨l, _⟩ | ⟨_, c', ec', hc⟩
      · rcases e4 with e4 | e4 <;> rw [e4] at l <;> cases l
      · rw [sub y c ec] at ec'
        cases ec'
        obtain ⟨ob, q1, q2⟩ := hc
        exact ⟨ob, old _ _ q1, q2⟩
  · obtain ⟨v, ob, q1, q2⟩ := I.cell y c (sub y c e)
    exact ⟨v, ob, old _ _ q1, q2⟩
  · have hp' : p ∈ X.pn ++ pins := by simpa [blk] using hp
    obtain ⟨q1, q2, q3, q4, q5⟩ := I.pin p hp'
    refine ⟨old _ _ q1, q2, Nat.ne_of_lt (Heap.lt_size q1), fun z => ?_, q5⟩
    exact (List.mem_cons.mp (I.stkSub p.1 z)).elim q3 q4
  · simp [blk, capS, B.len]
noncomputable def PTs (X : Cx) (ifs : List Expr) (t : TT) : Prop :=
  ∀ (pins : List (Addr × Obj)) (s : Shared) (σ : L2.St) (H : Hp) (Q : Bool → Hp → Prop), Inv X pins σ H s → t σ H Q →
    wpAny (model X.prog X.w) X.A (forIn ifs true fun c r => if r = true then do let ok ← isTrue c X.env (eval c X.env); pure (ForInStep.yield ok) else pure (ForInStep.yield r)) (TP X pins σ Q) X.xe s
theorem pts_nil : PTs X [] (fun _ H Q => Q true H) := fun _ _ _ H _ I h => wpAny_tests_nil ⟨H, I, h⟩
theorem pts_one {c : Expr} {t : TT} (h : PT X c t) : PTs X [c] t := fun pins s σ H Q I q => wpAny_tests_one (h pins s σ H Q I q)
noncomputable def LcW (J : It) (ci : List Nat) (tt : TT) (te : TE) (σ : L2.St) (Q : VK) (H1 : Hp) : Prop := ∀ p, H1 p = none → ∃ W : Nat → Nat → List V → Hp → Prop, (∃ m, W 0 m [] (upd H1 p (.lst []))) ∧ ∀ i m ys H, W i m ys H →
  H p = some (.lst ys) ∧ ((J.stop i H ∧ Q (.ref p) H) ∨ (J.go i H ∧ ∀ v H', J.yld i H v H' → tt (some v :: capS ci σ) H' fun b H2 =>
    if b = true then te (some v :: capS ci σ) H2 fun y H3 => H3 p = some (.lst ys) ∧ ys.length < sizeLine ∧ ∃ m', m' < m ∧ W (i + 1) m' (ys ++ [y]) (upd H3 p (.lst (ys ++ [y])))
    else ∃ m', m' < m ∧ W (i + 1) m' ys H2))
structure Gone (X : Cx) (pins : List (Addr × Obj)) (H : Hp) (s : Shared) (C : Addr) : Prop where
  ns : ∃ m, s.heap.Ns C m
  free : H C = none
  nl : C ≠ X.env.locals
  up : X.s₀.heap.objs.size ≤ C
  nc : ∀ x c, X.env.cells.lookup x = some c → c ≠ C
  np : ∀ p ∈ X.pn ++ pins, p.1 ≠ C
theorem Gone.go {σ : L2.St} {h' : Heap} {C : Addr} (g : Gone X pins H s C) (I : Inv X pins σ H s) (hs : Heap.SameBut C s.heap h') : Inv X pins σ H { s with heap := h' } :=
  I.turned (t' := s.toks) (fun b o hb e => hs.extBut b o hb e) g.free g.nl (.inr g.up) g.nc g.np
theorem lc_block {elt iter : Expr} {px pos : Pos} {ifs : List Expr} {tt : TT} {te : TE} {Q : VK} {E : Value → Shared → Prop} {RR : Value → Addr → Result → Shared → Prop} {it : Addr} {tn : Nat → Heap → Prop} {J : It}
    (I : Inv X pins σ H s) (hc : X.calm = true) (B : BlkOk X scope x cn ci) (T : Turn X.prog X.w X.K (.Name x px) J fp it tn) (st : tn 0 s.heap) (hf : ∀ b ∈ fp, FpOk X pins H b)
    (ht : ∀ cl C s H fp pn, PTs (blk X scope (x :: cn) cl C s H fp pn) ifs tt) (he : ∀ cl C s H fp pn, PE (blk X scope (x :: cn) cl C s H fp pn) elt te)
    (hw : LcW J ci tt te σ Q H) (hRR : ∀ p C H' s', Inv X pins σ H' s' → Gone X pins H' s' C → Q (.ref p) H' → RR (.ref p) C (.ok .next) s') :
    wpAny (model X.prog X.w) X.A (newList []) (fun acc s₃ => wpAny (model X.prog X.w) X.A (newFunctionEnv scope X.env.globals (clOf X.env scope.names []) [] X.env.qual none .none (some X.env)) (fun cenv s₄ =>
      codeAny (model X.prog X.w) X.A (.compStart (.ListComp elt [⟨.Name x px, iter, ifs, 0⟩] scope pos) 0 (.ref it) acc { cenv with scope := relabel scope X.env }) (RR acc cenv.locals) s₄) E s₃) E s := by
  have hp0 : H s.heap.objs.size = none := I.hok.fresh (Nat.le_refl _)
  obtain ⟨W, ⟨m0, w0⟩, turn⟩ := hw _ hp0
  refine wpAny_newObj_type (wpAny_newFunctionEnv B.nocell (by intro y hy; simp at hy) (fun h₁ hns₁ hsb₁ => ?_) B.kind)
  dsimp only at hns₁ hsb₁ ⊢
  have I3 : Inv X pins σ (upd H s.heap.objs.size (.lst [])) { s with heap := s.heap.push { cls := .type "list", dict := none, data := .seq ([] : List Value).toArray } } :=
    I.laid (t' := s.toks) (fun b u e => Heap.get?_push_of_some _ e) (Nat.le_refl _) ⟨Nat.zero_le _, [], 0, .nil, Heap.get?_push_size _ rfl⟩
  generalize hH3 : s.heap.push { cls := .type "list", dict := none, data := .seq ([] : List Value).toArray } = hp3 at hns₁ hsb₁ I3 ⊢
  have flt : ∀ b ∈ fp, b < s.heap.objs.size := fun b hb => by
    obtain ⟨o, e, _⟩ := T.obj 0 _ st b hb
    exact Heap.lt_size e
  have sz3 : hp3.objs.size = s.heap.objs.size + 1 := by rw [← hH3, Heap.size_push]
  have f3 : ∀ b ∈ fp, FpOk X pins (upd H s.heap.objs.size (.lst [])) b := fun b hb => ⟨by rw [upd_ne (Nat.ne_of_lt (flt b hb))]; exact (hf b hb).1, (hf b hb).2⟩
  have old3 : ∀ b o, s.heap.get? b = some o → hp3.get? b = some o := fun b o e => by rw [← hH3]; exact Heap.get?_push_of_some _ e
  have I4 := inv_blk (s := { s with heap := hp3 }) (tk := s.toks + ([] : List (Str × Value)).length) I3 B f3 (fun b hb => by show b < hp3.objs.size; rw [sz3]; exact Nat.lt_succ_of_lt (flt b hb)) (by simpa using hns₁) hsb₁
  have old4 : ∀ b o, hp3.get? b = some o → h₁.get? b = some o := fun b o e => hsb₁.extBut b o (Nat.ne_of_lt (Heap.lt_size e)) (Heap.get?_push_of_some _ e)
  generalize hX' : blk X scope (x :: cn) (clOf X.env scope.names []) hp3.objs.size { s with heap := hp3 } (upd H s.heap.objs.size (.lst [])) fp (X.pn ++ pins) = X' at I4
  have ePr : X'.prog = X.prog := by rw [← hX']; rfl
  have eW : X'.w = X.w := by rw [← hX']; rfl
  have eK : X'.K = X.K := by rw [← hX']; rfl
  have eA : X'.A = X.A := by rw [← hX']; rfl
  have eEnv : X'.env = compEnvC scope (clOf X.env scope.names []) hp3.objs.size X.env := by rw [← hX']; rfl
  have eEx : X'.ex = fp := by rw [← hX']; rfl
  have ht' : PTs X' ifs tt := by rw [← hX']; exact ht _ _ _ _ _ _
  have he' : PE X' elt te := by rw [← hX']; exact he _ _ _ _ _ _
  have eXe : X'.xe = fun _ _ => False := by rw [← hX']; rfl
  have hg' : PG X' (.Name x px) (gName 0) := by
    rw [← hX']
    exact pg_name (X := blk X scope (x :: cn) _ _ _ _ _ _) B.nd rfl (.inl (lookup_relabel_local B.tgt)) (.inr (lookup_relabel_local B.tgt))
  -- the iterator's objects, seen from the block
  have stat : ∀ {H' : Hp}, (∀ b ∈ fp, H' b = none) → ∀ b ∈ fp, FpOk X' [] H' b := fun {H'} hn b hb => by
    rw [← hX']
    refine ⟨hn b hb, (by show b ≠ hp3.objs.size; rw [sz3]; exact Nat.ne_of_lt (Nat.lt_succ_of_lt (flt b hb))), fun z => (List.mem_cons.mp (I3.stkSub b z)).elim (hf b hb).2.1 (hf b hb).2.2.1, .inl hb, fun y c e => ?_, fun p hp => ?_⟩
    · exact (hf b hb).2.2.2.2.1 y c (clOf_sub X.env scope.names [] (by intro x c h; simp at h) y c e)
    · exact (hf b hb).2.2.2.2.2 p (by simpa [blk] using hp)
  have back : ∀ {σ' : L2.St} {H' : Hp} {s' : Shared}, Inv X' [] σ' H' s' → Inv X pins σ H' s' ∧ Gone X pins H' s' hp3.objs.size := fun {σ' H' s'} I5 => by
    have u : Un (frs X.stack) fp (upd H s.heap.objs.size (.lst [])) H' hp3 s'.heap := by
      have := I5.base
      rw [← hX'] at this
      exact this
    have hok : HOk X.prog X.w H' s'.heap := by have := I5.hok; rw [ePr, eW] at this; exact this
    have ho : s'.os = s.os := by have := I5.os; rw [← hX'] at this; exact this
    refine ⟨I3.call' ho u hok I5.bare fun b hb => ⟨(hf b hb).2.2.2.1, (hf b hb).2.1, (hf b hb).2.2.2.2.1, (hf b hb).2.2.2.2.2⟩, ?_, ?_, ?_, ?_, fun y c e z => ?_, fun p hp z => ?_⟩
    · obtain ⟨m, hn, _⟩ := I5.loc
      rw [eEnv] at hn
      exact ⟨m, hn⟩
    · have := I5.free
      rw [eEnv] at this
      exact this
    · exact Nat.ne_of_gt (I3.lt)
    · exact I3.sz
    · obtain ⟨v, q⟩ := I3.cell y c e
      exact absurd (Nat.lt_of_lt_of_le q.lt (by rw [z]; exact Nat.le_refl _)) (Nat.lt_irrefl _)
    · have := Heap.lt_size (I3.pin p hp).1
      rw [z] at this
      exact Nat.lt_irrefl _ this
  have loop : codeAny (model X.prog X.w) X.A (.compLoop (.ListComp elt [⟨.Name x px, iter, ifs, 0⟩] scope pos) 0 (.ref it) (.ref s.heap.objs.size) (compEnvC scope (clOf X.env scope.names []) hp3.objs.size X.env))
      (RR (.ref s.heap.objs.size) hp3.objs.size) { s with heap := h₁, toks := s.toks + ([] : List (Str × Value)).length } := by
    refine codeAny_loop rfl (fun n s' => ∃ i o ys H', Inv X' [] (o :: capS ci σ) H' s' ∧ tn i s'.heap ∧ (∀ b ∈ fp, H' b = none) ∧ W i n ys H') (fun n s' hI => ?_) m0
      ⟨0, none, [], _, I4, T.keep _ _ _ st (fun b hb o e => old4 b o (old3 b o e)), fun b hb => (f3 b hb).1, w0⟩
    obtain ⟨i, o, ys, H', I5, st5, fr5, w5⟩ := hI
    show wpAny _ X.A ((compTurn (.ListComp elt [⟨.Name x px, iter, ifs, 0⟩] scope pos) 0 (.ref it) (.ref s.heap.objs.size) (compEnvC scope (clOf X.env scope.names []) hp3.objs.size X.env)).onRaise (fun x => do noteFrame x (compEnvC scope (clOf X.env scope.names []) hp3.objs.size X.env); theTreesLotGoes x)) _ _ s'
    refine wpAny_noted ?_
    rw [compTurn_list, ← eEnv, ← ePr, ← eW, ← eA]
    refine wpAny_mono (E := fun _ _ => False) ?_ (fun _ _ q => q) (fun _ _ z => z.elim)
    obtain ⟨hpl, wt⟩ := turn i n ys H' w5
    refine wpAny_bind (wpAny_standAt (wpAny_bind ?_))
    rcases wt with ⟨stop, q⟩ | ⟨go, step⟩
    · have z := T.done X' ePr eW eK (by rw [← hX']; exact hc) i [] s' _ H' (fun _ _ => False) I5 (stat fr5) st5 stop
      rw [← ePr, ← eW] at z
      refine thn z fun r s6 zz => ?_
      obtain ⟨hr, I6⟩ := zz
      subst hr
      obtain ⟨J1, g1⟩ := back I6
      exact wpAny_pure (hRR _ _ H' s6 J1 g1 q)
    · have z := T.item X' ePr eW eK (by rw [← hX']; exact hc) i [] s' _ H' (fun _ _ => False) I5 (stat fr5) st5 go
      rw [← ePr, ← eW] at z
      refine thn z fun r s6 zz => ?_
      obtain ⟨u, hr, h6⟩ := zz
      subst hr
      refine wpAny_bind (thn h6 fun _ s7 zz => ?_)
      obtain ⟨v, H7, I7, r7, y7, st7, fr7⟩ := zz
      have I7' := I7.pinned (stat fr7) (T.obj _ _ st7)
      rw [← eXe]
      refine wpAny_bind (thn (hg' _ s7 _ H7 v u _ I7' r7 (show gName 0 v (o :: capS ci σ) H7 (fun σ8 H8 => σ8 = some v :: capS ci σ ∧ H8 = H7) from ⟨rfl, rfl⟩)) fun _ s8 zz => ?_)
      obtain ⟨σ8, H8, I8, e8, e8'⟩ := zz
      subst e8 e8'
      refine wpAny_bind (thn (ht' _ s8 _ _ _ I8 (step v _ y7)) fun b s9 zz => ?_)
      obtain ⟨H9, I9, q9⟩ := zz
      have tnK : ∀ {σ' : L2.St} {H' : Hp} {s' : Shared}, Inv X' (([] : List (Addr × Obj)) ++ pinsAt fp s7.heap) σ' H' s' → tn (i + 1) s'.heap ∧ ∀ b ∈ fp, H' b = none := fun {σ' H' s'} I' =>
        ⟨T.keep _ _ _ st7 fun b hb o e => (I'.pin (b, o) (List.mem_append_right _ (List.mem_append_right _ (mem_pinsAt hb e)))).1, fun b hb => by
          obtain ⟨ob, e, d⟩ := T.obj _ _ st7 b hb
          exact (I'.pin (b, ob) (List.mem_append_right _ (List.mem_append_right _ (mem_pinsAt hb e)))).2.1⟩
      cases b with
      | false =>
        obtain ⟨m', hm, w9⟩ := q9
        obtain ⟨t9, f9⟩ := tnK I9
        exact wpAny_pure ⟨rfl, m', hm, i + 1, _, ys, H9, I9.unpinned, t9, f9, w9⟩
      | true =>
        refine wpAny_bind (wpAny_bind (thn (he' _ s9 _ _ _ I9 q9) fun yv s10 zz => ?_))
        obtain ⟨y, H10, I10, r10, hp10, hz10, m', hm, w10⟩ := zz
        refine wpAny_bind (thn (mt_append (X := X') _ s10 _ H10 (.ref s.heap.objs.size) [y] (.ref s.heap.objs.size) [yv] (fun _ H11 => H11 = upd H10 s.heap.objs.size (.lst (ys ++ [y]))) I10 rfl (.cons r10 .nil) ⟨_, ys, y, rfl, rfl, hp10, hz10, rfl⟩) fun _ s11 zz => ?_)
        obtain ⟨_, H11, I11, _, e11⟩ := zz
        subst e11
        obtain ⟨t11, f11⟩ := tnK I11
        exact wpAny_pure (wpAny_pure ⟨rfl, m', hm, i + 1, _, ys ++ [y], _, I11.unpinned, t11, f11, w10⟩)
  exact codeAny_compStart_list loop (T.self _ 0 _ _ _ (T.keep _ _ _ st (fun b hb o e => old4 b o (old3 b o e))) loop)
noncomputable def tLC (wi : TI) (ci : List Nat) (tt : TT) (te : TE) : TE := fun σ H Q => wi σ H fun J H1 => LcW J ci tt te σ Q H1
theorem pe_lc {elt iter : Expr} {px pos : Pos} {ifs : List Expr} {wi : TI} {tt : TT} {te : TE} (hc : X.calm = true) (B : BlkOk X scope x cn ci) (hi : PI X (.Name x px) iter wi)
    (ht : ∀ cl C s H fp pn, PTs (blk X scope (x :: cn) cl C s H fp pn) ifs tt) (he : ∀ cl C s H fp pn, PE (blk X scope (x :: cn) cl C s H fp pn) elt te)
    (hs : ∀ x, foldedSetIterable iter X.env x = pure x := by rintro _; rfl) : PE X (.ListComp elt [⟨.Name x px, iter, ifs, 0⟩] scope pos) (tLC wi ci tt te) := by
  intro pins s σ H Q I h
  rw [eval_ListComp]
  refine wpAny_comprehension_free (use := none) rfl hs (closure_eq X.env scope B.free) B.kind B.names ?_
  refine thn (hi pins s σ H _ I h) fun v s1 h1 => thn h1 fun itv s2 h2 => ?_
  obtain ⟨it, fp, tn, J, H2, e, I2, T, st2, f2, w2⟩ := h2
  subst e
  refine lc_block (RR := fun acc C => compPost (model X.prog X.w) X.A X.xe none (EP X pins σ Q) acc C) I2 hc B T st2 f2 ht he w2 fun p C H' s' I' g q => ?_
  obtain ⟨m, hn⟩ := g.ns
  exact ⟨m, hn, fun h' hs' => ⟨.ref p, H', g.go I' hs', rfl, q⟩⟩
theorem ps_lcset {elt iter : Expr} {px py pos spos : Pos} {ifs : List Expr} {wi : TI} {tt : TT} {te : TE} {i : Nat} {y : Str} (hc : X.calm = true) (B : BlkOk X scope x cn ci) (hi : PI X (.Name x px) iter wi)
    (ht : ∀ cl C s H fp pn, PTs (blk X scope (x :: cn) cl C s H fp pn) ifs tt) (he : ∀ cl C s H fp pn, PE (blk X scope (x :: cn) cl C s H fp pn) elt te)
    (hN : X.N.Nodup) (hiN : X.N[i]? = some y) (hy : X.env.scope.names.lookup y = some .local)
    (hsw : swapsWith (.ListComp elt [⟨.Name x px, iter, ifs, 0⟩] scope pos) (some (.Name y py)) spos.line X.env = pure true := by rfl)
    (hs : ∀ x, foldedSetIterable iter X.env x = pure x := by rintro _; rfl) : PS X (.Assign [.Name y py] (.ListComp elt [⟨.Name x px, iter, ifs, 0⟩] scope pos) spos) (tAsg (tLC wi ci tt te) (gName i)) := by
  intro pins s σ H E I h
  rw [exec_Assign_Name_used _ _ _ _ hsw]
  refine wpAny_bind (wpAny_standAt (wpAny_bind ?_))
  show wpAny _ X.A (do let _ ← comprehension (.ListComp elt [⟨.Name x px, iter, ifs, 0⟩] scope pos) scope X.env _ (newList []) false (eval iter X.env) (some (assign (.Name y py) X.env))) _ _ s
  refine wpAny_bind (wpAny_mono (wpAny_comprehension_free (use := some (assign (.Name y py) X.env)) (Q := fun _ s' => SP X pins E .next s') rfl hs (closure_eq X.env scope B.free) B.kind B.names ?_) (fun _ s' hq => wpAny_pure (wpAny_pure hq)) fun _ _ e => e)
  refine thn (hi pins s σ H _ I h) fun v s1 h1 => thn h1 fun itv s2 h2 => ?_
  obtain ⟨it, fp, tn, J, H2, e, I2, T, st2, f2, w2⟩ := h2
  subst e
  refine lc_block (RR := fun acc C => compPost (model X.prog X.w) X.A X.xe (some (assign (.Name y py) X.env)) (fun _ s' => SP X pins E .next s') acc C) I2 hc B T st2 f2 ht he w2 fun p C H' s' I' g q => ?_
  show wpAny _ X.A (assign (.Name y py) X.env (.ref p)) _ _ _
  have hk : X.env.kindOf y = some .local := hy
  refine wpAny_assign_Name (store_ok2 I' hN hiN (.inl hy) (v := .ref p) (u := .ref p) rfl (fun s'' I'' ch => ?_) (.inr hy))
  obtain ⟨m, hn⟩ := g.ns
  obtain ⟨a, hsb, ha⟩ := ch
  have haC : C ≠ a := by
    rcases ha with ha | ha
    · rw [ha]; exact g.nl
    · exact Ne.symm (g.nc y a ha)
  have hn2 : s''.heap.Ns C m := hn.sameBut hsb haC
  exact ⟨m, hn2, fun h' hs' => ⟨_, H', Gone.go ⟨⟨m, hn2⟩, g.free, g.nl, g.up, g.nc, g.np⟩ I'' hs', q⟩⟩
end
noncomputable def capD (ci : List Nat) (σd : SD) : SD := ci.map fun i => (σd[i]?).join
open Classical in
noncomputable def compL (own : OwnD) (c0 : SD) (tt : TF) (te : EF) : List D → HD → Option (List D × HD)
  | [], H => if okOwn own H then some ([], H) else none
  | x :: r, H => if okOwn own H then (tt (some x :: c0) H).bind fun t => if t.1 = true then (te (some x :: c0) t.2).bind fun e => (compL own c0 tt te r e.2).map fun q => (e.1 :: q.1, q.2) else compL own c0 tt te r t.2 else none
noncomputable def eLC (it : ItF) (ci : List Nat) (tt : TF) (te : EF) : EF := fun σ H => (it σ H).bind fun p => (compL p.1.2 (capD ci σ) tt te p.1.1 p.2).bind fun q => mkL q.1 q.2
noncomputable def tYes : TF := fun _ H => some (true, H)
noncomputable def PTsf (X : Cx) (ifs : List Expr) (t : TF) : Prop := PTs X ifs (rdT X.K t)
section
variable {X : Cx} {scope : Scope} {x : Str} {cn : List Str} {ci : List Nat}
theorem ptsf_nil : PTsf X [] tYes := by
  rintro pins s σ H Q I ⟨ι, σd, Hd, b, Hd', sr, hr, e, q⟩
  cases e
  exact pts_nil pins s σ H Q I (q H ι Le.refl hr)
theorem ptsf_one {c : Expr} {t : TF} (h : PTf X c t) : PTsf X [c] t := pts_one h
theorem SRep.cap {K : PySem.W.Frag} {H : Hp} {ι : List Addr} {σ : L2.St} {σd : SD} {d : D} {v : V} (s : SRep K H ι σ σd) (r : Rep K H ι d v) : SRep K H ι (some v :: capS ci σ) (some d :: capD ci σd) := by
  refine ⟨by simp [capS, capD], fun i e h => ?_⟩
  cases i with
  | zero => simp at h; subst h; exact ⟨v, rfl, r⟩
  | succ j =>
    simp only [List.getElem?_cons_succ, capS, capD, List.getElem?_map] at h ⊢
    cases ej : ci[j]? with
    | none => rw [ej] at h; simp at h
    | some i =>
      rw [ej] at h
      simp only [Option.map_some, Option.some.injEq] at h ⊢
      cases es : σd[i]? with
      | none => rw [es] at h; simp at h
      | some o =>
        rw [es] at h
        simp at h
        subst h
        obtain ⟨u, h1, h2⟩ := s.var i e es
        exact ⟨u, by rw [h1]; rfl, h2⟩
theorem rd_lc {K : PySem.W.Frag} {it : ItF} {tt : TF} {te : EF} {σ : L2.St} {H : Hp} {Q : VK} (h : rdE K (eLC it ci tt te) σ H Q) : tLC (rdI K it) ci (rdT K tt) (rdE K te) σ H Q := by
  obtain ⟨ι, σd, Hd, d, Hd', s, hr, e, q⟩ := h
  obtain ⟨⟨⟨xs, own⟩, H1⟩, e1, e⟩ := Option.bind_eq_some_iff.mp e
  obtain ⟨⟨ds, H2⟩, e2, e⟩ := Option.bind_eq_some_iff.mp e
  obtain ⟨hz, e⟩ := mkL_some e
  cases e
  dsimp only at e2 hz
  refine ⟨ι, σd, Hd, xs, own, H1, s, hr, e1, fun J H0 ι0 l0 h0 itr p hp => ?_⟩
  have s0 := s.mono l0
  refine ⟨fun i m ys H => m = xs.length - i ∧ i ≤ xs.length ∧ H p = some (.lst ys) ∧ ∃ ι Hd done rest, Le K H0 ι0 H ι ∧ p ∉ ι ∧ HRep K H ι Hd ∧ Paired (Rep K H ι) done ys ∧ compL own (capD ci σd) tt te (xs.drop i) Hd = some (rest, H2) ∧ ds = done ++ rest,
    ⟨xs.length, by simp, Nat.zero_le _, upd_same, ι0, H1, [], ds, Le.fresh hp _, h0.fresh hp, h0.tup hp _, .nil, by simpa using e2, by simp⟩, ?_⟩
  rintro i m ys H5 ⟨rfl, hi, hpl, ι5, Hd5, done, rest, l5, np5, h5, pd5, e5, eds⟩
  refine ⟨hpl, ?_⟩
  by_cases hlt : i < xs.length
  · have ed : xs.drop i = xs[i] :: xs.drop (i + 1) := List.drop_eq_getElem_cons hlt
    rw [ed, compL] at e5
    split at e5
    · rename_i ok
      obtain ⟨⟨b6, H6⟩, e6, e5⟩ := Option.bind_eq_some_iff.mp e5
      refine .inr ⟨itr.go i H5 ι5 Hd5 l5 h5 ok hlt, fun v H' y => ?_⟩
      obtain ⟨ι6, l6, h6, r6⟩ := itr.yld i H5 ι5 Hd5 xs[i] v H' l5 h5 ok (by simp [hlt]) y
      obtain ⟨hp6, np6⟩ := l6.frame p _ hpl np5
      have s6 := SRep.cap (ci := ci) (s0.mono (l5.trans l6)) r6
      refine ⟨ι6, _, Hd5, b6, H6, s6, h6, e6, fun H7 ι7 l7 h7 => ?_⟩
      obtain ⟨hp7, np7⟩ := l7.frame p _ hp6 np6
      have L7 := (l5.trans l6).trans l7
      cases b6 with
      | true =>
        rw [if_pos rfl]
        dsimp only at e5
        rw [if_pos rfl] at e5
        obtain ⟨⟨d8, H8⟩, e8, e5⟩ := Option.bind_eq_some_iff.mp e5
        obtain ⟨⟨r9, H9⟩, e9, e5⟩ := Option.map_eq_some_iff.mp e5
        cases e5
        refine ⟨ι7, _, H6, d8, H8, s6.mono l7, h7, e8, fun v8 H8' ι8 l8 h8 rr8 => ?_⟩
        obtain ⟨hp8, np8⟩ := l8.frame p _ hp7 np7
        have ly : ys.length < sizeLine := by
          rw [← Prd.len pd5]
          rw [eds] at hz
          simp at hz
          omega
        have w8 : Lw K H8' ι8 (upd H8' p (.lst (ys ++ [v8]))) ι8 := Lw.side hp8 _
        refine ⟨hp8, ly, xs.length - (i + 1), by omega, rfl, hlt, upd_same, ι8, H8, done ++ [d8], r9, (L7.trans l8).side hp hp8 _, np8, h8.keep w8 (fun a ha => upd_ne fun z => by subst z; exact np8 ha), ?_, e9, by rw [eds]; simp⟩
        exact Prd.append (Prd.monoW w8 (Prd.mono ((l6.trans l7).trans l8) pd5)) (.cons (Rep.monoW w8 rr8) .nil)
      | false =>
        rw [if_neg (by simp)]
        dsimp only at e5
        rw [if_neg (by simp)] at e5
        exact ⟨xs.length - (i + 1), by omega, rfl, hlt, hp7, ι7, H6, done, rest, L7, np7, h7, Prd.mono (l6.trans l7) pd5, e5, eds⟩
    · cases e5
  · rw [List.drop_eq_nil_of_le (by omega), compL] at e5
    split at e5
    · rename_i ok
      have e6 : (([] : List D), Hd5) = (rest, H2) := Option.some.inj e5
      obtain ⟨rfl, rfl⟩ := Prod.mk.inj e6
      refine .inl ⟨itr.stop i H5 ι5 _ l5 h5 ok (by omega), ?_⟩
      have w5 : Lw K H5 ι5 H5 (ι5 ++ [p]) := ⟨fun _ _ z => z, fun _ _ z => z, ⟨[p], rfl⟩, fun _ _ _ z => z⟩
      have L := l0.trans l5
      simp at eds
      subst eds
      refine q _ H5 (ι5 ++ [p]) ⟨L.toLw.trans w5, fun a o ha na => ?_⟩ (h5.add np5 ⟨ys, hpl, Prd.monoW w5 pd5⟩) (rep_ref.mpr ⟨p, rfl, by rw [← h5.len]; simp⟩)
      obtain ⟨q1, q2⟩ := L.frame a o ha na
      refine ⟨q1, ?_⟩
      have : a ≠ p := fun z => by
        subst z
        have := (l0.frame a o ha na).1
        rw [hp] at this; cases this
      simp [q2, this]
    · cases e5
theorem pef_lc {elt iter : Expr} {px pos : Pos} {ifs : List Expr} {it : ItF} {tt : TF} {te : EF} (hc : X.calm = true) (B : BlkOk X scope x cn ci) (hi : PIf X (.Name x px) iter it)
    (ht : ∀ cl C s H fp pn, PTsf (blk X scope (x :: cn) cl C s H fp pn) ifs tt) (he : ∀ cl C s H fp pn, PEf (blk X scope (x :: cn) cl C s H fp pn) elt te)
    (hs : ∀ x, foldedSetIterable iter X.env x = pure x := by rintro _; rfl) : PEf X (.ListComp elt [⟨.Name x px, iter, ifs, 0⟩] scope pos) (eLC it ci tt te) :=
  PEi (pe_lc (tt := rdT X.K tt) (te := rdE X.K te) hc B hi ht he hs) fun _ _ _ h => rd_lc h
theorem psf_lcset {elt iter : Expr} {px py pos spos : Pos} {ifs : List Expr} {it : ItF} {tt : TF} {te : EF} {i : Nat} {y : Str} (hc : X.calm = true) (B : BlkOk X scope x cn ci) (hi : PIf X (.Name x px) iter it)
    (ht : ∀ cl C s H fp pn, PTsf (blk X scope (x :: cn) cl C s H fp pn) ifs tt) (he : ∀ cl C s H fp pn, PEf (blk X scope (x :: cn) cl C s H fp pn) elt te)
    (hN : X.N.Nodup) (hiN : X.N[i]? = some y) (hy : X.env.scope.names.lookup y = some .local)
    (hsw : swapsWith (.ListComp elt [⟨.Name x px, iter, ifs, 0⟩] scope pos) (some (.Name y py)) spos.line X.env = pure true := by rfl)
    (hs : ∀ x, foldedSetIterable iter X.env x = pure x := by rintro _; rfl) : PSf X (.Assign [.Name y py] (.ListComp elt [⟨.Name x px, iter, ifs, 0⟩] scope pos) spos) (sSet i (eLC it ci tt te)) := by
  refine PSi (ps_lcset (tt := rdT X.K tt) (te := rdE X.K te) hc B hi ht he hN hiN hy hsw hs) fun E σ H zz => ?_
  obtain ⟨ι, σd, Hd, fl, σd', Hd', s, hr, e, q⟩ := zz
  obtain ⟨⟨x, H1⟩, e1, e⟩ := Option.map_eq_some_iff.mp e
  cases e
  exact rd_lc ⟨ι, σd, Hd, x, H1, s, hr, e1, fun v H' ι' l h r => q _ H' ι' l h ((s.mono l).set r i)⟩
end
end DL
namespace DL
open PySem PySem.Spec PyProof.Rows L2
theorem noFillT : fillsNumberSlot (.type "tuple") "mul" = pure false :=
  PySem.fillsNumberSlot_seq (id := "tuple.__mul__") (r := some (.builtin "tuple.__rmul__")) F.slot_tuple_mul.lookup (by decide +kernel) F.slot_tuple_rmul.lookup (by decide +kernel)
theorem repT : seqRepeat? (.type "tuple") = pure (some (.builtin "tuple.__mul__")) := by
  unfold seqRepeat?
  rw [PySem.seqSlot_of (T := "tuple") (name := "__mul__") (id := "tuple.__mul__") F.slot_tuple_mul.lookup (by decide +kernel), PySem.seqSlot_of (T := "tuple") (name := "__rmul__") (id := "tuple.__rmul__") F.slot_tuple_rmul.lookup (by decide +kernel)]
  rfl
section
variable {dd : Option Addr} {sl : Array (Option Value)}
theorem rmulT (a : Int) (t : Tok) (l : Addr) (items : Array Value) (n : Nat) :
    Meets (Builtin.«int.__rmul__» ⟨[.int a t, .ref l], []⟩) (fun _ R s => s.heap.get? l = some { cls := .type "tuple", dict := dd, data := .seq items n, slots := sl } ∧ R (.ok (.ret Value.notImplemented)) s) :=
  .of_wp fun prog w A R s h => by obtain ⟨hp, g, d, tk, os⟩ := s; obtain ⟨hl, h⟩ := h; wp_walk; exact ⟨_, rfl, h⟩
theorem mulT_same (l : Addr) (items : Array Value) (n : Nat) (x : Int) (u : Tok) (h1 : (decide (x < -(2 ^ 63)) || decide (x ≥ 2 ^ 63)) = false) (h2 : (items.isEmpty || x == 1) = true) :
    Meets (Builtin.«tuple.__mul__» ⟨[.ref l, .int x u], []⟩) (fun _ R s => s.heap.get? l = some { cls := .type "tuple", dict := dd, data := .seq items n, slots := sl } ∧ R (.ok (.ret (.ref l))) s) :=
  .of_wp fun prog w A R s h => by
    obtain ⟨hp, g, d, tk, os⟩ := s; obtain ⟨hl, h⟩ := h
    have f1 := AutoSeq1.idx_int
    wp_walk
    simp only [h1, Bool.false_eq_true, if_false]
    wp_walk using wpAny_loadPart' hl
    simp only [h2, if_true]
    wp_walk using wpAny_loadPart' hl
    exact ⟨_, rfl, h⟩
theorem mulT_none (l : Addr) (items : Array Value) (n : Nat) (x : Int) (u : Tok) (h1 : (decide (x < -(2 ^ 63)) || decide (x ≥ 2 ^ 63)) = false) (h2 : (items.isEmpty || x == 1) = false) (h3 : (decide (x ≤ 0) || items.isEmpty) = true) :
    Meets (Builtin.«tuple.__mul__» ⟨[.ref l, .int x u], []⟩) (fun _ R s => s.heap.get? l = some { cls := .type "tuple", dict := dd, data := .seq items n, slots := sl } ∧ R (.ok (.ret (.ref s.heap.objs.size))) { s with heap := s.heap.push { cls := Value.type "tuple", data := Data.seq #[] } }) :=
  .of_wp fun prog w A R s h => by
    obtain ⟨hp, g, d, tk, os⟩ := s; obtain ⟨hl, h⟩ := h
    have f1 := AutoSeq1.idx_int
    wp_walk
    simp only [h1, Bool.false_eq_true, if_false]
    wp_walk using wpAny_loadPart' hl
    try simp only [h2, h3, Bool.false_eq_true, if_false, if_true]
    try (wp_walk using wpAny_loadPart' hl)
    exact ⟨_, rfl, h⟩
theorem mulT_new (l : Addr) (items : Array Value) (n : Nat) (x : Int) (u : Tok) (h1 : (decide (x < -(2 ^ 63)) || decide (x ≥ 2 ^ 63)) = false) (h2 : (items.isEmpty || x == 1) = false) (h3 : (decide (x ≤ 0) || items.isEmpty) = false) (h4 : ¬ (items.size * x : Int) > (2 ^ 63 - 1) / 8) (h5 : Builtin.Tuple.tupleTooMany (items.size * x) = false)
    (hs : (List.foldl (fun x1 x2 => x1 ++ x2) #[] (List.replicate x.toNat items)).size ≤ sizeLine) :
    Meets (Builtin.«tuple.__mul__» ⟨[.ref l, .int x u], []⟩) (fun _ R s => s.heap.get? l = some { cls := .type "tuple", dict := dd, data := .seq items n, slots := sl } ∧ R (.ok (.ret (.ref s.heap.objs.size))) { s with heap := s.heap.push { cls := Value.type "tuple", data := Data.seq (List.foldl (fun x1 x2 => x1 ++ x2) #[] (List.replicate x.toNat items)) } }) :=
  .of_wp fun prog w A R s h => by
    obtain ⟨hp, g, d, tk, os⟩ := s; obtain ⟨hl, h⟩ := h
    have f1 := AutoSeq1.idx_int
    wp_walk
    simp only [h1, Bool.false_eq_true, if_false]
    wp_walk using wpAny_loadPart' hl
    simp only [h2, h3, h5, Bool.false_eq_true, if_false, if_neg h4]
    wp_walk using wpAny_loadPart' hl
    exact ⟨_, rfl, h⟩
end
theorem foldl_reps (its : List Value) (m : Nat) : List.foldl (fun x1 x2 => x1 ++ x2) #[] (List.replicate m its.toArray) = (List.replicate m its).flatten.toArray := by
  have := foldl_rep its m []
  rw [List.nil_append] at this
  exact this
section
variable {prog : Program} {w : World} {A : Around} {E : Value → Shared → Prop} {s : Shared}
theorem mul_tup {l : Addr} {its : List Value} {k : Int} {t : Tok} {Q : Value → Shared → Prop} (p : IsTup s.heap l its.toArray) (h1 : -(2 ^ 63) ≤ k) (h2 : k < 2 ^ 63) (hz : its.length * k.toNat ≤ sizeLine)
    (qs : (its = [] ∨ k = 1) → Q (.ref l) s) (qn : its ≠ [] → k ≠ 1 → Q (.ref s.heap.objs.size) { s with heap := s.heap.push { cls := .type "tuple", data := .seq (List.replicate k.toNat its).flatten.toArray } }) :
    wpAny (model prog w) A (binaryOp .Mult (.ref l) (.int k t)) Q E s := by
  obtain ⟨o, e, hc, n, hd⟩ := p
  obtain ⟨c, dd, da, sl⟩ := o
  have hc' : c = .type "tuple" := hc
  have hd' : da = .seq its.toArray n := hd
  subst hc' hd'
  have b1 : (decide (k < -(2 ^ 63)) || decide (k ≥ 2 ^ 63)) = false := by simp; omega
  refine wpAny_binaryOp_repeat_ref (T := "tuple") (U := "int") (by decide) ⟨_, e, rfl⟩ (fun s' => typeIs_int s' k t) noFillT F.fills_int_mul F.slot_int_rmul repT F.slot_int_index.lookup
    (call_meets F.slot_int_rmul (typeIs_int s k t) F.entry_int_rmul (F.args_int_rmul_2 _ _) (rmulT k t l its.toArray n) ⟨e, rfl, ⟨_, e, rfl⟩, ?_⟩)
  by_cases hs : its = [] ∨ k = 1
  · exact call_meets F.slot_tuple_mul ⟨_, e, rfl⟩ F.entry_tuple_mul (F.args_tuple_mul_2 _ _) (mulT_same l its.toArray n k t b1 (by rcases hs with h | h <;> simp [h])) ⟨e, qs hs⟩
  · have hne : its ≠ [] := fun h => hs (.inl h)
    have hk : k ≠ 1 := fun h => hs (.inr h)
    have b2 : (its.toArray.isEmpty || k == 1) = false := by cases its <;> simp_all
    have new := qn hne hk
    by_cases h0 : k ≤ 0
    · have z : k.toNat = 0 := by omega
      rw [z] at new
      exact call_meets F.slot_tuple_mul ⟨_, e, rfl⟩ F.entry_tuple_mul (F.args_tuple_mul_2 _ _) (mulT_none l its.toArray n k t b1 b2 (by simp [h0])) ⟨e, new⟩
    · have sz : sizeLine = 16777216 := PySem.sizeLine_eq
      have hm : (its.toArray.size : Int) * k ≤ 16777216 := by
        have e1 : k = (k.toNat : Int) := by omega
        rw [List.size_toArray, e1, ← Int.natCast_mul]
        omega
      have b3 : (decide (k ≤ 0) || its.toArray.isEmpty) = false := by cases its <;> simp_all
      refine call_meets F.slot_tuple_mul ⟨_, e, rfl⟩ F.entry_tuple_mul (F.args_tuple_mul_2 _ _) (mulT_new l its.toArray n k t b1 b2 b3 (by omega) (by simp only [Builtin.Tuple.tupleTooMany, decide_eq_false_iff_not, sz]; omega) ?_) ⟨e, ?_⟩
      · rw [foldl_reps, List.size_toArray, len_rep, Nat.mul_comm]; exact hz
      · rw [foldl_reps]; exact new
end
variable {X : Cx}
noncomputable def rRepT (K : PySem.W.Frag) : R2 := fun x y H Q => ∃ l k xs, x = .ref l ∧ y = .int k ∧ SqT K H l xs ∧ -(2 ^ 63) ≤ k ∧ k < 2 ^ 63 ∧ xs.length * k.toNat ≤ sizeLine ∧ ((xs = [] ∨ k = 1) → Q (.ref l) H) ∧
  (xs ≠ [] → k ≠ 1 → ∀ p, H p = none → Q (.ref p) (upd H p (.tup (List.replicate k.toNat xs).flatten)))
theorem op_repT : OpR X (binaryOp .Mult) (rRepT X.K) := by
  intro pins s σ H x y v u Q I rx ry h
  obtain ⟨l, k, xs, rfl, rfl, ha, h1, h2, hz, q1, q2⟩ := h
  cases rx
  obtain ⟨t, rfl⟩ := ry
  obtain ⟨its, r1, p1, _⟩ := I.tuple ha
  refine mul_tup p1 h1 h2 (by rw [← r1.length]; exact hz) (fun z => ⟨.ref l, H, I, rfl, q1 (z.imp r1.nil_iff.mp id)⟩) (fun z zk => ?_)
  refine ⟨.ref s.heap.objs.size, _, I.laid (t' := s.toks) (o := .tup (List.replicate k.toNat xs).flatten) (fun b ob q => Heap.get?_push_of_some _ q) (Nat.le_refl _) ?_, rfl, q2 (fun w => z (r1.nil_iff.mpr w)) zk _ (I.hok.fresh (Nat.le_refl _))⟩
  exact ⟨by rw [len_rep, Nat.mul_comm]; exact hz, _, r1.rep k.toNat, IsTuN.new _ _⟩
end DL
namespace DL
open PySem PySem.Spec PyProof.Rows L2
section
variable {X : Cx}
noncomputable def iiD (C : Int → Int → Prop) [∀ i j, Decidable (C i j)] (g : Int → Int → D) : F2 := fun x y H => match x, y with
  | .int i, .int j => if C i j then some (g i j, H) else none
  | _, _ => none
theorem opf_ii {f : Value → Value → Sem Value} {C : Int → Int → Prop} [∀ i j, Decidable (C i j)] {g : Int → Int → Int} (h : OpR X f (rI C fun i j => .int (g i j))) : OpF X f (iiD C fun i j => .int (g i j)) := by
  refine OpRi h fun x y H Q zz => ?_
  obtain ⟨ι, dx, dy, Hd, d, Hd', hr, r1, r2, e, q⟩ := zz
  cases dx <;> cases dy <;> simp only [iiD] at e <;> try cases e
  rename_i i j
  split at e
  · rename_i hc
    cases e
    simp at r1 r2
    exact ⟨i, j, r1, r2, hc, q _ H ι Le.refl hr (by simp)⟩
  · cases e
noncomputable def CT (_ _ : Int) : Prop := True
instance : ∀ i j, Decidable (CT i j) := fun _ _ => instDecidableTrue
theorem rI0_of {f : Value → Value → Sem Value} {g : Int → Int → V} (h : OpR X f (rI0 g)) : OpR X f (rI CT g) := OpRi h fun x y H Q ⟨i, j, e1, e2, _, q⟩ => ⟨i, j, e1, e2, q⟩
theorem opf_ib {f : Value → Value → Sem Value} {g : Int → Int → Bool} (h : OpR X f (rI0 fun i j => .bl (g i j))) : OpF X f (iiD CT fun i j => .bl (g i j)) := by
  refine OpRi h fun x y H Q zz => ?_
  obtain ⟨ι, dx, dy, Hd, d, Hd', hr, r1, r2, e, q⟩ := zz
  cases dx <;> cases dy <;> simp only [iiD] at e <;> try cases e
  rename_i i j
  simp at r1 r2
  exact ⟨i, j, r1, r2, q _ H ι Le.refl hr (by simp)⟩
instance (i j : Int) : Decidable (CDiv i j) := by unfold CDiv; exact inferInstance
instance (i j : Int) : Decidable (CMul i j) := by unfold CMul; exact inferInstance
instance (i j : Int) : Decidable (CPow i j) := by unfold CPow; exact inferInstance
noncomputable def CPos (_ j : Int) : Prop := 0 < j
instance (i j : Int) : Decidable (CPos i j) := by unfold CPos; exact inferInstance
noncomputable def subD : F2 := iiD CT fun i j => .int (i - j)
noncomputable def fdivD : F2 := iiD CDiv fun i j => .int (i / j)
noncomputable def modD : F2 := iiD CPos fun i j => .int (i % j)
noncomputable def powD : F2 := iiD CPow fun i j => .int (i ^ j.toNat)
noncomputable def ltD : F2 := iiD CT fun i j => .bl (decide (i < j))
noncomputable def leD : F2 := iiD CT fun i j => .bl (decide (i ≤ j))
noncomputable def gtD : F2 := iiD CT fun i j => .bl (decide (j < i))
noncomputable def geD : F2 := iiD CT fun i j => .bl (decide (j ≤ i))
theorem opf_sub : OpF X (binaryOp .Sub) subD := opf_ii (rI0_of op_sub)
theorem opf_fdiv : OpF X (binaryOp .FloorDiv) fdivD := opf_ii op_fdiv
theorem opf_mod : OpF X (binaryOp .Mod) modD := opf_ii (C := CPos) op_mod
theorem opf_pow : OpF X (binaryOp .Pow) powD := opf_ii op_pow
theorem opf_lt : OpF X (compareOp .Lt) ltD := opf_ib op_lt
theorem opf_le : OpF X (compareOp .LtE) leD := opf_ib op_le
theorem opf_gt : OpF X (compareOp .Gt) gtD := opf_ib op_gt
theorem opf_ge : OpF X (compareOp .GtE) geD := opf_ib op_ge
noncomputable def negD : D → HD → Option (D × HD) := fun x H => match x with
  | .int i => some (.int (-i), H)
  | _ => none
theorem unf_neg : UnF X (unaryOp .USub) negD := by
  rintro pins s σ H x v Q I rx ⟨ι, dx, Hd, d, Hd', hr, r1, e, q⟩
  cases dx <;> simp only [negD] at e <;> try cases e
  simp at r1
  exact un_neg pins s σ H x v Q I rx ⟨_, r1, q _ H ι Le.refl hr (by simp)⟩
theorem cat_tup0 {prog : Program} {w : World} {A : Around} {E : Value → Shared → Prop} {s : Shared} {t b : Addr} {ws : List Value} {Q : Value → Shared → Prop} (ht : IsTup s.heap t #[]) (hb : IsTup s.heap b ws.toArray)
    (h1 : Q (.ref b) s) : wpAny (model prog w) A (binaryOp .Add (.ref t) (.ref b)) Q E s := by
  obtain ⟨⟨cls, dd, data, sl⟩, ho, hc, n, hd⟩ := id ht
  obtain ⟨⟨cls2, dd2, data2, sl2⟩, ho2, hc2, n2, hd2⟩ := id hb
  simp only at hc hd hc2 hd2
  subst hc hd hc2 hd2
  exact concat_meets ⟨_, ho, rfl⟩ ⟨_, ho2, rfl⟩ noFill_tuple_add seq_tuple_add PySem.F.slot_tuple_add PySem.F.entry_tuple_add (PySem.F.args_tuple_add_2 _ _)
      (tuple_addW0 t b #[] ws.toArray n n2 dd dd2 sl sl2 (by simp)) ⟨ho, ho2, h1⟩
noncomputable def addD : F2 := fun x y H => match x, y with
  | .int i, .int j => some (.int (i + j), H)
  | .str a, .str b => if a.length + b.length ≤ sizeLine then some (.str (a ++ b), H) else none
  | .tup a, .tup b => mkT (a ++ b) H
  | .ref n, .ref m => match H[n]?, H[m]? with
    | some (.lst a), some (.lst b) => mkL (a ++ b) H
    | _, _ => none
  | _, _ => none
theorem opf_add : OpF X (binaryOp .Add) addD := by
  rintro pins s σ H x y v u Q I rx ry ⟨ι, dx, dy, Hd, d, Hd', hr, r1, r2, e, q⟩
  cases dx <;> cases dy <;> simp only [addD] at e <;> try cases e
  · simp at r1 r2
    exact op_add pins s σ H x y v u Q I rx ry ⟨_, _, r1, r2, q _ H ι Le.refl hr (by simp)⟩
  · simp at r1 r2
    split at e
    · rename_i hl
      cases e
      exact op_add_str pins s σ H x y v u Q I rx ry ⟨_, _, r1, r2, hl, q _ H ι Le.refl hr (by simp)⟩
    · cases e
  · rename_i as bs
    obtain ⟨a, vs, rfl, h1, p1⟩ := rep_tup.mp r1
    obtain ⟨b, ws, rfl, h2, p2⟩ := rep_tup.mp r2
    cases p1 with
    | nil =>
      obtain ⟨hl, e⟩ := mkT_some e
      simp only [List.nil_append, Prod.mk.injEq] at e
      obtain ⟨rfl, rfl⟩ := e
      cases rx
      cases ry
      obtain ⟨its, q1, t1, _⟩ := I.tuple h1
      obtain ⟨its2, q2, t2, _⟩ := I.tuple h2
      cases q1
      exact cat_tup0 t1 t2 ⟨.ref b, H, I, rfl, q _ H ι Le.refl hr r2⟩
    | cons p p' =>
      have P := Prd.append (.cons p p') p2
      obtain ⟨hl, e'⟩ := mkT_some e
      cases p2 with
      | nil =>
        simp only [List.append_nil, Prod.mk.injEq] at e'
        obtain ⟨rfl, rfl⟩ := e'
        refine op_catT pins s σ H _ _ v u Q I rx ry ⟨a, b, _, _, rfl, rfl, h1, h2, by simp, ?_, fun _ => q _ H ι Le.refl hr r1, fun z => absurd rfl z⟩
        have := Prd.len P
        simp only [List.append_nil] at this hl
        simp only [List.length_nil]
        omega
      | cons p3 p4 =>
        obtain ⟨k1, k2⟩ := new_tup hr P e q
        refine op_catT pins s σ H _ _ v u Q I rx ry ⟨a, b, _, _, rfl, rfl, h1, h2, by simp, ?_, fun z => absurd z (by simp), fun _ => k2⟩
        rw [← List.length_append]; exact k1
  · rename_i n m
    obtain ⟨a, rfl, ha⟩ := rep_ref.mp r1
    obtain ⟨b, rfl, hb⟩ := rep_ref.mp r2
    split at e
    · rename_i as bs e1 e2
      obtain ⟨vs, h1, p1⟩ := hr.obj n a _ ha e1
      obtain ⟨ws, h2, p2⟩ := hr.obj m b _ hb e2
      obtain ⟨k1, k2⟩ := new_lst hr (Prd.append p1 p2) e q
      exact op_cat pins s σ H _ _ v u Q I rx ry ⟨a, b, vs, ws, rfl, rfl, h1, h2, by rw [← List.length_append]; exact k1, k2⟩
    · cases e
noncomputable def mulD : F2 := fun x y H => match x, y with
  | .int i, .int j => if CMul i j then some (.int (i * j), H) else none
  | .ref n, .int k => match H[n]? with
    | some (.lst a) => if -(2 ^ 63) ≤ k ∧ k < 2 ^ 63 ∧ a.length * k.toNat ≤ sizeLine then mkL (List.replicate k.toNat a).flatten H else none
    | _ => none
  | .tup a, .int k => if -(2 ^ 63) ≤ k ∧ k < 2 ^ 63 ∧ a.length * k.toNat ≤ sizeLine then mkT (List.replicate k.toNat a).flatten H else none
  | _, _ => none
theorem opf_mul : OpF X (binaryOp .Mult) mulD := by
  rintro pins s σ H x y v u Q I rx ry ⟨ι, dx, dy, Hd, d, Hd', hr, r1, r2, e, q⟩
  cases dx <;> cases dy <;> simp only [mulD] at e <;> try cases e
  · simp at r1 r2
    split at e
    · rename_i hc
      cases e
      exact op_mul pins s σ H x y v u Q I rx ry ⟨_, _, r1, r2, hc, q _ H ι Le.refl hr (by simp)⟩
    · cases e
  · rename_i as k
    obtain ⟨a, vs, rfl, h1, p1⟩ := rep_tup.mp r1
    simp at r2
    split at e
    · rename_i hc
      have hlen := Prd.len p1
      obtain ⟨k1, k2⟩ := new_tup hr (Prd.rep p1 k.toNat) e q
      refine op_repT pins s σ H _ _ v u Q I rx ry ⟨a, k, vs, rfl, r2, h1, hc.1, hc.2.1, by rw [← hlen]; exact hc.2.2, fun z => ?_, fun _ _ => k2⟩
      obtain ⟨_, e'⟩ := mkT_some e
      have hf : (List.replicate k.toNat as).flatten = as := by
        rcases z with z | z
        · have : as = [] := List.eq_nil_of_length_eq_zero (by rw [hlen, z]; rfl)
          subst this
          simp
        · subst z
          simp
      rw [hf] at e'
      cases e'
      exact q _ H ι Le.refl hr r1
    · cases e
  · rename_i n k
    obtain ⟨a, rfl, ha⟩ := rep_ref.mp r1
    simp at r2
    split at e
    · rename_i as e1
      obtain ⟨vs, h1, p1⟩ := hr.obj n a _ ha e1
      split at e
      · rename_i hc
        obtain ⟨k1, k2⟩ := new_lst hr (Prd.rep p1 _) e q
        exact op_rep pins s σ H _ _ v u Q I rx ry ⟨a, k, vs, rfl, r2, h1, hc.1, hc.2.1, by rw [← Prd.len p1]; exact hc.2.2, k2⟩
      · cases e
    · cases e
noncomputable def seqD : D → HD → Option (List D)
  | .tup xs, _ => some xs
  | .fl xs, _ => some xs
  | .ref n, H => match H[n]? with
    | some (.lst xs) => some xs
    | _ => none
  | _, _ => none
theorem seq_rd {K : PySem.W.Frag} {H : Hp} {ι : List Addr} {Hd : HD} {d : D} {xs : List D} {v : V} (hr : HRep K H ι Hd) (r : Rep K H ι d v) (e : seqD d Hd = some xs) : ∃ p vs, v = .ref p ∧ (SqL K H p vs ∨ SqT K H p vs) ∧ Paired (Rep K H ι) xs vs := by
  cases d with
  | tup ys => cases e; obtain ⟨a, vs, rfl, h, p⟩ := rep_tup.mp r; exact ⟨a, vs, rfl, .inr h, p⟩
  | fl ys => cases e; obtain ⟨a, vs, rfl, h, p⟩ := rep_fl.mp r; exact ⟨a, vs, rfl, .inl h.sq, p⟩
  | ref n =>
    obtain ⟨a, rfl, ha⟩ := rep_ref.mp r
    simp only [seqD] at e
    split at e
    · rename_i ys e1
      cases e
      obtain ⟨vs, h1, p1⟩ := hr.obj n a _ ha e1
      exact ⟨a, vs, rfl, .inl (SqL.of h1), p1⟩
    · cases e
  | _ => simp [seqD] at e
theorem prd_atI {α β : Type} {F : α → β → Prop} {xs : List α} {us : List β} {i : Int} {x : α} (r : Paired F xs us) (h : atI xs i = some x) : ∃ u, atI us i = some u ∧ F x u := by
  unfold atI at h ⊢
  rw [← Prd.len r]
  obtain ⟨j, h1, h2⟩ := Option.bind_eq_some_iff.mp h
  obtain ⟨u, h3, h4⟩ := Prd.get r h2
  exact ⟨u, by rw [h1]; exact h3, h4⟩
noncomputable def ixD : F2 := fun x y H => match y with
  | .int i => (seqD x H).bind fun xs => (atI xs i).map fun d => (d, H)
  | _ => none
theorem ixf : IxF X ixD := by
  rintro va sl pins s σ H x y v u Q I rx ry ⟨ι, dx, dy, Hd, d, Hd', hr, r1, r2, e, q⟩ hs
  cases dy <;> simp only [ixD] at e <;> try cases e
  rename_i i
  simp at r2
  obtain ⟨xs, e1, e⟩ := Option.bind_eq_some_iff.mp e
  obtain ⟨d', e2, e⟩ := Option.map_eq_some_iff.mp e
  obtain ⟨rfl, rfl⟩ := Prod.mk.inj e
  obtain ⟨p, vs, rfl, h, P⟩ := seq_rd hr r1 e1
  obtain ⟨z, hz, rz⟩ := prd_atI P e2
  rcases h with h | h
  · exact ix_list va sl pins s σ H _ _ v u Q I rx ry ⟨p, vs, i, z, rfl, r2, h, hz, q _ H ι Le.refl hr rz⟩ hs
  · exact ix_tup va sl pins s σ H _ _ v u Q I rx ry ⟨p, vs, i, z, rfl, r2, h, hz, q _ H ι Le.refl hr rz⟩ hs
noncomputable def setD : FSet := fun o i v H => match o, i with
  | .ref n, .int k => match H[n]? with
    | some (.lst xs) => (ixN xs.length k).map fun j => H.set n (.lst (xs.set j v))
    | _ => none
  | _, _ => none
theorem setf : PSetf X setD := by
  rintro pins s σ H o i v ov iv u Q I ro ri rv ⟨ι, od, id, vd, Hd, Hd', hr, r1, r2, r3, e, q⟩
  cases od <;> cases id <;> simp only [setD] at e <;> try cases e
  rename_i n k
  obtain ⟨a, rfl, ha⟩ := rep_ref.mp r1
  simp at r2
  split at e
  · rename_i xs e1
    obtain ⟨j, e2, e⟩ := Option.map_eq_some_iff.mp e
    subst e
    obtain ⟨vs, h1, P⟩ := hr.obj n a _ ha e1
    refine set_list pins s σ H _ _ v ov iv u Q I ro ri rv ⟨a, vs, k, j, rfl, r2, h1, by rw [← Prd.len P]; exact e2, ?_⟩
    have L : Le X.K H ι (upd H a (.lst (vs.set j v))) ι := Le.upd (List.mem_of_getElem? ha) h1 trivial _
    exact q _ ι L (hr.upd ha h1 trivial ⟨_, upd_same, Prd.set (r3.mono L) j (Prd.mono L P)⟩)
  · cases e
noncomputable def cutD (xs : List D) (lo hi : Option Int) : List D := (xs.drop (HT.sIx xs.length 0 lo)).take (HT.sIx xs.length xs.length hi - HT.sIx xs.length 0 lo)
theorem prd_cut {K : PySem.W.Frag} {H : Hp} {ι : List Addr} {xs : List D} {vs : List V} (P : Paired (Rep K H ι) xs vs) (lo hi : Option Int) : Paired (Rep K H ι) (cutD xs lo hi) (cutV vs lo hi) := by
  unfold cutD cutV
  rw [← Prd.len P]
  exact Prd.take _ (Prd.drop _ P)
noncomputable abbrev OF := SD → HD → Option (Option Int × HD)
noncomputable def rdO (K : PySem.W.Frag) (f : OF) : TO := fun σ H Q => ∃ ι σd Hd o Hd', SRep K H ι σ σd ∧ HRep K H ι Hd ∧ f σd Hd = some (o, Hd') ∧ ∀ H' ι', Le K H ι H' ι' → HRep K H' ι' Hd' → Q o H'
noncomputable def POf (X : Cx) (e : Option Expr) (f : OF) : Prop := PO X e (rdO X.K f)
noncomputable def oNone : OF := fun _ H => some (none, H)
noncomputable def oSome (f : EF) : OF := fun σ H => (f σ H).bind fun p => match p.1 with
  | .int i => some (some i, p.2)
  | _ => none
theorem pof_none : POf X none oNone := by
  rintro pins s σ H Q I ⟨ι, σd, Hd, o, Hd', sr, hr, e, q⟩
  cases e
  exact po_none pins s σ H Q I (q H ι Le.refl hr)
theorem pof_some {e : Expr} {f : EF} (h : PEf X e f) : POf X (some e) (oSome f) := by
  rintro pins s σ H Q I ⟨ι, σd, Hd, o, Hd', sr, hr, e, q⟩
  obtain ⟨⟨d, H1⟩, e1, e⟩ := Option.bind_eq_some_iff.mp e
  cases d <;> try cases e
  rename_i i
  exact po_some h pins s σ H Q I ⟨ι, σd, Hd, _, _, sr, hr, e1, fun v H' ι' l h r => ⟨i, by simpa using r, q H' ι' l h⟩⟩
noncomputable def slD (x : D) (lo hi : Option Int) (H : HD) : Option (D × HD) := match x with
  | .tup xs => some (.tup (cutD xs lo hi), H)
  | .fl xs => some (.ref H.length, H ++ [.lst (cutD xs lo hi)])
  | .ref n => match H[n]? with
    | some (.lst xs) => some (.ref H.length, H ++ [.lst (cutD xs lo hi)])
    | _ => none
  | _ => none
theorem getItem_tuple_whole {prog : Program} {w : World} {A : Around} {E : Value → Shared → Prop} {s : Shared} {t sl : Addr} {items : Array Value} {vl vu : Value} {lo hi : Option Int} {Q : Value → Shared → Prop} (ht : IsTup s.heap t items) (hs : s.heap.IsSliceOf sl vl vu .none) (pl : IsPart vl lo) (pu : IsPart vu hi)
    (hw : HT.sIx items.size 0 lo = 0 ∧ HT.sIx items.size items.size hi = items.size) (h : Q (.ref t) s) : wpAny (model prog w) A (getItem (.ref t) (.ref sl)) Q E s := by
  obtain ⟨os, hos, hcs, hds⟩ := id hs
  have hTs : s.TypeIs (.ref sl) "slice" := ⟨os, hos, hcs⟩
  obtain ⟨ot, hot, hct, nt, hdt⟩ := id ht
  unfold getItem
  try with_reducible refine wpAny_holding ?_
  first | refine wpAny_bind (wpAny_pure ?_) | skip
  refine wpAny_bind (wpAny_sequenceKey ht.typeIs (by decide) ?_)
  refine wpAny_bind (wpAny_callSpecial?_slot (name := Str.ofString "__getitem__") ht.typeIs PyProof.Rows.slot_tuple_getitem
    (wpAny_call_entry PyProof.Rows.slot_tuple_getitem ht.typeIs entry_tuple_getitem ?_ (args_tuple_getitem _ _)))
  show wpAny _ _ (Builtin.Tuple.tupleItemsOf (.ref t) >>= _) _ _ s
  refine wpAny_bind (tupleItemsOf_ ht ?_)
  refine wpAny_bind (wpAny_typeOf hTs ?_)
  rw [if_pos (by decide)]
  refine wpAny_bind (HT.sliceApplied_gen hs pl pu ?_)
  show wpAny _ _ (if (((HT.sIx items.size 0 lo : Nat) : Int) == 0 && (1 : Int) == 1 && (HT.sIx items.size items.size hi - HT.sIx items.size 0 lo) == items.size) = true then _ else _) _ _ s
  rw [if_pos (by rw [hw.1, hw.2]; simp)]
  show wpAny _ _ (Builtin.Tuple.tupleIsExact (Value.ref t) >>= _) _ _ s
  unfold Builtin.Tuple.tupleIsExact
  refine wpAny_bind (wpAny_bind (wpAny_typeOf ht.typeIs (wpAny_pure ?_)))
  rw [if_pos (by decide)]
  exact wpAny_bind (wpAny_rule (wpAny_pure ⟨_, rfl, wpAny_pure h⟩))
theorem cutD_whole {xs : List D} {lo hi : Option Int} (h : HT.sIx xs.length 0 lo = 0 ∧ HT.sIx xs.length xs.length hi = xs.length) : cutD xs lo hi = xs := by
  unfold cutD
  rw [h.1, h.2]; simp
noncomputable def rdSl (K : PySem.W.Frag) : V → Option Int → Option Int → Hp → VK → Prop := fun x lo hi H Q => ∃ ι dx Hd d Hd', HRep K H ι Hd ∧ Rep K H ι dx x ∧ slD dx lo hi Hd = some (d, Hd') ∧ QE K H ι d Hd' Q
theorem slf : SlR X (rdSl X.K) := by
  rintro pins s σ H x v vl vu lo hi sl Q I rx hs pl pu ⟨ι, dx, Hd, d, Hd', hr, r, e, q⟩
  have lists : ∀ {a : Addr} {xs : List D} {vs : List V}, x = .ref a → SqL X.K H a vs → Paired (Rep X.K H ι) xs vs → (D.ref Hd.length, Hd ++ [DO.lst (cutD xs lo hi)]) = (d, Hd') →
      ∃ T id, typeLookup (.type T) "__getitem__" = pure (some (.builtin id)) ∧ s.TypeIs v T ∧ wpAny (model X.prog X.w) X.A (getItem v (.ref sl)) (EP X pins σ Q) X.xe s := fun {a xs vs} ex h P e => by
    obtain ⟨_, _, _, hz⟩ := I.list h
    have hz2 : (cutD xs lo hi).length ≤ sizeLine := by
      rw [Prd.len (prd_cut P lo hi)]
      exact Nat.le_trans (cutV_length vs lo hi) hz
    obtain ⟨k1, k2⟩ := new_lst hr (prd_cut P lo hi) (show mkL (cutD xs lo hi) Hd = some (d, Hd') by unfold mkL; rw [if_pos hz2, e]) q
    exact sl_list pins s σ H x v vl vu lo hi sl Q I rx hs pl pu ⟨a, vs, ex, h, k2⟩
  cases dx with
  | tup xs =>
    obtain ⟨a, vs, rfl, h, P⟩ := rep_tup.mp r
    simp only [slD, Option.some.injEq] at e
    obtain ⟨its, rv, ht, hz⟩ := I.tuple h
    have hlen : its.toArray.size = vs.length := by rw [List.size_toArray]; exact rv.length.symm
    by_cases hw : HT.sIx vs.length 0 lo = 0 ∧ HT.sIx vs.length vs.length hi = vs.length
    · cases rx
      refine ⟨"tuple", _, PyProof.Rows.slot_tuple_getitem.lookup, ht.typeIs, getItem_tuple_whole ht hs pl pu (by rw [hlen]; exact hw) ?_⟩
      rw [cutD_whole (by rw [Prd.len P]; exact hw)] at e
      obtain ⟨rfl, rfl⟩ := Prod.mk.inj e
      exact ⟨.ref a, H, I, rfl, q _ H ι Le.refl hr r⟩
    · have hz2 : (cutD xs lo hi).length ≤ sizeLine := by
        rw [Prd.len (prd_cut P lo hi)]
        exact Nat.le_trans (cutV_length vs lo hi) hz
      obtain ⟨k1, k2⟩ := new_tup hr (prd_cut P lo hi) (show mkT (cutD xs lo hi) Hd = some (d, Hd') by unfold mkT; rw [if_pos hz2, e]) q
      exact sl_tup pins s σ H _ v vl vu lo hi sl Q I rx hs pl pu ⟨a, vs, rfl, h, hw, k2⟩
  | fl xs =>
    obtain ⟨a, vs, rfl, h, P⟩ := rep_fl.mp r
    simp only [slD, Option.some.injEq] at e
    exact lists rfl h.sq P e
  | ref n =>
    obtain ⟨a, rfl, ha⟩ := rep_ref.mp r
    simp only [slD] at e
    split at e
    · rename_i xs e1
      obtain ⟨vs, h1, P⟩ := hr.obj n a _ ha e1
      exact lists rfl (SqL.of h1) P (Option.some.inj e)
    · cases e
  | _ => simp [slD] at e
noncomputable def eSl (fe : EF) (fl fh : OF) : EF := fun σ H => (fe σ H).bind fun p => (fl σ p.2).bind fun l => (fh σ l.2).bind fun h => slD p.1 l.1 h.1 h.2
theorem pef_slice {e : Expr} {lo hi : Option Expr} {fe : EF} {fl fh : OF} {pos p2 : Pos} (he : PEf X e fe) (hl : POf X lo fl) (hu : POf X hi fh) : PEf X (.Subscript e (.Slice lo hi none p2) pos) (eSl fe fl fh) := by
  refine PEi (pe_slice slf he hl hu) fun σ H Q zz => ?_
  obtain ⟨ι, σd, Hd, d, Hd', s, hr, e, q⟩ := zz
  obtain ⟨⟨x, H1⟩, e1, e⟩ := Option.bind_eq_some_iff.mp e
  obtain ⟨⟨y, H2⟩, e2, e⟩ := Option.bind_eq_some_iff.mp e
  obtain ⟨⟨z, H3⟩, e3, e⟩ := Option.bind_eq_some_iff.mp e
  exact ⟨ι, σd, Hd, x, H1, s, hr, e1, fun v1 H1' ι1 l1 h1 r1 => ⟨ι1, σd, H1, y, H2, s.mono l1, h1, e2, fun H2' ι2 l2 h2 => ⟨ι2, σd, H2, z, H3, s.mono (l1.trans l2), h2, e3, fun H3' ι3 l3 h3 =>
    ⟨ι3, x, H3, d, Hd', h3, r1.mono (l2.trans l3), e, fun v H' ι' l h r => q v H' ι' (((l1.trans l2).trans l3).trans l) h r⟩⟩⟩⟩
noncomputable def lenD : FF := fun ds H => match ds with
  | [.str x] => if x.length ≤ sizeLine then some (.int x.length, H) else none
  | [d] => (seqD d H).map fun xs => (.int xs.length, H)
  | _ => none
theorem prd1 {K : PySem.W.Frag} {H : Hp} {ι : List Addr} {d : D} {vs : List V} (P : Paired (Rep K H ι) [d] vs) : ∃ v, vs = [v] ∧ Rep K H ι d v := by
  cases P with
  | cons r t => cases t; exact ⟨_, rfl, r⟩
theorem prd2 {K : PySem.W.Frag} {H : Hp} {ι : List Addr} {d d' : D} {vs : List V} (P : Paired (Rep K H ι) [d, d'] vs) : ∃ v v', vs = [v, v'] ∧ Rep K H ι d v ∧ Rep K H ι d' v' := by
  cases P with
  | cons r t => obtain ⟨v, rfl, r'⟩ := prd1 t; exact ⟨_, _, rfl, r, r'⟩
theorem callf_len : CallF X (.builtin "len") lenD := by
  rintro pins s σ H xs us Q I rv ⟨ι, ds, Hd, d, Hd', hr, P, e, q⟩
  unfold lenD at e
  split at e
  · obtain ⟨v, rfl, r⟩ := prd1 P
    simp at r
    subst r
    split at e
    · rename_i hl
      cases e
      exact call_len_str pins s σ H _ us Q I rv ⟨_, rfl, hl, q _ H ι Le.refl hr (by simp)⟩
    · cases e
  · obtain ⟨v, rfl, r⟩ := prd1 P
    obtain ⟨ys, e1, e⟩ := Option.map_eq_some_iff.mp e
    obtain ⟨rfl, rfl⟩ := Prod.mk.inj e
    obtain ⟨p, vs, rfl, h, P2⟩ := seq_rd hr r e1
    exact call_len_seq pins s σ H _ us Q I rv ⟨p, vs, rfl, h, q _ H ι Le.refl hr (by simp [Prd.len P2])⟩
  · cases e
noncomputable def absD : FF := fun ds H => match ds with
  | [.int i] => some (.int (if i < 0 then -i else i), H)
  | _ => none
theorem callf_abs : CallF X (.builtin "abs") absD := by
  rintro pins s σ H xs us Q I rv ⟨ι, ds, Hd, d, Hd', hr, P, e, q⟩
  unfold absD at e
  split at e
  · obtain ⟨v, rfl, r⟩ := prd1 P
    simp at r
    subst r
    cases e
    exact call_abs pins s σ H _ us Q I rv ⟨_, rfl, q _ H ι Le.refl hr (by simp)⟩
  · cases e
noncomputable def maxD : FF := fun ds H => match ds with
  | [.int i, .int j] => some (.int (if j > i then j else i), H)
  | _ => none
noncomputable def minD : FF := fun ds H => match ds with
  | [.int i, .int j] => some (.int (if j < i then j else i), H)
  | _ => none
theorem callf_max (hc : X.calm = true) : CallF X (.builtin "max") maxD := by
  rintro pins s σ H xs us Q I rv ⟨ι, ds, Hd, d, Hd', hr, P, e, q⟩
  unfold maxD at e
  split at e
  · obtain ⟨v, v', rfl, r, r'⟩ := prd2 P
    simp at r r'
    subst r r'
    cases e
    exact call_max2 hc pins s σ H _ us Q I rv ⟨_, _, rfl, q _ H ι Le.refl hr (by simp)⟩
  · cases e
theorem callf_min (hc : X.calm = true) : CallF X (.builtin "min") minD := by
  rintro pins s σ H xs us Q I rv ⟨ι, ds, Hd, d, Hd', hr, P, e, q⟩
  unfold minD at e
  split at e
  · obtain ⟨v, v', rfl, r, r'⟩ := prd2 P
    simp at r r'
    subst r r'
    cases e
    exact call_min2 hc pins s σ H _ us Q I rv ⟨_, _, rfl, q _ H ι Le.refl hr (by simp)⟩
  · cases e
noncomputable def intD : FF := fun ds H => match ds with
  | [.int i] => some (.int i, H)
  | [.bl b] => some (.int (if b then 1 else 0), H)
  | _ => none
theorem callf_int : CallF X (.type "int") intD := by
  rintro pins s σ H xs us Q I rv ⟨ι, ds, Hd, d, Hd', hr, P, e, q⟩
  unfold intD at e
  split at e
  · obtain ⟨v, rfl, r⟩ := prd1 P
    simp at r
    subst r
    cases e
    exact call_int1 pins s σ H _ us Q I rv (.inl ⟨_, rfl, q _ H ι Le.refl hr (by simp)⟩)
  · obtain ⟨v, rfl, r⟩ := prd1 P
    simp at r
    subst r
    cases e
    exact call_int1 pins s σ H _ us Q I rv (.inr ⟨_, rfl, q _ H ι Le.refl hr (by simp)⟩)
  · cases e
theorem seq_size {pins : List (Addr × Obj)} {s : Shared} {σ : L2.St} {H : Hp} {p : Addr} {vs : List V} (I : Inv X pins σ H s) (h : SqL X.K H p vs ∨ SqT X.K H p vs) : vs.length ≤ sizeLine := by
  rcases h with h | h
  · obtain ⟨_, _, _, z⟩ := I.list h; exact z
  · obtain ⟨_, _, _, z⟩ := I.tuple h; exact z
noncomputable def tupleD : FF := fun ds H => match ds with
  | [d] => (seqD d H).map fun xs => (.tup xs, H)
  | _ => none
theorem callf_tuple : CallF X (.type "tuple") tupleD := by
  rintro pins s σ H xs us Q I rv ⟨ι, ds, Hd, d, Hd', hr, P, e, q⟩
  unfold tupleD at e
  split at e
  · rename_i d0
    obtain ⟨v, rfl, r⟩ := prd1 P
    obtain ⟨ys, e1, e⟩ := Option.map_eq_some_iff.mp e
    obtain ⟨p, vs, rfl, h, P2⟩ := seq_rd hr r e1
    obtain ⟨k1, k2⟩ := new_tup hr P2 (show mkT ys Hd = some (d, Hd') by unfold mkT; rw [if_pos (by rw [Prd.len P2]; exact seq_size I h), e]) q
    refine call_tuple_of pins s σ H _ us Q I rv ⟨p, vs, rfl, ?_⟩
    rcases h with h | h
    · exact .inl ⟨h, k2⟩
    · obtain ⟨rfl, rfl⟩ := Prod.mk.inj e
      exact .inr ⟨h, q _ H ι Le.refl hr (rep_tup.mpr ⟨p, vs, rfl, h, P2⟩)⟩
  · cases e
noncomputable def appendD (x : D) (ds : List D) (H : HD) : Option (D × HD) := match x, ds with
  | .ref n, [d] => match H[n]? with
    | some (.lst xs) => if xs.length < sizeLine then some (.non, H.set n (.lst (xs ++ [d]))) else none
    | _ => none
  | _, _ => none
theorem mtf_append : MtF X "list.append" appendD := by
  rintro pins s σ H x xs v us Q I rx rv ⟨ι, dx, ds, Hd, d, Hd', hr, r1, P, e, q⟩
  unfold appendD at e
  split at e
  · rename_i n d1
    obtain ⟨a, rfl, ha⟩ := rep_ref.mp r1
    obtain ⟨z, rfl, rz⟩ := prd1 P
    split at e
    · rename_i ys e1
      split at e
      · rename_i hl
        cases e
        obtain ⟨vs, h1, P1⟩ := hr.obj n a _ ha e1
        refine mt_append pins s σ H _ _ v us Q I rx rv ⟨a, vs, z, rfl, rfl, h1, by rw [← Prd.len P1]; exact hl, ?_⟩
        have L : Le X.K H ι (upd H a (.lst (vs ++ [z]))) ι := Le.upd (List.mem_of_getElem? ha) h1 trivial _
        exact q _ _ ι L (hr.upd ha h1 trivial ⟨_, upd_same, Prd.append (Prd.mono L P1) (.cons (rz.mono L) .nil)⟩) (by simp)
      · cases e
    · cases e
  · cases e
noncomputable def popD (x : D) (ds : List D) (H : HD) : Option (D × HD) := match x, ds with
  | .ref n, [.int i] => match H[n]? with
    | some (.lst xs) => if -(2 ^ 63) ≤ i ∧ i < 2 ^ 63 then (seqIndex? i xs.length).bind fun k => (xs[k]?).map fun d => (d, H.set n (.lst (xs.eraseIdx k))) else none
    | _ => none
  | _, _ => none
theorem mtf_pop : MtF X "list.pop" popD := by
  rintro pins s σ H x xs v us Q I rx rv ⟨ι, dx, ds, Hd, d, Hd', hr, r1, P, e, q⟩
  unfold popD at e
  split at e
  · rename_i n i
    obtain ⟨a, rfl, ha⟩ := rep_ref.mp r1
    obtain ⟨z, rfl, rz⟩ := prd1 P
    simp at rz
    subst rz
    split at e
    · rename_i ys e1
      split at e
      · rename_i hl
        obtain ⟨k, e2, e⟩ := Option.bind_eq_some_iff.mp e
        obtain ⟨d1, e3, e⟩ := Option.map_eq_some_iff.mp e
        obtain ⟨rfl, rfl⟩ := Prod.mk.inj e
        obtain ⟨vs, h1, P1⟩ := hr.obj n a _ ha e1
        obtain ⟨u, hu, ru⟩ := Prd.get P1 e3
        refine mt_popAt pins s σ H _ _ v us Q I rx rv ⟨a, vs, i, k, u, rfl, rfl, h1, hl.1, hl.2, by rw [← Prd.len P1]; exact e2, hu, ?_⟩
        have L : Le X.K H ι (upd H a (.lst (vs.eraseIdx k))) ι := Le.upd (List.mem_of_getElem? ha) h1 trivial _
        exact q _ _ ι L (hr.upd ha h1 trivial ⟨_, upd_same, Prd.eraseIdx k (Prd.mono L P1)⟩) (ru.mono L)
      · cases e
    · cases e
  · cases e
end
end DL
namespace DL
open PySem PySem.Spec PyProof.Rows L2
mutual
noncomputable def toP (H : HD) : Nat → D → Option PyData
  | _, .non => some .none
  | _, .bl b => some (.bool b)
  | _, .int i => some (.int i)
  | _, .str x => some (.str x)
  | _, .ty _ => none
  | n, .tup xs => (toPs H n xs).map .tuple
  | n, .fl xs => (toPs H n xs).map .list
  | 0, .ref _ => none
  | n + 1, .ref k => match H[k]? with
    | some (.lst xs) => (toPs H n xs).map .list
    | _ => none
termination_by n d => (n, sizeOf d)
noncomputable def toPs (H : HD) : Nat → List D → Option (List PyData)
  | _, [] => some []
  | n, d :: ds => (toP H n d).bind fun x => (toPs H n ds).map fun r => x :: r
termination_by n ds => (n, sizeOf ds)
end
section
variable {X : Cx} {pins : List (Addr × Obj)} {σ : L2.St} {H : Hp} {s : Shared} {ι : List Addr} {Hd : HD}
mutual
theorem reads_of (I : Inv X pins σ H s) (hr : HRep X.K H ι Hd) : ∀ (n : Nat) (d : D) {x : PyData} {v : V} {u : Value}, toP Hd n d = some x → Rep X.K H ι d v → RelV v u → ∃ as, Reads s.heap u x as
  | n, .non, x, v, u, e, r, q => by
    rw [toP] at e; cases e; simp at r; subst r; cases q; exact ⟨_, .none⟩
  | n, .bl b, x, v, u, e, r, q => by
    rw [toP] at e; cases e; simp at r; subst r; cases q; exact ⟨_, .bool b⟩
  | n, .int i, x, v, u, e, r, q => by
    rw [toP] at e; cases e; simp at r; subst r; obtain ⟨t, rfl⟩ := q; exact ⟨_, .int i t⟩
  | n, .str z, x, v, u, e, r, q => by
    rw [toP] at e; cases e; simp at r; subst r; obtain ⟨t, rfl⟩ := q; exact ⟨_, .str z t⟩
  | n, .ty _, x, v, u, e, r, q => by rw [toP] at e; cases e
  | n, .tup xs, x, v, u, e, r, q => by
    rw [toP] at e
    obtain ⟨ps, e1, rfl⟩ := Option.map_eq_some_iff.mp e
    obtain ⟨a, vs, rfl, h, P⟩ := rep_tup.mp r
    cases q
    obtain ⟨its, rv, ⟨o, ho, hc, m, hd⟩, hz⟩ := I.tuple h
    obtain ⟨as, ra⟩ := readsAll_of I hr n xs e1 P rv
    exact ⟨_, .tuple ho hc hd (by simpa using ra)⟩
  | n, .fl xs, x, v, u, e, r, q => by
    rw [toP] at e
    obtain ⟨ps, e1, rfl⟩ := Option.map_eq_some_iff.mp e
    obtain ⟨a, vs, rfl, h, P⟩ := rep_fl.mp r
    cases q
    obtain ⟨its, rv, pl, hz⟩ := I.list h.sq
    obtain ⟨o, ho, hc, m, hd⟩ := pl.isList
    obtain ⟨as, ra⟩ := readsAll_of I hr n xs e1 P rv
    exact ⟨_, .list ho hc hd (by simpa using ra)⟩
  | 0, .ref k, x, v, u, e, r, q => by rw [toP] at e; cases e
  | n + 1, .ref k, x, v, u, e, r, q => by
    rw [toP] at e
    split at e
    · rename_i xs eo
      obtain ⟨ps, e1, rfl⟩ := Option.map_eq_some_iff.mp e
      obtain ⟨a, rfl, ha⟩ := rep_ref.mp r
      cases q
      obtain ⟨vs, h1, P⟩ := hr.obj k a _ ha eo
      obtain ⟨its, rv, pl, hz⟩ := I.list (SqL.of h1)
      obtain ⟨o, ho, hc, m, hd⟩ := pl.isList
      obtain ⟨as, ra⟩ := readsAll_of I hr n xs e1 P rv
      exact ⟨_, .list ho hc hd (by simpa using ra)⟩
    · cases e
termination_by n d => (n, sizeOf d)
theorem readsAll_of (I : Inv X pins σ H s) (hr : HRep X.K H ι Hd) : ∀ (n : Nat) (ds : List D) {xs : List PyData} {vs : List V} {us : List Value}, toPs Hd n ds = some xs → Paired (Rep X.K H ι) ds vs → Vals vs us → ∃ as, ReadsAll s.heap us xs as
  | n, [], xs, vs, us, e, P, q => by
    rw [toPs] at e; cases e; cases P; cases q; exact ⟨_, .nil⟩
  | n, d :: ds, xs, vs, us, e, P, q => by
    rw [toPs] at e
    obtain ⟨x, e1, e⟩ := Option.bind_eq_some_iff.mp e
    obtain ⟨r, e2, rfl⟩ := Option.map_eq_some_iff.mp e
    cases P with
    | cons p P =>
      cases q with
      | cons q Q =>
        obtain ⟨as, ra⟩ := reads_of I hr n d e1 p q
        obtain ⟨bs, rb⟩ := readsAll_of I hr n ds e2 P Q
        exact ⟨_, .cons ra rb⟩
termination_by n ds => (n, sizeOf ds)
end
noncomputable def okP (x : PyData) : Bool := x.canLay0 && decide (x.depth ≤ 30)
noncomputable def dat (d : D) (H : HD) : Option PyData := (toP H 30 d).bind fun x => if okP x = true then some x else none
theorem dat_some {d : D} {x : PyData} (e : dat d Hd = some x) : toP Hd 30 d = some x ∧ x.canLay0 = true ∧ x.depth ≤ 30 := by
  obtain ⟨y, e1, e⟩ := Option.bind_eq_some_iff.mp e
  split at e
  · rename_i h
    cases e
    rw [okP, Bool.and_eq_true, decide_eq_true_eq] at h
    exact ⟨e1, h⟩
  · cases e
noncomputable def twoS : D → D → Option (Str × Str)
  | .str a, .str b => some (a, b)
  | _, _ => none
theorem twoS_some {x y : D} {a b : Str} (h : twoS x y = some (a, b)) : x = .str a ∧ y = .str b := by
  unfold twoS at h
  split at h
  · cases h; exact ⟨rfl, rfl⟩
  · cases h
noncomputable def eqD : F2 := fun x y H => match twoS x y with
  | some (a, b) => some (.bl (a == b), H)
  | none => (dat x H).bind fun p => (dat y H).map fun q => (.bl (PyData.eqv p q), H)
noncomputable def neD : F2 := fun x y H => match twoS x y with
  | some (a, b) => some (.bl (a != b), H)
  | none => (dat x H).bind fun p => (dat y H).map fun q => (.bl (!PyData.eqv p q), H)
theorem opf_eq (hu : X.A.units + 64 < cLine) : OpF X (compareOp .Eq) eqD := by
  rintro pins s σ H x y v u Q I rx ry ⟨ι, dx, dy, Hd, d, Hd', hr, r1, r2, e, q⟩
  unfold eqD at e
  split at e
  · rename_i a b es
    obtain ⟨rfl, rfl⟩ := twoS_some es
    obtain ⟨rfl, rfl⟩ := Prod.mk.inj (Option.some.inj e)
    simp at r1 r2
    subst r1 r2
    obtain ⟨t1, rfl⟩ := rx
    obtain ⟨t2, rfl⟩ := ry
    exact PyProof.Rows.eq_str ⟨.bl _, H, I, rfl, q _ H ι Le.refl hr (by simp)⟩
  · obtain ⟨p, e1, e⟩ := Option.bind_eq_some_iff.mp e
    obtain ⟨p2, e2, e⟩ := Option.map_eq_some_iff.mp e
    obtain ⟨rfl, rfl⟩ := Prod.mk.inj e
    obtain ⟨t1, c1, d1⟩ := dat_some e1
    obtain ⟨t2, c2, d2⟩ := dat_some e2
    obtain ⟨as, ra⟩ := reads_of I hr _ _ t1 r1 rx
    obtain ⟨bs, rb⟩ := reads_of I hr _ _ t2 r2 ry
    exact SeqAt.compareEq_reads ra rb c1 c2 (by omega) ⟨.bl _, H, I, rfl, q _ H ι Le.refl hr (by simp)⟩
theorem opf_ne (hu : X.A.units + 64 < cLine) : OpF X (compareOp .NotEq) neD := by
  rintro pins s σ H x y v u Q I rx ry ⟨ι, dx, dy, Hd, d, Hd', hr, r1, r2, e, q⟩
  unfold neD at e
  split at e
  · rename_i a b es
    obtain ⟨rfl, rfl⟩ := twoS_some es
    obtain ⟨rfl, rfl⟩ := Prod.mk.inj (Option.some.inj e)
    simp at r1 r2
    subst r1 r2
    obtain ⟨t1, rfl⟩ := rx
    obtain ⟨t2, rfl⟩ := ry
    exact PyProof.Rows.ne_str ⟨.bl _, H, I, rfl, q _ H ι Le.refl hr (by simp)⟩
  · obtain ⟨p, e1, e⟩ := Option.bind_eq_some_iff.mp e
    obtain ⟨p2, e2, e⟩ := Option.map_eq_some_iff.mp e
    obtain ⟨rfl, rfl⟩ := Prod.mk.inj e
    obtain ⟨t1, c1, d1⟩ := dat_some e1
    obtain ⟨t2, c2, d2⟩ := dat_some e2
    obtain ⟨as, ra⟩ := reads_of I hr _ _ t1 r1 rx
    obtain ⟨bs, rb⟩ := reads_of I hr _ _ t2 r2 ry
    exact SeqAt.compareNe_reads ra rb c1 c2 (by omega) ⟨.bl _, H, I, rfl, q _ H ι Le.refl hr (by simp)⟩
noncomputable def itemsP : PyData → Option (List PyData)
  | .list xs => some xs
  | .tuple xs => some xs
  | _ => none
noncomputable def inD : F2 := fun x y H => (dat x H).bind fun p => (dat y H).bind fun q => (itemsP q).map fun xs => (.bl (xs.any fun z => PyData.eqv z p), H)
noncomputable def niD : F2 := fun x y H => (dat x H).bind fun p => (dat y H).bind fun q => (itemsP q).map fun xs => (.bl (!xs.any fun z => PyData.eqv z p), H)
theorem opf_in (hu : X.A.units + 64 < cLine) : OpF X (compareOp .In) inD := by
  rintro pins s σ H x y v u Q I rx ry ⟨ι, dx, dy, Hd, d, Hd', hr, r1, r2, e, q⟩
  obtain ⟨p, e1, e⟩ := Option.bind_eq_some_iff.mp e
  obtain ⟨p2, e2, e⟩ := Option.bind_eq_some_iff.mp e
  obtain ⟨xs, e3, e⟩ := Option.map_eq_some_iff.mp e
  obtain ⟨rfl, rfl⟩ := Prod.mk.inj e
  obtain ⟨t1, c1, d1⟩ := dat_some e1
  obtain ⟨t2, c2, d2⟩ := dat_some e2
  obtain ⟨as, ra⟩ := reads_of I hr _ _ t1 r1 rx
  obtain ⟨bs, rb⟩ := reads_of I hr _ _ t2 r2 ry
  have fin : EP X pins σ Q (.bool (xs.any fun z => PyData.eqv z p)) s := ⟨.bl _, H, I, rfl, q _ H ι Le.refl hr (by simp)⟩
  cases p2 with
  | list ys =>
    cases e3
    simp only [PyData.canLay0] at c2
    simp only [PyData.depth] at d2
    exact SeqAt.in_list_reads rb ra c2 c1 (by omega) fin
  | tuple ys =>
    cases e3
    simp only [PyData.canLay0] at c2
    simp only [PyData.depth] at d2
    exact SeqAt.in_tuple_reads rb ra c2 c1 (by omega) fin
  | _ => simp [itemsP] at e3
theorem opf_ni (hu : X.A.units + 64 < cLine) : OpF X (compareOp .NotIn) niD := by
  rintro pins s σ H x y v u Q I rx ry ⟨ι, dx, dy, Hd, d, Hd', hr, r1, r2, e, q⟩
  obtain ⟨p, e1, e⟩ := Option.bind_eq_some_iff.mp e
  obtain ⟨p2, e2, e⟩ := Option.bind_eq_some_iff.mp e
  obtain ⟨xs, e3, e⟩ := Option.map_eq_some_iff.mp e
  obtain ⟨rfl, rfl⟩ := Prod.mk.inj e
  obtain ⟨t1, c1, d1⟩ := dat_some e1
  obtain ⟨t2, c2, d2⟩ := dat_some e2
  obtain ⟨as, ra⟩ := reads_of I hr _ _ t1 r1 rx
  obtain ⟨bs, rb⟩ := reads_of I hr _ _ t2 r2 ry
  have fin : EP X pins σ Q (.bool (!xs.any fun z => PyData.eqv z p)) s := ⟨.bl _, H, I, rfl, q _ H ι Le.refl hr (by simp)⟩
  cases p2 with
  | list ys =>
    cases e3
    simp only [PyData.canLay0] at c2
    simp only [PyData.depth] at d2
    exact SeqAt.notIn_list_reads rb ra c2 c1 (by omega) fin
  | tuple ys =>
    cases e3
    simp only [PyData.canLay0] at c2
    simp only [PyData.depth] at d2
    exact SeqAt.notIn_tuple_reads rb ra c2 c1 (by omega) fin
  | _ => simp [itemsP] at e3
noncomputable def tyD : D → HD → Option String
  | .non, _ => some "NoneType"
  | .bl _, _ => some "bool"
  | .int _, _ => some "int"
  | .str _, _ => some "str"
  | .tup _, _ => some "tuple"
  | .fl _, _ => some "list"
  | .ref n, H => match H[n]? with
    | some (.lst _) => some "list"
    | _ => none
  | _, _ => none
noncomputable def asked (c : String) : Bool := c == "bool" || c == "int" || c == "str" || c == "tuple" || c == "list"
noncomputable def isiD : FF := fun ds H => match ds with
  | [x, .ty c] => if asked c = true then (tyD x H).map fun t => (.bl (t == c || (t == "bool" && c == "int")), H) else none
  | _ => none
noncomputable def tys : List String := ["NoneType", "bool", "int", "str", "tuple", "list"]
theorem tyD_mem {d : D} {t : String} (e : tyD d Hd = some t) : t ∈ tys := by
  cases d with
  | ref n =>
    simp only [tyD] at e
    split at e
    · cases e; decide
    · cases e
  | ty n => simp [tyD] at e
  | _ => simp only [tyD] at e; cases e; decide
theorem kit_ok (K : PySem.W.Frag) {t c : String} (ht : t ∈ tys) (hc : asked c = true) : PySem.W.kitOne K (.type t) (.type c) = some (t == c || (t == "bool" && c == "int")) := by
  have hc' : c = "bool" ∨ c = "int" ∨ c = "str" ∨ c = "tuple" ∨ c = "list" := by
    simpa [asked, or_assoc] using hc
  simp only [tys, List.mem_cons, List.not_mem_nil, or_false] at ht
  rcases ht with rfl | rfl | rfl | rfl | rfl | rfl <;> rcases hc' with rfl | rfl | rfl | rfl | rfl <;> first | rfl | (with_unfolding_all rfl) | kernel_rfl
theorem callf_isi : CallF X (.builtin "isinstance") isiD := by
  rintro pins s σ H xs us Q I rv ⟨ι, ds, Hd, d, Hd', hr, P, e, q⟩
  unfold isiD at e
  split at e
  · rename_i x c
    split at e
    · rename_i hc
      obtain ⟨t, e1, e⟩ := Option.map_eq_some_iff.mp e
      obtain ⟨rfl, rfl⟩ := Prod.mk.inj e
      obtain ⟨v, v', rfl, r, r'⟩ := prd2 P
      obtain ⟨u, u', rfl, ru, ru'⟩ := vals2 rv
      simp at r'
      subst r'
      cases ru'
      have k := kit_ok X.K (tyD_mem e1) hc
      have fin : ∀ tk, EP X pins σ Q (.bool (t == c || (t == "bool" && c == "int"))) { s with toks := tk } := fun tk => ⟨.bl _, H, I.tok tk, rfl, q _ H ι Le.refl hr (by simp)⟩
      cases x with
      | non => simp at r; subst r; cases ru; cases e1; exact PySem.W.kia_one PySem.W.kitx_none I.kIn True.intro k (fun z => nomatch z) fin
      | bl y => simp at r; subst r; cases ru; cases e1; exact PySem.W.kia_one PySem.W.kitx_bool I.kIn True.intro k (fun z => nomatch z) fin
      | int y => simp at r; subst r; obtain ⟨t, rfl⟩ := ru; cases e1; exact PySem.W.kia_one PySem.W.kitx_int I.kIn True.intro k (fun z => nomatch z) fin
      | str y => simp at r; subst r; obtain ⟨t, rfl⟩ := ru; cases e1; exact PySem.W.kia_one PySem.W.kitx_str I.kIn True.intro k (fun z => nomatch z) fin
      | ty _ => simp [tyD] at e1
      | tup ys =>
        obtain ⟨a, vs, rfl, h, _⟩ := rep_tup.mp r
        cases ru; cases e1
        obtain ⟨its, _, ⟨o, ho, hcl, _⟩, _⟩ := I.tuple h
        exact PySem.W.kia_one PySem.W.kitx_tuple I.kIn ⟨o, ho, hcl⟩ k (fun z => nomatch z) fin
      | fl ys =>
        obtain ⟨a, vs, rfl, h, _⟩ := rep_fl.mp r
        cases ru; cases e1
        obtain ⟨its, _, pl, _⟩ := I.list h.sq
        obtain ⟨o, ho, hcl, _⟩ := pl.isList
        exact PySem.W.kia_one PySem.W.kitx_list I.kIn ⟨o, ho, hcl⟩ k (fun z => nomatch z) fin
      | ref n =>
        obtain ⟨a, rfl, ha⟩ := rep_ref.mp r
        cases ru
        simp only [tyD] at e1
        split at e1
        · rename_i ys eo
          cases e1
          obtain ⟨vs, h1, _⟩ := hr.obj n a _ ha eo
          obtain ⟨its, _, pl, _⟩ := I.list (SqL.of h1)
          obtain ⟨o, ho, hcl, _⟩ := pl.isList
          exact PySem.W.kia_one PySem.W.kitx_list I.kIn ⟨o, ho, hcl⟩ k (fun z => nomatch z) fin
        · cases e1
    · cases e
  · cases e
noncomputable def isTup : D → Bool
  | .tup _ => true
  | _ => false
noncomputable def intsD : List D → Option (List Int)
  | [] => some []
  | .int i :: r => (intsD r).map fun s => i :: s
  | _ => none
noncomputable def isort (ns : List Int) : List Int := ns.mergeSort (fun a b => decide (a ≤ b))
theorem isort_perm (ns : List Int) : (isort ns).Perm ns := List.mergeSort_perm ns _
theorem isort_pw (ns : List Int) : (isort ns).Pairwise (· ≤ ·) := by
  have h := List.pairwise_mergeSort (le := fun a b : Int => decide (a ≤ b)) (by intro a b c h1 h2; simp at *; omega) (by intro a b; simp; omega) ns
  exact h.imp (by intro a b h; simpa using h)
theorem sorted_eq : ∀ {xs ys : List Int}, xs.Perm ys → xs.Pairwise (· ≤ ·) → ys.Pairwise (· ≤ ·) → xs = ys
  | [], ys, p, _, _ => by simpa using p.symm
  | x :: xs, [], p, _, _ => by simpa using p
  | x :: xs, y :: ys, p, h1, h2 => by
    rw [List.pairwise_cons] at h1 h2
    have a1 : y ∈ x :: xs := p.symm.subset (by simp)
    have a2 : x ∈ y :: ys := p.subset (by simp)
    have e : x = y := by
      rcases List.mem_cons.mp a1 with z | z
      · exact z.symm
      · rcases List.mem_cons.mp a2 with w | w
        · exact w
        · have := h1.1 y z
          have := h2.1 x w
          omega
    subst e
    rw [sorted_eq (List.Perm.cons_inv p) h1.2 h2.2]
noncomputable def sortedD : FF := fun ds H => match ds with
  | [d] => (seqD d H).bind fun xs => (intsD xs).bind fun ns => if ns.length < 64 ∧ isTup d = false then some (.ref H.length, H ++ [.lst ((isort ns).map .int)]) else none
  | _ => none
theorem intsD_rep {K : PySem.W.Frag} : ∀ {xs : List D} {ns : List Int} {vs : List V}, intsD xs = some ns → Paired (Rep K H ι) xs vs → vs = ns.map V.int
  | [], ns, vs, e, P => by cases P; cases e; rfl
  | .int i :: r, ns, vs, e, P => by
    simp only [intsD] at e
    obtain ⟨s, e1, rfl⟩ := Option.map_eq_some_iff.mp e
    cases P with
    | cons p P =>
      simp at p
      subst p
      rw [intsD_rep e1 P]
      rfl
  | .non :: _, _, _, e, _ => by simp [intsD] at e
  | .bl _ :: _, _, _, e, _ => by simp [intsD] at e
  | .str _ :: _, _, _, e, _ => by simp [intsD] at e
  | .ty _ :: _, _, _, e, _ => by simp [intsD] at e
  | .tup _ :: _, _, _, e, _ => by simp [intsD] at e
  | .fl _ :: _, _, _, e, _ => by simp [intsD] at e
  | .ref _ :: _, _, _, e, _ => by simp [intsD] at e
theorem ints_vals : ∀ {ns : List Int} {us : List Value}, IntsAre us ns → Vals (ns.map V.int) us := by
  intro ns us h
  induction h with
  | nil => exact .nil
  | cons n t _ ih => exact .cons ⟨t, rfl⟩ ih
theorem ints_reps {K : PySem.W.Frag} (ns : List Int) : Paired (Rep K H ι) (ns.map D.int) (ns.map V.int) := by
  induction ns with
  | nil => exact .nil
  | cons n r ih => exact .cons (by simp) ih
theorem callf_sorted : CallF X (.builtin "sorted") sortedD := by
  rintro pins s σ H xs us Q I rv ⟨ι, ds, Hd, d, Hd', hr, P, e, q⟩
  unfold sortedD at e
  split at e
  · rename_i d0
    obtain ⟨v, rfl, r⟩ := prd1 P
    obtain ⟨ys, e1, e⟩ := Option.bind_eq_some_iff.mp e
    obtain ⟨ns, e2, e⟩ := Option.bind_eq_some_iff.mp e
    split at e
    · rename_i hc
      obtain ⟨p, vs, rfl, h, P2⟩ := seq_rd hr r e1
      have hL : SqL X.K H p vs := by
        cases d0 with
        | tup _ => exact absurd hc.2 (by simp [isTup])
        | fl zs =>
          obtain ⟨a, ws, e3, h3, P3⟩ := rep_fl.mp r
          cases e3
          cases e1
          have : vs = ws := (intsD_rep e2 P2).trans (intsD_rep e2 P3).symm
          rw [this]; exact h3.sq
        | ref n =>
          obtain ⟨a, e3, h3⟩ := rep_ref.mp r
          cases e3
          simp only [seqD] at e1
          split at e1
          · rename_i zs eo
            cases e1
            obtain ⟨ws, h4, P4⟩ := hr.obj n _ _ h3 eo
            have : vs = ws := (intsD_rep e2 P2).trans (intsD_rep e2 P4).symm
            rw [this]; exact SqL.of h4
          · cases e1
        | _ => simp [seqD] at e1
      obtain ⟨u, rfl, ru⟩ := vals1 rv
      cases ru
      have ev := intsD_rep e2 P2
      subst ev
      obtain ⟨its, ri, pl, hz⟩ := I.list hL
      have il : its.length = ns.length := by rw [← ri.length, List.length_map]
      refine sorted_ints pl.isList (intsAre_of ri) (by omega) fun out ns' a1 a2 a3 => ?_
      have en : ns' = isort ns := sorted_eq (a2.trans (isort_perm ns).symm) a3 (isort_pw ns)
      subst en
      obtain ⟨k, hk⟩ := sortedAll_at s.heap its out
      have hp0 : H (s.heap.objs.size + 1) = none := I.hok.fresh (Nat.le_succ _)
      have hl : ((isort ns).map V.int).length ≤ sizeLine := by
        rw [List.length_map, (isort_perm ns).length_eq]
        have : sizeLine = 16777216 := sizeLine_eq
        omega
      refine ⟨.ref (s.heap.objs.size + 1), _, I.laid (t' := s.toks) (o := .lst ((isort ns).map V.int)) (fun b ob eb => sortedAll_old eb) (Nat.le_succ _) ⟨hl, out.toList, k, ints_vals a1, by simpa using hk⟩, rfl, ?_⟩
      have hz2 : ((isort ns).map D.int).length ≤ sizeLine := by simpa using hl
      exact (new_lst hr (ints_reps (isort ns)) (show mkL ((isort ns).map D.int) Hd = some (d, Hd') by unfold mkL; rw [if_pos hz2, e]) q).2 _ hp0
    · cases e
  · cases e
end
section
variable {X : Cx} {tg : Expr}
noncomputable def itemsD : D → HD → Option (List D × OwnD)
  | .tup xs, _ => some (xs, [])
  | .fl xs, _ => some (xs, [])
  | .ref n, H => match H[n]? with
    | some (.lst xs) => some (xs, [(n, .lst xs)])
    | _ => none
  | _, _ => none
noncomputable def smallI (i : Int) : Prop := -(2 ^ 62) ≤ i ∧ i < 2 ^ 62
instance (i : Int) : Decidable (smallI i) := by unfold smallI; exact inferInstance
noncomputable def rangeL (lo : Int) (n : Nat) : List D := (List.range n).map fun k : Nat => .int (lo + (k : Int))
theorem rangeL_get {lo : Int} {n i : Nat} {d : D} (h : (rangeL lo n)[i]? = some d) : i < n ∧ d = .int (lo + i) := by
  unfold rangeL at h
  rw [List.getElem?_map] at h
  obtain ⟨k, h1, rfl⟩ := Option.map_eq_some_iff.mp h
  rw [List.getElem?_eq_some_iff] at h1
  obtain ⟨hl, h1⟩ := h1
  simp at h1 hl
  subst h1
  exact ⟨hl, rfl⟩
theorem itr_range {K : PySem.W.Frag} {H0 : Hp} {ι0 : List Addr} (lo : Int) (n : Nat) : ItRep K (Itr lo n) (rangeL lo n) [] H0 ι0 := by
  refine ⟨fun i H2 ι2 Hd2 l2 h2 _ hi => (show i < n by simpa [rangeL] using hi), fun i H2 ι2 Hd2 d x H3 l2 h2 _ hd y => ?_, fun i H2 ι2 Hd2 l2 h2 _ hi => (show n ≤ i by simpa [rangeL] using hi)⟩
  obtain ⟨rfl, rfl⟩ := y
  obtain ⟨_, rfl⟩ := rangeL_get hd
  exact ⟨ι2, Le.refl, h2, by simp⟩
noncomputable def iR1 (f : AF) : ItF := fun σ H => (f σ H).bind fun p => match p.1 with
  | [.int j] => if smallI j then some ((rangeL 0 j.toNat, []), p.2) else none
  | _ => none
noncomputable def iR2 (f : AF) : ItF := fun σ H => (f σ H).bind fun p => match p.1 with
  | [.int i, .int j] => if smallI i ∧ smallI j then some ((rangeL i (j - i).toNat, []), p.2) else none
  | _ => none
theorem pif_range1 {a : Expr} {f : AF} {p pos : Pos} (hg : Gl X "range") (hm : X.mg "range" = none) (ha : PAf X [a] f) (hs : starEach [a] X.env = [(false, eval a X.env)] := by rfl) : PIf X tg (.Call (.Name "range" p) [a] [] pos) (iR1 f) := by
  refine PIi (pi_range1 hg hm ha hs) fun σ H R zz => ?_
  obtain ⟨ι, σd, Hd, xs, own, Hd', s, hr, e, q⟩ := zz
  obtain ⟨⟨ds, H1⟩, e1, e⟩ := Option.bind_eq_some_iff.mp e
  dsimp only at e
  split at e
  · rename_i j
    split at e
    · rename_i hj
      cases e
      refine ⟨ι, σd, Hd, _, _, s, hr, e1, fun vs H' ι' l h P => ?_⟩
      obtain ⟨v, rfl, r⟩ := prd1 P
      simp at r
      subst r
      exact ⟨j, rfl, hj.1, hj.2, q _ H' ι' l h (itr_range 0 _)⟩
    · cases e
  · cases e
theorem pif_range2 {a b : Expr} {f : AF} {p pos : Pos} (hg : Gl X "range") (hm : X.mg "range" = none) (ha : PAf X [a, b] f) (hs : starEach [a, b] X.env = [(false, eval a X.env), (false, eval b X.env)] := by rfl) (hs2 : starEach [b] X.env = [(false, eval b X.env)] := by rfl) :
    PIf X tg (.Call (.Name "range" p) [a, b] [] pos) (iR2 f) := by
  refine PIi (pi_range2 hg hm ha hs hs2) fun σ H R zz => ?_
  obtain ⟨ι, σd, Hd, xs, own, Hd', s, hr, e, q⟩ := zz
  obtain ⟨⟨ds, H1⟩, e1, e⟩ := Option.bind_eq_some_iff.mp e
  dsimp only at e
  split at e
  · rename_i i j
    split at e
    · rename_i hj
      cases e
      refine ⟨ι, σd, Hd, _, _, s, hr, e1, fun vs H' ι' l h P => ?_⟩
      obtain ⟨v, v', rfl, r, r'⟩ := prd2 P
      simp at r r'
      subst r r'
      exact ⟨i, j, rfl, ⟨hj.1.1, hj.1.2, hj.2.1, hj.2.2⟩, q _ H' ι' l h (itr_range _ _)⟩
    · cases e
  · cases e
end
end DL
namespace DL
open PySem PySem.Spec PyProof.Rows L2
open Builtin.SmallTypes (nextOf)
section
variable {prog : Program} {w : World} {A : Around} {E : Value → Shared → Prop} {s : Shared}
end
end DL
namespace DL
open PySem PySem.Spec PyProof.Rows L2
section
variable {X : Cx}
end
section
variable {X : Cx}
noncomputable def It3 (lo c : Int) (n : Nat) : It := ⟨fun i _ => i < n, fun i H x H' => H' = H ∧ x = .int (lo + i * c), fun i _ => n ≤ i⟩
theorem turn_range3 {P : Program} {w : World} {K : PySem.W.Frag} {tg : Expr} (it : Addr) (lo c : Int) (n : Nat) : Turn P w K tg (It3 lo c n) [it] it (fun i h => IsRangeIter h it (lo + (i : Nat) * c) ((n : Int) - (i : Nat)) c) where
  mem := by simp
  obj := fun i h st b hb => by
    have e : b = it := by simpa using hb
    subst e
    exact ⟨_, st, fun v z => by
      have z' : Data.fields _ = Data.cell v := z
      cases z'⟩
  keep := fun i h h' st k => k it (by simp) _ st
  item := by
    intro X hP hw hK hc i pins s σ H E I hf st hg
    subst hP hw hK
    obtain ⟨f0, f1, f2, f3, f4, f5⟩ := hf it (by simp)
    have W := Walks.range (prog := X.prog) (w := X.w) (I.ok.hd hc) it lo c n
    refine W.item i s _ _ hg st fun v h' tk hv st' kk => ?_
    obtain ⟨t, rfl⟩ := hv
    have I1 : Inv X pins σ H { s with heap := h', toks := tk } := I.turned (fun b o hb e => kk b o (by simpa using hb) e) f0 f1 f3 f4 f5
    exact ⟨_, rfl, go_of (s := { s with heap := h', toks := tk }) (n := "range_iterator") st' rfl rfl (by decide) ⟨.int (lo + i * c), H, I1, ⟨t, rfl⟩, ⟨rfl, rfl⟩, st', fun b hb => (hf b hb).1⟩⟩
  done := by
    intro X hP hw hK hc i pins s σ H E I hf st hg
    subst hP hw hK
    obtain ⟨f0, f1, f2, f3, f4, f5⟩ := hf it (by simp)
    exact wpAny_pyNext_range_end (I.ok.hd hc) st (by have : n ≤ i := hg; omega) fun h' eb => ⟨rfl, I.turned (t' := s.toks) (fun b o hb e => eb b o hb e) f0 f1 f3 f4 f5⟩
  self := fun _ _ _ _ _ st h => wpAny_pyIter_rangeiter st h
noncomputable def rangeL3 (lo c : Int) (n : Nat) : List D := (List.range n).map fun k : Nat => .int (lo + (k : Int) * c)
end
end DL
namespace DL
open PySem PySem.Spec PyProof.Rows L2
section
variable {X : Cx}
noncomputable def tRng2 (ta : TA) : TE := fun σ H Q => ta σ H fun vs H1 => ∃ i j : Int, vs = [.int i, .int j] ∧ ∀ p, H1 p = none → Q (.ref p) (upd H1 p (.rng i j))
theorem pe_rng2 {a b : Expr} {ta : TA} {p pos : Pos} (hg : Gl X "range") (hm : X.mg "range" = none) (ha : PA X [a, b] ta) (hs : starEach [a, b] X.env = [(false, eval a X.env), (false, eval b X.env)] := by rfl) (hs2 : starEach [b] X.env = [(false, eval b X.env)] := by rfl) :
    PE X (.Call (.Name "range" p) [a, b] [] pos) (tRng2 ta) := by
  intro pins s σ H Q I h
  refine Call_ (ld_blt I hg hm boot_range (PyProof.Rows.callWith_type1 (thn (ha pos pins s σ H _ I h) fun us s1 ⟨vs, H1, I1, r1, q1⟩ => ?_) (by rw [hs, hs2]) (by rw [hs2]; rfl)))
  obtain ⟨i, j, rfl, q⟩ := q1
  obtain ⟨u1, u2, rfl, ru1, ru2⟩ := vals2 r1
  obtain ⟨t1, rfl⟩ := ru1
  obtain ⟨t2, rfl⟩ := ru2
  refine call_range_2 ?_
  exact ⟨.ref s1.heap.objs.size, _, I1.laid (t' := s1.toks + 1) (o := .rng i j) (fun b o e => Heap.get?_push_of_some _ e) (Nat.le_refl _) ⟨_, _, _, Heap.get?_push_size _ rfl⟩, rfl, q _ (I1.hok.fresh (Nat.le_refl _))⟩
theorem prd_of {α β : Type} {F : α → β → Prop} : ∀ {xs : List α} {us : List β}, xs.length = us.length → (∀ (i : Nat) x u, xs[i]? = some x → us[i]? = some u → F x u) → Paired F xs us
  | [], [], _, _ => .nil
  | [], _ :: _, h, _ => by simp at h
  | _ :: _, [], h, _ => by simp at h
  | x :: xs, u :: us, h, f => .cons (f 0 x u rfl rfl) (prd_of (by simpa using h) fun i y v h1 h2 => f (i + 1) y v (by simpa using h1) (by simpa using h2))
noncomputable def intsV (lo : Int) (n : Nat) : List V := (List.range n).map fun k : Nat => .int (lo + (k : Int))
theorem call_list_rng (hc : X.calm = true) : CallR X (.type "list") (fun xs H Q => ∃ p i j, xs = [.ref p] ∧ H p = some (.rng i j) ∧ smallI i ∧ smallI j ∧ (j - i).toNat ≤ 1000000 ∧ ∀ l, H l = none → Q (.ref l) (upd H l (.lst (intsV i (j - i).toNat)))) := by
  intro pins s σ H xs us Q I r h
  obtain ⟨p, i, j, rfl, hH, hi, hj, hn, q⟩ := h
  obtain ⟨u, rfl, rx⟩ := vals1 r
  cases rx
  obtain ⟨t, u, v, hr⟩ := (show ObjOk X.prog X.w H s.heap p (.rng i j) from I.hok p _ hH)
  have e : Builtin.Range.rangeSize i j 1 = ((j - i).toNat : Nat) := by rw [rangeSize_one]; split <;> omega
  refine call_list_range (I.ok.hd hc) hr (small_one hi.1 hi.2 hj.1 hj.2) e (by omega) fun h' tk acc' c' kp hS hacc => ?_
  have sz : sizeLine = 16777216 := sizeLine_eq
  have vals : Vals (intsV i (j - i).toNat) acc'.toList := by
    refine prd_of (by simp [intsV, hacc.1]) fun k x u h1 h2 => ?_
    unfold intsV at h1
    rw [List.getElem?_map] at h1
    obtain ⟨k', h3, rfl⟩ := Option.map_eq_some_iff.mp h1
    rw [List.getElem?_eq_some_iff] at h3
    obtain ⟨_, h3⟩ := h3
    simp at h3
    subst h3
    obtain ⟨t, e⟩ := hacc.2 k u (by simpa using h2)
    exact ⟨t, by rw [e, Int.mul_one]⟩
  exact ⟨.ref s.heap.objs.size, _, I.laid (t' := tk) (o := .lst (intsV i (j - i).toNat)) kp (Nat.le_refl _) ⟨by simp [intsV]; omega, acc'.toList, c', vals, by simpa using hS⟩, rfl, q _ (I.hok.fresh (Nat.le_refl _))⟩
noncomputable def eLR2 (f : AF) : EF := fun σ H => (f σ H).bind fun p => match p.1 with
  | [.int i, .int j] => if smallI i ∧ smallI j ∧ (j - i).toNat ≤ 1000000 then some (.ref p.2.length, p.2 ++ [.lst (rangeL i (j - i).toNat)]) else none
  | _ => none
theorem pef_listR2 {a b : Expr} {f : AF} {p p2 pos pos2 : Pos} (hc : X.calm = true) (hg : Gl X "list") (hm : X.mg "list" = none) (hg2 : Gl X "range") (hm2 : X.mg "range" = none) (ha : PAf X [a, b] f)
    (hs : starEach [a, b] X.env = [(false, eval a X.env), (false, eval b X.env)] := by rfl) (hs2 : starEach [b] X.env = [(false, eval b X.env)] := by rfl)
    (he : starEach [Expr.Call (.Name "range" p2) [a, b] [] pos2] X.env = (false, eval (Expr.Call (.Name "range" p2) [a, b] [] pos2) X.env) :: starEach [] X.env := by rfl)
    (hpl : (backTo pos (starEach [] X.env)).any (·.1) = false := by rfl) : PEf X (.Call (.Name "list" p) [.Call (.Name "range" p2) [a, b] [] pos2] [] pos) (eLR2 f) := by
  refine PEi (pe_callTy (call_list_rng hc) hg hm (by decide +kernel) (pa_cons (pe_rng2 hg2 hm2 ha hs hs2) pa_nil he) (by decide) (by decide) he hpl) fun σ H Q zz => ?_
  obtain ⟨ι, σd, Hd, d, Hd', s, hr, e, q⟩ := zz
  obtain ⟨⟨ds, H1⟩, e1, e⟩ := Option.bind_eq_some_iff.mp e
  dsimp only at e
  split at e
  · rename_i i j
    split at e
    · rename_i hk
      cases e
      refine ⟨ι, σd, Hd, _, _, s, hr, e1, fun vs H' ι' l h P => ?_⟩
      obtain ⟨v, v', rfl, r, r'⟩ := prd2 P
      simp at r r'
      subst r r'
      refine ⟨i, j, rfl, fun r hr' => ⟨r, i, j, rfl, upd_same, hk.1, hk.2.1, hk.2.2, fun lx hl => ?_⟩⟩
      have h2 := h.tup hr' (.rng i j)
      have sz : sizeLine = 16777216 := sizeLine_eq
      have P2 : Paired (Rep X.K (upd H' r (.rng i j)) ι') (rangeL i (j - i).toNat) (intsV i (j - i).toNat) := by
        unfold rangeL intsV
        generalize (List.range (j - i).toNat) = ks
        induction ks with
        | nil => exact .nil
        | cons k ks ih => exact .cons (by simp) ih
      refine (new_lst h2 P2 (show mkL (rangeL i (j - i).toNat) H1 = some _ by unfold mkL; rw [if_pos (by simp [rangeL]; omega)]) fun v2 H2 ι2 l2 h2 r2 => q v2 H2 ι2 ((l.trans (Le.fresh hr' _)).trans l2) h2 r2).2 _ hl
    · cases e
  · cases e
end
structure Fn (P : Program) (w : World) (K : PySem.W.Frag) (mg : Str → Option Value) (base : Heap) (k : Nat) (x : Str) (ps : List Str) (F : FF) : Prop where
  ex : ∃ f fd, FnOk P w K mg base CX0 k f fd ps (spF K ps.length F) ∧ Binds K fd ps [] ∧ PySem.W.keepIn K (.ref f) = true ∧ mg x = some (.ref f) ∧ ∃ (oc : Value) (od : Option Addr) (osl : Array (Option Value)), K.lookup f = some ⟨oc, od, .func fd, osl⟩
theorem pef_fn {X : Cx} {k n : Nat} {ps : List Str} {x : Str} {p pos : Pos} {F : FF} {fa : AF} {e : Expr} {es : List Expr} (G : Fn X.prog X.w X.K X.mg X.base k x ps F) (hr : Room k X.A) (hg : Gl X x)
    (ha : PAf X (e :: es) fa) (hdb : (x == ("__debug__" : Str)) = false := by decide) (he : starEach (e :: es) X.env = (false, eval e X.env) :: starEach es X.env := by exact star_cons rfl) (hpl : (backTo pos (starEach es X.env)).any (·.1) = false := by exact star_any rfl) (hn : ps.length = n := by rfl) :
    PEf X (.Call (.Name x p) (e :: es) [] pos) (eCall n F fa) := by
  subst hn
  obtain ⟨f, fd, G1, hb, hk, hm, _⟩ := G.ex
  exact pef_call G1 hr hg hm hk hb ha hdb he hpl
noncomputable def Tf (K : PySem.W.Frag) (mg : Str → Option Value) (x : Str) (st : Stmt) : Prop := ∃ f fd, Fun K x x st f fd ∧ mg x = some (.ref f)
theorem us0 {us : List Value} (h : us.length = 0) : us = [] := List.length_eq_zero_iff.mp h
theorem us1 {us : List Value} (h : us.length = 1) : ∃ a, us = [a] := by
  obtain ⟨a, r⟩ := List.exists_cons_of_length_eq_add_one h
  obtain ⟨t, rfl⟩ := r
  rw [us0 (us := t) (by simpa using h)]
  exact ⟨a, rfl⟩
theorem us2 {us : List Value} (h : us.length = 2) : ∃ a b, us = [a, b] := by
  obtain ⟨a, t, rfl⟩ := List.exists_cons_of_length_eq_add_one h
  obtain ⟨b, rfl⟩ := us1 (us := t) (by simpa using h)
  exact ⟨a, b, rfl⟩
theorem us3 {us : List Value} (h : us.length = 3) : ∃ a b c, us = [a, b, c] := by
  obtain ⟨a, t, rfl⟩ := List.exists_cons_of_length_eq_add_one h
  obtain ⟨b, c, rfl⟩ := us2 (us := t) (by simpa using h)
  exact ⟨a, b, c, rfl⟩
theorem tf_mk {K : PySem.W.Frag} {h : Heap} {mg : Str → Option Value} {x : Str} {st : Stmt} {f : Addr} {oc : Value} {od an : Option Addr} {osl : Array (Option Value)} {kV doc pm cdv ct : Value} (X : K.In h) (G : h.Ns mainGlobals mg)
    (a : PySem.W.nsIn K mainGlobals x = some (some (.ref f))) (l : K.lookup f = some ⟨oc, od, .func (PySem.W.fnOf x x (defArgs st) (defBody st) (defScope st) .none kV doc pm an cdv ct), osl⟩)
    (c : PySem.W.codeIn K cdv x = true) (k : PySem.W.keepIn K (.ref f) = true) : Tf K mg x st := ⟨f, _, fun_mk l c k, PySem.W.mg_of X G a⟩
theorem fn_mk {P : Program} {w : World} {K : PySem.W.Frag} {mg : Str → Option Value} {base : Heap} {x : Str} {st : Stmt} {N ps : List Str} {k : Nat} {b : SF} (T : Tf K mg x st) (S : FnScope N ps (defScope st))
    (hbd : ∀ (kV doc pm : Value) (an : Option Addr) (cdv ct : Value) (us : List Value), us.length = ps.length → bindArgs (PySem.W.fnOf x x (defArgs st) (defBody st) (defScope st) .none kV doc pm an cdv ct) ⟨us, []⟩ = pure (ps.zip us))
    (hb : ∀ (f : Addr) (cdv : Value) (A : Around) (outer : List Env) (s : Shared) (H : Hp) (E : XK), Room k (A.deeper (envOfC x (defScope st) s.heap.objs.size f cdv)) →
      PSsf (cxOf CX0 P w K mg base N x (defScope st) f cdv A outer s H E).nox (defBody st) b) : Fn P w K mg base (k + 1) x ps (runB ps.length N.length b) := by
  obtain ⟨f, fd, F, hm⟩ := T
  refine ⟨f, fd, fn_f F S fun cdv A outer s H E hr => hb f cdv A outer s H E hr, F.binds hbd, F.kp, hm, ?_⟩
  obtain ⟨oc, od, kV, doc, pm, an, cdv, ct, osl, rfl, lk, hcd⟩ := F.ex
  exact ⟨oc, od, osl, lk⟩
noncomputable def blkB (sc scope : Scope) (N : List Str) (x : Str) (cn : List Str) (ci : List Nat) : Bool :=
  (scope.kind == .function) && scope.names.all (fun y => y.2 != .cell) && scope.names.all (fun y => y.2 != .local || scope.names.lookup y.1 == some .local) && (scope.names.lookup x == some .local) &&
  scope.names.all (fun y => y.2 != .free || sc.names.lookup y.1 == some .cell) && decide (x :: cn).Nodup && (ci.length == cn.length) &&
  (cn.zip ci).all (fun p => N[p.2]? == some p.1 && scope.names.lookup p.1 == some .free && sc.names.lookup p.1 == some .cell)
theorem blk_fn {P : Program} {w : World} {K : PySem.W.Frag} {mg : Str → Option Value} {base : Heap} {N : List Str} {qual : Str} {sc scope : Scope} {f : Addr} {cdv : Value} {A : Around} {outer : List Env} {s : Shared} {H : Hp} {E : XK} {x : Str} {cn : List Str} {ci : List Nat}
    (h : blkB sc scope N x cn ci = true) : BlkOk (cxOf CX0 P w K mg base N qual sc f cdv A outer s H E).nox scope x cn ci := by
  unfold blkB at h
  simp only [Bool.and_eq_true, List.all_eq_true, Bool.or_eq_true, bne_iff_ne, ne_eq, beq_iff_eq, decide_eq_true_eq] at h
  obtain ⟨⟨⟨⟨⟨⟨⟨h1, h2⟩, h3⟩, h4⟩, h5⟩, h6⟩, h7⟩, h8⟩ := h
  refine ⟨h1, fun y hy => h2 y hy, fun y hy hl => (h3 y hy).resolve_left fun z => z hl, h4, fun y hy hf => ?_, h6, h7, fun j y hj => ?_⟩
  · have := (h5 y hy).resolve_left fun z => z hf
    obtain ⟨c, hc⟩ := cell_has (n := s.heap.objs.size + 1) this
    exact Option.isSome_iff_exists.mpr ⟨c, hc⟩
  · have hl : j < ci.length := by rw [h7]; exact (List.getElem?_eq_some_iff.mp hj).1
    have hm : (y, ci[j]) ∈ cn.zip ci := by
      refine List.mem_iff_getElem?.mpr ⟨j, ?_⟩
      rw [List.getElem?_zip_eq_some]
      exact ⟨hj, by simp [hl]⟩
    obtain ⟨⟨k1, k2⟩, k3⟩ := h8 _ hm
    exact ⟨ci[j], by simp [hl], k1, k2, .inl k3⟩
theorem bb_len : bootBuiltins "len" = some (.builtin "len") := by decide +kernel
theorem bb_abs : bootBuiltins "abs" = some (.builtin "abs") := by decide +kernel
theorem bb_min : bootBuiltins "min" = some (.builtin "min") := by decide +kernel
theorem bb_max : bootBuiltins "max" = some (.builtin "max") := by decide +kernel
theorem bb_sorted : bootBuiltins "sorted" = some (.builtin "sorted") := by decide +kernel
theorem bb_isinstance : bootBuiltins "isinstance" = some (.builtin "isinstance") := by decide +kernel
theorem bb_repr : bootBuiltins "repr" = some (.builtin "repr") := by decide +kernel
theorem bb_int : bootBuiltins "int" = some (.type "int") := by decide +kernel
theorem bb_tuple : bootBuiltins "tuple" = some (.type "tuple") := by decide +kernel
theorem bb_list : bootBuiltins "list" = some (.type "list") := by decide +kernel
theorem bb_bool : bootBuiltins "bool" = some (.type "bool") := by decide +kernel
end DL
namespace DL
open PySem PySem.Spec PyProof.Rows L2
section
variable {X : Cx} {tg : Expr}
theorem itr_tup {K : PySem.W.Frag} {H0 : Hp} {ι0 : List Addr} {a : Addr} {xs : List D} {vs : List V} (hS : SqT K H0 a vs) (P : Paired (Rep K H0 ι0) xs vs) : ItRep K (Itt K a) xs [] H0 ι0 := by
  refine ⟨fun i H2 ι2 Hd2 l2 h2 _ hi => ?_, fun i H2 ι2 Hd2 d x H3 l2 h2 _ hd y => ?_, fun i H2 ι2 Hd2 l2 h2 _ hi => ⟨vs, l2.tup a vs hS, by rw [← Prd.len P]; exact hi⟩⟩
  · exact ⟨vs, vs[i]'(by rw [← Prd.len P]; exact hi), l2.tup a vs hS, by simp⟩
  · obtain ⟨rfl, y⟩ := y
    obtain ⟨u, hu, ru⟩ := Prd.get P hd
    have := y vs (l2.tup a vs hS)
    rw [hu] at this
    cases this
    exact ⟨ι2, Le.refl, h2, ru.mono l2⟩
theorem itr_fl {K : PySem.W.Frag} {H0 : Hp} {ι0 : List Addr} {a : Addr} {xs : List D} {vs : List V} (hS : FzL K H0 a vs) (P : Paired (Rep K H0 ι0) xs vs) : ItRep K (Itl K a) xs [] H0 ι0 := by
  refine ⟨fun i H2 ι2 Hd2 l2 h2 _ hi => ?_, fun i H2 ι2 Hd2 d x H3 l2 h2 _ hd y => ?_, fun i H2 ι2 Hd2 l2 h2 _ hi => ⟨vs, (l2.fz a vs hS).sq, by rw [← Prd.len P]; exact hi⟩⟩
  · exact ⟨vs, vs[i]'(by rw [← Prd.len P]; exact hi), (l2.fz a vs hS).sq, by simp⟩
  · obtain ⟨rfl, y⟩ := y
    obtain ⟨u, hu, ru⟩ := Prd.get P hd
    have := y vs (l2.fz a vs hS).sq
    rw [hu] at this
    cases this
    exact ⟨ι2, Le.refl, h2, ru.mono l2⟩
theorem itr_lst {K : PySem.W.Frag} {H0 : Hp} {ι0 : List Addr} {a : Addr} {n : Nat} {xs : List D} (ha : ι0[n]? = some a) : ItRep K (Itl K a) xs [(n, .lst xs)] H0 ι0 := by
  have now : ∀ {H2 : Hp} {ι2 : List Addr} {Hd2 : HD}, Le K H0 ι0 H2 ι2 → HRep K H2 ι2 Hd2 → okOwn [(n, DO.lst xs)] Hd2 → ∃ ws, H2 a = some (.lst ws) ∧ Paired (Rep K H2 ι2) xs ws := fun {H2 ι2 Hd2} l2 h2 ok =>
    h2.obj n a _ (l2.get ha) (ok (n, .lst xs) (by simp))
  refine ⟨fun i H2 ι2 Hd2 l2 h2 ok hi => ?_, fun i H2 ι2 Hd2 d x H3 l2 h2 ok hd y => ?_, fun i H2 ι2 Hd2 l2 h2 ok hi => ?_⟩
  · obtain ⟨ws, h3, P3⟩ := now l2 h2 ok
    exact ⟨ws, ws[i]'(by rw [← Prd.len P3]; exact hi), SqL.of h3, by simp⟩
  · obtain ⟨ws, h3, P3⟩ := now l2 h2 ok
    obtain ⟨rfl, y⟩ := y
    obtain ⟨u, hu, ru⟩ := Prd.get P3 hd
    have := y ws (SqL.of h3)
    rw [hu] at this
    cases this
    exact ⟨ι2, Le.refl, h2, ru⟩
  · obtain ⟨ws, h3, P3⟩ := now l2 h2 ok
    exact ⟨ws, SqL.of h3, by rw [← Prd.len P3]; exact hi⟩
noncomputable def iSq (f : EF) : ItF := fun σ H => (f σ H).bind fun p => (itemsD p.1 p.2).map fun r => (r, p.2)
theorem pif_seq {l : Expr} {f : EF} (hl : PEf X l f) : PIf X tg l (iSq f) := by
  rintro pins s σ H R I ⟨ι, σd, Hd, xs, own, Hd', sr, hr, e, q⟩
  obtain ⟨⟨d, H1⟩, e1, e⟩ := Option.bind_eq_some_iff.mp e
  obtain ⟨⟨ys, ow⟩, e2, e⟩ := Option.map_eq_some_iff.mp e
  obtain ⟨e3, rfl⟩ := Prod.mk.inj e
  obtain ⟨rfl, rfl⟩ := Prod.mk.inj e3
  refine thn (hl pins s σ H (fun v H1 => ∃ a, v = .ref a ∧ (((∃ xs, SqL X.K H1 a xs) ∧ R (Itl X.K a) H1) ∨ ((∃ xs, SqT X.K H1 a xs) ∧ R (Itt X.K a) H1))) I ⟨ι, σd, Hd, _, _, sr, hr, e1, fun v H' ι' l h r => ?_⟩) fun v s1 ⟨x, H2, I2, r2, q2⟩ => ?_
  · cases d with
    | tup zs =>
      cases e2
      obtain ⟨a, vs, rfl, hS, P⟩ := rep_tup.mp r
      exact ⟨a, rfl, .inr ⟨⟨vs, hS⟩, q _ H' ι' l h (itr_tup hS P)⟩⟩
    | fl zs =>
      cases e2
      obtain ⟨a, vs, rfl, hS, P⟩ := rep_fl.mp r
      exact ⟨a, rfl, .inl ⟨⟨vs, hS.sq⟩, q _ H' ι' l h (itr_fl hS P)⟩⟩
    | ref n =>
      simp only [itemsD] at e2
      split at e2
      · rename_i zs eo
        obtain ⟨e5, e6⟩ := Prod.mk.inj (Option.some.inj e2)
        subst e5 e6
        obtain ⟨a, rfl, ha⟩ := rep_ref.mp r
        obtain ⟨vs, h1, P⟩ := h.obj n a _ ha eo
        exact ⟨a, rfl, .inl ⟨⟨vs, SqL.of h1⟩, q _ H' ι' l h (itr_lst ha)⟩⟩
      · cases e2
    | _ => simp [itemsD] at e2
  · obtain ⟨a, rfl, q2⟩ := q2
    cases r2
    have fp : ∀ b ∈ [s1.heap.objs.size], FpOk X pins H2 b := fun b hb => by
      have e : b = s1.heap.objs.size := by simpa using hb
      subst e
      exact I2.fpOk (Nat.le_refl _) (I2.hok.fresh (Nat.le_refl _))
    rcases q2 with ⟨⟨xs, hq⟩, q2⟩ | ⟨⟨xs, hq⟩, q2⟩
    · obtain ⟨its, rv, p, hz⟩ := I2.list hq
      exact wpAny_pyIter_list p.isList ⟨s1.heap.objs.size, [s1.heap.objs.size], _, _, H2, rfl, I2.kept (t' := s1.toks) fun b o e => Heap.get?_push_of_some _ e, turn_list a _, ⟨_, Heap.get?_push_size _ rfl, rfl, rfl⟩, fp, q2⟩
    · obtain ⟨its, rv, p, hz⟩ := I2.tuple hq
      exact wpAny_pyIter_tuple (show s1.heap.IsTuple a its.toArray from p) ⟨s1.heap.objs.size, [s1.heap.objs.size], _, _, H2, rfl, I2.kept (t' := s1.toks) fun b o e => Heap.get?_push_of_some _ e, turn_tuple a _, ⟨_, Heap.get?_push_size _ rfl, rfl, rfl⟩, fp, q2⟩
end
theorem paf_c {X : Cx} {e : Expr} {es : List Expr} {f : EF} {g : AF} (ha : PEf X e f) (hr : PAf X es g) (hs : noStar e = true) : PAf X (e :: es) (aCons f g) := paf_cons ha hr (star_cons hs)
noncomputable def spLaw (F : FF) (K : PySem.W.Frag) : Sp := spF K 1 F
theorem law_start {F : FF} (h : ∀ ns : List Int, ns.length ≤ 63 → ∃ Hd', F [.fl (ns.map .int)] [] = some (.bl true, Hd')) :
    ∀ (K : PySem.W.Frag) (H : Hp) (a : Addr) (ns : List Int), ns.length ≤ 63 → Only H → SqL K H a (ns.map V.int) → spLaw F K [.ref a] H (fun v _ => v = .bl true) fun _ _ _ => False := by
  intro K H a ns hl hO hS
  obtain ⟨Hd', e⟩ := h ns hl
  have fz : FzL K H a (ns.map V.int) := by
    rcases hS with (h | h) | h
    · rcases hO a with z | ⟨o, xs, z⟩
      · rw [h] at z; cases z
      · rw [h] at z; cases z
    · exact .inl h
    · exact .inr h
  have P : Paired (Rep K H []) (ns.map D.int) (ns.map V.int) := by
    generalize ns = ks
    induction ks with
    | nil => exact .nil
    | cons k ks ih => exact .cons (by simp) ih
  refine ⟨[], [.fl (ns.map .int)], [], .bl true, Hd', rfl, ⟨rfl, List.nodup_nil, fun n a o h1 h2 => by simp at h1⟩, .cons (rep_fl.mpr ⟨a, _, rfl, fz, P⟩) .nil, e, fun v H' ι' l h r => by simpa using r⟩
end DL
namespace DL
open PySem PySem.Spec PyProof.Rows L2
variable {X : Cx}
noncomputable def canShow (x : PyData) : Bool := x.canLay0 && x.showable && decide (x.depth ≤ 30) && decide (x.shown.length ≤ sizeLine)
noncomputable def reprD : FF := fun ds H => match ds with
  | [d] => (toP H 30 d).bind fun x => if canShow x = true then some (.str x.shown, H) else none
  | _ => none
theorem callf_repr {k : Nat} (hr0 : Room k X.A) : CallF X (.builtin "repr") reprD := by
  rintro pins s σ H xs us Q I rv ⟨ι, ds, Hd, d, Hd', hr, P, e, q⟩
  unfold reprD at e
  split at e
  · rename_i d0
    obtain ⟨v, rfl, r⟩ := prd1 P
    obtain ⟨x, e1, e⟩ := Option.bind_eq_some_iff.mp e
    split at e
    · rename_i hc
      obtain ⟨rfl, rfl⟩ := Prod.mk.inj (Option.some.inj e)
      simp only [canShow, Bool.and_eq_true, decide_eq_true_eq] at hc
      obtain ⟨⟨⟨c1, c2⟩, c3⟩, c4⟩ := hc
      cases rv with
      | cons rx rv =>
        cases rv
        rename_i u
        obtain ⟨as, ra⟩ := reads_of I hr _ _ e1 r rx
        have fin : ∀ h' t tk, (∀ b o, s.heap.get? b = some o → h'.get? b = some o) → EP X pins σ Q (.str x.shown t) { s with heap := h', toks := tk } := fun h' t tk k => ⟨.str x.shown, H, I.kept k, ⟨t, rfl⟩, q _ H ι Le.refl hr (by simp)⟩
        have un : X.A.units + 64 < cLine := hr0.units
        have byRef : ∀ a, u = .ref a → wpAny (model X.prog X.w) X.A (call (.builtin "repr") [u]) (EP X pins σ Q) X.xe s := fun a ea => by
          subst ea
          exact repr_of_reads' ra c2 (PyData.noDict_hsm (PyData.hasDict_of_canLay _ c1)) hr0.gd (by omega) (fun _ _ z => z) (fun h' t tk k => fin h' t tk k) c4
        cases ra with
        | none => exact PySem.P.repr_of_none (fin s.heap s.toks (s.toks + 1) fun _ _ z => z)
        | bool b => exact PySem.P.repr_of_bool (fin s.heap s.toks (s.toks + 1) fun _ _ z => z)
        | int i t => exact PySem.P.repr_of_int (by simpa [PyData.showable] using c2) (fin s.heap s.toks (s.toks + 1) fun _ _ z => z)
        | str z t => exact PySem.P.repr_of_str (fin s.heap s.toks (s.toks + 1) fun _ _ z => z) c4
        | list _ _ _ _ => exact byRef _ rfl
        | tuple _ _ _ _ => exact byRef _ rfl
        | dict _ _ _ _ => exact byRef _ rfl
    · cases e
  · cases e
end DL
namespace HT
open PySem PySem.Spec PyProof.Rows
section
variable {prog : Program} {w : World} {A : Around} {E : Value → Shared → Prop} {s : Shared}
end
end HT
namespace DL
open PySem PySem.Spec PyProof.Rows L2
variable {X : Cx}
section
variable {a b c : Expr} {pos : Pos}
end
end DL
namespace DL
open PySem PySem.Spec PyProof.Rows L2
variable {X : Cx}
noncomputable def dlook (kvs : List (D × D)) (k : List Int) : Option D := (kvs.find? fun p => nk p.1 == some k).map (·.2)
noncomputable def dput (kvs : List (D × D)) (kd : D) (k : List Int) (vd : D) : List (D × D) :=
  if (dlook kvs k).isSome then kvs.map (fun p => if nk p.1 = some k then (p.1, vd) else p) else kvs ++ [(kd, vd)]
section
variable {K : PySem.W.Frag} {H : Hp} {ι : List Addr}
theorem krep_at {kvs : List (D × D)} {xs : List (List Int × Addr × Value)} (h : Paired (KRep K H ι) kvs xs) (k : List Int) :
    (dlook kvs k = none ∧ atKey xs k = none) ∨ ∃ vd b u v, dlook kvs k = some vd ∧ atKey xs k = some (b, u) ∧ RelV v u ∧ Rep K H ι vd v := by
  unfold dlook atKey
  induction h with
  | nil => exact .inl ⟨rfl, rfl⟩
  | @cons p x ps ys r t ih =>
    obtain ⟨r1, r2, v, r3, r4⟩ := r
    by_cases hk : x.1 = k
    · have e1 : (nk p.1 == some k) = true := by rw [r1, hk]; simp
      refine .inr ⟨p.2, x.2.1, x.2.2, v, ?_, ?_, r3, r4⟩
      · rw [List.find?_cons]; simp only [e1]; rfl
      · rw [List.find?_cons]; simp only [hk, decide_true]; rfl
    · have e1 : ¬ (nk p.1 == some k) = true := by rw [r1]; simpa using hk
      have e1' : (nk p.1 == some k) = false := by simpa using e1
      have e2' : decide (x.1 = k) = false := decide_eq_false hk
      rw [List.find?_cons, List.find?_cons]
      simp only [e1', e2']
      exact ih
theorem krep_put {kvs : List (D × D)} {xs : List (List Int × Addr × Value)} {kd vd : D} {k : List Int} {b : Addr} {u : Value} {v : V} (h : Paired (KRep K H ι) kvs xs) (h1 : nk kd = some k) (h2 : Rep K H ι kd (.ref b)) (rv : RelV v u) (r : Rep K H ι vd v) :
    Paired (KRep K H ι) (dput kvs kd k vd) (storedH xs k b u) := by
  have all : ∀ {ls : List (D × D)} {ys : List (List Int × Addr × Value)}, Paired (KRep K H ι) ls ys → Paired (KRep K H ι) (ls.map (fun p => if nk p.1 = some k then (p.1, vd) else p)) (ys.map (putAt k u)) := by
    intro ls ys q
    induction q with
    | nil => exact .nil
    | @cons p x ps zs r' t ih =>
      refine .cons ?_ ih
      obtain ⟨r1, r2, r3⟩ := r'
      unfold putAt
      by_cases hk : x.1 = k
      · have e : nk p.1 = some k := by rw [r1, hk]
        show KRep K H ι (if nk p.1 = some k then (p.1, vd) else p) (if x.1 = k then (x.1, x.2.1, u) else x)
        rw [if_pos hk, if_pos e]
        exact ⟨r1, r2, v, rv, r⟩
      · have e : ¬ nk p.1 = some k := by rw [r1]; simpa using hk
        show KRep K H ι (if nk p.1 = some k then (p.1, vd) else p) (if x.1 = k then (x.1, x.2.1, u) else x)
        rw [if_neg hk, if_neg e]
        exact ⟨r1, r2, r3⟩
  unfold dput storedH
  rcases krep_at h k with ⟨e1, e2⟩ | ⟨_, _, _, _, e1, e2, _⟩
  · rw [e1, e2]
    exact Prd.append h (.cons ⟨h1, h2, v, rv, r⟩ .nil)
  · rw [e1, e2]
    exact all h
theorem dput_len (kvs : List (D × D)) (kd : D) (k : List Int) (vd : D) : (dput kvs kd k vd).length ≤ kvs.length + 1 := by
  unfold dput; split <;> simp
end
section
variable {pins : List (Addr × Obj)} {σ : L2.St} {H : Hp} {s : Shared} {ι : List Addr} {Hd : HD}
theorem num_of {d : D} {v : V} {u : Value} {k : Int} {K : PySem.W.Frag} (e : nkOf d = some k) (r : Rep K H ι d v) (q : RelV v u) : numIs k u = true := by
  cases d with
  | bl b => cases e; simp at r; subst r; cases q; simp [numIs, numOf]
  | int i => cases e; simp at r; subst r; obtain ⟨t, rfl⟩ := q; simp [numIs, numOf]
  | _ => cases e
theorem items_num {P : Program} {w : World} {K : PySem.W.Frag} : ∀ {ds : List D} {vs : List V} {us : List Value} {ks : List Int}, nksOf ds = some ks → Paired (Rep K H ι) ds vs → Vals vs us → ItemsAre (numKind P w) ks us
  | [], vs, us, ks, e, p, q => by cases e; cases p; cases q; exact .nil
  | d :: ds, vs, us, ks, e, p, q => by
    cases p with
    | cons p1 p2 =>
      cases q with
      | cons q1 q2 =>
        simp only [nksOf] at e
        obtain ⟨k, e1, e⟩ := Option.bind_eq_some_iff.mp e
        obtain ⟨r, e2, rfl⟩ := Option.map_eq_some_iff.mp e
        exact .cons (num_of e1 p1 q1) (items_num e2 p2 q2)
theorem key_is (I : Inv X pins σ H s) {d : D} {k : List Int} {b : Addr} (e : nk d = some k) (r : Rep X.K H ι d (.ref b)) : (tupleKind (numKind X.prog X.w)).is s.heap k b := by
  cases d <;> simp only [nk] at e <;> try cases e
  rename_i ds
  obtain ⟨a, vs, ea, h, P⟩ := rep_tup.mp r
  cases ea
  obtain ⟨its, rv, ht, hz⟩ := I.tuple h
  obtain ⟨o, h1, h2, n, h3⟩ := ht
  exact ⟨o, its.toArray, n, h1, h2, h3, by simpa using items_num e P rv⟩
theorem dic_of (I : Inv X pins σ H s) {a : Addr} {kvs : List (D × D)} {fz : Bool} (h : ORep X.K H ι a (.dic kvs fz)) : (a == sysModules) = false ∧ kvs.length ≤ sizeLine ∧ ∃ xs, (if fz = true then ∃ o, H a = some (.frz o (.ext (DicAt a xs))) else H a = some (.ext (DicAt a xs))) ∧ Paired (KRep X.K H ι) kvs xs ∧ s.heap.DictOfH (tupleKind (numKind X.prog X.w)) a xs := by
  obtain ⟨h1, h2, xs, e, p⟩ := h
  have rd : Rd H a (.ext (DicAt a xs)) := by
    cases fz with
    | true => rw [if_pos rfl] at e; exact .inr e
    | false => rw [if_neg (by simp)] at e; exact .inl e
  obtain ⟨⟨o, es, ep, g1, g2, g3, g4, g5⟩, _⟩ := (show ObjOk X.prog X.w H s.heap a (.ext (DicAt a xs)) from rd.ok I.hok)
  refine ⟨h1, h2, xs, e, p, o, es, ep, g1, g2, g3, g4, ?_, g5⟩
  have all : ∀ {l : List (D × D)} {m : List (List Int × Addr × Value)}, Paired (KRep X.K H ι) l m → ∀ x ∈ m, (tupleKind (numKind X.prog X.w)).is s.heap x.1 x.2.1 := by
    intro l m q
    induction q with
    | nil => intro x hx; exact nomatch hx
    | @cons p x ps qs hq t ih =>
      intro y hy
      rcases List.mem_cons.mp hy with e | hy
      · subst e
        exact key_is I hq.1 hq.2.1
      · exact ih y hy
  exact all p
end
noncomputable def dicD (x : D) (H : HD) : Option (List (D × D)) := match x with
  | .ref n => match H[n]? with
    | some (.dic kvs _) => some kvs
    | _ => none
  | _ => none
theorem dicD_some {x : D} {Hd : HD} {kvs : List (D × D)} (e : dicD x Hd = some kvs) : ∃ n fz, x = .ref n ∧ Hd[n]? = some (.dic kvs fz) := by
  cases x <;> simp only [dicD] at e <;> try cases e
  rename_i n
  split at e
  · rename_i fz h; cases e; exact ⟨n, fz, rfl, h⟩
  · cases e
noncomputable def dgetD : F2 := fun x y H => (dicD x H).bind fun kvs => (nk y).bind fun k => (dlook kvs k).map fun v => (v, H)
theorem nk_ref {K : PySem.W.Frag} {H : Hp} {ι : List Addr} {d : D} {k : List Int} {v : V} (e : nk d = some k) (r : Rep K H ι d v) : ∃ b, v = .ref b := by
  cases d <;> simp only [nk] at e <;> try cases e
  obtain ⟨a, vs, rfl, _⟩ := rep_tup.mp r
  exact ⟨a, rfl⟩
theorem dgetf (hu : X.A.units + 64 < cLine) : IxF X dgetD := by
  rintro va sl pins s σ H x y v u Q I rx ry ⟨ι, dx, dy, Hd, d, Hd', hr, r1, r2, e, q⟩ hs
  obtain ⟨kvs, e1, e⟩ := Option.bind_eq_some_iff.mp e
  obtain ⟨k, e2, e⟩ := Option.bind_eq_some_iff.mp e
  obtain ⟨vd, e3, e⟩ := Option.map_eq_some_iff.mp e
  obtain ⟨rfl, rfl⟩ := Prod.mk.inj e
  obtain ⟨n, fz, rfl, hn⟩ := dicD_some e1
  obtain ⟨a, rfl, ha⟩ := rep_ref.mp r1
  obtain ⟨b, rfl⟩ := nk_ref e2 r2
  cases rx
  cases ry
  obtain ⟨h1, h2, xs, h3, P, dd⟩ := dic_of I (hr.obj n a _ ha hn)
  have key := key_is I e2 r2
  rcases krep_at P k with ⟨z, _⟩ | ⟨vd', b', u', v', z1, z2, z3, z4⟩
  · rw [z] at e3; cases e3
  · rw [z1] at e3; cases e3
    have ty : s.TypeIs (.ref a) "dict" := dd.typeIs
    refine tail_any (ops := [.ref a, .ref b]) ty PySem.F.slot_dict_getitem.lookup (wpAny_getItem_heap (knd := tupleKind (numKind X.prog X.w)) (tupleKind_room_in1 (by omega)) key dd z2 ?_) hs
    exact ⟨v', H, I.tok _, z3, q _ H ι Le.refl hr z4⟩
noncomputable def eDN : EF := fun _ H => some (.ref H.length, H ++ [.dic [] false])
theorem pef_dnew {pos : Pos} : PEf X (.Dict [] [] pos) eDN := by
  rintro pins s σ H Q I ⟨ι, σd, Hd, d, Hd', sr, hr, e, q⟩
  cases e
  have hb : sysModules < s.heap.objs.size := Nat.lt_trans (by decide) (show mainGlobals < s.heap.objs.size from (I.mod.glob.keeps I.bk).lt)
  have hp := I.hok.fresh (Nat.le_refl s.heap.objs.size)
  have ok : ObjOk X.prog X.w (upd H s.heap.objs.size (.ext (DicAt s.heap.objs.size []))) (s.heap.push { cls := .type "dict", data := .dict #[] }) s.heap.objs.size (.ext (DicAt s.heap.objs.size [])) :=
    ⟨⟨_, #[], 0, Heap.get?_push_size _ rfl, ⟨rfl, rfl, rfl⟩, rfl, rfl, List.nodup_nil⟩, ⟨_, Heap.get?_push_size _ rfl⟩, fun h1 h2 d k => DicAt.keep d k⟩
  refine wpAny_Dict_empty ⟨.ref s.heap.objs.size, _, I.laid (a := s.heap.objs.size) (o := .ext (DicAt s.heap.objs.size [])) (t' := s.toks) (fun _ _ q => Heap.get?_push_of_some _ q) (Nat.le_refl _) ok, rfl, ?_⟩
  have hl : ι.length = Hd.length := hr.len
  refine q _ _ (ι ++ [s.heap.objs.size]) (Le.fresh1 hp _) (hr.new hp ⟨beq_eq_false_iff_ne.mpr (Ne.symm (Nat.ne_of_lt hb)), Nat.zero_le _, [], by rw [if_neg (by simp)]; exact upd_same, .nil⟩) (rep_ref.mpr ⟨_, rfl, by rw [← hl]; simp⟩)
noncomputable def dsetD : FSet := fun o i v H => match o with
  | .ref n => match H[n]? with
    | some (.dic kvs false) => (nk i).bind fun k => if kvs.length < sizeLine then some (H.set n (.dic (dput kvs i k v) false)) else none
    | _ => none
  | _ => none
theorem dic_write {pins : List (Addr × Obj)} {σ : L2.St} {H : Hp} {s : Shared} {a : Addr} {xs xs' : List (List Int × Addr × Value)} {h' : Heap} {t' : Nat} (I : Inv X pins σ H s) (h3 : H a = some (.ext (DicAt a xs))) (dd : h'.DictOfH (tupleKind (numKind X.prog X.w)) a xs') (hs : Heap.SameBut a s.heap h') :
    Inv X pins σ (upd H a (.ext (DicAt a xs'))) { s with heap := h', toks := t' } := by
  obtain ⟨o, es, ep, g1, g2, g3, g4, _, g5⟩ := dd
  have ok : ObjOk X.prog X.w (upd H a (.ext (DicAt a xs'))) h' a (.ext (DicAt a xs')) := ⟨⟨o, es, ep, g1, g2, g3, g4, g5⟩, ⟨o, g1⟩, fun h1 h2 d k => DicAt.keep d k⟩
  exact I.write (x := a) (e := a) (by rw [h3]; exact True.intro) (.inl rfl) (fun b q hb z => (hs.2 b hb).trans z) ⟨o, g1⟩ ok
theorem dic_upd {H : Hp} {ι : List Addr} {Hd : HD} {n : Nat} {a : Addr} {kvs : List (D × D)} {xs : List (List Int × Addr × Value)} {kd vd : D} {k : List Int} {b : Addr} {u : Value} {v : V} (hr : HRep X.K H ι Hd) (ha : ι[n]? = some a) (h1 : (a == sysModules) = false) (hl : kvs.length < sizeLine) (h3 : H a = some (.ext (DicAt a xs))) (P : Paired (KRep X.K H ι) kvs xs) (e2 : nk kd = some k) (r2 : Rep X.K H ι kd (.ref b)) (rv : RelV v u) (r3 : Rep X.K H ι vd v) :
    Le X.K H ι (upd H a (.ext (DicAt a (storedH xs k b u)))) ι ∧ HRep X.K (upd H a (.ext (DicAt a (storedH xs k b u)))) ι (Hd.set n (.dic (dput kvs kd k vd) false)) := by
  have L : Le X.K H ι (upd H a (.ext (DicAt a (storedH xs k b u)))) ι := Le.upd (List.mem_of_getElem? ha) h3 trivial _
  refine ⟨L, hr.upd ha h3 trivial ⟨h1, ?_, _, by rw [if_neg (by simp)]; exact upd_same, ?_⟩⟩
  · have := dput_len kvs kd k vd; omega
  · refine krep_put (Prd.imp P fun p x _ z => ⟨z.1, z.2.1.mono L, let ⟨v, z1, z2⟩ := z.2.2; ⟨v, z1, z2.mono L⟩⟩) e2 (r2.mono L) rv (r3.mono L)
theorem dsetf (hu : X.A.units + 64 < cLine) : PSetf X dsetD := by
  rintro pins s σ H o i v ov iv u Q I ro ri rv ⟨ι, od, id, vd, Hd, Hd', hr, r1, r2, r3, e, q⟩
  cases od <;> simp only [dsetD] at e <;> try cases e
  rename_i n
  split at e
  · rename_i kvs hn
    obtain ⟨k, e2, e⟩ := Option.bind_eq_some_iff.mp e
    split at e
    · rename_i hl
      cases e
      obtain ⟨a, rfl, ha⟩ := rep_ref.mp r1
      obtain ⟨b, rfl⟩ := nk_ref e2 r2
      cases ro
      cases ri
      obtain ⟨h1, h2, xs, h3, P, dd⟩ := dic_of I (hr.obj n a _ ha hn)
      rw [if_neg (by simp)] at h3
      have hz : xs.length ≤ sizeLine := by rw [← Prd.len P]; exact h2
      refine wpAny_setItem_heap (knd := tupleKind (numKind X.prog X.w)) (hsz := hz) (tupleKind_room_in1 (by omega)) (key_is I e2 r2) dd fun h' dd' hs => ?_
      obtain ⟨L, hr'⟩ := dic_upd hr ha h1 hl h3 P e2 r2 rv r3
      exact ⟨_, dic_write I h3 dd' hs, q _ ι L hr'⟩
    · cases e
  · cases e
section
variable {prog : Program} {w : World} {kd : HeapKind prog w (List Int)} {A : Around} {E : Value → Shared → Prop} {s : Shared}
end
end DL
namespace DL
open PySem PySem.Spec PyProof.Rows L2
section
variable {prog : Program} {w : World} {A : Around} {E : Value → Shared → Prop} {s : Shared}
end
variable {X : Cx} {tg : Expr}
end DL
namespace DL
open PySem PySem.Spec PyProof.Rows L2
end DL
namespace DL
open PySem PySem.Spec PyProof.Rows L2
section
variable {prog : Program} {w : World} {A : Around} {E : Value → Shared → Prop} {s : Shared}
end
end DL
namespace DL
open PySem PySem.Spec PyProof.Rows L2
section
variable {prog : Program} {w : World} {A : Around} {E : Value → Shared → Prop} {s : Shared}
end
variable {X : Cx}
end DL
namespace DL
open PySem PySem.Spec PyProof.Rows L2
noncomputable def Itv (K : PySem.W.Frag) (a : Addr) (n : Nat) : It :=
  ⟨fun i H => i < n ∧ ∃ xs, SqL K H a xs ∧ xs.length = n, fun i H x H' => H' = H ∧ ∀ xs, SqL K H a xs → xs[n - 1 - i]? = some x, fun i _ => n ≤ i⟩
theorem turn_rev {P : Program} {w : World} {K : PySem.W.Frag} {tg : Expr} (a it : Addr) (n : Nat) : Turn P w K tg (Itv K a n) [it] it (fun i h => i ≤ n ∧ h.IsRevIter it a ((n : Int) - 1 - (i : Int))) where
  mem := by simp
  obj := fun i h st b hb => by
    have e : b = it := by simpa using hb
    subst e
    obtain ⟨_, o, e, c, d⟩ := st
    exact ⟨o, e, fun v z => by rw [d] at z; cases z⟩
  keep := fun i h h' st k => ⟨st.1, st.2.at fun o e => k it (by simp) o e⟩
  item := by
    intro X hP hw hK hc i pins s σ H E I hf st hg
    subst hP hw hK
    obtain ⟨hi, xs, hq, hx⟩ := hg
    obtain ⟨its, rv, p, hz⟩ := I.list hq
    obtain ⟨f0, f1, f2, f3, f4, f5⟩ := hf it (by simp)
    have lt : n - 1 - i < xs.length := by omega
    obtain ⟨u, hu, ru⟩ := rv.get (List.getElem?_eq_getElem lt)
    have e0 : (n : Int) - 1 - (i : Int) = ((n - 1 - i : Nat) : Int) := by omega
    have st2 := st.2
    rw [e0] at st2
    refine wpAny_pyNext_rev_item st2 p.isList (x := u) (by simpa using hu) fun h' st' sb => ?_
    have I1 : Inv X pins σ H { s with heap := h' } := I.turned (t' := s.toks) (fun b o hb e => (sb.2 b hb).trans e) f0 f1 f3 f4 f5
    obtain ⟨o, e, c, d⟩ := id st'
    have e1 : ((n - 1 - i : Nat) : Int) - 1 = (n : Int) - 1 - ((i + 1 : Nat) : Int) := by omega
    rw [e1] at st'
    exact ⟨u, rfl, go_of (s := { s with heap := h' }) e c d (by decide) ⟨xs[n - 1 - i], H, I1, ru, ⟨rfl, fun ys hy => by rw [I.list_inj hy hq]; exact List.getElem?_eq_getElem lt⟩, ⟨by omega, st'⟩, fun b hb => (hf b hb).1⟩⟩
  done := by
    intro X hP hw hK hc i pins s σ H E I hf st hg
    subst hP hw hK
    obtain ⟨f0, f1, f2, f3, f4, f5⟩ := hf it (by simp)
    have hn : n ≤ i := hg
    have e0 : (n : Int) - 1 - (i : Int) = -1 := by have := st.1; omega
    have st2 := st.2
    rw [e0] at st2
    exact wpAny_pyNext_rev_end (I.ok.hd hc) st2 fun h' eb => ⟨rfl, I.turned (t' := s.toks) (fun b o hb e => eb b o hb e) f0 f1 f3 f4 f5⟩
  self := fun _ _ _ _ _ st h => wpAny_pyIter_revIter st.2 h
variable {X : Cx} {tg : Expr}
noncomputable def iRev (f : AF) : ItF := fun σ H => (f σ H).bind fun p => match p.1 with
  | [.ref n] => match p.2[n]? with
    | some (.lst xs) => some ((xs.reverse, [(n, .lst xs)]), p.2)
    | _ => none
  | _ => none
theorem pif_reversed {a : Expr} {f : AF} {p pos : Pos} (hg : Gl X "reversed") (hm : X.mg "reversed" = none) (ha : PAf X [a] f) (hs : starEach [a] X.env = [(false, eval a X.env)] := by rfl) : PIf X tg (.Call (.Name "reversed" p) [a] [] pos) (iRev f) := by
  rintro pins s σ H R I ⟨ι, σd, Hd, xs, own, Hd', sr, hr, e, q⟩
  obtain ⟨⟨ds, H1⟩, e1, e⟩ := Option.bind_eq_some_iff.mp e
  dsimp only at e
  split at e
  · rename_i n
    split at e
    · rename_i zs eo
      cases e
      let P1 : List V → Hp → Prop := fun vs H' => ∃ ι', Le X.K H ι H' ι' ∧ HRep X.K H' ι' Hd' ∧ Paired (Rep X.K H' ι') [.ref n] vs
      refine Call_ (ld_blt I hg hm boot_reversed (PyProof.Rows.callWith_type1 (thn (ha pos pins s σ H P1 I ⟨ι, σd, Hd, _, _, sr, hr, e1, fun vs H' ι' l h P => ⟨ι', l, h, P⟩⟩) fun us s1 ⟨vs, H2, I2, r2, ι2, l2, h2, P⟩ => ?_) hs rfl))
      obtain ⟨v, rfl, r⟩ := prd1 P
      obtain ⟨ad, rfl, had⟩ := rep_ref.mp r
      obtain ⟨u, rfl, ru⟩ := vals1 r2
      cases ru
      obtain ⟨ws, hw, PW⟩ := h2.obj n ad _ had eo
      obtain ⟨its, rv, pl, hz⟩ := I2.list (SqL.of hw)
      have hl : its.toArray.size = zs.length := by rw [List.size_toArray, ← rv.length, Prd.len PW]
      refine call_reversed_list pl.isList ?_
      have it0 : ({ s1 with heap := s1.heap.push (revObj ad ((its.toArray.size : Int) - 1)) } : Shared).heap.IsRevIter s1.heap.objs.size ad ((zs.length : Int) - 1 - ((0 : Nat) : Int)) := ⟨_, Heap.get?_push_size _ rfl, rfl, by rw [hl]; simp [revObj]⟩
      have I3 : Inv X pins σ H2 { s1 with heap := s1.heap.push (revObj ad ((its.toArray.size : Int) - 1)) } := I2.kept (t' := s1.toks) fun b o e => Heap.get?_push_of_some _ e
      refine wpAny_pyIter_revIter it0 ⟨s1.heap.objs.size, [s1.heap.objs.size], _, Itv X.K ad zs.length, H2, rfl, I3, turn_rev ad _ _, ⟨Nat.zero_le _, it0⟩, fun b hb => ?_, ?_⟩
      · have e : b = s1.heap.objs.size := by simpa using hb
        subst e
        exact I2.fpOk (Nat.le_refl _) (I2.hok.fresh (Nat.le_refl _))
      · have now : ∀ {H3 : Hp} {ι3 : List Addr} {Hd3 : HD}, Le X.K H2 ι2 H3 ι3 → HRep X.K H3 ι3 Hd3 → okOwn [(n, DO.lst zs)] Hd3 → ∃ ws, H3 ad = some (.lst ws) ∧ Paired (Rep X.K H3 ι3) zs ws := fun {H3 ι3 Hd3} l3 h3 ok => by
          have := ok (n, .lst zs) (by simp)
          exact h3.obj n ad _ (l3.get had) this
        refine q _ H2 ι2 l2 h2 ⟨fun i H3 ι3 Hd3 l3 h3 ok hi => ?_, fun i H3 ι3 Hd3 d x H4 l3 h3 ok hd y => ?_, fun i H3 ι3 Hd3 l3 h3 ok hi => (show zs.length ≤ i by simpa using hi)⟩
        · obtain ⟨ws, w1, w2⟩ := now l3 h3 ok
          exact ⟨by simpa using hi, ws, SqL.of w1, (Prd.len w2).symm⟩
        · obtain ⟨ws, w1, w2⟩ := now l3 h3 ok
          obtain ⟨rfl, y⟩ := y
          have hi : i < zs.length := by
            have := (List.getElem?_eq_some_iff.mp hd).1
            simpa using this
          rw [List.getElem?_reverse hi] at hd
          obtain ⟨u, hu, ru⟩ := Prd.get w2 hd
          have := y ws (SqL.of w1)
          rw [hu] at this
          cases this
          exact ⟨ι3, Le.refl, h3, ru⟩
    · cases e
  · cases e
end DL
namespace DL
open PySem PySem.Spec PyProof.Rows L2
end DL
namespace DL
open PySem PySem.Spec PyProof.Rows L2
section
variable {X : Cx} {c : Expr} {pos : Pos}
end
section
variable {X : Cx} {e : Expr} {es : List Expr} {pos : Pos}
end
end DL
namespace DL
open PySem PySem.Spec PyProof.Rows L2
section
variable {prog : Program} {w : World} {A : Around} {E : Value → Shared → Prop} {s : Shared}
end
end DL
namespace DL
open PySem PySem.Spec PyProof.Rows L2
open Builtin.SmallTypes (nextOf)
section
variable {prog : Program} {w : World} {A : Around} {E : Value → Shared → Prop} {s : Shared}
variable {z TI TO i1 i2 l1 l2 : Addr} {k1 k2 : Nat} {xs ys : Array Value} {b1 b2 : Bool}
end
section
variable {X : Cx} {pins : List (Addr × Obj)} {σ : L2.St} {H : Hp} {s : Shared} {b : Bool} {l : Addr} {xs ys : List V}
end
end DL
namespace DL
open PySem PySem.Spec PyProof.Rows L2
section
variable {X : Cx}
end
end DL
namespace DL
open PySem PySem.Spec PyProof.Rows L2
section
variable {X : Cx} {e : Expr} {pos : Pos}
noncomputable def sErr : SF := fun _ _ => none
theorem psf_err {st : Stmt} : PSf X st sErr := by
  rintro pins s σ H E I ⟨ι, σd, Hd, fl, σd', Hd', _, _, e, _⟩
  cases e
noncomputable def intOf : D → Option Int
  | .int i => some i
  | _ => none
noncomputable def sAug (g : Int → Int → Int) (i : Nat) (f : EF) : SF := fun σ H => ((σ[i]?).join.bind intOf).bind fun a => (f σ H).bind fun p => (intOf p.1).map fun b => (.nx, σ.set i (some (.int (g a b))), p.2)
theorem intOf_some {d : D} {i : Int} (h : intOf d = some i) : d = .int i := by
  cases d <;> simp [intOf] at h
  rw [h]
theorem psf_aug {i : Nat} {x : Str} {f : EF} {op : Operator} {g : Int → Int → Int} {pos' : Pos} (ho : PIp X op (ipI g)) (hN : X.N.Nodup) (hi : X.N[i]? = some x) (hx : Loc X.env.scope x) (he : PEf X e f)
    (hf : X.fn x = true ∨ X.env.scope.names.lookup x = some .local := by first | exact .inl rfl | exact .inr rfl | assumption) : PSf X (.AugAssign (.Name x pos') op e pos) (sAug g i f) := by
  refine PSi (ps_aug hN hi hx he ho hf) fun E σ H zz => ?_
  obtain ⟨ι, σd, Hd, fl, σd', Hd', s, hr, e, q⟩ := zz
  obtain ⟨a, e0, e⟩ := Option.bind_eq_some_iff.mp e
  obtain ⟨d, e1, e2⟩ := Option.bind_eq_some_iff.mp e0
  have := intOf_some e2
  subst this
  obtain ⟨⟨y, H1⟩, e3, e⟩ := Option.bind_eq_some_iff.mp e
  obtain ⟨b, e4, e⟩ := Option.map_eq_some_iff.mp e
  have := intOf_some e4
  dsimp only at this e
  subst this
  cases e
  have hv : σd[i]? = some (some (.int a)) := by
    cases hx : σd[i]? with
    | none => rw [hx] at e1; cases e1
    | some o => rw [hx] at e1; exact congrArg some e1
  obtain ⟨v, h1, h2⟩ := s.var i _ hv
  simp at h2
  subst h2
  refine ⟨_, h1, ι, σd, Hd, _, _, s, hr, e3, fun v H' ι' l h r => ?_⟩
  simp at r
  subst r
  refine ⟨a, b, rfl, rfl, q _ H' ι' l h ((s.mono l).set (by simp) i)⟩
end
end DL
namespace DL
open PySem PySem.Spec PyProof.Rows L2
section
open PySem.SeqAt
open PySem.AutoSeq1 (wpAny_loadPart')
open PySem.MeetsSeq PySem.MeetsSeq2 PySem.MeetsSeq3
end
end DL
namespace DL
open PySem PySem.Spec PyProof.Rows L2
section
variable {prog : Program} {w : World} {A : Around} {R : Result → Shared → Prop} {J S : Addr} {fp wr : List Addr} {n : Nat} {P : Nat → Value → Prop} {St : Nat → Heap → Prop} {Gd : Heap → Prop} {bt : Nat → Nat → Bool}
end
end DL
namespace DL
open PySem PySem.Spec PyProof.Rows L2
section
variable {X : Cx}
end
end DL
namespace DL
open PySem PySem.Spec PyProof.Rows L2
section
variable {prog : Program} {w : World} {A : Around} {R : Result → Shared → Prop} {J d : Addr} {fp wr : List Addr} {n : Nat} {P : Nat → Value → Prop} {St : Nat → Heap → Prop} {Gd : Nat → Heap → Prop}
end
end DL
namespace DL
open PySem PySem.Spec PyProof.Rows L2
section
variable {X : Cx} {pins : List (Addr × Obj)} {σ : L2.St} {H : Hp} {s : Shared} {scope : Scope} {x y0 : Str} {cn : List Str} {ci : List Nat} {fp : List Addr}
end
end DL
namespace DL
open PySem PySem.Spec PyProof.Rows L2
open Builtin.SmallTypes (nextOf)
section
variable {prog : Program} {w : World} {A : Around} {E : Value → Shared → Prop} {s : Shared}
end
end DL
namespace DL
open PySem PySem.Spec PyProof.Rows L2
noncomputable def two2 : D → Option (D × D)
  | .tup [a, b] => some (a, b)
  | _ => none
open Classical in
noncomputable def compL2 (own : OwnD) (c0 : SD) (tt : TF) (te : EF) : List D → HD → Option (List D × HD)
  | [], H => if okOwn own H then some ([], H) else none
  | x :: r, H => (two2 x).bind fun ab => if okOwn own H then (tt (some ab.1 :: some ab.2 :: c0) H).bind fun t => if t.1 = true then (te (some ab.1 :: some ab.2 :: c0) t.2).bind fun e => (compL2 own c0 tt te r e.2).map fun q => (e.1 :: q.1, q.2) else compL2 own c0 tt te r t.2 else none
section
variable {X : Cx} {scope : Scope} {x y0 : Str} {cn : List Str} {ci : List Nat}
end
end DL
namespace DL
open PySem PySem.Spec PyProof.Rows L2
noncomputable def iput (kvs : List (Int × D)) (k : Int) (v : D) : List (Int × D) := if kvs.any (fun p => p.1 = k) = true then kvs.map (fun p => if p.1 = k then (p.1, v) else p) else kvs ++ [(k, v)]
noncomputable def ilook (kvs : List (Int × D)) (k : Int) : Option D := (kvs.find? fun p => p.1 = k).map (·.2)
noncomputable def dciD (x : D) (H : HD) : Option (List (Int × D)) := match x with
  | .ref n => match H[n]? with
    | some (.dci kvs) => some kvs
    | _ => none
  | _ => none
noncomputable def igetD : F2 := fun x y H => (dciD x H).bind fun kvs => match y with
  | .int k => (ilook kvs k).map fun v => (v, H)
  | _ => none
theorem dciD_some {x : D} {Hd : HD} {kvs : List (Int × D)} (e : dciD x Hd = some kvs) : ∃ n, x = .ref n ∧ Hd[n]? = some (.dci kvs) := by
  cases x <;> simp only [dciD] at e <;> try cases e
  rename_i n
  split at e
  · rename_i h; cases e; exact ⟨n, rfl, h⟩
  · cases e
section
variable {K : PySem.W.Frag} {H : Hp} {ι : List Addr}
theorem irep_any {kvs : List (Int × D)} {xs : List (Int × Value)} (h : Paired (IRep K H ι) kvs xs) (k : Int) : kvs.any (fun p => p.1 = k) = xs.any (fun p => p.1 = k) := by
  induction h with
  | nil => rfl
  | cons a b ih => rw [List.any_cons, List.any_cons, ih, a.1]
theorem irep_map {kvs : List (Int × D)} {xs : List (Int × Value)} {k : Int} {d : D} {v : V} {u : Value} (h : Paired (IRep K H ι) kvs xs) (r : RelV v u) (q : Rep K H ι d v) : Paired (IRep K H ι) (kvs.map (fun p => if p.1 = k then (p.1, d) else p)) (xs.map (fun p => if p.1 = k then (p.1, u) else p)) := by
  induction h with
  | nil => exact .nil
  | cons a b ih =>
    refine .cons ?_ ih
    dsimp only
    rw [a.1]
    split
    · exact ⟨rfl, v, r, q⟩
    · exact a
theorem irep_put {kvs : List (Int × D)} {xs : List (Int × Value)} {k : Int} {d : D} {v : V} {u : Value} (h : Paired (IRep K H ι) kvs xs) (r : RelV v u) (q : Rep K H ι d v) : Paired (IRep K H ι) (iput kvs k d) (stored xs k u) := by
  unfold iput stored
  rw [irep_any h k]
  split
  · exact irep_map h r q
  · exact Prd.append h (.cons ⟨rfl, v, r, q⟩ .nil)
theorem irep_look {kvs : List (Int × D)} {xs : List (Int × Value)} (h : Paired (IRep K H ι) kvs xs) (k : Int) : (ilook kvs k = none ∧ valueAt xs k = none) ∨ ∃ d v u, ilook kvs k = some d ∧ valueAt xs k = some u ∧ RelV v u ∧ Rep K H ι d v := by
  unfold ilook valueAt
  induction h with
  | nil => exact .inl ⟨rfl, rfl⟩
  | cons a b ih =>
    rename_i p x ps xs'
    by_cases e : p.1 = k
    · have e2 : x.1 = k := by rw [← a.1]; exact e
      obtain ⟨_, v, r, q⟩ := a
      exact .inr ⟨p.2, v, x.2, by rw [List.find?_cons_of_pos (by simpa using e)]; rfl, by rw [List.find?_cons_of_pos (by simpa using e2)]; rfl, r, q⟩
    · have e2 : ¬ x.1 = k := by rw [← a.1]; exact e
      rw [List.find?_cons_of_neg (by simpa using e), List.find?_cons_of_neg (by simpa using e2)]
      exact ih
end
theorem keys_any {p p2 : Program} {w w2 : World} {es : List DictEntry} {xs : List (Int × Value)} (e : Pairs (numKind p w) es xs) : Pairs (numKind p2 w2) es xs := by
  induction e with
  | nil => exact .nil
  | cons a b c ih => exact .cons a b ih
theorem dictOf_any {h : Heap} {a : Addr} {xs : List (Int × Value)} {p : Program} {w : World} (d : h.DictOf (numKind p w) a xs) : DciAt a xs h := fun p2 w2 => by
  obtain ⟨o, es, ep, e1, e2, e3, e4, e5, e6⟩ := d
  refine ⟨o, es, ep, e1, e2, e3, e4, ?_, e6⟩
  exact keys_any e5
section
variable {X : Cx} {pins : List (Addr × Obj)} {σ : L2.St} {H : Hp} {s : Shared} {ι : List Addr}
end
section
variable {X : Cx}
theorem dci_of {pins : List (Addr × Obj)} {σ : L2.St} {H : Hp} {s : Shared} {ι : List Addr} (I : Inv X pins σ H s) {a : Addr} {kvs : List (Int × D)} (h : ORep X.K H ι a (.dci kvs)) : (a == sysModules) = false ∧ ∃ xs, Paired (IRep X.K H ι) kvs xs ∧ s.heap.DictOf (numKind X.prog X.w) a xs := by
  obtain ⟨h1, h2, xs, h3, P⟩ := h
  exact ⟨h1, xs, P, (I.hok a _ h3).1 X.prog X.w⟩
theorem igetf : IxF X igetD := by
  rintro va sl pins s σ H x y v u Q I rx ry ⟨ι, dx, dy, Hd, d, Hd', hr, r1, r2, e, q⟩ hs
  obtain ⟨kvs, e1, e⟩ := Option.bind_eq_some_iff.mp e
  split at e
  · rename_i k _
    obtain ⟨vd, e3, e⟩ := Option.map_eq_some_iff.mp e
    obtain ⟨rfl, rfl⟩ := Prod.mk.inj e
    obtain ⟨n, rfl, hn⟩ := dciD_some e1
    obtain ⟨a, rfl, ha⟩ := rep_ref.mp r1
    simp at r2
    subst r2
    obtain ⟨tok, rfl⟩ := ry
    cases rx
    obtain ⟨h1, xs, P, dd⟩ := dci_of I (hr.obj n a _ ha hn)
    rcases irep_look P _ with ⟨z, _⟩ | ⟨d', v', u', z1, z2, z3, z4⟩
    · rw [z] at e3; cases e3
    · rw [z1] at e3; cases e3
      refine tail_any (ops := [.ref a, .int k tok]) dd.typeIs PySem.F.slot_dict_getitem.lookup (wpAny_getItem_of (knd := numKind X.prog X.w) (k := k) (by show numIs k (.int k tok) = true; simp [numIs, numOf]) dd.mapOf z2 ?_) hs
      exact ⟨v', H, I.tok _, z3, q _ H ι Le.refl hr z4⟩
  · cases e
end
end DL
namespace DL
open PySem PySem.Spec PyProof.Rows L2
section
variable {X : Cx}
noncomputable def eLM0 (g : D → List D → HD → Option (D × HD)) (fo : EF) : EF := fun σ H => (fo σ H).bind fun o => if isLst o.1 o.2 = true then g o.1 [] o.2 else none
theorem pef_lm0 {o : Expr} {name : Str} {apos cpos : Pos} {id : String} {g : D → List D → HD → Option (D × HD)} {fo : EF} (slot : Slot "list" name id) (hty : typeOf (.builtin id) = pure (.type "method_descriptor")) (hm : MtF X id g) (ho : PEf X o fo)
    (hbase : attributeBase o name X.env (eval o X.env) = eval o X.env := by rfl) (hline : (apos.endLine == cpos.line) = true := by rfl) :
    PEf X (.Call (.Attribute o name apos) [] [] cpos) (eLM0 g fo) := by
  refine PEi (pe_bm0 PySem.F.plainAttrs_list slot hty hm ho hbase hline) fun σ H Q zz => ?_
  obtain ⟨ι, σd, Hd, d, Hd', s, hr, e, q⟩ := zz
  obtain ⟨⟨x, H1⟩, e1, e⟩ := Option.bind_eq_some_iff.mp e
  dsimp only at e
  split at e
  · rename_i hl
    exact ⟨ι, σd, Hd, x, H1, s, hr, e1, fun v1 H1' ι1 l1 h1 r1 => ⟨isLst_ty h1 r1 hl, ι1, x, [], H1, d, Hd', h1, r1, .nil, e, fun v H' ι' l h r => q v H' ι' (l1.trans l) h r⟩⟩
  · cases e
end
end DL
namespace DL
open PySem PySem.Spec PyProof.Rows L2
section
variable {X : Cx}
end
end DL
namespace DL
open PySem PySem.Spec PyProof.Rows L2 PySem.W
section
variable {prog : Program} {w : World} {A : Around} {E : Value → Shared → Prop} {s : Shared}
end
section
variable {X : Cx}
end
end DL
namespace DL
open PySem PySem.Spec PyProof.Rows L2
section
variable {X : Cx}
noncomputable def sizeB (i j : Int) : Nat := (i - j).toNat
noncomputable def smallB (i j c : Int) : Prop := -(2 ^ 60) ≤ i ∧ i < 2 ^ 60 ∧ -(2 ^ 60) ≤ j ∧ j < 2 ^ 60 ∧ c = -1
instance (i j c : Int) : Decidable (smallB i j c) := by unfold smallB; exact inferInstance
noncomputable def iRB (f : AF) : ItF := fun σ H => (f σ H).bind fun p => match p.1 with
  | [.int i, .int j, .int c] => if smallB i j c then some ((rangeL3 i c (sizeB i j), []), p.2) else none
  | _ => none
theorem sizeB_eq {i j c : Int} (h : smallB i j c) : Builtin.Range.rangeSize i j c = (sizeB i j : Nat) := by
  obtain ⟨_, _, _, _, rfl⟩ := h
  unfold Builtin.Range.rangeSize sizeB
  rw [if_neg (by decide)]
  split
  · rw [show -(-1 : Int) = 1 from rfl, Int.ediv_one]; omega
  · omega
theorem smallB_ok {i j c : Int} (h : smallB i j c) : Builtin.Range.small i j c = true := by
  have e := sizeB_eq h
  obtain ⟨h1, h2, h3, h4, rfl⟩ := h
  have hb : (sizeB i j : Int) ≤ 2 ^ 61 := by unfold sizeB; omega
  unfold Builtin.Range.small
  rw [e]
  have hp : ¬ ((-1 : Int) > 0) := by decide
  simp only [Builtin.Range.rangeFitsLong, Bool.and_eq_true, Bool.or_eq_true, decide_eq_true_eq, beq_iff_eq, hp, if_false]
  unfold sizeB
  omega
theorem pif_rangeB {tg : Expr} {a b c : Expr} {f : AF} {p pos : Pos} (hg : Gl X "range") (hm : X.mg "range" = none) (ha : PAf X [a, b, c] f) (hs : starEach [a, b, c] X.env = (false, eval a X.env) :: starEach [b, c] X.env := by rfl) (hpl : (backTo pos (starEach [b, c] X.env)).any (·.1) = false := by rfl) :
    PIf X tg (.Call (.Name "range" p) [a, b, c] [] pos) (iRB f) := by
  rintro pins s σ H R I ⟨ι, σd, Hd, xs, own, Hd', sr, hr, e, q⟩
  obtain ⟨⟨ds, H1⟩, e1, e⟩ := Option.bind_eq_some_iff.mp e
  dsimp only at e
  split at e
  · rename_i i j k
    split at e
    · rename_i hk
      cases e
      refine Call_ (ld_blt I hg hm boot_range (PyProof.Rows.callWith_type1 (thn (ha pos pins s σ H (fun vs H' => vs = [.int i, .int j, .int k] ∧ R (It3 i k (sizeB i j)) H') I ⟨ι, σd, Hd, _, _, sr, hr, e1, fun ws H' ι' l h P => ?_⟩) fun us s1 ⟨vs, H2, I2, r2, q2⟩ => ?_) hs hpl))
      · cases P with
        | cons r1 P =>
          obtain ⟨v, v', rfl, r, r'⟩ := prd2 P
          simp at r1 r r'
          subst r1 r r'
          refine ⟨rfl, q _ H' ι' l h ⟨fun i H2 ι2 Hd2 l2 h2 _ hi => (show i < _ by simpa [rangeL3] using hi), fun i' H2 ι2 Hd2 d x H3 l2 h2 _ hd y => ?_, fun i H2 ι2 Hd2 l2 h2 _ hi => (show _ ≤ i by simpa [rangeL3] using hi)⟩⟩
          obtain ⟨rfl, rfl⟩ := y
          unfold rangeL3 at hd
          rw [List.getElem?_map] at hd
          obtain ⟨k', h1', rfl⟩ := Option.map_eq_some_iff.mp hd
          rw [List.getElem?_eq_some_iff] at h1'
          obtain ⟨hl', h1'⟩ := h1'
          simp at h1'
          subst h1'
          exact ⟨ι2, Le.refl, h2, by simp⟩
      · obtain ⟨rfl, q2⟩ := q2
        cases r2 with
        | cons r1 r2 =>
          obtain ⟨u1, u2, rfl, ru1, ru2⟩ := vals2 r2
          obtain ⟨t1, rfl⟩ := r1
          obtain ⟨t2, rfl⟩ := ru1
          obtain ⟨t3, rfl⟩ := ru2
          have hc := hk
          obtain ⟨b1, b2, b3, b4, b5⟩ := hk
          refine call_range_3 (by omega) ?_ (.inl (PyProof.noPylong_small (by omega)))
          refine wpAny_pyIter_range (IsRange.new ..) (smallB_ok hc) ?_
          have I1 : Inv X pins σ H2 { s1 with heap := s1.heap.push { cls := .type "range", data := .fields #[.int i t1, .int j t2, .int k t3] } } := I2.kept (t' := s1.toks) fun b o e => Heap.get?_push_of_some _ e
          refine ⟨_, [_], _, It3 i k (sizeB i j), H2, rfl, I1.kept (t' := s1.toks) fun b o e => Heap.get?_push_of_some _ e, turn_range3 _ i k _, ?_, fun b hb => ?_, q2⟩
          · have z1 : i + ((0 : Nat) : Int) * k = i := by simp
            have z2 : ((sizeB i j : Nat) : Int) - ((0 : Nat) : Int) = Builtin.Range.rangeSize i j k := by rw [sizeB_eq hc]; simp
            show IsRangeIter _ _ (i + ((0 : Nat) : Int) * k) (((sizeB i j : Nat) : Int) - ((0 : Nat) : Int)) k
            rw [z1, z2]
            exact Heap.get?_push_size _ rfl
          · have e : b = (s1.heap.push { cls := .type "range", data := .fields #[.int i t1, .int j t2, .int k t3] }).objs.size := by simpa using hb
            subst e
            exact I1.fpOk (Nat.le_refl _) (I1.hok.fresh (Nat.le_refl _))
    · cases e
  · cases e
end
end DL
namespace L2
open PySem PySem.Spec PyProof.Rows
theorem ObjOk.here {P : Program} {w : World} {H : Hp} {h : Heap} {a : Addr} {o : HO} (x : ObjOk P w H h a o) : ∃ ob, h.get? a = some ob := by
  cases o with
  | lst xs => obtain ⟨_, its, n, _, e⟩ := x; exact ⟨_, e⟩
  | tup xs => obtain ⟨_, its, _, ob, e, _⟩ := x; exact ⟨_, e⟩
  | dK kvs => obtain ⟨_, _, vs, _, ob, es, ep, e, _⟩ := x; exact ⟨_, e⟩
  | dT kvs => obtain ⟨_, _, xs, _, ob, es, ep, e, _⟩ := x; exact ⟨_, e⟩
  | set S n => obtain ⟨ob, es, ep, t, e, _⟩ := x; exact ⟨_, e⟩
  | ins C dx fs => obtain ⟨_, _, _, e, _⟩ := x; exact ⟨_, e⟩
  | own y => obtain ⟨ob, e⟩ := x; exact ⟨_, e⟩
  | xd fs => obtain ⟨mA, ⟨od, es, ep, e, _⟩, _⟩ := x; exact ⟨_, e⟩
  | rng lo hi => obtain ⟨t, u, v, e⟩ := x; exact ⟨_, e⟩
  | frz ob u => obtain ⟨e, _⟩ := x; exact ⟨_, e⟩
  | tbl ps => exact ⟨_, x⟩
  | met f y => exact ⟨_, x⟩
  | ext φ => obtain ⟨_, e, _⟩ := x; exact e
end L2
namespace DL
open PySem PySem.Spec PyProof.Rows L2 PySem.W
structure Fly (l : List Env) (H H1 : Hp) (h0 h1 : Heap) (a : Addr) (C : Value) : Prop where
  new : h0.get? a = none
  fly : ∃ (B : Heap) (a0 : Value), Heap.FlyingW B l a C a0 h1 ∧ (∀ b o, h0.get? b = some o → b ∉ frs l → ∃ o', B.get? b = some o' ∧ (H b = none → o' = o)) ∧ ∀ b ho, H1 b = some ho → ∃ o, h1.get? b = some o ∧ B.get? b = some o
noncomputable def CXe (P : Program) (w : World) : CXT := fun outer H s E e s' => ∃ (a : Addr) (C : Value) (H1 : Hp), e = .ref a ∧ E C none H1 ∧ s'.os = s.os ∧ AllBare s'.gens ∧ Un (frs outer) [] H H1 s.heap s'.heap ∧ HOk P w H1 s'.heap ∧ Fly outer H H1 s.heap s'.heap a C
structure ExcT (K : PySem.W.Frag) (mg : Str → Option Value) (x : Str) (C : Addr) : Prop where
  bound : mg x = some (.ref C)
  kp : PySem.W.keepIn K (.ref C) = true
  inK : ∃ (bm : List Value) (B newId initId : String), PySem.W.excIn K C bm newId = true ∧ ExcBaseFacts B newId initId bm
theorem own_in {K : PySem.W.Frag} {h : Heap} {mg : Str → Option Value} {x : Str} {C : Addr} {bmB : List Value} {newId : String} (X : K.In h) (e : mg x = some (.ref C)) (q : PySem.W.excIn K C bmB newId = true) : OwnCls x C bmB newId mg h := by
  have z := q
  unfold PySem.W.excIn at z
  split at z <;> try cases z
  rename_i d1 c1 l1 look
  split at z <;> try cases z
  rename_i D tl s0 s1 s2 s3 nid s5 e1 e2
  rw [Bool.and_eq_true, Bool.and_eq_true, Bool.and_eq_true, Bool.and_eq_true, Bool.and_eq_true] at z
  obtain ⟨⟨⟨⟨⟨a1, a2⟩, a3⟩, a4⟩, a5⟩, a6⟩ := z
  have a1 : D = C := beq_iff_eq.mp a1
  have a2 : nid = newId := beq_iff_eq.mp a2
  have a6 := beq_iff_eq.mp a6
  subst a1 a2
  have here := X _ _ look
  have a7 : l1 = #[s0, s1, s2, s3, some (.builtin nid), s5] := by rw [← e2]
  have a8 : c1.hasDel = false := by simpa using a3
  subst a7
  refine ⟨e, tl, c1.ns, c1.name, c1.qualname, c1.bases, c1.hasDict, c1.slotNames, c1.subclasses, c1.abstract, c1.collection, d1, s0, s1, s2, s3, s5, _, ?_, .of_isNs (isNs_of_in X a5), nsMap_none_of_in X a5 a6, tail_of_in X a4⟩
  rw [here]
  unfold excClassObj
  rw [← e1, ← a8]
theorem fly_un {P : Program} {w : World} {l : List Env} {H H1 : Hp} {h0 h1 h2 B : Heap} (u : Un (frs l) [] H H1 h0 h1) (ok : HOk P w H1 h1) (bo : ∀ b o, h0.get? b = some o → b ∉ frs l → ∃ o', B.get? b = some o' ∧ (H b = none → o' = o)) (bt : ∀ b ho, H1 b = some ho → ∃ o, h1.get? b = some o ∧ B.get? b = some o)
    (st : B.StaysIn h2) (up : h1.UpToSlots h2) (ff : h1.FunFrames B l) : Un (frs l) [] H H1 h0 h2 ∧ HOk P w H1 h2 := by
  have fram : ∀ b o, b ∈ frs l → h1.get? b = some o → ∃ sl, h2.get? b = some { o with slots := sl } := fun b o z eb => by
    obtain ⟨_, o', g1, g3⟩ := ff.mem z
    rw [eb] at g1
    cases g1
    exact up b o eb g3
  refine ⟨⟨fun b o e n nb _ => ?_, fun b o e n hb hx => ?_, u.free, fun b o e hx => ?_, u.tups, u.frzs, u.tbls⟩, fun b ho e => ?_⟩
  · obtain ⟨o', g, z⟩ := bo b o e nb
    rw [z n] at g
    exact st b o g
  · obtain ⟨sl, g⟩ := u.slot b o e n hb hx
    obtain ⟨sl', g'⟩ := fram b _ hb g
    exact ⟨sl', g'⟩
  · by_cases z : b ∈ frs l
    · obtain ⟨o1, g⟩ := u.there b o e hx
      obtain ⟨sl, g'⟩ := fram b o1 z g
      exact ⟨_, g'⟩
    · obtain ⟨o', g, _⟩ := bo b o e z
      exact ⟨o', st b o' g⟩
  · refine (ok b ho e).stay (fun c v hc g => ?_) (fun _ z => z) (fun _ _ z => z)
    have tk : ∃ hc, H1 c = some hc := by
      rcases hc with rfl | hc
      · exact ⟨_, e⟩
      · exact ⟨_, hc⟩
    obtain ⟨hc', tk⟩ := tk
    obtain ⟨o, g1, g2⟩ := bt c hc' tk
    rw [g] at g1
    cases g1
    exact st c v g2
section
variable {P : Program} {w : World} {K : PySem.W.Frag} {mg : Str → Option Value} {base : Heap} {N : List Str} {qual : Str} {scope : Scope} {f : Addr} {cd : Value} {A : Around} {outer : List Env} {s s1 : Shared} {H H1 : Hp} {E : XK} {pins : List (Addr × Obj)} {σ : L2.St}
theorem xe_leaves {h' : Heap} {e C : Addr} {vs : List Value} (I : Inv (cxOf (CXe P w) P w K mg base N qual scope f cd A outer s H E) pins σ H1 s1) (hx : Heap.MadeExcOf s1.heap h' e (.ref C) vs) (q : E (.ref C) none H1) :
    (cxOf (CXe P w) P w K mg base N qual scope f cd A outer s H E).xe (.ref e) { s1 with heap := h' } := by
  have hS := I.stack
  have hF : s1.heap.FunFrames (hideAll s1.heap (frs (cxOf (CXe P w) P w K mg base N qual scope f cd A outer s H E).stack)) (cxOf (CXe P w) P w K mg base N qual scope f cd A outer s H E).stack := funFrames_hide hS fun env he b hb => List.mem_filterMap.mpr ⟨env, he, hb⟩
  have fr := I.ok.frames
  refine wpAny_leaves_madeW (base := hideAll s1.heap (frs (cxOf (CXe P w) P w K mg base N qual scope f cd A outer s H E).stack)) fr rfl (fun b o z => of_hideAll _ z) hF hx fun h2 t f1 f2 f3 f4 => ?_
  have nf : ∀ b ho, H1 b = some ho → b ∉ frs (cxOf (CXe P w) P w K mg base N qual scope f cd A outer s H E).stack := fun b ho eb z => by rw [I.stkFree b z] at eb; cases eb
  have kp : ∀ b o, s1.heap.get? b = some o → b ∉ frs (cxOf (CXe P w) P w K mg base N qual scope f cd A outer s H E).stack → h2.get? b = some o := fun b o eb z => f1.1 b o (hideAll_get _ eb z)
  have old : ∀ b o, s.heap.get? b = some o → b ∉ frs outer → b ∉ frs (cxOf (CXe P w) P w K mg base N qual scope f cd A outer s H E).stack := fun b o eb z y => by
    rcases List.mem_cons.mp (I.stkSub b y) with rfl | y
    · exact absurd (Nat.lt_of_lt_of_le (Heap.lt_size eb) I.ok.above) (Nat.lt_irrefl _)
    · exact z y
  have fram : ∀ b o, b ∈ frs (cxOf (CXe P w) P w K mg base N qual scope f cd A outer s H E).stack → s1.heap.get? b = some o → ∃ sl, h2.get? b = some { o with slots := sl } := fun b o z eb => by
    obtain ⟨_, o', h1, h3⟩ := hS.mem z
    rw [eb] at h1
    cases h1
    exact f4 b o (hx.keeps b o eb) h3
  refine ⟨e, .ref C, H1, rfl, q, I.os, I.bare, ⟨fun b o eb n nb _ => kp b o (I.base.keep b o eb n nb (by rintro z; cases z)) (old b o eb nb), fun b o eb n hb _ => ?_, fun b o eb n _ => I.base.free b o eb n (by intro z; cases z), fun b o eb _ => ?_, I.base.tups, I.base.frzs, I.base.tbls⟩, fun b ho eb => ?_, ⟨?_, _, _, f1, fun b o eb nb => ?_, fun b ho eb => ?_⟩⟩
  · obtain ⟨sl, g⟩ := I.base.slot b o eb n hb (by intro z; cases z)
    obtain ⟨sl', g'⟩ := fram b _ (List.mem_cons_of_mem _ hb) g
    exact ⟨sl', g'⟩
  · obtain ⟨o1, g⟩ := I.base.there b o eb (by intro z; cases z)
    by_cases z : b ∈ frs (cxOf (CXe P w) P w K mg base N qual scope f cd A outer s H E).stack
    · obtain ⟨sl, g'⟩ := fram b o1 z g
      exact ⟨_, g'⟩
    · exact ⟨o1, kp b o1 g z⟩
  · exact (I.hok b ho eb).stay (fun c u hc g => kp c u g (by
      rcases hc with rfl | hc
      · exact nf _ _ eb
      · exact nf _ _ hc)) (fun _ z => z) (fun _ _ z => z)
  · cases z : s.heap.get? e with
    | none => rfl
    | some o =>
      obtain ⟨o1, g⟩ := I.base.there e o z (by intro y; cases y)
      rw [hx.new] at g; cases g
  · obtain ⟨o1, g⟩ := I.base.there b o eb (by intro z; cases z)
    refine ⟨o1, hideAll_get _ g (old b o eb nb), fun n => ?_⟩
    have k1 := I.base.keep b o eb n nb (by intro z; cases z)
    exact Option.some.inj (g.symm.trans k1)
  · obtain ⟨o, g⟩ := (I.hok b ho eb).here
    exact ⟨o, kp b o g (nf b ho eb), hideAll_get _ g (nf b ho eb)⟩
theorem xe_passes {s' : Shared} {H0 : Hp} {a C : Addr} (I : Inv (cxOf (CXe P w) P w K mg base N qual scope f cd A outer s H E) pins σ H0 s1) (os : s'.os = s1.os) (bare : AllBare s'.gens) (un : Un (frs (cxOf (CXe P w) P w K mg base N qual scope f cd A outer s H E).stack) [] H0 H1 s1.heap s'.heap) (hok : HOk P w H1 s'.heap)
    (fl : Fly (cxOf (CXe P w) P w K mg base N qual scope f cd A outer s H E).stack H0 H1 s1.heap s'.heap a (.ref C)) (q : E (.ref C) none H1) : (cxOf (CXe P w) P w K mg base N qual scope f cd A outer s H E).xe (.ref a) s' := by
  obtain ⟨B, a0, fly, bo, bt⟩ := fl.fly
  have fr := I.ok.frames
  refine wpAny_leaves_onW fr rfl fly fun h2 f1 up => ?_
  obtain ⟨un2, ok2⟩ := fly_un un hok bo bt f1.1 up fly.2.2.1
  have old : ∀ b o, s.heap.get? b = some o → b ∉ frs outer → b ∉ frs (cxOf (CXe P w) P w K mg base N qual scope f cd A outer s H E).stack := fun b o eb z y => by
    rcases List.mem_cons.mp (I.stkSub b y) with rfl | y
    · exact absurd (Nat.lt_of_lt_of_le (Heap.lt_size eb) I.ok.above) (Nat.lt_irrefl _)
    · exact z y
  have u : Un (frs (cxOf (CXe P w) P w K mg base N qual scope f cd A outer s H E).stack) [] H H1 s.heap h2 := (I.base.mono (fun b hb => List.mem_cons_of_mem _ hb) (fun b hb => hb)).trans un2
  refine ⟨a, .ref C, H1, rfl, q, os.trans I.os, bare, ⟨fun b o eb n nb hx => u.keep b o eb n (old b o eb nb) hx, fun b o eb n hb hx => u.slot b o eb n (List.mem_cons_of_mem _ hb) hx, u.free, u.there, u.tups, u.frzs, u.tbls⟩, ok2, ⟨?_, B, a0, f1, fun b o eb nb => ?_, fun b ho eb => ?_⟩⟩
  · cases z : s.heap.get? a with
    | none => rfl
    | some o =>
      obtain ⟨o1, g⟩ := I.base.there a o z (by intro y; cases y)
      rw [fl.new] at g; cases g
  · obtain ⟨o1, g⟩ := I.base.there b o eb (by intro z; cases z)
    obtain ⟨o', g', z⟩ := bo b o1 g (old b o eb nb)
    refine ⟨o', g', fun n => ?_⟩
    rw [z (I.base.free b o eb n (by intro z; cases z))]
    have k1 := I.base.keep b o eb n nb (by intro z; cases z)
    exact Option.some.inj (g.symm.trans k1)
  · obtain ⟨o, g, g'⟩ := bt b ho eb
    exact ⟨o, f1.1 b o g', g'⟩
end
end DL
namespace DL
open PySem PySem.Spec PyProof.Rows L2 PySem.W
noncomputable abbrev XFs := SD → HD → Option HD
noncomputable abbrev XFF := List D → HD → Option HD
noncomputable def Raisd (X : Cx) (C : Addr) (H1 : Hp) (e : Value) (s' : Shared) : Prop := ∃ pins σ1 a, e = .ref a ∧ ((∃ s1 h' vs, Inv X pins σ1 H1 s1 ∧ Heap.MadeExcOf s1.heap h' a (.ref C) vs ∧ s' = { s1 with heap := h' }) ∨
  ∃ s1 H0, Inv X pins σ1 H0 s1 ∧ s'.os = s1.os ∧ AllBare s'.gens ∧ Un (frs X.stack) [] H0 H1 s1.heap s'.heap ∧ HOk X.prog X.w H1 s'.heap ∧ Fly X.stack H0 H1 s1.heap s'.heap a (.ref C))
noncomputable def rdX (X : Cx) (C : Addr) (b : XFs) : TS := fun _ σ H => ∃ ι σd Hd Hd', SRep X.K H ι σ σd ∧ HRep X.K H ι Hd ∧ b σd Hd = some Hd' ∧
  ∀ H1 ι' e s', Le X.K H ι H1 ι' → HRep X.K H1 ι' Hd' → Raisd X C H1 e s' → X.xe e s'
noncomputable def PXf (X : Cx) (C : Addr) (sts : List Stmt) (b : XFs) : Prop := PSs X sts (rdX X C b)
noncomputable def xSeq (f : SF) (b : XFs) : XFs := fun σ H => (f σ H).bind fun r => match r.1 with
  | .nx => b r.2.1 r.2.2
  | _ => none
noncomputable def xIf (t : TF) (b : XFs) : XFs := fun σ H => (t σ H).bind fun r => if r.1 then b σ r.2 else none
noncomputable def xRaise (f : EF) : XFs := fun σ H => (f σ H).map fun r => r.2
noncomputable def runX (n N : Nat) (b : XFs) : XFF := fun ds H => if ds.length = n then b (ds.map some ++ List.replicate (N - ds.length) none) H else none
section
variable {X : Cx} {C : Addr} {st : Stmt} {sts : List Stmt} {e c : Expr} {pos np cpos : Pos} {x : Str}
theorem pss_no : PSs X sts fun _ _ _ => False := fun _ _ _ _ _ _ h => h.elim
theorem px_cons {f : SF} {b : XFs} (h1 : PSf X st f) (h2 : PXf X C sts b) : PXf X C (st :: sts) (xSeq f b) := by
  refine PSsi (pss_cons h1 h2) fun E σ H zz => ?_
  obtain ⟨ι, σd, Hd, Hd', s, hr, e, q⟩ := zz
  obtain ⟨⟨f1, σ1, H1⟩, e1, e⟩ := Option.bind_eq_some_iff.mp e
  refine ⟨ι, σd, Hd, f1, σ1, H1, s, hr, e1, fun σ' H' ι' l h ss => ?_⟩
  cases f1 with
  | nx => exact ⟨ι', σ1, H1, Hd', ss, h, e, fun H2 ι2 ex s2 l2 => q H2 ι2 ex s2 (l.trans l2)⟩
  | bk => cases e
  | ct => cases e
  | rt d => cases e
theorem px_if {t : TF} {as : List Stmt} {b : XFs} (hc : PTf X c t) (ha : PXf X C as b) : PXf X C (.If c as [] pos :: sts) (xIf t b) := by
  refine PSsi (pss_cons (ps_if hc ha (pss_no (sts := []))) (pss_no (sts := sts))) fun E σ H zz => ?_
  obtain ⟨ι, σd, Hd, Hd', s, hr, e, q⟩ := zz
  obtain ⟨⟨z, H1⟩, e1, e⟩ := Option.bind_eq_some_iff.mp e
  refine ⟨ι, σd, Hd, z, H1, s, hr, e1, fun H' ι' l h => ?_⟩
  cases z with
  | true =>
    rw [if_pos rfl]
    exact ⟨ι', σd, H1, Hd', s.mono l, h, by simpa using e, fun H2 ι2 ex s2 l2 => q H2 ι2 ex s2 (l.trans l2)⟩
  | false => simp at e
theorem ps_raise {fe : EF} (hc : X.calm = true) (T : ExcT X.K X.mg x C) (hg : Gl X x) (hf : PAf X [e] (aCons fe aNil)) (hdb : (x == ("__debug__" : Str)) = false := by decide) (he : starEach [e] X.env = (false, eval e X.env) :: starEach [] X.env := by exact star_cons rfl) :
    PS X (.Raise (some (.Call (.Name x np) [e] [] cpos)) none pos) (rdX X C (xRaise fe)) := by
  rintro pins s σ H D I ⟨ι, σd, Hd, Hd', ss, hr, eq, q⟩
  obtain ⟨⟨d, H1⟩, e1, e2⟩ := Option.map_eq_some_iff.mp eq
  have e2 : H1 = Hd' := e2
  subst e2
  obtain ⟨bm0, B, newId, initId, k1, FB⟩ := T.inK
  obtain ⟨tl, N, nm, qn, bs, hdct, sn, sub, ab, col, dd, k0, k1', k2, k3, k5, mN, hC, hN, hni, TL⟩ := (own_in I.ok.mod.kin T.bound k1).obj
  have pl : (backTo cpos (starEach [e] X.env)).any (·.1) = false := by rw [he]; rfl
  refine wpAny_Raise_call_subT (C := C) (nm := nm) (q := qn) (N := N) (bs := bs) (bm := tl) (hdct := hdct) (sn := sn) (sub := sub) (ab := ab) (col := col) (dd := dd) (k0 := k0) (k1 := k1') (k2 := k2) (k3 := k3) (k5 := k5) FB (mN := mN) (TL.hasType FB.hasBase) (I.ok.hd hc) pl hni (ld_glob I hg T.bound ⟨rfl, ?_⟩ hdb)
  have ea : aCons fe aNil σd Hd = some ([d], H1) := by unfold aCons; rw [e1]; rfl
  have a1 := hf cpos pins s σ H (fun vs H' => vs.length = 1 ∧ ∃ ι', Le X.K H ι H' ι' ∧ HRep X.K H' ι' H1) I ⟨ι, σd, Hd, [d], H1, ss, hr, ea, fun vs H' ι' l h P => ⟨(Prd.len P).symm, ι', l, h⟩⟩
  rw [he] at a1 ⊢
  refine Calls.evalArgs_plain (wpAny_mono a1 (fun us s2 ⟨vs, H2, I2, r2, ⟨hl, ι', l, h⟩⟩ => ⟨rfl, ?_, I2.bk _ _ hC, hN.keeps I2.bk, TL.keeps I2.bk, fun h' ex hm => ?_⟩) fun _ _ y => y)
  · rw [← r2.length, hl, PySem.sizeLine_eq]; omega
  · exact q H2 ι' (.ref ex) _ l h ⟨pins, σ, ex, rfl, .inl ⟨s2, h', us, I2, hm, rfl⟩⟩
theorem px_raise {fe : EF} (hc : X.calm = true) (T : ExcT X.K X.mg x C) (hg : Gl X x) (hf : PAf X [e] (aCons fe aNil)) (hdb : (x == ("__debug__" : Str)) = false := by decide) (he : starEach [e] X.env = (false, eval e X.env) :: starEach [] X.env := by exact star_cons rfl) :
    PXf X C (.Raise (some (.Call (.Name x np) [e] [] cpos)) none pos :: sts) (xRaise fe) := by
  refine PSsi (pss_cons (ps_raise hc T hg hf hdb he) (pss_no (sts := sts))) fun E σ H h => ?_
  exact h
noncomputable def spX (K : PySem.W.Frag) (C : Addr) (n : Nat) (F : XFF) : Sp := fun vs H _ E => ∃ ι ds Hd Hd', ds.length = n ∧ HRep K H ι Hd ∧ Paired (Rep K H ι) ds vs ∧ F ds Hd = some Hd' ∧ ∀ H1 ι', Le K H ι H1 ι' → HRep K H1 ι' Hd' → E (.ref C) none H1
end
noncomputable def xCall (n : Nat) (XF : XFF) (fa : AF) : XFs := fun σ H => (fa σ H).bind fun p => if p.1.length = n then XF p.1 p.2 else none
section
variable {X : Cx} {C f : Addr} {k n : Nat} {fd : FuncData} {ps : List Str} {XF : XFF} {fa : AF} {x : Str} {a : Expr} {as : List Expr} {sts : List Stmt} {p cp ep : Pos}
theorem px_call (G : FnOk X.prog X.w X.K X.mg X.base (CXe X.prog X.w) k f fd ps (spX X.K C n XF)) (hr : Room k X.A) (hg : Gl X x) (hm : X.mg x = some (.ref f)) (hk : PySem.W.keepIn X.K (.ref f) = true) (hb : Binds X.K fd ps []) (ha : PAf X.nox (a :: as) fa)
    (hdb : (x == ("__debug__" : Str)) = false := by decide) (he : starEach (a :: as) X.env = (false, eval a X.env) :: starEach as X.env := by exact star_cons rfl) (hpl : (backTo cp (starEach as X.env)).any (·.1) = false := by exact star_any rfl)
    (hs : swapsWith (.Call (.Name x p) (a :: as) [] cp) none ep.line X.env = pure false := by rfl) : PXf X C (.Expr (.Call (.Name x p) (a :: as) [] cp) ep :: sts) (xCall n XF fa) := by
  rintro pins s σ H D I ⟨ι, σd, Hd, H2, ss, hh, eq, q⟩
  obtain ⟨⟨ds, H1⟩, e1, e⟩ := Option.bind_eq_some_iff.mp eq
  have hx : ds.length = n ∧ XF ds H1 = some H2 := by
    dsimp only at e
    split at e
    · rename_i z; exact ⟨z, e⟩
    · cases e
  obtain ⟨e2, e3⟩ := hx
  refine wpAny_execs_cons (wpAny_Expr_any (wpAny_Call_Name_kw (ld_glob I hg hm ?_ hdb)) I.quiet hs)
  refine PySem.W.callWith_K (h₀ := X.base) I.ok.mod.kin hk (wpAny_mono (ha cp pins s σ H (fun vs H' => ∃ ι', Le X.K H ι H' ι' ∧ HRep X.K H' ι' H1 ∧ Paired (Rep X.K H' ι') ds vs) (I.wish _) ⟨ι, σd, Hd, ds, H1, ss, hh, e1, fun vs H' ι' l h P => ⟨ι', l, h, P⟩⟩) (fun us s1 z => ?_) fun _ _ z => z.elim) he hpl
  obtain ⟨vs, H1v, I1, r1, ι1, l1, h1, P1⟩ := z
  have I1 : Inv X pins σ H1v s1 := I1.unwish
  refine ⟨I1.kIn, ?_⟩
  have sp : spX X.K C n XF vs H1v (fun _ _ => False) fun Cv _ H' => Cv = .ref C ∧ ∃ ι', Le X.K H ι H' ι' ∧ HRep X.K H' ι' H2 := ⟨ι1, ds, H1, H2, e2, h1, P1, e3, fun H' ι' l h => ⟨rfl, ι', l1.trans l, h⟩⟩
  have hl : us.length = ps.length := by rw [← r1.length]; exact G.len _ _ _ _ sp
  have hb1 := hb s1 us I1.kIn (by rw [List.append_nil]; exact hl)
  rw [List.append_nil] at hb1
  refine wpAny_call (codeAny_mono (G.run X.A X.stack s1 H1v ⟨us, []⟩ us vs _ _ hr I1.env0 hb1 r1 sp) fun r s' hq => ?_)
  cases r with
  | ok fl =>
    cases fl with
    | ret u => obtain ⟨v, H', _, _, _, _, _, z⟩ := hq; exact z.elim
    | next => exact False.elim hq
    | brk => exact False.elim hq
    | cont => exact False.elim hq
  | error e =>
    obtain ⟨ex, Cv, H2v, rfl, ⟨rfl, ι2, l2, h2⟩, os, bare, un, hok, fl⟩ := hq
    exact q H2v ι2 (.ref ex) s' l2 h2 ⟨pins, σ, ex, rfl, .inr ⟨s1, H1v, I1, os, bare, un, hok, fl⟩⟩
end
section
variable {P : Program} {w : World} {K : PySem.W.Frag} {mg : Str → Option Value} {base : Heap}
theorem xe_raisd {N : List Str} {qual : Str} {scope : Scope} {f : Addr} {cd : Value} {A : Around} {outer : List Env} {s s' : Shared} {H H1 : Hp} {E : XK} {C : Addr} {e : Value} (z : Raisd (cxOf (CXe P w) P w K mg base N qual scope f cd A outer s H E) C H1 e s') (q : E (.ref C) none H1) :
    (cxOf (CXe P w) P w K mg base N qual scope f cd A outer s H E).xe e s' := by
  obtain ⟨pins, σ1, a, rfl, z⟩ := z
  rcases z with ⟨s1, h', vs, I, hm, rfl⟩ | ⟨s1, H0, I, os, bare, un, hok, fl⟩
  · exact xe_leaves I hm q
  · exact xe_passes I os bare un hok fl q
theorem fx_f {x qual : Str} {st : Stmt} {f C : Addr} {fd : FuncData} {N ps : List Str} {k : Nat} {b : XFs} (F : Fun K x qual st f fd) (S : FnScope N ps (defScope st))
    (hb : ∀ (cdv : Value) (A : Around) (outer : List Env) (s : Shared) (H : Hp) (E : XK), Room k (A.deeper (envOfC qual (defScope st) s.heap.objs.size f cdv)) →
      PXf (cxOf (CXe P w) P w K mg base N qual (defScope st) f cdv A outer s H E) C (defBody st) b) : FnOk P w K mg base (CXe P w) (k + 1) f fd ps (spX K C ps.length (runX ps.length N.length b)) := by
  obtain ⟨oc, od, kV, doc, pm, an, cdv, ct, osl, rfl, lk, hcd⟩ := F.ex
  refine fn_of lk hcd S (fun vs H Q E ⟨ι, ds, Hd, Hd', hl, _, r, _⟩ => by rw [← Prd.len r]; exact hl) fun A outer s H vs Q E hr zz => ?_
  obtain ⟨ι, ds, Hd, Hd', hl, hh, r, e, q⟩ := zz
  refine ⟨_, hb cdv A outer s H E ?_, ?_⟩
  · exact hr
  unfold runX at e
  rw [if_pos hl] at e
  refine ⟨ι, _, Hd, Hd', ?_, hh, e, fun H1 ι' ex s' l h z => xe_raisd z (q H1 ι' l h)⟩
  refine ⟨by simp [L2.start, Prd.len r], fun i d0 h0 => ?_⟩
  unfold L2.start
  by_cases hi : i < ds.length
  · rw [List.getElem?_append_left (by simpa using hi), List.getElem?_map] at h0
    cases ed : ds[i]? with
    | none => rw [ed] at h0; cases h0
    | some d1 =>
      rw [ed] at h0
      cases h0
      obtain ⟨v, hv, rv⟩ := Prd.get r ed
      refine ⟨v, ?_, rv⟩
      rw [List.getElem?_append_left (by rw [List.length_map, ← Prd.len r]; exact hi), List.getElem?_map, hv]
      rfl
  · rw [List.getElem?_append_right (by simpa using hi), List.getElem?_replicate] at h0
    split at h0 <;> cases h0
end
end DL
namespace L2
open PySem PySem.Spec PyProof.Rows
theorem wp_goes {X : Cx} {pins : List (Addr × Obj)} {σ : St} {H : Hp} {s : Shared} {M : Model} {A : Around} {E : Value → Shared → Prop} {i : Nat} {x : Str} {pos : Pos} {Q : Unit → Shared → Prop} (I : Inv X pins σ H s) (hN : X.N.Nodup) (hi : X.N[i]? = some x) (hl : X.env.kindOf x = some .local)
    (h : ∀ s', Inv X pins (σ.set i none) H s' → Q () s') : wpAny M A (do bindName X.env x .none; unbindBehindTheSuite X.env x pos) Q E s := by
  obtain ⟨m, hn, hv⟩ := id I.loc
  refine wpAny_nameGoes_keeps hl hn (by rw [I.ok.kind]; rfl) fun h' v hn' hs => h _ ?_
  have old : ∀ b o, X.s₀.heap.get? b = some o → b ≠ X.env.locals := fun b o e => Nat.ne_of_lt (Nat.lt_of_lt_of_le (Heap.lt_size e) I.ok.above)
  have tr : ∀ b ho, H b = some ho → b ≠ X.env.locals := fun b ho e z => by rw [z, I.free] at e; cases e
  refine ⟨I.ok, I.os, I.bare, ⟨fun b o e n hb hx => (hs.2 b (old b o e)).trans (I.base.keep b o e n hb hx), fun b o e n hb hx => ?_, I.base.free, fun b o e hx => ?_, I.base.tups, I.base.frzs, I.base.tbls⟩, ⟨_, hn', fun j y w e1 e2 e3 => ?_⟩, fun y c e => ?_, I.free, I.freeC, fun p hp => ?_, fun b ho e => ?_, by simpa using I.len⟩
  · obtain ⟨sl, g⟩ := I.base.slot b o e n hb hx
    exact ⟨sl, (hs.2 b (old b o e)).trans g⟩
  · obtain ⟨o', g⟩ := I.base.there b o e hx
    exact ⟨o', (hs.2 b (old b o e)).trans g⟩
  · by_cases hj : j = i
    · subst hj
      rw [List.getElem?_set] at e2
      split at e2
      · split at e2 <;> cases e2
      · rename_i z; exact absurd rfl z
    · rw [List.getElem?_set_ne (Ne.symm hj)] at e2
      obtain ⟨u, r, q⟩ := hv j y w e1 e2 e3
      refine ⟨u, r, ?_⟩
      rcases q with ⟨k, z⟩ | ⟨k, c, z, g⟩
      · have ne : y ≠ x := fun z => hj (nodup_ix hN e1 (z ▸ hi))
        exact .inl ⟨k, (if_neg ne).trans z⟩
      · exact .inr ⟨k, c, z, g.sameBut hs (I.cne y c z)⟩
  · obtain ⟨w, g⟩ := I.cell y c e
    exact ⟨w, g.sameBut hs (I.cne y c e)⟩
  · obtain ⟨e, n, ne, nf, d⟩ := I.pin p hp
    exact ⟨(hs.2 p.1 ne).trans e, n, ne, nf, d⟩
  · refine (I.hok b ho e).stay (fun c u hc g => (hs.2 c ?_).trans g) (fun _ z => z) (fun _ _ z => z)
    rcases hc with rfl | hc
    · exact tr _ _ e
    · exact tr _ _ hc
end L2
namespace DL
open PySem PySem.Spec PyProof.Rows L2 PySem.W
noncomputable abbrev Xh (X : Cx) (ex : Addr) (oe : Obj) : Cx := { X with A := X.A.mark (some (.ref ex)), calm := false, pn := (ex, oe) :: X.pn, xe := fun _ _ => False }
theorem Inv.marked {X : Cx} {pins : List (Addr × Obj)} {σ : L2.St} {H : Hp} {s : Shared} {ex : Addr} {oe : Obj} (I : Inv X pins σ H s) (g : s.heap.get? ex = some oe) (n : H ex = none) (ne : ex ≠ X.env.locals) (nf : ex ∉ X.fs) (nc : ∀ v, oe.data ≠ .cell v) : Inv (Xh X ex oe) pins σ H s := by
  obtain ⟨o1, o2, o3, o4, o5, o6, o7, o8, o9, o10, o11, o12, o13, o14, o15, o16, o17, o18⟩ := I.ok
  refine ⟨⟨o1, o2, o3, o4, o5, o6, o7, o8, (fun z => by cases z), o10, o11, o12, o13, o14, o15, o16, o17, o18⟩, I.os, I.bare, I.base, I.loc, I.cell, I.free, I.freeC, fun p hp => ?_, I.hok, I.len⟩
  rcases List.mem_cons.mp (show p ∈ (ex, oe) :: (X.pn ++ pins) from hp) with rfl | hp
  · exact ⟨g, n, ne, nf, nc⟩
  · exact I.pin p hp
theorem Inv.unmark {X : Cx} {pins : List (Addr × Obj)} {σ : L2.St} {H : Hp} {s : Shared} {ex : Addr} {oe : Obj} (ok : X.Ok) (I : Inv (Xh X ex oe) pins σ H s) : Inv X pins σ H s :=
  ⟨ok, I.os, I.bare, I.base, I.loc, I.cell, I.free, I.freeC, fun p hp => I.pin p (List.mem_cons_of_mem _ hp), I.hok, I.len⟩
noncomputable def tTry (K : PySem.W.Frag) (n i : Nat) (fa : AF) (XF : XFF) (tS : Addr → TS) : TS := fun D σ H => ∃ ι σd Hd ds H1 H2, SRep K H ι σ σd ∧ HRep K H ι Hd ∧ fa σd Hd = some (ds, H1) ∧ ds.length = n ∧ XF ds H1 = some H2 ∧
  ∀ ex H' ι', Le K H ι H' ι' → HRep K H' ι' H2 → tS ex { nx := fun σ2 H3 => D.nx (σ2.set i none) H3, rt := fun _ _ => False } (σ.set i (some (.ref ex))) H'
theorem ps_try {X : Cx} {C f : Addr} {k n i : Nat} {fd : FuncData} {ps : List Str} {XF : XFF} {fa : AF} {x xc nm : Str} {cV : Value} {b₀ : Stmt} {suite : List Stmt} {a : Expr} {as : List Expr} {tS : Addr → TS} {p cp ep np hp pos : Pos}
    (hstk : X.stack = X.env :: X.outer) (hfr : X.env.frame = some X.env.locals)
    (G : FnOk X.prog X.w X.K X.mg X.base (CXe X.prog X.w) k f fd ps (spX X.K C n XF)) (hr : Room k X.A) (hg : Gl X x) (hm : X.mg x = some (.ref f)) (hk : PySem.W.keepIn X.K (.ref f) = true) (hb : Binds X.K fd ps [])
    (ha : PAf X.nox (a :: as) fa) (hgc : Gl X xc) (hmc : X.mg xc = some cV) (hex : exmOne X.K (.ref C) cV = some true)
    (hN : X.N.Nodup) (hi : X.N[i]? = some nm) (hloc : X.env.scope.names.lookup nm = some .local) (hkl : X.env.kindOf nm = some .local)
    (hS : ∀ (ex : Addr) (oe : Obj), oe.cls = .ref C → (∃ vs, oe.data = .fields vs) → PSs (Xh X ex oe) (b₀ :: suite) (tS ex))
    (hdb : (x == ("__debug__" : Str)) = false := by decide) (hdc : (xc == ("__debug__" : Str)) = false := by decide) (he : starEach (a :: as) X.env = (false, eval a X.env) :: starEach as X.env := by exact star_cons rfl) (hpl : (backTo cp (starEach as X.env)).any (·.1) = false := by exact star_any rfl)
    (hs : swapsWith (.Call (.Name x p) (a :: as) [] cp) none ep.line X.env = pure false := by rfl) :
    PS X (.Try [.Expr (.Call (.Name x p) (a :: as) [] cp) ep] [.ExceptHandler (some (.Name xc np)) (some nm) (b₀ :: suite) hp] [] [] pos) (tTry X.K n i fa XF tS) := by
  rintro pins s σ H D I ⟨ι, σd, Hd, ds, H1, H2, ss, hh, e1, e2, e3, q⟩
  refine wpAny_Try_except (wpAny_execs_cons (wpAny_Expr_any (wpAny_Call_Name_kw (ld_glob I hg hm ?_ hdb)) I.quiet hs))
  refine PySem.W.callWith_K (h₀ := X.base) I.ok.mod.kin hk (wpAny_mono (ha cp pins s σ H (fun vs H' => ∃ ι', Le X.K H ι H' ι' ∧ HRep X.K H' ι' H1 ∧ Paired (Rep X.K H' ι') ds vs) (I.wish _) ⟨ι, σd, Hd, ds, H1, ss, hh, e1, fun vs H' ι' l h P => ⟨ι', l, h, P⟩⟩) (fun us s1 z => ?_) fun _ _ z => z.elim) he hpl
  obtain ⟨vs, H1v, I1, r1, ι1, l1, h1, P1⟩ := z
  have I1 : Inv X pins σ H1v s1 := I1.unwish
  refine ⟨I1.kIn, ?_⟩
  have sp : spX X.K C n XF vs H1v (fun _ _ => False) fun Cv _ H' => Cv = .ref C ∧ ∃ ι', Le X.K H ι H' ι' ∧ HRep X.K H' ι' H2 := ⟨ι1, ds, H1, H2, e2, h1, P1, e3, fun H' ι' l h => ⟨rfl, ι', l1.trans l, h⟩⟩
  have hl : us.length = ps.length := by rw [← r1.length]; exact G.len _ _ _ _ sp
  have hb1 := hb s1 us I1.kIn (by rw [List.append_nil]; exact hl)
  rw [List.append_nil] at hb1
  refine wpAny_call (codeAny_mono (G.run X.A X.stack s1 H1v ⟨us, []⟩ us vs _ _ hr I1.env0 hb1 r1 sp) fun r s' hq => ?_)
  cases r with
  | ok fl =>
    cases fl with
    | ret u => obtain ⟨v, H', _, _, _, _, _, z⟩ := hq; exact z.elim
    | next => exact False.elim hq
    | brk => exact False.elim hq
    | cont => exact False.elim hq
  | error e =>
    obtain ⟨ex, Cv, H2v, rfl, ⟨rfl, ι2, l2, h2⟩, os, bare, un, hok, fl⟩ := hq
    obtain ⟨B, a0, fly, bo, bt⟩ := fl.fly
    rw [hstk] at fly
    have new : s1.heap.get? ex = none := fl.new
    have frA : X.A.frames = some (X.env :: X.outer) := by rw [← hstk]; exact I1.ok.frames
    refine wpAny_looks_onW frA hfr fly fun h4 held4 up4 => ?_
    refine wpAny_landsW held4 fun h5 fly5 up5 => ?_
    have ff : s'.heap.FunFrames B X.stack := by rw [hstk]; exact fly.2.2.1
    obtain ⟨un5, ok5⟩ := fly_un un hok bo bt fly5.1 (up4.trans up5) ff
    have I5 : Inv X pins σ H2v { s' with heap := h5 } := I1.call' (s' := { s' with heap := h5 }) (ch := []) os un5 ok5 bare (fun b z => absurd z (by simp))
    have exH : H2v ex = none := by
      cases z : H2v ex with
      | none => rfl
      | some ho =>
        obtain ⟨o, _, g⟩ := bt ex ho z
        rw [fly.2.1] at g; cases g
    have ne : ex ≠ X.env.locals := fun z => by
      obtain ⟨m, ⟨o, _, _, g, _⟩, _⟩ := I1.loc
      rw [← z, new] at g; cases g
    have nf : ex ∉ X.fs := fun z => by
      obtain ⟨_, o, g, _⟩ := I1.funs.mem z
      rw [new] at g; cases g
    obtain ⟨ob, wb, gob, cob, dob, _⟩ := fly5.first
    have I5m : Inv (Xh X ex ob) pins σ H2v { s' with heap := h5 } := Inv.marked I5 gob exH ne nf fun v z => by rw [dob] at z; cases z
    refine wpAny_handleBy_cons (codeAny_handlers_test (ld_glob (X := Xh X ex ob) I5m hgc hmc ?_ hdc)) (by intro z; cases z)
    have LT : Looks (model X.prog X.w) h5 (typeOf (.ref ex)) (.ref C) := by rw [← cob]; exact (Looks.ld gob).andThen .now
    refine (exm_one (M := model X.prog X.w) I5.kIn LT hex).here ?_
    refine codeAny_handlers_suite_as ?_
    refine lands_againW fly5 fun h6 fly6 up6 => ?_
    obtain ⟨un6, ok6⟩ := fly_un un hok bo bt fly6.1 ((up4.trans up5).trans up6) ff
    have I6 : Inv X pins σ H2v { s' with heap := h6 } := I1.call' (s' := { s' with heap := h6 }) (ch := []) os un6 ok6 bare (fun b z => absurd z (by simp))
    obtain ⟨oe, ws, goe, coe, doe, _⟩ := fly6.first
    have I6m : Inv (Xh X ex oe) pins σ H2v { s' with heap := h6 } := Inv.marked I6 goe exH ne nf fun v z => by rw [doe] at z; cases z
    refine store_ok (X := Xh X ex oe) I6m hN hi (.inl hloc) (v := .ref ex) rfl (fun s7 I7 => ?_) (.inr hloc)
    have st := hS ex oe coe ⟨ws, doe⟩ pins s7 (σ.set i (some (.ref ex))) H2v _ I7 (q ex H2v ι2 l2 h2)
    refine wpAny_mono st (fun f s8 z => ?_) fun _ _ z => z.elim
    cases f with
    | next =>
      obtain ⟨σ8, H8, I8, z⟩ := z
      exact wp_goes (Inv.unmark I1.ok I8) hN hi hkl fun s9 I9 => ⟨_, _, I9, z⟩
    | ret u => obtain ⟨v, σ8, H8, I8, r, z⟩ := z; exact z.elim
    | brk => obtain ⟨σ8, H8, I8, z⟩ := z; exact z.elim
    | cont => obtain ⟨σ8, H8, I8, z⟩ := z; exact z.elim
end DL
namespace DL
open PySem PySem.Spec PyProof.Rows L2 PySem.W
structure ExcL (K : PySem.W.Frag) (C : Addr) : Prop where
  ga : findIn K (.ref C) "__getattribute__" = some (some (.builtin "BaseException.__getattribute__"))
  gr : findIn K (.ref C) "__getattr__" = some none
  cl : findIn K (.ref C) "__class__" = some (some (.builtin "object.__class__"))
  gt : specialIn K (.builtin "object.__class__") "__get__" = some (some (.builtin "getset_descriptor.__get__"))
  tk : takesIn K (.builtin "object.__class__") = some true
  mr : mroIn K C (.type "object") = some true
  sb : subIn K (.ref C) (.type "BaseException") = some true
  cs : (clsIn K C).isSome = true
section
variable {prog : Program} {w : World} {A : Around} {E : Value → Shared → Prop} {s : Shared} {K : PySem.W.Frag} {x C : Addr} {ox : Obj}
structure ExcO (h : Heap) (x : Addr) (ox : Obj) (C : Addr) : Prop where
  at_ : h.get? x = some ox
  cls : ox.cls = .ref C
theorem ExcO.type {M : Model} {h : Heap} (I : ExcO h x ox C) : Looks M h (typeOf (.ref x)) (.ref C) := by rw [← I.cls]; exact (Looks.ld I.at_).andThen .now
theorem exc_find {M : Model} {h : Heap} (L : ExcL K C) (X : K.In h) : Looks M h (Builtin.ObjectAttr.find (.ref x) (.ref C) "__class__") (.bind (.builtin "getset_descriptor.__get__") (.builtin "object.__class__")) := by
  have a1 := looks_findIn (M := M) X L.cl
  have a2 := looks_specialIn (M := M) X L.gt
  have a3 := looks_takesIn (M := M) X L.tk
  unfold Builtin.ObjectAttr.find
  refine a1.andThen ?_
  refine Looks.andThen (t := Builtin.ObjectAttr.getOf (some (.builtin "object.__class__"))) a2 ?_
  refine Looks.andThen (t := Builtin.ObjectAttr.dataDescriptor? (some (.builtin "object.__class__")) (some (.builtin "getset_descriptor.__get__"))) (a := some (.builtin "getset_descriptor.__get__", .builtin "object.__class__")) ?_ (Looks.tag .now)
  unfold Builtin.ObjectAttr.dataDescriptor?
  exact a3.andThen .now
theorem exc_get {R : Result → Shared → Prop} {tp : Value} (X : K.In s.heap) (I : ExcO s.heap x ox C) (hm : mroIn K C (.type "object") = some true) (z : R (.ok (.ret (.ref C))) s) : codeAny (model prog w) A (.call (.builtin "getset_descriptor.__get__") ⟨[.builtin "object.__class__", .ref x, tp], []⟩) R s := by
  obtain ⟨h1, g1, d1, t1, o1⟩ := s
  have a0 := I.type (M := model prog w)
  have a1 := looks_mroIn (M := model prog w) X hm
  refine codeAny_call_builtin KF.slot_gs.plain KF.entry_gs ?_
  refine KF.slot_gs.check _ _ _ _ _ _ _ _ KF.type_class (KF.args_gs _ _ _) ?_
  (unfold Builtin.«getset_descriptor.__get__» Builtin.Getset_descriptor.descrGet; rw [dga_obj]; refine wpAny_bind (wpAny_pure ?_); unfold Builtin.Getset_descriptor.descrGetter Builtin.Getset_descriptor.descrCheckInstance Builtin.Getset_descriptor.descrNameAndClass isInstance; simp only [KF.owner_class]; repeat lk)
  have e1 := KF.entry_class
  refine ⟨Code.quiet_builtin _ (by decide +kernel), codeAny_builtin e1 ?_⟩
  (unfold Builtin.«object.__class__» shownTypeOf; repeat lk); exact z
theorem exc_class {Q : Option Value → Shared → Prop} (L : ExcL K C) (X : K.In s.heap) (I : ExcO s.heap x ox C) (q : Q (some (.ref C)) { s with toks := s.toks + 1 }) : wpAny (model prog w) A (getAttr? (.ref x) "__class__") Q E s := by
  obtain ⟨hh, g, d, t, os⟩ := s
  have L0 := I.type (M := model prog w)
  have L1 := looks_findIn (M := model prog w) X L.ga
  have L2 := looks_findIn (M := model prog w) X L.gr
  have LF := exc_find (x := x) (M := model prog w) L X
  have LS := looks_subIn (M := model prog w) X L.sb
  unfold getAttr? getAttrBy? getAttrBy
  refine wpAny_bind (wpAny_mkText (wpAny_bind (wpAny_attempt (wpAny_holding (wpAny_bind (L0.at (wpAny_bind (L1.at ?_))))))))
  show wpAny _ _ (if (onTheHeap (Value.ref C) && (Value.builtin "BaseException.__getattribute__" == Value.builtin "object.__getattribute__")) = true then _ else _) _ _ _
  have n2 : (Value.builtin "BaseException.__getattribute__" == Value.builtin "object.__getattribute__") = false := by decide +kernel
  rw [if_neg (by rw [n2, Bool.and_false]; exact Bool.false_ne_true)]
  unfold getAttrByItsOwn hookBefore
  rw [if_pos (by rfl)]
  refine wpAny_bind (L2.at (wpAny_bind (wpAny_attempt (wpAny_holding ?_))))
  unfold callGetattribute
  rw [if_neg (by exact Bool.false_ne_true)]
  unfold boundAndCalled
  have LI : Looks (model prog w) hh (isInstance (.ref x) (.type "BaseException")) true := L0.andThen LS
  rw [PySem.F.attr_ValueError.ga.bind (.ref x)]
  refine wpAny_bind (wpAny_pure ?_)
  show wpAny _ _ (call (.builtin "BaseException.__getattribute__") [.ref x, .str (Str.ofString "__class__") t]) _ _ _
  refine wpAny_call (codeAny_call_builtin PySem.F.attr_ValueError.ga.plain PySem.F.entry_bexc_ga ?_)
  have b1 : builtinKind "BaseException.__getattribute__" = some .slot := by decide +kernel
  have b2 : splitId "BaseException.__getattribute__" = some ("BaseException", "__getattribute__") := by decide +kernel
  have b3 := PySem.F.args_bexc_ga (.ref x) (.str (Str.ofString "__class__") t)
  simp only [checkBuiltinCall, b1, b2]
  refine wpAny_bind (LI.at ?_)
  repeat (first | (with_reducible refine L0.at ?_) | (with_reducible refine LF.at ?_) | wp_step)
  exact exc_get (ox := ox) X I L.mr (wpAny_pure (handed_on rfl (wpAny_pure q)))
theorem cls_obj (L : ExcL K C) : ∃ c dd cd sl, K.lookup C = some ⟨c, dd, .cls cd, sl⟩ := by
  have z := L.cs
  unfold clsIn at z
  split at z
  · rename_i e; exact ⟨_, _, _, _, e⟩
  · cases z
theorem kitx_exc (L : ExcL K C) : KitX K (.ref x) (.ref C) (fun h => ExcO h x ox C) where
  ty := fun _ _ _ I => I.type
  it := fun M h X _ => by
    obtain ⟨c, dd, cd, sl, e⟩ := cls_obj L
    intro A1 Q1 E1 s1 kp z
    show wpAny M A1 (isType (.ref C)) Q1 E1 s1
    unfold isType loadHead
    refine wpAny_bind (wpAny_loadPart (kp C _ (X C _ e)) ?_)
    exact wpAny_pure z
  ne := fun h tp dd its n sl X g => by
    obtain ⟨c, d1, cd, s1, e⟩ := cls_obj L
    cases z : (Value.ref C == Value.ref tp) with
    | false => rfl
    | true =>
      have y : C = tp := Value.ref.inj (beq_iff_eq.mp z)
      subst y
      have y := X C _ e
      rw [g] at y
      cases y
  ca := fun X I z => exc_class L X I z
end
end DL
namespace DL
open PySem PySem.Spec PyProof.Rows L2 PySem.W
theorem vals_c {x : V} {r : List V} {l : List Value} (h : Vals (x :: r) l) : ∃ b t, l = b :: t ∧ RelV x b ∧ Vals r t := by
  cases h with
  | cons p P => exact ⟨_, _, rfl, p, P⟩
section
variable {X : Cx}
theorem vals_refs : ∀ {cs : List Addr} {its : List Value}, Vals (cs.map .ref) its → its = cs.map .ref := by
  intro cs
  induction cs with
  | nil => intro its rv; cases rv; rfl
  | cons a r ih =>
    intro its rv
    obtain ⟨b, t, rfl, p1, p2⟩ := vals_c rv
    have p1 : b = Value.ref a := p1
    rw [p1, ih p2]; rfl
theorem isi_one {ex C : Addr} {oe : Obj} {c : V} {cV : Value} {b : Bool} (L : ExcL X.K C) (hc : oe.cls = .ref C) (hu : ∀ u, RelV c u → u = cV) (e : kitOne X.K (.ref C) cV = some b) :
    CallR (Xh X ex oe) (.builtin "isinstance") (fun xs H Q => xs = [.ref ex, c] ∧ Q (.bl b) H) := by
  rintro pins s σ H xs us Q I r ⟨rfl, q⟩
  obtain ⟨u1, u2, rfl, r1, r2⟩ := vals2 r
  have e1 : u1 = .ref ex := r1
  subst e1
  obtain rfl := hu u2 r2
  have pn := I.pin (ex, oe) (List.mem_append_left _ (List.mem_cons_self ..))
  exact kia_one (kitx_exc (ox := oe) (x := ex) L) I.kIn ⟨pn.1, hc⟩ e (by rintro z; cases z) fun tk => ⟨.bl b, H, I.tok tk, rfl, q⟩
theorem isi_tup {ex C : Addr} {oe : Obj} {cs : List Addr} {b : Bool} (L : ExcL X.K C) (hc : oe.cls = .ref C) (e : kitAny X.K (.ref C) (cs.map .ref) = some b) :
    CallR (Xh X ex oe) (.builtin "isinstance") (fun xs H Q => ∃ p, xs = [.ref ex, .ref p] ∧ H p = some (.tup (cs.map .ref)) ∧ Q (.bl b) H) := by
  rintro pins s σ H xs us Q I r ⟨p, rfl, hp, q⟩
  obtain ⟨u1, u2, rfl, r1, r2⟩ := vals2 r
  have e1 : u1 = .ref ex := r1
  have e2 : u2 = .ref p := r2
  subst e1 e2
  have pn := I.pin (ex, oe) (List.mem_append_left _ (List.mem_cons_self ..))
  obtain ⟨_, its, rv, o, g, c1, ⟨n, d1⟩, _⟩ := I.hok p _ hp
  have ei := vals_refs rv
  subst ei
  obtain ⟨oc, od, odd, os⟩ := o
  have c1 : oc = .type "tuple" := c1
  have d1 : odd = .seq (cs.map Value.ref).toArray n := d1
  subst c1 d1
  exact kia_tup (kitx_exc (ox := oe) (x := ex) L) I.kIn ⟨pn.1, hc⟩ g e (by rintro z; cases z) fun tk => ⟨.bl b, H, I.tok tk, rfl, q⟩
noncomputable def tRefs (cs : List Addr) : TA := fun _ H Q => Q (cs.map .ref) H
theorem pa_ref0 : PA X [] (tRefs []) := pa_nil
theorem pa_ref {x : Str} {c : Addr} {cs : List Addr} {es : List Expr} {p : Pos} (hg : Gl X x) (hm : X.mg x = some (.ref c)) (h : PA X es (tRefs cs)) (hd : (x == ("__debug__" : Str)) = false := by decide) (hs : starEach (.Name x p :: es) X.env = (false, eval (.Name x p) X.env) :: starEach es X.env := by rfl) : PA X (.Name x p :: es) (tRefs (c :: cs)) :=
  pa_cons (pe_glob (v := .ref c) hg hm rfl hd) h hs
noncomputable def tSuite (iE iO iW : Nat) (w1 : Str) (ex : Addr) : TS := fun D σ H => σ[iE]? = some (some (.ref ex)) ∧ iO < σ.length ∧ iE ≠ iO ∧
  ∀ p1 u1 p2 u2, H p1 = none → L2.upd H p1 u1 p2 = none → D.nx ((σ.set iO (some (.bl false))).set iW (some (.str w1))) (L2.upd (L2.upd H p1 u1) p2 u2)
theorem ps_suite {ex C : Addr} {oe : Obj} {en on wn xn : Str} {iE iO iW : Nat} {w0 w1 : Str} {es : List Expr} {cs : List Addr} {j0 j1 x1 : Nat} {p1 p2 p3 p4 p5 p6 p7 p8 p9 p10 p11 q1 q2 q3 q4 q5 q6 q7 q8 q9 q10 q11 q12 q13 q14 : Pos}
    (L : ExcL X.K C) (hc : oe.cls = .ref C) (hN : X.N.Nodup) (hiE : X.N[iE]? = some en) (hiO : X.N[iO]? = some on) (hiW : X.N[iW]? = some wn) (vE : Vis X.env.scope en) (vO : Vis X.env.scope on) (lO : Loc X.env.scope on) (lW : Loc X.env.scope wn)
    (sO : X.env.scope.names.lookup on = some .local) (sW : X.env.scope.names.lookup wn = some .local)
    (gI : Gl X "isinstance") (mI : X.mg "isinstance" = none) (gN : Gl X "int") (mN : X.mg "int" = none) (gV : Gl X "ValueError") (mV : X.mg "ValueError" = none) (gX : Gl X xn) (mX : X.mg xn = some (.ref C))
    (hcl : PA (Xh X ex oe) es (tRefs cs)) (kA : kitAny X.K (.ref C) (cs.map .ref) = some false) (kV : kitOne X.K (.ref C) (.type "ValueError") = some true) (hz : cs.length ≤ 1000)
    (dE : (en == ("__debug__" : Str)) = false) (dE2 : (en == ("__classdict__" : Str)) = false) (dO : (on == ("__debug__" : Str)) = false) (dO2 : (on == ("__classdict__" : Str)) = false) (dX : (xn == ("__debug__" : Str)) = false) :
    PSs (Xh X ex oe) [.Assign [.Name on p1] (.Call (.Name "isinstance" p2) [.Name en p3, .Tuple es x1 p4] [] p5) p6,
      .Assign [.Name wn p7] (.Subscript (.List [.Constant (.str w0) j0 p8, .Constant (.str w1) j1 p9] p10) (.Call (.Name "int" p11) [.BoolOp .And [.Call (.Name "isinstance" q1) [.Name en q2, .Name xn q3] [] q4, .Call (.Name "isinstance" q5) [.Name en q6, .Name "ValueError" q7] [] q8, .UnaryOp .Not (.Name on q9) q10] q11] [] q12) q13) q14] (tSuite iE iO iW w1 ex) := by
  have kX : kitOne X.K (.ref C) (.ref C) = some true := by unfold kitOne; rw [if_pos (by simp)]
  have bV : bootBuiltins "ValueError" = some (.type "ValueError") := by decide +kernel
  have e1 : PE (Xh X ex oe) (.Call (.Name "isinstance" p2) [.Name en p3, .Tuple es x1 p4] [] p5) _ := pe_callB (isi_tup (cs := cs) L hc kA) gI mI boot_isinstance (pa_cons (pe_var hiE vE dE dE2) (pa_cons (pe_tup hcl) pa_nil rfl) rfl)
  have e2 : PE (Xh X ex oe) (.Call (.Name "isinstance" q1) [.Name en q2, .Name xn q3] [] q4) _ := pe_callB (isi_one (c := .ref C) (cV := .ref C) L hc (fun u r => r) kX) gI mI boot_isinstance (pa_cons (pe_var hiE vE dE dE2) (pa_cons (pe_glob (v := .ref C) gX mX rfl dX) pa_nil rfl) rfl)
  have e3 : PE (Xh X ex oe) (.Call (.Name "isinstance" q5) [.Name en q6, .Name "ValueError" q7] [] q8) _ := pe_callB (isi_one (c := .ty "ValueError") (cV := .type "ValueError") L hc (fun u r => r) kV) gI mI boot_isinstance (pa_cons (pe_var hiE vE dE dE2) (pa_cons (pe_bltn (v := .ty "ValueError") gV mV bV rfl) pa_nil rfl) rfl)
  have e4 : PE (Xh X ex oe) (.UnaryOp .Not (.Name on q9) q10) _ := pe_not (pe_var hiO vO dO dO2)
  have e5 : PE (Xh X ex oe) (.Call (.Name "int" p11) [.BoolOp .And [.Call (.Name "isinstance" q1) [.Name en q2, .Name xn q3] [] q4, .Call (.Name "isinstance" q5) [.Name en q6, .Name "ValueError" q7] [] q8, .UnaryOp .Not (.Name on q9) q10] q11] [] q12) _ := pe_callTy call_int1 gN mN boot_int (pa_cons (pe_and e2 (pe_and e3 (pe_one e4))) pa_nil rfl)
  have e6 : PE (Xh X ex oe) (.List [.Constant (.str w0) j0 p8, .Constant (.str w1) j1 p9] p10) _ := pe_lst (pa_cons pe_str (pa_cons pe_str pa_nil rfl) rfl)
  have e7 := pe_ix (pos := q13) (ix_list (X := Xh X ex oe)) e6 e5 (by intro o i; rfl)
  have S1 := ps_set (X := Xh X ex oe) (pos := p6) (pos' := p1) hN hiO lO e1 rfl (.inr sO)
  have S2 := ps_set (X := Xh X ex oe) (pos := q14) (pos' := p7) hN hiW lW e7 rfl (.inr sW)
  refine PSsi (pss_cons S1 (pss_one S2)) fun D σ H z => ?_
  obtain ⟨hE, hlen, hne, q⟩ := z
  have hE2 : (σ.set iO (some (.bl false)))[iE]? = some (some (.ref ex)) := by rw [List.getElem?_set_ne (Ne.symm hne)]; exact hE
  have hO2 : (σ.set iO (some (.bl false)))[iO]? = some (some (.bl false)) := List.getElem?_set_self hlen
  refine ⟨.ref ex, hE, ?_, fun p hp => ⟨p, rfl, L2.upd_same, ?_⟩⟩
  · rw [List.length_map, PySem.sizeLine_eq]; omega
  refine ⟨by show 2 ≤ sizeLine; rw [PySem.sizeLine_eq]; omega, fun p2 hp2 => ⟨.ref ex, hE2, rfl, true, rfl, ?_⟩⟩
  rw [if_pos rfl]
  refine ⟨.ref ex, hE2, rfl, true, rfl, ?_⟩
  rw [if_pos rfl]
  refine ⟨.bl false, hO2, false, rfl, ?_⟩
  refine .inr ⟨true, rfl, ?_⟩
  exact ⟨p2, [.str w0, .str w1], 1, .str w1, rfl, rfl, SqL.of L2.upd_same, rfl, q p _ p2 _ hp hp2⟩
noncomputable def sRef (n iE iO iW : Nat) (w1 : Str) (XF : XFF) (fa : AF) : SF := fun σ H => (fa σ H).bind fun p => if p.1.length = n ∧ iO < σ.length ∧ iE ≠ iO ∧ iE < σ.length ∧ iE ≠ iW then
    (XF p.1 p.2).map fun H2 => (.nx, ((σ.set iO (some (.bl false))).set iW (some (.str w1))).set iE none, H2) else none
theorem rd_try {K : PySem.W.Frag} {n iE iO iW : Nat} {w1 : Str} {XF : XFF} {fa : AF} {E : Ends} {σ : L2.St} {H : Hp} (z : rdS K (sRef n iE iO iW w1 XF fa) E σ H) : tTry K n iE fa XF (tSuite iE iO iW w1) E σ H := by
  obtain ⟨ι, σd, Hd, fl, σd', Hd', ss, hr, e, q⟩ := z
  obtain ⟨⟨ds, H1⟩, e1, e⟩ := Option.bind_eq_some_iff.mp e
  dsimp only at e
  split at e
  · rename_i c
    obtain ⟨H2, e2, e3⟩ := Option.map_eq_some_iff.mp e
    cases e3
    have le := ss.len
    refine ⟨ι, σd, Hd, ds, H1, _, ss, hr, e1, c.1, e2, fun ex H' ι' l h => ?_⟩
    refine ⟨List.getElem?_set_self (by omega), by rw [List.length_set]; omega, c.2.2.1, fun p1 u1 p2 u2 g1 g2 => ?_⟩
    have l2 : Le K H ι (L2.upd (L2.upd H' p1 u1) p2 u2) ι' := (l.trans (Le.fresh g1 _)).trans (Le.fresh g2 _)
    refine q _ _ ι' l2 ((h.tup g1 _).tup g2 _) ?_
    refine ⟨by simp [le], fun i d hd => ?_⟩
    by_cases hi : i = iE
    · subst hi
      rw [List.getElem?_set] at hd
      split at hd
      · split at hd <;> cases hd
      · rename_i z; exact absurd rfl z
    · rw [List.getElem?_set_ne (Ne.symm hi)] at hd ⊢
      by_cases hw : i = iW
      · subst hw
        by_cases hl : i < σd.length
        · rw [List.getElem?_set_self (by simpa using hl)] at hd
          cases hd
          exact ⟨.str w1, List.getElem?_set_self (by simp; omega), by simp⟩
        · rw [List.getElem?_eq_none (by simp; omega)] at hd; cases hd
      · rw [List.getElem?_set_ne (Ne.symm hw)] at hd ⊢
        by_cases ho : i = iO
        · subst ho
          rw [List.getElem?_set_self (by omega)] at hd
          cases hd
          exact ⟨.bl false, List.getElem?_set_self (by simp; omega), by simp⟩
        · rw [List.getElem?_set_ne (Ne.symm ho)] at hd ⊢
          rw [List.getElem?_set_ne (Ne.symm hi)]
          obtain ⟨v, h1, h2⟩ := ss.var i d hd
          exact ⟨v, h1, h2.mono l2⟩
  · cases e
end
end DL
namespace DL
open PySem PySem.Spec PyProof.Rows L2 PySem.W
section
variable {X : Cx}
theorem PS_nox {st : Stmt} {t : TS} (h : PS X.nox st t) : PS X st t := by
  intro pins s σ H D I q
  refine wpAny_mono (h pins s σ H D (I.wish _) q) (fun f s1 z => ?_) fun _ _ z => z.elim
  cases f with
  | next => obtain ⟨σ1, H1, I1, z⟩ := z; exact ⟨σ1, H1, I1.unwish, z⟩
  | brk => obtain ⟨σ1, H1, I1, z⟩ := z; exact ⟨σ1, H1, I1.unwish, z⟩
  | cont => obtain ⟨σ1, H1, I1, z⟩ := z; exact ⟨σ1, H1, I1.unwish, z⟩
  | ret u => obtain ⟨v, σ1, H1, I1, r, z⟩ := z; exact ⟨v, σ1, H1, I1.unwish, r, z⟩
theorem PA_nox {es : List Expr} {t : TA} (h : PA X.nox es t) : PA X es t := by
  intro pos pins s σ H Q I q
  refine wpAny_mono (h pos pins s σ H Q (I.wish _) q) (fun us s1 z => ?_) fun _ _ z => z.elim
  obtain ⟨vs, H1, I1, r, z⟩ := z
  exact ⟨vs, H1, I1.unwish, r, z⟩
theorem pxn_cons {C : Addr} {st : Stmt} {sts : List Stmt} {f : SF} {b : XFs} (h1 : PSf X.nox st f) (h2 : PXf X C sts b) : PXf X C (st :: sts) (xSeq f b) := px_cons (PS_nox h1) h2
theorem pxn_if {C : Addr} {c : Expr} {as sts : List Stmt} {pos : Pos} {t : TF} {b : XFs} (hc : PTf X.nox c t) (ha : PXf X C as b) : PXf X C (.If c as [] pos :: sts) (xIf t b) := px_if (PT.nox hc) ha
theorem pxn_raise {C : Addr} {sts : List Stmt} {e : Expr} {pos np cpos : Pos} {x : Str} {fe : EF} (hc : X.calm = true) (T : ExcT X.K X.mg x C) (hg : Gl X x) (hf : PAf X.nox [e] (aCons fe aNil)) (hdb : (x == ("__debug__" : Str)) = false := by decide) (he : starEach [e] X.env = (false, eval e X.env) :: starEach [] X.env := by exact star_cons rfl) :
    PXf X C (.Raise (some (.Call (.Name x np) [e] [] cpos)) none pos :: sts) (xRaise fe) := px_raise hc T hg (PA_nox hf) hdb he
end
structure FnX (P : Program) (w : World) (K : PySem.W.Frag) (mg : Str → Option Value) (base : Heap) (k : Nat) (x : Str) (ps : List Str) (xn : Str) (F : XFF) : Prop where
  ex : ∃ f fd, (∀ C, ExcT K mg xn C → FnOk P w K mg base (CXe P w) k f fd ps (spX K C ps.length F)) ∧ Binds K fd ps [] ∧ PySem.W.keepIn K (.ref f) = true ∧ mg x = some (.ref f)
theorem pxn_call {X : Cx} {C : Addr} {k : Nat} {ps : List Str} {XF : XFF} {fa : AF} {x xn : Str} {a : Expr} {as : List Expr} {sts : List Stmt} {p cp ep : Pos} (F : FnX X.prog X.w X.K X.mg X.base k x ps xn XF) (hE : ExcT X.K X.mg xn C) (hr : Room k X.A) (ha : PAf X.nox (a :: as) fa)
    (hg : Gl X x := by rfl) (hdb : (x == ("__debug__" : Str)) = false := by decide) (he : starEach (a :: as) X.env = (false, eval a X.env) :: starEach as X.env := by exact star_cons rfl) (hpl : (backTo cp (starEach as X.env)).any (·.1) = false := by exact star_any rfl)
    (hs : swapsWith (.Call (.Name x p) (a :: as) [] cp) none ep.line X.env = pure false := by rfl) : PXf X C (.Expr (.Call (.Name x p) (a :: as) [] cp) ep :: sts) (xCall ps.length XF fa) := by
  obtain ⟨f, fd, G, hb, hk, hm⟩ := F.ex
  exact px_call (G C hE) hr hg hm hk hb ha hdb he hpl hs
theorem fx_mk {P : Program} {w : World} {K : PySem.W.Frag} {mg : Str → Option Value} {base : Heap} {x xn : Str} {st : Stmt} {N ps : List Str} {k : Nat} {b : XFs} (T : Tf K mg x st) (S : FnScope N ps (defScope st))
    (hbd : ∀ (kV doc pm : Value) (an : Option Addr) (cdv ct : Value) (us : List Value), us.length = ps.length → bindArgs (PySem.W.fnOf x x (defArgs st) (defBody st) (defScope st) .none kV doc pm an cdv ct) ⟨us, []⟩ = pure (ps.zip us))
    (hb : ∀ C, ExcT K mg xn C → ∀ (f : Addr) (cdv : Value) (A : Around) (outer : List Env) (s : Shared) (H : Hp) (E : XK), Room k (A.deeper (envOfC x (defScope st) s.heap.objs.size f cdv)) →
      PXf (cxOf (CXe P w) P w K mg base N x (defScope st) f cdv A outer s H E) C (defBody st) b) : FnX P w K mg base (k + 1) x ps xn (runX ps.length N.length b) := by
  obtain ⟨f, fd, F, hm⟩ := T
  exact ⟨f, fd, fun C E => fx_f F S fun cdv A outer s H E1 hr => hb C E f cdv A outer s H E1 hr, F.binds hbd, F.kp, hm⟩
structure Refu (K : PySem.W.Frag) (mg : Str → Option Value) (xn xc : Str) (C : Addr) (cV : Value) (cs : List Addr) : Prop where
  exc : ExcT K mg xn C
  look : ExcL K C
  cls : mg xc = some cV
  one : exmOne K (.ref C) cV = some true
  any : kitAny K (.ref C) (cs.map .ref) = some false
  val : kitOne K (.ref C) (.type "ValueError") = some true
theorem mg_ref {K : PySem.W.Frag} {hp : Heap} {mg : Str → Option Value} {n : Str} {c : Addr} (X : K.In hp) (G : hp.Ns mainGlobals mg) (e : nsIn K mainGlobals n = some (some (.ref c))) : mg n = some (.ref c) := PySem.W.mg_of X G e
theorem refu_mk {K : PySem.W.Frag} {hp : Heap} {mg : Str → Option Value} {xn xc : Str} {C : Addr} {cV : Value} {cs : List Addr} {cd : ClassData} (X : K.In hp) (G : hp.Ns mainGlobals mg) (a : nsIn K mainGlobals xn = some (some (.ref C))) (b : nsIn K mainGlobals xc = some (some cV)) (f : keepIn K (.ref C) = true)
    (g : findIn K (.ref C) "__getattribute__" = some (some (.builtin "BaseException.__getattribute__"))) (h : findIn K (.ref C) "__getattr__" = some none) (i : findIn K (.ref C) "__class__" = some (some (.builtin "object.__class__"))) (j : specialIn K (.builtin "object.__class__") "__get__" = some (some (.builtin "getset_descriptor.__get__")))
    (l : takesIn K (.builtin "object.__class__") = some true) (m : mroIn K C (.type "object") = some true) (n : subIn K (.ref C) (.type "BaseException") = some true) (o : clsIn K C = some cd) (p : excIn K C [.type "ValueError", .type "Exception", .type "BaseException", .type "object"] "ValueError.__new__" = true)
    (q : exmOne K (.ref C) cV = some true) (r : kitAny K (.ref C) (cs.map .ref) = some false) (s : kitOne K (.ref C) (.type "ValueError") = some true) : Refu K mg xn xc C cV cs :=
  ⟨⟨PySem.W.mg_of X G a, f, _, _, _, _, p, PySem.F.excBase_ValueError⟩, ⟨g, h, i, j, l, m, n, by rw [o]; rfl⟩, PySem.W.mg_of X G b, q, r, s⟩
section
variable {X : Cx}
theorem psf_ref {C : Addr} {cV : Value} {cs : List Addr} {k iE iO iW : Nat} {ps : List Str} {XF : XFF} {fa : AF} {x xn xc en on wn : Str} {a : Expr} {as es : List Expr} {w0 w1 : Str} {j0 j1 x1 : Nat} {p cp ep np hp pos p1 p2 p3 p4 p5 p6 p7 p8 p9 p10 p11 q1 q2 q3 q4 q5 q6 q7 q8 q9 q10 q11 q12 q13 q14 : Pos}
    (R : Refu X.K X.mg xn xc C cV cs) (F : FnX X.prog X.w X.K X.mg X.base k x ps xn XF) (hr : Room k X.A) (ha : PAf X.nox (a :: as) fa) (hcl : ∀ ex oe, PA (Xh X ex oe) es (tRefs cs)) (hz : cs.length ≤ 1000)
    (mI : X.mg "isinstance" = none) (mN : X.mg "int" = none) (mV : X.mg "ValueError" = none)
    (hN : X.N.Nodup) (hiE : X.N[iE]? = some en) (hiO : X.N[iO]? = some on) (hiW : X.N[iW]? = some wn) (sE : X.env.scope.names.lookup en = some .local) (sO : X.env.scope.names.lookup on = some .local) (sW : X.env.scope.names.lookup wn = some .local)
    (hstk : X.stack = X.env :: X.outer := by rfl) (hfr : X.env.frame = some X.env.locals := by rfl) (hg : Gl X x := by rfl) (hgc : Gl X xc := by rfl) (gX : Gl X xn := by rfl) (gI : Gl X "isinstance" := by rfl) (gN : Gl X "int" := by rfl) (gV : Gl X "ValueError" := by rfl)
    (hdb : (x == ("__debug__" : Str)) = false := by decide) (hdc : (xc == ("__debug__" : Str)) = false := by decide) (dE : (en == ("__debug__" : Str)) = false := by decide) (dE2 : (en == ("__classdict__" : Str)) = false := by decide) (dO : (on == ("__debug__" : Str)) = false := by decide) (dO2 : (on == ("__classdict__" : Str)) = false := by decide) (dX : (xn == ("__debug__" : Str)) = false := by decide)
    (he : starEach (a :: as) X.env = (false, eval a X.env) :: starEach as X.env := by exact star_cons rfl) (hpl : (backTo cp (starEach as X.env)).any (·.1) = false := by exact star_any rfl) :
    PSf X (.Try [.Expr (.Call (.Name x p) (a :: as) [] cp) ep] [.ExceptHandler (some (.Name xc np)) (some en)
      [.Assign [.Name on p1] (.Call (.Name "isinstance" p2) [.Name en p3, .Tuple es x1 p4] [] p5) p6,
      .Assign [.Name wn p7] (.Subscript (.List [.Constant (.str w0) j0 p8, .Constant (.str w1) j1 p9] p10) (.Call (.Name "int" p11) [.BoolOp .And [.Call (.Name "isinstance" q1) [.Name en q2, .Name xn q3] [] q4, .Call (.Name "isinstance" q5) [.Name en q6, .Name "ValueError" q7] [] q8, .UnaryOp .Not (.Name on q9) q10] q11] [] q12) q13) q14] hp] [] [] pos) (sRef ps.length iE iO iW w1 XF fa) := by
  obtain ⟨f, fd, G, hb, hk, hm⟩ := F.ex
  refine PSi (ps_try (tS := tSuite iE iO iW w1) hstk hfr (G C R.exc) hr hg hm hk hb ha hgc R.cls R.one hN hiE sE sE (fun ex oe c1 c2 => ?_) hdb hdc he hpl) fun E σ H z => rd_try z
  exact ps_suite R.look c1 hN hiE hiO hiW (.inl sE) (.inl sO) (.inl sO) (.inl sW) sO sW gI mI gN mN gV mV gX R.exc.bound (hcl ex oe) R.any R.val hz dE dE2 dO dO2 dX
end
end DL
namespace DL
open PySem PySem.Spec PyProof.Rows L2
section
variable {X : Cx}
noncomputable def CNn (_ j : Int) : Prop := 0 ≤ j
instance (i j : Int) : Decidable (CNn i j) := by unfold CNn; exact inferInstance
noncomputable def shlD : F2 := iiD CPow fun i j => .int (i * 2 ^ j.toNat)
noncomputable def shrD : F2 := iiD CNn fun i j => .int (i / 2 ^ j.toNat)
noncomputable def bandD : F2 := iiD CT fun i j => .int (Builtin.bitAnd i j)
noncomputable def borD : F2 := iiD CT fun i j => .int (Builtin.bitOr i j)
noncomputable def bxorD : F2 := iiD CT fun i j => .int (Builtin.bitXor i j)
theorem opf_shl : OpF X (binaryOp .LShift) shlD := opf_ii op_shl
theorem opf_shr : OpF X (binaryOp .RShift) shrD := opf_ii op_shr
theorem opf_band : OpF X (binaryOp .BitAnd) bandD := opf_ii (rI0_of op_and)
theorem opf_bor : OpF X (binaryOp .BitOr) borD := opf_ii (rI0_of op_or)
theorem opf_bxor : OpF X (binaryOp .BitXor) bxorD := opf_ii (rI0_of op_xor)
theorem ip_or : PIp X .BitOr (ipI fun i j => Builtin.bitOr i j) := by
  rintro pins s σ H x y v u Q I rx ry ⟨i, j, rfl, rfl, q⟩
  exact iop_or pins s σ H (.int i) (.int j) v u Q I rx ry ⟨i, j, rfl, rfl, q⟩
theorem ip_and : PIp X .BitAnd (ipI fun i j => Builtin.bitAnd i j) := by
  rintro pins s σ H x y v u Q I rx ry ⟨i, j, rfl, rfl, q⟩
  exact iop_and pins s σ H (.int i) (.int j) v u Q I rx ry ⟨i, j, rfl, rfl, q⟩
end
end DL
namespace DL
open PySem PySem.Spec PyProof.Rows L2
theorem iput_len (kvs : List (Int × D)) (k : Int) (v : D) : (iput kvs k v).length ≤ kvs.length + 1 := by unfold iput; split <;> simp
noncomputable def isetD : FSet := fun o i v H => match o, i with
  | .ref n, .int k => match H[n]? with
    | some (.dci kvs) => if kvs.length < sizeLine then some (H.set n (.dci (iput kvs k v))) else none
    | _ => none
  | _, _ => none
section
variable {X : Cx}
theorem isetf : PSetf X isetD := by
  rintro pins s σ H o i v ov iv u Q I ro ri rv ⟨ι, od, id, vd, Hd, Hd', hr, r1, r2, r3, e, q⟩
  have hx : ∃ n k kvs, od = .ref n ∧ id = .int k ∧ Hd[n]? = some (.dci kvs) ∧ kvs.length < sizeLine ∧ Hd' = Hd.set n (.dci (iput kvs k vd)) := by
    unfold isetD at e
    split at e
    · rename_i n k
      split at e
      · rename_i kvs hn
        split at e
        · rename_i hl; cases e; exact ⟨n, k, kvs, rfl, rfl, hn, hl, rfl⟩
        · cases e
      · cases e
    · cases e
  obtain ⟨n, k, kvs, rfl, rfl, hn, hl, rfl⟩ := hx
  obtain ⟨a, rfl, ha⟩ := rep_ref.mp r1
  have r2 : i = .int k := by simpa using r2
  subst r2
  cases ro
  obtain ⟨tk, rfl⟩ := ri
  obtain ⟨h1, h2, xs, h3, P⟩ := hr.obj n a _ ha hn
  have dd : DciAt a xs s.heap := ((show ObjOk X.prog X.w H s.heap a (.ext (DciAt a xs)) from I.hok a _ h3)).1
  have hz : xs.length ≤ sizeLine := by rw [← Prd.len P]; exact h2
  refine wpAny_setItem_pairs (knd := numKind X.prog X.w) (k := k) (hsz := hz) (by show numIs k (.int k tk) = true; simp [numIs, numOf]) (dd X.prog X.w) fun h' dd' hs => ?_
  have L : Le X.K H ι (upd H a (.ext (DciAt a (stored xs k u)))) ι := Le.upd (List.mem_of_getElem? ha) h3 trivial _
  have dA : DciAt a (stored xs k u) h' := dictOf_any dd'
  obtain ⟨ob, es, ep, g1, _⟩ := id dd'
  have ok : ObjOk X.prog X.w (upd H a (.ext (DciAt a (stored xs k u)))) h' a (.ext (DciAt a (stored xs k u))) := ⟨dA, ⟨ob, g1⟩, fun h1 h2 d k => DciAt.keep d k⟩
  have hr' : HRep X.K (upd H a (.ext (DciAt a (stored xs k u)))) ι (Hd.set n (.dci (iput kvs k vd))) := by
    refine hr.upd ha h3 trivial ⟨h1, ?_, _, upd_same, ?_⟩
    · have := iput_len kvs k vd; omega
    · exact irep_put (Prd.imp P fun p x _ z => ⟨z.1, let ⟨v, z1, z2⟩ := z.2; ⟨v, z1, z2.mono L⟩⟩) rv (r3.mono L)
  exact ⟨_, I.write (x := a) (e := a) (by rw [h3]; exact True.intro) (.inl rfl) (fun b q hb z => (hs.2 b hb).trans z) ⟨ob, g1⟩ ok, q _ ι L hr'⟩
noncomputable def eDI : EF := fun _ H => some (.ref H.length, H ++ [.dci []])
theorem pef_dnewI {pos : Pos} : PEf X (.Dict [] [] pos) eDI := by
  rintro pins s σ H Q I ⟨ι, σd, Hd, d, Hd', sr, hr, e, q⟩
  cases e
  have hb : sysModules < s.heap.objs.size := Nat.lt_trans (by decide) (show mainGlobals < s.heap.objs.size from (I.mod.glob.keeps I.bk).lt)
  have hp := I.hok.fresh (Nat.le_refl s.heap.objs.size)
  have dn : DciAt s.heap.objs.size [] (s.heap.push { cls := .type "dict", data := .dict #[] }) := fun p w => Heap.DictOf.new (knd := numKind p w) s.heap
  have ok : ObjOk X.prog X.w (upd H s.heap.objs.size (.ext (DciAt s.heap.objs.size []))) (s.heap.push { cls := .type "dict", data := .dict #[] }) s.heap.objs.size (.ext (DciAt s.heap.objs.size [])) := ⟨dn, ⟨_, Heap.get?_push_size _ rfl⟩, fun h1 h2 d k => DciAt.keep d k⟩
  refine wpAny_Dict_empty ⟨.ref s.heap.objs.size, _, I.laid (a := s.heap.objs.size) (o := .ext (DciAt s.heap.objs.size [])) (t' := s.toks) (fun _ _ q => Heap.get?_push_of_some _ q) (Nat.le_refl _) ok, rfl, ?_⟩
  have hl : ι.length = Hd.length := hr.len
  exact q _ _ (ι ++ [s.heap.objs.size]) (Le.fresh1 hp _) (hr.new hp ⟨beq_eq_false_iff_ne.mpr (Ne.symm (Nat.ne_of_lt hb)), Nat.zero_le _, [], upd_same, .nil⟩) (rep_ref.mpr ⟨_, rfl, by rw [← hl]; simp⟩)
end
end DL
namespace DL
open PySem PySem.Spec PyProof.Rows L2
section
variable {X : Cx}
noncomputable def tRng1 (ta : TA) : TE := fun σ H Q => ta σ H fun vs H1 => ∃ j : Int, vs = [.int j] ∧ ∀ p, H1 p = none → Q (.ref p) (upd H1 p (.rng 0 j))
theorem pe_rng1 {a : Expr} {ta : TA} {p pos : Pos} (hg : Gl X "range") (hm : X.mg "range" = none) (ha : PA X [a] ta) (hs : starEach [a] X.env = [(false, eval a X.env)] := by rfl) :
    PE X (.Call (.Name "range" p) [a] [] pos) (tRng1 ta) := by
  intro pins s σ H Q I h
  refine Call_ (ld_blt I hg hm boot_range (PyProof.Rows.callWith_type1 (thn (ha pos pins s σ H _ I h) fun us s1 ⟨vs, H1, I1, r1, q1⟩ => ?_) (by rw [hs]; rfl) (by rfl)))
  obtain ⟨j, rfl, q⟩ := q1
  obtain ⟨u1, rfl, ru1⟩ := vals1 r1
  obtain ⟨t1, rfl⟩ := ru1
  refine call_range_1 ?_
  exact ⟨.ref s1.heap.objs.size, _, I1.laid (t' := s1.toks + 2) (o := .rng 0 j) (fun b o e => Heap.get?_push_of_some _ e) (Nat.le_refl _) ⟨_, _, _, Heap.get?_push_size _ rfl⟩, rfl, q _ (I1.hok.fresh (Nat.le_refl _))⟩
noncomputable def eLR1 (f : AF) : EF := fun σ H => (f σ H).bind fun p => match p.1 with
  | [.int j] => if smallI j ∧ j.toNat ≤ 1000000 then some (.ref p.2.length, p.2 ++ [.lst (rangeL 0 j.toNat)]) else none
  | _ => none
theorem pef_listR1 {a : Expr} {f : AF} {p p2 pos pos2 : Pos} (hc : X.calm = true) (hg : Gl X "list") (hm : X.mg "list" = none) (hg2 : Gl X "range") (hm2 : X.mg "range" = none) (ha : PAf X [a] f)
    (hs : starEach [a] X.env = [(false, eval a X.env)] := by rfl)
    (he : starEach [Expr.Call (.Name "range" p2) [a] [] pos2] X.env = (false, eval (Expr.Call (.Name "range" p2) [a] [] pos2) X.env) :: starEach [] X.env := by rfl)
    (hpl : (backTo pos (starEach [] X.env)).any (·.1) = false := by rfl) : PEf X (.Call (.Name "list" p) [.Call (.Name "range" p2) [a] [] pos2] [] pos) (eLR1 f) := by
  refine PEi (pe_callTy (call_list_rng hc) hg hm (by decide +kernel) (pa_cons (pe_rng1 hg2 hm2 ha hs) pa_nil he) (by decide) (by decide) he hpl) fun σ H Q zz => ?_
  obtain ⟨ι, σd, Hd, d, Hd', s, hr, e, q⟩ := zz
  obtain ⟨⟨ds, H1⟩, e1, e⟩ := Option.bind_eq_some_iff.mp e
  dsimp only at e
  split at e
  · rename_i j
    split at e
    · rename_i hk
      cases e
      refine ⟨ι, σd, Hd, _, _, s, hr, e1, fun vs H' ι' l h P => ?_⟩
      obtain ⟨v, rfl, r⟩ := prd1 P
      simp at r
      subst r
      refine ⟨j, rfl, fun r hr' => ⟨r, 0, j, rfl, upd_same, by decide, hk.1, by rw [Int.sub_zero]; exact hk.2, fun lx hl => ?_⟩⟩
      rw [Int.sub_zero]
      have h2 := h.tup hr' (.rng 0 j)
      have sz : sizeLine = 16777216 := sizeLine_eq
      have P2 : Paired (Rep X.K (upd H' r (.rng 0 j)) ι') (rangeL 0 j.toNat) (intsV 0 j.toNat) := by
        unfold rangeL intsV
        generalize (List.range j.toNat) = ks
        induction ks with
        | nil => exact .nil
        | cons k ks ih => exact .cons (by simp) ih
      refine (new_lst h2 P2 (show mkL (rangeL 0 j.toNat) H1 = some _ by unfold mkL; rw [if_pos (by simp [rangeL]; omega)]) fun v2 H2 ι2 l2 h2 r2 => q v2 H2 ι2 ((l.trans (Le.fresh hr' _)).trans l2) h2 r2).2 _ hl
    · cases e
  · cases e
noncomputable def lrevD (x : D) (ds : List D) (H : HD) : Option (D × HD) := match x, ds with
  | .ref n, [] => match H[n]? with
    | some (.lst xs) => some (.non, H.set n (.lst xs.reverse))
    | _ => none
  | _, _ => none
theorem prd_rev {α β : Type} {F : α → β → Prop} : ∀ {xs : List α} {us : List β}, Paired F xs us → Paired F xs.reverse us.reverse
  | _, _, .nil => .nil
  | _, _, .cons a r => by rw [List.reverse_cons, List.reverse_cons]; exact Prd.append (prd_rev r) (.cons a .nil)
theorem vals_rev : ∀ {xs : List V} {us : List Value}, Vals xs us → Vals xs.reverse us.reverse
  | _, _, .nil => .nil
  | _, _, .cons a r => by rw [List.reverse_cons, List.reverse_cons]; exact (vals_rev r).append (.cons a .nil)
theorem mtf_rev : MtF X "list.reverse" lrevD := by
  rintro pins s σ H x xs v us Q I rx rv ⟨ι, dx, ds, Hd, d, Hd', hr, r1, P, e, q⟩
  unfold lrevD at e
  split at e
  · rename_i n
    obtain ⟨a, rfl, ha⟩ := rep_ref.mp r1
    cases P
    split at e
    · rename_i ys e1
      cases e
      obtain ⟨vs, hv, P1⟩ := hr.obj n a _ ha e1
      cases rv
      cases rx
      obtain ⟨z, its, m, r, hl, eo⟩ := I.lstM hv
      refine call_meets PySem.F.slot_list_reverse ⟨_, eo, rfl⟩ PySem.F.entry_list_reverse (PySem.F.args_list_reverse_1 _) (PySem.AutoSeq1.list_reverse_list_0 a its.toArray m (by rw [List.size_toArray]; omega)) ⟨eo, ?_⟩
      have L : Le X.K H ι (upd H a (.lst vs.reverse)) ι := Le.upd (List.mem_of_getElem? ha) hv trivial _
      refine ⟨.non, _, I.lset (ys := vs.reverse) (its' := its.reverse) hv eo ?_ (vals_rev r) ?_, rfl, q _ _ ι L (hr.upd ha hv trivial ⟨_, upd_same, Prd.mono L (prd_rev P1)⟩) (by simp)⟩
      · apply Array.toList_inj.mp
        simp
      · simp; omega
    · cases e
  · cases e
end
end DL
namespace DL
open PySem PySem.Spec PyProof.Rows L2
noncomputable def signs (x : Str) : List D := x.cps.toList.map fun c => .str ⟨#[c]⟩
section
variable {X : Cx} {tg : Expr}
end
end DL
namespace DL
open PySem PySem.Spec PyProof.Rows L2
section
variable {X : Cx}
end
end DL
namespace DL
open PySem L2
theorem size_ok {n : Nat} (h : n ≤ 1000000) : n ≤ sizeLine := by rw [PySem.sizeLine_eq]; omega
theorem atI_toNat {xs : List D} {i : Int} {d : D} (h0 : 0 ≤ i) (h : xs[i.toNat]? = some d) : atI xs i = some d := by
  have : i = (i.toNat : Int) := by omega
  rw [this]; exact atI_nat h
structure Ext (n : Nat) (H H' : HD) : Prop where
  feed : ∃ a b, H'[n]? = some (.lst [.int a, .int b])
  old : ∀ m o, m ≠ n → H[m]? = some o → H'[m]? = some o
  len : H.length ≤ H'.length
theorem Ext.trans {n : Nat} {H H1 H2 : HD} (a : Ext n H H1) (b : Ext n H1 H2) : Ext n H H2 := ⟨b.feed, fun m o h q => b.old m o h (a.old m o h q), Nat.le_trans a.len b.len⟩
theorem Ext.refl {n : Nat} {H : HD} (h : ∃ a b, H[n]? = some (.lst [.int a, .int b])) : Ext n H H := ⟨h, fun _ _ _ q => q, Nat.le_refl _⟩
theorem Ext.app {n : Nat} {H : HD} (h : ∃ a b, H[n]? = some (.lst [.int a, .int b])) (o : DO) : Ext n H (H ++ [o]) := by
  obtain ⟨a, b, e⟩ := h
  refine ⟨⟨a, b, ?_⟩, fun m u _ q => ?_, by simp⟩
  · rw [List.getElem?_append_left (List.getElem?_eq_some_iff.mp e).1]; exact e
  · rw [List.getElem?_append_left (List.getElem?_eq_some_iff.mp q).1]; exact q
end DL
namespace LH
open PySem L2 DL
noncomputable def b_law_take : SF :=
  (sSeq (sIf (tOf (eOp gtD (eOp ixD (eVar 0) (eC (.int 0))) (eC (.int 0)))) (sSeq (sSet 2 (eOp modD (eOp ixD (eVar 0) (eC (.int 0))) (eVar 1)))
  (sSeq (sAsg (eOp fdivD (eOp ixD (eVar 0) (eC (.int 0))) (eVar 1)) (gSb (eVar 0) (eC (.int 0)) setD))
  (sSeq (sRet (eVar 2))
  sNil))) sNil)
  (sSeq (sAsg (eOp modD (eOp addD (eOp mulD (eOp ixD (eVar 0) (eC (.int 1))) (eC (.int 69621))) (eC (.int 12345))) (eC (.int 2147483647))) (gSb (eVar 0) (eC (.int 1)) setD))
  (sSeq (sRet (eOp modD (eOp fdivD (eOp ixD (eVar 0) (eC (.int 1))) (eC (.int 8191))) (eVar 1)))
  sNil)))
noncomputable def m_law_take : FF := runB 2 3 b_law_take
theorem take_ok {n : Nat} {k : Int} {H : HD} (hf : ∃ a b, H[n]? = some (.lst [.int a, .int b])) (h0 : 0 < k) (h1 : k < 1073741824) :
    ∃ r H', 0 ≤ r ∧ r < k ∧ m_law_take [.ref n, .int k] H = some (.int r, H') ∧ Ext n H H' ∧ H'.length = H.length := by
  obtain ⟨a, b, e⟩ := hf
  have hl : n < H.length := (List.getElem?_eq_some_iff.mp e).1
  have i0 : ∀ x y : D, atI [x, y] 0 = some x := fun x y => atI_nat (j := 0) rfl
  have i1 : ∀ x y : D, atI [x, y] 1 = some y := fun x y => atI_nat (j := 1) rfl
  have j0 : ixN 2 0 = some 0 := rfl
  have j1 : ixN 2 1 = some 1 := rfl
  by_cases ha : 0 < a
  · refine ⟨a % k, H.set n (.lst [.int (a / k), .int b]), Int.emod_nonneg _ (by omega), Int.emod_lt_of_pos _ h0, ?_, ⟨⟨a / k, b, by simp [hl]⟩, fun m o hm q => ?_, by simp⟩, by simp⟩
    · have c1 : CPos a k := h0
      have c2 : CDiv a k := ⟨h0, h1⟩
      simp [m_law_take, b_law_take, runB, sSeq, sIf, tOf, eOp, ixD, eVar, eC, seqD, e, gtD, iiD, CT, blD, sSet, modD, sAsg, fdivD, gSb, setD, sRet, i0, ha, c1, c2, j0]
    · rw [List.getElem?_set_ne (Ne.symm hm)]; exact q
  · refine ⟨((b * 69621 + 12345) % 2147483647) / 8191 % k, H.set n (.lst [.int a, .int ((b * 69621 + 12345) % 2147483647)]), Int.emod_nonneg _ (by omega), Int.emod_lt_of_pos _ h0, ?_, ⟨⟨a, (b * 69621 + 12345) % 2147483647, by simp [hl]⟩, fun m o hm q => ?_, by simp⟩, by simp⟩
    · have hs : ∀ o : DO, (H.set n o)[n]? = some o := fun o => by simp [hl]
      have c1 : ∀ z, CPos z k := fun _ => h0
      have c2 : ∀ z, CDiv z 8191 := fun _ => ⟨by decide, by decide⟩
      have c3 : ∀ z, CPos z 2147483647 := fun _ => by show (0 : Int) < 2147483647; decide
      have c4 : ∀ z, CMul z 69621 := fun _ => .inr ⟨by decide, by decide⟩
      simp [m_law_take, b_law_take, runB, sSeq, sIf, tOf, eOp, ixD, eVar, eC, seqD, e, gtD, iiD, CT, blD, sSet, modD, sAsg, fdivD, gSb, setD, sRet, i0, i1, ha, c1, c2, c3, c4, j1, sNil, mulD, addD, hs]
    · rw [List.getElem?_set_ne (Ne.symm hm)]; exact q
noncomputable def b_law_pick : SF :=
  (sSeq (sRet (eOp ixD (eVar 1) (eCall 2 m_law_take (aCons (eVar 0) (aCons (eCB lenD (aCons (eVar 1) aNil)) aNil)))))
  sNil)
noncomputable def m_law_pick : FF := runB 2 2 b_law_pick
noncomputable def Seqs (n : Nat) (s : D) (xs : List D) (H : HD) : Prop := s = .tup xs ∨ ∃ m, s = .ref m ∧ m ≠ n ∧ H[m]? = some (.lst xs)
theorem Seqs.seq {n : Nat} {s : D} {xs : List D} {H : HD} (h : Seqs n s xs H) : seqD s H = some xs := by
  rcases h with rfl | ⟨m, rfl, _, e⟩
  · rfl
  · simp [seqD, e]
theorem Seqs.ext {n : Nat} {s : D} {xs : List D} {H H' : HD} (h : Seqs n s xs H) (e : Ext n H H') : Seqs n s xs H' := by
  rcases h with rfl | ⟨m, rfl, hm, q⟩
  · exact .inl rfl
  · exact .inr ⟨m, rfl, hm, e.old m _ hm q⟩
theorem len_of {n : Nat} {s : D} {xs : List D} {H : HD} (h : Seqs n s xs H) : lenD [s] H = some (.int xs.length, H) := by
  rcases h with rfl | ⟨m, rfl, _, e⟩
  · simp [lenD, seqD]
  · simp [lenD, seqD, e]
theorem pick_ok {n : Nat} {s : D} {xs : List D} {H : HD} (hf : ∃ a b, H[n]? = some (.lst [.int a, .int b])) (hs : Seqs n s xs H) (h0 : 0 < xs.length) (h1 : xs.length < 1073741824) :
    ∃ x H', x ∈ xs ∧ m_law_pick [.ref n, s] H = some (x, H') ∧ Ext n H H' ∧ H'.length = H.length := by
  obtain ⟨r, H', r0, r1, e, x, hl⟩ := take_ok (k := xs.length) hf (by omega) (by omega)
  have hr : r.toNat < xs.length := by omega
  refine ⟨xs[r.toNat], H', List.getElem_mem hr, ?_, x, hl⟩
  have ha : atI xs r = some xs[r.toNat] := atI_toNat r0 (by simp [hr])
  have hq := (hs.ext x).seq
  simp [m_law_pick, b_law_pick, runB, sSeq, sRet, eOp, ixD, eVar, eCall, aCons, aNil, eCB, len_of hs, e, hq, ha]
noncomputable def b_law_row : SF :=
  (sSeq (sSet 2 (eLst (aCons (eC (.int 1)) (aCons (eC (.int 2)) (aCons (eC (.int 2)) (aCons (eC (.int 3)) (aCons (eC (.int 3)) (aCons (eC (.int 4)) (aCons (eC (.int 2)) (aCons (eC (.int 3)) (aCons (eC (.int 1)) (aCons (eOp addD (eC (.int 5)) (eCall 2 m_law_take (aCons (eVar 0) (aCons (eC (.int 4)) aNil)))) (aCons (eC (.int 2)) (aCons (eOp mulD (eC (.int 2)) (eCB intD (aCons (eOp gtD (eCall 2 m_law_take (aCons (eVar 0) (aCons (eC (.int 6)) aNil))) (eC (.int 0))) aNil))) aNil))))))))))))))
  (sSeq (sSet 3 (eCB minD (aCons (eVar 1) (aCons (eCall 2 m_law_pick (aCons (eVar 0) (aCons (eVar 2) aNil))) aNil))))
  (sSeq (sSet 4 (eLR2 (aCons (eC (.int 1)) (aCons (eOp addD (eVar 1) (eC (.int 1))) aNil))))
  (sSeq (sSet 5 (eLst aNil))
  (sSeq (sFor (iR1 (aCons (eVar 3) aNil)) (gNm 6) (sSeq (sExpr (eLM appendD (eVar 5) (aCons (eLM popD (eVar 4) (aCons (eCall 2 m_law_take (aCons (eVar 0) (aCons (eCB lenD (aCons (eVar 4) aNil)) aNil))) aNil)) aNil)))
  sNil))
  (sSeq (sRet (eCB tupleD (aCons (eLC (iSq (eCB sortedD (aCons (eVar 5) aNil))) [0] tYes (eOp ixD (eLst (aCons (eVar 0) (aCons (eUn negD (eVar 0)) aNil))) (eCall 2 m_law_take (aCons (eVar 1) (aCons (eC (.int 2)) aNil))))) aNil)))
  sNil))))))
noncomputable def m_law_row : FF := runB 2 7 b_law_row
noncomputable abbrev lp_row : SF := (sSeq (sExpr (eLM appendD (eVar 5) (aCons (eLM popD (eVar 4) (aCons (eCall 2 m_law_take (aCons (eVar 0) (aCons (eCB lenD (aCons (eVar 4) aNil)) aNil))) aNil)) aNil))) sNil)
theorem seqIx_nat {i : Int} {n : Nat} (h0 : 0 ≤ i) (h1 : i < n) : seqIndex? i n = some i.toNat := by
  unfold seqIndex?
  have h2 : ¬ i < 0 := by omega
  simp [h2, h0, h1]
structure ExtS (S : List Nat) (H H' : HD) : Prop where
  old : ∀ m o, m ∉ S → H[m]? = some o → H'[m]? = some o
  len : H.length ≤ H'.length
theorem ExtS.trans {S : List Nat} {H H1 H2 : HD} (a : ExtS S H H1) (b : ExtS S H1 H2) : ExtS S H H2 := ⟨fun m o h q => b.old m o h (a.old m o h q), Nat.le_trans a.len b.len⟩
theorem ExtS.refl {S : List Nat} {H : HD} : ExtS S H H := ⟨fun _ _ _ q => q, Nat.le_refl _⟩
theorem _root_.DL.Ext.toS {n : Nat} {S : List Nat} {H H' : HD} (e : Ext n H H') (h : n ∈ S) : ExtS S H H' := ⟨fun m o hm q => e.old m o (fun z => hm (z ▸ h)) q, e.len⟩
theorem ExtS.set {S : List Nat} {H : HD} {p : Nat} {o : DO} (h : p ∈ S) : ExtS S H (H.set p o) := ⟨fun m u hm q => by rw [List.getElem?_set_ne (fun z => hm (by rw [← z]; exact h))]; exact q, by simp⟩
theorem map_erase {α β : Type} (f : α → β) : ∀ (xs : List α) (k : Nat), (xs.map f).eraseIdx k = (xs.eraseIdx k).map f
  | [], _ => rfl
  | _ :: _, 0 => rfl
  | x :: xs, k + 1 => by simp [map_erase f xs k]
theorem row_step {n p q : Nat} {a1 a2 a3 z : Option D} {ps qs : List Int} {H : HD} (hp : p ≠ n) (hq : q ≠ n) (hpq : p ≠ q) (h0 : 0 < ps.length) (h1 : ps.length ≤ 100) (h2 : qs.length ≤ 100)
    (hf : ∃ a b, H[n]? = some (.lst [.int a, .int b])) (ep : H[p]? = some (.lst (ps.map .int))) (eq : H[q]? = some (.lst (qs.map .int))) :
    ∃ (k : Nat) (H' : HD) (hk : k < ps.length), lp_row [some (.ref n), a1, a2, a3, some (.ref p), some (.ref q), z] H = some (.nx, [some (.ref n), a1, a2, a3, some (.ref p), some (.ref q), z], H') ∧
      (∃ a b, H'[n]? = some (.lst [.int a, .int b])) ∧ H'[p]? = some (.lst ((ps.eraseIdx k).map .int)) ∧ H'[q]? = some (.lst ((qs ++ [ps[k]]).map .int)) ∧ ExtS [n, p, q] H H' := by
  obtain ⟨r, H1, r0, r1, e, x, hl⟩ := take_ok (k := ps.length) hf (by omega) (by omega)
  have hr : r.toNat < ps.length := by omega
  have ep1 := x.old p _ hp ep
  have eq1 := x.old q _ hq eq
  have lp : p < H1.length := (List.getElem?_eq_some_iff.mp ep1).1
  have lq : q < H1.length := (List.getElem?_eq_some_iff.mp eq1).1
  have hs : ps.length ≤ sizeLine := size_ok (by omega)
  have hq2 : qs.length < sizeLine := by have : sizeLine = 16777216 := PySem.sizeLine_eq; omega
  have sp : (H1.set p (.lst ((ps.map D.int).eraseIdx r.toNat)))[q]? = some (.lst (qs.map .int)) := by rw [List.getElem?_set_ne hpq]; exact eq1
  refine ⟨r.toNat, (H1.set p (.lst ((ps.map D.int).eraseIdx r.toNat))).set q (.lst (qs.map .int ++ [.int ps[r.toNat]])), hr, ?_, ?_, ?_, ?_, ?_⟩
  · have s1 : seqIndex? r ps.length = some r.toNat := seqIx_nat r0 r1
    have b1 : -(2 ^ 63 : Int) ≤ r ∧ r < 2 ^ 63 := ⟨by omega, by omega⟩
    have g1 : (ps.map D.int)[r.toNat]? = some (.int ps[r.toNat]) := by simp [hr]
    have b2 : -9223372036854775808 ≤ r ∧ r < 9223372036854775808 := ⟨by omega, by omega⟩
    simp [lp_row, sSeq, sExpr, eLM, eVar, isLst, eq, ep, aCons, aNil, eCall, eCB, lenD, seqD, e, popD, ep1, s1, b2, g1, appendD, sp, hq2, sNil, hr]
  · obtain ⟨a, b, f1⟩ := x.feed
    exact ⟨a, b, by rw [List.getElem?_set_ne hq, List.getElem?_set_ne hp]; exact f1⟩
  · rw [List.getElem?_set_ne (Ne.symm hpq)]
    simp [lp, map_erase]
  · simp [lq]
  · exact (x.toS (by simp)).trans ((ExtS.set (by simp)).trans (ExtS.set (by simp)))
theorem erase_perm : ∀ (l : List Int) (j : Nat) (h : j < l.length), (l[j] :: l.eraseIdx j).Perm l
  | x :: xs, 0, h => List.Perm.refl _
  | x :: xs, j + 1, h => by
    rw [List.eraseIdx_cons_succ, List.getElem_cons_succ]
    exact (List.Perm.swap _ _ _).trans (List.Perm.cons x (erase_perm xs j (by simpa using h)))
theorem row_loop {M : Int} {n p q : Nat} {a1 a2 a3 : Option D} (hp : p ≠ n) (hq : q ≠ n) (hpq : p ≠ q) : ∀ (ks : List D) (ps qs : List Int) (H : HD) (z : Option D), ks.length ≤ ps.length → ps.length ≤ 100 → qs.length + ks.length ≤ 100 → (∀ i ∈ ps, 1 ≤ i ∧ i ≤ M) → (∀ i ∈ qs, 1 ≤ i ∧ i ≤ M) → (qs ++ ps).Nodup →
    (∃ a b, H[n]? = some (.lst [.int a, .int b])) → H[p]? = some (.lst (ps.map .int)) → H[q]? = some (.lst (qs.map .int)) →
    ∃ (qs' : List Int) (z' : Option D) (H' : HD), forL [] (gNm 6) lp_row ks [some (.ref n), a1, a2, a3, some (.ref p), some (.ref q), z] H = some (.nx, [some (.ref n), a1, a2, a3, some (.ref p), some (.ref q), z'], H') ∧
      (∃ a b, H'[n]? = some (.lst [.int a, .int b])) ∧ H'[q]? = some (.lst (qs'.map .int)) ∧ (∀ i ∈ qs', 1 ≤ i ∧ i ≤ M) ∧ qs'.length = qs.length + ks.length ∧ ExtS [n, p, q] H H' ∧ qs'.Nodup
  | [], ps, qs, H, z, _, _, _, _, hqs, hnd, hf, ep, eq => by
    refine ⟨qs, z, H, ?_, hf, eq, hqs, by simp, ExtS.refl, (List.nodup_append.mp hnd).1⟩
    rw [forL, if_pos (by intro x hx; simp at hx)]
  | k :: ks, ps, qs, H, z, h0, h1, h2, hps, hqs, hnd, hf, ep, eq => by
    obtain ⟨j, H1, hj, e1, hf1, ep1, eq1, x1⟩ := row_step (a1 := a1) (a2 := a2) (a3 := a3) (z := some k) hp hq hpq (by simp at h0; omega) h1 (by simp at h2; omega) hf ep eq
    obtain ⟨qs', z', H2, e2, hf2, eq2, hq2, hl2, x2, nd2⟩ := row_loop (M := M) hp hq hpq ks (ps.eraseIdx j) (qs ++ [ps[j]]) H1 (some k) (by rw [List.length_eraseIdx_of_lt hj]; simp at h0; omega) (by rw [List.length_eraseIdx_of_lt hj]; omega) (by simp at h2 ⊢; omega)
      (fun i hi => hps i (List.mem_of_mem_eraseIdx hi)) (fun i hi => by
        rcases List.mem_append.mp hi with z | z
        · exact hqs i z
        · simp at z; subst z; exact hps _ (List.getElem_mem hj)) (by
        have pm : ((qs ++ [ps[j]]) ++ ps.eraseIdx j).Perm (qs ++ ps) := by
          rw [List.append_assoc]
          exact List.Perm.append_left qs (erase_perm ps j hj)
        exact pm.nodup_iff.mpr hnd) hf1 ep1 eq1
    refine ⟨qs', z', H2, ?_, hf2, eq2, hq2, by simp at hl2 ⊢; omega, x1.trans x2, nd2⟩
    rw [forL, if_pos (by intro x hx; simp at hx)]
    simp only [gNm, List.set, Option.bind_some]
    rw [e1]
    simp only [Option.bind_some]
    exact e2
theorem isort_mem {ns : List Int} {i : Int} (h : i ∈ isort ns) : i ∈ ns := (isort_perm ns).mem_iff.mp h
noncomputable abbrev el_row : EF := (eOp ixD (eLst (aCons (eVar 0) (aCons (eUn negD (eVar 0)) aNil))) (eCall 2 m_law_take (aCons (eVar 1) (aCons (eC (.int 2)) aNil))))
noncomputable def absZ (l : Int) : Int := if l < 0 then -l else l
noncomputable def Up (m : Int) : Int → List Int → Prop
  | _, [] => True
  | last, l :: r => last < absZ l ∧ absZ l ≤ m ∧ Up m (absZ l) r
theorem up_of {m : Int} : ∀ (ls : List Int) (last : Int), (ls.map absZ).Pairwise (· < ·) → (∀ x ∈ ls.map absZ, last < x ∧ x ≤ m) → Up m last ls
  | [], _, _, _ => trivial
  | l :: r, last, p, h => by
    rw [List.map_cons, List.pairwise_cons] at p
    have h1 := h (absZ l) (by simp)
    exact ⟨h1.1, h1.2, up_of r (absZ l) p.2 fun x hx => ⟨p.1 x hx, (h x (by rw [List.map_cons]; exact List.mem_cons_of_mem _ hx)).2⟩⟩
theorem isort_lt {ns : List Int} (h : ns.Nodup) : (isort ns).Pairwise (· < ·) := by
  have h1 : (isort ns).Pairwise (fun a b => decide (a ≤ b) = true) := List.pairwise_mergeSort (by intro a b c; simp; omega) (by intro a b; simp; omega) ns
  have h2 : (isort ns).Nodup := (isort_perm ns).nodup_iff.mpr h
  refine (List.Pairwise.and h1 h2).imp ?_
  rintro a b ⟨x, y⟩
  have := of_decide_eq_true x
  omega
theorem sign_loop {n r : Nat} {all : List D} (hrn : r ≠ n) : ∀ (ks : List Int) (H : HD), (∀ i ∈ ks, 1 ≤ i ∧ i ≤ 10) → (∃ a b, H[n]? = some (.lst [.int a, .int b])) → H[r]? = some (.lst all) →
    ∃ (ls : List Int) (H' : HD), compL [(r, .lst all)] [some (.ref n)] tYes el_row (ks.map .int) H = some (ls.map .int, H') ∧ (∀ l ∈ ls, l ≠ 0 ∧ -10 ≤ l ∧ l ≤ 10) ∧ ls.length = ks.length ∧ Ext n H H' ∧ H'[r]? = some (.lst all) ∧ ls.map absZ = ks
  | [], H, _, hf, hr => by
    refine ⟨[], H, ?_, by simp, rfl, Ext.refl hf, hr, rfl⟩
    rw [List.map_nil, compL, if_pos (by intro x hx; simp at hx; subst hx; exact hr)]
  | k :: ks, H, hk, hf, hr => by
    have x0 : Ext n H (H ++ [.lst [.int k, .int (-k)]]) := Ext.app hf _
    obtain ⟨j, H1, j0, j1, e1, x1, l1⟩ := take_ok (n := n) (k := 2) x0.feed (by omega) (by omega)
    have hl : H.length ≠ n := by
      obtain ⟨a, b, e⟩ := hf
      exact Nat.ne_of_gt (List.getElem?_eq_some_iff.mp e).1
    have new : H1[H.length]? = some (.lst [.int k, .int (-k)]) := x1.old _ _ hl (by simp)
    have hr1 := x1.old r _ hrn (x0.old r _ hrn hr)
    obtain ⟨ls, H2, e2, b2, l2, x2, hr2, ab2⟩ := sign_loop hrn ks H1 (fun i hi => hk i (by simp [hi])) x1.feed hr1
    have hk0 := hk k (by simp)
    have z2 : (2 : Nat) ≤ sizeLine := size_ok (by omega)
    have hj : j = 0 ∨ j = 1 := by omega
    refine ⟨(if j = 0 then k else -k) :: ls, H2, ?_, ?_, by simp [l2], (x0.trans x1).trans x2, hr2, by rw [List.map_cons, ab2]; congr 1; unfold absZ; split <;> split <;> omega⟩
    · rw [List.map_cons, compL, if_pos (by intro x hx; simp at hx; subst hx; exact hr)]
      have ee : el_row [some (.int k), some (.ref n)] H = some (.int (if j = 0 then k else -k), H1) := by
        rcases hj with rfl | rfl
        · simp [el_row, eOp, eLst, aCons, aNil, eVar, eUn, negD, mkL, z2, eCall, eC, e1, ixD, seqD, new, atI, ixN]
        · simp [el_row, eOp, eLst, aCons, aNil, eVar, eUn, negD, mkL, z2, eCall, eC, e1, ixD, seqD, new, atI, ixN]
      simp only [tYes, Option.bind_some, if_true, ee, e2, Option.map_some, List.map_cons]
    · intro l hl
      rcases List.mem_cons.mp hl with rfl | hl
      · split <;> omega
      · exact b2 l hl
theorem intsD_map (ns : List Int) : intsD (ns.map .int) = some ns := by
  induction ns with
  | nil => rfl
  | cons n r ih => simp [intsD, ih]
theorem seq_nx {f g : SF} {σ σ1 : SD} {H H1 : HD} (h : f σ H = some (.nx, σ1, H1)) : sSeq f g σ H = g σ1 H1 := by
  unfold sSeq
  rw [h]
  rfl
theorem seq_rt {f g : SF} {σ σ1 : SD} {H H1 : HD} {d : D} (h : f σ H = some (.rt d, σ1, H1)) : sSeq f g σ H = some (.rt d, σ1, H1) := by
  unfold sSeq
  rw [h]
  rfl
theorem set_nx {i : Nat} {f : EF} {σ : SD} {H H1 : HD} {d : D} (h : f σ H = some (d, H1)) : sSet i f σ H = some (.nx, σ.set i (some d), H1) := by
  unfold sSet
  rw [h]
  rfl
theorem rangeL_ints (lo : Int) (k : Nat) : rangeL lo k = ((List.range k).map fun j : Nat => lo + (j : Int)).map D.int := by
  unfold rangeL
  rw [List.map_map]
  rfl
theorem nodup_names (k : Nat) : ((List.range k).map fun j : Nat => (1 : Int) + (j : Int)).Nodup := by
  unfold List.Nodup
  rw [List.pairwise_map]
  refine (List.nodup_range (n := k)).imp ?_
  intro a b h
  omega
theorem row_ok2 {n : Nat} {m : Int} {H : HD} (hf : ∃ a b, H[n]? = some (.lst [.int a, .int b])) (h0 : 0 ≤ m) (h1 : m ≤ 9) :
    ∃ (ls : List Int) (H' : HD), m_law_row [.ref n, .int m] H = some (.tup (ls.map .int), H') ∧ (∀ l ∈ ls, l ≠ 0 ∧ -10 ≤ l ∧ l ≤ 10) ∧ ls.length ≤ 9 ∧ Ext n H H' ∧ Up m 0 ls := by
  have hn : n < H.length := by obtain ⟨a, b, e⟩ := hf; exact (List.getElem?_eq_some_iff.mp e).1
  have sz : sizeLine = 16777216 := PySem.sizeLine_eq
  -- the sizes
  obtain ⟨r4, H1, a0, a1, e1, x1, l1⟩ := take_ok (n := n) (k := 4) hf (by omega) (by omega)
  obtain ⟨r6, H2, b0, b1, e2, x2, l2⟩ := take_ok (n := n) (k := 6) x1.feed (by omega) (by omega)
  let sizes : List Int := [1, 2, 2, 3, 3, 4, 2, 3, 1, 5 + r4, 2, 2 * (if 0 < r6 then 1 else 0)]
  have x3 : Ext n H2 (H2 ++ [.lst (sizes.map .int)]) := Ext.app x2.feed _
  have c2 : ∀ z, CMul 2 z := fun _ => .inl ⟨by decide, by decide⟩
  have s1 : sSet 2 (eLst (aCons (eC (.int 1)) (aCons (eC (.int 2)) (aCons (eC (.int 2)) (aCons (eC (.int 3)) (aCons (eC (.int 3)) (aCons (eC (.int 4)) (aCons (eC (.int 2)) (aCons (eC (.int 3)) (aCons (eC (.int 1)) (aCons (eOp addD (eC (.int 5)) (eCall 2 m_law_take (aCons (eVar 0) (aCons (eC (.int 4)) aNil)))) (aCons (eC (.int 2)) (aCons (eOp mulD (eC (.int 2)) (eCB intD (aCons (eOp gtD (eCall 2 m_law_take (aCons (eVar 0) (aCons (eC (.int 6)) aNil))) (eC (.int 0))) aNil))) aNil))))))))))))) [some (.ref n), some (.int m), none, none, none, none, none] H
      = some (.nx, [some (.ref n), some (.int m), some (.ref H2.length), none, none, none, none], H2 ++ [.lst (sizes.map .int)]) := by
    have z12 : (12 : Nat) ≤ sizeLine := by omega
    simp [sSet, eLst, aCons, aNil, eC, eOp, addD, eCall, eVar, e1, mulD, c2, eCB, intD, gtD, iiD, CT, e2, mkL, z12, sizes]
  -- one of them
  have hl2 : H2.length ≠ n := by omega
  obtain ⟨xv, H4, xm, e4, x4, l4⟩ := pick_ok (n := n) (s := .ref H2.length) (xs := sizes.map .int) x3.feed (.inr ⟨_, rfl, hl2, by simp⟩) (by simp [sizes]) (by simp [sizes])
  obtain ⟨x, xs', rfl⟩ : ∃ x : Int, (0 ≤ x ∧ x ≤ 8) ∧ xv = .int x := by
    rw [List.mem_map] at xm
    obtain ⟨y, hy, rfl⟩ := xm
    refine ⟨y, ?_, rfl⟩
    simp only [sizes, List.mem_cons, List.not_mem_nil, or_false] at hy
    rcases hy with h | h | h | h | h | h | h | h | h | h | h | h <;> first | omega | (split at h <;> omega)
  let size : Int := if x < m then x else m
  have hsz : 0 ≤ size ∧ size ≤ m := by show 0 ≤ (if x < m then x else m) ∧ (if x < m then x else m) ≤ m; split <;> omega
  have s2 : sSet 3 (eCB minD (aCons (eVar 1) (aCons (eCall 2 m_law_pick (aCons (eVar 0) (aCons (eVar 2) aNil))) aNil))) [some (.ref n), some (.int m), some (.ref H2.length), none, none, none, none] (H2 ++ [.lst (sizes.map .int)])
      = some (.nx, [some (.ref n), some (.int m), some (.ref H2.length), some (.int size), none, none, none], H4) := by
    simp [sSet, eCB, minD, aCons, aNil, eVar, eCall, e4, size]
  -- the names, none found
  let ps : List Int := (List.range m.toNat).map fun j : Nat => 1 + (j : Int)
  have s3 : sSet 4 (eLR2 (aCons (eC (.int 1)) (aCons (eOp addD (eVar 1) (eC (.int 1))) aNil))) [some (.ref n), some (.int m), some (.ref H2.length), some (.int size), none, none, none] H4
      = some (.nx, [some (.ref n), some (.int m), some (.ref H2.length), some (.int size), some (.ref H4.length), none, none], H4 ++ [.lst (ps.map .int)]) := by
    have k1 : smallI 1 := ⟨by decide, by decide⟩
    have k2 : smallI (m + 1) := ⟨by omega, by omega⟩
    have k3 : (m + 1 - 1).toNat ≤ 1000000 := by omega
    have k4 : m + 1 - 1 = m := by omega
    have k5 : m.toNat ≤ 1000000 := by omega
    simp [sSet, eLR2, aCons, aNil, eC, eOp, addD, eVar, k1, k2, k4, k5]
    exact ⟨by omega, rangeL_ints 1 m.toNat⟩
  have z0 : (0 : Nat) ≤ sizeLine := Nat.zero_le _
  have s4 : sSet 5 (eLst aNil) [some (.ref n), some (.int m), some (.ref H2.length), some (.int size), some (.ref H4.length), none, none] (H4 ++ [.lst (ps.map .int)])
      = some (.nx, [some (.ref n), some (.int m), some (.ref H2.length), some (.int size), some (.ref H4.length), some (.ref (H4.length + 1)), none], H4 ++ [.lst (ps.map .int)] ++ [.lst []]) := by
    simp [sSet, eLst, aNil, mkL]
  have x5 : Ext n H4 (H4 ++ [.lst (ps.map .int)]) := Ext.app x4.feed _
  have x6 : Ext n (H4 ++ [.lst (ps.map .int)]) (H4 ++ [.lst (ps.map .int)] ++ [.lst []]) := Ext.app x5.feed _
  have hn4 : n < H4.length := by obtain ⟨a, b, e⟩ := x4.feed; exact (List.getElem?_eq_some_iff.mp e).1
  obtain ⟨qs, z', H7, e7, f7, q7, b7, l7, x7, nd7⟩ := row_loop (M := m) (n := n) (p := H4.length) (q := H4.length + 1) (a1 := some (.int m)) (a2 := some (.ref H2.length)) (a3 := some (.int size)) (by omega) (by omega) (by omega) (rangeL 0 size.toNat) ps [] (H4 ++ [.lst (ps.map .int)] ++ [.lst []]) none
    (by simp [rangeL, ps]; omega) (by simp [ps]; omega) (by simp [rangeL]; omega) (fun i hi => by simp only [ps, List.mem_map, List.mem_range] at hi; obtain ⟨j, hj, rfl⟩ := hi; omega) (by simp) (by
      rw [List.nil_append]
      exact nodup_names m.toNat) x6.feed (by simp) (by simp)
  have s5 : sFor (iR1 (aCons (eVar 3) aNil)) (gNm 6) lp_row [some (.ref n), some (.int m), some (.ref H2.length), some (.int size), some (.ref H4.length), some (.ref (H4.length + 1)), none] (H4 ++ [.lst (ps.map .int)] ++ [.lst []])
      = some (.nx, [some (.ref n), some (.int m), some (.ref H2.length), some (.int size), some (.ref H4.length), some (.ref (H4.length + 1)), z'], H7) := by
    have k1 : smallI size := ⟨by omega, by omega⟩
    simp only [sFor, iR1, aCons, aNil, eVar, List.getElem?_cons_succ, List.getElem?_cons_zero, Option.join_some, Option.map_some, Option.bind_some, k1, if_true]
    exact e7
  -- the signs
  have hn7 : n < H7.length := by obtain ⟨a, b, e⟩ := f7; exact (List.getElem?_eq_some_iff.mp e).1
  have x8 : Ext n H7 (H7 ++ [.lst ((isort qs).map .int)]) := Ext.app f7 _
  obtain ⟨ls, H9, e9, b9, l9, x9, r9, ab9⟩ := sign_loop (n := n) (r := H7.length) (all := (isort qs).map .int) (by omega) (isort qs) (H7 ++ [.lst ((isort qs).map .int)]) (fun i hi => by have := b7 i (isort_mem hi); omega) x8.feed (by simp)
  have lqs : qs.length ≤ 9 := by simp [rangeL] at l7; omega
  have lls : ls.length ≤ 9 := by rw [l9, (isort_perm qs).length_eq]; exact lqs
  have x10 : Ext n H9 (H9 ++ [.lst (ls.map .int)]) := Ext.app x9.feed _
  refine ⟨ls, H9 ++ [.lst (ls.map .int)], ?_, b9, lls, ?_, up_of ls 0 (by rw [ab9]; exact isort_lt nd7) (fun x hx => by rw [ab9] at hx; have := b7 x (isort_mem hx); omega)⟩
  · have s6 : sRet (eCB tupleD (aCons (eLC (iSq (eCB sortedD (aCons (eVar 5) aNil))) [0] tYes el_row) aNil)) [some (.ref n), some (.int m), some (.ref H2.length), some (.int size), some (.ref H4.length), some (.ref (H4.length + 1)), z'] H7
        = some (.rt (.tup (ls.map .int)), [some (.ref n), some (.int m), some (.ref H2.length), some (.int size), some (.ref H4.length), some (.ref (H4.length + 1)), z'], H9 ++ [.lst (ls.map .int)]) := by
      have z9 : ls.length ≤ sizeLine := by omega
      have q64 : qs.length < 64 := by omega
      simp [sRet, eCB, tupleD, aCons, aNil, eLC, iSq, sortedD, eVar, seqD, q7, intsD_map, q64, isTup, itemsD, capD, e9, mkL, z9]
    unfold m_law_row runB
    rw [if_pos (show ([D.ref n, D.int m] : List D).length = 2 from rfl)]
    show (b_law_row [some (.ref n), some (.int m), none, none, none, none, none] H).bind _ = _
    unfold b_law_row
    rw [seq_nx s1, seq_nx s2, seq_nx s3, seq_nx s4, seq_nx s5, seq_rt s6]
    rfl
  · have y1 : Ext n H (H4 ++ [.lst (ps.map .int)] ++ [.lst []]) := ((((x1.trans x2).trans x3).trans x4).trans x5).trans x6
    refine ⟨x10.feed, fun k o hk q => ?_, ?_⟩
    · have w1 := y1.old k o hk q
      have kl : k < H.length := (List.getElem?_eq_some_iff.mp q).1
      have : H.length ≤ H4.length := ((((x1.trans x2).trans x3).trans x4)).len
      have w2 := x7.old k o (by simp; omega) w1
      exact (x8.trans x9 |>.trans x10).old k o hk w2
    · exact Nat.le_trans y1.len (Nat.le_trans x7.len (x8.trans x9 |>.trans x10).len)
noncomputable def b_law_claim : SF :=
  (sSeq (sSet 3 (eCall 2 m_law_pick (aCons (eVar 0) (aCons (eLst (aCons (eVar 1) (aCons (eOp subD (eVar 1) (eC (.int 1))) (aCons (eVar 1) (aCons (eOp subD (eVar 1) (eC (.int 2))) (aCons (eVar 1) (aCons (eCall 2 m_law_take (aCons (eVar 0) (aCons (eOp addD (eVar 1) (eC (.int 1))) aNil))) aNil))))))) aNil))))
  (sSeq (sSet 4 (eCall 2 m_law_take (aCons (eVar 0) (aCons (eC (.int 4)) aNil))))
  (sSeq (sSet 5 (eLC (iR1 (aCons (eVar 3) aNil)) [0] tYes (eCall 2 m_law_pick (aCons (eVar 1) (aCons (eLst (aCons (eC (.str "all")) (aCons (eC (.str "some")) aNil))) aNil)))))
  (sSeq (sIf (tOf (eOp eqD (eVar 4) (eC (.int 0)))) (sSeq (sSet 5 (eLC (iR1 (aCons (eVar 3) aNil)) [] tYes (eOp ixD (eLst (aCons (eC (.str "some")) (aCons (eC (.str "all")) aNil))) (eOp modD (eVar 0) (eC (.int 2))))))
  sNil) sNil)
  (sSeq (sSet 6 (eCall 2 m_law_pick (aCons (eVar 0) (aCons (eLst (aCons (eVar 3) (aCons (eOp addD (eVar 3) (eOp fdivD (eVar 3) (eC (.int 2)))) (aCons (eOp mulD (eC (.int 2)) (eVar 3)) (aCons (eOp addD (eOp fdivD (eVar 3) (eC (.int 2))) (eC (.int 1))) (aCons (eCall 2 m_law_take (aCons (eVar 0) (aCons (eOp addD (eVar 2) (eC (.int 1))) aNil))) (aCons (eC (.int 2)) aNil))))))) aNil))))
  (sSeq (sSet 7 (eLC (iR1 (aCons (eCB minD (aCons (eVar 2) (aCons (eVar 6) aNil))) aNil)) [0, 3] tYes (eCall 2 m_law_row (aCons (eVar 1) (aCons (eVar 2) aNil)))))
  (sSeq (sIf (tAn (tOf (eOp neD (eVar 7) (eLst aNil))) (tOf (eOp eqD (eCall 2 m_law_take (aCons (eVar 0) (aCons (eC (.int 6)) aNil))) (eC (.int 0))))) (sSeq (sExpr (eLM appendD (eVar 7) (aCons (eCall 2 m_law_pick (aCons (eVar 0) (aCons (eVar 7) aNil))) aNil)))
  sNil) sNil)
  (sSeq (sRet (eTup (aCons (eCB tupleD (aCons (eVar 5) aNil)) (aCons (eCB tupleD (aCons (eSl (eVar 7) oNone (oSome (eVar 2))) aNil)) aNil))))
  sNil))))))))
noncomputable def m_law_claim : FF := runB 3 8 b_law_claim
noncomputable def IsKind (d : D) : Prop := d = .str "all" ∨ d = .str "some"
noncomputable def IsRow (d : D) : Prop := ∃ ls : List Int, d = .tup (ls.map .int) ∧ (∀ l ∈ ls, l ≠ 0 ∧ -10 ≤ l ∧ l ≤ 10) ∧ ls.length ≤ 9
theorem lc_step {own : OwnD} {c0 : SD} {te : EF} {x d : D} {r : List D} {H H1 : HD} (ok : okOwn own H) (h : te (some x :: c0) H = some (d, H1)) :
    compL own c0 tYes te (x :: r) H = (compL own c0 tYes te r H1).map fun q => (d :: q.1, q.2) := by
  rw [compL, if_pos ok]
  simp [tYes, h]
theorem lc_end {own : OwnD} {c0 : SD} {te : EF} {H : HD} (ok : okOwn own H) : compL own c0 tYes te [] H = some ([], H) := by rw [compL, if_pos ok]
theorem ok_nil {H : HD} : okOwn [] H := by intro x hx; simp at hx
end LH
namespace LH
open PySem L2 DL
theorem toP_int (H : HD) (n : Nat) (i : Int) : toP H n (.int i) = some (.int i) := by cases n <;> rw [toP]
theorem toP_bl (H : HD) (n : Nat) (b : Bool) : toP H n (.bl b) = some (.bool b) := by cases n <;> rw [toP]
theorem dat_int (H : HD) (i : Int) : dat (.int i) H = some (.int i) := by
  simp [dat, toP_int, okP, PyData.canLay0, PyData.depth]
theorem dat_bl (H : HD) (b : Bool) : dat (.bl b) H = some (.bool b) := by
  simp [dat, toP_bl, okP, PyData.canLay0, PyData.depth]
theorem eq_int (i j : Int) (H : HD) : eqD (.int i) (.int j) H = some (.bl (i == j), H) := by
  simp [eqD, twoS, dat_int, PyData.eqv]
theorem eq_bl (i j : Bool) (H : HD) : eqD (.bl i) (.bl j) H = some (.bl (i == j), H) := by
  simp [eqD, twoS, dat_bl, PyData.eqv]
theorem toPs_ints (H : HD) (n : Nat) : ∀ ls : List Int, toPs H n (ls.map .int) = some (ls.map .int)
  | [] => by rw [List.map_nil, toPs]; rfl
  | l :: ls => by rw [List.map_cons, toPs, toP_int, toPs_ints H n ls]; rfl
theorem lay_ints : ∀ ls : List Int, PyData.canLayAll0 (ls.map .int) = true ∧ PyData.depthAll (ls.map .int) = 0
  | [] => ⟨rfl, rfl⟩
  | l :: ls => by
    obtain ⟨h1, h2⟩ := lay_ints ls
    exact ⟨by rw [List.map_cons, PyData.canLayAll0, h1]; rfl, by rw [List.map_cons, PyData.depthAll, h2]; rfl⟩
theorem toPs_rows (H : HD) (n : Nat) : ∀ xs : List D, (∀ d ∈ xs, IsRow d) → ∃ ps, toPs H n xs = some ps ∧ ps.length = xs.length ∧ PyData.canLayAll0 ps = true ∧ PyData.depthAll ps ≤ 1
  | [], _ => ⟨[], by rw [toPs], rfl, rfl, by decide⟩
  | x :: xs, h => by
    obtain ⟨ps, e, l, c, d⟩ := toPs_rows H n xs fun d hd => h d (by simp [hd])
    obtain ⟨ls, rfl, _, _⟩ := h x (by simp)
    obtain ⟨c1, d1⟩ := lay_ints ls
    refine ⟨.tuple (ls.map .int) :: ps, ?_, by simp [l], ?_, ?_⟩
    · rw [toPs, e]
      have : toP H n (.tup (ls.map .int)) = some (.tuple (ls.map .int)) := by cases n <;> (rw [toP, toPs_ints]; rfl)
      rw [this]; rfl
    · rw [PyData.canLayAll0, PyData.canLay0, c1, c]; rfl
    · rw [PyData.depthAll, PyData.depth, d1]; omega
theorem dat_rows {H : HD} {k : Nat} {xs : List D} (e : H[k]? = some (.lst xs)) (h : ∀ d ∈ xs, IsRow d) : ∃ ps, dat (.ref k) H = some (.list ps) ∧ ps.length = xs.length := by
  obtain ⟨ps, e1, l, c, d⟩ := toPs_rows H 29 xs h
  refine ⟨ps, ?_, l⟩
  have : toP H 30 (.ref k) = some (.list ps) := by rw [toP, e]; simp only [e1]; rfl
  have d2 : PyData.depthAll ps + 1 ≤ 30 := by omega
  simp [dat, this, okP, PyData.canLay0, PyData.depth, c, d2]
theorem ne_nil {H : HD} {k j : Nat} {xs : List D} (e : H[k]? = some (.lst xs)) (e2 : H[j]? = some (.lst [])) (h : ∀ d ∈ xs, IsRow d) : neD (.ref k) (.ref j) H = some (.bl (!xs.isEmpty), H) := by
  obtain ⟨ps, e1, l⟩ := dat_rows e h
  have e3 : dat (.ref j) H = some (.list []) := by
    have : toP H 30 (.ref j) = some (.list []) := by rw [toP, e2]; simp [toPs]
    simp [dat, this, okP, PyData.canLay0, PyData.canLayAll0, PyData.depth, PyData.depthAll]
  have e4 : PyData.eqv (.list ps) (.list []) = xs.isEmpty := by
    cases ps with
    | nil => cases xs with
      | nil => rfl
      | cons _ _ => simp at l
    | cons p ps => cases xs with
      | nil => simp at l
      | cons _ _ => simp [PyData.eqv, PyData.eqvAll]
  simp [neD, twoS, e1, e3, e4]
theorem lc_feed' {n : Nat} {c0 : SD} {te : EF} {Ok Good : D → Prop} (step : ∀ (x : D) (H : HD), Ok x → (∃ a b, H[n]? = some (.lst [.int a, .int b])) → ∃ d H', te (some x :: c0) H = some (d, H') ∧ Good d ∧ Ext n H H') :
    ∀ (xs : List D) (H : HD), (∀ x ∈ xs, Ok x) → (∃ a b, H[n]? = some (.lst [.int a, .int b])) → ∃ ds H', compL [] c0 tYes te xs H = some (ds, H') ∧ (∀ d ∈ ds, Good d) ∧ ds.length = xs.length ∧ Ext n H H'
  | [], H, _, hf => ⟨[], H, lc_end ok_nil, by simp, rfl, Ext.refl hf⟩
  | x :: xs, H, ho, hf => by
    obtain ⟨d, H1, e1, g1, x1⟩ := step x H (ho x (by simp)) hf
    obtain ⟨ds, H2, e2, g2, l2, x2⟩ := lc_feed' step xs H1 (fun z hz => ho z (by simp [hz])) x1.feed
    refine ⟨d :: ds, H2, ?_, ?_, by simp [l2], x1.trans x2⟩
    · rw [lc_step ok_nil e1, e2]; rfl
    · intro z hz
      rcases List.mem_cons.mp hz with rfl | hz
      · exact g1
      · exact g2 z hz
noncomputable def IsI (d : D) : Prop := ∃ i : Int, d = .int i
theorem range_I (lo : Int) (k : Nat) : ∀ x ∈ rangeL lo k, IsI x := by
  intro x hx
  simp only [rangeL, List.mem_map] at hx
  obtain ⟨j, _, rfl⟩ := hx
  exact ⟨_, rfl⟩
theorem range_len (lo : Int) (k : Nat) : (rangeL lo k).length = k := by simp [rangeL]
theorem it_R1 {f : EF} {σ : SD} {H H1 : HD} {j : Int} (h : f σ H = some (.int j, H1)) (s : smallI j) : iR1 (aCons f aNil) σ H = some ((rangeL 0 j.toNat, []), H1) := by
  simp [iR1, aCons, aNil, h, s]
theorem flt {n : Nat} {H : HD} (hf : ∃ a b, H[n]? = some (.lst [.int a, .int b])) : n < H.length := by obtain ⟨a, b, e⟩ := hf; exact (List.getElem?_eq_some_iff.mp e).1
theorem take_call {n : Nat} {c0 : SD} {i : Nat} {fk : EF} {k r : Int} {H H' : HD} (h1 : c0[i]? = some (some (.ref n))) (h2 : fk c0 H = some (.int k, H)) (e : m_law_take [.ref n, .int k] H = some (.int r, H')) :
    eCall 2 m_law_take (aCons (eVar i) (aCons fk aNil)) c0 H = some (.int r, H') := by
  simp [eCall, aCons, aNil, eVar, h1, h2, e]
noncomputable def RowIn (m : Int) (d : D) : Prop := ∃ ls : List Int, d = .tup (ls.map .int) ∧ (∀ l ∈ ls, l ≠ 0 ∧ -10 ≤ l ∧ l ≤ 10) ∧ ls.length ≤ 9 ∧ Up m 0 ls
theorem RowIn.row {m : Int} {d : D} (h : RowIn m d) : IsRow d := by
  obtain ⟨ls, a, b, c, _⟩ := h
  exact ⟨ls, a, b, c⟩
theorem claim_ok2 {n : Nat} {H : HD} {most rows : Int} (hf : ∃ a b, H[n]? = some (.lst [.int a, .int b])) (hm : 2 ≤ most ∧ most ≤ 8) (hrw : 0 ≤ rows ∧ rows ≤ 40) :
    ∃ (ks rs : List D) (H' : HD), m_law_claim [.ref n, .int most, .int rows] H = some (.tup [.tup ks, .tup rs], H') ∧ (∀ d ∈ ks, IsKind d) ∧ (ks.length : Int) ≤ most ∧ (∀ d ∈ rs, RowIn ks.length d) ∧ (rs.length : Int) ≤ rows ∧ Ext n H H' := by
  have sz : sizeLine = 16777216 := PySem.sizeLine_eq
  have hn := flt hf
  -- many
  obtain ⟨t1, H1, a0, a1, e1, x1, l1⟩ := take_ok (n := n) (k := most + 1) hf (by omega) (by omega)
  let L1 : List Int := [most, most - 1, most, most - 2, most, t1]
  have x2 : Ext n H1 (H1 ++ [.lst (L1.map .int)]) := Ext.app x1.feed _
  obtain ⟨mv, H2, m1, e2, x3, l2⟩ := pick_ok (n := n) (s := .ref H1.length) (xs := L1.map .int) x2.feed (.inr ⟨_, rfl, by omega, by simp⟩) (by simp [L1]) (by simp [L1])
  obtain ⟨many, hmany, rfl⟩ : ∃ x : Int, (0 ≤ x ∧ x ≤ most) ∧ mv = .int x := by
    rw [List.mem_map] at m1
    obtain ⟨y, hy, rfl⟩ := m1
    refine ⟨y, ?_, rfl⟩
    simp only [L1, List.mem_cons, List.not_mem_nil, or_false] at hy
    rcases hy with h | h | h | h | h | h <;> omega
  have X2 : Ext n H H2 := (x1.trans x2).trans x3
  have s1 : ∀ z3 z4 z5 z6 z7, sSet 3 (eCall 2 m_law_pick (aCons (eVar 0) (aCons (eLst (aCons (eVar 1) (aCons (eOp subD (eVar 1) (eC (.int 1))) (aCons (eVar 1) (aCons (eOp subD (eVar 1) (eC (.int 2))) (aCons (eVar 1) (aCons (eCall 2 m_law_take (aCons (eVar 0) (aCons (eOp addD (eVar 1) (eC (.int 1))) aNil))) aNil))))))) aNil))) [some (.ref n), some (.int most), some (.int rows), z3, z4, z5, z6, z7] H
      = some (.nx, [some (.ref n), some (.int most), some (.int rows), some (.int many), z4, z5, z6, z7], H2) := by
    intro z3 z4 z5 z6 z7
    have z : (6 : Nat) ≤ sizeLine := by omega
    simp [sSet, eCall, aCons, aNil, eVar, eLst, eOp, subD, iiD, CT, eC, addD, e1, mkL, z]
    simp [L1] at e2
    simp [e2]
  -- way
  obtain ⟨way, H3, w0, w1, e3, x4, l3⟩ := take_ok (n := n) (k := 4) X2.feed (by omega) (by omega)
  have X3 := X2.trans x4
  have s2 : ∀ z4 z5 z6 z7, sSet 4 (eCall 2 m_law_take (aCons (eVar 0) (aCons (eC (.int 4)) aNil))) [some (.ref n), some (.int most), some (.int rows), some (.int many), z4, z5, z6, z7] H2
      = some (.nx, [some (.ref n), some (.int most), some (.int rows), some (.int many), some (.int way), z5, z6, z7], H3) := by
    intro z4 z5 z6 z7
    simp [sSet, eCall, aCons, aNil, eVar, eC, e3]
  have sm : smallI many := ⟨by omega, by omega⟩
  -- kinds
  obtain ⟨ks, H4, e4, g4, l4, x5⟩ := lc_feed' (n := n) (c0 := [some (.ref n)]) (te := eCall 2 m_law_pick (aCons (eVar 1) (aCons (eLst (aCons (eC (.str "all")) (aCons (eC (.str "some")) aNil))) aNil))) (Ok := IsI) (Good := IsKind) (fun x H _ hf => by
      have y1 : Ext n H (H ++ [.lst [.str "all", .str "some"]]) := Ext.app hf _
      obtain ⟨d, H', dm, e, y2, _⟩ := pick_ok (n := n) (s := .ref H.length) (xs := [.str "all", .str "some"]) y1.feed (.inr ⟨_, rfl, Nat.ne_of_gt (flt hf), by simp⟩) (by simp) (by simp)
      refine ⟨d, H', ?_, by simpa [IsKind] using dm, y1.trans y2⟩
      have z : (2 : Nat) ≤ sizeLine := by omega
      simp [eCall, aCons, aNil, eVar, eLst, eC, mkL, z, e]) (rangeL 0 many.toNat) H3 (range_I _ _) X3.feed
  have X4 := X3.trans x5
  rw [range_len] at l4
  have lk : ks.length ≤ sizeLine := by omega
  have x6 : Ext n H4 (H4 ++ [.lst ks]) := Ext.app X4.feed _
  have X5 := X4.trans x6
  have s3 : ∀ z5 z6 z7, sSet 5 (eLC (iR1 (aCons (eVar 3) aNil)) [0] tYes (eCall 2 m_law_pick (aCons (eVar 1) (aCons (eLst (aCons (eC (.str "all")) (aCons (eC (.str "some")) aNil))) aNil)))) [some (.ref n), some (.int most), some (.int rows), some (.int many), some (.int way), z5, z6, z7] H3
      = some (.nx, [some (.ref n), some (.int most), some (.int rows), some (.int many), some (.int way), some (.ref H4.length), z6, z7], H4 ++ [.lst ks]) := by
    intro z5 z6 z7
    refine set_nx (d := .ref H4.length) ?_
    unfold eLC
    rw [it_R1 (j := many) (H1 := H3) (by simp [eVar]) sm]
    simp only [Option.bind_some, capD, List.map_cons, List.map_nil, List.getElem?_cons_zero, Option.join_some]
    rw [e4]
    simp [mkL, lk]
  -- kinds by turns
  obtain ⟨ks2, H6, k6, e6, g6, l6, X6, q6, ge6⟩ : ∃ (ks2 : List D) (H6 : HD) (k6 : Nat), (∀ z6 z7, sIf (tOf (eOp eqD (eVar 4) (eC (.int 0)))) (sSeq (sSet 5 (eLC (iR1 (aCons (eVar 3) aNil)) [] tYes (eOp ixD (eLst (aCons (eC (.str "some")) (aCons (eC (.str "all")) aNil))) (eOp modD (eVar 0) (eC (.int 2)))))) sNil) sNil [some (.ref n), some (.int most), some (.int rows), some (.int many), some (.int way), some (.ref H4.length), z6, z7] (H4 ++ [.lst ks])
      = some (.nx, [some (.ref n), some (.int most), some (.int rows), some (.int many), some (.int way), some (.ref k6), z6, z7], H6)) ∧ (∀ d ∈ ks2, IsKind d) ∧ ks2.length = many.toNat ∧ Ext n H H6 ∧ H6[k6]? = some (.lst ks2) ∧ H.length ≤ k6 := by
    by_cases hw : way = 0
    · obtain ⟨ds, H5, e5, g5, l5, y5⟩ := lc_feed' (n := n) (c0 := []) (te := eOp ixD (eLst (aCons (eC (.str "some")) (aCons (eC (.str "all")) aNil))) (eOp modD (eVar 0) (eC (.int 2)))) (Ok := IsI) (Good := IsKind) (fun x H hx hf => by
          obtain ⟨i, rfl⟩ := hx
          have z : (2 : Nat) ≤ sizeLine := by omega
          have c : CPos i 2 := by show (0 : Int) < 2; decide
          have hi : i % 2 = 0 ∨ i % 2 = 1 := by omega
          rcases hi with hi | hi
          · exact ⟨.str "some", H ++ [.lst [.str "some", .str "all"]], by simp [eOp, eLst, aCons, aNil, eC, mkL, z, eVar, modD, iiD, c, ixD, seqD, hi, atI, ixN], .inr rfl, Ext.app hf _⟩
          · exact ⟨.str "all", H ++ [.lst [.str "some", .str "all"]], by simp [eOp, eLst, aCons, aNil, eC, mkL, z, eVar, modD, iiD, c, ixD, seqD, hi, atI, ixN], .inl rfl, Ext.app hf _⟩) (rangeL 0 many.toNat) (H4 ++ [.lst ks]) (range_I _ _) X5.feed
      rw [range_len] at l5
      have ld : ds.length ≤ sizeLine := by omega
      have y6 : Ext n H5 (H5 ++ [.lst ds]) := Ext.app y5.feed _
      refine ⟨ds, H5 ++ [.lst ds], H5.length, fun z6 z7 => ?_, g5, l5, (X5.trans y5).trans y6, by simp, Nat.le_trans X5.len y5.len⟩
      have t : tOf (eOp eqD (eVar 4) (eC (.int 0))) [some (.ref n), some (.int most), some (.int rows), some (.int many), some (.int way), some (.ref H4.length), z6, z7] (H4 ++ [.lst ks]) = some (true, H4 ++ [.lst ks]) := by
        simp [tOf, eOp, eVar, eC, eq_int, blD, hw]
      unfold sIf
      rw [t]
      simp only [Option.bind_some, if_true]
      rw [seq_nx (set_nx (d := .ref H5.length) (H1 := H5 ++ [.lst ds]) ?_)]
      · rfl
      · unfold eLC
        rw [it_R1 (j := many) (H1 := H4 ++ [.lst ks]) (by simp [eVar]) sm]
        simp only [Option.bind_some, capD, List.map_nil]
        rw [e5]
        simp [mkL, ld]
    · refine ⟨ks, H4 ++ [.lst ks], H4.length, fun z6 z7 => ?_, g4, l4, X5, by simp, X4.len⟩
      have t : tOf (eOp eqD (eVar 4) (eC (.int 0))) [some (.ref n), some (.int most), some (.int rows), some (.int many), some (.int way), some (.ref H4.length), z6, z7] (H4 ++ [.lst ks]) = some (false, H4 ++ [.lst ks]) := by
        simp [tOf, eOp, eVar, eC, eq_int, blD, hw]
      unfold sIf
      rw [t]
      rfl
  have lt6 : k6 < H6.length := (List.getElem?_eq_some_iff.mp q6).1
  have k6n : k6 ≠ n := by omega
  -- how many rows
  obtain ⟨t5, H7, f0, f1, e7, x7, l7⟩ := take_ok (n := n) (k := rows + 1) X6.feed (by omega) (by omega)
  let L2 : List Int := [many, many + many / 2, 2 * many, many / 2 + 1, t5, 2]
  have x8 : Ext n H7 (H7 ++ [.lst (L2.map .int)]) := Ext.app x7.feed _
  obtain ⟨sv, H8, m8, e8, x9, l8⟩ := pick_ok (n := n) (s := .ref H7.length) (xs := L2.map .int) x8.feed (.inr ⟨_, rfl, by omega, by simp⟩) (by simp [L2]) (by simp [L2])
  obtain ⟨size, hsize, rfl⟩ : ∃ x : Int, (0 ≤ x) ∧ sv = .int x := by
    rw [List.mem_map] at m8
    obtain ⟨y, hy, rfl⟩ := m8
    refine ⟨y, ?_, rfl⟩
    simp only [L2, List.mem_cons, List.not_mem_nil, or_false] at hy
    rcases hy with h | h | h | h | h | h <;> omega
  have y68 : Ext n H6 H8 := (x7.trans x8).trans x9
  have X8 : Ext n H H8 := X6.trans y68
  have s5 : ∀ z6 z7, sSet 6 (eCall 2 m_law_pick (aCons (eVar 0) (aCons (eLst (aCons (eVar 3) (aCons (eOp addD (eVar 3) (eOp fdivD (eVar 3) (eC (.int 2)))) (aCons (eOp mulD (eC (.int 2)) (eVar 3)) (aCons (eOp addD (eOp fdivD (eVar 3) (eC (.int 2))) (eC (.int 1))) (aCons (eCall 2 m_law_take (aCons (eVar 0) (aCons (eOp addD (eVar 2) (eC (.int 1))) aNil))) (aCons (eC (.int 2)) aNil))))))) aNil))) [some (.ref n), some (.int most), some (.int rows), some (.int many), some (.int way), some (.ref k6), z6, z7] H6
      = some (.nx, [some (.ref n), some (.int most), some (.int rows), some (.int many), some (.int way), some (.ref k6), some (.int size), z7], H8) := by
    intro z6 z7
    have z : (6 : Nat) ≤ sizeLine := by omega
    have c1 : CDiv many 2 := ⟨by decide, by decide⟩
    have c2 : ∀ z, CMul 2 z := fun _ => .inl ⟨by decide, by decide⟩
    simp [sSet, eCall, aCons, aNil, eVar, eLst, eOp, fdivD, mulD, c1, c2, iiD, CT, eC, addD, e7, mkL, z]
    simp [L2] at e8
    simp [e8]
  -- the rows
  let cnt : Int := if size < rows then size else rows
  have hc : 0 ≤ cnt ∧ cnt ≤ rows := by show 0 ≤ (if size < rows then size else rows) ∧ (if size < rows then size else rows) ≤ rows; split <;> omega
  have sc : smallI cnt := ⟨by omega, by omega⟩
  obtain ⟨fs, H9, e9, g9, l9, y89⟩ := lc_feed' (n := n) (c0 := [some (.ref n), some (.int many)]) (te := eCall 2 m_law_row (aCons (eVar 1) (aCons (eVar 2) aNil))) (Ok := IsI) (Good := RowIn many) (fun x H _ hf => by
      obtain ⟨ls, H', e, b, l, y, up⟩ := row_ok2 (n := n) (m := many) hf hmany.1 (by omega)
      exact ⟨.tup (ls.map .int), H', by simp [eCall, aCons, aNil, eVar, e], ⟨ls, rfl, b, l, up⟩, y⟩) (rangeL 0 cnt.toNat) H8 (range_I _ _) X8.feed
  rw [range_len] at l9
  have X9 : Ext n H H9 := X8.trans y89
  have lf : fs.length ≤ sizeLine := by omega
  have y9 : Ext n H9 (H9 ++ [.lst fs]) := Ext.app X9.feed _
  have s6 : ∀ z7, sSet 7 (eLC (iR1 (aCons (eCB minD (aCons (eVar 2) (aCons (eVar 6) aNil))) aNil)) [0, 3] tYes (eCall 2 m_law_row (aCons (eVar 1) (aCons (eVar 2) aNil)))) [some (.ref n), some (.int most), some (.int rows), some (.int many), some (.int way), some (.ref k6), some (.int size), z7] H8
      = some (.nx, [some (.ref n), some (.int most), some (.int rows), some (.int many), some (.int way), some (.ref k6), some (.int size), some (.ref H9.length)], H9 ++ [.lst fs]) := by
    intro z7
    refine set_nx (d := .ref H9.length) ?_
    unfold eLC
    rw [it_R1 (j := cnt) (H1 := H8) (by simp [eCB, aCons, aNil, eVar, minD, cnt]) sc]
    simp only [Option.bind_some, capD, List.map_cons, List.map_nil, List.getElem?_cons_zero, List.getElem?_cons_succ, Option.join_some]
    rw [e9]
    simp [mkL, lf]
  have q9 : (H9 ++ [.lst fs])[H9.length]? = some (.lst fs) := by simp
  have k9 : H9[k6]? = some (.lst ks2) := (y68.trans y89).old k6 _ k6n q6
  have X10 : Ext n H (H9 ++ [.lst fs]) := X9.trans y9
  have le9 : H.length ≤ H9.length := X9.len
  have n9 : H9.length ≠ n := by omega
  have k69 : k6 ≠ H9.length := Nat.ne_of_lt (List.getElem?_eq_some_iff.mp k9).1
  have s7 : ∃ (fs2 : List D) (H12 : HD), sIf (tAn (tOf (eOp neD (eVar 7) (eLst aNil))) (tOf (eOp eqD (eCall 2 m_law_take (aCons (eVar 0) (aCons (eC (.int 6)) aNil))) (eC (.int 0))))) (sSeq (sExpr (eLM appendD (eVar 7) (aCons (eCall 2 m_law_pick (aCons (eVar 0) (aCons (eVar 7) aNil))) aNil))) sNil) sNil [some (.ref n), some (.int most), some (.int rows), some (.int many), some (.int way), some (.ref k6), some (.int size), some (.ref H9.length)] (H9 ++ [.lst fs])
      = some (.nx, [some (.ref n), some (.int most), some (.int rows), some (.int many), some (.int way), some (.ref k6), some (.int size), some (.ref H9.length)], H12) ∧ H12[H9.length]? = some (.lst fs2) ∧ (∀ d ∈ fs2, RowIn many d) ∧ Ext n H H12 ∧ H12[k6]? = some (.lst ks2) ∧ fs2.length ≤ 100 := by
    have z0 : (0 : Nat) ≤ sizeLine := Nat.zero_le _
    have y10 : Ext n (H9 ++ [.lst fs]) (H9 ++ [.lst fs] ++ [.lst []]) := Ext.app X10.feed _
    have q10 : (H9 ++ [DO.lst fs] ++ [.lst []])[H9.length]? = some (.lst fs) := y10.old _ _ n9 q9
    have q11 : (H9 ++ [DO.lst fs] ++ [.lst []])[H9.length + 1]? = some (.lst []) := by simp
    have kk := (y9.trans y10).old k6 _ k6n k9
    have nn := ne_nil q10 q11 (fun d hd => (g9 d hd).row)
    have t1 : tOf (eOp neD (eVar 7) (eLst aNil)) [some (.ref n), some (.int most), some (.int rows), some (.int many), some (.int way), some (.ref k6), some (.int size), some (.ref H9.length)] (H9 ++ [.lst fs]) = some (!fs.isEmpty, H9 ++ [.lst fs] ++ [.lst []]) := by
      simp only [List.append_assoc, List.cons_append, List.nil_append] at nn ⊢
      simp [tOf, eOp, eVar, eLst, aNil, mkL, nn, blD]
    by_cases hne : fs = []
    · subst hne
      refine ⟨[], H9 ++ [.lst []] ++ [.lst []], ?_, q10, g9, X10.trans y10, kk, by simp⟩
      unfold sIf tAn
      rw [t1]
      rfl
    · have ht : (!fs.isEmpty) = true := by cases fs <;> simp_all
      obtain ⟨r, H11, r0, r1, e11, y11, _⟩ := take_ok (n := n) (k := 6) y10.feed (by omega) (by omega)
      have t2 : tOf (eOp eqD (eCall 2 m_law_take (aCons (eVar 0) (aCons (eC (.int 6)) aNil))) (eC (.int 0))) [some (.ref n), some (.int most), some (.int rows), some (.int many), some (.int way), some (.ref k6), some (.int size), some (.ref H9.length)] (H9 ++ [.lst fs] ++ [.lst []]) = some (r == 0, H11) := by
        unfold tOf eOp
        rw [take_call (n := n) (k := 6) (r := r) (H' := H11) (by simp) (by simp [eC]) e11]
        simp [eC, eq_int, blD]
      have Z := (y9.trans y10).trans y11
      have q12 := y11.old _ _ n9 q10
      have kk2 := y11.old _ _ k6n kk
      by_cases hr0 : r = 0
      · have hpos : 0 < fs.length := List.length_pos_iff.mpr hne
        obtain ⟨d, H13, dm, e13, y13, _⟩ := pick_ok (n := n) (s := .ref H9.length) (xs := fs) y11.feed (.inr ⟨_, rfl, n9, q12⟩) hpos (by omega)
        have q13 := y13.old _ _ n9 q12
        have kk3 := y13.old _ _ k6n kk2
        have lt13 : H9.length < H13.length := (List.getElem?_eq_some_iff.mp q13).1
        have W : Ext n H H13 := (X9.trans Z).trans y13
        refine ⟨fs ++ [d], H13.set H9.length (.lst (fs ++ [d])), ?_, by simp [lt13], ?_, ?_, ?_, ?_⟩
        · unfold sIf tAn
          rw [t1]
          simp only [Option.bind_some, ht, if_true, t2]
          have hs : fs.length < sizeLine := by omega
          simp [hr0, sSeq, sExpr, eLM, eVar, isLst, q12, aCons, aNil, eCall, e13, appendD, q13, hs, sNil]
        · intro z hz
          rcases List.mem_append.mp hz with hz | hz
          · exact g9 z hz
          · simp at hz; subst hz; exact g9 _ dm
        · refine ⟨?_, fun m o hm q => ?_, by simpa using W.len⟩
          · obtain ⟨a, b, f⟩ := W.feed
            exact ⟨a, b, by rw [List.getElem?_set_ne n9]; exact f⟩
          · have : m < H.length := (List.getElem?_eq_some_iff.mp q).1
            rw [List.getElem?_set_ne (by omega)]; exact W.old m o hm q
        · rw [List.getElem?_set_ne (Ne.symm k69)]; exact kk3
        · simp; omega
      · refine ⟨fs, H11, ?_, q12, g9, X9.trans Z, kk2, by omega⟩
        unfold sIf tAn
        rw [t1]
        simp only [Option.bind_some, ht, if_true, t2]
        simp [hr0, sNil]
  obtain ⟨fs2, H12, e12, q12, g12, X12, kk, lf2⟩ := s7
  refine ⟨ks2, cutD fs2 none (some rows), H12 ++ [.lst (cutD fs2 none (some rows))], ?_, g6, by omega, ?_, ?_, X12.trans (Ext.app X12.feed _)⟩
  · have n12 : H12.length ≠ k6 := Nat.ne_of_gt (List.getElem?_eq_some_iff.mp kk).1
    have z2 : (2 : Nat) ≤ sizeLine := by omega
    have ret : sRet (eTup (aCons (eCB tupleD (aCons (eVar 5) aNil)) (aCons (eCB tupleD (aCons (eSl (eVar 7) oNone (oSome (eVar 2))) aNil)) aNil))) [some (.ref n), some (.int most), some (.int rows), some (.int many), some (.int way), some (.ref k6), some (.int size), some (.ref H9.length)] H12
        = some (.rt (.tup [.tup ks2, .tup (cutD fs2 none (some rows))]), [some (.ref n), some (.int most), some (.int rows), some (.int many), some (.int way), some (.ref k6), some (.int size), some (.ref H9.length)], H12 ++ [.lst (cutD fs2 none (some rows))]) := by
      simp [sRet, eTup, aCons, aNil, eCB, tupleD, eVar, seqD, kk, eSl, oNone, oSome, slD, q12, mkT, z2]
    show ((b_law_claim [some (.ref n), some (.int most), some (.int rows), none, none, none, none, none] H).bind _) = _
    unfold b_law_claim
    rw [seq_nx (s1 _ _ _ _ _), seq_nx (s2 _ _ _ _), seq_nx (s3 _ _ _), seq_nx (e6 _ _), seq_nx (s5 _ _), seq_nx (s6 _), seq_nx e12, seq_rt ret]
    rfl
  · intro d hd
    have hm : (ks2.length : Int) = many := by omega
    rw [hm]
    exact g12 d (List.mem_of_mem_drop (List.mem_of_mem_take hd))
  · unfold cutD
    have : HT.sIx fs2.length 0 none = 0 := rfl
    have h2 : HT.sIx fs2.length fs2.length (some rows) = min rows.toNat fs2.length := by
      show (if rows < 0 then _ else _) = _
      rw [if_neg (by omega)]
    rw [this, h2]
    simp only [List.length_take, List.length_drop]
    omega
end LH
namespace LH
open PySem L2 DL
structure Sh (x : PyData) (w dp : Nat) : Prop where
  lay : x.canLay0 = true
  sh : x.showable = true
  dep : x.depth ≤ dp
  lv : x.leavesShort 40 = true
  wt : x.weight ≤ w
theorem Sh.can {x : PyData} {w dp : Nat} (h : Sh x w dp) (hw : w ≤ 100000) (hd : dp ≤ 30) : canShow x = true := by
  have sz : sizeLine = 16777216 := PySem.sizeLine_eq
  have l := PyData.shown_le 40 (by omega) x h.lv
  have h1 : x.shown.length ≤ sizeLine := by
    have := h.wt
    rw [sz]; omega
  have h2 : x.depth ≤ 30 := Nat.le_trans h.dep hd
  simp [canShow, h.lay, h.sh, h1, h2]
theorem shInts : ∀ k : Fin 61, (PyData.shown (.int ((k.val : Int) - 30))).length ≤ 40 ∧ ((PyData.int ((k.val : Int) - 30)).showable = true) ∧ (PyData.int ((k.val : Int) - 30)).weight ≤ 40 := by decide
theorem Sh.int {i : Int} (h0 : -30 ≤ i) (h1 : i ≤ 30) : Sh (.int i) 40 0 := by
  have h := shInts ⟨(i + 30).toNat, by omega⟩
  have e : (((i + 30).toNat : Nat) : Int) - 30 = i := by omega
  simp only [e] at h
  exact ⟨rfl, h.2.1, Nat.le_refl _, by simpa [PyData.leavesShort] using h.1, h.2.2⟩
theorem toP_str (H : HD) (n : Nat) (x : Str) : toP H n (.str x) = some (.str x) := by cases n <;> rw [toP]
theorem strOk_list {x : Str} (h : (x.cps.toList.all fun c => decide (c < 0x110000)) = true) : PyData.strOk x = true := by
  unfold PyData.strOk
  rw [← Array.all_toList]
  exact h
theorem sh_all {H : HD} {n w dp : Nat} : ∀ xs : List D, (∀ d ∈ xs, ∃ x, toP H n d = some x ∧ Sh x w dp) → ∃ ps, toPs H n xs = some ps ∧ PyData.canLayAll0 ps = true ∧ PyData.showableAll ps = true ∧ PyData.depthAll ps ≤ dp ∧ PyData.leavesShortAll 40 ps = true ∧ PyData.weightAll ps ≤ xs.length * (w + 1) ∧ ps.length = xs.length
  | [], _ => ⟨[], by rw [toPs], rfl, rfl, Nat.zero_le _, rfl, Nat.zero_le _, rfl⟩
  | d :: xs, h => by
    obtain ⟨x, e1, s⟩ := h d (by simp)
    obtain ⟨ps, e2, a1, a2, a3, a4, a5, a6⟩ := sh_all (H := H) (n := n) (w := w) (dp := dp) xs fun z hz => h z (by simp [hz])
    refine ⟨x :: ps, ?_, ?_, ?_, ?_, ?_, ?_, by simp [a6]⟩
    · rw [toPs, e1, e2]; rfl
    · simp [PyData.canLayAll0, s.lay, a1]
    · simp [PyData.showableAll, s.sh, a2]
    · simp only [PyData.depthAll]; exact Nat.max_le.mpr ⟨s.dep, a3⟩
    · simp [PyData.leavesShortAll, s.lv, a4]
    · simp only [PyData.weightAll, List.length_cons, Nat.succ_mul]
      have := s.wt
      omega
theorem ne_same (t : Str) (H : HD) : neD (.str t) (.str t) H = some (.bl false, H) := by
  simp [neD, twoS]
theorem cut_hi (xs : List D) (k : Nat) : cutD xs none (some (k : Int)) = xs.take k := by
  unfold cutD
  have h1 : HT.sIx xs.length 0 none = 0 := rfl
  have h2 : HT.sIx xs.length xs.length (some (k : Int)) = min k xs.length := by
    show (if (k : Int) < 0 then ((k : Int) + (xs.length : Int)).toNat else min (k : Int).toNat xs.length) = min k xs.length
    rw [if_neg (by omega), Int.toNat_natCast]
  rw [h1, h2]
  simp
theorem ac {f : EF} {g : AF} {σ : SD} {H H1 H2 : HD} {d : D} {ds : List D} (h1 : f σ H = some (d, H1)) (h2 : g σ H1 = some (ds, H2)) : aCons f g σ H = some (d :: ds, H2) := by
  unfold aCons; rw [h1]; simp only [Option.bind_some]; rw [h2]; rfl
theorem an {σ : SD} {H : HD} : aNil σ H = some ([], H) := rfl
theorem cb {g : FF} {f : AF} {σ : SD} {H H1 : HD} {ds : List D} {r : Option (D × HD)} (h1 : f σ H = some (ds, H1)) (h2 : g ds H1 = r) : eCB g f σ H = r := by
  unfold eCB; rw [h1]; exact h2
theorem tu {n : Nat} {xs : List D} {H : HD} (h : H[n]? = some (.lst xs)) : tupleD [.ref n] H = some (.tup xs, H) := by
  simp [tupleD, seqD, h]
theorem tp {f : AF} {σ : SD} {H H1 : HD} {ds : List D} (h1 : f σ H = some (ds, H1)) (h2 : ds.length ≤ 1000000) : eTup f σ H = some (.tup ds, H1) := by
  unfold eTup; rw [h1]; exact if_pos (size_ok h2)
theorem ls {f : AF} {σ : SD} {H H1 : HD} {ds : List D} (h1 : f σ H = some (ds, H1)) (h2 : ds.length ≤ 1000000) : eLst f σ H = some (.ref H1.length, H1 ++ [.lst ds]) := by
  unfold eLst; rw [h1]; exact if_pos (size_ok h2)
theorem ca {n : Nat} {F : FF} {f : AF} {σ : SD} {H H1 : HD} {ds : List D} {r : Option (D × HD)} (h1 : f σ H = some (ds, H1)) (hl : ds.length = n) (h2 : F ds H1 = r) : eCall n F f σ H = r := by
  unfold eCall; rw [h1]; simp only [Option.bind_some]; rw [if_pos hl]; exact h2
theorem rt {f : EF} {σ : SD} {H H1 : HD} {d : D} (h : f σ H = some (d, H1)) : sRet f σ H = some (.rt d, σ, H1) := by
  unfold sRet; rw [h]; rfl
theorem op {g : F2} {fa fb : EF} {σ : SD} {H H1 H2 : HD} {d1 d2 : D} {r : Option (D × HD)} (h1 : fa σ H = some (d1, H1)) (h2 : fb σ H1 = some (d2, H2)) (h3 : g d1 d2 H2 = r) : eOp g fa fb σ H = r := by
  unfold eOp; rw [h1]; simp only [Option.bind_some]; rw [h2]; exact h3
theorem iff_t {t : TF} {f g : SF} {σ : SD} {H H1 : HD} {b : Bool} (h : t σ H = some (b, H1)) : sIf t f g σ H = if b = true then f σ H1 else g σ H1 := by
  unfold sIf; rw [h]; rfl
theorem tof {f : EF} {σ : SD} {H H1 : HD} {b : Bool} (h : f σ H = some (.bl b, H1)) : tOf f σ H = some (b, H1) := by
  unfold tOf; rw [h]; rfl
theorem lenT (xs : List D) (H : HD) : lenD [.tup xs] H = some (.int xs.length, H) := by simp [lenD, seqD]
theorem lenB (bs : List Bool) (H : HD) : lenD [.tup (bs.map .bl)] H = some (.int bs.length, H) := by simp [lenD, seqD]
theorem ixT {xs : List D} {i : Int} {d : D} {H : HD} (h : atI xs i = some d) : ixD (.tup xs) (.int i) H = some (d, H) := by simp [ixD, seqD, h]
theorem skip {t : TF} {f g : SF} {σ : SD} {H H1 : HD} (h : t σ H = some (false, H1)) : sSeq (sIf t f sNil) g σ H = g σ H1 := by
  refine seq_nx ?_
  rw [iff_t h]
  rfl
theorem hit {t : TF} {f f2 g : SF} {σ σ1 : SD} {H H1 H2 : HD} {d : D} (h : t σ H = some (true, H1)) (h2 : f σ H1 = some (.rt d, σ1, H2)) : sSeq (sIf t (sSeq f sNil) f2) g σ H = some (.rt d, σ1, H2) := by
  refine seq_rt ?_
  rw [iff_t h]
  exact seq_rt h2
theorem vr {i : Nat} {σ : SD} {H : HD} {d : D} (h : σ[i]? = some (some d)) : eVar i σ H = some (d, H) := by simp [eVar, h]
theorem sl {fe : EF} {fl fh : OF} {σ : SD} {H H1 H2 H3 : HD} {d : D} {l h : Option Int} {r : Option (D × HD)} (h1 : fe σ H = some (d, H1)) (h2 : fl σ H1 = some (l, H2)) (h3 : fh σ H2 = some (h, H3)) (h4 : slD d l h H3 = r) : eSl fe fl fh σ H = r := by
  unfold eSl; rw [h1]; simp only [Option.bind_some]; rw [h2]; simp only [Option.bind_some]; rw [h3]; exact h4
theorem os {f : EF} {σ : SD} {H H1 : HD} {i : Int} (h : f σ H = some (.int i, H1)) : oSome f σ H = some (some i, H1) := by
  unfold oSome; rw [h]; rfl
theorem slhi {xs : List D} {k : Nat} {H : HD} : slD (.tup xs) none (some (k : Int)) H = some (.tup (xs.take k), H) := by
  rw [← cut_hi]; rfl
theorem adT {xs ys : List D} {H : HD} (h : xs.length + ys.length ≤ 1000000) : addD (.tup xs) (.tup ys) H = some (.tup (xs ++ ys), H) :=
  if_pos (size_ok (by rw [List.length_append]; exact h))
theorem suI (i j : Int) (H : HD) : subD (.int i) (.int j) H = some (.int (i - j), H) := by simp [subD, iiD, CT]
theorem ExtS.app {S : List Nat} {H : HD} (L : HD) : ExtS S H (H ++ L) := ⟨fun m o _ q => by
  have : m < H.length := (List.getElem?_eq_some_iff.mp q).1
  rw [List.getElem?_append_left this]; exact q, by simp⟩
noncomputable def rowD (ls : List Int) : D := .tup (ls.map .int)
noncomputable def b_law_feed : SF :=
  (sSeq (sSet 2 (eC (.int 0)))
  (sSeq (sIf (tOf (eOp ltD (eVar 1) (eCB lenD (aCons (eVar 0) aNil)))) (sSeq (sSet 2 (eOp ixD (eVar 0) (eVar 1)))
  sNil) sNil)
  (sSeq (sSet 3 (eC (.int 0)))
  (sSeq (sIf (tOf (eOp geD (eVar 2) (eOp powD (eC (.int 10)) (eC (.int 18))))) (sSeq (sSet 3 (eOp subD (eVar 2) (eOp powD (eC (.int 10)) (eC (.int 18)))))
  sNil) sNil)
  (sSeq (sSet 4 (eOp modD (eOp addD (eOp addD (eOp mulD (eOp modD (eVar 2) (eC (.int 2147483647))) (eC (.int 48271))) (eOp mulD (eC (.int 7919)) (eVar 1))) (eC (.int 5))) (eC (.int 2147483629))))
  (sSeq (sRet (eLst (aCons (eVar 3) (aCons (eOp addD (eOp modD (eOp powD (eVar 4) (eC (.int 5))) (eC (.int 2147483587))) (eC (.int 1))) aNil))))
  sNil))))))
noncomputable def m_law_feed : FF := runB 2 5 b_law_feed
theorem feed_ok (ns : List Int) (at_ : Int) (h0 : 0 ≤ at_) (h1 : at_ < 1000) (H : HD) : ∃ a b, m_law_feed [.fl (ns.map .int), .int at_] H = some (.ref H.length, H ++ [.lst [.int a, .int b]]) := by
  have z2 : (2 : Nat) ≤ sizeLine := size_ok (by omega)
  have c0 : CPow 10 18 := ⟨by decide, by decide, by decide⟩
  have c1 : ∀ z k, 0 < k → CPos z k := fun _ _ h => h
  have c2 : ∀ z, CMul z 48271 := fun _ => .inr ⟨by decide, by decide⟩
  have c3 : ∀ z, CMul 7919 z := fun _ => .inl ⟨by decide, by decide⟩
  have p18 : ((10 : Int) ^ (18 : Int).toNat) = 1000000000000000000 := by decide
  have run : ∀ v : Int, ∃ a b, (sSeq (sSet 3 (eC (.int 0)))
  (sSeq (sIf (tOf (eOp geD (eVar 2) (eOp powD (eC (.int 10)) (eC (.int 18))))) (sSeq (sSet 3 (eOp subD (eVar 2) (eOp powD (eC (.int 10)) (eC (.int 18)))))
  sNil) sNil)
  (sSeq (sSet 4 (eOp modD (eOp addD (eOp addD (eOp mulD (eOp modD (eVar 2) (eC (.int 2147483647))) (eC (.int 48271))) (eOp mulD (eC (.int 7919)) (eVar 1))) (eC (.int 5))) (eC (.int 2147483629))))
  (sSeq (sRet (eLst (aCons (eVar 3) (aCons (eOp addD (eOp modD (eOp powD (eVar 4) (eC (.int 5))) (eC (.int 2147483587))) (eC (.int 1))) aNil))))
  sNil)))) [some (.fl (ns.map .int)), some (.int at_), some (.int v), none, none] H = some (.rt (.ref H.length), [some (.fl (ns.map .int)), some (.int at_), some (.int v), some (.int a), some (.int b)], H ++ [.lst [.int a, .int (b ^ 5 % 2147483587 + 1)]]) := by
    intro v
    let a : Int := if (1000000000000000000 : Int) ≤ v then v - 1000000000000000000 else 0
    let b : Int := (v % 2147483647 * 48271 + 7919 * at_ + 5) % 2147483629
    refine ⟨a, b, ?_⟩
    have hb : 0 ≤ b ∧ b < 2147483629 := ⟨Int.emod_nonneg _ (by decide), Int.emod_lt_of_pos _ (by decide)⟩
    have c4 : CPow b 5 := ⟨by decide, by decide, by omega⟩
    have s1 : sSet 3 (eC (.int 0)) [some (.fl (ns.map .int)), some (.int at_), some (.int v), none, none] H = some (.nx, [some (.fl (ns.map .int)), some (.int at_), some (.int v), some (.int 0), none], H) := rfl
    have s2 : sIf (tOf (eOp geD (eVar 2) (eOp powD (eC (.int 10)) (eC (.int 18))))) (sSeq (sSet 3 (eOp subD (eVar 2) (eOp powD (eC (.int 10)) (eC (.int 18))))) sNil) sNil [some (.fl (ns.map .int)), some (.int at_), some (.int v), some (.int 0), none] H = some (.nx, [some (.fl (ns.map .int)), some (.int at_), some (.int v), some (.int a), none], H) := by
      by_cases hv : (1000000000000000000 : Int) ≤ v
      · simp [sIf, tOf, eOp, geD, eVar, powD, eC, iiD, CT, c0, blD, hv, sSeq, sSet, subD, sNil, a]
      · simp [sIf, tOf, eOp, geD, eVar, powD, eC, iiD, CT, c0, blD, hv, sNil, a]
    have s3 : sSet 4 (eOp modD (eOp addD (eOp addD (eOp mulD (eOp modD (eVar 2) (eC (.int 2147483647))) (eC (.int 48271))) (eOp mulD (eC (.int 7919)) (eVar 1))) (eC (.int 5))) (eC (.int 2147483629))) [some (.fl (ns.map .int)), some (.int at_), some (.int v), some (.int a), none] H = some (.nx, [some (.fl (ns.map .int)), some (.int at_), some (.int v), some (.int a), some (.int b)], H) := by
      have d1 : CPos v 2147483647 := c1 _ _ (by decide)
      have d2 : CPos (v % 2147483647 * 48271 + 7919 * at_ + 5) 2147483629 := c1 _ _ (by decide)
      simp [sSet, eOp, modD, eVar, eC, iiD, d1, mulD, c2, c3, addD, d2, b]
    rw [seq_nx s1, seq_nx s2, seq_nx s3]
    have d3 : CPos (b ^ 5) 2147483587 := c1 _ _ (by decide)
    refine seq_rt ?_
    simp [sRet, eLst, aCons, aNil, eVar, eOp, powD, eC, iiD, c4, modD, d3, addD, mkL, z2]
  show ∃ a b, ((b_law_feed [some (.fl (ns.map .int)), some (.int at_), none, none, none] H).bind _) = _
  unfold b_law_feed
  have s1 : sSet 2 (eC (.int 0)) [some (.fl (ns.map .int)), some (.int at_), none, none, none] H = some (.nx, [some (.fl (ns.map .int)), some (.int at_), some (.int 0), none, none], H) := rfl
  have s2 : ∃ v : Int, sIf (tOf (eOp ltD (eVar 1) (eCB lenD (aCons (eVar 0) aNil)))) (sSeq (sSet 2 (eOp ixD (eVar 0) (eVar 1))) sNil) sNil [some (.fl (ns.map .int)), some (.int at_), some (.int 0), none, none] H = some (.nx, [some (.fl (ns.map .int)), some (.int at_), some (.int v), none, none], H) := by
    by_cases hl : at_ < (ns.length : Int)
    · have hn : at_.toNat < ns.length := by omega
      refine ⟨ns[at_.toNat], ?_⟩
      have e : atI (ns.map D.int) at_ = some (D.int ns[at_.toNat]) := atI_toNat h0 (by rw [List.getElem?_map, List.getElem?_eq_getElem hn]; rfl)
      simp [sIf, tOf, eOp, ltD, eVar, eCB, aCons, aNil, lenD, seqD, iiD, CT, blD, hl, sSeq, sSet, ixD, e, sNil]
    · refine ⟨0, ?_⟩
      simp [sIf, tOf, eOp, ltD, eVar, eCB, aCons, aNil, lenD, seqD, iiD, CT, blD, hl, sNil]
  obtain ⟨v, s2⟩ := s2
  obtain ⟨a, b, e⟩ := run v
  refine ⟨a, b ^ 5 % 2147483587 + 1, ?_⟩
  rw [seq_nx s1, seq_nx s2, e]
  rfl
end LH
namespace LH
open PySem L2 DL
theorem orF {t u : TF} {σ : SD} {H H1 : HD} (h : t σ H = some (false, H1)) : tOrr t u σ H = u σ H1 := by unfold tOrr; rw [h]; rfl
theorem orT {t u : TF} {σ : SD} {H H1 : HD} (h : t σ H = some (true, H1)) : tOrr t u σ H = some (true, H1) := by unfold tOrr; rw [h]; rfl
theorem anF {t u : TF} {σ : SD} {H H1 : HD} (h : t σ H = some (false, H1)) : tAn t u σ H = some (false, H1) := by unfold tAn; rw [h]; rfl
theorem anT {t u : TF} {σ : SD} {H H1 : HD} (h : t σ H = some (true, H1)) : tAn t u σ H = u σ H1 := by unfold tAn; rw [h]; rfl
theorem toPs_bools (H : HD) (n : Nat) : ∀ bs : List Bool, toPs H n (bs.map .bl) = some (bs.map .bool)
  | [] => by rw [List.map_nil, toPs]; rfl
  | b :: bs => by rw [List.map_cons, toPs, toP_bl, toPs_bools H n bs]; rfl
theorem lay_bools : ∀ bs : List Bool, PyData.canLayAll0 (bs.map .bool) = true ∧ PyData.depthAll (bs.map .bool) = 0
  | [] => ⟨rfl, rfl⟩
  | b :: bs => by
    obtain ⟨h1, h2⟩ := lay_bools bs
    refine ⟨?_, ?_⟩
    · simp [PyData.canLayAll0, PyData.canLay0, h1]
    · simp [PyData.depthAll, PyData.depth, h2]
theorem ni_any : ∀ bs : List Bool, (!(bs.map PyData.bool).any fun z => PyData.eqv z (.bool false)) = bs.all id
  | [] => rfl
  | b :: r => by
    have ih := ni_any r
    rw [List.map_cons, List.any_cons, Bool.not_or, ih, List.all_cons]
    cases b <;> simp [PyData.eqv]
theorem ni_bools {H : HD} {p : Nat} {bs : List Bool} (h : H[p]? = some (.lst (bs.map .bl))) : niD (.bl false) (.ref p) H = some (.bl (bs.all id), H) := by
  have e1 : dat (.bl false) H = some (.bool false) := dat_bl H false
  have e2 : dat (.ref p) H = some (.list (bs.map .bool)) := by
    unfold dat
    rw [toP]
    simp only [h, toPs_bools, Option.map_some, Option.bind_some]
    rw [if_pos]
    obtain ⟨h1, h2⟩ := lay_bools bs
    simp [okP, PyData.canLay0, PyData.depth, h1, h2]
  unfold niD
  rw [e1]
  simp only [Option.bind_some]
  rw [e2]
  simp only [Option.bind_some, itemsP, Option.map_some]
  rw [ni_any bs]
theorem bl_comp {c0 : SD} {te : EF} {H : HD} {f : D → Bool} : ∀ ds : List D, (∀ d ∈ ds, te (some d :: c0) H = some (.bl (f d), H)) → compL [] c0 tYes te ds H = some ((ds.map f).map .bl, H)
  | [], _ => lc_end ok_nil
  | d :: ds, h => by
    rw [lc_step ok_nil (h d (by simp)), bl_comp ds fun x hx => h x (by simp [hx])]
    rfl
theorem lc_bls {it : ItF} {ci : List Nat} {c0 : SD} {te : EF} {σ : SD} {H : HD} {f : D → Bool} {ds : List D} (hi : it σ H = some ((ds, []), H)) (hc : capD ci σ = c0) (h : ∀ d ∈ ds, te (some d :: c0) H = some (.bl (f d), H)) (hl : ds.length ≤ 1000) : eLC it ci tYes te σ H = some (.ref H.length, H ++ [.lst ((ds.map f).map .bl)]) := by
  unfold eLC
  rw [hi]
  simp only [Option.bind_some]
  rw [hc, bl_comp ds h]
  have z : ((ds.map f).map D.bl).length ≤ sizeLine := size_ok (by simp; omega)
  exact if_pos z
end LH
namespace WP
open PySem L2 DL LH
noncomputable def wE (r : Option (D × HD)) (Q : D → HD → Prop) : Prop := ∃ d H, r = some (d, H) ∧ Q d H
noncomputable def wT (r : Option (Bool × HD)) (Q : Bool → HD → Prop) : Prop := ∃ d H, r = some (d, H) ∧ Q d H
noncomputable def wA (r : Option (List D × HD)) (Q : List D → HD → Prop) : Prop := ∃ d H, r = some (d, H) ∧ Q d H
noncomputable def wO (r : Option (Option Int × HD)) (Q : Option Int → HD → Prop) : Prop := ∃ d H, r = some (d, H) ∧ Q d H
noncomputable def wI (r : Option ((List D × OwnD) × HD)) (Q : List D → OwnD → HD → Prop) : Prop := ∃ d o H, r = some ((d, o), H) ∧ Q d o H
noncomputable def wG (r : Option (SD × HD)) (Q : SD → HD → Prop) : Prop := ∃ d H, r = some (d, H) ∧ Q d H
noncomputable def wH (r : Option HD) (Q : HD → Prop) : Prop := ∃ H, r = some H ∧ Q H
noncomputable def wS (r : Option (FD × SD × HD)) (Q : FD → SD → HD → Prop) : Prop := ∃ x d H, r = some (x, d, H) ∧ Q x d H
noncomputable def wN (n : Nat) (F : FF) (ds : List D) (H : HD) (Q : D → HD → Prop) : Prop := ds.length = n ∧ wE (F ds H) Q
noncomputable def br (b : Bool) (P Q : Prop) : Prop := (b = true → P) ∧ (b = false → Q)
noncomputable def kont (k : SD → HD → Prop) (Q : FD → SD → HD → Prop) : FD → SD → HD → Prop
  | .nx, σ, H => k σ H
  | r, σ, H => Q r σ H
noncomputable def fin (Q : D → HD → Prop) : FD → SD → HD → Prop
  | .rt d, _, H => Q d H
  | .nx, _, H => Q .non H
  | _, _, _ => False
section
variable {σ : SD} {H : HD} {Q : D → HD → Prop}
theorem w_var {i : Nat} {d : D} (h : (σ[i]?).join = some d) (q : Q d H) : wE (eVar i σ H) Q := ⟨d, H, by unfold eVar; rw [h]; rfl, q⟩
theorem w_c {d : D} (q : Q d H) : wE (eC d σ H) Q := ⟨d, H, rfl, q⟩
theorem w_op {g : F2} {fa fb : EF} (h : wE (fa σ H) fun x H1 => wE (fb σ H1) fun y H2 => wE (g x y H2) Q) : wE (eOp g fa fb σ H) Q := by
  obtain ⟨x, H1, e1, y, H2, e2, d, H3, e3, q⟩ := h
  exact ⟨d, H3, op e1 e2 e3, q⟩
theorem w_un {g : D → HD → Option (D × HD)} {fa : EF} (h : wE (fa σ H) fun x H1 => wE (g x H1) Q) : wE (eUn g fa σ H) Q := by
  obtain ⟨x, H1, e1, d, H3, e3, q⟩ := h
  exact ⟨d, H3, by unfold eUn; rw [e1]; exact e3, q⟩
theorem w_tof {f : EF} {Q : Bool → HD → Prop} (h : wE (f σ H) fun d H1 => ∃ b, d = .bl b ∧ Q b H1) : wT (tOf f σ H) Q := by
  obtain ⟨d, H1, e, b, rfl, q⟩ := h
  exact ⟨b, H1, tof e, q⟩
theorem w_bl {b : Bool} {P : Bool → Prop} (h : P b) : ∃ c, D.bl b = .bl c ∧ P c := ⟨b, rfl, h⟩
theorem w_ttru {f : EF} {Q : Bool → HD → Prop} (h : wE (f σ H) fun d H1 => ∃ b, truD d H1 = some b ∧ Q b H1) : wT (tTru f σ H) Q := by
  obtain ⟨d, H1, e, b, e2, q⟩ := h
  exact ⟨b, H1, by unfold tTru; rw [e]; simp only [Option.bind_some]; rw [e2]; rfl, q⟩
theorem w_no {t : TF} {Q : Bool → HD → Prop} (h : wT (t σ H) fun b H1 => Q (!b) H1) : wT (tNo t σ H) Q := by
  obtain ⟨b, H1, e, q⟩ := h
  exact ⟨!b, H1, by unfold tNo; rw [e]; rfl, q⟩
theorem w_or {t u : TF} {Q : Bool → HD → Prop} (h : wT (t σ H) fun b H1 => br b (Q true H1) (wT (u σ H1) Q)) : wT (tOrr t u σ H) Q := by
  obtain ⟨b, H1, e, q1, q2⟩ := h
  cases b with
  | true => exact ⟨true, H1, orT e, q1 rfl⟩
  | false => obtain ⟨c, H2, e2, q⟩ := q2 rfl; exact ⟨c, H2, (orF e).trans e2, q⟩
theorem w_eif {t : TF} {f g : EF} (h : wT (t σ H) fun b H1 => br b (wE (f σ H1) Q) (wE (g σ H1) Q)) : wE (eIf t f g σ H) Q := by
  obtain ⟨b, H1, e, q1, q2⟩ := h
  unfold eIf
  rw [e]; simp only [Option.bind_some]
  cases b with
  | true => rw [if_pos rfl]; exact q1 rfl
  | false => rw [if_neg (by simp)]; exact q2 rfl
theorem w_anil {Q : List D → HD → Prop} (q : Q [] H) : wA (aNil σ H) Q := ⟨[], H, rfl, q⟩
theorem w_acons {f : EF} {g : AF} {Q : List D → HD → Prop} (h : wE (f σ H) fun d H1 => wA (g σ H1) fun ds H2 => Q (d :: ds) H2) : wA (aCons f g σ H) Q := by
  obtain ⟨d, H1, e1, ds, H2, e2, q⟩ := h
  exact ⟨d :: ds, H2, ac e1 e2, q⟩
theorem w_cb {g : FF} {f : AF} (h : wA (f σ H) fun ds H1 => wE (g ds H1) Q) : wE (eCB g f σ H) Q := by
  obtain ⟨ds, H1, e1, d, H2, e2, q⟩ := h
  exact ⟨d, H2, cb e1 e2, q⟩
theorem w_call {n : Nat} {F : FF} {f : AF} (h : wA (f σ H) fun ds H1 => wN n F ds H1 Q) : wE (eCall n F f σ H) Q := by
  obtain ⟨ds, H1, e1, hl, d, H2, e2, q⟩ := h
  exact ⟨d, H2, ca e1 hl e2, q⟩
theorem w_n {n : Nat} {F : FF} {ds : List D} (hl : ds.length = n) (h : wE (F ds H) Q) : wN n F ds H Q := ⟨hl, h⟩
theorem w_tup {f : AF} (h : wA (f σ H) fun ds H1 => ds.length ≤ 1000000 ∧ Q (.tup ds) H1) : wE (eTup f σ H) Q := by
  obtain ⟨ds, H1, e1, hl, q⟩ := h
  exact ⟨_, H1, tp e1 hl, q⟩
theorem w_lst {f : AF} (h : wA (f σ H) fun ds H1 => ds.length ≤ 1000000 ∧ Q (.ref H1.length) (H1 ++ [.lst ds])) : wE (eLst f σ H) Q := by
  obtain ⟨ds, H1, e1, hl, q⟩ := h
  exact ⟨_, _, ls e1 hl, q⟩
theorem w_lm {g : D → List D → HD → Option (D × HD)} {fo : EF} {f : AF} (h : wE (fo σ H) fun o H1 => isLst o H1 = true ∧ wA (f σ H1) fun ds H2 => wE (g o ds H2) Q) : wE (eLM g fo f σ H) Q := by
  obtain ⟨o, H1, e1, i, ds, H2, e2, d, H3, e3, q⟩ := h
  exact ⟨d, H3, by unfold eLM; rw [e1]; simp only [Option.bind_some]; rw [if_pos i, e2]; exact e3, q⟩
theorem w_on {Q : Option Int → HD → Prop} (q : Q none H) : wO (oNone σ H) Q := ⟨none, H, rfl, q⟩
theorem w_os {f : EF} {Q : Option Int → HD → Prop} (h : wE (f σ H) fun d H1 => ∃ i, d = .int i ∧ Q (some i) H1) : wO (oSome f σ H) Q := by
  obtain ⟨d, H1, e, i, rfl, q⟩ := h
  exact ⟨some i, H1, os e, q⟩
theorem w_int {i : Int} {P : Int → Prop} (h : P i) : ∃ c, D.int i = .int c ∧ P c := ⟨i, rfl, h⟩
theorem w_sl {fe : EF} {fl fh : OF} (h : wE (fe σ H) fun x H1 => wO (fl σ H1) fun l H2 => wO (fh σ H2) fun u H3 => wE (slD x l u H3) Q) : wE (eSl fe fl fh σ H) Q := by
  obtain ⟨x, H1, e1, l, H2, e2, u, H3, e3, d, H4, e4, q⟩ := h
  exact ⟨d, H4, sl e1 e2 e3 e4, q⟩
variable {R : FD → SD → HD → Prop}
theorem w_snil (q : R .nx σ H) : wS (sNil σ H) R := ⟨_, _, _, rfl, q⟩
theorem w_seq {f g : SF} (h : wS (f σ H) (kont (fun σ1 H1 => wS (g σ1 H1) R) R)) : wS (sSeq f g σ H) R := by
  obtain ⟨x, σ1, H1, e, k⟩ := h
  unfold sSeq
  rw [e]; simp only [Option.bind_some]
  cases x with
  | nx => exact k
  | bk => exact ⟨_, _, _, rfl, k⟩
  | ct => exact ⟨_, _, _, rfl, k⟩
  | rt d => exact ⟨_, _, _, rfl, k⟩
theorem w_kn {k : SD → HD → Prop} (h : k σ H) : kont k R .nx σ H := h
theorem w_kr {k : SD → HD → Prop} {d : D} (h : R (.rt d) σ H) : kont k R (.rt d) σ H := h
theorem w_fr {d : D} (h : Q d H) : fin Q (.rt d) σ H := h
theorem w_fn (h : Q .non H) : fin Q .nx σ H := h
theorem w_ret {f : EF} (h : wE (f σ H) fun d H1 => R (.rt d) σ H1) : wS (sRet f σ H) R := by
  obtain ⟨d, H1, e, q⟩ := h; exact ⟨_, _, _, rt e, q⟩
theorem w_expr {f : EF} (h : wE (f σ H) fun d H1 => R .nx σ H1) : wS (sExpr f σ H) R := by
  obtain ⟨d, H1, e, q⟩ := h; exact ⟨_, _, _, by unfold sExpr; rw [e]; rfl, q⟩
theorem w_if {t : TF} {f g : SF} (h : wT (t σ H) fun b H1 => br b (wS (f σ H1) R) (wS (g σ H1) R)) : wS (sIf t f g σ H) R := by
  obtain ⟨b, H1, e, q1, q2⟩ := h
  rw [iff_t e]
  cases b with
  | true => rw [if_pos rfl]; exact q1 rfl
  | false => rw [if_neg (by simp)]; exact q2 rfl
theorem w_set {i : Nat} {f : EF} (h : wE (f σ H) fun d H1 => R .nx (σ.set i (some d)) H1) : wS (sSet i f σ H) R := by
  obtain ⟨d, H1, e, q⟩ := h; exact ⟨_, _, _, by unfold sSet; rw [e]; rfl, q⟩
theorem w_asg {f : EF} {g : GF} (h : wE (f σ H) fun d H1 => wG (g d σ H1) fun σ2 H2 => R .nx σ2 H2) : wS (sAsg f g σ H) R := by
  obtain ⟨d, H1, e, σ2, H2, e2, q⟩ := h; exact ⟨_, _, _, by unfold sAsg; rw [e]; simp only [Option.bind_some]; rw [e2]; rfl, q⟩
theorem w_gnm {i : Nat} {d : D} {Q : SD → HD → Prop} (h : Q (σ.set i (some d)) H) : wG (gNm i d σ H) Q := ⟨_, _, rfl, h⟩
theorem w_gsb {fo fi : EF} {g : FSet} {d : D} {Q : SD → HD → Prop} (h : wE (fo σ H) fun o H1 => wE (fi σ H1) fun i H2 => wH (g o i d H2) fun H3 => Q σ H3) : wG (gSb fo fi g d σ H) Q := by
  obtain ⟨o, H1, e1, i, H2, e2, H3, e3, q⟩ := h
  exact ⟨σ, H3, by unfold gSb; rw [e1]; simp only [Option.bind_some]; rw [e2]; simp only [Option.bind_some]; rw [e3]; rfl, q⟩
theorem w_gtp {n : Nat} {g : GFs} {ds : List D} {Q : SD → HD → Prop} (hl : ds.length = n) (h : wG (g ds σ H) Q) : wG (gTp n g (.tup ds) σ H) Q := by
  obtain ⟨s, H1, e, q⟩ := h
  exact ⟨s, H1, by unfold gTp; simp only [if_pos hl]; exact e, q⟩
theorem w_gnl {Q : SD → HD → Prop} (h : Q σ H) : wG (gNl [] σ H) Q := ⟨_, _, rfl, h⟩
theorem w_gcn {g : GF} {h : GFs} {d : D} {r : List D} {Q : SD → HD → Prop} (q : wG (g d σ H) fun σ1 H1 => wG (h r σ1 H1) Q) : wG (gCn g h (d :: r) σ H) Q := by
  obtain ⟨s, H1, e, s2, H2, e2, q⟩ := q
  exact ⟨s2, H2, by unfold gCn; simp only; rw [e]; exact e2, q⟩
theorem w_for {it : ItF} {g : GF} {b : SF} (h : wI (it σ H) fun xs own H1 => wS (forL own g b xs σ H1) R) : wS (sFor it g b σ H) R := by
  obtain ⟨xs, own, H1, e, q⟩ := h
  unfold sFor; rw [e]; exact q
theorem w_run {n N : Nat} {b : SF} {ds : List D} (hl : ds.length = n) (h : wS (b (ds.map some ++ List.replicate (N - ds.length) none) H) (fin Q)) : wE (runB n N b ds H) Q := by
  obtain ⟨x, s, H1, e, q⟩ := h
  unfold runB
  rw [if_pos hl, e]
  simp only [Option.bind_some]
  cases x with
  | nx => exact ⟨_, _, rfl, q⟩
  | rt d => exact ⟨_, _, rfl, q⟩
  | bk => exact q.elim
  | ct => exact q.elim
theorem w_lc {it : ItF} {ci : List Nat} {tt : TF} {te : EF} (h : wI (it σ H) fun xs own H1 => wA (compL own (capD ci σ) tt te xs H1) fun ds H2 => ds.length ≤ 1000000 ∧ Q (.ref H2.length) (H2 ++ [.lst ds])) : wE (eLC it ci tt te σ H) Q := by
  obtain ⟨xs, own, H1, e, ds, H2, e2, hl, q⟩ := h
  exact ⟨_, _, by unfold eLC; rw [e]; simp only [Option.bind_some]; rw [e2]; exact if_pos (size_ok hl), q⟩
theorem w_bt {P S : Prop} (h : P) : br true P S := ⟨fun _ => h, nofun⟩
theorem w_bf {P S : Prop} (h : S) : br false P S := ⟨nofun, fun _ => h⟩
theorem w_bnf {P S : Prop} (h : S) : br (!true) P S := ⟨nofun, fun _ => h⟩
theorem w_bT {b : Bool} {P S : Prop} (e : b = true) (h : P) : br b P S := by subst e; exact w_bt h
theorem w_bF {b : Bool} {P S : Prop} (e : b = false) (h : S) : br b P S := by subst e; exact w_bf h
theorem w_sz {ds : List D} {P : Prop} (h : ds.length ≤ 1000000) (q : P) : ds.length ≤ 1000000 ∧ P := ⟨h, q⟩
theorem w_addI {i j : Int} (q : Q (.int (i + j)) H) : wE (addD (.int i) (.int j) H) Q := ⟨_, _, rfl, q⟩
theorem w_addT {a b : List D} (h : a.length + b.length ≤ 1000000) (q : Q (.tup (a ++ b)) H) : wE (addD (.tup a) (.tup b) H) Q := ⟨_, _, adT h, q⟩
theorem w_subI {i j : Int} (q : Q (.int (i - j)) H) : wE (subD (.int i) (.int j) H) Q := ⟨_, _, suI i j H, q⟩
theorem w_neg {i : Int} (q : Q (.int (-i)) H) : wE (negD (.int i) H) Q := ⟨_, _, rfl, q⟩
theorem w_eqI {i j : Int} (q : Q (.bl (i == j)) H) : wE (eqD (.int i) (.int j) H) Q := ⟨_, _, eq_int _ _ _, q⟩
theorem w_neS {a b : Str} (q : Q (.bl (a != b)) H) : wE (neD (.str a) (.str b) H) Q := ⟨_, _, rfl, q⟩
theorem w_lenT {xs : List D} (q : Q (.int xs.length) H) : wE (lenD [.tup xs] H) Q := ⟨_, _, lenT xs H, q⟩
theorem w_lenR {n : Nat} {xs : List D} (h : H[n]? = some (.lst xs)) (q : Q (.int xs.length) H) : wE (lenD [.ref n] H) Q := ⟨_, _, by simp [lenD, seqD, h], q⟩
theorem w_lenF {xs : List D} (q : Q (.int xs.length) H) : wE (lenD [.fl xs] H) Q := ⟨_, _, by simp [lenD, seqD], q⟩
theorem w_ixT {xs : List D} {i : Int} {d : D} (h : atI xs i = some d) (q : Q d H) : wE (ixD (.tup xs) (.int i) H) Q := ⟨_, _, ixT h, q⟩
theorem w_ixR {n : Nat} {xs : List D} {i : Int} {d : D} (g : H[n]? = some (.lst xs)) (h : atI xs i = some d) (q : Q d H) : wE (ixD (.ref n) (.int i) H) Q := ⟨_, _, by simp [ixD, seqD, g, h], q⟩
theorem w_max {i j : Int} (q : Q (.int (if j > i then j else i)) H) : wE (maxD [.int i, .int j] H) Q := ⟨_, _, rfl, q⟩
theorem w_min {i j : Int} (q : Q (.int (if j < i then j else i)) H) : wE (minD [.int i, .int j] H) Q := ⟨_, _, rfl, q⟩
theorem w_tupR {n : Nat} {xs : List D} (h : H[n]? = some (.lst xs)) (q : Q (.tup xs) H) : wE (tupleD [.ref n] H) Q := ⟨_, _, tu h, q⟩
theorem w_app {n : Nat} {xs : List D} {d : D} (h : H[n]? = some (.lst xs)) (hl : xs.length < 1000000) (q : Q .non (H.set n (.lst (xs ++ [d])))) : wE (appendD (.ref n) [d] H) Q :=
  ⟨_, _, by simp [appendD, h, Nat.lt_of_lt_of_le hl (size_ok (Nat.le_refl _))], q⟩
theorem w_isi {d : D} {c t : String} (ha : asked c = true) (h : tyD d H = some t) (q : Q (.bl (t == c || (t == "bool" && c == "int"))) H) : wE (isiD [d, .ty c] H) Q := ⟨_, _, by simp [isiD, ha, h], q⟩
theorem w_dget {n : Nat} {kvs : List (D × D)} {fz : Bool} {k : D} {ks : List Int} {v : D} (h : H[n]? = some (.dic kvs fz)) (hk : nk k = some ks) (hv : dlook kvs ks = some v) (q : Q v H) : wE (dgetD (.ref n) k H) Q := ⟨_, _, by simp [dgetD, dicD, h, hk, hv], q⟩
theorem w_truB {b : Bool} {P : Bool → Prop} (h : P b) : ∃ c, truD (.bl b) H = some c ∧ P c := ⟨b, rfl, h⟩
theorem w_isi' {d : D} {c t : String} {r : Bool} (ha : asked c = true) (h : tyD d H = some t) (hr : (t == c || (t == "bool" && c == "int")) = r) (q : Q (.bl r) H) : wE (isiD [d, .ty c] H) Q := w_isi ha h (by rw [hr]; exact q)
theorem w_neS' {a b : Str} {r : Bool} (hr : (a == b) = r) (q : Q (.bl (!r)) H) : wE (neD (.str a) (.str b) H) Q := w_neS (by rw [bne, hr]; exact q)
theorem w_slhi {xs : List D} {k : Nat} (q : Q (.tup (xs.take k)) H) : wE (slD (.tup xs) none (some (k : Int)) H) Q := ⟨_, _, slhi, q⟩
variable {I : List D → OwnD → HD → Prop}
theorem w_isq {f : EF} (h : wE (f σ H) fun d H1 => ∃ xs own, itemsD d H1 = some (xs, own) ∧ I xs own H1) : wI (iSq f σ H) I := by
  obtain ⟨d, H1, e, xs, own, e2, q⟩ := h
  exact ⟨xs, own, H1, by unfold iSq; rw [e]; simp only [Option.bind_some]; rw [e2]; rfl, q⟩
theorem w_itT {xs : List D} {P : List D → OwnD → Prop} (h : P xs []) : ∃ ys own, itemsD (.tup xs) H = some (ys, own) ∧ P ys own := ⟨_, _, rfl, h⟩
theorem w_itR {n : Nat} {xs : List D} {P : List D → OwnD → Prop} (g : H[n]? = some (.lst xs)) (h : P xs [(n, .lst xs)]) : ∃ ys own, itemsD (.ref n) H = some (ys, own) ∧ P ys own := ⟨_, _, by simp [itemsD, g], h⟩
theorem w_ir1 {f : AF} (h : wA (f σ H) fun ds H1 => ∃ j, ds = [.int j] ∧ smallI j ∧ I (rangeL 0 j.toNat) [] H1) : wI (iR1 f σ H) I := by
  obtain ⟨ds, H1, e, j, rfl, s, q⟩ := h
  exact ⟨_, _, H1, by unfold iR1; rw [e]; exact if_pos s, q⟩
theorem w_ir2 {f : AF} (h : wA (f σ H) fun ds H1 => ∃ i j, ds = [.int i, .int j] ∧ smallI i ∧ smallI j ∧ I (rangeL i (j - i).toNat) [] H1) : wI (iR2 f σ H) I := by
  obtain ⟨ds, H1, e, i, j, rfl, s1, s2, q⟩ := h
  exact ⟨_, _, H1, by unfold iR2; rw [e]; exact if_pos ⟨s1, s2⟩, q⟩
theorem w_fnil {own : OwnD} {g : GF} {b : SF} (h : okOwn own H) (q : R .nx σ H) : wS (forL own g b [] σ H) R := ⟨_, _, _, by rw [forL, if_pos h], q⟩
noncomputable def again (k : SD → HD → Prop) (R : FD → SD → HD → Prop) : FD → SD → HD → Prop
  | .nx, σ, H => k σ H
  | .ct, σ, H => k σ H
  | .bk, σ, H => R .nx σ H
  | .rt d, σ, H => R (.rt d) σ H
theorem w_fcons {own : OwnD} {g : GF} {b : SF} {x : D} {r : List D} (h : okOwn own H) (q : wG (g x σ H) fun σ1 H1 => wS (b σ1 H1) (again (fun σ2 H2 => wS (forL own g b r σ2 H2) R) R)) : wS (forL own g b (x :: r) σ H) R := by
  obtain ⟨σ1, H1, e1, y, σ2, H2, e2, q⟩ := q
  rw [forL, if_pos h, e1]
  simp only [Option.bind_some]
  rw [e2]
  cases y with
  | nx => exact q
  | ct => exact q
  | bk => exact ⟨_, _, _, rfl, q⟩
  | rt d => exact ⟨_, _, _, rfl, q⟩
theorem w_agn {k : SD → HD → Prop} (h : k σ H) : again k R .nx σ H := h
theorem w_loop {own : OwnD} {g : GF} {b : SF} (Inv : List D → List D → SD → HD → Prop) (ho : ∀ d t σ H, Inv d t σ H → okOwn own H)
    (st : ∀ d x t σ H, Inv d (x :: t) σ H → wG (g x σ H) fun σ1 H1 => wS (b σ1 H1) (again (fun σ2 H2 => Inv (d ++ [x]) t σ2 H2) R))
    (q : ∀ d σ H, Inv d [] σ H → R .nx σ H) : ∀ (t d : List D) (σ : SD) (H : HD), Inv d t σ H → wS (forL own g b t σ H) R
  | [], d, σ, H, i => w_fnil (ho _ _ _ _ i) (q d σ H i)
  | x :: t, d, σ, H, i => by
    refine w_fcons (ho _ _ _ _ i) ?_
    obtain ⟨σ1, H1, e1, y, σ2, H2, e2, k⟩ := st d x t σ H i
    refine ⟨σ1, H1, e1, y, σ2, H2, e2, ?_⟩
    cases y with
    | nx => exact w_loop Inv ho st q t _ σ2 H2 k
    | ct => exact w_loop Inv ho st q t _ σ2 H2 k
    | bk => exact k
    | rt d => exact k
theorem w_each {own : OwnD} {g : GF} {b : SF} (Inv : SD → HD → Prop) (ho : ∀ σ H, Inv σ H → okOwn own H) : ∀ (xs : List D) (st : ∀ x ∈ xs, ∀ σ H, Inv σ H → wG (g x σ H) fun σ1 H1 => wS (b σ1 H1) (again Inv R)) (σ : SD) (H : HD), Inv σ H → (∀ σ H, Inv σ H → R .nx σ H) → wS (forL own g b xs σ H) R
  | [], st, σ, H, i, q => w_fnil (ho _ _ i) (q σ H i)
  | x :: t, st, σ, H, i, q => by
    refine w_fcons (ho _ _ i) ?_
    obtain ⟨σ1, H1, e1, y, σ2, H2, e2, k⟩ := st x (by simp) σ H i
    refine ⟨σ1, H1, e1, y, σ2, H2, e2, ?_⟩
    cases y with
    | nx => exact w_each Inv ho t (fun z hz => st z (by simp [hz])) σ2 H2 k q
    | ct => exact w_each Inv ho t (fun z hz => st z (by simp [hz])) σ2 H2 k q
    | bk => exact k
    | rt d => exact k
theorem w_cnil {own : OwnD} {c0 : SD} {tt : TF} {te : EF} {Q : List D → HD → Prop} (h : okOwn own H) (q : Q [] H) : wA (compL own c0 tt te [] H) Q := ⟨_, _, by rw [compL, if_pos h], q⟩
theorem w_ccons {own : OwnD} {c0 : SD} {tt : TF} {te : EF} {x : D} {r : List D} {Q : List D → HD → Prop} (h : okOwn own H)
    (q : wT (tt (some x :: c0) H) fun b H1 => br b (wE (te (some x :: c0) H1) fun e H2 => wA (compL own c0 tt te r H2) fun es H3 => Q (e :: es) H3) (wA (compL own c0 tt te r H1) Q)) : wA (compL own c0 tt te (x :: r) H) Q := by
  obtain ⟨b, H1, e1, q1, q2⟩ := q
  rw [compL, if_pos h, e1]
  simp only [Option.bind_some]
  cases b with
  | true =>
    obtain ⟨e, H2, e2, es, H3, e3, q⟩ := q1 rfl
    exact ⟨e :: es, H3, by rw [if_pos rfl, e2]; simp only [Option.bind_some]; rw [e3]; rfl, q⟩
  | false => rw [if_neg (by simp)]; exact q2 rfl
theorem w_yes {Q : Bool → HD → Prop} (q : Q true H) : wT (tYes σ H) Q := ⟨_, _, rfl, q⟩
theorem w_comp {own : OwnD} {c0 : SD} {tt : TF} {te : EF} (Inv : List D → List D → List D → HD → Prop) (ho : ∀ d t o H, Inv d t o H → okOwn own H)
    (st : ∀ d x t o H, Inv d (x :: t) o H → wT (tt (some x :: c0) H) fun b H1 => br b (wE (te (some x :: c0) H1) fun e H2 => Inv (d ++ [x]) t (o ++ [e]) H2) (Inv (d ++ [x]) t o H1))
    {Q : List D → HD → Prop} : ∀ (t d o : List D) (H : HD), Inv d t o H → (∀ d o' H', Inv d [] (o ++ o') H' → Q o' H') → wA (compL own c0 tt te t H) Q
  | [], d, o, H, i, q => w_cnil (ho _ _ _ _ i) (q d [] H (by rw [List.append_nil]; exact i))
  | x :: t, d, o, H, i, q => by
    refine w_ccons (ho _ _ _ _ i) ?_
    obtain ⟨b, H1, e1, q1, q2⟩ := st d x t o H i
    refine ⟨b, H1, e1, fun h => ?_, fun h => ?_⟩
    · obtain ⟨e, H2, e2, k⟩ := q1 h
      refine ⟨e, H2, e2, ?_⟩
      refine w_comp Inv ho st t _ _ H2 k fun d' o' H' i' => q d' (e :: o') H' ?_
      rw [List.append_assoc] at i'; exact i'
    · exact w_comp Inv ho st t _ _ H1 (q2 h) fun d' o' H' i' => q d' o' H' i'
theorem w_cfilter {own : OwnD} {c0 : SD} {tt : TF} (f : D → Bool) (J : HD → Prop) (ho : ∀ H, J H → okOwn own H) {Q : List D → HD → Prop} : ∀ (xs : List D) (st : ∀ x ∈ xs, ∀ H, J H → wT (tt (some x :: c0) H) fun b H1 => b = f x ∧ J H1) (H : HD), J H → (∀ H', J H' → Q (xs.filter f) H') → wA (compL own c0 tt (eVar 0) xs H) Q
  | [], st, H, j, q => w_cnil (ho H j) (q H j)
  | x :: xs, st, H, j, q => by
    refine w_ccons (ho H j) ?_
    obtain ⟨b, H1, e, rfl, j1⟩ := st x (by simp) H j
    refine ⟨_, H1, e, fun h => ?_, fun h => ?_⟩
    · refine ⟨x, H1, rfl, ?_⟩
      refine w_cfilter f J ho xs (fun y hy => st y (by simp [hy])) H1 j1 fun H' j' => ?_
      have := q H' j'
      rwa [List.filter_cons_of_pos h] at this
    · refine w_cfilter f J ho xs (fun y hy => st y (by simp [hy])) H1 j1 fun H' j' => ?_
      have := q H' j'
      rwa [List.filter_cons_of_neg (by rw [h]; simp)] at this
theorem w_cmap {own : OwnD} {c0 : SD} {te : EF} (g : D → D) (J : HD → Prop) (ho : ∀ H, J H → okOwn own H) {Q : List D → HD → Prop} : ∀ (xs : List D) (st : ∀ x ∈ xs, ∀ H, J H → wE (te (some x :: c0) H) fun d H1 => d = g x ∧ J H1) (H : HD), J H → (∀ H', J H' → Q (xs.map g) H') → wA (compL own c0 tYes te xs H) Q
  | [], st, H, j, q => w_cnil (ho H j) (q H j)
  | x :: xs, st, H, j, q => by
    refine w_ccons (ho H j) (w_yes (w_bt ?_))
    obtain ⟨b, H1, e, rfl, j1⟩ := st x (by simp) H j
    exact ⟨_, H1, e, w_cmap g J ho xs (fun y hy => st y (by simp [hy])) H1 j1 q⟩
end
structure Fm (S : List Nat) (H H' : HD) : Prop where
  old : ∀ (m : Nat) (o : DO), m ∉ S → H[m]? = some o → H'[m]? = some o ∨ ∃ kvs, o = .dic kvs false ∧ H'[m]? = some (.dic kvs true)
  len : H.length ≤ H'.length
theorem Fm.refl {S : List Nat} {H : HD} : Fm S H H := ⟨fun _ _ _ h => .inl h, Nat.le_refl _⟩
theorem Fm.trans {S : List Nat} {H H1 H2 : HD} (a : Fm S H H1) (b : Fm S H1 H2) : Fm S H H2 := by
  refine ⟨fun m o hm h => ?_, Nat.le_trans a.len b.len⟩
  rcases a.old m o hm h with h1 | ⟨kvs, rfl, h1⟩
  · exact b.old m o hm h1
  · rcases b.old m _ hm h1 with h2 | ⟨k2, e, _⟩
    · exact .inr ⟨kvs, rfl, h2⟩
    · cases e
theorem Fm.app {S : List Nat} {H : HD} (L : HD) : Fm S H (H ++ L) := ⟨fun m o _ q => .inl (by
  have : m < H.length := (List.getElem?_eq_some_iff.mp q).1
  rw [List.getElem?_append_left this]; exact q), by simp⟩
theorem Fm.set {S : List Nat} {H : HD} {p : Nat} {o : DO} (h : p ∈ S) : Fm S H (H.set p o) := ⟨fun m u hm q => .inl (by rw [List.getElem?_set_ne (fun z => hm (by rw [← z]; exact h))]; exact q), by simp⟩
theorem Fm.new {S T : List Nat} {H H1 H' : HD} (a : Fm S H H1) (b : Fm T H1 H') (h : ∀ m ∈ T, m ∉ S → H.length ≤ m) : Fm S H H' := by
  refine ⟨fun m o hm q => ?_, Nat.le_trans a.len b.len⟩
  have lt : m < H.length := (List.getElem?_eq_some_iff.mp q).1
  have ht : m ∉ T := fun z => by have := h m z hm; omega
  rcases a.old m o hm q with h1 | ⟨kvs, rfl, h1⟩
  · exact b.old m o ht h1
  · rcases b.old m _ ht h1 with h2 | ⟨k2, e, _⟩
    · exact .inr ⟨kvs, rfl, h2⟩
    · cases e
theorem Fm.lst {S : List Nat} {H H' : HD} (x : Fm S H H') {m : Nat} {xs : List D} (hm : m ∉ S) (h : H[m]? = some (.lst xs)) : H'[m]? = some (.lst xs) := by
  rcases x.old m _ hm h with h1 | ⟨k2, e, _⟩
  · exact h1
  · cases e
theorem _root_.DL.Ext.fm {n : Nat} {H H' : HD} (x : Ext n H H') : Fm [n] H H' := ⟨fun m o hm q => .inl (x.old m o (by simpa using hm) q), x.len⟩
theorem _root_.LH.ExtS.fm {S : List Nat} {H H' : HD} (x : ExtS S H H') : Fm S H H' := ⟨fun m o hm q => .inl (x.old m o hm q), x.len⟩
theorem isl {H : HD} {n : Nat} {xs : List D} (h : H[n]? = some (.lst xs)) : isLst (.ref n) H = true := by simp [isLst, h]
theorem own1 {H : HD} {n : Nat} {o : DO} (h : H[n]? = some o) : okOwn [(n, o)] H := by intro p hp; simp at hp; subst hp; exact h
theorem tyR {H : HD} {n : Nat} {xs : List D} (h : H[n]? = some (.lst xs)) : tyD (.ref n) H = some "list" := by simp [tyD, h]
theorem own0 {H : HD} : okOwn [] H := by intro p hp; cases hp
theorem last {H : HD} {o : DO} : (H ++ [o])[H.length]? = some o := by simp
theorem appL {H : HD} {n : Nat} {o u : DO} (h : H[n]? = some o) : (H ++ [u])[n]? = some o := by
  rw [List.getElem?_append_left (List.getElem?_eq_some_iff.mp h).1]; exact h
theorem setO {H : HD} {n m : Nat} {o u : DO} (hn : n ≠ m) (h : H[m]? = some o) : (H.set n u)[m]? = some o := by rw [List.getElem?_set_ne hn]; exact h
theorem setS {H : HD} {n : Nat} {o u : DO} (h : H[n]? = some u) : (H.set n o)[n]? = some o := List.getElem?_set_self (List.getElem?_eq_some_iff.mp h).1
end WP
namespace WP
open PySem L2 DL LH
structure Fine (d : D) (x : PyData) (h : Nat) : Prop where
  to : ∀ H n, toP H n d = some x
  lay : x.canLay0 = true
  dep : x.depth ≤ h
theorem Fine.int (i : Int) : Fine (.int i) (.int i) 0 := ⟨fun H n => toP_int H n i, rfl, Nat.le_refl _⟩
theorem Fine.bl (b : Bool) : Fine (.bl b) (.bool b) 0 := ⟨fun H n => toP_bl H n b, rfl, Nat.le_refl _⟩
structure Fines (ds : List D) (xs : List PyData) (h : Nat) : Prop where
  to : ∀ H n, toPs H n ds = some xs
  lay : PyData.canLayAll0 xs = true
  dep : PyData.depthAll xs ≤ h
  len : xs.length = ds.length
theorem Fines.nil {h : Nat} : Fines [] [] h := ⟨fun H n => by rw [toPs], rfl, Nat.zero_le _, rfl⟩
theorem Fines.cons {d : D} {x : PyData} {ds : List D} {xs : List PyData} {h : Nat} (a : Fine d x h) (b : Fines ds xs h) : Fines (d :: ds) (x :: xs) h :=
  ⟨fun H n => by rw [toPs, a.to, b.to]; rfl, by simp [PyData.canLayAll0, a.lay, b.lay], by simp only [PyData.depthAll]; exact Nat.max_le.mpr ⟨a.dep, b.dep⟩, by simp [b.len]⟩
theorem Fine.tup {ds : List D} {xs : List PyData} {h : Nat} (f : Fines ds xs h) : Fine (.tup ds) (.tuple xs) (h + 1) :=
  ⟨fun H n => by cases n <;> rw [toP, f.to] <;> rfl, f.lay, Nat.succ_le_succ f.dep⟩
theorem Fine.dat {d : D} {x : PyData} {h : Nat} (f : Fine d x h) (l : h ≤ 30) (H : HD) : DL.dat d H = some x := by
  unfold DL.dat
  rw [f.to]
  have : x.depth ≤ 30 := Nat.le_trans f.dep l
  simp [okP, f.lay, this]
theorem eqD_dat {a b : D} {x y : PyData} {H : HD} (h1 : dat a H = some x) (h2 : dat b H = some y) : eqD a b H = some (.bl (PyData.eqv x y), H) := by
  unfold eqD
  cases e : twoS a b with
  | none => rw [h1, h2]; rfl
  | some p =>
    obtain ⟨s, t⟩ := p
    unfold twoS at e
    split at e
    · cases e
      unfold dat at h1 h2
      rw [toP_str] at h1 h2
      simp only [Option.bind_some] at h1 h2
      split at h1
      · split at h2
        · cases h1; cases h2; simp [PyData.eqv]
        · cases h2
      · cases h1
    · cases e
theorem neD_dat {a b : D} {x y : PyData} {H : HD} (h1 : dat a H = some x) (h2 : dat b H = some y) : neD a b H = some (.bl (!PyData.eqv x y), H) := by
  unfold neD
  cases e : twoS a b with
  | none => rw [h1, h2]; rfl
  | some p =>
    obtain ⟨s, t⟩ := p
    unfold twoS at e
    split at e
    · cases e
      unfold dat at h1 h2
      rw [toP_str] at h1 h2
      simp only [Option.bind_some] at h1 h2
      split at h1
      · split at h2
        · cases h1; cases h2; simp [PyData.eqv]; rfl
        · cases h2
      · cases h1
    · cases e
variable {H : HD} {Q : D → HD → Prop}
theorem w_eqF {a b : D} {x y : PyData} {h k : Nat} (f : Fine a x h) (g : Fine b y k) (hh : h ≤ 30) (hk : k ≤ 30) (q : Q (.bl (PyData.eqv x y)) H) : wE (eqD a b H) Q := ⟨_, _, eqD_dat (f.dat hh H) (g.dat hk H), q⟩
theorem w_neF {a b : D} {x y : PyData} {h k : Nat} (f : Fine a x h) (g : Fine b y k) (hh : h ≤ 30) (hk : k ≤ 30) (q : Q (.bl (!PyData.eqv x y)) H) : wE (neD a b H) Q := ⟨_, _, neD_dat (f.dat hh H) (g.dat hk H), q⟩
theorem w_niT {a : D} {x : PyData} {h k : Nat} {ds : List D} {xs : List PyData} (f : Fine a x h) (g : Fines ds xs k) (hh : h ≤ 30) (hk : k < 30) (q : Q (.bl (!xs.any fun z => PyData.eqv z x)) H) : wE (niD a (.tup ds) H) Q :=
  ⟨_, _, by unfold niD; rw [f.dat hh, Option.bind_some, (Fine.tup g).dat hk]; rfl, q⟩
theorem w_neI {i j : Int} (q : Q (.bl (!(i == j))) H) : wE (neD (.int i) (.int j) H) Q := w_neF (.int i) (.int j) (by omega) (by omega) (by simpa [PyData.eqv] using q)
end WP
set_option maxHeartbeats 8000000
namespace K08
open PySem L2 DL
noncomputable def b_plays_with_yes : SF :=
  (sSeq (sSet 2 (eC (.int 0)))
  (sSeq (sFor (iR1 (aCons (eOp shlD (eC (.int 1)) (eVar 0)) aNil)) (gNm 3) (sSeq (sIf (tTru (eOp bandD (eOp shrD (eVar 3) (eOp subD (eVar 1) (eC (.int 1)))) (eC (.int 1)))) (sSeq (sAug (fun i j => Builtin.bitOr i j) 2 (eOp shlD (eC (.int 1)) (eVar 3)))
  sNil) sNil)
  sNil))
  (sSeq (sRet (eVar 2))
  sNil)))
noncomputable def m_plays_with_yes : FF := runB 2 4 b_plays_with_yes
noncomputable def b_lost_plays : SF :=
  (sSeq (sSet 1 (eCB lenD (aCons (eOp ixD (eVar 0) (eC (.int 0))) aNil)))
  (sSeq (sSet 2 (eOp subD (eOp shlD (eC (.int 1)) (eOp shlD (eC (.int 1)) (eVar 1))) (eC (.int 1))))
  (sSeq (sSet 3 eDI)
  (sSeq (sFor (iR2 (aCons (eC (.int 1)) (aCons (eOp addD (eVar 1) (eC (.int 1))) aNil))) (gNm 4) (sSeq (sAsg (eCall 2 m_plays_with_yes (aCons (eVar 1) (aCons (eVar 4) aNil))) (gSb (eVar 3) (eUn negD (eVar 4)) isetD))
  (sSeq (sAsg (eOp bxorD (eVar 2) (eOp igetD (eVar 3) (eUn negD (eVar 4)))) (gSb (eVar 3) (eVar 4) isetD))
  sNil)))
  (sSeq (sSet 5 (eLst aNil))
  (sSeq (sFor (iSq (eOp ixD (eVar 0) (eC (.int 1)))) (gNm 6) (sSeq (sSet 7 (eVar 2))
  (sSeq (sFor (iSq (eVar 6)) (gNm 8) (sSeq (sAug (fun i j => Builtin.bitAnd i j) 7 (eOp igetD (eVar 3) (eVar 8)))
  sNil))
  (sSeq (sExpr (eLM appendD (eVar 5) (aCons (eVar 7) aNil)))
  sNil))))
  (sSeq (sRet (eVar 5))
  sNil)))))))
noncomputable def m_lost_plays : FF := runB 1 9 b_lost_plays
noncomputable def b_all_wins : SF :=
  (sSeq (sFor (iRB (aCons (eOp subD (eCB lenD (aCons (eVar 0) aNil)) (eC (.int 1))) (aCons (eUn negD (eC (.int 1))) (aCons (eUn negD (eC (.int 1))) aNil)))) (gNm 2) (sSeq (sSet 3 (eOp shlD (eC (.int 1)) (eVar 2)))
  (sSeq (sSet 4 (eOp bandD (eVar 1) (eOp subD (eOp shlD (eC (.int 1)) (eVar 3)) (eC (.int 1)))))
  (sSeq (sSet 5 (eOp shrD (eVar 1) (eVar 3)))
  (sSeq (sSet 1 (eIf (tOf (eOp eqD (eOp ixD (eVar 0) (eVar 2)) (eC (.str "all")))) (eOp borD (eVar 4) (eVar 5)) (eOp bandD (eVar 4) (eVar 5))))
  sNil)))))
  (sSeq (sRet (eOp eqD (eVar 1) (eC (.int 1))))
  sNil))
noncomputable def m_all_wins : FF := runB 2 6 b_all_wins
noncomputable def b_all_wins_by : SF :=
  (sSeq (sSet 3 (eC (.int 0)))
  (sSeq (sFor (iSq (eVar 2)) (gNm 4) (sSeq (sAug (fun i j => Builtin.bitOr i j) 3 (eOp ixD (eVar 1) (eVar 4)))
  sNil))
  (sSeq (sRet (eCall 2 m_all_wins (aCons (eVar 0) (aCons (eVar 3) aNil))))
  sNil)))
noncomputable def m_all_wins_by : FF := runB 3 5 b_all_wins_by
noncomputable def b_others : SF :=
  (sSeq (sRet (eCB tupleD (aCons (eLC (iR1 (aCons (eVar 0) aNil)) [1] (tOf (eOp niD (eVar 0) (eVar 1))) (eVar 0)) aNil)))
  sNil)
noncomputable def m_others : FF := runB 2 2 b_others
noncomputable def b_is_needless : SF :=
  (sSeq (sSet 2 (eCall 1 m_lost_plays (aCons (eVar 0) aNil)))
  (sSeq (sSet 3 (eCB lenD (aCons (eVar 2) aNil)))
  (sSeq (sRet (eOp eqD (eCall 3 m_all_wins_by (aCons (eOp ixD (eVar 0) (eC (.int 0))) (aCons (eVar 2) (aCons (eCall 2 m_others (aCons (eVar 3) (aCons (eTup (aCons (eVar 1) aNil)) aNil))) aNil)))) (eCall 3 m_all_wins_by (aCons (eOp ixD (eVar 0) (eC (.int 0))) (aCons (eVar 2) (aCons (eCall 2 m_others (aCons (eVar 3) (aCons (eTup aNil) aNil))) aNil))))))
  sNil)))
noncomputable def m_is_needless : FF := runB 2 4 b_is_needless
noncomputable def b_refuse_not_won : SF :=
  (sSeq (sIf (tNo (tTru (eCall 3 m_all_wins_by (aCons (eVar 0) (aCons (eVar 1) (aCons (eCall 2 m_others (aCons (eCB lenD (aCons (eVar 1) aNil)) (aCons (eTup aNil) aNil))) aNil)))))) (sSeq sErr
  sNil) sNil)
  sNil)
noncomputable def m_refuse_not_won : FF := runB 2 2 b_refuse_not_won
noncomputable def xb_refuse_not_won : XFs :=
  (xIf (tNo (tTru (eCall 3 m_all_wins_by (aCons (eVar 0) (aCons (eVar 1) (aCons (eCall 2 m_others (aCons (eCB lenD (aCons (eVar 1) aNil)) (aCons (eTup aNil) aNil))) aNil)))))) (xRaise (eC (.str "all does not win this claim"))))
noncomputable def x_refuse_not_won : XFF := runX 2 2 xb_refuse_not_won
noncomputable def b_lost_ahead : SF :=
  (sSeq (sSet 1 (eLst aNil))
  (sSeq (sSet 2 (eC (.int 0)))
  (sSeq (sFor (iSq (eVar 0)) (gNm 3) (sSeq (sExpr (eLM appendD (eVar 1) (aCons (eVar 2) aNil)))
  (sSeq (sAug (fun i j => Builtin.bitOr i j) 2 (eVar 3))
  sNil)))
  (sSeq (sRet (eVar 1))
  sNil))))
noncomputable def m_lost_ahead : FF := runB 1 4 b_lost_ahead
noncomputable def b_lean : SF :=
  (sSeq (sSet 1 (eCall 1 m_lost_plays (aCons (eVar 0) aNil)))
  (sSeq (sExpr (eCall 2 m_refuse_not_won (aCons (eOp ixD (eVar 0) (eC (.int 0))) (aCons (eVar 1) aNil))))
  (sSeq (sSet 2 (eCall 1 m_lost_ahead (aCons (eVar 1) aNil)))
  (sSeq (sSet 3 (eLst aNil))
  (sSeq (sSet 4 (eC (.int 0)))
  (sSeq (sFor (iRB (aCons (eOp subD (eCB lenD (aCons (eVar 1) aNil)) (eC (.int 1))) (aCons (eUn negD (eC (.int 1))) (aCons (eUn negD (eC (.int 1))) aNil)))) (gNm 5) (sSeq (sIf (tNo (tTru (eCall 2 m_all_wins (aCons (eOp ixD (eVar 0) (eC (.int 0))) (aCons (eOp borD (eOp ixD (eVar 2) (eVar 5)) (eVar 4)) aNil))))) (sSeq (sExpr (eLM appendD (eVar 3) (aCons (eVar 5) aNil)))
  (sSeq (sAug (fun i j => Builtin.bitOr i j) 4 (eOp ixD (eVar 1) (eVar 5)))
  sNil)) sNil)
  sNil))
  (sSeq (sExpr (eLM0 lrevD (eVar 3)))
  (sSeq (sRet (eVar 3))
  sNil))))))))
noncomputable def m_lean : FF := runB 1 6 b_lean
noncomputable def xb_lean : XFs :=
  (xSeq (sSet 1 (eCall 1 m_lost_plays (aCons (eVar 0) aNil)))
  (xCall 2 x_refuse_not_won (aCons (eOp ixD (eVar 0) (eC (.int 0))) (aCons (eVar 1) aNil))))
noncomputable def x_lean : XFF := runX 1 6 xb_lean
noncomputable def b_law_feed : SF :=
  (sSeq (sSet 2 (eC (.int 0)))
  (sSeq (sIf (tOf (eOp ltD (eVar 1) (eCB lenD (aCons (eVar 0) aNil)))) (sSeq (sSet 2 (eOp ixD (eVar 0) (eVar 1)))
  sNil) sNil)
  (sSeq (sSet 3 (eC (.int 0)))
  (sSeq (sIf (tOf (eOp geD (eVar 2) (eOp powD (eC (.int 10)) (eC (.int 18))))) (sSeq (sSet 3 (eOp subD (eVar 2) (eOp powD (eC (.int 10)) (eC (.int 18)))))
  sNil) sNil)
  (sSeq (sSet 4 (eOp modD (eOp addD (eOp addD (eOp mulD (eOp modD (eVar 2) (eC (.int 2147483647))) (eC (.int 48271))) (eOp mulD (eC (.int 7919)) (eVar 1))) (eC (.int 5))) (eC (.int 2147483629))))
  (sSeq (sRet (eLst (aCons (eVar 3) (aCons (eOp addD (eOp modD (eOp powD (eVar 4) (eC (.int 5))) (eC (.int 2147483587))) (eC (.int 1))) aNil))))
  sNil))))))
noncomputable def m_law_feed : FF := runB 2 5 b_law_feed
noncomputable def b_law_take : SF :=
  (sSeq (sIf (tOf (eOp gtD (eOp ixD (eVar 0) (eC (.int 0))) (eC (.int 0)))) (sSeq (sSet 2 (eOp modD (eOp ixD (eVar 0) (eC (.int 0))) (eVar 1)))
  (sSeq (sAsg (eOp fdivD (eOp ixD (eVar 0) (eC (.int 0))) (eVar 1)) (gSb (eVar 0) (eC (.int 0)) setD))
  (sSeq (sRet (eVar 2))
  sNil))) sNil)
  (sSeq (sAsg (eOp modD (eOp addD (eOp mulD (eOp ixD (eVar 0) (eC (.int 1))) (eC (.int 69621))) (eC (.int 12345))) (eC (.int 2147483647))) (gSb (eVar 0) (eC (.int 1)) setD))
  (sSeq (sRet (eOp modD (eOp fdivD (eOp ixD (eVar 0) (eC (.int 1))) (eC (.int 8191))) (eVar 1)))
  sNil)))
noncomputable def m_law_take : FF := runB 2 3 b_law_take
noncomputable def b_law_pick : SF :=
  (sSeq (sRet (eOp ixD (eVar 1) (eCall 2 m_law_take (aCons (eVar 0) (aCons (eCB lenD (aCons (eVar 1) aNil)) aNil)))))
  sNil)
noncomputable def m_law_pick : FF := runB 2 2 b_law_pick
noncomputable def b_law_row : SF :=
  (sSeq (sSet 2 (eLst (aCons (eC (.int 1)) (aCons (eC (.int 2)) (aCons (eC (.int 2)) (aCons (eC (.int 3)) (aCons (eC (.int 3)) (aCons (eC (.int 4)) (aCons (eC (.int 2)) (aCons (eC (.int 3)) (aCons (eC (.int 1)) (aCons (eOp addD (eC (.int 5)) (eCall 2 m_law_take (aCons (eVar 0) (aCons (eC (.int 4)) aNil)))) (aCons (eC (.int 2)) (aCons (eOp mulD (eC (.int 2)) (eCB intD (aCons (eOp gtD (eCall 2 m_law_take (aCons (eVar 0) (aCons (eC (.int 6)) aNil))) (eC (.int 0))) aNil))) aNil))))))))))))))
  (sSeq (sSet 3 (eCB minD (aCons (eVar 1) (aCons (eCall 2 m_law_pick (aCons (eVar 0) (aCons (eVar 2) aNil))) aNil))))
  (sSeq (sSet 4 (eLR2 (aCons (eC (.int 1)) (aCons (eOp addD (eVar 1) (eC (.int 1))) aNil))))
  (sSeq (sSet 5 (eLst aNil))
  (sSeq (sFor (iR1 (aCons (eVar 3) aNil)) (gNm 6) (sSeq (sExpr (eLM appendD (eVar 5) (aCons (eLM popD (eVar 4) (aCons (eCall 2 m_law_take (aCons (eVar 0) (aCons (eCB lenD (aCons (eVar 4) aNil)) aNil))) aNil)) aNil)))
  sNil))
  (sSeq (sRet (eCB tupleD (aCons (eLC (iSq (eCB sortedD (aCons (eVar 5) aNil))) [0] tYes (eOp ixD (eLst (aCons (eVar 0) (aCons (eUn negD (eVar 0)) aNil))) (eCall 2 m_law_take (aCons (eVar 1) (aCons (eC (.int 2)) aNil))))) aNil)))
  sNil))))))
noncomputable def m_law_row : FF := runB 2 7 b_law_row
noncomputable def b_law_claim : SF :=
  (sSeq (sSet 3 (eCall 2 m_law_pick (aCons (eVar 0) (aCons (eLst (aCons (eVar 1) (aCons (eOp subD (eVar 1) (eC (.int 1))) (aCons (eVar 1) (aCons (eOp subD (eVar 1) (eC (.int 2))) (aCons (eVar 1) (aCons (eCall 2 m_law_take (aCons (eVar 0) (aCons (eOp addD (eVar 1) (eC (.int 1))) aNil))) aNil))))))) aNil))))
  (sSeq (sSet 4 (eCall 2 m_law_take (aCons (eVar 0) (aCons (eC (.int 4)) aNil))))
  (sSeq (sSet 5 (eLC (iR1 (aCons (eVar 3) aNil)) [0] tYes (eCall 2 m_law_pick (aCons (eVar 1) (aCons (eLst (aCons (eC (.str "all")) (aCons (eC (.str "some")) aNil))) aNil)))))
  (sSeq (sIf (tOf (eOp eqD (eVar 4) (eC (.int 0)))) (sSeq (sSet 5 (eLC (iR1 (aCons (eVar 3) aNil)) [] tYes (eOp ixD (eLst (aCons (eC (.str "some")) (aCons (eC (.str "all")) aNil))) (eOp modD (eVar 0) (eC (.int 2))))))
  sNil) sNil)
  (sSeq (sSet 6 (eCall 2 m_law_pick (aCons (eVar 0) (aCons (eLst (aCons (eVar 3) (aCons (eOp addD (eVar 3) (eOp fdivD (eVar 3) (eC (.int 2)))) (aCons (eOp mulD (eC (.int 2)) (eVar 3)) (aCons (eOp addD (eOp fdivD (eVar 3) (eC (.int 2))) (eC (.int 1))) (aCons (eCall 2 m_law_take (aCons (eVar 0) (aCons (eOp addD (eVar 2) (eC (.int 1))) aNil))) (aCons (eC (.int 2)) aNil))))))) aNil))))
  (sSeq (sSet 7 (eLC (iR1 (aCons (eCB minD (aCons (eVar 2) (aCons (eVar 6) aNil))) aNil)) [0, 3] tYes (eCall 2 m_law_row (aCons (eVar 1) (aCons (eVar 2) aNil)))))
  (sSeq (sIf (tAn (tOf (eOp neD (eVar 7) (eLst aNil))) (tOf (eOp eqD (eCall 2 m_law_take (aCons (eVar 0) (aCons (eC (.int 6)) aNil))) (eC (.int 0))))) (sSeq (sExpr (eLM appendD (eVar 7) (aCons (eCall 2 m_law_pick (aCons (eVar 0) (aCons (eVar 7) aNil))) aNil)))
  sNil) sNil)
  (sSeq (sRet (eTup (aCons (eCB tupleD (aCons (eVar 5) aNil)) (aCons (eCB tupleD (aCons (eSl (eVar 7) oNone (oSome (eVar 2))) aNil)) aNil))))
  sNil))))))))
noncomputable def m_law_claim : FF := runB 3 8 b_law_claim
noncomputable def b_law_kept : SF :=
  (sSeq (sFor (iSq (eVar 0)) (gNm 2) (sSeq (sIf (tAn (tOf (eOp leD (eCB absD (aCons (eVar 2) aNil)) (eCB lenD (aCons (eVar 1) aNil)))) (tOf (eOp eqD (eOp ixD (eVar 1) (eOp subD (eCB absD (aCons (eVar 2) aNil)) (eC (.int 1)))) (eOp gtD (eVar 2) (eC (.int 0)))))) (sSeq (sRet (eC (.bl true)))
  sNil) sNil)
  sNil))
  (sSeq (sRet (eC (.bl false)))
  sNil))
noncomputable def m_law_kept : FF := runB 2 3 b_law_kept
noncomputable def b_law_plays : SF :=
  (sSeq (sSet 1 (eLst (aCons (eLst (aCons (eTup aNil) aNil)) aNil)))
  (sSeq (sFor (iR1 (aCons (eVar 0) aNil)) (gNm 2) (sSeq (sSet 5 (eLst aNil))
  (sSeq (sFor (iSq (eOp ixD (eVar 1) (eUn negD (eC (.int 1))))) (gNm 6) (sSeq (sSet 5 (eOp addD (eVar 5) (eLst (aCons (eOp addD (eVar 6) (eTup (aCons (eC (.bl false)) aNil))) (aCons (eOp addD (eVar 6) (eTup (aCons (eC (.bl true)) aNil))) aNil)))))
  sNil))
  (sSeq (sExpr (eLM appendD (eVar 1) (aCons (eVar 5) aNil)))
  sNil))))
  (sSeq (sSet 3 (eLst aNil))
  (sSeq (sFor (iRev (aCons (eVar 1) aNil)) (gNm 4) (sSeq (sSet 3 (eOp addD (eVar 3) (eVar 4)))
  sNil))
  (sSeq (sRet (eVar 3))
  sNil)))))
noncomputable def m_law_plays : FF := runB 1 7 b_law_plays
noncomputable def b_law_winners : SF :=
  (sSeq (sSet 1 eDN)
  (sSeq (sFor (iSq (eCall 1 m_law_plays (aCons (eCB lenD (aCons (eOp ixD (eVar 0) (eC (.int 0))) aNil)) aNil))) (gNm 2) (sSeq (sIf (tOf (eOp eqD (eCB lenD (aCons (eVar 2) aNil)) (eCB lenD (aCons (eOp ixD (eVar 0) (eC (.int 0))) aNil)))) (sSeq (sAsg (eOp ixD (eLst (aCons (eC (.str "all")) (aCons (eC (.str "some")) aNil))) (eCB intD (aCons (eOp niD (eC (.bl false)) (eLC (iSq (eOp ixD (eVar 0) (eC (.int 1)))) [2] tYes (eCall 2 m_law_kept (aCons (eVar 0) (aCons (eVar 1) aNil))))) aNil))) (gSb (eVar 1) (eVar 2) dsetD))
  sNil) (sSeq (sSet 3 (eOp ixD (eOp ixD (eVar 0) (eC (.int 0))) (eCB lenD (aCons (eVar 2) aNil))))
  (sSeq (sSet 4 (eLst (aCons (eOp dgetD (eVar 1) (eOp addD (eVar 2) (eTup (aCons (eC (.bl false)) aNil)))) (aCons (eOp dgetD (eVar 1) (eOp addD (eVar 2) (eTup (aCons (eC (.bl true)) aNil)))) aNil))))
  (sSeq (sAsg (eIf (tOf (eOp inD (eVar 3) (eVar 4))) (eVar 3) (eOp ixD (eVar 4) (eC (.int 0)))) (gSb (eVar 1) (eVar 2) dsetD))
  sNil))))
  sNil))
  (sSeq (sRet (eVar 1))
  sNil)))
noncomputable def m_law_winners : FF := runB 1 5 b_law_winners
noncomputable def b_law_wins : SF :=
  (sSeq (sRet (eOp dgetD (eCall 1 m_law_winners (aCons (eTup (aCons (eOp ixD (eVar 0) (eC (.int 0))) (aCons (eCB tupleD (aCons (eLC (iSq (eVar 1)) [0] tYes (eOp ixD (eOp ixD (eVar 1) (eC (.int 1))) (eVar 0))) aNil)) aNil))) aNil)) (eTup aNil)))
  sNil)
noncomputable def m_law_wins : FF := runB 2 2 b_law_wins
noncomputable def b_law_lean : SF :=
  (sSeq (sSet 1 (eLR1 (aCons (eCB lenD (aCons (eOp ixD (eVar 0) (eC (.int 1))) aNil)) aNil)))
  (sSeq (sFor (iRB (aCons (eOp subD (eCB lenD (aCons (eOp ixD (eVar 0) (eC (.int 1))) aNil)) (eC (.int 1))) (aCons (eUn negD (eC (.int 1))) (aCons (eUn negD (eC (.int 1))) aNil)))) (gNm 2) (sSeq (sSet 3 (eLC (iSq (eVar 1)) [2] (tOf (eOp neD (eVar 0) (eVar 1))) (eVar 0)))
  (sSeq (sIf (tOf (eOp eqD (eCall 2 m_law_wins (aCons (eVar 0) (aCons (eVar 3) aNil))) (eC (.str "all")))) (sSeq (sSet 1 (eVar 3))
  sNil) sNil)
  sNil)))
  (sSeq (sRet (eVar 1))
  sNil)))
noncomputable def m_law_lean : FF := runB 1 4 b_law_lean
noncomputable def b_law_refused : SF :=
  (sSeq (sSet 1 (eC (.str "told")))
  (sSeq (sRef 1 2 3 1 "won" x_lean (aCons (eVar 0) aNil))
  (sSeq (sRet (eVar 1))
  sNil)))
noncomputable def m_law_refused : FF := runB 1 4 b_law_refused
noncomputable def b_law : SF :=
  (sSeq (sFor (iR2 (aCons (eC (.int 0)) (aCons (eCB maxD (aCons (eC (.int 1)) (aCons (eCB minD (aCons (eC (.int 3)) (aCons (eCB lenD (aCons (eVar 0) aNil)) aNil))) aNil))) aNil))) (gNm 1) (sSeq (sSet 2 (eCall 2 m_law_feed (aCons (eVar 0) (aCons (eVar 1) aNil))))
  (sSeq (sSet 3 (eCall 3 m_law_claim (aCons (eVar 2) (aCons (eC (.int 5)) (aCons (eC (.int 10)) aNil)))))
  (sSeq (sIf (tOf (eOp eqD (eCall 2 m_law_take (aCons (eVar 2) (aCons (eC (.int 8)) aNil))) (eC (.int 0)))) (sSeq (sSet 3 (eCall 3 m_law_claim (aCons (eVar 2) (aCons (eC (.int 3)) (aCons (eC (.int 20)) aNil)))))
  (sSeq (sSet 6 (eLC (iR1 (aCons (eC (.int 24)) aNil)) [2, 3] tYes (eCall 2 m_law_row (aCons (eVar 1) (aCons (eCB lenD (aCons (eOp ixD (eVar 2) (eC (.int 0))) aNil)) aNil)))))
  (sSeq (sSet 3 (eTup (aCons (eOp ixD (eVar 3) (eC (.int 0))) (aCons (eSl (eOp addD (eOp ixD (eVar 3) (eC (.int 1))) (eCB tupleD (aCons (eVar 6) aNil))) oNone (oSome (eOp addD (eC (.int 20)) (eCall 2 m_law_take (aCons (eVar 2) (aCons (eC (.int 5)) aNil)))))) aNil))))
  sNil))) (sSeq (sIf (tOf (eOp eqD (eCall 2 m_law_take (aCons (eVar 2) (aCons (eC (.int 8)) aNil))) (eC (.int 0)))) (sSeq (sAsg (eOp ixD (eLst (aCons (eTup (aCons (eC (.int 8)) (aCons (eC (.int 3)) aNil))) (aCons (eTup (aCons (eC (.int 6)) (aCons (eC (.int 8)) aNil))) aNil))) (eCall 2 m_law_take (aCons (eVar 2) (aCons (eC (.int 2)) aNil)))) (gTp 2 (gCn (gNm 10) (gCn (gNm 11) gNl))))
  (sSeq (sSet 3 (eCall 3 m_law_claim (aCons (eVar 2) (aCons (eVar 10) (aCons (eVar 11) aNil)))))
  sNil)) sNil)
  sNil))
  (sSeq (sSet 4 (eCall 2 m_law_wins (aCons (eVar 3) (aCons (eLR1 (aCons (eCB lenD (aCons (eOp ixD (eVar 3) (eC (.int 1))) aNil)) aNil)) aNil))))
  (sSeq (sFor (iR1 (aCons (eCB lenD (aCons (eOp ixD (eVar 3) (eC (.int 1))) aNil)) aNil)) (gNm 5) (sSeq (sSet 7 (eCall 2 m_is_needless (aCons (eVar 3) (aCons (eVar 5) aNil))))
  (sSeq (sSet 8 (eOp eqD (eCall 2 m_law_wins (aCons (eVar 3) (aCons (eLC (iR1 (aCons (eCB lenD (aCons (eOp ixD (eVar 3) (eC (.int 1))) aNil)) aNil)) [5] (tOf (eOp neD (eVar 0) (eVar 1))) (eVar 0)) aNil))) (eVar 4)))
  (sSeq (sIf (tOrr (tNo (tTru (eCB isiD (aCons (eVar 7) (aCons (eC (.ty "bool")) aNil))))) (tOf (eOp neD (eVar 7) (eVar 8)))) (sSeq (sRet (eC (.bl false)))
  sNil) sNil)
  sNil))))
  (sSeq (sIf (tOf (eOp eqD (eVar 4) (eC (.str "some")))) (sSeq (sIf (tOf (eOp neD (eCall 1 m_law_refused (aCons (eVar 3) aNil)) (eC (.str "won")))) (sSeq (sRet (eC (.bl false)))
  sNil) sNil)
  sNil) (sSeq (sSet 8 (eCall 1 m_law_lean (aCons (eVar 3) aNil)))
  (sSeq (sFor (iR1 (aCons (eC (.int 2)) aNil)) (gNm 9) (sSeq (sSet 7 (eCall 1 m_lean (aCons (eVar 3) aNil)))
  (sSeq (sIf (tOrr (tNo (tTru (eCB isiD (aCons (eVar 7) (aCons (eC (.ty "list")) aNil))))) (tOf (eOp neD (eCB reprD (aCons (eVar 7) aNil)) (eCB reprD (aCons (eVar 8) aNil))))) (sSeq (sRet (eC (.bl false)))
  sNil) sNil)
  (sSeq (sExpr (eLM appendD (eVar 7) (aCons (eC (.int 99)) aNil)))
  sNil))))
  sNil)))
  sNil)))))))
  (sSeq (sRet (eC (.bl true)))
  sNil))
noncomputable def m_law : FF := runB 1 12 b_law
end K08
set_option maxHeartbeats 4000000
namespace K08
open PySem L2 DL LH
noncomputable def rig (bs : List Bool) (l : Int) : Bool := match bs[(absZ l - 1).toNat]? with
  | some b => b == decide (0 < l)
  | none => false
noncomputable def kept (bs : List Bool) (ls : List Int) : Bool := ls.any (rig bs)
end K08
namespace K08
open PySem L2 DL LH
end K08
namespace K08
open PySem L2 DL LH
end K08
namespace K08
open PySem L2 DL LH
end K08
namespace K08
open PySem L2 DL LH
noncomputable def kS (d : D) : Bool := match d with
  | .str s => s == "some"
  | _ => false
noncomputable def sideD (b : Bool) : D := if b then .str "some" else .str "all"
theorem kind_side {d : D} (h : IsKind d) : d = sideD (kS d) := by
  rcases h with rfl | rfl
  · have : kS (.str "all") = false := by decide
    rw [this]; rfl
  · have : kS (.str "some") = true := by decide
    rw [this]; rfl
noncomputable def W (ks : List D) (rss : List (List Int)) : Nat → List Bool → Bool
  | 0, bs => rss.all (kept bs)
  | j + 1, bs =>
    let who := kS (ks.getD bs.length .non)
    if W ks rss j (bs ++ [false]) == who || W ks rss j (bs ++ [true]) == who then who else !who
theorem side_eq (a b : Bool) (H : HD) : eqD (sideD a) (sideD b) H = some (.bl (a == b), H) := by
  have e1 : ((("all" : Str)) == ("some" : Str)) = false := by decide
  have e2 : ((("some" : Str)) == ("all" : Str)) = false := by decide
  cases a <;> cases b <;> simp [eqD, twoS, sideD, e1, e2]
noncomputable def playD (bs : List Bool) : D := .tup (bs.map .bl)
end K08
namespace K08
open PySem L2 DL LH
theorem at0 (a b : D) : atI [a, b] 0 = some a := atI_nat (j := 0) rfl
theorem at1 (a b : D) : atI [a, b] 1 = some b := atI_nat (j := 1) rfl
end K08
namespace K08
open PySem L2 DL LH WP
noncomputable def FeedAt (n : Nat) (H : HD) : Prop := ∃ a b, H[n]? = some (.lst [.int a, .int b])
theorem rows_of2 {m : Int} : ∀ rs : List D, (∀ d ∈ rs, RowIn m d) → ∃ rss : List (List Int), rs = rss.map rowD ∧ ∀ ls ∈ rss, Up m 0 ls
  | [], _ => ⟨[], rfl, by simp⟩
  | d :: rs, h => by
    obtain ⟨ls, e, _, _, u⟩ := h d (by simp)
    obtain ⟨rss, e2, u2⟩ := rows_of2 rs fun x hx => h x (by simp [hx])
    refine ⟨ls :: rss, by rw [e, e2]; rfl, ?_⟩
    intro l hl
    rcases List.mem_cons.mp hl with rfl | hl
    · exact u
    · exact u2 l hl
theorem FeedAt.fm {n : Nat} {S : List Nat} {H H' : HD} (f : FeedAt n H) (x : Fm S H H') (h : n ∉ S) : FeedAt n H' := by
  obtain ⟨a, b, e⟩ := f; exact ⟨a, b, x.lst h e⟩
structure Cl (ks : List D) (rss : List (List Int)) : Prop where
  hk : ∀ d ∈ ks, IsKind d
  hu : ∀ ls ∈ rss, Up ks.length 0 ls
  hl : rss.length ≤ 1000
  h8 : ks.length ≤ 8
noncomputable def claimD (ks : List D) (rss : List (List Int)) : D := .tup [.tup ks, .tup (rss.map rowD)]
variable {H : HD} {Q : D → HD → Prop}
theorem w_cl0 {ks : List D} {rss : List (List Int)} (q : Q (.tup ks) H) : wE (ixD (claimD ks rss) (.int 0) H) Q := ⟨_, _, ixT (at0 _ _), q⟩
theorem w_cl1 {ks : List D} {rss : List (List Int)} (q : Q (.tup (rss.map rowD)) H) : wE (ixD (claimD ks rss) (.int 1) H) Q := ⟨_, _, ixT (at1 _ _), q⟩
theorem w_feed {ns : List Int} {k : Int} (h0 : 0 ≤ k) (h1 : k < 1000) (q : ∀ n H', FeedAt n H' → H.length ≤ n → Fm [] H H' → Q (.ref n) H') : wE (m_law_feed [.fl (ns.map .int), .int k] H) Q := by
  obtain ⟨a, b, e⟩ := feed_ok ns k h0 h1 H
  exact ⟨_, _, e, q _ _ ⟨a, b, last⟩ (Nat.le_refl _) (Fm.app _)⟩
theorem w_take {n : Nat} {k : Int} (hf : FeedAt n H) (h0 : 0 < k) (h1 : k < 1073741824) (q : ∀ r H', 0 ≤ r → r < k → FeedAt n H' → Fm [n] H H' → Q (.int r) H') : wE (m_law_take [.ref n, .int k] H) Q := by
  obtain ⟨r, H', r0, r1, e, x, _⟩ := take_ok (n := n) (k := k) hf h0 h1
  exact ⟨_, _, e, q r H' r0 r1 x.feed x.fm⟩
theorem w_claim {n : Nat} {most rows : Int} (hf : FeedAt n H) (hm : 2 ≤ most ∧ most ≤ 8) (hr : 0 ≤ rows ∧ rows ≤ 40)
    (q : ∀ ks rss H', Cl ks rss → (ks.length : Int) ≤ most → (rss.length : Int) ≤ rows → FeedAt n H' → Fm [n] H H' → Q (claimD ks rss) H') : wE (m_law_claim [.ref n, .int most, .int rows] H) Q := by
  obtain ⟨ks, rs, H', e, hk, lk, hr', lr, x⟩ := claim_ok2 (n := n) (H := H) (most := most) (rows := rows) hf hm hr
  obtain ⟨rss, er, hu⟩ := rows_of2 rs hr'
  subst er
  rw [List.length_map] at lr
  exact ⟨_, _, e, q ks rss H' ⟨hk, hu, by omega, by omega⟩ lk lr x.feed x.fm⟩
noncomputable def FW (ks : List D) (rss : List (List Int)) (bs : List Bool) : D := sideD (W ks rss (ks.length - bs.length) bs)
theorem side_of {ks : List D} (hk : ∀ d ∈ ks, IsKind d) {i : Nat} (h : i < ks.length) : ks[i]? = some (sideD (kS (ks.getD i .non))) := by
  have e0 : ks.getD i .non = ks[i] := by simp [List.getD, h]
  have := kind_side (hk ks[i] (List.getElem_mem h))
  rw [List.getElem?_eq_getElem h, e0]
  exact congrArg some this
end K08
namespace K08
open PySem L2 DL LH
theorem up_pos {m : Int} : ∀ (ls : List Int) (last : Int), 0 ≤ last → Up m last ls → ∀ l ∈ ls, 0 < absZ l
  | [], _, _, _, l, h => by simp at h
  | x :: r, last, h0, u, l, h => by
    have h1 := u.1
    rcases List.mem_cons.mp h with rfl | h
    · omega
    · exact up_pos r (absZ x) (by omega) u.2.2 l h
noncomputable abbrev kb : SF := (sSeq (sIf (tAn (tOf (eOp leD (eCB absD (aCons (eVar 2) aNil)) (eCB lenD (aCons (eVar 1) aNil)))) (tOf (eOp eqD (eOp ixD (eVar 1) (eOp subD (eCB absD (aCons (eVar 2) aNil)) (eC (.int 1)))) (eOp gtD (eVar 2) (eC (.int 0)))))) (sSeq (sRet (eC (.bl true)))
  sNil) sNil)
  sNil)
theorem kb_ok {bs : List Bool} {l : Int} {r : D} {H : HD} (h0 : 0 < absZ l) : kb [some r, some (.tup (bs.map .bl)), some (.int l)] H = some (if rig bs l = true then .rt (.bl true) else .nx, [some r, some (.tup (bs.map .bl)), some (.int l)], H) := by
  let σ : SD := [some r, some (.tup (bs.map .bl)), some (.int l)]
  have ab : eCB absD (aCons (eVar 2) aNil) σ H = some (.int (absZ l), H) := cb (ac (vr rfl) an) rfl
  have t1 : tOf (eOp leD (eCB absD (aCons (eVar 2) aNil)) (eCB lenD (aCons (eVar 1) aNil))) σ H = some (decide (absZ l ≤ bs.length), H) := tof (op ab (cb (ac (vr rfl) an) (lenB bs H)) (by simp [leD, iiD, CT]))
  by_cases c : absZ l ≤ bs.length
  · rw [decide_eq_true c] at t1
    have lt : (absZ l - 1).toNat < bs.length := by omega
    have a1 : atI (bs.map D.bl) (absZ l - 1) = some (.bl bs[(absZ l - 1).toNat]) := atI_toNat (by omega) (by rw [List.getElem?_map, List.getElem?_eq_getElem lt]; rfl)
    have rg : rig bs l = (bs[(absZ l - 1).toNat] == decide (0 < l)) := by unfold rig; rw [List.getElem?_eq_getElem lt]
    have t2 : tOf (eOp eqD (eOp ixD (eVar 1) (eOp subD (eCB absD (aCons (eVar 2) aNil)) (eC (.int 1)))) (eOp gtD (eVar 2) (eC (.int 0)))) σ H = some (rig bs l, H) := by
      rw [rg]
      exact tof (op (op (vr rfl) (op ab rfl (suI _ _ _)) (ixT a1)) (op (d1 := .int l) (H1 := H) (vr rfl) rfl (by simp [gtD, iiD, CT])) (eq_bl _ _ _))
    have tt : tAn (tOf (eOp leD (eCB absD (aCons (eVar 2) aNil)) (eCB lenD (aCons (eVar 1) aNil)))) (tOf (eOp eqD (eOp ixD (eVar 1) (eOp subD (eCB absD (aCons (eVar 2) aNil)) (eC (.int 1)))) (eOp gtD (eVar 2) (eC (.int 0))))) σ H = some (rig bs l, H) := (anT t1).trans t2
    cases e : rig bs l with
    | true => rw [e] at tt; exact hit tt (rt rfl)
    | false => rw [e] at tt; exact (skip tt).trans rfl
  · rw [decide_eq_false c] at t1
    have rg : rig bs l = false := by unfold rig; rw [List.getElem?_eq_none (by omega)]
    rw [rg]
    exact (skip (anF t1)).trans rfl
theorem kb_loop {bs : List Bool} {r : D} {H : HD} : ∀ (ls : List Int) (z : Option D), (∀ l ∈ ls, 0 < absZ l) → ∃ z', forL [] (gNm 2) kb (ls.map .int) [some r, some (.tup (bs.map .bl)), z] H = some (if kept bs ls = true then .rt (.bl true) else .nx, [some r, some (.tup (bs.map .bl)), z'], H)
  | [], z, _ => ⟨z, by rw [List.map_nil, forL, if_pos ok_nil]; rfl⟩
  | l :: ls, z, h => by
    rw [List.map_cons, forL, if_pos ok_nil]
    simp only [gNm, List.set, Option.bind_some]
    rw [kb_ok (h l (by simp))]
    have k : kept bs (l :: ls) = (rig bs l || kept bs ls) := by unfold kept; rw [List.any_cons]
    cases e : rig bs l with
    | true => exact ⟨some (.int l), by rw [k, e]; rfl⟩
    | false =>
      obtain ⟨z', ih⟩ := kb_loop (bs := bs) (r := r) (H := H) ls (some (.int l)) fun x hx => h x (by simp [hx])
      refine ⟨z', ?_⟩
      rw [if_neg (by simp)]
      simp only [Option.bind_some]
      rw [ih, k, e, Bool.false_or]
theorem kept_ok {bs : List Bool} {ls : List Int} {H : HD} (h : ∀ l ∈ ls, 0 < absZ l) : m_law_kept [rowD ls, .tup (bs.map .bl)] H = some (.bl (kept bs ls), H) := by
  obtain ⟨z', e⟩ := kb_loop (bs := bs) (r := rowD ls) (H := H) ls none h
  have e1 : sFor (iSq (eVar 0)) (gNm 2) kb [some (rowD ls), some (.tup (bs.map .bl)), none] H = some (if kept bs ls = true then .rt (.bl true) else .nx, [some (rowD ls), some (.tup (bs.map .bl)), z'], H) := by
    unfold sFor iSq
    rw [vr (d := rowD ls) rfl]
    exact e
  show ((b_law_kept [some (rowD ls), some (.tup (bs.map .bl)), none] H).bind _) = _
  unfold b_law_kept
  cases c : kept bs ls with
  | true => rw [c, if_pos rfl] at e1; rw [seq_rt e1]; rfl
  | false => rw [c, if_neg (by simp)] at e1; rw [seq_nx e1]; rfl
noncomputable def two (bs : List Bool) : List (List Bool) := [bs ++ [false], bs ++ [true]]
noncomputable def lev : Nat → List (List Bool)
  | 0 => [[]]
  | k + 1 => (lev k).flatMap two
noncomputable def allP : Nat → List (List Bool)
  | 0 => lev 0
  | k + 1 => lev (k + 1) ++ allP k
theorem lev_len : ∀ (k : Nat), ∀ bs ∈ lev k, bs.length = k
  | 0, bs, h => by simp [lev] at h; subst h; rfl
  | k + 1, bs, h => by
    obtain ⟨x, hx, h⟩ := List.mem_flatMap.mp h
    have := lev_len k x hx
    simp only [two, List.mem_cons, List.not_mem_nil, or_false] at h
    rcases h with rfl | rfl <;> simp [this]
theorem lev_size : ∀ k : Nat, (lev k).length = 2 ^ k
  | 0 => rfl
  | k + 1 => by
    have : ∀ xs : List (List Bool), (xs.flatMap two).length = 2 * xs.length := fun xs => by
      induction xs with
      | nil => rfl
      | cons x r ih => rw [List.flatMap_cons, List.length_append, ih]; simp [two]; omega
    show ((lev k).flatMap two).length = _
    rw [this, lev_size k, Nat.pow_succ]; omega
theorem lev_more {k : Nat} {bs : List Bool} (t : Bool) (h : bs ∈ lev k) : bs ++ [t] ∈ lev (k + 1) := by
  refine List.mem_flatMap.mpr ⟨bs, h, ?_⟩
  cases t <;> simp [two]
theorem addL {p q : Nat} {H : HD} {xs ys : List D} (h1 : H[p]? = some (.lst xs)) (h2 : H[q]? = some (.lst ys)) (hl : xs.length + ys.length ≤ 100000) : addD (.ref p) (.ref q) H = some (.ref H.length, H ++ [.lst (xs ++ ys)]) := by
  have z : (xs ++ ys).length ≤ sizeLine := size_ok (by simp; omega)
  simp only [addD, h1, h2]
  exact if_pos z
noncomputable abbrev ib : SF := (sSeq (sSet 5 (eOp addD (eVar 5) (eLst (aCons (eOp addD (eVar 6) (eTup (aCons (eC (.bl false)) aNil))) (aCons (eOp addD (eVar 6) (eTup (aCons (eC (.bl true)) aNil))) aNil)))))
  sNil)
theorem in_loop {r : Nat} {L : List D} {a0 a1 a2 a3 a4 : Option D} : ∀ (bl acc : List (List Bool)) (q : Nat) (H : HD) (z6 : Option D), H[q]? = some (.lst (acc.map playD)) → H[r]? = some (.lst L) → acc.length + 2 * bl.length ≤ 10000 → (∀ b ∈ bl, b.length ≤ 100) →
    ∃ (q' : Nat) (T : HD) (z6' : Option D), forL [(r, .lst L)] (gNm 6) ib (bl.map playD) [a0, a1, a2, a3, a4, some (.ref q), z6] H = some (.nx, [a0, a1, a2, a3, a4, some (.ref q'), z6'], H ++ T) ∧ (H ++ T)[q']? = some (.lst ((acc ++ bl.flatMap two).map playD)) ∧ (q' = q ∨ H.length ≤ q')
  | [], acc, q, H, z6, hq, hr, _, _ => ⟨q, [], z6, by rw [List.map_nil, forL, if_pos (by intro x hx; simp at hx; subst hx; exact hr), List.append_nil], by simpa using hq, .inl rfl⟩
  | b :: bl, acc, q, H, z6, hq, hr, hl, hb => by
    rw [List.map_cons, forL, if_pos (by intro x hx; simp at hx; subst hx; exact hr)]
    simp only [gNm, List.set, Option.bind_some]
    let H1 : HD := H ++ [.lst ((two b).map playD)]
    let H2 : HD := H1 ++ [.lst ((acc ++ two b).map playD)]
    have hb1 := hb b (by simp)
    have p1 : ∀ t Hx, eOp addD (eVar 6) (eTup (aCons (eC (.bl t)) aNil)) [a0, a1, a2, a3, a4, some (.ref q), some (playD b)] Hx = some (playD (b ++ [t]), Hx) := fun t Hx => by
      refine op (vr rfl) (tp (ds := [.bl t]) (ac rfl an) (by simp)) ?_
      have := adT (xs := b.map D.bl) (ys := [.bl t]) (H := Hx) (by simp; omega)
      rw [show playD (b ++ [t]) = .tup (b.map D.bl ++ [.bl t]) by simp [playD]]
      exact this
    have q1 : H1[q]? = some (.lst (acc.map playD)) := by rw [List.getElem?_append_left (List.getElem?_eq_some_iff.mp hq).1]; exact hq
    have n1 : H1[H.length]? = some (.lst ((two b).map playD)) := by simp [H1]
    have ad := addL q1 n1 (by simp [two] at hl ⊢; omega)
    have st : ib [a0, a1, a2, a3, a4, some (.ref q), some (playD b)] H = some (.nx, [a0, a1, a2, a3, a4, some (.ref H1.length), some (playD b)], H2) := by
      refine (seq_nx (set_nx (d := .ref H1.length) (H1 := H2) (op (vr rfl) (ls (ds := (two b).map playD) (ac (p1 false _) (ac (p1 true _) an)) (by simp [two])) ?_))).trans rfl
      rw [ad, ← List.map_append]
    rw [st]
    simp only [Option.bind_some]
    have q2 : H2[H1.length]? = some (.lst ((acc ++ two b).map playD)) := by simp [H2]
    have r2 : H2[r]? = some (.lst L) := by
      have lr := (List.getElem?_eq_some_iff.mp hr).1
      rw [List.getElem?_append_left (by simp [H1]; omega), List.getElem?_append_left lr]; exact hr
    obtain ⟨q', T, z6', e, g, w⟩ := in_loop (r := r) (L := L) (a0 := a0) (a1 := a1) (a2 := a2) (a3 := a3) (a4 := a4) bl (acc ++ two b) H1.length H2 (some (playD b)) q2 r2 (by simp [two] at hl ⊢; omega) (fun x hx => hb x (by simp [hx]))
    have eH : H2 ++ T = H ++ ([.lst ((two b).map playD), .lst ((acc ++ two b).map playD)] ++ T) := by simp [H2, H1]
    refine ⟨q', _, z6', by rw [e, eH], ?_, ?_⟩
    · rw [← eH, g, List.flatMap_cons, List.append_assoc]
    · rcases w with rfl | w
      · exact .inr (by simp [H1])
      · exact .inr (by simp [H2, H1] at w; omega)
end K08
namespace K08
open PySem L2 DL LH
noncomputable def LV (p : Nat) (H : HD) : Nat → List D → Prop
  | 0, refs => ∃ r, refs = [.ref r] ∧ r ≠ p ∧ H[r]? = some (.lst ((lev 0).map playD))
  | k + 1, refs => ∃ rs r, refs = rs ++ [.ref r] ∧ LV p H k rs ∧ r ≠ p ∧ H[r]? = some (.lst ((lev (k + 1)).map playD))
theorem LV.mono {p : Nat} {H H' : HD} (x : ExtS [p] H H') : ∀ (k : Nat) (refs : List D), LV p H k refs → LV p H' k refs
  | 0, refs, ⟨r, e, n, h⟩ => ⟨r, e, n, x.old r _ (by simp; exact n) h⟩
  | k + 1, refs, ⟨rs, r, e, l, n, h⟩ => ⟨rs, r, e, LV.mono x k rs l, n, x.old r _ (by simp; exact n) h⟩
theorem LV.last {p : Nat} {H : HD} : ∀ (k : Nat) (refs : List D), LV p H k refs → ∃ rs r, refs = rs ++ [.ref r] ∧ r ≠ p ∧ H[r]? = some (.lst ((lev k).map playD))
  | 0, refs, ⟨r, e, n, h⟩ => ⟨[], r, e, n, h⟩
  | k + 1, refs, ⟨rs, r, e, _, n, h⟩ => ⟨rs, r, e, n, h⟩
theorem LV.len {p : Nat} {H : HD} : ∀ (k : Nat) (refs : List D), LV p H k refs → refs.length = k + 1
  | 0, refs, ⟨r, e, n, h⟩ => by subst e; rfl
  | k + 1, refs, ⟨rs, r, e, l, n, h⟩ => by subst e; have := LV.len k rs l; simp [this]
theorem at_last (xs : List D) (v : D) : atI (xs ++ [v]) (-1) = some v := by
  unfold atI ixN
  rw [if_neg (by decide), if_pos (by simp; omega)]
  have : ((-1 : Int) + (((xs ++ [v]).length : Nat) : Int)).toNat = xs.length := by simp; omega
  rw [this]
  simp
noncomputable abbrev ob : SF := (sSeq (sSet 5 (eLst aNil))
  (sSeq (sFor (iSq (eOp ixD (eVar 1) (eUn negD (eC (.int 1))))) (gNm 6) ib)
  (sSeq (sExpr (eLM appendD (eVar 1) (aCons (eVar 5) aNil)))
  sNil)))
theorem ob_ok {p k : Nat} {refs : List D} {a0 a2 a3 a4 z5 z6 : Option D} {H : HD} (hp : H[p]? = some (.lst refs)) (lv : LV p H k refs) (hk : k < 8) :
    ∃ (refs' : List D) (z5' z6' : Option D) (H' : HD), ob [a0, some (.ref p), a2, a3, a4, z5, z6] H = some (.nx, [a0, some (.ref p), a2, a3, a4, z5', z6'], H') ∧ H'[p]? = some (.lst refs') ∧ LV p H' (k + 1) refs' ∧ ExtS [p] H H' := by
  have ln := LV.len k refs lv
  obtain ⟨rs, r, e, nr, hr⟩ := LV.last k refs lv
  have ltp := (List.getElem?_eq_some_iff.mp hp).1
  have ltr := (List.getElem?_eq_some_iff.mp hr).1
  let H1 : HD := H ++ [.lst []]
  have s1 : sSet 5 (eLst aNil) [a0, some (.ref p), a2, a3, a4, z5, z6] H = some (.nx, [a0, some (.ref p), a2, a3, a4, some (.ref H.length), z6], H1) := set_nx (ls (ds := []) an (by simp))
  have p1 : H1[p]? = some (.lst refs) := by rw [List.getElem?_append_left ltp]; exact hp
  have r1 : H1[r]? = some (.lst ((lev k).map playD)) := by rw [List.getElem?_append_left ltr]; exact hr
  have sz := lev_size k
  have p8 : 2 ^ k ≤ 2 ^ 8 := Nat.pow_le_pow_right (by omega) (by omega)
  obtain ⟨q', T, z6', e2, g2, w2⟩ := in_loop (r := r) (L := (lev k).map playD) (a0 := a0) (a1 := some (.ref p)) (a2 := a2) (a3 := a3) (a4 := a4) (lev k) [] H.length H1 z6 (by simp [H1]) r1 (by simp; omega) (fun b hb => by have := lev_len k b hb; omega)
  have it : iSq (eOp ixD (eVar 1) (eUn negD (eC (.int 1)))) [a0, some (.ref p), a2, a3, a4, some (.ref H.length), z6] H1 = some (((lev k).map playD, [(r, .lst ((lev k).map playD))]), H1) := by
    have i1 : eOp ixD (eVar 1) (eUn negD (eC (.int 1))) [a0, some (.ref p), a2, a3, a4, some (.ref H.length), z6] H1 = some (.ref r, H1) := by
      refine op (vr rfl) (rfl : eUn negD (eC (.int 1)) _ H1 = some (.int (-1), H1)) ?_
      simp only [ixD, seqD, p1, Option.bind_some]
      rw [e, at_last]
      rfl
    unfold iSq
    rw [i1]
    simp only [Option.bind_some, itemsD, r1, Option.map_some]
  have s2 : sFor (iSq (eOp ixD (eVar 1) (eUn negD (eC (.int 1))))) (gNm 6) ib [a0, some (.ref p), a2, a3, a4, some (.ref H.length), z6] H1 = some (.nx, [a0, some (.ref p), a2, a3, a4, some (.ref q'), z6'], H1 ++ T) := by
    unfold sFor
    rw [it]
    exact e2
  have p2 : (H1 ++ T)[p]? = some (.lst refs) := by rw [List.getElem?_append_left (by simp [H1]; omega)]; exact p1
  have lp2 := (List.getElem?_eq_some_iff.mp p2).1
  have hs : refs.length < sizeLine := by rw [PySem.sizeLine_eq]; omega
  have qp : q' ≠ p := by
    rcases w2 with rfl | w
    · omega
    · simp [H1] at w; omega
  let H3 : HD := (H1 ++ T).set p (.lst (refs ++ [.ref q']))
  have s3 : sExpr (eLM appendD (eVar 1) (aCons (eVar 5) aNil)) [a0, some (.ref p), a2, a3, a4, some (.ref q'), z6'] (H1 ++ T) = some (.nx, [a0, some (.ref p), a2, a3, a4, some (.ref q'), z6'], H3) := by
    simp [sExpr, eLM, eVar, isLst, p2, aCons, aNil, appendD, hs, H3]
  have x3 : ExtS [p] H H3 := (ExtS.app [.lst []]).trans ((ExtS.app T).trans (ExtS.set (by simp)))
  refine ⟨refs ++ [.ref q'], some (.ref q'), z6', H3, ?_, by rw [List.getElem?_set_self lp2], ⟨refs, q', rfl, LV.mono x3 k refs lv, qp, ?_⟩, x3⟩
  · unfold ob
    rw [seq_nx s1, seq_nx s2, seq_nx s3]
    rfl
  · rw [List.getElem?_set_ne (Ne.symm qp), g2]
    simp [lev]
theorem out_loop {p : Nat} {a0 a3 a4 : Option D} : ∀ (xs : List D) (k : Nat) (refs : List D) (H : HD) (z2 z5 z6 : Option D), H[p]? = some (.lst refs) → LV p H k refs → k + xs.length ≤ 8 →
    ∃ (refs' : List D) (z2' z5' z6' : Option D) (H' : HD), forL [] (gNm 2) ob xs [a0, some (.ref p), z2, a3, a4, z5, z6] H = some (.nx, [a0, some (.ref p), z2', a3, a4, z5', z6'], H') ∧ H'[p]? = some (.lst refs') ∧ LV p H' (k + xs.length) refs' ∧ ExtS [p] H H'
  | [], k, refs, H, z2, z5, z6, hp, lv, _ => ⟨refs, z2, z5, z6, H, by rw [forL, if_pos ok_nil], hp, lv, ExtS.refl⟩
  | x :: xs, k, refs, H, z2, z5, z6, hp, lv, hk => by
    rw [forL, if_pos ok_nil]
    simp only [gNm, List.set, Option.bind_some]
    obtain ⟨refs1, z5', z6', H1, e1, p1, l1, x1⟩ := ob_ok (a0 := a0) (a2 := some x) (a3 := a3) (a4 := a4) (z5 := z5) (z6 := z6) hp lv (by simp at hk; omega)
    rw [e1]
    simp only [Option.bind_some]
    obtain ⟨refs2, z2', z5'', z6'', H2, e2, p2, l2, x2⟩ := out_loop (p := p) (a0 := a0) (a3 := a3) (a4 := a4) xs (k + 1) refs1 H1 (some x) z5' z6' p1 l1 (by simp at hk ⊢; omega)
    refine ⟨refs2, z2', z5'', z6'', H2, e2, p2, ?_, x1.trans x2⟩
    have : k + 1 + xs.length = k + (x :: xs).length := by simp; omega
    rw [← this]; exact l2
theorem allP_len : ∀ k : Nat, (allP k).length < 2 ^ (k + 1)
  | 0 => by decide
  | k + 1 => by
    have a := allP_len k
    have b := lev_size (k + 1)
    show (lev (k + 1) ++ allP k).length < _
    rw [List.length_append, b, Nat.pow_succ 2 (k + 1)]; omega
noncomputable abbrev rb : SF := (sSeq (sSet 3 (eOp addD (eVar 3) (eVar 4))) sNil)
theorem rb_ok {p k q r : Nat} {H : HD} {acc : List (List Bool)} {a0 a1 a2 a5 a6 : Option D} (hk : k ≤ 8) (hq : H[q]? = some (.lst (acc.map playD))) (hr : H[r]? = some (.lst ((lev k).map playD))) (ha : acc.length ≤ 10000) :
    rb [a0, a1, a2, some (.ref q), some (.ref r), a5, a6] H = some (.nx, [a0, a1, a2, some (.ref H.length), some (.ref r), a5, a6], H ++ [.lst ((acc ++ lev k).map playD)]) := by
  have sz := lev_size k
  have p8 : 2 ^ k ≤ 2 ^ 8 := Nat.pow_le_pow_right (by omega) (by omega)
  have ad := addL hq hr (by simp; omega)
  rw [← List.map_append] at ad
  exact (seq_nx (set_nx (op (vr rfl) (vr rfl) ad))).trans rfl
theorem rev_loop {p : Nat} {all : List D} {a0 a1 a2 a5 a6 : Option D} : ∀ (k : Nat) (refs : List D) (acc : List (List Bool)) (q : Nat) (H : HD) (z4 : Option D), k ≤ 8 → LV p H k refs → H[p]? = some (.lst all) → H[q]? = some (.lst (acc.map playD)) → acc.length + 2 ^ (k + 1) ≤ 10000 →
    ∃ (q' : Nat) (T : HD) (z4' : Option D), forL [(p, .lst all)] (gNm 4) rb refs.reverse [a0, a1, a2, some (.ref q), z4, a5, a6] H = some (.nx, [a0, a1, a2, some (.ref q'), z4', a5, a6], H ++ T) ∧ (H ++ T)[q']? = some (.lst ((acc ++ allP k).map playD))
  | 0, refs, acc, q, H, z4, hk, ⟨r, e, n, hr⟩, hp, hq, ha => by
    have st := rb_ok (p := p) (k := 0) (a0 := a0) (a1 := a1) (a2 := a2) (a5 := a5) (a6 := a6) hk hq hr (Nat.le_trans (Nat.le_add_right _ _) ha)
    have ltp := (List.getElem?_eq_some_iff.mp hp).1
    subst e
    rw [List.reverse_cons, List.reverse_nil, List.nil_append, forL, if_pos (by intro x hx; simp at hx; subst hx; exact hp)]
    simp only [gNm, List.set, Option.bind_some]
    rw [st]
    simp only [Option.bind_some]
    refine ⟨H.length, [.lst ((acc ++ lev 0).map playD)], some (.ref r), ?_, by simp [allP]⟩
    rw [forL, if_pos (by intro x hx; simp at hx; subst hx; rw [List.getElem?_append_left ltp]; exact hp)]
  | k + 1, refs, acc, q, H, z4, hk, ⟨rs, r, e, lv, n, hr⟩, hp, hq, ha => by
    have st := rb_ok (p := p) (k := k + 1) (a0 := a0) (a1 := a1) (a2 := a2) (a5 := a5) (a6 := a6) hk hq hr (Nat.le_trans (Nat.le_add_right _ _) ha)
    have ltp := (List.getElem?_eq_some_iff.mp hp).1
    have sz := lev_size (k + 1)
    subst e
    rw [List.reverse_append, List.reverse_cons, List.reverse_nil, List.nil_append, List.singleton_append, forL, if_pos (by intro x hx; simp at hx; subst hx; exact hp)]
    simp only [gNm, List.set, Option.bind_some]
    rw [st]
    simp only [Option.bind_some]
    have x1 : ExtS [p] H (H ++ [.lst ((acc ++ lev (k + 1)).map playD)]) := ExtS.app _
    obtain ⟨q', T, z4', e2, g2⟩ := rev_loop (p := p) (all := all) (a0 := a0) (a1 := a1) (a2 := a2) (a5 := a5) (a6 := a6) k rs (acc ++ lev (k + 1)) H.length _ (some (.ref r)) (by omega) (LV.mono x1 k rs lv) (by rw [List.getElem?_append_left ltp]; exact hp) (by simp) (by rw [List.length_append, sz]; have := Nat.pow_succ 2 (k + 1); omega)
    refine ⟨q', .lst ((acc ++ lev (k + 1)).map playD) :: T, z4', ?_, ?_⟩
    · rw [e2, List.append_assoc]; rfl
    · rw [List.append_assoc] at g2
      rw [← List.append_assoc] at g2
      simpa [allP, List.append_assoc] using g2
theorem it_Rev {f : EF} {σ : SD} {H H1 : HD} {n : Nat} {xs : List D} (h : f σ H = some (.ref n, H1)) (g : H1[n]? = some (.lst xs)) : iRev (aCons f aNil) σ H = some ((xs.reverse, [(n, .lst xs)]), H1) := by
  unfold iRev
  rw [show aCons f aNil σ H = some ([.ref n], H1) from ac h an]
  simp only [Option.bind_some, g]
theorem plays_a {n : Nat} (hn : n ≤ 8) (H : HD) : ∃ (p : Nat) (refs : List D) (z2 z5 z6 : Option D) (H' : HD), (∀ σ, σ = [some (D.int n), none, none, none, none, none, none] → ∀ rest : SF, (sSeq (sSet 1 (eLst (aCons (eLst (aCons (eTup aNil) aNil)) aNil))) (sSeq (sFor (iR1 (aCons (eVar 0) aNil)) (gNm 2) ob) rest)) σ H = rest [some (.int n), some (.ref p), z2, none, none, z5, z6] H') ∧ H'[p]? = some (.lst refs) ∧ LV p H' n refs ∧ ExtS [] H H' := by
  have p2 : (H ++ [.lst [.tup []]] ++ [.lst [.ref H.length]])[(H ++ [DO.lst [.tup []]]).length]? = some (.lst [.ref H.length]) := by simp
  have r2 : (H ++ [.lst [.tup []]] ++ [.lst [.ref H.length]])[H.length]? = some (.lst ((lev 0).map playD)) := by simp [lev, playD]
  have np : H.length ≠ (H ++ [DO.lst [.tup []]]).length := by simp
  have s1 : sSet 1 (eLst (aCons (eLst (aCons (eTup aNil) aNil)) aNil)) [some (.int n), none, none, none, none, none, none] H = some (.nx, [some (.int n), some (.ref (H ++ [DO.lst [.tup []]]).length), none, none, none, none, none], H ++ [.lst [.tup []]] ++ [.lst [.ref H.length]]) :=
    set_nx (ls (ds := [.ref H.length]) (ac (ls (ds := [.tup []]) (ac rfl an) (by simp)) an) (by simp))
  have x0 : ExtS [] H (H ++ [.lst [.tup []]] ++ [.lst [.ref H.length]]) := (ExtS.app _).trans (ExtS.app _)
  have lp : H.length ≤ (H ++ [DO.lst [.tup []]]).length := by simp
  generalize (H ++ [DO.lst [.tup []]]).length = p at *
  generalize H ++ [.lst [.tup []]] ++ [.lst [.ref H.length]] = H2 at *
  have hx : 0 + (rangeL 0 n).length ≤ 8 := by rw [range_len]; omega
  obtain ⟨refs, z2, z5, z6, H3, e3, p3, l3, x3⟩ := out_loop (p := p) (a0 := some (.int n)) (a3 := none) (a4 := none) (rangeL 0 n) 0 [.ref H.length] H2 none none none p2 ⟨H.length, rfl, np, r2⟩ hx
  rw [range_len, Nat.zero_add] at l3
  have sn : smallI (n : Int) := ⟨by omega, by omega⟩
  have it := it_R1 (f := eVar 0) (σ := [some (.int n), some (.ref p), none, none, none, none, none]) (H := H2) (vr rfl) sn
  have s2 : sFor (iR1 (aCons (eVar 0) aNil)) (gNm 2) ob [some (.int n), some (.ref p), none, none, none, none, none] H2 = some (.nx, [some (.int n), some (.ref p), z2, none, none, z5, z6], H3) := by
    unfold sFor
    rw [it]
    exact e3
  refine ⟨p, refs, z2, z5, z6, H3, fun σ hs rest => ?_, p3, l3, ?_⟩
  · subst hs
    rw [seq_nx s1, seq_nx s2]
  · refine ⟨fun m o _ h => ?_, Nat.le_trans x0.len x3.len⟩
    have lm := (List.getElem?_eq_some_iff.mp h).1
    have mp : m ∉ [p] := by simp; omega
    exact x3.old m o mp (x0.old m o (by simp) h)
theorem plays_ok {n : Nat} (hn : n ≤ 8) (H : HD) : ∃ (q : Nat) (H' : HD), m_law_plays [.int n] H = some (.ref q, H') ∧ H'[q]? = some (.lst ((allP n).map playD)) ∧ ExtS [] H H' := by
  obtain ⟨p, refs, z2, z5, z6, H3, e3, p3, l3, x3⟩ := plays_a hn H
  have s3 : sSet 3 (eLst aNil) [some (.int n), some (.ref p), z2, none, none, z5, z6] H3 = some (.nx, [some (.int n), some (.ref p), z2, some (.ref H3.length), none, z5, z6], H3 ++ [.lst []]) := set_nx (ls (ds := []) an (by simp))
  have ltp := (List.getElem?_eq_some_iff.mp p3).1
  have p4 : (H3 ++ [.lst []])[p]? = some (.lst refs) := by rw [List.getElem?_append_left ltp]; exact p3
  have q4 : (H3 ++ [.lst []])[H3.length]? = some (.lst (([] : List (List Bool)).map playD)) := by simp
  have l4 : LV p (H3 ++ [.lst []]) n refs := LV.mono (ExtS.app _) _ _ l3
  have x4 : ExtS [] H (H3 ++ [.lst []]) := x3.trans (ExtS.app _)
  generalize H3 ++ [.lst []] = H4 at *
  have p8 : 2 ^ (n + 1) ≤ 2 ^ 9 := Nat.pow_le_pow_right (by omega) (by omega)
  have hz : ([] : List (List Bool)).length + 2 ^ (n + 1) ≤ 10000 := by rw [List.length_nil, Nat.zero_add]; exact Nat.le_trans p8 (by decide)
  obtain ⟨q', T, z4, e5, g5⟩ := rev_loop (p := p) (all := refs) (a0 := some (.int n)) (a1 := some (.ref p)) (a2 := z2) (a5 := z5) (a6 := z6) n refs [] H3.length H4 none hn l4 p4 q4 hz
  have it := it_Rev (f := eVar 1) (σ := [some (.int n), some (.ref p), z2, some (.ref H3.length), none, z5, z6]) (H := H4) (vr rfl) p4
  have s4 : sFor (iRev (aCons (eVar 1) aNil)) (gNm 4) rb [some (.int n), some (.ref p), z2, some (.ref H3.length), none, z5, z6] H4 = some (.nx, [some (.int n), some (.ref p), z2, some (.ref q'), z4, z5, z6], H4 ++ T) := by
    unfold sFor
    rw [it]
    exact e5
  rw [List.nil_append] at g5
  refine ⟨q', H4 ++ T, ?_, g5, x4.trans (ExtS.app _)⟩
  have e3' := e3 _ rfl (sSeq (sSet 3 (eLst aNil)) (sSeq (sFor (iRev (aCons (eVar 1) aNil)) (gNm 4) rb) (sSeq (sRet (eVar 3)) sNil)))
  rw [seq_nx s3, seq_nx s4, seq_rt (rt (vr rfl))] at e3'
  have e4 : b_law_plays ([D.int n].map some ++ List.replicate (7 - [D.int n].length) none) H = some (.rt (.ref q'), [some (.int n), some (.ref p), z2, some (.ref q'), z4, z5, z6], H4 ++ T) := e3'
  unfold m_law_plays runB
  rw [if_pos (show [D.int (n : Int)].length = 1 from rfl), e4]
  rfl
end K08
namespace K08
open PySem L2 DL LH
noncomputable def enc (bs : List Bool) : List Int := bs.map fun b => if b then 1 else 0
theorem nk_play (bs : List Bool) : nk (playD bs) = some (enc bs) := by
  show nksOf (bs.map D.bl) = _
  induction bs with
  | nil => rfl
  | cons b r ih =>
    rw [List.map_cons, nksOf, ih]
    cases b <;> rfl
theorem enc_inj : ∀ a b : List Bool, enc a = enc b → a = b
  | [], [], _ => rfl
  | [], _ :: _, h => by simp [enc] at h
  | _ :: _, [], h => by simp [enc] at h
  | x :: a, y :: b, h => by
    have h1 : (if x then (1 : Int) else 0) = (if y then 1 else 0) := (List.cons.inj h).1
    have h2 : enc a = enc b := (List.cons.inj h).2
    rw [enc_inj a b h2]
    cases x <;> cases y <;> simp at h1 <;> rfl
theorem lev_nodup : ∀ k : Nat, (lev k).Nodup
  | 0 => by simp [lev]
  | k + 1 => by
    have : ∀ xs : List (List Bool), xs.Nodup → (xs.flatMap two).Nodup := fun xs => by
      induction xs with
      | nil => intro _; simp
      | cons x r ih =>
        intro h
        obtain ⟨h1, h2⟩ := List.nodup_cons.mp h
        rw [List.flatMap_cons]
        refine List.nodup_append.mpr ⟨by simp [two], ih h2, ?_⟩
        intro a ha b hb e
        subst e
        obtain ⟨y, hy, hb⟩ := List.mem_flatMap.mp hb
        simp only [two, List.mem_cons, List.not_mem_nil, or_false] at ha hb
        have : x = y := by
          rcases ha with ha | ha <;> rcases hb with hb | hb <;> rw [ha] at hb <;> exact (List.append_inj' hb rfl).1
        exact h1 (this ▸ hy)
    exact this _ (lev_nodup k)
theorem allP_le : ∀ (k : Nat), ∀ bs ∈ allP k, bs.length ≤ k
  | 0, bs, h => by have := lev_len 0 bs h; omega
  | k + 1, bs, h => by
    rcases List.mem_append.mp h with h | h
    · have := lev_len (k + 1) bs h; omega
    · have := allP_le k bs h; omega
theorem allP_nodup : ∀ k : Nat, (allP k).Nodup
  | 0 => lev_nodup 0
  | k + 1 => List.nodup_append.mpr ⟨lev_nodup (k + 1), allP_nodup k, fun a ha b hb e => by
      have h1 := lev_len (k + 1) a ha
      have h2 := allP_le k b hb
      rw [e] at h1; omega⟩
noncomputable def kv (ks : List D) (rss : List (List Int)) (bs : List Bool) : D × D := (playD bs, FW ks rss bs)
theorem look_in {ks : List D} {rss : List (List Int)} {bs : List Bool} : ∀ done : List (List Bool), bs ∈ done → dlook (done.map (kv ks rss)) (enc bs) = some (FW ks rss bs)
  | [], h => by simp at h
  | x :: r, h => by
    unfold dlook
    rw [List.map_cons, List.find?_cons]
    by_cases c : x = bs
    · subst c
      have : (nk (kv ks rss x).1 == some (enc x)) = true := by simp [kv, nk_play]
      rw [this]; rfl
    · have : (nk (kv ks rss x).1 == some (enc bs)) = false := by
        simp only [kv, nk_play]
        exact beq_eq_false_iff_ne.mpr fun z => c (enc_inj x bs (Option.some.inj z))
      rw [this]
      rcases List.mem_cons.mp h with h | h
      · exact absurd h.symm c
      · exact look_in r h
theorem look_out {ks : List D} {rss : List (List Int)} {bs : List Bool} : ∀ done : List (List Bool), bs ∉ done → dlook (done.map (kv ks rss)) (enc bs) = none
  | [], h => rfl
  | x :: r, h => by
    unfold dlook
    rw [List.map_cons, List.find?_cons]
    have c : x ≠ bs := fun z => h (by simp [z])
    have : (nk (kv ks rss x).1 == some (enc bs)) = false := by
      simp only [kv, nk_play]
      exact beq_eq_false_iff_ne.mpr fun z => c (enc_inj x bs (Option.some.inj z))
    rw [this]
    exact look_out r fun z => h (by simp [z])
theorem set_ok {ks : List D} {rss : List (List Int)} {bs : List Bool} {done : List (List Bool)} {p : Nat} {f : EF} {σ : SD} {H H1 : HD} (h1 : f σ H = some (FW ks rss bs, H1)) (hp : H1[p]? = some (.dic (done.map (kv ks rss)) false)) (hn : bs ∉ done) (hl : done.length ≤ 10000) (s1 : σ[1]? = some (some (.ref p))) (s2 : σ[2]? = some (some (playD bs))) :
    sAsg f (gSb (eVar 1) (eVar 2) dsetD) σ H = some (.nx, σ, H1.set p (.dic ((done ++ [bs]).map (kv ks rss)) false)) := by
  have sz : (done.map (kv ks rss)).length < sizeLine := by rw [PySem.sizeLine_eq, List.length_map]; omega
  have e : dput (done.map (kv ks rss)) (playD bs) (enc bs) (FW ks rss bs) = (done ++ [bs]).map (kv ks rss) := by unfold dput; rw [look_out done hn]; simp [kv]
  unfold sAsg gSb
  rw [h1]
  simp only [Option.bind_some, vr s1, vr s2]
  unfold dsetD
  simp only [hp, nk_play, Option.bind_some, if_pos sz, Option.map_some, e]
end K08
namespace K08
open PySem L2 DL LH
noncomputable def sidS (b : Bool) : Str := if b then "some" else "all"
theorem side_str (b : Bool) : sideD b = .str (sidS b) := by cases b <;> rfl
theorem sid_ok (b : Bool) : PyData.strOk (sidS b) = true := by cases b <;> exact strOk_list (by decide)
theorem sid_eq (a b : Bool) : (sidS a == sidS b) = (a == b) := by
  have e1 : (("some" : Str) == ("all" : Str)) = false := by decide
  have e2 : (("all" : Str) == ("some" : Str)) = false := by decide
  cases a <;> cases b <;> simp [sidS, e1, e2]
theorem in_two {H : HD} {q : Nat} {a b w : Bool} (h : H[q]? = some (.lst [sideD a, sideD b])) : inD (sideD w) (.ref q) H = some (.bl (a == w || b == w), H) := by
  have e1 : dat (sideD w) H = some (.str (sidS w)) := by
    unfold dat
    rw [side_str, toP_str]
    simp only [Option.bind_some]
    rw [if_pos]
    simp [okP, PyData.canLay0, PyData.depth, sid_ok]
  have e2 : dat (.ref q) H = some (.list [.str (sidS a), .str (sidS b)]) := by
    unfold dat
    rw [toP]
    simp only [h, side_str, toPs, toP_str, Option.bind_some, Option.map_some]
    rw [if_pos]
    simp [okP, PyData.canLay0, PyData.canLayAll0, PyData.depth, PyData.depthAll, sid_ok]
  unfold inD
  rw [e1]
  simp only [Option.bind_some]
  rw [e2]
  simp only [Option.bind_some, itemsP, Option.map_some]
  have : ∀ x y : Bool, PyData.eqv (.str (sidS x)) (.str (sidS y)) = (x == y) := fun x y => by
    rw [← sid_eq]; simp [PyData.eqv]
  simp [this]
noncomputable def intsOf : D → List Int
  | .tup ds => ds.filterMap fun
    | .int i => some i
    | _ => none
  | _ => []
theorem ints_row (ls : List Int) : intsOf (rowD ls) = ls := by
  show (ls.map D.int).filterMap _ = ls
  induction ls with
  | nil => rfl
  | cons l r ih => rw [List.map_cons, List.filterMap_cons]; simp only []; rw [ih]
noncomputable abbrev fullE : EF := (eOp ixD (eLst (aCons (eC (.str "all")) (aCons (eC (.str "some")) aNil))) (eCB intD (aCons (eOp niD (eC (.bl false)) (eLC (iSq (eOp ixD (eVar 0) (eC (.int 1)))) [2] tYes (eCall 2 m_law_kept (aCons (eVar 0) (aCons (eVar 1) aNil))))) aNil)))
theorem full_ok {ks : List D} {rss : List (List Int)} {bs : List Bool} {p : Nat} {z3 z4 : Option D} {H : HD} (hu : ∀ ls ∈ rss, Up ks.length 0 ls) (hl : rss.length ≤ 1000) (hb : bs.length = ks.length) :
    ∃ L : HD, fullE [some (.tup [.tup ks, .tup (rss.map rowD)]), some (.ref p), some (playD bs), z3, z4] H = some (FW ks rss bs, H ++ L) := by
  have at1 : atI [D.tup ks, D.tup (rss.map rowD)] 1 = some (.tup (rss.map rowD)) := atI_nat (j := 1) rfl
  let σ : SD := [some (.tup [.tup ks, .tup (rss.map rowD)]), some (.ref p), some (playD bs), z3, z4]
  have e1 : eLst (aCons (eC (.str "all")) (aCons (eC (.str "some")) aNil)) σ H = some (.ref H.length, H ++ [.lst [sideD false, sideD true]]) := ls (ds := [sideD false, sideD true]) (ac rfl (ac rfl an)) (by simp)
  have g1 : (H ++ [.lst [sideD false, sideD true]])[H.length]? = some (.lst [sideD false, sideD true]) := by simp
  have l1 : (H ++ [DO.lst [sideD false, sideD true]]).length = H.length + 1 := by simp
  have hh : H ++ [.lst [sideD false, sideD true]] = H ++ [.lst [sideD false, sideD true]] := rfl
  generalize hH1 : H ++ [.lst [sideD false, sideD true]] = H1 at e1 g1 l1
  have it : iSq (eOp ixD (eVar 0) (eC (.int 1))) σ H1 = some ((rss.map rowD, []), H1) := by
    unfold iSq
    rw [op (vr rfl) rfl (ixT at1)]
    rfl
  have lc := lc_bls (it := iSq (eOp ixD (eVar 0) (eC (.int 1)))) (ci := [2]) (c0 := [some (playD bs)]) (te := eCall 2 m_law_kept (aCons (eVar 0) (aCons (eVar 1) aNil))) (σ := σ) (H := H1) (f := fun d => kept bs (intsOf d)) (ds := rss.map rowD) it rfl (fun d hd => by
    obtain ⟨ls, h1, rfl⟩ := List.mem_map.mp hd
    show _ = some (D.bl (kept bs (intsOf (rowD ls))), H1)
    rw [ints_row]
    exact ca (ac (vr rfl) (ac (vr rfl) an)) rfl (kept_ok (up_pos ls 0 (Int.le_refl _) (hu ls h1)))) (by simpa using hl)
  have em : (rss.map rowD).map (fun d => kept bs (intsOf d)) = rss.map (kept bs) := by
    rw [List.map_map]; exact List.map_congr_left fun ls _ => by show kept bs (intsOf (rowD ls)) = _; rw [ints_row]
  rw [em] at lc
  have g2 : (H1 ++ [.lst ((rss.map (kept bs)).map .bl)])[H1.length]? = some (.lst ((rss.map (kept bs)).map .bl)) := by simp
  have g3 : (H1 ++ [.lst ((rss.map (kept bs)).map .bl)])[H.length]? = some (.lst [sideD false, sideD true]) := by rw [List.getElem?_append_left (by omega)]; exact g1
  have ni := ni_bools g2
  have ea : (rss.map (kept bs)).all id = W ks rss 0 bs := by unfold W; rw [List.all_map]; rfl
  rw [ea] at ni
  refine ⟨.lst [sideD false, sideD true] :: [.lst ((rss.map (kept bs)).map .bl)], ?_⟩
  have eH : H ++ .lst [sideD false, sideD true] :: [.lst ((rss.map (kept bs)).map .bl)] = H1 ++ [.lst ((rss.map (kept bs)).map .bl)] := by rw [← hH1, List.append_assoc]; rfl
  rw [eH]
  have fw : FW ks rss bs = sideD (W ks rss 0 bs) := by unfold FW; rw [hb, Nat.sub_self]
  rw [fw]
  refine op e1 (cb (ac (op rfl lc ni) an) rfl) ?_
  generalize H1 ++ [.lst ((rss.map (kept bs)).map .bl)] = H2 at *
  simp only [ixD, seqD, g3, Option.bind_some]
  cases W ks rss 0 bs <;> rfl
noncomputable abbrev G : GF := gSb (eVar 1) (eVar 2) dsetD
noncomputable abbrev midE : EF := (eIf (tOf (eOp inD (eVar 3) (eVar 4))) (eVar 3) (eOp ixD (eVar 4) (eC (.int 0))))
noncomputable abbrev wB : SF := (sSeq (sIf (tOf (eOp eqD (eCB lenD (aCons (eVar 2) aNil)) (eCB lenD (aCons (eOp ixD (eVar 0) (eC (.int 0))) aNil)))) (sSeq (sAsg fullE G)
  sNil) (sSeq (sSet 3 (eOp ixD (eOp ixD (eVar 0) (eC (.int 0))) (eCB lenD (aCons (eVar 2) aNil))))
  (sSeq (sSet 4 (eLst (aCons (eOp dgetD (eVar 1) (eOp addD (eVar 2) (eTup (aCons (eC (.bl false)) aNil)))) (aCons (eOp dgetD (eVar 1) (eOp addD (eVar 2) (eTup (aCons (eC (.bl true)) aNil)))) aNil))))
  (sSeq (sAsg midE G)
  sNil))))
  sNil)
theorem get_ok {ks : List D} {rss : List (List Int)} {bs : List Bool} {done : List (List Bool)} {p : Nat} {σ : SD} {H : HD} (t : Bool) (hp : H[p]? = some (.dic (done.map (kv ks rss)) false)) (hd : bs ++ [t] ∈ done) (hl : bs.length ≤ 100) (s1 : σ[1]? = some (some (.ref p))) (s2 : σ[2]? = some (some (playD bs))) :
    eOp dgetD (eVar 1) (eOp addD (eVar 2) (eTup (aCons (eC (.bl t)) aNil))) σ H = some (FW ks rss (bs ++ [t]), H) := by
  have e1 : eOp addD (eVar 2) (eTup (aCons (eC (.bl t)) aNil)) σ H = some (playD (bs ++ [t]), H) := by
    refine op (vr s2) (tp (ds := [.bl t]) (ac rfl an) (by simp)) ?_
    have := adT (xs := bs.map .bl) (ys := [.bl t]) (H := H) (by simp; omega)
    refine this.trans ?_
    simp [playD]
  refine op (vr s1) e1 ?_
  unfold dgetD
  simp only [dicD, hp, Option.bind_some, nk_play, look_in done hd, Option.map_some]
theorem mid_ok {ks : List D} {rss : List (List Int)} {bs : List Bool} (h : bs.length < ks.length) : FW ks rss bs = (let who := kS (ks.getD bs.length .non); let a := W ks rss (ks.length - (bs ++ [false]).length) (bs ++ [false]); let b := W ks rss (ks.length - (bs ++ [true]).length) (bs ++ [true]); if (a == who || b == who) = true then sideD who else sideD a) := by
  have e : ks.length - bs.length = (ks.length - (bs.length + 1)) + 1 := by omega
  have l : ∀ t : Bool, (bs ++ [t]).length = bs.length + 1 := fun t => by simp
  unfold FW
  rw [e, l, l, W]
  simp only []
  generalize W ks rss (ks.length - (bs.length + 1)) (bs ++ [false]) = a
  generalize W ks rss (ks.length - (bs.length + 1)) (bs ++ [true]) = b
  generalize kS (ks.getD bs.length .non) = w
  cases a <;> cases b <;> cases w <;> rfl
end K08
namespace K08
open PySem L2 DL LH
theorem wB_ok {ks : List D} {rss : List (List Int)} {bs : List Bool} {done : List (List Bool)} {p : Nat} {z3 z4 : Option D} {H : HD} (hk : ∀ d ∈ ks, IsKind d) (hu : ∀ ls ∈ rss, Up ks.length 0 ls) (hl : rss.length ≤ 1000) (h8 : ks.length ≤ 8)
    (hp : H[p]? = some (.dic (done.map (kv ks rss)) false)) (hn : bs ∉ done) (hd : done.length ≤ 10000) (hb : bs.length ≤ ks.length) (hm : bs.length < ks.length → ∀ t, bs ++ [t] ∈ done) :
    ∃ (z3' z4' : Option D) (H' : HD), wB [some (.tup [.tup ks, .tup (rss.map rowD)]), some (.ref p), some (playD bs), z3, z4] H = some (.nx, [some (.tup [.tup ks, .tup (rss.map rowD)]), some (.ref p), some (playD bs), z3', z4'], H') ∧ H'[p]? = some (.dic ((done ++ [bs]).map (kv ks rss)) false) ∧ ExtS [p] H H' := by
  have at0 : atI [D.tup ks, D.tup (rss.map rowD)] 0 = some (.tup ks) := atI_nat (j := 0) rfl
  have ltp := (List.getElem?_eq_some_iff.mp hp).1
  have t0 : tOf (eOp eqD (eCB lenD (aCons (eVar 2) aNil)) (eCB lenD (aCons (eOp ixD (eVar 0) (eC (.int 0))) aNil))) [some (.tup [.tup ks, .tup (rss.map rowD)]), some (.ref p), some (playD bs), z3, z4] H = some ((bs.length : Int) == (ks.length : Int), H) :=
    tof (op (cb (ac (vr rfl) an) (lenB bs H)) (cb (ac (op (vr rfl) rfl (ixT at0)) an) (lenT ks H)) (eq_int _ _ _))
  by_cases c : bs.length = ks.length
  · have tt : ((bs.length : Int) == (ks.length : Int)) = true := by rw [c]; simp
    rw [tt] at t0
    obtain ⟨L, e1⟩ := full_ok (p := p) (z3 := z3) (z4 := z4) (H := H) hu hl c
    have p1 : (H ++ L)[p]? = some (.dic (done.map (kv ks rss)) false) := by rw [List.getElem?_append_left ltp]; exact hp
    have lt1 := (List.getElem?_eq_some_iff.mp p1).1
    have s := set_ok e1 p1 hn hd rfl rfl
    refine ⟨z3, z4, (H ++ L).set p (.dic ((done ++ [bs]).map (kv ks rss)) false), ?_, List.getElem?_set_self lt1, (ExtS.app L).trans (ExtS.set (by simp))⟩
    unfold wB
    refine (seq_nx ?_).trans rfl
    rw [iff_t t0, if_pos rfl]
    exact (seq_nx s).trans rfl
  · have lt : bs.length < ks.length := by omega
    have tt : ((bs.length : Int) == (ks.length : Int)) = false := by
      refine beq_eq_false_iff_ne.mpr ?_; omega
    rw [tt] at t0
    have gw : ks[bs.length]? = some (sideD (kS (ks.getD bs.length .non))) := by
      have e0 : ks.getD bs.length .non = ks[bs.length] := by simp [List.getD, lt]
      have := kind_side (hk ks[bs.length] (List.getElem_mem lt))
      rw [List.getElem?_eq_getElem lt, this]
      show some (sideD (kS ks[bs.length])) = some (sideD (kS (ks.getD bs.length .non)))
      rw [e0]
    have mo := mid_ok (ks := ks) (rss := rss) lt
    simp only [] at mo
    have fa : FW ks rss (bs ++ [false]) = sideD (W ks rss (ks.length - (bs ++ [false]).length) (bs ++ [false])) := rfl
    have fb : FW ks rss (bs ++ [true]) = sideD (W ks rss (ks.length - (bs ++ [true]).length) (bs ++ [true])) := rfl
    have s3 : sSet 3 (eOp ixD (eOp ixD (eVar 0) (eC (.int 0))) (eCB lenD (aCons (eVar 2) aNil))) [some (.tup [.tup ks, .tup (rss.map rowD)]), some (.ref p), some (playD bs), z3, z4] H = some (.nx, [some (.tup [.tup ks, .tup (rss.map rowD)]), some (.ref p), some (playD bs), some (sideD (kS (ks.getD bs.length .non))), z4], H) :=
      set_nx (op (op (vr rfl) rfl (ixT at0)) (cb (ac (vr rfl) an) (lenB bs H)) (ixT (atI_nat gw)))
    have s4 : ∀ z3, sSet 4 (eLst (aCons (eOp dgetD (eVar 1) (eOp addD (eVar 2) (eTup (aCons (eC (.bl false)) aNil)))) (aCons (eOp dgetD (eVar 1) (eOp addD (eVar 2) (eTup (aCons (eC (.bl true)) aNil)))) aNil))) [some (.tup [.tup ks, .tup (rss.map rowD)]), some (.ref p), some (playD bs), z3, z4] H = some (.nx, [some (.tup [.tup ks, .tup (rss.map rowD)]), some (.ref p), some (playD bs), z3, some (.ref H.length)], H ++ [.lst [FW ks rss (bs ++ [false]), FW ks rss (bs ++ [true])]]) := fun z3 =>
      set_nx (ls (ds := [FW ks rss (bs ++ [false]), FW ks rss (bs ++ [true])]) (ac (get_ok false hp (hm lt false) (by omega) rfl rfl) (ac (get_ok true hp (hm lt true) (by omega) rfl rfl) an)) (by simp))
    have q1 : (H ++ [.lst [FW ks rss (bs ++ [false]), FW ks rss (bs ++ [true])]])[H.length]? = some (.lst [FW ks rss (bs ++ [false]), FW ks rss (bs ++ [true])]) := by simp
    have p1 : (H ++ [.lst [FW ks rss (bs ++ [false]), FW ks rss (bs ++ [true])]])[p]? = some (.dic (done.map (kv ks rss)) false) := by rw [List.getElem?_append_left ltp]; exact hp
    have x1 : ExtS [p] H (H ++ [.lst [FW ks rss (bs ++ [false]), FW ks rss (bs ++ [true])]]) := ExtS.app _
    generalize H ++ [.lst [FW ks rss (bs ++ [false]), FW ks rss (bs ++ [true])]] = H1 at *
    rw [fa, fb] at q1
    generalize hA : W ks rss (ks.length - (bs ++ [false]).length) (bs ++ [false]) = A at *
    generalize hB : W ks rss (ks.length - (bs ++ [true]).length) (bs ++ [true]) = B at *
    generalize hWho : kS (ks.getD bs.length .non) = who at *
    have lt1 := (List.getElem?_eq_some_iff.mp p1).1
    have em : midE [some (.tup [.tup ks, .tup (rss.map rowD)]), some (.ref p), some (playD bs), some (sideD who), some (.ref H.length)] H1 = some (FW ks rss bs, H1) := by
      have ti : tOf (eOp inD (eVar 3) (eVar 4)) [some (.tup [.tup ks, .tup (rss.map rowD)]), some (.ref p), some (playD bs), some (sideD who), some (.ref H.length)] H1 = some (A == who || B == who, H1) := tof (op (vr rfl) (vr rfl) (in_two q1))
      unfold midE eIf
      rw [ti, mo]
      simp only [Option.bind_some]
      cases hc : (A == who || B == who) with
      | true => rw [if_pos rfl, if_pos rfl]; exact vr rfl
      | false =>
        rw [if_neg (by simp), if_neg (by simp)]
        refine op (vr rfl) rfl ?_
        simp only [ixD, seqD, q1, Option.bind_some]
        rfl
    have s5 := set_ok em p1 hn hd rfl rfl
    refine ⟨some (sideD who), some (.ref H.length), H1.set p (.dic ((done ++ [bs]).map (kv ks rss)) false), ?_, List.getElem?_set_self lt1, x1.trans (ExtS.set (by simp))⟩
    unfold wB
    refine (seq_nx ?_).trans rfl
    rw [iff_t t0, if_neg (by simp), seq_nx s3, seq_nx (s4 _)]
    exact (seq_nx s5).trans rfl
theorem blk_loop {ks : List D} {rss : List (List Int)} {p q : Nat} {L : List D} (hk : ∀ d ∈ ks, IsKind d) (hu : ∀ ls ∈ rss, Up ks.length 0 ls) (hl : rss.length ≤ 1000) (h8 : ks.length ≤ 8) (hpq : q ≠ p) (more : List D) :
    ∀ (blk done : List (List Bool)) (z2 z3 z4 : Option D) (H : HD), H[p]? = some (.dic (done.map (kv ks rss)) false) → H[q]? = some (.lst L) → (done ++ blk).Nodup → done.length + blk.length ≤ 10000 → (∀ b ∈ blk, b.length ≤ ks.length) → (∀ b ∈ blk, b.length < ks.length → ∀ t, b ++ [t] ∈ done) →
    ∃ (z2' z3' z4' : Option D) (H' : HD), forL [(q, .lst L)] (gNm 2) wB (blk.map playD ++ more) [some (.tup [.tup ks, .tup (rss.map rowD)]), some (.ref p), z2, z3, z4] H = forL [(q, .lst L)] (gNm 2) wB more [some (.tup [.tup ks, .tup (rss.map rowD)]), some (.ref p), z2', z3', z4'] H' ∧ H'[p]? = some (.dic ((done ++ blk).map (kv ks rss)) false) ∧ ExtS [p] H H'
  | [], done, z2, z3, z4, H, hp, hq, _, _, _, _ => ⟨z2, z3, z4, H, rfl, by rw [List.append_nil]; exact hp, ExtS.refl⟩
  | b :: blk, done, z2, z3, z4, H, hp, hq, nd, hn, hb, hm => by
    have nb : b ∉ done := fun z => by
      have := (List.nodup_append.mp nd).2.2 b z b (by simp)
      exact this rfl
    obtain ⟨z3', z4', H1, e1, p1, x1⟩ := wB_ok (z3 := z3) (z4 := z4) hk hu hl h8 hp nb (by simp at hn; omega) (hb b (by simp)) (hm b (by simp))
    have q1 := x1.old q _ (by simp; exact hpq) hq
    have ap : done ++ [b] ++ blk = done ++ b :: blk := by simp
    obtain ⟨z2'', z3'', z4'', H2, e2, p2, x2⟩ := blk_loop hk hu hl h8 hpq more blk (done ++ [b]) (some (playD b)) z3' z4' H1 p1 q1 (by rw [ap]; exact nd) (by simp at hn ⊢; omega) (fun x hx => hb x (by simp [hx])) (fun x hx h t => List.mem_append_left _ (hm x (by simp [hx]) h t))
    rw [ap] at p2
    refine ⟨z2'', z3'', z4'', H2, ?_, p2, x1.trans x2⟩
    rw [List.map_cons, List.cons_append, forL, if_pos (by intro x hx; simp at hx; subst hx; exact hq)]
    simp only [gNm, List.set, Option.bind_some]
    rw [e1]
    simp only [Option.bind_some]
    exact e2
theorem lev_loop {ks : List D} {rss : List (List Int)} {p q : Nat} {L : List D} (hk : ∀ d ∈ ks, IsKind d) (hu : ∀ ls ∈ rss, Up ks.length 0 ls) (hl : rss.length ≤ 1000) (h8 : ks.length ≤ 8) (hpq : q ≠ p) :
    ∀ (k : Nat) (done : List (List Bool)) (z2 z3 z4 : Option D) (H : HD), k ≤ ks.length → H[p]? = some (.dic (done.map (kv ks rss)) false) → H[q]? = some (.lst L) → (done ++ allP k).Nodup → done.length + (allP k).length ≤ 10000 → (k < ks.length → ∀ b ∈ lev k, ∀ t, b ++ [t] ∈ done) →
    ∃ (z2' z3' z4' : Option D) (H' : HD), forL [(q, .lst L)] (gNm 2) wB ((allP k).map playD) [some (.tup [.tup ks, .tup (rss.map rowD)]), some (.ref p), z2, z3, z4] H = some (.nx, [some (.tup [.tup ks, .tup (rss.map rowD)]), some (.ref p), z2', z3', z4'], H') ∧ H'[p]? = some (.dic ((done ++ allP k).map (kv ks rss)) false) ∧ ExtS [p] H H'
  | 0, done, z2, z3, z4, H, h0, hp, hq, nd, hn, hm => by
    obtain ⟨y2, y3, y4, H1, e1, p1, x1⟩ := blk_loop (L := L) hk hu hl h8 hpq [] (allP 0) done z2 z3 z4 H hp hq nd hn (fun b hb => by have := lev_len 0 b hb; omega) (fun b hb h t => hm (by have := lev_len 0 b hb; omega) b hb t)
    have q1 := x1.old q _ (by simp; exact hpq) hq
    rw [List.append_nil, forL, if_pos (by intro x hx; simp at hx; subst hx; exact q1)] at e1
    exact ⟨y2, y3, y4, H1, e1, p1, x1⟩
  | k + 1, done, z2, z3, z4, H, h0, hp, hq, nd, hn, hm => by
    have ea : allP (k + 1) = lev (k + 1) ++ allP k := rfl
    rw [ea, ← List.append_assoc] at nd
    rw [ea, List.length_append] at hn
    obtain ⟨y2, y3, y4, H1, e1, p1, x1⟩ := blk_loop (L := L) hk hu hl h8 hpq ((allP k).map playD) (lev (k + 1)) done z2 z3 z4 H hp hq (List.nodup_append.mp nd).1 (by omega) (fun b hb => by have := lev_len (k + 1) b hb; omega) (fun b hb h t => hm (by have := lev_len (k + 1) b hb; omega) b hb t)
    have q1 := x1.old q _ (by simp; exact hpq) hq
    obtain ⟨w2, w3, w4, H2, e2, p2, x2⟩ := lev_loop hk hu hl h8 hpq k (done ++ lev (k + 1)) y2 y3 y4 H1 (by omega) p1 q1 nd (by rw [List.length_append]; omega) (fun _ b hb t => List.mem_append_right _ (lev_more t hb))
    refine ⟨w2, w3, w4, H2, ?_, ?_, x1.trans x2⟩
    · rw [ea, List.map_append, e1, e2]
    · rw [ea, ← List.append_assoc]; exact p2
end K08
namespace K08
open PySem L2 DL LH
theorem allP_nodup0 (k : Nat) : (([] : List (List Bool)) ++ allP k).Nodup := by rw [List.nil_append]; exact allP_nodup k
theorem winners_ok {ks : List D} {rss : List (List Int)} (hk : ∀ d ∈ ks, IsKind d) (hu : ∀ ls ∈ rss, Up ks.length 0 ls) (hl : rss.length ≤ 1000) (h8 : ks.length ≤ 8) (H : HD) :
    ∃ (p : Nat) (H' : HD), m_law_winners [.tup [.tup ks, .tup (rss.map rowD)]] H = some (.ref p, H') ∧ H.length ≤ p ∧ H'[p]? = some (.dic ((allP ks.length).map (kv ks rss)) false) ∧ ExtS [] H H' := by
  have at0 : atI [D.tup ks, D.tup (rss.map rowD)] 0 = some (.tup ks) := atI_nat (j := 0) rfl
  have s1 : sSet 1 eDN [some (.tup [.tup ks, .tup (rss.map rowD)]), none, none, none, none] H = some (.nx, [some (.tup [.tup ks, .tup (rss.map rowD)]), some (.ref H.length), none, none, none], H ++ [.dic [] false]) := set_nx rfl
  have g1 : (H ++ [.dic [] false])[H.length]? = some (.dic (([] : List (List Bool)).map (kv ks rss)) false) := by simp
  have x1 : ExtS [] H (H ++ [.dic [] false]) := ExtS.app _
  have l1 : (H ++ [DO.dic [] false]).length = H.length + 1 := by simp
  generalize H ++ [.dic [] false] = H1 at *
  obtain ⟨q, H2, e2, g2, x2⟩ := plays_ok h8 H1
  have p2 := x2.old _ _ (by simp) g1
  have hpq : q ≠ H.length := fun z => by rw [z, p2] at g2; cases g2
  have al := allP_len ks.length
  have p8 : 2 ^ (ks.length + 1) ≤ 2 ^ 9 := Nat.pow_le_pow_right (by omega) (by omega)
  have hz : ([] : List (List Bool)).length + (allP ks.length).length ≤ 10000 := by
    rw [List.length_nil, Nat.zero_add]
    exact Nat.le_trans (Nat.le_of_lt al) (Nat.le_trans p8 (by decide))
  obtain ⟨z2, z3, z4, H3, e3, g3, x3⟩ := lev_loop (L := (allP ks.length).map playD) hk hu hl h8 hpq ks.length [] none none none H2 (Nat.le_refl _) p2 g2 (allP_nodup0 _) hz (fun h => absurd h (Nat.lt_irrefl _))
  rw [List.nil_append] at g3
  have it : iSq (eCall 1 m_law_plays (aCons (eCB lenD (aCons (eOp ixD (eVar 0) (eC (.int 0))) aNil)) aNil)) [some (.tup [.tup ks, .tup (rss.map rowD)]), some (.ref H.length), none, none, none] H1 = some (((allP ks.length).map playD, [(q, .lst ((allP ks.length).map playD))]), H2) := by
    have ec : eCall 1 m_law_plays (aCons (eCB lenD (aCons (eOp ixD (eVar 0) (eC (.int 0))) aNil)) aNil) [some (.tup [.tup ks, .tup (rss.map rowD)]), some (.ref H.length), none, none, none] H1 = some (.ref q, H2) := ca (ac (cb (ac (op (vr rfl) rfl (ixT at0)) an) (lenT ks H1)) an) rfl e2
    unfold iSq
    rw [ec]
    simp only [Option.bind_some, itemsD, g2, Option.map_some]
  have s2 : sFor (iSq (eCall 1 m_law_plays (aCons (eCB lenD (aCons (eOp ixD (eVar 0) (eC (.int 0))) aNil)) aNil))) (gNm 2) wB [some (.tup [.tup ks, .tup (rss.map rowD)]), some (.ref H.length), none, none, none] H1 = some (.nx, [some (.tup [.tup ks, .tup (rss.map rowD)]), some (.ref H.length), z2, z3, z4], H3) := by
    unfold sFor
    rw [it]
    exact e3
  refine ⟨H.length, H3, ?_, Nat.le_refl _, g3, ?_⟩
  · have e4 : b_law_winners ([D.tup [.tup ks, .tup (rss.map rowD)]].map some ++ List.replicate (5 - [D.tup [.tup ks, .tup (rss.map rowD)]].length) none) H = some (.rt (.ref H.length), [some (.tup [.tup ks, .tup (rss.map rowD)]), some (.ref H.length), z2, z3, z4], H3) := by
      show b_law_winners [some (.tup [.tup ks, .tup (rss.map rowD)]), none, none, none, none] H = _
      unfold b_law_winners
      rw [seq_nx s1]
      refine (seq_nx s2).trans ?_
      exact seq_rt (rt (vr rfl))
    unfold m_law_winners runB
    rw [if_pos (show [D.tup [.tup ks, .tup (rss.map rowD)]].length = 1 from rfl), e4]
    rfl
  · refine ⟨fun m o _ h => ?_, Nat.le_trans x1.len (Nat.le_trans x2.len x3.len)⟩
    have lm := (List.getElem?_eq_some_iff.mp h).1
    exact x3.old m o (by simp; omega) (x2.old m o (by simp) (x1.old m o (by simp) h))
end K08
namespace K08
open PySem L2 DL LH
noncomputable def BS (f : Nat → Bool) (x : Int) : Prop := ∃ n : Nat, x = (n : Int) ∧ ∀ i, n.testBit i = f i
theorem BS.uniq {f : Nat → Bool} {x y : Int} (a : BS f x) (b : BS f y) : x = y := by
  obtain ⟨n, rfl, h⟩ := a
  obtain ⟨m, rfl, g⟩ := b
  have e : n = m := Nat.eq_of_testBit_eq fun i => by rw [h, g]
  rw [e]
theorem BS.of {f g : Nat → Bool} {x : Int} (a : BS f x) (e : ∀ i, f i = g i) : BS g x := by
  obtain ⟨n, rfl, h⟩ := a
  exact ⟨n, rfl, fun i => by rw [h, e]⟩
theorem band_nat (n m : Nat) : Builtin.bitAnd n m = ((n &&& m : Nat) : Int) := by
  unfold Builtin.bitAnd
  rw [decide_eq_true (Int.natCast_nonneg n), decide_eq_true (Int.natCast_nonneg m)]
  rfl
theorem bor_nat (n m : Nat) : Builtin.bitOr n m = ((n ||| m : Nat) : Int) := by
  unfold Builtin.bitOr Builtin.bitAnd
  have h1 : decide (0 ≤ Builtin.bitNot (n : Int)) = false := decide_eq_false (by unfold Builtin.bitNot; omega)
  have h2 : decide (0 ≤ Builtin.bitNot (m : Int)) = false := decide_eq_false (by unfold Builtin.bitNot; omega)
  rw [h1, h2]
  have nn : ∀ x : Int, Builtin.bitNot (Builtin.bitNot x) = x := fun x => by unfold Builtin.bitNot; omega
  simp only [nn, Int.toNat_natCast]
theorem bs_and {f g : Nat → Bool} {x y : Int} (a : BS f x) (b : BS g y) : BS (fun i => f i && g i) (Builtin.bitAnd x y) := by
  obtain ⟨n, rfl, h⟩ := a
  obtain ⟨m, rfl, k⟩ := b
  exact ⟨_, band_nat n m, fun i => by rw [Nat.testBit_and, h, k]⟩
theorem bs_or {f g : Nat → Bool} {x y : Int} (a : BS f x) (b : BS g y) : BS (fun i => f i || g i) (Builtin.bitOr x y) := by
  obtain ⟨n, rfl, h⟩ := a
  obtain ⟨m, rfl, k⟩ := b
  exact ⟨_, bor_nat n m, fun i => by rw [Nat.testBit_or, h, k]⟩
theorem pow_cast (k : Nat) : (2 : Int) ^ k = ((2 ^ k : Nat) : Int) := by simp
theorem bs_shr {f : Nat → Bool} {x : Int} (k : Nat) (a : BS f x) : BS (fun i => f (i + k)) (x / 2 ^ k) := by
  obtain ⟨n, rfl, h⟩ := a
  refine ⟨n >>> k, ?_, fun i => by rw [Nat.testBit_shiftRight, h, Nat.add_comm]⟩
  rw [Nat.shiftRight_eq_div_pow, pow_cast, Int.natCast_ediv]
theorem bs_one (k : Nat) : BS (fun i => decide (k = i)) (1 * 2 ^ k) := ⟨2 ^ k, by rw [pow_cast, Int.one_mul], fun i => by rw [Nat.testBit_two_pow]⟩
theorem bs_mask (k : Nat) : BS (fun i => decide (i < k)) (1 * 2 ^ k - 1) := by
  refine ⟨2 ^ k - 1, ?_, fun i => by rw [Nat.testBit_two_pow_sub_one]⟩
  have := Nat.two_pow_pos k
  rw [pow_cast]
  omega
theorem bs_zero : BS (fun _ => false) 0 := ⟨0, rfl, fun i => by rw [Nat.zero_testBit]⟩
theorem bs_xor {f : Nat → Bool} {x : Int} (k : Nat) (a : BS f x) (hf : ∀ i, f i = true → i < k) : BS (fun i => decide (i < k) && !f i) (Builtin.bitXor (1 * 2 ^ k - 1) x) := by
  obtain ⟨n, rfl, h⟩ := a
  have hn : n < 2 ^ k := Nat.lt_pow_two_of_testBit n fun i hi => by
    rw [h]
    cases e : f i with
    | false => rfl
    | true => have := hf i e; omega
  have e1 : (1 * 2 ^ k - 1 : Int) = ((2 ^ k - 1 : Nat) : Int) := by rw [pow_cast]; omega
  have e2 : ((2 ^ k - 1) ||| n) = 2 ^ k - 1 := Nat.eq_of_testBit_eq fun i => by
    rw [Nat.testBit_or, Nat.testBit_two_pow_sub_one, h]
    cases e : f i with
    | false => simp
    | true => simp [hf i e]
  have e3 : ((2 ^ k - 1) &&& n) = n := Nat.eq_of_testBit_eq fun i => by
    rw [Nat.testBit_and, Nat.testBit_two_pow_sub_one, h]
    cases e : f i with
    | false => simp
    | true => simp [hf i e]
  refine ⟨2 ^ k - (n + 1), ?_, fun i => by rw [Nat.testBit_two_pow_sub_succ hn, h]⟩
  unfold Builtin.bitXor
  rw [e1, bor_nat, band_nat, e2, e3]
  omega
theorem bit_one (n k : Nat) : Builtin.bitAnd ((n : Int) / 2 ^ k) 1 = if n.testBit k = true then 1 else 0 := by
  have e : (n : Int) / 2 ^ k = ((n >>> k : Nat) : Int) := by rw [Nat.shiftRight_eq_div_pow, pow_cast, Int.natCast_ediv]
  rw [e, show (1 : Int) = ((1 : Nat) : Int) from rfl, band_nat, Nat.and_one_is_mod, Nat.testBit_eq_decide_div_mod_eq, Nat.shiftRight_eq_div_pow]
  simp only [decide_eq_true_eq]
  split <;> omega
noncomputable def pl (m i : Nat) : List Bool := (List.range m).map fun t => i.testBit t
theorem pl_len (m i : Nat) : (pl m i).length = m := by simp [pl]
theorem pl_at {m i t : Nat} (h : t < m) : (pl m i)[t]? = some (i.testBit t) := by simp [pl, h]
theorem pl_no {j i : Nat} (h : i < 2 ^ j) : pl (j + 1) i = pl j i ++ [false] := by
  unfold pl
  rw [List.range_succ, List.map_append, List.map_singleton, Nat.testBit_lt_two_pow h]
theorem pl_yes {j i : Nat} (h : i < 2 ^ j) : pl (j + 1) (i + 2 ^ j) = pl j i ++ [true] := by
  unfold pl
  rw [List.range_succ, List.map_append, List.map_singleton, Nat.add_comm i, Nat.testBit_two_pow_add_eq, Nat.testBit_lt_two_pow h]
  congr 1
  refine List.map_congr_left fun t ht => ?_
  rw [Nat.testBit_two_pow_add_gt (List.mem_range.mp ht)]
noncomputable def AW (ks : List D) (rss : List (List Int)) (j : Nat) : Nat → Bool := fun i => decide (i < 2 ^ j) && !W ks rss (ks.length - j) (pl j i)
theorem aw_step {ks : List D} {rss : List (List Int)} {j : Nat} {x : Int} (hj : j < ks.length) (a : BS (AW ks rss (j + 1)) x) :
    BS (AW ks rss j) (if kS (ks.getD j .non) = false then Builtin.bitOr (Builtin.bitAnd x (1 * 2 ^ (2 ^ j) - 1)) (x / 2 ^ (2 ^ j)) else Builtin.bitAnd (Builtin.bitAnd x (1 * 2 ^ (2 ^ j) - 1)) (x / 2 ^ (2 ^ j))) := by
  have no : BS (fun i => decide (i < 2 ^ j) && !W ks rss (ks.length - (j + 1)) (pl j i ++ [false])) (Builtin.bitAnd x (1 * 2 ^ (2 ^ j) - 1)) := by
    refine (bs_and a (bs_mask (2 ^ j))).of fun i => ?_
    by_cases h : i < 2 ^ j
    · have : i < 2 ^ (j + 1) := by rw [Nat.pow_succ]; omega
      simp [AW, h, this, pl_no h]
    · simp [h]
  have yes : BS (fun i => decide (i < 2 ^ j) && !W ks rss (ks.length - (j + 1)) (pl j i ++ [true])) (x / 2 ^ (2 ^ j)) := by
    refine (bs_shr (2 ^ j) a).of fun i => ?_
    by_cases h : i < 2 ^ j
    · have : i + 2 ^ j < 2 ^ (j + 1) := by rw [Nat.pow_succ]; omega
      simp [AW, h, this, pl_yes h]
    · have : ¬ i + 2 ^ j < 2 ^ (j + 1) := by rw [Nat.pow_succ]; omega
      simp [AW, h, this]
  have e : ∀ bs : List Bool, bs.length = j → W ks rss (ks.length - j) bs = (if W ks rss (ks.length - (j + 1)) (bs ++ [false]) == kS (ks.getD j .non) || W ks rss (ks.length - (j + 1)) (bs ++ [true]) == kS (ks.getD j .non) then kS (ks.getD j .non) else !kS (ks.getD j .non)) := by
    intro bs hb
    rw [show ks.length - j = (ks.length - (j + 1)) + 1 by omega, W, hb]
  cases k : kS (ks.getD j .non) with
  | false =>
    rw [if_pos rfl]
    refine (bs_or no yes).of fun i => ?_
    unfold AW
    rw [e _ (pl_len _ _), k]
    cases decide (i < 2 ^ j) <;> cases W ks rss (ks.length - (j + 1)) (pl j i ++ [false]) <;> cases W ks rss (ks.length - (j + 1)) (pl j i ++ [true]) <;> rfl
  | true =>
    rw [if_neg (by decide)]
    refine (bs_and no yes).of fun i => ?_
    unfold AW
    rw [e _ (pl_len _ _), k]
    cases decide (i < 2 ^ j) <;> cases W ks rss (ks.length - (j + 1)) (pl j i ++ [false]) <;> cases W ks rss (ks.length - (j + 1)) (pl j i ++ [true]) <;> rfl
theorem aw_end {ks : List D} {rss : List (List Int)} {x : Int} (a : BS (AW ks rss 0) x) : (x == 1) = !W ks rss ks.length [] := by
  have e : x = if W ks rss ks.length [] = true then 0 else 1 := by
    refine a.uniq ?_
    cases k : W ks rss ks.length [] with
    | true =>
      refine bs_zero.of fun i => ?_
      unfold AW
      cases i with
      | zero => simp [pl, k]
      | succ i => simp
    | false =>
      refine (bs_mask 1).of fun i => ?_
      unfold AW
      cases i with
      | zero => simp [pl, k]
      | succ i => simp
  rw [e]
  cases W ks rss ks.length [] <;> rfl
noncomputable def TG (m : Nat) (rl : List (List Int)) : Nat → Bool := fun i => decide (i < 2 ^ m) && !rl.all (kept (pl m i))
theorem tg_aw (ks : List D) (rl : List (List Int)) : ∀ i, TG ks.length rl i = AW ks rl ks.length i := by
  intro i
  unfold TG AW
  rw [Nat.sub_self, W]
theorem tg_nil (m : Nat) : ∀ i, false = TG m [] i := by intro i; simp [TG]
theorem tg_or {m : Nat} {a b : List (List Int)} {x y : Int} (h : BS (TG m a) x) (g : BS (TG m b) y) : BS (TG m (a ++ b)) (Builtin.bitOr x y) := by
  refine (bs_or h g).of fun i => ?_
  unfold TG
  rw [List.all_append]
  cases decide (i < 2 ^ m) <;> cases a.all (kept (pl m i)) <;> cases b.all (kept (pl m i)) <;> rfl
noncomputable def LR (m : Nat) (ls : List Int) : Nat → Bool := fun i => decide (i < 2 ^ m) && !kept (pl m i) ls
theorem lr_tg (m : Nat) (ls : List Int) : ∀ i, LR m ls i = TG m [ls] i := by intro i; simp [LR, TG]
theorem lr_and {m : Nat} {a : List Int} {l : Int} {x y : Int} (h : BS (LR m a) x) (g : BS (LR m [l]) y) : BS (LR m (a ++ [l])) (Builtin.bitAnd x y) := by
  refine (bs_and h g).of fun i => ?_
  unfold LR kept
  rw [List.any_append]
  cases decide (i < 2 ^ m) <;> cases a.any (rig (pl m i)) <;> cases [l].any (rig (pl m i)) <;> rfl
noncomputable def YS (m t : Nat) : Nat → Bool := fun i => decide (i < 2 ^ m) && i.testBit t
theorem lr_neg {m t : Nat} (h : t < m) : ∀ i, YS m t i = LR m [-((t : Int) + 1)] i := by
  intro i
  unfold YS LR kept
  have : (absZ (-((t : Int) + 1)) - 1).toNat = t := by unfold absZ; split <;> omega
  simp only [List.any_cons, List.any_nil, Bool.or_false, rig, this, pl_at h]
  rw [decide_eq_false (by omega : ¬ 0 < -((t : Int) + 1))]
  cases i.testBit t <;> rfl
theorem lr_pos {m t : Nat} (h : t < m) : ∀ i, (decide (i < 2 ^ m) && !YS m t i) = LR m [(t : Int) + 1] i := by
  intro i
  unfold YS LR kept
  have : (absZ ((t : Int) + 1) - 1).toNat = t := by unfold absZ; split <;> omega
  simp only [List.any_cons, List.any_nil, Bool.or_false, rig, this, pl_at h]
  rw [decide_eq_true (by omega : 0 < (t : Int) + 1)]
  cases decide (i < 2 ^ m) <;> cases i.testBit t <;> rfl
end K08
namespace K08
open PySem L2 DL LH WP
local macro_rules | `(tactic| fail $s:str) => do
  if s.getString == "lk" then `(tactic| first | assumption | with_reducible exact WP.last | (with_reducible refine WP.appL ?_; fail "lk"))
  else if s.getString == "go" then do
    let a0 ← `(by with_unfolding_all rfl)
    let a1 ← `(?_)
    let a2 ← `(by first | (simp; done) | (simp; omega) | omega)
    let a3 ← `(by decide)
    let a4 ← `(by with_unfolding_all first | exact (rfl : _ = true) | exact (rfl : _ = false))
    let a5 ← `(by fail "lk")
    let a6 ← `(by with_unfolding_all exact rfl)
    let t ← ([`WP.w_var].map (·, [a0, a1]) ++ [`WP.w_c, `WP.w_seq, `WP.w_kn, `WP.w_set, `WP.w_op, `WP.w_acons, `WP.w_anil, `WP.w_call, `WP.w_cb, `WP.w_tof, `WP.w_bl, `WP.w_bt, `WP.w_bf, `WP.w_bnt, `WP.w_bnf, `WP.w_ret, `WP.w_fr, `WP.w_kr, `WP.w_snil, `WP.w_expr, `WP.w_for, `WP.w_or, `WP.w_an, `WP.w_no, `WP.w_ttru, `WP.w_eif, `WP.w_eno, `WP.w_ean, `WP.w_eorr, `WP.w_un, `WP.w_ch, `WP.w_int, `WP.w_tup, `WP.w_lst, `WP.w_lm, `WP.w_tm, `WP.w_dm, `WP.w_dn, `WP.w_on, `WP.w_os, `WP.w_sl, `WP.w_rv, `WP.w_lc, `WP.w_asg, `WP.w_gnm, `WP.w_gsb, `WP.w_gcn, `WP.w_gnl].map (·, [a1]) ++ [`WP.w_n, `WP.w_gtp, `WP.w_ixT, `WP.w_isN, `WP.w_isnN, `WP.w_isBl, `WP.w_isnBl].map (·, [a0, a1]) ++ [`WP.w_sz, `WP.w_addT].map (·, [a2, a1]) ++ [`WP.w_mod].map (·, [a3, a1]) ++ [`WP.w_fdiv, `WP.w_mulL, `WP.w_mulR].map (·, [a3, a3, a1]) ++ [`WP.w_eqI', `WP.w_neI', `WP.w_eqS', `WP.w_neS'].map (·, [a4, a1]) ++ [`WP.w_lenR, `WP.w_tupR, `WP.w_itR].map (·, [a5, a1]) ++ [`WP.w_ixR].map (·, [a5, a0, a1]) ++ [`WP.w_isi'].map (·, [a0, a0, a4, a1]) ++ [`WP.w_addI, `WP.w_subI, `WP.w_lt, `WP.w_le, `WP.w_gt, `WP.w_ge, `WP.w_slhi, `WP.w_sllo, `WP.w_sllo1, `WP.w_neg, `WP.w_eqI, `WP.w_neI, `WP.w_eqS, `WP.w_neS, `WP.w_lenT, `WP.w_lenF, `WP.w_abs, `WP.w_intI, `WP.w_intB, `WP.w_max, `WP.w_min, `WP.w_truB, `WP.w_truT, `WP.w_truN, `WP.w_isq, `WP.w_itT, `WP.w_itF, `WP.w_ir1, `WP.w_ir2, `WP.w_ir3, `WP.w_idic, `WP.w_enum, `WP.w_enum1, `WP.w_zip, `WP.w_yes, `WP.w_retn, `WP.w_fn, `WP.w_agn, `WP.w_agr, `WP.w_kb, `WP.w_kc, `WP.w_agb, `WP.w_agc, `WP.w_brk, `WP.w_cnt].map (·, [a1]) ++ [`WP.w_bT, `WP.w_bF].map (·, [a6, a1]) : List (Lean.Name × List Lean.Term)).foldrM (fun p (r : Lean.TSyntax `tactic) => `(tactic| first | with_reducible refine $(Lean.Syntax.mkApp (Lean.mkIdent p.1) p.2.toArray) | $r:tactic)) (← `(tactic| fail "no"))
    return t
  else Lean.Macro.throwUnsupported
local macro_rules | `(tactic| fail $s:str) => do
  if s.getString == "go" then `(tactic| first | with_reducible refine w_lenP ?_ | with_reducible refine w_addP (by omega) ?_ | with_reducible refine w_cl0 ?_ | with_reducible refine w_cl1 ?_)
  else Lean.Macro.throwUnsupported
variable {H : HD} {Q : D → HD → Prop}
theorem w_shl {i j : Int} (h0 : 0 ≤ j) (h1 : j ≤ 1000000) (h2 : i.natAbs < 2 ^ 64) (q : Q (.int (i * 2 ^ j.toNat)) H) : wE (shlD (.int i) (.int j) H) Q := ⟨_, _, by have c : CPow i j := ⟨h0, h1, h2⟩; simp [shlD, iiD, c], q⟩
theorem w_shr {i j : Int} (h0 : 0 ≤ j) (q : Q (.int (i / 2 ^ j.toNat)) H) : wE (shrD (.int i) (.int j) H) Q := ⟨_, _, by have c : CNn i j := h0; simp [shrD, iiD, c], q⟩
theorem w_band {i j : Int} (q : Q (.int (Builtin.bitAnd i j)) H) : wE (bandD (.int i) (.int j) H) Q := ⟨_, _, by simp [bandD, iiD, CT], q⟩
theorem w_bor {i j : Int} (q : Q (.int (Builtin.bitOr i j)) H) : wE (borD (.int i) (.int j) H) Q := ⟨_, _, by simp [borD, iiD, CT], q⟩
theorem w_bxor {i j : Int} (q : Q (.int (Builtin.bitXor i j)) H) : wE (bxorD (.int i) (.int j) H) Q := ⟨_, _, by simp [bxorD, iiD, CT], q⟩
theorem w_truI {i : Int} {P : Bool → Prop} (h : P (i != 0)) : ∃ c, truD (.int i) H = some c ∧ P c := ⟨_, rfl, h⟩
theorem w_augI {σ : SD} {i : Nat} {f : EF} {g : Int → Int → Int} {a : Int} {R : FD → SD → HD → Prop} (h : (σ[i]?).join = some (.int a)) (q : wE (f σ H) fun d H1 => ∃ b, d = .int b ∧ R .nx (σ.set i (some (.int (g a b)))) H1) : wS (sAug g i f σ H) R := by
  obtain ⟨d, H1, e, b, rfl, q⟩ := q
  exact ⟨_, _, _, by unfold sAug; rw [h]; simp only [Option.bind_some, intOf, e, Option.map_some], q⟩
theorem w_iget {n : Nat} {kvs : List (Int × D)} {k : Int} {v : D} (g : H[n]? = some (.dci kvs)) (h : ilook kvs k = some v) (q : Q v H) : wE (igetD (.ref n) (.int k) H) Q := ⟨_, _, by simp [igetD, dciD, g, h], q⟩
theorem w_iset {n : Nat} {kvs : List (Int × D)} {k : Int} {v : D} {R : HD → Prop} (g : H[n]? = some (.dci kvs)) (h : kvs.length ≤ 1000) (q : R (H.set n (.dci (iput kvs k v)))) : wH (isetD (.ref n) (.int k) v H) R := by
  refine ⟨_, ?_, q⟩
  simp only [isetD, g]
  rw [if_pos (by rw [sizeLine_eq]; omega)]
theorem look_iput {kvs : List (Int × D)} {k k' : Int} {v : D} : ilook (iput kvs k v) k' = if k' = k then some v else ilook kvs k' := by
  unfold ilook iput
  split
  · rename_i h
    induction kvs with
    | nil => simp at h
    | cons p r ih =>
      simp only [List.map_cons, List.find?_cons]
      by_cases e1 : p.1 = k
      · simp only [e1, if_true]
        by_cases e2 : k' = k
        · subst e2; simp
        · have e3 : ¬ k = k' := fun z => e2 z.symm
          simp only [e1, e3, decide_false, if_neg e2]
          by_cases hr : (r.any fun p => p.1 = k) = true
          · rw [ih hr, if_neg e2]
          · have : r.map (fun p => if p.1 = k then (p.1, v) else p) = r := by
              conv => rhs; rw [← List.map_id r]
              refine List.map_congr_left fun x hx => ?_
              rw [if_neg]; rfl
              intro z
              exact hr (List.any_eq_true.mpr ⟨x, hx, by simpa using z⟩)
            rw [this]
      · simp only [if_neg e1]
        have hr : (r.any fun p => p.1 = k) = true := by simpa [e1] using h
        by_cases e3 : p.1 = k'
        · have : ¬ k' = k := fun z => e1 (e3.trans z)
          simp [e3, this]
        · simp only [e3, decide_false, ih hr]
  · rename_i h
    rw [List.find?_append]
    by_cases e : k' = k
    · subst e
      have : kvs.find? (fun p => decide (p.1 = k')) = none := by
        rw [List.find?_eq_none]
        intro x hx z
        exact h (List.any_eq_true.mpr ⟨x, hx, z⟩)
      simp [this]
    · have e' : ¬ k = k' := fun z => e z.symm
      cases kvs.find? (fun p => decide (p.1 = k')) <;> simp [e, e']
theorem w_idx {own : OwnD} {g : GF} {b : SF} {R : FD → SD → HD → Prop} {xs : List D} (Inv : Nat → SD → HD → Prop) (ho : ∀ k σ H, Inv k σ H → okOwn own H)
    (st : ∀ k x, xs[k]? = some x → ∀ σ H, Inv k σ H → ∀ R' : FD → SD → HD → Prop, (∀ σ2 H2, Inv (k + 1) σ2 H2 → R' .nx σ2 H2) → wG (g x σ H) fun σ1 H1 => wS (b σ1 H1) R') {σ : SD} (i : Inv 0 σ H) (q : ∀ σ H, Inv xs.length σ H → R .nx σ H) : wS (forL own g b xs σ H) R := by
  refine w_loop (fun d t σ H => d ++ t = xs ∧ Inv d.length σ H) (fun d t σ H z => ho _ _ _ z.2) (fun d x t σ H z => ?_) (fun d σ H z => ?_) xs [] σ H ⟨rfl, i⟩
  · obtain ⟨e, z⟩ := z
    refine st d.length x (by rw [← e]; simp) σ H z _ fun σ2 H2 k => ?_
    exact ⟨by rw [← e]; simp, by rw [List.length_append]; exact k⟩
  · obtain ⟨e, z⟩ := z
    rw [List.append_nil] at e
    subst e
    exact q σ H z
theorem w_eachR {own : OwnD} {g : GF} {b : SF} {R : FD → SD → HD → Prop} (Inv : SD → HD → Prop) (ho : ∀ σ H, Inv σ H → okOwn own H) (xs : List D) (st : ∀ x ∈ xs, ∀ σ H, Inv σ H → ∀ R' : FD → SD → HD → Prop, (∀ σ2 H2, Inv σ2 H2 → R' .nx σ2 H2) → wG (g x σ H) fun σ1 H1 => wS (b σ1 H1) R') (σ : SD) (H : HD) (i : Inv σ H) (q : ∀ σ H, Inv σ H → R .nx σ H) : wS (forL own g b xs σ H) R :=
  w_each Inv ho xs (fun x hx σ H z => st x hx σ H z _ fun _ _ k => k) σ H i q
theorem small_nat {n : Nat} (h : n ≤ 256) : smallI (n : Int) := ⟨by omega, by omega⟩
theorem w_pwy {m t : Nat} (h8 : m ≤ 8) (ht : t < m) (q : ∀ x, BS (YS m t) x → Q (.int x) H) : wE (m_plays_with_yes [.int m, .int ((t : Int) + 1)] H) Q := by
  have hp : 2 ^ m ≤ 2 ^ 8 := Nat.pow_le_pow_right (by omega) h8
  refine w_run rfl ?_
  show wS (b_plays_with_yes [some (.int m), some (.int ((t : Int) + 1)), none, none] H) _
  unfold b_plays_with_yes
  (repeat fail "go")
  refine w_shl (by omega) (by omega) (by decide) ?_
  (repeat fail "go")
  have e1 : (1 * 2 ^ (m : Int).toNat : Int) = ((2 ^ m : Nat) : Int) := by rw [Int.toNat_natCast, Int.one_mul, pow_cast]
  refine ⟨_, rfl, ?_, ?_⟩
  · rw [e1]; exact small_nat (by simpa using hp)
  rw [e1, Int.toNat_natCast (2 ^ m)]
  refine w_idx (fun k σ H' => H' = H ∧ ∃ x z, BS (fun i => decide (i < k) && i.testBit t) x ∧ σ = [some (.int m), some (.int ((t : Int) + 1)), some (.int x), z]) (fun _ _ _ _ => own0) (fun k d hd σ H' z R' hR => ?_) ⟨rfl, 0, none, bs_zero.of fun i => by simp, rfl⟩ fun σ H' z => ?_
  · obtain ⟨rfl, x, z, bx, rfl⟩ := z
    obtain ⟨hk, rfl⟩ := rangeL_get hd
    rw [Int.zero_add]
    (repeat fail "go")
    refine w_if ?_
    (repeat fail "go")
    refine w_shr (by omega) ?_
    (repeat fail "go")
    refine w_band ?_
    rw [show ((t : Int) + 1 - 1).toNat = t by omega, bit_one]
    refine w_truI ?_
    by_cases h : k.testBit t = true
    · rw [if_pos h]
      (repeat fail "go")
      refine w_augI rfl ?_
      (repeat fail "go")
      refine w_shl (by omega) (by omega) (by decide) ?_
      refine ⟨_, rfl, ?_⟩
      (repeat fail "go")
      refine hR _ _ ⟨rfl, _, _, (bs_or bx (bs_one (k : Int).toNat)).of fun i => ?_, rfl⟩
      rw [Int.toNat_natCast]
      by_cases e : k = i
      · subst e; simp [h]
      · by_cases e2 : i < k
        · have : i < k + 1 := by omega
          simp [e, e2, this]
        · have : ¬ i < k + 1 := by omega
          simp [e, e2, this]
    · rw [if_neg h]
      (repeat fail "go")
      refine hR _ _ ⟨rfl, _, _, bx.of fun i => ?_, rfl⟩
      by_cases e : i = k
      · subst e; simp [h]
      · by_cases e2 : i < k
        · have : i < k + 1 := by omega
          simp [e2, this]
        · have : ¬ i < k + 1 := by omega
          simp [e2, this]
  · obtain ⟨rfl, x, z, bx, rfl⟩ := z
    (repeat fail "go")
    exact q x (bx.of fun i => by simp [YS, rangeL])
noncomputable def bx (f : Nat → Bool) : Nat → Int
  | 0 => 0
  | k + 1 => if f k = true then Builtin.bitOr (bx f k) (1 * 2 ^ k) else bx f k
theorem bs_bx (f : Nat → Bool) : ∀ k : Nat, BS (fun i => decide (i < k) && f i) (bx f k)
  | 0 => bs_zero.of fun i => by simp
  | k + 1 => by
    unfold bx
    split
    · rename_i h
      refine (bs_or (bs_bx f k) (bs_one k)).of fun i => ?_
      by_cases e : k = i
      · subst e; simp [h]
      · by_cases e2 : i < k
        · have : i < k + 1 := by omega
          simp [e, e2, this]
        · have : ¬ i < k + 1 := by omega
          simp [e, e2, this]
    · rename_i h
      refine (bs_bx f k).of fun i => ?_
      by_cases e : i = k
      · subst e; simp [h]
      · by_cases e2 : i < k
        · have : i < k + 1 := by omega
          simp [e2, this]
        · have : ¬ i < k + 1 := by omega
          simp [e2, this]
noncomputable def lx (m : Nat) (ls : List Int) : Int := bx (LR m ls) (2 ^ m)
theorem bs_lx (m : Nat) (ls : List Int) : BS (LR m ls) (lx m ls) := (bs_bx (LR m ls) (2 ^ m)).of fun i => by unfold LR; cases decide (i < 2 ^ m) <;> rfl
noncomputable def lostL (m : Nat) (rss : List (List Int)) : List D := rss.map fun ls => .int (lx m ls)
noncomputable def DW (m : Nat) (kvs : List (Int × D)) (k : Nat) : Prop := ∀ l : Int, 0 < absZ l → absZ l ≤ k → ∃ x, ilook kvs l = some (.int x) ∧ BS (LR m [l]) x
theorem up_all {m : Int} : ∀ (ls : List Int) (last : Int), 0 ≤ last → Up m last ls → ∀ l ∈ ls, 0 < absZ l ∧ absZ l ≤ m
  | [], _, _, _ => by simp
  | a :: r, last, h0, h => by
    obtain ⟨h1, h2, h3⟩ := h
    intro l hl
    rcases List.mem_cons.mp hl with rfl | hl
    · exact ⟨by omega, h2⟩
    · exact up_all r (absZ a) (by omega) h3 l hl
theorem w_row {m : Nat} {kvs : List (Int × D)} {p : Nat} {ls : List Int} {d0 d1 d2 d5 : D} {z4 z8 : Option D} {every : Int} {R : FD → SD → HD → Prop} (g : H[p]? = some (.dci kvs)) (dw : DW m kvs m) (hl : ∀ l ∈ ls, 0 < absZ l ∧ absZ l ≤ m) (be : BS (fun i => decide (i < 2 ^ m)) every)
    (q : ∀ z8', R .nx [some d0, some d1, some d2, some (.ref p), z4, some d5, some (rowD ls), some (.int (lx m ls)), z8'] H) :
    wS (forL [] (gNm 8) (sSeq (sAug (fun i j => Builtin.bitAnd i j) 7 (eOp igetD (eVar 3) (eVar 8))) sNil) (ls.map .int) [some d0, some d1, some d2, some (.ref p), z4, some d5, some (rowD ls), some (.int every), z8] H) R := by
  refine w_idx (fun k σ H' => H' = H ∧ ∃ x z, BS (LR m (ls.take k)) x ∧ σ = [some d0, some d1, some d2, some (.ref p), z4, some d5, some (rowD ls), some (.int x), z]) (fun _ _ _ _ => own0) (fun k d hd σ H' z R' hR => ?_) ⟨rfl, every, z8, be.of fun i => by simp [LR, kept], rfl⟩ fun σ H' z => ?_
  · obtain ⟨rfl, x, z, bsx, rfl⟩ := z
    rw [List.getElem?_map] at hd
    obtain ⟨l, hl1, rfl⟩ := Option.map_eq_some_iff.mp hd
    obtain ⟨h0, h1⟩ := hl l (List.mem_of_getElem? hl1)
    obtain ⟨y, hy, bsy⟩ := dw l h0 h1
    (repeat fail "go")
    refine w_augI rfl ?_
    (repeat fail "go")
    refine w_iget g hy ?_
    refine ⟨_, rfl, ?_⟩
    (repeat fail "go")
    refine hR _ _ ⟨rfl, _, _, ?_, rfl⟩
    have e : ls.take (k + 1) = ls.take k ++ [l] := by rw [List.take_add_one, hl1]; rfl
    rw [e]
    exact lr_and bsx bsy
  · obtain ⟨rfl, x, z, bsx, rfl⟩ := z
    rw [List.length_map, List.take_length] at bsx
    rw [bsx.uniq (bs_lx m ls)]
    exact q z
theorem w_lostP {ks : List D} {rss : List (List Int)} (c : Cl ks rss) (q : ∀ p H', H'[p]? = some (.lst (lostL ks.length rss)) → H.length ≤ p → Fm [] H H' → Q (.ref p) H') : wE (m_lost_plays [claimD ks rss] H) Q := by
  have h8 := c.h8
  obtain ⟨m, hm⟩ : ∃ m, m = ks.length := ⟨_, rfl⟩
  have hp : 2 ^ m ≤ 2 ^ 8 := Nat.pow_le_pow_right (by omega) (by omega)
  refine w_run rfl ?_
  show wS (b_lost_plays [some (claimD ks rss), none, none, none, none, none, none, none, none] H) _
  unfold b_lost_plays
  (repeat fail "go")
  rw [← hm]
  (repeat fail "go")
  refine w_shl (by omega) (by omega) (by decide) ?_
  have e1 : (1 * 2 ^ (m : Int).toNat : Int) = ((2 ^ m : Nat) : Int) := by rw [Int.toNat_natCast, Int.one_mul, pow_cast]
  rw [e1]
  refine w_shl (Int.natCast_nonneg _) (by have : 2 ^ m ≤ 256 := by simpa using hp
                                          exact Int.le_trans (Int.ofNat_le.mpr this) (by decide)) (by decide) ?_
  rw [Int.toNat_natCast]
  (repeat fail "go")
  have be := bs_mask (2 ^ m)
  refine ⟨_, _, rfl, ?_⟩
  (repeat fail "go")
  refine ⟨_, _, rfl, ⟨by omega, by omega⟩, ⟨by omega, by omega⟩, ?_⟩
  rw [show ((m : Int) + 1 - 1).toNat = m by omega]
  refine w_idx (fun k σ H' => Fm [] H H' ∧ ∃ kvs z, H'[H.length]? = some (.dci kvs) ∧ kvs.length ≤ 2 * k ∧ DW m kvs k ∧ σ = [some (claimD ks rss), some (.int m), some (.int (1 * 2 ^ 2 ^ m - 1)), some (.ref H.length), z, none, none, none, none]) (fun _ _ _ _ => own0) (fun k d hd σ H' z R' hR => ?_) ⟨.app _, [], none, last, by simp, fun l h0 h1 => by omega, rfl⟩ fun σ H' z => ?_
  · obtain ⟨x1, kvs, z, g, lk, dw, rfl⟩ := z
    obtain ⟨hk, rfl⟩ := rangeL_get hd
    rw [Int.add_comm]
    (repeat fail "go")
    refine w_pwy (by omega) hk fun y by1 => ?_
    (repeat fail "go")
    have l1 := iput_len kvs (-((k : Int) + 1)) (.int y)
    refine w_iset g (by omega) ?_
    (repeat fail "go")
    have g2 := setS (o := .dci (iput kvs (-((k : Int) + 1)) (.int y))) g
    refine w_iget g2 (by rw [look_iput, if_pos rfl]) ?_
    refine w_bxor ?_
    (repeat fail "go")
    have l2 := iput_len (iput kvs (-((k : Int) + 1)) (.int y)) ((k : Int) + 1) (.int (Builtin.bitXor (1 * 2 ^ 2 ^ m - 1) y))
    refine w_iset g2 (by omega) ?_
    (repeat fail "go")
    refine hR _ _ ⟨((x1.new (Fm.set (S := [H.length]) (by simp)) fun n hn _ => by simp at hn; omega).new (Fm.set (S := [H.length]) (by simp)) fun n hn _ => by simp at hn; omega), _, _, setS g2, by omega, fun l h0 h1 => ?_, rfl⟩
    rw [look_iput, look_iput]
    by_cases ea : l = (k : Int) + 1
    · subst ea
      rw [if_pos rfl]
      refine ⟨_, rfl, (bs_xor (2 ^ m) by1 fun i hi => ?_).of (lr_pos hk)⟩
      unfold YS at hi
      simp only [Bool.and_eq_true, decide_eq_true_eq] at hi
      exact hi.1
    · rw [if_neg ea]
      by_cases eb : l = -((k : Int) + 1)
      · subst eb
        rw [if_pos rfl]
        exact ⟨_, rfl, by1.of (lr_neg hk)⟩
      · rw [if_neg eb]
        refine dw l h0 ?_
        unfold absZ at h1 ⊢
        split at h1 <;> rename_i hs <;> simp only [hs, if_true, if_false] <;> omega
  · obtain ⟨x1, kvs, z, g, lk, dw, rfl⟩ := z
    rw [show (rangeL 1 m).length = m by simp [rangeL]] at dw lk
    (repeat fail "go")
    have g1 : (H' ++ [DO.lst []])[H.length]? = some (.dci kvs) := appL g
    have hH : H.length < H'.length := (List.getElem?_eq_some_iff.mp g).1
    refine w_idx (fun k σ H2 => Fm [] H H2 ∧ ∃ z6 z7 z8, H2[H.length]? = some (.dci kvs) ∧ H2[H'.length]? = some (.lst (lostL m (rss.take k))) ∧ σ = [some (claimD ks rss), some (.int m), some (.int (1 * 2 ^ 2 ^ m - 1)), some (.ref H.length), z, some (.ref H'.length), z6, z7, z8]) (fun _ _ _ _ => own0) (fun k d hd σ H2 z R' hR => ?_) ⟨x1.trans (.app _), none, none, none, g1, last, rfl⟩ fun σ H2 z => ?_
    · obtain ⟨x2, z6, z7, z8, g2, g3, rfl⟩ := z
      rw [List.getElem?_map] at hd
      obtain ⟨ls, hl1, rfl⟩ := Option.map_eq_some_iff.mp hd
      have hmem := List.mem_of_getElem? hl1
      (repeat fail "go")
      refine ⟨ls.map .int, [], rfl, ?_⟩
      refine w_row g2 dw (fun l hl => ?_) be fun z8' => ?_
      · have := up_all ls 0 (by omega) (c.hu ls hmem) l hl
        rw [← hm] at this
        exact this
      (repeat fail "go")
      refine ⟨isl g3, ?_⟩
      (repeat fail "go")
      have hlen : (lostL m (rss.take k)).length ≤ rss.length := by unfold lostL; rw [List.length_map, List.length_take]; omega
      have := c.hl
      refine w_app g3 (by omega) ?_
      (repeat fail "go")
      refine hR _ _ ⟨x2.new (Fm.set (S := [H'.length]) (by simp)) fun n hn _ => by simp at hn; omega, _, _, _, setO (by omega) g2, ?_, rfl⟩
      rw [setS g3]
      unfold lostL
      rw [List.take_add_one, hl1, List.map_append]
      rfl
    · obtain ⟨x2, z6, z7, z8, g2, g3, rfl⟩ := z
      rw [List.length_map, List.take_length, hm] at g3
      (repeat fail "go")
      exact q _ _ g3 (by omega) x2
theorem w_irb {σ : SD} {f : AF} {I : List D → OwnD → HD → Prop} (h : wA (f σ H) fun ds H1 => ∃ i j c, ds = [.int i, .int j, .int c] ∧ smallB i j c ∧ I (rangeL3 i c (sizeB i j)) [] H1) : wI (iRB f σ H) I := by
  obtain ⟨ds, H1, e, i, j, c, rfl, s1, q⟩ := h
  exact ⟨_, _, H1, by unfold iRB; rw [e]; exact if_pos s1, q⟩
theorem w_eqAll {a : Bool} (q : Q (.bl (a == false)) H) : wE (eqD (sideD a) (.str "all") H) Q := ⟨_, _, side_eq a false _, q⟩
theorem down_get {n k : Nat} {d : D} (h : (rangeL3 ((n : Int) - 1) (-1) n)[k]? = some d) : k < n ∧ d = .int ((n - 1 - k : Nat) : Int) := by
  unfold rangeL3 at h
  rw [List.getElem?_map] at h
  obtain ⟨j, hj, rfl⟩ := Option.map_eq_some_iff.mp h
  obtain ⟨h1, h2⟩ := List.getElem?_eq_some_iff.mp hj
  rw [List.length_range] at h1
  rw [List.getElem_range] at h2
  subst h2
  exact ⟨h1, by congr 1; omega⟩
theorem w_allW {ks : List D} {rl : List (List Int)} {x : Int} (hk : ∀ d ∈ ks, IsKind d) (h8 : ks.length ≤ 8) (b : BS (TG ks.length rl) x) (q : Q (.bl (!W ks rl ks.length [])) H) : wE (m_all_wins [.tup ks, .int x] H) Q := by
  refine w_run rfl ?_
  show wS (b_all_wins [some (.tup ks), some (.int x), none, none, none, none] H) _
  unfold b_all_wins
  (repeat fail "go")
  refine w_irb ?_
  (repeat fail "go")
  refine ⟨_, _, _, rfl, ⟨by omega, by omega, by omega, by omega, by omega⟩, ?_⟩
  rw [show sizeB ((ks.length : Int) - 1) (-1) = ks.length by unfold sizeB; omega]
  refine w_idx (fun k σ H' => H' = H ∧ ∃ x z2 z3 z4 z5, BS (AW ks rl (ks.length - k)) x ∧ σ = [some (.tup ks), some (.int x), z2, z3, z4, z5]) (fun _ _ _ _ => own0) (fun k d hd σ H' z R' hR => ?_) ⟨rfl, x, none, none, none, none, b.of (tg_aw ks rl), rfl⟩ fun σ H' z => ?_
  · obtain ⟨rfl, y, z2, z3, z4, z5, bs, rfl⟩ := z
    obtain ⟨hk1, rfl⟩ := down_get hd
    obtain ⟨j, hj⟩ : ∃ j, j = ks.length - 1 - k := ⟨_, rfl⟩
    have hj1 : j < ks.length := by omega
    rw [← hj]
    rw [show ks.length - k = j + 1 by omega] at bs
    rw [show ks.length - (k + 1) = j by omega] at hR
    have hp : 2 ^ j ≤ 2 ^ 8 := Nat.pow_le_pow_right (by omega) (by omega)
    have e1 : (1 * 2 ^ (j : Int).toNat : Int) = ((2 ^ j : Nat) : Int) := by rw [Int.toNat_natCast, Int.one_mul, pow_cast]
    (repeat fail "go")
    refine w_shl (by omega) (by omega) (by decide) ?_
    rw [e1]
    (repeat fail "go")
    refine w_shl (Int.natCast_nonneg _) (by have : 2 ^ j ≤ 256 := by simpa using hp
                                            exact Int.le_trans (Int.ofNat_le.mpr this) (by decide)) (by decide) ?_
    rw [Int.toNat_natCast (2 ^ j)]
    (repeat fail "go")
    refine w_band ?_
    (repeat fail "go")
    refine w_shr (Int.natCast_nonneg _) ?_
    rw [Int.toNat_natCast (2 ^ j)]
    (repeat fail "go")
    refine w_ixT (atI_nat (side_of hk hj1)) ?_
    have st := aw_step hj1 bs
    refine w_c ?_
    refine w_eqAll ?_
    refine w_bl ?_
    cases hs : kS (ks.getD j .non) with
    | false =>
      rw [hs, if_pos rfl] at st
      (repeat fail "go")
      refine w_bor ?_
      (repeat fail "go")
      exact hR _ _ ⟨rfl, _, _, _, _, _, st, rfl⟩
    | true =>
      rw [hs, if_neg (by decide)] at st
      (repeat fail "go")
      refine w_band ?_
      (repeat fail "go")
      exact hR _ _ ⟨rfl, _, _, _, _, _, st, rfl⟩
  · obtain ⟨rfl, y, z2, z3, z4, z5, bs, rfl⟩ := z
    rw [show ks.length - (rangeL3 ((ks.length : Int) - 1) (-1) ks.length).length = 0 by simp [rangeL3]] at bs
    (repeat fail "go")
    rw [aw_end bs]
    exact q
noncomputable def rowsAt (rss : List (List Int)) (ns : List Nat) : List (List Int) := ns.map fun k => rss.getD k []
noncomputable def numsD (ns : List Nat) : List D := ns.map fun k : Nat => .int k
theorem lost_at {m : Nat} {rss : List (List Int)} {k : Nat} (h : k < rss.length) : (lostL m rss)[k]? = some (.int (lx m (rss.getD k []))) := by
  unfold lostL
  rw [List.getElem?_map, List.getElem?_eq_getElem h]
  simp [h]
theorem w_allBy {ks : List D} {rss : List (List Int)} {ns : List Nat} {p : Nat} (hk : ∀ d ∈ ks, IsKind d) (h8 : ks.length ≤ 8) (g : H[p]? = some (.lst (lostL ks.length rss))) (hn : ∀ k ∈ ns, k < rss.length) (q : Q (.bl (!W ks (rowsAt rss ns) ks.length [])) H) : wE (m_all_wins_by [.tup ks, .ref p, .tup (numsD ns)] H) Q := by
  refine w_run rfl ?_
  show wS (b_all_wins_by [some (.tup ks), some (.ref p), some (.tup (numsD ns)), none, none] H) _
  unfold b_all_wins_by
  (repeat fail "go")
  refine w_idx (fun k σ H' => H' = H ∧ ∃ x z, BS (TG ks.length (rowsAt rss (ns.take k))) x ∧ σ = [some (.tup ks), some (.ref p), some (.tup (numsD ns)), some (.int x), z]) (fun _ _ _ _ => own0) (fun k d hd σ H' z R' hR => ?_) ⟨rfl, 0, none, bs_zero.of (tg_nil _), rfl⟩ fun σ H' z => ?_
  · obtain ⟨rfl, x, z, bs, rfl⟩ := z
    unfold numsD at hd
    rw [List.getElem?_map] at hd
    obtain ⟨t, ht, rfl⟩ := Option.map_eq_some_iff.mp hd
    (repeat fail "go")
    refine w_augI rfl ?_
    (repeat fail "go")
    refine w_ixR g (atI_nat (lost_at (hn t (List.mem_of_getElem? ht)))) ?_
    refine ⟨_, rfl, ?_⟩
    (repeat fail "go")
    refine hR _ _ ⟨rfl, _, _, ?_, rfl⟩
    have e : rowsAt rss (ns.take (k + 1)) = rowsAt rss (ns.take k) ++ [rss.getD t []] := by unfold rowsAt; rw [List.take_add_one, ht, List.map_append]; rfl
    rw [e]
    exact tg_or bs ((bs_lx _ _).of (lr_tg _ _))
  · obtain ⟨rfl, x, z, bs, rfl⟩ := z
    rw [show (numsD ns).length = ns.length by simp [numsD], List.take_length] at bs
    (repeat fail "go")
    refine w_allW hk h8 bs ?_
    (repeat fail "go")
    exact q
theorem nums_fine : ∀ ns : List Nat, Fines (numsD ns) (ns.map fun k : Nat => PyData.int k) 0
  | [] => .nil
  | k :: r => .cons (.int _) (nums_fine r)
noncomputable def oth (n : Nat) (xs : List Nat) : List Nat := (List.range n).filter fun i => !xs.contains i
noncomputable def natOf : D → Nat
  | .int i => i.toNat
  | _ => 0
theorem range_nums (n : Nat) : rangeL 0 n = numsD (List.range n) := by
  unfold rangeL numsD
  refine List.map_congr_left fun k _ => ?_
  rw [Int.zero_add]
theorem any_nums (xs : List Nat) (k : Nat) : ((xs.map fun k : Nat => PyData.int k).any fun z => PyData.eqv z (.int k)) = xs.contains k := by
  rw [List.any_map]
  induction xs with
  | nil => rfl
  | cons a r ih =>
    rw [List.any_cons, List.contains_cons, ih]
    congr 1
    show PyData.eqv (.int a) (.int k) = _
    by_cases e : a = k
    · subst e; simp [PyData.eqv]
    · have e' : ¬ k = a := fun z => e z.symm
      have e2 : ¬ (a : Int) = k := by omega
      rw [show PyData.eqv (.int (a : Int)) (.int (k : Int)) = ((a : Int) == (k : Int)) by simp [PyData.eqv], beq_false_of_ne e2, beq_false_of_ne e']
theorem nums_filter (xs : List Nat) (f : Nat → Bool) : (numsD xs).filter (fun d => f (natOf d)) = numsD (xs.filter f) := by
  unfold numsD
  rw [List.filter_map]
  rfl
theorem w_others {n : Nat} {xs : List Nat} (hn : n ≤ 1000) (q : ∀ H', Fm [] H H' → Q (.tup (numsD (oth n xs))) H') : wE (m_others [.int n, .tup (numsD xs)] H) Q := by
  refine w_run rfl ?_
  show wS (b_others [some (.int n), some (.tup (numsD xs))] H) _
  unfold b_others
  (repeat fail "go")
  refine ⟨_, rfl, ⟨by omega, by omega⟩, ?_⟩
  rw [Int.toNat_natCast, range_nums]
  refine w_cfilter (fun d => (fun i => !xs.contains i) (natOf d)) (fun H1 => H1 = H) (fun _ _ => own0) _ (fun d hd H1 e => ?_) H rfl fun H1 e => ?_
  · subst e
    obtain ⟨k, hk, rfl⟩ := List.mem_map.mp hd
    (repeat fail "go")
    refine w_niT (.int _) (nums_fine xs) (by omega) (by omega) ?_
    refine w_bl ?_
    rw [any_nums]
    exact ⟨by simp [natOf], rfl⟩
  · subst e
    have ef : (numsD (List.range n)).filter (fun d => (fun i => !xs.contains i) (natOf d)) = numsD (oth n xs) := nums_filter (List.range n) fun i => !xs.contains i
    rw [ef]
    have hl : (numsD (oth n xs)).length ≤ 1000 := by
      unfold numsD oth
      rw [List.length_map]
      have := List.length_filter_le (fun i => !xs.contains i) (List.range n)
      rw [List.length_range] at this
      omega
    refine w_sz (by omega) ?_
    (repeat fail "go")
    exact q _ (.app _)
theorem oth_lt {n : Nat} {xs : List Nat} : ∀ k ∈ oth n xs, k < n := fun k hk => List.mem_range.mp (List.mem_filter.mp hk).1
theorem oth_nil (n : Nat) : oth n [] = List.range n := by unfold oth; simp
theorem rows_all (rss : List (List Int)) : rowsAt rss (List.range rss.length) = rss := by
  unfold rowsAt
  refine List.ext_getElem? fun i => ?_
  rw [List.getElem?_map]
  by_cases h : i < rss.length
  · rw [List.getElem?_range h]
    simp [h]
  · have e1 : (List.range rss.length)[i]? = none := List.getElem?_eq_none (by rw [List.length_range]; omega)
    have e2 : rss[i]? = none := List.getElem?_eq_none (by omega)
    rw [e1, e2]
    rfl
theorem w_needl {ks : List D} {rss : List (List Int)} {k : Nat} (c : Cl ks rss) (q : ∀ H', Fm [] H H' → Q (.bl (W ks (rowsAt rss (oth rss.length [k])) ks.length [] == W ks rss ks.length [])) H') : wE (m_is_needless [claimD ks rss, .int k] H) Q := by
  have hl := c.hl
  refine w_run rfl ?_
  show wS (b_is_needless [some (claimD ks rss), some (.int k), none, none] H) _
  unfold b_is_needless
  (repeat fail "go")
  refine w_lostP c fun p H1 g1 l1 x1 => ?_
  (repeat fail "go")
  have ln : (lostL ks.length rss).length = rss.length := by simp [lostL]
  rw [ln]
  (repeat fail "go")
  refine w_others (xs := [k]) hl fun H2 x2 => ?_
  (repeat fail "go")
  have g2 := x2.lst (by simp) g1
  refine w_allBy c.hk c.h8 g2 oth_lt ?_
  (repeat fail "go")
  refine w_others (xs := []) hl fun H3 x3 => ?_
  (repeat fail "go")
  refine w_allBy c.hk c.h8 (x3.lst (by simp) g2) oth_lt ?_
  refine w_eqF (.bl _) (.bl _) (by omega) (by omega) ?_
  (repeat fail "go")
  rw [oth_nil, rows_all]
  have := q H3 ((x1.trans x2).trans x3)
  have e : PyData.eqv (.bool (!W ks (rowsAt rss (oth rss.length [k])) ks.length [])) (.bool (!W ks rss ks.length [])) = (W ks (rowsAt rss (oth rss.length [k])) ks.length [] == W ks rss ks.length []) := by
    cases W ks (rowsAt rss (oth rss.length [k])) ks.length [] <;> cases W ks rss ks.length [] <;> simp [PyData.eqv]
  rw [e]
  exact this
theorem w_winners {ks : List D} {rss : List (List Int)} (c : Cl ks rss) (q : ∀ p H', H'[p]? = some (.dic ((allP ks.length).map (kv ks rss)) false) → H.length ≤ p → Fm [] H H' → Q (.ref p) H') : wE (m_law_winners [claimD ks rss] H) Q := by
  obtain ⟨p, H', e, l, g, x⟩ := winners_ok c.hk c.hu c.hl c.h8 H
  exact ⟨_, _, e, q p H' g l x.fm⟩
theorem nil_allP : ∀ n : Nat, [] ∈ allP n
  | 0 => by simp [allP, lev]
  | n + 1 => List.mem_append.mpr (.inr (nil_allP n))
theorem w_side0 {p : Nat} {ks : List D} {rss : List (List Int)} {fz : Bool} (g : H[p]? = some (.dic ((allP ks.length).map (kv ks rss)) fz)) (q : Q (sideD (W ks rss ks.length [])) H) : wE (dgetD (.ref p) (.tup []) H) Q :=
  w_dget g (nk_play []) (look_in (allP ks.length) (nil_allP _)) q
theorem Cl.rows {ks : List D} {rss : List (List Int)} {ns : List Nat} (c : Cl ks rss) (hn : ∀ k ∈ ns, k < rss.length) (hl : ns.length ≤ 1000) : Cl ks (rowsAt rss ns) := by
  refine ⟨c.hk, fun ls h => ?_, by unfold rowsAt; rw [List.length_map]; exact hl, c.h8⟩
  obtain ⟨k, hk, rfl⟩ := List.mem_map.mp h
  have := hn k hk
  refine c.hu _ ?_
  simp [this]
theorem w_wins {ks : List D} {rss : List (List Int)} {ns : List Nat} {p : Nat} (c : Cl ks rss) (g : H[p]? = some (.lst (numsD ns))) (hn : ∀ k ∈ ns, k < rss.length) (hl : ns.length ≤ 1000) (q : ∀ H', Fm [] H H' → Q (sideD (W ks (rowsAt rss ns) ks.length [])) H') : wE (m_law_wins [claimD ks rss, .ref p] H) Q := by
  refine w_run rfl ?_
  show wS (b_law_wins [some (claimD ks rss), some (.ref p)] H) _
  unfold b_law_wins
  (repeat fail "go")
  refine w_cmap (fun d => rowD (rss.getD (natOf d) [])) (fun H1 => H1 = H) (fun _ e => by subst e; exact own1 g) _ (fun d hd H1 e => ?_) H rfl fun H1 e => ?_
  · subst e
    obtain ⟨k, hk, rfl⟩ := List.mem_map.mp hd
    have hk1 := hn k hk
    (repeat fail "go")
    refine w_ixT (d := rowD (rss.getD k [])) (atI_nat ?_) ⟨by simp [natOf], rfl⟩
    rw [List.getElem?_map, List.getElem?_eq_getElem hk1]
    simp [hk1]
  · subst e
    have e2 : (numsD ns).map (fun d => rowD (rss.getD (natOf d) [])) = (rowsAt rss ns).map rowD := by
      unfold numsD rowsAt
      rw [List.map_map, List.map_map]
      refine List.map_congr_left fun k _ => ?_
      simp [natOf]
    rw [e2]
    refine w_sz (by unfold rowsAt; rw [List.length_map, List.length_map]; omega) ?_
    (repeat fail "go")
    refine w_winners (c.rows hn hl) fun p2 H2 g2 _ x2 => ?_
    (repeat fail "go")
    refine w_side0 g2 ?_
    (repeat fail "go")
    exact q H2 ((Fm.app _).trans x2)
theorem w_lm0 {σ : SD} {g : D → List D → HD → Option (D × HD)} {fo : EF} (h : wE (fo σ H) fun o H1 => isLst o H1 = true ∧ wE (g o [] H1) Q) : wE (eLM0 g fo σ H) Q := by
  obtain ⟨o, H1, e, l, d, H2, e2, q⟩ := h
  exact ⟨d, H2, by unfold eLM0; rw [e]; simp only [Option.bind_some]; rw [if_pos l]; exact e2, q⟩
theorem w_lrev {n : Nat} {xs : List D} (g : H[n]? = some (.lst xs)) (q : Q .non (H.set n (.lst xs.reverse))) : wE (lrevD (.ref n) [] H) Q := ⟨_, _, by simp [lrevD, g], q⟩
theorem small_k {n : Nat} (h : n ≤ 1000) : smallI (n : Int) := ⟨by omega, by omega⟩
theorem w_lr1 {f : AF} {σ : SD} (h : wA (f σ H) fun ds H1 => ∃ j : Int, ds = [.int j] ∧ smallI j ∧ j.toNat ≤ 1000000 ∧ Q (.ref H1.length) (H1 ++ [.lst (rangeL 0 j.toNat)])) : wE (eLR1 f σ H) Q := by
  obtain ⟨ds, H1, e, j, rfl, s1, s2, q⟩ := h
  exact ⟨_, _, by unfold eLR1; rw [e]; exact if_pos ⟨s1, s2⟩, q⟩
noncomputable def tx (m : Nat) (rl : List (List Int)) : Int := bx (TG m rl) (2 ^ m)
theorem bs_tx (m : Nat) (rl : List (List Int)) : BS (TG m rl) (tx m rl) := (bs_bx (TG m rl) (2 ^ m)).of fun i => by unfold TG; cases decide (i < 2 ^ m) <;> rfl
noncomputable def aheadL (m : Nat) (rss : List (List Int)) (n : Nat) : List D := (List.range n).map fun k => .int (tx m (rss.take k))
theorem ahead_at {m n k : Nat} {rss : List (List Int)} (h : k < n) : (aheadL m rss n)[k]? = some (.int (tx m (rss.take k))) := by
  unfold aheadL
  rw [List.getElem?_map, List.getElem?_range h]
  rfl
theorem w_ahead {m p : Nat} {rss : List (List Int)} (hl : rss.length ≤ 1000) (g : H[p]? = some (.lst (lostL m rss))) (q : ∀ p2 H', H'[p2]? = some (.lst (aheadL m rss rss.length)) → H.length ≤ p2 → Fm [] H H' → Q (.ref p2) H') : wE (m_lost_ahead [.ref p] H) Q := by
  refine w_run rfl ?_
  show wS (b_lost_ahead [some (.ref p), none, none, none] H) _
  unfold b_lost_ahead
  (repeat fail "go")
  have hp : p < H.length := (List.getElem?_eq_some_iff.mp g).1
  refine w_idx (fun k σ H' => Fm [] H H' ∧ ∃ x z, H'[p]? = some (.lst (lostL m rss)) ∧ H'[H.length]? = some (.lst (aheadL m rss k)) ∧ BS (TG m (rss.take k)) x ∧ σ = [some (.ref p), some (.ref H.length), some (.int x), z]) (fun k σ H' z => by obtain ⟨_, x, z, g, _⟩ := z; exact own1 g) (fun k d hd σ H' z R' hR => ?_) ⟨.app _, 0, none, appL g, last, bs_zero.of fun i => by simp [TG], rfl⟩ fun σ H' z => ?_
  · obtain ⟨x1, x, z, g1, g2, bs, rfl⟩ := z
    have hd0 := hd
    unfold lostL at hd
    rw [List.getElem?_map] at hd
    obtain ⟨ls, hl1, rfl⟩ := Option.map_eq_some_iff.mp hd
    have hk := (List.getElem?_eq_some_iff.mp hl1).1
    (repeat fail "go")
    refine ⟨isl g2, ?_⟩
    (repeat fail "go")
    refine w_app g2 (by simp [aheadL]; omega) ?_
    (repeat fail "go")
    refine w_augI rfl ?_
    (repeat fail "go")
    refine hR _ _ ⟨x1.new (Fm.set (S := [H.length]) (by simp)) fun n hn _ => by simp at hn; omega, _, _, setO (by omega) g1, ?_, ?_, rfl⟩
    · rw [setS g2, bs.uniq (bs_tx m (rss.take k))]
      unfold aheadL
      rw [List.range_succ, List.map_append, List.map_singleton]
    · rw [List.take_add_one, hl1]
      exact tg_or bs ((bs_lx m ls).of (lr_tg m ls))
  · obtain ⟨x1, x, z, g1, g2, bs, rfl⟩ := z
    rw [show (lostL m rss).length = rss.length by simp [lostL]] at g2
    (repeat fail "go")
    exact q _ _ g2 (by omega) x1
theorem w_refuse {ks : List D} {rss : List (List Int)} {p : Nat} (c : Cl ks rss) (hw : W ks rss ks.length [] = false) (g : H[p]? = some (.lst (lostL ks.length rss))) (q : ∀ H', Fm [] H H' → Q .non H') : wE (m_refuse_not_won [.tup ks, .ref p] H) Q := by
  have ln : (lostL ks.length rss).length = rss.length := by simp [lostL]
  refine w_run rfl ?_
  show wS (b_refuse_not_won [some (.tup ks), some (.ref p)] H) _
  unfold b_refuse_not_won
  (repeat fail "go")
  refine w_if ?_
  (repeat fail "go")
  rw [ln]
  refine w_others (xs := []) c.hl fun H3 x3 => ?_
  (repeat fail "go")
  refine w_allBy c.hk c.h8 (x3.lst (by simp) g) oth_lt ?_
  rw [oth_nil, rows_all, hw]
  (repeat fail "go")
  exact q _ x3
noncomputable def leanT (ks : List D) (rss : List (List Int)) : Nat → List Nat
  | 0 => []
  | k + 1 => if W ks (rowsAt rss (List.range (rss.length - 1 - k) ++ leanT ks rss k)) ks.length [] = false then leanT ks rss k else (rss.length - 1 - k) :: leanT ks rss k
theorem lean_in {ks : List D} {rss : List (List Int)} : ∀ k, k ≤ rss.length → ∀ t ∈ leanT ks rss k, rss.length - k ≤ t ∧ t < rss.length
  | 0, _ => by simp [leanT]
  | k + 1, h => by
    intro t ht
    unfold leanT at ht
    split at ht
    · have := lean_in k (by omega) t ht
      omega
    · rcases List.mem_cons.mp ht with rfl | ht
      · omega
      · have := lean_in k (by omega) t ht
        omega
theorem lean_len {ks : List D} {rss : List (List Int)} : ∀ k, (leanT ks rss k).length ≤ k
  | 0 => by simp [leanT]
  | k + 1 => by
    have := lean_len (ks := ks) (rss := rss) k
    unfold leanT
    split
    · omega
    · simp; omega
theorem rows_take {rss : List (List Int)} {i : Nat} (h : i ≤ rss.length) : rowsAt rss (List.range i) = rss.take i := by
  have e := rows_all rss
  have e2 : List.range i = (List.range rss.length).take i := by rw [List.take_range, Nat.min_eq_left h]
  rw [e2]
  conv => rhs; rw [← e]
  unfold rowsAt
  rw [List.map_take]
theorem rows_app (rss : List (List Int)) (a b : List Nat) : rowsAt rss (a ++ b) = rowsAt rss a ++ rowsAt rss b := by unfold rowsAt; rw [List.map_append]
theorem tg_comm (m : Nat) (a b : List (List Int)) : ∀ i, TG m (a ++ b) i = TG m (b ++ a) i := by
  intro i
  unfold TG
  rw [List.all_append, List.all_append, Bool.and_comm (a.all _)]
theorem w_lean {ks : List D} {rss : List (List Int)} (c : Cl ks rss) (hw : W ks rss ks.length [] = false) (q : ∀ p H', H'[p]? = some (.lst (numsD (leanT ks rss rss.length))) → H.length ≤ p → Fm [] H H' → Q (.ref p) H') : wE (m_lean [claimD ks rss] H) Q := by
  have ln : (lostL ks.length rss).length = rss.length := by simp [lostL]
  have hl := c.hl
  refine w_run rfl ?_
  show wS (b_lean [some (claimD ks rss), none, none, none, none, none] H) _
  unfold b_lean
  (repeat fail "go")
  refine w_lostP c fun p1 H1 g1 l1 x1 => ?_
  (repeat fail "go")
  refine w_refuse c hw g1 fun H2 x2 => ?_
  (repeat fail "go")
  have g2 := x2.lst (by simp) g1
  refine w_ahead hl g2 fun p3 H3 g3 l3 x3 => ?_
  (repeat fail "go")
  refine w_irb ?_
  have x03 := (x1.trans x2).trans x3
  have g1' := x3.lst (by simp) g2
  have b1 : p1 < H3.length := (List.getElem?_eq_some_iff.mp g1').1
  have b3 : p3 < H3.length := (List.getElem?_eq_some_iff.mp g3).1
  have b0 : H.length ≤ H3.length := x03.len
  (repeat fail "go")
  rw [ln]
  refine ⟨_, _, _, rfl, ⟨by omega, by omega, by omega, by omega, by omega⟩, ?_⟩
  rw [show sizeB ((rss.length : Int) - 1) (-1) = rss.length by unfold sizeB; omega]
  refine w_idx (fun k σ H' => Fm [] H H' ∧ ∃ x z, H'[p1]? = some (.lst (lostL ks.length rss)) ∧ H'[p3]? = some (.lst (aheadL ks.length rss rss.length)) ∧ H'[H3.length]? = some (.lst (numsD (leanT ks rss k).reverse)) ∧ BS (TG ks.length (rowsAt rss (leanT ks rss k))) x ∧ σ = [some (claimD ks rss), some (.ref p1), some (.ref p3), some (.ref H3.length), some (.int x), z]) (fun _ _ _ _ => own0) (fun k d hd σ H' z R' hR => ?_) ⟨x03.trans (.app _), 0, none, appL g1', appL g3, last, bs_zero.of fun i => by simp [TG, leanT, rowsAt], rfl⟩ fun σ H' z => ?_
  · obtain ⟨y1, x, z, f1, f2, f3, bs, rfl⟩ := z
    obtain ⟨hk1, rfl⟩ := down_get hd
    obtain ⟨i, hi⟩ : ∃ i, i = rss.length - 1 - k := ⟨_, rfl⟩
    rw [← hi]
    have hi1 : i < rss.length := by omega
    have et : leanT ks rss (k + 1) = if W ks (rowsAt rss (List.range i ++ leanT ks rss k)) ks.length [] = false then leanT ks rss k else i :: leanT ks rss k := by rw [leanT, hi]
    have bo : BS (TG ks.length (rowsAt rss (List.range i ++ leanT ks rss k))) (Builtin.bitOr (tx ks.length (rss.take i)) x) := by
      rw [rows_app, rows_take (by omega)]
      exact tg_or (bs_tx _ _) bs
    (repeat fail "go")
    refine w_if ?_
    (repeat fail "go")
    refine w_ixR f2 (atI_nat (ahead_at hi1)) ?_
    (repeat fail "go")
    refine w_bor ?_
    (repeat fail "go")
    refine w_allW c.hk c.h8 bo ?_
    refine w_truB ?_
    have lT := lean_len (ks := ks) (rss := rss) k
    cases ww : W ks (rowsAt rss (List.range i ++ leanT ks rss k)) ks.length [] with
    | false =>
      rw [ww, if_pos rfl] at et
      (repeat fail "go")
      refine hR _ _ ?_
      rw [et]
      exact ⟨y1, _, _, f1, f2, f3, bs, rfl⟩
    | true =>
      rw [ww, if_neg (by decide)] at et
      (repeat fail "go")
      refine ⟨isl f3, ?_⟩
      (repeat fail "go")
      refine w_app f3 (by simp [numsD]; omega) ?_
      (repeat fail "go")
      refine w_augI rfl ?_
      (repeat fail "go")
      have e2 := setO (u := .lst (numsD (leanT ks rss k).reverse ++ [.int i])) (by omega : H3.length ≠ p1) f1
      refine w_ixR e2 (atI_nat (lost_at hi1)) ?_
      refine ⟨_, rfl, ?_⟩
      (repeat fail "go")
      refine hR _ _ ?_
      rw [et]
      refine ⟨y1.new (Fm.set (S := [H3.length]) (by simp)) fun n hn _ => by simp at hn; omega, _, _, e2, setO (by omega) f2, ?_, ?_, rfl⟩
      · rw [setS f3]
        unfold numsD
        rw [List.reverse_cons, List.map_append]
        rfl
      · have := tg_or bs ((bs_lx ks.length (rss.getD i [])).of (lr_tg _ _))
        refine this.of fun t => ?_
        rw [tg_comm]
        rfl
  · obtain ⟨y1, x, z, f1, f2, f3, bs, rfl⟩ := z
    rw [show (rangeL3 ((rss.length : Int) - 1) (-1) rss.length).length = rss.length by simp [rangeL3]] at f3
    (repeat fail "go")
    refine w_lm0 ?_
    (repeat fail "go")
    refine ⟨isl f3, ?_⟩
    refine w_lrev f3 ?_
    (repeat fail "go")
    refine q _ _ ?_ b0 (y1.new (Fm.set (S := [H3.length]) (by simp)) fun n hn _ => by simp at hn; omega)
    rw [setS f3]
    unfold numsD
    rw [← List.map_reverse, List.reverse_reverse]
theorem nums_show {ns : List Nat} (h : ∀ k ∈ ns, k ≤ 30) (hl : ns.length ≤ 100) : ∃ t : Str, ∀ (H : HD) (p : Nat), H[p]? = some (.lst (numsD ns)) → reprD [.ref p] H = some (.str t, H) := by
  have en : numsD ns = (ns.map fun k : Nat => (k : Int)).map .int := by unfold numsD; rw [List.map_map]; rfl
  obtain ⟨ps, e, a1, a2, a3, a4, a5, a6⟩ := sh_all (H := []) (n := 29) (w := 40) (dp := 0) (numsD ns) fun d hd => by
    obtain ⟨k, hk, rfl⟩ := List.mem_map.mp hd
    have := h k hk
    exact ⟨_, toP_int _ _ _, Sh.int (by omega) (by omega)⟩
  have s : Sh (.list ps) ((numsD ns).length * 41) 1 := ⟨a1, a2, Nat.succ_le_succ a3, a4, a5⟩
  have ln : (numsD ns).length ≤ 100 := by simpa [numsD] using hl
  refine ⟨(PyData.list ps).shown, fun H p g => ?_⟩
  have q : toP H 30 (.ref p) = some (.list ps) := by
    rw [toP]
    simp only [g]
    rw [en, toPs_ints] at e ⊢
    rw [e]
    rfl
  unfold reprD
  simp only [q, Option.bind_some]
  exact if_pos (s.can (by omega) (by omega))
theorem lean_end {ks : List D} {rss : List (List Int)} {i : Nat} (hi : i < rss.length) (T : List Nat) (hT : ∀ t ∈ T, i + 1 ≤ t) : (List.range (i + 1) ++ T).filter (fun t => !(t == i)) = List.range i ++ T := by
  rw [List.filter_append, List.range_succ, List.filter_append]
  have e1 : (List.range i).filter (fun t => !(t == i)) = List.range i := List.filter_eq_self.mpr fun t ht => by have := List.mem_range.mp ht; simp; omega
  have e2 : T.filter (fun t => !(t == i)) = T := List.filter_eq_self.mpr fun t ht => by have := hT t ht; simp; omega
  rw [e1, e2]
  simp
theorem w_lawLean {ks : List D} {rss : List (List Int)} (c : Cl ks rss) (q : ∀ p H', H'[p]? = some (.lst (numsD (leanT ks rss rss.length))) → H.length ≤ p → Fm [] H H' → Q (.ref p) H') : wE (m_law_lean [claimD ks rss] H) Q := by
  have hl := c.hl
  refine w_run rfl ?_
  show wS (b_law_lean [some (claimD ks rss), none, none, none] H) _
  unfold b_law_lean
  (repeat fail "go")
  refine w_lr1 ?_
  (repeat fail "go")
  rw [List.length_map]
  refine ⟨_, rfl, small_k hl, by omega, ?_⟩
  rw [Int.toNat_natCast, range_nums]
  (repeat fail "go")
  refine w_irb ?_
  (repeat fail "go")
  rw [List.length_map]
  refine ⟨_, _, _, rfl, ⟨by omega, by omega, by omega, by omega, by omega⟩, ?_⟩
  rw [show sizeB ((rss.length : Int) - 1) (-1) = rss.length by unfold sizeB; omega]
  refine w_idx (fun k σ H' => Fm [] H H' ∧ ∃ r z2 z3, H.length ≤ r ∧ H'[r]? = some (.lst (numsD (List.range (rss.length - k) ++ leanT ks rss k))) ∧ σ = [some (claimD ks rss), some (.ref r), z2, z3]) (fun _ _ _ _ => own0) (fun k d hd σ H' z R' hR => ?_) ⟨.app _, H.length, none, none, Nat.le_refl _, by rw [Nat.sub_zero, leanT, List.append_nil]; exact last, rfl⟩ fun σ H' z => ?_
  · obtain ⟨y1, r, z2, z3, hr, g, rfl⟩ := z
    obtain ⟨hk1, rfl⟩ := down_get hd
    obtain ⟨i, hi⟩ : ∃ i, i = rss.length - 1 - k := ⟨_, rfl⟩
    rw [← hi]
    have hi1 : i < rss.length := by omega
    have et : leanT ks rss (k + 1) = if W ks (rowsAt rss (List.range i ++ leanT ks rss k)) ks.length [] = false then leanT ks rss k else i :: leanT ks rss k := by rw [leanT, hi]
    have hin := lean_in (ks := ks) (rss := rss) k (by omega)
    have lT := lean_len (ks := ks) (rss := rss) k
    rw [show rss.length - k = i + 1 by omega] at g hin
    rw [show rss.length - (k + 1) = i by omega] at hR
    (repeat fail "go")
    refine w_cfilter (fun d => (fun t => !(t == i)) (natOf d)) (fun H1 => H1 = H') (fun _ e => by subst e; exact own1 g) _ (fun d hd H1 e => ?_) H' rfl fun H1 e => ?_
    · subst e
      obtain ⟨t, ht, rfl⟩ := List.mem_map.mp hd
      (repeat fail "go")
      refine ⟨?_, rfl⟩
      simp only [natOf, Int.toNat_natCast]
      by_cases e : t = i
      · subst e; simp
      · have e2 : ¬ (t : Int) = i := by omega
        rw [beq_false_of_ne e, beq_false_of_ne e2]
    · subst e
      have ef : (numsD (List.range (i + 1) ++ leanT ks rss k)).filter (fun d => (fun t => !(t == i)) (natOf d)) = numsD (List.range i ++ leanT ks rss k) := by
        rw [← lean_end (ks := ks) hi1 (leanT ks rss k) fun t ht => (hin t ht).1]
        exact nums_filter (List.range (i + 1) ++ leanT ks rss k) fun t => !(t == i)
      rw [ef]
      refine w_sz (by simp [numsD]; omega) ?_
      (repeat fail "go")
      refine w_if ?_
      (repeat fail "go")
      refine w_wins c last (fun t ht => ?_) (by simp; omega) fun H2 x2 => ?_
      · rcases List.mem_append.mp ht with ht | ht
        · have := List.mem_range.mp ht; omega
        · exact (hin t ht).2
      refine w_c ?_
      refine w_eqAll ?_
      refine w_bl ?_
      have y2 := (y1.trans (.app [DO.lst (numsD (List.range i ++ leanT ks rss k))])).trans x2
      cases ww : W ks (rowsAt rss (List.range i ++ leanT ks rss k)) ks.length [] with
      | false =>
        rw [ww, if_pos rfl] at et
        (repeat fail "go")
        refine hR _ _ ?_
        rw [et]
        exact ⟨y2, _, _, _, y1.len, x2.lst (by simp) last, rfl⟩
      | true =>
        rw [ww, if_neg (by decide)] at et
        (repeat fail "go")
        refine hR _ _ ?_
        rw [et]
        refine ⟨y2, _, _, _, hr, ?_, rfl⟩
        have := x2.lst (by simp) (appL g)
        rw [this, List.range_succ, List.append_assoc]
        rfl
  · obtain ⟨y1, r, z2, z3, hr, g, rfl⟩ := z
    rw [show (rangeL3 ((rss.length : Int) - 1) (-1) rss.length).length = rss.length by simp [rangeL3], Nat.sub_self, List.range_zero, List.nil_append] at g
    (repeat fail "go")
    exact q _ _ g hr y1
theorem x_refuse {ks : List D} {rss : List (List Int)} {p : Nat} (c : Cl ks rss) (hw : W ks rss ks.length [] = true) (g : H[p]? = some (.lst (lostL ks.length rss))) : ∃ H', x_refuse_not_won [.tup ks, .ref p] H = some H' ∧ Fm [] H H' := by
  have ln : (lostL ks.length rss).length = rss.length := by simp [lostL]
  show ∃ H', xb_refuse_not_won [some (.tup ks), some (.ref p)] H = some H' ∧ _
  unfold xb_refuse_not_won
  have h2 : wT (tNo (tTru (eCall 3 m_all_wins_by (aCons (eVar 0) (aCons (eVar 1) (aCons (eCall 2 m_others (aCons (eCB lenD (aCons (eVar 1) aNil)) (aCons (eTup aNil) aNil))) aNil))))) [some (.tup ks), some (.ref p)] H) fun b H' => b = true ∧ Fm [] H H' := by
    (repeat fail "go")
    rw [ln]
    refine w_others (xs := []) c.hl fun H3 x3 => ?_
    (repeat fail "go")
    refine w_allBy c.hk c.h8 (x3.lst (by simp) g) oth_lt ?_
    rw [oth_nil, rows_all, hw]
    (repeat fail "go")
    exact ⟨rfl, x3⟩
  obtain ⟨b, H2, e2, rfl, x2⟩ := h2
  refine ⟨H2, ?_, x2⟩
  unfold xIf
  rw [e2]
  rfl
theorem x_leanE {ks : List D} {rss : List (List Int)} (c : Cl ks rss) (hw : W ks rss ks.length [] = true) (H : HD) : ∃ H', x_lean [claimD ks rss] H = some H' ∧ Fm [] H H' := by
  show ∃ H', xb_lean [some (claimD ks rss), none, none, none, none, none] H = some H' ∧ _
  unfold xb_lean
  have h1 : wS (sSet 1 (eCall 1 m_lost_plays (aCons (eVar 0) aNil)) [some (claimD ks rss), none, none, none, none, none] H) fun x σ H' => x = .nx ∧ ∃ p, H'[p]? = some (.lst (lostL ks.length rss)) ∧ Fm [] H H' ∧ σ = [some (claimD ks rss), some (.ref p), none, none, none, none] := by
    (repeat fail "go")
    refine w_lostP c fun p H1 g1 l1 x1 => ?_
    exact ⟨rfl, p, g1, x1, rfl⟩
  obtain ⟨x, σ1, H1, e1, rfl, p, g1, x1, rfl⟩ := h1
  obtain ⟨H2, e2, x2⟩ := x_refuse c hw g1
  refine ⟨H2, ?_, x1.trans x2⟩
  unfold xSeq
  rw [e1]
  simp only [Option.bind_some]
  have h3 : wA (aCons (eOp ixD (eVar 0) (eC (.int 0))) (aCons (eVar 1) aNil) [some (claimD ks rss), some (.ref p), none, none, none, none] H1) fun ds H' => ds = [.tup ks, .ref p] ∧ H' = H1 := by
    (repeat fail "go")
    exact ⟨rfl, rfl⟩
  obtain ⟨ds, H3, e3, rfl, rfl⟩ := h3
  unfold xCall
  rw [e3]
  exact e2
theorem w_ref {n iE iO iW : Nat} {w1 : Str} {XF : XFF} {fa : AF} {σ : SD} {R : FD → SD → HD → Prop} (h : wA (fa σ H) fun ds H1 => (ds.length = n ∧ iO < σ.length ∧ iE ≠ iO ∧ iE < σ.length ∧ iE ≠ iW) ∧ ∃ H2, XF ds H1 = some H2 ∧ R .nx (((σ.set iO (some (.bl false))).set iW (some (.str w1))).set iE none) H2) : wS (sRef n iE iO iW w1 XF fa σ H) R := by
  obtain ⟨ds, H1, e1, c, H2, e2, q⟩ := h
  refine ⟨_, _, _, ?_, q⟩
  unfold sRef
  rw [e1]
  simp only [Option.bind_some]
  rw [if_pos c, e2]
  rfl
theorem w_refused {ks : List D} {rss : List (List Int)} (c : Cl ks rss) (hw : W ks rss ks.length [] = true) (q : ∀ H', Fm [] H H' → Q (.str "won") H') : wE (m_law_refused [claimD ks rss] H) Q := by
  refine w_run rfl ?_
  show wS (b_law_refused [some (claimD ks rss), none, none, none] H) _
  unfold b_law_refused
  (repeat fail "go")
  refine w_ref ?_
  (repeat fail "go")
  obtain ⟨H2, e2, x2⟩ := x_leanE c hw H
  refine ⟨⟨rfl, by simp, by omega, by simp, by omega⟩, H2, e2, ?_⟩
  (repeat fail "go")
  exact q H2 x2
theorem w_lrow {n : Nat} {m : Int} (hf : FeedAt n H) (h0 : 0 ≤ m) (h1 : m ≤ 8) (q : ∀ ls H', Up m 0 ls → FeedAt n H' → Fm [n] H H' → Q (rowD ls) H') : wE (m_law_row [.ref n, .int m] H) Q := by
  obtain ⟨ls, H', e, _, _, x, hu⟩ := row_ok2 (n := n) (m := m) (H := H) hf h0 (by omega)
  exact ⟨_, _, e, q ls H' hu x.feed x.fm⟩
theorem w_rows24 {n : Nat} {ks : List D} {rss : List (List Int)} {R : List D → HD → Prop} (f : FeedAt n H) (c : Cl ks rss) (q : ∀ (rl : List (List Int)) H', (∀ ls ∈ rl, Up ks.length 0 ls) → rl.length = 24 → FeedAt n H' → Fm [n] H H' → R (rl.map rowD) H') :
    wA (compL [] [some (.ref n), some (claimD ks rss)] tYes (eCall 2 m_law_row (aCons (eVar 1) (aCons (eCB lenD (aCons (eOp ixD (eVar 2) (eC (.int 0))) aNil)) aNil))) (rangeL 0 24) H) R := by
  have h8 := c.h8
  refine w_comp (fun d t o H' => FeedAt n H' ∧ Fm [n] H H' ∧ d.length + t.length = 24 ∧ ∃ rl, o = rl.map rowD ∧ rl.length = d.length ∧ ∀ ls ∈ rl, Up ks.length 0 ls) (fun _ _ _ _ _ => own0) (fun d x t o H' z => ?_) (rangeL 0 24) [] [] H ⟨f, .refl, by simp [rangeL], [], rfl, rfl, by simp⟩ fun d o' H' z => ?_
  · obtain ⟨f1, x1, hl, rl, rfl, h2, h3⟩ := z
    (repeat fail "go")
    refine w_lrow f1 (by omega) (by omega) fun ls H2 hu f2 x2 => ?_
    refine ⟨f2, x1.trans x2, by simp at hl ⊢; omega, rl ++ [ls], by rw [List.map_append]; rfl, by simp [h2], fun l hl => ?_⟩
    rcases List.mem_append.mp hl with hl | hl
    · exact h3 l hl
    · rw [List.mem_singleton] at hl; subst hl; exact hu
  · obtain ⟨f1, x1, hl, rl, e, h2, h3⟩ := z
    rw [List.nil_append] at e
    subst e
    rw [List.length_nil, Nat.add_zero] at hl
    exact q rl H' h3 (by omega) f1 x1
theorem w_eqSome {a : Bool} (q : Q (.bl (a == true)) H) : wE (eqD (sideD a) (.str "some") H) Q := ⟨_, _, side_eq a true _, q⟩
theorem w_eqSd {a b : Bool} (q : Q (.bl (a == b)) H) : wE (eqD (sideD a) (sideD b) H) Q := ⟨_, _, side_eq _ _ _, q⟩
theorem w_neBl {a : Bool} (q : Q (.bl false) H) : wE (neD (.bl a) (.bl a) H) Q := w_neF (.bl a) (.bl a) (by omega) (by omega) (by cases a <;> simpa [PyData.eqv] using q)
theorem oth_one (n k : Nat) : (List.range n).filter (fun t => !(t == k)) = oth n [k] := by
  unfold oth
  congr 1
  funext t
  rw [List.contains_cons, List.contains_nil, Bool.or_false]
noncomputable abbrev sg (s i n c : D) (b4 b5 b6 b7 b8 b9 b10 b11 : Option D) : SD := [some s, some i, some n, some c, b4, b5, b6, b7, b8, b9, b10, b11]
noncomputable def zNum : SF := (sSeq (sSet 7 (eCall 2 m_is_needless (aCons (eVar 3) (aCons (eVar 5) aNil))))
  (sSeq (sSet 8 (eOp eqD (eCall 2 m_law_wins (aCons (eVar 3) (aCons (eLC (iR1 (aCons (eCB lenD (aCons (eOp ixD (eVar 3) (eC (.int 1))) aNil)) aNil)) [5] (tOf (eOp neD (eVar 0) (eVar 1))) (eVar 0)) aNil))) (eVar 4)))
  (sSeq (sIf (tOrr (tNo (tTru (eCB isiD (aCons (eVar 7) (aCons (eC (.ty "bool")) aNil))))) (tOf (eOp neD (eVar 7) (eVar 8)))) (sSeq (sRet (eC (.bl false)))
  sNil) sNil)
  sNil)))
theorem w_num {ks : List D} {rss : List (List Int)} {s i n : D} {k : Nat} {b6 b7 b8 b9 b10 b11 : Option D} {R : FD → SD → HD → Prop} (c : Cl ks rss) (hk : k < rss.length)
    (q : ∀ b7' b8' H', R .nx (sg s i n (claimD ks rss) (some (sideD (W ks rss ks.length []))) (some (.int k)) b6 b7' b8' b9 b10 b11) H') :
    wS (zNum (sg s i n (claimD ks rss) (some (sideD (W ks rss ks.length []))) (some (.int k)) b6 b7 b8 b9 b10 b11) H) R := by
  have hl := c.hl
  unfold zNum sg
  (repeat fail "go")
  refine w_needl c fun H1 x1 => ?_
  (repeat fail "go")
  rw [List.length_map]
  refine ⟨_, rfl, small_k hl, ?_⟩
  rw [Int.toNat_natCast, range_nums]
  refine w_cfilter (fun d => (fun t => !(t == k)) (natOf d)) (fun H2 => H2 = H1) (fun _ _ => own0) _ (fun d hd H2 e => ?_) H1 rfl fun H2 e => ?_
  · subst e
    obtain ⟨t, ht, rfl⟩ := List.mem_map.mp hd
    (repeat fail "go")
    refine ⟨?_, rfl⟩
    simp only [natOf, Int.toNat_natCast]
    by_cases e : t = k
    · subst e; simp
    · have e2 : ¬ (t : Int) = k := by omega
      rw [beq_false_of_ne e, beq_false_of_ne e2]
  · subst e
    have ef : (numsD (List.range rss.length)).filter (fun d => (fun t => !(t == k)) (natOf d)) = numsD (oth rss.length [k]) := by
      rw [← oth_one]
      exact nums_filter (List.range rss.length) fun t => !(t == k)
    rw [ef]
    have lo : (oth rss.length [k]).length ≤ 1000 := by
      unfold oth
      have := List.length_filter_le (fun i => ![k].contains i) (List.range rss.length)
      rw [List.length_range] at this
      omega
    refine w_sz (by unfold numsD; rw [List.length_map]; omega) ?_
    (repeat fail "go")
    refine w_wins c last oth_lt lo fun H3 x3 => ?_
    refine w_var (by with_unfolding_all rfl) ?_
    refine w_eqSd ?_
    (repeat fail "go")
    refine w_if ?_
    (repeat fail "go")
    refine w_neBl ?_
    (repeat fail "go")
    exact q _ _ _
variable {H : HD} {Q : D → HD → Prop}
noncomputable def zEnd : SF := (sSeq (sSet 8 (eCall 1 m_law_lean (aCons (eVar 3) aNil)))
  (sSeq (sFor (iR1 (aCons (eC (.int 2)) aNil)) (gNm 9) (sSeq (sSet 7 (eCall 1 m_lean (aCons (eVar 3) aNil)))
  (sSeq (sIf (tOrr (tNo (tTru (eCB isiD (aCons (eVar 7) (aCons (eC (.ty "list")) aNil))))) (tOf (eOp neD (eCB reprD (aCons (eVar 7) aNil)) (eCB reprD (aCons (eVar 8) aNil))))) (sSeq (sRet (eC (.bl false)))
  sNil) sNil)
  (sSeq (sExpr (eLM appendD (eVar 7) (aCons (eC (.int 99)) aNil)))
  sNil))))
  sNil))
theorem w_end54 {ks : List D} {rss : List (List Int)} {s i n : D} {b4 b5 b6 b7 b8 b9 b10 b11 : Option D} {R : FD → SD → HD → Prop} (c : Cl ks rss) (hl : rss.length ≤ 30) (hw : W ks rss ks.length [] = false)
    (q : ∀ b7' b8' b9' H', R .nx (sg s i n (claimD ks rss) b4 b5 b6 b7' b8' b9' b10 b11) H') :
    wS (zEnd (sg s i n (claimD ks rss) b4 b5 b6 b7 b8 b9 b10 b11) H) R := by
  have hin := lean_in (ks := ks) (rss := rss) rss.length (Nat.le_refl _)
  have lT := lean_len (ks := ks) (rss := rss) rss.length
  obtain ⟨t, ht⟩ := nums_show (ns := leanT ks rss rss.length) (fun k hk => by have := hin k hk; omega) (by omega)
  unfold zEnd sg
  (repeat fail "go")
  refine w_lawLean c fun p H1 g1 _ x1 => ?_
  (repeat fail "go")
  refine ⟨_, rfl, ⟨by decide, by decide⟩, ?_⟩
  refine w_eachR (fun σ H' => H'[p]? = some (.lst (numsD (leanT ks rss rss.length))) ∧ ∃ b7 b9 : Option D, σ = [some s, some i, some n, some (claimD ks rss), b4, b5, b6, b7, some (.ref p), b9, b10, b11]) (fun _ _ _ => own0) _ (fun x hx σ H' z R' hR => ?_) _ _ ⟨g1, _, _, rfl⟩ fun σ H' z => ?_
  · obtain ⟨g, b7, b9, rfl⟩ := z
    (repeat fail "go")
    refine w_lean c hw fun p2 H2 g2 l2 x2 => ?_
    have hp : p < H'.length := (List.getElem?_eq_some_iff.mp g).1
    have g3 := x2.lst (by simp) g
    (repeat fail "go")
    refine w_if ?_
    (repeat fail "go")
    refine w_isi' rfl (tyR g2) rfl ?_
    (repeat fail "go")
    refine ⟨_, _, ht H2 p2 g2, ?_⟩
    (repeat fail "go")
    refine ⟨_, _, ht H2 p g3, ?_⟩
    refine ⟨_, _, ne_same t H2, ?_⟩
    (repeat fail "go")
    refine ⟨isl g2, ?_⟩
    (repeat fail "go")
    refine w_app g2 (by simp [numsD]; omega) ?_
    (repeat fail "go")
    exact hR _ _ ⟨setO (by omega) g3, _, _, rfl⟩
  · obtain ⟨g, b7, b9, rfl⟩ := z
    (repeat fail "go")
    exact q _ _ _ _
theorem cl_more {ks : List D} {rss rl : List (List Int)} {k : Nat} (c : Cl ks rss) (h : ∀ ls ∈ rl, Up ks.length 0 ls) (hk : k ≤ 30) : Cl ks ((rss ++ rl).take k) := by
  refine ⟨c.hk, fun ls hl => ?_, by rw [List.length_take]; omega, c.h8⟩
  rcases List.mem_append.mp (List.mem_of_mem_take hl) with hl | hl
  · exact c.hu ls hl
  · exact h ls hl
noncomputable def zDraw : SF := (sIf (tOf (eOp eqD (eCall 2 m_law_take (aCons (eVar 2) (aCons (eC (.int 8)) aNil))) (eC (.int 0)))) (sSeq (sSet 3 (eCall 3 m_law_claim (aCons (eVar 2) (aCons (eC (.int 3)) (aCons (eC (.int 20)) aNil)))))
  (sSeq (sSet 6 (eLC (iR1 (aCons (eC (.int 24)) aNil)) [2, 3] tYes (eCall 2 m_law_row (aCons (eVar 1) (aCons (eCB lenD (aCons (eOp ixD (eVar 2) (eC (.int 0))) aNil)) aNil)))))
  (sSeq (sSet 3 (eTup (aCons (eOp ixD (eVar 3) (eC (.int 0))) (aCons (eSl (eOp addD (eOp ixD (eVar 3) (eC (.int 1))) (eCB tupleD (aCons (eVar 6) aNil))) oNone (oSome (eOp addD (eC (.int 20)) (eCall 2 m_law_take (aCons (eVar 2) (aCons (eC (.int 5)) aNil)))))) aNil))))
  sNil))) (sSeq (sIf (tOf (eOp eqD (eCall 2 m_law_take (aCons (eVar 2) (aCons (eC (.int 8)) aNil))) (eC (.int 0)))) (sSeq (sAsg (eOp ixD (eLst (aCons (eTup (aCons (eC (.int 8)) (aCons (eC (.int 3)) aNil))) (aCons (eTup (aCons (eC (.int 6)) (aCons (eC (.int 8)) aNil))) aNil))) (eCall 2 m_law_take (aCons (eVar 2) (aCons (eC (.int 2)) aNil)))) (gTp 2 (gCn (gNm 10) (gCn (gNm 11) gNl))))
  (sSeq (sSet 3 (eCall 3 m_law_claim (aCons (eVar 2) (aCons (eVar 10) (aCons (eVar 11) aNil)))))
  sNil)) sNil)
  sNil))
theorem w_draw {ks : List D} {rss : List (List Int)} {s i : D} {n : Nat} {b4 b5 b6 b7 b8 b9 b10 b11 : Option D} {R : FD → SD → HD → Prop} (f : FeedAt n H) (c : Cl ks rss) (hl : rss.length ≤ 30)
    (q : ∀ ks' rss' b6' b10' b11' H', Cl ks' rss' → rss'.length ≤ 30 → R .nx (sg s i (.ref n) (claimD ks' rss') b4 b5 b6' b7 b8 b9 b10' b11') H') :
    wS (zDraw (sg s i (.ref n) (claimD ks rss) b4 b5 b6 b7 b8 b9 b10 b11) H) R := by
  unfold zDraw sg
  refine w_if ?_
  (repeat fail "go")
  refine w_take f (by omega) (by omega) fun r H1 r0 r1 f1 x1 => ?_
  (repeat fail "go")
  refine ⟨fun h => ?_, fun h => ?_⟩
  · (repeat fail "go")
    refine w_claim f1 (by omega) (by omega) fun ks2 rs2 H2 c2 l1 l2 f2 x2 => ?_
    (repeat fail "go")
    refine ⟨_, rfl, ⟨by decide, by decide⟩, ?_⟩
    refine w_rows24 f2 c2 fun rl H3 hu h24 f3 x3 => ?_
    refine w_sz (by rw [List.length_map]; omega) ?_
    (repeat fail "go")
    have f4 : FeedAt n (H3 ++ [DO.lst (rl.map rowD)]) := f3.fm (.app (S := []) _) (by simp)
    refine w_take f4 (by omega) (by omega) fun r2 H4 r20 r21 f5 x5 => ?_
    (repeat fail "go")
    rw [show (20 + r2 : Int) = ((20 + r2.toNat : Nat) : Int) by omega]
    refine w_slhi ?_
    (repeat fail "go")
    rw [← List.map_append, ← List.map_take]
    exact q ks2 ((rs2 ++ rl).take (20 + r2.toNat)) _ _ _ _ (cl_more c2 hu (by omega)) (by rw [List.length_take]; omega)
  · refine w_seq (w_if ?_)
    (repeat fail "go")
    refine w_take f1 (by omega) (by omega) fun r2 H2 r20 r21 f2 x2 => ?_
    (repeat fail "go")
    refine ⟨fun h => ?_, fun h => ?_⟩
    · (repeat fail "go")
      have f3 : FeedAt n (H2 ++ [DO.lst [.tup [.int 8, .int 3], .tup [.int 6, .int 8]]]) := f2.fm (.app (S := []) _) (by simp)
      refine w_take f3 (by omega) (by omega) fun r3 H3 r30 r31 f4 x4 => ?_
      have g4 : H3[H2.length]? = some (.lst [.tup [.int 8, .int 3], .tup [.int 6, .int 8]]) := x4.lst (by
        obtain ⟨a, b, e⟩ := f2
        have := (List.getElem?_eq_some_iff.mp e).1
        simp; omega) last
      obtain rfl | rfl : r3 = 0 ∨ r3 = 1 := by omega
      · refine w_ixR g4 (atI_nat (j := 0) rfl) ?_
        (repeat fail "go")
        refine w_claim f4 (by omega) (by omega) fun ks2 rs2 H5 c2 l1 l2 f5 x5 => ?_
        (repeat fail "go")
        exact q _ _ _ _ _ _ c2 (by omega)
      · refine w_ixR g4 (atI_nat (j := 1) rfl) ?_
        (repeat fail "go")
        refine w_claim f4 (by omega) (by omega) fun ks2 rs2 H5 c2 l1 l2 f5 x5 => ?_
        (repeat fail "go")
        exact q _ _ _ _ _ _ c2 (by omega)
    · (repeat fail "go")
      exact q _ _ _ _ _ _ c hl
theorem pure_law : ∀ ns : List Int, ns.length ≤ 63 → ∃ Hd', m_law [.fl (ns.map .int)] [] = some (.bl true, Hd') := by
  intro ns hn
  suffices h : wE (m_law [.fl (ns.map .int)] []) fun d _ => d = .bl true by
    obtain ⟨d, H, e, rfl⟩ := h; exact ⟨H, e⟩
  refine w_run rfl ?_
  show wS (b_law [some (.fl (ns.map .int)), none, none, none, none, none, none, none, none, none, none, none] []) _
  unfold b_law
  (repeat fail "go")
  refine ⟨_, _, rfl, ⟨by decide, by decide⟩, ?_, ?_⟩
  · simp only [smallI, List.length_map]; split <;> (try split) <;> omega
  refine w_eachR (fun σ _ => ∃ b1 b2 b3 b4 b5 b6 b7 b8 b9 b10 b11 : Option D, σ = [some (.fl (ns.map .int)), b1, b2, b3, b4, b5, b6, b7, b8, b9, b10, b11]) (fun _ _ _ => own0) _ (fun x hx σ H z R' hR => ?_) _ _ ⟨_, _, _, _, _, _, _, _, _, _, _, rfl⟩ fun σ H z => ?_
  · obtain ⟨b1, b2, b3, b4, b5, b6, b7, b8, b9, b10, b11, e⟩ := z
    obtain ⟨i, rfl, i0, i1⟩ : ∃ i : Int, x = .int i ∧ 0 ≤ i ∧ i < 3 := by
      simp only [rangeL, List.mem_map, List.mem_range] at hx
      obtain ⟨j, hj, rfl⟩ := hx
      refine ⟨_, rfl, by omega, ?_⟩
      simp only [List.length_map] at hj
      split at hj <;> (try split at hj) <;> omega
    clear hx
    subst e
    (repeat fail "go")
    refine w_feed (by omega) (by omega) fun n H1 f1 _ x1 => ?_
    (repeat fail "go")
    refine w_claim f1 (by omega) (by omega) fun ks0 rs0 H2 c0 l1 l2 f2 x2 => ?_
    refine w_kn (w_seq ?_)
    refine w_draw (s := .fl (ns.map .int)) (i := .int i) f2 c0 (by omega) fun ks rss b6 b10 b11 H3 c hl => ?_
    unfold sg
    (repeat fail "go")
    refine w_lr1 ?_
    (repeat fail "go")
    rw [List.length_map]
    refine ⟨_, rfl, small_k c.hl, by omega, ?_⟩
    rw [Int.toNat_natCast, range_nums]
    (repeat fail "go")
    refine w_wins c last (fun k hk => List.mem_range.mp hk) (by simp; omega) fun H4 x4 => ?_
    rw [rows_all]
    (repeat fail "go")
    rw [List.length_map]
    refine ⟨_, rfl, small_k c.hl, ?_⟩
    rw [Int.toNat_natCast, range_nums]
    refine w_eachR (fun σ _ => ∃ b5 b7 b8 : Option D, σ = [some (.fl (ns.map .int)), some (.int i), some (.ref n), some (claimD ks rss), some (sideD (W ks rss ks.length [])), b5, b6, b7, b8, b9, b10, b11]) (fun _ _ _ => own0) _ (fun x hx σ H z R2 hR2 => ?_) _ _ ⟨_, _, _, rfl⟩ fun σ H z => ?_
    · obtain ⟨b5, b7, b8, e⟩ := z
      subst e
      obtain ⟨k, hk, rfl⟩ := List.mem_map.mp hx
      clear hx
      refine w_gnm ?_
      show wS (zNum (sg (.fl (ns.map .int)) (.int i) (.ref n) (claimD ks rss) (some (sideD (W ks rss ks.length []))) (some (.int k)) b6 b7 b8 b9 b10 b11) H) _
      refine w_num c (List.mem_range.mp hk) fun y7 y8 H' => ?_
      exact hR2 _ _ ⟨_, _, _, rfl⟩
    · obtain ⟨b5, b7, b8, e⟩ := z
      subst e
      refine w_kn (w_seq ?_)
      refine w_if ?_
      (repeat fail "go")
      refine w_eqSome ?_
      refine w_bl ?_
      cases hw : W ks rss ks.length [] with
      | true =>
        (repeat fail "go")
        refine w_if ?_
        (repeat fail "go")
        refine w_refused c hw fun H5 x5 => ?_
        (repeat fail "go")
        exact hR _ _ ⟨_, _, _, _, _, _, _, _, _, _, _, rfl⟩
      | false =>
        refine w_bf ?_
        show wS (zEnd (sg (.fl (ns.map .int)) (.int i) (.ref n) (claimD ks rss) (some (sideD false)) b5 b6 b7 b8 b9 b10 b11) H) _
        refine w_end54 c hl hw fun y7 y8 y9 H' => ?_
        (repeat fail "go")
        exact hR _ _ ⟨_, _, _, _, _, _, _, _, _, _, _, rfl⟩
  · obtain ⟨b1, b2, b3, b4, b5, b6, b7, b8, b9, b10, b11, e⟩ := z
    subst e
    (repeat fail "go")
    rfl
end K08
set_option maxHeartbeats 8000000
namespace K08
open PySem PySem.Spec PyProof.Rows L2 DL
noncomputable def top (i : Nat) : Stmt := PySem.Challenge.pw_allsome_k54_rows_needless_and_lean.main.body.getD i (.Pass ⟨0, 0, 0, 0⟩)
noncomputable abbrev s_plays_with_yes : Stmt := top 11
theorem sc_plays_with_yes : FnScope ["many", "name", "told", "number"] ["many", "name"] (defScope s_plays_with_yes) := ⟨rfl, rfl, rfl, by decide +kernel, rfl, by decide +kernel, by decide +kernel⟩
noncomputable abbrev s_lost_plays : Stmt := top 12
theorem sc_lost_plays : FnScope ["claim", "many", "every", "wrong", "name", "told", "row", "lost", "literal"] ["claim"] (defScope s_lost_plays) := ⟨rfl, rfl, rfl, by decide +kernel, rfl, by decide +kernel, by decide +kernel⟩
noncomputable abbrev s_all_wins : Stmt := top 13
theorem sc_all_wins : FnScope ["kinds", "lost", "many", "half", "no", "yes"] ["kinds", "lost"] (defScope s_all_wins) := ⟨rfl, rfl, rfl, by decide +kernel, rfl, by decide +kernel, by decide +kernel⟩
noncomputable abbrev s_all_wins_by : Stmt := top 14
theorem sc_all_wins_by : FnScope ["kinds", "lost", "numbers", "together", "number"] ["kinds", "lost", "numbers"] (defScope s_all_wins_by) := ⟨rfl, rfl, rfl, by decide +kernel, rfl, by decide +kernel, by decide +kernel⟩
noncomputable abbrev s_others : Stmt := top 15
theorem sc_others : FnScope ["many", "numbers"] ["many", "numbers"] (defScope s_others) := ⟨rfl, rfl, rfl, by decide +kernel, rfl, by decide +kernel, by decide +kernel⟩
noncomputable abbrev s_is_needless : Stmt := top 16
theorem sc_is_needless : FnScope ["claim", "k", "lost", "many"] ["claim", "k"] (defScope s_is_needless) := ⟨rfl, rfl, rfl, by decide +kernel, rfl, by decide +kernel, by decide +kernel⟩
noncomputable abbrev s_refuse_not_won : Stmt := top 17
theorem sc_refuse_not_won : FnScope ["kinds", "lost"] ["kinds", "lost"] (defScope s_refuse_not_won) := ⟨rfl, rfl, rfl, by decide +kernel, rfl, by decide +kernel, by decide +kernel⟩
noncomputable abbrev s_lost_ahead : Stmt := top 18
theorem sc_lost_ahead : FnScope ["lost", "told", "ahead", "plays"] ["lost"] (defScope s_lost_ahead) := ⟨rfl, rfl, rfl, by decide +kernel, rfl, by decide +kernel, by decide +kernel⟩
noncomputable abbrev s_lean : Stmt := top 19
theorem sc_lean : FnScope ["claim", "lost", "ahead", "told", "stay", "number"] ["claim"] (defScope s_lean) := ⟨rfl, rfl, rfl, by decide +kernel, rfl, by decide +kernel, by decide +kernel⟩
noncomputable abbrev s_law_feed : Stmt := top 21
theorem sc_law_feed : FnScope ["script", "k", "cell", "digits", "start"] ["script", "k"] (defScope s_law_feed) := ⟨rfl, rfl, rfl, by decide +kernel, rfl, by decide +kernel, by decide +kernel⟩
noncomputable abbrev s_law_take : Stmt := top 22
theorem sc_law_take : FnScope ["feed", "many", "found"] ["feed", "many"] (defScope s_law_take) := ⟨rfl, rfl, rfl, by decide +kernel, rfl, by decide +kernel, by decide +kernel⟩
noncomputable abbrev s_law_pick : Stmt := top 23
theorem sc_law_pick : FnScope ["feed", "some"] ["feed", "some"] (defScope s_law_pick) := ⟨rfl, rfl, rfl, by decide +kernel, rfl, by decide +kernel, by decide +kernel⟩
noncomputable abbrev s_law_row : Stmt := top 25
theorem sc_law_row : FnScope ["feed", "many", "sizes", "size", "names", "found", "turn"] ["feed", "many"] (defScope s_law_row) := ⟨rfl, rfl, rfl, by decide +kernel, rfl, by decide +kernel, by decide +kernel⟩
noncomputable abbrev s_law_claim : Stmt := top 26
theorem sc_law_claim : FnScope ["feed", "most", "rows", "many", "way", "kinds", "size", "found"] ["feed", "most", "rows"] (defScope s_law_claim) := ⟨rfl, rfl, rfl, by decide +kernel, rfl, by decide +kernel, by decide +kernel⟩
noncomputable abbrev s_law_kept : Stmt := top 27
theorem sc_law_kept : FnScope ["row", "play", "literal"] ["row", "play"] (defScope s_law_kept) := ⟨rfl, rfl, rfl, by decide +kernel, rfl, by decide +kernel, by decide +kernel⟩
noncomputable abbrev s_law_plays : Stmt := top 28
theorem sc_law_plays : FnScope ["many", "found", "turn", "plays", "some", "longer", "play"] ["many"] (defScope s_law_plays) := ⟨rfl, rfl, rfl, by decide +kernel, rfl, by decide +kernel, by decide +kernel⟩
noncomputable abbrev s_law_winners : Stmt := top 29
theorem sc_law_winners : FnScope ["claim", "found", "play", "side", "two"] ["claim"] (defScope s_law_winners) := ⟨rfl, rfl, rfl, by decide +kernel, rfl, by decide +kernel, by decide +kernel⟩
noncomputable abbrev s_law_wins : Stmt := top 30
theorem sc_law_wins : FnScope ["claim", "numbers"] ["claim", "numbers"] (defScope s_law_wins) := ⟨rfl, rfl, rfl, by decide +kernel, rfl, by decide +kernel, by decide +kernel⟩
noncomputable abbrev s_law_lean : Stmt := top 31
theorem sc_law_lean : FnScope ["claim", "stay", "k", "rest"] ["claim"] (defScope s_law_lean) := ⟨rfl, rfl, rfl, by decide +kernel, rfl, by decide +kernel, by decide +kernel⟩
noncomputable abbrev s_law_refused : Stmt := top 32
theorem sc_law_refused : FnScope ["claim", "word", "e", "others_v"] ["claim"] (defScope s_law_refused) := ⟨rfl, rfl, rfl, by decide +kernel, rfl, by decide +kernel, by decide +kernel⟩
noncomputable abbrev s_law : Stmt := top 33
theorem sc_law : FnScope ["script", "k", "feed", "claim", "side", "number", "rows", "found", "due", "turn", "names", "most"] ["script"] (defScope s_law) := ⟨rfl, rfl, rfl, by decide +kernel, rfl, by decide +kernel, by decide +kernel⟩
structure Top (K : PySem.W.Frag) (mg : Str → Option Value) : Prop where
  t_plays_with_yes : Tf K mg "plays_with_yes" s_plays_with_yes
  t_lost_plays : Tf K mg "lost_plays" s_lost_plays
  t_all_wins : Tf K mg "all_wins" s_all_wins
  t_all_wins_by : Tf K mg "all_wins_by" s_all_wins_by
  t_others : Tf K mg "others" s_others
  t_is_needless : Tf K mg "is_needless" s_is_needless
  t_refuse_not_won : Tf K mg "refuse_not_won" s_refuse_not_won
  t_lost_ahead : Tf K mg "lost_ahead" s_lost_ahead
  t_lean : Tf K mg "lean" s_lean
  t_law_feed : Tf K mg "_law_feed" s_law_feed
  t_law_take : Tf K mg "_law_take" s_law_take
  t_law_pick : Tf K mg "_law_pick" s_law_pick
  t_law_row : Tf K mg "_law_row" s_law_row
  t_law_claim : Tf K mg "_law_claim" s_law_claim
  t_law_kept : Tf K mg "_law_kept" s_law_kept
  t_law_plays : Tf K mg "_law_plays" s_law_plays
  t_law_winners : Tf K mg "_law_winners" s_law_winners
  t_law_wins : Tf K mg "_law_wins" s_law_wins
  t_law_lean : Tf K mg "_law_lean" s_law_lean
  t_law_refused : Tf K mg "_law_refused" s_law_refused
  t_law : Tf K mg "law" s_law
  n_ValueError : mg "ValueError" = none
  n_abs : mg "abs" = none
  n_bool : mg "bool" = none
  n_int : mg "int" = none
  n_isinstance : mg "isinstance" = none
  n_len : mg "len" = none
  n_list : mg "list" = none
  n_max : mg "max" = none
  n_min : mg "min" = none
  n_range : mg "range" = none
  n_repr : mg "repr" = none
  n_reversed : mg "reversed" = none
  n_sorted : mg "sorted" = none
  n_tuple : mg "tuple" = none
  r_NotWon : ∃ C cV c0 c1 c2 c3 c4 c5 c6, Refu K mg "NotWon" "ClaimError" C cV [c0, c1, c2, c3, c4, c5, c6] ∧ mg "NoBack" = some (.ref c0) ∧ mg "NoLine" = some (.ref c1) ∧ mg "NoPick" = some (.ref c2) ∧ mg "NoRow" = some (.ref c3) ∧ mg "NoStep" = some (.ref c4) ∧ mg "NoText" = some (.ref c5) ∧ mg "TooMany" = some (.ref c6)
section
variable {P : Program} {w : World} {K : PySem.W.Frag} {mg : Str → Option Value} {base : Heap}
theorem ok_plays_with_yes (T : Top K mg) : Fn P w K mg base 1 "plays_with_yes" ["many", "name"] m_plays_with_yes := by
  refine (fun h => h : _ → Fn P w K mg base 1 "plays_with_yes" ["many", "name"] (runB 2 4 b_plays_with_yes)) (fn_mk (N := ["many", "name", "told", "number"]) (k := 0) T.t_plays_with_yes sc_plays_with_yes (fun _ _ _ _ _ _ us hl => by obtain ⟨_, _, rfl⟩ := us2 hl; rfl) ?_)
  intro f cdv A outer s H E hr
  unfold b_plays_with_yes
  refine pssf_cons ?_ ?_
  refine psf_set (i := 2) ?_ ?_ ?_ pef_int
  exact sc_plays_with_yes.nd
  rfl
  first | exact Or.inl rfl | exact Or.inr rfl
  refine pssf_cons ?_ ?_
  refine psf_for PassesOwn.never ?_ ?_ ?_ ?_
  rfl
  refine pif_range1 ?_ T.n_range ?_
  rfl
  refine paf_c ?_ ?_ ?_
  exact pef_op opf_shl pef_int (pef_var (pv 0))
  exact paf_nil
  rfl
  refine pgf_name (i := 3) ?_ ?_ ?_
  exact sc_plays_with_yes.nd
  rfl
  first | exact Or.inl rfl | exact Or.inr rfl
  refine pssf_cons ?_ pssf_nil
  refine psf_if ?_ ?_ pssf_nil
  refine ptf_truth ?_ (fun _ => rfl)
  refine pef_op opf_band ?_ pef_int
  refine pef_op opf_shr (pef_var (pv 3)) ?_
  exact pef_op opf_sub (pef_var (pv 1)) pef_int
  refine pssf_cons ?_ pssf_nil
  refine psf_aug (i := 2) ip_or ?_ ?_ ?_ ?_
  exact sc_plays_with_yes.nd
  rfl
  first | exact Or.inl rfl | exact Or.inr rfl
  exact pef_op opf_shl pef_int (pef_var (pv 3))
  refine pssf_cons ?_ pssf_nil
  exact psf_ret (pef_var (pv 2))
theorem ok_lost_plays (T : Top K mg) (F_plays_with_yes : Fn P w K mg base 1 "plays_with_yes" ["many", "name"] m_plays_with_yes) : Fn P w K mg base 2 "lost_plays" ["claim"] m_lost_plays := by
  refine (fun h => h : _ → Fn P w K mg base 2 "lost_plays" ["claim"] (runB 1 9 b_lost_plays)) (fn_mk (N := ["claim", "many", "every", "wrong", "name", "told", "row", "lost", "literal"]) (k := 1) T.t_lost_plays sc_lost_plays (fun _ _ _ _ _ _ us hl => by obtain ⟨_, rfl⟩ := us1 hl; rfl) ?_)
  intro f cdv A outer s H E hr
  unfold b_lost_plays
  refine pssf_cons ?_ ?_
  refine psf_set (i := 1) ?_ ?_ ?_ ?_
  exact sc_lost_plays.nd
  rfl
  first | exact Or.inl rfl | exact Or.inr rfl
  refine pef_callB callf_len ?_ T.n_len bb_len ?_
  rfl
  refine paf_c ?_ ?_ ?_
  exact pef_ix ixf (pef_var (pv 0)) pef_int (fun _ _ => rfl)
  exact paf_nil
  rfl
  refine pssf_cons ?_ ?_
  refine psf_set (i := 2) ?_ ?_ ?_ ?_
  exact sc_lost_plays.nd
  rfl
  first | exact Or.inl rfl | exact Or.inr rfl
  refine pef_op opf_sub ?_ pef_int
  refine pef_op opf_shl pef_int ?_
  exact pef_op opf_shl pef_int (pef_var (pv 1))
  refine pssf_cons ?_ ?_
  refine psf_set (i := 3) ?_ ?_ ?_ pef_dnewI
  exact sc_lost_plays.nd
  rfl
  first | exact Or.inl rfl | exact Or.inr rfl
  refine pssf_cons ?_ ?_
  refine psf_for PassesOwn.never ?_ ?_ ?_ ?_
  rfl
  refine pif_range2 ?_ T.n_range ?_
  rfl
  refine paf_c ?_ ?_ ?_
  exact pef_int
  refine paf_c ?_ ?_ ?_
  exact pef_op opf_add (pef_var (pv 1)) pef_int
  exact paf_nil
  rfl
  rfl
  refine pgf_name (i := 4) ?_ ?_ ?_
  exact sc_lost_plays.nd
  rfl
  first | exact Or.inl rfl | exact Or.inr rfl
  refine pssf_cons ?_ ?_
  refine psf_asg ?_ ?_
  refine pef_fn F_plays_with_yes (hr.mono (by decide)) ?_ ?_
  rfl
  refine paf_c ?_ ?_ ?_
  exact (pef_var (pv 1))
  refine paf_c ?_ ?_ ?_
  exact (pef_var (pv 4))
  exact paf_nil
  rfl
  rfl
  refine pgf_sub (pef_var (pv 3)) ?_ isetf
  exact pef_un unf_neg (pef_var (pv 4))
  refine pssf_cons ?_ pssf_nil
  refine psf_asg ?_ ?_
  refine pef_op opf_bxor (pef_var (pv 2)) ?_
  refine pef_ix igetf (pef_var (pv 3)) ?_ (fun _ _ => rfl)
  exact pef_un unf_neg (pef_var (pv 4))
  exact pgf_sub (pef_var (pv 3)) (pef_var (pv 4)) isetf
  refine pssf_cons ?_ ?_
  refine psf_set (i := 5) ?_ ?_ ?_ ?_
  exact sc_lost_plays.nd
  rfl
  first | exact Or.inl rfl | exact Or.inr rfl
  exact pef_lst paf_nil
  refine pssf_cons ?_ ?_
  refine psf_for PassesOwn.never ?_ ?_ ?_ ?_
  rfl
  refine pif_seq ?_
  exact pef_ix ixf (pef_var (pv 0)) pef_int (fun _ _ => rfl)
  refine pgf_name (i := 6) ?_ ?_ ?_
  exact sc_lost_plays.nd
  rfl
  first | exact Or.inl rfl | exact Or.inr rfl
  refine pssf_cons ?_ ?_
  refine psf_set (i := 7) ?_ ?_ ?_ (pef_var (pv 2))
  exact sc_lost_plays.nd
  rfl
  first | exact Or.inl rfl | exact Or.inr rfl
  refine pssf_cons ?_ ?_
  refine psf_for PassesOwn.never ?_ ?_ ?_ ?_
  rfl
  exact pif_seq (pef_var (pv 6))
  refine pgf_name (i := 8) ?_ ?_ ?_
  exact sc_lost_plays.nd
  rfl
  first | exact Or.inl rfl | exact Or.inr rfl
  refine pssf_cons ?_ pssf_nil
  refine psf_aug (i := 7) ip_and ?_ ?_ ?_ ?_
  exact sc_lost_plays.nd
  rfl
  first | exact Or.inl rfl | exact Or.inr rfl
  exact pef_ix igetf (pef_var (pv 3)) (pef_var (pv 8)) (fun _ _ => rfl)
  refine pssf_cons ?_ pssf_nil
  refine psf_expr ?_
  refine pef_lm PySem.F.slot_list_append PySem.F.type_list_append mtf_append (pef_var (pv 5)) ?_
  refine paf_c ?_ ?_ ?_
  exact (pef_var (pv 7))
  exact paf_nil
  rfl
  refine pssf_cons ?_ pssf_nil
  exact psf_ret (pef_var (pv 5))
theorem ok_all_wins (T : Top K mg) : Fn P w K mg base 1 "all_wins" ["kinds", "lost"] m_all_wins := by
  refine (fun h => h : _ → Fn P w K mg base 1 "all_wins" ["kinds", "lost"] (runB 2 6 b_all_wins)) (fn_mk (N := ["kinds", "lost", "many", "half", "no", "yes"]) (k := 0) T.t_all_wins sc_all_wins (fun _ _ _ _ _ _ us hl => by obtain ⟨_, _, rfl⟩ := us2 hl; rfl) ?_)
  intro f cdv A outer s H E hr
  unfold b_all_wins
  refine pssf_cons ?_ ?_
  refine psf_for PassesOwn.never ?_ ?_ ?_ ?_
  rfl
  refine pif_rangeB ?_ T.n_range ?_
  rfl
  refine paf_c ?_ ?_ ?_
  refine pef_op opf_sub ?_ pef_int
  refine pef_callB callf_len ?_ T.n_len bb_len ?_
  rfl
  refine paf_c ?_ ?_ ?_
  exact (pef_var (pv 0))
  exact paf_nil
  rfl
  refine paf_c ?_ ?_ ?_
  exact pef_un unf_neg pef_int
  refine paf_c ?_ ?_ ?_
  exact pef_un unf_neg pef_int
  exact paf_nil
  rfl
  rfl
  rfl
  refine pgf_name (i := 2) ?_ ?_ ?_
  exact sc_all_wins.nd
  rfl
  first | exact Or.inl rfl | exact Or.inr rfl
  refine pssf_cons ?_ ?_
  refine psf_set (i := 3) ?_ ?_ ?_ ?_
  exact sc_all_wins.nd
  rfl
  first | exact Or.inl rfl | exact Or.inr rfl
  exact pef_op opf_shl pef_int (pef_var (pv 2))
  refine pssf_cons ?_ ?_
  refine psf_set (i := 4) ?_ ?_ ?_ ?_
  exact sc_all_wins.nd
  rfl
  first | exact Or.inl rfl | exact Or.inr rfl
  refine pef_op opf_band (pef_var (pv 1)) ?_
  refine pef_op opf_sub ?_ pef_int
  exact pef_op opf_shl pef_int (pef_var (pv 3))
  refine pssf_cons ?_ ?_
  refine psf_set (i := 5) ?_ ?_ ?_ ?_
  exact sc_all_wins.nd
  rfl
  first | exact Or.inl rfl | exact Or.inr rfl
  exact pef_op opf_shr (pef_var (pv 1)) (pef_var (pv 3))
  refine pssf_cons ?_ pssf_nil
  refine psf_set (i := 1) ?_ ?_ ?_ ?_
  exact sc_all_wins.nd
  rfl
  first | exact Or.inl rfl | exact Or.inr rfl
  refine pef_if ?_ ?_ ?_
  refine ptf_cmp (opf_eq hr.units) ?_ pef_str (nomark _)
  exact pef_ix ixf (pef_var (pv 0)) (pef_var (pv 2)) (fun _ _ => rfl)
  exact pef_op opf_bor (pef_var (pv 4)) (pef_var (pv 5))
  exact pef_op opf_band (pef_var (pv 4)) (pef_var (pv 5))
  refine pssf_cons ?_ pssf_nil
  refine psf_ret ?_
  exact pef_cmp (opf_eq hr.units) (pef_var (pv 1)) pef_int (nomark _)
theorem ok_all_wins_by (T : Top K mg) (F_all_wins : Fn P w K mg base 1 "all_wins" ["kinds", "lost"] m_all_wins) : Fn P w K mg base 2 "all_wins_by" ["kinds", "lost", "numbers"] m_all_wins_by := by
  refine (fun h => h : _ → Fn P w K mg base 2 "all_wins_by" ["kinds", "lost", "numbers"] (runB 3 5 b_all_wins_by)) (fn_mk (N := ["kinds", "lost", "numbers", "together", "number"]) (k := 1) T.t_all_wins_by sc_all_wins_by (fun _ _ _ _ _ _ us hl => by obtain ⟨_, _, _, rfl⟩ := us3 hl; rfl) ?_)
  intro f cdv A outer s H E hr
  unfold b_all_wins_by
  refine pssf_cons ?_ ?_
  refine psf_set (i := 3) ?_ ?_ ?_ pef_int
  exact sc_all_wins_by.nd
  rfl
  first | exact Or.inl rfl | exact Or.inr rfl
  refine pssf_cons ?_ ?_
  refine psf_for PassesOwn.never ?_ ?_ ?_ ?_
  rfl
  exact pif_seq (pef_var (pv 2))
  refine pgf_name (i := 4) ?_ ?_ ?_
  exact sc_all_wins_by.nd
  rfl
  first | exact Or.inl rfl | exact Or.inr rfl
  refine pssf_cons ?_ pssf_nil
  refine psf_aug (i := 3) ip_or ?_ ?_ ?_ ?_
  exact sc_all_wins_by.nd
  rfl
  first | exact Or.inl rfl | exact Or.inr rfl
  exact pef_ix ixf (pef_var (pv 1)) (pef_var (pv 4)) (fun _ _ => rfl)
  refine pssf_cons ?_ pssf_nil
  refine psf_ret ?_
  refine pef_fn F_all_wins (hr.mono (by decide)) ?_ ?_
  rfl
  refine paf_c ?_ ?_ ?_
  exact (pef_var (pv 0))
  refine paf_c ?_ ?_ ?_
  exact (pef_var (pv 3))
  exact paf_nil
  rfl
  rfl
theorem ok_others (T : Top K mg) : Fn P w K mg base 1 "others" ["many", "numbers"] m_others := by
  refine (fun h => h : _ → Fn P w K mg base 1 "others" ["many", "numbers"] (runB 2 2 b_others)) (fn_mk (N := ["many", "numbers"]) (k := 0) T.t_others sc_others (fun _ _ _ _ _ _ us hl => by obtain ⟨_, _, rfl⟩ := us2 hl; rfl) ?_)
  intro f cdv A outer s H E hr
  unfold b_others
  refine pssf_cons ?_ pssf_nil
  refine psf_ret ?_
  refine pef_callTy callf_tuple ?_ T.n_tuple bb_tuple ?_
  rfl
  refine paf_c ?_ ?_ ?_
  refine pef_lc (cn := ["numbers"]) ?_ (blk_fn (x := "number") (cn := ["numbers"]) (ci := [1]) (by decide +kernel)) ?_ ?_ ?_
  rfl
  refine pif_range1 ?_ T.n_range ?_
  rfl
  refine paf_c ?_ ?_ ?_
  exact (pef_var (pv 0))
  exact paf_nil
  rfl
  intro _ _ _ _ _ _
  refine ptsf_one ?_
  refine ptf_cmp (opf_ni hr.units) (pef_var (pv 0)) (pef_var (pv 1)) ?_
  with_unfolding_all rfl
  intro _ _ _ _ _ _
  exact (pef_var (pv 0))
  exact paf_nil
  rfl
theorem ok_is_needless (T : Top K mg) (F_all_wins_by : Fn P w K mg base 2 "all_wins_by" ["kinds", "lost", "numbers"] m_all_wins_by) (F_others : Fn P w K mg base 1 "others" ["many", "numbers"] m_others) (F_lost_plays : Fn P w K mg base 2 "lost_plays" ["claim"] m_lost_plays) : Fn P w K mg base 3 "is_needless" ["claim", "k"] m_is_needless := by
  refine (fun h => h : _ → Fn P w K mg base 3 "is_needless" ["claim", "k"] (runB 2 4 b_is_needless)) (fn_mk (N := ["claim", "k", "lost", "many"]) (k := 2) T.t_is_needless sc_is_needless (fun _ _ _ _ _ _ us hl => by obtain ⟨_, _, rfl⟩ := us2 hl; rfl) ?_)
  intro f cdv A outer s H E hr
  unfold b_is_needless
  refine pssf_cons ?_ ?_
  refine psf_set (i := 2) ?_ ?_ ?_ ?_
  exact sc_is_needless.nd
  rfl
  first | exact Or.inl rfl | exact Or.inr rfl
  refine pef_fn F_lost_plays (hr.mono (by decide)) ?_ ?_
  rfl
  refine paf_c ?_ ?_ ?_
  exact (pef_var (pv 0))
  exact paf_nil
  rfl
  refine pssf_cons ?_ ?_
  refine psf_set (i := 3) ?_ ?_ ?_ ?_
  exact sc_is_needless.nd
  rfl
  first | exact Or.inl rfl | exact Or.inr rfl
  refine pef_callB callf_len ?_ T.n_len bb_len ?_
  rfl
  refine paf_c ?_ ?_ ?_
  exact (pef_var (pv 2))
  exact paf_nil
  rfl
  refine pssf_cons ?_ pssf_nil
  refine psf_ret ?_
  refine pef_cmp (opf_eq hr.units) ?_ ?_ (nomark _)
  refine pef_fn F_all_wins_by (hr.mono (by decide)) ?_ ?_
  rfl
  refine paf_c ?_ ?_ ?_
  exact pef_ix ixf (pef_var (pv 0)) pef_int (fun _ _ => rfl)
  refine paf_c ?_ ?_ ?_
  exact (pef_var (pv 2))
  refine paf_c ?_ ?_ ?_
  refine pef_fn F_others (hr.mono (by decide)) ?_ ?_
  rfl
  refine paf_c ?_ ?_ ?_
  exact (pef_var (pv 3))
  refine paf_c ?_ ?_ ?_
  refine pef_tup ?_
  refine paf_c ?_ ?_ ?_
  exact (pef_var (pv 1))
  exact paf_nil
  rfl
  exact paf_nil
  rfl
  rfl
  exact paf_nil
  rfl
  rfl
  rfl
  refine pef_fn F_all_wins_by (hr.mono (by decide)) ?_ ?_
  rfl
  refine paf_c ?_ ?_ ?_
  exact pef_ix ixf (pef_var (pv 0)) pef_int (fun _ _ => rfl)
  refine paf_c ?_ ?_ ?_
  exact (pef_var (pv 2))
  refine paf_c ?_ ?_ ?_
  refine pef_fn F_others (hr.mono (by decide)) ?_ ?_
  rfl
  refine paf_c ?_ ?_ ?_
  exact (pef_var (pv 3))
  refine paf_c ?_ ?_ ?_
  exact pef_tup paf_nil
  exact paf_nil
  rfl
  rfl
  exact paf_nil
  rfl
  rfl
  rfl
theorem ok_refuse_not_won (T : Top K mg) (F_all_wins_by : Fn P w K mg base 2 "all_wins_by" ["kinds", "lost", "numbers"] m_all_wins_by) (F_others : Fn P w K mg base 1 "others" ["many", "numbers"] m_others) : Fn P w K mg base 3 "refuse_not_won" ["kinds", "lost"] m_refuse_not_won := by
  refine (fun h => h : _ → Fn P w K mg base 3 "refuse_not_won" ["kinds", "lost"] (runB 2 2 b_refuse_not_won)) (fn_mk (N := ["kinds", "lost"]) (k := 2) T.t_refuse_not_won sc_refuse_not_won (fun _ _ _ _ _ _ us hl => by obtain ⟨_, _, rfl⟩ := us2 hl; rfl) ?_)
  intro f cdv A outer s H E hr
  unfold b_refuse_not_won
  refine pssf_cons ?_ pssf_nil
  refine psf_if ?_ ?_ pssf_nil
  refine ptf_not ?_
  refine ptf_truth ?_ (fun _ => rfl)
  refine pef_fn F_all_wins_by (hr.mono (by decide)) ?_ ?_
  rfl
  refine paf_c ?_ ?_ ?_
  exact (pef_var (pv 0))
  refine paf_c ?_ ?_ ?_
  exact (pef_var (pv 1))
  refine paf_c ?_ ?_ ?_
  refine pef_fn F_others (hr.mono (by decide)) ?_ ?_
  rfl
  refine paf_c ?_ ?_ ?_
  refine pef_callB callf_len ?_ T.n_len bb_len ?_
  rfl
  refine paf_c ?_ ?_ ?_
  exact (pef_var (pv 1))
  exact paf_nil
  rfl
  refine paf_c ?_ ?_ ?_
  exact pef_tup paf_nil
  exact paf_nil
  rfl
  rfl
  exact paf_nil
  rfl
  rfl
  rfl
  exact pssf_cons psf_err pssf_nil
theorem okx_refuse_not_won (T : Top K mg) (F_all_wins_by : Fn P w K mg base 2 "all_wins_by" ["kinds", "lost", "numbers"] m_all_wins_by) (F_others : Fn P w K mg base 1 "others" ["many", "numbers"] m_others) : FnX P w K mg base 3 "refuse_not_won" ["kinds", "lost"] "NotWon" x_refuse_not_won := by
  refine (fun h => h : _ → FnX P w K mg base 3 "refuse_not_won" ["kinds", "lost"] "NotWon" (runX 2 2 xb_refuse_not_won)) (fx_mk (N := ["kinds", "lost"]) (k := 2) T.t_refuse_not_won sc_refuse_not_won (fun _ _ _ _ _ _ us hl => by obtain ⟨_, _, rfl⟩ := us2 hl; rfl) ?_)
  intro C hE f cdv A outer s H E hr
  unfold xb_refuse_not_won
  refine pxn_if ?_ ?_
  refine ptf_not ?_
  refine ptf_truth ?_ (fun _ => rfl)
  refine pef_fn F_all_wins_by (hr.mono (by decide)) ?_ ?_
  rfl
  refine paf_c ?_ ?_ ?_
  exact (pef_var (pv 0))
  refine paf_c ?_ ?_ ?_
  exact (pef_var (pv 1))
  refine paf_c ?_ ?_ ?_
  refine pef_fn F_others (hr.mono (by decide)) ?_ ?_
  rfl
  refine paf_c ?_ ?_ ?_
  refine pef_callB callf_len ?_ T.n_len bb_len ?_
  rfl
  refine paf_c ?_ ?_ ?_
  exact (pef_var (pv 1))
  exact paf_nil
  rfl
  refine paf_c ?_ ?_ ?_
  exact pef_tup paf_nil
  exact paf_nil
  rfl
  rfl
  exact paf_nil
  rfl
  rfl
  rfl
  refine pxn_raise (by rfl) hE (by rfl) ?_
  exact paf_cons pef_str paf_nil
theorem ok_lost_ahead (T : Top K mg) : Fn P w K mg base 1 "lost_ahead" ["lost"] m_lost_ahead := by
  refine (fun h => h : _ → Fn P w K mg base 1 "lost_ahead" ["lost"] (runB 1 4 b_lost_ahead)) (fn_mk (N := ["lost", "told", "ahead", "plays"]) (k := 0) T.t_lost_ahead sc_lost_ahead (fun _ _ _ _ _ _ us hl => by obtain ⟨_, rfl⟩ := us1 hl; rfl) ?_)
  intro f cdv A outer s H E hr
  unfold b_lost_ahead
  refine pssf_cons ?_ ?_
  refine psf_set (i := 1) ?_ ?_ ?_ ?_
  exact sc_lost_ahead.nd
  rfl
  first | exact Or.inl rfl | exact Or.inr rfl
  exact pef_lst paf_nil
  refine pssf_cons ?_ ?_
  refine psf_set (i := 2) ?_ ?_ ?_ pef_int
  exact sc_lost_ahead.nd
  rfl
  first | exact Or.inl rfl | exact Or.inr rfl
  refine pssf_cons ?_ ?_
  refine psf_for PassesOwn.never ?_ ?_ ?_ ?_
  rfl
  exact pif_seq (pef_var (pv 0))
  refine pgf_name (i := 3) ?_ ?_ ?_
  exact sc_lost_ahead.nd
  rfl
  first | exact Or.inl rfl | exact Or.inr rfl
  refine pssf_cons ?_ ?_
  refine psf_expr ?_
  refine pef_lm PySem.F.slot_list_append PySem.F.type_list_append mtf_append (pef_var (pv 1)) ?_
  refine paf_c ?_ ?_ ?_
  exact (pef_var (pv 2))
  exact paf_nil
  rfl
  refine pssf_cons ?_ pssf_nil
  refine psf_aug (i := 2) ip_or ?_ ?_ ?_ (pef_var (pv 3))
  exact sc_lost_ahead.nd
  rfl
  first | exact Or.inl rfl | exact Or.inr rfl
  refine pssf_cons ?_ pssf_nil
  exact psf_ret (pef_var (pv 1))
theorem ok_lean (T : Top K mg) (F_all_wins : Fn P w K mg base 1 "all_wins" ["kinds", "lost"] m_all_wins) (F_lost_ahead : Fn P w K mg base 1 "lost_ahead" ["lost"] m_lost_ahead) (F_refuse_not_won : Fn P w K mg base 3 "refuse_not_won" ["kinds", "lost"] m_refuse_not_won) (F_lost_plays : Fn P w K mg base 2 "lost_plays" ["claim"] m_lost_plays) : Fn P w K mg base 4 "lean" ["claim"] m_lean := by
  refine (fun h => h : _ → Fn P w K mg base 4 "lean" ["claim"] (runB 1 6 b_lean)) (fn_mk (N := ["claim", "lost", "ahead", "told", "stay", "number"]) (k := 3) T.t_lean sc_lean (fun _ _ _ _ _ _ us hl => by obtain ⟨_, rfl⟩ := us1 hl; rfl) ?_)
  intro f cdv A outer s H E hr
  unfold b_lean
  refine pssf_cons ?_ ?_
  refine psf_set (i := 1) ?_ ?_ ?_ ?_
  exact sc_lean.nd
  rfl
  first | exact Or.inl rfl | exact Or.inr rfl
  refine pef_fn F_lost_plays (hr.mono (by decide)) ?_ ?_
  rfl
  refine paf_c ?_ ?_ ?_
  exact (pef_var (pv 0))
  exact paf_nil
  rfl
  refine pssf_cons ?_ ?_
  refine psf_expr ?_
  refine pef_fn F_refuse_not_won (hr.mono (by decide)) ?_ ?_
  rfl
  refine paf_c ?_ ?_ ?_
  exact pef_ix ixf (pef_var (pv 0)) pef_int (fun _ _ => rfl)
  refine paf_c ?_ ?_ ?_
  exact (pef_var (pv 1))
  exact paf_nil
  rfl
  rfl
  refine pssf_cons ?_ ?_
  refine psf_set (i := 2) ?_ ?_ ?_ ?_
  exact sc_lean.nd
  rfl
  first | exact Or.inl rfl | exact Or.inr rfl
  refine pef_fn F_lost_ahead (hr.mono (by decide)) ?_ ?_
  rfl
  refine paf_c ?_ ?_ ?_
  exact (pef_var (pv 1))
  exact paf_nil
  rfl
  refine pssf_cons ?_ ?_
  refine psf_set (i := 3) ?_ ?_ ?_ ?_
  exact sc_lean.nd
  rfl
  first | exact Or.inl rfl | exact Or.inr rfl
  exact pef_lst paf_nil
  refine pssf_cons ?_ ?_
  refine psf_set (i := 4) ?_ ?_ ?_ pef_int
  exact sc_lean.nd
  rfl
  first | exact Or.inl rfl | exact Or.inr rfl
  refine pssf_cons ?_ ?_
  refine psf_for PassesOwn.never ?_ ?_ ?_ ?_
  rfl
  refine pif_rangeB ?_ T.n_range ?_
  rfl
  refine paf_c ?_ ?_ ?_
  refine pef_op opf_sub ?_ pef_int
  refine pef_callB callf_len ?_ T.n_len bb_len ?_
  rfl
  refine paf_c ?_ ?_ ?_
  exact (pef_var (pv 1))
  exact paf_nil
  rfl
  refine paf_c ?_ ?_ ?_
  exact pef_un unf_neg pef_int
  refine paf_c ?_ ?_ ?_
  exact pef_un unf_neg pef_int
  exact paf_nil
  rfl
  rfl
  rfl
  refine pgf_name (i := 5) ?_ ?_ ?_
  exact sc_lean.nd
  rfl
  first | exact Or.inl rfl | exact Or.inr rfl
  refine pssf_cons ?_ pssf_nil
  refine psf_if ?_ ?_ pssf_nil
  refine ptf_not ?_
  refine ptf_truth ?_ (fun _ => rfl)
  refine pef_fn F_all_wins (hr.mono (by decide)) ?_ ?_
  rfl
  refine paf_c ?_ ?_ ?_
  exact pef_ix ixf (pef_var (pv 0)) pef_int (fun _ _ => rfl)
  refine paf_c ?_ ?_ ?_
  refine pef_op opf_bor ?_ (pef_var (pv 4))
  exact pef_ix ixf (pef_var (pv 2)) (pef_var (pv 5)) (fun _ _ => rfl)
  exact paf_nil
  rfl
  rfl
  refine pssf_cons ?_ ?_
  refine psf_expr ?_
  refine pef_lm PySem.F.slot_list_append PySem.F.type_list_append mtf_append (pef_var (pv 3)) ?_
  refine paf_c ?_ ?_ ?_
  exact (pef_var (pv 5))
  exact paf_nil
  rfl
  refine pssf_cons ?_ pssf_nil
  refine psf_aug (i := 4) ip_or ?_ ?_ ?_ ?_
  exact sc_lean.nd
  rfl
  first | exact Or.inl rfl | exact Or.inr rfl
  exact pef_ix ixf (pef_var (pv 1)) (pef_var (pv 5)) (fun _ _ => rfl)
  refine pssf_cons ?_ ?_
  refine psf_expr ?_
  exact pef_lm0 PySem.F.slot_list_reverse PySem.F.type_list_reverse mtf_rev (pef_var (pv 3))
  refine pssf_cons ?_ pssf_nil
  exact psf_ret (pef_var (pv 3))
theorem okx_lean (T : Top K mg) (F_lost_plays : Fn P w K mg base 2 "lost_plays" ["claim"] m_lost_plays) (FX_refuse_not_won : FnX P w K mg base 3 "refuse_not_won" ["kinds", "lost"] "NotWon" x_refuse_not_won) : FnX P w K mg base 4 "lean" ["claim"] "NotWon" x_lean := by
  refine (fun h => h : _ → FnX P w K mg base 4 "lean" ["claim"] "NotWon" (runX 1 6 xb_lean)) (fx_mk (N := ["claim", "lost", "ahead", "told", "stay", "number"]) (k := 3) T.t_lean sc_lean (fun _ _ _ _ _ _ us hl => by obtain ⟨_, rfl⟩ := us1 hl; rfl) ?_)
  intro C hE f cdv A outer s H E hr
  unfold xb_lean
  refine pxn_cons ?_ ?_
  refine psf_set (i := 1) ?_ ?_ ?_ ?_
  exact sc_lean.nd
  rfl
  first | exact Or.inl rfl | exact Or.inr rfl
  refine pef_fn F_lost_plays (hr.mono (by decide)) ?_ ?_
  rfl
  refine paf_c ?_ ?_ ?_
  exact (pef_var (pv 0))
  exact paf_nil
  rfl
  refine pxn_call (k := 3) (ps := ["kinds", "lost"]) (by exact FX_refuse_not_won) hE (by exact hr.mono (by decide)) ?_
  refine paf_c ?_ ?_ ?_
  exact pef_ix ixf (pef_var (pv 0)) pef_int (fun _ _ => rfl)
  refine paf_c ?_ ?_ ?_
  exact (pef_var (pv 1))
  exact paf_nil
  rfl
  rfl
theorem ok_law_feed (T : Top K mg) : Fn P w K mg base 1 "_law_feed" ["script", "k"] m_law_feed := by
  refine (fun h => h : _ → Fn P w K mg base 1 "_law_feed" ["script", "k"] (runB 2 5 b_law_feed)) (fn_mk (N := ["script", "k", "cell", "digits", "start"]) (k := 0) T.t_law_feed sc_law_feed (fun _ _ _ _ _ _ us hl => by obtain ⟨_, _, rfl⟩ := us2 hl; rfl) ?_)
  intro f cdv A outer s H E hr
  unfold b_law_feed
  refine pssf_cons ?_ ?_
  refine psf_set (i := 2) ?_ ?_ ?_ pef_int
  exact sc_law_feed.nd
  rfl
  first | exact Or.inl rfl | exact Or.inr rfl
  refine pssf_cons ?_ ?_
  refine psf_if ?_ ?_ pssf_nil
  refine ptf_cmp opf_lt (pef_var (pv 1)) ?_ (nomark _)
  refine pef_callB callf_len ?_ T.n_len bb_len ?_
  rfl
  refine paf_c ?_ ?_ ?_
  exact (pef_var (pv 0))
  exact paf_nil
  rfl
  refine pssf_cons ?_ pssf_nil
  refine psf_set (i := 2) ?_ ?_ ?_ ?_
  exact sc_law_feed.nd
  rfl
  first | exact Or.inl rfl | exact Or.inr rfl
  exact pef_ix ixf (pef_var (pv 0)) (pef_var (pv 1)) (fun _ _ => rfl)
  refine pssf_cons ?_ ?_
  refine psf_set (i := 3) ?_ ?_ ?_ pef_int
  exact sc_law_feed.nd
  rfl
  first | exact Or.inl rfl | exact Or.inr rfl
  refine pssf_cons ?_ ?_
  refine psf_if ?_ ?_ pssf_nil
  refine ptf_cmp opf_ge (pef_var (pv 2)) ?_ (nomark _)
  exact pef_op opf_pow pef_int pef_int
  refine pssf_cons ?_ pssf_nil
  refine psf_set (i := 3) ?_ ?_ ?_ ?_
  exact sc_law_feed.nd
  rfl
  first | exact Or.inl rfl | exact Or.inr rfl
  refine pef_op opf_sub (pef_var (pv 2)) ?_
  exact pef_op opf_pow pef_int pef_int
  refine pssf_cons ?_ ?_
  refine psf_set (i := 4) ?_ ?_ ?_ ?_
  exact sc_law_feed.nd
  rfl
  first | exact Or.inl rfl | exact Or.inr rfl
  refine pef_op opf_mod ?_ pef_int
  refine pef_op opf_add ?_ pef_int
  refine pef_op opf_add ?_ ?_
  refine pef_op opf_mul ?_ pef_int
  exact pef_op opf_mod (pef_var (pv 2)) pef_int
  exact pef_op opf_mul pef_int (pef_var (pv 1))
  refine pssf_cons ?_ pssf_nil
  refine psf_ret ?_
  refine pef_lst ?_
  refine paf_c ?_ ?_ ?_
  exact (pef_var (pv 3))
  refine paf_c ?_ ?_ ?_
  refine pef_op opf_add ?_ pef_int
  refine pef_op opf_mod ?_ pef_int
  exact pef_op opf_pow (pef_var (pv 4)) pef_int
  exact paf_nil
  rfl
  rfl
theorem ok_law_take (T : Top K mg) : Fn P w K mg base 1 "_law_take" ["feed", "many"] m_law_take := by
  refine (fun h => h : _ → Fn P w K mg base 1 "_law_take" ["feed", "many"] (runB 2 3 b_law_take)) (fn_mk (N := ["feed", "many", "found"]) (k := 0) T.t_law_take sc_law_take (fun _ _ _ _ _ _ us hl => by obtain ⟨_, _, rfl⟩ := us2 hl; rfl) ?_)
  intro f cdv A outer s H E hr
  unfold b_law_take
  refine pssf_cons ?_ ?_
  refine psf_if ?_ ?_ pssf_nil
  refine ptf_cmp opf_gt ?_ pef_int (nomark _)
  exact pef_ix ixf (pef_var (pv 0)) pef_int (fun _ _ => rfl)
  refine pssf_cons ?_ ?_
  refine psf_set (i := 2) ?_ ?_ ?_ ?_
  exact sc_law_take.nd
  rfl
  first | exact Or.inl rfl | exact Or.inr rfl
  refine pef_op opf_mod ?_ (pef_var (pv 1))
  exact pef_ix ixf (pef_var (pv 0)) pef_int (fun _ _ => rfl)
  refine pssf_cons ?_ ?_
  refine psf_asg ?_ ?_
  refine pef_op opf_fdiv ?_ (pef_var (pv 1))
  exact pef_ix ixf (pef_var (pv 0)) pef_int (fun _ _ => rfl)
  exact pgf_sub (pef_var (pv 0)) pef_int setf
  refine pssf_cons ?_ pssf_nil
  exact psf_ret (pef_var (pv 2))
  refine pssf_cons ?_ ?_
  refine psf_asg ?_ ?_
  refine pef_op opf_mod ?_ pef_int
  refine pef_op opf_add ?_ pef_int
  refine pef_op opf_mul ?_ pef_int
  exact pef_ix ixf (pef_var (pv 0)) pef_int (fun _ _ => rfl)
  exact pgf_sub (pef_var (pv 0)) pef_int setf
  refine pssf_cons ?_ pssf_nil
  refine psf_ret ?_
  refine pef_op opf_mod ?_ (pef_var (pv 1))
  refine pef_op opf_fdiv ?_ pef_int
  exact pef_ix ixf (pef_var (pv 0)) pef_int (fun _ _ => rfl)
theorem ok_law_pick (T : Top K mg) (F_law_take : Fn P w K mg base 1 "_law_take" ["feed", "many"] m_law_take) : Fn P w K mg base 2 "_law_pick" ["feed", "some"] m_law_pick := by
  refine (fun h => h : _ → Fn P w K mg base 2 "_law_pick" ["feed", "some"] (runB 2 2 b_law_pick)) (fn_mk (N := ["feed", "some"]) (k := 1) T.t_law_pick sc_law_pick (fun _ _ _ _ _ _ us hl => by obtain ⟨_, _, rfl⟩ := us2 hl; rfl) ?_)
  intro f cdv A outer s H E hr
  unfold b_law_pick
  refine pssf_cons ?_ pssf_nil
  refine psf_ret ?_
  refine pef_ix ixf (pef_var (pv 1)) ?_ (fun _ _ => rfl)
  refine pef_fn F_law_take (hr.mono (by decide)) ?_ ?_
  rfl
  refine paf_c ?_ ?_ ?_
  exact (pef_var (pv 0))
  refine paf_c ?_ ?_ ?_
  refine pef_callB callf_len ?_ T.n_len bb_len ?_
  rfl
  refine paf_c ?_ ?_ ?_
  exact (pef_var (pv 1))
  exact paf_nil
  rfl
  exact paf_nil
  rfl
  rfl
theorem ok_law_row (T : Top K mg) (F_law_take : Fn P w K mg base 1 "_law_take" ["feed", "many"] m_law_take) (F_law_pick : Fn P w K mg base 2 "_law_pick" ["feed", "some"] m_law_pick) : Fn P w K mg base 3 "_law_row" ["feed", "many"] m_law_row := by
  refine (fun h => h : _ → Fn P w K mg base 3 "_law_row" ["feed", "many"] (runB 2 7 b_law_row)) (fn_mk (N := ["feed", "many", "sizes", "size", "names", "found", "turn"]) (k := 2) T.t_law_row sc_law_row (fun _ _ _ _ _ _ us hl => by obtain ⟨_, _, rfl⟩ := us2 hl; rfl) ?_)
  intro f cdv A outer s H E hr
  unfold b_law_row
  refine pssf_cons ?_ ?_
  refine psf_set (i := 2) ?_ ?_ ?_ ?_
  exact sc_law_row.nd
  rfl
  first | exact Or.inl rfl | exact Or.inr rfl
  refine pef_lst ?_
  refine paf_c ?_ ?_ ?_
  exact pef_int
  refine paf_c ?_ ?_ ?_
  exact pef_int
  refine paf_c ?_ ?_ ?_
  exact pef_int
  refine paf_c ?_ ?_ ?_
  exact pef_int
  refine paf_c ?_ ?_ ?_
  exact pef_int
  refine paf_c ?_ ?_ ?_
  exact pef_int
  refine paf_c ?_ ?_ ?_
  exact pef_int
  refine paf_c ?_ ?_ ?_
  exact pef_int
  refine paf_c ?_ ?_ ?_
  exact pef_int
  refine paf_c ?_ ?_ ?_
  refine pef_op opf_add pef_int ?_
  refine pef_fn F_law_take (hr.mono (by decide)) ?_ ?_
  rfl
  refine paf_c ?_ ?_ ?_
  exact (pef_var (pv 0))
  refine paf_c ?_ ?_ ?_
  exact pef_int
  exact paf_nil
  rfl
  rfl
  refine paf_c ?_ ?_ ?_
  exact pef_int
  refine paf_c ?_ ?_ ?_
  refine pef_op opf_mul pef_int ?_
  refine pef_callTy callf_int ?_ T.n_int bb_int ?_
  rfl
  refine paf_c ?_ ?_ ?_
  refine pef_cmp opf_gt ?_ pef_int (nomark _)
  refine pef_fn F_law_take (hr.mono (by decide)) ?_ ?_
  rfl
  refine paf_c ?_ ?_ ?_
  exact (pef_var (pv 0))
  refine paf_c ?_ ?_ ?_
  exact pef_int
  exact paf_nil
  rfl
  rfl
  exact paf_nil
  rfl
  exact paf_nil
  rfl
  rfl
  rfl
  rfl
  rfl
  rfl
  rfl
  rfl
  rfl
  rfl
  rfl
  rfl
  refine pssf_cons ?_ ?_
  refine psf_set (i := 3) ?_ ?_ ?_ ?_
  exact sc_law_row.nd
  rfl
  first | exact Or.inl rfl | exact Or.inr rfl
  refine pef_callB (callf_min (by rfl)) ?_ T.n_min bb_min ?_
  rfl
  refine paf_c ?_ ?_ ?_
  exact (pef_var (pv 1))
  refine paf_c ?_ ?_ ?_
  refine pef_fn F_law_pick (hr.mono (by decide)) ?_ ?_
  rfl
  refine paf_c ?_ ?_ ?_
  exact (pef_var (pv 0))
  refine paf_c ?_ ?_ ?_
  exact (pef_var (pv 2))
  exact paf_nil
  rfl
  rfl
  exact paf_nil
  rfl
  rfl
  refine pssf_cons ?_ ?_
  refine psf_set (i := 4) ?_ ?_ ?_ ?_
  exact sc_law_row.nd
  rfl
  first | exact Or.inl rfl | exact Or.inr rfl
  refine pef_listR2 ?_ ?_ T.n_list ?_ T.n_range ?_
  rfl
  rfl
  rfl
  refine paf_c ?_ ?_ ?_
  exact pef_int
  refine paf_c ?_ ?_ ?_
  exact pef_op opf_add (pef_var (pv 1)) pef_int
  exact paf_nil
  rfl
  rfl
  refine pssf_cons ?_ ?_
  refine psf_set (i := 5) ?_ ?_ ?_ ?_
  exact sc_law_row.nd
  rfl
  first | exact Or.inl rfl | exact Or.inr rfl
  exact pef_lst paf_nil
  refine pssf_cons ?_ ?_
  refine psf_for PassesOwn.never ?_ ?_ ?_ ?_
  rfl
  refine pif_range1 ?_ T.n_range ?_
  rfl
  refine paf_c ?_ ?_ ?_
  exact (pef_var (pv 3))
  exact paf_nil
  rfl
  refine pgf_name (i := 6) ?_ ?_ ?_
  exact sc_law_row.nd
  rfl
  first | exact Or.inl rfl | exact Or.inr rfl
  refine pssf_cons ?_ pssf_nil
  refine psf_expr ?_
  refine pef_lm PySem.F.slot_list_append PySem.F.type_list_append mtf_append (pef_var (pv 5)) ?_
  refine paf_c ?_ ?_ ?_
  refine pef_lm PySem.F.slot_list_pop PySem.F.type_list_pop mtf_pop (pef_var (pv 4)) ?_
  refine paf_c ?_ ?_ ?_
  refine pef_fn F_law_take (hr.mono (by decide)) ?_ ?_
  rfl
  refine paf_c ?_ ?_ ?_
  exact (pef_var (pv 0))
  refine paf_c ?_ ?_ ?_
  refine pef_callB callf_len ?_ T.n_len bb_len ?_
  rfl
  refine paf_c ?_ ?_ ?_
  exact (pef_var (pv 4))
  exact paf_nil
  rfl
  exact paf_nil
  rfl
  rfl
  exact paf_nil
  rfl
  exact paf_nil
  rfl
  refine pssf_cons ?_ pssf_nil
  refine psf_ret ?_
  refine pef_callTy callf_tuple ?_ T.n_tuple bb_tuple ?_
  rfl
  refine paf_c ?_ ?_ ?_
  refine pef_lc (cn := ["feed"]) ?_ (blk_fn (x := "name") (cn := ["feed"]) (ci := [0]) (by decide +kernel)) ?_ ?_ ?_
  rfl
  refine pif_seq ?_
  refine pef_callB callf_sorted ?_ T.n_sorted bb_sorted ?_
  rfl
  refine paf_c ?_ ?_ ?_
  exact (pef_var (pv 5))
  exact paf_nil
  rfl
  intro _ _ _ _ _ _
  exact ptsf_nil
  intro _ _ _ _ _ _
  refine pef_ix ixf ?_ ?_ (fun _ _ => rfl)
  refine pef_lst ?_
  refine paf_c ?_ ?_ ?_
  exact (pef_var (pv 0))
  refine paf_c ?_ ?_ ?_
  exact pef_un unf_neg (pef_var (pv 0))
  exact paf_nil
  rfl
  rfl
  refine pef_fn F_law_take (hr.mono (by decide)) ?_ ?_
  rfl
  refine paf_c ?_ ?_ ?_
  exact (pef_var (pv 1))
  refine paf_c ?_ ?_ ?_
  exact pef_int
  exact paf_nil
  rfl
  rfl
  exact paf_nil
  rfl
theorem ok_law_claim (T : Top K mg) (F_law_take : Fn P w K mg base 1 "_law_take" ["feed", "many"] m_law_take) (F_law_pick : Fn P w K mg base 2 "_law_pick" ["feed", "some"] m_law_pick) (F_law_row : Fn P w K mg base 3 "_law_row" ["feed", "many"] m_law_row) : Fn P w K mg base 4 "_law_claim" ["feed", "most", "rows"] m_law_claim := by
  refine (fun h => h : _ → Fn P w K mg base 4 "_law_claim" ["feed", "most", "rows"] (runB 3 8 b_law_claim)) (fn_mk (N := ["feed", "most", "rows", "many", "way", "kinds", "size", "found"]) (k := 3) T.t_law_claim sc_law_claim (fun _ _ _ _ _ _ us hl => by obtain ⟨_, _, _, rfl⟩ := us3 hl; rfl) ?_)
  intro f cdv A outer s H E hr
  unfold b_law_claim
  refine pssf_cons ?_ ?_
  refine psf_set (i := 3) ?_ ?_ ?_ ?_
  exact sc_law_claim.nd
  rfl
  first | exact Or.inl rfl | exact Or.inr rfl
  refine pef_fn F_law_pick (hr.mono (by decide)) ?_ ?_
  rfl
  refine paf_c ?_ ?_ ?_
  exact (pef_var (pv 0))
  refine paf_c ?_ ?_ ?_
  refine pef_lst ?_
  refine paf_c ?_ ?_ ?_
  exact (pef_var (pv 1))
  refine paf_c ?_ ?_ ?_
  exact pef_op opf_sub (pef_var (pv 1)) pef_int
  refine paf_c ?_ ?_ ?_
  exact (pef_var (pv 1))
  refine paf_c ?_ ?_ ?_
  exact pef_op opf_sub (pef_var (pv 1)) pef_int
  refine paf_c ?_ ?_ ?_
  exact (pef_var (pv 1))
  refine paf_c ?_ ?_ ?_
  refine pef_fn F_law_take (hr.mono (by decide)) ?_ ?_
  rfl
  refine paf_c ?_ ?_ ?_
  exact (pef_var (pv 0))
  refine paf_c ?_ ?_ ?_
  exact pef_op opf_add (pef_var (pv 1)) pef_int
  exact paf_nil
  rfl
  rfl
  exact paf_nil
  rfl
  rfl
  rfl
  rfl
  rfl
  rfl
  exact paf_nil
  rfl
  rfl
  refine pssf_cons ?_ ?_
  refine psf_set (i := 4) ?_ ?_ ?_ ?_
  exact sc_law_claim.nd
  rfl
  first | exact Or.inl rfl | exact Or.inr rfl
  refine pef_fn F_law_take (hr.mono (by decide)) ?_ ?_
  rfl
  refine paf_c ?_ ?_ ?_
  exact (pef_var (pv 0))
  refine paf_c ?_ ?_ ?_
  exact pef_int
  exact paf_nil
  rfl
  rfl
  refine pssf_cons ?_ ?_
  refine psf_lcset (i := 5) (cn := ["feed"]) ?_ (blk_fn (x := "k") (cn := ["feed"]) (ci := [0]) (by decide +kernel)) ?_ ?_ ?_ ?_ ?_ ?_
  rfl
  refine pif_range1 ?_ T.n_range ?_
  rfl
  refine paf_c ?_ ?_ ?_
  exact (pef_var (pv 3))
  exact paf_nil
  rfl
  intro _ _ _ _ _ _
  exact ptsf_nil
  intro _ _ _ _ _ _
  refine pef_fn F_law_pick (hr.mono (by decide)) ?_ ?_
  rfl
  refine paf_c ?_ ?_ ?_
  exact (pef_var (pv 1))
  refine paf_c ?_ ?_ ?_
  refine pef_lst ?_
  refine paf_c ?_ ?_ ?_
  exact pef_str
  refine paf_c ?_ ?_ ?_
  exact pef_str
  exact paf_nil
  rfl
  rfl
  exact paf_nil
  rfl
  rfl
  exact sc_law_claim.nd
  rfl
  rfl
  refine pssf_cons ?_ ?_
  refine psf_if ?_ ?_ pssf_nil
  exact ptf_cmp (opf_eq hr.units) (pef_var (pv 4)) pef_int (nomark _)
  refine pssf_cons ?_ pssf_nil
  refine psf_lcset (i := 5) (cn := []) ?_ (blk_fn (x := "k") (cn := []) (ci := []) (by decide +kernel)) ?_ ?_ ?_ ?_ ?_ ?_
  rfl
  refine pif_range1 ?_ T.n_range ?_
  rfl
  refine paf_c ?_ ?_ ?_
  exact (pef_var (pv 3))
  exact paf_nil
  rfl
  intro _ _ _ _ _ _
  exact ptsf_nil
  intro _ _ _ _ _ _
  refine pef_ix ixf ?_ ?_ (fun _ _ => rfl)
  refine pef_lst ?_
  refine paf_c ?_ ?_ ?_
  exact pef_str
  refine paf_c ?_ ?_ ?_
  exact pef_str
  exact paf_nil
  rfl
  rfl
  exact pef_op opf_mod (pef_var (pv 0)) pef_int
  exact sc_law_claim.nd
  rfl
  rfl
  refine pssf_cons ?_ ?_
  refine psf_set (i := 6) ?_ ?_ ?_ ?_
  exact sc_law_claim.nd
  rfl
  first | exact Or.inl rfl | exact Or.inr rfl
  refine pef_fn F_law_pick (hr.mono (by decide)) ?_ ?_
  rfl
  refine paf_c ?_ ?_ ?_
  exact (pef_var (pv 0))
  refine paf_c ?_ ?_ ?_
  refine pef_lst ?_
  refine paf_c ?_ ?_ ?_
  exact (pef_var (pv 3))
  refine paf_c ?_ ?_ ?_
  refine pef_op opf_add (pef_var (pv 3)) ?_
  exact pef_op opf_fdiv (pef_var (pv 3)) pef_int
  refine paf_c ?_ ?_ ?_
  exact pef_op opf_mul pef_int (pef_var (pv 3))
  refine paf_c ?_ ?_ ?_
  refine pef_op opf_add ?_ pef_int
  exact pef_op opf_fdiv (pef_var (pv 3)) pef_int
  refine paf_c ?_ ?_ ?_
  refine pef_fn F_law_take (hr.mono (by decide)) ?_ ?_
  rfl
  refine paf_c ?_ ?_ ?_
  exact (pef_var (pv 0))
  refine paf_c ?_ ?_ ?_
  exact pef_op opf_add (pef_var (pv 2)) pef_int
  exact paf_nil
  rfl
  rfl
  refine paf_c ?_ ?_ ?_
  exact pef_int
  exact paf_nil
  rfl
  rfl
  rfl
  rfl
  rfl
  rfl
  exact paf_nil
  rfl
  rfl
  refine pssf_cons ?_ ?_
  refine psf_lcset (i := 7) (cn := ["feed", "many"]) ?_ (blk_fn (x := "k") (cn := ["feed", "many"]) (ci := [0, 3]) (by decide +kernel)) ?_ ?_ ?_ ?_ ?_ ?_
  rfl
  refine pif_range1 ?_ T.n_range ?_
  rfl
  refine paf_c ?_ ?_ ?_
  refine pef_callB (callf_min (by rfl)) ?_ T.n_min bb_min ?_
  rfl
  refine paf_c ?_ ?_ ?_
  exact (pef_var (pv 2))
  refine paf_c ?_ ?_ ?_
  exact (pef_var (pv 6))
  exact paf_nil
  rfl
  rfl
  exact paf_nil
  rfl
  intro _ _ _ _ _ _
  exact ptsf_nil
  intro _ _ _ _ _ _
  refine pef_fn F_law_row (hr.mono (by decide)) ?_ ?_
  rfl
  refine paf_c ?_ ?_ ?_
  exact (pef_var (pv 1))
  refine paf_c ?_ ?_ ?_
  exact (pef_var (pv 2))
  exact paf_nil
  rfl
  rfl
  exact sc_law_claim.nd
  rfl
  rfl
  refine pssf_cons ?_ ?_
  refine psf_if ?_ ?_ pssf_nil
  refine PWf.pt ?_
  refine pwf_and ?_ ?_
  refine ptf_cmp (opf_ne hr.units) (pef_var (pv 7)) ?_ (nomark _)
  exact pef_lst paf_nil
  refine pwf_and1 ?_
  refine ptf_cmp (opf_eq hr.units) ?_ pef_int (nomark _)
  refine pef_fn F_law_take (hr.mono (by decide)) ?_ ?_
  rfl
  refine paf_c ?_ ?_ ?_
  exact (pef_var (pv 0))
  refine paf_c ?_ ?_ ?_
  exact pef_int
  exact paf_nil
  rfl
  rfl
  refine pssf_cons ?_ pssf_nil
  refine psf_expr ?_
  refine pef_lm PySem.F.slot_list_append PySem.F.type_list_append mtf_append (pef_var (pv 7)) ?_
  refine paf_c ?_ ?_ ?_
  refine pef_fn F_law_pick (hr.mono (by decide)) ?_ ?_
  rfl
  refine paf_c ?_ ?_ ?_
  exact (pef_var (pv 0))
  refine paf_c ?_ ?_ ?_
  exact (pef_var (pv 7))
  exact paf_nil
  rfl
  rfl
  exact paf_nil
  rfl
  refine pssf_cons ?_ pssf_nil
  refine psf_ret ?_
  refine pef_tup ?_
  refine paf_c ?_ ?_ ?_
  refine pef_callTy callf_tuple ?_ T.n_tuple bb_tuple ?_
  rfl
  refine paf_c ?_ ?_ ?_
  exact (pef_var (pv 5))
  exact paf_nil
  rfl
  refine paf_c ?_ ?_ ?_
  refine pef_callTy callf_tuple ?_ T.n_tuple bb_tuple ?_
  rfl
  refine paf_c ?_ ?_ ?_
  refine pef_slice (pef_var (pv 7)) pof_none ?_
  exact pof_some (pef_var (pv 2))
  exact paf_nil
  rfl
  exact paf_nil
  rfl
  rfl
theorem ok_law_kept (T : Top K mg) : Fn P w K mg base 1 "_law_kept" ["row", "play"] m_law_kept := by
  refine (fun h => h : _ → Fn P w K mg base 1 "_law_kept" ["row", "play"] (runB 2 3 b_law_kept)) (fn_mk (N := ["row", "play", "literal"]) (k := 0) T.t_law_kept sc_law_kept (fun _ _ _ _ _ _ us hl => by obtain ⟨_, _, rfl⟩ := us2 hl; rfl) ?_)
  intro f cdv A outer s H E hr
  unfold b_law_kept
  refine pssf_cons ?_ ?_
  refine psf_for PassesOwn.never ?_ ?_ ?_ ?_
  rfl
  exact pif_seq (pef_var (pv 0))
  refine pgf_name (i := 2) ?_ ?_ ?_
  exact sc_law_kept.nd
  rfl
  first | exact Or.inl rfl | exact Or.inr rfl
  refine pssf_cons ?_ pssf_nil
  refine psf_if ?_ ?_ pssf_nil
  refine PWf.pt ?_
  refine pwf_and ?_ ?_
  refine ptf_cmp opf_le ?_ ?_ (nomark _)
  refine pef_callB callf_abs ?_ T.n_abs bb_abs ?_
  rfl
  refine paf_c ?_ ?_ ?_
  exact (pef_var (pv 2))
  exact paf_nil
  rfl
  refine pef_callB callf_len ?_ T.n_len bb_len ?_
  rfl
  refine paf_c ?_ ?_ ?_
  exact (pef_var (pv 1))
  exact paf_nil
  rfl
  refine pwf_and1 ?_
  refine ptf_cmp (opf_eq hr.units) ?_ ?_ (nomark _)
  refine pef_ix ixf (pef_var (pv 1)) ?_ (fun _ _ => rfl)
  refine pef_op opf_sub ?_ pef_int
  refine pef_callB callf_abs ?_ T.n_abs bb_abs ?_
  rfl
  refine paf_c ?_ ?_ ?_
  exact (pef_var (pv 2))
  exact paf_nil
  rfl
  exact pef_cmp opf_gt (pef_var (pv 2)) pef_int (nomark _)
  refine pssf_cons ?_ pssf_nil
  exact psf_ret pef_bl
  refine pssf_cons ?_ pssf_nil
  exact psf_ret pef_bl
theorem ok_law_plays (T : Top K mg) : Fn P w K mg base 1 "_law_plays" ["many"] m_law_plays := by
  refine (fun h => h : _ → Fn P w K mg base 1 "_law_plays" ["many"] (runB 1 7 b_law_plays)) (fn_mk (N := ["many", "found", "turn", "plays", "some", "longer", "play"]) (k := 0) T.t_law_plays sc_law_plays (fun _ _ _ _ _ _ us hl => by obtain ⟨_, rfl⟩ := us1 hl; rfl) ?_)
  intro f cdv A outer s H E hr
  unfold b_law_plays
  refine pssf_cons ?_ ?_
  refine psf_set (i := 1) ?_ ?_ ?_ ?_
  exact sc_law_plays.nd
  rfl
  first | exact Or.inl rfl | exact Or.inr rfl
  refine pef_lst ?_
  refine paf_c ?_ ?_ ?_
  refine pef_lst ?_
  refine paf_c ?_ ?_ ?_
  exact pef_tup paf_nil
  exact paf_nil
  rfl
  exact paf_nil
  rfl
  refine pssf_cons ?_ ?_
  refine psf_for PassesOwn.never ?_ ?_ ?_ ?_
  rfl
  refine pif_range1 ?_ T.n_range ?_
  rfl
  refine paf_c ?_ ?_ ?_
  exact (pef_var (pv 0))
  exact paf_nil
  rfl
  refine pgf_name (i := 2) ?_ ?_ ?_
  exact sc_law_plays.nd
  rfl
  first | exact Or.inl rfl | exact Or.inr rfl
  refine pssf_cons ?_ ?_
  refine psf_set (i := 5) ?_ ?_ ?_ ?_
  exact sc_law_plays.nd
  rfl
  first | exact Or.inl rfl | exact Or.inr rfl
  exact pef_lst paf_nil
  refine pssf_cons ?_ ?_
  refine psf_for PassesOwn.never ?_ ?_ ?_ ?_
  rfl
  refine pif_seq ?_
  refine pef_ix ixf (pef_var (pv 1)) ?_ (fun _ _ => rfl)
  exact pef_un unf_neg pef_int
  refine pgf_name (i := 6) ?_ ?_ ?_
  exact sc_law_plays.nd
  rfl
  first | exact Or.inl rfl | exact Or.inr rfl
  refine pssf_cons ?_ pssf_nil
  refine psf_set (i := 5) ?_ ?_ ?_ ?_
  exact sc_law_plays.nd
  rfl
  first | exact Or.inl rfl | exact Or.inr rfl
  refine pef_op opf_add (pef_var (pv 5)) ?_
  refine pef_lst ?_
  refine paf_c ?_ ?_ ?_
  refine pef_op opf_add (pef_var (pv 6)) ?_
  refine pef_tup ?_
  refine paf_c ?_ ?_ ?_
  exact pef_bl
  exact paf_nil
  rfl
  refine paf_c ?_ ?_ ?_
  refine pef_op opf_add (pef_var (pv 6)) ?_
  refine pef_tup ?_
  refine paf_c ?_ ?_ ?_
  exact pef_bl
  exact paf_nil
  rfl
  exact paf_nil
  rfl
  rfl
  refine pssf_cons ?_ pssf_nil
  refine psf_expr ?_
  refine pef_lm PySem.F.slot_list_append PySem.F.type_list_append mtf_append (pef_var (pv 1)) ?_
  refine paf_c ?_ ?_ ?_
  exact (pef_var (pv 5))
  exact paf_nil
  rfl
  refine pssf_cons ?_ ?_
  refine psf_set (i := 3) ?_ ?_ ?_ ?_
  exact sc_law_plays.nd
  rfl
  first | exact Or.inl rfl | exact Or.inr rfl
  exact pef_lst paf_nil
  refine pssf_cons ?_ ?_
  refine psf_for PassesOwn.never ?_ ?_ ?_ ?_
  rfl
  refine pif_reversed ?_ T.n_reversed ?_
  rfl
  refine paf_c ?_ ?_ ?_
  exact (pef_var (pv 1))
  exact paf_nil
  rfl
  refine pgf_name (i := 4) ?_ ?_ ?_
  exact sc_law_plays.nd
  rfl
  first | exact Or.inl rfl | exact Or.inr rfl
  refine pssf_cons ?_ pssf_nil
  refine psf_set (i := 3) ?_ ?_ ?_ ?_
  exact sc_law_plays.nd
  rfl
  first | exact Or.inl rfl | exact Or.inr rfl
  exact pef_op opf_add (pef_var (pv 3)) (pef_var (pv 4))
  refine pssf_cons ?_ pssf_nil
  exact psf_ret (pef_var (pv 3))
theorem ok_law_winners (T : Top K mg) (F_law_plays : Fn P w K mg base 1 "_law_plays" ["many"] m_law_plays) (F_law_kept : Fn P w K mg base 1 "_law_kept" ["row", "play"] m_law_kept) : Fn P w K mg base 2 "_law_winners" ["claim"] m_law_winners := by
  refine (fun h => h : _ → Fn P w K mg base 2 "_law_winners" ["claim"] (runB 1 5 b_law_winners)) (fn_mk (N := ["claim", "found", "play", "side", "two"]) (k := 1) T.t_law_winners sc_law_winners (fun _ _ _ _ _ _ us hl => by obtain ⟨_, rfl⟩ := us1 hl; rfl) ?_)
  intro f cdv A outer s H E hr
  unfold b_law_winners
  refine pssf_cons ?_ ?_
  refine psf_set (i := 1) ?_ ?_ ?_ pef_dnew
  exact sc_law_winners.nd
  rfl
  first | exact Or.inl rfl | exact Or.inr rfl
  refine pssf_cons ?_ ?_
  refine psf_for PassesOwn.never ?_ ?_ ?_ ?_
  rfl
  refine pif_seq ?_
  refine pef_fn F_law_plays (hr.mono (by decide)) ?_ ?_
  rfl
  refine paf_c ?_ ?_ ?_
  refine pef_callB callf_len ?_ T.n_len bb_len ?_
  rfl
  refine paf_c ?_ ?_ ?_
  exact pef_ix ixf (pef_var (pv 0)) pef_int (fun _ _ => rfl)
  exact paf_nil
  rfl
  exact paf_nil
  rfl
  refine pgf_name (i := 2) ?_ ?_ ?_
  exact sc_law_winners.nd
  rfl
  first | exact Or.inl rfl | exact Or.inr rfl
  refine pssf_cons ?_ pssf_nil
  refine psf_if ?_ ?_ ?_
  refine ptf_cmp (opf_eq hr.units) ?_ ?_ (nomark _)
  refine pef_callB callf_len ?_ T.n_len bb_len ?_
  rfl
  refine paf_c ?_ ?_ ?_
  exact (pef_var (pv 2))
  exact paf_nil
  rfl
  refine pef_callB callf_len ?_ T.n_len bb_len ?_
  rfl
  refine paf_c ?_ ?_ ?_
  exact pef_ix ixf (pef_var (pv 0)) pef_int (fun _ _ => rfl)
  exact paf_nil
  rfl
  refine pssf_cons ?_ pssf_nil
  refine psf_asg ?_ ?_
  refine pef_ix ixf ?_ ?_ (fun _ _ => rfl)
  refine pef_lst ?_
  refine paf_c ?_ ?_ ?_
  exact pef_str
  refine paf_c ?_ ?_ ?_
  exact pef_str
  exact paf_nil
  rfl
  rfl
  refine pef_callTy callf_int ?_ T.n_int bb_int ?_
  rfl
  refine paf_c ?_ ?_ ?_
  refine pef_cmp (opf_ni hr.units) pef_bl ?_ ?_
  refine pef_lc (cn := ["play"]) ?_ (blk_fn (x := "row") (cn := ["play"]) (ci := [2]) (by decide +kernel)) ?_ ?_ ?_
  rfl
  refine pif_seq ?_
  exact pef_ix ixf (pef_var (pv 0)) pef_int (fun _ _ => rfl)
  intro _ _ _ _ _ _
  exact ptsf_nil
  intro _ _ _ _ _ _
  refine pef_fn F_law_kept (hr.mono (by decide)) ?_ ?_
  rfl
  refine paf_c ?_ ?_ ?_
  exact (pef_var (pv 0))
  refine paf_c ?_ ?_ ?_
  exact (pef_var (pv 1))
  exact paf_nil
  rfl
  rfl
  with_unfolding_all rfl
  exact paf_nil
  rfl
  exact pgf_sub (pef_var (pv 1)) (pef_var (pv 2)) (dsetf hr.units)
  refine pssf_cons ?_ ?_
  refine psf_set (i := 3) ?_ ?_ ?_ ?_
  exact sc_law_winners.nd
  rfl
  first | exact Or.inl rfl | exact Or.inr rfl
  refine pef_ix ixf ?_ ?_ (fun _ _ => rfl)
  exact pef_ix ixf (pef_var (pv 0)) pef_int (fun _ _ => rfl)
  refine pef_callB callf_len ?_ T.n_len bb_len ?_
  rfl
  refine paf_c ?_ ?_ ?_
  exact (pef_var (pv 2))
  exact paf_nil
  rfl
  refine pssf_cons ?_ ?_
  refine psf_set (i := 4) ?_ ?_ ?_ ?_
  exact sc_law_winners.nd
  rfl
  first | exact Or.inl rfl | exact Or.inr rfl
  refine pef_lst ?_
  refine paf_c ?_ ?_ ?_
  refine pef_ix (dgetf hr.units) (pef_var (pv 1)) ?_ (fun _ _ => rfl)
  refine pef_op opf_add (pef_var (pv 2)) ?_
  refine pef_tup ?_
  refine paf_c ?_ ?_ ?_
  exact pef_bl
  exact paf_nil
  rfl
  refine paf_c ?_ ?_ ?_
  refine pef_ix (dgetf hr.units) (pef_var (pv 1)) ?_ (fun _ _ => rfl)
  refine pef_op opf_add (pef_var (pv 2)) ?_
  refine pef_tup ?_
  refine paf_c ?_ ?_ ?_
  exact pef_bl
  exact paf_nil
  rfl
  exact paf_nil
  rfl
  rfl
  refine pssf_cons ?_ pssf_nil
  refine psf_asg ?_ ?_
  refine pef_if ?_ (pef_var (pv 3)) ?_
  refine ptf_cmp (opf_in hr.units) (pef_var (pv 3)) (pef_var (pv 4)) ?_
  with_unfolding_all rfl
  exact pef_ix ixf (pef_var (pv 4)) pef_int (fun _ _ => rfl)
  exact pgf_sub (pef_var (pv 1)) (pef_var (pv 2)) (dsetf hr.units)
  refine pssf_cons ?_ pssf_nil
  exact psf_ret (pef_var (pv 1))
theorem ok_law_wins (T : Top K mg) (F_law_winners : Fn P w K mg base 2 "_law_winners" ["claim"] m_law_winners) : Fn P w K mg base 3 "_law_wins" ["claim", "numbers"] m_law_wins := by
  refine (fun h => h : _ → Fn P w K mg base 3 "_law_wins" ["claim", "numbers"] (runB 2 2 b_law_wins)) (fn_mk (N := ["claim", "numbers"]) (k := 2) T.t_law_wins sc_law_wins (fun _ _ _ _ _ _ us hl => by obtain ⟨_, _, rfl⟩ := us2 hl; rfl) ?_)
  intro f cdv A outer s H E hr
  unfold b_law_wins
  refine pssf_cons ?_ pssf_nil
  refine psf_ret ?_
  refine pef_ix (dgetf hr.units) ?_ ?_ (fun _ _ => rfl)
  refine pef_fn F_law_winners (hr.mono (by decide)) ?_ ?_
  rfl
  refine paf_c ?_ ?_ ?_
  refine pef_tup ?_
  refine paf_c ?_ ?_ ?_
  exact pef_ix ixf (pef_var (pv 0)) pef_int (fun _ _ => rfl)
  refine paf_c ?_ ?_ ?_
  refine pef_callTy callf_tuple ?_ T.n_tuple bb_tuple ?_
  rfl
  refine paf_c ?_ ?_ ?_
  refine pef_lc (cn := ["claim"]) ?_ (blk_fn (x := "k") (cn := ["claim"]) (ci := [0]) (by decide +kernel)) ?_ ?_ ?_
  rfl
  exact pif_seq (pef_var (pv 1))
  intro _ _ _ _ _ _
  exact ptsf_nil
  intro _ _ _ _ _ _
  refine pef_ix ixf ?_ (pef_var (pv 0)) (fun _ _ => rfl)
  exact pef_ix ixf (pef_var (pv 1)) pef_int (fun _ _ => rfl)
  exact paf_nil
  rfl
  exact paf_nil
  rfl
  rfl
  exact paf_nil
  rfl
  exact pef_tup paf_nil
theorem ok_law_lean (T : Top K mg) (F_law_wins : Fn P w K mg base 3 "_law_wins" ["claim", "numbers"] m_law_wins) : Fn P w K mg base 4 "_law_lean" ["claim"] m_law_lean := by
  refine (fun h => h : _ → Fn P w K mg base 4 "_law_lean" ["claim"] (runB 1 4 b_law_lean)) (fn_mk (N := ["claim", "stay", "k", "rest"]) (k := 3) T.t_law_lean sc_law_lean (fun _ _ _ _ _ _ us hl => by obtain ⟨_, rfl⟩ := us1 hl; rfl) ?_)
  intro f cdv A outer s H E hr
  unfold b_law_lean
  refine pssf_cons ?_ ?_
  refine psf_set (i := 1) ?_ ?_ ?_ ?_
  exact sc_law_lean.nd
  rfl
  first | exact Or.inl rfl | exact Or.inr rfl
  refine pef_listR1 ?_ ?_ T.n_list ?_ T.n_range ?_
  rfl
  rfl
  rfl
  refine paf_c ?_ ?_ ?_
  refine pef_callB callf_len ?_ T.n_len bb_len ?_
  rfl
  refine paf_c ?_ ?_ ?_
  exact pef_ix ixf (pef_var (pv 0)) pef_int (fun _ _ => rfl)
  exact paf_nil
  rfl
  exact paf_nil
  rfl
  refine pssf_cons ?_ ?_
  refine psf_for PassesOwn.never ?_ ?_ ?_ ?_
  rfl
  refine pif_rangeB ?_ T.n_range ?_
  rfl
  refine paf_c ?_ ?_ ?_
  refine pef_op opf_sub ?_ pef_int
  refine pef_callB callf_len ?_ T.n_len bb_len ?_
  rfl
  refine paf_c ?_ ?_ ?_
  exact pef_ix ixf (pef_var (pv 0)) pef_int (fun _ _ => rfl)
  exact paf_nil
  rfl
  refine paf_c ?_ ?_ ?_
  exact pef_un unf_neg pef_int
  refine paf_c ?_ ?_ ?_
  exact pef_un unf_neg pef_int
  exact paf_nil
  rfl
  rfl
  rfl
  refine pgf_name (i := 2) ?_ ?_ ?_
  exact sc_law_lean.nd
  rfl
  first | exact Or.inl rfl | exact Or.inr rfl
  refine pssf_cons ?_ ?_
  refine psf_lcset (i := 3) (cn := ["k"]) ?_ (blk_fn (x := "one") (cn := ["k"]) (ci := [2]) (by decide +kernel)) ?_ ?_ ?_ ?_ ?_ ?_
  rfl
  exact pif_seq (pef_var (pv 1))
  intro _ _ _ _ _ _
  refine ptsf_one ?_
  exact ptf_cmp (opf_ne hr.units) (pef_var (pv 0)) (pef_var (pv 1)) (nomark _)
  intro _ _ _ _ _ _
  exact (pef_var (pv 0))
  exact sc_law_lean.nd
  rfl
  rfl
  refine pssf_cons ?_ pssf_nil
  refine psf_if ?_ ?_ pssf_nil
  refine ptf_cmp (opf_eq hr.units) ?_ pef_str (nomark _)
  refine pef_fn F_law_wins (hr.mono (by decide)) ?_ ?_
  rfl
  refine paf_c ?_ ?_ ?_
  exact (pef_var (pv 0))
  refine paf_c ?_ ?_ ?_
  exact (pef_var (pv 3))
  exact paf_nil
  rfl
  rfl
  refine pssf_cons ?_ pssf_nil
  refine psf_set (i := 1) ?_ ?_ ?_ (pef_var (pv 3))
  exact sc_law_lean.nd
  rfl
  first | exact Or.inl rfl | exact Or.inr rfl
  refine pssf_cons ?_ pssf_nil
  exact psf_ret (pef_var (pv 1))
theorem ok_law_refused (T : Top K mg) (FX_lean : FnX P w K mg base 4 "lean" ["claim"] "NotWon" x_lean) : Fn P w K mg base 5 "_law_refused" ["claim"] m_law_refused := by
  refine (fun h => h : _ → Fn P w K mg base 5 "_law_refused" ["claim"] (runB 1 4 b_law_refused)) (fn_mk (N := ["claim", "word", "e", "others_v"]) (k := 4) T.t_law_refused sc_law_refused (fun _ _ _ _ _ _ us hl => by obtain ⟨_, rfl⟩ := us1 hl; rfl) ?_)
  intro f cdv A outer s H E hr
  unfold b_law_refused
  obtain ⟨C, cV, c0, c1, c2, c3, c4, c5, c6, R, m0, m1, m2, m3, m4, m5, m6⟩ := T.r_NotWon
  refine pssf_cons ?_ ?_
  refine psf_set (i := 1) ?_ ?_ ?_ pef_str
  exact sc_law_refused.nd
  rfl
  first | exact Or.inl rfl | exact Or.inr rfl
  refine pssf_cons ?_ ?_
  refine psf_ref (k := 4) (iE := 2) (iO := 3) (iW := 1) (cs := [c0, c1, c2, c3, c4, c5, c6]) (C := C) (cV := cV) (ps := ["claim"]) ?_ ?_ ?_ ?_ ?_ ?_ ?_ ?_ ?_ ?_ ?_ ?_ ?_ ?_ ?_ ?_
  exact R
  exact FX_lean
  exact hr.mono (by decide)
  refine paf_c ?_ ?_ ?_
  exact (pef_var (pv 0))
  exact paf_nil
  rfl
  exact fun _ _ => (pa_ref (by rfl) m0 (pa_ref (by rfl) m1 (pa_ref (by rfl) m2 (pa_ref (by rfl) m3 (pa_ref (by rfl) m4 (pa_ref (by rfl) m5 (pa_ref (by rfl) m6 pa_ref0)))))))
  exact (by decide : 7 ≤ 1000)
  exact T.n_isinstance
  exact T.n_int
  exact T.n_ValueError
  exact sc_law_refused.nd
  rfl
  rfl
  rfl
  rfl
  rfl
  rfl
  refine pssf_cons ?_ pssf_nil
  exact psf_ret (pef_var (pv 1))
theorem ok_law (T : Top K mg) (F_law_refused : Fn P w K mg base 5 "_law_refused" ["claim"] m_law_refused) (F_lean : Fn P w K mg base 4 "lean" ["claim"] m_lean) (F_law_lean : Fn P w K mg base 4 "_law_lean" ["claim"] m_law_lean) (F_law_wins : Fn P w K mg base 3 "_law_wins" ["claim", "numbers"] m_law_wins) (F_is_needless : Fn P w K mg base 3 "is_needless" ["claim", "k"] m_is_needless) (F_law_take : Fn P w K mg base 1 "_law_take" ["feed", "many"] m_law_take) (F_law_row : Fn P w K mg base 3 "_law_row" ["feed", "many"] m_law_row) (F_law_claim : Fn P w K mg base 4 "_law_claim" ["feed", "most", "rows"] m_law_claim) (F_law_feed : Fn P w K mg base 1 "_law_feed" ["script", "k"] m_law_feed) : Fn P w K mg base 6 "law" ["script"] m_law := by
  refine (fun h => h : _ → Fn P w K mg base 6 "law" ["script"] (runB 1 12 b_law)) (fn_mk (N := ["script", "k", "feed", "claim", "side", "number", "rows", "found", "due", "turn", "names", "most"]) (k := 5) T.t_law sc_law (fun _ _ _ _ _ _ us hl => by obtain ⟨_, rfl⟩ := us1 hl; rfl) ?_)
  intro f cdv A outer s H E hr
  unfold b_law
  refine pssf_cons ?_ ?_
  refine psf_for PassesOwn.never ?_ ?_ ?_ ?_
  rfl
  refine pif_range2 ?_ T.n_range ?_
  rfl
  refine paf_c ?_ ?_ ?_
  exact pef_int
  refine paf_c ?_ ?_ ?_
  refine pef_callB (callf_max (by rfl)) ?_ T.n_max bb_max ?_
  rfl
  refine paf_c ?_ ?_ ?_
  exact pef_int
  refine paf_c ?_ ?_ ?_
  refine pef_callB (callf_min (by rfl)) ?_ T.n_min bb_min ?_
  rfl
  refine paf_c ?_ ?_ ?_
  exact pef_int
  refine paf_c ?_ ?_ ?_
  refine pef_callB callf_len ?_ T.n_len bb_len ?_
  rfl
  refine paf_c ?_ ?_ ?_
  exact (pef_var (pv 0))
  exact paf_nil
  rfl
  exact paf_nil
  rfl
  rfl
  exact paf_nil
  rfl
  rfl
  exact paf_nil
  rfl
  rfl
  refine pgf_name (i := 1) ?_ ?_ ?_
  exact sc_law.nd
  rfl
  first | exact Or.inl rfl | exact Or.inr rfl
  refine pssf_cons ?_ ?_
  refine psf_set (i := 2) ?_ ?_ ?_ ?_
  exact sc_law.nd
  rfl
  first | exact Or.inl rfl | exact Or.inr rfl
  refine pef_fn F_law_feed (hr.mono (by decide)) ?_ ?_
  rfl
  refine paf_c ?_ ?_ ?_
  exact (pef_var (pv 0))
  refine paf_c ?_ ?_ ?_
  exact (pef_var (pv 1))
  exact paf_nil
  rfl
  rfl
  refine pssf_cons ?_ ?_
  refine psf_set (i := 3) ?_ ?_ ?_ ?_
  exact sc_law.nd
  rfl
  first | exact Or.inl rfl | exact Or.inr rfl
  refine pef_fn F_law_claim (hr.mono (by decide)) ?_ ?_
  rfl
  refine paf_c ?_ ?_ ?_
  exact (pef_var (pv 2))
  refine paf_c ?_ ?_ ?_
  exact pef_int
  refine paf_c ?_ ?_ ?_
  exact pef_int
  exact paf_nil
  rfl
  rfl
  rfl
  refine pssf_cons ?_ ?_
  refine psf_if ?_ ?_ ?_
  refine ptf_cmp (opf_eq hr.units) ?_ pef_int (nomark _)
  refine pef_fn F_law_take (hr.mono (by decide)) ?_ ?_
  rfl
  refine paf_c ?_ ?_ ?_
  exact (pef_var (pv 2))
  refine paf_c ?_ ?_ ?_
  exact pef_int
  exact paf_nil
  rfl
  rfl
  refine pssf_cons ?_ ?_
  refine psf_set (i := 3) ?_ ?_ ?_ ?_
  exact sc_law.nd
  rfl
  first | exact Or.inl rfl | exact Or.inr rfl
  refine pef_fn F_law_claim (hr.mono (by decide)) ?_ ?_
  rfl
  refine paf_c ?_ ?_ ?_
  exact (pef_var (pv 2))
  refine paf_c ?_ ?_ ?_
  exact pef_int
  refine paf_c ?_ ?_ ?_
  exact pef_int
  exact paf_nil
  rfl
  rfl
  rfl
  refine pssf_cons ?_ ?_
  refine psf_lcset (i := 6) (cn := ["feed", "claim"]) ?_ (blk_fn (x := "turn") (cn := ["feed", "claim"]) (ci := [2, 3]) (by decide +kernel)) ?_ ?_ ?_ ?_ ?_ ?_
  rfl
  refine pif_range1 ?_ T.n_range ?_
  rfl
  refine paf_c ?_ ?_ ?_
  exact pef_int
  exact paf_nil
  rfl
  intro _ _ _ _ _ _
  exact ptsf_nil
  intro _ _ _ _ _ _
  refine pef_fn F_law_row (hr.mono (by decide)) ?_ ?_
  rfl
  refine paf_c ?_ ?_ ?_
  exact (pef_var (pv 1))
  refine paf_c ?_ ?_ ?_
  refine pef_callB callf_len ?_ T.n_len bb_len ?_
  rfl
  refine paf_c ?_ ?_ ?_
  exact pef_ix ixf (pef_var (pv 2)) pef_int (fun _ _ => rfl)
  exact paf_nil
  rfl
  exact paf_nil
  rfl
  rfl
  exact sc_law.nd
  rfl
  rfl
  refine pssf_cons ?_ pssf_nil
  refine psf_set (i := 3) ?_ ?_ ?_ ?_
  exact sc_law.nd
  rfl
  first | exact Or.inl rfl | exact Or.inr rfl
  refine pef_tup ?_
  refine paf_c ?_ ?_ ?_
  exact pef_ix ixf (pef_var (pv 3)) pef_int (fun _ _ => rfl)
  refine paf_c ?_ ?_ ?_
  refine pef_slice ?_ pof_none ?_
  refine pef_op opf_add ?_ ?_
  exact pef_ix ixf (pef_var (pv 3)) pef_int (fun _ _ => rfl)
  refine pef_callTy callf_tuple ?_ T.n_tuple bb_tuple ?_
  rfl
  refine paf_c ?_ ?_ ?_
  exact (pef_var (pv 6))
  exact paf_nil
  rfl
  refine pof_some ?_
  refine pef_op opf_add pef_int ?_
  refine pef_fn F_law_take (hr.mono (by decide)) ?_ ?_
  rfl
  refine paf_c ?_ ?_ ?_
  exact (pef_var (pv 2))
  refine paf_c ?_ ?_ ?_
  exact pef_int
  exact paf_nil
  rfl
  rfl
  exact paf_nil
  rfl
  rfl
  refine pssf_cons ?_ pssf_nil
  refine psf_if ?_ ?_ pssf_nil
  refine ptf_cmp (opf_eq hr.units) ?_ pef_int (nomark _)
  refine pef_fn F_law_take (hr.mono (by decide)) ?_ ?_
  rfl
  refine paf_c ?_ ?_ ?_
  exact (pef_var (pv 2))
  refine paf_c ?_ ?_ ?_
  exact pef_int
  exact paf_nil
  rfl
  rfl
  refine pssf_cons ?_ ?_
  refine psf_asg ?_ ?_
  refine pef_ix ixf ?_ ?_ (fun _ _ => rfl)
  refine pef_lst ?_
  refine paf_c ?_ ?_ ?_
  refine pef_tup ?_
  refine paf_c ?_ ?_ ?_
  exact pef_int
  refine paf_c ?_ ?_ ?_
  exact pef_int
  exact paf_nil
  rfl
  rfl
  refine paf_c ?_ ?_ ?_
  refine pef_tup ?_
  refine paf_c ?_ ?_ ?_
  exact pef_int
  refine paf_c ?_ ?_ ?_
  exact pef_int
  exact paf_nil
  rfl
  rfl
  exact paf_nil
  rfl
  rfl
  refine pef_fn F_law_take (hr.mono (by decide)) ?_ ?_
  rfl
  refine paf_c ?_ ?_ ?_
  exact (pef_var (pv 2))
  refine paf_c ?_ ?_ ?_
  exact pef_int
  exact paf_nil
  rfl
  rfl
  refine pgf_tup ?_ ?_
  rfl
  refine pgsf_cons ?_ ?_
  refine pgf_name (i := 10) ?_ ?_ ?_
  exact sc_law.nd
  rfl
  first | exact Or.inl rfl | exact Or.inr rfl
  refine pgsf_cons ?_ pgsf_nil
  refine pgf_name (i := 11) ?_ ?_ ?_
  exact sc_law.nd
  rfl
  first | exact Or.inl rfl | exact Or.inr rfl
  refine pssf_cons ?_ pssf_nil
  refine psf_set (i := 3) ?_ ?_ ?_ ?_
  exact sc_law.nd
  rfl
  first | exact Or.inl rfl | exact Or.inr rfl
  refine pef_fn F_law_claim (hr.mono (by decide)) ?_ ?_
  rfl
  refine paf_c ?_ ?_ ?_
  exact (pef_var (pv 2))
  refine paf_c ?_ ?_ ?_
  exact (pef_var (pv 10))
  refine paf_c ?_ ?_ ?_
  exact (pef_var (pv 11))
  exact paf_nil
  rfl
  rfl
  rfl
  refine pssf_cons ?_ ?_
  refine psf_set (i := 4) ?_ ?_ ?_ ?_
  exact sc_law.nd
  rfl
  first | exact Or.inl rfl | exact Or.inr rfl
  refine pef_fn F_law_wins (hr.mono (by decide)) ?_ ?_
  rfl
  refine paf_c ?_ ?_ ?_
  exact (pef_var (pv 3))
  refine paf_c ?_ ?_ ?_
  refine pef_listR1 ?_ ?_ T.n_list ?_ T.n_range ?_
  rfl
  rfl
  rfl
  refine paf_c ?_ ?_ ?_
  refine pef_callB callf_len ?_ T.n_len bb_len ?_
  rfl
  refine paf_c ?_ ?_ ?_
  exact pef_ix ixf (pef_var (pv 3)) pef_int (fun _ _ => rfl)
  exact paf_nil
  rfl
  exact paf_nil
  rfl
  exact paf_nil
  rfl
  rfl
  refine pssf_cons ?_ ?_
  refine psf_for PassesOwn.never ?_ ?_ ?_ ?_
  rfl
  refine pif_range1 ?_ T.n_range ?_
  rfl
  refine paf_c ?_ ?_ ?_
  refine pef_callB callf_len ?_ T.n_len bb_len ?_
  rfl
  refine paf_c ?_ ?_ ?_
  exact pef_ix ixf (pef_var (pv 3)) pef_int (fun _ _ => rfl)
  exact paf_nil
  rfl
  exact paf_nil
  rfl
  refine pgf_name (i := 5) ?_ ?_ ?_
  exact sc_law.nd
  rfl
  first | exact Or.inl rfl | exact Or.inr rfl
  refine pssf_cons ?_ ?_
  refine psf_set (i := 7) ?_ ?_ ?_ ?_
  exact sc_law.nd
  rfl
  first | exact Or.inl rfl | exact Or.inr rfl
  refine pef_fn F_is_needless (hr.mono (by decide)) ?_ ?_
  rfl
  refine paf_c ?_ ?_ ?_
  exact (pef_var (pv 3))
  refine paf_c ?_ ?_ ?_
  exact (pef_var (pv 5))
  exact paf_nil
  rfl
  rfl
  refine pssf_cons ?_ ?_
  refine psf_set (i := 8) ?_ ?_ ?_ ?_
  exact sc_law.nd
  rfl
  first | exact Or.inl rfl | exact Or.inr rfl
  refine pef_cmp (opf_eq hr.units) ?_ (pef_var (pv 4)) (nomark _)
  refine pef_fn F_law_wins (hr.mono (by decide)) ?_ ?_
  rfl
  refine paf_c ?_ ?_ ?_
  exact (pef_var (pv 3))
  refine paf_c ?_ ?_ ?_
  refine pef_lc (cn := ["number"]) ?_ (blk_fn (x := "one") (cn := ["number"]) (ci := [5]) (by decide +kernel)) ?_ ?_ ?_
  rfl
  refine pif_range1 ?_ T.n_range ?_
  rfl
  refine paf_c ?_ ?_ ?_
  refine pef_callB callf_len ?_ T.n_len bb_len ?_
  rfl
  refine paf_c ?_ ?_ ?_
  exact pef_ix ixf (pef_var (pv 3)) pef_int (fun _ _ => rfl)
  exact paf_nil
  rfl
  exact paf_nil
  rfl
  intro _ _ _ _ _ _
  refine ptsf_one ?_
  exact ptf_cmp (opf_ne hr.units) (pef_var (pv 0)) (pef_var (pv 1)) (nomark _)
  intro _ _ _ _ _ _
  exact (pef_var (pv 0))
  exact paf_nil
  rfl
  rfl
  refine pssf_cons ?_ pssf_nil
  refine psf_if ?_ ?_ pssf_nil
  refine PWf.pt ?_
  refine pwf_or ?_ ?_
  refine ptf_not ?_
  refine ptf_truth ?_ (fun _ => rfl)
  refine pef_callB callf_isi ?_ T.n_isinstance bb_isinstance ?_
  rfl
  refine paf_c ?_ ?_ ?_
  exact (pef_var (pv 7))
  refine paf_c ?_ ?_ ?_
  refine pef_ty ?_ T.n_bool bb_bool
  rfl
  exact paf_nil
  rfl
  rfl
  refine pwf_or1 ?_
  exact ptf_cmp (opf_ne hr.units) (pef_var (pv 7)) (pef_var (pv 8)) (nomark _)
  refine pssf_cons ?_ pssf_nil
  exact psf_ret pef_bl
  refine pssf_cons ?_ pssf_nil
  refine psf_if ?_ ?_ ?_
  exact ptf_cmp (opf_eq hr.units) (pef_var (pv 4)) pef_str (nomark _)
  refine pssf_cons ?_ pssf_nil
  refine psf_if ?_ ?_ pssf_nil
  refine ptf_cmp (opf_ne hr.units) ?_ pef_str (nomark _)
  refine pef_fn F_law_refused (hr.mono (by decide)) ?_ ?_
  rfl
  refine paf_c ?_ ?_ ?_
  exact (pef_var (pv 3))
  exact paf_nil
  rfl
  refine pssf_cons ?_ pssf_nil
  exact psf_ret pef_bl
  refine pssf_cons ?_ ?_
  refine psf_set (i := 8) ?_ ?_ ?_ ?_
  exact sc_law.nd
  rfl
  first | exact Or.inl rfl | exact Or.inr rfl
  refine pef_fn F_law_lean (hr.mono (by decide)) ?_ ?_
  rfl
  refine paf_c ?_ ?_ ?_
  exact (pef_var (pv 3))
  exact paf_nil
  rfl
  refine pssf_cons ?_ pssf_nil
  refine psf_for PassesOwn.never ?_ ?_ ?_ ?_
  rfl
  refine pif_range1 ?_ T.n_range ?_
  rfl
  refine paf_c ?_ ?_ ?_
  exact pef_int
  exact paf_nil
  rfl
  refine pgf_name (i := 9) ?_ ?_ ?_
  exact sc_law.nd
  rfl
  first | exact Or.inl rfl | exact Or.inr rfl
  refine pssf_cons ?_ ?_
  refine psf_set (i := 7) ?_ ?_ ?_ ?_
  exact sc_law.nd
  rfl
  first | exact Or.inl rfl | exact Or.inr rfl
  refine pef_fn F_lean (hr.mono (by decide)) ?_ ?_
  rfl
  refine paf_c ?_ ?_ ?_
  exact (pef_var (pv 3))
  exact paf_nil
  rfl
  refine pssf_cons ?_ ?_
  refine psf_if ?_ ?_ pssf_nil
  refine PWf.pt ?_
  refine pwf_or ?_ ?_
  refine ptf_not ?_
  refine ptf_truth ?_ (fun _ => rfl)
  refine pef_callB callf_isi ?_ T.n_isinstance bb_isinstance ?_
  rfl
  refine paf_c ?_ ?_ ?_
  exact (pef_var (pv 7))
  refine paf_c ?_ ?_ ?_
  refine pef_ty ?_ T.n_list bb_list
  rfl
  exact paf_nil
  rfl
  rfl
  refine pwf_or1 ?_
  refine ptf_cmp (opf_ne hr.units) ?_ ?_ (nomark _)
  refine pef_callB (callf_repr hr) ?_ T.n_repr bb_repr ?_
  rfl
  refine paf_c ?_ ?_ ?_
  exact (pef_var (pv 7))
  exact paf_nil
  rfl
  refine pef_callB (callf_repr hr) ?_ T.n_repr bb_repr ?_
  rfl
  refine paf_c ?_ ?_ ?_
  exact (pef_var (pv 8))
  exact paf_nil
  rfl
  refine pssf_cons ?_ pssf_nil
  exact psf_ret pef_bl
  refine pssf_cons ?_ pssf_nil
  refine psf_expr ?_
  refine pef_lm PySem.F.slot_list_append PySem.F.type_list_append mtf_append (pef_var (pv 7)) ?_
  refine paf_c ?_ ?_ ?_
  exact pef_int
  exact paf_nil
  rfl
  refine pssf_cons ?_ pssf_nil
  exact psf_ret pef_bl
theorem ok_all (T : Top K mg) : Fn P w K mg base 6 "law" ["script"] m_law := by
  have F_plays_with_yes := ok_plays_with_yes (P := P) (w := w) (base := base) T
  have F_lost_plays := ok_lost_plays (P := P) (w := w) (base := base) T F_plays_with_yes
  have F_all_wins := ok_all_wins (P := P) (w := w) (base := base) T
  have F_all_wins_by := ok_all_wins_by (P := P) (w := w) (base := base) T F_all_wins
  have F_others := ok_others (P := P) (w := w) (base := base) T
  have F_is_needless := ok_is_needless (P := P) (w := w) (base := base) T F_all_wins_by F_others F_lost_plays
  have F_refuse_not_won := ok_refuse_not_won (P := P) (w := w) (base := base) T F_all_wins_by F_others
  have FX_refuse_not_won := okx_refuse_not_won (P := P) (w := w) (base := base) T F_all_wins_by F_others
  have F_lost_ahead := ok_lost_ahead (P := P) (w := w) (base := base) T
  have F_lean := ok_lean (P := P) (w := w) (base := base) T F_all_wins F_lost_ahead F_refuse_not_won F_lost_plays
  have FX_lean := okx_lean (P := P) (w := w) (base := base) T F_lost_plays FX_refuse_not_won
  have F_law_feed := ok_law_feed (P := P) (w := w) (base := base) T
  have F_law_take := ok_law_take (P := P) (w := w) (base := base) T
  have F_law_pick := ok_law_pick (P := P) (w := w) (base := base) T F_law_take
  have F_law_row := ok_law_row (P := P) (w := w) (base := base) T F_law_take F_law_pick
  have F_law_claim := ok_law_claim (P := P) (w := w) (base := base) T F_law_take F_law_pick F_law_row
  have F_law_kept := ok_law_kept (P := P) (w := w) (base := base) T
  have F_law_plays := ok_law_plays (P := P) (w := w) (base := base) T
  have F_law_winners := ok_law_winners (P := P) (w := w) (base := base) T F_law_plays F_law_kept
  have F_law_wins := ok_law_wins (P := P) (w := w) (base := base) T F_law_winners
  have F_law_lean := ok_law_lean (P := P) (w := w) (base := base) T F_law_wins
  have F_law_refused := ok_law_refused (P := P) (w := w) (base := base) T FX_lean
  have F_law := ok_law (P := P) (w := w) (base := base) T F_law_refused F_lean F_law_lean F_law_wins F_is_needless F_law_take F_law_row F_law_claim F_law_feed
  exact F_law
end
theorem walk {l : PySem.W.OpenLaw} {q : Program} {loose : List Str} {XP : (Str → Option Value) → Heap → Prop} {YP : World → Heap → Prop} {d : DefRec} {K : Params → PySem.W.Frag} (hn : l.most = some 63) (hdf : d.params.defaults = [])
    (hd : d.name = "law") (hY : ∀ (w : World) (h : Heap), YP w h → (K w.params).In h) (hT : ∀ (w : World) (mg : Str → Option Value) (h : Heap), (K w.params).In h → h.Ns mainGlobals mg → Top (K w.params) mg)
    (pure : ∀ ns : List Int, ns.length ≤ 63 → ∃ Hd', m_law [.fl (ns.map .int)] [] = some (.bl true, Hd')) : PySem.W.WalkO q loose XP YP l.row.toRowW d [] (fun f vs => PySem.call f vs) := by
  refine L2.walk_ofK (n := 63) (k := 6) (x := "script") (CX := CX0) (sp := spLaw m_law) hn (by decide) hdf ⟨rfl, by decide, by decide, rfl⟩ hY (fun w mg fa h KX G hmg => ?_) (law_start pure) (fun _ _ _ _ z => z)
  have T := hT w mg h KX G
  obtain ⟨f, fd, F, hm⟩ := T.t_law
  have e0 : f = fa := by rw [hd] at hmg; rw [hm] at hmg; cases hmg; rfl
  subst e0
  have B := F.binds (ps := ["script"]) (fun _ _ _ _ _ _ us hl => by obtain ⟨_, rfl⟩ := us1 hl; rfl)
  refine ⟨fd, fun s u => ?_, fun base kb nb => ?_⟩
  · obtain ⟨oc, od, kV, doc, pm, an, cdv, ct, osl, rfl, lk, hcd⟩ := F.ex
    exact .of_eq rfl
  · obtain ⟨f', fd', G1, hb, hk, hm', oc', od', osl', lk'⟩ := (ok_all (P := l.prog) (w := w) (base := base) T).ex
    have e1 : f' = f := by rw [hm] at hm'; cases hm'; rfl
    subst e1
    have e2 : fd' = fd := by
      obtain ⟨oc, od, kV, doc, pm, an, cdv, ct, osl, e3, lk, hcd⟩ := F.ex
      rw [lk] at lk'
      have e4 := Option.some.inj lk'
      injection e4 with _ _ e5 _
      injection e5 with e6
      exact e6.symm
    subst e2
    exact G1
end K08
open PySem PySem.W PyProof.Rows L2 DL
set_option maxRecDepth 100000 in
set_option maxHeartbeats 0 in
theorem PySem.Challenge.cw_allsome_k54_rows_needless_and_lean_holds : PySem.Challenge.rw_allsome_k54_rows_needless_and_lean.Holds := by
  w_on; o_law; refine holds_open (q := (PySem.Challenge.vwOf PySem.Challenge.pw_allsome_k54_rows_needless_and_lean)) (loose := []) (Xt := PySem.Challenge.xt0) (XP := XL (PySem.Challenge.vwOf PySem.Challenge.pw_allsome_k54_rows_needless_and_lean) []) (Yf := Hook.obs PySem.Challenge.hk0) (Ya := Hook.val PySem.Challenge.hk0) (YP := InK PySem.Challenge.mk0.heap_39) (N := 5422) PySem.Challenge.left0 (Hook.of PySem.Challenge.hk0) (Hook.keeps PySem.Challenge.hk0) (fun s e => xl_of s (Bool.and_eq_true_iff.mp e).1) XL.keeps (by rfl) (by rfl) (by rfl) (fun s e => recFacts_of (Bool.and_eq_true_iff.mp e).2) (by rfl) (by assumption) (by decide +kernel) ⟨rfl, rfl, rfl, rfl, rfl, by decide +kernel⟩ ?hw ?hc
  (case hw => w_witness2)
  k_fill
  refine K08.walk (l := PySem.Challenge.rw_allsome_k54_rows_needless_and_lean) rfl rfl rfl (fun w h Y => Y) ?T K08.pure_law
  case T =>
    intro w mg h KX G
    have t_plays_with_yes : Tf (L2.KOf KX) mg "plays_with_yes" K08.s_plays_with_yes := by
      dsimp only [L2.KOf]
      refine' tf_mk KX G ?a ?l ?c ?k
      (case a => k_is); (case l => k_is); (case c => k_is); (case k => k_is)
    have t_lost_plays : Tf (L2.KOf KX) mg "lost_plays" K08.s_lost_plays := by
      dsimp only [L2.KOf]
      refine' tf_mk KX G ?a ?l ?c ?k
      (case a => k_is); (case l => k_is); (case c => k_is); (case k => k_is)
    have t_all_wins : Tf (L2.KOf KX) mg "all_wins" K08.s_all_wins := by
      dsimp only [L2.KOf]
      refine' tf_mk KX G ?a ?l ?c ?k
      (case a => k_is); (case l => k_is); (case c => k_is); (case k => k_is)
    have t_all_wins_by : Tf (L2.KOf KX) mg "all_wins_by" K08.s_all_wins_by := by
      dsimp only [L2.KOf]
      refine' tf_mk KX G ?a ?l ?c ?k
      (case a => k_is); (case l => k_is); (case c => k_is); (case k => k_is)
    have t_others : Tf (L2.KOf KX) mg "others" K08.s_others := by
      dsimp only [L2.KOf]
      refine' tf_mk KX G ?a ?l ?c ?k
      (case a => k_is); (case l => k_is); (case c => k_is); (case k => k_is)
    have t_is_needless : Tf (L2.KOf KX) mg "is_needless" K08.s_is_needless := by
      dsimp only [L2.KOf]
      refine' tf_mk KX G ?a ?l ?c ?k
      (case a => k_is); (case l => k_is); (case c => k_is); (case k => k_is)
    have t_refuse_not_won : Tf (L2.KOf KX) mg "refuse_not_won" K08.s_refuse_not_won := by
      dsimp only [L2.KOf]
      refine' tf_mk KX G ?a ?l ?c ?k
      (case a => k_is); (case l => k_is); (case c => k_is); (case k => k_is)
    have t_lost_ahead : Tf (L2.KOf KX) mg "lost_ahead" K08.s_lost_ahead := by
      dsimp only [L2.KOf]
      refine' tf_mk KX G ?a ?l ?c ?k
      (case a => k_is); (case l => k_is); (case c => k_is); (case k => k_is)
    have t_lean : Tf (L2.KOf KX) mg "lean" K08.s_lean := by
      dsimp only [L2.KOf]
      refine' tf_mk KX G ?a ?l ?c ?k
      (case a => k_is); (case l => k_is); (case c => k_is); (case k => k_is)
    have t_law_feed : Tf (L2.KOf KX) mg "_law_feed" K08.s_law_feed := by
      dsimp only [L2.KOf]
      refine' tf_mk KX G ?a ?l ?c ?k
      (case a => k_is); (case l => k_is); (case c => k_is); (case k => k_is)
    have t_law_take : Tf (L2.KOf KX) mg "_law_take" K08.s_law_take := by
      dsimp only [L2.KOf]
      refine' tf_mk KX G ?a ?l ?c ?k
      (case a => k_is); (case l => k_is); (case c => k_is); (case k => k_is)
    have t_law_pick : Tf (L2.KOf KX) mg "_law_pick" K08.s_law_pick := by
      dsimp only [L2.KOf]
      refine' tf_mk KX G ?a ?l ?c ?k
      (case a => k_is); (case l => k_is); (case c => k_is); (case k => k_is)
    have t_law_row : Tf (L2.KOf KX) mg "_law_row" K08.s_law_row := by
      dsimp only [L2.KOf]
      refine' tf_mk KX G ?a ?l ?c ?k
      (case a => k_is); (case l => k_is); (case c => k_is); (case k => k_is)
    have t_law_claim : Tf (L2.KOf KX) mg "_law_claim" K08.s_law_claim := by
      dsimp only [L2.KOf]
      refine' tf_mk KX G ?a ?l ?c ?k
      (case a => k_is); (case l => k_is); (case c => k_is); (case k => k_is)
    have t_law_kept : Tf (L2.KOf KX) mg "_law_kept" K08.s_law_kept := by
      dsimp only [L2.KOf]
      refine' tf_mk KX G ?a ?l ?c ?k
      (case a => k_is); (case l => k_is); (case c => k_is); (case k => k_is)
    have t_law_plays : Tf (L2.KOf KX) mg "_law_plays" K08.s_law_plays := by
      dsimp only [L2.KOf]
      refine' tf_mk KX G ?a ?l ?c ?k
      (case a => k_is); (case l => k_is); (case c => k_is); (case k => k_is)
    have t_law_winners : Tf (L2.KOf KX) mg "_law_winners" K08.s_law_winners := by
      dsimp only [L2.KOf]
      refine' tf_mk KX G ?a ?l ?c ?k
      (case a => k_is); (case l => k_is); (case c => k_is); (case k => k_is)
    have t_law_wins : Tf (L2.KOf KX) mg "_law_wins" K08.s_law_wins := by
      dsimp only [L2.KOf]
      refine' tf_mk KX G ?a ?l ?c ?k
      (case a => k_is); (case l => k_is); (case c => k_is); (case k => k_is)
    have t_law_lean : Tf (L2.KOf KX) mg "_law_lean" K08.s_law_lean := by
      dsimp only [L2.KOf]
      refine' tf_mk KX G ?a ?l ?c ?k
      (case a => k_is); (case l => k_is); (case c => k_is); (case k => k_is)
    have t_law_refused : Tf (L2.KOf KX) mg "_law_refused" K08.s_law_refused := by
      dsimp only [L2.KOf]
      refine' tf_mk KX G ?a ?l ?c ?k
      (case a => k_is); (case l => k_is); (case c => k_is); (case k => k_is)
    have t_law : Tf (L2.KOf KX) mg "law" K08.s_law := by
      dsimp only [L2.KOf]
      refine' tf_mk KX G ?a ?l ?c ?k
      (case a => k_is); (case l => k_is); (case c => k_is); (case k => k_is)
    have n_ValueError : mg "ValueError" = none := by
      refine' PySem.W.mg_none_of KX G ?z
      (case z => k_is)
    have n_abs : mg "abs" = none := by
      refine' PySem.W.mg_none_of KX G ?z
      (case z => k_is)
    have n_bool : mg "bool" = none := by
      refine' PySem.W.mg_none_of KX G ?z
      (case z => k_is)
    have n_int : mg "int" = none := by
      refine' PySem.W.mg_none_of KX G ?z
      (case z => k_is)
    have n_isinstance : mg "isinstance" = none := by
      refine' PySem.W.mg_none_of KX G ?z
      (case z => k_is)
    have n_len : mg "len" = none := by
      refine' PySem.W.mg_none_of KX G ?z
      (case z => k_is)
    have n_list : mg "list" = none := by
      refine' PySem.W.mg_none_of KX G ?z
      (case z => k_is)
    have n_max : mg "max" = none := by
      refine' PySem.W.mg_none_of KX G ?z
      (case z => k_is)
    have n_min : mg "min" = none := by
      refine' PySem.W.mg_none_of KX G ?z
      (case z => k_is)
    have n_range : mg "range" = none := by
      refine' PySem.W.mg_none_of KX G ?z
      (case z => k_is)
    have n_repr : mg "repr" = none := by
      refine' PySem.W.mg_none_of KX G ?z
      (case z => k_is)
    have n_reversed : mg "reversed" = none := by
      refine' PySem.W.mg_none_of KX G ?z
      (case z => k_is)
    have n_sorted : mg "sorted" = none := by
      refine' PySem.W.mg_none_of KX G ?z
      (case z => k_is)
    have n_tuple : mg "tuple" = none := by
      refine' PySem.W.mg_none_of KX G ?z
      (case z => k_is)
    have r_NotWon : ∃ C cV c0 c1 c2 c3 c4 c5 c6, Refu (L2.KOf KX) mg "NotWon" "ClaimError" C cV [c0, c1, c2, c3, c4, c5, c6] ∧ mg "NoBack" = some (.ref c0) ∧ mg "NoLine" = some (.ref c1) ∧ mg "NoPick" = some (.ref c2) ∧ mg "NoRow" = some (.ref c3) ∧ mg "NoStep" = some (.ref c4) ∧ mg "NoText" = some (.ref c5) ∧ mg "TooMany" = some (.ref c6) := by
      dsimp only [L2.KOf]
      refine' ⟨_, _, _, _, _, _, _, _, _, refu_mk KX G ?za ?zb ?zf ?zg ?zh ?zi ?zj ?zl ?zm ?zn ?zo ?zp ?zq ?zr ?zs, mg_ref KX G ?zc0, mg_ref KX G ?zc1, mg_ref KX G ?zc2, mg_ref KX G ?zc3, mg_ref KX G ?zc4, mg_ref KX G ?zc5, mg_ref KX G ?zc6⟩
      (case za => k_is); (case zb => k_is)
      (case zc0 => k_is); (case zc1 => k_is); (case zc2 => k_is); (case zc3 => k_is); (case zc4 => k_is); (case zc5 => k_is); (case zc6 => k_is)
      (case zf => k_is); (case zg => k_is); (case zh => k_is); (case zi => k_is); (case zj => k_is); (case zl => k_is); (case zm => k_is); (case zn => k_is); (case zo => k_is)
      (case zp => kernel_rfl); (case zq => kernel_rfl); (case zr => kernel_rfl); (case zs => kernel_rfl)
    exact ⟨t_plays_with_yes, t_lost_plays, t_all_wins, t_all_wins_by, t_others, t_is_needless, t_refuse_not_won, t_lost_ahead, t_lean, t_law_feed, t_law_take, t_law_pick, t_law_row, t_law_claim, t_law_kept, t_law_plays, t_law_winners, t_law_wins, t_law_lean, t_law_refused, t_law, n_ValueError, n_abs, n_bool, n_int, n_isinstance, n_len, n_list, n_max, n_min, n_range, n_repr, n_reversed, n_sorted, n_tuple, r_NotWon⟩
