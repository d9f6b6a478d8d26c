import PyProof.Rows.All
import Wide.All
import OpenK.AllK
import Wide.FinOn
import Lean
import PyProof.EqAt
import PyProof.EqKinds
import PyProof.TupleCall
import KE.KDictList
import KE.KDictOf
import KE.KIntText
import KE.KItemsList
import KE.KSortKey
import KE.KSortTup
import KE.KTryMore
import PyProof.AttrMissHeap
import PyProof.AutoSeq1
import PyProof.ExcAttrAll.ValueError
import PyProof.FitsBits
import PyProof.MeetsStr2
import PyProof.MinMaxWalk
import PyProof.P3Eq
import PyProof.P3In
import PyProof.ReprLen
import PyProof.Rows.DictRows
import PyProof.Rows.Own
import PyProof.Rows.RuleB_bool
import PyProof.Rows.TupIter
import PyProof.SeqI3
import PyProof.StrBlockG
import PyProof.StrLawsChain
import PyProof.StrOps2
import PyProof.StrWalks
import PyProof.SumWalkG
import PyProof.TupleOfSeq
import PyProof.WalkInts
import PySem.Challenge.RW_allsome_k77_claims_written_and_read
set_option Elab.async false
set_option compiler.extract_closed false
set_option bootstrap.genMatcherCode false
set_option linter.all false
set_option maxRecDepth 100000
section
open PySem PySem.W PyProof.Rows
noncomputable def PySem.Challenge.vwOf (p : Program) : Program := { p with main := { p.main with body := [1, 2, 3, 4, 5, 6, 8, 9, 11, 12, 13, 14, 15, 16, 17, 18, 19, 21, 22, 23, 24, 25, 26, 27, 28, 29, 30].filterMap fun i => p.main.body[i]? } }
local macro_rules | `(tactic| o_head $_) => `(tactic| exact False.elim (by assumption))
set_option maxRecDepth 100000 in
set_option maxHeartbeats 0 in
theorem PySem.Challenge.mk0 : False → PySem.Challenge.rw_allsome_k77_claims_written_and_read.Holds := by
  intro f; w_on; o_law; k_head
noncomputable def PySem.Challenge.hk0 : Hook := kHook PySem.Challenge.mk0.heap_39 [2, 3, 15, 16, 18, 19, 21, 22, 23, 26, 27, 28, 30, 31, 33, 34, 35, 42, 43, 44, 45, 48, 55, 57, 58, 60, 61, 62, 63, 64, 67, 70, 71, 72, 75, 76, 77, 80, 81, 82, 84, 85, 87, 88, 89, 92, 93, 94, 96, 97, 99, 100, 101, 103, 104, 106, 107, 108, 110, 111, 113, 114, 115, 117, 118, 120, 121, 122, 124, 125, 127, 128, 129, 131, 132, 134, 135, 136, 138, 139, 141, 142, 143, 146, 147, 148, 150, 151, 153, 154, 155, 158, 159, 160, 162, 163, 165, 166, 167, 170, 171] (fun _ => by kernel_rfl)
noncomputable def PySem.Challenge.xt0 (s : Shared) : Bool := xlAt (PySem.Challenge.vwOf PySem.Challenge.pw_allsome_k77_claims_written_and_read) [] s && recOk (RowW.records (OpenRow.toRowW (OpenLaw.row PySem.Challenge.rw_allsome_k77_claims_written_and_read))) s
set_option maxRecDepth 100000 in
theorem PySem.Challenge.left0 : LeftO (OpenLaw.row PySem.Challenge.rw_allsome_k77_claims_written_and_read).prog (PySem.Challenge.vwOf PySem.Challenge.pw_allsome_k77_claims_written_and_read) [] PySem.Challenge.xt0 PySem.Challenge.hk0.obs PySem.Challenge.hk0.val 2340 := by
  intro w
  unfold PySem.Challenge.xt0
  rewrite [PySem.W.Fast.te4187177175401517315, PySem.W.Fast.te5923862056798008813, PySem.W.Fast.te2368527892694137696, PySem.W.Fast.te12728236105792072155, PySem.W.Fast.te11903589704871476931, PySem.W.Fast.te14364793385576792824]
  kernel_rfl
end
namespace L2
open PySem PySem.Spec PyProof.Rows
noncomputable abbrev Key := Sum Int Str
noncomputable def keyIs : Key → Value → Bool
  | .inl k, v => Value.isInt k v
  | .inr x, v => Value.isStrOf x v
noncomputable def keyH (w : World) : Key → Int
  | .inl k => hashInt k
  | .inr x => hashStr w x
theorem keyIs_shape : ∀ {k : Key} {v : Value}, keyIs k v = true → (∃ i t, k = Sum.inl i ∧ v = Value.int i t) ∨ (∃ x t, k = Sum.inr x ∧ v = Value.str x t)
  | .inl i, v, h => by
    obtain ⟨t, e⟩ := Value.isInt_shape (k := i) (v := v) h
    exact .inl ⟨i, t, rfl, e⟩
  | .inr x, v, h => by
    obtain ⟨t, e⟩ := Value.isStrOf_shape (x := x) (v := v) h
    exact .inr ⟨x, t, rfl, e⟩
theorem key_ll (a b : Int) : decide ((Sum.inl a : Key) = Sum.inl b) = (a == b) := by
  by_cases e : a = b
  · subst e; simp
  · have h : ¬ (Sum.inl a : Key) = Sum.inl b := fun q => e (Sum.inl.inj q)
    rw [decide_eq_false h]
    exact (beq_eq_false_iff_ne.mpr e).symm
theorem key_rr (a b : Str) : decide ((Sum.inr a : Key) = Sum.inr b) = decide (a = b) := by
  by_cases e : a = b
  · subst e; simp
  · have h : ¬ (Sum.inr a : Key) = Sum.inr b := fun q => e (Sum.inr.inj q)
    rw [decide_eq_false h, decide_eq_false e]
theorem key_lr (a : Int) (b : Str) : decide ((Sum.inl a : Key) = Sum.inr b) = false := decide_eq_false (fun q => nomatch q)
theorem key_rl (a : Str) (b : Int) : decide ((Sum.inr a : Key) = Sum.inl b) = false := decide_eq_false (fun q => nomatch q)
noncomputable def mixKind (prog : Program) (w : World) : PySem.KeyKind prog w Key where
  is := keyIs
  hash := keyH w
  inj := fun v a b ha hb => by
    rcases keyIs_shape ha with ⟨i, t, rfl, rfl⟩ | ⟨x, t, rfl, rfl⟩
    · rcases keyIs_shape hb with ⟨j, u, rfl, e⟩ | ⟨y, u, rfl, e⟩
      · injection e with e1 _; rw [e1]
      · exact nomatch e
    · rcases keyIs_shape hb with ⟨j, u, rfl, e⟩ | ⟨y, u, rfl, e⟩
      · exact nomatch e
      · injection e with e1 _; rw [e1]
  byValue := fun k v h => by
    rcases keyIs_shape h with ⟨i, t, rfl, rfl⟩ | ⟨x, t, rfl, rfl⟩ <;> rfl
  pyHash := fun hv h => by
    rcases keyIs_shape hv with ⟨i, t, rfl, rfl⟩ | ⟨x, t, rfl, rfl⟩
    · exact wpAny_pyHash_int h
    · exact wpAny_pyHash_str h
  eqBool := fun hu hv h => by
    rcases keyIs_shape hu with ⟨i, t, rfl, rfl⟩ | ⟨x, t, rfl, rfl⟩
    · rcases keyIs_shape hv with ⟨j, u, rfl, rfl⟩ | ⟨y, u, rfl, rfl⟩
      · rw [key_ll] at h; exact wpAny_eqBool_int h
      · rw [key_lr] at h; exact SeqAt.EqAt.int_str i t y u _ _ _ _ h
    · rcases keyIs_shape hv with ⟨j, u, rfl, rfl⟩ | ⟨y, u, rfl, rfl⟩
      · rw [key_rl] at h; exact SeqAt.EqAt.str_int x t j u _ _ _ _ h
      · rw [key_rr] at h; exact wpAny_eqBool_str h
  «strs» := fun k x t v h => by
    rcases keyIs_shape h with ⟨i, u, rfl, e⟩ | ⟨y, u, rfl, e⟩
    · exact nomatch e
    · injection e with e1 _
      subst e1
      cases v <;> rfl
end L2
namespace L2
open PySem PySem.Spec PyProof.Rows
inductive V where
  | non | bl (b : Bool) | int (i : Int) | str (x : Str) | byt (b : Array UInt8) | flt (b : UInt64) | ref (a : Addr) | ty (n : String)
noncomputable def RelV : V → Value → Prop
  | .non, u => u = Value.none
  | .bl b, u => u = Value.bool b
  | .int i, u => ∃ t, u = Value.int i t
  | .str x, u => ∃ t, u = Value.str x t
  | .byt b, u => ∃ t, u = Value.bytes b t
  | .flt b, u => ∃ t, u = Value.float b t
  | .ref a, u => u = Value.ref a
  | .ty n, u => u = Value.type n
noncomputable abbrev Vals : List V → List Value → Prop := Paired RelV
theorem Vals.length {xs : List V} {us : List Value} (r : Vals xs us) : xs.length = us.length := Paired.length r
theorem Vals.get : ∀ {xs : List V} {us : List Value} {i : Nat} {x : V}, Vals xs us → xs[i]? = some x → ∃ u, us[i]? = some u ∧ RelV x u
  | _, _, _, _, .nil, e => by simp at e
  | _, _, 0, _, .cons r _, e => by simp at e; subst e; exact ⟨_, rfl, r⟩
  | _, _, i + 1, x, .cons _ t, e => by
    obtain ⟨u, h1, h2⟩ := Vals.get (i := i) (x := x) t (by simpa using e)
    exact ⟨u, by simpa using h1, h2⟩
theorem Vals.set {x : V} {u : Value} (r : RelV x u) : ∀ {xs : List V} {us : List Value} (i : Nat), Vals xs us → Vals (xs.set i x) (us.set i u)
  | _, _, _, .nil => .nil
  | _, _, 0, .cons _ t => .cons r t
  | _, _, i + 1, .cons q t => .cons q (Vals.set r i t)
theorem Vals.append : ∀ {xs ys : List V} {us ws : List Value}, Vals xs us → Vals ys ws → Vals (xs ++ ys) (us ++ ws)
  | _, _, _, _, .nil, s => s
  | _, _, _, _, .cons r t, s => .cons r (Vals.append t s)
theorem Vals.take : ∀ {xs : List V} {us : List Value} (n : Nat), Vals xs us → Vals (xs.take n) (us.take n)
  | _, _, 0, _ => .nil
  | _, _, _ + 1, .nil => .nil
  | _, _, n + 1, .cons r t => .cons r (Vals.take n t)
theorem Vals.drop : ∀ {xs : List V} {us : List Value} (n : Nat), Vals xs us → Vals (xs.drop n) (us.drop n)
  | _, _, 0, r => r
  | _, _, _ + 1, .nil => .nil
  | _, _, n + 1, .cons _ t => Vals.drop n t
noncomputable def RelO : Option V → Option Value → Prop
  | some v, some u => RelV v u
  | none, none => True
  | _, _ => False
noncomputable def KV {κ : Type} : List (κ × V) → List (κ × Value) → Prop := Paired fun (p : κ × V) (q : κ × Value) => p.1 = q.1 ∧ RelV p.2 q.2
noncomputable def kV : Key → V
  | .inl i => .int i
  | .inr x => .str x
inductive HO where
  | lst (xs : List V)
  | tup (xs : List V)
  | dK (kvs : List (Key × V)) | dT (kvs : List (List Key × V))
  | set (S : Int → Bool) (n : Nat)
  | ins (C dx : Addr) (fs : List (Str × V))
  | own (x : Addr)
  | xd (fs : List (Str × V))
  | met (f x : Addr)
  | rng (lo hi : Int)
  | frz (o : Obj) (u : HO)
  | tbl (ps : Array Value)
  | ext (φ : Heap → Prop)
noncomputable abbrev Hp := Addr → Option HO
noncomputable def upd (H : Hp) (a : Addr) (o : HO) : Hp := fun b => if b = a then some o else H b
theorem upd_same {H : Hp} {a : Addr} {o : HO} : upd H a o a = some o := by unfold upd; rw [if_pos rfl]
theorem upd_ne {H : Hp} {a b : Addr} {o : HO} (h : b ≠ a) : upd H a o b = H b := by unfold upd; rw [if_neg h]
theorem ne_of {H : Hp} {a b : Addr} {o u : HO} (h : H a = some o) (h' : H b = some u) (d : o ≠ u) : a ≠ b := by
  intro e; subst e; rw [h] at h'; exact d (Option.some.inj h')
theorem ne_of_none {H : Hp} {a b : Addr} {o : HO} (h : H a = some o) (h' : H b = none) : a ≠ b := by
  intro e; subst e; rw [h] at h'; cases h'
noncomputable def IsTuN (h : Heap) (a : Addr) (items : Array Value) : Prop := ∃ o, h.get? a = some o ∧ o.cls = .type "tuple" ∧ (∃ n, o.data = .seq items n) ∧ o.dict = none
theorem IsTuN.new (h : Heap) (items : Array Value) : IsTuN (h.push { cls := .type "tuple", data := .seq items }) h.objs.size items := ⟨_, Heap.get?_push_size _ rfl, rfl, ⟨_, rfl⟩, rfl⟩
theorem IsTuN.tup {h : Heap} {a : Addr} {items : Array Value} (x : IsTuN h a items) : IsTup h a items := let ⟨o, e, c, d, _⟩ := x; ⟨o, e, c, d⟩
section
variable (P : Program) (w : World)
noncomputable def ObjOk (H : Hp) (h : Heap) (a : Addr) : HO → Prop
  | .lst xs => xs.length ≤ sizeLine ∧ ∃ (its : List Value) (n : Nat), Vals xs its ∧ h.get? a = some { cls := .type "list", data := .seq its.toArray n }
  | .tup xs => xs.length ≤ sizeLine ∧ ∃ its : List Value, Vals xs its ∧ IsTuN h a its.toArray
  | .dK kvs => kvs.length ≤ sizeLine ∧ (a == sysModules) = false ∧ ∃ vs, KV kvs vs ∧ h.DictOf (mixKind P w) a vs
  | .dT kvs => kvs.length ≤ sizeLine ∧ (a == sysModules) = false ∧ ∃ xs : List (List Key × Addr × Value),
      Paired (fun (p : List Key × V) (q : List Key × Addr × Value) => p.1 = q.1 ∧ H q.2.1 = some (.tup (p.1.map kV)) ∧ RelV p.2 q.2.2) kvs xs ∧
      ∃ o es ep, h.get? a = some o ∧ o.ExactDict ∧ o.data = .dict es ep ∧ es.toList = xs.map (entryOfKey (tupleKind (mixKind P w))) ∧ (xs.map (·.1)).Nodup
  | .set S n => h.SetOf (intKind P w) a S n
  | .ins C dx fs => H dx = some (.own a) ∧ fs.length ≤ 1000 ∧ dx ≠ a ∧ h.get? a = some (PySem.W.instObj C dx) ∧
      ∃ mA, h.Ns1 dx mA ∧ (∀ f, RelO (fs.lookup f) (mA f)) ∧ PySem.Within mA (fs.map (·.1))
  | .own _ => ∃ o, h.get? a = some o
  | .xd fs => ∃ mA, h.Ns1 a mA ∧ ∀ f, RelO (fs.lookup f) (mA f)
  | .rng lo hi => ∃ t u v, h.get? a = some { cls := .type "range", data := .fields #[.int lo t, .int hi u, .int 1 v] }
  | .frz o u => h.get? a = some o ∧ ObjOk H h a u
  | .tbl ps => h.get? a = some { cls := .none, data := .fields ps }
  | .met f x => h.get? a = some (PySem.W.methodObj (.ref f) (.ref x))
  | .ext φ => φ h ∧ (∃ o, h.get? a = some o) ∧ ∀ h1 h2 : Heap, φ h1 → (∀ o, h1.get? a = some o → h2.get? a = some o) → φ h2
noncomputable def HOk (H : Hp) (h : Heap) : Prop := ∀ a o, H a = some o → ObjOk P w H h a o
end
section
variable {P : Program} {w : World} {H H' : Hp} {h h' : Heap} {a : Addr} {o : HO}
theorem ObjOk.lt (x : ObjOk P w H h a o) : a < h.objs.size := by
  cases o with
  | lst xs => obtain ⟨_, _, _, _, e⟩ := x; exact Heap.lt_size e
  | tup xs => obtain ⟨_, _, _, p⟩ := x; exact p.tup.lt
  | dK kvs => obtain ⟨_, _, _, _, o, _, _, e, _⟩ := x; exact Heap.lt_size e
  | dT kvs => obtain ⟨_, _, _, _, o, _, _, e, _⟩ := x; exact Heap.lt_size e
  | set S n => obtain ⟨o, _, _, _, e, _⟩ := x; exact Heap.lt_size e
  | ins C dx fs => obtain ⟨_, _, _, e, _⟩ := x; exact Heap.lt_size e
  | own y => obtain ⟨_, e⟩ := x; exact Heap.lt_size e
  | xd fs => obtain ⟨_, ⟨_, _, _, e, _⟩, _⟩ := x; exact Heap.lt_size e
  | rng lo hi => obtain ⟨_, _, _, e⟩ := x; exact Heap.lt_size e
  | frz ob u => obtain ⟨e, _⟩ := x; exact Heap.lt_size e
  | tbl ps => exact Heap.lt_size (show h.get? a = some _ from x)
  | met f y => exact Heap.lt_size (show h.get? a = some _ from x)
  | ext φ => obtain ⟨_, ⟨_, e⟩, _⟩ := x; exact Heap.lt_size e
theorem Paired.mapP {α β : Type} {F G : α → β → Prop} : ∀ {l₁ : List α} {l₂ : List β}, Paired F l₁ l₂ → (∀ a b, F a b → G a b) → Paired G l₁ l₂
  | _, _, .nil, _ => .nil
  | _, _, .cons r t, f => .cons (f _ _ r) (Paired.mapP t f)
theorem ObjOk.stay (x : ObjOk P w H h a o) (k : ∀ b u, (b = a ∨ H b = some (.own a)) → h.get? b = some u → h'.get? b = some u)
    (ho : ∀ b, H b = some (.own a) → H' b = some (.own a)) (ht : ∀ b xs, H b = some (.tup xs) → H' b = some (.tup xs)) : ObjOk P w H' h' a o := by
  induction o with
  | lst xs => obtain ⟨z, its, n, r, e⟩ := x; exact ⟨z, its, n, r, k _ _ (.inl rfl) e⟩
  | tup xs => obtain ⟨z, its, r, ob, e, c⟩ := x; exact ⟨z, its, r, ob, k _ _ (.inl rfl) e, c⟩
  | dK kvs => obtain ⟨z, y, vs, r, ob, es, ep, e, c⟩ := x; exact ⟨z, y, vs, r, ob, es, ep, k _ _ (.inl rfl) e, c⟩
  | dT kvs =>
    obtain ⟨z, y, xs, r, ob, es, ep, e, c⟩ := x
    exact ⟨z, y, xs, Paired.mapP r fun p q z => ⟨z.1, ht _ _ z.2.1, z.2.2⟩, ob, es, ep, k _ _ (.inl rfl) e, c⟩
  | set S n => obtain ⟨ob, es, ep, t, e, c⟩ := x; exact ⟨ob, es, ep, t, k _ _ (.inl rfl) e, c⟩
  | ins C dx fs =>
    obtain ⟨d, z, ne, e, mA, ⟨od, es, ep, e2, c⟩, r⟩ := x
    exact ⟨ho _ d, z, ne, k _ _ (.inl rfl) e, mA, ⟨od, es, ep, k _ _ (.inr d) e2, c⟩, r⟩
  | own y => obtain ⟨ob, e⟩ := x; exact ⟨ob, k _ _ (.inl rfl) e⟩
  | xd fs => obtain ⟨mA, ⟨od, es, ep, e, c⟩, r⟩ := x; exact ⟨mA, ⟨od, es, ep, k _ _ (.inl rfl) e, c⟩, r⟩
  | rng lo hi => obtain ⟨t, u, v, e⟩ := x; exact ⟨t, u, v, k _ _ (.inl rfl) e⟩
  | frz ob u ih => obtain ⟨e, q⟩ := x; exact ⟨k _ _ (.inl rfl) e, ih q⟩
  | tbl ps =>
    have e : h.get? a = some { cls := .none, data := .fields ps } := x
    show h'.get? a = some { cls := .none, data := .fields ps }
    exact k a _ (.inl rfl) e
  | met f y =>
    have e : h.get? a = some (PySem.W.methodObj (.ref f) (.ref y)) := x
    show h'.get? a = some (PySem.W.methodObj (.ref f) (.ref y))
    exact k a _ (.inl rfl) e
  | ext φ => obtain ⟨p, ⟨o, e⟩, st⟩ := x; exact ⟨st _ _ p fun o q => k _ _ (.inl rfl) q, ⟨o, k _ _ (.inl rfl) e⟩, st⟩
theorem HOk.lt (x : HOk P w H h) (e : H a = some o) : a < h.objs.size := (x a o e).lt
theorem HOk.fresh (x : HOk P w H h) (e : h.objs.size ≤ a) : H a = none := by
  cases q : H a with
  | none => rfl
  | some u => exact absurd (Nat.lt_of_lt_of_le (x.lt q) e) (Nat.lt_irrefl _)
theorem HOk.kept (x : HOk P w H h) (k : ∀ b u, h.get? b = some u → h'.get? b = some u) : HOk P w H h' := fun a o e =>
  (x a o e).stay (fun b u _ q => k b u q) (fun _ q => q) fun _ _ q => q
theorem HOk.laid (x : HOk P w H h) (k : ∀ b u, h.get? b = some u → h'.get? b = some u) (hp : h.objs.size ≤ a) (new : ObjOk P w (upd H a o) h' a o) : HOk P w (upd H a o) h' := fun b u e => by
  have hn := x.fresh hp
  by_cases hb : b = a
  · subst hb; rw [upd_same] at e; cases e; exact new
  · rw [upd_ne hb] at e
    exact (x b u e).stay (fun c v _ q => k c v q) (fun c q => by rw [upd_ne (ne_of_none q hn)]; exact q) fun c xs q => by rw [upd_ne (ne_of_none q hn)]; exact q
end
noncomputable def Rd (H : Hp) (a : Addr) (u : HO) : Prop := H a = some u ∨ ∃ o, H a = some (.frz o u)
theorem Rd.of {H : Hp} {a : Addr} {u : HO} (h : H a = some u) : Rd H a u := .inl h
theorem Rd.ok {P : Program} {w : World} {H : Hp} {h : Heap} {a : Addr} {u : HO} (r : Rd H a u) (x : HOk P w H h) : ObjOk P w H h a u := by
  rcases r with r | ⟨o, r⟩
  · exact x a u r
  · obtain ⟨_, q⟩ := x a _ r
    exact q
noncomputable def Mut : Option HO → Prop
  | some (.lst _) => True
  | some (.dK _) => True
  | some (.dT _) => True
  | some (.set _ _) => True
  | some (.ins _ _ _) => True
  | some (.ext _) => True
  | _ => False
section
variable {P : Program} {w : World} {H : Hp} {h h' : Heap} {x e : Addr} {o' : HO}
theorem HOk.write (ok : HOk P w H h) (mu : Mut (H x)) (he : e = x ∨ H e = some (.own x)) (k : ∀ b u, b ≠ e → h.get? b = some u → h'.get? b = some u) (heo : ∃ u, h'.get? e = some u)
    (new : ObjOk P w (upd H x o') h' x o') : HOk P w (upd H x o') h' := fun b u q => by
  have nown : ∀ c y, H c = some (.own y) → c ≠ x := fun c y r z => by subst z; rw [r] at mu; exact mu
  have ntup : ∀ c xs, H c = some (.tup xs) → c ≠ x := fun c xs r z => by subst z; rw [r] at mu; exact mu
  by_cases hb : b = x
  · subst hb; rw [upd_same] at q; cases q; exact new
  · rw [upd_ne hb] at q
    by_cases hbe : b = e
    · have q' : H b = some (.own x) := by
        rcases he with z | z
        · exact absurd (hbe.trans z) hb
        · rw [hbe]; exact z
      rw [q] at q'; cases q'
      obtain ⟨v, hv⟩ := heo
      exact ⟨v, by rw [hbe]; exact hv⟩
    · refine (ok b u q).stay (fun c v hc r => k c v ?_ r) (fun c r => by rw [upd_ne (nown c b r)]; exact r) fun c xs r => by rw [upd_ne (ntup c xs r)]; exact r
      rcases hc with rfl | hc
      · exact hbe
      · rintro rfl
        rcases he with z | z
        · exact nown c b hc z
        · rw [hc] at z; cases z; exact hb rfl
end
structure Un (fs ex : List Addr) (H H' : Hp) (h h' : Heap) : Prop where
  keep : ∀ b o, h.get? b = some o → H b = none → b ∉ fs → b ∉ ex → h'.get? b = some o
  slot : ∀ b o, h.get? b = some o → H b = none → b ∈ fs → b ∉ ex → ∃ sl, h'.get? b = some { o with slots := sl }
  free : ∀ b o, h.get? b = some o → H b = none → b ∉ ex → H' b = none
  there : ∀ b o, h.get? b = some o → b ∉ ex → ∃ o', h'.get? b = some o'
  tups : ∀ b xs, H b = some (.tup xs) → H' b = some (.tup xs)
  frzs : ∀ b o u, H b = some (.frz o u) → H' b = some (.frz o u)
  tbls : ∀ b ps, H b = some (.tbl ps) → ∃ more, H' b = some (.tbl (ps ++ more))
section
variable {fs fs' ex ex' : List Addr} {H H1 H2 : Hp} {h h1 h2 h' : Heap} {a x e : Addr} {o : HO}
theorem Un.any (u : Un fs ex H H1 h h1) {b : Addr} {ob : Obj} (q : h.get? b = some ob) (n : H b = none) (hx : b ∉ ex) : ∃ sl, h1.get? b = some { ob with slots := sl } := by
  by_cases hb : b ∈ fs
  · exact u.slot b ob q n hb hx
  · exact ⟨ob.slots, u.keep b ob q n hb hx⟩
theorem Un.trans (a : Un fs ex H H1 h h1) (b : Un fs ex H1 H2 h1 h2) : Un fs ex H H2 h h2 where
  keep := fun c ob q n hc hx => b.keep c ob (a.keep c ob q n hc hx) (a.free c ob q n hx) hc hx
  slot := fun c ob q n hc hx => by
    obtain ⟨sl, e1⟩ := a.slot c ob q n hc hx
    obtain ⟨sl', e2⟩ := b.slot c _ e1 (a.free c ob q n hx) hc hx
    exact ⟨sl', e2⟩
  free := fun c ob q n hx => by
    obtain ⟨o', e1⟩ := a.there c ob q hx
    exact b.free c o' e1 (a.free c ob q n hx) hx
  there := fun c ob q hx => by
    obtain ⟨o', e1⟩ := a.there c ob q hx
    exact b.there c o' e1 hx
  tups := fun c xs q => b.tups c xs (a.tups c xs q)
  frzs := fun c ob xs q => b.frzs c ob xs (a.frzs c ob xs q)
  tbls := fun c ps q => by
    obtain ⟨m1, e1⟩ := a.tbls c ps q
    obtain ⟨m2, e2⟩ := b.tbls c _ e1
    exact ⟨m1 ++ m2, by rw [e2, Array.append_assoc]⟩
theorem Un.kept (k : ∀ b u, h.get? b = some u → h'.get? b = some u) : Un fs ex H H h h' :=
  ⟨fun b ob q _ _ _ => k b ob q, fun b ob q _ _ _ => ⟨ob.slots, k b ob q⟩, fun _ _ _ n _ => n, fun b ob q _ => ⟨ob, k b ob q⟩, fun _ _ q => q, fun _ _ _ q => q, fun _ ps q => ⟨#[], by rw [q]; simp⟩⟩
theorem Un.refl : Un fs ex H H h h := Un.kept fun _ _ q => q
theorem Un.laid (k : ∀ b u, h.get? b = some u → h'.get? b = some u) (hp : h.objs.size ≤ a) (hn : H a = none) : Un fs ex H (upd H a o) h h' where
  keep := fun b u q _ _ _ => k b u q
  slot := fun b u q _ _ _ => ⟨u.slots, k b u q⟩
  free := fun b u q n _ => by rw [upd_ne (Nat.ne_of_lt (Nat.lt_of_lt_of_le (Heap.lt_size q) hp))]; exact n
  there := fun b u q _ => ⟨u, k b u q⟩
  tups := fun b xs q => by rw [upd_ne (ne_of_none q hn)]; exact q
  frzs := fun b u xs q => by rw [upd_ne (ne_of_none q hn)]; exact q
  tbls := fun b ps q => ⟨#[], by rw [upd_ne (ne_of_none q hn), q]; simp⟩
theorem Un.write (mu : Mut (H x)) (he : e = x ∨ H e = some (.own x)) (k : ∀ b u, b ≠ e → h.get? b = some u → h'.get? b = some u) (heo : ∃ u, h'.get? e = some u) : Un fs ex H (upd H x o) h h' := by
  have hx : ∀ b, H b = none → b ≠ x := fun b n z => by subst z; rw [n] at mu; exact mu
  have hb : ∀ b, H b = none → b ≠ e := fun b n z => by
    subst z
    rcases he with r | r
    · exact hx b n r
    · rw [n] at r; cases r
  have hm : ∀ b u, H b = some u → ¬ Mut (some u) → b ≠ x := fun b u q nm z => by subst z; rw [q] at mu; exact nm mu
  refine ⟨fun b u q n _ _ => k b u (hb b n) q, fun b u q n _ _ => ⟨u.slots, k b u (hb b n) q⟩, fun b u q n _ => by rw [upd_ne (hx b n)]; exact n, fun b u q _ => ?_,
    fun b xs q => by rw [upd_ne (hm b _ q fun z => z)]; exact q, fun b u xs q => by rw [upd_ne (hm b _ q fun z => z)]; exact q, fun b ps q => ⟨#[], by rw [upd_ne (hm b _ q fun z => z), q]; simp⟩⟩
  by_cases hbe : b = e
  · subst hbe; exact heo
  · exact ⟨u, k b u hbe q⟩
theorem Un.mono (u : Un fs ex H H1 h h1) (hs : ∀ b ∈ fs, b ∈ fs') (hx : ∀ b ∈ ex, b ∈ ex') : Un fs' ex' H H1 h h1 :=
  ⟨fun b ob q n hb he => u.keep b ob q n (fun z => hb (hs b z)) fun z => he (hx b z), fun _ _ q n _ he => u.any q n fun z => he (hx _ z), fun b ob q n he => u.free b ob q n fun z => he (hx b z), fun b ob q he => u.there b ob q fun z => he (hx b z), u.tups, u.frzs, u.tbls⟩
end
noncomputable def trk (h : Heap) (H : Hp) : List Addr := (List.range h.objs.size).filter fun a => (H a).isSome
noncomputable def hidT (h : Heap) (H : Hp) : Heap := PySem.W.hideAll h (trk h H)
theorem hidT_size (h : Heap) (H : Hp) : (hidT h H).objs.size = h.objs.size := PySem.W.hideAll_size _ _
theorem hidT_get {h : Heap} {H : Hp} {b : Addr} {o : Obj} (e : h.get? b = some o) (n : H b = none) : (hidT h H).get? b = some o :=
  PySem.W.hideAll_get _ e fun hm => by
    have q : (H b).isSome = true := (List.mem_filter.mp hm).2
    rw [n] at q; simp at q
theorem of_hidT {h : Heap} {H : Hp} {b : Addr} {o : Obj} (e : (hidT h H).get? b = some o) : h.get? b = some o ∧ H b = none := by
  have e' : h.get? b = some o := PySem.W.of_hideAll (trk h H) e
  refine ⟨e', ?_⟩
  cases q : H b with
  | none => rfl
  | some x =>
    have hm : b ∈ trk h H := List.mem_filter.mpr ⟨List.mem_range.mpr (Heap.lt_size e'), by simp [q]⟩
    have z : (hidT h H).get? b = none := PySem.W.hideAll_none (trk h H) hm
    rw [z] at e; cases e
noncomputable def allNews (g h : Heap) (L : Addr) : List (Addr × Obj) := (List.range h.objs.size).filterMap fun a => if a = L ∨ (g.get? a).isSome = true then none else (h.get? a).map fun o => (a, o)
noncomputable def rest (g h : Heap) (L d : Addr) : List (Addr × Obj) := (allNews g h L).filter fun p => decide (p.1 ≠ d)
end L2
namespace L2
open PySem PySem.Spec PyProof.Rows
structure Mod (K : PySem.W.Frag) (mg : Str → Option Value) (base : Heap) : Prop where
  kin : K.In base
  glob : base.Ns mainGlobals mg
  blt : ∃ mb, base.Ns builtinsNs mb ∧ ∀ x : Str, x ≠ "__name__" → mb x = bootBuiltins x
  nolimit : base.NoLimit
structure Cx where
  prog : Program
  w : World
  K : PySem.W.Frag
  mg : Str → Option Value
  base : Heap
  A : Around
  N : List Str
  s₀ : Shared
  H₀ : Hp
  env : Env
  outer : List Env
  stack : List Env
  ex : List Addr
  fn : Str → Bool
  calm : Bool
  pn : List (Addr × Obj)
  xe : Value → Shared → Prop
noncomputable def frs (l : List Env) : List Addr := l.filterMap (·.frame)
noncomputable abbrev Cx.fs (X : Cx) : List Addr := frs X.outer
noncomputable def Vis (sc : Scope) (x : Str) : Prop := sc.names.lookup x = some .local ∨ sc.names.lookup x = some .cell ∨ sc.names.lookup x = some .free
noncomputable def Loc (sc : Scope) (x : Str) : Prop := sc.names.lookup x = some .local ∨ sc.names.lookup x = some .cell
noncomputable def Look (env : Env) (h : Heap) (m : Str → Option Value) (x : Str) (u : Value) : Prop :=
  (env.kindOf x = some .local ∧ m x = some u) ∨ ((env.kindOf x = some .cell ∨ env.kindOf x = some .free) ∧ ∃ c, env.cells.lookup x = some c ∧ h.IsCell c (some u))
structure Cx.Ok (X : Cx) : Prop where
  mod : Mod X.K X.mg X.base
  kind : X.env.scope.kind = .function
  glob : X.env.globals = mainGlobals
  blt : X.env.builtins = builtinsNs
  above : X.s₀.heap.objs.size ≤ X.env.locals
  inj : ∀ x y c, X.env.cells.lookup x = some c → X.env.cells.lookup y = some c → x = y
  has : ∀ x, (X.env.kindOf x = some .cell ∨ X.env.kindOf x = some .free) → ∃ c, X.env.cells.lookup x = some c
  cab : ∀ x c, X.fn x = true → X.env.cells.lookup x = some c → X.s₀.heap.objs.size ≤ c
  hd : X.calm = true → X.A.handled = none
  frames : X.A.frames = some X.stack
  stk : X.stack = X.outer ∨ (X.stack = X.env :: X.outer ∧ X.env.frame = some X.env.locals)
  exf : ∀ b ∈ X.ex, b ≠ X.env.locals ∧ ∀ x c, X.env.cells.lookup x = some c → c ≠ b
  bs : ∀ b o, X.base.get? b = some o → X.s₀.heap.get? b = some o ∧ X.H₀ b = none
  bsz : X.base.objs.size ≤ X.s₀.heap.objs.size
  noex : ∀ b o, X.base.get? b = some o → b ∉ X.ex
  exfs : ∀ b ∈ X.ex, b ∉ X.fs
  funs : X.s₀.heap.FunFrames X.base X.outer
  frf : ∀ b ∈ X.fs, X.H₀ b = none
structure Inv (X : Cx) (pins : List (Addr × Obj)) (σ : List (Option V)) (H : Hp) (s : Shared) : Prop where
  ok : X.Ok
  os : s.os = X.s₀.os
  bare : AllBare s.gens
  base : Un X.fs X.ex X.H₀ H X.s₀.heap s.heap
  loc : ∃ m, s.heap.Ns X.env.locals m ∧ ∀ (i : Nat) (x : Str) (v : V), X.N[i]? = some x → σ[i]? = some (some v) → Vis X.env.scope x → ∃ u, RelV v u ∧ Look X.env s.heap m x u
  cell : ∀ x c, X.env.cells.lookup x = some c → ∃ v, s.heap.IsCell c v
  free : H X.env.locals = none
  freeC : ∀ x c, X.env.cells.lookup x = some c → H c = none
  pin : ∀ p ∈ X.pn ++ pins, s.heap.get? p.1 = some p.2 ∧ H p.1 = none ∧ p.1 ≠ X.env.locals ∧ p.1 ∉ X.fs ∧ ∀ v, p.2.data ≠ .cell v
  hok : HOk X.prog X.w H s.heap
  len : σ.length = X.N.length
section
variable {X : Cx} {pins : List (Addr × Obj)} {σ : List (Option V)} {H H' : Hp} {s : Shared} {h' : Heap}
theorem Cx.Ok.nofr (ok : X.Ok) {b : Addr} {o : Obj} (e : X.base.get? b = some o) : b ∉ X.fs := fun hb => by
  have := (ok.funs.mem hb).1
  rw [e] at this; cases this
theorem Inv.bs (I : Inv X pins σ H s) : ∀ b o, X.base.get? b = some o → s.heap.get? b = some o ∧ H b = none := fun b o e =>
  ⟨I.base.keep b o (I.ok.bs b o e).1 (I.ok.bs b o e).2 (I.ok.nofr e) (I.ok.noex b o e), I.base.free b o (I.ok.bs b o e).1 (I.ok.bs b o e).2 (I.ok.noex b o e)⟩
theorem Inv.bk (I : Inv X pins σ H s) : ∀ b o, X.base.get? b = some o → s.heap.get? b = some o := fun b o e => (I.bs b o e).1
theorem Inv.mod (I : Inv X pins σ H s) : Mod X.K X.mg X.base := I.ok.mod
theorem Inv.kIn (I : Inv X pins σ H s) : X.K.In s.heap := I.ok.mod.kin.keeps I.bk
theorem Inv.nolimit (I : Inv X pins σ H s) : s.heap.NoLimit := I.ok.mod.nolimit.keeps I.bk
theorem Inv.fr (I : Inv X pins σ H s) : ∃ m, Fr X.base X.env.locals s.heap m :=
  let ⟨m, hn, _⟩ := I.loc
  ⟨m, hn, I.bk, Nat.le_trans I.ok.bsz I.ok.above⟩
theorem Inv.lt (I : Inv X pins σ H s) : X.env.locals < s.heap.objs.size := let ⟨_, hn, _⟩ := I.loc; hn.lt
theorem Inv.sz (I : Inv X pins σ H s) : X.s₀.heap.objs.size ≤ s.heap.objs.size := Nat.le_trans I.ok.above (Nat.le_of_lt I.lt)
theorem Inv.nofs (I : Inv X pins σ H s) {a : Addr} (h : s.heap.objs.size ≤ a) : a ∉ X.fs := fun hb => by
  obtain ⟨_, o, ho, _⟩ := I.ok.funs.mem hb
  exact absurd (Nat.lt_of_lt_of_le (Heap.lt_size ho) (Nat.le_trans I.sz h)) (Nat.lt_irrefl _)
theorem Inv.cne (I : Inv X pins σ H s) : ∀ x c, X.env.cells.lookup x = some c → c ≠ X.env.locals := fun x c e z => by
  obtain ⟨v, o, ho, hd⟩ := I.cell x c e
  obtain ⟨m, ⟨o', es, ep, ho', hd', _⟩, _⟩ := I.loc
  rw [z, ho'] at ho; cases ho; rw [hd'] at hd; cases hd
theorem Inv.funs (I : Inv X pins σ H s) : s.heap.FunFrames X.base X.outer := by
  have all : ∀ (l : List Env), (∀ b ∈ frs l, b ∈ X.fs) → X.s₀.heap.FunFrames X.base l → s.heap.FunFrames X.base l := by
    intro l
    induction l with
    | nil => intro _ _; trivial
    | cons env r ih =>
      intro hs hl
      obtain ⟨hk, ⟨L, o, hf, hn, ho, hd⟩, hr⟩ := hl
      have hL : L ∈ X.fs := hs L (by unfold frs; rw [List.filterMap_cons, hf]; exact List.mem_cons_self)
      obtain ⟨sl, e⟩ := I.base.slot L o ho (I.ok.frf L hL) hL fun z => I.ok.exfs L z hL
      exact ⟨hk, ⟨L, _, hf, hn, e, hd⟩, ih (fun b hb => hs b (by unfold frs; rw [List.filterMap_cons, hf]; exact List.mem_cons_of_mem _ hb)) hr⟩
  exact all X.outer (fun _ hb => hb) I.ok.funs
theorem Inv.stack (I : Inv X pins σ H s) : s.heap.FunFrames X.base X.stack := by
  rcases I.ok.stk with e | ⟨e, hf⟩
  · rw [e]; exact I.funs
  · rw [e]
    obtain ⟨m, hn, _⟩ := I.loc
    refine .cons (by rw [I.ok.kind]; decide) hf hn ?_ I.funs
    exact Heap.get?_none_of_le (Nat.le_trans I.ok.bsz I.ok.above)
theorem Inv.stkSub (I : Inv X pins σ H s) : ∀ b ∈ frs X.stack, b ∈ X.env.locals :: X.fs := fun b hb => by
  rcases I.ok.stk with e | ⟨e, hf⟩
  · rw [e] at hb; exact List.mem_cons_of_mem _ hb
  · rw [e] at hb
    unfold frs at hb
    rw [List.filterMap_cons, hf] at hb
    exact hb
theorem Inv.stkFree (I : Inv X pins σ H s) : ∀ b ∈ frs X.stack, H b = none := fun b hb => by
  rcases List.mem_cons.mp (I.stkSub b hb) with e | hb
  · rw [e]; exact I.free
  · obtain ⟨_, o, ho, _⟩ := I.ok.funs.mem hb
    exact I.base.free b o ho (I.ok.frf b hb) fun z => I.ok.exfs b z hb
theorem Inv.step {g' : Array GenState} {t' : Nat} {d' : Drawn} {ch : List Addr} (I : Inv X pins σ H s)
    (hch : ∀ b ∈ ch, (b ∈ X.ex ∨ X.s₀.heap.objs.size ≤ b) ∧ b ≠ X.env.locals ∧ (∀ x c, X.env.cells.lookup x = some c → c ≠ b) ∧ ∀ p ∈ X.pn ++ pins, p.1 ≠ b)
    (keep : ∀ b o, b ≠ X.env.locals → b ∉ X.fs → b ∉ ch → s.heap.get? b = some o → H b = none → h'.get? b = some o)
    (slot : ∀ b o, b ≠ X.env.locals → b ∈ X.fs → b ∉ ch → s.heap.get? b = some o → H b = none → ∃ sl, h'.get? b = some { o with slots := sl }) (free : ∀ b o, b ∉ ch → s.heap.get? b = some o → H b = none → H' b = none)
    (there : ∀ b o, b ∉ ch → s.heap.get? b = some o → ∃ o', h'.get? b = some o')
    (tups : ∀ b xs, H b = some (.tup xs) → H' b = some (.tup xs)) (frzs : ∀ b o u, H b = some (.frz o u) → H' b = some (.frz o u)) (tbls : ∀ b ps, H b = some (.tbl ps) → ∃ more, H' b = some (.tbl (ps ++ more)))
    (ns : ∀ m, s.heap.Ns X.env.locals m → h'.Ns X.env.locals m) (hok : HOk X.prog X.w H' h') (hg : AllBare g') :
    Inv X pins σ H' { s with heap := h', gens := g', drawn := d', toks := t' } := by
  have neL : ∀ b o, X.s₀.heap.get? b = some o → b ≠ X.env.locals := fun b o e => Nat.ne_of_lt (Nat.lt_of_lt_of_le (Heap.lt_size e) I.ok.above)
  have neC : ∀ b o, X.s₀.heap.get? b = some o → b ∉ X.ex → b ∉ ch := fun b o e hx hb => by
    rcases (hch b hb).1 with z | z
    · exact hx z
    · exact absurd (Nat.lt_of_lt_of_le (Heap.lt_size e) z) (Nat.lt_irrefl _)
  have cellK : ∀ x c, X.env.cells.lookup x = some c → ∀ v, s.heap.IsCell c v → h'.IsCell c v := fun x c e v ⟨o, ho, hd⟩ => by
    have nch : c ∉ ch := fun z => (hch c z).2.2.1 x c e rfl
    by_cases hc : c ∈ X.fs
    · obtain ⟨sl, q⟩ := slot c o (I.cne x c e) hc nch ho (I.freeC x c e)
      exact ⟨_, q, hd⟩
    · exact ⟨o, keep c o (I.cne x c e) hc nch ho (I.freeC x c e), hd⟩
  refine ⟨I.ok, I.os, hg, ⟨fun b o e n hb hx => ?_, fun b o e n hb hx => ?_, fun b o e n hx => ?_, fun b o e hx => ?_, fun b xs e => tups b xs (I.base.tups b xs e), fun b o xs e => frzs b o xs (I.base.frzs b o xs e), fun b ps e => ?_⟩, ?_, fun x c e => ?_, ?_, fun x c e => ?_, fun p hp => ?_, hok, I.len⟩
  · exact keep b o (neL b o e) hb (neC b o e hx) (I.base.keep b o e n hb hx) (I.base.free b o e n hx)
  · obtain ⟨sl, e1⟩ := I.base.slot b o e n hb hx
    obtain ⟨sl', e2⟩ := slot b _ (neL b o e) hb (neC b o e hx) e1 (I.base.free b o e n hx)
    exact ⟨sl', e2⟩
  · obtain ⟨o', e1⟩ := I.base.there b o e hx
    exact free b o' (neC b o e hx) e1 (I.base.free b o e n hx)
  · obtain ⟨o', e1⟩ := I.base.there b o e hx
    exact there b o' (neC b o e hx) e1
  · obtain ⟨m1, e1⟩ := I.base.tbls b ps e
    obtain ⟨m2, e2⟩ := tbls b _ e1
    exact ⟨m1 ++ m2, by rw [e2, Array.append_assoc]⟩
  · obtain ⟨m, hn, hl⟩ := I.loc
    refine ⟨m, ns m hn, fun i x v e1 e2 e3 => ?_⟩
    obtain ⟨u, r, l⟩ := hl i x v e1 e2 e3
    refine ⟨u, r, ?_⟩
    rcases l with l | ⟨k, c, e, z⟩
    · exact .inl l
    · exact .inr ⟨k, c, e, cellK x c e _ z⟩
  · obtain ⟨v, z⟩ := I.cell x c e
    exact ⟨v, cellK x c e v z⟩
  · obtain ⟨m, ⟨o, _, _, ho, _⟩, _⟩ := I.loc
    exact free _ o (fun z => (hch _ z).2.1 rfl) ho I.free
  · obtain ⟨v, o, ho, hd⟩ := I.cell x c e
    exact free c o (fun z => (hch c z).2.2.1 x c e rfl) ho (I.freeC x c e)
  · obtain ⟨e, n, ne, nf, d⟩ := I.pin p hp
    have nch : p.1 ∉ ch := fun z => (hch p.1 z).2.2.2 p hp rfl
    exact ⟨keep p.1 p.2 ne nf nch e n, free p.1 p.2 nch e n, ne, nf, d⟩
theorem Inv.un {t' : Nat} (I : Inv X pins σ H s) (u : Un X.fs [] H H' s.heap h') (hok : HOk X.prog X.w H' h') : Inv X pins σ H' { s with heap := h', toks := t' } := by
  obtain ⟨m, ⟨o, es, ep, ho, r⟩, _⟩ := id I.loc
  obtain ⟨sl, hL⟩ := u.any ho I.free (by simp)
  exact I.step (g' := s.gens) (d' := s.drawn) (ch := []) (fun _ z => nomatch z) (fun b o _ hb _ e n => u.keep b o e n hb (by simp)) (fun b o _ hb _ e n => u.slot b o e n hb (by simp)) (fun b o _ e n => u.free b o e n (by simp)) (fun b o _ e => u.there b o e (by simp)) u.tups u.frzs u.tbls (fun m' hm => by
    obtain ⟨o', es', ep', ho', r'⟩ := hm
    rw [ho] at ho'; cases ho'
    exact ⟨_, es', ep', hL, r'⟩) hok I.bare
theorem Inv.call {g' : Array GenState} {t' : Nat} {d' : Drawn} {ch : List Addr} (I : Inv X pins σ H s) (u : Un (frs X.stack) ch H H' s.heap h') (hok : HOk X.prog X.w H' h') (hg : AllBare g')
    (hch : ∀ b ∈ ch, (b ∈ X.ex ∨ X.s₀.heap.objs.size ≤ b) ∧ b ≠ X.env.locals ∧ (∀ x c, X.env.cells.lookup x = some c → c ≠ b) ∧ ∀ p ∈ X.pn ++ pins, p.1 ≠ b) :
    Inv X pins σ H' { s with heap := h', gens := g', drawn := d', toks := t' } := by
  obtain ⟨m, ⟨o, es, ep, ho, r⟩, _⟩ := id I.loc
  obtain ⟨sl, hL⟩ := u.any ho I.free fun z => (hch _ z).2.1 rfl
  exact I.step (ch := ch) hch (fun b o hL hb hc e n => u.keep b o e n (fun z => (List.mem_cons.mp (I.stkSub b z)).elim hL hb) hc) (fun b o _ _ hc e n => u.any e n hc) (fun b o hc e n => u.free b o e n hc) (fun b o hc e => u.there b o e hc) u.tups u.frzs u.tbls (fun m' hm => by
    obtain ⟨o', es', ep', ho', r'⟩ := hm
    rw [ho] at ho'; cases ho'
    exact ⟨_, es', ep', hL, r'⟩) hok hg
theorem Inv.turned {t' : Nat} {it : Addr} (I : Inv X pins σ H s) (k : ∀ b o, b ≠ it → s.heap.get? b = some o → h'.get? b = some o) (hn : H it = none) (hL : it ≠ X.env.locals)
    (h1 : it ∈ X.ex ∨ X.s₀.heap.objs.size ≤ it) (h2 : ∀ x c, X.env.cells.lookup x = some c → c ≠ it) (h3 : ∀ p ∈ X.pn ++ pins, p.1 ≠ it) : Inv X pins σ H { s with heap := h', toks := t' } := by
  have nit : ∀ b u, H b = some u → b ≠ it := fun b u e z => by rw [z, hn] at e; cases e
  refine I.step (g' := s.gens) (d' := s.drawn) (ch := [it]) (fun b hb => ?_) (fun b o _ _ hc e _ => k b o (fun z => hc (by simp [z])) e) (fun b o _ _ hc e _ => ⟨o.slots, k b o (fun z => hc (by simp [z])) e⟩) (fun _ _ _ _ n => n)
    (fun b o hc e => ⟨o, k b o (fun z => hc (by simp [z])) e⟩) (fun _ _ e => e) (fun _ _ _ e => e) (fun b ps e => ⟨#[], by rw [e]; simp⟩) (fun m hm => ?_) (fun b u e => ?_) I.bare
  · have e : b = it := by simpa using hb
    subst e
    exact ⟨h1, hL, h2, h3⟩
  · obtain ⟨o, es, ep, ho, r⟩ := hm
    exact ⟨o, es, ep, k _ o (Ne.symm hL) ho, r⟩
  · refine (I.hok b u e).stay (fun c v hc q => k c v ?_ q) (fun _ q => q) fun _ _ q => q
    rcases hc with z | z
    · rw [z]; exact nit b u e
    · exact nit c _ z
theorem Inv.tok (I : Inv X pins σ H s) (t : Nat) : Inv X pins σ H { s with toks := t } := I.un (h' := s.heap) (t' := t) Un.refl I.hok
theorem Inv.kept {t' : Nat} (I : Inv X pins σ H s) (k : ∀ b u, s.heap.get? b = some u → h'.get? b = some u) : Inv X pins σ H { s with heap := h', toks := t' } := I.un (Un.kept k) (I.hok.kept k)
theorem Inv.laid {a : Addr} {o : HO} {t' : Nat} (I : Inv X pins σ H s) (k : ∀ b u, s.heap.get? b = some u → h'.get? b = some u) (hp : s.heap.objs.size ≤ a) (new : ObjOk X.prog X.w (upd H a o) h' a o) :
    Inv X pins σ (upd H a o) { s with heap := h', toks := t' } := I.un (Un.laid k hp (I.hok.fresh hp)) (I.hok.laid k hp new)
theorem Inv.write {x e : Addr} {o : HO} {t' : Nat} (I : Inv X pins σ H s) (mu : Mut (H x)) (he : e = x ∨ H e = some (.own x)) (k : ∀ b u, b ≠ e → s.heap.get? b = some u → h'.get? b = some u) (heo : ∃ u, h'.get? e = some u)
    (new : ObjOk X.prog X.w (upd H x o) h' x o) : Inv X pins σ (upd H x o) { s with heap := h', toks := t' } := I.un (Un.write mu he k heo) (I.hok.write mu he k heo new)
theorem Inv.pins_of {pins' : List (Addr × Obj)} (I : Inv X pins σ H s) (h : ∀ p ∈ pins', s.heap.get? p.1 = some p.2 ∧ H p.1 = none ∧ p.1 ≠ X.env.locals ∧ p.1 ∉ X.fs ∧ ∀ v, p.2.data ≠ .cell v) : Inv X pins' σ H s :=
  ⟨I.ok, I.os, I.bare, I.base, I.loc, I.cell, I.free, I.freeC, fun p hp => (List.mem_append.mp hp).elim (fun z => I.pin p (List.mem_append_left _ z)) (h p), I.hok, I.len⟩
theorem nodup_ix {N : List Str} (hN : N.Nodup) {i j : Nat} {x : Str} (a : N[i]? = some x) (b : N[j]? = some x) : i = j := by
  obtain ⟨h1, e1⟩ := List.getElem?_eq_some_iff.mp a
  obtain ⟨h2, e2⟩ := List.getElem?_eq_some_iff.mp b
  exact (List.getElem_inj hN).mp (e1.trans e2.symm)
theorem store_ok2 {M : Model} {A : Around} {E : Value → Shared → Prop} {i : Nat} {x : Str} {v : V} {u : Value} {Q : Unit → Shared → Prop} (I : Inv X pins σ H s) (hN : X.N.Nodup) (hi : X.N[i]? = some x) (hx : Loc X.env.scope x) (r : RelV v u)
    (h : ∀ s', Inv X pins (σ.set i (some v)) H s' → (∃ a, Heap.SameBut a s.heap s'.heap ∧ (a = X.env.locals ∨ X.env.cells.lookup x = some a)) → Q () s') (hf : X.fn x = true ∨ X.env.scope.names.lookup x = some .local := by first | exact .inl rfl | exact .inr rfl | assumption) : wpAny M A (storeName X.env x u) Q E s := by
  obtain ⟨m, hn, hl⟩ := id I.loc
  have hcls : (X.env.scope.kind == .class || (X.env.scope.kind == .module && X.env.locals != X.env.globals)) = false := by rw [I.ok.kind]; rfl
  have hiσ : i < σ.length := by rw [I.len]; exact (List.getElem?_eq_some_iff.mp hi).1
  have cne := I.cne
  have tracked : ∀ {a : Addr} {h' : Heap}, (∃ o, s.heap.get? a = some o ∧ H a = none) → Heap.SameBut a s.heap h' → HOk X.prog X.w H h' := fun {a h'} ha hs b ob e => by
    obtain ⟨_, _, hfree⟩ := ha
    refine (I.hok b ob e).stay (fun c w' hc q => (hs.2 c ?_).trans q) (fun _ q => q) fun _ _ q => q
    rintro rfl
    rcases hc with rfl | hc
    · rw [hfree] at e; cases e
    · rw [hfree] at hc; cases hc
  rcases hx with hk | hk
  · refine wpAny_storeName_local hk hn (fun h' hn' hs => ?_) hcls
    obtain ⟨oL, _, _, hoL, _⟩ := id hn
    refine h _ ⟨I.ok, I.os, I.bare, ⟨fun b o e n hb hx => ?_, fun b o e n hb hx => ?_, I.base.free, fun b o e hx => ?_, I.base.tups, I.base.frzs, I.base.tbls⟩, ⟨_, hn', fun j y v' e1 e2 e3 => ?_⟩, fun y c e => ?_, I.free, I.freeC, fun p hp => ?_, tracked ⟨oL, hoL, I.free⟩ hs, by simpa using I.len⟩ ⟨_, hs, .inl rfl⟩
    · exact (hs.2 b (Nat.ne_of_lt (Nat.lt_of_lt_of_le (Heap.lt_size e) I.ok.above))).trans (I.base.keep b o e n hb hx)
    · obtain ⟨sl, e1⟩ := I.base.slot b o e n hb hx
      exact ⟨sl, (hs.2 b (Nat.ne_of_lt (Nat.lt_of_lt_of_le (Heap.lt_size e) I.ok.above))).trans e1⟩
    · obtain ⟨o', e1⟩ := I.base.there b o e hx
      exact ⟨o', (hs.2 b (Nat.ne_of_lt (Nat.lt_of_lt_of_le (Heap.lt_size e) I.ok.above))).trans e1⟩
    · by_cases hj : j = i
      · subst hj
        rw [hi] at e1; cases e1
        rw [List.getElem?_set_self hiσ] at e2
        cases e2
        exact ⟨u, r, .inl ⟨hk, by simp⟩⟩
      · rw [List.getElem?_set_ne (Ne.symm hj)] at e2
        obtain ⟨u', r', q⟩ := hl j y v' e1 e2 e3
        refine ⟨u', r', ?_⟩
        rcases q with ⟨k, e⟩ | ⟨k, c, e, z⟩
        · refine .inl ⟨k, ?_⟩
          have : y ≠ x := fun e => hj (nodup_ix hN e1 (e ▸ hi))
          simp [this, e]
        · exact .inr ⟨k, c, e, z.sameBut hs (cne y c e)⟩
    · obtain ⟨w', z⟩ := I.cell y c e
      exact ⟨w', z.sameBut hs (cne y c e)⟩
    · obtain ⟨e, n, ne, nf, d⟩ := I.pin p hp
      exact ⟨(hs.2 p.1 ne).trans e, n, ne, nf, d⟩
  · have hfn : X.fn x = true := by
      rcases hf with z | z
      · exact z
      · rw [z] at hk; cases hk
    obtain ⟨c, hc⟩ := I.ok.has x (.inl hk)
    obtain ⟨w', z⟩ := I.cell x c hc
    refine wpAny_storeName_cell I.ok.kind hk hc z (fun h' hc' hs => ?_)
    obtain ⟨oc, hoc, hocd⟩ := id z
    refine h { s with heap := h' } ⟨I.ok, I.os, I.bare, ⟨fun b o e n hb hx => ?_, fun b o e n hb hx => ?_, I.base.free, fun b o e hx => ?_, I.base.tups, I.base.frzs, I.base.tbls⟩, ⟨m, hn.sameBut hs (Ne.symm (cne x c hc)), fun j y v' e1 e2 e3 => ?_⟩, fun y c' e => ?_, I.free, I.freeC, fun p hp => ?_, tracked ⟨oc, hoc, I.freeC x c hc⟩ hs, by simpa using I.len⟩ ⟨c, hs, .inr hc⟩
    · exact (hs.2 b (Nat.ne_of_lt (Nat.lt_of_lt_of_le (Heap.lt_size e) (I.ok.cab x c hfn hc)))).trans (I.base.keep b o e n hb hx)
    · obtain ⟨sl, e1⟩ := I.base.slot b o e n hb hx
      exact ⟨sl, (hs.2 b (Nat.ne_of_lt (Nat.lt_of_lt_of_le (Heap.lt_size e) (I.ok.cab x c hfn hc)))).trans e1⟩
    · obtain ⟨o', e1⟩ := I.base.there b o e hx
      exact ⟨o', (hs.2 b (Nat.ne_of_lt (Nat.lt_of_lt_of_le (Heap.lt_size e) (I.ok.cab x c hfn hc)))).trans e1⟩
    · by_cases hj : j = i
      · subst hj
        rw [hi] at e1; cases e1
        rw [List.getElem?_set_self hiσ] at e2
        cases e2
        exact ⟨u, r, .inr ⟨.inl hk, c, hc, hc'⟩⟩
      · rw [List.getElem?_set_ne (Ne.symm hj)] at e2
        obtain ⟨u', r', q⟩ := hl j y v' e1 e2 e3
        refine ⟨u', r', ?_⟩
        rcases q with q | ⟨k, c', e, z'⟩
        · exact .inl q
        · refine .inr ⟨k, c', e, z'.sameBut hs ?_⟩
          rintro rfl
          exact hj (nodup_ix hN e1 (I.ok.inj _ _ _ e hc ▸ hi))
    · by_cases hcc : c' = c
      · subst hcc; exact ⟨_, hc'⟩
      · obtain ⟨w2, z2⟩ := I.cell y c' e
        exact ⟨w2, z2.sameBut hs hcc⟩
    · obtain ⟨e, n, ne, nf, d⟩ := I.pin p hp
      refine ⟨(hs.2 p.1 ?_).trans e, n, ne, nf, d⟩
      intro q
      rw [q, hoc] at e
      have q' : oc = p.2 := Option.some.inj e
      exact d w' (by rw [← q']; exact hocd)
theorem store_ok {M : Model} {A : Around} {E : Value → Shared → Prop} {i : Nat} {x : Str} {v : V} {u : Value} {Q : Unit → Shared → Prop} (I : Inv X pins σ H s) (hN : X.N.Nodup) (hi : X.N[i]? = some x) (hx : Loc X.env.scope x) (r : RelV v u)
    (h : ∀ s', Inv X pins (σ.set i (some v)) H s' → Q () s') (hf : X.fn x = true ∨ X.env.scope.names.lookup x = some .local := by first | exact .inl rfl | exact .inr rfl | assumption) : wpAny M A (storeName X.env x u) Q E s :=
  store_ok2 I hN hi hx r (fun s' I' _ => h s' I') hf
theorem Inv.call' {s' : Shared} {ch : List Addr} (I : Inv X pins σ H s) (ho : s'.os = s.os) (u : Un (frs X.stack) ch H H' s.heap s'.heap) (hok : HOk X.prog X.w H' s'.heap) (hg : AllBare s'.gens)
    (hch : ∀ b ∈ ch, (b ∈ X.ex ∨ X.s₀.heap.objs.size ≤ b) ∧ b ≠ X.env.locals ∧ (∀ x c, X.env.cells.lookup x = some c → c ≠ b) ∧ ∀ p ∈ X.pn ++ pins, p.1 ≠ b) : Inv X pins σ H' s' := by
  obtain ⟨h', g', d', t', o'⟩ := s'
  have e : o' = s.os := ho
  subst e
  exact I.call (g' := g') (t' := t') (d' := d') u hok hg hch
end
noncomputable abbrev XK := Value → Option Addr → Hp → Prop
noncomputable abbrev St := List (Option V)
noncomputable abbrev VK := V → Hp → Prop
noncomputable abbrev TE := St → Hp → VK → Prop
noncomputable abbrev TT := St → Hp → (Bool → Hp → Prop) → Prop
noncomputable abbrev TA := St → Hp → (List V → Hp → Prop) → Prop
structure Ends where
  nx : St → Hp → Prop
  rt : VK
  bk : St → Hp → Prop := fun _ _ => False
  ct : St → Hp → Prop := fun _ _ => False
noncomputable abbrev TS := Ends → St → Hp → Prop
noncomputable def EP (X : Cx) (pins : List (Addr × Obj)) (σ : St) (Q : VK) (u : Value) (s' : Shared) : Prop := ∃ v H', Inv X pins σ H' s' ∧ RelV v u ∧ Q v H'
noncomputable def TP (X : Cx) (pins : List (Addr × Obj)) (σ : St) (Q : Bool → Hp → Prop) (b : Bool) (s' : Shared) : Prop := ∃ H', Inv X pins σ H' s' ∧ Q b H'
noncomputable def AP (X : Cx) (pins : List (Addr × Obj)) (σ : St) (Q : List V → Hp → Prop) (us : List Value) (s' : Shared) : Prop := ∃ vs H', Inv X pins σ H' s' ∧ Vals vs us ∧ Q vs H'
noncomputable def SP (X : Cx) (pins : List (Addr × Obj)) (D : Ends) (f : Flow) (s' : Shared) : Prop :=
  match f with
  | .next => ∃ σ' H', Inv X pins σ' H' s' ∧ D.nx σ' H'
  | .brk => ∃ σ' H', Inv X pins σ' H' s' ∧ D.bk σ' H'
  | .cont => ∃ σ' H', Inv X pins σ' H' s' ∧ D.ct σ' H'
  | .ret u => ∃ v σ' H', Inv X pins σ' H' s' ∧ RelV v u ∧ D.rt v H'
noncomputable def PE (X : Cx) (e : Expr) (t : TE) : Prop :=
  ∀ (pins : List (Addr × Obj)) (s : Shared) (σ : St) (H : Hp) (Q : VK), Inv X pins σ H s → t σ H Q → wpAny (model X.prog X.w) X.A (eval e X.env) (EP X pins σ Q) X.xe s
noncomputable def PT (X : Cx) (e : Expr) (t : TT) : Prop :=
  ∀ (pins : List (Addr × Obj)) (s : Shared) (σ : St) (H : Hp) (Q : Bool → Hp → Prop), Inv X pins σ H s → t σ H Q → wpAny (model X.prog X.w) X.A (isTrue e X.env (eval e X.env)) (TP X pins σ Q) X.xe s
noncomputable def PW (X : Cx) (e : Expr) (t : TT) : Prop :=
  ∀ (whole : Sem Value) (pins : List (Addr × Obj)) (s : Shared) (σ : St) (H : Hp) (Q : Bool → Hp → Prop), Inv X pins σ H s → t σ H Q → wpAny (model X.prog X.w) X.A (isTrue e X.env whole) (TP X pins σ Q) X.xe s
theorem PW.pt {X : Cx} {e : Expr} {t : TT} (h : PW X e t) : PT X e t := h _
noncomputable def PA (X : Cx) (es : List Expr) (t : TA) : Prop :=
  ∀ (pos : Pos) (pins : List (Addr × Obj)) (s : Shared) (σ : St) (H : Hp) (Q : List V → Hp → Prop), Inv X pins σ H s → t σ H Q → wpAny (model X.prog X.w) X.A (spliced (backTo pos (starEach es X.env))) (AP X pins σ Q) X.xe s
noncomputable def PS (X : Cx) (st : Stmt) (t : TS) : Prop :=
  ∀ (pins : List (Addr × Obj)) (s : Shared) (σ : St) (H : Hp) (D : Ends), Inv X pins σ H s → t D σ H → wpAny (model X.prog X.w) X.A (exec st X.env) (SP X pins D) X.xe s
noncomputable def PSs (X : Cx) (st : List Stmt) (t : TS) : Prop :=
  ∀ (pins : List (Addr × Obj)) (s : Shared) (σ : St) (H : Hp) (D : Ends), Inv X pins σ H s → t D σ H → wpAny (model X.prog X.w) X.A (execs st X.env) (SP X pins D) X.xe s
theorem thn {α : Type} {t : Sem α} {Q Q' : α → Shared → Prop} {M : Model} {A : Around} {E : Value → Shared → Prop} {s : Shared} (h : wpAny M A t Q E s) (hQ : ∀ a s, Q a s → Q' a s) : wpAny M A t Q' E s := wpAny_mono h hQ fun _ _ x => x
end L2
namespace L2
open PySem PySem.Spec PyProof.Rows
section
variable {X : Cx}
noncomputable def tVar (i : Nat) : TE := fun σ H Q => ∃ v, σ[i]? = some (some v) ∧ Q v H
noncomputable def tC (v : V) : TE := fun _ H Q => Q v H
theorem pe_var {i : Nat} {x : Str} {pos : Pos} (hN : X.N[i]? = some x) (hv : Vis X.env.scope x) (hd : (x == ("__debug__" : Str)) = false := by decide) (hcd : (x == ("__classdict__" : Str)) = false := by decide) : PE X (.Name x pos) (tVar i) := by
  intro pins s σ H Q I h
  obtain ⟨v, e, h⟩ := h
  obtain ⟨m, hn, hl⟩ := I.loc
  obtain ⟨u, r, l⟩ := hl i x v hN e hv
  have fin : EP X pins σ Q u s := ⟨v, H, I, r, h⟩
  rcases l with ⟨hk, hm⟩ | ⟨hk, c, hc, hcell⟩
  · exact wpAny_Name (wpAny_loadName_local I.ok.kind hk hn hm fin) hd
  · rcases hk with hk | hk
    · exact wpAny_Name (wpAny_loadName_cell I.ok.kind hk hc hcell fin) hd
    · exact wpAny_Name (wpAny_loadName_free I.ok.kind hk hc hcell fin hcd) hd
theorem pe_int {i j pos} : PE X (.Constant (.int i) j pos) (tC (.int i)) := fun _ _ _ H _ I h => wpAny_Constant_int ⟨.int i, H, I.tok _, ⟨_, rfl⟩, h⟩
theorem pe_bl {b j pos} : PE X (.Constant (.bool b) j pos) (tC (.bl b)) := fun _ _ _ H _ I h => Constant_bool ⟨.bl b, H, I, rfl, h⟩
theorem pe_non {j pos} : PE X (.Constant .none j pos) (tC .non) := fun _ _ _ H _ I h => Constant_none ⟨.non, H, I, rfl, h⟩
theorem pe_str {x j pos} : PE X (.Constant (.str x) j pos) (tC (.str x)) := fun _ _ _ H _ I h => Calls.Constant_str ⟨.str x, H, I.tok _, ⟨_, rfl⟩, h⟩
noncomputable def Gl (X : Cx) (x : Str) : Prop := X.env.kindOf x = some .globalImplicit
theorem ld_glob {E : Value → Shared → Prop} {pins : List (Addr × Obj)} {s : Shared} {σ : St} {H : Hp} {x : Str} {u : Value} {pos : Pos} {Q : Value → Shared → Prop} (I : Inv X pins σ H s) (hg : Gl X x) (hm : X.mg x = some u) (h : Q u s)
    (hd : (x == ("__debug__" : Str)) = false := by decide) : wpAny (model X.prog X.w) X.A (eval (.Name x pos) X.env) Q E s :=
  Calls.Name_function_global I.ok.kind hg (Calls.loadGlobal_global (by rw [I.ok.glob]; exact I.mod.glob.keeps I.bk) hm h) hd
theorem ld_blt {E : Value → Shared → Prop} {pins : List (Addr × Obj)} {s : Shared} {σ : St} {H : Hp} {x : Str} {u : Value} {pos : Pos} {Q : Value → Shared → Prop} (I : Inv X pins σ H s) (hg : Gl X x) (hm : X.mg x = none) (hv : bootBuiltins x = some u) (h : Q u s)
    (hn : x ≠ "__name__" := by decide) (hd : (x == ("__debug__" : Str)) = false := by decide) : wpAny (model X.prog X.w) X.A (eval (.Name x pos) X.env) Q E s := by
  obtain ⟨mb, h1, h2⟩ := I.mod.blt
  exact Calls.Name_function_global I.ok.kind hg (Calls.loadGlobal_builtin (by rw [I.ok.glob]; exact I.mod.glob.keeps I.bk) hm (by rw [I.ok.blt]; exact h1.keeps I.bk) ((h2 x hn).trans hv) h) hd
theorem pe_glob {x : Str} {v : V} {u : Value} {pos : Pos} (hg : Gl X x) (hm : X.mg x = some u) (r : RelV v u) (hd : (x == ("__debug__" : Str)) = false := by decide) : PE X (.Name x pos) (tC v) :=
  fun _ _ _ H _ I h => ld_glob I hg hm ⟨v, H, I, r, h⟩ hd
theorem pe_bltn {x : Str} {v : V} {u : Value} {pos : Pos} (hg : Gl X x) (hm : X.mg x = none) (hv : bootBuiltins x = some u) (r : RelV v u) (hn : x ≠ "__name__" := by decide) (hd : (x == ("__debug__" : Str)) = false := by decide) : PE X (.Name x pos) (tC v) :=
  fun _ _ _ H _ I h => ld_blt I hg hm hv ⟨v, H, I, r, h⟩ hn hd
variable {a b : Expr} {ta tb : TE} {pos : Pos}
variable {tA tB' : TT} {rest : List Expr}
noncomputable def tAnd (t u : TT) : TT := fun σ H Q => t σ H fun c H1 => if c = true then u σ H1 Q else Q false H1
noncomputable def tOr (t u : TT) : TT := fun σ H Q => t σ H fun c H1 => if c = true then Q true H1 else u σ H1 Q
noncomputable def tNot (t : TT) : TT := fun σ H Q => t σ H fun c H1 => Q (!c) H1
theorem pw_and1 (ha : PT X a tA) : PW X (.BoolOp .And [a] pos) tA := by
  intro wh pins s σ H Q I h
  refine isTrue_and (thn (ha pins s σ H Q I h) fun c s1 e => ?_)
  cases c with
  | true => exact isTrue_and_nil e
  | false => exact e
theorem pw_or1 (ha : PT X a tA) : PW X (.BoolOp .Or [a] pos) tA := by
  intro wh pins s σ H Q I h
  refine isTrue_or (thn (ha pins s σ H Q I h) fun c s1 e => ?_)
  cases c with
  | false => exact isTrue_or_nil e
  | true => exact e
theorem pw_and (ha : PT X a tA) (hb : PW X (.BoolOp .And (b :: rest) pos) tB') : PW X (.BoolOp .And (a :: b :: rest) pos) (tAnd tA tB') := by
  intro wh pins s σ H Q I h
  refine isTrue_and (thn (ha pins s σ H _ I h) fun c s1 zz => ?_)
  obtain ⟨H1, I1, q1⟩ := zz
  cases c with
  | true => exact hb wh pins s1 σ H1 Q I1 q1
  | false => exact ⟨H1, I1, q1⟩
theorem pw_or (ha : PT X a tA) (hb : PW X (.BoolOp .Or (b :: rest) pos) tB') : PW X (.BoolOp .Or (a :: b :: rest) pos) (tOr tA tB') := by
  intro wh pins s σ H Q I h
  refine isTrue_or (thn (ha pins s σ H _ I h) fun c s1 zz => ?_)
  obtain ⟨H1, I1, q1⟩ := zz
  cases c with
  | true => exact ⟨H1, I1, q1⟩
  | false => exact hb wh pins s1 σ H1 Q I1 q1
theorem pt_not (ha : PT X a tA) : PT X (.UnaryOp .Not a pos) (tNot tA) := by
  intro pins s σ H Q I h
  exact isTrue_not (ha pins s σ H (fun c H1 => Q (!c) H1) I h)
noncomputable def tAndV (ta tb : TE) : TE := fun σ H Q => ta σ H fun x H1 => ∃ c, x = .bl c ∧ if c = true then tb σ H1 Q else Q (.bl false) H1
noncomputable def tNotV (ta : TE) : TE := fun σ H Q => ta σ H fun x H1 => ∃ c, x = .bl c ∧ Q (.bl (!c)) H1
theorem pe_one {op} {t : TE} (h : PE X a t) : PE X (.BoolOp op [a] pos) t := fun pins s σ H Q I hw => BoolOp_one (h pins s σ H Q I hw)
theorem pe_and (ha : PE X a ta) (hb : PE X (.BoolOp .And (b :: rest) pos) tb) : PE X (.BoolOp .And (a :: b :: rest) pos) (tAndV ta tb) := by
  intro pins s σ H Q I h
  refine BoolOp_and (thn (ha pins s σ H _ I h) fun v s1 zz => ?_)
  obtain ⟨x, H1, I1, r1, q1⟩ := zz
  obtain ⟨c, rfl, q1⟩ := q1
  cases r1
  refine wpAny_truthy_bool ?_
  cases c with
  | true => exact hb pins s1 σ H1 Q I1 q1
  | false => exact ⟨.bl false, H1, I1, rfl, q1⟩
theorem pe_not (ha : PE X a ta) : PE X (.UnaryOp .Not a pos) (tNotV ta) := by
  intro pins s σ H Q I h
  refine UnaryOp_ (thn (ha pins s σ H _ I h) fun v s1 zz => ?_)
  obtain ⟨x, H1, I1, r1, q1⟩ := zz
  obtain ⟨c, rfl, q1⟩ := q1
  cases r1
  exact not_of (wpAny_truthy_bool ⟨.bl (!c), H1, I1, rfl, q1⟩)
noncomputable def tIf (t : TT) (ta tb : TE) : TE := fun σ H Q => t σ H fun c H1 => if c = true then ta σ H1 Q else tb σ H1 Q
theorem pe_ifExp {c : Expr} (hc : PT X c tA) (ha : PE X a ta) (hb : PE X b tb) : PE X (.IfExp c a b pos) (tIf tA ta tb) := by
  intro pins s σ H Q I h
  refine wpAny_IfExp (thn (hc pins s σ H _ I h) fun d s1 zz => ?_)
  obtain ⟨H1, I1, q1⟩ := zz
  cases d with
  | true => exact ha pins s1 σ H1 Q I1 q1
  | false => exact hb pins s1 σ H1 Q I1 q1
end
end L2
namespace L2
open PySem PySem.Spec PyProof.Rows
noncomputable def SqL (K : PySem.W.Frag) (H : Hp) (a : Addr) (xs : List V) : Prop :=
  Rd H a (.lst xs) ∨
    ∃ (o : Obj) (its : Array Value) (n : Nat), K.lookup a = some o ∧ o.cls = .type "list" ∧ o.dict = none ∧ o.data = .seq its n ∧ its.size ≤ sizeLine ∧ Vals xs its.toList
noncomputable def SqT (K : PySem.W.Frag) (H : Hp) (a : Addr) (xs : List V) : Prop :=
  Rd H a (.tup xs) ∨
    ∃ (o : Obj) (its : Array Value) (n : Nat), K.lookup a = some o ∧ o.cls = .type "tuple" ∧ o.data = .seq its n ∧ its.size ≤ sizeLine ∧ Vals xs its.toList ∧ o.dict = none
noncomputable def absV : Value → Option V
  | .none => some .non
  | .bool b => some (.bl b)
  | .int i _ => some (.int i)
  | .str x _ => some (.str x)
  | .bytes b _ => some (.byt b)
  | .float b _ => some (.flt b)
  | .ref a => some (.ref a)
  | .type n => some (.ty n)
  | _ => none
theorem RelV.abs {x : V} {u : Value} (r : RelV x u) : absV u = some x := by
  cases x with
  | non => cases r; rfl
  | bl _ => cases r; rfl
  | int _ => obtain ⟨t, rfl⟩ := r; rfl
  | str _ => obtain ⟨t, rfl⟩ := r; rfl
  | byt _ => obtain ⟨t, rfl⟩ := r; rfl
  | flt _ => obtain ⟨t, rfl⟩ := r; rfl
  | ref _ => cases r; rfl
  | ty _ => cases r; rfl
theorem RelV.inj {x y : V} {u : Value} (r : RelV x u) (q : RelV y u) : x = y := Option.some.inj (r.abs.symm.trans q.abs)
theorem Vals.inj : ∀ {xs ys : List V} {us : List Value}, Vals xs us → Vals ys us → xs = ys := by
  intro xs ys us h
  induction h generalizing ys with
  | nil => intro h'; cases h'; rfl
  | cons r t ih =>
    intro h'
    cases h' with
    | cons r' t' => rw [r.inj r', ih t']
section
variable {X : Cx} {pins : List (Addr × Obj)} {σ : St} {H : Hp} {s : Shared} {a : Addr} {xs ys : List V}
theorem SqL.of {K : PySem.W.Frag} (h : H a = some (.lst xs)) : SqL K H a xs := .inl (.inl h)
theorem SqT.of {K : PySem.W.Frag} (h : H a = some (.tup xs)) : SqT K H a xs := .inl (.inl h)
theorem Inv.list (I : Inv X pins σ H s) (h : SqL X.K H a xs) : ∃ its : List Value, Vals xs its ∧ PlainL s.heap a its.toArray ∧ xs.length ≤ sizeLine := by
  rcases h with h | ⟨o, its, n, hk, hc, hd, hs, hz, r⟩
  · obtain ⟨z, its, n, r, e⟩ := h.ok I.hok
    exact ⟨its, r, ⟨_, n, e, rfl, rfl, rfl⟩, z⟩
  · refine ⟨its.toList, r, ⟨o, n, I.kIn a o hk, hc, hd, by simpa using hs⟩, ?_⟩
    have e := r.length
    simp only [Array.length_toList] at e
    omega
theorem Inv.tuple (I : Inv X pins σ H s) (h : SqT X.K H a xs) : ∃ its : List Value, Vals xs its ∧ IsTup s.heap a its.toArray ∧ xs.length ≤ sizeLine := by
  rcases h with h | ⟨o, its, n, hk, hc, hs, hz, r, _⟩
  · obtain ⟨z, its, r, p⟩ := h.ok I.hok
    exact ⟨its, r, p.tup, z⟩
  · refine ⟨its.toList, r, ⟨o, I.kIn a o hk, hc, n, by simpa using hs⟩, ?_⟩
    have e := r.length
    simp only [Array.length_toList] at e
    omega
theorem Inv.list_inj (I : Inv X pins σ H s) (h : SqL X.K H a xs) (h' : SqL X.K H a ys) : xs = ys := by
  obtain ⟨its, r, ⟨o, n, e, _, _, d⟩, _⟩ := I.list h
  obtain ⟨its', r', ⟨o', n', e', _, _, d'⟩, _⟩ := I.list h'
  rw [e] at e'; cases e'
  rw [d] at d'
  injection d' with d1 _
  have : its = its' := by simpa using congrArg Array.toList d1
  subst this
  exact r.inj r'
theorem Inv.tuple_inj (I : Inv X pins σ H s) (h : SqT X.K H a xs) (h' : SqT X.K H a ys) : xs = ys := by
  obtain ⟨its, r, ⟨o, e, _, n, d⟩, _⟩ := I.tuple h
  obtain ⟨its', r', ⟨o', e', _, n', d'⟩, _⟩ := I.tuple h'
  rw [e] at e'; cases e'
  rw [d] at d'
  injection d' with d1 _
  have : its = its' := by simpa using congrArg Array.toList d1
  subst this
  exact r.inj r'
end
noncomputable abbrev Cx.wish (X : Cx) (E : Value → Shared → Prop) : Cx := { X with xe := E }
noncomputable abbrev Cx.nox (X : Cx) : Cx := X.wish fun _ _ => False
theorem Cx.Ok.wish {X : Cx} (ok : X.Ok) (E : Value → Shared → Prop) : (X.wish E).Ok :=
  ⟨ok.mod, ok.kind, ok.glob, ok.blt, ok.above, ok.inj, ok.has, ok.cab, ok.hd, ok.frames, ok.stk, ok.exf, ok.bs, ok.bsz, ok.noex, ok.exfs, ok.funs, ok.frf⟩
theorem Cx.Ok.unwish {X : Cx} {E : Value → Shared → Prop} (ok : (X.wish E).Ok) : X.Ok :=
  ⟨ok.mod, ok.kind, ok.glob, ok.blt, ok.above, ok.inj, ok.has, ok.cab, ok.hd, ok.frames, ok.stk, ok.exf, ok.bs, ok.bsz, ok.noex, ok.exfs, ok.funs, ok.frf⟩
section
variable {X : Cx} {pins : List (Addr × Obj)} {σ : St} {H : Hp} {s : Shared} {E : Value → Shared → Prop}
theorem Inv.wish (I : Inv X pins σ H s) (E : Value → Shared → Prop) : Inv (X.wish E) pins σ H s := ⟨I.ok.wish E, I.os, I.bare, I.base, I.loc, I.cell, I.free, I.freeC, I.pin, I.hok, I.len⟩
theorem Inv.unwish (I : Inv (X.wish E) pins σ H s) : Inv X pins σ H s := ⟨I.ok.unwish, I.os, I.bare, I.base, I.loc, I.cell, I.free, I.freeC, I.pin, I.hok, I.len⟩
theorem SP.unwish {D : Ends} {f : Flow} {s' : Shared} (h : SP (X.wish E) pins D f s') : SP X pins D f s' := by
  cases f with
  | next => obtain ⟨σ', H', I, q⟩ := h; exact ⟨σ', H', I.unwish, q⟩
  | brk => obtain ⟨σ', H', I, q⟩ := h; exact ⟨σ', H', I.unwish, q⟩
  | cont => obtain ⟨σ', H', I, q⟩ := h; exact ⟨σ', H', I.unwish, q⟩
  | ret u => obtain ⟨v, σ', H', I, r, q⟩ := h; exact ⟨v, σ', H', I.unwish, r, q⟩
theorem PE.nox {e : Expr} {t : TE} (h : PE X.nox e t) : PE X e t := fun pins s σ H Q I hw =>
  wpAny_mono (h pins s σ H Q (I.wish _) hw) (fun _ _ ⟨v, H', I', r, q⟩ => ⟨v, H', I'.unwish, r, q⟩) fun _ _ z => False.elim z
theorem PT.nox {e : Expr} {t : TT} (h : PT X.nox e t) : PT X e t := fun pins s σ H Q I hw =>
  wpAny_mono (h pins s σ H Q (I.wish _) hw) (fun _ _ ⟨H', I', q⟩ => ⟨H', I'.unwish, q⟩) fun _ _ z => False.elim z
theorem PSs.nox {st : List Stmt} {t : TS} (h : PSs X.nox st t) : PSs X st t := fun pins s σ H D I hw =>
  wpAny_mono (h pins s σ H D (I.wish _) hw) (fun _ _ q => q.unwish) fun _ _ z => False.elim z
end
section
variable {X : Cx} {st : Stmt} {rest : List Stmt} {t u : TS} {e : Expr} {te : TE} {pos : Pos}
noncomputable def tNext : TS := fun D σ H => D.nx σ H
noncomputable def tSeq (t u : TS) : TS := fun D σ H => t { D with nx := u D } σ H
theorem pss_nil : PSs X [] tNext := fun _ _ σ H _ I h => wpAny_execs_nil ⟨σ, H, I, h⟩
theorem pss_cons (h1 : PS X st t) (h2 : PSs X rest u) : PSs X (st :: rest) (tSeq t u) := by
  intro pins s σ H D I h
  refine wpAny_execs_cons (thn (h1 pins s σ H { D with nx := u D } I h) fun f s1 q => ?_)
  cases f with
  | next =>
    obtain ⟨σ', H', I', q⟩ := q
    exact h2 pins s1 σ' H' D I' q
  | ret v => exact q
  | brk => exact q
  | cont => exact q
theorem pss_one (h1 : PS X st t) : PSs X [st] t := by
  intro pins s σ H D I h
  refine wpAny_execs_cons (thn (h1 pins s σ H D I h) fun f s1 q => ?_)
  cases f with
  | next => exact wpAny_execs_nil q
  | ret v => exact q
  | brk => exact q
  | cont => exact q
theorem Inv.quiet {pins : List (Addr × Obj)} {σ : St} {H : Hp} {s : Shared} (I : Inv X pins σ H s) : interactive X.env = false := by simp [interactive, I.ok.kind]
noncomputable def tDrop (te : TE) : TS := fun D σ H => te σ H fun _ H1 => D.nx σ H1
theorem ps_expr (he : PE X e te) (hs : swapsWith e none pos.line X.env = pure false := by rfl) : PS X (.Expr e pos) (tDrop te) := by
  intro pins s σ H D I h
  exact wpAny_Expr_any (thn (he pins s σ H _ I h) fun v s1 ⟨x, H1, I1, r1, q1⟩ => ⟨σ, H1, I1, q1⟩) I.quiet hs
noncomputable def tRet (te : TE) : TS := fun D σ H => te σ H D.rt
theorem ps_ret (he : PE X e te) : PS X (.Return (some e) pos) (tRet te) := by
  intro pins s σ H D I h
  exact wpAny_Return_some (thn (he pins s σ H _ I h) fun v s1 ⟨x, H1, I1, r1, q1⟩ => ⟨x, σ, H1, I1, r1, q1⟩)
noncomputable def tIfS (c : TT) (t u : TS) : TS := fun D σ H => c σ H fun b H1 => if b = true then t D σ H1 else u D σ H1
theorem ps_if {c : Expr} {a b : List Stmt} {tc : TT} (hc : PT X c tc) (ha : PSs X a t) (hb : PSs X b u) : PS X (.If c a b pos) (tIfS tc t u) := by
  intro pins s σ H D I h
  refine wpAny_If (thn (hc pins s σ H _ I h) fun d s1 zz => ?_)
  obtain ⟨H1, I1, q1⟩ := zz
  cases d with
  | true => exact ha pins s1 σ H1 D I1 q1
  | false => exact hb pins s1 σ H1 D I1 q1
end
noncomputable abbrev TG := V → St → Hp → (St → Hp → Prop) → Prop
noncomputable abbrev TGs := List V → St → Hp → (St → Hp → Prop) → Prop
noncomputable def PG (X : Cx) (target : Expr) (t : TG) : Prop :=
  ∀ (pins : List (Addr × Obj)) (s : Shared) (σ : St) (H : Hp) (v : V) (u : Value) (Q : St → Hp → Prop), Inv X pins σ H s → RelV v u → t v σ H Q →
    wpAny (model X.prog X.w) X.A (assign target X.env u) (fun _ s' => ∃ σ' H', Inv X pins σ' H' s' ∧ Q σ' H') X.xe s
noncomputable def PGs (X : Cx) (ts : List Expr) (t : TGs) : Prop :=
  ∀ (pins : List (Addr × Obj)) (s : Shared) (σ : St) (H : Hp) (vs : List V) (us : List Value) (Q : St → Hp → Prop), Inv X pins σ H s → Vals vs us → t vs σ H Q →
    wpAny (model X.prog X.w) X.A (assignInOrder ((assignEach ts X.env).map (·.2)) us) (fun _ s' => ∃ σ' H', Inv X pins σ' H' s' ∧ Q σ' H') X.xe s
section
variable {X : Cx} {pos : Pos}
noncomputable def gName (i : Nat) : TG := fun v σ H Q => Q (σ.set i (some v)) H
theorem pg_name {i : Nat} {x : Str} (hN : X.N.Nodup) (hi : X.N[i]? = some x) (hx : Loc X.env.scope x) (hf : X.fn x = true ∨ X.env.scope.names.lookup x = some .local := by first | exact .inl rfl | exact .inr rfl | assumption) : PG X (.Name x pos) (gName i) := by
  intro pins s σ H v u Q I r h
  exact wpAny_assign_Name (store_ok I hN hi hx r (fun s' I' => ⟨_, H, I', h⟩) hf)
noncomputable def gNil : TGs := fun vs σ H Q => vs = [] ∧ Q σ H
noncomputable def gCons (t : TG) (u : TGs) : TGs := fun vs σ H Q => ∃ v r, vs = v :: r ∧ t v σ H fun σ' H' => u r σ' H' Q
theorem pgs_nil : PGs X [] gNil := by
  intro pins s σ H vs us Q I r h
  obtain ⟨e, h⟩ := h
  subst e
  cases r
  exact assignInOrder_nil ⟨σ, H, I, h⟩
theorem pgs_cons {e : Expr} {es : List Expr} {t : TG} {u : TGs} (h1 : PG X e t) (h2 : PGs X es u)
    (hs : (assignEach (e :: es) X.env).map (·.2) = assign e X.env :: (assignEach es X.env).map (·.2) := by rfl) : PGs X (e :: es) (gCons t u) := by
  intro pins s σ H vs us Q I r h
  obtain ⟨v, vr, e1, h⟩ := h
  subst e1
  cases r with
  | cons r rr =>
    rw [hs]
    refine assignInOrder_cons (thn (h1 pins s σ H _ _ _ I r h) fun _ s1 zz => ?_)
    obtain ⟨σ1, H1, I1, q1⟩ := zz
    exact h2 pins s1 σ1 H1 _ _ Q I1 rr q1
noncomputable def gTup (K : PySem.W.Frag) (n : Nat) (t : TGs) : TG := fun v σ H Q => ∃ a xs, v = .ref a ∧ SqT K H a xs ∧ xs.length = n ∧ t xs σ H Q
theorem pg_tup {es : List Expr} {k : Nat} {t : TGs} {n : Nat} (hc : X.calm = true) (h : PGs X es t)
    (hn : (assignEach es X.env).length = n := by rfl) (hst : (assignEach es X.env).findIdx? (·.1) = none := by rfl) : PG X (.Tuple es k pos) (gTup X.K n t) := by
  intro pins s σ H v u Q I r hw
  obtain ⟨a, xs, e1, hq, hl, hw⟩ := hw
  subst e1
  cases r
  obtain ⟨its, rv, ht, hz⟩ := I.tuple hq
  refine assign_Tuple_tuple (I.ok.hd hc) ht (by simp [hn, ← hl, rv.length]) hst fun h' hx => ?_
  have I1 : Inv X pins σ H { s with heap := h' } := I.kept (t' := s.toks) fun b o e => hx b o (Nat.ne_of_lt (Heap.lt_size e)) e
  exact h pins _ σ H xs _ Q I1 (by simpa using rv) hw
noncomputable def tAsg (te : TE) (g : TG) : TS := fun D σ H => te σ H fun x H1 => g x σ H1 D.nx
theorem ps_asg {tg e : Expr} {te : TE} {g : TG} (he : PE X e te) (hg : PG X tg g) (hs : swapsWithSole [tg] e pos.line X.env = pure false := by rfl) (hw : swappedStores [tg] e X.env = pure none := by rfl)
    (h1 : (assignEach [tg] X.env).map (·.2) = [assign tg X.env] := by rfl) : PS X (.Assign [tg] e pos) (tAsg te g) := by
  intro pins s σ H D I h
  refine wpAny_Assign_stores (thn (he pins s σ H _ I h) fun v s1 ⟨x, H1, I1, r1, q1⟩ => ?_) hs hw
  rw [h1]
  exact thn (hg pins s1 σ H1 x v _ I1 r1 q1) fun _ s2 q => q
theorem ps_set {i : Nat} {x : Str} {e : Expr} {te : TE} {pos' : Pos} (hN : X.N.Nodup) (hi : X.N[i]? = some x) (hx : Loc X.env.scope x) (he : PE X e te) (hs : swapsWith e (some (.Name x pos')) pos.line X.env = pure false := by rfl) (hf : X.fn x = true ∨ X.env.scope.names.lookup x = some .local := by first | exact .inl rfl | exact .inr rfl | assumption) :
    PS X (.Assign [.Name x pos'] e pos) (tAsg te (gName i)) := by
  intro pins s σ H D I h
  refine wpAny_Assign_Name (thn (he pins s σ H _ I h) fun v s1 ⟨y, H1, I1, r1, q1⟩ => ?_) hs
  exact store_ok I1 hN hi hx r1 (fun s2 I2 => ⟨_, H1, I2, q1⟩) hf
end
section
variable {X : Cx} {pos : Pos}
end
structure It where
  go : Nat → Hp → Prop
  yld : Nat → Hp → V → Hp → Prop
  stop : Nat → Hp → Prop
noncomputable def FpOk (X : Cx) (pins : List (Addr × Obj)) (H : Hp) (b : Addr) : Prop :=
  H b = none ∧ b ≠ X.env.locals ∧ b ∉ X.fs ∧ (b ∈ X.ex ∨ X.s₀.heap.objs.size ≤ b) ∧ (∀ x c, X.env.cells.lookup x = some c → c ≠ b) ∧ ∀ p ∈ X.pn ++ pins, p.1 ≠ b
theorem Inv.fpOk {X : Cx} {pins : List (Addr × Obj)} {σ : St} {H H' : Hp} {s : Shared} {b : Addr} (I : Inv X pins σ H s) (hb : s.heap.objs.size ≤ b) (hn : H' b = none) : FpOk X pins H' b := by
  refine ⟨hn, Nat.ne_of_gt (Nat.lt_of_lt_of_le I.lt hb), I.nofs hb, .inr (Nat.le_trans I.sz hb), fun x c e z => ?_, fun p hp z => ?_⟩
  · obtain ⟨v, q⟩ := I.cell x c e
    exact absurd (Nat.lt_of_lt_of_le q.lt (by rw [z]; exact hb)) (Nat.lt_irrefl _)
  · exact absurd (Nat.lt_of_lt_of_le (Heap.lt_size (I.pin p hp).1) (by rw [z]; exact hb)) (Nat.lt_irrefl _)
structure Turn (P : Program) (w : World) (K : PySem.W.Frag) (tg : Expr) (J : It) (fp : List Addr) (it : Addr) (tn : Nat → Heap → Prop) : Prop where
  mem : it ∈ fp
  obj : ∀ i h, tn i h → ∀ b ∈ fp, ∃ o, h.get? b = some o ∧ ∀ v, o.data ≠ .cell v
  keep : ∀ i h h', tn i h → (∀ b ∈ fp, ∀ o, h.get? b = some o → h'.get? b = some o) → tn i h'
  item : ∀ (X : Cx), X.prog = P → X.w = w → X.K = K → X.calm = true → ∀ (i : Nat) (pins : List (Addr × Obj)) (s : Shared) (σ : St) (H : Hp) (E : Value → Shared → Prop), Inv X pins σ H s → (∀ b ∈ fp, FpOk X pins H b) → tn i s.heap → J.go i H →
    wpAny (model P w) X.A (pyNext (.ref it)) (fun r s1 => ∃ u, r = some u ∧
      wpAny (model P w) X.A (letOwnedTupleGo tg (.ref it) u) (fun _ s2 => ∃ x H', Inv X pins σ H' s2 ∧ RelV x u ∧ J.yld i H x H' ∧ tn (i + 1) s2.heap ∧ ∀ b ∈ fp, H' b = none) E s1) E s
  done : ∀ (X : Cx), X.prog = P → X.w = w → X.K = K → X.calm = true → ∀ (i : Nat) (pins : List (Addr × Obj)) (s : Shared) (σ : St) (H : Hp) (E : Value → Shared → Prop), Inv X pins σ H s → (∀ b ∈ fp, FpOk X pins H b) → tn i s.heap → J.stop i H →
    wpAny (model P w) X.A (pyNext (.ref it)) (fun r s1 => r = none ∧ Inv X pins σ H s1) E s
  self : ∀ (A : Around) (i : Nat) (s : Shared) (Q : Value → Shared → Prop) (E : Value → Shared → Prop), tn i s.heap → Q (.ref it) s → wpAny (model P w) A (pyIter (.ref it)) Q E s
noncomputable abbrev TI := St → Hp → (It → Hp → Prop) → Prop
noncomputable def PIE (X : Cx) (pins : List (Addr × Obj)) (σ : St) (tg : Expr) (R : It → Hp → Prop) (itv : Value) (s2 : Shared) : Prop :=
  ∃ (it : Addr) (fp : List Addr) (tn : Nat → Heap → Prop) (J : It) (H' : Hp), itv = .ref it ∧ Inv X pins σ H' s2 ∧ Turn X.prog X.w X.K tg J fp it tn ∧ tn 0 s2.heap ∧ (∀ b ∈ fp, FpOk X pins H' b) ∧ R J H'
noncomputable def PI (X : Cx) (tg iter : Expr) (wi : TI) : Prop :=
  ∀ (pins : List (Addr × Obj)) (s : Shared) (σ : St) (H : Hp) (R : It → Hp → Prop), Inv X pins σ H s → wi σ H R →
    wpAny (model X.prog X.w) X.A (eval iter X.env) (fun v s1 => wpAny (model X.prog X.w) X.A (pyIter v) (PIE X pins σ tg R) X.xe s1) X.xe s
theorem go_of {M : Model} {A : Around} {E : Value → Shared → Prop} {s : Shared} {tg : Expr} {it : Addr} {u : Value} {o : Obj} {n : String} {vs : Array Value} {Q : Unit → Shared → Prop} (ho : s.heap.get? it = some o) (hc : o.cls = .type n) (hd : o.data = .fields vs)
    (hn : ["enumerate", "zip", "dict_itemiterator", "dict_reverseitemiterator", "odict_iterator", "itertools.zip_longest", "itertools.pairwise"].contains n = false) (hQ : Q () s) : wpAny M A (letOwnedTupleGo tg (.ref it) u) Q E s := by
  unfold letOwnedTupleGo
  cases tg <;> first
    | exact wpAny_pure hQ
    | (cases u <;> first
        | exact wpAny_pure hQ
        | (refine wpAny_bind (wpAny_load ho ?_)
           rw [hc, hd]
           show wpAny M A (if (["enumerate", "zip", "dict_itemiterator", "dict_reverseitemiterator", "odict_iterator", "itertools.zip_longest", "itertools.pairwise"].contains n && vs[0]? == some (rawInt _)) = true then _ else _) Q E s
           rw [if_neg (by intro h; rw [hn, Bool.false_and] at h; cases h)]
           exact wpAny_pure hQ))
noncomputable def Itl (K : PySem.W.Frag) (a : Addr) : It :=
  ⟨fun i H => ∃ xs x, SqL K H a xs ∧ xs[i]? = some x, fun i H x H' => H' = H ∧ ∀ xs, SqL K H a xs → xs[i]? = some x, fun i H => ∃ xs, SqL K H a xs ∧ xs.length ≤ i⟩
noncomputable def Itt (K : PySem.W.Frag) (a : Addr) : It :=
  ⟨fun i H => ∃ xs x, SqT K H a xs ∧ xs[i]? = some x, fun i H x H' => H' = H ∧ ∀ xs, SqT K H a xs → xs[i]? = some x, fun i H => ∃ xs, SqT K H a xs ∧ xs.length ≤ i⟩
noncomputable def Itr (lo : Int) (n : Nat) : It := ⟨fun i _ => i < n, fun i H x H' => H' = H ∧ x = .int (lo + i), fun i _ => n ≤ i⟩
theorem turn_list {P : Program} {w : World} {K : PySem.W.Frag} {tg : Expr} (a it : Addr) : Turn P w K tg (Itl K a) [it] it (fun i h => h.IsListIter it a i) where
  mem := by simp
  obj := fun i h st b hb => by
    have e : b = it := by simpa using hb
    subst e
    obtain ⟨o, e, c, d⟩ := st
    exact ⟨o, e, fun v z => by rw [d] at z; cases z⟩
  keep := fun i h h' st k => st.at fun o e => k it (by simp) o e
  item := by
    intro X hP hw hK hc i pins s σ H E I hf st hg
    subst hP hw hK
    obtain ⟨xs, x, hq, hx⟩ := hg
    obtain ⟨its, rv, p, hz⟩ := I.list hq
    obtain ⟨u, hu, ru⟩ := rv.get hx
    obtain ⟨f0, f1, f2, f3, f4, f5⟩ := hf it (by simp)
    refine wpAny_pyNext_list_item st p.isList (x := u) (by simpa using hu) fun h' st' sb => ?_
    have I1 : Inv X pins σ H { s with heap := h' } := I.turned (t' := s.toks) (fun b o hb e => (sb.2 b hb).trans e) f0 f1 f3 f4 f5
    obtain ⟨o, e, c, d⟩ := id st'
    exact ⟨u, rfl, go_of (s := { s with heap := h' }) e c d (by decide) ⟨x, H, I1, ru, ⟨rfl, fun ys hy => by rw [I.list_inj hy hq]; exact hx⟩, st', fun b hb => (hf b hb).1⟩⟩
  done := by
    intro X hP hw hK hc i pins s σ H E I hf st hg
    subst hP hw hK
    obtain ⟨xs, hq, hx⟩ := hg
    obtain ⟨its, rv, p, hz⟩ := I.list hq
    obtain ⟨f0, f1, f2, f3, f4, f5⟩ := hf it (by simp)
    have hl := rv.length
    exact wpAny_pyNext_list_end (I.ok.hd hc) st p.isList (by simp; omega) fun h' eb => ⟨rfl, I.turned (t' := s.toks) (fun b o hb e => eb b o hb e) f0 f1 f3 f4 f5⟩
  self := fun _ _ _ _ _ st h => wpAny_pyIter_listiter st h
theorem turn_tuple {P : Program} {w : World} {K : PySem.W.Frag} {tg : Expr} (a it : Addr) : Turn P w K tg (Itt K a) [it] it (fun i h => h.IsTupleIter it a i) where
  mem := by simp
  obj := fun i h st b hb => by
    have e : b = it := by simpa using hb
    subst e
    obtain ⟨o, e, c, d⟩ := st
    exact ⟨o, e, fun v z => by rw [d] at z; cases z⟩
  keep := fun i h h' st k => st.at fun o e => k it (by simp) o e
  item := by
    intro X hP hw hK hc i pins s σ H E I hf st hg
    subst hP hw hK
    obtain ⟨xs, x, hq, hx⟩ := hg
    obtain ⟨its, rv, p, hz⟩ := I.tuple hq
    obtain ⟨u, hu, ru⟩ := rv.get hx
    obtain ⟨f0, f1, f2, f3, f4, f5⟩ := hf it (by simp)
    refine wpAny_pyNext_tuple_item st (show s.heap.IsTuple a its.toArray from p) (x := u) (by simpa using hu) fun h' st' sb => ?_
    have I1 : Inv X pins σ H { s with heap := h' } := I.turned (t' := s.toks) (fun b o hb e => (sb.2 b hb).trans e) f0 f1 f3 f4 f5
    obtain ⟨o, e, c, d⟩ := id st'
    exact ⟨u, rfl, go_of (s := { s with heap := h' }) e c d (by decide) ⟨x, H, I1, ru, ⟨rfl, fun ys hy => by rw [I.tuple_inj hy hq]; exact hx⟩, st', fun b hb => (hf b hb).1⟩⟩
  done := by
    intro X hP hw hK hc i pins s σ H E I hf st hg
    subst hP hw hK
    obtain ⟨xs, hq, hx⟩ := hg
    obtain ⟨its, rv, p, hz⟩ := I.tuple hq
    obtain ⟨f0, f1, f2, f3, f4, f5⟩ := hf it (by simp)
    have hl := rv.length
    exact wpAny_pyNext_tuple_end (I.ok.hd hc) st (show s.heap.IsTuple a its.toArray from p) (by simp; omega) fun h' eb => ⟨rfl, I.turned (t' := s.toks) (fun b o hb e => eb b o hb e) f0 f1 f3 f4 f5⟩
  self := fun _ _ _ _ _ st h => wpAny_pyIter_tupleiter st h
theorem turn_range {P : Program} {w : World} {K : PySem.W.Frag} {tg : Expr} (it : Addr) (lo : Int) (n : Nat) : Turn P w K tg (Itr lo n) [it] it (fun i h => IsRangeIter h it (lo + (i : Nat) * 1) ((n : Int) - (i : Nat)) 1) where
  mem := by simp
  obj := fun i h st b hb => by
    have e : b = it := by simpa using hb
    subst e
    exact ⟨_, st, fun v z => by
      have z' : Data.fields _ = Data.cell v := z
      cases z'⟩
  keep := fun i h h' st k => k it (by simp) _ st
  item := by
    intro X hP hw hK hc i pins s σ H E I hf st hg
    subst hP hw hK
    obtain ⟨f0, f1, f2, f3, f4, f5⟩ := hf it (by simp)
    have W := Walks.range (prog := X.prog) (w := X.w) (I.ok.hd hc) it lo 1 n
    refine W.item i s _ _ hg st fun v h' tk hv st' kk => ?_
    obtain ⟨t, rfl⟩ := hv
    have I1 : Inv X pins σ H { s with heap := h', toks := tk } := I.turned (fun b o hb e => kk b o (by simpa using hb) e) f0 f1 f3 f4 f5
    refine ⟨_, rfl, go_of (s := { s with heap := h', toks := tk }) (n := "range_iterator") st' rfl rfl (by decide) ⟨.int (lo + i), H, I1, ⟨t, ?_⟩, ⟨rfl, rfl⟩, st', fun b hb => (hf b hb).1⟩⟩
    rw [Int.mul_one]
  done := by
    intro X hP hw hK hc i pins s σ H E I hf st hg
    subst hP hw hK
    obtain ⟨f0, f1, f2, f3, f4, f5⟩ := hf it (by simp)
    exact wpAny_pyNext_range_end (I.ok.hd hc) st (by have : n ≤ i := hg; omega) fun h' eb => ⟨rfl, I.turned (t' := s.toks) (fun b o hb e => eb b o hb e) f0 f1 f3 f4 f5⟩
  self := fun _ _ _ _ _ st h => wpAny_pyIter_rangeiter st h
end L2
namespace L2
open PySem PySem.Spec PyProof.Rows
section
variable {X : Cx} {tg : Expr}
theorem range_it {pins : List (Addr × Obj)} {σ : St} {H : Hp} {s : Shared} {R : It → Hp → Prop} {E : Value → Shared → Prop} {lo hi : Int} {t u v : Tok} {tk : Nat} (I : Inv X pins σ H s) (h1 : -(2 ^ 62) ≤ lo) (h2 : lo < 2 ^ 62) (h3 : -(2 ^ 62) ≤ hi) (h4 : hi < 2 ^ 62)
    (q : R (Itr lo (hi - lo).toNat) H) : wpAny (model X.prog X.w) X.A (pyIter (.ref s.heap.objs.size)) (PIE X pins σ tg R) E { s with heap := s.heap.push { cls := .type "range", data := .fields #[.int lo t, .int hi u, .int 1 v] }, toks := tk } := by
  refine wpAny_pyIter_range (IsRange.new ..) (small_one h1 h2 h3 h4) ?_
  have I1 : Inv X pins σ H { s with heap := s.heap.push { cls := .type "range", data := .fields #[.int lo t, .int hi u, .int 1 v] }, toks := tk } := I.kept fun b o e => Heap.get?_push_of_some _ e
  refine ⟨(s.heap.push { cls := .type "range", data := .fields #[.int lo t, .int hi u, .int 1 v] }).objs.size, [(s.heap.push { cls := .type "range", data := .fields #[.int lo t, .int hi u, .int 1 v] }).objs.size], _, _, H, rfl,
    I1.kept (t' := tk) fun b o e => Heap.get?_push_of_some _ e, turn_range _ lo (hi - lo).toNat, ?_, fun b hb => ?_, q⟩
  · have e1 : lo + ((0 : Nat) : Int) * 1 = lo := by simp
    have e2 : (((hi - lo).toNat : Nat) : Int) - ((0 : Nat) : Int) = Builtin.Range.rangeSize lo hi 1 := by rw [rangeSize_one]; split <;> omega
    show IsRangeIter _ _ (lo + ((0 : Nat) : Int) * 1) ((((hi - lo).toNat : Nat) : Int) - ((0 : Nat) : Int)) 1
    rw [e1, e2]
    exact Heap.get?_push_size _ rfl
  · have e : b = (s.heap.push { cls := .type "range", data := .fields #[.int lo t, .int hi u, .int 1 v] }).objs.size := by simpa using hb
    subst e
    exact I1.fpOk (Nat.le_refl _) (I1.hok.fresh (Nat.le_refl _))
noncomputable def iRng1 (ta : TA) : TI := fun σ H R => ta σ H fun vs H1 => ∃ j : Int, vs = [.int j] ∧ -(2 ^ 62) ≤ j ∧ j < 2 ^ 62 ∧ R (Itr 0 j.toNat) H1
noncomputable def iRng2 (ta : TA) : TI := fun σ H R => ta σ H fun vs H1 => ∃ i j : Int, vs = [.int i, .int j] ∧ (-(2 ^ 62) ≤ i ∧ i < 2 ^ 62 ∧ -(2 ^ 62) ≤ j ∧ j < 2 ^ 62) ∧ R (Itr i (j - i).toNat) H1
theorem pi_range1 {a : Expr} {ta : TA} {p pos : Pos} (hg : Gl X "range") (hm : X.mg "range" = none) (ha : PA X [a] ta) (hs : starEach [a] X.env = [(false, eval a X.env)] := by rfl) : PI X tg (.Call (.Name "range" p) [a] [] pos) (iRng1 ta) := by
  intro pins s σ H R I h
  refine Call_ (ld_blt I hg hm boot_range (PyProof.Rows.callWith_type1 (thn (ha pos pins s σ H _ I h) fun us s1 ⟨vs, H1, I1, r1, q1⟩ => ?_) hs rfl))
  obtain ⟨j, e, q1, q2, q⟩ := q1
  subst e
  cases r1 with
  | cons r rr =>
    cases rr
    obtain ⟨t, rfl⟩ := r
    exact call_range_1 (range_it I1 (by omega) (by omega) q1 q2 (by simpa using q))
theorem pi_range2 {a b : Expr} {ta : TA} {p pos : Pos} (hg : Gl X "range") (hm : X.mg "range" = none) (ha : PA X [a, b] ta) (hs : starEach [a, b] X.env = [(false, eval a X.env), (false, eval b X.env)] := by rfl) (hs2 : starEach [b] X.env = [(false, eval b X.env)] := by rfl) :
    PI X tg (.Call (.Name "range" p) [a, b] [] pos) (iRng2 ta) := by
  intro pins s σ H R I h
  refine Call_ (ld_blt I hg hm boot_range (PyProof.Rows.callWith_type1 (thn (ha pos pins s σ H _ I h) fun us s1 ⟨vs, H1, I1, r1, q1⟩ => ?_) (by rw [hs, hs2]) (by rw [hs2]; rfl)))
  obtain ⟨i, j, e, ⟨q1, q2, q3, q4⟩, q⟩ := q1
  subst e
  cases r1 with
  | cons r rr =>
    cases rr with
    | cons r' rr =>
      cases rr
      obtain ⟨t, rfl⟩ := r
      obtain ⟨t', rfl⟩ := r'
      exact call_range_2 (range_it I1 q1 q2 q3 q4 q)
noncomputable def tFor (wi : TI) (g : TG) (tb : TS) : TS := fun D σ H => wi σ H fun J H1 => ∃ W : Nat → Nat → St → Hp → Prop, (∃ m, W 0 m σ H1) ∧ ∀ i m σ H, W i m σ H →
  (J.stop i H ∧ D.nx σ H) ∨ (J.go i H ∧ ∃ N : St → Hp → Prop, (∀ σ' H', N σ' H' → ∃ m', m' < m ∧ W (i + 1) m' σ' H') ∧ ∀ x H', J.yld i H x H' → g x σ H' fun σ2 H2 => tb { D with nx := N, ct := N, bk := D.nx } σ2 H2)
noncomputable def pinsAt (fp : List Addr) (h : Heap) : List (Addr × Obj) := fp.filterMap fun b => (h.get? b).map fun o => (b, o)
theorem mem_pinsAt {fp : List Addr} {h : Heap} {b : Addr} {o : Obj} (hb : b ∈ fp) (e : h.get? b = some o) : (b, o) ∈ pinsAt fp h := List.mem_filterMap.mpr ⟨b, hb, by rw [e]; rfl⟩
theorem of_pinsAt {fp : List Addr} {h : Heap} {p : Addr × Obj} (hp : p ∈ pinsAt fp h) : p.1 ∈ fp ∧ h.get? p.1 = some p.2 := by
  obtain ⟨b, hb, e⟩ := List.mem_filterMap.mp hp
  cases q : h.get? b with
  | none => rw [q] at e; cases e
  | some o =>
    rw [q] at e
    have e' : (b, o) = p := Option.some.inj e
    subst e'
    exact ⟨hb, q⟩
theorem Inv.pinned {pins : List (Addr × Obj)} {σ : St} {H : Hp} {s : Shared} {fp : List Addr} (I : Inv X pins σ H s) (hf : ∀ b ∈ fp, FpOk X pins H b) (ho : ∀ b ∈ fp, ∃ o, s.heap.get? b = some o ∧ ∀ v, o.data ≠ .cell v) : Inv X (pins ++ pinsAt fp s.heap) σ H s :=
  I.pins_of fun p hp => (List.mem_append.mp hp).elim (fun z => I.pin p (List.mem_append_right _ z)) fun z => by
    obtain ⟨hb, e⟩ := of_pinsAt z
    obtain ⟨f0, f1, f2, _⟩ := hf p.1 hb
    obtain ⟨o, e', d⟩ := ho p.1 hb
    rw [e] at e'; cases e'
    exact ⟨e, f0, f1, f2, d⟩
theorem Inv.unpinned {pins pl : List (Addr × Obj)} {σ : St} {H : Hp} {s : Shared} (I : Inv X (pins ++ pl) σ H s) : Inv X pins σ H s := I.pins_of fun p hp => I.pin p (List.mem_append_right _ (List.mem_append_left _ hp))
theorem ps_for {iter : Expr} {body : List Stmt} {wi : TI} {g : TG} {tb : TS} {pos : Pos} (hp : PassesOwn (model X.prog X.w) X.A X.env X.xe) (hc : X.calm = true) (hi : PI X tg iter wi) (hg : PG X tg g) (hb : PSs X body tb)
    (hs : ∀ x, foldedSetIterable iter X.env x = pure x := by intro _; rfl) : PS X (.For tg iter body [] pos) (tFor wi g tb) := by
  intro pins s σ H D I h
  refine wpAny_For (thn (hi pins s σ H _ I h) fun v s1 h1 => thn h1 fun itv s2 h2 => ?_) hs
  obtain ⟨it, fp, tn, J, H2, e, I2, T, st2, f2, W, ⟨m0, w0⟩, turn⟩ := h2
  subst e
  -- what stays true of the iterator's objects through the loop
  have stat : ∀ {H' : Hp}, (∀ b ∈ fp, H' b = none) → ∀ b ∈ fp, FpOk X pins H' b := fun hn b hb => ⟨hn b hb, (f2 b hb).2⟩
  refine codeAny_forLoop_any (fun n s' => ∃ i σ' H', Inv X pins σ' H' s' ∧ tn i s'.heap ∧ (∀ b ∈ fp, H' b = none) ∧ W i n σ' H') ?_ m0 ⟨0, σ, H2, I2, st2, fun b hb => (f2 b hb).1, w0⟩
  rintro n s3 ⟨i, σ3, H3, I3, st3, fr3, w3⟩
  rcases turn i n σ3 H3 w3 with ⟨stop, qn⟩ | ⟨go, N, hN, step⟩
  · refine wpAny_passesOwn hp (thn (T.done X rfl rfl rfl hc i pins s3 σ3 H3 X.xe I3 (stat fr3) st3 stop) fun r s4 zz => ?_)
    obtain ⟨hr, I4⟩ := zz
    subst hr
    exact wpAny_execs_nil ⟨σ3, H3, I4, qn⟩
  · refine wpAny_passesOwn hp (thn (T.item X rfl rfl rfl hc i pins s3 σ3 H3 X.xe I3 (stat fr3) st3 go) fun r s4 zz => ?_)
    obtain ⟨u, hr, h4⟩ := zz
    subst hr
    refine wpAny_passesOwn hp (thn h4 fun _ s5 zz => ?_)
    obtain ⟨x, H5, I5, r5, y5, st5, fr5⟩ := zz
    have I5' := I5.pinned (stat fr5) (T.obj _ _ st5)
    refine wpAny_passesOwn hp (thn (hg _ s5 σ3 H5 x u _ I5' r5 (step x H5 y5)) fun _ s6 zz => ?_)
    obtain ⟨σ6, H6, I6, q6⟩ := zz
    refine wpAny_passesOwn hp (thn (hb _ s6 σ6 H6 _ I6 q6) fun f s7 q7 => ?_)
    have again : ∀ {σ7 : St} {H7 : Hp}, Inv X (pins ++ pinsAt fp s5.heap) σ7 H7 s7 → N σ7 H7 → ∃ m, m < n ∧ ∃ i σ' H', Inv X pins σ' H' s7 ∧ tn i s7.heap ∧ (∀ b ∈ fp, H' b = none) ∧ W i m σ' H' := fun {σ7 H7} I7 n7 => by
      obtain ⟨m', hm, w7⟩ := hN σ7 H7 n7
      refine ⟨m', hm, i + 1, σ7, H7, I7.unpinned, T.keep _ _ _ st5 fun b hb o e => (I7.pin (b, o) (List.mem_append_right _ (List.mem_append_right _ (mem_pinsAt hb e)))).1, fun b hb => ?_, w7⟩
      obtain ⟨o, e, d⟩ := T.obj _ _ st5 b hb
      exact (I7.pin (b, o) (List.mem_append_right _ (List.mem_append_right _ (mem_pinsAt hb e)))).2.1
    cases f with
    | next => obtain ⟨σ7, H7, I7, n7⟩ := q7; exact again I7 n7
    | cont => obtain ⟨σ7, H7, I7, n7⟩ := q7; exact again I7 n7
    | brk => obtain ⟨σ7, H7, I7, q7⟩ := q7; exact ⟨σ7, H7, I7.unpinned, q7⟩
    | ret v => obtain ⟨x7, σ7, H7, I7, r7, q7⟩ := q7; exact ⟨x7, σ7, H7, I7.unpinned, r7, q7⟩
end
end L2
namespace L2
open PySem PySem.Spec PyProof.Rows
noncomputable abbrev R2 := V → V → Hp → VK → Prop
noncomputable def OpR (X : Cx) (f : Value → Value → Sem Value) (r : R2) : Prop :=
  ∀ (pins : List (Addr × Obj)) (s : Shared) (σ : St) (H : Hp) (x y : V) (v u : Value) (Q : VK), Inv X pins σ H s → RelV x v → RelV y u → r x y H Q →
    wpAny (model X.prog X.w) X.A (f v u) (EP X pins σ Q) X.xe s
noncomputable def UnR (X : Cx) (f : Value → Sem Value) (r : V → Hp → VK → Prop) : Prop :=
  ∀ (pins : List (Addr × Obj)) (s : Shared) (σ : St) (H : Hp) (x : V) (v : Value) (Q : VK), Inv X pins σ H s → RelV x v → r x H Q →
    wpAny (model X.prog X.w) X.A (f v) (EP X pins σ Q) X.xe s
noncomputable def CallR (X : Cx) (f : Value) (r : List V → Hp → VK → Prop) : Prop :=
  ∀ (pins : List (Addr × Obj)) (s : Shared) (σ : St) (H : Hp) (xs : List V) (us : List Value) (Q : VK), Inv X pins σ H s → Vals xs us → r xs H Q →
    wpAny (model X.prog X.w) X.A (call f us) (EP X pins σ Q) X.xe s
noncomputable def TruR (X : Cx) (r : V → Hp → (Bool → Hp → Prop) → Prop) : Prop :=
  ∀ (pins : List (Addr × Obj)) (s : Shared) (σ : St) (H : Hp) (x : V) (v : Value) (Q : Bool → Hp → Prop), Inv X pins σ H s → RelV x v → r x H Q →
    wpAny (model X.prog X.w) X.A (truthy v) (TP X pins σ Q) X.xe s
noncomputable def tOp (r : R2) (ta tb : TE) : TE := fun σ H Q => ta σ H fun x H1 => tb σ H1 fun y H2 => r x y H2 Q
noncomputable def tUn (r : V → Hp → VK → Prop) (ta : TE) : TE := fun σ H Q => ta σ H fun x H1 => r x H1 Q
noncomputable def rI (C : Int → Int → Prop) (g : Int → Int → V) : R2 := fun x y H Q => ∃ i j, x = .int i ∧ y = .int j ∧ C i j ∧ Q (g i j) H
noncomputable def rI0 (g : Int → Int → V) : R2 := fun x y H Q => ∃ i j, x = .int i ∧ y = .int j ∧ Q (g i j) H
noncomputable def rU (g : Int → V) : V → Hp → VK → Prop := fun x H Q => ∃ i, x = .int i ∧ Q (g i) H
section
variable {X : Cx} {a b c : Expr} {ta tb tc : TE} {pos : Pos}
theorem binT (ha : PE X a ta) (hb : PE X b tb) {pins : List (Addr × Obj)} {s : Shared} {σ : St} {H : Hp} {R : V → V → Hp → Prop} (I : Inv X pins σ H s)
    (h : ta σ H fun x H1 => tb σ H1 fun y H2 => R x y H2) {Q : Value → Shared → Prop} {f : Value → Value → Sem Value}
    (hf : ∀ v u s2 x y H2, Inv X pins σ H2 s2 → RelV x v → RelV y u → R x y H2 → wpAny (model X.prog X.w) X.A (f v u) Q X.xe s2) :
    wpAny (model X.prog X.w) X.A (eval a X.env) (fun v s₁ => wpAny (model X.prog X.w) X.A (eval b X.env) (fun u s₂ => wpAny (model X.prog X.w) X.A (f v u) Q X.xe s₂) X.xe s₁) X.xe s := by
  refine thn (ha pins s σ H _ I h) fun v s1 zz => ?_
  obtain ⟨x, H1, I1, r1, q1⟩ := zz
  refine thn (hb pins s1 σ H1 _ I1 q1) fun u s2 zz => ?_
  obtain ⟨y, H2, I2, r2, q2⟩ := zz
  exact hf v u s2 x y H2 I2 r1 r2 q2
theorem pe_op {op : Operator} {r : R2} (ho : OpR X (binaryOp op) r) (ha : PE X a ta) (hb : PE X b tb) : PE X (.BinOp a op b pos) (tOp r ta tb) := by
  intro pins s σ H Q I h
  exact wpAny_BinOp (binT ha hb I h fun v u s2 x y H2 I2 rx ry q => ho pins s2 σ H2 x y v u Q I2 rx ry q)
theorem pe_un {op : UnaryOp} {r : V → Hp → VK → Prop} (ho : UnR X (unaryOp op) r) (ha : PE X a ta) : PE X (.UnaryOp op a pos) (tUn r ta) := by
  intro pins s σ H Q I h
  exact UnaryOp_ (thn (ha pins s σ H _ I h) fun v s1 ⟨x, H1, I1, r1, q1⟩ => ho pins s1 σ H1 x v Q I1 r1 q1)
theorem opI {f : Value → Value → Sem Value} {C : Int → Int → Prop} {g : Int → Int → Int}
    (rule : ∀ (i j : Int) (t u : Tok) (s : Shared) (Q : Value → Shared → Prop) (E : Value → Shared → Prop), C i j → Q (.int (g i j) s.toks) { s with toks := s.toks + 1 } → wpAny (model X.prog X.w) X.A (f (.int i t) (.int j u)) Q E s) :
    OpR X f (rI C fun i j => .int (g i j)) := by
  intro pins s σ H x y v u Q I rx ry h
  obtain ⟨i, j, rfl, rfl, hc, q⟩ := h
  obtain ⟨t, rfl⟩ := rx
  obtain ⟨t', rfl⟩ := ry
  exact rule i j t t' s _ _ hc ⟨.int (g i j), H, I.tok _, ⟨_, rfl⟩, q⟩
theorem opI0 {f : Value → Value → Sem Value} {g : Int → Int → Int}
    (rule : ∀ (i j : Int) (t u : Tok) (s : Shared) (Q : Value → Shared → Prop) (E : Value → Shared → Prop), Q (.int (g i j) s.toks) { s with toks := s.toks + 1 } → wpAny (model X.prog X.w) X.A (f (.int i t) (.int j u)) Q E s) :
    OpR X f (rI0 fun i j => .int (g i j)) := by
  intro pins s σ H x y v u Q I rx ry h
  obtain ⟨i, j, rfl, rfl, q⟩ := h
  obtain ⟨t, rfl⟩ := rx
  obtain ⟨t', rfl⟩ := ry
  exact rule i j t t' s _ _ ⟨.int (g i j), H, I.tok _, ⟨_, rfl⟩, q⟩
theorem opB0 {f : Value → Value → Sem Value} {g : Int → Int → Bool}
    (rule : ∀ (i j : Int) (t u : Tok) (s : Shared) (Q : Value → Shared → Prop) (E : Value → Shared → Prop), Q (.bool (g i j)) s → wpAny (model X.prog X.w) X.A (f (.int i t) (.int j u)) Q E s) :
    OpR X f (rI0 fun i j => .bl (g i j)) := by
  intro pins s σ H x y v u Q I rx ry h
  obtain ⟨i, j, rfl, rfl, q⟩ := h
  obtain ⟨t, rfl⟩ := rx
  obtain ⟨t', rfl⟩ := ry
  exact rule i j t t' s _ _ ⟨.bl (g i j), H, I, rfl, q⟩
noncomputable def CDiv (i j : Int) : Prop := 0 < j ∧ j < 1073741824
noncomputable def CPow (i j : Int) : Prop := 0 ≤ j ∧ j ≤ 1000000 ∧ i.natAbs < 2 ^ 64
noncomputable def CMul (i j : Int) : Prop := (-(2 ^ 64) < i ∧ i < 2 ^ 64) ∨ (-(2 ^ 64) < j ∧ j < 2 ^ 64)
theorem CMul.ok {i j : Int} (h : CMul i j) : IntMulOk i j := by
  rcases h with ⟨h1, h2⟩ | ⟨h1, h2⟩
  · exact .of_left (intBits_le_64 h1 h2)
  · exact .of_right (intBits_le_64 h1 h2)
theorem op_add : OpR X (binaryOp .Add) (rI0 fun i j => .int (i + j)) := opI0 fun _ _ _ _ _ _ _ q => add_int q
theorem op_sub : OpR X (binaryOp .Sub) (rI0 fun i j => .int (i - j)) := opI0 fun _ _ _ _ _ _ _ q => sub_int q
theorem op_mul : OpR X (binaryOp .Mult) (rI CMul fun i j => .int (i * j)) := opI fun _ _ _ _ _ _ _ hc q => mul_int q hc.ok
theorem op_fdiv : OpR X (binaryOp .FloorDiv) (rI CDiv fun i j => .int (i / j)) := opI fun i j _ _ _ _ _ hc q => by
  have h1 : (0 : Int) < j := hc.1
  have h2 : j < 1073741824 := hc.2
  exact floordiv_int (by omega) (by rw [Int.fdiv_eq_ediv_of_nonneg i (by omega)]; exact q) (.inl (PyProof.noPylong_small (by omega)))
theorem op_mod : OpR X (binaryOp .Mod) (rI (fun _ j => 0 < j) fun i j => .int (i % j)) := opI fun i j _ _ _ _ _ hc q => by
  have h1 : (0 : Int) < j := hc
  exact mod_int' (by omega) (by rw [Int.fmod_eq_emod_of_nonneg i (by omega)]; exact q)
theorem op_pow : OpR X (binaryOp .Pow) (rI CPow fun i j => .int (i ^ j.toNat)) := opI fun _ _ _ _ _ _ _ hc q => pow_int_small hc.1 hc.2.1 hc.2.2 q
theorem unI {f : Value → Sem Value} {g : Int → Int}
    (rule : ∀ (i : Int) (t : Tok) (s : Shared) (Q : Value → Shared → Prop) (E : Value → Shared → Prop), Q (.int (g i) s.toks) { s with toks := s.toks + 1 } → wpAny (model X.prog X.w) X.A (f (.int i t)) Q E s) :
    UnR X f (rU fun i => .int (g i)) := by
  intro pins s σ H x v Q I rx h
  obtain ⟨i, rfl, q⟩ := h
  obtain ⟨t, rfl⟩ := rx
  exact rule i t s _ _ ⟨.int (g i), H, I.tok _, ⟨_, rfl⟩, q⟩
theorem un_neg : UnR X (unaryOp .USub) (rU fun i => .int (-i)) := unI fun _ _ _ _ _ q => neg_int q
end
section
variable {X : Cx} {a b c : Expr} {ta tb tc : TE} {pos : Pos}
theorem fin_bl {pins : List (Addr × Obj)} {σ : St} {H : Hp} {s : Shared} {Q : VK} {k k' : Bool} (I : Inv X pins σ H s) (q : Q (.bl k) H) (e : k = k') : EP X pins σ Q (.bool k') s := by
  subst e
  exact ⟨.bl k, H, I, rfl, q⟩
theorem op_lt : OpR X (compareOp .Lt) (rI0 fun i j => .bl (decide (i < j))) := opB0 fun _ _ _ _ _ _ _ q => lt_int q
theorem op_le : OpR X (compareOp .LtE) (rI0 fun i j => .bl (decide (i ≤ j))) := opB0 fun _ _ _ _ _ _ _ q => le_int q
theorem op_gt : OpR X (compareOp .Gt) (rI0 fun i j => .bl (decide (j < i))) := opB0 fun _ _ _ _ _ _ _ q => gt_int q
theorem op_ge : OpR X (compareOp .GtE) (rI0 fun i j => .bl (decide (j ≤ i))) := opB0 fun _ _ _ _ _ _ _ q => ge_int q
theorem op_in_str : OpR X (compareOp .In) (fun x y H Q => ∃ i j, x = .str i ∧ y = .str j ∧ Q (.bl (!(Builtin.Str.occurrences j i 0 j.length 1).isEmpty)) H) := by
  intro pins s σ H x y v u Q I rx ry h
  obtain ⟨i, j, rfl, rfl, q⟩ := h
  obtain ⟨t, rfl⟩ := rx
  obtain ⟨t', rfl⟩ := ry
  exact in_str (fin_bl I q rfl)
theorem nomark (b : Expr) {op : CmpOp} (h : op ≠ .In := by decide) (h2 : op ≠ .NotIn := by decide) : behindInMarks op b = false := by
  have e1 : (op == CmpOp.In) = false := by cases op <;> first | rfl | exact absurd rfl h
  have e2 : (op == CmpOp.NotIn) = false := by cases op <;> first | rfl | exact absurd rfl h2
  cases b <;> simp [behindInMarks, e1, e2]
theorem pe_cmpR {op : CmpOp} {r : R2} (ho : OpR X (compareOp op) r) (ha : PE X a ta) (hb : PE X b tb) (hm : behindInMarks op b = false) : PE X (.Compare a [op] [b] pos) (tOp r ta tb) := by
  intro pins s σ H Q I h
  exact wpAny_Compare1 (binT ha hb I h fun v u s2 x y H2 I2 rx ry q => ho pins s2 σ H2 x y v u Q I2 rx ry q) hm
noncomputable def tTest (t : TE) : TT := fun σ H Q => t σ H fun x H' => ∃ k, x = .bl k ∧ Q k H'
theorem pt_cmpR {op : CmpOp} {r : R2} (ho : OpR X (compareOp op) r) (ha : PE X a ta) (hb : PE X b tb) (hm : behindInMarks op b = false) : PT X (.Compare a [op] [b] pos) (tTest (tOp r ta tb)) := by
  intro pins s σ H Q I h
  refine wpAny_isTrue_Compare1 (thn (ha pins s σ H _ I h) fun v s1 ⟨x, H1, I1, r1, q1⟩ => thn (hb pins s1 σ H1 _ I1 q1) fun u s2 ⟨y, H2, I2, r2, q2⟩ =>
    thn (ho pins s2 σ H2 x y v u _ I2 r1 r2 q2) fun c s3 ⟨z, H3, I3, r3, k, e, q3⟩ => ?_) hm
  subst e
  cases r3
  exact wpAny_truthy_bool ⟨H3, I3, q3⟩
noncomputable def TruV (K : PySem.W.Frag) (x : V) (H : Hp) (k : Bool) : Prop :=
  match x with
  | .non => k = false
  | .bl b => k = b
  | .int i => k = (i != 0)
  | .str y => y.length ≤ sizeLine ∧ k = ((y.length : Int) != 0)
  | .byt y => y.size ≤ sizeLine ∧ k = ((y.size : Int) != 0)
  | .ref p => (∃ xs, SqL K H p xs ∧ k = !xs.isEmpty) ∨ (∃ xs, SqT K H p xs ∧ k = !xs.isEmpty) ∨ ∃ kvs, H p = some (.dK kvs) ∧ k = !kvs.isEmpty
  | _ => False
theorem isEmpty_kv {κ : Type} {kvs : List (κ × V)} {vs : List (κ × Value)} (r : KV kvs vs) : (!vs.isEmpty) = !kvs.isEmpty := by
  cases r <;> rfl
theorem isEmpty_of {xs : List V} {its : List Value} (r : Vals xs its) : (!its.toArray.isEmpty) = !xs.isEmpty := by
  cases r <;> simp
theorem line63 : (sizeLine : Nat) < 2 ^ 63 := by rw [sizeLine_eq]; decide
theorem tru_ok : TruR X (fun x H Q => ∃ k, TruV X.K x H k ∧ Q k H) := by
  intro pins s σ H x v Q I rx h
  obtain ⟨k, e, q⟩ := h
  have hl := line63
  have hs : sizeLine = 16777216 := sizeLine_eq
  cases x with
  | non =>
    cases rx
    have e' : k = false := e
    subst e'
    exact truthy_none ⟨H, I, q⟩
  | bl b =>
    cases rx
    have e' : k = b := e
    subst e'
    exact wpAny_truthy_bool ⟨H, I, q⟩
  | int i =>
    obtain ⟨t, rfl⟩ := rx
    have e' : k = (i != 0) := e
    subst e'
    exact PySem.P.truthy_int ⟨H, I, q⟩
  | str y =>
    obtain ⟨t, rfl⟩ := rx
    obtain ⟨hy, e'⟩ : y.length ≤ sizeLine ∧ k = ((y.length : Int) != 0) := e
    subst e'
    exact PySem.P.truthy_str (by omega) ⟨H, I.tok _, q⟩
  | byt y =>
    obtain ⟨t, rfl⟩ := rx
    obtain ⟨hy, e'⟩ : y.size ≤ sizeLine ∧ k = ((y.size : Int) != 0) := e
    subst e'
    exact PySem.W.truthy_bytes (by omega) ⟨H, I.tok _, q⟩
  | ref p =>
    cases rx
    have e' : (∃ xs, SqL X.K H p xs ∧ k = !xs.isEmpty) ∨ (∃ xs, SqT X.K H p xs ∧ k = !xs.isEmpty) ∨ ∃ kvs, H p = some (.dK kvs) ∧ k = !kvs.isEmpty := e
    rcases e' with ⟨xs, hx, e'⟩ | ⟨xs, hx, e'⟩ | ⟨kvs, hx, e'⟩
    · subst e'
      obtain ⟨its, r, pl, hz⟩ := I.list hx
      have hlen := r.length
      exact wpAny_truthy_list pl.isList (by simp only [List.size_toArray]; omega) ⟨H, I.tok _, by rw [isEmpty_of r]; exact q⟩
    · subst e'
      obtain ⟨its, r, pl, hz⟩ := I.tuple hx
      have hlen := r.length
      exact truthy_tuple pl (by simp only [List.size_toArray]; omega) ⟨H, I.tok _, by rw [isEmpty_of r]; exact q⟩
    · subst e'
      obtain ⟨hz, hS, vs, r, m⟩ : kvs.length ≤ sizeLine ∧ (p == sysModules) = false ∧ ∃ vs, KV kvs vs ∧ s.heap.DictOf (mixKind X.prog X.w) p vs := I.hok p _ hx
      have hlen : kvs.length = vs.length := Paired.length r
      exact wpAny_truthy_dict hS m (by omega) ⟨H, I.tok _, by rw [isEmpty_kv r]; exact q⟩
  | _ => exact (show False from e).elim
theorem pt_truth (ha : PE X a ta) (he : ∀ whole, isTrue a X.env whole = (do let v ← whole; standAt a.pos; holding [v] (truthy v))) :
    PT X a (fun σ H Q => ta σ H fun x H' => ∃ k, TruV X.K x H' k ∧ Q k H') := by
  intro pins s σ H Q I h
  exact isTrue_plain (thn (ha pins s σ H _ I h) fun v s1 ⟨x, H1, I1, r1, q1⟩ => tru_ok pins s1 σ H1 x v Q I1 r1 q1) (he _)
theorem op_add_str : OpR X (binaryOp .Add) (fun x y H Q => ∃ i j, x = .str i ∧ y = .str j ∧ i.length + j.length ≤ sizeLine ∧ Q (.str (i ++ j)) H) := by
  intro pins s σ H x y v u Q I rx ry h
  obtain ⟨i, j, rfl, rfl, hz, q⟩ := h
  obtain ⟨t, rfl⟩ := rx
  obtain ⟨t', rfl⟩ := ry
  exact add_str (fun t' tk => ⟨.str (i ++ j), H, I.tok _, ⟨_, rfl⟩, q⟩) hz
theorem vals1 {x : V} {us : List Value} (r : Vals [x] us) : ∃ u, us = [u] ∧ RelV x u := by
  cases r with
  | cons r1 r2 => cases r2; exact ⟨_, rfl, r1⟩
theorem vals2 {x y : V} {us : List Value} (r : Vals [x, y] us) : ∃ u w', us = [u, w'] ∧ RelV x u ∧ RelV y w' := by
  cases r with
  | cons r1 r2 =>
    cases r2 with
    | cons r3 r4 => cases r4; exact ⟨_, _, rfl, r1, r3⟩
theorem call_abs : CallR X (.builtin "abs") (fun xs H Q => ∃ i, xs = [.int i] ∧ Q (.int (if i < 0 then -i else i)) H) := by
  intro pins s σ H xs us Q I r h
  obtain ⟨i, rfl, q⟩ := h
  obtain ⟨u, rfl, t, rfl⟩ := vals1 r
  exact call_abs_int fun u tk => ⟨.int (if i < 0 then -i else i), H, I.tok _, ⟨_, rfl⟩, q⟩
theorem call_max2 (hc : X.calm = true) : CallR X (.builtin "max") (fun xs H Q => ∃ i j, xs = [.int i, .int j] ∧ Q (.int (if j > i then j else i)) H) := by
  intro pins s σ H xs us Q I r h
  obtain ⟨i, j, rfl, q⟩ := h
  obtain ⟨u, w', rfl, ⟨t, rfl⟩, ⟨t', rfl⟩⟩ := vals2 r
  refine max_two_ints (I.ok.hd hc) fun h' tk k => ⟨_, H, I.kept k, ?_, q⟩
  by_cases hj : j > i
  · rw [if_pos hj, if_pos hj]; exact ⟨_, rfl⟩
  · rw [if_neg hj, if_neg hj]; exact ⟨_, rfl⟩
theorem call_int1 : CallR X (.type "int") (fun xs H Q => (∃ i, xs = [.int i] ∧ Q (.int i) H) ∨ ∃ k, xs = [.bl k] ∧ Q (.int (if k then 1 else 0)) H) := by
  intro pins s σ H xs us Q I r h
  rcases h with ⟨i, rfl, q⟩ | ⟨k, rfl, q⟩
  · obtain ⟨u, rfl, t, rfl⟩ := vals1 r
    exact call_int_int ⟨.int i, H, I, ⟨_, rfl⟩, q⟩
  · obtain ⟨u, rfl, r1⟩ := vals1 r
    cases r1
    exact call_int_bool ⟨.int (if k then 1 else 0), H, I.tok _, ⟨_, rfl⟩, q⟩
theorem call_str_int : CallR X (.type "str") (fun xs H Q => ∃ i, xs = [.int i] ∧ i.natAbs.log2 < 1920 ∧ Q (.str (toString i)) H) := by
  intro pins s σ H xs us Q I r h
  obtain ⟨i, rfl, hz, q⟩ := h
  obtain ⟨u, rfl, t, rfl⟩ := vals1 r
  exact PySem.P.str_of_int hz ⟨.str _, H, I.tok _, ⟨_, rfl⟩, q⟩
end
end L2
namespace L2
open PySem PySem.Spec PyProof.Rows
structure ObjM (h : Heap) (x dx C : Addr) (mA : Str → Option Value) : Prop where
  obj : h.get? x = some (PySem.W.instObj C dx)
  ns : h.Ns1 dx mA
  ne : dx ≠ x
theorem lookIn_ns {h : Heap} {dx : Addr} {mA : Str → Option Value} (n : h.Ns1 dx mA) : ∃ od, h.get? dx = some od ∧ ∀ name, PySem.W.lookIn name od = some (mA name) := by
  obtain ⟨o, es, ep, ho, hd, hk, _, hm⟩ := n
  refine ⟨o, ho, fun name => ?_⟩
  have e := hm name
  unfold nsFind findBy at e
  rw [← Array.find?_toList] at e
  unfold PySem.W.lookIn
  rw [hd]
  dsimp only
  split
  · rename_i y q
    rw [q] at e
    exact congrArg some e
  · rename_i q
    rw [q] at e
    have a : es.toList.any (·.refKey) = false := by
      rw [List.any_eq_false]
      intro y hy
      obtain ⟨z, t, hkey⟩ := hk y (Array.mem_toList_iff.mp hy)
      simp [DictEntry.refKey, hkey]
    have a' : ¬ es.toList.any (·.refKey) = true := by rw [a]; exact Bool.false_ne_true
    rw [if_neg a']
    exact congrArg some e
theorem ObjM.look {h : Heap} {x dx C : Addr} {mA : Str → Option Value} (I : ObjM h x dx C mA) : ∃ od, PySem.W.InstAt h x (PySem.W.instObj C dx) C (some od) ∧ ∀ name, PySem.W.lookIn name od = some (mA name) :=
  let ⟨od, ho, hl⟩ := lookIn_ns I.ns
  ⟨od, ⟨I.obj, rfl, rfl, ho⟩, hl⟩
section
variable {prog : Program} {w : World} {A : Around} {E : Value → Shared → Prop} {s : Shared} {K : PySem.W.Frag} {x dx C f : Addr} {mA : Str → Option Value} {name : Str} {v : Value}
end
section
variable {P : Program} {w : World} {H H' : Hp} {h h' : Heap} {a C dx : Addr} {fs fs' : List (Str × V)}
end
structure Cls (K : PySem.W.Frag) (C : Addr) : Prop where
  pg : PySem.W.plainGet K C Str.empty = true
  hd : PySem.W.hasDictIn K C = true
  po : PySem.W.plainOver K C = true
  sa : PySem.W.findIn K (.ref C) "__setattr__" = some (some (.builtin "object.__setattr__"))
theorem Cls.get {K : PySem.W.Frag} {C : Addr} (c : Cls K C) (f : Str) : PySem.W.plainGet K C f = true := c.pg
structure Con (K : PySem.W.Frag) (C : Addr) (f : Str) (v : V) (u : Value) : Prop where
  at_ : PySem.W.findIn K (.ref C) f = some (some u)
  rel : RelV v u
  get : PySem.W.specialIn K u "__get__" = some none
  cp : PySem.W.copiedNames.contains f = false
structure Meth (K : PySem.W.Frag) (C : Addr) (m : Str) (f : Addr) : Prop where
  at_ : PySem.W.findIn K (.ref C) m = some (some (.ref f))
  fn : PySem.W.isFn K (.ref f) = true
  kp : PySem.W.keepIn K (.ref f) = true
section
variable {X : Cx} {pins : List (Addr × Obj)} {σ : St} {H : Hp} {s : Shared} {a C dx : Addr} {fs : List (Str × V)} {f : Str} {v : V} {A : Around} {E : Value → Shared → Prop}
theorem Inv.made (I : Inv X pins σ H s) : Inv X pins σ (upd (upd H s.heap.objs.size (.own (s.heap.objs.size + 1))) (s.heap.objs.size + 1) (.ins C s.heap.objs.size []))
    { s with heap := (s.heap.push PySem.W.emptyDict).push (PySem.W.instObj C s.heap.objs.size) } := by
  have e1 : (s.heap.push PySem.W.emptyDict).get? s.heap.objs.size = some PySem.W.emptyDict := Heap.get?_push_size s.heap rfl
  have e2 : ((s.heap.push PySem.W.emptyDict).push (PySem.W.instObj C s.heap.objs.size)).get? (s.heap.objs.size + 1) = some (PySem.W.instObj C s.heap.objs.size) := by
    have := Heap.get?_push_size (s.heap.push PySem.W.emptyDict) (o := PySem.W.instObj C s.heap.objs.size) rfl
    rwa [Heap.size_push] at this
  have e3 : (s.heap.push PySem.W.emptyDict).Ns s.heap.objs.size (fun _ => none) := ⟨PySem.W.emptyDict, #[], _, e1, rfl, (fun e he => absurd he (by simp)), fun _ => rfl⟩
  have I1 := I.laid (a := s.heap.objs.size) (o := .own (s.heap.objs.size + 1)) (h' := s.heap.push PySem.W.emptyDict) (t' := s.toks) (fun b u q => Heap.get?_push_of_some _ q) (Nat.le_refl _) ⟨_, e1⟩
  refine I1.laid (a := s.heap.objs.size + 1) (o := .ins C s.heap.objs.size []) (t' := s.toks) (fun b u q => Heap.get?_push_of_some _ q) (Nat.le_of_eq (Heap.size_push _ _)) ?_
  have ne : s.heap.objs.size ≠ s.heap.objs.size + 1 := Nat.ne_of_lt (Nat.lt_succ_self _)
  refine ⟨by rw [upd_ne ne, upd_same], Nat.zero_le _, ne, e2, fun _ => none, (Heap.Ns1.of_empty e3).at fun o q => Heap.get?_push_of_some _ q, fun _ => True.intro, fun y hy => absurd rfl hy⟩
theorem attr_of {prog : Program} {w : World} {env : Env} {e : Expr} {f : Str} {pos : Pos} {s : Shared} {Q : Value → Shared → Prop} (hb : attributeBase e f env (eval e env) = eval e env)
    (h : wpAny (model prog w) A (eval e env) (fun o s₁ => wpAny (model prog w) A (getAttr o f true) Q E s₁) E s) : wpAny (model prog w) A (eval (.Attribute e f pos) env) Q E s :=
  Attribute_any_ h (by rw [arm_eval_Attribute, hb])
end
section
variable {X : Cx} {o e value : Expr} {f : Str} {pos pos' tpos : Pos} {ta tv : TE}
end
section
variable {X : Cx} {pins : List (Addr × Obj)} {σ : St} {H : Hp} {s : Shared} {A : Around} {E : Value → Shared → Prop} {Q : Value → Shared → Prop} {c : Value} {b : Bool}
inductive TyOf (K : PySem.W.Frag) (H : Hp) : V → Value → Prop where
  | non : TyOf K H .non (.type "NoneType")
  | bl (x : Bool) : TyOf K H (.bl x) (.type "bool")
  | int (i : Int) : TyOf K H (.int i) (.type "int")
  | str (x : Str) : TyOf K H (.str x) (.type "str")
  | flt (x : UInt64) : TyOf K H (.flt x) (.type "float")
  | lst {a : Addr} {xs : List V} (e : H a = some (.lst xs)) : TyOf K H (.ref a) (.type "list")
  | frz {a : Addr} {o : Obj} {xs : List V} (e : H a = some (.frz o (.lst xs))) : TyOf K H (.ref a) (.type "list")
  | tup {a : Addr} {xs : List V} (e : H a = some (.tup xs)) : TyOf K H (.ref a) (.type "tuple")
  | dK {a : Addr} {kvs : List (Key × V)} (e : H a = some (.dK kvs)) : TyOf K H (.ref a) (.type "dict")
  | dT {a : Addr} {kvs : List (List Key × V)} (e : H a = some (.dT kvs)) : TyOf K H (.ref a) (.type "dict")
  | ins {a C dx : Addr} {fs : List (Str × V)} (e : H a = some (.ins C dx fs)) (cl : Cls K C) (ha : PySem.W.findIn K (.ref C) "__class__" = some (some (.builtin "object.__class__")))
      (hn : PySem.W.specialIn K (.builtin "object.__class__") "__get__" = some (some (.builtin "getset_descriptor.__get__"))) (htk : PySem.W.takesIn K (.builtin "object.__class__") = some true)
      (hm : PySem.W.mroIn K C (.type "object") = some true) : TyOf K H (.ref a) (.ref C)
end
end L2
namespace L2
open PySem PySem.Spec PyProof.Rows
structure Room (k : Nat) (A : Around) : Prop where
  hd : A.handled = none
  dp : A.depth + 3 * k + 5 < recursionLimit
  un : A.units + 16 * k + 200 < cLine
  gd : A.guards = some []
theorem Room.mono {j k : Nat} {A : Around} (r : Room k A) (h : j ≤ k) : Room j A := ⟨r.hd, by have := r.dp; omega, by have := r.un; omega, r.gd⟩
theorem Room.deeper {k : Nat} {A : Around} (r : Room (k + 1) A) (env : Env) : Room k (A.deeper env) :=
  ⟨r.hd, by have := r.dp; show A.depth + 1 + 3 * k + 5 < _; omega, by have := r.un; show A.units + 3 + 16 * k + 200 < _; omega, r.gd⟩
theorem Room.in1 {k : Nat} {A : Around} (r : Room (k + 1) A) : Room k A.in1 :=
  ⟨r.hd, by have := r.dp; show A.depth + 3 * k + 5 < _; omega, by have := r.un; show A.units + 1 + 16 * k + 200 < _; omega, r.gd⟩
theorem make_depth {A : Around} {C : Addr} {us : List Value} {kw : List (Str × Value)} : (A.under (.builtin "type.__call__" ⟨.ref C :: us, kw⟩)).depth = A.depth + 1 := by
  first | rfl | simp [Around.under, Code.weight, Code.isCreation, Code.isGuard, Code.isCaller, Code.frames, Code.isFrame, guardIds]
theorem make_units {A : Around} {C : Addr} {us : List Value} {kw : List (Str × Value)} : (A.under (.builtin "type.__call__" ⟨.ref C :: us, kw⟩)).units = A.units + 1 := by
  first | rfl | simp [Around.under, Code.cUnits, Code.frames, Code.isFrame]
theorem Room.make {k : Nat} {A : Around} (r : Room (k + 1) A) (C : Addr) (us : List Value) (kw : List (Str × Value)) : Room k (A.under (.builtin "type.__call__" ⟨.ref C :: us, kw⟩)) :=
  ⟨r.hd, by have := r.dp; rw [make_depth]; omega, by have := r.un; rw [make_units]; omega, by first | exact r.gd | (simpa [Around.under, Code.guards, Code.isGuard, guardIds, pushGuards] using r.gd)⟩
theorem Room.depth {k : Nat} {A : Around} (r : Room k A) : A.depth < recursionLimit := by have := r.dp; omega
theorem Room.units {k : Nat} {A : Around} (r : Room k A) : A.units + 64 < cLine := by have := r.un; omega
noncomputable def tNil : TA := fun _ H Q => Q [] H
noncomputable def tCons (ta : TE) (tr : TA) : TA := fun σ H Q => ta σ H fun x H1 => tr σ H1 fun xs H2 => Q (x :: xs) H2
section
variable {X : Cx} {e : Expr} {es : List Expr} {te : TE} {t : TA} {pos : Pos}
theorem pa_nil : PA X [] tNil := fun _ _ _ _ H Q I h => Calls.spliced_nil ⟨[], H, I, .nil, h⟩
theorem pa_cons (ha : PE X e te) (hr : PA X es t) (hs : starEach (e :: es) X.env = (false, eval e X.env) :: starEach es X.env := by rfl) : PA X (e :: es) (tCons te t) := by
  intro pos pins s σ H Q I h
  rw [hs]
  show wpAny _ _ (spliced ((false, eval e X.env) :: backTo pos (starEach es X.env))) _ _ s
  refine Calls.spliced_cons (thn (ha pins s σ H _ I h) fun u s1 zz => ?_)
  obtain ⟨x, H1, I1, r1, q1⟩ := zz
  exact thn (hr pos pins s1 σ H1 _ I1 q1) fun us s2 ⟨xs, H2, I2, r2, q2⟩ => ⟨x :: xs, H2, I2, .cons r1 r2, q2⟩
noncomputable def tTup (t : TA) : TE := fun σ H Q => t σ H fun xs H1 => xs.length ≤ sizeLine ∧ ∀ p, H1 p = none → Q (.ref p) (upd H1 p (.tup xs))
noncomputable def tLst (t : TA) : TE := fun σ H Q => t σ H fun xs H1 => xs.length ≤ sizeLine ∧ ∀ p, H1 p = none → Q (.ref p) (upd H1 p (.lst xs))
theorem pe_tup {x1} (h : PA X es t) : PE X (.Tuple es x1 pos) (tTup t) := by
  intro pins s σ H Q I hq
  refine wpAny_Tuple_spliced (thn (h pos pins s σ H _ I hq) fun us s1 ⟨xs, H1, I1, r, z, q⟩ => ⟨by rw [← r.length]; exact z, ?_⟩)
  have hf : H1 s1.heap.objs.size = none := I1.hok.fresh (Nat.le_refl _)
  refine ⟨.ref s1.heap.objs.size, upd H1 s1.heap.objs.size (.tup xs), I1.laid (t' := s1.toks) (fun b u e => Heap.get?_push_of_some _ e) (Nat.le_refl _) ?_, rfl, q _ hf⟩
  exact ⟨z, us, r, ⟨_, Heap.get?_push_size _ rfl, rfl, ⟨_, rfl⟩, rfl⟩⟩
theorem pe_lst (h : PA X es t) : PE X (.List es pos) (tLst t) := by
  intro pins s σ H Q I hq
  refine wpAny_List_spliced (thn (h pos pins s σ H _ I hq) fun us s1 ⟨xs, H1, I1, r, z, q⟩ => ⟨by rw [← r.length]; exact z, ?_⟩)
  have hf : H1 s1.heap.objs.size = none := I1.hok.fresh (Nat.le_refl _)
  refine ⟨.ref s1.heap.objs.size, upd H1 s1.heap.objs.size (.lst xs), I1.laid (t' := s1.toks) (fun b u e => Heap.get?_push_of_some _ e) (Nat.le_refl _) ?_, rfl, q _ hf⟩
  exact ⟨z, us, 0, r, Heap.get?_push_size _ rfl⟩
end
noncomputable abbrev Sp := List V → Hp → VK → XK → Prop
noncomputable abbrev CXT := List Env → Hp → Shared → XK → Value → Shared → Prop
structure Env0 (P : Program) (w : World) (K : PySem.W.Frag) (mg : Str → Option Value) (base : Heap) (A : Around) (outer : List Env) (s : Shared) (H : Hp) : Prop where
  frames : A.frames = some outer
  mod : Mod K mg base
  bs : ∀ b o, base.get? b = some o → s.heap.get? b = some o ∧ H b = none
  bsz : base.objs.size ≤ s.heap.objs.size
  funs : s.heap.FunFrames base outer
  frf : ∀ b ∈ frs outer, H b = none
  hok : HOk P w H s.heap
  bare : AllBare s.gens
noncomputable def CE (outer : List Env) (P : Program) (w : World) (H : Hp) (s : Shared) (Q : VK) (u : Value) (s' : Shared) : Prop :=
  ∃ v H', s'.os = s.os ∧ AllBare s'.gens ∧ Un (frs outer) [] H H' s.heap s'.heap ∧ HOk P w H' s'.heap ∧ RelV v u ∧ Q v H'
noncomputable def CR (CX : CXT) (outer : List Env) (P : Program) (w : World) (H : Hp) (s : Shared) (Q : VK) (E : XK) (r : Result) (s' : Shared) : Prop :=
  match r with
  | .ok (.ret u) => CE outer P w H s Q u s'
  | .ok _ => False
  | .error e => CX outer H s E e s'
structure FnOk (P : Program) (w : World) (K : PySem.W.Frag) (mg : Str → Option Value) (base : Heap) (CX : CXT) (k : Nat) (f : Addr) (fd : FuncData) (ps : List Str) (sp : Sp) : Prop where
  len : ∀ vs H Q E, sp vs H Q E → vs.length = ps.length
  run : ∀ (A : Around) (outer : List Env) (s : Shared) (H : Hp) (args : Args) (us : List Value) (vs : List V) (Q : VK) (E : XK), Room k A → Env0 P w K mg base A outer s H → BindsTo s fd args (ps.zip us) → Vals vs us → sp vs H Q E →
    codeAny (model P w) A (.call (.ref f) args) (CR CX outer P w H s Q E) s
theorem FnOk.mono {P : Program} {w : World} {K : PySem.W.Frag} {mg : Str → Option Value} {base : Heap} {CX : CXT} {j k : Nat} {f : Addr} {fd : FuncData} {ps : List Str} {sp : Sp} (F : FnOk P w K mg base CX j f fd ps sp) (h : j ≤ k) :
    FnOk P w K mg base CX k f fd ps sp := ⟨F.len, fun A outer s H args us vs Q E hr => F.run A outer s H args us vs Q E (hr.mono h)⟩
theorem FnOk.imp {P : Program} {w : World} {K : PySem.W.Frag} {mg : Str → Option Value} {base : Heap} {CX : CXT} {k : Nat} {f : Addr} {fd : FuncData} {ps : List Str} {sp sp' : Sp} (F : FnOk P w K mg base CX k f fd ps sp)
    (h : ∀ vs H Q E, sp' vs H Q E → sp vs H Q E) : FnOk P w K mg base CX k f fd ps sp' :=
  ⟨fun vs H Q E q => F.len vs H Q E (h _ _ _ _ q), fun A outer s H args us vs Q E hr he hb hv hs => F.run A outer s H args us vs Q E hr he hb hv (h _ _ _ _ hs)⟩
theorem Env0.make {P : Program} {w : World} {K : PySem.W.Frag} {mg : Str → Option Value} {base : Heap} {A : Around} {outer : List Env} {s : Shared} {H : Hp} (e : Env0 P w K mg base A outer s H) (C : Addr) (us : List Value) (kw : List (Str × Value)) :
    Env0 P w K mg base (A.under (.builtin "type.__call__" ⟨.ref C :: us, kw⟩)) outer s H := ⟨by first | exact e.frames | (simpa [Around.under, Code.envs, Code.isFrame, pushEnvs] using e.frames), e.mod, e.bs, e.bsz, e.funs, e.frf, e.hok, e.bare⟩
theorem Env0.in1 {P : Program} {w : World} {K : PySem.W.Frag} {mg : Str → Option Value} {base : Heap} {A : Around} {outer : List Env} {s : Shared} {H : Hp} (e : Env0 P w K mg base A outer s H) :
    Env0 P w K mg base A.in1 outer s H := ⟨e.frames, e.mod, e.bs, e.bsz, e.funs, e.frf, e.hok, e.bare⟩
section
variable {X : Cx} {pins : List (Addr × Obj)} {σ : St} {H : Hp} {s s' : Shared}
theorem Inv.env0 (I : Inv X pins σ H s) : Env0 X.prog X.w X.K X.mg X.base X.A X.stack s H :=
  ⟨I.ok.frames, I.ok.mod, I.bs, Nat.le_trans I.ok.bsz I.sz, I.stack, I.stkFree, I.hok, I.bare⟩
theorem Inv.after {Q : VK} {u : Value} (I : Inv X pins σ H s) (h : CE X.stack X.prog X.w H s Q u s') : EP X pins σ Q u s' := by
  obtain ⟨v, H', os, bare, un, hok, r, q⟩ := h
  obtain ⟨hh, g, d, t, os'⟩ := s'
  obtain rfl : os' = s.os := os
  exact ⟨v, H', I.call (h' := hh) (g' := g) (d' := d) (t' := t) (ch := []) un hok bare (fun b z => absurd z (by simp)), r, q⟩
end
noncomputable def tCall (sp : Sp) (dvs : List V) (E : XK) (t : TA) : TE := fun σ H Q => t σ H fun vs H1 => sp (vs ++ dvs) H1 Q E
noncomputable def Binds (K : PySem.W.Frag) (fd : FuncData) (ps : List Str) (ds : List Value) : Prop :=
  ∀ (s : Shared) (us : List Value), K.In s.heap → (us ++ ds).length = ps.length → BindsTo s fd ⟨us, []⟩ (ps.zip (us ++ ds))
theorem Binds.all {K : PySem.W.Frag} {fd : FuncData} {ps : List Str} (h : ∀ us : List Value, us.length = ps.length → bindArgs fd ⟨us, []⟩ = pure (ps.zip us)) : Binds K fd ps [] := fun s us _ hl => by
  rw [List.append_nil] at hl ⊢
  exact .of_eq (h us hl)
noncomputable def Passes (CX : CXT) (X : Cx) (E : XK) : Prop := ∀ (pins : List (Addr × Obj)) (σ : St) (H : Hp) (s : Shared) (e : Value) (s' : Shared), Inv X pins σ H s → CX X.stack H s E e s' → X.xe e s'
section
variable {X : Cx} {CX : CXT} {k : Nat} {f C : Addr} {fd : FuncData} {ps : List Str} {sp : Sp} {dvs : List V} {ds : List Value} {E : XK} {x m : Str} {p pos apos : Pos} {e o : Expr} {es : List Expr} {ta : TE} {t : TA}
theorem run_fn {pins : List (Addr × Obj)} {σ : St} {H : Hp} {s : Shared} {Q : VK} {us : List Value} {vs : List V} (F : FnOk X.prog X.w X.K X.mg X.base CX k f fd ps sp) (hr : Room k X.A) (hb : Binds X.K fd ps ds) (hd : Vals dvs ds) (hx : Passes CX X E)
    (I : Inv X pins σ H s) (r : Vals vs us) (h : sp (vs ++ dvs) H Q E) : wpAny (model X.prog X.w) X.A (call (.ref f) us) (EP X pins σ Q) X.xe s := by
  have r2 : Vals (vs ++ dvs) (us ++ ds) := r.append hd
  have hl : (us ++ ds).length = ps.length := by rw [← r2.length]; exact F.len _ _ _ _ h
  refine wpAny_call (codeAny_mono (F.run X.A X.stack s H ⟨us, []⟩ (us ++ ds) (vs ++ dvs) Q E hr I.env0 (hb s us I.kIn hl) r2 h) fun r s' hq => ?_)
  cases r with
  | error e => exact hx pins σ H s e s' I hq
  | ok fl =>
    cases fl with
    | ret u => exact I.after hq
    | next => exact False.elim hq
    | brk => exact False.elim hq
    | cont => exact False.elim hq
theorem pe_call (F : FnOk X.prog X.w X.K X.mg X.base CX k f fd ps sp) (hr : Room k X.A) (hg : Gl X x) (hm : X.mg x = some (.ref f)) (hk : PySem.W.keepIn X.K (.ref f) = true) (hb : Binds X.K fd ps ds) (hd : Vals dvs ds) (hx : Passes CX X E)
    (ha : PA X (e :: es) t) (hdb : (x == ("__debug__" : Str)) = false := by decide) (he : starEach (e :: es) X.env = (false, eval e X.env) :: starEach es X.env := by rfl) (hpl : (backTo pos (starEach es X.env)).any (·.1) = false := by rfl) :
    PE X (.Call (.Name x p) (e :: es) [] pos) (tCall sp dvs E t) := by
  intro pins s σ H Q I h
  refine wpAny_Call_Name_kw (ld_glob I hg hm ?_ hdb)
  refine PySem.W.callWith_K (h₀ := X.base) I.ok.mod.kin hk (thn (ha pos pins s σ H _ I h) fun us s1 ⟨vs, H1, I1, r, q⟩ => ⟨I1.kIn, ?_⟩) he hpl
  exact run_fn F hr hb hd hx I1 r q
structure Mk (K : PySem.W.Frag) (C f : Addr) : Prop where
  makes : PySem.W.makesIn K C = true
  init : PySem.W.findIn K (.ref C) "__init__" = some (some (.ref f))
  fn : PySem.W.isFn K (.ref f) = true
  kp : PySem.W.keepIn K (.ref C) = true
end
noncomputable def PK (X : Cx) (kws : List Keyword) (t : TA) : Prop :=
  ∀ (pos : Pos) (pins : List (Addr × Obj)) (s : Shared) (σ : St) (H : Hp) (Q : List V → Hp → Prop), Inv X pins σ H s → t σ H Q → wpAny (model X.prog X.w) X.A (evalAll ((backToKw pos (keywordEach kws X.env)).map (·.2))) (AP X pins σ Q) X.xe s
section
variable {X : Cx} {CX : CXT} {k : Nat} {f C : Addr} {fd : FuncData} {ps ks : List Str} {sp : Sp} {E : XK} {x m : Str} {p pos apos kpos : Pos} {e o : Expr} {es : List Expr} {kws : List Keyword} {te ta : TE} {t tk : TA} {nm : Option Str}
structure KBinds (K : PySem.W.Frag) (fd : FuncData) (ps ks : List Str) (g : List Value → List Value → List Value) (gV : List V → List V → List V) : Prop where
  to : ∀ (s : Shared) (us ws : List Value), K.In s.heap → (g us ws).length = ps.length → BindsTo s fd ⟨us, ks.zip ws⟩ (ps.zip (g us ws))
  rel : ∀ {vs : List V} {us : List Value} {zs : List V} {ws : List Value}, Vals vs us → Vals zs ws → Vals (gV vs zs) (g us ws)
variable {g : List Value → List Value → List Value} {gV : List V → List V → List V}
end
structure FnScope (N P : List Str) (sc : Scope) : Prop where
  kind : sc.kind = .function
  co : sc.isCoroutine = false
  gen : sc.isGenerator = false
  nd : N.Nodup
  pre : N.take P.length = P
  par : ∀ x ∈ P, sc.names.lookup x = some .local ∨ sc.names.lookup x = some .cell
  nofree : ∀ y ∈ sc.names, y.2 ≠ .free
theorem bindL_out {kindOf : Str → Option NameKind} {x : Str} : ∀ {binds : List (Str × Value)} {m : Str → Option Value}, (∀ v, (x, v) ∉ binds) → bindL kindOf binds m x = m x
  | [], _, _ => rfl
  | (n, v) :: r, m, h => by
    unfold bindL
    rw [bindL_out fun w hw => h w (List.mem_cons_of_mem _ hw)]
    split
    · have : x ≠ n := by rintro rfl; exact h v List.mem_cons_self
      simp [this]
    · rfl
theorem bindC_out {kindOf : Str → Option NameKind} {x : Str} : ∀ {binds : List (Str × Value)} {m : Str → Option Value}, (∀ v, (x, v) ∉ binds) → bindC kindOf binds m x = m x
  | [], _, _ => rfl
  | (n, v) :: r, m, h => by
    unfold bindC
    rw [bindC_out fun w hw => h w (List.mem_cons_of_mem _ hw)]
    split
    · rfl
    · have : x ≠ n := by rintro rfl; exact h v List.mem_cons_self
      simp [this]
theorem bindL_get {kindOf : Str → Option NameKind} {x : Str} {v : Value} : ∀ {P : List Str} {vs : List Value} {i : Nat} {m : Str → Option Value}, P.Nodup → P[i]? = some x → vs[i]? = some v → kindOf x = some .local →
    bindL kindOf (P.zip vs) m x = some v
  | [], _, _, _, _, h, _, _ => by simp at h
  | _ :: _, [], _, _, _, _, h, _ => by simp at h
  | p :: P, w :: vs, 0, m, nd, h1, h2, hk => by
    simp at h1 h2; subst h1; subst h2
    show bindL kindOf ((p, w) :: P.zip vs) m p = _
    unfold bindL
    rw [bindL_out fun v hv => (List.nodup_cons.mp nd).1 (List.of_mem_zip hv).1, if_pos hk]
    simp
  | p :: P, w :: vs, i + 1, m, nd, h1, h2, hk => by
    show bindL kindOf ((p, w) :: P.zip vs) m x = _
    unfold bindL
    exact bindL_get (i := i) (List.nodup_cons.mp nd).2 (by simpa using h1) (by simpa using h2) hk
theorem bindC_get {kindOf : Str → Option NameKind} {x : Str} {v : Value} : ∀ {P : List Str} {vs : List Value} {i : Nat} {m : Str → Option Value}, P.Nodup → P[i]? = some x → vs[i]? = some v → kindOf x ≠ some .local →
    bindC kindOf (P.zip vs) m x = some v
  | [], _, _, _, _, h, _, _ => by simp at h
  | _ :: _, [], _, _, _, _, h, _ => by simp at h
  | p :: P, w :: vs, 0, m, nd, h1, h2, hk => by
    simp at h1 h2; subst h1; subst h2
    show bindC kindOf ((p, w) :: P.zip vs) m p = _
    unfold bindC
    rw [bindC_out fun v hv => (List.nodup_cons.mp nd).1 (List.of_mem_zip hv).1, if_neg hk]
    simp
  | p :: P, w :: vs, i + 1, m, nd, h1, h2, hk => by
    show bindC kindOf ((p, w) :: P.zip vs) m x = _
    unfold bindC
    exact bindC_get (i := i) (List.nodup_cons.mp nd).2 (by simpa using h1) (by simpa using h2) hk
noncomputable def start (N : List Str) (vs : List V) : St := vs.map some ++ List.replicate (N.length - vs.length) none
noncomputable def cxOf (CX : CXT) (P : Program) (w : World) (K : PySem.W.Frag) (mg : Str → Option Value) (base : Heap) (N : List Str) (qual : Str) (scope : Scope) (f : Addr) (cd : Value) (A : Around) (outer : List Env) (s : Shared) (H : Hp) (E : XK) : Cx where
  prog := P
  w := w
  K := K
  mg := mg
  base := base
  A := A.deeper (envOfC qual scope s.heap.objs.size f cd)
  N := N
  s₀ := s
  H₀ := H
  env := envOfC qual scope s.heap.objs.size f cd
  outer := outer
  stack := envOfC qual scope s.heap.objs.size f cd :: outer
  ex := []
  calm := true
  fn := fun _ => true
  pn := []
  xe := fun e s' => wpAny (model P w) (A.deeper (envOfC qual scope s.heap.objs.size f cd)) (leaving (envOfC qual scope s.heap.objs.size f cd) e) (fun _ s'' => CX outer H s E e s'') (fun e' s'' => CX outer H s E e' s'') s'
theorem cell_has {sc : Scope} {n : Nat} {x : Str} (h : sc.names.lookup x = some .cell) : ∃ c, (cellsFrom n sc.names []).lookup x = some c := by
  have q := PySem.W.cellsFrom_some sc.names n [] (.inl h)
  exact Option.isSome_iff_exists.mp q
theorem inv_start {CX : CXT} {P : Program} {w : World} {K : PySem.W.Frag} {mg : Str → Option Value} {base : Heap} {N ps : List Str} {qual : Str} {scope : Scope} {f : Addr} {cd : Value} {A : Around} {outer : List Env} {s s1 : Shared} {H : Hp} {E : XK} {us : List Value} {vs : List V}
    (S : FnScope N ps scope) (hd : A.handled = none) (e0 : Env0 P w K mg base A outer s H) (hl : vs.length = ps.length) (r : Vals vs us)
    (x : InCallC s s.heap.objs.size (bindL (envOfC qual scope s.heap.objs.size f cd).kindOf (ps.zip us) fun _ => none) (cellsFrom (s.heap.objs.size + 1) scope.names []) (bindC (envOfC qual scope s.heap.objs.size f cd).kindOf (ps.zip us) fun _ => none) s1) :
    Inv (cxOf CX P w K mg base N qual scope f cd A outer s H E) [] (start N vs) H s1 := by
  have hpl : ps.length ≤ N.length := by have := congrArg List.length S.pre; rw [List.length_take] at this; omega
  obtain ⟨h1, tk, rfl, hk⟩ := x.done
  have noA : ∀ b : Addr, b ∉ (cxOf CX P w K mg base N qual scope f cd A outer s H E).ex := fun b z => absurd (show b ∈ ([] : List Addr) from z) (by simp)
  refine ⟨⟨e0.mod, S.kind, rfl, rfl, Nat.le_refl _, fun y z c h1 h2 => ?_, fun y hy => ?_, fun y c _ h => ?_, fun _ => hd, Around.frames_deeper e0.frames, .inr ⟨rfl, rfl⟩, fun b z => absurd z (noA b), e0.bs, e0.bsz, fun b _ _ => noA b, fun b z => absurd z (noA b), e0.funs, e0.frf⟩,
    rfl, e0.bare, Un.kept hk, ⟨_, x.toInCall.ns, fun i y v h1 h2 h3 => ?_⟩, fun y c h => ⟨_, x.cell y c h⟩, e0.hok.fresh (Nat.le_refl _), fun y c h => ?_, fun p hp => absurd (show p ∈ ([] : List (Addr × Obj)) from hp) (by simp), e0.hok.kept hk, ?_⟩
  · exact name_of_addr x.apart (PySem.mem_of_lookup h1) (PySem.mem_of_lookup h2)
  · have hy : scope.names.lookup y = some .cell ∨ scope.names.lookup y = some .free := hy
    rcases hy with hy | hy
    · exact cell_has hy
    · exact absurd rfl (S.nofree _ (PySem.mem_of_lookup hy))
  · exact Nat.le_of_lt (x.above y c (PySem.mem_of_lookup h))
  · have hi : i < vs.length := by
      unfold start at h2
      by_cases hi : i < vs.length
      · exact hi
      · rw [List.getElem?_append_right (by simpa using hi)] at h2
        rw [List.getElem?_replicate] at h2
        split at h2 <;> cases h2
    have ha : vs[i]? = some v := by
      unfold start at h2
      rw [List.getElem?_append_left (by simpa using hi), List.getElem?_map] at h2
      cases e : vs[i]? with
      | none => rw [e] at h2; cases h2
      | some a => rw [e] at h2; cases h2; rfl
    obtain ⟨u, hu, rv⟩ := r.get ha
    have hp : ps[i]? = some y := by
      rw [← S.pre, List.getElem?_take_of_lt (by omega)]; exact h1
    have ndP : ps.Nodup := by rw [← S.pre]; exact S.nd.sublist (List.take_sublist _ _)
    refine ⟨u, rv, ?_⟩
    rcases S.par y (List.mem_of_getElem? hp) with k | k
    · exact .inl ⟨k, bindL_get ndP hp hu k⟩
    · obtain ⟨c, e⟩ := cell_has (n := s.heap.objs.size + 1) k
      refine .inr ⟨.inl k, c, e, ?_⟩
      have q := x.cell y c e
      rw [bindC_get ndP hp hu (by show scope.names.lookup y ≠ _; rw [k]; decide)] at q
      exact q
  · exact e0.hok.fresh (Nat.le_of_lt (x.above y c (PySem.mem_of_lookup h)))
  · unfold start
    show _ = N.length
    rw [List.length_append, List.length_map, List.length_replicate]
    omega
theorem fn_of {CX : CXT} {P : Program} {w : World} {K : PySem.W.Frag} {mg : Str → Option Value} {base : Heap} {k : Nat} {f : Addr} {name qual : Str} {params : Arguments} {body : List Stmt} {scope : Scope} {dV kV doc pm cdv ct oc : Value} {an od : Option Addr}
    {osl : Array (Option Value)} {N ps : List Str} {sp : Sp} (lk : K.lookup f = some ⟨oc, od, .func (PySem.W.fnOf name qual params body scope dV kV doc pm an cdv ct), osl⟩) (hcd : PySem.W.codeIn K cdv qual = true) (S : FnScope N ps scope)
    (len : ∀ vs H Q E, sp vs H Q E → vs.length = ps.length)
    (hbody : ∀ (A : Around) (outer : List Env) (s : Shared) (H : Hp) (vs : List V) (Q : VK) (E : XK), Room k (A.deeper (envOfC qual scope s.heap.objs.size f cdv)) → sp vs H Q E →
      ∃ t, PSs (cxOf CX P w K mg base N qual scope f cdv A outer s H E) body t ∧ t { nx := fun _ H' => Q .non H', rt := Q } (start N vs) H) :
    FnOk P w K mg base CX (k + 1) f (PySem.W.fnOf name qual params body scope dV kV doc pm an cdv ct) ps sp := by
  refine ⟨len, fun A outer s H args us vs Q E hr e0 hb r hsp => ?_⟩
  have hl := len _ _ _ _ hsp
  have KX : K.In s.heap := e0.mod.kin.keeps fun b o e => (e0.bs b o e).1
  have lim : s.heap.NoLimit := e0.mod.nolimit.keeps fun b o e => (e0.bs b o e).1
  have hkind : ∀ y ∈ ps.zip us, scope.names.lookup y.1 = some .local ∨ (scope.names.lookup y.1 = some .cell ∧ ((cellsFrom (s.heap.objs.size + 1) scope.names []).lookup y.1).isSome = true) := fun ⟨n, v⟩ hy => by
    rcases S.par n (List.of_mem_zip hy).1 with q | q
    · exact .inl q
    · exact .inr ⟨q, PySem.W.cellsFrom_some _ _ _ (.inl q)⟩
  refine codeAny_call_function hr.depth (KX _ _ lk) rfl S.co S.gen rfl (PySem.W.codeRec_of KX hcd) (hb _ _ _ _ ?_)
  refine wpAny_newFunctionEnv_cells S.kind hkind fun env he s1 x => ?_
  subst he
  refine ⟨lim.keeps x.toInCall.keep, codeAny_func ?_⟩
  obtain ⟨t, ht, hq⟩ := hbody A outer s H vs Q E (hr.deeper _) hsp
  have I : Inv (cxOf CX P w K mg base N qual scope f cdv A outer s H E) [] (start N vs) H s1 := inv_start S hr.hd e0 hl r x
  refine wpAny_mono (ht [] s1 (start N vs) H _ I hq) (fun fl s' hs => ?_) fun e s' hs => hs
  have fin : ∀ {σ' : St} {H' : Hp} {v : V} {u : Value}, Inv (cxOf CX P w K mg base N qual scope f cdv A outer s H E) [] σ' H' s' → RelV v u → Q v H' → CE outer P w H s Q u s' :=
    fun {σ' H' v u} J rv q => ⟨v, H', J.os, J.bare, J.base, J.hok, rv, q⟩
  cases fl with
  | ret u =>
    obtain ⟨v, σ', H', J, rv, q⟩ := hs
    exact fin J rv q
  | next =>
    obtain ⟨σ', H', J, q⟩ := hs
    exact fin (v := V.non) (u := Value.none) J rfl q
  | brk =>
    obtain ⟨_, _, _, q⟩ := hs
    exact False.elim q
  | cont =>
    obtain ⟨_, _, _, q⟩ := hs
    exact False.elim q
end L2
namespace L2
open PySem PySem.Spec PyProof.Rows
section
variable {X : Cx} {x : Str} {p pos : Pos} {e : Expr} {es : List Expr} {t : TA} {id T : String} {r : List V → Hp → VK → Prop}
noncomputable def tCB (r : List V → Hp → VK → Prop) (t : TA) : TE := fun σ H Q => t σ H fun vs H1 => r vs H1 Q
theorem pe_callB (hc : CallR X (.builtin id) r) (hg : Gl X x) (hm : X.mg x = none) (hv : bootBuiltins x = some (.builtin id)) (ha : PA X (e :: es) t) (hn : x ≠ "__name__" := by decide) (hdb : (x == ("__debug__" : Str)) = false := by decide)
    (he : starEach (e :: es) X.env = (false, eval e X.env) :: starEach es X.env := by rfl) (hpl : (backTo pos (starEach es X.env)).any (·.1) = false := by rfl) : PE X (.Call (.Name x p) (e :: es) [] pos) (tCB r t) := by
  intro pins s σ H Q I h
  refine wpAny_Call_Name_kw (ld_blt I hg hm hv ?_ hn hdb)
  exact PyProof.Rows.callWith_builtin1 (thn (ha pos pins s σ H _ I h) fun us s1 ⟨vs, H1, I1, r1, q1⟩ => hc pins s1 σ H1 vs us Q I1 r1 q1) he hpl
theorem pe_callTy (hc : CallR X (.type T) r) (hg : Gl X x) (hm : X.mg x = none) (hv : bootBuiltins x = some (.type T)) (ha : PA X (e :: es) t) (hn : x ≠ "__name__" := by decide) (hdb : (x == ("__debug__" : Str)) = false := by decide)
    (he : starEach (e :: es) X.env = (false, eval e X.env) :: starEach es X.env := by rfl) (hpl : (backTo pos (starEach es X.env)).any (·.1) = false := by rfl) : PE X (.Call (.Name x p) (e :: es) [] pos) (tCB r t) := by
  intro pins s σ H Q I h
  refine wpAny_Call_Name_kw (ld_blt I hg hm hv ?_ hn hdb)
  exact PyProof.Rows.callWith_type1 (thn (ha pos pins s σ H _ I h) fun us s1 ⟨vs, H1, I1, r1, q1⟩ => hc pins s1 σ H1 vs us Q I1 r1 q1) he hpl
end
end L2
namespace HT
open PySem PyProof.Rows
section
open PySem.SeqAt
open PySem.AutoSeq1 (wpAny_loadPart')
open PySem.MeetsSeq PySem.MeetsSeq2 PySem.MeetsSeq3
end
section
variable {prog : Program} {w : World} {A : Around} {E : Value → Shared → Prop} {s : Shared}
theorem cat_tup {t b : Addr} {vs ws : List Value} {Q : Value → Shared → Prop} (ht : IsTup s.heap t vs.toArray) (hb : IsTup s.heap b ws.toArray) (hv : vs ≠ [])
    (h1 : ws = [] → Q (.ref t) s) (h2 : ws ≠ [] → Q (.ref s.heap.objs.size) { s with heap := s.heap.push { cls := .type "tuple", data := .seq (vs ++ ws).toArray } })
    (hsz : vs.length + ws.length ≤ sizeLine) : wpAny (model prog w) A (binaryOp .Add (.ref t) (.ref b)) Q E s := by
  obtain ⟨⟨cls, dd, data, sl⟩, ho, hc, n, hd⟩ := id ht
  obtain ⟨⟨cls2, dd2, data2, sl2⟩, ho2, hc2, n2, hd2⟩ := id hb
  simp only at hc hd hc2 hd2
  subst hc hd hc2 hd2
  have e : vs.toArray ++ ws.toArray = (vs ++ ws).toArray := by simp
  by_cases hw : ws = []
  · exact concat_meets ⟨_, ho, rfl⟩ ⟨_, ho2, rfl⟩ noFill_tuple_add seq_tuple_add PySem.F.slot_tuple_add PySem.F.entry_tuple_add (PySem.F.args_tuple_add_2 _ _)
      (tuple_addW1 t b vs.toArray ws.toArray n n2 dd dd2 sl sl2 (by simpa using hv) (by simp [hw])) ⟨ho, ho2, h1 hw⟩
  · refine concat_meets ⟨_, ho, rfl⟩ ⟨_, ho2, rfl⟩ noFill_tuple_add seq_tuple_add PySem.F.slot_tuple_add PySem.F.entry_tuple_add (PySem.F.args_tuple_add_2 _ _)
      (tuple_addW2 t b vs.toArray ws.toArray n n2 dd dd2 sl sl2 (by simpa using hv) (by simpa using hw) (by rw [List.size_toArray, List.size_toArray]; exact hsz)) ⟨ho, ho2, ?_⟩
    rw [e]
    exact h2 hw
noncomputable def sIx (n d : Nat) : Option Int → Nat
  | none => d
  | some v => if v < 0 then (v + (n : Int)).toNat else min v.toNat n
theorem sIx_le (n d : Nat) (hd : d ≤ n) (o : Option Int) : sIx n d o ≤ n := by
  cases o with
  | none => exact hd
  | some v =>
    show (if v < 0 then (v + (n : Int)).toNat else min v.toNat n) ≤ n
    by_cases hv : v < 0
    · rw [if_pos hv]; omega
    · rw [if_neg hv]; exact Nat.min_le_right _ _
theorem clip_eq (v : Int) (n d : Nat) : (if v < 0 then max (v + (n : Int)) 0 else min v (n : Int)) = ((sIx n d (some v) : Nat) : Int) := by
  show (if v < 0 then max (v + (n : Int)) 0 else min v (n : Int)) = (((if v < 0 then (v + (n : Int)).toNat else min v.toNat n) : Nat) : Int)
  by_cases hv : v < 0
  · simp only [if_pos hv]; omega
  · simp only [if_neg hv]; omega
theorem adjust_gen (lo hi : Option Int) (n : Nat) : Builtin.Slice.sliceAdjust lo hi 1 (n : Int) = (((sIx n 0 lo : Nat) : Int), ((sIx n n hi : Nat) : Int)) := by
  have h1 : ¬ ((1 : Int) < 0) := by omega
  unfold Builtin.Slice.sliceAdjust
  simp only [h1, if_false]
  refine Prod.ext ?_ ?_
  · cases lo with
    | none => rfl
    | some v => exact clip_eq v n 0
  · cases hi with
    | none => rfl
    | some v => exact clip_eq v n n
theorem places_gen (i j : Nat) : Builtin.Slice.slicePlaces (i : Int) (j : Int) 1 = j - i := by
  unfold Builtin.Slice.slicePlaces
  have h1 : (1 : Int) > 0 := by omega
  simp only [h1, if_true, Int.ediv_one]
  split <;> omega
theorem slicePart_ {v : Value} {o : Option Int} {Q : Option Int → Shared → Prop} (p : IsPart v o) (h : Q o s) : wpAny (model prog w) A (Builtin.Slice.slicePartIndex v) Q E s := by
  cases p with
  | none => exact slicePart_none h
  | int i t => exact slicePart_int h
theorem sliceApplied_gen {sl : Addr} {vl vu : Value} {lo hi : Option Int} {n : Nat} {Q : Int × Int × Nat → Shared → Prop} (hs : s.heap.IsSliceOf sl vl vu .none) (pl : IsPart vl lo) (pu : IsPart vu hi)
    (h : Q (((sIx n 0 lo : Nat) : Int), 1, sIx n n hi - sIx n 0 lo) s) : wpAny (model prog w) A (Builtin.Slice.sliceApplied (.ref sl) (pure (n : Int))) Q E s := by
  obtain ⟨os, hos, hcs, hds⟩ := id hs
  unfold Builtin.Slice.sliceApplied Builtin.Slice.sliceFields
  refine wpAny_bind (wpAny_bind (wpAny_field hos hds (x := vl) rfl (wpAny_bind (wpAny_field hos hds (x := vu) rfl (wpAny_bind (wpAny_field hos hds (x := .none) rfl (wpAny_pure ?_)))))))
  refine wpAny_bind (slicePart_none ?_)
  show wpAny _ _ (if ((1 : Int) == 0) = true then _ else _) _ _ s
  rw [if_neg (by decide)]
  refine wpAny_bind (slicePart_ pl (wpAny_bind (slicePart_ pu (wpAny_bind (wpAny_pure ?_)))))
  show wpAny _ _ (match Builtin.Slice.sliceAdjust lo hi 1 (n : Int) with | (lo, hi) => pure (lo, (1 : Int), Builtin.Slice.slicePlaces lo hi 1)) _ _ s
  rw [adjust_gen lo hi n]
  show wpAny _ _ (pure (((sIx n 0 lo : Nat) : Int), (1 : Int), Builtin.Slice.slicePlaces ((sIx n 0 lo : Nat) : Int) ((sIx n n hi : Nat) : Int) 1)) _ _ s
  rw [places_gen]
  exact wpAny_pure h
theorem pick_gen (xs : Array Value) (i k : Nat) : ((List.range k).filterMap fun (m : Nat) => xs[((i : Int) + (m : Int) * 1).toNat]?).toArray = ((xs.toList.drop i).take k).toArray := by
  have e : (fun (m : Nat) => xs[((i : Int) + (m : Int) * 1).toNat]?) = fun m => xs[i + m]? := by
    funext m
    have : ((i : Int) + (m : Int) * 1).toNat = i + m := by omega
    rw [this]
  rw [e]
  have := pick_run xs i k
  rw [List.filterMap_map] at this
  have e2 : ((fun x => xs[x]?) ∘ fun x => i + x) = fun m => xs[i + m]? := rfl
  rw [e2] at this
  rw [this]
theorem getItem_tuple_cut {t sl : Addr} {items : Array Value} {vl vu : Value} {lo hi : Option Int} {Q : Value → Shared → Prop} (ht : IsTup s.heap t items) (hs : s.heap.IsSliceOf sl vl vu .none) (pl : IsPart vl lo) (pu : IsPart vu hi)
    (hw : ¬ (sIx items.size 0 lo = 0 ∧ sIx items.size items.size hi = items.size))
    (h : Q (.ref s.heap.objs.size) { s with heap := s.heap.push { cls := .type "tuple", data := .seq ((items.toList.drop (sIx items.size 0 lo)).take (sIx items.size items.size hi - sIx items.size 0 lo)).toArray } })
    (hsz : items.size ≤ sizeLine) : wpAny (model prog w) A (getItem (.ref t) (.ref sl)) Q E s := by
  have htake : sizeOk (.seq ((items.toList.drop (sIx items.size 0 lo)).take (sIx items.size items.size hi - sIx items.size 0 lo)).toArray) := by
    show ((items.toList.drop (sIx items.size 0 lo)).take (sIx items.size items.size hi - sIx items.size 0 lo)).toArray.size ≤ sizeLine
    rw [List.size_toArray, List.length_take, List.length_drop, Array.length_toList]
    omega
  have hj : sIx items.size items.size hi ≤ items.size := sIx_le _ _ (Nat.le_refl _) hi
  obtain ⟨os, hos, hcs, hds⟩ := id hs
  have hTs : s.TypeIs (.ref sl) "slice" := ⟨os, hos, hcs⟩
  unfold getItem
  try with_reducible refine wpAny_holding ?_
  first | refine wpAny_bind (wpAny_pure ?_) | skip
  refine wpAny_bind (wpAny_sequenceKey ht.typeIs (by decide) ?_)
  refine wpAny_bind (wpAny_callSpecial?_slot (name := Str.ofString "__getitem__") ht.typeIs PyProof.Rows.slot_tuple_getitem
    (wpAny_call_entry PyProof.Rows.slot_tuple_getitem ht.typeIs entry_tuple_getitem ?_ (args_tuple_getitem _ _)))
  show wpAny _ _ (Builtin.Tuple.tupleItemsOf (.ref t) >>= _) _ _ s
  refine wpAny_bind (tupleItemsOf_ ht ?_)
  refine wpAny_bind (wpAny_typeOf hTs ?_)
  rw [if_pos (by decide)]
  refine wpAny_bind (sliceApplied_gen hs pl pu ?_)
  have hno : ¬ ((((sIx items.size 0 lo : Nat) : Int) == 0 && (1 : Int) == 1 && (sIx items.size items.size hi - sIx items.size 0 lo) == items.size) = true) := by
    intro q
    rw [Bool.and_eq_true, Bool.and_eq_true] at q
    have q1 : ((sIx items.size 0 lo : Nat) : Int) = 0 := eq_of_beq q.1.1
    have q2 : sIx items.size items.size hi - sIx items.size 0 lo = items.size := eq_of_beq q.2
    exact hw ⟨by omega, by omega⟩
  show wpAny _ _ (if (((sIx items.size 0 lo : Nat) : Int) == 0 && (1 : Int) == 1 && (sIx items.size items.size hi - sIx items.size 0 lo) == items.size) = true then _ else _) _ _ s
  rw [if_neg hno, pick_gen]
  first
    | exact wpAny_bind (m := Builtin.Tuple.tupleExact _) (wpAny_newObj_type (wpAny_pure ⟨_, rfl, wpAny_pure h⟩) htake)
    | exact wpAny_bind (m := Builtin.Tuple.tupleExact _) (wpAny_newObj_type (wpAny_bind (wpAny_pure (wpAny_pure ⟨_, rfl, wpAny_pure h⟩))) htake)
    | exact wpAny_bind (wpAny_bind (m := Builtin.Tuple.tupleExact _) (wpAny_newObj_type (wpAny_pure (wpAny_pure ⟨_, rfl, wpAny_pure h⟩)) htake))
    | exact wpAny_bind (wpAny_bind (m := Builtin.Tuple.tupleExact _) (wpAny_newObj_type (wpAny_pure ⟨_, rfl, wpAny_pure h⟩) htake))
end
end HT
namespace L2
open PySem PySem.Spec PyProof.Rows
noncomputable abbrev TO := St → Hp → (Option Int → Hp → Prop) → Prop
noncomputable def PO (X : Cx) (e : Option Expr) (t : TO) : Prop :=
  ∀ (pins : List (Addr × Obj)) (s : Shared) (σ : St) (H : Hp) (Q : Option Int → Hp → Prop), Inv X pins σ H s → t σ H Q →
    wpAny (model X.prog X.w) X.A (evalPart e X.env) (fun u s' => ∃ o H', Inv X pins σ H' s' ∧ IsPart u o ∧ Q o H') X.xe s
noncomputable def tNoPart : TO := fun _ H Q => Q none H
noncomputable def tPart (t : TE) : TO := fun σ H Q => t σ H fun x H1 => ∃ i, x = .int i ∧ Q (some i) H1
section
variable {X : Cx} {e : Expr} {te : TE} {lo hi : Option Expr} {tl th : TO} {pos p2 : Pos}
theorem po_none : PO X none tNoPart := by
  intro pins s σ H Q I h
  rw [evalPart_none]
  exact wpAny_pure ⟨none, H, I, .none, h⟩
theorem po_some (h : PE X e te) : PO X (some e) (tPart te) := by
  intro pins s σ H Q I hw
  rw [evalPart_some]
  refine thn (h pins s σ H _ I hw) fun u s1 zz => ?_
  obtain ⟨x, H1, I1, r1, q1⟩ := zz
  obtain ⟨i, rfl, q⟩ := q1
  obtain ⟨t, rfl⟩ := r1
  exact ⟨some i, H1, I1, .int i t, q⟩
noncomputable def SlR (X : Cx) (r : V → Option Int → Option Int → Hp → VK → Prop) : Prop :=
  ∀ (pins : List (Addr × Obj)) (s : Shared) (σ : St) (H : Hp) (x : V) (v vl vu : Value) (lo hi : Option Int) (sl : Addr) (Q : VK), Inv X pins σ H s → RelV x v → s.heap.IsSliceOf sl vl vu .none → IsPart vl lo → IsPart vu hi → r x lo hi H Q →
    ∃ T id, typeLookup (.type T) "__getitem__" = pure (some (.builtin id)) ∧ s.TypeIs v T ∧ wpAny (model X.prog X.w) X.A (getItem v (.ref sl)) (EP X pins σ Q) X.xe s
noncomputable def tSl (r : V → Option Int → Option Int → Hp → VK → Prop) (te : TE) (tl th : TO) : TE := fun σ H Q => te σ H fun x H1 => tl σ H1 fun l H2 => th σ H2 fun u H3 => r x l u H3 Q
theorem pe_slice {r : V → Option Int → Option Int → Hp → VK → Prop} (hr : SlR X r) (he : PE X e te) (hl : PO X lo tl) (hu : PO X hi th) : PE X (.Subscript e (.Slice lo hi none p2) pos) (tSl r te tl th) := by
  intro pins s σ H Q I h
  refine Subscript_ (thn (he pins s σ H _ I h) fun v s1 zz => ?_)
  obtain ⟨x, H1, I1, r1, q1⟩ := zz
  refine wpAny_Slice (thn (hl pins s1 σ H1 _ I1 q1) fun vl s2 ⟨l, H2, I2, pl, q2⟩ => thn (hu pins s2 σ H2 _ I2 q2) fun vu s3 zz => ?_)
  obtain ⟨u, H3, I3, pu, q3⟩ := zz
  rw [evalPart_none]
  refine wpAny_pure ?_
  have I4 : Inv X pins σ H3 { s3 with heap := s3.heap.push { cls := .type "slice", data := .fields #[vl, vu, .none] } } := I3.kept (t' := s3.toks) fun b ob q => Heap.get?_push_of_some _ q
  obtain ⟨T, id, hT, ht, hg⟩ := hr pins { s3 with heap := s3.heap.push { cls := .type "slice", data := .fields #[vl, vu, .none] } } σ H3 x v vl vu l u s3.heap.objs.size Q I4 r1 (Heap.IsSliceOf.new ..) pl pu q3
  show wpAny (model X.prog X.w) X.A (subscriptTail e (.Slice lo hi none p2) v (.ref s3.heap.objs.size)) (EP X pins σ Q) X.xe { s3 with heap := s3.heap.push { cls := .type "slice", data := .fields #[vl, vu, .none] } }
  exact tail_any (ops := [.ref s3.heap.objs.size, v]) ht hT hg (by with_unfolding_all rfl)
noncomputable def cutV (xs : List V) (lo hi : Option Int) : List V := (xs.drop (HT.sIx xs.length 0 lo)).take (HT.sIx xs.length xs.length hi - HT.sIx xs.length 0 lo)
theorem cutV_length (xs : List V) (lo hi : Option Int) : (cutV xs lo hi).length ≤ xs.length := by
  unfold cutV
  rw [List.length_take, List.length_drop]
  omega
noncomputable def rSlT (K : PySem.W.Frag) : V → Option Int → Option Int → Hp → VK → Prop := fun x lo hi H Q => ∃ a xs, x = .ref a ∧ SqT K H a xs ∧
  ¬ (HT.sIx xs.length 0 lo = 0 ∧ HT.sIx xs.length xs.length hi = xs.length) ∧ ∀ p, H p = none → Q (.ref p) (upd H p (.tup (cutV xs lo hi)))
theorem sl_tup : SlR X (rSlT X.K) := by
  intro pins s σ H x v vl vu lo hi sl Q I rx hs pl pu h
  obtain ⟨a, xs, rfl, hx, hw, q⟩ := h
  cases rx
  obtain ⟨its, r, ht, hz⟩ := I.tuple hx
  have hlen : its.toArray.size = xs.length := by rw [List.size_toArray]; exact r.length.symm
  refine ⟨"tuple", _, PyProof.Rows.slot_tuple_getitem.lookup, ht.typeIs, ?_⟩
  refine HT.getItem_tuple_cut ht hs pl pu (by rw [hlen]; exact hw) ?_ (by rw [hlen]; exact hz)
  rw [hlen]
  refine ⟨.ref s.heap.objs.size, _, I.laid (t' := s.toks) (o := .tup (cutV xs lo hi)) (fun b ob q => Heap.get?_push_of_some _ q) (Nat.le_refl _) ?_, rfl, q _ (I.hok.fresh (Nat.le_refl _))⟩
  exact ⟨Nat.le_trans (cutV_length xs lo hi) hz, _, (r.drop (HT.sIx xs.length 0 lo)).take (HT.sIx xs.length xs.length hi - HT.sIx xs.length 0 lo), IsTuN.new _ _⟩
noncomputable def rCatT (K : PySem.W.Frag) : R2 := fun x y H Q => ∃ a b xs ys, x = .ref a ∧ y = .ref b ∧ SqT K H a xs ∧ SqT K H b ys ∧ xs ≠ [] ∧ xs.length + ys.length ≤ sizeLine ∧
  (ys = [] → Q (.ref a) H) ∧ (ys ≠ [] → ∀ p, H p = none → Q (.ref p) (upd H p (.tup (xs ++ ys))))
theorem Vals.nil_iff {xs : List V} {us : List Value} (r : Vals xs us) : us = [] ↔ xs = [] := by
  cases r with
  | nil => simp
  | cons _ _ => simp
theorem op_catT : OpR X (binaryOp .Add) (rCatT X.K) := by
  intro pins s σ H x y v u Q I rx ry h
  obtain ⟨a, b, xs, ys, rfl, rfl, ha, hb, hx, hz, q1, q2⟩ := h
  cases rx
  cases ry
  obtain ⟨its, r1, p1, _⟩ := I.tuple ha
  obtain ⟨its2, r2, p2, _⟩ := I.tuple hb
  refine HT.cat_tup p1 p2 (fun z => hx (r1.nil_iff.mp z)) (fun z => ⟨.ref a, H, I, rfl, q1 (r2.nil_iff.mp z)⟩) (fun z => ?_) (by rw [← r1.length, ← r2.length]; exact hz)
  refine ⟨.ref s.heap.objs.size, _, I.laid (t' := s.toks) (o := .tup (xs ++ ys)) (fun b ob q => Heap.get?_push_of_some _ q) (Nat.le_refl _) ?_, rfl, q2 (fun w => z (r2.nil_iff.mpr w)) _ (I.hok.fresh (Nat.le_refl _))⟩
  exact ⟨by rw [List.length_append]; exact hz, _, r1.append r2, IsTuN.new _ _⟩
end
end L2
namespace L2
open PySem PySem.Spec PyProof.Rows
noncomputable def ixN (n : Nat) (i : Int) : Option Nat := if 0 ≤ i then (if i < n then some i.toNat else none) else if -(n : Int) ≤ i then some (i + n).toNat else none
noncomputable def atI {α : Type} (xs : List α) (i : Int) : Option α := (ixN xs.length i).bind fun j => xs[j]?
theorem ixN_seq {n : Nat} {i : Int} {j : Nat} (h : ixN n i = some j) : seqIndex? i n = some j ∧ j < n ∧ -(n : Int) ≤ i ∧ i < n := by
  unfold ixN at h
  by_cases h0 : 0 ≤ i
  · rw [if_pos h0] at h
    by_cases h1 : i < n
    · rw [if_pos h1] at h
      have e : i.toNat = j := Option.some.inj h
      exact ⟨by rw [seqIndex_of h0 h1, e], by omega, by omega, h1⟩
    · rw [if_neg h1] at h; cases h
  · rw [if_neg h0] at h
    by_cases h1 : -(n : Int) ≤ i
    · rw [if_pos h1] at h
      have e : (i + n).toNat = j := Option.some.inj h
      exact ⟨by rw [seqIndex_neg (by omega) h1, e], by omega, h1, by omega⟩
    · rw [if_neg h1] at h; cases h
theorem atI_get {α : Type} {xs : List α} {i : Int} {v : α} (h : atI xs i = some v) : ∃ j, seqIndex? i xs.length = some j ∧ xs[j]? = some v ∧ j < xs.length ∧ -(xs.length : Int) ≤ i ∧ i < xs.length := by
  unfold atI at h
  cases e : ixN xs.length i with
  | none => rw [e] at h; cases h
  | some j =>
    rw [e] at h
    obtain ⟨h1, h2, h3, h4⟩ := ixN_seq e
    exact ⟨j, h1, h, h2, h3, h4⟩
theorem atI_nat {α : Type} {xs : List α} {j : Nat} {v : α} (h : xs[j]? = some v) : atI xs (j : Int) = some v := by
  have hj : j < xs.length := (List.getElem?_eq_some_iff.mp h).1
  have e : ixN xs.length (j : Int) = some j := by
    unfold ixN
    rw [if_pos (by omega), if_pos (by omega)]; simp
  unfold atI; rw [e]; exact h
theorem atI_last {α : Type} (xs : List α) (v : α) : atI (xs ++ [v]) (-1) = some v := by
  have hl : (xs ++ [v]).length = xs.length + 1 := by simp
  have e : ixN (xs ++ [v]).length (-1) = some xs.length := by
    unfold ixN
    rw [hl, if_neg (by decide), if_pos (by omega)]
    congr 1
    omega
  unfold atI
  rw [e]
  show (xs ++ [v])[xs.length]? = some v
  simp
noncomputable def PlainIx (b : Expr) : Prop := ∀ o i, subscripted b false o i = operate [o, i] (getItem o i)
noncomputable def IxR (X : Cx) (r : R2) : Prop :=
  ∀ (value slice : Expr) (pins : List (Addr × Obj)) (s : Shared) (σ : St) (H : Hp) (x y : V) (v u : Value) (Q : VK), Inv X pins σ H s → RelV x v → RelV y u → r x y H Q →
    subscripted slice false v u = operate [v, u] (getItem v u) → wpAny (model X.prog X.w) X.A (subscriptTail value slice v u) (EP X pins σ Q) X.xe s
noncomputable def MtR (X : Cx) (id : String) (r : V → List V → Hp → VK → Prop) : Prop :=
  ∀ (pins : List (Addr × Obj)) (s : Shared) (σ : St) (H : Hp) (x : V) (xs : List V) (v : Value) (us : List Value) (Q : VK), Inv X pins σ H s → RelV x v → Vals xs us → r x xs H Q →
    wpAny (model X.prog X.w) X.A (call (.builtin id) (v :: us)) (EP X pins σ Q) X.xe s
section
variable {X : Cx} {a b : Expr} {ta tb : TE} {pos : Pos}
theorem pe_ix {r : R2} (hr : IxR X r) (ha : PE X a ta) (hb : PE X b tb) (hs : PlainIx b) : PE X (.Subscript a b pos) (tOp r ta tb) := by
  intro pins s σ H Q I h
  exact Subscript_ (binT ha hb I h fun v u s2 x y H2 I2 rx ry q => hr a b pins s2 σ H2 x y v u Q I2 rx ry q (hs _ _))
noncomputable def rIxL (K : PySem.W.Frag) : R2 := fun x y H Q => ∃ p xs i v, x = .ref p ∧ y = .int i ∧ SqL K H p xs ∧ atI xs i = some v ∧ Q v H
noncomputable def rIxT (K : PySem.W.Frag) : R2 := fun x y H Q => ∃ p xs i v, x = .ref p ∧ y = .int i ∧ SqT K H p xs ∧ atI xs i = some v ∧ Q v H
noncomputable def rIxS : R2 := fun x y H Q => ∃ z i c, x = .str z ∧ y = .int i ∧ z.length ≤ sizeLine ∧ atI z.cps.toList i = some c ∧ Q (.str ⟨#[c]⟩) H
theorem ix_list : IxR X (rIxL X.K) := by
  intro value slice pins s σ H x y v u Q I rx ry h hs
  obtain ⟨p, xs, i, z, rfl, rfl, hq, he, q⟩ := h
  cases rx
  obtain ⟨t, rfl⟩ := ry
  obtain ⟨its, r, pl, hz⟩ := I.list hq
  obtain ⟨j, h1, h2, h3, h4, h5⟩ := atI_get he
  obtain ⟨w, ew, rw'⟩ := r.get h2
  have hl := r.length
  have hn := line63
  have fin : EP X pins σ Q w s := ⟨z, H, I, rw', q⟩
  by_cases h0 : 0 ≤ i
  · have hj : i.toNat = j := by
      rw [seqIndex_of h0 h5] at h1
      exact Option.some.inj h1
    exact item_listR pl.isList h0 (by omega) (by rw [hj]; simpa using ew) fin hs
  · have hj : (i + (its.toArray.size : Int)).toNat = j := by
      rw [seqIndex_neg (by omega) h4] at h1
      rw [List.size_toArray, ← hl]
      exact Option.some.inj h1
    exact subscriptTail_builtinR (x := w) pl.isList.typeIs slot_list_getitem.lookup
      (wpAny_getItem_list_neg (Q := fun r s' => r = w ∧ EP X pins σ Q r s') pl.isList (by omega) (by rw [List.size_toArray] <;> omega) (by omega) (by rw [hj]; simpa using ew) ⟨rfl, fin⟩) hs
theorem ix_tup : IxR X (rIxT X.K) := by
  intro value slice pins s σ H x y v u Q I rx ry h hs
  obtain ⟨p, xs, i, z, rfl, rfl, hq, he, q⟩ := h
  cases rx
  obtain ⟨t, rfl⟩ := ry
  obtain ⟨its, r, pl, hz⟩ := I.tuple hq
  obtain ⟨j, h1, h2, h3, h4, h5⟩ := atI_get he
  obtain ⟨w, ew, rw'⟩ := r.get h2
  have hl := r.length
  have hn := line63
  have fin : EP X pins σ Q w s := ⟨z, H, I, rw', q⟩
  exact subscriptTail_builtinR (x := w) pl.typeIs slot_tuple_getitem.lookup
    (getItem_tuple (j := j) (Q := fun r s' => r = w ∧ EP X pins σ Q r s') pl (by omega) (by omega) (by rw [List.size_toArray, ← hl]; exact h1) (by simpa using ew) ⟨rfl, fin⟩) hs
theorem ix_str : IxR X rIxS := by
  intro value slice pins s σ H x y v u Q I rx ry h hs
  obtain ⟨z, i, c, rfl, rfl, hz, he, q⟩ := h
  obtain ⟨t, rfl⟩ := rx
  obtain ⟨t', rfl⟩ := ry
  obtain ⟨j, h1, h2, h3, h4, h5⟩ := atI_get he
  have hl : z.cps.toList.length = z.length := by simp [Str.length]
  rw [hl] at h1 h4 h5
  have hn := line63
  exact tail_any (typeIs_str s z t) slot_str_getitem.lookup (getItem_str (c := c) (by
    have e1 : decide (i < -(2 ^ 63 : Int)) = false := decide_eq_false (by omega)
    have e2 : decide (i ≥ 2 ^ 63) = false := decide_eq_false (by omega)
    rw [e1, e2, Bool.or_false]) (by rw [h1]; simpa using h2) ⟨.str ⟨#[c]⟩, H, I.tok _, ⟨_, rfl⟩, q⟩) hs
theorem Inv.lst {pins : List (Addr × Obj)} {σ : St} {H : Hp} {s : Shared} {p : Addr} {xs : List V} (I : Inv X pins σ H s) (h : H p = some (.lst xs)) :
    ∃ (its : List Value) (n : Nat), Vals xs its ∧ s.heap.get? p = some { cls := .type "list", data := .seq its.toArray n } ∧ xs.length ≤ sizeLine := by
  obtain ⟨z, its, n, r, e⟩ := I.hok p _ h
  exact ⟨its, n, r, e, z⟩
theorem slice_bounds (lo hi : Option Int) (n : Nat) : (sliceBounds lo hi none n).1 = ((HT.sIx n 0 lo : Nat) : Int) ∧ (sliceBounds lo hi none n).2.1 = ((HT.sIx n n hi : Nat) : Int) ∧ (sliceBounds lo hi none n).2.2 = 1 := by
  refine ⟨?_, ?_, rfl⟩
  · cases lo with
    | none => simp [sliceBounds, HT.sIx]
    | some i =>
      simp only [sliceBounds, HT.sIx, Option.getD_none, show (1 : Int) > 0 by decide, if_true]
      by_cases h : i < 0
      · simp only [h, if_true] <;> omega
      · simp only [h, if_false] <;> omega
  · cases hi with
    | none => simp [sliceBounds, HT.sIx]
    | some i =>
      simp only [sliceBounds, HT.sIx, Option.getD_none, show (1 : Int) > 0 by decide, if_true]
      by_cases h : i < 0
      · simp only [h, if_true] <;> omega
      · simp only [h, if_false] <;> omega
theorem slicePick_cut (its : List Value) (lo hi : Option Int) : slicePick its.toArray lo hi none = ((its.drop (HT.sIx its.length 0 lo)).take (HT.sIx its.length its.length hi - HT.sIx its.length 0 lo)).toArray := by
  obtain ⟨h1, h2, h3⟩ := slice_bounds lo hi its.toArray.size
  unfold slicePick
  rw [h1, h2, h3]
  simp only [sliceRange_one, pick_run, List.size_toArray] <;> rfl
noncomputable def rSlL (K : PySem.W.Frag) : V → Option Int → Option Int → Hp → VK → Prop := fun x lo hi H Q => ∃ a xs, x = .ref a ∧ SqL K H a xs ∧ ∀ p, H p = none → Q (.ref p) (upd H p (.lst (cutV xs lo hi)))
theorem sl_list : SlR X (rSlL X.K) := by
  intro pins s σ H x v vl vu lo hi sl Q I rx hs pl pu h
  obtain ⟨a, xs, rfl, hx, q⟩ := h
  cases rx
  obtain ⟨its, r, ht, hz⟩ := I.list hx
  have hlen := r.length
  refine ⟨"list", _, slot_list_getitem.lookup, ht.isList.typeIs, ?_⟩
  refine wpAny_getItem_list_slice ht.isList hs pl pu .none (by simp) ?_ (by rw [List.size_toArray] <;> omega)
  rw [slicePick_cut, ← hlen]
  refine ⟨.ref s.heap.objs.size, _, I.laid (t' := s.toks) (o := .lst (cutV xs lo hi)) (fun b ob q => Heap.get?_push_of_some _ q) (Nat.le_refl _) ?_, rfl, q _ (I.hok.fresh (Nat.le_refl _))⟩
  exact ⟨Nat.le_trans (cutV_length xs lo hi) hz, _, 0, (r.drop (HT.sIx xs.length 0 lo)).take (HT.sIx xs.length xs.length hi - HT.sIx xs.length 0 lo), Heap.get?_push_size _ rfl⟩
theorem call_len_seq : CallR X (.builtin "len") (fun xs H Q => ∃ p ys, xs = [.ref p] ∧ (SqL X.K H p ys ∨ SqT X.K H p ys) ∧ Q (.int ys.length) H) := by
  intro pins s σ H xs us Q I r h
  obtain ⟨p, ys, rfl, hq, q⟩ := h
  obtain ⟨u, rfl, rx⟩ := vals1 r
  cases rx
  have hn := line63
  rcases hq with hq | hq
  · obtain ⟨its, r', pl, hz⟩ := I.list hq
    have hlen := r'.length
    exact Calls.call_len_list pl.isList (by simp only [List.size_toArray] <;> omega) ⟨.int ys.length, H, I.tok _, ⟨s.toks + 1, by rw [List.size_toArray, hlen]⟩, q⟩
  · obtain ⟨its, r', pl, hz⟩ := I.tuple hq
    have hlen := r'.length
    exact len_tuple pl (by simp only [List.size_toArray] <;> omega) ⟨.int ys.length, H, I.tok _, ⟨s.toks + 1, by rw [List.size_toArray, hlen]⟩, q⟩
theorem call_len_str : CallR X (.builtin "len") (fun xs H Q => ∃ z, xs = [.str z] ∧ z.length ≤ sizeLine ∧ Q (.int z.length) H) := by
  intro pins s σ H xs us Q I r h
  obtain ⟨z, rfl, hz, q⟩ := h
  obtain ⟨u, rfl, t, rfl⟩ := vals1 r
  have hn := line63
  exact len_str (by omega) ⟨.int z.length, H, I.tok _, ⟨_, rfl⟩, q⟩
theorem call_tuple_of : CallR X (.type "tuple") (fun xs H Q => ∃ p ys, xs = [.ref p] ∧ ((SqL X.K H p ys ∧ ∀ l, H l = none → Q (.ref l) (upd H l (.tup ys))) ∨ (SqT X.K H p ys ∧ Q (.ref p) H))) := by
  intro pins s σ H xs us Q I r h
  obtain ⟨p, ys, rfl, h⟩ := h
  obtain ⟨u, rfl, rx⟩ := vals1 r
  cases rx
  rcases h with ⟨hq, q⟩ | ⟨hq, q⟩
  · obtain ⟨its, r', pl, hz⟩ := I.list hq
    have hlen := r'.length
    refine call_tuple_list pl.isList (fun h' kp => ?_) (by simp only [List.size_toArray] <;> omega)
    have I1 : Inv X pins σ H { s with heap := h' } := I.kept (t' := s.toks) kp
    have I2 : Inv X pins σ (upd H h'.objs.size (.tup ys)) { s with heap := h'.push { cls := .type "tuple", data := .seq its.toArray } } :=
      I1.laid (t' := s.toks) (fun b o e => Heap.get?_push_of_some _ e) (Nat.le_refl _) (show ObjOk X.prog X.w _ _ _ (.tup ys) from ⟨hz, its, r', IsTuN.new _ _⟩)
    exact ⟨.ref h'.objs.size, _, I2, rfl, q _ (I1.hok.fresh (Nat.le_refl _))⟩
  · obtain ⟨its, r', pl, hz⟩ := I.tuple hq
    exact call_tuple_same pl ⟨.ref p, H, I, rfl, q⟩
noncomputable def tyV (K : PySem.W.Frag) (T : String) (x : V) (H : Hp) : Prop := match x with
  | .str _ => T = "str"
  | .int _ => T = "int"
  | .ref p => (T = "list" ∧ ∃ xs, SqL K H p xs) ∨ (T = "tuple" ∧ ∃ o, K.lookup p = some o ∧ o.cls = .type "tuple" ∧ o.dict = none) ∨
      (T = "dict" ∧ ((∃ kvs, H p = some (.dK kvs)) ∨ ∃ kvs, H p = some (.dT kvs))) ∨ (T = "set" ∧ ∃ S n, H p = some (.set S n))
  | _ => False
theorem tyV_is {pins : List (Addr × Obj)} {σ : St} {H : Hp} {s : Shared} {T : String} {x : V} {v : Value} (I : Inv X pins σ H s) (r : RelV x v) (ty : tyV X.K T x H) :
    s.TypeIs v T ∧ ∀ a, v = .ref a → ∃ ob, s.heap.get? a = some ob ∧ ob.dict = none := by
  cases x with
  | str z =>
    obtain ⟨t, rfl⟩ := r
    cases (show T = "str" from ty)
    exact ⟨typeIs_str s z t, fun _ e => nomatch e⟩
  | int i =>
    obtain ⟨t, rfl⟩ := r
    cases (show T = "int" from ty)
    exact ⟨typeIs_int s i t, fun _ e => nomatch e⟩
  | ref p =>
    cases r
    rcases ty with ⟨rfl, xs, hq⟩ | ⟨rfl, o, hk, hc, hd⟩ | ⟨rfl, hk⟩ | ⟨rfl, S, n, hk⟩
    · obtain ⟨its, _, pl, _⟩ := I.list hq
      refine ⟨pl.isList.typeIs, fun a e => ?_⟩
      cases e
      obtain ⟨o, n, e, c, hd, _⟩ := pl
      exact ⟨o, e, hd⟩
    · refine ⟨⟨o, I.kIn p o hk, hc⟩, fun a e => ?_⟩
      cases e
      exact ⟨o, I.kIn _ o hk, hd⟩
    · have z : ∃ o, s.heap.get? p = some o ∧ o.ExactDict := by
        rcases hk with ⟨kvs, hk⟩ | ⟨kvs, hk⟩
        · obtain ⟨_, _, _, _, o, _, _, e, ex, _⟩ := I.hok p _ hk
          exact ⟨o, e, ex⟩
        · obtain ⟨_, _, _, _, o, _, _, e, ex, _⟩ := I.hok p _ hk
          exact ⟨o, e, ex⟩
      obtain ⟨o, e, ex⟩ := z
      refine ⟨⟨o, e, ex.1⟩, fun a e2 => ?_⟩
      cases e2
      exact ⟨o, e, ex.2.1⟩
    · obtain ⟨o, _, _, _, e, ex, _⟩ := I.hok p _ hk
      refine ⟨⟨o, e, ex.1⟩, fun a e2 => ?_⟩
      cases e2
      exact ⟨o, e, ex.2.1⟩
  | _ => exact False.elim ty
noncomputable def tBM (K : PySem.W.Frag) (T : String) (r : V → List V → Hp → VK → Prop) (to : TE) (t : TA) : TE := fun σ H Q => to σ H fun x H1 => tyV K T x H1 ∧ t σ H1 fun xs H2 => r x xs H2 Q
variable {o e : Expr} {es : List Expr} {to : TE} {t : TA} {name : Str} {apos cpos : Pos} {T id : String} {r : V → List V → Hp → VK → Prop}
theorem pe_bm (pa : PlainAttrs T) (slot : Slot T name id) (hty : typeOf (.builtin id) = pure (.type "method_descriptor")) (hm : MtR X id r) (ho : PE X o to) (ha : PA X (e :: es) t)
    (hbase : attributeBase o name X.env (eval o X.env) = eval o X.env := by rfl)
    (hfew : ((backTo cpos (starEach (e :: es) X.env)).all (fun x => !x.1) && (backToKw cpos (keywordEach [] X.env)).all (fun x => x.1.isSome)
      && decide ((e :: es).length + ([] : List Keyword).length + (if ([] : List Keyword).isEmpty then 0 else 1) < 30)) = true := by rfl)
    (hline : (apos.endLine == cpos.line) = true := by rfl) (hs : starEach (e :: es) X.env = (false, eval e X.env) :: starEach es X.env := by rfl) (hplain : (backTo cpos (starEach es X.env)).any (·.1) = false := by rfl) :
    PE X (.Call (.Attribute o name apos) (e :: es) [] cpos) (tBM X.K T r to t) := by
  intro pins s σ H Q I h
  refine wpAny_Call_method_late hbase hfew hline rfl (thn (ho pins s σ H _ I h) fun v s1 zz => ?_)
  obtain ⟨x, H1, I1, r1, ty, q1⟩ := zz
  obtain ⟨h1, h2⟩ := tyV_is I1 r1 ty
  refine ⟨T, id, pa, slot, hty, h1, h2, ?_⟩
  have hA := ha cpos pins s1 σ H1 _ I1 q1
  rw [hs] at hA ⊢
  refine Calls.callWith_builtin (by show (false || (backTo cpos (starEach es X.env)).any (·.1)) = false; rw [hplain] <;> rfl) (Calls.evalArgs_plain ?_)
  exact thn hA fun us s2 ⟨vs, H2, I2, r2, q2⟩ => hm pins s2 σ H2 x vs v us Q I2 r1 r2 q2
end
end L2
namespace L2
open PySem PySem.Spec PyProof.Rows
noncomputable def MtM (X : Cx) (id : String) (r : V → List V → Hp → VK → Prop) : Prop :=
  ∀ (pins : List (Addr × Obj)) (s : Shared) (σ : St) (H : Hp) (x : V) (xs : List V) (v : Value) (us : List Value) (Q : VK), Inv X pins σ H s → RelV x v → Vals xs us → r x xs H Q →
    wpAny (model X.prog X.w) X.A (call (.builtin id) (v :: us)) (EP X pins σ Q) X.xe s
theorem Vals.one : ∀ {x : V} {us : List Value}, Vals [x] us → ∃ u, us = [u] ∧ RelV x u := by
  intro x us h
  cases h with
  | cons r t => cases t; exact ⟨_, rfl, r⟩
theorem Vals.two : ∀ {x y : V} {us : List Value}, Vals [x, y] us → ∃ u v, us = [u, v] ∧ RelV x u ∧ RelV y v
  | _, _, _, .cons r (.cons q .nil) => ⟨_, _, rfl, r, q⟩
theorem Vals.zero : ∀ {us : List Value}, Vals [] us → us = []
  | _, .nil => rfl
theorem Vals.eraseIdx : ∀ {xs : List V} {us : List Value} (i : Nat), Vals xs us → Vals (xs.eraseIdx i) (us.eraseIdx i)
  | _, _, _, .nil => .nil
  | _, _, 0, .cons _ t => t
  | _, _, i + 1, .cons r t => .cons r (Vals.eraseIdx i t)
theorem Vals.reverse {xs : List V} {us : List Value} (h : Vals xs us) : Vals xs.reverse us.reverse := by
  induction h with
  | nil => exact .nil
  | cons r t ih => rw [List.reverse_cons, List.reverse_cons]; exact Vals.append ih (.cons r .nil)
theorem Vals.rep {xs : List V} {us : List Value} (h : Vals xs us) : ∀ k : Nat, Vals (List.replicate k xs).flatten (List.replicate k us).flatten
  | 0 => .nil
  | k + 1 => by
    rw [List.replicate_succ, List.replicate_succ, List.flatten_cons, List.flatten_cons]
    exact Vals.append h (Vals.rep h k)
theorem foldl_rep (its : List Value) : ∀ (k : Nat) (acc : List Value),
    List.foldl (fun x1 x2 => x1 ++ x2) acc.toArray (List.replicate k its.toArray) = (acc ++ (List.replicate k its).flatten).toArray
  | 0, acc => by simp
  | k + 1, acc => by
    have e : acc.toArray ++ its.toArray = (acc ++ its).toArray := by simp
    have e2 : (acc ++ its) ++ (List.replicate k its).flatten = acc ++ (List.replicate (k + 1) its).flatten := by
      rw [List.replicate_succ, List.flatten_cons, List.append_assoc]
    rw [← e2, ← foldl_rep its k (acc ++ its), ← e, List.replicate_succ, List.foldl_cons]
section
variable {X : Cx} {pins : List (Addr × Obj)} {σ : St} {H : Hp} {s : Shared} {l b : Addr} {xs ys zs : List V}
theorem Inv.lset {its its' : List Value} {n : Nat} {f : Array Value → Array Value} {t' : Nat} (I : Inv X pins σ H s) (hH : H l = some (.lst xs))
    (e : s.heap.get? l = some { cls := .type "list", data := .seq its.toArray n }) (hf : f its.toArray = its'.toArray) (hv : Vals ys its') (hz : ys.length ≤ sizeLine) :
    Inv X pins σ (upd H l (.lst ys)) { s with heap := s.heap.update l (Obj.mapSeq f), toks := t' } := by
  have q := PySem.IsL.update e f
  rw [hf] at q
  refine I.write (x := l) (e := l) (by rw [hH]; exact trivial) (.inl rfl) (fun b' u hb hu => (Heap.get?_update_other s.heap (Obj.mapSeq f) (Ne.symm hb)).trans hu) ⟨_, q⟩ ?_
  exact ⟨hz, its', _, hv, q⟩
theorem Inv.lnew {its : List Value} {t' : Nat} (I : Inv X pins σ H s) (hv : Vals ys its) (hz : ys.length ≤ sizeLine) :
    Inv X pins σ (upd H s.heap.objs.size (.lst ys)) { s with heap := s.heap.push { cls := .type "list", data := .seq its.toArray }, toks := t' } :=
  I.laid (fun _ _ q => Heap.get?_push_of_some _ q) (Nat.le_refl _) ⟨hz, its, 0, hv, Heap.get?_push_size _ rfl⟩
theorem Inv.fresh (I : Inv X pins σ H s) : H s.heap.objs.size = none := I.hok.fresh (Nat.le_refl _)
theorem Inv.lstM (I : Inv X pins σ H s) (hH : H l = some (.lst xs)) : xs.length ≤ sizeLine ∧ ∃ (its : List Value) (n : Nat), Vals xs its ∧ xs.length = its.length ∧ s.heap.get? l = some { cls := .type "list", data := .seq its.toArray n } := by
  obtain ⟨z, its, n, r, e⟩ := I.hok l _ hH
  exact ⟨z, its, n, r, r.length, e⟩
theorem notLongL {n : Nat} (h : n ≤ sizeLine) : Builtin.List.listTooLong n = false := by
  unfold Builtin.List.listTooLong
  exact decide_eq_false (by omega)
end
section
variable {X : Cx}
noncomputable def rAppend : V → List V → Hp → VK → Prop := fun x vs H Q => ∃ l xs y, x = .ref l ∧ vs = [y] ∧ H l = some (.lst xs) ∧ xs.length < sizeLine ∧ Q .non (upd H l (.lst (xs ++ [y])))
theorem mt_append : MtM X "list.append" rAppend := by
  intro pins s σ H x vs v us Q I rx rv h
  obtain ⟨l, xs, y, rfl, rfl, hH, hz, q⟩ := h
  cases rx
  obtain ⟨u, rfl, ru⟩ := rv.one
  obtain ⟨z, its, n, r, hl, e⟩ := I.lstM hH
  refine call_meets F.slot_list_append ⟨_, e, rfl⟩ F.entry_list_append (F.args_list_append_2 _ _) (PySem.list_append l its.toArray n u (by rw [List.size_toArray]; omega)) ⟨e, ?_⟩
  refine ⟨.non, _, I.lset (its' := its ++ [u]) hH e (by simp) (r.append (.cons ru .nil)) ?_, rfl, q⟩
  rw [List.length_append, List.length_singleton]
  omega
noncomputable def rCat : R2 := fun x y H Q => ∃ l b xs zs, x = .ref l ∧ y = .ref b ∧ H l = some (.lst xs) ∧ H b = some (.lst zs) ∧ xs.length + zs.length ≤ sizeLine ∧ ∀ p, H p = none → Q (.ref p) (upd H p (.lst (xs ++ zs)))
theorem op_cat : OpR X (binaryOp .Add) rCat := by
  intro pins s σ H x y v u Q I rx ry h
  obtain ⟨l, b, xs, zs, rfl, rfl, hH, hB, hz, q⟩ := h
  cases rx
  cases ry
  obtain ⟨z, its, n, r, hl, e⟩ := I.lstM hH
  obtain ⟨z2, its2, n2, r2, hl2, e2⟩ := I.lstM hB
  refine PySem.P.add_list e e2 ?_ (by rw [List.size_toArray, List.size_toArray]; omega)
  have ea : its.toArray ++ its2.toArray = (its ++ its2).toArray := by simp
  rw [ea]
  exact ⟨.ref _, _, I.lnew (t' := s.toks) (r.append r2) (by rw [List.length_append]; omega), rfl, q _ I.fresh⟩
noncomputable def rRep : R2 := fun x y H Q => ∃ l k xs, x = .ref l ∧ y = .int k ∧ H l = some (.lst xs) ∧ -(2 ^ 63) ≤ k ∧ k < 2 ^ 63 ∧ xs.length * k.toNat ≤ sizeLine ∧
  ∀ p, H p = none → Q (.ref p) (upd H p (.lst (List.replicate k.toNat xs).flatten))
theorem len_rep {α : Type} (xs : List α) (k : Nat) : (List.replicate k xs).flatten.length = k * xs.length := by
  induction k with
  | zero => simp
  | succ k ih => rw [List.replicate_succ, List.flatten_cons, List.length_append, ih, Nat.succ_mul, Nat.add_comm]
theorem op_rep : OpR X (binaryOp .Mult) rRep := by
  intro pins s σ H x y v u Q I rx ry h
  obtain ⟨l, k, xs, rfl, rfl, hH, h1, h2, hz, q⟩ := h
  cases rx
  obtain ⟨t, rfl⟩ := ry
  obtain ⟨z, its, n, r, hl, e⟩ := I.lstM hH
  have hlen : its.toArray.size * k.toNat ≤ sizeLine := by rw [List.size_toArray, ← hl]; exact hz
  have hcap : ¬ its.toArray.size * k.toNat > (2 ^ 63 - 1) / 8 := by
    have : (sizeLine : Nat) ≤ (2 ^ 63 - 1) / 8 := by decide
    omega
  have hfit : ¬ (!Builtin.List.listFitsIndex k) = true := by
    rw [fitsIndex_both h1 h2]
    exact Bool.false_ne_true
  have hlong : ¬ Builtin.List.listTooLong (its.toArray.size * k.toNat) = true := by
    rw [notLongL hlen]
    exact Bool.false_ne_true
  have hnew : List.foldl (fun x1 x2 => x1 ++ x2) #[] (List.replicate (if its.toArray.isEmpty = true then 0 else k.toNat) its.toArray) = (List.replicate k.toNat its).flatten.toArray := by
    have f0 : ∀ m : Nat, List.foldl (fun x1 x2 => x1 ++ x2) #[] (List.replicate m its.toArray) = (List.replicate m its).flatten.toArray := fun m => by
      have := foldl_rep its m []
      rw [List.nil_append] at this
      exact this
    rw [f0]
    cases its with
    | nil => simp
    | cons a r' => rw [if_neg (by simp)]
  refine wpAny_binaryOp_repeat_ref (T := "list") (U := "int") (by decide) ⟨_, e, rfl⟩ (fun s' => typeIs_int s' k t) noFill_list_mul F.fills_int_mul F.slot_int_rmul repeat_list F.slot_int_index.lookup
    (call_meets F.slot_int_rmul (typeIs_int s k t) F.entry_int_rmul (F.args_int_rmul_2 _ _) (int___rmul___int_list k t l its.toArray n)
      ⟨e, rfl, ⟨_, e, rfl⟩, call_meets F.slot_list_mul ⟨_, e, rfl⟩ F.entry_list_mul (F.args_list_mul_2 _ _) (AutoListH.list___mul___list_int_3 l its.toArray n k t hfit hcap hlong) ⟨e, ?_⟩⟩)
  rw [hnew]
  exact ⟨.ref _, _, I.lnew (t' := s.toks) (r.rep k.toNat) (by rw [len_rep, Nat.mul_comm]; exact hz), rfl, q _ I.fresh⟩
end
section
variable {prog : Program} {w : World} {A : Around} {E : Value → Shared → Prop} {s : Shared}
set_option maxRecDepth 100000 in
end
section
variable {X : Cx}
end
end L2
namespace Att
open PySem PySem.W PySem.Calls PyProof.Rows
theorem ints_of_wellAll {P : Params} {h : Heap} : ∀ (ns : List Int) (vs : List Value), WellAll P h vs (ns.map WData.int) → IntsAre vs ns := by
  intro ns
  induction ns with
  | nil =>
    intro vs w
    rw [List.map_nil] at w
    cases w
    exact .nil
  | cons n ns ih =>
    intro vs w
    rw [List.map_cons] at w
    cases w with
    | cons a b =>
      cases a
      exact .cons _ _ (ih _ b)
theorem script_of {l : OpenLaw} {n : Nat} (hn : l.most = some n) {P : Params} {h : Heap} {args : List WData} {vals : List Value}
    (hpre : l.row.toRowW.claim.pre args = true) (hwl : WellAll P h vals args) :
    ∃ a vs ns, vals = [Value.ref a] ∧ args = [WData.list (ns.map WData.int)] ∧ h.get? a = some { cls := .type "list", data := .seq vs.toArray } ∧ IntsAre vs ns ∧ ns.length ≤ n := by
  have hsh : WShape.hasAll [] args [.list .int] = true := (pre_splitW hpre).1
  have hc : l.pre.holds [] { args := args } = true := (pre_splitW hpre).2
  obtain ⟨d, r, rfl, h1, h2⟩ := hasAllW_cons hsh
  obtain rfl := hasAllW_nil h2
  obtain ⟨xs, rfl, h3⟩ := hasW_list h1
  obtain ⟨ns, rfl⟩ := items_int h3
  have hlen : ns.length ≤ n := by
    unfold OpenLaw.pre at hc
    have h4 : (WTm.not (.lt (.lit (.int (n : Int))) (.len (.arg 0)))).holds [] { args := [.list (ns.map .int)] } = true := by
      have h4 := (holds_andW hc).1
      rw [hn] at h4
      exact h4
    have h5 := condW_of h4 (w_not (w_lt w_lit (w_len_list (w_arg rfl))))
    rw [List.length_map] at h5
    refine Nat.le_of_not_lt fun q => ?_
    have q' : (n : Int) < ((ns.length : Nat) : Int) := by omega
    first
      | (rw [decide_eq_true q'] at h5; exact absurd h5 (by decide))
      | (simp at h5; omega)
  cases hwl with
  | cons w1 w2 =>
    cases w2
    cases w1 with
    | list ho hall => exact ⟨_, _, ns, rfl, rfl, ho, ints_of_wellAll ns _ hall, hlen⟩
theorem post_true (l : OpenLaw) (args : List WData) : l.row.toRowW.claim.post args (.bool true) args = true :=
  postW_of (r := l.row.toRowW) (X := (true == true))
    (show WShape.has [] (.bool true) .bool = true by first | rfl | decide | simp [WShape.has, WShape.arms, WShape.armsAll])
    (show (WTm.eq .res (.lit (.bool true))).value [] { args := args, res := some (.bool true), after := args } = some (.bool (true == true)) from w_eq_bool (w_res rfl) w_lit) rfl
theorem attach_call {l : OpenLaw} {n : Nat} {q : Program} {loose : List Str} {XP : (Str → Option Value) → Heap → Prop} {YP : World → Heap → Prop} {d : DefRec}
    (hn : l.most = some n) (hdf : d.params.defaults = [])
    (call : ∀ (w : World) (s₀ s₁ : Shared) (mg mb : Str → Option Value) (fa : Addr) (o : Obj) (pm cd doc : Value) (a : Addr) (vs : List Value) (ns : List Int),
      Ground q loose [] XP w s₀ mg mb s₁.heap → YP w s₁.heap →
      s₁.heap.get? fa = some o → o.data = .func (docDef d.name d.params d.body d.scope pm cd doc) → s₁.heap.CodeRec cd d.name → mg d.name = some (.ref fa) →
      s₁.heap.get? a = some { cls := .type "list", data := .seq vs.toArray } → IntsAre vs ns → ns.length ≤ n → s₁.gens = #[] →
      codeAny (model l.prog w) callerA (.call (.ref fa) ⟨[.ref a], []⟩) (fun r s' => r = .ok (.ret (.bool true)) ∧ OldK s₁.heap s'.heap ∧ s'.os = s₁.os ∧ AllBare s'.gens) s₁) :
    WalkO q loose XP YP l.row.toRowW d [] (fun f vs => PySem.call f vs) := by
  intro w s₀ s₁ mg mb G Y fa o pm cd doc dV kV ho hd hcd hD hmg hg args vals as hpre hlay hrd hwl hlo
  obtain rfl : dV = .none := Dflts.none hD hdf
  obtain rfl : kV = .none := Dflts.noKw hD
  obtain ⟨a, vs, ns, rfl, rfl, hobj, hints, hlen⟩ := script_of hn hpre hwl
  refine enter_call (codeAny_mono (call w s₀ s₁ mg mb fa o pm cd doc a vs ns G Y ho (fd_plain hd) hcd hmg hobj hints hlen hg) fun r s' hq => ?_)
  obtain ⟨rfl, h2, h3, h4⟩ := hq
  exact ⟨.inl ⟨.bool true, .bool true, [], rfl, fun _ => rfl, .bool true, post_true l _, fun _ => ⟨List.Pairwise.nil, fun _ hm => (nomatch hm)⟩⟩, h2, h3, h4⟩
section
variable {prog : Program} {w : World} {A : Around} {E : Value → Shared → Prop} {s : Shared} {K : Frag}
end
end Att
namespace L2
open PySem PySem.Spec PyProof.Rows
theorem vals_ints : ∀ {vs : List Value} {ns : List Int}, IntsAre vs ns → Vals (ns.map V.int) vs
  | _, _, .nil => .nil
  | _, _, .cons n t h => .cons ⟨t, rfl⟩ (vals_ints h)
noncomputable def Only (H : Hp) : Prop := ∀ b, H b = none ∨ ∃ o xs, H b = some (.frz o (.lst xs))
theorem law_call {P : Program} {w : World} {K : PySem.W.Frag} {mg mb : Str → Option Value} {CX : CXT} {k : Nat} {fa a : Addr} {fd : FuncData} {x : Str} {sp : Sp} {s₁ : Shared} {vs : List Value} {ns : List Int}
    (KX : K.In s₁.heap) (hns : s₁.heap.Ns mainGlobals mg) (hb : s₁.heap.Ns builtinsNs mb) (hbb : ∀ x : Str, x ≠ "__name__" → mb x = bootBuiltins x) (hlim : s₁.heap.NoLimit) (hg : s₁.gens = #[])
    (ha : s₁.heap.get? a = some { cls := .type "list", data := .seq vs.toArray }) (hi : IntsAre vs ns) (hl : ns.length ≤ sizeLine) (hr : Room k callerA)
    (F : ∀ base : Heap, K.In base → base.Ns mainGlobals mg → FnOk P w K mg base CX k fa fd [x] sp) (hbind : ∀ (s : Shared) (u : Value), BindsTo s fd ⟨[u], []⟩ [(x, u)])
    (hsp : ∀ H : Hp, Only H → SqL K H a (ns.map V.int) → sp [.ref a] H (fun v _ => v = .bl true) fun _ _ _ => False)
    (hCX : ∀ H e s', CX [] H s₁ (fun _ _ _ => False) e s' → False) :
    codeAny (model P w) callerA (.call (.ref fa) ⟨[.ref a], []⟩) (fun r s' => r = .ok (.ret (.bool true)) ∧ OldK s₁.heap s'.heap ∧ s'.os = s₁.os ∧ AllBare s'.gens) s₁ := by
  have rv := vals_ints hi
  have lenV := hi.length
  -- from an abstract heap in which nothing but the script may be tracked
  have core : ∀ H : Hp, Only H → SqL K H a (ns.map V.int) → HOk P w H s₁.heap → (∀ b, H b ≠ none → b = a) → (H a ≠ none → K.lookup a = none) →
      codeAny (model P w) callerA (.call (.ref fa) ⟨[.ref a], []⟩) (fun r s' => r = .ok (.ret (.bool true)) ∧ OldK s₁.heap s'.heap ∧ s'.os = s₁.os ∧ AllBare s'.gens) s₁ := by
    intro H hO hS hok hA hK
    have base_of : ∀ {b : Addr} {o : Obj}, s₁.heap.get? b = some o → H b = none → (hidT s₁.heap H).get? b = some o := fun e n => hidT_get e n
    have noA : ∀ {b : Addr} {o : Obj} {es : Array DictEntry} {ep : Nat}, s₁.heap.get? b = some o → o.data = .dict es ep → H b = none := fun {b o es ep} e d => by
      cases q : H b with
      | none => rfl
      | some u =>
        have e' : b = a := hA b (by rw [q]; simp)
        subst e'
        rw [ha] at e; cases e
        have d' : Data.seq vs.toArray _ = Data.dict es ep := d
        cases d'
    have nsK : ∀ {b : Addr} {m : Str → Option Value}, s₁.heap.Ns b m → (hidT s₁.heap H).Ns b m := fun {b m} ⟨o, es, ep, e, d, r⟩ => ⟨o, es, ep, base_of e (noA e d), d, r⟩
    have hKb : K.In (hidT s₁.heap H) := fun b o e => base_of (KX b o e) (by
      cases q : H b with
      | none => rfl
      | some u =>
        have e' : b = a := hA b (by rw [q]; simp)
        subst e'
        rw [hK (by rw [q]; simp)] at e; cases e)
    have hM : Mod K mg (hidT s₁.heap H) := ⟨hKb, nsK hns, ⟨mb, nsK hb, hbb⟩, let ⟨mc, h1, h2⟩ := hlim; ⟨mc, nsK h1, h2⟩⟩
    have e0 : Env0 P w K mg (hidT s₁.heap H) callerA [] s₁ H := ⟨rfl, hM, fun b o e => of_hidT e, Nat.le_of_eq (hidT_size _ _), trivial, fun b hb => absurd (show b ∈ ([] : List Addr) from hb) (by simp), hok, .of_eq hg⟩
    refine codeAny_mono ((F _ hKb (nsK hns)).run callerA [] s₁ H ⟨[.ref a], []⟩ [.ref a] [.ref a] _ _ hr e0 (hbind s₁ (.ref a)) (.cons rfl .nil) (hsp H hO hS)) fun r s' h => ?_
    cases r with
    | error e => exact (hCX H e s' h).elim
    | ok fl =>
      cases fl with
      | next => exact False.elim h
      | brk => exact False.elim h
      | cont => exact False.elim h
      | ret u =>
        obtain ⟨v, H', os, bare, un, hok', r', q⟩ := h
        have q' : v = .bl true := q
        subst q'
        obtain rfl : u = Value.bool true := r'
        refine ⟨rfl, OldK.of_keep fun b o e => ?_, os, bare⟩
        cases q : H b with
        | none => exact un.keep b o e q (by intro z; exact absurd (show b ∈ ([] : List Addr) from z) (by simp)) (by simp)
        | some u =>
          rcases hO b with z | ⟨ob, xs, z⟩
          · rw [q] at z; cases z
          · have z2 := un.frzs b ob _ z
            obtain ⟨e1, _⟩ := hok b _ z
            obtain ⟨e2, _⟩ := hok' b _ z2
            rw [e] at e1; cases e1
            exact e2
  cases hk : K.lookup a with
  | some o =>
    -- the script is one of the module's own objects
    have e := KX a o hk
    rw [ha] at e
    cases e
    refine core (fun _ => none) (fun _ => .inl rfl) (.inr ⟨_, vs.toArray, _, hk, rfl, rfl, rfl, by rw [List.size_toArray, lenV]; exact hl, by simpa using rv⟩) (fun b u z => by have z' : (none : Option HO) = some u := z; cases z') (fun b z => absurd rfl z) fun z => absurd rfl z
  | none =>
    refine core (fun b => if b = a then some (.frz { cls := .type "list", data := .seq vs.toArray } (.lst (ns.map V.int))) else none) (fun b => ?_) (.inl (.inr ⟨{ cls := .type "list", data := .seq vs.toArray }, if_pos rfl⟩)) (fun b u z => ?_) (fun b z => ?_) fun _ => hk
    · by_cases hb : b = a
      · exact .inr ⟨_, _, if_pos hb⟩
      · exact .inl (if_neg hb)
    · by_cases hb : b = a
      · have z' := (if_pos hb).symm.trans z
        cases z'
        subst hb
        exact ⟨ha, by rw [List.length_map]; exact hl, vs, _, rv, ha⟩
      · have z' := (if_neg hb).symm.trans z
        cases z'
    · by_cases hb : b = a
      · exact hb
      · exact absurd (if_neg hb) z
end L2
namespace L2
open PySem PySem.Spec PyProof.Rows
noncomputable abbrev KOf {K : PySem.W.Frag} {h : Heap} (_ : K.In h) : PySem.W.Frag := K
theorem walk_of {l : PySem.W.OpenLaw} {n k : Nat} {q : Program} {loose : List Str} {XP : (Str → Option Value) → Heap → Prop} {YP : World → Heap → Prop} {d : DefRec} {K : Params → PySem.W.Frag} {CX : World → CXT} {sp : World → Sp} {x : Str}
    (hn : l.most = some n) (hn2 : n ≤ sizeLine) (hdf : d.params.defaults = []) (hr : Room k callerA)
    (hY : ∀ (w : World) (h : Heap), YP w h → (K w.params).In h)
    (F : ∀ (w : World) (mg : Str → Option Value) (fa : Addr) (h : Heap), (K w.params).In h → h.Ns mainGlobals mg → mg d.name = some (.ref fa) →
      ∃ fd : FuncData, (∀ (s : Shared) (u : Value), BindsTo s fd ⟨[u], []⟩ [(x, u)]) ∧
        ∀ base : Heap, (K w.params).In base → base.Ns mainGlobals mg → FnOk l.prog w (K w.params) mg base (CX w) k fa fd [x] (sp w))
    (hsp : ∀ (w : World) (H : Hp) (a : Addr) (ns : List Int), ns.length ≤ n → Only H → SqL (K w.params) H a (ns.map V.int) → sp w [.ref a] H (fun v _ => v = .bl true) fun _ _ _ => False)
    (hCX : ∀ (w : World) (H : Hp) (s : Shared) (e : Value) (s' : Shared), CX w [] H s (fun _ _ _ => False) e s' → False) :
    PySem.W.WalkO q loose XP YP l.row.toRowW d [] (fun f vs => PySem.call f vs) := by
  refine Att.attach_call hn hdf fun w s₀ s₁ mg mb fa o pm cd doc a vs ns G Y ho hd hcd hmg hobj hints hlen hg => ?_
  have KX := hY w _ Y
  obtain ⟨fd, hb, hF⟩ := F w mg fa _ KX G.T.g hmg
  exact law_call KX G.T.g G.T.b G.T.builtins G.T.nolimit hg hobj hints (Nat.le_trans hlen hn2) hr hF hb (fun H hO hS => hsp w H a ns hlen hO hS) fun H e s' => hCX w H s₁ e s'
theorem walk_ofK {l : PySem.W.OpenLaw} {n k : Nat} {q : Program} {loose : List Str} {XP : (Str → Option Value) → Heap → Prop} {YP : World → Heap → Prop} {d : DefRec} {K : Params → PySem.W.Frag} {CX : CXT} {sp : PySem.W.Frag → Sp} {x : Str}
    (hn : l.most = some n) (hn2 : n ≤ sizeLine) (hdf : d.params.defaults = []) (hr : Room k callerA)
    (hY : ∀ (w : World) (h : Heap), YP w h → (K w.params).In h)
    (F : ∀ (w : World) (mg : Str → Option Value) (fa : Addr) (h : Heap), (K w.params).In h → h.Ns mainGlobals mg → mg d.name = some (.ref fa) →
      ∃ fd : FuncData, (∀ (s : Shared) (u : Value), BindsTo s fd ⟨[u], []⟩ [(x, u)]) ∧
        ∀ base : Heap, (K w.params).In base → base.Ns mainGlobals mg → FnOk l.prog w (K w.params) mg base CX k fa fd [x] (sp (K w.params)))
    (hsp : ∀ (K : PySem.W.Frag) (H : Hp) (a : Addr) (ns : List Int), ns.length ≤ n → Only H → SqL K H a (ns.map V.int) → sp K [.ref a] H (fun v _ => v = .bl true) fun _ _ _ => False)
    (hCX : ∀ (H : Hp) (s : Shared) (e : Value) (s' : Shared), CX [] H s (fun _ _ _ => False) e s' → False) :
    PySem.W.WalkO q loose XP YP l.row.toRowW d [] (fun f vs => PySem.call f vs) :=
  walk_of (K := K) (CX := fun _ => CX) (sp := fun w => sp (K w.params)) hn hn2 hdf hr hY F (fun w H a ns h1 h2 h3 => hsp (K w.params) H a ns h1 h2 h3) fun _ H s e s' => hCX H s e s'
end L2
namespace L2
open PySem PySem.Spec PyProof.Rows
noncomputable def defArgs (s : Stmt) : Arguments := match s with
  | .FunctionDef _ a _ _ _ _ _ _ _ _ => a
  | _ => { posonlyargs := [], args := [], vararg := none, kwonlyargs := [], kw_defaults := [], kwarg := none, defaults := [] }
noncomputable def defBody (s : Stmt) : List Stmt := match s with
  | .FunctionDef _ _ b _ _ _ _ _ _ _ => b
  | _ => []
noncomputable def defScope (s : Stmt) : Scope := match s with
  | .FunctionDef _ _ _ _ _ _ sc _ _ _ => sc
  | _ => { kind := .function, names := [], isGenerator := false, isCoroutine := false }
noncomputable abbrev CX0 : CXT := fun _ _ _ _ _ _ => False
noncomputable abbrev E0 : XK := fun _ _ _ => False
theorem pass0 {X : Cx} : Passes CX0 X E0 := fun _ _ _ _ _ _ _ h => h.elim
structure Fun (K : PySem.W.Frag) (x qual : Str) (st : Stmt) (f : Addr) (fd : FuncData) : Prop where
  ex : ∃ (oc : Value) (od : Option Addr) (kV doc pm : Value) (an : Option Addr) (cdv ct : Value) (osl : Array (Option Value)),
    fd = PySem.W.fnOf x qual (defArgs st) (defBody st) (defScope st) .none kV doc pm an cdv ct ∧ K.lookup f = some ⟨oc, od, .func fd, osl⟩ ∧ PySem.W.codeIn K cdv qual = true
  kp : PySem.W.keepIn K (.ref f) = true
section
variable {P : Program} {w : World} {K : PySem.W.Frag} {mg : Str → Option Value} {base : Heap}
theorem Fun.ok {x qual : Str} {st : Stmt} {f : Addr} {fd : FuncData} {N ps : List Str} {k : Nat} {sp : Sp} (F : Fun K x qual st f fd) (S : FnScope N ps (defScope st)) (len : ∀ vs H Q E, sp vs H Q E → vs.length = ps.length)
    (hbody : ∀ (cdv : Value) (A : Around) (outer : List Env) (s : Shared) (H : Hp) (vs : List V) (Q : VK) (E : XK), Room k (A.deeper (envOfC qual (defScope st) s.heap.objs.size f cdv)) → sp vs H Q E →
      ∃ t, PSs (cxOf CX0 P w K mg base N qual (defScope st) f cdv A outer s H E).nox (defBody st) t ∧ t { nx := fun _ H' => Q .non H', rt := Q } (start N vs) H) : FnOk P w K mg base CX0 (k + 1) f fd ps sp := by
  obtain ⟨oc, od, kV, doc, pm, an, cdv, ct, osl, rfl, lk, hcd⟩ := F.ex
  refine fn_of lk hcd S len fun A outer s H vs Q E hr hsp => ?_
  obtain ⟨t, h, q⟩ := hbody cdv A outer s H vs Q E hr hsp
  exact ⟨t, h.nox, q⟩
theorem Fun.binds {x qual : Str} {st : Stmt} {f : Addr} {fd : FuncData} {ps : List Str} (F : Fun K x qual st f fd)
    (h : ∀ (kV doc pm : Value) (an : Option Addr) (cdv ct : Value) (us : List Value), us.length = ps.length → bindArgs (PySem.W.fnOf x qual (defArgs st) (defBody st) (defScope st) .none kV doc pm an cdv ct) ⟨us, []⟩ = pure (ps.zip us)) : Binds K fd ps [] := by
  obtain ⟨oc, od, kV, doc, pm, an, cdv, ct, osl, rfl, lk, hcd⟩ := F.ex
  exact .all (h kV doc pm an cdv ct)
theorem fun_mk {x qual : Str} {st : Stmt} {f : Addr} {oc : Value} {od an : Option Addr} {osl : Array (Option Value)} {kV doc pm cdv ct : Value} (l : K.lookup f = some ⟨oc, od, .func (PySem.W.fnOf x qual (defArgs st) (defBody st) (defScope st) .none kV doc pm an cdv ct), osl⟩)
    (c : PySem.W.codeIn K cdv qual = true) (k : PySem.W.keepIn K (.ref f) = true) : Fun K x qual st f (PySem.W.fnOf x qual (defArgs st) (defBody st) (defScope st) .none kV doc pm an cdv ct) := ⟨⟨oc, od, kV, doc, pm, an, cdv, ct, osl, rfl, l, c⟩, k⟩
end
section
variable {X : Cx}
theorem pv (i : Nat) {x : Str} {pos : Pos} (hN : X.N[i]? = some x := by rfl) (hv : Vis X.env.scope x := by first | exact Or.inl rfl | exact Or.inr (Or.inl rfl) | exact Or.inr (Or.inr rfl)) (hd : (x == ("__debug__" : Str)) = false := by decide)
    (hcd : (x == ("__classdict__" : Str)) = false := by decide) : PE X (.Name x pos) (tVar i) := pe_var hN hv hd hcd
end
noncomputable def Same (H H' : Hp) : Prop := ∀ b o, H b = some o → H' b = some o
theorem Same.refl (H : Hp) : Same H H := fun _ _ h => h
theorem Same.trans {H H1 H2 : Hp} (a : Same H H1) (b : Same H1 H2) : Same H H2 := fun c o h => b c o (a c o h)
theorem Same.free {H H' : Hp} (e : Same H H') {l : Addr} (h : H' l = Option.none) : H l = Option.none := by
  cases q : H l with
  | none => rfl
  | some o =>
    rw [e l o q] at h
    cases h
theorem Same.seq {K : PySem.W.Frag} {H H' : Hp} {a : Addr} {xs : List V} (e : Same H H') (h : SqL K H a xs) : SqL K H' a xs := by
  rcases h with (h | ⟨o, h⟩) | h
  · exact .inl (.inl (e _ _ h))
  · exact .inl (.inr ⟨o, e _ _ h⟩)
  · exact .inr h
end L2
set_option maxHeartbeats 4000000
set_option autoImplicit false
namespace DL
open PySem PySem.Spec PyProof.Rows L2
noncomputable def numOf : Value → Option Int
  | .int i _ => some i
  | .bool b => some (if b then 1 else 0)
  | _ => none
noncomputable def numIs (k : Int) (v : Value) : Bool := numOf v == some k
theorem numIs_shape {k : Int} {v : Value} (h : numIs k v = true) : (∃ t, v = .int k t) ∨ ∃ b, v = .bool b ∧ k = (if b then 1 else 0) := by
  have h : numOf v = some k := eq_of_beq h
  cases v with
  | int i t => exact .inl ⟨t, by cases h; rfl⟩
  | bool b => exact .inr ⟨b, rfl, (Option.some.inj h).symm⟩
  | _ => cases h
section
variable {prog : Program} {w : World} {A : Around} {E : Value → Shared → Prop} {s : Shared}
theorem pyHash_bool {b : Bool} {Q : Int → Shared → Prop} (h : Q (hashInt (if b then 1 else 0)) { s with toks := s.toks + 1 }) : wpAny (model prog w) A (pyHash (.bool b)) Q E s := by
  have hr := rawHash_range (if b then 1 else 0)
  have tb : s.TypeIs (.bool b) "bool" := rfl
  unfold pyHash
  have hv : [Value.bool b].any Value.onHeap = false := rfl
  refine wpAny_bind ?_
  rw [cRoomFor, if_neg (by rw [hv]; exact Bool.false_ne_true)]; refine wpAny_pure ?_
  refine wpAny_bind (wpAny_specialOf tb F.slot_bool_hash.lookup ?_)
  show wpAny _ _ (if (some (Value.builtin "int.__hash__") == some Value.none) = true then _ else _) Q E s
  rw [if_neg (by rw [beq_builtin_none]; exact Bool.false_ne_true)]
  refine wpAny_bind (wpAny_specialOf tb F.slot_bool_hash.lookup ?_)
  show wpAny _ _ (callSpecialIfBoundUnlessNone? (.bool b) "__hash__" _ >>= _) Q E s
  refine wpAny_bind (wpAny_callSpecialIfBoundUnlessNone?_slot tb F.slot_bool_hash
    (wpAny_call_entry F.slot_bool_hash tb entry_int_hash
      (show wpAny _ _ (do ret (← mkInt (rawHash (if b then 1 else 0)))) _ _ s from wpAny_ret_mkInt ?_) (args_int_hash _)))
  show wpAny _ _ (if (decide (-(2 : Int) ^ 63 ≤ rawHash (if b then 1 else 0)) && decide (rawHash (if b then 1 else 0) < 2 ^ 63)) = true then _ else _) Q E _
  rw [if_pos (by rw [decide_eq_true hr.1, decide_eq_true hr.2]; rfl)]
  exact wpAny_pure h
end
noncomputable def numKind (prog : Program) (w : World) : KeyKind prog w Int where
  is := numIs
  hash := hashInt
  inj := fun v a b ha hb => by
    unfold numIs at ha hb
    have := (eq_of_beq ha).symm.trans (eq_of_beq hb)
    exact Option.some.inj this
  byValue := fun k v h => by rcases numIs_shape h with ⟨t, rfl⟩ | ⟨b, rfl, _⟩ <;> rfl
  pyHash := fun hv h => by
    rcases numIs_shape hv with ⟨t, rfl⟩ | ⟨b, rfl, rfl⟩
    · exact wpAny_pyHash_int h
    · exact pyHash_bool h
  eqBool := fun {A E s a b u v Q} hu hv h => by
    rcases numIs_shape hu with ⟨t, rfl⟩ | ⟨c, rfl, rfl⟩ <;> rcases numIs_shape hv with ⟨t', rfl⟩ | ⟨c', rfl, rfl⟩
    · exact wpAny_eqBool_int h
    · exact PySem.SeqAt.EqAt.int_bool _ _ _ prog w E Q h
    · exact PySem.SeqAt.EqAt.bool_int _ _ _ prog w E Q h
    · refine PySem.SeqAt.EqAt.bool_bool _ _ prog w E Q ?_
      have e : (c == c') = decide ((if c then (1 : Int) else 0) = (if c' then 1 else 0)) := by cases c <;> cases c' <;> rfl
      rw [e]; exact h
  «strs» := fun k x t v h => by simp [numIs, numOf] at h
end DL
namespace DL
open PySem PySem.Spec PyProof.Rows L2
inductive D where
  | non | bl (b : Bool) | int (i : Int) | str (x : Str) | ty (n : String) | tup (xs : List D) | fl (xs : List D) | ref (n : Nat)
inductive DO where
  | lst (xs : List D) | dic (kvs : List (D × D)) (fz : Bool) | dci (kvs : List (Int × D)) | dcn (kvs : List (D × D))
noncomputable abbrev HD := List DO
noncomputable abbrev SD := List (Option D)
noncomputable def FzL (K : PySem.W.Frag) (H : Hp) (a : Addr) (xs : List V) : Prop :=
  (∃ o, H a = some (.frz o (.lst xs))) ∨
    ∃ (o : Obj) (its : Array Value) (n : Nat), K.lookup a = some o ∧ o.cls = .type "list" ∧ o.dict = none ∧ o.data = .seq its n ∧ its.size ≤ sizeLine ∧ Vals xs its.toList
theorem FzL.sq {K : PySem.W.Frag} {H : Hp} {a : Addr} {xs : List V} (h : FzL K H a xs) : SqL K H a xs := by
  rcases h with h | h
  · exact .inl (.inr h)
  · exact .inr h
mutual
noncomputable def Rep (K : PySem.W.Frag) (H : Hp) (ι : List Addr) : D → V → Prop
  | .non, v => v = .non
  | .bl b, v => v = .bl b
  | .int i, v => v = .int i
  | .str x, v => v = .str x
  | .ty n, v => v = .ty n
  | .tup ds, v => ∃ a vs, v = .ref a ∧ SqT K H a vs ∧ RepL K H ι ds vs
  | .fl ds, v => ∃ a vs, v = .ref a ∧ FzL K H a vs ∧ RepL K H ι ds vs
  | .ref n, v => ∃ a, v = .ref a ∧ ι[n]? = some a
noncomputable def RepL (K : PySem.W.Frag) (H : Hp) (ι : List Addr) : List D → List V → Prop
  | [], vs => vs = []
  | d :: ds, vs => ∃ v r, vs = v :: r ∧ Rep K H ι d v ∧ RepL K H ι ds r
end
section
variable {α β : Type} {F G : α → β → Prop}
theorem Prd.len : ∀ {xs : List α} {us : List β}, Paired F xs us → xs.length = us.length
  | _, _, .nil => rfl
  | _, _, .cons _ t => by simp [Prd.len t]
theorem Prd.get : ∀ {xs : List α} {us : List β} {i : Nat} {x : α}, Paired F xs us → xs[i]? = some x → ∃ u, us[i]? = some u ∧ F x u
  | _, _, _, _, .nil, e => by simp at e
  | _, _, 0, _, .cons r _, e => by simp at e; subst e; exact ⟨_, rfl, r⟩
  | _, _, i + 1, x, .cons _ t, e => by
    obtain ⟨u, h1, h2⟩ := Prd.get (i := i) (x := x) t (by simpa using e)
    exact ⟨u, by simpa using h1, h2⟩
theorem Prd.set {x : α} {u : β} (r : F x u) : ∀ {xs : List α} {us : List β} (i : Nat), Paired F xs us → Paired F (xs.set i x) (us.set i u)
  | _, _, _, .nil => .nil
  | _, _, 0, .cons _ t => .cons r t
  | _, _, i + 1, .cons q t => .cons q (Prd.set r i t)
theorem Prd.append : ∀ {xs ys : List α} {us ws : List β}, Paired F xs us → Paired F ys ws → Paired F (xs ++ ys) (us ++ ws)
  | _, _, _, _, .nil, s => s
  | _, _, _, _, .cons r t, s => .cons r (Prd.append t s)
theorem Prd.take : ∀ {xs : List α} {us : List β} (n : Nat), Paired F xs us → Paired F (xs.take n) (us.take n)
  | _, _, 0, _ => .nil
  | _, _, _ + 1, .nil => .nil
  | _, _, n + 1, .cons r t => .cons r (Prd.take n t)
theorem Prd.drop : ∀ {xs : List α} {us : List β} (n : Nat), Paired F xs us → Paired F (xs.drop n) (us.drop n)
  | _, _, 0, r => r
  | _, _, _ + 1, .nil => .nil
  | _, _, n + 1, .cons _ t => Prd.drop n t
theorem Prd.eraseIdx : ∀ {xs : List α} {us : List β} (i : Nat), Paired F xs us → Paired F (xs.eraseIdx i) (us.eraseIdx i)
  | _, _, _, .nil => .nil
  | _, _, 0, .cons _ t => t
  | _, _, i + 1, .cons r t => .cons r (Prd.eraseIdx i t)
theorem Prd.rep {xs : List α} {us : List β} (h : Paired F xs us) : ∀ k : Nat, Paired F (List.replicate k xs).flatten (List.replicate k us).flatten
  | 0 => .nil
  | k + 1 => by
    rw [List.replicate_succ, List.flatten_cons, List.replicate_succ, List.flatten_cons]
    exact Prd.append h (Prd.rep h k)
theorem Prd.imp : ∀ {xs : List α} {us : List β}, Paired F xs us → (∀ a b, a ∈ xs → F a b → G a b) → Paired G xs us
  | _, _, .nil, _ => .nil
  | _, _, .cons r t, f => .cons (f _ _ (by simp) r) (Prd.imp t fun a b h => f a b (by simp [h]))
theorem Prd.reverse : ∀ {xs : List α} {us : List β}, Paired F xs us → Paired F xs.reverse us.reverse
  | _, _, .nil => .nil
  | _, _, .cons r t => by
    rw [List.reverse_cons, List.reverse_cons]
    exact Prd.append (Prd.reverse t) (.cons r .nil)
end
section
variable {K : PySem.W.Frag} {H H' : Hp} {ι ι' : List Addr}
theorem repL_iff : ∀ {ds : List D} {vs : List V}, RepL K H ι ds vs ↔ Paired (Rep K H ι) ds vs
  | [], vs => by
    constructor
    · intro h; rw [RepL] at h; subst h; exact .nil
    · intro h; cases h; rw [RepL]
  | d :: ds, vs => by
    constructor
    · intro h; rw [RepL] at h
      obtain ⟨v, r, rfl, h1, h2⟩ := h
      exact .cons h1 (repL_iff.mp h2)
    · intro h
      cases h with
      | cons h1 h2 => rw [RepL]; exact ⟨_, _, rfl, h1, repL_iff.mpr h2⟩
@[simp] theorem rep_non {v : V} : Rep K H ι .non v ↔ v = .non := by rw [Rep]
@[simp] theorem rep_bl {b : Bool} {v : V} : Rep K H ι (.bl b) v ↔ v = .bl b := by rw [Rep]
@[simp] theorem rep_int {i : Int} {v : V} : Rep K H ι (.int i) v ↔ v = .int i := by rw [Rep]
@[simp] theorem rep_str {x : Str} {v : V} : Rep K H ι (.str x) v ↔ v = .str x := by rw [Rep]
@[simp] theorem rep_ty {n : String} {v : V} : Rep K H ι (.ty n) v ↔ v = .ty n := by rw [Rep]
theorem rep_tup {ds : List D} {v : V} : Rep K H ι (.tup ds) v ↔ ∃ a vs, v = .ref a ∧ SqT K H a vs ∧ Paired (Rep K H ι) ds vs := by
  rw [Rep]
  constructor
  · rintro ⟨a, vs, h1, h2, h3⟩; exact ⟨a, vs, h1, h2, repL_iff.mp h3⟩
  · rintro ⟨a, vs, h1, h2, h3⟩; exact ⟨a, vs, h1, h2, repL_iff.mpr h3⟩
theorem rep_fl {ds : List D} {v : V} : Rep K H ι (.fl ds) v ↔ ∃ a vs, v = .ref a ∧ FzL K H a vs ∧ Paired (Rep K H ι) ds vs := by
  rw [Rep]
  constructor
  · rintro ⟨a, vs, h1, h2, h3⟩; exact ⟨a, vs, h1, h2, repL_iff.mp h3⟩
  · rintro ⟨a, vs, h1, h2, h3⟩; exact ⟨a, vs, h1, h2, repL_iff.mpr h3⟩
theorem rep_ref {n : Nat} {v : V} : Rep K H ι (.ref n) v ↔ ∃ a, v = .ref a ∧ ι[n]? = some a := by rw [Rep]
structure Lw (K : PySem.W.Frag) (H : Hp) (ι : List Addr) (H' : Hp) (ι' : List Addr) : Prop where
  tup : ∀ a xs, SqT K H a xs → SqT K H' a xs
  fz : ∀ a xs, FzL K H a xs → FzL K H' a xs
  pre : ∃ t, ι' = ι ++ t
  fr : ∀ a o u, H a = some (.frz o u) → H' a = some (.frz o u)
structure Le (K : PySem.W.Frag) (H : Hp) (ι : List Addr) (H' : Hp) (ι' : List Addr) : Prop extends Lw K H ι H' ι' where
  frame : ∀ a o, H a = some o → a ∉ ι → H' a = some o ∧ a ∉ ι'
theorem Le.refl : Le K H ι H ι := ⟨⟨fun _ _ h => h, fun _ _ h => h, ⟨[], by simp⟩, fun _ _ _ h => h⟩, fun _ _ h n => ⟨h, n⟩⟩
theorem Le.trans {H1 H2 : Hp} {ι1 ι2 : List Addr} (a : Le K H ι H1 ι1) (b : Le K H1 ι1 H2 ι2) : Le K H ι H2 ι2 := by
  refine ⟨⟨fun x xs h => b.tup x xs (a.tup x xs h), fun x xs h => b.fz x xs (a.fz x xs h), ?_, fun x o u h => b.fr x o u (a.fr x o u h)⟩, fun x o h n => ?_⟩
  · obtain ⟨t, e⟩ := a.pre
    obtain ⟨u, e'⟩ := b.pre
    exact ⟨t ++ u, by rw [e', e, List.append_assoc]⟩
  · obtain ⟨h1, n1⟩ := a.frame x o h n
    exact b.frame x o h1 n1
theorem Lw.get (l : Lw K H ι H' ι') {n : Nat} {a : Addr} (h : ι[n]? = some a) : ι'[n]? = some a := by
  obtain ⟨t, e⟩ := l.pre
  rw [e, List.getElem?_append_left (by exact (List.getElem?_eq_some_iff.mp h).1), h]
mutual
theorem Rep.monoW (l : Lw K H ι H' ι') : ∀ {d : D} {v : V}, Rep K H ι d v → Rep K H' ι' d v
  | .non, v, h => by rw [Rep] at h ⊢; exact h
  | .bl _, v, h => by rw [Rep] at h ⊢; exact h
  | .int _, v, h => by rw [Rep] at h ⊢; exact h
  | .str _, v, h => by rw [Rep] at h ⊢; exact h
  | .ty _, v, h => by rw [Rep] at h ⊢; exact h
  | .tup ds, v, h => by
    rw [Rep] at h ⊢
    obtain ⟨a, vs, h1, h2, h3⟩ := h
    exact ⟨a, vs, h1, l.tup a vs h2, RepL.monoW l h3⟩
  | .fl ds, v, h => by
    rw [Rep] at h ⊢
    obtain ⟨a, vs, h1, h2, h3⟩ := h
    exact ⟨a, vs, h1, l.fz a vs h2, RepL.monoW l h3⟩
  | .ref n, v, h => by
    rw [Rep] at h ⊢
    obtain ⟨a, h1, h2⟩ := h
    exact ⟨a, h1, l.get h2⟩
theorem RepL.monoW (l : Lw K H ι H' ι') : ∀ {ds : List D} {vs : List V}, RepL K H ι ds vs → RepL K H' ι' ds vs
  | [], vs, h => by rw [RepL] at h ⊢; exact h
  | d :: ds, vs, h => by
    rw [RepL] at h ⊢
    obtain ⟨v, r, h1, h2, h3⟩ := h
    exact ⟨v, r, h1, Rep.monoW l h2, RepL.monoW l h3⟩
end
theorem Rep.mono (l : Le K H ι H' ι') {d : D} {v : V} (h : Rep K H ι d v) : Rep K H' ι' d v := Rep.monoW l.toLw h
theorem Prd.monoW (l : Lw K H ι H' ι') {ds : List D} {vs : List V} (h : Paired (Rep K H ι) ds vs) : Paired (Rep K H' ι') ds vs := repL_iff.mp (RepL.monoW l (repL_iff.mpr h))
theorem Prd.mono (l : Le K H ι H' ι') {ds : List D} {vs : List V} (h : Paired (Rep K H ι) ds vs) : Paired (Rep K H' ι') ds vs := Prd.monoW l.toLw h
noncomputable def nkOf : D → Option Int
  | .int i => some i
  | .bl b => some (if b then 1 else 0)
  | _ => none
noncomputable def nksOf : List D → Option (List Int)
  | [] => some []
  | d :: r => (nkOf d).bind fun k => (nksOf r).map fun ks => k :: ks
noncomputable def nk : D → Option (List Int)
  | .tup ds => nksOf ds
  | _ => none
noncomputable def kHash (ks : List Int) : Int := reduceHash (Builtin.Tuple.tupleHashOf (ks.map hashInt))
noncomputable def DicAt (a : Addr) (xs : List (List Int × Addr × Value)) (h : Heap) : Prop :=
  ∃ o es ep, h.get? a = some o ∧ o.ExactDict ∧ o.data = .dict es ep ∧ es.toList = xs.map (fun x => (⟨kHash x.1, .ref x.2.1, x.2.2⟩ : DictEntry)) ∧ (xs.map (·.1)).Nodup
theorem DicAt.keep {a : Addr} {xs : List (List Int × Addr × Value)} {h1 h2 : Heap} (d : DicAt a xs h1) (k : ∀ o, h1.get? a = some o → h2.get? a = some o) : DicAt a xs h2 := by
  obtain ⟨o, es, ep, e, r⟩ := d
  exact ⟨o, es, ep, k o e, r⟩
noncomputable def KRep (K : PySem.W.Frag) (H : Hp) (ι : List Addr) (p : D × D) (x : List Int × Addr × Value) : Prop := nk p.1 = some x.1 ∧ Rep K H ι p.1 (.ref x.2.1) ∧ ∃ v, RelV v x.2.2 ∧ Rep K H ι p.2 v
noncomputable def DciAt (a : Addr) (xs : List (Int × Value)) (h : Heap) : Prop := ∀ (p : Program) (w : World), h.DictOf (numKind p w) a xs
theorem DciAt.keep {a : Addr} {xs : List (Int × Value)} {h1 h2 : Heap} (d : DciAt a xs h1) (k : ∀ o, h1.get? a = some o → h2.get? a = some o) : DciAt a xs h2 := fun p w => by
  obtain ⟨o, es, ep, e, r⟩ := d p w
  exact ⟨o, es, ep, k o e, r⟩
noncomputable def IRep (K : PySem.W.Frag) (H : Hp) (ι : List Addr) (p : Int × D) (x : Int × Value) : Prop := p.1 = x.1 ∧ ∃ v, RelV v x.2 ∧ Rep K H ι p.2 v
noncomputable def nk2 : D → Option (Int × List Int)
  | .tup [a, b] => (nkOf a).bind fun i => (nk b).map fun ks => (i, ks)
  | _ => none
noncomputable def nHash (k : Int × List Int) : Int := reduceHash (Builtin.Tuple.tupleHashOf [hashInt k.1, kHash k.2])
noncomputable def DcnAt (a : Addr) (xs : List ((Int × List Int) × Addr × Value)) (h : Heap) : Prop :=
  ∃ o es ep, h.get? a = some o ∧ o.ExactDict ∧ o.data = .dict es ep ∧ es.toList = xs.map (fun x => (⟨nHash x.1, .ref x.2.1, x.2.2⟩ : DictEntry)) ∧ (xs.map (·.1)).Nodup
theorem DcnAt.keep {a : Addr} {xs : List ((Int × List Int) × Addr × Value)} {h1 h2 : Heap} (d : DcnAt a xs h1) (k : ∀ o, h1.get? a = some o → h2.get? a = some o) : DcnAt a xs h2 := by
  obtain ⟨o, es, ep, e, r⟩ := d
  exact ⟨o, es, ep, k o e, r⟩
noncomputable def NRep (K : PySem.W.Frag) (H : Hp) (ι : List Addr) (p : D × D) (x : (Int × List Int) × Addr × Value) : Prop := nk2 p.1 = some x.1 ∧ Rep K H ι p.1 (.ref x.2.1) ∧ ∃ v, RelV v x.2.2 ∧ Rep K H ι p.2 v
noncomputable def ORep (K : PySem.W.Frag) (H : Hp) (ι : List Addr) (a : Addr) : DO → Prop
  | .lst ds => ∃ vs, H a = some (.lst vs) ∧ Paired (Rep K H ι) ds vs
  | .dic kvs fz => (a == sysModules) = false ∧ kvs.length ≤ sizeLine ∧ ∃ xs, (if fz = true then ∃ o, H a = some (.frz o (.ext (DicAt a xs))) else H a = some (.ext (DicAt a xs))) ∧ Paired (KRep K H ι) kvs xs
  | .dci kvs => (a == sysModules) = false ∧ kvs.length ≤ sizeLine ∧ ∃ xs, H a = some (.ext (DciAt a xs)) ∧ Paired (IRep K H ι) kvs xs
  | .dcn kvs => (a == sysModules) = false ∧ kvs.length ≤ sizeLine ∧ ∃ xs, H a = some (.ext (DcnAt a xs)) ∧ Paired (NRep K H ι) kvs xs
structure HRep (K : PySem.W.Frag) (H : Hp) (ι : List Addr) (Hd : HD) : Prop where
  len : ι.length = Hd.length
  nd : ι.Nodup
  obj : ∀ (n : Nat) (a : Addr) (o : DO), ι[n]? = some a → Hd[n]? = some o → ORep K H ι a o
theorem ORep.there {a : Addr} {o : DO} (h : ORep K H ι a o) : H a ≠ none := by
  cases o with
  | lst ds => obtain ⟨vs, e, _⟩ := h; rw [e]; simp
  | dic kv fz =>
    obtain ⟨_, _, xs, e, _⟩ := h
    cases fz with
    | true => rw [if_pos rfl] at e; obtain ⟨ob, e⟩ := e; rw [e]; simp
    | false => rw [if_neg (by simp)] at e; rw [e]; simp
  | dci kv => obtain ⟨_, _, xs, e, _⟩ := h; rw [e]; simp
  | dcn kv => obtain ⟨_, _, xs, e, _⟩ := h; rw [e]; simp
theorem ORep.step {a : Addr} {o : DO} (h : ORep K H ι a o) (l : Lw K H ι H' ι') (e : H' a = H a) : ORep K H' ι' a o := by
  cases o with
  | lst ds => obtain ⟨vs, q, r⟩ := h; exact ⟨vs, by rw [e, q], Prd.monoW l r⟩
  | dic kv fz => obtain ⟨h1, h2, xs, q, r⟩ := h; exact ⟨h1, h2, xs, by rw [e]; exact q, Prd.imp r fun p x _ z => ⟨z.1, Rep.monoW l z.2.1, let ⟨v, z1, z2⟩ := z.2.2; ⟨v, z1, Rep.monoW l z2⟩⟩⟩
  | dci kv => obtain ⟨h1, h2, xs, q, r⟩ := h; exact ⟨h1, h2, xs, by rw [e]; exact q, Prd.imp r fun p x _ z => ⟨z.1, let ⟨v, z1, z2⟩ := z.2; ⟨v, z1, Rep.monoW l z2⟩⟩⟩
  | dcn kv => obtain ⟨h1, h2, xs, q, r⟩ := h; exact ⟨h1, h2, xs, by rw [e]; exact q, Prd.imp r fun p x _ z => ⟨z.1, Rep.monoW l z.2.1, let ⟨v, z1, z2⟩ := z.2.2; ⟨v, z1, Rep.monoW l z2⟩⟩⟩
theorem HRep.at {Hd : HD} (h : HRep K H ι Hd) {n : Nat} {o : DO} (e : Hd[n]? = some o) : ∃ a, ι[n]? = some a ∧ ORep K H ι a o := by
  have hl : n < ι.length := by rw [h.len]; exact (List.getElem?_eq_some_iff.mp e).1
  exact ⟨ι[n], by simp [hl], h.obj n _ o (by simp [hl]) e⟩
theorem HRep.has {Hd : HD} (h : HRep K H ι Hd) {a : Addr} (hm : a ∈ ι) : ∃ (n : Nat) (o : DO), ι[n]? = some a ∧ Hd[n]? = some o ∧ ORep K H ι a o := by
  obtain ⟨n, hn⟩ := List.mem_iff_getElem?.mp hm
  have hl : n < Hd.length := by rw [← h.len]; exact (List.getElem?_eq_some_iff.mp hn).1
  exact ⟨n, Hd[n], hn, by simp [hl], h.obj n a Hd[n] hn (by simp [hl])⟩
theorem HRep.fresh {Hd : HD} (h : HRep K H ι Hd) {p : Addr} (hp : H p = none) : p ∉ ι := fun hm => by
  obtain ⟨_, _, _, _, o⟩ := h.has hm
  exact o.there hp
theorem HRep.keep {Hd : HD} (h : HRep K H ι Hd) (l : Lw K H ι H' ι) (e : ∀ a ∈ ι, H' a = H a) : HRep K H' ι Hd :=
  ⟨h.len, h.nd, fun n a o h1 h2 => (h.obj n a o h1 h2).step l (e a (List.mem_of_getElem? h1))⟩
theorem Lw.fresh {p : Addr} (hp : H p = none) (o : HO) : Lw K H ι (upd H p o) ι where
  tup := fun a xs h => by
    rcases h with (h | ⟨ob, h⟩) | h
    · exact .inl (.inl (by rw [upd_ne (ne_of_none h hp)]; exact h))
    · exact .inl (.inr ⟨ob, by rw [upd_ne (ne_of_none h hp)]; exact h⟩)
    · exact .inr h
  fz := fun a xs h => by
    rcases h with ⟨ob, h⟩ | h
    · exact .inl ⟨ob, by rw [upd_ne (ne_of_none h hp)]; exact h⟩
    · exact .inr h
  pre := ⟨[], by simp⟩
  fr := fun a ob u h => by rw [upd_ne (ne_of_none h hp)]; exact h
theorem Le.fresh {p : Addr} (hp : H p = none) (o : HO) : Le K H ι (upd H p o) ι := ⟨Lw.fresh hp o, fun a ob h n => ⟨by rw [upd_ne (ne_of_none h hp)]; exact h, n⟩⟩
theorem Le.fresh1 {p : Addr} (hp : H p = none) (o : HO) : Le K H ι (upd H p o) (ι ++ [p]) where
  tup := (Le.fresh (ι := ι) hp o).tup
  fz := (Le.fresh (ι := ι) hp o).fz
  pre := ⟨[p], rfl⟩
  fr := (Le.fresh (K := K) (ι := ι) hp o).fr
  frame := fun a ob h n => ⟨by rw [upd_ne (ne_of_none h hp)]; exact h, by
    have := ne_of_none h hp
    simp [n, this]⟩
theorem HRep.tup {Hd : HD} (h : HRep K H ι Hd) {p : Addr} (hp : H p = none) (o : HO) : HRep K (upd H p o) ι Hd :=
  h.keep (Lw.fresh hp o) fun a ha => upd_ne fun z => by subst z; exact h.fresh hp ha
theorem HRep.new {Hd : HD} (h : HRep K H ι Hd) {p : Addr} (hp : H p = none) {u : HO} {o : DO} (ho : ORep K (upd H p u) (ι ++ [p]) p o) : HRep K (upd H p u) (ι ++ [p]) (Hd ++ [o]) := by
  have hf := h.fresh hp
  refine ⟨by simp [h.len], by simp only [List.nodup_append, h.nd, true_and]; exact ⟨by simp, fun a ha b hb e => hf (by simp at hb; rw [← hb, ← e]; exact ha)⟩, fun n a ob h1 h2 => ?_⟩
  by_cases hn : n < ι.length
  · rw [List.getElem?_append_left hn] at h1
    rw [List.getElem?_append_left (by rw [← h.len]; exact hn)] at h2
    have ha : a ∈ ι := List.mem_of_getElem? h1
    exact (h.obj n a ob h1 h2).step (Le.fresh1 hp u).toLw (upd_ne fun z => by subst z; exact hf ha)
  · rw [List.getElem?_append_right (by omega)] at h1
    rw [List.getElem?_append_right (by rw [← h.len]; omega)] at h2
    rw [← h.len] at h2
    have : n - ι.length = 0 := by
      have := (List.getElem?_eq_some_iff.mp h1).1
      simp at this; omega
    rw [this] at h1 h2
    simp at h1 h2
    subst h1; subst h2
    exact ho
noncomputable def Loose : HO → Prop
  | .lst _ => True
  | .ext _ => True
  | _ => False
theorem Le.upd {a : Addr} (ha : a ∈ ι) {o : HO} (e : H a = some o) (lo : Loose o) (u : HO) : Le K H ι (upd H a u) ι where
  tup := fun b xs h => by
    rcases h with (h | ⟨ob, h⟩) | h
    · refine .inl (.inl ?_)
      rw [upd_ne (ne_of h e (by rintro rfl; exact lo))]; exact h
    · refine .inl (.inr ⟨ob, ?_⟩)
      rw [upd_ne (ne_of h e (by rintro rfl; exact lo))]; exact h
    · exact .inr h
  fz := fun b xs h => by
    rcases h with ⟨ob, h⟩ | h
    · refine .inl ⟨ob, ?_⟩
      rw [upd_ne (ne_of h e (by rintro rfl; exact lo))]; exact h
    · exact .inr h
  pre := ⟨[], by simp⟩
  fr := fun b ob w h => by rw [upd_ne (ne_of h e (by rintro rfl; exact lo))]; exact h
  frame := fun b ob h n => ⟨by rw [upd_ne (by rintro rfl; exact n ha)]; exact h, n⟩
theorem HRep.upd {Hd : HD} (h : HRep K H ι Hd) {n : Nat} {a : Addr} (hn : ι[n]? = some a) {o u : HO} (e : H a = some o) (lo : Loose o) {ob : DO} (ho : ORep K (upd H a u) ι a ob) : HRep K (upd H a u) ι (Hd.set n ob) := by
  refine ⟨by simp [h.len], h.nd, fun m b oc h1 h2 => ?_⟩
  by_cases hm : n = m
  · subst hm
    rw [hn] at h1; cases h1
    rw [List.getElem?_set] at h2
    rw [if_pos rfl] at h2
    split at h2
    · cases h2; exact ho
    · cases h2
  · rw [List.getElem?_set_ne hm] at h2
    have hb : b ≠ a := fun z => by
      subst z
      have l1 := (List.getElem?_eq_some_iff.mp hn).1
      exact hm ((List.getElem?_inj l1 h.nd).mp (hn.trans h1.symm))
    exact (h.obj m b oc h1 h2).step (Le.upd (List.mem_of_getElem? hn) e lo u).toLw (upd_ne hb)
theorem HRep.add {Hd : HD} (h : HRep K H ι Hd) {p : Addr} (hp : p ∉ ι) {o : DO} (ho : ORep K H (ι ++ [p]) p o) : HRep K H (ι ++ [p]) (Hd ++ [o]) := by
  refine ⟨by simp [h.len], by simp only [List.nodup_append, h.nd, true_and]; exact ⟨by simp, fun a ha b hb e => hp (by simp at hb; rw [← hb, ← e]; exact ha)⟩, fun n a ob h1 h2 => ?_⟩
  by_cases hn : n < ι.length
  · rw [List.getElem?_append_left hn] at h1
    rw [List.getElem?_append_left (by rw [← h.len]; exact hn)] at h2
    exact (h.obj n a ob h1 h2).step ⟨fun _ _ z => z, fun _ _ z => z, ⟨[p], rfl⟩, fun _ _ _ z => z⟩ rfl
  · rw [List.getElem?_append_right (by omega)] at h1
    rw [List.getElem?_append_right (by rw [← h.len]; omega)] at h2
    rw [← h.len] at h2
    have : n - ι.length = 0 := by
      have := (List.getElem?_eq_some_iff.mp h1).1
      simp at this; omega
    rw [this] at h1 h2
    simp at h1 h2
    subst h1; subst h2
    exact ho
theorem Lw.side {p : Addr} {ys : List V} (hp : H p = some (.lst ys)) (u : HO) : Lw K H ι (L2.upd H p u) ι where
  tup := fun a xs h => by
    rcases h with (h | ⟨ob, h⟩) | h
    · refine .inl (.inl ?_)
      rw [upd_ne (ne_of h hp (by intro z; cases z))]; exact h
    · refine .inl (.inr ⟨ob, ?_⟩)
      rw [upd_ne (ne_of h hp (by intro z; cases z))]; exact h
    · exact .inr h
  fz := fun a xs h => by
    rcases h with ⟨ob, h⟩ | h
    · refine .inl ⟨ob, ?_⟩
      rw [upd_ne (ne_of h hp (by intro z; cases z))]; exact h
    · exact .inr h
  pre := ⟨[], by simp⟩
  fr := fun a ob w h => by rw [upd_ne (ne_of h hp (by intro z; cases z))]; exact h
theorem Lw.trans {H1 H2 : Hp} {ι1 ι2 : List Addr} (a : Lw K H ι H1 ι1) (b : Lw K H1 ι1 H2 ι2) : Lw K H ι H2 ι2 := by
  refine ⟨fun x xs h => b.tup x xs (a.tup x xs h), fun x xs h => b.fz x xs (a.fz x xs h), ?_, fun x o u h => b.fr x o u (a.fr x o u h)⟩
  obtain ⟨t, e⟩ := a.pre
  obtain ⟨u, e'⟩ := b.pre
  exact ⟨t ++ u, by rw [e', e, List.append_assoc]⟩
theorem Le.side {H1 : Hp} {ι1 : List Addr} {p : Addr} {ys : List V} (l : Le K H ι H1 ι1) (h0 : H p = none) (h1 : H1 p = some (.lst ys)) (u : HO) : Le K H ι (L2.upd H1 p u) ι1 :=
  ⟨l.toLw.trans (Lw.side h1 u), fun a o h n => by
    obtain ⟨q, m⟩ := l.frame a o h n
    exact ⟨by rw [upd_ne (ne_of_none h h0)]; exact q, m⟩⟩
structure SRep (K : PySem.W.Frag) (H : Hp) (ι : List Addr) (σ : L2.St) (σd : SD) : Prop where
  len : σ.length = σd.length
  var : ∀ (i : Nat) (d : D), σd[i]? = some (some d) → ∃ v, σ[i]? = some (some v) ∧ Rep K H ι d v
theorem SRep.mono {σ : L2.St} {σd : SD} (s : SRep K H ι σ σd) (l : Le K H ι H' ι') : SRep K H' ι' σ σd :=
  ⟨s.len, fun i d h => let ⟨v, h1, h2⟩ := s.var i d h; ⟨v, h1, h2.mono l⟩⟩
theorem SRep.set {σ : L2.St} {σd : SD} {d : D} {v : V} (s : SRep K H ι σ σd) (r : Rep K H ι d v) (i : Nat) : SRep K H ι (σ.set i (some v)) (σd.set i (some d)) := by
  refine ⟨by simp [s.len], fun j e h => ?_⟩
  by_cases hj : i = j
  · subst hj
    rw [List.getElem?_set] at h ⊢
    rw [if_pos rfl] at h ⊢
    split at h
    · rename_i hl
      rw [if_pos (by rw [s.len]; exact hl)]
      cases h
      exact ⟨v, rfl, r⟩
    · cases h
  · rw [List.getElem?_set_ne hj] at h ⊢
    exact s.var j e h
end
noncomputable def noStar : Expr → Bool
  | .Starred _ _ => false
  | _ => true
theorem star_cons {e : Expr} {es : List Expr} {env : Env} (h : noStar e = true) : starEach (e :: es) env = (false, eval e env) :: starEach es env := by
  cases e <;> first | rfl | cases h
theorem star_any {pos : Pos} {env : Env} : ∀ {es : List Expr}, es.all noStar = true → (backTo pos (starEach es env)).any (·.1) = false
  | [], _ => rfl
  | e :: es, h => by
    rw [List.all_cons, Bool.and_eq_true] at h
    rw [star_cons h.1]
    show (false || (backTo pos (starEach es env)).any (·.1)) = false
    rw [star_any h.2]
    rfl
theorem star_few {pos : Pos} {env : Env} {es : List Expr} (h : es.all noStar = true) (hl : es.length < 30) : ((backTo pos (starEach es env)).all (fun x => !x.1) && (backToKw pos (keywordEach [] env)).all (fun x => x.1.isSome)
      && decide (es.length + ([] : List Keyword).length + (if ([] : List Keyword).isEmpty then 0 else 1) < 30)) = true := by
  have h1 := star_any (pos := pos) (env := env) h
  have h2 : (backTo pos (starEach es env)).all (fun x => !x.1) = true := by
    rw [List.all_eq_true]
    intro x hx
    rw [List.any_eq_false] at h1
    have := h1 x hx
    simpa using this
  have h3 : decide (es.length + ([] : List Keyword).length + (if ([] : List Keyword).isEmpty then 0 else 1) < 30) = true := by
    rw [decide_eq_true_eq]
    simpa using hl
  rw [h2, h3]
  rfl
end DL
namespace DL
open PySem PySem.Spec PyProof.Rows L2
noncomputable abbrev EF := SD → HD → Option (D × HD)
noncomputable abbrev TF := SD → HD → Option (Bool × HD)
noncomputable abbrev AF := SD → HD → Option (List D × HD)
inductive FD where
  | nx | bk | ct | rt (d : D)
noncomputable abbrev SF := SD → HD → Option (FD × SD × HD)
noncomputable abbrev GF := D → SD → HD → Option (SD × HD)
noncomputable abbrev FF := List D → HD → Option (D × HD)
noncomputable abbrev F2 := D → D → HD → Option (D × HD)
noncomputable def QE (K : PySem.W.Frag) (H : Hp) (ι : List Addr) (d : D) (Hd' : HD) (Q : VK) : Prop := ∀ v H' ι', Le K H ι H' ι' → HRep K H' ι' Hd' → Rep K H' ι' d v → Q v H'
noncomputable def rdE (K : PySem.W.Frag) (f : EF) : TE := fun σ H Q => ∃ ι σd Hd d Hd', SRep K H ι σ σd ∧ HRep K H ι Hd ∧ f σd Hd = some (d, Hd') ∧ QE K H ι d Hd' Q
noncomputable def rdT (K : PySem.W.Frag) (f : TF) : TT := fun σ H Q => ∃ ι σd Hd b Hd', SRep K H ι σ σd ∧ HRep K H ι Hd ∧ f σd Hd = some (b, Hd') ∧ ∀ H' ι', Le K H ι H' ι' → HRep K H' ι' Hd' → Q b H'
noncomputable def rdA (K : PySem.W.Frag) (f : AF) : TA := fun σ H Q => ∃ ι σd Hd ds Hd', SRep K H ι σ σd ∧ HRep K H ι Hd ∧ f σd Hd = some (ds, Hd') ∧ ∀ vs H' ι', Le K H ι H' ι' → HRep K H' ι' Hd' → Paired (Rep K H' ι') ds vs → Q vs H'
noncomputable def QS (K : PySem.W.Frag) (H : Hp) (ι : List Addr) (fl : FD) (σd' : SD) (Hd' : HD) (E : Ends) : Prop := ∀ σ' H' ι', Le K H ι H' ι' → HRep K H' ι' Hd' → SRep K H' ι' σ' σd' →
  match fl with
  | .nx => E.nx σ' H'
  | .bk => E.bk σ' H'
  | .ct => E.ct σ' H'
  | .rt d => ∀ v, Rep K H' ι' d v → E.rt v H'
noncomputable def rdS (K : PySem.W.Frag) (f : SF) : TS := fun E σ H => ∃ ι σd Hd fl σd' Hd', SRep K H ι σ σd ∧ HRep K H ι Hd ∧ f σd Hd = some (fl, σd', Hd') ∧ QS K H ι fl σd' Hd' E
noncomputable def rdG (K : PySem.W.Frag) (g : GF) : TG := fun v σ H Q => ∃ ι σd Hd d σd' Hd', SRep K H ι σ σd ∧ HRep K H ι Hd ∧ Rep K H ι d v ∧ g d σd Hd = some (σd', Hd') ∧
  ∀ σ' H' ι', Le K H ι H' ι' → HRep K H' ι' Hd' → SRep K H' ι' σ' σd' → Q σ' H'
noncomputable def rd2 (K : PySem.W.Frag) (g : F2) : R2 := fun x y H Q => ∃ ι dx dy Hd d Hd', HRep K H ι Hd ∧ Rep K H ι dx x ∧ Rep K H ι dy y ∧ g dx dy Hd = some (d, Hd') ∧ QE K H ι d Hd' Q
noncomputable def rd1 (K : PySem.W.Frag) (g : D → HD → Option (D × HD)) : V → Hp → VK → Prop := fun x H Q => ∃ ι dx Hd d Hd', HRep K H ι Hd ∧ Rep K H ι dx x ∧ g dx Hd = some (d, Hd') ∧ QE K H ι d Hd' Q
noncomputable def rdC (K : PySem.W.Frag) (g : FF) : List V → Hp → VK → Prop := fun vs H Q => ∃ ι ds Hd d Hd', HRep K H ι Hd ∧ Paired (Rep K H ι) ds vs ∧ g ds Hd = some (d, Hd') ∧ QE K H ι d Hd' Q
noncomputable def rdM (K : PySem.W.Frag) (g : D → List D → HD → Option (D × HD)) : V → List V → Hp → VK → Prop := fun v vs H Q => ∃ ι x ds Hd d Hd', HRep K H ι Hd ∧ Rep K H ι x v ∧ Paired (Rep K H ι) ds vs ∧ g x ds Hd = some (d, Hd') ∧ QE K H ι d Hd' Q
noncomputable def PEf (X : Cx) (e : Expr) (f : EF) : Prop := PE X e (rdE X.K f)
noncomputable def PTf (X : Cx) (e : Expr) (f : TF) : Prop := PT X e (rdT X.K f)
noncomputable def PWf (X : Cx) (e : Expr) (f : TF) : Prop := PW X e (rdT X.K f)
noncomputable def PAf (X : Cx) (es : List Expr) (f : AF) : Prop := PA X es (rdA X.K f)
noncomputable def PSf (X : Cx) (st : Stmt) (f : SF) : Prop := PS X st (rdS X.K f)
noncomputable def PSsf (X : Cx) (st : List Stmt) (f : SF) : Prop := PSs X st (rdS X.K f)
noncomputable def PGf (X : Cx) (tg : Expr) (g : GF) : Prop := PG X tg (rdG X.K g)
noncomputable def OpF (X : Cx) (f : Value → Value → Sem Value) (g : F2) : Prop := OpR X f (rd2 X.K g)
noncomputable def UnF (X : Cx) (f : Value → Sem Value) (g : D → HD → Option (D × HD)) : Prop := UnR X f (rd1 X.K g)
noncomputable def CallF (X : Cx) (f : Value) (g : FF) : Prop := CallR X f (rdC X.K g)
noncomputable def IxF (X : Cx) (g : F2) : Prop := IxR X (rd2 X.K g)
noncomputable def MtF (X : Cx) (id : String) (g : D → List D → HD → Option (D × HD)) : Prop := MtR X id (rdM X.K g)
section
variable {X : Cx} {e a b c : Expr} {es : List Expr} {pos : Pos} {st : Stmt} {sts : List Stmt}
theorem PEi {t t' : TE} (h : PE X e t) (i : ∀ σ H Q, t' σ H Q → t σ H Q) : PE X e t' := fun pins s σ H Q I q => h pins s σ H Q I (i σ H Q q)
theorem PTi {t t' : TT} (h : PT X e t) (i : ∀ σ H Q, t' σ H Q → t σ H Q) : PT X e t' := fun pins s σ H Q I q => h pins s σ H Q I (i σ H Q q)
theorem PWi {t t' : TT} (h : PW X e t) (i : ∀ σ H Q, t' σ H Q → t σ H Q) : PW X e t' := fun wh pins s σ H Q I q => h wh pins s σ H Q I (i σ H Q q)
theorem PAi {t t' : TA} (h : PA X es t) (i : ∀ σ H Q, t' σ H Q → t σ H Q) : PA X es t' := fun ps pins s σ H Q I q => h ps pins s σ H Q I (i σ H Q q)
theorem PSi {t t' : TS} (h : PS X st t) (i : ∀ E σ H, t' E σ H → t E σ H) : PS X st t' := fun pins s σ H E I q => h pins s σ H E I (i E σ H q)
theorem PSsi {t t' : TS} (h : PSs X sts t) (i : ∀ E σ H, t' E σ H → t E σ H) : PSs X sts t' := fun pins s σ H E I q => h pins s σ H E I (i E σ H q)
theorem PGi {t t' : TG} (h : PG X e t) (i : ∀ v σ H Q, t' v σ H Q → t v σ H Q) : PG X e t' := fun pins s σ H v u Q I r q => h pins s σ H v u Q I r (i v σ H Q q)
theorem OpRi {f : Value → Value → Sem Value} {t t' : R2} (h : OpR X f t) (i : ∀ x y H Q, t' x y H Q → t x y H Q) : OpR X f t' := fun pins s σ H x y v u Q I r1 r2 q => h pins s σ H x y v u Q I r1 r2 (i x y H Q q)
noncomputable def eVar (i : Nat) : EF := fun σ H => (σ[i]?).join.map fun d => (d, H)
noncomputable def eC (d : D) : EF := fun _ H => some (d, H)
theorem pef_var {i : Nat} {x : Str} (h : PE X (.Name x pos) (tVar i)) : PEf X (.Name x pos) (eVar i) := by
  refine PEi h fun σ H Q zz => ?_
  obtain ⟨ι, σd, Hd, d, Hd', s, hr, e, q⟩ := zz
  unfold eVar at e
  cases hx : σd[i]? with
  | none => rw [hx] at e; cases e
  | some o =>
    cases o with
    | none => rw [hx] at e; cases e
    | some d0 =>
      rw [hx] at e
      have e' : (d0, Hd) = (d, Hd') := Option.some.inj e
      obtain ⟨rfl, rfl⟩ := Prod.mk.inj e'
      obtain ⟨v, h1, h2⟩ := s.var i d0 hx
      exact ⟨v, h1, q v H ι Le.refl hr h2⟩
theorem pef_C {v : V} {d : D} (h : PE X e (tC v)) (r : ∀ H ι, Rep X.K H ι d v) : PEf X e (eC d) := by
  refine PEi h fun σ H Q zz => ?_
  obtain ⟨ι, σd, Hd, d', Hd', s, hr, e, q⟩ := zz
  cases e
  exact q v H ι Le.refl hr (r H ι)
theorem pef_int {i j} : PEf X (.Constant (.int i) j pos) (eC (.int i)) := pef_C pe_int fun _ _ => by simp
theorem pef_bl {b j} : PEf X (.Constant (.bool b) j pos) (eC (.bl b)) := pef_C pe_bl fun _ _ => by simp
theorem pef_non {j} : PEf X (.Constant .none j pos) (eC .non) := pef_C pe_non fun _ _ => by simp
theorem pef_str {x j} : PEf X (.Constant (.str x) j pos) (eC (.str x)) := pef_C pe_str fun _ _ => by simp
theorem pef_ty {x : Str} {n : String} (hg : Gl X x) (hm : X.mg x = none) (hv : bootBuiltins x = some (.type n)) (hn : x ≠ "__name__" := by decide) (hd : (x == ("__debug__" : Str)) = false := by decide) : PEf X (.Name x pos) (eC (.ty n)) :=
  pef_C (pe_bltn (v := .ty n) hg hm hv rfl hn hd) fun _ _ => by simp
noncomputable def eOp (g : F2) (fa fb : EF) : EF := fun σ H => (fa σ H).bind fun p => (fb σ p.2).bind fun q => g p.1 q.1 q.2
theorem rd_op {fa fb : EF} {g : F2} {σ : L2.St} {H : Hp} {Q : VK} {K : PySem.W.Frag} (h : rdE K (eOp g fa fb) σ H Q) : tOp (rd2 K g) (rdE K fa) (rdE K fb) σ H Q := by
  obtain ⟨ι, σd, Hd, d, Hd', s, hr, e, q⟩ := h
  obtain ⟨⟨x, H1⟩, e1, e⟩ := Option.bind_eq_some_iff.mp e
  obtain ⟨⟨y, H2⟩, e2, e⟩ := Option.bind_eq_some_iff.mp e
  exact ⟨ι, σd, Hd, x, H1, s, hr, e1, fun v1 H1' ι1 l1 h1 r1 => ⟨ι1, σd, H1, y, H2, s.mono l1, h1, e2, fun v2 H2' ι2 l2 h2 r2 =>
    ⟨ι2, x, y, H2, d, Hd', h2, r1.mono l2, r2, e, fun v H' ι' l h r => q v H' ι' ((l1.trans l2).trans l) h r⟩⟩⟩
theorem pef_op {op : Operator} {g : F2} {fa fb : EF} (ho : OpF X (binaryOp op) g) (ha : PEf X a fa) (hb : PEf X b fb) : PEf X (.BinOp a op b pos) (eOp g fa fb) :=
  PEi (pe_op ho ha hb) fun _ _ _ h => rd_op h
theorem pef_cmp {op : CmpOp} {g : F2} {fa fb : EF} (ho : OpF X (compareOp op) g) (ha : PEf X a fa) (hb : PEf X b fb) (hm : behindInMarks op b = false) : PEf X (.Compare a [op] [b] pos) (eOp g fa fb) :=
  PEi (pe_cmpR ho ha hb hm) fun _ _ _ h => rd_op h
theorem pef_ix {g : F2} {fa fb : EF} (ho : IxF X g) (ha : PEf X a fa) (hb : PEf X b fb) (hs : PlainIx b) : PEf X (.Subscript a b pos) (eOp g fa fb) :=
  PEi (pe_ix ho ha hb hs) fun _ _ _ h => rd_op h
noncomputable def eUn (g : D → HD → Option (D × HD)) (fa : EF) : EF := fun σ H => (fa σ H).bind fun p => g p.1 p.2
theorem pef_un {op : UnaryOp} {g : D → HD → Option (D × HD)} {fa : EF} (ho : UnF X (unaryOp op) g) (ha : PEf X a fa) : PEf X (.UnaryOp op a pos) (eUn g fa) := by
  refine PEi (pe_un ho ha) fun σ H Q zz => ?_
  obtain ⟨ι, σd, Hd, d, Hd', s, hr, e, q⟩ := zz
  obtain ⟨⟨x, H1⟩, e1, e⟩ := Option.bind_eq_some_iff.mp e
  exact ⟨ι, σd, Hd, x, H1, s, hr, e1, fun v1 H1' ι1 l1 h1 r1 => ⟨ι1, x, H1, d, Hd', h1, r1, e, fun v H' ι' l h r => q v H' ι' (l1.trans l) h r⟩⟩
noncomputable def blD : D → Option Bool
  | .bl b => some b
  | _ => none
noncomputable def tOf (f : EF) : TF := fun σ H => (f σ H).bind fun p => (blD p.1).map fun b => (b, p.2)
theorem rep_blD {K : PySem.W.Frag} {H : Hp} {ι : List Addr} {d : D} {b : Bool} {v : V} (e : blD d = some b) (r : Rep K H ι d v) : v = .bl b := by
  cases d <;> simp [blD] at e
  subst e
  simpa using r
theorem ptf_cmp {op : CmpOp} {g : F2} {fa fb : EF} (ho : OpF X (compareOp op) g) (ha : PEf X a fa) (hb : PEf X b fb) (hm : behindInMarks op b = false) : PTf X (.Compare a [op] [b] pos) (tOf (eOp g fa fb)) := by
  refine PTi (pt_cmpR ho ha hb hm) fun σ H Q zz => ?_
  obtain ⟨ι, σd, Hd, bb, Hd', s, hr, e, q⟩ := zz
  obtain ⟨⟨x, H1⟩, e1, e⟩ := Option.bind_eq_some_iff.mp e
  obtain ⟨b', eb, e⟩ := Option.map_eq_some_iff.mp e
  cases e
  exact rd_op ⟨ι, σd, Hd, x, H1, s, hr, e1, fun v H' ι' l h r => ⟨bb, rep_blD eb r, q H' ι' l h⟩⟩
noncomputable def truD : D → HD → Option Bool
  | .non, _ => some false
  | .bl b, _ => some b
  | .int i, _ => some (i != 0)
  | .tup xs, _ => some (!xs.isEmpty)
  | .fl xs, _ => some (!xs.isEmpty)
  | .str x, _ => if x.length ≤ sizeLine then some ((x.length : Int) != 0) else none
  | .ref n, H => match H[n]? with
    | some (.lst xs) => some (!xs.isEmpty)
    | _ => none
  | _, _ => none
theorem prd_empty {α β : Type} {F : α → β → Prop} {xs : List α} {us : List β} (r : Paired F xs us) : (!us.isEmpty) = !xs.isEmpty := by cases r <;> rfl
theorem truV_of {K : PySem.W.Frag} {H : Hp} {ι : List Addr} {Hd : HD} {d : D} {k : Bool} {v : V} (hr : HRep K H ι Hd) (r : Rep K H ι d v) (e : truD d Hd = some k) : TruV K v H k := by
  cases d with
  | non => simp at r; subst r; simp [truD] at e; subst e; exact rfl
  | bl b => simp at r; subst r; simp [truD] at e; subst e; exact rfl
  | int i => simp at r; subst r; simp [truD] at e; subst e; exact rfl
  | ty n => simp [truD] at e
  | str x =>
    simp at r; subst r
    simp only [truD] at e
    split at e
    · rename_i hl
      cases e
      exact ⟨hl, rfl⟩
    · cases e
  | tup xs =>
    obtain ⟨ad, vs, rfl, h, p⟩ := rep_tup.mp r
    cases (show some (!xs.isEmpty) = some k from e)
    exact .inr (.inl ⟨vs, h, by rw [prd_empty p]⟩)
  | fl xs =>
    obtain ⟨ad, vs, rfl, h, p⟩ := rep_fl.mp r
    cases (show some (!xs.isEmpty) = some k from e)
    exact .inl ⟨vs, h.sq, by rw [prd_empty p]⟩
  | ref n =>
    obtain ⟨ad, rfl, h⟩ := rep_ref.mp r
    simp only [truD] at e
    split at e
    · rename_i xs ho
      cases e
      obtain ⟨vs, h1, p⟩ := hr.obj n ad _ h ho
      exact .inl ⟨vs, SqL.of h1, by rw [prd_empty p]⟩
    · cases e
noncomputable def tTru (f : EF) : TF := fun σ H => (f σ H).bind fun p => (truD p.1 p.2).map fun b => (b, p.2)
theorem ptf_truth {fa : EF} (ha : PEf X a fa) (he : ∀ whole, isTrue a X.env whole = (do let v ← whole; standAt a.pos; holding [v] (truthy v))) : PTf X a (tTru fa) := by
  refine PTi (pt_truth ha he) fun σ H Q zz => ?_
  obtain ⟨ι, σd, Hd, bb, Hd', s, hr, e, q⟩ := zz
  obtain ⟨⟨x, H1⟩, e1, e⟩ := Option.bind_eq_some_iff.mp e
  obtain ⟨b', eb, e⟩ := Option.map_eq_some_iff.mp e
  cases e
  exact ⟨ι, σd, Hd, x, H1, s, hr, e1, fun v H' ι' l h r => ⟨bb, truV_of h r eb, q H' ι' l h⟩⟩
noncomputable def tNo (t : TF) : TF := fun σ H => (t σ H).map fun p => (!p.1, p.2)
noncomputable def tAn (t u : TF) : TF := fun σ H => (t σ H).bind fun p => if p.1 = true then u σ p.2 else some (false, p.2)
noncomputable def tOrr (t u : TF) : TF := fun σ H => (t σ H).bind fun p => if p.1 = true then some (true, p.2) else u σ p.2
theorem ptf_not {t : TF} (h : PTf X a t) : PTf X (.UnaryOp .Not a pos) (tNo t) := by
  refine PTi (pt_not h) fun σ H Q zz => ?_
  obtain ⟨ι, σd, Hd, bb, Hd', s, hr, e, q⟩ := zz
  obtain ⟨⟨x, H1⟩, e1, e⟩ := Option.map_eq_some_iff.mp e
  cases e
  exact ⟨ι, σd, Hd, x, H1, s, hr, e1, fun H' ι' l h => q H' ι' l h⟩
theorem pwf_and1 {t : TF} (h : PTf X a t) : PWf X (.BoolOp .And [a] pos) t := pw_and1 h
theorem pwf_or1 {t : TF} (h : PTf X a t) : PWf X (.BoolOp .Or [a] pos) t := pw_or1 h
theorem pwf_and {t u : TF} (h : PTf X a t) (h2 : PWf X (.BoolOp .And (b :: es) pos) u) : PWf X (.BoolOp .And (a :: b :: es) pos) (tAn t u) := by
  refine PWi (pw_and h h2) fun σ H Q zz => ?_
  obtain ⟨ι, σd, Hd, bb, Hd', s, hr, e, q⟩ := zz
  obtain ⟨⟨x, H1⟩, e1, e⟩ := Option.bind_eq_some_iff.mp e
  refine ⟨ι, σd, Hd, x, H1, s, hr, e1, fun H' ι' l h => ?_⟩
  cases x with
  | true =>
    rw [if_pos rfl]
    exact ⟨ι', σd, H1, bb, Hd', s.mono l, h, by simpa using e, fun H2 ι2 l2 h2 => q H2 ι2 (l.trans l2) h2⟩
  | false =>
    rw [if_neg (by simp)]
    simp at e
    obtain ⟨rfl, rfl⟩ := e
    exact q H' ι' l h
theorem pwf_or {t u : TF} (h : PTf X a t) (h2 : PWf X (.BoolOp .Or (b :: es) pos) u) : PWf X (.BoolOp .Or (a :: b :: es) pos) (tOrr t u) := by
  refine PWi (pw_or h h2) fun σ H Q zz => ?_
  obtain ⟨ι, σd, Hd, bb, Hd', s, hr, e, q⟩ := zz
  obtain ⟨⟨x, H1⟩, e1, e⟩ := Option.bind_eq_some_iff.mp e
  refine ⟨ι, σd, Hd, x, H1, s, hr, e1, fun H' ι' l h => ?_⟩
  cases x with
  | true =>
    rw [if_pos rfl]
    simp at e
    obtain ⟨rfl, rfl⟩ := e
    exact q H' ι' l h
  | false =>
    rw [if_neg (by simp)]
    exact ⟨ι', σd, H1, bb, Hd', s.mono l, h, by simpa using e, fun H2 ι2 l2 h2 => q H2 ι2 (l.trans l2) h2⟩
theorem PWf.pt {t : TF} (h : PWf X a t) : PTf X a t := h _
noncomputable def eNo (f : EF) : EF := fun σ H => (f σ H).bind fun p => (blD p.1).map fun b => (.bl (!b), p.2)
noncomputable def eAn (f g : EF) : EF := fun σ H => (f σ H).bind fun p => (blD p.1).bind fun b => if b = true then g σ p.2 else some (.bl false, p.2)
noncomputable def eOrr (f g : EF) : EF := fun σ H => (f σ H).bind fun p => (blD p.1).bind fun b => if b = true then some (.bl true, p.2) else g σ p.2
noncomputable def eIf (t : TF) (f g : EF) : EF := fun σ H => (t σ H).bind fun p => if p.1 = true then f σ p.2 else g σ p.2
theorem pef_not {f : EF} (h : PEf X a f) : PEf X (.UnaryOp .Not a pos) (eNo f) := by
  refine PEi (pe_not h) fun σ H Q zz => ?_
  obtain ⟨ι, σd, Hd, d, Hd', s, hr, e, q⟩ := zz
  obtain ⟨⟨x, H1⟩, e1, e⟩ := Option.bind_eq_some_iff.mp e
  obtain ⟨b', eb, e⟩ := Option.map_eq_some_iff.mp e
  cases e
  exact ⟨ι, σd, Hd, x, H1, s, hr, e1, fun v H' ι' l h r => ⟨b', rep_blD eb r, q _ H' ι' l h (by simp)⟩⟩
theorem pef_one {op} {f : EF} (h : PEf X a f) : PEf X (.BoolOp op [a] pos) f := pe_one h
theorem pef_and {f g : EF} (h : PEf X a f) (h2 : PEf X (.BoolOp .And (b :: es) pos) g) : PEf X (.BoolOp .And (a :: b :: es) pos) (eAn f g) := by
  refine PEi (pe_and h h2) fun σ H Q zz => ?_
  obtain ⟨ι, σd, Hd, d, Hd', s, hr, e, q⟩ := zz
  obtain ⟨⟨x, H1⟩, e1, e⟩ := Option.bind_eq_some_iff.mp e
  obtain ⟨b', eb, e⟩ := Option.bind_eq_some_iff.mp e
  refine ⟨ι, σd, Hd, x, H1, s, hr, e1, fun v H' ι' l h r => ⟨b', rep_blD eb r, ?_⟩⟩
  cases b' with
  | true =>
    rw [if_pos rfl]
    exact ⟨ι', σd, H1, d, Hd', s.mono l, h, by simpa using e, fun v2 H2 ι2 l2 h2 r2 => q v2 H2 ι2 (l.trans l2) h2 r2⟩
  | false =>
    rw [if_neg (by simp)]
    simp at e
    obtain ⟨rfl, rfl⟩ := e
    exact q _ H' ι' l h (by simp)
theorem pef_if {t : TF} {f g : EF} (hc : PTf X c t) (ha : PEf X a f) (hb : PEf X b g) : PEf X (.IfExp c a b pos) (eIf t f g) := by
  refine PEi (pe_ifExp hc ha hb) fun σ H Q zz => ?_
  obtain ⟨ι, σd, Hd, d, Hd', s, hr, e, q⟩ := zz
  obtain ⟨⟨x, H1⟩, e1, e⟩ := Option.bind_eq_some_iff.mp e
  refine ⟨ι, σd, Hd, x, H1, s, hr, e1, fun H' ι' l h => ?_⟩
  cases x with
  | true =>
    rw [if_pos rfl]
    exact ⟨ι', σd, H1, d, Hd', s.mono l, h, by simpa using e, fun v2 H2 ι2 l2 h2 r2 => q v2 H2 ι2 (l.trans l2) h2 r2⟩
  | false =>
    rw [if_neg (by simp)]
    exact ⟨ι', σd, H1, d, Hd', s.mono l, h, by simpa using e, fun v2 H2 ι2 l2 h2 r2 => q v2 H2 ι2 (l.trans l2) h2 r2⟩
noncomputable def aNil : AF := fun _ H => some ([], H)
noncomputable def aCons (f : EF) (g : AF) : AF := fun σ H => (f σ H).bind fun p => (g σ p.2).map fun q => (p.1 :: q.1, q.2)
theorem paf_nil : PAf X [] aNil := by
  refine PAi pa_nil fun σ H Q zz => ?_
  obtain ⟨ι, σd, Hd, d, Hd', s, hr, e, q⟩ := zz
  cases e
  exact q [] H ι Le.refl hr .nil
theorem paf_cons {f : EF} {g : AF} (ha : PEf X e f) (hr : PAf X es g) (hs : starEach (e :: es) X.env = (false, eval e X.env) :: starEach es X.env := by exact star_cons rfl) : PAf X (e :: es) (aCons f g) := by
  refine PAi (pa_cons ha hr hs) fun σ H Q zz => ?_
  obtain ⟨ι, σd, Hd, d, Hd', s, hr, e, q⟩ := zz
  obtain ⟨⟨x, H1⟩, e1, e⟩ := Option.bind_eq_some_iff.mp e
  obtain ⟨⟨y, H2⟩, e2, e⟩ := Option.map_eq_some_iff.mp e
  cases e
  exact ⟨ι, σd, Hd, x, H1, s, hr, e1, fun v1 H1' ι1 l1 h1 r1 => ⟨ι1, σd, H1, y, H2, s.mono l1, h1, e2, fun vs H2' ι2 l2 h2 r2 => q _ H2' ι2 (l1.trans l2) h2 (.cons (r1.mono l2) r2)⟩⟩
noncomputable def mkT (xs : List D) (H : HD) : Option (D × HD) := if xs.length ≤ sizeLine then some (.tup xs, H) else none
noncomputable def mkL (xs : List D) (H : HD) : Option (D × HD) := if xs.length ≤ sizeLine then some (.ref H.length, H ++ [.lst xs]) else none
theorem mkT_some {xs : List D} {H : HD} {r : D × HD} (h : mkT xs H = some r) : xs.length ≤ sizeLine ∧ r = (.tup xs, H) := by
  unfold mkT at h
  split at h
  · rename_i hl; cases h; exact ⟨hl, rfl⟩
  · cases h
theorem mkL_some {xs : List D} {H : HD} {r : D × HD} (h : mkL xs H = some r) : xs.length ≤ sizeLine ∧ r = (.ref H.length, H ++ [.lst xs]) := by
  unfold mkL at h
  split at h
  · rename_i hl; cases h; exact ⟨hl, rfl⟩
  · cases h
theorem new_tup {K : PySem.W.Frag} {H : Hp} {ι : List Addr} {Hd Hd' : HD} {xs : List D} {vs : List V} {d : D} {Q : VK} (hr : HRep K H ι Hd) (r : Paired (Rep K H ι) xs vs) (e : mkT xs Hd = some (d, Hd')) (q : QE K H ι d Hd' Q) :
    vs.length ≤ sizeLine ∧ ∀ p, H p = none → Q (.ref p) (upd H p (.tup vs)) := by
  obtain ⟨hl, e⟩ := mkT_some e
  cases e
  refine ⟨by rw [← Prd.len r]; exact hl, fun p hp => ?_⟩
  exact q _ _ ι (Le.fresh hp _) (hr.tup hp _) (rep_tup.mpr ⟨p, vs, rfl, SqT.of upd_same, Prd.mono (Le.fresh hp _) r⟩)
theorem new_lst {K : PySem.W.Frag} {H : Hp} {ι : List Addr} {Hd Hd' : HD} {xs : List D} {vs : List V} {d : D} {Q : VK} (hr : HRep K H ι Hd) (r : Paired (Rep K H ι) xs vs) (e : mkL xs Hd = some (d, Hd')) (q : QE K H ι d Hd' Q) :
    vs.length ≤ sizeLine ∧ ∀ p, H p = none → Q (.ref p) (upd H p (.lst vs)) := by
  obtain ⟨hl, e⟩ := mkL_some e
  cases e
  refine ⟨by rw [← Prd.len r]; exact hl, fun p hp => ?_⟩
  refine q _ _ (ι ++ [p]) (Le.fresh1 hp _) (hr.new hp ⟨vs, upd_same, Prd.mono (Le.fresh1 hp _) r⟩) (rep_ref.mpr ⟨p, rfl, ?_⟩)
  rw [← hr.len]; simp
noncomputable def eTup (f : AF) : EF := fun σ H => (f σ H).bind fun p => mkT p.1 p.2
noncomputable def eLst (f : AF) : EF := fun σ H => (f σ H).bind fun p => mkL p.1 p.2
theorem pef_tup {f : AF} {x1} (h : PAf X es f) : PEf X (.Tuple es x1 pos) (eTup f) := by
  refine PEi (pe_tup h) fun σ H Q zz => ?_
  obtain ⟨ι, σd, Hd, d, Hd', s, hr, e, q⟩ := zz
  obtain ⟨⟨x, H1⟩, e1, e⟩ := Option.bind_eq_some_iff.mp e
  exact ⟨ι, σd, Hd, x, H1, s, hr, e1, fun vs H' ι' l h r => new_tup h r e fun v2 H2 ι2 l2 h2 r2 => q v2 H2 ι2 (l.trans l2) h2 r2⟩
theorem pef_lst {f : AF} (h : PAf X es f) : PEf X (.List es pos) (eLst f) := by
  refine PEi (pe_lst h) fun σ H Q zz => ?_
  obtain ⟨ι, σd, Hd, d, Hd', s, hr, e, q⟩ := zz
  obtain ⟨⟨x, H1⟩, e1, e⟩ := Option.bind_eq_some_iff.mp e
  exact ⟨ι, σd, Hd, x, H1, s, hr, e1, fun vs H' ι' l h r => new_lst h r e fun v2 H2 ι2 l2 h2 r2 => q v2 H2 ι2 (l.trans l2) h2 r2⟩
noncomputable def eCB (g : FF) (f : AF) : EF := fun σ H => (f σ H).bind fun p => g p.1 p.2
theorem rd_cb {f : AF} {g : FF} {σ : L2.St} {H : Hp} {Q : VK} {K : PySem.W.Frag} (h : rdE K (eCB g f) σ H Q) : tCB (rdC K g) (rdA K f) σ H Q := by
  obtain ⟨ι, σd, Hd, d, Hd', s, hr, e, q⟩ := h
  obtain ⟨⟨x, H1⟩, e1, e⟩ := Option.bind_eq_some_iff.mp e
  exact ⟨ι, σd, Hd, x, H1, s, hr, e1, fun vs H' ι' l h r => ⟨ι', x, H1, d, Hd', h, r, e, fun v2 H2 ι2 l2 h2 r2 => q v2 H2 ι2 (l.trans l2) h2 r2⟩⟩
theorem pef_callB {x : Str} {id : String} {g : FF} {f : AF} {p : Pos} (hc : CallF X (.builtin id) g) (hg : Gl X x) (hm : X.mg x = none) (hv : bootBuiltins x = some (.builtin id)) (ha : PAf X (e :: es) f) (hn : x ≠ "__name__" := by decide) (hdb : (x == ("__debug__" : Str)) = false := by decide)
    (he : starEach (e :: es) X.env = (false, eval e X.env) :: starEach es X.env := by exact star_cons rfl) (hpl : (backTo pos (starEach es X.env)).any (·.1) = false := by exact star_any rfl) : PEf X (.Call (.Name x p) (e :: es) [] pos) (eCB g f) :=
  PEi (pe_callB hc hg hm hv ha hn hdb he hpl) fun _ _ _ h => rd_cb h
theorem pef_callTy {x : Str} {T : String} {g : FF} {f : AF} {p : Pos} (hc : CallF X (.type T) g) (hg : Gl X x) (hm : X.mg x = none) (hv : bootBuiltins x = some (.type T)) (ha : PAf X (e :: es) f) (hn : x ≠ "__name__" := by decide) (hdb : (x == ("__debug__" : Str)) = false := by decide)
    (he : starEach (e :: es) X.env = (false, eval e X.env) :: starEach es X.env := by exact star_cons rfl) (hpl : (backTo pos (starEach es X.env)).any (·.1) = false := by exact star_any rfl) : PEf X (.Call (.Name x p) (e :: es) [] pos) (eCB g f) :=
  PEi (pe_callTy hc hg hm hv ha hn hdb he hpl) fun _ _ _ h => rd_cb h
noncomputable def spF (K : PySem.W.Frag) (n : Nat) (F : FF) : Sp := fun vs H Q _ => ∃ ι ds Hd d Hd', ds.length = n ∧ HRep K H ι Hd ∧ Paired (Rep K H ι) ds vs ∧ F ds Hd = some (d, Hd') ∧ QE K H ι d Hd' Q
noncomputable def eCall (n : Nat) (F : FF) (f : AF) : EF := fun σ H => (f σ H).bind fun p => if p.1.length = n then F p.1 p.2 else none
theorem pef_call {k n : Nat} {f : Addr} {fd : FuncData} {ps : List Str} {x : Str} {p : Pos} {F : FF} {fa : AF} (G : FnOk X.prog X.w X.K X.mg X.base CX0 k f fd ps (spF X.K n F)) (hr : Room k X.A) (hg : Gl X x) (hm : X.mg x = some (.ref f)) (hk : PySem.W.keepIn X.K (.ref f) = true)
    (hb : Binds X.K fd ps []) (ha : PAf X (e :: es) fa) (hdb : (x == ("__debug__" : Str)) = false := by decide) (he : starEach (e :: es) X.env = (false, eval e X.env) :: starEach es X.env := by exact star_cons rfl) (hpl : (backTo pos (starEach es X.env)).any (·.1) = false := by exact star_any rfl) :
    PEf X (.Call (.Name x p) (e :: es) [] pos) (eCall n F fa) := by
  refine PEi (pe_call (E := E0) G hr hg hm hk hb .nil pass0 ha hdb he hpl) fun σ H Q zz => ?_
  obtain ⟨ι, σd, Hd, d, Hd', s, hr, e, q⟩ := zz
  obtain ⟨⟨x, H1⟩, e1, e⟩ := Option.bind_eq_some_iff.mp e
  refine ⟨ι, σd, Hd, x, H1, s, hr, e1, fun vs H' ι' l h r => ?_⟩
  dsimp only at e
  split at e
  · rename_i hl
    exact ⟨ι', x, H1, d, Hd', hl, h, by simpa using r, e, fun v2 H2 ι2 l2 h2 r2 => q v2 H2 ι2 (l.trans l2) h2 r2⟩
  · cases e
noncomputable def isLst : D → HD → Bool
  | .ref n, H => match H[n]? with
    | some (.lst _) => true
    | _ => false
  | _, _ => false
theorem isLst_ty {K : PySem.W.Frag} {H : Hp} {ι : List Addr} {Hd : HD} {d : D} {v : V} (hr : HRep K H ι Hd) (r : Rep K H ι d v) (e : isLst d Hd = true) : tyV K "list" v H := by
  cases d with
  | ref n =>
    obtain ⟨ad, rfl, h⟩ := rep_ref.mp r
    simp only [isLst] at e
    split at e
    · rename_i xs ho
      obtain ⟨vs, h1, p⟩ := hr.obj n ad _ h ho
      exact .inl ⟨rfl, vs, SqL.of h1⟩
    · cases e
  | _ => simp [isLst] at e
noncomputable def eLM (g : D → List D → HD → Option (D × HD)) (fo : EF) (f : AF) : EF := fun σ H => (fo σ H).bind fun o => if isLst o.1 o.2 = true then (f σ o.2).bind fun p => g o.1 p.1 p.2 else none
theorem pef_lm {o : Expr} {name : Str} {apos cpos : Pos} {id : String} {g : D → List D → HD → Option (D × HD)} {fo : EF} {f : AF} (slot : Slot "list" name id) (hty : typeOf (.builtin id) = pure (.type "method_descriptor")) (hm : MtF X id g) (ho : PEf X o fo) (ha : PAf X (e :: es) f)
    (hbase : attributeBase o name X.env (eval o X.env) = eval o X.env := by rfl)
    (hfew : ((backTo cpos (starEach (e :: es) X.env)).all (fun x => !x.1) && (backToKw cpos (keywordEach [] X.env)).all (fun x => x.1.isSome)
      && decide ((e :: es).length + ([] : List Keyword).length + (if ([] : List Keyword).isEmpty then 0 else 1) < 30)) = true := by exact star_few rfl (by decide))
    (hline : (apos.endLine == cpos.line) = true := by rfl) (hs : starEach (e :: es) X.env = (false, eval e X.env) :: starEach es X.env := by exact star_cons rfl) (hplain : (backTo cpos (starEach es X.env)).any (·.1) = false := by exact star_any rfl) :
    PEf X (.Call (.Attribute o name apos) (e :: es) [] cpos) (eLM g fo f) := by
  refine PEi (pe_bm PySem.F.plainAttrs_list slot hty hm ho ha hbase hfew hline hs hplain) fun σ H Q zz => ?_
  obtain ⟨ι, σd, Hd, d, Hd', s, hr, e, q⟩ := zz
  obtain ⟨⟨x, H1⟩, e1, e⟩ := Option.bind_eq_some_iff.mp e
  dsimp only at e
  split at e
  · rename_i hl
    obtain ⟨⟨y, H2⟩, e2, e⟩ := Option.bind_eq_some_iff.mp e
    exact ⟨ι, σd, Hd, x, H1, s, hr, e1, fun v1 H1' ι1 l1 h1 r1 => ⟨isLst_ty h1 r1 hl, ι1, σd, H1, y, H2, s.mono l1, h1, e2, fun vs H2' ι2 l2 h2 r2 =>
      ⟨ι2, x, y, H2, d, Hd', h2, r1.mono l2, r2, e, fun v H' ι' l h r => q v H' ι' ((l1.trans l2).trans l) h r⟩⟩⟩
  · cases e
noncomputable def sNil : SF := fun σ H => some (.nx, σ, H)
noncomputable def sSeq (f g : SF) : SF := fun σ H => (f σ H).bind fun r => match r.1 with
  | .nx => g r.2.1 r.2.2
  | _ => some r
theorem pssf_nil : PSsf X [] sNil := by
  refine PSsi pss_nil fun E σ H zz => ?_
  obtain ⟨ι, σd, Hd, fl, σd', Hd', s, hr, e, q⟩ := zz
  cases e
  exact q σ H ι Le.refl hr s
theorem pssf_cons {f g : SF} (h1 : PSf X st f) (h2 : PSsf X sts g) : PSsf X (st :: sts) (sSeq f g) := by
  refine PSsi (pss_cons h1 h2) fun E σ H zz => ?_
  obtain ⟨ι, σd, Hd, fl, σd', Hd', s, hr, e, q⟩ := zz
  obtain ⟨⟨f1, σ1, H1⟩, e1, e⟩ := Option.bind_eq_some_iff.mp e
  refine ⟨ι, σd, Hd, f1, σ1, H1, s, hr, e1, fun σ' H' ι' l h ss => ?_⟩
  cases f1 with
  | nx => exact ⟨ι', σ1, H1, fl, σd', Hd', ss, h, e, fun σ2 H2 ι2 l2 h2 s2 => q σ2 H2 ι2 (l.trans l2) h2 s2⟩
  | bk => cases e; exact q σ' H' ι' l h ss
  | ct => cases e; exact q σ' H' ι' l h ss
  | rt d => cases e; exact q σ' H' ι' l h ss
noncomputable def sRet (f : EF) : SF := fun σ H => (f σ H).map fun p => (.rt p.1, σ, p.2)
theorem psf_ret {f : EF} (he : PEf X e f) : PSf X (.Return (some e) pos) (sRet f) := by
  refine PSi (ps_ret he) fun E σ H zz => ?_
  obtain ⟨ι, σd, Hd, fl, σd', Hd', s, hr, e, q⟩ := zz
  obtain ⟨⟨x, H1⟩, e1, e⟩ := Option.map_eq_some_iff.mp e
  cases e
  exact ⟨ι, σd, Hd, x, H1, s, hr, e1, fun v H' ι' l h r => q σ H' ι' l h (s.mono l) v r⟩
noncomputable def sRetN : SF := fun σ H => some (.rt .non, σ, H)
noncomputable def sBrk : SF := fun σ H => some (.bk, σ, H)
noncomputable def sCnt : SF := fun σ H => some (.ct, σ, H)
noncomputable def sExpr (f : EF) : SF := fun σ H => (f σ H).map fun p => (.nx, σ, p.2)
theorem psf_expr {f : EF} (he : PEf X e f) (hs : swapsWith e none pos.line X.env = pure false := by rfl) : PSf X (.Expr e pos) (sExpr f) := by
  refine PSi (ps_expr he hs) fun E σ H zz => ?_
  obtain ⟨ι, σd, Hd, fl, σd', Hd', s, hr, e, q⟩ := zz
  obtain ⟨⟨x, H1⟩, e1, e⟩ := Option.map_eq_some_iff.mp e
  cases e
  exact ⟨ι, σd, Hd, x, H1, s, hr, e1, fun v H' ι' l h r => q σ H' ι' l h (s.mono l)⟩
noncomputable def sIf (t : TF) (f g : SF) : SF := fun σ H => (t σ H).bind fun p => if p.1 = true then f σ p.2 else g σ p.2
theorem psf_if {t : TF} {f g : SF} {as bs : List Stmt} (hc : PTf X c t) (ha : PSsf X as f) (hb : PSsf X bs g) : PSf X (.If c as bs pos) (sIf t f g) := by
  refine PSi (ps_if hc ha hb) fun E σ H zz => ?_
  obtain ⟨ι, σd, Hd, fl, σd', Hd', s, hr, e, q⟩ := zz
  obtain ⟨⟨x, H1⟩, e1, e⟩ := Option.bind_eq_some_iff.mp e
  refine ⟨ι, σd, Hd, x, H1, s, hr, e1, fun H' ι' l h => ?_⟩
  cases x with
  | true =>
    rw [if_pos rfl]
    exact ⟨ι', σd, H1, fl, σd', Hd', s.mono l, h, by simpa using e, fun σ2 H2 ι2 l2 h2 s2 => q σ2 H2 ι2 (l.trans l2) h2 s2⟩
  | false =>
    rw [if_neg (by simp)]
    exact ⟨ι', σd, H1, fl, σd', Hd', s.mono l, h, by simpa using e, fun σ2 H2 ι2 l2 h2 s2 => q σ2 H2 ι2 (l.trans l2) h2 s2⟩
noncomputable def sSet (i : Nat) (f : EF) : SF := fun σ H => (f σ H).map fun p => (.nx, σ.set i (some p.1), p.2)
theorem psf_set {i : Nat} {x : Str} {f : EF} {pos' : Pos} (hN : X.N.Nodup) (hi : X.N[i]? = some x) (hx : Loc X.env.scope x) (he : PEf X e f) (hs : swapsWith e (some (.Name x pos')) pos.line X.env = pure false := by rfl) (hf : X.fn x = true ∨ X.env.scope.names.lookup x = some .local := by first | exact .inl rfl | exact .inr rfl | assumption) :
    PSf X (.Assign [.Name x pos'] e pos) (sSet i f) := by
  refine PSi (ps_set hN hi hx he hs hf) fun E σ H zz => ?_
  obtain ⟨ι, σd, Hd, fl, σd', Hd', s, hr, e, q⟩ := zz
  obtain ⟨⟨x, H1⟩, e1, e⟩ := Option.map_eq_some_iff.mp e
  cases e
  exact ⟨ι, σd, Hd, x, H1, s, hr, e1, fun v H' ι' l h r => q _ H' ι' l h ((s.mono l).set r i)⟩
noncomputable def gNm (i : Nat) : GF := fun d σ H => some (σ.set i (some d), H)
theorem pgf_name {i : Nat} {x : Str} (hN : X.N.Nodup) (hi : X.N[i]? = some x) (hx : Loc X.env.scope x) (hf : X.fn x = true ∨ X.env.scope.names.lookup x = some .local := by first | exact .inl rfl | exact .inr rfl | assumption) : PGf X (.Name x pos) (gNm i) := by
  refine PGi (pg_name hN hi hx hf) fun v σ H Q zz => ?_
  obtain ⟨ι, σd, Hd, d, σd', Hd', s, hr, r, e, q⟩ := zz
  cases e
  exact q _ H ι Le.refl hr (s.set r i)
noncomputable abbrev FSet := D → D → D → HD → Option HD
noncomputable def gSb (fo fi : EF) (g : FSet) : GF := fun d σ H => (fo σ H).bind fun o => (fi σ o.2).bind fun i => (g o.1 i.1 d i.2).map fun H' => (σ, H')
noncomputable abbrev GFs := List D → SD → HD → Option (SD × HD)
noncomputable def rdGs (K : PySem.W.Frag) (g : GFs) : TGs := fun vs σ H Q => ∃ ι σd Hd ds σd' Hd', SRep K H ι σ σd ∧ HRep K H ι Hd ∧ Paired (Rep K H ι) ds vs ∧ g ds σd Hd = some (σd', Hd') ∧
  ∀ σ' H' ι', Le K H ι H' ι' → HRep K H' ι' Hd' → SRep K H' ι' σ' σd' → Q σ' H'
noncomputable def PGsf (X : Cx) (ts : List Expr) (g : GFs) : Prop := PGs X ts (rdGs X.K g)
noncomputable def gNl : GFs := fun ds σ H => match ds with
  | [] => some (σ, H)
  | _ => none
noncomputable def gCn (g : GF) (h : GFs) : GFs := fun ds σ H => match ds with
  | d :: r => (g d σ H).bind fun p => h r p.1 p.2
  | [] => none
theorem PGsi {ts : List Expr} {t t' : TGs} (h : PGs X ts t) (i : ∀ v σ H Q, t' v σ H Q → t v σ H Q) : PGs X ts t' := fun pins s σ H v u Q I r q => h pins s σ H v u Q I r (i v σ H Q q)
theorem pgsf_nil : PGsf X [] gNl := by
  refine PGsi pgs_nil fun vs σ H Q zz => ?_
  obtain ⟨ι, σd, Hd, ds, σd', Hd', s, hr, r, e, q⟩ := zz
  cases r with
  | nil => cases e; exact ⟨rfl, q σ H ι Le.refl hr s⟩
  | cons _ _ => cases e
theorem pgsf_cons {g : GF} {h : GFs} (h1 : PGf X e g) (h2 : PGsf X es h) (hs : (assignEach (e :: es) X.env).map (·.2) = assign e X.env :: (assignEach es X.env).map (·.2) := by rfl) : PGsf X (e :: es) (gCn g h) := by
  refine PGsi (pgs_cons h1 h2 hs) fun vs σ H Q zz => ?_
  obtain ⟨ι, σd, Hd, ds, σd', Hd', s, hr, r, e, q⟩ := zz
  cases r with
  | nil => cases e
  | cons r rr =>
    obtain ⟨⟨σ1, H1⟩, e1, e⟩ := Option.bind_eq_some_iff.mp e
    exact ⟨_, _, rfl, ι, σd, Hd, _, σ1, H1, s, hr, r, e1, fun σ' H' ι' l h ss => ⟨ι', σ1, H1, _, σd', Hd', ss, h, Prd.mono l rr, e, fun σ2 H2 ι2 l2 h2 s2 => q σ2 H2 ι2 (l.trans l2) h2 s2⟩⟩
noncomputable def gTp (n : Nat) (g : GFs) : GF := fun d σ H => match d with
  | .tup ds => if ds.length = n then g ds σ H else none
  | _ => none
theorem pgf_tup {k n : Nat} {g : GFs} (hc : X.calm = true) (h : PGsf X es g) (hn : (assignEach es X.env).length = n := by rfl) (hst : (assignEach es X.env).findIdx? (·.1) = none := by rfl) : PGf X (.Tuple es k pos) (gTp n g) := by
  refine PGi (pg_tup hc h hn hst) fun v σ H Q zz => ?_
  obtain ⟨ι, σd, Hd, d, σd', Hd', s, hr, r, e, q⟩ := zz
  cases d with
  | tup ds =>
    obtain ⟨a, vs, rfl, h1, p⟩ := rep_tup.mp r
    simp only [gTp] at e
    split at e
    · rename_i hl
      exact ⟨a, vs, rfl, h1, by rw [← Prd.len p]; exact hl, ι, σd, Hd, ds, σd', Hd', s, hr, p, e, q⟩
    · cases e
  | _ => simp [gTp] at e
noncomputable def sAsg (f : EF) (g : GF) : SF := fun σ H => (f σ H).bind fun p => (g p.1 σ p.2).map fun q => (.nx, q.1, q.2)
theorem psf_asg {tg : Expr} {f : EF} {g : GF} (he : PEf X e f) (hg : PGf X tg g) (hs : swapsWithSole [tg] e pos.line X.env = pure false := by rfl) (hw : swappedStores [tg] e X.env = pure none := by rfl)
    (h1 : (assignEach [tg] X.env).map (·.2) = [assign tg X.env] := by rfl) : PSf X (.Assign [tg] e pos) (sAsg f g) := by
  refine PSi (ps_asg he hg hs hw h1) fun E σ H zz => ?_
  obtain ⟨ι, σd, Hd, fl, σd', Hd', s, hr, e, q⟩ := zz
  obtain ⟨⟨x, H1⟩, e1, e⟩ := Option.bind_eq_some_iff.mp e
  obtain ⟨⟨σ2, H2⟩, e2, e⟩ := Option.map_eq_some_iff.mp e
  cases e
  exact ⟨ι, σd, Hd, x, H1, s, hr, e1, fun v H' ι' l h r => ⟨ι', σd, H1, x, σ2, H2, s.mono l, h, r, e2, fun σ3 H3 ι3 l3 h3 s3 => q σ3 H3 ι3 (l.trans l3) h3 s3⟩⟩
noncomputable abbrev OwnD := List (Nat × DO)
noncomputable def okOwn (own : OwnD) (H : HD) : Prop := ∀ p ∈ own, H[p.1]? = some p.2
noncomputable abbrev ItF := SD → HD → Option ((List D × OwnD) × HD)
structure ItRep (K : PySem.W.Frag) (J : It) (xs : List D) (own : OwnD) (H0 : Hp) (ι0 : List Addr) : Prop where
  go : ∀ i H ι Hd, Le K H0 ι0 H ι → HRep K H ι Hd → okOwn own Hd → i < xs.length → J.go i H
  yld : ∀ i H ι Hd d x H', Le K H0 ι0 H ι → HRep K H ι Hd → okOwn own Hd → xs[i]? = some d → J.yld i H x H' → ∃ ι', Le K H ι H' ι' ∧ HRep K H' ι' Hd ∧ Rep K H' ι' d x
  stop : ∀ i H ι Hd, Le K H0 ι0 H ι → HRep K H ι Hd → okOwn own Hd → xs.length ≤ i → J.stop i H
noncomputable def rdI (K : PySem.W.Frag) (f : ItF) : TI := fun σ H R => ∃ ι σd Hd xs own Hd', SRep K H ι σ σd ∧ HRep K H ι Hd ∧ f σd Hd = some ((xs, own), Hd') ∧ ∀ J H' ι', Le K H ι H' ι' → HRep K H' ι' Hd' → ItRep K J xs own H' ι' → R J H'
noncomputable def PIf (X : Cx) (tg iter : Expr) (f : ItF) : Prop := PI X tg iter (rdI X.K f)
theorem PIi {tg iter : Expr} {t t' : TI} (h : PI X tg iter t) (i : ∀ σ H R, t' σ H R → t σ H R) : PI X tg iter t' := fun pins s σ H R I q => h pins s σ H R I (i σ H R q)
open Classical in
noncomputable def forL (own : OwnD) (g : GF) (body : SF) : List D → SF
  | [], σ, H => if okOwn own H then some (.nx, σ, H) else none
  | x :: r, σ, H => if okOwn own H then (g x σ H).bind fun p => (body p.1 p.2).bind fun q => match q.1 with
      | .nx => forL own g body r q.2.1 q.2.2
      | .ct => forL own g body r q.2.1 q.2.2
      | .bk => some (.nx, q.2.1, q.2.2)
      | .rt d => some (.rt d, q.2.1, q.2.2)
    else none
noncomputable def sFor (it : ItF) (g : GF) (body : SF) : SF := fun σ H => (it σ H).bind fun p => forL p.1.2 g body p.1.1 σ p.2
theorem psf_for {tg iter : Expr} {body : List Stmt} {f : ItF} {g : GF} {b : SF} (hp : PassesOwn (model X.prog X.w) X.A X.env X.xe) (hc : X.calm = true) (hi : PIf X tg iter f) (hg : PGf X tg g) (hb : PSsf X body b)
    (hs : ∀ x, foldedSetIterable iter X.env x = pure x := by intro _; rfl) : PSf X (.For tg iter body [] pos) (sFor f g b) := by
  refine PSi (ps_for hp hc hi hg hb hs) fun E σ H zz => ?_
  obtain ⟨ι, σd, Hd, fl, σf, Hf, s, hr, e, q⟩ := zz
  obtain ⟨⟨⟨xs, own⟩, H1⟩, e1, e⟩ := Option.bind_eq_some_iff.mp e
  refine ⟨ι, σd, Hd, xs, own, H1, s, hr, e1, fun J H0 ι0 l0 h0 it => ?_⟩
  refine ⟨fun i m σ H => m = xs.length - i ∧ i ≤ xs.length ∧ ∃ ι σd Hd, Le X.K H0 ι0 H ι ∧ SRep X.K H ι σ σd ∧ HRep X.K H ι Hd ∧ forL own g b (xs.drop i) σd Hd = some (fl, σf, Hf),
    ⟨xs.length, by simp, Nat.zero_le _, ι0, σd, H1, Le.refl, s.mono l0, h0, by simpa using e⟩, ?_⟩
  rintro i m σ2 H2 ⟨rfl, hi, ι2, σd2, Hd2, l2, s2, h2, e2⟩
  by_cases hlt : i < xs.length
  · have ed : xs.drop i = xs[i] :: xs.drop (i + 1) := List.drop_eq_getElem_cons hlt
    rw [ed, forL] at e2
    split at e2
    · rename_i ok
      obtain ⟨⟨σ3, H3⟩, e3, e2⟩ := Option.bind_eq_some_iff.mp e2
      obtain ⟨⟨f4, σ4, H4⟩, e4, e2⟩ := Option.bind_eq_some_iff.mp e2
      refine .inr ⟨it.go i H2 ι2 Hd2 l2 h2 ok hlt, fun σ' H' => (xs.length - (i + 1) = xs.length - (i + 1) ∧ i + 1 ≤ xs.length ∧ ∃ ι σd Hd, Le X.K H0 ι0 H' ι ∧ SRep X.K H' ι σ' σd ∧ HRep X.K H' ι Hd ∧ forL own g b (xs.drop (i + 1)) σd Hd = some (fl, σf, Hf)),
        fun σ' H' p => ⟨_, by omega, p⟩, fun x H' y => ?_⟩
      obtain ⟨ι3, l3, h3, r3⟩ := it.yld i H2 ι2 Hd2 xs[i] x H' l2 h2 ok (by simp [hlt]) y
      refine ⟨ι3, σd2, Hd2, xs[i], σ3, H3, s2.mono l3, h3, r3, e3, fun σ5 H5 ι5 l5 h5 s5 => ?_⟩
      refine ⟨ι5, σ3, H3, f4, σ4, H4, s5, h5, e4, fun σ6 H6 ι6 l6 h6 s6 => ?_⟩
      have L : Le X.K H0 ι0 H6 ι6 := ((l2.trans l3).trans l5).trans l6
      cases f4 with
      | nx => exact ⟨rfl, hlt, ι6, σ4, H4, L, s6, h6, e2⟩
      | ct => exact ⟨rfl, hlt, ι6, σ4, H4, L, s6, h6, e2⟩
      | bk => cases e2; exact q σ6 H6 ι6 (l0.trans L) h6 s6
      | rt d => cases e2; exact q σ6 H6 ι6 (l0.trans L) h6 s6
    · cases e2
  · have hi' : i = xs.length := by omega
    rw [List.drop_eq_nil_of_le (by omega), forL] at e2
    split at e2
    · rename_i ok
      have e3 : (FD.nx, σd2, Hd2) = (fl, σf, Hf) := Option.some.inj e2
      obtain ⟨rfl, e4⟩ := Prod.mk.inj e3
      obtain ⟨rfl, rfl⟩ := Prod.mk.inj e4
      exact .inl ⟨it.stop i H2 ι2 _ l2 h2 ok (by omega), q σ2 H2 ι2 (l0.trans l2) h2 s2⟩
    · cases e2
end
noncomputable def runB (n N : Nat) (b : SF) : FF := fun ds H => if ds.length = n then (b (ds.map some ++ List.replicate (N - ds.length) none) H).bind fun r => match r.1 with
    | .rt d => some (d, r.2.2)
    | .nx => some (.non, r.2.2)
    | _ => none
  else none
section
variable {P : Program} {w : World} {K : PySem.W.Frag} {mg : Str → Option Value} {base : Heap}
theorem fn_f {x qual : Str} {st : Stmt} {f : Addr} {fd : FuncData} {N ps : List Str} {k : Nat} {b : SF} (F : Fun K x qual st f fd) (S : FnScope N ps (defScope st))
    (hb : ∀ (cdv : Value) (A : Around) (outer : List Env) (s : Shared) (H : Hp) (E : XK), Room k (A.deeper (envOfC qual (defScope st) s.heap.objs.size f cdv)) →
      PSsf (cxOf CX0 P w K mg base N qual (defScope st) f cdv A outer s H E).nox (defBody st) b) : FnOk P w K mg base CX0 (k + 1) f fd ps (spF K ps.length (runB ps.length N.length b)) := by
  refine F.ok S (fun vs H Q E h => ?_) (fun cdv A outer s H vs Q E hr h => ?_)
  · obtain ⟨ι, ds, Hd, d, Hd', hl, _, r, _⟩ := h
    rw [← Prd.len r]; exact hl
  · obtain ⟨ι, ds, Hd, d, Hd', hl, hh, r, e, q⟩ := h
    refine ⟨_, hb cdv A outer s H E hr, ?_⟩
    unfold runB at e
    rw [if_pos hl] at e
    obtain ⟨⟨fl, σ1, H1⟩, e1, e⟩ := Option.bind_eq_some_iff.mp e
    refine ⟨ι, _, Hd, fl, σ1, H1, ?_, hh, e1, fun σ' H' ι' l h ss => ?_⟩
    · refine ⟨by simp [L2.start, Prd.len r], fun i d0 h0 => ?_⟩
      unfold L2.start
      by_cases hi : i < ds.length
      · rw [List.getElem?_append_left (by simpa using hi), List.getElem?_map] at h0
        cases ed : ds[i]? with
        | none => rw [ed] at h0; cases h0
        | some d1 =>
          rw [ed] at h0
          cases h0
          obtain ⟨v, hv, rv⟩ := Prd.get r ed
          refine ⟨v, ?_, rv⟩
          rw [List.getElem?_append_left (by rw [List.length_map, ← Prd.len r]; exact hi), List.getElem?_map, hv]
          rfl
      · rw [List.getElem?_append_right (by simpa using hi), List.getElem?_replicate] at h0
        split at h0 <;> cases h0
    · cases fl with
      | rt d1 => cases e; exact fun v rv => q v H' ι' l h rv
      | nx => cases e; exact q .non H' ι' l h (by simp)
      | bk => cases e
      | ct => cases e
end
end DL
namespace DL
open PySem PySem.Spec PyProof.Rows L2
noncomputable def clOf (env : Env) : List (Str × NameKind) → List (Str × Addr) → List (Str × Addr)
  | [], cs => cs
  | (n, k) :: r, cs => clOf env r (if k = .free then (match env.cells.lookup n with | some a => (n, a) :: cs | none => cs) else cs)
theorem closure_eq (env : Env) (scope : Scope) (h : ∀ y ∈ scope.names, y.2 = .free → (env.cells.lookup y.1).isSome = true) : closureFor scope env = pure (clOf env scope.names []) := by
  have key : ∀ (ns : List (Str × NameKind)) (cs : List (Str × Addr)), (∀ y ∈ ns, y.2 = .free → (env.cells.lookup y.1).isSome = true) →
      (forIn ns cs fun (x : Str × NameKind) cs => match x with
        | (name, kind) => if (kind == .free) = true then (do let a ← cellOf env name; pure (ForInStep.yield ((name, a) :: cs))) else pure (ForInStep.yield cs) : Sem (List (Str × Addr))) = pure (clOf env ns cs) := by
    intro ns
    induction ns with
    | nil => intro cs _; rfl
    | cons x r ih =>
      intro cs hh
      obtain ⟨n, k⟩ := x
      have hr := ih
      rw [List.forIn_cons]
      by_cases hk : k = .free
      · subst hk
        have q := hh (n, .free) (by simp) rfl
        cases e : env.cells.lookup n with
        | none => rw [e] at q; cases q
        | some a =>
          have e2 : cellOf env n = pure a := by unfold cellOf; rw [e]
          simp only [beq_self_eq_true, if_true, e2, pure_bind, clOf, e]
          exact ih _ fun y hy => hh y (List.mem_cons_of_mem _ hy)
      · have hb : (k == NameKind.free) = false := by simpa using hk
        simp only [hb, Bool.false_eq_true, if_false, pure_bind, clOf, hk]
        exact ih _ fun y hy => hh y (List.mem_cons_of_mem _ hy)
  have e : closureFor scope env = ((forIn scope.names [] fun (x : Str × NameKind) cs => match x with
        | (name, kind) => if (kind == .free) = true then (do let a ← cellOf env name; pure (ForInStep.yield ((name, a) :: cs))) else pure (ForInStep.yield cs) : Sem (List (Str × Addr))) >>= pure) := rfl
  rw [e, bind_pure]
  exact key scope.names [] h
theorem clOf_sub (env : Env) : ∀ (ns : List (Str × NameKind)) (cs : List (Str × Addr)), (∀ x c, cs.lookup x = some c → env.cells.lookup x = some c) → ∀ x c, (clOf env ns cs).lookup x = some c → env.cells.lookup x = some c
  | [], cs, h => h
  | (n, k) :: r, cs, h => by
    unfold clOf
    refine clOf_sub env r _ ?_
    split
    · cases e : env.cells.lookup n with
      | none => exact h
      | some a =>
        intro x c q
        dsimp only at q
        rw [List.lookup_cons] at q
        split at q
        · rename_i hb
          have hb' : x = n := by simpa using hb
          subst hb'; cases q; exact e
        · exact h x c q
    · exact h
theorem clOf_has (env : Env) : ∀ (ns : List (Str × NameKind)) (cs : List (Str × Addr)) (x : Str), ((cs.lookup x).isSome = true ∨ ((x, NameKind.free) ∈ ns ∧ (env.cells.lookup x).isSome = true)) → ((clOf env ns cs).lookup x).isSome = true
  | [], cs, x, h => by
    rcases h with h | ⟨h, _⟩
    · exact h
    · simp at h
  | (n, k) :: r, cs, x, h => by
    unfold clOf
    refine clOf_has env r _ x ?_
    by_cases hk : k = .free
    · rw [if_pos hk]
      cases e : env.cells.lookup n with
      | none =>
        rcases h with h | ⟨h, h2⟩
        · exact .inl h
        · rcases List.mem_cons.mp h with h | h
          · cases h; rw [e] at h2; cases h2
          · exact .inr ⟨h, h2⟩
      | some a =>
        dsimp only
        rw [List.lookup_cons]
        by_cases hx : x = n
        · subst hx; simp
        · have : (x == n) = false := by simpa using hx
          rw [this]
          rcases h with h | ⟨h, h2⟩
          · exact .inl h
          · rcases List.mem_cons.mp h with h | h
            · cases h; exact absurd rfl hx
            · exact .inr ⟨h, h2⟩
    · rw [if_neg hk]
      rcases h with h | ⟨h, h2⟩
      · exact .inl h
      · rcases List.mem_cons.mp h with h | h
        · cases h; exact absurd rfl hk
        · exact .inr ⟨h, h2⟩
theorem relabel_vis {env : Env} : ∀ {names : List (Str × NameKind)} {x : Str}, names.lookup x = some .free →
    ((names.map fun (n, k) => if (k == NameKind.free && env.scope.kind == .function && env.kindOf n == some .cell) then (n, NameKind.cell) else (n, k)).lookup x = some .cell ∨
     (names.map fun (n, k) => if (k == NameKind.free && env.scope.kind == .function && env.kindOf n == some .cell) then (n, NameKind.cell) else (n, k)).lookup x = some .free)
  | [], _, h => by simp at h
  | (n, k) :: r, x, h => by
    have ih := @relabel_vis env r x
    show List.lookup x ((if (k == NameKind.free && env.scope.kind == .function && env.kindOf n == some .cell) = true then (n, NameKind.cell) else (n, k)) :: _) = _ ∨ List.lookup x ((if (k == NameKind.free && env.scope.kind == .function && env.kindOf n == some .cell) = true then (n, NameKind.cell) else (n, k)) :: _) = _
    cases hx : x == n with
    | true =>
      simp only [List.lookup_cons, hx] at h
      cases h
      by_cases hc : (NameKind.free == NameKind.free && env.scope.kind == .function && env.kindOf n == some .cell) = true
      · rw [if_pos hc]; simp only [List.lookup_cons, hx]; simp
      · rw [if_neg hc]; simp only [List.lookup_cons, hx]; simp
    | false =>
      simp only [List.lookup_cons, hx] at h
      by_cases hc : (k == NameKind.free && env.scope.kind == .function && env.kindOf n == some .cell) = true
      · rw [if_pos hc]; simp only [List.lookup_cons, hx]; exact ih h
      · rw [if_neg hc]; simp only [List.lookup_cons, hx]; exact ih h
theorem relabel_free {env : Env} : ∀ {names : List (Str × NameKind)} {x : Str}, (∀ y ∈ names, y.2 ≠ .cell) →
    ((names.map fun (n, k) => if (k == NameKind.free && env.scope.kind == .function && env.kindOf n == some .cell) then (n, NameKind.cell) else (n, k)).lookup x = some .cell ∨
     (names.map fun (n, k) => if (k == NameKind.free && env.scope.kind == .function && env.kindOf n == some .cell) then (n, NameKind.cell) else (n, k)).lookup x = some .free) → (x, NameKind.free) ∈ names
  | [], _, _, h => by simp at h
  | (n, k) :: r, x, hn, h => by
    have ih := @relabel_free env r x (fun y hy => hn y (List.mem_cons_of_mem _ hy))
    have h : List.lookup x ((if (k == NameKind.free && env.scope.kind == .function && env.kindOf n == some .cell) = true then (n, NameKind.cell) else (n, k)) :: _) = _ ∨ List.lookup x ((if (k == NameKind.free && env.scope.kind == .function && env.kindOf n == some .cell) = true then (n, NameKind.cell) else (n, k)) :: _) = _ := h
    cases hx : x == n with
    | true =>
      have hx' : x = n := by simpa using hx
      subst hx'
      by_cases hc : (k == NameKind.free && env.scope.kind == .function && env.kindOf x == some .cell) = true
      · have hk : k = .free := by
          rw [Bool.and_eq_true, Bool.and_eq_true] at hc
          simpa using hc.1.1
        subst hk; simp
      · rw [if_neg hc] at h
        simp only [List.lookup_cons, hx] at h
        rcases h with h | h
        · cases h; exact absurd rfl (hn (x, .cell) (by simp))
        · cases h; simp
    | false =>
      refine List.mem_cons_of_mem _ (ih ?_)
      by_cases hc : (k == NameKind.free && env.scope.kind == .function && env.kindOf n == some .cell) = true
      · rw [if_pos hc] at h; simp only [List.lookup_cons, hx] at h; exact h
      · rw [if_neg hc] at h; simp only [List.lookup_cons, hx] at h; exact h
noncomputable def blk (X : Cx) (scope : Scope) (N : List Str) (cl : List (Str × Addr)) (C : Addr) (s : Shared) (H : Hp) (fp : List Addr) (pn : List (Addr × Obj)) : Cx where
  prog := X.prog
  w := X.w
  K := X.K
  mg := X.mg
  base := X.base
  A := X.A
  N := N
  s₀ := s
  H₀ := H
  env := compEnvC scope cl C X.env
  outer := X.stack
  stack := X.stack
  ex := fp
  fn := fun _ => false
  calm := X.calm
  pn := pn
  xe := fun _ _ => False
structure BlkOk (X : Cx) (scope : Scope) (x : Str) (cn : List Str) (ci : List Nat) : Prop where
  kind : scope.kind = .function
  nocell : ∀ y ∈ scope.names, y.2 ≠ .cell
  names : ∀ y ∈ scope.names, y.2 = .local → scope.names.lookup y.1 = some .local
  tgt : scope.names.lookup x = some .local
  free : ∀ y ∈ scope.names, y.2 = .free → (X.env.cells.lookup y.1).isSome = true
  nd : (x :: cn).Nodup
  len : ci.length = cn.length
  cap : ∀ (j : Nat) (y : Str), cn[j]? = some y → ∃ i, ci[j]? = some i ∧ X.N[i]? = some y ∧ scope.names.lookup y = some .free ∧ (X.env.kindOf y = some .cell ∨ X.env.kindOf y = some .free)
noncomputable def capS (ci : List Nat) (σ : L2.St) : L2.St := ci.map fun i => (σ[i]?).join
section
variable {X : Cx} {pins : List (Addr × Obj)} {σ : L2.St} {H : Hp} {s : Shared} {scope : Scope} {x : Str} {cn : List Str} {ci : List Nat} {fp : List Addr}
theorem inv_blk {h₁ : Heap} {tk : Nat} {o₁ : Obj} (I : Inv X pins σ H s) (B : BlkOk X scope x cn ci) (hf : ∀ b ∈ fp, FpOk X pins H b) (hlt : ∀ b ∈ fp, b < s.heap.objs.size)
    (hns : h₁.Ns s.heap.objs.size (fun _ => none)) (hsb : Heap.SameBut s.heap.objs.size (s.heap.push o₁) h₁) :
    Inv (blk X scope (x :: cn) (clOf X.env scope.names []) s.heap.objs.size s H fp (X.pn ++ pins)) [] (none :: capS ci σ) H { s with heap := h₁, toks := tk } := by
  have old : ∀ b o, s.heap.get? b = some o → h₁.get? b = some o := fun b o e => hsb.extBut b o (Nat.ne_of_lt (Heap.lt_size e)) (Heap.get?_push_of_some _ e)
  have sub := clOf_sub X.env scope.names [] (by intro x c h; simp at h)
  have has : ∀ y, (y, NameKind.free) ∈ scope.names → ∃ c, (clOf X.env scope.names []).lookup y = some c := fun y hy =>
    Option.isSome_iff_exists.mp (clOf_has X.env scope.names [] y (.inr ⟨hy, B.free _ hy rfl⟩))
  refine ⟨⟨I.ok.mod, B.kind, I.ok.glob, I.ok.blt, Nat.le_refl _, fun y z c h1 h2 => I.ok.inj y z c (sub y c h1) (sub z c h2), fun y hy => has y (relabel_free B.nocell hy), fun y c hy => absurd hy (by show ¬ (false = true); simp), I.ok.hd, I.ok.frames, .inl rfl,
      fun b hb => ⟨Nat.ne_of_lt (hlt b hb), fun y c e => (hf b hb).2.2.2.2.1 y c (sub y c e)⟩, I.bs, Nat.le_trans I.ok.bsz I.sz, fun b o e hb => ?_, fun b hb z => ?_, I.stack, I.stkFree⟩,
    rfl, I.bare, Un.kept old, ⟨_, hns, fun i y v h1 h2 h3 => ?_⟩, fun y c e => ?_, I.hok.fresh (Nat.le_refl _), fun y c e => I.freeC y c (sub y c e), fun p hp => ?_, I.hok.kept old, ?_⟩
  · rcases (hf b hb).2.2.2.1 with z | z
    · exact I.ok.noex b o e z
    · exact absurd (Nat.lt_of_lt_of_le (Heap.lt_size e) (Nat.le_trans I.ok.bsz z)) (Nat.lt_irrefl _)
  · exact (List.mem_cons.mp (I.stkSub b z)).elim (hf b hb).2.1 (hf b hb).2.2.1
  · cases i with
    | zero => simp at h2
    | succ j =>
      have h1' : cn[j]? = some y := by simpa [blk] using h1
      have h2' : (capS ci σ)[j]? = some (some v) := by simpa using h2
      obtain ⟨i, e1, e2, e3, e4⟩ := B.cap j y h1'
      have e5 : σ[i]? = some (some v) := by
        unfold capS at h2'
        rw [List.getElem?_map, e1] at h2'
        simp at h2'
        cases e : σ[i]? with
        | none => rw [e] at h2'; cases h2'
        | some o => rw [e] at h2'; simp at h2'; rw [h2']
      obtain ⟨m, hn, hl⟩ := I.loc
      have hv : Vis X.env.scope y := by
        rcases e4 with e4 | e4
        · exact .inr (.inl e4)
        · exact .inr (.inr e4)
      obtain ⟨u, r, l⟩ := hl i y v e2 e5 hv
      refine ⟨u, r, .inr ⟨relabel_vis e3, ?_⟩⟩
      obtain ⟨c, ec⟩ := has y (PySem.mem_of_lookup e3)
      refine ⟨c, ec, ?_⟩
      rcases l with ⟨l, _⟩ | ⟨_, c', ec', hc⟩
      · rcases e4 with e4 | e4 <;> rw [e4] at l <;> cases l
      · rw [sub y c ec] at ec'
        cases ec'
        obtain ⟨ob, q1, q2⟩ := hc
        exact ⟨ob, old _ _ q1, q2⟩
  · obtain ⟨v, ob, q1, q2⟩ := I.cell y c (sub y c e)
    exact ⟨v, ob, old _ _ q1, q2⟩
  · have hp' : p ∈ X.pn ++ pins := by simpa [blk] using hp
    obtain ⟨q1, q2, q3, q4, q5⟩ := I.pin p hp'
    refine ⟨old _ _ q1, q2, Nat.ne_of_lt (Heap.lt_size q1), fun z => ?_, q5⟩
    exact (List.mem_cons.mp (I.stkSub p.1 z)).elim q3 q4
  · simp [blk, capS, B.len]
noncomputable def PTs (X : Cx) (ifs : List Expr) (t : TT) : Prop :=
  ∀ (pins : List (Addr × Obj)) (s : Shared) (σ : L2.St) (H : Hp) (Q : Bool → Hp → Prop), Inv X pins σ H s → t σ H Q →
    wpAny (model X.prog X.w) X.A (forIn ifs true fun c r => if r = true then do let ok ← isTrue c X.env (eval c X.env); pure (ForInStep.yield ok) else pure (ForInStep.yield r)) (TP X pins σ Q) X.xe s
theorem pts_nil : PTs X [] (fun _ H Q => Q true H) := fun _ _ _ H _ I h => wpAny_tests_nil ⟨H, I, h⟩
theorem pts_one {c : Expr} {t : TT} (h : PT X c t) : PTs X [c] t := fun pins s σ H Q I q => wpAny_tests_one (h pins s σ H Q I q)
noncomputable def LcW (J : It) (ci : List Nat) (tt : TT) (te : TE) (σ : L2.St) (Q : VK) (H1 : Hp) : Prop := ∀ p, H1 p = none → ∃ W : Nat → Nat → List V → Hp → Prop, (∃ m, W 0 m [] (upd H1 p (.lst []))) ∧ ∀ i m ys H, W i m ys H →
  H p = some (.lst ys) ∧ ((J.stop i H ∧ Q (.ref p) H) ∨ (J.go i H ∧ ∀ v H', J.yld i H v H' → tt (some v :: capS ci σ) H' fun b H2 =>
    if b = true then te (some v :: capS ci σ) H2 fun y H3 => H3 p = some (.lst ys) ∧ ys.length < sizeLine ∧ ∃ m', m' < m ∧ W (i + 1) m' (ys ++ [y]) (upd H3 p (.lst (ys ++ [y])))
    else ∃ m', m' < m ∧ W (i + 1) m' ys H2))
structure Gone (X : Cx) (pins : List (Addr × Obj)) (H : Hp) (s : Shared) (C : Addr) : Prop where
  ns : ∃ m, s.heap.Ns C m
  free : H C = none
  nl : C ≠ X.env.locals
  up : X.s₀.heap.objs.size ≤ C
  nc : ∀ x c, X.env.cells.lookup x = some c → c ≠ C
  np : ∀ p ∈ X.pn ++ pins, p.1 ≠ C
theorem Gone.go {σ : L2.St} {h' : Heap} {C : Addr} (g : Gone X pins H s C) (I : Inv X pins σ H s) (hs : Heap.SameBut C s.heap h') : Inv X pins σ H { s with heap := h' } :=
  I.turned (t' := s.toks) (fun b o hb e => hs.extBut b o hb e) g.free g.nl (.inr g.up) g.nc g.np
theorem lc_block {elt iter : Expr} {px pos : Pos} {ifs : List Expr} {tt : TT} {te : TE} {Q : VK} {E : Value → Shared → Prop} {RR : Value → Addr → Result → Shared → Prop} {it : Addr} {tn : Nat → Heap → Prop} {J : It}
    (I : Inv X pins σ H s) (hc : X.calm = true) (B : BlkOk X scope x cn ci) (T : Turn X.prog X.w X.K (.Name x px) J fp it tn) (st : tn 0 s.heap) (hf : ∀ b ∈ fp, FpOk X pins H b)
    (ht : ∀ cl C s H fp pn, PTs (blk X scope (x :: cn) cl C s H fp pn) ifs tt) (he : ∀ cl C s H fp pn, PE (blk X scope (x :: cn) cl C s H fp pn) elt te)
    (hw : LcW J ci tt te σ Q H) (hRR : ∀ p C H' s', Inv X pins σ H' s' → Gone X pins H' s' C → Q (.ref p) H' → RR (.ref p) C (.ok .next) s') :
    wpAny (model X.prog X.w) X.A (newList []) (fun acc s₃ => wpAny (model X.prog X.w) X.A (newFunctionEnv scope X.env.globals (clOf X.env scope.names []) [] X.env.qual none .none (some X.env)) (fun cenv s₄ =>
      codeAny (model X.prog X.w) X.A (.compStart (.ListComp elt [⟨.Name x px, iter, ifs, 0⟩] scope pos) 0 (.ref it) acc { cenv with scope := relabel scope X.env }) (RR acc cenv.locals) s₄) E s₃) E s := by
  have hp0 : H s.heap.objs.size = none := I.hok.fresh (Nat.le_refl _)
  obtain ⟨W, ⟨m0, w0⟩, turn⟩ := hw _ hp0
  refine wpAny_newObj_type (wpAny_newFunctionEnv B.nocell (by intro y hy; simp at hy) (fun h₁ hns₁ hsb₁ => ?_) B.kind)
  dsimp only at hns₁ hsb₁ ⊢
  have I3 : Inv X pins σ (upd H s.heap.objs.size (.lst [])) { s with heap := s.heap.push { cls := .type "list", dict := none, data := .seq ([] : List Value).toArray } } :=
    I.laid (t' := s.toks) (fun b u e => Heap.get?_push_of_some _ e) (Nat.le_refl _) ⟨Nat.zero_le _, [], 0, .nil, Heap.get?_push_size _ rfl⟩
  generalize hH3 : s.heap.push { cls := .type "list", dict := none, data := .seq ([] : List Value).toArray } = hp3 at hns₁ hsb₁ I3 ⊢
  have flt : ∀ b ∈ fp, b < s.heap.objs.size := fun b hb => by
    obtain ⟨o, e, _⟩ := T.obj 0 _ st b hb
    exact Heap.lt_size e
  have sz3 : hp3.objs.size = s.heap.objs.size + 1 := by rw [← hH3, Heap.size_push]
  have f3 : ∀ b ∈ fp, FpOk X pins (upd H s.heap.objs.size (.lst [])) b := fun b hb => ⟨by rw [upd_ne (Nat.ne_of_lt (flt b hb))]; exact (hf b hb).1, (hf b hb).2⟩
  have old3 : ∀ b o, s.heap.get? b = some o → hp3.get? b = some o := fun b o e => by rw [← hH3]; exact Heap.get?_push_of_some _ e
  have I4 := inv_blk (s := { s with heap := hp3 }) (tk := s.toks + ([] : List (Str × Value)).length) I3 B f3 (fun b hb => by show b < hp3.objs.size; rw [sz3]; exact Nat.lt_succ_of_lt (flt b hb)) (by simpa using hns₁) hsb₁
  have old4 : ∀ b o, hp3.get? b = some o → h₁.get? b = some o := fun b o e => hsb₁.extBut b o (Nat.ne_of_lt (Heap.lt_size e)) (Heap.get?_push_of_some _ e)
  generalize hX' : blk X scope (x :: cn) (clOf X.env scope.names []) hp3.objs.size { s with heap := hp3 } (upd H s.heap.objs.size (.lst [])) fp (X.pn ++ pins) = X' at I4
  have ePr : X'.prog = X.prog := by rw [← hX']; rfl
  have eW : X'.w = X.w := by rw [← hX']; rfl
  have eK : X'.K = X.K := by rw [← hX']; rfl
  have eA : X'.A = X.A := by rw [← hX']; rfl
  have eEnv : X'.env = compEnvC scope (clOf X.env scope.names []) hp3.objs.size X.env := by rw [← hX']; rfl
  have eEx : X'.ex = fp := by rw [← hX']; rfl
  have ht' : PTs X' ifs tt := by rw [← hX']; exact ht _ _ _ _ _ _
  have he' : PE X' elt te := by rw [← hX']; exact he _ _ _ _ _ _
  have eXe : X'.xe = fun _ _ => False := by rw [← hX']; rfl
  have hg' : PG X' (.Name x px) (gName 0) := by
    rw [← hX']
    exact pg_name (X := blk X scope (x :: cn) _ _ _ _ _ _) B.nd rfl (.inl (lookup_relabel_local B.tgt)) (.inr (lookup_relabel_local B.tgt))
  -- the iterator's objects, seen from the block
  have stat : ∀ {H' : Hp}, (∀ b ∈ fp, H' b = none) → ∀ b ∈ fp, FpOk X' [] H' b := fun {H'} hn b hb => by
    rw [← hX']
    refine ⟨hn b hb, (by show b ≠ hp3.objs.size; rw [sz3]; exact Nat.ne_of_lt (Nat.lt_succ_of_lt (flt b hb))), fun z => (List.mem_cons.mp (I3.stkSub b z)).elim (hf b hb).2.1 (hf b hb).2.2.1, .inl hb, fun y c e => ?_, fun p hp => ?_⟩
    · exact (hf b hb).2.2.2.2.1 y c (clOf_sub X.env scope.names [] (by intro x c h; simp at h) y c e)
    · exact (hf b hb).2.2.2.2.2 p (by simpa [blk] using hp)
  have back : ∀ {σ' : L2.St} {H' : Hp} {s' : Shared}, Inv X' [] σ' H' s' → Inv X pins σ H' s' ∧ Gone X pins H' s' hp3.objs.size := fun {σ' H' s'} I5 => by
    have u : Un (frs X.stack) fp (upd H s.heap.objs.size (.lst [])) H' hp3 s'.heap := by
      have := I5.base
      rw [← hX'] at this
      exact this
    have hok : HOk X.prog X.w H' s'.heap := by have := I5.hok; rw [ePr, eW] at this; exact this
    have ho : s'.os = s.os := by have := I5.os; rw [← hX'] at this; exact this
    refine ⟨I3.call' ho u hok I5.bare fun b hb => ⟨(hf b hb).2.2.2.1, (hf b hb).2.1, (hf b hb).2.2.2.2.1, (hf b hb).2.2.2.2.2⟩, ?_, ?_, ?_, ?_, fun y c e z => ?_, fun p hp z => ?_⟩
    · obtain ⟨m, hn, _⟩ := I5.loc
      rw [eEnv] at hn
      exact ⟨m, hn⟩
    · have := I5.free
      rw [eEnv] at this
      exact this
    · exact Nat.ne_of_gt (I3.lt)
    · exact I3.sz
    · obtain ⟨v, q⟩ := I3.cell y c e
      exact absurd (Nat.lt_of_lt_of_le q.lt (by rw [z]; exact Nat.le_refl _)) (Nat.lt_irrefl _)
    · have := Heap.lt_size (I3.pin p hp).1
      rw [z] at this
      exact Nat.lt_irrefl _ this
  have loop : codeAny (model X.prog X.w) X.A (.compLoop (.ListComp elt [⟨.Name x px, iter, ifs, 0⟩] scope pos) 0 (.ref it) (.ref s.heap.objs.size) (compEnvC scope (clOf X.env scope.names []) hp3.objs.size X.env))
      (RR (.ref s.heap.objs.size) hp3.objs.size) { s with heap := h₁, toks := s.toks + ([] : List (Str × Value)).length } := by
    refine codeAny_loop rfl (fun n s' => ∃ i o ys H', Inv X' [] (o :: capS ci σ) H' s' ∧ tn i s'.heap ∧ (∀ b ∈ fp, H' b = none) ∧ W i n ys H') (fun n s' hI => ?_) m0
      ⟨0, none, [], _, I4, T.keep _ _ _ st (fun b hb o e => old4 b o (old3 b o e)), fun b hb => (f3 b hb).1, w0⟩
    obtain ⟨i, o, ys, H', I5, st5, fr5, w5⟩ := hI
    show wpAny _ X.A ((compTurn (.ListComp elt [⟨.Name x px, iter, ifs, 0⟩] scope pos) 0 (.ref it) (.ref s.heap.objs.size) (compEnvC scope (clOf X.env scope.names []) hp3.objs.size X.env)).onRaise (fun x => do noteFrame x (compEnvC scope (clOf X.env scope.names []) hp3.objs.size X.env); theTreesLotGoes x)) _ _ s'
    refine wpAny_noted ?_
    rw [compTurn_list, ← eEnv, ← ePr, ← eW, ← eA]
    refine wpAny_mono (E := fun _ _ => False) ?_ (fun _ _ q => q) (fun _ _ z => z.elim)
    obtain ⟨hpl, wt⟩ := turn i n ys H' w5
    refine wpAny_bind (wpAny_standAt (wpAny_bind ?_))
    rcases wt with ⟨stop, q⟩ | ⟨go, step⟩
    · have z := T.done X' ePr eW eK (by rw [← hX']; exact hc) i [] s' _ H' (fun _ _ => False) I5 (stat fr5) st5 stop
      rw [← ePr, ← eW] at z
      refine thn z fun r s6 zz => ?_
      obtain ⟨hr, I6⟩ := zz
      subst hr
      obtain ⟨J1, g1⟩ := back I6
      exact wpAny_pure (hRR _ _ H' s6 J1 g1 q)
    · have z := T.item X' ePr eW eK (by rw [← hX']; exact hc) i [] s' _ H' (fun _ _ => False) I5 (stat fr5) st5 go
      rw [← ePr, ← eW] at z
      refine thn z fun r s6 zz => ?_
      obtain ⟨u, hr, h6⟩ := zz
      subst hr
      refine wpAny_bind (thn h6 fun _ s7 zz => ?_)
      obtain ⟨v, H7, I7, r7, y7, st7, fr7⟩ := zz
      have I7' := I7.pinned (stat fr7) (T.obj _ _ st7)
      rw [← eXe]
      refine wpAny_bind (thn (hg' _ s7 _ H7 v u _ I7' r7 (show gName 0 v (o :: capS ci σ) H7 (fun σ8 H8 => σ8 = some v :: capS ci σ ∧ H8 = H7) from ⟨rfl, rfl⟩)) fun _ s8 zz => ?_)
      obtain ⟨σ8, H8, I8, e8, e8'⟩ := zz
      subst e8 e8'
      refine wpAny_bind (thn (ht' _ s8 _ _ _ I8 (step v _ y7)) fun b s9 zz => ?_)
      obtain ⟨H9, I9, q9⟩ := zz
      have tnK : ∀ {σ' : L2.St} {H' : Hp} {s' : Shared}, Inv X' (([] : List (Addr × Obj)) ++ pinsAt fp s7.heap) σ' H' s' → tn (i + 1) s'.heap ∧ ∀ b ∈ fp, H' b = none := fun {σ' H' s'} I' =>
        ⟨T.keep _ _ _ st7 fun b hb o e => (I'.pin (b, o) (List.mem_append_right _ (List.mem_append_right _ (mem_pinsAt hb e)))).1, fun b hb => by
          obtain ⟨ob, e, d⟩ := T.obj _ _ st7 b hb
          exact (I'.pin (b, ob) (List.mem_append_right _ (List.mem_append_right _ (mem_pinsAt hb e)))).2.1⟩
      cases b with
      | false =>
        obtain ⟨m', hm, w9⟩ := q9
        obtain ⟨t9, f9⟩ := tnK I9
        exact wpAny_pure ⟨rfl, m', hm, i + 1, _, ys, H9, I9.unpinned, t9, f9, w9⟩
      | true =>
        refine wpAny_bind (wpAny_bind (thn (he' _ s9 _ _ _ I9 q9) fun yv s10 zz => ?_))
        obtain ⟨y, H10, I10, r10, hp10, hz10, m', hm, w10⟩ := zz
        refine wpAny_bind (thn (mt_append (X := X') _ s10 _ H10 (.ref s.heap.objs.size) [y] (.ref s.heap.objs.size) [yv] (fun _ H11 => H11 = upd H10 s.heap.objs.size (.lst (ys ++ [y]))) I10 rfl (.cons r10 .nil) ⟨_, ys, y, rfl, rfl, hp10, hz10, rfl⟩) fun _ s11 zz => ?_)
        obtain ⟨_, H11, I11, _, e11⟩ := zz
        subst e11
        obtain ⟨t11, f11⟩ := tnK I11
        exact wpAny_pure (wpAny_pure ⟨rfl, m', hm, i + 1, _, ys ++ [y], _, I11.unpinned, t11, f11, w10⟩)
  exact codeAny_compStart_list loop (T.self _ 0 _ _ _ (T.keep _ _ _ st (fun b hb o e => old4 b o (old3 b o e))) loop)
noncomputable def tLC (wi : TI) (ci : List Nat) (tt : TT) (te : TE) : TE := fun σ H Q => wi σ H fun J H1 => LcW J ci tt te σ Q H1
theorem pe_lc {elt iter : Expr} {px pos : Pos} {ifs : List Expr} {wi : TI} {tt : TT} {te : TE} (hc : X.calm = true) (B : BlkOk X scope x cn ci) (hi : PI X (.Name x px) iter wi)
    (ht : ∀ cl C s H fp pn, PTs (blk X scope (x :: cn) cl C s H fp pn) ifs tt) (he : ∀ cl C s H fp pn, PE (blk X scope (x :: cn) cl C s H fp pn) elt te)
    (hs : ∀ x, foldedSetIterable iter X.env x = pure x := by rintro _; rfl) : PE X (.ListComp elt [⟨.Name x px, iter, ifs, 0⟩] scope pos) (tLC wi ci tt te) := by
  intro pins s σ H Q I h
  rw [eval_ListComp]
  refine wpAny_comprehension_free (use := none) rfl hs (closure_eq X.env scope B.free) B.kind B.names ?_
  refine thn (hi pins s σ H _ I h) fun v s1 h1 => thn h1 fun itv s2 h2 => ?_
  obtain ⟨it, fp, tn, J, H2, e, I2, T, st2, f2, w2⟩ := h2
  subst e
  refine lc_block (RR := fun acc C => compPost (model X.prog X.w) X.A X.xe none (EP X pins σ Q) acc C) I2 hc B T st2 f2 ht he w2 fun p C H' s' I' g q => ?_
  obtain ⟨m, hn⟩ := g.ns
  exact ⟨m, hn, fun h' hs' => ⟨.ref p, H', g.go I' hs', rfl, q⟩⟩
theorem ps_lcset {elt iter : Expr} {px py pos spos : Pos} {ifs : List Expr} {wi : TI} {tt : TT} {te : TE} {i : Nat} {y : Str} (hc : X.calm = true) (B : BlkOk X scope x cn ci) (hi : PI X (.Name x px) iter wi)
    (ht : ∀ cl C s H fp pn, PTs (blk X scope (x :: cn) cl C s H fp pn) ifs tt) (he : ∀ cl C s H fp pn, PE (blk X scope (x :: cn) cl C s H fp pn) elt te)
    (hN : X.N.Nodup) (hiN : X.N[i]? = some y) (hy : X.env.scope.names.lookup y = some .local)
    (hsw : swapsWith (.ListComp elt [⟨.Name x px, iter, ifs, 0⟩] scope pos) (some (.Name y py)) spos.line X.env = pure true := by rfl)
    (hs : ∀ x, foldedSetIterable iter X.env x = pure x := by rintro _; rfl) : PS X (.Assign [.Name y py] (.ListComp elt [⟨.Name x px, iter, ifs, 0⟩] scope pos) spos) (tAsg (tLC wi ci tt te) (gName i)) := by
  intro pins s σ H E I h
  rw [exec_Assign_Name_used _ _ _ _ hsw]
  refine wpAny_bind (wpAny_standAt (wpAny_bind ?_))
  show wpAny _ X.A (do let _ ← comprehension (.ListComp elt [⟨.Name x px, iter, ifs, 0⟩] scope pos) scope X.env _ (newList []) false (eval iter X.env) (some (assign (.Name y py) X.env))) _ _ s
  refine wpAny_bind (wpAny_mono (wpAny_comprehension_free (use := some (assign (.Name y py) X.env)) (Q := fun _ s' => SP X pins E .next s') rfl hs (closure_eq X.env scope B.free) B.kind B.names ?_) (fun _ s' hq => wpAny_pure (wpAny_pure hq)) fun _ _ e => e)
  refine thn (hi pins s σ H _ I h) fun v s1 h1 => thn h1 fun itv s2 h2 => ?_
  obtain ⟨it, fp, tn, J, H2, e, I2, T, st2, f2, w2⟩ := h2
  subst e
  refine lc_block (RR := fun acc C => compPost (model X.prog X.w) X.A X.xe (some (assign (.Name y py) X.env)) (fun _ s' => SP X pins E .next s') acc C) I2 hc B T st2 f2 ht he w2 fun p C H' s' I' g q => ?_
  show wpAny _ X.A (assign (.Name y py) X.env (.ref p)) _ _ _
  have hk : X.env.kindOf y = some .local := hy
  refine wpAny_assign_Name (store_ok2 I' hN hiN (.inl hy) (v := .ref p) (u := .ref p) rfl (fun s'' I'' ch => ?_) (.inr hy))
  obtain ⟨m, hn⟩ := g.ns
  obtain ⟨a, hsb, ha⟩ := ch
  have haC : C ≠ a := by
    rcases ha with ha | ha
    · rw [ha]; exact g.nl
    · exact Ne.symm (g.nc y a ha)
  have hn2 : s''.heap.Ns C m := hn.sameBut hsb haC
  exact ⟨m, hn2, fun h' hs' => ⟨_, H', Gone.go ⟨⟨m, hn2⟩, g.free, g.nl, g.up, g.nc, g.np⟩ I'' hs', q⟩⟩
end
noncomputable def capD (ci : List Nat) (σd : SD) : SD := ci.map fun i => (σd[i]?).join
open Classical in
noncomputable def compL (own : OwnD) (c0 : SD) (tt : TF) (te : EF) : List D → HD → Option (List D × HD)
  | [], H => if okOwn own H then some ([], H) else none
  | x :: r, H => if okOwn own H then (tt (some x :: c0) H).bind fun t => if t.1 = true then (te (some x :: c0) t.2).bind fun e => (compL own c0 tt te r e.2).map fun q => (e.1 :: q.1, q.2) else compL own c0 tt te r t.2 else none
noncomputable def eLC (it : ItF) (ci : List Nat) (tt : TF) (te : EF) : EF := fun σ H => (it σ H).bind fun p => (compL p.1.2 (capD ci σ) tt te p.1.1 p.2).bind fun q => mkL q.1 q.2
noncomputable def tYes : TF := fun _ H => some (true, H)
noncomputable def PTsf (X : Cx) (ifs : List Expr) (t : TF) : Prop := PTs X ifs (rdT X.K t)
section
variable {X : Cx} {scope : Scope} {x : Str} {cn : List Str} {ci : List Nat}
theorem ptsf_nil : PTsf X [] tYes := by
  rintro pins s σ H Q I ⟨ι, σd, Hd, b, Hd', sr, hr, e, q⟩
  cases e
  exact pts_nil pins s σ H Q I (q H ι Le.refl hr)
theorem ptsf_one {c : Expr} {t : TF} (h : PTf X c t) : PTsf X [c] t := pts_one h
theorem SRep.cap {K : PySem.W.Frag} {H : Hp} {ι : List Addr} {σ : L2.St} {σd : SD} {d : D} {v : V} (s : SRep K H ι σ σd) (r : Rep K H ι d v) : SRep K H ι (some v :: capS ci σ) (some d :: capD ci σd) := by
  refine ⟨by simp [capS, capD], fun i e h => ?_⟩
  cases i with
  | zero => simp at h; subst h; exact ⟨v, rfl, r⟩
  | succ j =>
    simp only [List.getElem?_cons_succ, capS, capD, List.getElem?_map] at h ⊢
    cases ej : ci[j]? with
    | none => rw [ej] at h; simp at h
    | some i =>
      rw [ej] at h
      simp only [Option.map_some, Option.some.injEq] at h ⊢
      cases es : σd[i]? with
      | none => rw [es] at h; simp at h
      | some o =>
        rw [es] at h
        simp at h
        subst h
        obtain ⟨u, h1, h2⟩ := s.var i e es
        exact ⟨u, by rw [h1]; rfl, h2⟩
theorem rd_lc {K : PySem.W.Frag} {it : ItF} {tt : TF} {te : EF} {σ : L2.St} {H : Hp} {Q : VK} (h : rdE K (eLC it ci tt te) σ H Q) : tLC (rdI K it) ci (rdT K tt) (rdE K te) σ H Q := by
  obtain ⟨ι, σd, Hd, d, Hd', s, hr, e, q⟩ := h
  obtain ⟨⟨⟨xs, own⟩, H1⟩, e1, e⟩ := Option.bind_eq_some_iff.mp e
  obtain ⟨⟨ds, H2⟩, e2, e⟩ := Option.bind_eq_some_iff.mp e
  obtain ⟨hz, e⟩ := mkL_some e
  cases e
  dsimp only at e2 hz
  refine ⟨ι, σd, Hd, xs, own, H1, s, hr, e1, fun J H0 ι0 l0 h0 itr p hp => ?_⟩
  have s0 := s.mono l0
  refine ⟨fun i m ys H => m = xs.length - i ∧ i ≤ xs.length ∧ H p = some (.lst ys) ∧ ∃ ι Hd done rest, Le K H0 ι0 H ι ∧ p ∉ ι ∧ HRep K H ι Hd ∧ Paired (Rep K H ι) done ys ∧ compL own (capD ci σd) tt te (xs.drop i) Hd = some (rest, H2) ∧ ds = done ++ rest,
    ⟨xs.length, by simp, Nat.zero_le _, upd_same, ι0, H1, [], ds, Le.fresh hp _, h0.fresh hp, h0.tup hp _, .nil, by simpa using e2, by simp⟩, ?_⟩
  rintro i m ys H5 ⟨rfl, hi, hpl, ι5, Hd5, done, rest, l5, np5, h5, pd5, e5, eds⟩
  refine ⟨hpl, ?_⟩
  by_cases hlt : i < xs.length
  · have ed : xs.drop i = xs[i] :: xs.drop (i + 1) := List.drop_eq_getElem_cons hlt
    rw [ed, compL] at e5
    split at e5
    · rename_i ok
      obtain ⟨⟨b6, H6⟩, e6, e5⟩ := Option.bind_eq_some_iff.mp e5
      refine .inr ⟨itr.go i H5 ι5 Hd5 l5 h5 ok hlt, fun v H' y => ?_⟩
      obtain ⟨ι6, l6, h6, r6⟩ := itr.yld i H5 ι5 Hd5 xs[i] v H' l5 h5 ok (by simp [hlt]) y
      obtain ⟨hp6, np6⟩ := l6.frame p _ hpl np5
      have s6 := SRep.cap (ci := ci) (s0.mono (l5.trans l6)) r6
      refine ⟨ι6, _, Hd5, b6, H6, s6, h6, e6, fun H7 ι7 l7 h7 => ?_⟩
      obtain ⟨hp7, np7⟩ := l7.frame p _ hp6 np6
      have L7 := (l5.trans l6).trans l7
      cases b6 with
      | true =>
        rw [if_pos rfl]
        dsimp only at e5
        rw [if_pos rfl] at e5
        obtain ⟨⟨d8, H8⟩, e8, e5⟩ := Option.bind_eq_some_iff.mp e5
        obtain ⟨⟨r9, H9⟩, e9, e5⟩ := Option.map_eq_some_iff.mp e5
        cases e5
        refine ⟨ι7, _, H6, d8, H8, s6.mono l7, h7, e8, fun v8 H8' ι8 l8 h8 rr8 => ?_⟩
        obtain ⟨hp8, np8⟩ := l8.frame p _ hp7 np7
        have ly : ys.length < sizeLine := by
          rw [← Prd.len pd5]
          rw [eds] at hz
          simp at hz
          omega
        have w8 : Lw K H8' ι8 (upd H8' p (.lst (ys ++ [v8]))) ι8 := Lw.side hp8 _
        refine ⟨hp8, ly, xs.length - (i + 1), by omega, rfl, hlt, upd_same, ι8, H8, done ++ [d8], r9, (L7.trans l8).side hp hp8 _, np8, h8.keep w8 (fun a ha => upd_ne fun z => by subst z; exact np8 ha), ?_, e9, by rw [eds]; simp⟩
        exact Prd.append (Prd.monoW w8 (Prd.mono ((l6.trans l7).trans l8) pd5)) (.cons (Rep.monoW w8 rr8) .nil)
      | false =>
        rw [if_neg (by simp)]
        dsimp only at e5
        rw [if_neg (by simp)] at e5
        exact ⟨xs.length - (i + 1), by omega, rfl, hlt, hp7, ι7, H6, done, rest, L7, np7, h7, Prd.mono (l6.trans l7) pd5, e5, eds⟩
    · cases e5
  · rw [List.drop_eq_nil_of_le (by omega), compL] at e5
    split at e5
    · rename_i ok
      have e6 : (([] : List D), Hd5) = (rest, H2) := Option.some.inj e5
      obtain ⟨rfl, rfl⟩ := Prod.mk.inj e6
      refine .inl ⟨itr.stop i H5 ι5 _ l5 h5 ok (by omega), ?_⟩
      have w5 : Lw K H5 ι5 H5 (ι5 ++ [p]) := ⟨fun _ _ z => z, fun _ _ z => z, ⟨[p], rfl⟩, fun _ _ _ z => z⟩
      have L := l0.trans l5
      simp at eds
      subst eds
      refine q _ H5 (ι5 ++ [p]) ⟨L.toLw.trans w5, fun a o ha na => ?_⟩ (h5.add np5 ⟨ys, hpl, Prd.monoW w5 pd5⟩) (rep_ref.mpr ⟨p, rfl, by rw [← h5.len]; simp⟩)
      obtain ⟨q1, q2⟩ := L.frame a o ha na
      refine ⟨q1, ?_⟩
      have : a ≠ p := fun z => by
        subst z
        have := (l0.frame a o ha na).1
        rw [hp] at this; cases this
      simp [q2, this]
    · cases e5
theorem pef_lc {elt iter : Expr} {px pos : Pos} {ifs : List Expr} {it : ItF} {tt : TF} {te : EF} (hc : X.calm = true) (B : BlkOk X scope x cn ci) (hi : PIf X (.Name x px) iter it)
    (ht : ∀ cl C s H fp pn, PTsf (blk X scope (x :: cn) cl C s H fp pn) ifs tt) (he : ∀ cl C s H fp pn, PEf (blk X scope (x :: cn) cl C s H fp pn) elt te)
    (hs : ∀ x, foldedSetIterable iter X.env x = pure x := by rintro _; rfl) : PEf X (.ListComp elt [⟨.Name x px, iter, ifs, 0⟩] scope pos) (eLC it ci tt te) :=
  PEi (pe_lc (tt := rdT X.K tt) (te := rdE X.K te) hc B hi ht he hs) fun _ _ _ h => rd_lc h
theorem psf_lcset {elt iter : Expr} {px py pos spos : Pos} {ifs : List Expr} {it : ItF} {tt : TF} {te : EF} {i : Nat} {y : Str} (hc : X.calm = true) (B : BlkOk X scope x cn ci) (hi : PIf X (.Name x px) iter it)
    (ht : ∀ cl C s H fp pn, PTsf (blk X scope (x :: cn) cl C s H fp pn) ifs tt) (he : ∀ cl C s H fp pn, PEf (blk X scope (x :: cn) cl C s H fp pn) elt te)
    (hN : X.N.Nodup) (hiN : X.N[i]? = some y) (hy : X.env.scope.names.lookup y = some .local)
    (hsw : swapsWith (.ListComp elt [⟨.Name x px, iter, ifs, 0⟩] scope pos) (some (.Name y py)) spos.line X.env = pure true := by rfl)
    (hs : ∀ x, foldedSetIterable iter X.env x = pure x := by rintro _; rfl) : PSf X (.Assign [.Name y py] (.ListComp elt [⟨.Name x px, iter, ifs, 0⟩] scope pos) spos) (sSet i (eLC it ci tt te)) := by
  refine PSi (ps_lcset (tt := rdT X.K tt) (te := rdE X.K te) hc B hi ht he hN hiN hy hsw hs) fun E σ H zz => ?_
  obtain ⟨ι, σd, Hd, fl, σd', Hd', s, hr, e, q⟩ := zz
  obtain ⟨⟨x, H1⟩, e1, e⟩ := Option.map_eq_some_iff.mp e
  cases e
  exact rd_lc ⟨ι, σd, Hd, x, H1, s, hr, e1, fun v H' ι' l h r => q _ H' ι' l h ((s.mono l).set r i)⟩
end
end DL
namespace DL
open PySem PySem.Spec PyProof.Rows L2
theorem noFillT : fillsNumberSlot (.type "tuple") "mul" = pure false :=
  PySem.fillsNumberSlot_seq (id := "tuple.__mul__") (r := some (.builtin "tuple.__rmul__")) F.slot_tuple_mul.lookup (by decide +kernel) F.slot_tuple_rmul.lookup (by decide +kernel)
theorem repT : seqRepeat? (.type "tuple") = pure (some (.builtin "tuple.__mul__")) := by
  unfold seqRepeat?
  rw [PySem.seqSlot_of (T := "tuple") (name := "__mul__") (id := "tuple.__mul__") F.slot_tuple_mul.lookup (by decide +kernel), PySem.seqSlot_of (T := "tuple") (name := "__rmul__") (id := "tuple.__rmul__") F.slot_tuple_rmul.lookup (by decide +kernel)]
  rfl
section
variable {dd : Option Addr} {sl : Array (Option Value)}
theorem rmulT (a : Int) (t : Tok) (l : Addr) (items : Array Value) (n : Nat) :
    Meets (Builtin.«int.__rmul__» ⟨[.int a t, .ref l], []⟩) (fun _ R s => s.heap.get? l = some { cls := .type "tuple", dict := dd, data := .seq items n, slots := sl } ∧ R (.ok (.ret Value.notImplemented)) s) :=
  .of_wp fun prog w A R s h => by obtain ⟨hp, g, d, tk, os⟩ := s; obtain ⟨hl, h⟩ := h; wp_walk; exact ⟨_, rfl, h⟩
theorem mulT_same (l : Addr) (items : Array Value) (n : Nat) (x : Int) (u : Tok) (h1 : (decide (x < -(2 ^ 63)) || decide (x ≥ 2 ^ 63)) = false) (h2 : (items.isEmpty || x == 1) = true) :
    Meets (Builtin.«tuple.__mul__» ⟨[.ref l, .int x u], []⟩) (fun _ R s => s.heap.get? l = some { cls := .type "tuple", dict := dd, data := .seq items n, slots := sl } ∧ R (.ok (.ret (.ref l))) s) :=
  .of_wp fun prog w A R s h => by
    obtain ⟨hp, g, d, tk, os⟩ := s; obtain ⟨hl, h⟩ := h
    have f1 := AutoSeq1.idx_int
    wp_walk
    simp only [h1, Bool.false_eq_true, if_false]
    wp_walk using wpAny_loadPart' hl
    simp only [h2, if_true]
    wp_walk using wpAny_loadPart' hl
    exact ⟨_, rfl, h⟩
theorem mulT_none (l : Addr) (items : Array Value) (n : Nat) (x : Int) (u : Tok) (h1 : (decide (x < -(2 ^ 63)) || decide (x ≥ 2 ^ 63)) = false) (h2 : (items.isEmpty || x == 1) = false) (h3 : (decide (x ≤ 0) || items.isEmpty) = true) :
    Meets (Builtin.«tuple.__mul__» ⟨[.ref l, .int x u], []⟩) (fun _ R s => s.heap.get? l = some { cls := .type "tuple", dict := dd, data := .seq items n, slots := sl } ∧ R (.ok (.ret (.ref s.heap.objs.size))) { s with heap := s.heap.push { cls := Value.type "tuple", data := Data.seq #[] } }) :=
  .of_wp fun prog w A R s h => by
    obtain ⟨hp, g, d, tk, os⟩ := s; obtain ⟨hl, h⟩ := h
    have f1 := AutoSeq1.idx_int
    wp_walk
    simp only [h1, Bool.false_eq_true, if_false]
    wp_walk using wpAny_loadPart' hl
    try simp only [h2, h3, Bool.false_eq_true, if_false, if_true]
    try (wp_walk using wpAny_loadPart' hl)
    exact ⟨_, rfl, h⟩
theorem mulT_new (l : Addr) (items : Array Value) (n : Nat) (x : Int) (u : Tok) (h1 : (decide (x < -(2 ^ 63)) || decide (x ≥ 2 ^ 63)) = false) (h2 : (items.isEmpty || x == 1) = false) (h3 : (decide (x ≤ 0) || items.isEmpty) = false) (h4 : ¬ (items.size * x : Int) > (2 ^ 63 - 1) / 8) (h5 : Builtin.Tuple.tupleTooMany (items.size * x) = false)
    (hs : (List.foldl (fun x1 x2 => x1 ++ x2) #[] (List.replicate x.toNat items)).size ≤ sizeLine) :
    Meets (Builtin.«tuple.__mul__» ⟨[.ref l, .int x u], []⟩) (fun _ R s => s.heap.get? l = some { cls := .type "tuple", dict := dd, data := .seq items n, slots := sl } ∧ R (.ok (.ret (.ref s.heap.objs.size))) { s with heap := s.heap.push { cls := Value.type "tuple", data := Data.seq (List.foldl (fun x1 x2 => x1 ++ x2) #[] (List.replicate x.toNat items)) } }) :=
  .of_wp fun prog w A R s h => by
    obtain ⟨hp, g, d, tk, os⟩ := s; obtain ⟨hl, h⟩ := h
    have f1 := AutoSeq1.idx_int
    wp_walk
    simp only [h1, Bool.false_eq_true, if_false]
    wp_walk using wpAny_loadPart' hl
    simp only [h2, h3, h5, Bool.false_eq_true, if_false, if_neg h4]
    wp_walk using wpAny_loadPart' hl
    exact ⟨_, rfl, h⟩
end
theorem foldl_reps (its : List Value) (m : Nat) : List.foldl (fun x1 x2 => x1 ++ x2) #[] (List.replicate m its.toArray) = (List.replicate m its).flatten.toArray := by
  have := foldl_rep its m []
  rw [List.nil_append] at this
  exact this
section
variable {prog : Program} {w : World} {A : Around} {E : Value → Shared → Prop} {s : Shared}
theorem mul_tup {l : Addr} {its : List Value} {k : Int} {t : Tok} {Q : Value → Shared → Prop} (p : IsTup s.heap l its.toArray) (h1 : -(2 ^ 63) ≤ k) (h2 : k < 2 ^ 63) (hz : its.length * k.toNat ≤ sizeLine)
    (qs : (its = [] ∨ k = 1) → Q (.ref l) s) (qn : its ≠ [] → k ≠ 1 → Q (.ref s.heap.objs.size) { s with heap := s.heap.push { cls := .type "tuple", data := .seq (List.replicate k.toNat its).flatten.toArray } }) :
    wpAny (model prog w) A (binaryOp .Mult (.ref l) (.int k t)) Q E s := by
  obtain ⟨o, e, hc, n, hd⟩ := p
  obtain ⟨c, dd, da, sl⟩ := o
  have hc' : c = .type "tuple" := hc
  have hd' : da = .seq its.toArray n := hd
  subst hc' hd'
  have b1 : (decide (k < -(2 ^ 63)) || decide (k ≥ 2 ^ 63)) = false := by simp; omega
  refine wpAny_binaryOp_repeat_ref (T := "tuple") (U := "int") (by decide) ⟨_, e, rfl⟩ (fun s' => typeIs_int s' k t) noFillT F.fills_int_mul F.slot_int_rmul repT F.slot_int_index.lookup
    (call_meets F.slot_int_rmul (typeIs_int s k t) F.entry_int_rmul (F.args_int_rmul_2 _ _) (rmulT k t l its.toArray n) ⟨e, rfl, ⟨_, e, rfl⟩, ?_⟩)
  by_cases hs : its = [] ∨ k = 1
  · exact call_meets F.slot_tuple_mul ⟨_, e, rfl⟩ F.entry_tuple_mul (F.args_tuple_mul_2 _ _) (mulT_same l its.toArray n k t b1 (by rcases hs with h | h <;> simp [h])) ⟨e, qs hs⟩
  · have hne : its ≠ [] := fun h => hs (.inl h)
    have hk : k ≠ 1 := fun h => hs (.inr h)
    have b2 : (its.toArray.isEmpty || k == 1) = false := by cases its <;> simp_all
    have new := qn hne hk
    by_cases h0 : k ≤ 0
    · have z : k.toNat = 0 := by omega
      rw [z] at new
      exact call_meets F.slot_tuple_mul ⟨_, e, rfl⟩ F.entry_tuple_mul (F.args_tuple_mul_2 _ _) (mulT_none l its.toArray n k t b1 b2 (by simp [h0])) ⟨e, new⟩
    · have sz : sizeLine = 16777216 := PySem.sizeLine_eq
      have hm : (its.toArray.size : Int) * k ≤ 16777216 := by
        have e1 : k = (k.toNat : Int) := by omega
        rw [List.size_toArray, e1, ← Int.natCast_mul]
        omega
      have b3 : (decide (k ≤ 0) || its.toArray.isEmpty) = false := by cases its <;> simp_all
      refine call_meets F.slot_tuple_mul ⟨_, e, rfl⟩ F.entry_tuple_mul (F.args_tuple_mul_2 _ _) (mulT_new l its.toArray n k t b1 b2 b3 (by omega) (by simp only [Builtin.Tuple.tupleTooMany, decide_eq_false_iff_not, sz]; omega) ?_) ⟨e, ?_⟩
      · rw [foldl_reps, List.size_toArray, len_rep, Nat.mul_comm]; exact hz
      · rw [foldl_reps]; exact new
end
variable {X : Cx}
noncomputable def rRepT (K : PySem.W.Frag) : R2 := fun x y H Q => ∃ l k xs, x = .ref l ∧ y = .int k ∧ SqT K H l xs ∧ -(2 ^ 63) ≤ k ∧ k < 2 ^ 63 ∧ xs.length * k.toNat ≤ sizeLine ∧ ((xs = [] ∨ k = 1) → Q (.ref l) H) ∧
  (xs ≠ [] → k ≠ 1 → ∀ p, H p = none → Q (.ref p) (upd H p (.tup (List.replicate k.toNat xs).flatten)))
theorem op_repT : OpR X (binaryOp .Mult) (rRepT X.K) := by
  intro pins s σ H x y v u Q I rx ry h
  obtain ⟨l, k, xs, rfl, rfl, ha, h1, h2, hz, q1, q2⟩ := h
  cases rx
  obtain ⟨t, rfl⟩ := ry
  obtain ⟨its, r1, p1, _⟩ := I.tuple ha
  refine mul_tup p1 h1 h2 (by rw [← r1.length]; exact hz) (fun z => ⟨.ref l, H, I, rfl, q1 (z.imp r1.nil_iff.mp id)⟩) (fun z zk => ?_)
  refine ⟨.ref s.heap.objs.size, _, I.laid (t' := s.toks) (o := .tup (List.replicate k.toNat xs).flatten) (fun b ob q => Heap.get?_push_of_some _ q) (Nat.le_refl _) ?_, rfl, q2 (fun w => z (r1.nil_iff.mpr w)) zk _ (I.hok.fresh (Nat.le_refl _))⟩
  exact ⟨by rw [len_rep, Nat.mul_comm]; exact hz, _, r1.rep k.toNat, IsTuN.new _ _⟩
end DL
namespace DL
open PySem PySem.Spec PyProof.Rows L2
section
variable {X : Cx}
noncomputable def iiD (C : Int → Int → Prop) [∀ i j, Decidable (C i j)] (g : Int → Int → D) : F2 := fun x y H => match x, y with
  | .int i, .int j => if C i j then some (g i j, H) else none
  | _, _ => none
theorem opf_ii {f : Value → Value → Sem Value} {C : Int → Int → Prop} [∀ i j, Decidable (C i j)] {g : Int → Int → Int} (h : OpR X f (rI C fun i j => .int (g i j))) : OpF X f (iiD C fun i j => .int (g i j)) := by
  refine OpRi h fun x y H Q zz => ?_
  obtain ⟨ι, dx, dy, Hd, d, Hd', hr, r1, r2, e, q⟩ := zz
  cases dx <;> cases dy <;> simp only [iiD] at e <;> try cases e
  rename_i i j
  split at e
  · rename_i hc
    cases e
    simp at r1 r2
    exact ⟨i, j, r1, r2, hc, q _ H ι Le.refl hr (by simp)⟩
  · cases e
noncomputable def CT (_ _ : Int) : Prop := True
instance : ∀ i j, Decidable (CT i j) := fun _ _ => instDecidableTrue
theorem rI0_of {f : Value → Value → Sem Value} {g : Int → Int → V} (h : OpR X f (rI0 g)) : OpR X f (rI CT g) := OpRi h fun x y H Q ⟨i, j, e1, e2, _, q⟩ => ⟨i, j, e1, e2, q⟩
theorem opf_ib {f : Value → Value → Sem Value} {g : Int → Int → Bool} (h : OpR X f (rI0 fun i j => .bl (g i j))) : OpF X f (iiD CT fun i j => .bl (g i j)) := by
  refine OpRi h fun x y H Q zz => ?_
  obtain ⟨ι, dx, dy, Hd, d, Hd', hr, r1, r2, e, q⟩ := zz
  cases dx <;> cases dy <;> simp only [iiD] at e <;> try cases e
  rename_i i j
  simp at r1 r2
  exact ⟨i, j, r1, r2, q _ H ι Le.refl hr (by simp)⟩
instance (i j : Int) : Decidable (CDiv i j) := by unfold CDiv; exact inferInstance
instance (i j : Int) : Decidable (CMul i j) := by unfold CMul; exact inferInstance
instance (i j : Int) : Decidable (CPow i j) := by unfold CPow; exact inferInstance
noncomputable def CPos (_ j : Int) : Prop := 0 < j
instance (i j : Int) : Decidable (CPos i j) := by unfold CPos; exact inferInstance
noncomputable def subD : F2 := iiD CT fun i j => .int (i - j)
noncomputable def fdivD : F2 := iiD CDiv fun i j => .int (i / j)
noncomputable def modD : F2 := iiD CPos fun i j => .int (i % j)
noncomputable def powD : F2 := iiD CPow fun i j => .int (i ^ j.toNat)
noncomputable def ltD : F2 := iiD CT fun i j => .bl (decide (i < j))
noncomputable def leD : F2 := iiD CT fun i j => .bl (decide (i ≤ j))
noncomputable def gtD : F2 := iiD CT fun i j => .bl (decide (j < i))
noncomputable def geD : F2 := iiD CT fun i j => .bl (decide (j ≤ i))
theorem opf_sub : OpF X (binaryOp .Sub) subD := opf_ii (rI0_of op_sub)
theorem opf_fdiv : OpF X (binaryOp .FloorDiv) fdivD := opf_ii op_fdiv
theorem opf_mod : OpF X (binaryOp .Mod) modD := opf_ii (C := CPos) op_mod
theorem opf_pow : OpF X (binaryOp .Pow) powD := opf_ii op_pow
theorem opf_lt : OpF X (compareOp .Lt) ltD := opf_ib op_lt
theorem opf_le : OpF X (compareOp .LtE) leD := opf_ib op_le
theorem opf_gt : OpF X (compareOp .Gt) gtD := opf_ib op_gt
theorem opf_ge : OpF X (compareOp .GtE) geD := opf_ib op_ge
noncomputable def negD : D → HD → Option (D × HD) := fun x H => match x with
  | .int i => some (.int (-i), H)
  | _ => none
theorem unf_neg : UnF X (unaryOp .USub) negD := by
  rintro pins s σ H x v Q I rx ⟨ι, dx, Hd, d, Hd', hr, r1, e, q⟩
  cases dx <;> simp only [negD] at e <;> try cases e
  simp at r1
  exact un_neg pins s σ H x v Q I rx ⟨_, r1, q _ H ι Le.refl hr (by simp)⟩
theorem cat_tup0 {prog : Program} {w : World} {A : Around} {E : Value → Shared → Prop} {s : Shared} {t b : Addr} {ws : List Value} {Q : Value → Shared → Prop} (ht : IsTup s.heap t #[]) (hb : IsTup s.heap b ws.toArray)
    (h1 : Q (.ref b) s) : wpAny (model prog w) A (binaryOp .Add (.ref t) (.ref b)) Q E s := by
  obtain ⟨⟨cls, dd, data, sl⟩, ho, hc, n, hd⟩ := id ht
  obtain ⟨⟨cls2, dd2, data2, sl2⟩, ho2, hc2, n2, hd2⟩ := id hb
  simp only at hc hd hc2 hd2
  subst hc hd hc2 hd2
  exact concat_meets ⟨_, ho, rfl⟩ ⟨_, ho2, rfl⟩ noFill_tuple_add seq_tuple_add PySem.F.slot_tuple_add PySem.F.entry_tuple_add (PySem.F.args_tuple_add_2 _ _)
      (tuple_addW0 t b #[] ws.toArray n n2 dd dd2 sl sl2 (by simp)) ⟨ho, ho2, h1⟩
noncomputable def addD : F2 := fun x y H => match x, y with
  | .int i, .int j => some (.int (i + j), H)
  | .str a, .str b => if a.length + b.length ≤ sizeLine then some (.str (a ++ b), H) else none
  | .tup a, .tup b => mkT (a ++ b) H
  | .ref n, .ref m => match H[n]?, H[m]? with
    | some (.lst a), some (.lst b) => mkL (a ++ b) H
    | _, _ => none
  | _, _ => none
theorem opf_add : OpF X (binaryOp .Add) addD := by
  rintro pins s σ H x y v u Q I rx ry ⟨ι, dx, dy, Hd, d, Hd', hr, r1, r2, e, q⟩
  cases dx <;> cases dy <;> simp only [addD] at e <;> try cases e
  · simp at r1 r2
    exact op_add pins s σ H x y v u Q I rx ry ⟨_, _, r1, r2, q _ H ι Le.refl hr (by simp)⟩
  · simp at r1 r2
    split at e
    · rename_i hl
      cases e
      exact op_add_str pins s σ H x y v u Q I rx ry ⟨_, _, r1, r2, hl, q _ H ι Le.refl hr (by simp)⟩
    · cases e
  · rename_i as bs
    obtain ⟨a, vs, rfl, h1, p1⟩ := rep_tup.mp r1
    obtain ⟨b, ws, rfl, h2, p2⟩ := rep_tup.mp r2
    cases p1 with
    | nil =>
      obtain ⟨hl, e⟩ := mkT_some e
      simp only [List.nil_append, Prod.mk.injEq] at e
      obtain ⟨rfl, rfl⟩ := e
      cases rx
      cases ry
      obtain ⟨its, q1, t1, _⟩ := I.tuple h1
      obtain ⟨its2, q2, t2, _⟩ := I.tuple h2
      cases q1
      exact cat_tup0 t1 t2 ⟨.ref b, H, I, rfl, q _ H ι Le.refl hr r2⟩
    | cons p p' =>
      have P := Prd.append (.cons p p') p2
      obtain ⟨hl, e'⟩ := mkT_some e
      cases p2 with
      | nil =>
        simp only [List.append_nil, Prod.mk.injEq] at e'
        obtain ⟨rfl, rfl⟩ := e'
        refine op_catT pins s σ H _ _ v u Q I rx ry ⟨a, b, _, _, rfl, rfl, h1, h2, by simp, ?_, fun _ => q _ H ι Le.refl hr r1, fun z => absurd rfl z⟩
        have := Prd.len P
        simp only [List.append_nil] at this hl
        simp only [List.length_nil]
        omega
      | cons p3 p4 =>
        obtain ⟨k1, k2⟩ := new_tup hr P e q
        refine op_catT pins s σ H _ _ v u Q I rx ry ⟨a, b, _, _, rfl, rfl, h1, h2, by simp, ?_, fun z => absurd z (by simp), fun _ => k2⟩
        rw [← List.length_append]; exact k1
  · rename_i n m
    obtain ⟨a, rfl, ha⟩ := rep_ref.mp r1
    obtain ⟨b, rfl, hb⟩ := rep_ref.mp r2
    split at e
    · rename_i as bs e1 e2
      obtain ⟨vs, h1, p1⟩ := hr.obj n a _ ha e1
      obtain ⟨ws, h2, p2⟩ := hr.obj m b _ hb e2
      obtain ⟨k1, k2⟩ := new_lst hr (Prd.append p1 p2) e q
      exact op_cat pins s σ H _ _ v u Q I rx ry ⟨a, b, vs, ws, rfl, rfl, h1, h2, by rw [← List.length_append]; exact k1, k2⟩
    · cases e
noncomputable def mulD : F2 := fun x y H => match x, y with
  | .int i, .int j => if CMul i j then some (.int (i * j), H) else none
  | .ref n, .int k => match H[n]? with
    | some (.lst a) => if -(2 ^ 63) ≤ k ∧ k < 2 ^ 63 ∧ a.length * k.toNat ≤ sizeLine then mkL (List.replicate k.toNat a).flatten H else none
    | _ => none
  | .tup a, .int k => if -(2 ^ 63) ≤ k ∧ k < 2 ^ 63 ∧ a.length * k.toNat ≤ sizeLine then mkT (List.replicate k.toNat a).flatten H else none
  | _, _ => none
theorem opf_mul : OpF X (binaryOp .Mult) mulD := by
  rintro pins s σ H x y v u Q I rx ry ⟨ι, dx, dy, Hd, d, Hd', hr, r1, r2, e, q⟩
  cases dx <;> cases dy <;> simp only [mulD] at e <;> try cases e
  · simp at r1 r2
    split at e
    · rename_i hc
      cases e
      exact op_mul pins s σ H x y v u Q I rx ry ⟨_, _, r1, r2, hc, q _ H ι Le.refl hr (by simp)⟩
    · cases e
  · rename_i as k
    obtain ⟨a, vs, rfl, h1, p1⟩ := rep_tup.mp r1
    simp at r2
    split at e
    · rename_i hc
      have hlen := Prd.len p1
      obtain ⟨k1, k2⟩ := new_tup hr (Prd.rep p1 k.toNat) e q
      refine op_repT pins s σ H _ _ v u Q I rx ry ⟨a, k, vs, rfl, r2, h1, hc.1, hc.2.1, by rw [← hlen]; exact hc.2.2, fun z => ?_, fun _ _ => k2⟩
      obtain ⟨_, e'⟩ := mkT_some e
      have hf : (List.replicate k.toNat as).flatten = as := by
        rcases z with z | z
        · have : as = [] := List.eq_nil_of_length_eq_zero (by rw [hlen, z]; rfl)
          subst this
          simp
        · subst z
          simp
      rw [hf] at e'
      cases e'
      exact q _ H ι Le.refl hr r1
    · cases e
  · rename_i n k
    obtain ⟨a, rfl, ha⟩ := rep_ref.mp r1
    simp at r2
    split at e
    · rename_i as e1
      obtain ⟨vs, h1, p1⟩ := hr.obj n a _ ha e1
      split at e
      · rename_i hc
        obtain ⟨k1, k2⟩ := new_lst hr (Prd.rep p1 _) e q
        exact op_rep pins s σ H _ _ v u Q I rx ry ⟨a, k, vs, rfl, r2, h1, hc.1, hc.2.1, by rw [← Prd.len p1]; exact hc.2.2, k2⟩
      · cases e
    · cases e
noncomputable def seqD : D → HD → Option (List D)
  | .tup xs, _ => some xs
  | .fl xs, _ => some xs
  | .ref n, H => match H[n]? with
    | some (.lst xs) => some xs
    | _ => none
  | _, _ => none
theorem seq_rd {K : PySem.W.Frag} {H : Hp} {ι : List Addr} {Hd : HD} {d : D} {xs : List D} {v : V} (hr : HRep K H ι Hd) (r : Rep K H ι d v) (e : seqD d Hd = some xs) : ∃ p vs, v = .ref p ∧ (SqL K H p vs ∨ SqT K H p vs) ∧ Paired (Rep K H ι) xs vs := by
  cases d with
  | tup ys => cases e; obtain ⟨a, vs, rfl, h, p⟩ := rep_tup.mp r; exact ⟨a, vs, rfl, .inr h, p⟩
  | fl ys => cases e; obtain ⟨a, vs, rfl, h, p⟩ := rep_fl.mp r; exact ⟨a, vs, rfl, .inl h.sq, p⟩
  | ref n =>
    obtain ⟨a, rfl, ha⟩ := rep_ref.mp r
    simp only [seqD] at e
    split at e
    · rename_i ys e1
      cases e
      obtain ⟨vs, h1, p1⟩ := hr.obj n a _ ha e1
      exact ⟨a, vs, rfl, .inl (SqL.of h1), p1⟩
    · cases e
  | _ => simp [seqD] at e
theorem prd_atI {α β : Type} {F : α → β → Prop} {xs : List α} {us : List β} {i : Int} {x : α} (r : Paired F xs us) (h : atI xs i = some x) : ∃ u, atI us i = some u ∧ F x u := by
  unfold atI at h ⊢
  rw [← Prd.len r]
  obtain ⟨j, h1, h2⟩ := Option.bind_eq_some_iff.mp h
  obtain ⟨u, h3, h4⟩ := Prd.get r h2
  exact ⟨u, by rw [h1]; exact h3, h4⟩
noncomputable def ixD : F2 := fun x y H => match y with
  | .int i => (seqD x H).bind fun xs => (atI xs i).map fun d => (d, H)
  | _ => none
theorem ixf : IxF X ixD := by
  rintro va sl pins s σ H x y v u Q I rx ry ⟨ι, dx, dy, Hd, d, Hd', hr, r1, r2, e, q⟩ hs
  cases dy <;> simp only [ixD] at e <;> try cases e
  rename_i i
  simp at r2
  obtain ⟨xs, e1, e⟩ := Option.bind_eq_some_iff.mp e
  obtain ⟨d', e2, e⟩ := Option.map_eq_some_iff.mp e
  obtain ⟨rfl, rfl⟩ := Prod.mk.inj e
  obtain ⟨p, vs, rfl, h, P⟩ := seq_rd hr r1 e1
  obtain ⟨z, hz, rz⟩ := prd_atI P e2
  rcases h with h | h
  · exact ix_list va sl pins s σ H _ _ v u Q I rx ry ⟨p, vs, i, z, rfl, r2, h, hz, q _ H ι Le.refl hr rz⟩ hs
  · exact ix_tup va sl pins s σ H _ _ v u Q I rx ry ⟨p, vs, i, z, rfl, r2, h, hz, q _ H ι Le.refl hr rz⟩ hs
noncomputable def setD : FSet := fun o i v H => match o, i with
  | .ref n, .int k => match H[n]? with
    | some (.lst xs) => (ixN xs.length k).map fun j => H.set n (.lst (xs.set j v))
    | _ => none
  | _, _ => none
noncomputable def cutD (xs : List D) (lo hi : Option Int) : List D := (xs.drop (HT.sIx xs.length 0 lo)).take (HT.sIx xs.length xs.length hi - HT.sIx xs.length 0 lo)
theorem prd_cut {K : PySem.W.Frag} {H : Hp} {ι : List Addr} {xs : List D} {vs : List V} (P : Paired (Rep K H ι) xs vs) (lo hi : Option Int) : Paired (Rep K H ι) (cutD xs lo hi) (cutV vs lo hi) := by
  unfold cutD cutV
  rw [← Prd.len P]
  exact Prd.take _ (Prd.drop _ P)
noncomputable abbrev OF := SD → HD → Option (Option Int × HD)
noncomputable def rdO (K : PySem.W.Frag) (f : OF) : TO := fun σ H Q => ∃ ι σd Hd o Hd', SRep K H ι σ σd ∧ HRep K H ι Hd ∧ f σd Hd = some (o, Hd') ∧ ∀ H' ι', Le K H ι H' ι' → HRep K H' ι' Hd' → Q o H'
noncomputable def POf (X : Cx) (e : Option Expr) (f : OF) : Prop := PO X e (rdO X.K f)
noncomputable def oNone : OF := fun _ H => some (none, H)
noncomputable def oSome (f : EF) : OF := fun σ H => (f σ H).bind fun p => match p.1 with
  | .int i => some (some i, p.2)
  | _ => none
theorem pof_none : POf X none oNone := by
  rintro pins s σ H Q I ⟨ι, σd, Hd, o, Hd', sr, hr, e, q⟩
  cases e
  exact po_none pins s σ H Q I (q H ι Le.refl hr)
theorem pof_some {e : Expr} {f : EF} (h : PEf X e f) : POf X (some e) (oSome f) := by
  rintro pins s σ H Q I ⟨ι, σd, Hd, o, Hd', sr, hr, e, q⟩
  obtain ⟨⟨d, H1⟩, e1, e⟩ := Option.bind_eq_some_iff.mp e
  cases d <;> try cases e
  rename_i i
  exact po_some h pins s σ H Q I ⟨ι, σd, Hd, _, _, sr, hr, e1, fun v H' ι' l h r => ⟨i, by simpa using r, q H' ι' l h⟩⟩
noncomputable def slD (x : D) (lo hi : Option Int) (H : HD) : Option (D × HD) := match x with
  | .tup xs => some (.tup (cutD xs lo hi), H)
  | .fl xs => some (.ref H.length, H ++ [.lst (cutD xs lo hi)])
  | .ref n => match H[n]? with
    | some (.lst xs) => some (.ref H.length, H ++ [.lst (cutD xs lo hi)])
    | _ => none
  | _ => none
theorem getItem_tuple_whole {prog : Program} {w : World} {A : Around} {E : Value → Shared → Prop} {s : Shared} {t sl : Addr} {items : Array Value} {vl vu : Value} {lo hi : Option Int} {Q : Value → Shared → Prop} (ht : IsTup s.heap t items) (hs : s.heap.IsSliceOf sl vl vu .none) (pl : IsPart vl lo) (pu : IsPart vu hi)
    (hw : HT.sIx items.size 0 lo = 0 ∧ HT.sIx items.size items.size hi = items.size) (h : Q (.ref t) s) : wpAny (model prog w) A (getItem (.ref t) (.ref sl)) Q E s := by
  obtain ⟨os, hos, hcs, hds⟩ := id hs
  have hTs : s.TypeIs (.ref sl) "slice" := ⟨os, hos, hcs⟩
  obtain ⟨ot, hot, hct, nt, hdt⟩ := id ht
  unfold getItem
  try with_reducible refine wpAny_holding ?_
  first | refine wpAny_bind (wpAny_pure ?_) | skip
  refine wpAny_bind (wpAny_sequenceKey ht.typeIs (by decide) ?_)
  refine wpAny_bind (wpAny_callSpecial?_slot (name := Str.ofString "__getitem__") ht.typeIs PyProof.Rows.slot_tuple_getitem
    (wpAny_call_entry PyProof.Rows.slot_tuple_getitem ht.typeIs entry_tuple_getitem ?_ (args_tuple_getitem _ _)))
  show wpAny _ _ (Builtin.Tuple.tupleItemsOf (.ref t) >>= _) _ _ s
  refine wpAny_bind (tupleItemsOf_ ht ?_)
  refine wpAny_bind (wpAny_typeOf hTs ?_)
  rw [if_pos (by decide)]
  refine wpAny_bind (HT.sliceApplied_gen hs pl pu ?_)
  show wpAny _ _ (if (((HT.sIx items.size 0 lo : Nat) : Int) == 0 && (1 : Int) == 1 && (HT.sIx items.size items.size hi - HT.sIx items.size 0 lo) == items.size) = true then _ else _) _ _ s
  rw [if_pos (by rw [hw.1, hw.2]; simp)]
  show wpAny _ _ (Builtin.Tuple.tupleIsExact (Value.ref t) >>= _) _ _ s
  unfold Builtin.Tuple.tupleIsExact
  refine wpAny_bind (wpAny_bind (wpAny_typeOf ht.typeIs (wpAny_pure ?_)))
  rw [if_pos (by decide)]
  exact wpAny_bind (wpAny_rule (wpAny_pure ⟨_, rfl, wpAny_pure h⟩))
theorem cutD_whole {xs : List D} {lo hi : Option Int} (h : HT.sIx xs.length 0 lo = 0 ∧ HT.sIx xs.length xs.length hi = xs.length) : cutD xs lo hi = xs := by
  unfold cutD
  rw [h.1, h.2]; simp
noncomputable def rdSl (K : PySem.W.Frag) : V → Option Int → Option Int → Hp → VK → Prop := fun x lo hi H Q => ∃ ι dx Hd d Hd', HRep K H ι Hd ∧ Rep K H ι dx x ∧ slD dx lo hi Hd = some (d, Hd') ∧ QE K H ι d Hd' Q
theorem slf : SlR X (rdSl X.K) := by
  rintro pins s σ H x v vl vu lo hi sl Q I rx hs pl pu ⟨ι, dx, Hd, d, Hd', hr, r, e, q⟩
  have lists : ∀ {a : Addr} {xs : List D} {vs : List V}, x = .ref a → SqL X.K H a vs → Paired (Rep X.K H ι) xs vs → (D.ref Hd.length, Hd ++ [DO.lst (cutD xs lo hi)]) = (d, Hd') →
      ∃ T id, typeLookup (.type T) "__getitem__" = pure (some (.builtin id)) ∧ s.TypeIs v T ∧ wpAny (model X.prog X.w) X.A (getItem v (.ref sl)) (EP X pins σ Q) X.xe s := fun {a xs vs} ex h P e => by
    obtain ⟨_, _, _, hz⟩ := I.list h
    have hz2 : (cutD xs lo hi).length ≤ sizeLine := by
      rw [Prd.len (prd_cut P lo hi)]
      exact Nat.le_trans (cutV_length vs lo hi) hz
    obtain ⟨k1, k2⟩ := new_lst hr (prd_cut P lo hi) (show mkL (cutD xs lo hi) Hd = some (d, Hd') by unfold mkL; rw [if_pos hz2, e]) q
    exact sl_list pins s σ H x v vl vu lo hi sl Q I rx hs pl pu ⟨a, vs, ex, h, k2⟩
  cases dx with
  | tup xs =>
    obtain ⟨a, vs, rfl, h, P⟩ := rep_tup.mp r
    simp only [slD, Option.some.injEq] at e
    obtain ⟨its, rv, ht, hz⟩ := I.tuple h
    have hlen : its.toArray.size = vs.length := by rw [List.size_toArray]; exact rv.length.symm
    by_cases hw : HT.sIx vs.length 0 lo = 0 ∧ HT.sIx vs.length vs.length hi = vs.length
    · cases rx
      refine ⟨"tuple", _, PyProof.Rows.slot_tuple_getitem.lookup, ht.typeIs, getItem_tuple_whole ht hs pl pu (by rw [hlen]; exact hw) ?_⟩
      rw [cutD_whole (by rw [Prd.len P]; exact hw)] at e
      obtain ⟨rfl, rfl⟩ := Prod.mk.inj e
      exact ⟨.ref a, H, I, rfl, q _ H ι Le.refl hr r⟩
    · have hz2 : (cutD xs lo hi).length ≤ sizeLine := by
        rw [Prd.len (prd_cut P lo hi)]
        exact Nat.le_trans (cutV_length vs lo hi) hz
      obtain ⟨k1, k2⟩ := new_tup hr (prd_cut P lo hi) (show mkT (cutD xs lo hi) Hd = some (d, Hd') by unfold mkT; rw [if_pos hz2, e]) q
      exact sl_tup pins s σ H _ v vl vu lo hi sl Q I rx hs pl pu ⟨a, vs, rfl, h, hw, k2⟩
  | fl xs =>
    obtain ⟨a, vs, rfl, h, P⟩ := rep_fl.mp r
    simp only [slD, Option.some.injEq] at e
    exact lists rfl h.sq P e
  | ref n =>
    obtain ⟨a, rfl, ha⟩ := rep_ref.mp r
    simp only [slD] at e
    split at e
    · rename_i xs e1
      obtain ⟨vs, h1, P⟩ := hr.obj n a _ ha e1
      exact lists rfl (SqL.of h1) P (Option.some.inj e)
    · cases e
  | _ => simp [slD] at e
noncomputable def eSl (fe : EF) (fl fh : OF) : EF := fun σ H => (fe σ H).bind fun p => (fl σ p.2).bind fun l => (fh σ l.2).bind fun h => slD p.1 l.1 h.1 h.2
theorem pef_slice {e : Expr} {lo hi : Option Expr} {fe : EF} {fl fh : OF} {pos p2 : Pos} (he : PEf X e fe) (hl : POf X lo fl) (hu : POf X hi fh) : PEf X (.Subscript e (.Slice lo hi none p2) pos) (eSl fe fl fh) := by
  refine PEi (pe_slice slf he hl hu) fun σ H Q zz => ?_
  obtain ⟨ι, σd, Hd, d, Hd', s, hr, e, q⟩ := zz
  obtain ⟨⟨x, H1⟩, e1, e⟩ := Option.bind_eq_some_iff.mp e
  obtain ⟨⟨y, H2⟩, e2, e⟩ := Option.bind_eq_some_iff.mp e
  obtain ⟨⟨z, H3⟩, e3, e⟩ := Option.bind_eq_some_iff.mp e
  exact ⟨ι, σd, Hd, x, H1, s, hr, e1, fun v1 H1' ι1 l1 h1 r1 => ⟨ι1, σd, H1, y, H2, s.mono l1, h1, e2, fun H2' ι2 l2 h2 => ⟨ι2, σd, H2, z, H3, s.mono (l1.trans l2), h2, e3, fun H3' ι3 l3 h3 =>
    ⟨ι3, x, H3, d, Hd', h3, r1.mono (l2.trans l3), e, fun v H' ι' l h r => q v H' ι' (((l1.trans l2).trans l3).trans l) h r⟩⟩⟩⟩
noncomputable def lenD : FF := fun ds H => match ds with
  | [.str x] => if x.length ≤ sizeLine then some (.int x.length, H) else none
  | [d] => (seqD d H).map fun xs => (.int xs.length, H)
  | _ => none
theorem prd1 {K : PySem.W.Frag} {H : Hp} {ι : List Addr} {d : D} {vs : List V} (P : Paired (Rep K H ι) [d] vs) : ∃ v, vs = [v] ∧ Rep K H ι d v := by
  cases P with
  | cons r t => cases t; exact ⟨_, rfl, r⟩
theorem prd2 {K : PySem.W.Frag} {H : Hp} {ι : List Addr} {d d' : D} {vs : List V} (P : Paired (Rep K H ι) [d, d'] vs) : ∃ v v', vs = [v, v'] ∧ Rep K H ι d v ∧ Rep K H ι d' v' := by
  cases P with
  | cons r t => obtain ⟨v, rfl, r'⟩ := prd1 t; exact ⟨_, _, rfl, r, r'⟩
theorem callf_len : CallF X (.builtin "len") lenD := by
  rintro pins s σ H xs us Q I rv ⟨ι, ds, Hd, d, Hd', hr, P, e, q⟩
  unfold lenD at e
  split at e
  · obtain ⟨v, rfl, r⟩ := prd1 P
    simp at r
    subst r
    split at e
    · rename_i hl
      cases e
      exact call_len_str pins s σ H _ us Q I rv ⟨_, rfl, hl, q _ H ι Le.refl hr (by simp)⟩
    · cases e
  · obtain ⟨v, rfl, r⟩ := prd1 P
    obtain ⟨ys, e1, e⟩ := Option.map_eq_some_iff.mp e
    obtain ⟨rfl, rfl⟩ := Prod.mk.inj e
    obtain ⟨p, vs, rfl, h, P2⟩ := seq_rd hr r e1
    exact call_len_seq pins s σ H _ us Q I rv ⟨p, vs, rfl, h, q _ H ι Le.refl hr (by simp [Prd.len P2])⟩
  · cases e
noncomputable def absD : FF := fun ds H => match ds with
  | [.int i] => some (.int (if i < 0 then -i else i), H)
  | _ => none
theorem callf_abs : CallF X (.builtin "abs") absD := by
  rintro pins s σ H xs us Q I rv ⟨ι, ds, Hd, d, Hd', hr, P, e, q⟩
  unfold absD at e
  split at e
  · obtain ⟨v, rfl, r⟩ := prd1 P
    simp at r
    subst r
    cases e
    exact call_abs pins s σ H _ us Q I rv ⟨_, rfl, q _ H ι Le.refl hr (by simp)⟩
  · cases e
noncomputable def maxD : FF := fun ds H => match ds with
  | [.int i, .int j] => some (.int (if j > i then j else i), H)
  | _ => none
noncomputable def minD : FF := fun ds H => match ds with
  | [.int i, .int j] => some (.int (if j < i then j else i), H)
  | _ => none
theorem callf_max (hc : X.calm = true) : CallF X (.builtin "max") maxD := by
  rintro pins s σ H xs us Q I rv ⟨ι, ds, Hd, d, Hd', hr, P, e, q⟩
  unfold maxD at e
  split at e
  · obtain ⟨v, v', rfl, r, r'⟩ := prd2 P
    simp at r r'
    subst r r'
    cases e
    exact call_max2 hc pins s σ H _ us Q I rv ⟨_, _, rfl, q _ H ι Le.refl hr (by simp)⟩
  · cases e
noncomputable def intD : FF := fun ds H => match ds with
  | [.int i] => some (.int i, H)
  | [.bl b] => some (.int (if b then 1 else 0), H)
  | _ => none
theorem callf_int : CallF X (.type "int") intD := by
  rintro pins s σ H xs us Q I rv ⟨ι, ds, Hd, d, Hd', hr, P, e, q⟩
  unfold intD at e
  split at e
  · obtain ⟨v, rfl, r⟩ := prd1 P
    simp at r
    subst r
    cases e
    exact call_int1 pins s σ H _ us Q I rv (.inl ⟨_, rfl, q _ H ι Le.refl hr (by simp)⟩)
  · obtain ⟨v, rfl, r⟩ := prd1 P
    simp at r
    subst r
    cases e
    exact call_int1 pins s σ H _ us Q I rv (.inr ⟨_, rfl, q _ H ι Le.refl hr (by simp)⟩)
  · cases e
theorem seq_size {pins : List (Addr × Obj)} {s : Shared} {σ : L2.St} {H : Hp} {p : Addr} {vs : List V} (I : Inv X pins σ H s) (h : SqL X.K H p vs ∨ SqT X.K H p vs) : vs.length ≤ sizeLine := by
  rcases h with h | h
  · obtain ⟨_, _, _, z⟩ := I.list h; exact z
  · obtain ⟨_, _, _, z⟩ := I.tuple h; exact z
noncomputable def tupleD : FF := fun ds H => match ds with
  | [d] => (seqD d H).map fun xs => (.tup xs, H)
  | _ => none
theorem callf_tuple : CallF X (.type "tuple") tupleD := by
  rintro pins s σ H xs us Q I rv ⟨ι, ds, Hd, d, Hd', hr, P, e, q⟩
  unfold tupleD at e
  split at e
  · rename_i d0
    obtain ⟨v, rfl, r⟩ := prd1 P
    obtain ⟨ys, e1, e⟩ := Option.map_eq_some_iff.mp e
    obtain ⟨p, vs, rfl, h, P2⟩ := seq_rd hr r e1
    obtain ⟨k1, k2⟩ := new_tup hr P2 (show mkT ys Hd = some (d, Hd') by unfold mkT; rw [if_pos (by rw [Prd.len P2]; exact seq_size I h), e]) q
    refine call_tuple_of pins s σ H _ us Q I rv ⟨p, vs, rfl, ?_⟩
    rcases h with h | h
    · exact .inl ⟨h, k2⟩
    · obtain ⟨rfl, rfl⟩ := Prod.mk.inj e
      exact .inr ⟨h, q _ H ι Le.refl hr (rep_tup.mpr ⟨p, vs, rfl, h, P2⟩)⟩
  · cases e
noncomputable def appendD (x : D) (ds : List D) (H : HD) : Option (D × HD) := match x, ds with
  | .ref n, [d] => match H[n]? with
    | some (.lst xs) => if xs.length < sizeLine then some (.non, H.set n (.lst (xs ++ [d]))) else none
    | _ => none
  | _, _ => none
theorem mtf_append : MtF X "list.append" appendD := by
  rintro pins s σ H x xs v us Q I rx rv ⟨ι, dx, ds, Hd, d, Hd', hr, r1, P, e, q⟩
  unfold appendD at e
  split at e
  · rename_i n d1
    obtain ⟨a, rfl, ha⟩ := rep_ref.mp r1
    obtain ⟨z, rfl, rz⟩ := prd1 P
    split at e
    · rename_i ys e1
      split at e
      · rename_i hl
        cases e
        obtain ⟨vs, h1, P1⟩ := hr.obj n a _ ha e1
        refine mt_append pins s σ H _ _ v us Q I rx rv ⟨a, vs, z, rfl, rfl, h1, by rw [← Prd.len P1]; exact hl, ?_⟩
        have L : Le X.K H ι (upd H a (.lst (vs ++ [z]))) ι := Le.upd (List.mem_of_getElem? ha) h1 trivial _
        exact q _ _ ι L (hr.upd ha h1 trivial ⟨_, upd_same, Prd.append (Prd.mono L P1) (.cons (rz.mono L) .nil)⟩) (by simp)
      · cases e
    · cases e
  · cases e
noncomputable def popD (x : D) (ds : List D) (H : HD) : Option (D × HD) := match x, ds with
  | .ref n, [.int i] => match H[n]? with
    | some (.lst xs) => if -(2 ^ 63) ≤ i ∧ i < 2 ^ 63 then (seqIndex? i xs.length).bind fun k => (xs[k]?).map fun d => (d, H.set n (.lst (xs.eraseIdx k))) else none
    | _ => none
  | _, _ => none
end
end DL
namespace DL
open PySem PySem.Spec PyProof.Rows L2
mutual
noncomputable def toP (H : HD) : Nat → D → Option PyData
  | _, .non => some .none
  | _, .bl b => some (.bool b)
  | _, .int i => some (.int i)
  | _, .str x => some (.str x)
  | _, .ty _ => none
  | n, .tup xs => (toPs H n xs).map .tuple
  | n, .fl xs => (toPs H n xs).map .list
  | 0, .ref _ => none
  | n + 1, .ref k => match H[k]? with
    | some (.lst xs) => (toPs H n xs).map .list
    | _ => none
termination_by n d => (n, sizeOf d)
noncomputable def toPs (H : HD) : Nat → List D → Option (List PyData)
  | _, [] => some []
  | n, d :: ds => (toP H n d).bind fun x => (toPs H n ds).map fun r => x :: r
termination_by n ds => (n, sizeOf ds)
end
section
variable {X : Cx} {pins : List (Addr × Obj)} {σ : L2.St} {H : Hp} {s : Shared} {ι : List Addr} {Hd : HD}
mutual
theorem reads_of (I : Inv X pins σ H s) (hr : HRep X.K H ι Hd) : ∀ (n : Nat) (d : D) {x : PyData} {v : V} {u : Value}, toP Hd n d = some x → Rep X.K H ι d v → RelV v u → ∃ as, Reads s.heap u x as
  | n, .non, x, v, u, e, r, q => by
    rw [toP] at e; cases e; simp at r; subst r; cases q; exact ⟨_, .none⟩
  | n, .bl b, x, v, u, e, r, q => by
    rw [toP] at e; cases e; simp at r; subst r; cases q; exact ⟨_, .bool b⟩
  | n, .int i, x, v, u, e, r, q => by
    rw [toP] at e; cases e; simp at r; subst r; obtain ⟨t, rfl⟩ := q; exact ⟨_, .int i t⟩
  | n, .str z, x, v, u, e, r, q => by
    rw [toP] at e; cases e; simp at r; subst r; obtain ⟨t, rfl⟩ := q; exact ⟨_, .str z t⟩
  | n, .ty _, x, v, u, e, r, q => by rw [toP] at e; cases e
  | n, .tup xs, x, v, u, e, r, q => by
    rw [toP] at e
    obtain ⟨ps, e1, rfl⟩ := Option.map_eq_some_iff.mp e
    obtain ⟨a, vs, rfl, h, P⟩ := rep_tup.mp r
    cases q
    obtain ⟨its, rv, ⟨o, ho, hc, m, hd⟩, hz⟩ := I.tuple h
    obtain ⟨as, ra⟩ := readsAll_of I hr n xs e1 P rv
    exact ⟨_, .tuple ho hc hd (by simpa using ra)⟩
  | n, .fl xs, x, v, u, e, r, q => by
    rw [toP] at e
    obtain ⟨ps, e1, rfl⟩ := Option.map_eq_some_iff.mp e
    obtain ⟨a, vs, rfl, h, P⟩ := rep_fl.mp r
    cases q
    obtain ⟨its, rv, pl, hz⟩ := I.list h.sq
    obtain ⟨o, ho, hc, m, hd⟩ := pl.isList
    obtain ⟨as, ra⟩ := readsAll_of I hr n xs e1 P rv
    exact ⟨_, .list ho hc hd (by simpa using ra)⟩
  | 0, .ref k, x, v, u, e, r, q => by rw [toP] at e; cases e
  | n + 1, .ref k, x, v, u, e, r, q => by
    rw [toP] at e
    split at e
    · rename_i xs eo
      obtain ⟨ps, e1, rfl⟩ := Option.map_eq_some_iff.mp e
      obtain ⟨a, rfl, ha⟩ := rep_ref.mp r
      cases q
      obtain ⟨vs, h1, P⟩ := hr.obj k a _ ha eo
      obtain ⟨its, rv, pl, hz⟩ := I.list (SqL.of h1)
      obtain ⟨o, ho, hc, m, hd⟩ := pl.isList
      obtain ⟨as, ra⟩ := readsAll_of I hr n xs e1 P rv
      exact ⟨_, .list ho hc hd (by simpa using ra)⟩
    · cases e
termination_by n d => (n, sizeOf d)
theorem readsAll_of (I : Inv X pins σ H s) (hr : HRep X.K H ι Hd) : ∀ (n : Nat) (ds : List D) {xs : List PyData} {vs : List V} {us : List Value}, toPs Hd n ds = some xs → Paired (Rep X.K H ι) ds vs → Vals vs us → ∃ as, ReadsAll s.heap us xs as
  | n, [], xs, vs, us, e, P, q => by
    rw [toPs] at e; cases e; cases P; cases q; exact ⟨_, .nil⟩
  | n, d :: ds, xs, vs, us, e, P, q => by
    rw [toPs] at e
    obtain ⟨x, e1, e⟩ := Option.bind_eq_some_iff.mp e
    obtain ⟨r, e2, rfl⟩ := Option.map_eq_some_iff.mp e
    cases P with
    | cons p P =>
      cases q with
      | cons q Q =>
        obtain ⟨as, ra⟩ := reads_of I hr n d e1 p q
        obtain ⟨bs, rb⟩ := readsAll_of I hr n ds e2 P Q
        exact ⟨_, .cons ra rb⟩
termination_by n ds => (n, sizeOf ds)
end
noncomputable def okP (x : PyData) : Bool := x.canLay0 && decide (x.depth ≤ 30)
noncomputable def dat (d : D) (H : HD) : Option PyData := (toP H 30 d).bind fun x => if okP x = true then some x else none
theorem dat_some {d : D} {x : PyData} (e : dat d Hd = some x) : toP Hd 30 d = some x ∧ x.canLay0 = true ∧ x.depth ≤ 30 := by
  obtain ⟨y, e1, e⟩ := Option.bind_eq_some_iff.mp e
  split at e
  · rename_i h
    cases e
    rw [okP, Bool.and_eq_true, decide_eq_true_eq] at h
    exact ⟨e1, h⟩
  · cases e
noncomputable def twoS : D → D → Option (Str × Str)
  | .str a, .str b => some (a, b)
  | _, _ => none
theorem twoS_some {x y : D} {a b : Str} (h : twoS x y = some (a, b)) : x = .str a ∧ y = .str b := by
  unfold twoS at h
  split at h
  · cases h; exact ⟨rfl, rfl⟩
  · cases h
noncomputable def eqD : F2 := fun x y H => match twoS x y with
  | some (a, b) => some (.bl (a == b), H)
  | none => (dat x H).bind fun p => (dat y H).map fun q => (.bl (PyData.eqv p q), H)
noncomputable def neD : F2 := fun x y H => match twoS x y with
  | some (a, b) => some (.bl (a != b), H)
  | none => (dat x H).bind fun p => (dat y H).map fun q => (.bl (!PyData.eqv p q), H)
theorem opf_eq (hu : X.A.units + 64 < cLine) : OpF X (compareOp .Eq) eqD := by
  rintro pins s σ H x y v u Q I rx ry ⟨ι, dx, dy, Hd, d, Hd', hr, r1, r2, e, q⟩
  unfold eqD at e
  split at e
  · rename_i a b es
    obtain ⟨rfl, rfl⟩ := twoS_some es
    obtain ⟨rfl, rfl⟩ := Prod.mk.inj (Option.some.inj e)
    simp at r1 r2
    subst r1 r2
    obtain ⟨t1, rfl⟩ := rx
    obtain ⟨t2, rfl⟩ := ry
    exact PyProof.Rows.eq_str ⟨.bl _, H, I, rfl, q _ H ι Le.refl hr (by simp)⟩
  · obtain ⟨p, e1, e⟩ := Option.bind_eq_some_iff.mp e
    obtain ⟨p2, e2, e⟩ := Option.map_eq_some_iff.mp e
    obtain ⟨rfl, rfl⟩ := Prod.mk.inj e
    obtain ⟨t1, c1, d1⟩ := dat_some e1
    obtain ⟨t2, c2, d2⟩ := dat_some e2
    obtain ⟨as, ra⟩ := reads_of I hr _ _ t1 r1 rx
    obtain ⟨bs, rb⟩ := reads_of I hr _ _ t2 r2 ry
    exact SeqAt.compareEq_reads ra rb c1 c2 (by omega) ⟨.bl _, H, I, rfl, q _ H ι Le.refl hr (by simp)⟩
theorem opf_ne (hu : X.A.units + 64 < cLine) : OpF X (compareOp .NotEq) neD := by
  rintro pins s σ H x y v u Q I rx ry ⟨ι, dx, dy, Hd, d, Hd', hr, r1, r2, e, q⟩
  unfold neD at e
  split at e
  · rename_i a b es
    obtain ⟨rfl, rfl⟩ := twoS_some es
    obtain ⟨rfl, rfl⟩ := Prod.mk.inj (Option.some.inj e)
    simp at r1 r2
    subst r1 r2
    obtain ⟨t1, rfl⟩ := rx
    obtain ⟨t2, rfl⟩ := ry
    exact PyProof.Rows.ne_str ⟨.bl _, H, I, rfl, q _ H ι Le.refl hr (by simp)⟩
  · obtain ⟨p, e1, e⟩ := Option.bind_eq_some_iff.mp e
    obtain ⟨p2, e2, e⟩ := Option.map_eq_some_iff.mp e
    obtain ⟨rfl, rfl⟩ := Prod.mk.inj e
    obtain ⟨t1, c1, d1⟩ := dat_some e1
    obtain ⟨t2, c2, d2⟩ := dat_some e2
    obtain ⟨as, ra⟩ := reads_of I hr _ _ t1 r1 rx
    obtain ⟨bs, rb⟩ := reads_of I hr _ _ t2 r2 ry
    exact SeqAt.compareNe_reads ra rb c1 c2 (by omega) ⟨.bl _, H, I, rfl, q _ H ι Le.refl hr (by simp)⟩
noncomputable def itemsP : PyData → Option (List PyData)
  | .list xs => some xs
  | .tuple xs => some xs
  | _ => none
noncomputable def inD : F2 := fun x y H => (dat x H).bind fun p => (dat y H).bind fun q => (itemsP q).map fun xs => (.bl (xs.any fun z => PyData.eqv z p), H)
theorem opf_in (hu : X.A.units + 64 < cLine) : OpF X (compareOp .In) inD := by
  rintro pins s σ H x y v u Q I rx ry ⟨ι, dx, dy, Hd, d, Hd', hr, r1, r2, e, q⟩
  obtain ⟨p, e1, e⟩ := Option.bind_eq_some_iff.mp e
  obtain ⟨p2, e2, e⟩ := Option.bind_eq_some_iff.mp e
  obtain ⟨xs, e3, e⟩ := Option.map_eq_some_iff.mp e
  obtain ⟨rfl, rfl⟩ := Prod.mk.inj e
  obtain ⟨t1, c1, d1⟩ := dat_some e1
  obtain ⟨t2, c2, d2⟩ := dat_some e2
  obtain ⟨as, ra⟩ := reads_of I hr _ _ t1 r1 rx
  obtain ⟨bs, rb⟩ := reads_of I hr _ _ t2 r2 ry
  have fin : EP X pins σ Q (.bool (xs.any fun z => PyData.eqv z p)) s := ⟨.bl _, H, I, rfl, q _ H ι Le.refl hr (by simp)⟩
  cases p2 with
  | list ys =>
    cases e3
    simp only [PyData.canLay0] at c2
    simp only [PyData.depth] at d2
    exact SeqAt.in_list_reads rb ra c2 c1 (by omega) fin
  | tuple ys =>
    cases e3
    simp only [PyData.canLay0] at c2
    simp only [PyData.depth] at d2
    exact SeqAt.in_tuple_reads rb ra c2 c1 (by omega) fin
  | _ => simp [itemsP] at e3
noncomputable def isB (x y : D) : Option Bool := match y, x with
  | .non, .non => some true
  | .non, _ => some false
  | .bl b, .bl c => some (c == b)
  | .bl _, _ => some false
  | _, _ => none
noncomputable def isD : F2 := fun x y H => (isB x y).map fun b => (.bl b, H)
noncomputable def isnD : F2 := fun x y H => (isB x y).map fun b => (.bl (!b), H)
theorem is_bool_gen {M : Model} {A : Around} {E : Value → Shared → Prop} {s : Shared} {Q : Value → Shared → Prop} {v : Value} {b : Bool} (hv : ∀ i, v ≠ .builtin i) (h : Q (.bool (v == .bool b)) s) : wpAny M A (compareOp .Is v (.bool b)) Q E s := by
  cases v <;> first | exact wpAny_pure h | exact absurd rfl (hv _)
theorem relV_nb {x : V} {v : Value} (r : RelV x v) : ∀ i, v ≠ .builtin i := by
  intro i
  cases x with
  | non => cases r; intro z; cases z
  | bl _ => cases r; intro z; cases z
  | int _ => obtain ⟨t, rfl⟩ := r; intro z; cases z
  | str _ => obtain ⟨t, rfl⟩ := r; intro z; cases z
  | byt _ => obtain ⟨t, rfl⟩ := r; intro z; cases z
  | flt _ => obtain ⟨t, rfl⟩ := r; intro z; cases z
  | ref _ => cases r; intro z; cases z
  | ty _ => cases r; intro z; cases z
theorem isB_ok {dx dy : D} {x y : V} {v u : Value} {b : Bool} (r1 : Rep X.K H ι dx x) (r2 : Rep X.K H ι dy y) (rx : RelV x v) (ry : RelV y u) (e : isB dx dy = some b) :
    (u = .none ∧ b = (v == .none)) ∨ ∃ c, u = .bool c ∧ b = (v == .bool c) := by
  cases dy with
  | non =>
    simp at r2; subst r2; cases ry
    refine .inl ⟨rfl, ?_⟩
    cases dx with
    | non => simp at r1; subst r1; cases rx; cases e; rfl
    | bl _ => simp at r1; subst r1; cases rx; cases e; rfl
    | int _ => simp at r1; subst r1; obtain ⟨t, rfl⟩ := rx; cases e; rfl
    | str _ => simp at r1; subst r1; obtain ⟨t, rfl⟩ := rx; cases e; rfl
    | ty _ => simp at r1; subst r1; cases rx; cases e; rfl
    | tup _ => obtain ⟨a, _, rfl, _⟩ := rep_tup.mp r1; cases rx; cases e; rfl
    | fl _ => obtain ⟨a, _, rfl, _⟩ := rep_fl.mp r1; cases rx; cases e; rfl
    | ref _ => obtain ⟨a, rfl, _⟩ := rep_ref.mp r1; cases rx; cases e; rfl
  | bl c =>
    simp at r2; subst r2; cases ry
    refine .inr ⟨c, rfl, ?_⟩
    cases dx with
    | non => simp at r1; subst r1; cases rx; cases e; rfl
    | bl z => simp at r1; subst r1; cases rx; cases e; cases z <;> cases c <;> rfl
    | int _ => simp at r1; subst r1; obtain ⟨t, rfl⟩ := rx; cases e; rfl
    | str _ => simp at r1; subst r1; obtain ⟨t, rfl⟩ := rx; cases e; rfl
    | ty _ => simp at r1; subst r1; cases rx; cases e; rfl
    | tup _ => obtain ⟨a, _, rfl, _⟩ := rep_tup.mp r1; cases rx; cases e; rfl
    | fl _ => obtain ⟨a, _, rfl, _⟩ := rep_fl.mp r1; cases rx; cases e; rfl
    | ref _ => obtain ⟨a, rfl, _⟩ := rep_ref.mp r1; cases rx; cases e; rfl
  | _ => simp [isB] at e
theorem opf_is : OpF X (compareOp .Is) isD := by
  rintro pins s σ H x y v u Q I rx ry ⟨ι, dx, dy, Hd, d, Hd', hr, r1, r2, e, q⟩
  obtain ⟨b, e1, e⟩ := Option.map_eq_some_iff.mp e
  obtain ⟨rfl, rfl⟩ := Prod.mk.inj e
  have fin : EP X pins σ Q (.bool b) s := ⟨.bl _, H, I, rfl, q _ H ι Le.refl hr (by simp)⟩
  rcases isB_ok r1 r2 rx ry e1 with ⟨rfl, rfl⟩ | ⟨c, rfl, rfl⟩
  · exact is_none_gen fin
  · exact is_bool_gen (relV_nb rx) fin
noncomputable def tyD : D → HD → Option String
  | .non, _ => some "NoneType"
  | .bl _, _ => some "bool"
  | .int _, _ => some "int"
  | .str _, _ => some "str"
  | .tup _, _ => some "tuple"
  | .fl _, _ => some "list"
  | .ref n, H => match H[n]? with
    | some (.lst _) => some "list"
    | _ => none
  | _, _ => none
noncomputable def asked (c : String) : Bool := c == "bool" || c == "int" || c == "str" || c == "tuple" || c == "list"
noncomputable def isiD : FF := fun ds H => match ds with
  | [x, .ty c] => if asked c = true then (tyD x H).map fun t => (.bl (t == c || (t == "bool" && c == "int")), H) else none
  | _ => none
noncomputable def tys : List String := ["NoneType", "bool", "int", "str", "tuple", "list"]
theorem tyD_mem {d : D} {t : String} (e : tyD d Hd = some t) : t ∈ tys := by
  cases d with
  | ref n =>
    simp only [tyD] at e
    split at e
    · cases e; decide
    · cases e
  | ty n => simp [tyD] at e
  | _ => simp only [tyD] at e; cases e; decide
theorem kit_ok (K : PySem.W.Frag) {t c : String} (ht : t ∈ tys) (hc : asked c = true) : PySem.W.kitOne K (.type t) (.type c) = some (t == c || (t == "bool" && c == "int")) := by
  have hc' : c = "bool" ∨ c = "int" ∨ c = "str" ∨ c = "tuple" ∨ c = "list" := by
    simpa [asked, or_assoc] using hc
  simp only [tys, List.mem_cons, List.not_mem_nil, or_false] at ht
  rcases ht with rfl | rfl | rfl | rfl | rfl | rfl <;> rcases hc' with rfl | rfl | rfl | rfl | rfl <;> first | rfl | (with_unfolding_all rfl) | kernel_rfl
theorem callf_isi : CallF X (.builtin "isinstance") isiD := by
  rintro pins s σ H xs us Q I rv ⟨ι, ds, Hd, d, Hd', hr, P, e, q⟩
  unfold isiD at e
  split at e
  · rename_i x c
    split at e
    · rename_i hc
      obtain ⟨t, e1, e⟩ := Option.map_eq_some_iff.mp e
      obtain ⟨rfl, rfl⟩ := Prod.mk.inj e
      obtain ⟨v, v', rfl, r, r'⟩ := prd2 P
      obtain ⟨u, u', rfl, ru, ru'⟩ := vals2 rv
      simp at r'
      subst r'
      cases ru'
      have k := kit_ok X.K (tyD_mem e1) hc
      have fin : ∀ tk, EP X pins σ Q (.bool (t == c || (t == "bool" && c == "int"))) { s with toks := tk } := fun tk => ⟨.bl _, H, I.tok tk, rfl, q _ H ι Le.refl hr (by simp)⟩
      cases x with
      | non => simp at r; subst r; cases ru; cases e1; exact PySem.W.kia_one PySem.W.kitx_none I.kIn True.intro k (fun z => nomatch z) fin
      | bl y => simp at r; subst r; cases ru; cases e1; exact PySem.W.kia_one PySem.W.kitx_bool I.kIn True.intro k (fun z => nomatch z) fin
      | int y => simp at r; subst r; obtain ⟨t, rfl⟩ := ru; cases e1; exact PySem.W.kia_one PySem.W.kitx_int I.kIn True.intro k (fun z => nomatch z) fin
      | str y => simp at r; subst r; obtain ⟨t, rfl⟩ := ru; cases e1; exact PySem.W.kia_one PySem.W.kitx_str I.kIn True.intro k (fun z => nomatch z) fin
      | ty _ => simp [tyD] at e1
      | tup ys =>
        obtain ⟨a, vs, rfl, h, _⟩ := rep_tup.mp r
        cases ru; cases e1
        obtain ⟨its, _, ⟨o, ho, hcl, _⟩, _⟩ := I.tuple h
        exact PySem.W.kia_one PySem.W.kitx_tuple I.kIn ⟨o, ho, hcl⟩ k (fun z => nomatch z) fin
      | fl ys =>
        obtain ⟨a, vs, rfl, h, _⟩ := rep_fl.mp r
        cases ru; cases e1
        obtain ⟨its, _, pl, _⟩ := I.list h.sq
        obtain ⟨o, ho, hcl, _⟩ := pl.isList
        exact PySem.W.kia_one PySem.W.kitx_list I.kIn ⟨o, ho, hcl⟩ k (fun z => nomatch z) fin
      | ref n =>
        obtain ⟨a, rfl, ha⟩ := rep_ref.mp r
        cases ru
        simp only [tyD] at e1
        split at e1
        · rename_i ys eo
          cases e1
          obtain ⟨vs, h1, _⟩ := hr.obj n a _ ha eo
          obtain ⟨its, _, pl, _⟩ := I.list (SqL.of h1)
          obtain ⟨o, ho, hcl, _⟩ := pl.isList
          exact PySem.W.kia_one PySem.W.kitx_list I.kIn ⟨o, ho, hcl⟩ k (fun z => nomatch z) fin
        · cases e1
    · cases e
  · cases e
noncomputable def isTup : D → Bool
  | .tup _ => true
  | _ => false
noncomputable def intsD : List D → Option (List Int)
  | [] => some []
  | .int i :: r => (intsD r).map fun s => i :: s
  | _ => none
noncomputable def isort (ns : List Int) : List Int := ns.mergeSort (fun a b => decide (a ≤ b))
noncomputable def sortedD : FF := fun ds H => match ds with
  | [d] => (seqD d H).bind fun xs => (intsD xs).bind fun ns => if ns.length < 64 ∧ isTup d = false then some (.ref H.length, H ++ [.lst ((isort ns).map .int)]) else none
  | _ => none
end
section
variable {X : Cx} {tg : Expr}
noncomputable def itemsD : D → HD → Option (List D × OwnD)
  | .tup xs, _ => some (xs, [])
  | .fl xs, _ => some (xs, [])
  | .ref n, H => match H[n]? with
    | some (.lst xs) => some (xs, [(n, .lst xs)])
    | _ => none
  | _, _ => none
noncomputable def smallI (i : Int) : Prop := -(2 ^ 62) ≤ i ∧ i < 2 ^ 62
instance (i : Int) : Decidable (smallI i) := by unfold smallI; exact inferInstance
noncomputable def rangeL (lo : Int) (n : Nat) : List D := (List.range n).map fun k : Nat => .int (lo + (k : Int))
theorem rangeL_get {lo : Int} {n i : Nat} {d : D} (h : (rangeL lo n)[i]? = some d) : i < n ∧ d = .int (lo + i) := by
  unfold rangeL at h
  rw [List.getElem?_map] at h
  obtain ⟨k, h1, rfl⟩ := Option.map_eq_some_iff.mp h
  rw [List.getElem?_eq_some_iff] at h1
  obtain ⟨hl, h1⟩ := h1
  simp at h1 hl
  subst h1
  exact ⟨hl, rfl⟩
theorem itr_range {K : PySem.W.Frag} {H0 : Hp} {ι0 : List Addr} (lo : Int) (n : Nat) : ItRep K (Itr lo n) (rangeL lo n) [] H0 ι0 := by
  refine ⟨fun i H2 ι2 Hd2 l2 h2 _ hi => (show i < n by simpa [rangeL] using hi), fun i H2 ι2 Hd2 d x H3 l2 h2 _ hd y => ?_, fun i H2 ι2 Hd2 l2 h2 _ hi => (show n ≤ i by simpa [rangeL] using hi)⟩
  obtain ⟨rfl, rfl⟩ := y
  obtain ⟨_, rfl⟩ := rangeL_get hd
  exact ⟨ι2, Le.refl, h2, by simp⟩
noncomputable def iR1 (f : AF) : ItF := fun σ H => (f σ H).bind fun p => match p.1 with
  | [.int j] => if smallI j then some ((rangeL 0 j.toNat, []), p.2) else none
  | _ => none
noncomputable def iR2 (f : AF) : ItF := fun σ H => (f σ H).bind fun p => match p.1 with
  | [.int i, .int j] => if smallI i ∧ smallI j then some ((rangeL i (j - i).toNat, []), p.2) else none
  | _ => none
theorem pif_range1 {a : Expr} {f : AF} {p pos : Pos} (hg : Gl X "range") (hm : X.mg "range" = none) (ha : PAf X [a] f) (hs : starEach [a] X.env = [(false, eval a X.env)] := by rfl) : PIf X tg (.Call (.Name "range" p) [a] [] pos) (iR1 f) := by
  refine PIi (pi_range1 hg hm ha hs) fun σ H R zz => ?_
  obtain ⟨ι, σd, Hd, xs, own, Hd', s, hr, e, q⟩ := zz
  obtain ⟨⟨ds, H1⟩, e1, e⟩ := Option.bind_eq_some_iff.mp e
  dsimp only at e
  split at e
  · rename_i j
    split at e
    · rename_i hj
      cases e
      refine ⟨ι, σd, Hd, _, _, s, hr, e1, fun vs H' ι' l h P => ?_⟩
      obtain ⟨v, rfl, r⟩ := prd1 P
      simp at r
      subst r
      exact ⟨j, rfl, hj.1, hj.2, q _ H' ι' l h (itr_range 0 _)⟩
    · cases e
  · cases e
theorem pif_range2 {a b : Expr} {f : AF} {p pos : Pos} (hg : Gl X "range") (hm : X.mg "range" = none) (ha : PAf X [a, b] f) (hs : starEach [a, b] X.env = [(false, eval a X.env), (false, eval b X.env)] := by rfl) (hs2 : starEach [b] X.env = [(false, eval b X.env)] := by rfl) :
    PIf X tg (.Call (.Name "range" p) [a, b] [] pos) (iR2 f) := by
  refine PIi (pi_range2 hg hm ha hs hs2) fun σ H R zz => ?_
  obtain ⟨ι, σd, Hd, xs, own, Hd', s, hr, e, q⟩ := zz
  obtain ⟨⟨ds, H1⟩, e1, e⟩ := Option.bind_eq_some_iff.mp e
  dsimp only at e
  split at e
  · rename_i i j
    split at e
    · rename_i hj
      cases e
      refine ⟨ι, σd, Hd, _, _, s, hr, e1, fun vs H' ι' l h P => ?_⟩
      obtain ⟨v, v', rfl, r, r'⟩ := prd2 P
      simp at r r'
      subst r r'
      exact ⟨i, j, rfl, ⟨hj.1.1, hj.1.2, hj.2.1, hj.2.2⟩, q _ H' ι' l h (itr_range _ _)⟩
    · cases e
  · cases e
end
end DL
namespace DL
open PySem PySem.Spec PyProof.Rows L2
open Builtin.SmallTypes (nextOf)
section
variable {prog : Program} {w : World} {A : Around} {E : Value → Shared → Prop} {s : Shared}
theorem nxt_item {j t : Addr} {i : Nat} {its : Array Value} {x : Value} {Q : Value → Shared → Prop} (hj : s.heap.IsTupleIter j t i) (ht : s.heap.IsTuple t its) (hx : its[i]? = some x)
    (hQ : ∀ h', h'.IsTupleIter j t (i + 1) → Heap.SameBut j s.heap h' → Q x { s with heap := h' }) : wpAny (model prog w) A (nextOf (.ref j)) Q E s := by
  obtain ⟨oj, ho, hcj, hdj⟩ := id hj
  obtain ⟨ot, hot, _, nt, hdt⟩ := ht
  unfold nextOf
  refine wpAny_bind (wpAny_callSpecial?_slot (name := Str.ofString "__next__") hj.typeIs F.slot_tuple_iterator_next (wpAny_call_entry F.slot_tuple_iterator_next hj.typeIs F.entry_tuple_iterator_next ?_ (F.args_tuple_iterator_next_1 _)))
  show wpAny _ _ (field (.ref j) 0 >>= _) _ _ s
  refine wpAny_bind (wpAny_field ho hdj (x := .ref t) rfl ?_)
  show wpAny _ _ (if (Value.ref t == Value.none) = true then _ else _) _ _ s
  rw [if_neg (show ¬ ((Value.ref t == Value.none) = true) by intro z; cases z)]
  show wpAny _ _ (field (.ref j) 1 >>= _) _ _ s
  refine wpAny_bind (wpAny_field ho hdj (x := .int i 0) rfl ?_)
  show wpAny _ _ (seqItems? (.ref t) >>= _) _ _ s
  refine wpAny_bind (wpAny_seqItems hot hdt ?_)
  simp only [Int.toNat_natCast, hx]
  refine wpAny_bind (wpAny_setField ho hdj (by simp) (wpAny_pure ⟨x, rfl, wpAny_pure (hQ _ ⟨_, Heap.get?_update_self _ ho (Obj.isFreed_of_fields (Obj.data_mapFields hdj _)), (Obj.cls_mapFields ..).trans hcj, ?_⟩ (Heap.SameBut.update ..))⟩))
  rw [Obj.data_mapFields hdj]; simp [rawInt]
theorem nxt_end {j t : Addr} {i : Nat} {its : Array Value} {Q : Value → Shared → Prop} (hh : A.handled = none) (hj : s.heap.IsTupleIter j t i) (ht : s.heap.IsTuple t its) (hx : its[i]? = none)
    (hE : ∀ h' e, Heap.ExtBut j s.heap h' → (∃ o, h'.get? e = some o ∧ o.cls = .type "StopIteration") → E (.ref e) { s with heap := h' }) : wpAny (model prog w) A (nextOf (.ref j)) Q E s := by
  obtain ⟨oj, ho, hcj, hdj⟩ := id hj
  obtain ⟨ot, hot, _, nt, hdt⟩ := ht
  unfold nextOf
  refine wpAny_bind (wpAny_callSpecial?_slot (name := Str.ofString "__next__") hj.typeIs F.slot_tuple_iterator_next (wpAny_call_entry F.slot_tuple_iterator_next hj.typeIs F.entry_tuple_iterator_next ?_ (F.args_tuple_iterator_next_1 _)))
  show wpAny _ _ (field (.ref j) 0 >>= _) _ _ s
  refine wpAny_bind (wpAny_field ho hdj (x := .ref t) rfl ?_)
  show wpAny _ _ (if (Value.ref t == Value.none) = true then _ else _) _ _ s
  rw [if_neg (show ¬ ((Value.ref t == Value.none) = true) by intro z; cases z)]
  show wpAny _ _ (field (.ref j) 1 >>= _) _ _ s
  refine wpAny_bind (wpAny_field ho hdj (x := .int i 0) rfl ?_)
  show wpAny _ _ (seqItems? (.ref t) >>= _) _ _ s
  refine wpAny_bind (wpAny_seqItems hot hdt ?_)
  simp only [Int.toNat_natCast, hx]
  refine wpAny_bind (wpAny_rule (wpAny_bind (wpAny_setField ho hdj (by simp) ?_)))
  show wpAny _ _ (newExc (.type "StopIteration") [] >>= _) _ _ _
  refine wpAny_bind ?_
  simp only [newExc, newTuple]
  refine wpAny_bind (wpAny_newObj_type ?_ (by size_fits))
  refine wpAny_bind (m := firstArgMember _ _) (wpAny_of_eq (a := Value.none) (by first | rfl | (simp only [firstArgMember]; rfl)) (wpAny_newObj_type ?_ (by size_fits)))
  simp only [raiseNew]
  refine wpAny_bind (wpAny_handled ?_)
  first | rw [show A.in1.handled = none from hh] | rw [hh]
  exact wpAny_bind (wpAny_pure (wpAny_throw (hE _ _ (((Heap.SameBut.update ..).extBut.push _).push _) ⟨_, Heap.get?_push_size _ rfl, rfl⟩)))
open AutoSeq1 (wpAny_loadPart') in
theorem enum_newT (t : Addr) (its : Array Value) (n : Nat) (dct : Option Addr) (sl : Array (Option Value)) :
    Meets (Builtin.«enumerate.__new__» ⟨[.type "enumerate", .ref t], []⟩) (fun _ R s => s.heap.get? t = some { cls := .type "tuple", dict := dct, data := .seq its n, slots := sl } ∧
      R (.ok (.ret (.ref (s.heap.push { cls := .type "tuple_iterator", data := .fields #[.ref t, .int 0 0] }).objs.size)))
        { s with heap := (s.heap.push { cls := .type "tuple_iterator", data := .fields #[.ref t, .int 0 0] }).push { cls := .type "enumerate", data := .fields #[.none, .bool false, .ref s.heap.objs.size, rawInt 0, .none, .none] } }) :=
  .of_wp fun prog w A R s h => by
    obtain ⟨hp, g, d, tk, os⟩ := s; obtain ⟨hl, h⟩ := h
    have hsub := sub_enumerate
    have hL : Heap.IsTuple (Shared.heap ⟨hp, g, d, tk, os⟩) t its := ⟨_, hl, rfl, n, rfl⟩
    wp_walk using wpAny_loadPart' hl
    refine wpAny_stack_any fun st => wpAny_pure ?_
    split
    · rename_i k _ _ _ _ _
      cases (k == Value.type "enumerate") <;> (wp_walk using wpAny_loadPart' hl, wpAny_pyIter_tuple hL; exact ⟨_, rfl, h⟩)
    · wp_walk using wpAny_loadPart' hl, wpAny_pyIter_tuple hL
      exact ⟨_, rfl, h⟩
end
end DL
namespace DL
open PySem PySem.Spec PyProof.Rows L2
section
variable {X : Cx}
noncomputable def enumL (c : Int) : List D → List D
  | [] => []
  | x :: r => .tup [.int c, x] :: enumL (c + 1) r
theorem enumL_len : ∀ (xs : List D) (c : Int), (enumL c xs).length = xs.length
  | [], _ => rfl
  | x :: r, c => by simp [enumL, enumL_len r]
theorem enumL_get : ∀ {xs : List D} {c : Int} {i : Nat} {d : D}, (enumL c xs)[i]? = some d → ∃ x, xs[i]? = some x ∧ d = .tup [.int (c + i), x]
  | [], c, i, d, h => by simp [enumL] at h
  | x :: r, c, 0, d, h => by simp [enumL] at h; exact ⟨x, rfl, by rw [← h]; simp⟩
  | x :: r, c, i + 1, d, h => by
    simp only [enumL, List.getElem?_cons_succ] at h
    obtain ⟨y, h1, h2⟩ := enumL_get h
    refine ⟨y, by simpa using h1, ?_⟩
    rw [h2]
    have : c + 1 + (i : Int) = c + ((i + 1 : Nat) : Int) := by push_cast; omega
    rw [this]
noncomputable def iEnum (f : AF) : ItF := fun σ H => (f σ H).bind fun p => match p.1 with
  | [.tup xs] => some ((enumL 0 xs, []), p.2)
  | _ => none
end
structure Five (z a b c d : Addr) : Prop where
  az : a ≠ z
  bz : b ≠ z
  cz : c ≠ z
  dz : d ≠ z
  ab : a ≠ b
  ac : a ≠ c
  ad : a ≠ d
  bc : b ≠ c
  bd : b ≠ d
  cd : c ≠ d
section
variable {X : Cx}
noncomputable def zipL : List D → List D → List D
  | x :: xs, y :: ys => .tup [x, y] :: zipL xs ys
  | _, _ => []
noncomputable def rangeL3 (lo c : Int) (n : Nat) : List D := (List.range n).map fun k : Nat => .int (lo + (k : Int) * c)
noncomputable def size3 (i j c : Int) : Nat := if i < j then ((j - i - 1) / c + 1).toNat else 0
noncomputable def small3 (i j c : Int) : Prop := -(2 ^ 60) ≤ i ∧ i < 2 ^ 60 ∧ -(2 ^ 60) ≤ j ∧ j < 2 ^ 60 ∧ 0 < c ∧ c < 2 ^ 20
instance (i j c : Int) : Decidable (small3 i j c) := by unfold small3; exact inferInstance
noncomputable def iR3 (f : AF) : ItF := fun σ H => (f σ H).bind fun p => match p.1 with
  | [.int i, .int j, .int c] => if small3 i j c then some ((rangeL3 i c (size3 i j c), []), p.2) else none
  | _ => none
end
end DL
namespace DL
open PySem PySem.Spec PyProof.Rows L2
section
variable {X : Cx}
noncomputable def tRng2 (ta : TA) : TE := fun σ H Q => ta σ H fun vs H1 => ∃ i j : Int, vs = [.int i, .int j] ∧ ∀ p, H1 p = none → Q (.ref p) (upd H1 p (.rng i j))
theorem pe_rng2 {a b : Expr} {ta : TA} {p pos : Pos} (hg : Gl X "range") (hm : X.mg "range" = none) (ha : PA X [a, b] ta) (hs : starEach [a, b] X.env = [(false, eval a X.env), (false, eval b X.env)] := by rfl) (hs2 : starEach [b] X.env = [(false, eval b X.env)] := by rfl) :
    PE X (.Call (.Name "range" p) [a, b] [] pos) (tRng2 ta) := by
  intro pins s σ H Q I h
  refine Call_ (ld_blt I hg hm boot_range (PyProof.Rows.callWith_type1 (thn (ha pos pins s σ H _ I h) fun us s1 ⟨vs, H1, I1, r1, q1⟩ => ?_) (by rw [hs, hs2]) (by rw [hs2]; rfl)))
  obtain ⟨i, j, rfl, q⟩ := q1
  obtain ⟨u1, u2, rfl, ru1, ru2⟩ := vals2 r1
  obtain ⟨t1, rfl⟩ := ru1
  obtain ⟨t2, rfl⟩ := ru2
  refine call_range_2 ?_
  exact ⟨.ref s1.heap.objs.size, _, I1.laid (t' := s1.toks + 1) (o := .rng i j) (fun b o e => Heap.get?_push_of_some _ e) (Nat.le_refl _) ⟨_, _, _, Heap.get?_push_size _ rfl⟩, rfl, q _ (I1.hok.fresh (Nat.le_refl _))⟩
theorem prd_of {α β : Type} {F : α → β → Prop} : ∀ {xs : List α} {us : List β}, xs.length = us.length → (∀ (i : Nat) x u, xs[i]? = some x → us[i]? = some u → F x u) → Paired F xs us
  | [], [], _, _ => .nil
  | [], _ :: _, h, _ => by simp at h
  | _ :: _, [], h, _ => by simp at h
  | x :: xs, u :: us, h, f => .cons (f 0 x u rfl rfl) (prd_of (by simpa using h) fun i y v h1 h2 => f (i + 1) y v (by simpa using h1) (by simpa using h2))
noncomputable def intsV (lo : Int) (n : Nat) : List V := (List.range n).map fun k : Nat => .int (lo + (k : Int))
noncomputable def eLR2 (f : AF) : EF := fun σ H => (f σ H).bind fun p => match p.1 with
  | [.int i, .int j] => if smallI i ∧ smallI j ∧ (j - i).toNat ≤ 1000000 then some (.ref p.2.length, p.2 ++ [.lst (rangeL i (j - i).toNat)]) else none
  | _ => none
end
structure Fn (P : Program) (w : World) (K : PySem.W.Frag) (mg : Str → Option Value) (base : Heap) (k : Nat) (x : Str) (ps : List Str) (F : FF) : Prop where
  ex : ∃ f fd, FnOk P w K mg base CX0 k f fd ps (spF K ps.length F) ∧ Binds K fd ps [] ∧ PySem.W.keepIn K (.ref f) = true ∧ mg x = some (.ref f) ∧ ∃ (oc : Value) (od : Option Addr) (osl : Array (Option Value)), K.lookup f = some ⟨oc, od, .func fd, osl⟩
theorem pef_fn {X : Cx} {k n : Nat} {ps : List Str} {x : Str} {p pos : Pos} {F : FF} {fa : AF} {e : Expr} {es : List Expr} (G : Fn X.prog X.w X.K X.mg X.base k x ps F) (hr : Room k X.A) (hg : Gl X x)
    (ha : PAf X (e :: es) fa) (hdb : (x == ("__debug__" : Str)) = false := by decide) (he : starEach (e :: es) X.env = (false, eval e X.env) :: starEach es X.env := by exact star_cons rfl) (hpl : (backTo pos (starEach es X.env)).any (·.1) = false := by exact star_any rfl) (hn : ps.length = n := by rfl) :
    PEf X (.Call (.Name x p) (e :: es) [] pos) (eCall n F fa) := by
  subst hn
  obtain ⟨f, fd, G1, hb, hk, hm, _⟩ := G.ex
  exact pef_call G1 hr hg hm hk hb ha hdb he hpl
noncomputable def Tf (K : PySem.W.Frag) (mg : Str → Option Value) (x : Str) (st : Stmt) : Prop := ∃ f fd, Fun K x x st f fd ∧ mg x = some (.ref f)
theorem us0 {us : List Value} (h : us.length = 0) : us = [] := List.length_eq_zero_iff.mp h
theorem us1 {us : List Value} (h : us.length = 1) : ∃ a, us = [a] := by
  obtain ⟨a, r⟩ := List.exists_cons_of_length_eq_add_one h
  obtain ⟨t, rfl⟩ := r
  rw [us0 (us := t) (by simpa using h)]
  exact ⟨a, rfl⟩
theorem us2 {us : List Value} (h : us.length = 2) : ∃ a b, us = [a, b] := by
  obtain ⟨a, t, rfl⟩ := List.exists_cons_of_length_eq_add_one h
  obtain ⟨b, rfl⟩ := us1 (us := t) (by simpa using h)
  exact ⟨a, b, rfl⟩
theorem us3 {us : List Value} (h : us.length = 3) : ∃ a b c, us = [a, b, c] := by
  obtain ⟨a, t, rfl⟩ := List.exists_cons_of_length_eq_add_one h
  obtain ⟨b, c, rfl⟩ := us2 (us := t) (by simpa using h)
  exact ⟨a, b, c, rfl⟩
theorem tf_mk {K : PySem.W.Frag} {h : Heap} {mg : Str → Option Value} {x : Str} {st : Stmt} {f : Addr} {oc : Value} {od an : Option Addr} {osl : Array (Option Value)} {kV doc pm cdv ct : Value} (X : K.In h) (G : h.Ns mainGlobals mg)
    (a : PySem.W.nsIn K mainGlobals x = some (some (.ref f))) (l : K.lookup f = some ⟨oc, od, .func (PySem.W.fnOf x x (defArgs st) (defBody st) (defScope st) .none kV doc pm an cdv ct), osl⟩)
    (c : PySem.W.codeIn K cdv x = true) (k : PySem.W.keepIn K (.ref f) = true) : Tf K mg x st := ⟨f, _, fun_mk l c k, PySem.W.mg_of X G a⟩
theorem fn_mk {P : Program} {w : World} {K : PySem.W.Frag} {mg : Str → Option Value} {base : Heap} {x : Str} {st : Stmt} {N ps : List Str} {k : Nat} {b : SF} (T : Tf K mg x st) (S : FnScope N ps (defScope st))
    (hbd : ∀ (kV doc pm : Value) (an : Option Addr) (cdv ct : Value) (us : List Value), us.length = ps.length → bindArgs (PySem.W.fnOf x x (defArgs st) (defBody st) (defScope st) .none kV doc pm an cdv ct) ⟨us, []⟩ = pure (ps.zip us))
    (hb : ∀ (f : Addr) (cdv : Value) (A : Around) (outer : List Env) (s : Shared) (H : Hp) (E : XK), Room k (A.deeper (envOfC x (defScope st) s.heap.objs.size f cdv)) →
      PSsf (cxOf CX0 P w K mg base N x (defScope st) f cdv A outer s H E).nox (defBody st) b) : Fn P w K mg base (k + 1) x ps (runB ps.length N.length b) := by
  obtain ⟨f, fd, F, hm⟩ := T
  refine ⟨f, fd, fn_f F S fun cdv A outer s H E hr => hb f cdv A outer s H E hr, F.binds hbd, F.kp, hm, ?_⟩
  obtain ⟨oc, od, kV, doc, pm, an, cdv, ct, osl, rfl, lk, hcd⟩ := F.ex
  exact ⟨oc, od, osl, lk⟩
noncomputable def blkB (sc scope : Scope) (N : List Str) (x : Str) (cn : List Str) (ci : List Nat) : Bool :=
  (scope.kind == .function) && scope.names.all (fun y => y.2 != .cell) && scope.names.all (fun y => y.2 != .local || scope.names.lookup y.1 == some .local) && (scope.names.lookup x == some .local) &&
  scope.names.all (fun y => y.2 != .free || sc.names.lookup y.1 == some .cell) && decide (x :: cn).Nodup && (ci.length == cn.length) &&
  (cn.zip ci).all (fun p => N[p.2]? == some p.1 && scope.names.lookup p.1 == some .free && sc.names.lookup p.1 == some .cell)
theorem blk_fn {P : Program} {w : World} {K : PySem.W.Frag} {mg : Str → Option Value} {base : Heap} {N : List Str} {qual : Str} {sc scope : Scope} {f : Addr} {cdv : Value} {A : Around} {outer : List Env} {s : Shared} {H : Hp} {E : XK} {x : Str} {cn : List Str} {ci : List Nat}
    (h : blkB sc scope N x cn ci = true) : BlkOk (cxOf CX0 P w K mg base N qual sc f cdv A outer s H E).nox scope x cn ci := by
  unfold blkB at h
  simp only [Bool.and_eq_true, List.all_eq_true, Bool.or_eq_true, bne_iff_ne, ne_eq, beq_iff_eq, decide_eq_true_eq] at h
  obtain ⟨⟨⟨⟨⟨⟨⟨h1, h2⟩, h3⟩, h4⟩, h5⟩, h6⟩, h7⟩, h8⟩ := h
  refine ⟨h1, fun y hy => h2 y hy, fun y hy hl => (h3 y hy).resolve_left fun z => z hl, h4, fun y hy hf => ?_, h6, h7, fun j y hj => ?_⟩
  · have := (h5 y hy).resolve_left fun z => z hf
    obtain ⟨c, hc⟩ := cell_has (n := s.heap.objs.size + 1) this
    exact Option.isSome_iff_exists.mpr ⟨c, hc⟩
  · have hl : j < ci.length := by rw [h7]; exact (List.getElem?_eq_some_iff.mp hj).1
    have hm : (y, ci[j]) ∈ cn.zip ci := by
      refine List.mem_iff_getElem?.mpr ⟨j, ?_⟩
      rw [List.getElem?_zip_eq_some]
      exact ⟨hj, by simp [hl]⟩
    obtain ⟨⟨k1, k2⟩, k3⟩ := h8 _ hm
    exact ⟨ci[j], by simp [hl], k1, k2, .inl k3⟩
theorem bb_len : bootBuiltins "len" = some (.builtin "len") := by decide +kernel
theorem bb_abs : bootBuiltins "abs" = some (.builtin "abs") := by decide +kernel
theorem bb_max : bootBuiltins "max" = some (.builtin "max") := by decide +kernel
theorem bb_isinstance : bootBuiltins "isinstance" = some (.builtin "isinstance") := by decide +kernel
theorem bb_all : bootBuiltins "all" = some (.builtin "all") := by decide +kernel
theorem bb_int : bootBuiltins "int" = some (.type "int") := by decide +kernel
theorem bb_tuple : bootBuiltins "tuple" = some (.type "tuple") := by decide +kernel
theorem bb_bool : bootBuiltins "bool" = some (.type "bool") := by decide +kernel
theorem bb_str : bootBuiltins "str" = some (.type "str") := by decide +kernel
end DL
namespace DL
open PySem PySem.Spec PyProof.Rows L2
section
variable {X : Cx} {tg : Expr}
theorem itr_tup {K : PySem.W.Frag} {H0 : Hp} {ι0 : List Addr} {a : Addr} {xs : List D} {vs : List V} (hS : SqT K H0 a vs) (P : Paired (Rep K H0 ι0) xs vs) : ItRep K (Itt K a) xs [] H0 ι0 := by
  refine ⟨fun i H2 ι2 Hd2 l2 h2 _ hi => ?_, fun i H2 ι2 Hd2 d x H3 l2 h2 _ hd y => ?_, fun i H2 ι2 Hd2 l2 h2 _ hi => ⟨vs, l2.tup a vs hS, by rw [← Prd.len P]; exact hi⟩⟩
  · exact ⟨vs, vs[i]'(by rw [← Prd.len P]; exact hi), l2.tup a vs hS, by simp⟩
  · obtain ⟨rfl, y⟩ := y
    obtain ⟨u, hu, ru⟩ := Prd.get P hd
    have := y vs (l2.tup a vs hS)
    rw [hu] at this
    cases this
    exact ⟨ι2, Le.refl, h2, ru.mono l2⟩
theorem itr_fl {K : PySem.W.Frag} {H0 : Hp} {ι0 : List Addr} {a : Addr} {xs : List D} {vs : List V} (hS : FzL K H0 a vs) (P : Paired (Rep K H0 ι0) xs vs) : ItRep K (Itl K a) xs [] H0 ι0 := by
  refine ⟨fun i H2 ι2 Hd2 l2 h2 _ hi => ?_, fun i H2 ι2 Hd2 d x H3 l2 h2 _ hd y => ?_, fun i H2 ι2 Hd2 l2 h2 _ hi => ⟨vs, (l2.fz a vs hS).sq, by rw [← Prd.len P]; exact hi⟩⟩
  · exact ⟨vs, vs[i]'(by rw [← Prd.len P]; exact hi), (l2.fz a vs hS).sq, by simp⟩
  · obtain ⟨rfl, y⟩ := y
    obtain ⟨u, hu, ru⟩ := Prd.get P hd
    have := y vs (l2.fz a vs hS).sq
    rw [hu] at this
    cases this
    exact ⟨ι2, Le.refl, h2, ru.mono l2⟩
theorem itr_lst {K : PySem.W.Frag} {H0 : Hp} {ι0 : List Addr} {a : Addr} {n : Nat} {xs : List D} (ha : ι0[n]? = some a) : ItRep K (Itl K a) xs [(n, .lst xs)] H0 ι0 := by
  have now : ∀ {H2 : Hp} {ι2 : List Addr} {Hd2 : HD}, Le K H0 ι0 H2 ι2 → HRep K H2 ι2 Hd2 → okOwn [(n, DO.lst xs)] Hd2 → ∃ ws, H2 a = some (.lst ws) ∧ Paired (Rep K H2 ι2) xs ws := fun {H2 ι2 Hd2} l2 h2 ok =>
    h2.obj n a _ (l2.get ha) (ok (n, .lst xs) (by simp))
  refine ⟨fun i H2 ι2 Hd2 l2 h2 ok hi => ?_, fun i H2 ι2 Hd2 d x H3 l2 h2 ok hd y => ?_, fun i H2 ι2 Hd2 l2 h2 ok hi => ?_⟩
  · obtain ⟨ws, h3, P3⟩ := now l2 h2 ok
    exact ⟨ws, ws[i]'(by rw [← Prd.len P3]; exact hi), SqL.of h3, by simp⟩
  · obtain ⟨ws, h3, P3⟩ := now l2 h2 ok
    obtain ⟨rfl, y⟩ := y
    obtain ⟨u, hu, ru⟩ := Prd.get P3 hd
    have := y ws (SqL.of h3)
    rw [hu] at this
    cases this
    exact ⟨ι2, Le.refl, h2, ru⟩
  · obtain ⟨ws, h3, P3⟩ := now l2 h2 ok
    exact ⟨ws, SqL.of h3, by rw [← Prd.len P3]; exact hi⟩
noncomputable def iSq (f : EF) : ItF := fun σ H => (f σ H).bind fun p => (itemsD p.1 p.2).map fun r => (r, p.2)
theorem pif_seq {l : Expr} {f : EF} (hl : PEf X l f) : PIf X tg l (iSq f) := by
  rintro pins s σ H R I ⟨ι, σd, Hd, xs, own, Hd', sr, hr, e, q⟩
  obtain ⟨⟨d, H1⟩, e1, e⟩ := Option.bind_eq_some_iff.mp e
  obtain ⟨⟨ys, ow⟩, e2, e⟩ := Option.map_eq_some_iff.mp e
  obtain ⟨e3, rfl⟩ := Prod.mk.inj e
  obtain ⟨rfl, rfl⟩ := Prod.mk.inj e3
  refine thn (hl pins s σ H (fun v H1 => ∃ a, v = .ref a ∧ (((∃ xs, SqL X.K H1 a xs) ∧ R (Itl X.K a) H1) ∨ ((∃ xs, SqT X.K H1 a xs) ∧ R (Itt X.K a) H1))) I ⟨ι, σd, Hd, _, _, sr, hr, e1, fun v H' ι' l h r => ?_⟩) fun v s1 ⟨x, H2, I2, r2, q2⟩ => ?_
  · cases d with
    | tup zs =>
      cases e2
      obtain ⟨a, vs, rfl, hS, P⟩ := rep_tup.mp r
      exact ⟨a, rfl, .inr ⟨⟨vs, hS⟩, q _ H' ι' l h (itr_tup hS P)⟩⟩
    | fl zs =>
      cases e2
      obtain ⟨a, vs, rfl, hS, P⟩ := rep_fl.mp r
      exact ⟨a, rfl, .inl ⟨⟨vs, hS.sq⟩, q _ H' ι' l h (itr_fl hS P)⟩⟩
    | ref n =>
      simp only [itemsD] at e2
      split at e2
      · rename_i zs eo
        obtain ⟨e5, e6⟩ := Prod.mk.inj (Option.some.inj e2)
        subst e5 e6
        obtain ⟨a, rfl, ha⟩ := rep_ref.mp r
        obtain ⟨vs, h1, P⟩ := h.obj n a _ ha eo
        exact ⟨a, rfl, .inl ⟨⟨vs, SqL.of h1⟩, q _ H' ι' l h (itr_lst ha)⟩⟩
      · cases e2
    | _ => simp [itemsD] at e2
  · obtain ⟨a, rfl, q2⟩ := q2
    cases r2
    have fp : ∀ b ∈ [s1.heap.objs.size], FpOk X pins H2 b := fun b hb => by
      have e : b = s1.heap.objs.size := by simpa using hb
      subst e
      exact I2.fpOk (Nat.le_refl _) (I2.hok.fresh (Nat.le_refl _))
    rcases q2 with ⟨⟨xs, hq⟩, q2⟩ | ⟨⟨xs, hq⟩, q2⟩
    · obtain ⟨its, rv, p, hz⟩ := I2.list hq
      exact wpAny_pyIter_list p.isList ⟨s1.heap.objs.size, [s1.heap.objs.size], _, _, H2, rfl, I2.kept (t' := s1.toks) fun b o e => Heap.get?_push_of_some _ e, turn_list a _, ⟨_, Heap.get?_push_size _ rfl, rfl, rfl⟩, fp, q2⟩
    · obtain ⟨its, rv, p, hz⟩ := I2.tuple hq
      exact wpAny_pyIter_tuple (show s1.heap.IsTuple a its.toArray from p) ⟨s1.heap.objs.size, [s1.heap.objs.size], _, _, H2, rfl, I2.kept (t' := s1.toks) fun b o e => Heap.get?_push_of_some _ e, turn_tuple a _, ⟨_, Heap.get?_push_size _ rfl, rfl, rfl⟩, fp, q2⟩
end
theorem paf_c {X : Cx} {e : Expr} {es : List Expr} {f : EF} {g : AF} (ha : PEf X e f) (hr : PAf X es g) (hs : noStar e = true) : PAf X (e :: es) (aCons f g) := paf_cons ha hr (star_cons hs)
noncomputable def spLaw (F : FF) (K : PySem.W.Frag) : Sp := spF K 1 F
theorem law_start {F : FF} (h : ∀ ns : List Int, ns.length ≤ 63 → ∃ Hd', F [.fl (ns.map .int)] [] = some (.bl true, Hd')) :
    ∀ (K : PySem.W.Frag) (H : Hp) (a : Addr) (ns : List Int), ns.length ≤ 63 → Only H → SqL K H a (ns.map V.int) → spLaw F K [.ref a] H (fun v _ => v = .bl true) fun _ _ _ => False := by
  intro K H a ns hl hO hS
  obtain ⟨Hd', e⟩ := h ns hl
  have fz : FzL K H a (ns.map V.int) := by
    rcases hS with (h | h) | h
    · rcases hO a with z | ⟨o, xs, z⟩
      · rw [h] at z; cases z
      · rw [h] at z; cases z
    · exact .inl h
    · exact .inr h
  have P : Paired (Rep K H []) (ns.map D.int) (ns.map V.int) := by
    generalize ns = ks
    induction ks with
    | nil => exact .nil
    | cons k ks ih => exact .cons (by simp) ih
  refine ⟨[], [.fl (ns.map .int)], [], .bl true, Hd', rfl, ⟨rfl, List.nodup_nil, fun n a o h1 h2 => by simp at h1⟩, .cons (rep_fl.mpr ⟨a, _, rfl, fz, P⟩) .nil, e, fun v H' ι' l h r => by simpa using r⟩
end DL
namespace DL
open PySem PySem.Spec PyProof.Rows L2
variable {X : Cx}
noncomputable def canShow (x : PyData) : Bool := x.canLay0 && x.showable && decide (x.depth ≤ 30) && decide (x.shown.length ≤ sizeLine)
noncomputable def reprD : FF := fun ds H => match ds with
  | [d] => (toP H 30 d).bind fun x => if canShow x = true then some (.str x.shown, H) else none
  | _ => none
noncomputable def blsD : List D → Option (List Bool)
  | [] => some []
  | .bl b :: r => (blsD r).map fun x => b :: x
  | _ :: _ => none
theorem blsD_vals {K : PySem.W.Frag} {H : Hp} {ι : List Addr} : ∀ {xs : List D} {bs : List Bool} {vs : List V} {us : List Value}, blsD xs = some bs → Paired (Rep K H ι) xs vs → Vals vs us → us = bs.map .bool
  | [], bs, vs, us, e, P, q => by cases e; cases P; cases q; rfl
  | d :: r, bs, vs, us, e, P, q => by
    cases P with
    | cons p P =>
      cases q with
      | cons q Q =>
        cases d <;> simp only [blsD] at e <;> try cases e
        obtain ⟨y, e1, rfl⟩ := Option.map_eq_some_iff.mp e
        simp at p
        subst p
        cases q
        rw [blsD_vals e1 P Q]
        rfl
theorem blsD_map (bs : List Bool) : blsD (bs.map .bl) = some bs := by
  induction bs with
  | nil => rfl
  | cons b r ih => simp [blsD, ih]
noncomputable def allD : FF := fun ds H => match ds with
  | [.ref n] => match H[n]? with
    | some (.lst xs) => (blsD xs).map fun bs => (.bl (bs.all id), H)
    | _ => none
  | _ => none
theorem range_all (bs : List Bool) : ((List.range bs.length).all fun i => (bs[i]?).getD true) = bs.all id := by
  rw [Bool.eq_iff_iff, List.all_eq_true, List.all_eq_true]
  constructor
  · intro h x hx
    obtain ⟨i, hi, rfl⟩ := List.getElem_of_mem hx
    have := h i (by simpa using hi)
    simpa [hi] using this
  · intro h i hi
    have hi : i < bs.length := by simpa using hi
    have := h _ (List.getElem_mem hi)
    simpa [hi] using this
theorem callf_all (hc : X.calm = true) : CallF X (.builtin "all") allD := by
  rintro pins s σ H xs us Q I rv ⟨ι, ds, Hd, d, Hd', hr, P, e, q⟩
  unfold allD at e
  split at e
  · rename_i n
    split at e
    · rename_i ys eo
      obtain ⟨bs, e1, e⟩ := Option.map_eq_some_iff.mp e
      obtain ⟨rfl, rfl⟩ := Prod.mk.inj e
      obtain ⟨v, rfl, r⟩ := prd1 P
      obtain ⟨a, rfl, ha⟩ := rep_ref.mp r
      obtain ⟨vs, h1, P2⟩ := hr.obj n a _ ha eo
      cases rv with
      | cons rx rv =>
        cases rv
        cases rx
        obtain ⟨its, rv2, p, hz⟩ := I.list (SqL.of h1)
        have eits := blsD_vals e1 P2 rv2
        have hlt : a < s.heap.objs.size := by
          obtain ⟨o, ho, _⟩ := p.isList
          exact Heap.lt_size ho
        refine call_all_walk (wpAny_pyIter_list p.isList ⟨s.heap.objs.size, [s.heap.objs.size, a], [s.heap.objs.size], its.toArray.size, _, _, fun i => (bs[i]?).getD true, rfl,
          Walks.list (A := X.A.in1) (show X.A.in1.handled = none from I.ok.hd hc) s.heap.objs.size a (Nat.ne_of_lt hlt) its.toArray, ⟨⟨_, Heap.get?_push_size _ rfl, rfl, rfl⟩, p.isList.at fun o z => Heap.get?_push_of_some _ z⟩, ?_, fun h' tk k => ?_⟩)
        · intro i v s2 Q2 E2 hv hq
          rw [eits] at hv
          have hv2 : (bs.map Value.bool)[i]? = some v := by simpa using hv
          rw [List.getElem?_map] at hv2
          obtain ⟨b, hb, rfl⟩ := Option.map_eq_some_iff.mp hv2
          refine wpAny_truthy_bool ?_
          simpa [hb] using hq
        · have hn : its.toArray.size = bs.length := by rw [eits]; simp
          rw [hn, range_all]
          refine ⟨.bl (bs.all id), H, I.kept (t' := tk) fun b o z => k b o ?_ (Heap.get?_push_of_some _ z), rfl, q _ H ι Le.refl hr (by simp)⟩
          intro hm
          have : b = s.heap.objs.size := by simpa using hm
          exact absurd (this ▸ Heap.lt_size z) (Nat.lt_irrefl _)
    · cases e
  · cases e
end DL
namespace HT
open PySem PySem.Spec PyProof.Rows
section
variable {prog : Program} {w : World} {A : Around} {E : Value → Shared → Prop} {s : Shared}
end
end HT
namespace DL
open PySem PySem.Spec PyProof.Rows L2
variable {X : Cx}
section
variable {a b c : Expr} {pos : Pos}
noncomputable def eCh (g g' : F2) (fa fb fc : EF) : EF := fun σ H => (fa σ H).bind fun p => (fb σ p.2).bind fun q => (g p.1 q.1 q.2).bind fun z => (blD z.1).bind fun k => if k = true then (fc σ z.2).bind fun w => g' q.1 w.1 w.2 else some (.bl false, z.2)
end
noncomputable def Gc (K : PySem.W.Frag) (mg : Str → Option Value) (x : Str) (d : D) : Prop := ∃ u v, mg x = some u ∧ RelV v u ∧ ∀ H ι, Rep K H ι d v
theorem pef_gc {x : Str} {d : D} {pos : Pos} (hg : Gl X x) (h : Gc X.K X.mg x d) (hd : (x == ("__debug__" : Str)) = false := by decide) : PEf X (.Name x pos) (eC d) := by
  obtain ⟨u, v, hm, r, rp⟩ := h
  exact pef_C (pe_glob (v := v) hg hm r hd) rp
theorem gc_int {K : PySem.W.Frag} {h : Heap} {mg : Str → Option Value} {x : Str} {i : Int} {t : Tok} (X : K.In h) (G : h.Ns mainGlobals mg) (a : PySem.W.nsIn K mainGlobals x = some (some (.int i t))) : Gc K mg x (.int i) :=
  ⟨_, .int i, PySem.W.mg_of X G a, ⟨t, rfl⟩, fun _ _ => by simp⟩
theorem gc_strs2 {K : PySem.W.Frag} {h : Heap} {mg : Str → Option Value} {x s1 s2 : Str} {p : Addr} {t1 t2 : Tok} {n : Nat} {osl : Array (Option Value)} (X : K.In h) (G : h.Ns mainGlobals mg) (a : PySem.W.nsIn K mainGlobals x = some (some (.ref p)))
    (l : K.lookup p = some ⟨.type "tuple", none, .seq #[.str s1 t1, .str s2 t2] n, osl⟩) : Gc K mg x (.tup [.str s1, .str s2]) := by
  refine ⟨_, .ref p, PySem.W.mg_of X G a, rfl, fun H ι => rep_tup.mpr ⟨p, [.str s1, .str s2], rfl, .inr ⟨_, _, _, l, rfl, rfl, ?_, ?_, rfl⟩, ?_⟩⟩
  · show 2 ≤ sizeLine
    rw [PySem.sizeLine_eq]; omega
  · exact .cons ⟨t1, rfl⟩ (.cons ⟨t2, rfl⟩ .nil)
  · exact .cons (by simp) (.cons (by simp) .nil)
noncomputable def revD (x : D) (H : HD) : Option (D × HD) := match x with
  | .tup xs => mkT xs.reverse H
  | _ => none
noncomputable def eRv (fe : EF) : EF := fun σ H => (fe σ H).bind fun p => revD p.1 p.2
end DL
namespace DL
open PySem PySem.Spec PyProof.Rows L2
variable {X : Cx}
noncomputable def dlook (kvs : List (D × D)) (k : List Int) : Option D := (kvs.find? fun p => nk p.1 == some k).map (·.2)
noncomputable def dput (kvs : List (D × D)) (kd : D) (k : List Int) (vd : D) : List (D × D) :=
  if (dlook kvs k).isSome then kvs.map (fun p => if nk p.1 = some k then (p.1, vd) else p) else kvs ++ [(kd, vd)]
section
variable {K : PySem.W.Frag} {H : Hp} {ι : List Addr}
end
section
variable {pins : List (Addr × Obj)} {σ : L2.St} {H : Hp} {s : Shared} {ι : List Addr} {Hd : HD}
end
noncomputable def dicD (x : D) (H : HD) : Option (List (D × D)) := match x with
  | .ref n => match H[n]? with
    | some (.dic kvs _) => some kvs
    | _ => none
  | _ => none
noncomputable def dgetD : F2 := fun x y H => (dicD x H).bind fun kvs => (nk y).bind fun k => (dlook kvs k).map fun v => (v, H)
noncomputable def eDN : EF := fun _ H => some (.ref H.length, H ++ [.dic [] false])
section
variable {prog : Program} {w : World} {kd : HeapKind prog w (List Int)} {A : Around} {E : Value → Shared → Prop} {s : Shared}
end
noncomputable def sdefD (x : D) (ds : List D) (H : HD) : Option (D × HD) := match x, ds with
  | .ref n, [y, v] => match H[n]? with
    | some (.dic kvs false) => (nk y).bind fun k => if kvs.length < sizeLine then match dlook kvs k with
      | some z => some (z, H)
      | none => some (v, H.set n (.dic (dput kvs y k v) false))
      else none
    | _ => none
  | _, _ => none
noncomputable def isDic : D → HD → Bool
  | .ref n, H => match H[n]? with
    | some (.dic _ _) => true
    | _ => false
  | _, _ => false
noncomputable def eDM (g : D → List D → HD → Option (D × HD)) (fo : EF) (f : AF) : EF := fun σ H => (fo σ H).bind fun o => if isDic o.1 o.2 = true then (f σ o.2).bind fun p => g o.1 p.1 p.2 else none
end DL
namespace DL
open PySem PySem.Spec PyProof.Rows L2
section
variable {prog : Program} {w : World} {A : Around} {E : Value → Shared → Prop} {s : Shared}
end
variable {X : Cx} {tg : Expr}
noncomputable def iDic (f : EF) : ItF := fun σ H => (f σ H).bind fun p => match p.1 with
  | .ref n => match p.2[n]? with
    | some (.dic kvs _) => some ((kvs.map (·.1), [(n, .dic kvs true)]), p.2.set n (.dic kvs true))
    | _ => none
  | _ => none
end DL
namespace DL
open PySem PySem.Spec PyProof.Rows L2
end DL
namespace DL
open PySem PySem.Spec PyProof.Rows L2
section
variable {prog : Program} {w : World} {A : Around} {E : Value → Shared → Prop} {s : Shared}
theorem init_kw {T newId : String} {self a : Value} {kw : List (Str × Value)} (hl : typeLookup (.type T) "__init__" = pure (some (.builtin "object.__init__")))
    (hm : Bind.madeBy (.type T) = pure (some newId)) (hne : (some newId != some "object.__new__") = true) :
    Meets (Builtin.«object.__init__» ⟨[self, a], kw⟩) (fun _ R s => s.TypeIs self T ∧ R (.ok (.ret .none)) s) := by
  refine Meets.of_wp fun prog w A R s zz => ?_
  obtain ⟨hT, hq⟩ := zz
  repeat (any_goals (first | assumption | wp_step))
  exact ⟨_, rfl, hq⟩
theorem tc_kw (a v : Value) : checkTypeCall "enumerate" ⟨[a], [("start", v)]⟩ = pure () := by kernel_rfl
theorem nc_kw (a v : Value) : checkBuiltinCall "enumerate.__new__" ⟨[.type "enumerate", a], [("start", v)]⟩ = pure () := by kernel_rfl
open AutoSeq1 (wpAny_loadPart') in
theorem enum_newK (t : Addr) (its : Array Value) (n : Nat) (dct : Option Addr) (sl : Array (Option Value)) (tk0 : Tok) :
    Meets (Builtin.«enumerate.__new__» ⟨[.type "enumerate", .ref t], [("start", .int 1 tk0)]⟩) (fun _ R s => s.heap.get? t = some { cls := .type "tuple", dict := dct, data := .seq its n, slots := sl } ∧
      R (.ok (.ret (.ref (s.heap.push { cls := .type "tuple_iterator", data := .fields #[.ref t, .int 0 0] }).objs.size)))
        { s with heap := (s.heap.push { cls := .type "tuple_iterator", data := .fields #[.ref t, .int 0 0] }).push { cls := .type "enumerate", data := .fields #[.none, .bool false, .ref s.heap.objs.size, rawInt 1, .none, .none] } }) :=
  .of_wp fun prog w A R s h => by
    obtain ⟨hp, g, d, tk, os⟩ := s; obtain ⟨hl, h⟩ := h
    have hsub := sub_enumerate
    have hL : Heap.IsTuple (Shared.heap ⟨hp, g, d, tk, os⟩) t its := ⟨_, hl, rfl, n, rfl⟩
    wp_walk using wpAny_loadPart' hl
    refine wpAny_stack_any fun st => wpAny_pure ?_
    split
    · rename_i k _ _ _ _ _
      cases (k == Value.type "enumerate") <;> (wp_walk using wpAny_loadPart' hl, wpAny_pyIter_tuple hL; exact ⟨_, rfl, h⟩)
    · wp_walk using wpAny_loadPart' hl, wpAny_pyIter_tuple hL
      exact ⟨_, rfl, h⟩
end
end DL
namespace DL
open PySem PySem.Spec PyProof.Rows L2
section
variable {prog : Program} {w : World} {A : Around} {E : Value → Shared → Prop} {s : Shared}
theorem type_kw {args : List Value} {kw : List (Str × Value)} {newId : String} {Bn : Builtin} {T : String} {S : PySem.Spec} {Q : Value → Shared → Prop} (ft : TypeCalled T newId "object.__init__") (hne : (some newId != some "object.__new__") = true)
    (hct : checkTypeCall T ⟨args, kw⟩ = pure ()) (hcn : checkBuiltinCall newId ⟨.type T :: args, kw⟩ = pure ()) (entryN : entryFor table newId = some Bn) (g : Meets (Bn ⟨.type T :: args, kw⟩) S)
    (hok : ∀ obj, argsOk "object.__init__" ⟨obj :: args, kw⟩) (gi : ∀ obj, Meets (Builtin.«object.__init__» ⟨obj :: args, kw⟩) (fun _ R s => s.TypeIs obj T ∧ R (.ok (.ret .none)) s))
    (h : S A.in1 (wants (fun obj s₁ => s₁.TypeIs obj T ∧ Q obj s₁) E) s) : wpAny (model prog w) A (call (.type T) args kw) Q E s := by
  obtain ⟨c, tl, hmro⟩ := ft.mro
  have hmade := ft.made
  have hsub := ft.sub
  have n1 := ft.notType
  have n2 := ft.canCreate
  refine wpAny_call (codeAny_of_tree (show wpAny _ _ (callAny (.type T) _) _ _ _ from wpAny_pure ⟨Code.quiet_builtin _ (by decide +kernel), codeAny_builtin F.entry_type_call ?_⟩))
  rw [Around.under_plain (weight_type_call_type T args kw) (units_type_call_type T args kw)]
  repeat (any_goals (first | assumption | wp_step))
  refine codeAny_mono (codeAny_call_builtin ft.plain entryN (wpAny_of_eq hcn (g prog w A.in1 _ s h))) fun r s₁ hr => ?_
  cases r with
  | error e => exact hr
  | ok fl =>
    cases fl with
    | ret obj =>
      obtain ⟨hT, hq⟩ : s₁.TypeIs obj T ∧ Q obj s₁ := hr
      have hli := ft.init.lookup
      have hbi := ft.init.bind obj
      repeat (any_goals (first | assumption | wp_step))
      refine codeAny_mono (codeAny_call_builtin ft.init.plain F.entry_object_init (ft.init.check _ _ _ _ _ _ _ _ hT (hok obj) (gi obj prog w A.in1 (wants (fun r s₂ => r = .none ∧ Q obj s₂) E) s₁ ⟨hT, rfl, hq⟩))) fun r₂ s₂ hr₂ => ?_
      cases r₂ with
      | error e => exact hr₂
      | ok fl₂ =>
        cases fl₂ with
        | ret r =>
          obtain ⟨rfl, hq2⟩ := hr₂
          repeat (any_goals (first | assumption | wp_step))
        | _ => exact hr₂.elim
    | _ => exact hr.elim
theorem callWith_typeK {M : Model} {pos : Pos} {T : String} {args : List (Bool × Sem Value)} {kws : List (Option Str × Sem Value)} {Q : Value → Shared → Prop} (h1 : args.any (·.1) = false) (h2 : kws.any (·.1.isNone) = false)
    (h : wpAny M A (evalArgs (.type T) true args kws) (fun a s₁ => wpAny M A (call (.type T) a.pos a.kw) Q E s₁) E s) : wpAny M A (callWith pos (.type T) [] args kws) Q E s := by
  unfold callWith
  refine wpAny_bind (wpAny_holding (thn h fun a s₁ q => wpAny_bind (wpAny_standAt ?_)))
  simp only [h1, h2, Bool.or_false]
  exact wpAny_bind (wpAny_pure (wpAny_bind (thn q fun r s₂ q2 => wpAny_bind (wpAny_holding (wpAny_point (wpAny_pure q2))))))
theorem init_args (a b v : Value) : argsOk "object.__init__" ⟨[a, b], [("start", v)]⟩ := by
  unfold argsOk
  first | decide +kernel | kernel_rfl | (intro _; kernel_rfl)
end
variable {X : Cx}
noncomputable def iEnum1 (f : AF) : ItF := fun σ H => (f σ H).bind fun p => match p.1 with
  | [.tup xs] => some ((enumL 1 xs, []), p.2)
  | _ => none
end DL
namespace DL
open PySem PySem.Spec PyProof.Rows L2
variable {X : Cx} {tg : Expr}
end DL
namespace DL
open PySem PySem.Spec PyProof.Rows L2
end DL
namespace DL
open PySem PySem.Spec PyProof.Rows L2
section
variable {X : Cx} {c : Expr} {pos : Pos}
end
section
variable {X : Cx} {e : Expr} {es : List Expr} {pos : Pos}
noncomputable def eTM (g : D → List D → HD → Option (D × HD)) (fo : EF) (f : AF) : EF := fun σ H => (fo σ H).bind fun o => if isTup o.1 = true then (f σ o.2).bind fun p => g o.1 p.1 p.2 else none
end
end DL
namespace DL
open PySem PySem.Spec PyProof.Rows L2
section
variable {prog : Program} {w : World} {A : Around} {E : Value → Shared → Prop} {s : Shared}
end
end DL
namespace DL
open PySem PySem.Spec PyProof.Rows L2
open Builtin.SmallTypes (nextOf)
noncomputable def SqI (b : Bool) (h : Heap) (i l : Addr) (n : Nat) : Prop := ∃ o, h.get? i = some o ∧ o.cls = .type (if b then "list_iterator" else "tuple_iterator") ∧ o.data = .fields #[.ref l, .int n 0]
noncomputable def SqX (b : Bool) (h : Heap) (l : Addr) (xs : Array Value) : Prop := ∃ o, h.get? l = some o ∧ o.cls = .type (if b then "list" else "tuple") ∧ ∃ n, o.data = .seq xs n
theorem SqI.lt {b : Bool} {h : Heap} {i l : Addr} {n : Nat} (x : SqI b h i l n) : i < h.objs.size := let ⟨_, e, _⟩ := x; Heap.lt_size e
section
variable {prog : Program} {w : World} {A : Around} {E : Value → Shared → Prop} {s : Shared}
theorem nx_item {b : Bool} {i l : Addr} {n : Nat} {xs : Array Value} {x : Value} {Q : Value → Shared → Prop} (hi : SqI b s.heap i l n) (hl : SqX b s.heap l xs) (hx : xs[n]? = some x)
    (hQ : ∀ h', SqI b h' i l (n + 1) → Heap.SameBut i s.heap h' → Q x { s with heap := h' }) : wpAny (model prog w) A (nextOf (.ref i)) Q E s := by
  cases b
  · exact nxt_item hi hl hx hQ
  · exact wpAny_nextOf_list_item hi hl hx hQ
theorem nx_end {b : Bool} {i l : Addr} {n : Nat} {xs : Array Value} {Q : Value → Shared → Prop} (hh : A.handled = none) (hi : SqI b s.heap i l n) (hl : SqX b s.heap l xs) (hx : xs[n]? = none)
    (hE : ∀ h' e, Heap.ExtBut i s.heap h' → (∃ o, h'.get? e = some o ∧ o.cls = .type "StopIteration") → E (.ref e) { s with heap := h' }) : wpAny (model prog w) A (nextOf (.ref i)) Q E s := by
  cases b
  · exact nxt_end hh hi hl hx hE
  · exact wpAny_nextOf_list_end hh hi hl hx hE
variable {z TI TO i1 i2 l1 l2 : Addr} {k1 k2 : Nat} {xs ys : Array Value} {b1 b2 : Bool}
end
noncomputable def srcD (d : D) (H : HD) : Option (List D × OwnD) := match d with
  | .tup xs => some (xs, [])
  | .ref n => match H[n]? with
    | some (.lst xs) => some (xs, [(n, .lst xs)])
    | _ => none
  | _ => none
section
variable {X : Cx} {pins : List (Addr × Obj)} {σ : L2.St} {H : Hp} {s : Shared} {b : Bool} {l : Addr} {xs ys : List V}
end
noncomputable def iZipS (f : AF) : ItF := fun σ H => (f σ H).bind fun p => match p.1 with
  | [d1, d2] => (srcD d1 p.2).bind fun a => (srcD d2 p.2).map fun b => ((zipL a.1 b.1, a.2 ++ b.2), p.2)
  | _ => none
end DL
namespace DL
open PySem PySem.Spec PyProof.Rows L2
theorem vals_ints : ∀ {ns : List Int} {us : List Value}, Vals (ns.map V.int) us → us.length = ns.length ∧ ∀ (i : Nat) (v : Value), us[i]? = some v → ∃ t, v = .int ((ns[i]?).getD 0) t
  | [], us, h => by
    cases h
    exact ⟨rfl, by intro i v e; simp at e⟩
  | n :: r, us, h => by
    cases h with
    | cons p Q =>
      obtain ⟨h1, h2⟩ := vals_ints Q
      refine ⟨by simp [h1], ?_⟩
      intro i v e
      cases i with
      | zero =>
        obtain ⟨t, rfl⟩ := p
        simp at e
        exact ⟨t, by simpa using e.symm⟩
      | succ i =>
        simp at e
        simpa using h2 i v e
section
variable {X : Cx}
end
end DL
namespace DL
open PySem PySem.Spec PyProof.Rows L2
section
variable {X : Cx} {e : Expr} {pos : Pos}
noncomputable def sErr : SF := fun _ _ => none
theorem psf_err {st : Stmt} : PSf X st sErr := by
  rintro pins s σ H E I ⟨ι, σd, Hd, fl, σd', Hd', _, _, e, _⟩
  cases e
end
end DL
namespace DL
open PySem PySem.Spec PyProof.Rows L2
noncomputable def LtAt (A : Around) (s : Shared) (x y : Value) (b : Bool) : Prop := ∀ (prog : Program) (w : World) (E Q : Value → Shared → Prop), Q (.bool b) s → wpAny (model prog w) A (richCompare .Lt x y) Q E s
inductive LexAt (A : Around) (s : Shared) : List Value → List Value → Bool → Prop
  | nn : LexAt A s [] [] false
  | nc {w ws} : LexAt A s [] (w :: ws) true
  | cn {v vs} : LexAt A s (v :: vs) [] false
  | eq {v vs w ws r} : SeqAt.EqAt A s v w true → LexAt A s vs ws r → LexAt A s (v :: vs) (w :: ws) r
  | ne {v vs w ws r} : SeqAt.EqAt A s v w false → LtAt A s v w r → LexAt A s (v :: vs) (w :: ws) r
section
open PySem.SeqAt
open PySem.AutoSeq1 (wpAny_loadPart')
open PySem.MeetsSeq PySem.MeetsSeq2 PySem.MeetsSeq3
end
end DL
namespace DL
open PySem PySem.Spec PyProof.Rows L2
section
variable {prog : Program} {w : World} {A : Around} {R : Result → Shared → Prop} {J S : Addr} {fp wr : List Addr} {n : Nat} {P : Nat → Value → Prop} {St : Nat → Heap → Prop} {Gd : Heap → Prop} {bt : Nat → Nat → Bool}
noncomputable def Holds (wr : List Addr) (S : Addr) (h h' : Heap) : Prop := ∀ b o, b ∉ wr → b ≠ S → h.get? b = some o → h'.get? b = some o
end
end DL
namespace DL
open PySem PySem.Spec PyProof.Rows L2
section
variable {X : Cx}
end
end DL
namespace DL
open PySem PySem.Spec PyProof.Rows L2
section
variable {prog : Program} {w : World} {A : Around} {R : Result → Shared → Prop} {J d : Addr} {fp wr : List Addr} {n : Nat} {P : Nat → Value → Prop} {St : Nat → Heap → Prop} {Gd : Nat → Heap → Prop}
end
end DL
namespace DL
open PySem PySem.Spec PyProof.Rows L2
structure BlkOk2 (X : Cx) (scope : Scope) (x y : Str) (cn : List Str) (ci : List Nat) : Prop where
  kind : scope.kind = .function
  nocell : ∀ y ∈ scope.names, y.2 ≠ .cell
  names : ∀ y ∈ scope.names, y.2 = .local → scope.names.lookup y.1 = some .local
  tgt : scope.names.lookup x = some .local
  tgt2 : scope.names.lookup y = some .local
  free : ∀ y ∈ scope.names, y.2 = .free → (X.env.cells.lookup y.1).isSome = true
  nd : (x :: y :: cn).Nodup
  len : ci.length = cn.length
  cap : ∀ (j : Nat) (y : Str), cn[j]? = some y → ∃ i, ci[j]? = some i ∧ X.N[i]? = some y ∧ scope.names.lookup y = some .free ∧ (X.env.kindOf y = some .cell ∨ X.env.kindOf y = some .free)
section
variable {X : Cx} {pins : List (Addr × Obj)} {σ : L2.St} {H : Hp} {s : Shared} {scope : Scope} {x y0 : Str} {cn : List Str} {ci : List Nat} {fp : List Addr}
end
end DL
namespace DL
open PySem PySem.Spec PyProof.Rows L2
open Builtin.SmallTypes (nextOf)
section
variable {prog : Program} {w : World} {A : Around} {E : Value → Shared → Prop} {s : Shared}
theorem nxt_itemL {j t : Addr} {i : Nat} {its : Array Value} {x : Value} {Q : Value → Shared → Prop} (hj : s.heap.IsListIter j t i) (ht : s.heap.IsList t its) (hx : its[i]? = some x)
    (hQ : ∀ h', h'.IsListIter j t (i + 1) → Heap.SameBut j s.heap h' → Q x { s with heap := h' }) : wpAny (model prog w) A (nextOf (.ref j)) Q E s :=
  nx_item (b := true) hj ht hx hQ
theorem nxt_endL {j t : Addr} {i : Nat} {its : Array Value} {Q : Value → Shared → Prop} (hh : A.handled = none) (hj : s.heap.IsListIter j t i) (ht : s.heap.IsList t its) (hx : its[i]? = none)
    (hE : ∀ h' e, Heap.ExtBut j s.heap h' → (∃ o, h'.get? e = some o ∧ o.cls = .type "StopIteration") → E (.ref e) { s with heap := h' }) : wpAny (model prog w) A (nextOf (.ref j)) Q E s :=
  nx_end (b := true) hh hj ht hx hE
theorem enumL_step {e j t : Addr} {i : Nat} {c : Int} {its : Array Value} {x old : Value} {Q : Option Value → Shared → Prop} (he : IsEnum s.heap e j c old) (hj : s.heap.IsListIter j t i) (ht : s.heap.IsList t its) (hx : its[i]? = some x) (hne : e ≠ j)
    (hQ : ∀ h' tk, IsEnumOut h' e j (c + 1) x s.heap.objs.size → h'.IsListIter j t (i + 1) → h'.get? s.heap.objs.size = some { cls := .type "tuple", data := .seq #[.int c tk, x] } → h'.objs.size = s.heap.objs.size + 1 →
      (∀ b o, b ≠ e → b ≠ j → s.heap.get? b = some o → h'.get? b = some o) → Q (some (.ref s.heap.objs.size)) { s with heap := h', toks := s.toks + 1 }) :
    wpAny (model prog w) A (pyNext (.ref e)) Q E s := by
  have hT : s.TypeIs (.ref e) "enumerate" := ⟨_, he, rfl⟩
  unfold pyNext
  refine wpAny_bind (wpAny_attempt (wpAny_callSpecial?_slot (name := Str.ofString "__next__") hT F.slot_enumerate_next (wpAny_call_entry F.slot_enumerate_next hT F.entry_enumerate_next ?_ (F.args_enumerate_next_1 _))))
  obtain ⟨hp, g, d, tk, os⟩ := s
  show wpAny _ _ (field (.ref e) 2 >>= _) _ _ _
  refine wpAny_bind (wpAny_field he rfl (x := .ref j) rfl (wpAny_bind (nxt_itemL hj ht hx fun h1 j1 s1 => ?_)))
  replace s1 : Heap.SameBut j hp h1 := s1
  have e1 : IsEnum h1 e j c old := (s1.2 e hne).trans he
  show wpAny _ _ (field (.ref e) 3 >>= _) _ _ ⟨h1, g, d, tk, os⟩
  refine wpAny_bind (wpAny_field e1 rfl (x := rawInt c) rfl ?_)
  show wpAny _ _ (field (.ref e) 4 >>= _) _ _ ⟨h1, g, d, tk, os⟩
  refine wpAny_bind (wpAny_field e1 rfl (x := .none) rfl ?_)
  show wpAny _ _ (mkInt c >>= _) _ _ ⟨h1, g, d, tk, os⟩
  refine wpAny_bind (wpAny_mkInt ?_)
  show wpAny _ _ (setField (.ref e) 3 (rawInt (c + 1)) >>= _) _ _ ⟨h1, g, d, tk + 1, os⟩
  refine wpAny_bind (wpAny_setField_rec e1 (by simp) fun h2 e2 s2 => ?_)
  replace s2 : Heap.SameBut e h1 h2 := s2
  replace e2 : IsEnum h2 e j (c + 1) old := e2
  show wpAny _ _ (setField (.ref e) 4 .none >>= _) _ _ ⟨h2, g, d, tk + 1, os⟩
  refine wpAny_bind (wpAny_setField_rec e2 (by simp) fun h3 e3 s3 => ?_)
  replace s3 : Heap.SameBut e h2 h3 := s3
  replace e3 : IsEnum h3 e j (c + 1) old := e3
  show wpAny _ _ (newTuple [.int c tk, x] >>= _) _ _ ⟨h3, g, d, tk + 1, os⟩
  refine wpAny_bind (wpAny_newTuple ?_)
  have e4 : IsEnum (h3.push { cls := .type "tuple", data := .seq #[.int c tk, x] }) e j (c + 1) old := Heap.get?_push_of_some _ e3
  generalize q4 : h3.push { cls := .type "tuple", data := .seq #[.int c tk, x] } = h4 at e4
  have zz : h3.objs.size = hp.objs.size := by rw [s3.1, s2.1, s1.1]
  have lt : e < hp.objs.size := Heap.lt_size he
  have t4 : h4.get? hp.objs.size = some { cls := .type "tuple", data := .seq #[.int c tk, x] } := by rw [← q4, ← zz]; exact Heap.get?_push_size _ rfl
  have z4 : h4.objs.size = hp.objs.size + 1 := by rw [← q4, Heap.size_push, zz]
  have k4 : ∀ b o, b ≠ e → b ≠ j → hp.get? b = some o → h4.get? b = some o := fun b o n1 n2 q => by
    rw [← q4]; exact Heap.get?_push_of_some _ (s3.extBut b o n1 (s2.extBut b o n1 (s1.extBut b o n2 q)))
  have j4 : h4.IsListIter j t (i + 1) := by
    obtain ⟨o, ho, r⟩ := id j1
    exact ⟨o, by rw [← q4]; exact Heap.get?_push_of_some _ (s3.extBut j o (Ne.symm hne) (s2.extBut j o (Ne.symm hne) ho)), r⟩
  show wpAny _ _ (Builtin.SmallTypes.ownedTupleIsFree (.ref e) >>= _) _ _ ⟨h4, g, d, tk + 1, os⟩
  rw [zz]
  clear q4 e3 s3 e2 s2 e1 s1 j1 zz h3 h2 h1
  refine wpAny_bind ?_
  unfold Builtin.SmallTypes.ownedTupleIsFree
  refine wpAny_bind (wpAny_field e4 rfl (x := .none) rfl (wpAny_pure ?_))
  simp only [if_true]
  refine wpAny_bind (wpAny_rule (wpAny_bind (wpAny_field e4 rfl (x := old) rfl (wpAny_bind (wpAny_setField_rec e4 (by simp) fun h5 e5 s5 => ?_)))))
  replace s5 : Heap.SameBut e h4 h5 := s5
  replace e5 : IsEnum h5 e j (c + 1) x := e5
  show wpAny _ _ (Builtin.SmallTypes.ownedTupleHandOut (.ref e) (.ref hp.objs.size) >>= _) _ _ ⟨h5, g, d, tk + 1, os⟩
  refine wpAny_bind ?_
  unfold Builtin.SmallTypes.ownedTupleHandOut
  refine wpAny_bind (wpAny_setField_rec e5 (by simp) fun h6 e6 s6 => ?_)
  replace s6 : Heap.SameBut e h5 h6 := s6
  replace e6 : IsEnumOut h6 e j (c + 1) x hp.objs.size := e6
  refine wpAny_setField_rec e6 (by simp) fun h7 e7 s7 => ?_
  replace s7 : Heap.SameBut e h6 h7 := s7
  replace e7 : IsEnumOut h7 e j (c + 1) x hp.objs.size := e7
  have up : ∀ b o, b ≠ e → h4.get? b = some o → h7.get? b = some o := fun b o n q => s7.extBut b o n (s6.extBut b o n (s5.extBut b o n q))
  refine wpAny_bind (wpAny_letGo (wpAny_pure ⟨_, rfl, wpAny_pure (hQ h7 tk e7 ?_ (up _ _ (Nat.ne_of_gt lt) t4) (by rw [s7.1, s6.1, s5.1, z4]) fun b o n1 n2 q => up b o n1 (k4 b o n1 n2 q))⟩))
  obtain ⟨o, ho, r⟩ := id j4
  exact ⟨o, up j o (Ne.symm hne) ho, r⟩
theorem enumL_stop {e j t : Addr} {i : Nat} {c : Int} {its : Array Value} {old : Value} {Q : Option Value → Shared → Prop} (hh : A.handled = none) (he : IsEnum s.heap e j c old) (hj : s.heap.IsListIter j t i) (ht : s.heap.IsList t its) (hx : its[i]? = none)
    (hQ : ∀ h', Heap.ExtBut j s.heap h' → Q none { s with heap := h' }) : wpAny (model prog w) A (pyNext (.ref e)) Q E s := by
  have hT : s.TypeIs (.ref e) "enumerate" := ⟨_, he, rfl⟩
  unfold pyNext
  refine wpAny_bind (wpAny_attempt (wpAny_callSpecial?_slot (name := Str.ofString "__next__") hT F.slot_enumerate_next (wpAny_call_entry F.slot_enumerate_next hT F.entry_enumerate_next ?_ (F.args_enumerate_next_1 _))))
  show wpAny _ _ (field (.ref e) 2 >>= _) _ _ _
  refine wpAny_bind (wpAny_field he rfl (x := .ref j) rfl (wpAny_bind (nxt_endL hh hj ht hx fun h' z he' zz => ?_)))
  obtain ⟨o, ho, hc⟩ := zz
  exact wpAny_bind (wpAny_isInstance (T := "StopIteration") (b := true) ⟨o, ho, hc⟩ isSubtype_stop (wpAny_pure (hQ _ he')))
open AutoSeq1 (wpAny_loadPart') in
theorem enum_newL (t : Addr) (its : Array Value) (n : Nat) (dct : Option Addr) (sl : Array (Option Value)) :
    Meets (Builtin.«enumerate.__new__» ⟨[.type "enumerate", .ref t], []⟩) (fun _ R s => s.heap.get? t = some { cls := .type "list", dict := dct, data := .seq its n, slots := sl } ∧
      R (.ok (.ret (.ref (s.heap.push { cls := .type "list_iterator", data := .fields #[.ref t, .int 0 0] }).objs.size)))
        { s with heap := (s.heap.push { cls := .type "list_iterator", data := .fields #[.ref t, .int 0 0] }).push { cls := .type "enumerate", data := .fields #[.none, .bool false, .ref s.heap.objs.size, rawInt 0, .none, .none] } }) :=
  .of_wp fun prog w A R s h => by
    obtain ⟨hp, g, d, tk, os⟩ := s; obtain ⟨hl, h⟩ := h
    have hsub := sub_enumerate
    have hL : Heap.IsList (Shared.heap ⟨hp, g, d, tk, os⟩) t its := ⟨_, hl, rfl, n, rfl⟩
    wp_walk using wpAny_loadPart' hl
    refine wpAny_stack_any fun st => wpAny_pure ?_
    split
    · rename_i k _ _ _ _ _
      cases (k == Value.type "enumerate") <;> (wp_walk using wpAny_loadPart' hl, wpAny_pyIter_list hL; exact ⟨_, rfl, h⟩)
    · wp_walk using wpAny_loadPart' hl, wpAny_pyIter_list hL
      exact ⟨_, rfl, h⟩
end
noncomputable def IteL (c : Int) (a : Addr) : It :=
  ⟨fun i H => ∃ xs x, H a = some (.lst xs) ∧ xs[i]? = some x, fun i H v H' => ∃ p x, H p = none ∧ v = .ref p ∧ H' = upd H p (.tup [.int (c + i), x]) ∧ ∀ xs, H a = some (.lst xs) → xs[i]? = some x, fun i H => ∃ xs, H a = some (.lst xs) ∧ xs.length ≤ i⟩
theorem turn_enumL {P : Program} {w : World} {K : PySem.W.Frag} {es : List Expr} {k : Nat} {pos : Pos} (a e j : Addr) (c : Int) (hne : e ≠ j) : Turn P w K (.Tuple es k pos) (IteL c a) [e, j] e (fun i h => ∃ old, IsEnum h e j (c + i) old ∧ h.IsListIter j a i) where
  mem := by simp
  obj := fun i h st b hb => by
    obtain ⟨old, he, o, ho, hc, hd⟩ := st
    rcases List.mem_cons.mp hb with rfl | hb
    · exact ⟨_, he, fun v z => by cases z⟩
    · have : b = j := by simpa using hb
      subst this
      exact ⟨o, ho, fun v z => by rw [hd] at z; cases z⟩
  keep := fun i h h' st kk => by
    obtain ⟨old, he, o, ho, r⟩ := st
    exact ⟨old, kk e (by simp) _ he, o, kk j (by simp) o ho, r⟩
  item := by
    intro X hP hw hK hc i pins s σ H E I hf st hg
    subst hP hw hK
    obtain ⟨xs, x, hq, hx⟩ := hg
    obtain ⟨old, he, hj⟩ := st
    obtain ⟨its, rv, p, hz⟩ := I.list (SqL.of hq)
    obtain ⟨u, hu, ru⟩ := rv.get hx
    have fe := hf e (by simp)
    have fj := hf j (by simp)
    refine enumL_step he hj p.isList (x := u) (by simpa using hu) hne fun h' tk eo j' t' z' kk => ?_
    refine ⟨_, rfl, wpAny_letOwnedTupleGo_enum (s := { s with heap := h', toks := s.toks + 1 }) eo fun h2 e2 s2 => ?_⟩
    replace s2 : Heap.SameBut e h' h2 := s2
    have le : e < s.heap.objs.size := Heap.lt_size he
    have ne2 : s.heap.objs.size ≠ e := Nat.ne_of_gt le
    -- the iterator's two records have turned, the pair is new
    have t2 : h2.get? s.heap.objs.size = some { cls := .type "tuple", data := .seq #[.int (c + i) tk, u] } := s2.extBut _ _ ne2 t'
    have hp0 : H s.heap.objs.size = none := I.hok.fresh (Nat.le_refl _)
    have up : ∀ b o, b ∉ [e, j] → s.heap.get? b = some o → h2.get? b = some o := fun b o hb q =>
      s2.extBut b o (fun z => hb (by simp [z])) (kk b o (fun z => hb (by simp [z])) (fun z => hb (by simp [z])) q)
    have I2 : Inv X pins σ (upd H s.heap.objs.size (.tup [.int (c + i), x])) { s with heap := h2, toks := s.toks + 1 } := by
      refine I.step (g' := s.gens) (d' := s.drawn) (t' := s.toks + 1) (ch := [e, j]) (fun b hb => ?_) (fun b o _ _ hb q n => up b o hb q) (fun b o _ _ hb q n => ⟨o.slots, up b o hb q⟩) (fun b o _ q n => ?_) (fun b o hb q => ⟨o, up b o hb q⟩) (fun b ys q => ?_) (fun b o y q => ?_) (fun b ps q => ⟨#[], ?_⟩) (fun m hm => ?_) (fun b o q => ?_) I.bare
      · have := hf b hb; exact ⟨this.2.2.2.1, this.2.1, this.2.2.2.2.1, this.2.2.2.2.2⟩
      · rw [upd_ne (Nat.ne_of_lt (Heap.lt_size q))]; exact n
      · rw [upd_ne (ne_of_none q hp0)]; exact q
      · rw [upd_ne (ne_of_none q hp0)]; exact q
      · rw [upd_ne (ne_of_none q hp0), q]; simp
      · obtain ⟨o, es', ep, ho, r⟩ := hm
        exact ⟨o, es', ep, s2.extBut _ o (Ne.symm fe.2.1) (kk _ o (Ne.symm fe.2.1) (Ne.symm fj.2.1) ho), r⟩
      · by_cases hb : b = s.heap.objs.size
        · subst hb
          rw [upd_same] at q
          cases q
          exact ⟨(by show 2 ≤ sizeLine; decide), [.int (c + i) tk, u], .cons ⟨tk, rfl⟩ (.cons ru .nil), _, t2, rfl, ⟨_, rfl⟩, rfl⟩
        · rw [upd_ne hb] at q
          refine (I.hok b o q).stay (fun d v hd z => up d v (fun hm => ?_) z) (fun d z => by rw [upd_ne (ne_of_none z hp0)]; exact z) fun d ys z => by rw [upd_ne (ne_of_none z hp0)]; exact z
          have : H d ≠ none := by
            rcases hd with rfl | hd
            · rw [q]; simp
            · rw [hd]; simp
          exact this (hf d hm).1
    refine ⟨.ref s.heap.objs.size, _, I2, rfl, ⟨_, x, hp0, rfl, rfl, fun ys hy => by rw [hq] at hy; cases hy; exact hx⟩, ?_, fun b hb => ?_⟩
    · obtain ⟨o, ho, r⟩ := id j'
      have ec : c + ((i + 1 : Nat) : Int) = c + (i : Int) + 1 := by push_cast; omega
      exact ⟨u, by rw [ec]; exact e2, o, s2.extBut j o (Ne.symm hne) ho, r⟩
    · have hb2 : b ≠ s.heap.objs.size := by
        rcases List.mem_cons.mp hb with rfl | hb
        · exact Nat.ne_of_lt le
        · have : b = j := by simpa using hb
          subst this
          obtain ⟨o, ho, _⟩ := id hj
          exact Nat.ne_of_lt (Heap.lt_size ho)
      rw [upd_ne hb2]; exact (hf b hb).1
  done := by
    intro X hP hw hK hc i pins s σ H E I hf st hg
    subst hP hw hK
    obtain ⟨xs, hq, hx⟩ := hg
    obtain ⟨old, he, hj⟩ := st
    obtain ⟨its, rv, p, hz⟩ := I.list (SqL.of hq)
    obtain ⟨f0, f1, f2, f3, f4, f5⟩ := hf j (by simp)
    have hl := rv.length
    exact enumL_stop (I.ok.hd hc) he hj p.isList (by simp; omega) fun h' eb => ⟨rfl, I.turned (t' := s.toks) (fun b o hb q => eb b o hb q) f0 f1 f3 f4 f5⟩
  self := fun _ _ _ _ _ st h => by
    obtain ⟨old, he, _⟩ := st
    exact wpAny_pyIter_enum he h
end DL
namespace DL
open PySem PySem.Spec PyProof.Rows L2
noncomputable def two2 : D → Option (D × D)
  | .tup [a, b] => some (a, b)
  | _ => none
open Classical in
noncomputable def compL2 (own : OwnD) (c0 : SD) (tt : TF) (te : EF) : List D → HD → Option (List D × HD)
  | [], H => if okOwn own H then some ([], H) else none
  | x :: r, H => (two2 x).bind fun ab => if okOwn own H then (tt (some ab.1 :: some ab.2 :: c0) H).bind fun t => if t.1 = true then (te (some ab.1 :: some ab.2 :: c0) t.2).bind fun e => (compL2 own c0 tt te r e.2).map fun q => (e.1 :: q.1, q.2) else compL2 own c0 tt te r t.2 else none
section
variable {X : Cx} {scope : Scope} {x y0 : Str} {cn : List Str} {ci : List Nat}
theorem itr_enumL {K : PySem.W.Frag} {H0 : Hp} {ι0 : List Addr} {a : Addr} {n : Nat} {c : Int} {xs : List D} (ha : ι0[n]? = some a) : ItRep K (IteL c a) (enumL c xs) [(n, .lst xs)] H0 ι0 := by
  have now : ∀ {H2 : Hp} {ι2 : List Addr} {Hd2 : HD}, Le K H0 ι0 H2 ι2 → HRep K H2 ι2 Hd2 → okOwn [(n, DO.lst xs)] Hd2 → ∃ ws, H2 a = some (.lst ws) ∧ Paired (Rep K H2 ι2) xs ws := fun {H2 ι2 Hd2} l2 h2 ok =>
    h2.obj n a _ (l2.get ha) (ok (n, .lst xs) (by simp))
  refine ⟨fun i H2 ι2 Hd2 l2 h2 ok hi => ?_, fun i H2 ι2 Hd2 d v H3 l2 h2 ok hd y => ?_, fun i H2 ι2 Hd2 l2 h2 ok hi => ?_⟩
  · obtain ⟨ws, h3, P3⟩ := now l2 h2 ok
    exact ⟨ws, ws[i]'(by rw [← Prd.len P3, ← enumL_len xs c]; exact hi), h3, by simp⟩
  · obtain ⟨ws, h3, P3⟩ := now l2 h2 ok
    obtain ⟨p, x, hp, rfl, rfl, y⟩ := y
    obtain ⟨x', hx', rfl⟩ := enumL_get hd
    obtain ⟨u, hu, ru⟩ := Prd.get P3 hx'
    have := y ws h3
    rw [hu] at this
    cases this
    exact ⟨ι2, Le.fresh hp _, h2.tup hp _, rep_tup.mpr ⟨p, _, rfl, SqT.of upd_same, .cons (by simp) (.cons (ru.mono (Le.fresh hp _)) .nil)⟩⟩
  · obtain ⟨ws, h3, P3⟩ := now l2 h2 ok
    exact ⟨ws, h3, by rw [← Prd.len P3, ← enumL_len xs c]; exact hi⟩
end
end DL
namespace DL
open PySem PySem.Spec PyProof.Rows L2
section
variable {K : PySem.W.Frag} {H : Hp} {ι : List Addr}
end
section
variable {X : Cx} {pins : List (Addr × Obj)} {σ : L2.St} {H : Hp} {s : Shared} {ι : List Addr}
end
section
variable {X : Cx}
end
end DL
namespace DL
open PySem PySem.Spec PyProof.Rows L2
section
variable {X : Cx}
end
end DL
namespace DL
open PySem PySem.Spec PyProof.Rows L2
section
variable {X : Cx}
noncomputable def CBig (i j : Int) : Prop := i.natAbs < 2 ^ 1000 ∧ j.natAbs < 2 ^ 1000
instance (i j : Int) : Decidable (CBig i j) := by unfold CBig; exact inferInstance
theorem isKey_lt {P : Program} {w : World} {h : Heap} {k : List Int} {b : Addr} (x : (tupleKind (numKind P w)).is h k b) : b < h.objs.size := by
  obtain ⟨o, its, n, h1, r⟩ := x
  exact Heap.lt_size h1
end
end DL
namespace DL
open PySem PySem.Spec PyProof.Rows L2 PySem.W
section
variable {prog : Program} {w : World} {A : Around} {E : Value → Shared → Prop} {s : Shared}
noncomputable def EntAt (d : Addr) (es : Array DictEntry) (ep : Nat) (h : Heap) : Prop := ∃ o, h.get? d = some o ∧ o.cls = .type "dict" ∧ o.data = .dict es ep
theorem EntAt.at {d : Addr} {es : Array DictEntry} {ep : Nat} {h h' : Heap} (x : EntAt d es ep h) (k : ∀ o, h.get? d = some o → h'.get? d = some o) : EntAt d es ep h' := let ⟨o, e, r⟩ := x; ⟨o, k o e, r⟩
end
section
variable {X : Cx}
end
end DL
namespace DL
open PySem PySem.Spec PyProof.Rows L2
section
variable {X : Cx}
noncomputable def smallB (i j c : Int) : Prop := -(2 ^ 60) ≤ i ∧ i < 2 ^ 60 ∧ -(2 ^ 60) ≤ j ∧ j < 2 ^ 60 ∧ c = -1
instance (i j c : Int) : Decidable (smallB i j c) := by unfold smallB; exact inferInstance
end
end DL
namespace L2
open PySem PySem.Spec PyProof.Rows
theorem ObjOk.here {P : Program} {w : World} {H : Hp} {h : Heap} {a : Addr} {o : HO} (x : ObjOk P w H h a o) : ∃ ob, h.get? a = some ob := by
  cases o with
  | lst xs => obtain ⟨_, its, n, _, e⟩ := x; exact ⟨_, e⟩
  | tup xs => obtain ⟨_, its, _, ob, e, _⟩ := x; exact ⟨_, e⟩
  | dK kvs => obtain ⟨_, _, vs, _, ob, es, ep, e, _⟩ := x; exact ⟨_, e⟩
  | dT kvs => obtain ⟨_, _, xs, _, ob, es, ep, e, _⟩ := x; exact ⟨_, e⟩
  | set S n => obtain ⟨ob, es, ep, t, e, _⟩ := x; exact ⟨_, e⟩
  | ins C dx fs => obtain ⟨_, _, _, e, _⟩ := x; exact ⟨_, e⟩
  | own y => obtain ⟨ob, e⟩ := x; exact ⟨_, e⟩
  | xd fs => obtain ⟨mA, ⟨od, es, ep, e, _⟩, _⟩ := x; exact ⟨_, e⟩
  | rng lo hi => obtain ⟨t, u, v, e⟩ := x; exact ⟨_, e⟩
  | frz ob u => obtain ⟨e, _⟩ := x; exact ⟨_, e⟩
  | tbl ps => exact ⟨_, x⟩
  | met f y => exact ⟨_, x⟩
  | ext φ => obtain ⟨_, e, _⟩ := x; exact e
end L2
namespace DL
open PySem PySem.Spec PyProof.Rows L2 PySem.W
structure Fly (l : List Env) (H H1 : Hp) (h0 h1 : Heap) (a : Addr) (C : Value) : Prop where
  new : h0.get? a = none
  fly : ∃ (B : Heap) (a0 : Value), Heap.FlyingW B l a C a0 h1 ∧ (∀ b o, h0.get? b = some o → b ∉ frs l → ∃ o', B.get? b = some o' ∧ (H b = none → o' = o)) ∧ ∀ b ho, H1 b = some ho → ∃ o, h1.get? b = some o ∧ B.get? b = some o
noncomputable def CXe (P : Program) (w : World) : CXT := fun outer H s E e s' => ∃ (a : Addr) (C : Value) (H1 : Hp), e = .ref a ∧ E C none H1 ∧ s'.os = s.os ∧ AllBare s'.gens ∧ Un (frs outer) [] H H1 s.heap s'.heap ∧ HOk P w H1 s'.heap ∧ Fly outer H H1 s.heap s'.heap a C
structure ExcT (K : PySem.W.Frag) (mg : Str → Option Value) (x : Str) (C : Addr) : Prop where
  bound : mg x = some (.ref C)
  kp : PySem.W.keepIn K (.ref C) = true
  inK : ∃ (bm : List Value) (B newId initId : String), PySem.W.excIn K C bm newId = true ∧ ExcBaseFacts B newId initId bm
theorem fly_un {P : Program} {w : World} {l : List Env} {H H1 : Hp} {h0 h1 h2 B : Heap} (u : Un (frs l) [] H H1 h0 h1) (ok : HOk P w H1 h1) (bo : ∀ b o, h0.get? b = some o → b ∉ frs l → ∃ o', B.get? b = some o' ∧ (H b = none → o' = o)) (bt : ∀ b ho, H1 b = some ho → ∃ o, h1.get? b = some o ∧ B.get? b = some o)
    (st : B.StaysIn h2) (up : h1.UpToSlots h2) (ff : h1.FunFrames B l) : Un (frs l) [] H H1 h0 h2 ∧ HOk P w H1 h2 := by
  have fram : ∀ b o, b ∈ frs l → h1.get? b = some o → ∃ sl, h2.get? b = some { o with slots := sl } := fun b o z eb => by
    obtain ⟨_, o', g1, g3⟩ := ff.mem z
    rw [eb] at g1
    cases g1
    exact up b o eb g3
  refine ⟨⟨fun b o e n nb _ => ?_, fun b o e n hb hx => ?_, u.free, fun b o e hx => ?_, u.tups, u.frzs, u.tbls⟩, fun b ho e => ?_⟩
  · obtain ⟨o', g, z⟩ := bo b o e nb
    rw [z n] at g
    exact st b o g
  · obtain ⟨sl, g⟩ := u.slot b o e n hb hx
    obtain ⟨sl', g'⟩ := fram b _ hb g
    exact ⟨sl', g'⟩
  · by_cases z : b ∈ frs l
    · obtain ⟨o1, g⟩ := u.there b o e hx
      obtain ⟨sl, g'⟩ := fram b o1 z g
      exact ⟨_, g'⟩
    · obtain ⟨o', g, _⟩ := bo b o e z
      exact ⟨o', st b o' g⟩
  · refine (ok b ho e).stay (fun c v hc g => ?_) (fun _ z => z) (fun _ _ z => z)
    have tk : ∃ hc, H1 c = some hc := by
      rcases hc with rfl | hc
      · exact ⟨_, e⟩
      · exact ⟨_, hc⟩
    obtain ⟨hc', tk⟩ := tk
    obtain ⟨o, g1, g2⟩ := bt c hc' tk
    rw [g] at g1
    cases g1
    exact st c v g2
section
variable {P : Program} {w : World} {K : PySem.W.Frag} {mg : Str → Option Value} {base : Heap} {N : List Str} {qual : Str} {scope : Scope} {f : Addr} {cd : Value} {A : Around} {outer : List Env} {s s1 : Shared} {H H1 : Hp} {E : XK} {pins : List (Addr × Obj)} {σ : L2.St}
end
end DL
namespace DL
open PySem PySem.Spec PyProof.Rows L2 PySem.W
noncomputable abbrev XFF := List D → HD → Option HD
section
variable {X : Cx} {C : Addr} {st : Stmt} {sts : List Stmt} {e c : Expr} {pos np cpos : Pos} {x : Str}
theorem pss_no : PSs X sts fun _ _ _ => False := fun _ _ _ _ _ _ h => h.elim
noncomputable def spX (K : PySem.W.Frag) (C : Addr) (n : Nat) (F : XFF) : Sp := fun vs H _ E => ∃ ι ds Hd Hd', ds.length = n ∧ HRep K H ι Hd ∧ Paired (Rep K H ι) ds vs ∧ F ds Hd = some Hd' ∧ ∀ H1 ι', Le K H ι H1 ι' → HRep K H1 ι' Hd' → E (.ref C) none H1
end
section
variable {X : Cx} {C f : Addr} {k n : Nat} {fd : FuncData} {ps : List Str} {XF : XFF} {fa : AF} {x : Str} {a : Expr} {as : List Expr} {sts : List Stmt} {p cp ep : Pos}
end
section
variable {P : Program} {w : World} {K : PySem.W.Frag} {mg : Str → Option Value} {base : Heap}
end
end DL
namespace L2
open PySem PySem.Spec PyProof.Rows
theorem wp_goes {X : Cx} {pins : List (Addr × Obj)} {σ : St} {H : Hp} {s : Shared} {M : Model} {A : Around} {E : Value → Shared → Prop} {i : Nat} {x : Str} {pos : Pos} {Q : Unit → Shared → Prop} (I : Inv X pins σ H s) (hN : X.N.Nodup) (hi : X.N[i]? = some x) (hl : X.env.kindOf x = some .local)
    (h : ∀ s', Inv X pins (σ.set i none) H s' → Q () s') : wpAny M A (do bindName X.env x .none; unbindBehindTheSuite X.env x pos) Q E s := by
  obtain ⟨m, hn, hv⟩ := id I.loc
  refine wpAny_nameGoes_keeps hl hn (by rw [I.ok.kind]; rfl) fun h' v hn' hs => h _ ?_
  have old : ∀ b o, X.s₀.heap.get? b = some o → b ≠ X.env.locals := fun b o e => Nat.ne_of_lt (Nat.lt_of_lt_of_le (Heap.lt_size e) I.ok.above)
  have tr : ∀ b ho, H b = some ho → b ≠ X.env.locals := fun b ho e z => by rw [z, I.free] at e; cases e
  refine ⟨I.ok, I.os, I.bare, ⟨fun b o e n hb hx => (hs.2 b (old b o e)).trans (I.base.keep b o e n hb hx), fun b o e n hb hx => ?_, I.base.free, fun b o e hx => ?_, I.base.tups, I.base.frzs, I.base.tbls⟩, ⟨_, hn', fun j y w e1 e2 e3 => ?_⟩, fun y c e => ?_, I.free, I.freeC, fun p hp => ?_, fun b ho e => ?_, by simpa using I.len⟩
  · obtain ⟨sl, g⟩ := I.base.slot b o e n hb hx
    exact ⟨sl, (hs.2 b (old b o e)).trans g⟩
  · obtain ⟨o', g⟩ := I.base.there b o e hx
    exact ⟨o', (hs.2 b (old b o e)).trans g⟩
  · by_cases hj : j = i
    · subst hj
      rw [List.getElem?_set] at e2
      split at e2
      · split at e2 <;> cases e2
      · rename_i z; exact absurd rfl z
    · rw [List.getElem?_set_ne (Ne.symm hj)] at e2
      obtain ⟨u, r, q⟩ := hv j y w e1 e2 e3
      refine ⟨u, r, ?_⟩
      rcases q with ⟨k, z⟩ | ⟨k, c, z, g⟩
      · have ne : y ≠ x := fun z => hj (nodup_ix hN e1 (z ▸ hi))
        exact .inl ⟨k, (if_neg ne).trans z⟩
      · exact .inr ⟨k, c, z, g.sameBut hs (I.cne y c z)⟩
  · obtain ⟨w, g⟩ := I.cell y c e
    exact ⟨w, g.sameBut hs (I.cne y c e)⟩
  · obtain ⟨e, n, ne, nf, d⟩ := I.pin p hp
    exact ⟨(hs.2 p.1 ne).trans e, n, ne, nf, d⟩
  · refine (I.hok b ho e).stay (fun c u hc g => (hs.2 c ?_).trans g) (fun _ z => z) (fun _ _ z => z)
    rcases hc with rfl | hc
    · exact tr _ _ e
    · exact tr _ _ hc
end L2
namespace DL
open PySem PySem.Spec PyProof.Rows L2 PySem.W
noncomputable abbrev Xh (X : Cx) (ex : Addr) (oe : Obj) : Cx := { X with A := X.A.mark (some (.ref ex)), calm := false, pn := (ex, oe) :: X.pn, xe := fun _ _ => False }
theorem Inv.marked {X : Cx} {pins : List (Addr × Obj)} {σ : L2.St} {H : Hp} {s : Shared} {ex : Addr} {oe : Obj} (I : Inv X pins σ H s) (g : s.heap.get? ex = some oe) (n : H ex = none) (ne : ex ≠ X.env.locals) (nf : ex ∉ X.fs) (nc : ∀ v, oe.data ≠ .cell v) : Inv (Xh X ex oe) pins σ H s := by
  obtain ⟨o1, o2, o3, o4, o5, o6, o7, o8, o9, o10, o11, o12, o13, o14, o15, o16, o17, o18⟩ := I.ok
  refine ⟨⟨o1, o2, o3, o4, o5, o6, o7, o8, (fun z => by cases z), o10, o11, o12, o13, o14, o15, o16, o17, o18⟩, I.os, I.bare, I.base, I.loc, I.cell, I.free, I.freeC, fun p hp => ?_, I.hok, I.len⟩
  rcases List.mem_cons.mp (show p ∈ (ex, oe) :: (X.pn ++ pins) from hp) with rfl | hp
  · exact ⟨g, n, ne, nf, nc⟩
  · exact I.pin p hp
theorem Inv.unmark {X : Cx} {pins : List (Addr × Obj)} {σ : L2.St} {H : Hp} {s : Shared} {ex : Addr} {oe : Obj} (ok : X.Ok) (I : Inv (Xh X ex oe) pins σ H s) : Inv X pins σ H s :=
  ⟨ok, I.os, I.bare, I.base, I.loc, I.cell, I.free, I.freeC, fun p hp => I.pin p (List.mem_cons_of_mem _ hp), I.hok, I.len⟩
end DL
namespace DL
open PySem PySem.Spec PyProof.Rows L2 PySem.W
structure ExcL (K : PySem.W.Frag) (C : Addr) : Prop where
  ga : findIn K (.ref C) "__getattribute__" = some (some (.builtin "BaseException.__getattribute__"))
  gr : findIn K (.ref C) "__getattr__" = some none
  cl : findIn K (.ref C) "__class__" = some (some (.builtin "object.__class__"))
  gt : specialIn K (.builtin "object.__class__") "__get__" = some (some (.builtin "getset_descriptor.__get__"))
  tk : takesIn K (.builtin "object.__class__") = some true
  mr : mroIn K C (.type "object") = some true
  sb : subIn K (.ref C) (.type "BaseException") = some true
  cs : (clsIn K C).isSome = true
section
variable {prog : Program} {w : World} {A : Around} {E : Value → Shared → Prop} {s : Shared} {K : PySem.W.Frag} {x C : Addr} {ox : Obj}
structure ExcO (h : Heap) (x : Addr) (ox : Obj) (C : Addr) : Prop where
  at_ : h.get? x = some ox
  cls : ox.cls = .ref C
theorem ExcO.type {M : Model} {h : Heap} (I : ExcO h x ox C) : Looks M h (typeOf (.ref x)) (.ref C) := by rw [← I.cls]; exact (Looks.ld I.at_).andThen .now
end
end DL
namespace DL
open PySem PySem.Spec PyProof.Rows L2 PySem.W
section
variable {X : Cx}
end
end DL
namespace DL
open PySem PySem.Spec PyProof.Rows L2 PySem.W
section
variable {X : Cx}
theorem PS_nox {st : Stmt} {t : TS} (h : PS X.nox st t) : PS X st t := by
  intro pins s σ H D I q
  refine wpAny_mono (h pins s σ H D (I.wish _) q) (fun f s1 z => ?_) fun _ _ z => z.elim
  cases f with
  | next => obtain ⟨σ1, H1, I1, z⟩ := z; exact ⟨σ1, H1, I1.unwish, z⟩
  | brk => obtain ⟨σ1, H1, I1, z⟩ := z; exact ⟨σ1, H1, I1.unwish, z⟩
  | cont => obtain ⟨σ1, H1, I1, z⟩ := z; exact ⟨σ1, H1, I1.unwish, z⟩
  | ret u => obtain ⟨v, σ1, H1, I1, r, z⟩ := z; exact ⟨v, σ1, H1, I1.unwish, r, z⟩
theorem PA_nox {es : List Expr} {t : TA} (h : PA X.nox es t) : PA X es t := by
  intro pos pins s σ H Q I q
  refine wpAny_mono (h pos pins s σ H Q (I.wish _) q) (fun us s1 z => ?_) fun _ _ z => z.elim
  obtain ⟨vs, H1, I1, r, z⟩ := z
  exact ⟨vs, H1, I1.unwish, r, z⟩
end
structure FnX (P : Program) (w : World) (K : PySem.W.Frag) (mg : Str → Option Value) (base : Heap) (k : Nat) (x : Str) (ps : List Str) (xn : Str) (F : XFF) : Prop where
  ex : ∃ f fd, (∀ C, ExcT K mg xn C → FnOk P w K mg base (CXe P w) k f fd ps (spX K C ps.length F)) ∧ Binds K fd ps [] ∧ PySem.W.keepIn K (.ref f) = true ∧ mg x = some (.ref f)
structure Refu (K : PySem.W.Frag) (mg : Str → Option Value) (xn xc : Str) (C : Addr) (cV : Value) (cs : List Addr) : Prop where
  exc : ExcT K mg xn C
  look : ExcL K C
  cls : mg xc = some cV
  one : exmOne K (.ref C) cV = some true
  any : kitAny K (.ref C) (cs.map .ref) = some false
  val : kitOne K (.ref C) (.type "ValueError") = some true
theorem mg_ref {K : PySem.W.Frag} {hp : Heap} {mg : Str → Option Value} {n : Str} {c : Addr} (X : K.In hp) (G : hp.Ns mainGlobals mg) (e : nsIn K mainGlobals n = some (some (.ref c))) : mg n = some (.ref c) := PySem.W.mg_of X G e
section
variable {X : Cx}
end
end DL
namespace DL
open PySem PySem.Spec PyProof.Rows L2
section
variable {X : Cx}
noncomputable def CNn (_ j : Int) : Prop := 0 ≤ j
instance (i j : Int) : Decidable (CNn i j) := by unfold CNn; exact inferInstance
end
end DL
namespace DL
open PySem PySem.Spec PyProof.Rows L2
section
variable {X : Cx}
end
end DL
namespace DL
open PySem PySem.Spec PyProof.Rows L2
section
variable {X : Cx}
end
end DL
namespace DL
open PySem PySem.Spec PyProof.Rows L2
noncomputable def Its (x : Str) : It := ⟨fun i _ => i < x.cps.size, fun i H v H' => H' = H ∧ ∃ c, x.cps[i]? = some c ∧ v = .str ⟨#[c]⟩, fun i _ => x.cps.size ≤ i⟩
theorem turn_str {P : Program} {w : World} {K : PySem.W.Frag} {tg : Expr} (it : Addr) (x : Str) (t : Tok) : Turn P w K tg (Its x) [it] it (fun i h => h.IsStrIter it "str_ascii_iterator" x t i) where
  mem := by simp
  obj := fun i h st b hb => by
    have e : b = it := by simpa using hb
    subst e
    obtain ⟨o, e, c, d⟩ := st
    exact ⟨o, e, fun v z => by rw [d] at z; cases z⟩
  keep := fun i h h' st k => by
    obtain ⟨o, e, r⟩ := st
    exact ⟨o, k it (by simp) o e, r⟩
  item := by
    intro X hP hw hK hc i pins s σ H E I hf st hg
    subst hP hw hK
    have hi : i < x.cps.size := hg
    obtain ⟨f0, f1, f2, f3, f4, f5⟩ := hf it (by simp)
    refine wpAny_pyNext_ascii_item st (c := x.cps[i]) (by simp [hi]) fun h' st' sb => ?_
    have I1 : Inv X pins σ H { s with heap := h', toks := s.toks + 1 } := I.turned (t' := s.toks + 1) (fun b o hb e => (sb.2 b hb).trans e) f0 f1 f3 f4 f5
    obtain ⟨o, e, c, d⟩ := id st'
    exact ⟨_, rfl, go_of (s := { s with heap := h', toks := s.toks + 1 }) e c d (by decide) ⟨.str ⟨#[x.cps[i]]⟩, H, I1, ⟨_, rfl⟩, ⟨rfl, _, by simp [hi], rfl⟩, st', fun b hb => (hf b hb).1⟩⟩
  done := by
    intro X hP hw hK hc i pins s σ H E I hf st hg
    subst hP hw hK
    have hi : x.cps.size ≤ i := hg
    obtain ⟨f0, f1, f2, f3, f4, f5⟩ := hf it (by simp)
    exact wpAny_pyNext_ascii_end (I.ok.hd hc) st (by simp [hi]) fun h' eb => ⟨rfl, I.turned (t' := s.toks) (fun b o hb e => eb b o hb e) f0 f1 f3 f4 f5⟩
  self := fun _ _ _ _ _ st h => wpAny_pyIter_striter_ascii st h
noncomputable def signs (x : Str) : List D := x.cps.toList.map fun c => .str ⟨#[c]⟩
theorem it_signs {K : PySem.W.Frag} {H0 : Hp} {ι0 : List Addr} (x : Str) : ItRep K (Its x) (signs x) [] H0 ι0 := by
  refine ⟨fun i H2 ι2 Hd2 l2 h2 _ hi => (show i < x.cps.size by simpa [signs] using hi), fun i H2 ι2 Hd2 d v H3 l2 h2 _ hd y => ?_, fun i H2 ι2 Hd2 l2 h2 _ hi => (show x.cps.size ≤ i by simpa [signs] using hi)⟩
  obtain ⟨rfl, c, hc, rfl⟩ := y
  unfold signs at hd
  rw [List.getElem?_map, Array.getElem?_toList, hc] at hd
  cases hd
  exact ⟨ι2, Le.refl, h2, by simp⟩
section
variable {X : Cx} {tg : Expr}
noncomputable def iTxt (f : EF) : ItF := fun σ H => (f σ H).bind fun p => match p.1 with
  | .str x => if x.cps.all (· < 128) = true then some ((signs x, []), p.2) else none
  | _ => none
noncomputable def tiTxt (tl : TE) : TI := fun σ H R => tl σ H fun v H1 => ∃ x : Str, v = .str x ∧ x.cps.all (· < 128) = true ∧ R (Its x) H1
theorem pi_txt {l : Expr} {tl : TE} (hl : PE X l tl) : PI X tg l (tiTxt tl) := by
  intro pins s σ H R I h
  refine thn (hl pins s σ H _ I h) fun v s1 zz => ?_
  obtain ⟨y, H1, I1, r1, q1⟩ := zz
  obtain ⟨x, rfl, ha, q⟩ := q1
  obtain ⟨t, rfl⟩ := r1
  refine wpAny_pyIter_ascii ha ?_
  refine ⟨s1.heap.objs.size, [s1.heap.objs.size], _, _, H1, rfl, I1.kept (t' := s1.toks) fun b o e => Heap.get?_push_of_some _ e, turn_str _ x t, ⟨_, Heap.get?_push_size _ rfl, rfl, rfl⟩, fun b hb => ?_, q⟩
  have e : b = s1.heap.objs.size := by simpa using hb
  subst e
  exact I1.fpOk (Nat.le_refl _) (I1.hok.fresh (Nat.le_refl _))
theorem pif_txt {e : Expr} {f : EF} (he : PEf X e f) : PIf X tg e (iTxt f) := by
  refine PIi (pi_txt he) fun σ H R zz => ?_
  obtain ⟨ι, σd, Hd, xs, own, Hd', s, hr, e, q⟩ := zz
  obtain ⟨⟨d, H1⟩, e1, e⟩ := Option.bind_eq_some_iff.mp e
  dsimp only at e
  split at e
  · rename_i x
    split at e
    · rename_i ha
      cases e
      refine ⟨ι, σd, Hd, _, _, s, hr, e1, fun v H' ι' l h r => ?_⟩
      have r : v = .str x := by simpa using r
      subst r
      exact ⟨x, rfl, ha, q _ H' ι' l h (it_signs x)⟩
    · cases e
  · cases e
end
end DL
namespace DL
open PySem PySem.Spec PyProof.Rows L2
section
variable {X : Cx}
end
end DL
namespace DL
open PySem PySem.Spec PyProof.Rows L2
section
variable {P P2 : Program} {w w2 : World}
theorem items_any {ks : List Int} {vs : List Value} (h : ItemsAre (numKind P w) ks vs) : ItemsAre (numKind P2 w2) ks vs := by
  induction h with
  | nil => exact .nil
  | cons a b ih => exact .cons a ih
theorem tkey_any {h : Heap} {ks : List Int} {a : Addr} (x : (tupleKind (numKind P w)).is h ks a) : (tupleKind (numKind P2 w2)).is h ks a := by
  obtain ⟨o, its, n, e1, e2, e3, e4⟩ := x
  exact ⟨o, its, n, e1, e2, e3, items_any e4⟩
noncomputable def IsPK (P : Program) (w : World) (h : Heap) (k : Int × List Int) (a : Addr) : Prop := ∃ o v b n, h.get? a = some o ∧ o.cls = .type "tuple" ∧ o.data = .seq #[v, .ref b] n ∧ numIs k.1 v = true ∧ (tupleKind (numKind P w)).is h k.2 b
theorem IsPK.typeIs {s : Shared} {k : Int × List Int} {a : Addr} (x : IsPK P w s.heap k a) : s.TypeIs (.ref a) "tuple" := by
  obtain ⟨o, v, b, n, e1, e2, _⟩ := x
  exact ⟨o, e1, e2⟩
theorem IsPK.inj {h : Heap} {a : Addr} {x y : Int × List Int} (hx : IsPK P w h x a) (hy : IsPK P w h y a) : x = y := by
  obtain ⟨o, v, b, n, e1, _, e3, e4, e5⟩ := hx
  obtain ⟨o', v', b', n', f1, _, f3, f4, f5⟩ := hy
  rw [e1] at f1
  cases f1
  rw [e3] at f3
  injection f3 with g1 _
  have g2 := congrArg Array.toList g1
  simp at g2
  obtain ⟨rfl, rfl⟩ := g2
  exact Prod.ext ((numKind P w).inj _ _ _ e4 f4) ((tupleKind (numKind P w)).inj e5 f5)
theorem IsPK.keeps {h h' : Heap} {k : Int × List Int} {a d : Addr} {o : Obj} {es ep} (x : IsPK P w h k a) (ho : h.get? d = some o) (hd : o.data = .dict es ep) (hs : Heap.SameBut d h h') : IsPK P w h' k a := by
  obtain ⟨o', v, b, n, e1, e2, e3, e4, e5⟩ := x
  have hne : a ≠ d := fun z => by
    subst z
    rw [e1] at ho
    cases ho
    rw [hd] at e3
    cases e3
  exact ⟨o', v, b, n, (hs.2 a hne).trans e1, e2, e3, e4, (tupleKind (numKind P w)).keeps e5 ho hd hs⟩
variable {A : Around} {E : Value → Shared → Prop} {s : Shared}
theorem pk_hash {k : Int × List Int} {a : Addr} {Q : Int → Shared → Prop} (hu : A.units + 1 < cLine) (x : IsPK P w s.heap k a) (q : Q (nHash k) { s with toks := s.toks + (k.2.length + 3) }) : wpAny (model P w) A (pyHash (.ref a)) Q E s := by
  have hT := x.typeIs
  obtain ⟨o, v, b, n, e1, e2, e3, e4, e5⟩ := x
  refine PySem.W.pyHash_slot hT F.slot_tuple_hash F.entry_tuple_hash (F.args_tuple_hash_1 _) (beq_builtin_none _) (.inr (Nat.lt_of_succ_lt hu)) ?_
  show wpAny _ _ (Builtin.Tuple.tupleItemsOf (.ref a) >>= _) _ _ s
  refine wpAny_bind (wpAny_tupleItemsOf e1 e3 (wpAny_bind ?_))
  rw [← Array.forIn_toList]
  simp only [List.forIn_cons, List.forIn_nil]
  refine wpAny_bind (wpAny_bind ((numKind P w).pyHash e4 (wpAny_bind (wpAny_pure (wpAny_pure ?_)))))
  refine wpAny_bind (wpAny_bind ((tupleKind (numKind P w)).pyHash (show A.in1.units < cLine by simpa using hu) e5 (wpAny_pure ?_)))
  refine wpAny_pure ?_
  show wpAny _ _ (retInt (Builtin.Tuple.tupleHashOf _)) _ _ _
  refine wpAny_bind (wpAny_mkInt (wpAny_pure ⟨_, _, rfl, ?_⟩))
  have : s.toks + 1 + (k.2.length + 1) + 1 = s.toks + (k.2.length + 3) := by omega
  have q2 : Q (nHash k) { s with toks := s.toks + 1 + (k.2.length + 1) + 1 } := by rw [this]; exact q
  exact q2
theorem num_eqAt {A : Around} {s : Shared} {i j : Int} {u v : Value} (hu : numIs i u = true) (hv : numIs j v = true) : SeqAt.EqAt A s u v (decide (i = j)) := fun P w E Q h => (numKind P w).eqBool (a := i) (b := j) hu hv h
theorem tup_eqAt {A : Around} {s : Shared} {i j : List Int} {u v : Addr} (hr : A.units < cLine) (hu : (tupleKind (numKind P w)).is s.heap i u) (hv : (tupleKind (numKind P w)).is s.heap j v) : SeqAt.EqAt A s (.ref u) (.ref v) (decide (i = j)) := fun P2 w2 E Q h => (tupleKind (numKind P2 w2)).eqBool hr (tkey_any hu) (tkey_any hv) h
theorem pk_eq {x y : Int × List Int} {a b : Addr} {Q : Bool → Shared → Prop} (hu : A.units + 1 < cLine) (hx : IsPK P w s.heap x a) (hy : IsPK P w s.heap y b) (q : Q (decide (x = y)) s) : wpAny (model P w) A (eqBool (.ref a) (.ref b)) Q E s := by
  by_cases hab : a = b
  · subst hab
    obtain rfl := hx.inj hy
    exact SeqAt.EqAt.same (A := A) (s := s) (.ref a) P w E Q (by simpa using q)
  · obtain ⟨o, v, c, n, e1, e2, e3, e4, e5⟩ := hx
    obtain ⟨o', v', c', n', f1, f2, f3, f4, f5⟩ := hy
    have R := SeqAt.RcAt.tuples (A := A) (s := s) (l := a) (b := b) (items := #[v, .ref c]) (items2 := #[v', .ref c']) (e := fun j => if j = 0 then decide (x.1 = y.1) else decide (x.2 = y.2)) ⟨o, e1, e2, n, e3⟩ ⟨o', f1, f2, n', f3⟩ (Nat.lt_of_succ_lt hu) fun j h1 h2 => by
      match j, h1 with
      | 0, _ => exact num_eqAt e4 f4
      | 1, _ => exact tup_eqAt (show A.in1.units < cLine by simpa using hu) e5 f5
    refine SeqAt.EqAt.of_refs hab R P w E Q ?_
    have : ((List.range (min (#[v, Value.ref c]).size (#[v', Value.ref c']).size)).all (fun j => if j = 0 then decide (x.1 = y.1) else decide (x.2 = y.2)) && (#[v, Value.ref c]).size == (#[v', Value.ref c']).size) = decide (x = y) := by
      obtain ⟨x1, x2⟩ := x
      obtain ⟨y1, y2⟩ := y
      simp [List.range, List.range.loop]
    rw [this]
    exact q
theorem tup_quiet (m : Nat) {ks : List Int} {a : Addr} {Q : Bool → Shared → Prop} (x : (tupleKind (numKind P w)).is s.heap ks a) (q : Q true s) : wpAny (model P w) A (eqIsQuiet (m + 1) (.ref a)) Q E s := by
  have hT : s.TypeIs (.ref a) "tuple" := IsTupleKey.typeIs (knd := numKind P w) x
  obtain ⟨o, its, n, e1, e2, e3, e4⟩ := x
  unfold eqIsQuiet
  refine wpAny_bind (wpAny_specialOf hT F.slot_tuple_eq.lookup ?_)
  refine wpAny_bind (wpAny_isInstance hT isSubtype_tuple_tuple ?_)
  simp only [Bool.not_true, Bool.false_eq_true, if_false]
  refine wpAny_bind (wpAny_seqItems e1 e3 (wpAny_bind ?_))
  show wpAny _ _ (forIn its _ _) _ _ s
  rw [← Array.forIn_toList]
  have all := e4.byValue
  clear e3 e4
  generalize its.toList = l at all
  induction l with
  | nil => exact wpAny_pure (wpAny_pure q)
  | cons v r ih =>
    rw [List.forIn_cons, eqIsQuiet_byValue _ (all v List.mem_cons_self)]
    refine wpAny_bind (wpAny_bind (wpAny_pure ?_))
    simp only [Bool.not_true, Bool.false_eq_true, if_false]
    exact wpAny_pure (ih fun z hz => all z (List.mem_cons_of_mem _ hz))
theorem pk_quiet {k : Int × List Int} {a : Addr} {Q : Bool → Shared → Prop} (x : IsPK P w s.heap k a) (q : Q true s) : wpAny (model P w) A (eqIsQuiet 8 (.ref a)) Q E s := by
  have hT := x.typeIs
  obtain ⟨o, v, b, n, e1, e2, e3, e4, e5⟩ := x
  unfold eqIsQuiet
  refine wpAny_bind (wpAny_specialOf hT F.slot_tuple_eq.lookup ?_)
  refine wpAny_bind (wpAny_isInstance hT isSubtype_tuple_tuple ?_)
  simp only [Bool.not_true, Bool.false_eq_true, if_false]
  refine wpAny_bind (wpAny_seqItems e1 e3 (wpAny_bind ?_))
  show wpAny _ _ (forIn (#[v, Value.ref b]) _ _) _ _ s
  rw [← Array.forIn_toList]
  simp only [List.forIn_cons, List.forIn_nil]
  rw [eqIsQuiet_byValue _ ((numKind P w).byValue _ _ e4)]
  refine wpAny_bind (wpAny_bind (wpAny_pure ?_))
  simp only [Bool.not_true, Bool.false_eq_true, if_false]
  refine wpAny_pure ?_
  refine wpAny_bind (wpAny_bind (tup_quiet 6 e5 ?_))
  simp only [Bool.not_true, Bool.false_eq_true, if_false]
  exact wpAny_pure (wpAny_pure (wpAny_pure q))
end
noncomputable def pairKind (P : Program) (w : World) : HeapKind P w (Int × List Int) where
  is := IsPK P w
  hash := nHash
  draws := fun k => k.2.length + 3
  room := fun A => A.units + 1 < cLine
  inj := fun hx hy => hx.inj hy
  keeps := fun x ho hd hs => x.keeps ho hd hs
  pyHash := fun hu hk h => pk_hash hu hk h
  eqBool := fun hu hx hy h => pk_eq hu hx hy h
  quiet := fun hk h => pk_quiet hk h
end DL
namespace DL
open PySem PySem.Spec PyProof.Rows L2
noncomputable abbrev PK := Int × List Int
section
variable {K : PySem.W.Frag} {H : Hp} {ι : List Addr}
end
section
variable {X : Cx} {pins : List (Addr × Obj)} {σ : L2.St} {H : Hp} {s : Shared} {ι : List Addr}
end
section
variable {X : Cx}
noncomputable def PKlt (P : Program) (w : World) (h : Heap) (n : Nat) (k : PK) (b : Addr) : Prop := b < n ∧ ∃ o v c m, h.get? b = some o ∧ o.cls = .type "tuple" ∧ o.data = .seq #[v, .ref c] m ∧ numIs k.1 v = true ∧ (tupleKind (numKind P w)).is h k.2 c ∧ c < n
theorem PKlt.is {P : Program} {w : World} {h : Heap} {n : Nat} {k : PK} {b : Addr} (x : PKlt P w h n k b) : (pairKind P w).is h k b := by
  obtain ⟨_, o, v, c, m, e1, e2, e3, e4, e5, _⟩ := x
  exact ⟨o, v, c, m, e1, e2, e3, e4, e5⟩
theorem PKlt.of {P : Program} {w : World} {h : Heap} {k : PK} {b : Addr} (x : (pairKind P w).is h k b) : PKlt P w h h.objs.size k b := by
  obtain ⟨o, v, c, m, e1, e2, e3, e4, e5⟩ := x
  exact ⟨Heap.lt_size e1, o, v, c, m, e1, e2, e3, e4, e5, isKey_lt e5⟩
end
end DL
namespace DL
open PySem PySem.Spec PyProof.Rows L2
open Builtin.SmallTypes (nextOf)
noncomputable def ZipO (h : Heap) (z TI TO a : Addr) (f : Bool) : Prop := h.get? z = some { cls := .type "zip", dict := none, data := .fields #[rawInt a, .bool f, .bool false, .ref TI, .ref TO], slots := #[] }
section
variable {prog : Program} {w : World} {A : Around} {E : Value → Shared → Prop} {s : Shared}
variable {z TI TO i1 i2 l1 l2 : Addr} {k1 k2 : Nat} {xs ys : Array Value} {b1 b2 : Bool}
structure ZS (n : Nat) (z TI TO i1 i2 l1 l2 : Addr) (b1 b2 : Bool) (xs ys : Array Value) (i : Nat) (h : Heap) : Prop where
  ti : IsPair h TI (.ref i1) (.ref i2)
  s1 : SqI b1 h i1 l1 i
  s2 : SqI b2 h i2 l2 i
  q1 : SqX b1 h l1 xs
  q2 : SqX b2 h l2 ys
  zz : (IsZip h z TI TO .none ∧ ∃ u v, IsPair h TO u v) ∨ ∃ a f oa, ZipO h z TI TO a f ∧ h.get? a = some oa ∧ n ≤ a
end
end DL
namespace DL
open PySem PySem.Spec PyProof.Rows L2
section
variable {prog : Program} {w : World} {A : Around} {R : Result → Shared → Prop} {d z TI TO i1 i2 l1 l2 : Addr} {n m : Nat} {xs ys : Array Value} {b1 b2 : Bool} {Gd : Nat → Heap → Prop}
end
end DL
namespace DL
open PySem PySem.Spec PyProof.Rows L2
section
variable {X : Cx}
end
end DL
namespace DL
open PySem PySem.Spec PyProof.Rows L2
open PySem.W (KasT kas_rev kas_asc kas_desc kas_tail3 kas_descPart kas_count kas_place kas_bin kas_sort)
noncomputable def krun {α : Type} (c : Nat → Nat → Bool) : KasT α → α
  | .ret a => a
  | .ask i j k => krun c (k (c i j))
noncomputable def KOk {α : Type} (n : Nat) (R : α → Prop) : KasT α → Prop
  | .ret a => R a
  | .ask i j k => i < n ∧ j < n ∧ ∀ b, KOk n R (k b)
theorem KOk.bind {α β : Type} {n : Nat} {R : α → Prop} {S : β → Prop} {f : α → KasT β} : ∀ {t : KasT α}, KOk n R t → (∀ a, R a → KOk n S (f a)) → KOk n S (t.bind f)
  | .ret a, h, g => g a h
  | .ask i j k, h, g => ⟨h.1, h.2.1, fun b => KOk.bind (h.2.2 b) g⟩
theorem KOk.run {α : Type} {n : Nat} {R : α → Prop} {c : Nat → Nat → Bool} : ∀ {t : KasT α}, KOk n R t → R (krun c t)
  | .ret a, h => h
  | .ask i j k, h => KOk.run (t := k (c i j)) (h.2.2 _)
noncomputable def Pm (n : Nat) (p : Array Nat) : Prop := p.toList.Perm (List.range n)
section
variable {n : Nat}
theorem Pm.at {p : Array Nat} (h : Pm n p) (h0 : 0 < n) (i : Nat) : p.getD i 0 < n := by
  unfold Array.getD
  split
  · rename_i hi
    have : p[i] ∈ p.toList := by simp
    exact List.mem_range.mp (h.mem_iff.mp this)
  · exact h0
variable (h0 : 0 < n)
include h0
end
end DL
namespace DL
open PySem PySem.Spec PyProof.Rows L2
open PySem.W (KatLex KatGo)
section
variable {prog : Program} {w : World} {A : Around} {E : Value → Shared → Prop} {s : Shared}
end
end DL
namespace DL
open PySem PySem.Spec PyProof.Rows L2
open PySem.W (KdlSrc)
section
variable {prog : Program} {w : World} {A : Around} {E : Value → Shared → Prop} {s : Shared}
end
end DL
namespace DL
open PySem PySem.Spec PyProof.Rows L2
open PySem.W (UpdF KasFin kas_sort)
section
variable {prog : Program} {w : World} {A : Around} {E : Value → Shared → Prop} {s : Shared}
end
end DL
namespace DL
open PySem PySem.Spec PyProof.Rows L2
section
variable {X : Cx} {pins : List (Addr × Obj)} {σ : L2.St} {H : Hp} {s : Shared} {ι : List Addr}
end
section
variable {X : Cx}
end
end DL
namespace DL
open PySem PySem.Spec PyProof.Rows L2
section
variable {X : Cx}
noncomputable def sixD : F2 := fun x y H => match x, y with
  | .str a, .int i => if a.length ≤ sizeLine then (atI a.cps.toList i).map fun c => (.str ⟨#[c]⟩, H) else none
  | _, _ => none
theorem sixf : IxF X sixD := by
  rintro va sl pins s σ H x y v u Q I rx ry ⟨ι, dx, dy, Hd, d, Hd', hr, r1, r2, e, q⟩ hs
  unfold sixD at e
  split at e
  · simp at r1 r2
    split at e
    · rename_i hl
      obtain ⟨c, e1, e⟩ := Option.map_eq_some_iff.mp e
      cases e
      exact ix_str va sl pins s σ H _ _ v u Q I rx ry ⟨_, _, c, r1, r2, hl, e1, q _ H ι Le.refl hr (by simp)⟩ hs
    · cases e
  · cases e
noncomputable def sinD : F2 := fun x y H => match x, y with
  | .str i, .str j => some (.bl (!(Builtin.Str.occurrences j i 0 j.length 1).isEmpty), H)
  | _, _ => none
theorem sinf : OpF X (compareOp .In) sinD := by
  rintro pins s σ H x y v u Q I rx ry ⟨ι, dx, dy, Hd, d, Hd', hr, r1, r2, e, q⟩
  unfold sinD at e
  split at e
  · simp at r1 r2
    cases e
    exact op_in_str pins s σ H _ _ v u Q I rx ry ⟨_, _, r1, r2, q _ H ι Le.refl hr (by simp)⟩
  · cases e
noncomputable def slSD (x : D) (lo hi : Option Int) (H : HD) : Option (D × HD) := match x with
  | .str a => if a.length ≤ sizeLine then some (.str (Txt.slice a lo hi), H) else none
  | _ => none
noncomputable def rdSlS (K : PySem.W.Frag) : V → Option Int → Option Int → Hp → VK → Prop := fun x lo hi H Q => ∃ ι dx Hd d Hd', HRep K H ι Hd ∧ Rep K H ι dx x ∧ slSD dx lo hi Hd = some (d, Hd') ∧ QE K H ι d Hd' Q
theorem slfS : SlR X (rdSlS X.K) := by
  rintro pins s σ H x v vl vu lo hi sl Q I rx hs pl pu ⟨ι, dx, Hd, d, Hd', hr, r, e, q⟩
  cases dx with
  | str a =>
    simp at r
    subst r
    obtain ⟨t, rfl⟩ := rx
    unfold slSD at e
    dsimp only at e
    split at e
    · rename_i hl
      cases e
      refine ⟨"str", _, PySem.F.slot_str_getitem.lookup, typeIs_str s a t, ?_⟩
      have fin : ∀ t' k, EP X pins σ Q (.str (Txt.slice a lo hi) t') { s with toks := k } := fun t' k => ⟨.str (Txt.slice a lo hi), H, I.tok k, ⟨_, rfl⟩, q _ H ι Le.refl hr (by simp)⟩
      have part : ∀ {w : Value} {o : Option Int}, IsPart w o → ∃ p : Option (Int × Tok), w = partValue p ∧ p.map (·.1) = o := by
        intro w o p
        cases p with
        | none => exact ⟨none, rfl, rfl⟩
        | int i t => exact ⟨some (i, t), rfl, rfl⟩
      obtain ⟨p1, rfl, rfl⟩ := part pl
      obtain ⟨p2, rfl, rfl⟩ := part pu
      refine wpAny_getItem_str_slice (l := p1) (u := p2) (st := none) hs rfl ?_
      exact post_val_or_str ⟨Nat.le_trans (Txt.slice_le a _ _) hl, fun t' k => fin t' k⟩
    · cases e
  | _ => simp [slSD] at e
noncomputable def eSlS (fe : EF) (fl fh : OF) : EF := fun σ H => (fe σ H).bind fun p => (fl σ p.2).bind fun l => (fh σ l.2).bind fun h => slSD p.1 l.1 h.1 h.2
theorem pef_sliceS {e : Expr} {lo hi : Option Expr} {fe : EF} {fl fh : OF} {pos p2 : Pos} (he : PEf X e fe) (hl : POf X lo fl) (hu : POf X hi fh) : PEf X (.Subscript e (.Slice lo hi none p2) pos) (eSlS fe fl fh) := by
  refine PEi (pe_slice slfS he hl hu) fun σ H Q zz => ?_
  obtain ⟨ι, σd, Hd, d, Hd', s, hr, e, q⟩ := zz
  obtain ⟨⟨x, H1⟩, e1, e⟩ := Option.bind_eq_some_iff.mp e
  obtain ⟨⟨y, H2⟩, e2, e⟩ := Option.bind_eq_some_iff.mp e
  obtain ⟨⟨z, H3⟩, e3, e⟩ := Option.bind_eq_some_iff.mp e
  exact ⟨ι, σd, Hd, x, H1, s, hr, e1, fun v1 H1' ι1 l1 h1 r1 => ⟨ι1, σd, H1, y, H2, s.mono l1, h1, e2, fun H2' ι2 l2 h2 => ⟨ι2, σd, H2, z, H3, s.mono (l1.trans l2), h2, e3, fun H3' ι3 l3 h3 =>
    ⟨ι3, x, H3, d, Hd', h3, r1.mono (l2.trans l3), e, fun v H' ι' l h r => q v H' ι' (((l1.trans l2).trans l3).trans l) h r⟩⟩⟩⟩
noncomputable def strD : FF := fun ds H => match ds with
  | [.int i] => if -1000000000 ≤ i ∧ i ≤ 1000000000 then some (.str (toString i), H) else none
  | _ => none
theorem callf_str : CallF X (.type "str") strD := by
  rintro pins s σ H xs us Q I rv ⟨ι, ds, Hd, d, Hd', hr, P, e, q⟩
  unfold strD at e
  split at e
  · obtain ⟨v, rfl, r⟩ := prd1 P
    simp at r
    subst r
    split at e
    · rename_i hz
      cases e
      refine call_str_int pins s σ H _ us Q I rv ⟨_, rfl, ?_, q _ H ι Le.refl hr (by simp)⟩
      rename_i i
      have h1 : i.natAbs ≤ 1000000000 := by omega
      by_cases h0 : i.natAbs = 0
      · rw [h0]; decide
      · refine (Nat.log2_lt h0).mpr (Nat.lt_of_le_of_lt h1 ?_)
        exact Nat.lt_of_lt_of_le (by decide : 1000000000 < 2 ^ 30) (Nat.pow_le_pow_right (by decide) (by decide))
    · cases e
  · cases e
noncomputable def intSD : FF := fun ds H => match ds with
  | [.str x] => if x.length ≤ 640 then (PySem.intText? x).map fun n => (.int n, H) else none
  | _ => none
theorem callf_intS : CallF X (.type "int") intSD := by
  rintro pins s σ H xs us Q I rv ⟨ι, ds, Hd, d, Hd', hr, P, e, q⟩
  unfold intSD at e
  split at e
  · obtain ⟨v, rfl, r⟩ := prd1 P
    simp at r
    subst r
    split at e
    · rename_i hz
      obtain ⟨n, e1, e⟩ := Option.map_eq_some_iff.mp e
      cases e
      obtain ⟨u, rfl, t, rfl⟩ := vals1 rv
      exact PySem.W.KIN.call_text e1 hz ⟨.int n, H, I.tok _, ⟨_, rfl⟩, q _ H ι Le.refl hr (by simp)⟩
    · cases e
  · cases e
end
end DL
namespace DL
open PySem PySem.Spec PyProof.Rows L2
section
variable {X : Cx}
noncomputable abbrev JF := SD → HD → Str → Option (Str × HD)
noncomputable def PJf (X : Cx) (es : List Expr) (f : JF) : Prop := ∀ (pins : List (Addr × Obj)) (s : Shared) (σ : L2.St) (H : Hp) (out : Str) (Q : VK), Inv X pins σ H s → out.length ≤ sizeLine →
  (∃ ι σd Hd y Hd', SRep X.K H ι σ σd ∧ HRep X.K H ι Hd ∧ f σd Hd out = some (y, Hd') ∧ ∀ H' ι', Le X.K H ι H' ι' → HRep X.K H' ι' Hd' → Q (.str y) H') →
  wpAny (model X.prog X.w) X.A (joinParts out (evalEach es X.env)) (EP X pins σ Q) X.xe s
noncomputable def jNil : JF := fun _ H out => some (out, H)
noncomputable def jC (c : Str) (f : JF) : JF := fun σ H out => if (out ++ c).length ≤ sizeLine then f σ H (out ++ c) else none
noncomputable def jE (g : EF) (f : JF) : JF := fun σ H out => (g σ H).bind fun p => match p.1 with
  | .str x => if x.length ≤ sizeLine ∧ (out ++ x).length ≤ sizeLine then f σ p.2 (out ++ x) else none
  | _ => none
theorem pj_nil : PJf X [] jNil := by
  rintro pins s σ H out Q I hl ⟨ι, σd, Hd, y, Hd', ss, hr, e, q⟩
  cases e
  exact joinParts_nilE (joinParts_nil ⟨.str out, H, I.tok _, ⟨_, rfl⟩, q H ι Le.refl hr⟩ hl)
theorem pj_c {c : Str} {es : List Expr} {f : JF} {j : Nat} {p : Pos} (h : PJf X es f) : PJf X (.Constant (.str c) j p :: es) (jC c f) := by
  rintro pins s σ H out Q I hl ⟨ι, σd, Hd, y, Hd', ss, hr, e, q⟩
  unfold jC at e
  split at e
  · rename_i hz
    refine joinParts_consE (joinParts_cons (thn (pe_str (X := X) pins s σ H (fun v H2 => v = .str c ∧ H2 = H) I ⟨rfl, rfl⟩) fun u2 s2 z => ?_))
    obtain ⟨v2, H2, I2, r2, rfl, rfl⟩ := z
    obtain ⟨t2, rfl⟩ := r2
    exact ⟨hz, h pins s2 σ H2 _ Q I2 hz ⟨ι, σd, Hd, y, Hd', ss, hr, e, q⟩⟩
  · cases e
theorem pj_e {a : Expr} {g : EF} {es : List Expr} {f : JF} {p : Pos} (ha : PEf X a g) (h : PJf X es f) : PJf X (.FormattedValue a (-1) none p :: es) (jE g f) := by
  rintro pins s σ H out Q I hl ⟨ι, σd, Hd, y, Hd', ss, hr, e, q⟩
  obtain ⟨⟨d1, H1⟩, e1, e⟩ := Option.bind_eq_some_iff.mp e
  dsimp only at e
  split at e
  · rename_i x
    split at e
    · rename_i hz
      refine joinParts_consE (joinParts_cons (FormattedValue_plain (thn (ha pins s σ H (fun v H' => ∃ ι', v = .str x ∧ Le X.K H ι H' ι' ∧ HRep X.K H' ι' H1) I ⟨ι, σd, Hd, _, H1, ss, hr, e1, fun v H' ι' l h r => ⟨ι', by simpa using r, l, h⟩⟩) fun u s1 z => ?_)))
      obtain ⟨v, H', I1, r1, ι', rfl, l, hh⟩ := z
      obtain ⟨t, rfl⟩ := r1
      refine formatField_str (fun t' tk => ?_) hz.1
      exact ⟨hz.2, h pins _ σ H' _ Q (I1.tok tk) hz.2 ⟨ι', σd, H1, y, Hd', ss.mono l, hh, e, fun H2 ι2 l2 h2 => q H2 ι2 (l.trans l2) h2⟩⟩
    · cases e
  · cases e
noncomputable def eJ (f : JF) : EF := fun σ H => (f σ H Str.empty).map fun p => (.str p.1, p.2)
theorem pef_join {a b : Expr} {es : List Expr} {f : JF} {p : Pos} (h : PJf X (a :: b :: es) f) : PEf X (.JoinedStr (a :: b :: es) p) (eJ f) := by
  rintro pins s σ H Q I ⟨ι, σd, Hd, d, Hd', ss, hr, e, q⟩
  obtain ⟨⟨y, H1⟩, e1, e⟩ := Option.map_eq_some_iff.mp e
  cases e
  exact JoinedStr_many (h pins s σ H Str.empty Q I (by decide) ⟨ι, σd, Hd, y, H1, ss, hr, e1, fun H' ι' l h => q _ H' ι' l h (by simp)⟩)
theorem gc_str {K : PySem.W.Frag} {h : Heap} {mg : Str → Option Value} {x a0 : Str} {t : Tok} (X : K.In h) (G : h.Ns mainGlobals mg) (a : PySem.W.nsIn K mainGlobals x = some (some (.str a0 t))) : Gc K mg x (.str a0) :=
  ⟨_, .str a0, PySem.W.mg_of X G a, ⟨t, rfl⟩, fun _ _ => by simp⟩
end
end DL
namespace DL
open PySem PySem.Spec PyProof.Rows L2
section
variable {P : Program} {w : World} {K : PySem.W.Frag} {mg : Str → Option Value} {base : Heap} {x y z : Str} {st su sv : Stmt} {N1 ps N2 qs N3 rs : List Str} {k : Nat} {a b c : FF → FF → FF → SF}
end
end DL
namespace DL
open PySem PySem.Spec PyProof.Rows L2
section
variable {X : Cx} {e : Expr} {es : List Expr}
noncomputable def isStrD : D → Bool
  | .str _ => true
  | _ => false
noncomputable def eSM (g : D → List D → HD → Option (D × HD)) (fo : EF) (f : AF) : EF := fun σ H => (fo σ H).bind fun o => if isStrD o.1 = true then (f σ o.2).bind fun p => g o.1 p.1 p.2 else none
theorem pef_sm {o : Expr} {name : Str} {apos cpos : Pos} {id : String} {g : D → List D → HD → Option (D × HD)} {fo : EF} {f : AF} (slot : Slot "str" name id) (hty : typeOf (.builtin id) = pure (.type "method_descriptor")) (hm : MtF X id g) (ho : PEf X o fo) (ha : PAf X (e :: es) f)
    (hbase : attributeBase o name X.env (eval o X.env) = eval o X.env := by rfl)
    (hfew : ((backTo cpos (starEach (e :: es) X.env)).all (fun x => !x.1) && (backToKw cpos (keywordEach [] X.env)).all (fun x => x.1.isSome)
      && decide ((e :: es).length + ([] : List Keyword).length + (if ([] : List Keyword).isEmpty then 0 else 1) < 30)) = true := by exact star_few rfl (by decide))
    (hline : (apos.endLine == cpos.line) = true := by rfl) (hs : starEach (e :: es) X.env = (false, eval e X.env) :: starEach es X.env := by exact star_cons rfl) (hplain : (backTo cpos (starEach es X.env)).any (·.1) = false := by exact star_any rfl) :
    PEf X (.Call (.Attribute o name apos) (e :: es) [] cpos) (eSM g fo f) := by
  refine PEi (pe_bm PySem.F.plainAttrs_str slot hty hm ho ha hbase hfew hline hs hplain) fun σ H Q zz => ?_
  obtain ⟨ι, σd, Hd, d, Hd', s, hr, e, q⟩ := zz
  obtain ⟨⟨x, H1⟩, e1, e⟩ := Option.bind_eq_some_iff.mp e
  dsimp only at e
  split at e
  · rename_i hl
    obtain ⟨⟨y, H2⟩, e2, e⟩ := Option.bind_eq_some_iff.mp e
    refine ⟨ι, σd, Hd, x, H1, s, hr, e1, fun v1 H1' ι1 l1 h1 r1 => ⟨?_, ι1, σd, H1, y, H2, s.mono l1, h1, e2, fun vs H2' ι2 l2 h2 r2 =>
      ⟨ι2, x, y, H2, d, Hd', h2, r1.mono l2, r2, e, fun v H' ι' l h r => q v H' ι' ((l1.trans l2).trans l) h r⟩⟩⟩
    cases x with
    | str a =>
      simp at r1
      subst r1
      exact rfl
    | _ => cases hl
  · cases e
noncomputable def startsD (x : D) (ds : List D) (H : HD) : Option (D × HD) := match x, ds with
  | .str a, [.str b] => some (.bl (decide (0 + b.length ≤ a.length) && Builtin.Str.subAt a b 0), H)
  | _, _ => none
theorem mtf_starts : MtF X "str.startswith" startsD := by
  rintro pins s σ H x xs v us Q I rx rv ⟨ι, dx, ds, Hd, d, Hd', hr, r1, P, e, q⟩
  unfold startsD at e
  split at e
  · rename_i a b
    obtain ⟨z, rfl, rz⟩ := prd1 P
    obtain ⟨u, rfl, ru⟩ := rv.one
    simp at r1 rz
    subst r1 rz
    obtain ⟨t1, rfl⟩ := rx
    obtain ⟨t2, rfl⟩ := ru
    cases e
    exact call_gives PySem.F.slot_str_startswith (typeIs_str s a t1) PySem.F.entry_str_startswith (PySem.F.args_str_startswith_2 _ _) (gives_str_startswith a b t1 t2) ⟨.bl _, H, I, rfl, q _ H ι Le.refl hr (by simp)⟩
  · cases e
noncomputable def strsOf : List D → Option (List Str)
  | [] => some []
  | .str x :: r => (strsOf r).map (x :: ·)
  | _ :: _ => none
noncomputable def joinS (sep : Str) : List Str → Str
  | [x] => x
  | l => Builtin.Str.glued sep l
noncomputable def joinD (x : D) (ds : List D) (H : HD) : Option (D × HD) := match x, ds with
  | .str sep, [d] => (seqD d H).bind fun xs => (strsOf xs).bind fun l => if Builtin.Str.tooLong (l.toArray.foldl (· + ·.length + sep.length) 0) = false ∧ (joinS sep l).length ≤ sizeLine then some (.str (joinS sep l), H) else none
  | _, _ => none
theorem strs_vals {K : PySem.W.Frag} {H : Hp} {ι : List Addr} : ∀ {ds : List D} {l : List Str} {vs : List V} {its : List Value}, strsOf ds = some l → Paired (Rep K H ι) ds vs → Vals vs its → ∃ z : List (Str × Tok), its = strValues z ∧ z.map (·.1) = l := by
  intro ds
  induction ds with
  | nil =>
    intro l vs its e P rv
    cases e
    cases P
    cases rv
    exact ⟨[], rfl, rfl⟩
  | cons d r ih =>
    intro l vs its e P rv
    cases d with
    | str x =>
      obtain ⟨l', e1, rfl⟩ := Option.map_eq_some_iff.mp e
      cases P with
      | cons p P =>
        simp at p
        subst p
        cases rv with
        | cons p2 P2 =>
          obtain ⟨t, rfl⟩ := p2
          obtain ⟨z, rfl, rfl⟩ := ih e1 P P2
          exact ⟨(x, t) :: z, rfl, rfl⟩
    | _ => cases e
theorem join_post {pins : List (Addr × Obj)} {s : Shared} {σ : L2.St} {H : Hp} {Q : VK} {sep : Str} {z : List (Str × Tok)} (I : Inv X pins σ H s) (hl : (joinS sep (z.map (·.1))).length ≤ sizeLine) (q : Q (.str (joinS sep (z.map (·.1)))) H) :
    (joinMade sep z).post (EP X pins σ Q) s := by
  match z with
  | [] => exact ⟨hl, .str _, H, I.tok _, ⟨_, rfl⟩, q⟩
  | [p] => exact ⟨.str p.1, H, I, ⟨_, rfl⟩, q⟩
  | p :: r :: t => exact ⟨hl, .str _, H, I.tok _, ⟨_, rfl⟩, q⟩
theorem mtf_join : MtF X "str.join" joinD := by
  rintro pins s σ H x xs v us Q I rx rv ⟨ι, dx, ds, Hd, d, Hd', hr, r1, P, e, q⟩
  unfold joinD at e
  split at e
  · rename_i sep d1
    obtain ⟨z, rfl, rz⟩ := prd1 P
    obtain ⟨u, rfl, ru⟩ := rv.one
    simp at r1
    subst r1
    obtain ⟨t1, rfl⟩ := rx
    obtain ⟨ys, e1, e⟩ := Option.bind_eq_some_iff.mp e
    obtain ⟨l, e2, e⟩ := Option.bind_eq_some_iff.mp e
    split at e
    · rename_i hz
      cases e
      obtain ⟨p, vs, rfl, h, P2⟩ := seq_rd hr rz e1
      have eu : u = .ref p := ru
      subst eu
      have fin := q _ H ι Le.refl hr (show Rep X.K H ι (.str (joinS sep l)) (.str (joinS sep l)) by simp)
      rcases h with h | h
      · obtain ⟨its, rr, pl, _⟩ := I.list h
        obtain ⟨zz, rfl, rfl⟩ := strs_vals e2 P2 rr
        exact call_meets PySem.F.slot_str_join (typeIs_str s sep t1) PySem.F.entry_str_join (PySem.F.args_str_join_2 _ _) (meets_str_join_list sep t1 p zz hz.1) ⟨pl.isList, join_post I hz.2 fin⟩
      · obtain ⟨its, rr, pl, _⟩ := I.tuple h
        obtain ⟨zz, rfl, rfl⟩ := strs_vals e2 P2 rr
        obtain ⟨o, ho, hc, n, hd⟩ := pl
        exact call_meets PySem.F.slot_str_join (typeIs_str s sep t1) PySem.F.entry_str_join (PySem.F.args_str_join_2 _ _) (meets_str_join_tuple sep t1 p zz hz.1) ⟨⟨o, n, ho, hc, hd⟩, join_post I hz.2 fin⟩
    · cases e
  · cases e
noncomputable def partsS (x y : Str) : List Str := if (decide (x.length < y.length) || decide (Builtin.Str.strKind x < Builtin.Str.strKind y)) = true then [x]
  else if (Builtin.Str.occurrences x y 0 x.length (x.length + 1)).isEmpty = true then [x] else Builtin.Str.partsBetween x (Builtin.Str.occurrences x y 0 x.length (x.length + 1)) y.length
noncomputable def splitD (x : D) (ds : List D) (H : HD) : Option (D × HD) := match x, ds with
  | .str a, [.str b] => if (b.length == 0) = false ∧ a.length ≤ sizeLine then mkL ((partsS a b).map .str) H else none
  | _, _ => none
theorem vals_strs : ∀ z : List (Str × Tok), Vals (z.map fun p => V.str p.1) (strValues z) := by
  intro z
  induction z with
  | nil => exact .nil
  | cons p r ih => exact .cons ⟨p.2, rfl⟩ ih
theorem rep_strs {K : PySem.W.Frag} {H : Hp} {ι : List Addr} : ∀ l : List Str, Paired (Rep K H ι) (l.map .str) (l.map .str) := by
  intro l
  induction l with
  | nil => exact .nil
  | cons x r ih => exact .cons (by simp) ih
theorem mtf_split : MtF X "str.split" splitD := by
  rintro pins s σ H x xs v us Q I rx rv ⟨ι, dx, ds, Hd, d, Hd', hr, r1, P, e, q⟩
  unfold splitD at e
  split at e
  · rename_i a b
    obtain ⟨z, rfl, rz⟩ := prd1 P
    obtain ⟨u, rfl, ru⟩ := rv.one
    simp at r1 rz
    subst r1 rz
    obtain ⟨t1, rfl⟩ := rx
    obtain ⟨t2, rfl⟩ := ru
    split at e
    · rename_i hz
      obtain ⟨k1, k2⟩ := new_lst hr (rep_strs (partsS a b)) e q
      rw [List.length_map] at k1
      have fin : ∀ (zz : List (Str × Tok)) (tk : Nat), zz.map (·.1) = partsS a b → EP X pins σ Q (.ref s.heap.objs.size) { s with toks := tk, heap := s.heap.push { cls := .type "list", data := .seq (strValues zz).toArray } } := fun zz tk ez => by
        have ev : (partsS a b).map V.str = zz.map fun p => V.str p.1 := by rw [← ez, List.map_map]; rfl
        refine ⟨.ref s.heap.objs.size, _, I.laid (t' := tk) (fun _ _ q => Heap.get?_push_of_some _ q) (Nat.le_refl _) (show ObjOk X.prog X.w _ _ _ (.lst ((partsS a b).map .str)) from ⟨by rw [List.length_map]; exact k1, strValues zz, 0, by rw [ev]; exact vals_strs zz, Heap.get?_push_size _ rfl⟩), rfl, k2 _ (I.hok.fresh (Nat.le_refl _))⟩
      unfold partsS at fin k1
      cases h1 : (decide (a.length < b.length) || decide (Builtin.Str.strKind a < Builtin.Str.strKind b)) with
      | true =>
        rw [h1, if_pos rfl] at fin
        exact call_meets PySem.F.slot_str_split (typeIs_str s a t1) PySem.F.entry_str_split (PySem.F.args_str_split_2 _ _) (meets_str_split_cannot_occur a b t1 t2 h1) (fin [(a, t1)] s.toks rfl)
      | false =>
        rw [h1, if_neg (by simp)] at fin k1
        cases hf : (Builtin.Str.occurrences a b 0 a.length (a.length + 1)).isEmpty with
        | true =>
          rw [hf, if_pos rfl] at fin
          exact call_meets PySem.F.slot_str_split (typeIs_str s a t1) PySem.F.entry_str_split (PySem.F.args_str_split_2 _ _) (meets_str_split_not_found a b t1 t2 h1 hz.1 hf) (fin [(a, t1)] s.toks rfl)
        | false =>
          rw [hf, if_neg (by simp)] at fin k1
          refine call_meets PySem.F.slot_str_split (typeIs_str s a t1) PySem.F.entry_str_split (PySem.F.args_str_split_2 _ _) (meets_str_split_sep a b t1 t2 h1 hz.1 hf hz.2 k1) ?_
          rw [strsFrom_eq]
          exact fin (numbered s.toks _) _ (numbered_texts _ _)
    · cases e
  · cases e
end
end DL
namespace DL
open PySem PySem.Spec PyProof.Rows L2 PySem.W
noncomputable def TrD (h B : Heap) (e : Addr) (C : Value) (dx : Option Addr) (fl : Value) : Prop :=
  ∃ oe vs T oT ts, (h.get? e = some oe ∧ oe.cls = C ∧ oe.dict = dx ∧ oe.data = .fields vs ∧ vs[1]? = some (.ref T)) ∧ B.get? T = none ∧ T ≠ e ∧ h.get? T = some oT ∧ oT.data = .fields ts ∧ ts[3]? = some fl
structure FlyD (B : Heap) (l : List Env) (e : Addr) (C : Value) (dx : Option Addr) (fl : Value) (h : Heap) : Prop where
  st : B.StaysIn h
  no : B.get? e = none
  ff : h.FunFrames B l
  tr : TrD h B e C dx fl
theorem FlyD.first {B : Heap} {l : List Env} {e : Addr} {C : Value} {dx : Option Addr} {fl : Value} {h : Heap} (x : FlyD B l e C dx fl h) : ∃ oe vs, h.get? e = some oe ∧ oe.cls = C ∧ oe.data = .fields vs ∧ oe.dict = dx := by
  obtain ⟨oe, vs, _, _, _, ⟨h1, h2, h3, h4, _⟩, _⟩ := x.tr
  exact ⟨oe, vs, h1, h2, h4, h3⟩
theorem FlyD.tail {B : Heap} {env : Env} {l : List Env} {e : Addr} {C : Value} {dx : Option Addr} {fl : Value} {h : Heap} (x : FlyD B (env :: l) e C dx fl h) : FlyD B l e C dx fl h := ⟨x.st, x.no, x.ff.2.2, x.tr⟩
theorem dict_mapFields (f : Array Value → Array Value) (o : Obj) : (Obj.mapFields f o).dict = o.dict := by
  unfold Obj.mapFields
  split <;> rfl
section
variable {M : Model} {A : Around} {E : Value → Shared → Prop} {s : Shared} {B : Heap} {env : Env} {outer l : List Env} {L e : Addr} {C : Value} {dx : Option Addr} {fl : Value} {Q : Unit → Shared → Prop}
theorem d_entry {oe : Obj} {vs : Array Value} {hd : Value} {nx : Bool} (hfr : A.frames = some (env :: outer)) (hf : env.frame = some L) (ff : s.heap.FunFrames B (env :: outer)) (st : B.StaysIn s.heap) (no : B.get? e = none)
    (he : s.heap.get? e = some oe) (hv : oe.data = .fields vs) (hz : 1 < vs.size) (q : ∀ h', FlyD B (env :: outer) e oe.cls oe.dict (rawInt L) h' → s.heap.UpToSlots h' → Q () { s with heap := h' }) :
    wpAny M A (frameOf env >>= fun a => entryPlaceOf L nx >>= fun pl => EntryCells.newEntry hd a .none (rawInt L) .none pl >>= fun b => setField (.ref e) 1 b) Q E s := by
  have nf : e ∉ (env :: outer).filterMap (·.frame) := fun z => by
    obtain ⟨_, o, g, n⟩ := ff.mem z
    rw [he] at g
    cases g
    exact n vs hv
  refine wpAny_bind (wpAny_frameOf_fun hfr ff hf fun h1 s1 => wpAny_bind (wpAny_entryPlaceOf fun pl hpl => ?_))
  unfold EntryCells.newEntry newFields
  refine wpAny_bind (wpAny_newObj_type ?_ (hpl.sizeOk5 _ _ _ _ _))
  obtain ⟨oT, hoT⟩ : ∃ o : Obj, o = { cls := .type "traceback", dict := none, data := .fields ([hd, .ref L, .none, rawInt L, .none] ++ (if pl.isEmpty then List.replicate 6 Value.none else pl)).toArray } := ⟨_, rfl⟩
  have e1 : h1.get? e = some oe := (s1.2.1 e nf).trans he
  have b1 : B.StaysIn h1 := fun b o z => (s1.2.1 b fun y => by rw [(ff.mem y).1] at z; cases z).trans (st b o z)
  rw [← hoT]
  have e2 := Heap.get?_push_of_some (h := h1) oT e1
  refine wpAny_setField e2 hv hz (q _ ?_ ?_)
  all_goals
    have nT : h1.objs.size ≠ e := Nat.ne_of_gt (Heap.lt_size e1)
    have v3 := Obj.data_mapFields hv (·.setIfInBounds 1 (Value.ref h1.objs.size))
    have e3 := Heap.get?_update_self (Obj.mapFields (·.setIfInBounds 1 (Value.ref h1.objs.size))) e2 (Obj.isFreed_of_fields v3)
    have lf : oT.isFreed = false := by rw [hoT]; rfl
    have t3 := (Heap.get?_update_other (h1.push oT) (Obj.mapFields (·.setIfInBounds 1 (Value.ref h1.objs.size))) (Ne.symm nT)).trans (Heap.get?_push_size h1 lf)
    have kp : ∀ b o, b ≠ e → h1.get? b = some o → ((h1.push oT).update e (Obj.mapFields (·.setIfInBounds 1 (Value.ref h1.objs.size)))).get? b = some o := fun b o n z => by
      rw [Heap.get?_update_other _ _ (Ne.symm n)]
      exact Heap.get?_push_of_some _ z
    have nr : ∀ b o, s.heap.get? b = some o → (∀ vs, o.data ≠ .fields vs) → b ≠ e := fun b o z n y => by
      rw [y, he] at z
      cases z
      exact n vs hv
  · refine ⟨fun b o z => kp b o (fun y => by rw [y, no] at z; cases z) (b1 b o z), no, ff.of_keeps fun b o z n => ?_, ?_⟩
    · obtain ⟨sl, g⟩ := s1.2.2 b o z
      exact ⟨_, kp b _ (nr b o z n) g, rfl⟩
    · refine ⟨_, _, h1.objs.size, oT, _, ⟨e3, Obj.cls_mapFields _ _, dict_mapFields _ _, v3, by simp [hz]⟩, b1.fresh, nT, t3, by rw [hoT], ?_⟩
      first
      | (simp; done)
      | (rcases hpl with rfl | ⟨_, _, _, _, _, _, _, rfl⟩ <;> simp)
  · intro b o z n
    obtain ⟨sl, g⟩ := s1.2.2 b o z
    exact ⟨sl, kp b _ (nr b o z n) g⟩
theorem d_note0 {oe : Obj} {vs : Array Value} (hfr : A.frames = some (env :: outer)) (hf : env.frame = some L) (ff : s.heap.FunFrames B (env :: outer)) (st : B.StaysIn s.heap) (no : B.get? e = none)
    (he : s.heap.get? e = some oe) (hv : oe.data = .fields vs) (h1 : vs[1]? = some .none) (q : ∀ h', FlyD B (env :: outer) e oe.cls oe.dict (rawInt L) h' → s.heap.UpToSlots h' → Q () { s with heap := h' }) : wpAny M A (noteFrame (.ref e) env) Q E s := by
  unfold noteFrame
  simp only [hf]
  refine wpAny_bind (wpAny_field he hv h1 ?_)
  rw [if_neg (by decide)]
  exact d_entry hfr hf ff st no he hv (Array.getElem?_eq_some_iff.mp h1).1 q
theorem d_note (hfr : A.frames = some (env :: outer)) (hf : env.frame = some L) (x : FlyD B (env :: outer) e C dx .none s.heap) (q : ∀ h', FlyD B (env :: outer) e C dx (rawInt L) h' → s.heap.UpToSlots h' → Q () { s with heap := h' }) : wpAny M A (noteFrame (.ref e) env) Q E s := by
  obtain ⟨oe, vs, T, oT, ts, ⟨g1, rfl, rfl, g4, g5⟩, k1, k2, k3, k4, k5⟩ := x.tr
  unfold noteFrame
  simp only [hf]
  refine wpAny_bind (wpAny_field g1 g4 g5 ?_)
  rw [if_pos (by simp)]
  refine wpAny_bind (wpAny_field k3 k4 k5 ?_)
  rw [if_neg (by simp [rawInt])]
  refine wpAny_bind (wpAny_setField k3 k4 (Array.getElem?_eq_some_iff.mp k5).1 ?_)
  have ot : ∀ b, b ≠ T → (s.heap.update T (Obj.mapFields (·.setIfInBounds 3 Value.none))).get? b = s.heap.get? b := fun b n => Heap.get?_update_other _ _ (Ne.symm n)
  have nr : ∀ b o, s.heap.get? b = some o → (∀ vs, o.data ≠ .fields vs) → b ≠ T := fun b o z n y => by
    rw [y, k3] at z
    cases z
    exact n ts k4
  refine d_entry hfr hf (x.ff.of_keeps fun b o z n => ⟨o, (ot b (nr b o z n)).trans z, rfl⟩) (fun b o z => (ot b fun y => by rw [y, k1] at z; cases z).trans (x.st b o z)) x.no ((ot e (Ne.symm k2)).trans g1) g4 (Array.getElem?_eq_some_iff.mp g5).1 fun h' y up => q h' y ?_
  exact fun b o z n => up b o ((ot b (nr b o z n)).trans z) n
theorem d_flight (x : FlyD B l e C dx fl s.heap) (q : ∀ h', FlyD B l e C dx .none h' → s.heap.UpToSlots h' → Q () { s with heap := h' }) : wpAny M A (setFlight (.ref e) none) Q E s := by
  obtain ⟨oe, vs, T, oT, ts, ⟨g1, g2, g3, g4, g5⟩, k1, k2, k3, k4, k5⟩ := x.tr
  have sz := (Array.getElem?_eq_some_iff.mp k5).1
  have ot : ∀ b, b ≠ T → (s.heap.update T (Obj.mapFields (·.setIfInBounds 3 ((none : Option Addr).elim Value.none fun f => rawInt f)))).get? b = s.heap.get? b := fun b n => Heap.get?_update_other _ _ (Ne.symm n)
  have nr : ∀ b o, s.heap.get? b = some o → (∀ vs, o.data ≠ .fields vs) → b ≠ T := fun b o z n y => by
    rw [y, k3] at z
    cases z
    exact n ts k4
  unfold setFlight
  refine wpAny_bind (wpAny_field g1 g4 g5 ?_)
  rw [if_pos (by simp)]
  have v3 := Obj.data_mapFields k4 (·.setIfInBounds 3 ((none : Option Addr).elim Value.none fun f => rawInt f))
  refine wpAny_setField k3 k4 sz (q _ ⟨fun b o z => (ot b fun y => by rw [y, k1] at z; cases z).trans (x.st b o z), x.no, x.ff.of_keeps fun b o z n => ⟨o, (ot b (nr b o z n)).trans z, rfl⟩, ?_⟩ fun b o z n => ⟨o.slots, (ot b (nr b o z n)).trans z⟩)
  exact ⟨oe, vs, T, _, _, ⟨(ot e (Ne.symm k2)).trans g1, g2, g3, g4, g5⟩, k1, k2, Heap.get?_update_self _ k3 (Obj.isFreed_of_fields v3), v3, by simp [sz]⟩
theorem d_leave0 {oe : Obj} {vs : Array Value} (hfr : A.frames = some (env :: outer)) (hf : env.frame = some L) (ff : s.heap.FunFrames B (env :: outer)) (st : B.StaysIn s.heap) (no : B.get? e = none)
    (he : s.heap.get? e = some oe) (hv : oe.data = .fields vs) (h1 : vs[1]? = some .none) (q : ∀ h', FlyD B outer e oe.cls oe.dict .none h' → s.heap.UpToSlots h' → Q () { s with heap := h' }) : wpAny M A (leaving env (.ref e)) Q E s := by
  unfold leaving
  refine wpAny_bind (d_note0 hfr hf ff st no he hv h1 fun h2 x u => ?_)
  exact d_flight (s := { s with heap := h2 }) x fun h3 x3 u3 => q h3 x3.tail (u.trans u3)
theorem d_leave (hfr : A.frames = some (env :: outer)) (hf : env.frame = some L) (x : FlyD B (env :: outer) e C dx .none s.heap) (q : ∀ h', FlyD B outer e C dx .none h' → s.heap.UpToSlots h' → Q () { s with heap := h' }) : wpAny M A (leaving env (.ref e)) Q E s := by
  unfold leaving
  refine wpAny_bind (d_note hfr hf x fun h2 y u => ?_)
  exact d_flight (s := { s with heap := h2 }) y fun h3 x3 u3 => q h3 x3.tail (u.trans u3)
end
end DL
namespace DL
open PySem PySem.Spec PyProof.Rows L2 PySem.W
noncomputable def vE : List Value := [.type "ValueError", .type "Exception", .type "BaseException", .type "object"]
noncomputable def iniIn (K : Frag) (C Cl : Addr) : Bool := match K.lookup C with
  | some ⟨.type "type", _, .cls c, l⟩ => (match l.toList with
    | [_, _, _, _, some (.builtin n), _] => n == "ValueError.__new__" && !c.hasDel && c.hasDict && c.mro == .ref C :: .ref Cl :: vE && tailIn K vE (.ref Cl :: vE)
    | _ => false)
  | _ => false
structure IniC (h : Heap) (C Cl : Addr) (c : ClassData) : Prop where
  obj : ∃ nm q N bs sn sub ab col dd k0 k1 k2 k3 k5, h.get? C = some (excClassObj nm q C N bs (.ref Cl :: vE) true sn sub ab col dd k0 k1 k2 k3 k5 "ValueError.__new__") ∧ c = { name := nm, bases := bs, mro := .ref C :: .ref Cl :: vE, ns := N, qualname := q, hasDict := true, slotNames := sn, subclasses := sub, abstract := ab, collection := col, hasDel := false }
  tail : OwnTail h vE (.ref Cl :: vE)
theorem ini_in {K : Frag} {h : Heap} {C Cl : Addr} (X : K.In h) (q : iniIn K C Cl = true) : ∃ c, clsIn K C = some c ∧ IniC h C Cl c := by
  unfold iniIn at q
  split at q
  · rename_i dd c l e
    split at q
    · rename_i k0 k1 k2 k3 n k5 e2
      simp only [Bool.and_eq_true, beq_iff_eq, Bool.not_eq_true'] at q
      obtain ⟨⟨⟨⟨rfl, q2⟩, q3⟩, q4⟩, q5⟩ := q
      refine ⟨c, by unfold clsIn; rw [e], ?_, tail_of_in X q5⟩
      obtain ⟨nm, bs, mro, ns, qn, hd, sn, sub, ab, col, del⟩ := c
      dsimp only at q2 q3 q4
      subst q2 q3 q4
      obtain ⟨l⟩ := l
      simp only at e2
      subst e2
      exact ⟨nm, qn, ns, bs, sn, sub, ab, col, dd, k0, k1, k2, k3, k5, X _ _ e, rfl⟩
    · cases q
  · cases q
section
variable {prog : Program} {w : World} {A : Around} {R : Result → Shared → Prop} {h : Heap} {g : Array GenState} {d : Drawn} {t : Nat} {os : OsState} {C Cl fI : Addr} {c : ClassData} {rest : List Value}
noncomputable abbrev xObj (C : Addr) (dx : Option Addr) (t : Addr) : Obj := { cls := .ref C, dict := dx, data := .fields #[.ref t, .none, .none, .none, .bool false, .none] }
theorem xi_call (Y : IniC h C Cl c) (hi : Looks (model prog w) h (typeLookup (.ref C) "__init__") (some (.ref fI))) (hb : ∀ self, Looks (model prog w) h (bindSpecial (.ref fI) self) (.ref fI, [self])) (hr : rest.length ≤ sizeLine)
    (hq : codeAny (model prog w) (A.under (.builtin "type.__call__" ⟨.ref C :: rest, []⟩)) (.call (.ref fI) ⟨.ref (h.objs.size + 1) :: rest, []⟩) (InitBack (h.objs.size + 1) R) ⟨(h.push { cls := .type "tuple", data := .seq rest.toArray }).push (xObj C none h.objs.size), g, d, t, os⟩) :
    codeAny (model prog w) A (.call (.ref C) ⟨rest, []⟩) R ⟨h, g, d, t, os⟩ := by
  obtain ⟨nm, q, N, bs, sn, sub, ab, col, dd, k0, k1, k2, k3, k5, hC, rfl⟩ := Y.obj
  have T := Y.tail
  have F := PySem.F.excBase_ValueError
  have f1 := tc_lookup
  have f2 := tc_bind (.ref C)
  have hT : (⟨h, g, d, t, os⟩ : Shared).TypeIs (.ref C) "type" := ⟨_, hC, rfl⟩
  refine codeAny_of_tree ?_
  show wpAny _ _ (callAny (.ref C) _) _ _ _
  repeat (any_goals (first | assumption | with_reducible refine wpAny_loadPart_at hC ?_ | wp_step))
  refine ⟨rfl, codeAny_call_builtin_at (Code.quiet_builtin _ (by decide +kernel)) entry_typeCall (wpAny_check_type_call_sub hC ?_)⟩
  show wpAny _ _ (Builtin.«type.__call__» ⟨.ref C :: rest, []⟩) _ _ _
  repeat (first | with_reducible refine wpAny_loadPart_at hC ?_ | with_reducible refine wpAny_madeBy_exc hC ?_ | wp_step)
  refine codeAny_call_builtin_code (Code.quiet_builtin _ F.quiet) (wpAny_check_new_subT F T hC (codeAny_exc_new_subT F T hC ?_ hr))
  show wpAny _ _ _ _ _ _
  have k : ∀ b o, h.get? b = some o → ((h.push { cls := .type "tuple", data := .seq rest.toArray }).push (xObj C none h.objs.size)).get? b = some o := fun b o e => Heap.get?_push_of_some _ (Heap.get?_push_of_some _ e)
  have hC1 := k _ _ hC
  have hx : ((h.push { cls := .type "tuple", data := .seq rest.toArray }).push (xObj C none h.objs.size)).get? (h.objs.size + 1) = some { cls := .ref C, data := .fields #[.ref h.objs.size, .none, .none, .none, .bool false, .none] } := by heap_get
  have hcC : (Value.ref C :: Value.ref Cl :: vE).contains (.ref C) = true := by simp
  unfold isInstance
  repeat (first | with_reducible refine wpAny_loadPart_at hx ?_ | (with_reducible refine wpAny_isSubtype_exc hC1 ?_; rw [hcC]) | wp_step)
  show wpAny _ _ (typeLookup (.ref C) _) _ _ _
  refine (hi.keeps k).at ?_
  refine wpAny_holding (wpAny_bind (((hb _).keeps k).at ?_))
  refine wpAny_bind (wpAny_call (codeAny_mono hq fun r s' z => ?_))
  rcases r with e | (v | _ | _ | _) <;> first | exact z | exact z.elim | skip
  obtain ⟨rfl, z⟩ := z
  exact wpAny_pure (wpAny_pure z)
end
end DL
namespace DL
open PySem PySem.Spec PyProof.Rows L2 PySem.W
section
variable {prog : Program} {w : World} {A : Around} {E : Value → Shared → Prop} {s : Shared} {K : Frag} {C Cl e tt : Addr} {c : ClassData} {f : Str} {u : Value}
theorem xi_base {Q : Value → Shared → Prop} (Y : IniC s.heap C Cl c) (he : s.heap.get? e = some (xObj C none tt))
    (q : ∀ h' t', (∀ b o, b ≠ e → s.heap.get? b = some o → h'.get? b = some o) → h'.get? e = some (xObj C none t') → Q .none { s with heap := h' }) : wpAny (model prog w) A (call (.builtin "ValueError.__init__") [.ref e, u]) Q E s := by
  obtain ⟨h, g, d, t, os⟩ := s
  obtain ⟨nm, qn, N, bs, sn, sub, ab, col, dd, k0, k1, k2, k3, k5, hC, rfl⟩ := Y.obj
  have F := PySem.F.excBase_ValueError
  have he' : h.get? e = some { cls := .ref C, data := .fields #[.ref tt, .none, .none, .none, .bool false, .none] } := he
  refine wpAny_call (codeAny_call_builtin F.init.plain F.initEntry (wpAny_check_init_subT F Y.tail hC he' rfl ?_))
  wp_walk
  refine q _ h.objs.size (fun b o n z => ?_) ?_
  · rw [Heap.get?_update_other _ _ (Ne.symm n)]
    exact Heap.get?_push_of_some _ z
  · rw [Heap.get?_update_self _ (Heap.get?_push_of_some _ he') rfl]
    rfl
theorem refuse_vE (self : Value) (C Cl : Addr) : refuseLoop self "__setattr__" (.ref C :: .ref Cl :: vE) = pure () := by
  rw [refuseLoop_ref, refuseLoop_ref]
  unfold vE
  kernel_rfl
theorem xi_set {Q : Unit → Shared → Prop} (X : K.In s.heap) (hc : clsIn K C = some c) (Y : IniC s.heap C Cl c) (he : s.heap.get? e = some (xObj C none tt)) (hs : findIn K (.ref C) "__setattr__" = some (some (.builtin "object.__setattr__"))) (hf : findIn K (.ref C) f = some none)
    (q : ∀ h' dx, s.heap.get? dx = none → h'.get? e = some (xObj C (some dx) tt) → h'.Ns1 dx (fun y => if y = f then some u else none) → (∀ b o, b ≠ e → s.heap.get? b = some o → h'.get? b = some o) → Q () { s with heap := h', toks := s.toks + 2 }) :
    wpAny (model prog w) A (setAttr (.ref e) f u) Q E s := by
  obtain ⟨nm, qn, N, bs, sn, sub, ab, col, dd, k0, k1, k2, k3, k5, hC, rfl⟩ := Y.obj
  have J : InstAt s.heap e (xObj C none tt) C none := ⟨he, rfl, rfl, True.intro⟩
  have hm : Looks (model prog w) s.heap (mroOf (.ref C)) (.ref C :: .ref Cl :: vE) := (looks_clsIn X hc).andThen .now
  have sb : Looks (model prog w) s.heap (isInstance (.ref e) (.type "object")) true := J.type.andThen (looks_mroIn X (by unfold mroIn; rw [hc, Option.bind_some, if_neg (by simp)]; rfl))
  have SF := PySem.F.store_object
  refine set_plain X J hs (codeAny_call_builtin SF.slot.plain SF.entry (@check_slot (model prog w) _ _ { s with toks := s.toks + 1 } "object.__setattr__" "object" "__setattr__" (.ref e) [.str f s.toks, u] [] _ SF.kind SF.split sb (SF.args (.ref e) (.str f s.toks) u) ?_))
  rw [osa_eq, refuse_eq]
  refine wpAny_bind (wpAny_bind (J.type.here (s := { s with toks := s.toks + 1 }) (wpAny_bind (hm.here (s := { s with toks := s.toks + 1 }) ?_))))
  rw [refuse_vE]
  refine wpAny_pure (wpAny_bind (J.type.here (s := { s with toks := s.toks + 1 }) (wpAny_bind ((looks_findIn (M := model prog w) X hf).here (s := { s with toks := s.toks + 1 }) (wpAny_bind (wpAny_pure ?_))))))
  dsimp only
  refine wpAny_bind (wpAny_pure (wpAny_bind (wpAny_bind (wpAny_loadPart (s := { s with toks := s.toks + 1 }) he (wpAny_bind (Looks.here (s := { s with toks := s.toks + 1 }) (looks_clsIn (M := model prog w) X hc) ?_))))))
  rw [if_neg (by simp)]
  show wpAny _ _ (alloc emptyDict >>= fun d => update e (fun o => { o with dict := some d }) >>= fun _ => dictMade (.ref C) e d) _ _ _
  have he1 := Heap.get?_push_of_some (h := s.heap) emptyDict he
  refine wpAny_bind (wpAny_alloc (wpAny_bind (wpAny_update (o := xObj C none tt) he1 ?_)))
  have ne : s.heap.objs.size ≠ e := Nat.ne_of_gt (Heap.lt_size he)
  have k1 : ∀ b o, b ≠ e → (s.heap.push emptyDict).get? b = some o → ((s.heap.push emptyDict).update e fun o => { o with dict := some s.heap.objs.size }).get? b = some o := fun b o n z => by
    rw [Heap.get?_update_other _ _ (Ne.symm n)]; exact z
  have e1 := k1 _ _ ne (Heap.get?_push_size s.heap (o := emptyDict) rfl)
  have e2 : ((s.heap.push emptyDict).update e fun o => { o with dict := some s.heap.objs.size }).get? e = some (xObj C (some s.heap.objs.size) tt) := by
    rw [Heap.get?_update_self _ he1 rfl]
  have n1 : ((s.heap.push emptyDict).update e fun o => { o with dict := some s.heap.objs.size }).Ns1 s.heap.objs.size fun _ => none := Heap.Ns1.of_empty ⟨emptyDict, #[], _, e1, rfl, (fun y hy => absurd hy (by simp)), fun _ => rfl⟩
  show wpAny _ _ (pure (some s.heap.objs.size)) _ _ _
  refine wpAny_pure (wpAny_bind (wpAny_pure (wpAny_bind (wpAny_nsSet1 n1 fun h' n2 s2 => ?_))))
  obtain ⟨oD, esD, epD, g1, g2, g3⟩ := n2.count (ns := [f]) fun y hy => by
    by_cases z : y = f
    · simp [z]
    · rw [if_neg z] at hy; exact absurd rfl hy
  refine wpAny_bind (wpAny_lookBehind g1 (by rw [g2]; exact pastItsLine_dict (Nat.le_trans g3 (by rw [sizeLine_eq]; simp))) (wpAny_pure ?_))
  refine q h' s.heap.objs.size (Heap.get?_none_of_le (Nat.le_refl _)) ((s2.2 _ (Ne.symm ne)).trans e2) n2 fun b o n z => ?_
  rw [s2.2 b (Nat.ne_of_lt (Heap.lt_size z))]
  exact k1 b o n (Heap.get?_push_of_some _ z)
end
end DL
namespace DL
open PySem PySem.Spec PyProof.Rows L2 PySem.W
section
variable {prog : Program} {w : World} {A : Around} {E : Value → Shared → Prop} {s : Shared} {K : Frag} {C x : Addr} {ox od : Obj} {f : Str} {v : Value} {ex : Bool}
theorem exc_attr {Q : Value → Shared → Prop} (L : ExcL K C) (X : K.In s.heap) (I : InstAt s.heap x ox C (some od)) (hf : findObj K C (some od) f = some (.value v)) (hv : handedIn v = true) (q : Q v { s with toks := s.toks + 1 }) : wpAny (model prog w) A (getAttr (.ref x) f ex) Q E s := by
  obtain ⟨hh, g, d, t, os⟩ := s
  have L0 := I.type (M := model prog w)
  have L1 := looks_findIn (M := model prog w) X L.ga
  have L2 := looks_findIn (M := model prog w) X L.gr
  have LF := looks_find (M := model prog w) X I hf
  have LS := looks_subIn (M := model prog w) X L.sb
  unfold getAttr getAttrBy
  refine wpAny_bind (wpAny_mkText (wpAny_holding (wpAny_bind (L0.at (wpAny_bind (L1.at ?_))))))
  show wpAny _ _ (if (onTheHeap (Value.ref C) && (Value.builtin "BaseException.__getattribute__" == Value.builtin "object.__getattribute__")) = true then _ else _) _ _ _
  have n2 : (Value.builtin "BaseException.__getattribute__" == Value.builtin "object.__getattribute__") = false := by decide +kernel
  rw [if_neg (by rw [n2, Bool.and_false]; exact Bool.false_ne_true)]
  unfold getAttrByItsOwn hookBefore
  rw [if_pos (by rfl)]
  refine wpAny_bind (L2.at (wpAny_bind (wpAny_attempt (wpAny_holding ?_))))
  unfold callGetattribute
  have n3 : (ex && onTheHeap (Value.builtin "BaseException.__getattribute__")) = false := by cases ex <;> rfl
  rw [if_neg (by rw [n3]; exact Bool.false_ne_true)]
  unfold boundAndCalled
  have LI : Looks (model prog w) hh (isInstance (.ref x) (.type "BaseException")) true := L0.andThen LS
  rw [PySem.F.attr_ValueError.ga.bind (.ref x)]
  refine wpAny_bind (wpAny_pure ?_)
  show wpAny _ _ (call (.builtin "BaseException.__getattribute__") [.ref x, .str f t]) _ _ _
  refine wpAny_call (codeAny_call_builtin PySem.F.attr_ValueError.ga.plain PySem.F.entry_bexc_ga ?_)
  have b1 : builtinKind "BaseException.__getattribute__" = some .slot := by decide +kernel
  have b2 : splitId "BaseException.__getattribute__" = some ("BaseException", "__getattribute__") := by decide +kernel
  have b3 := PySem.F.args_bexc_ga (.ref x) (.str f t)
  simp only [checkBuiltinCall, b1, b2]
  refine wpAny_bind (LI.at ?_)
  repeat (first | (with_reducible refine L0.at ?_) | (with_reducible refine LF.at ?_) | wp_step)
  exact handed_on hv q
end
end DL
namespace DL
open PySem PySem.Spec PyProof.Rows L2 PySem.W
structure FlyY (l : List Env) (H H1 : Hp) (h0 h1 : Heap) (a : Addr) (C : Value) (dx : Option Addr) : Prop where
  new : h0.get? a = none
  fly : ∃ B : Heap, FlyD B l a C dx .none h1 ∧ (∀ b o, h0.get? b = some o → b ∉ frs l → ∃ o', B.get? b = some o' ∧ (H b = none → o' = o)) ∧ ∀ b ho, H1 b = some ho → ∃ o, h1.get? b = some o ∧ B.get? b = some o
noncomputable def CXy (P : Program) (w : World) : CXT := fun outer H s E e s' => ∃ (a : Addr) (C : Value) (dx : Option Addr) (H1 : Hp), e = .ref a ∧ E C dx H1 ∧ s'.os = s.os ∧ AllBare s'.gens ∧ Un (frs outer) [] H H1 s.heap s'.heap ∧ HOk P w H1 s'.heap ∧ FlyY outer H H1 s.heap s'.heap a C dx
section
variable {P : Program} {w : World} {K : PySem.W.Frag} {mg : Str → Option Value} {base : Heap} {N : List Str} {qual : Str} {scope : Scope} {f : Addr} {cd : Value} {A : Around} {outer : List Env} {s s1 : Shared} {H H1 : Hp} {E : XK} {pins : List (Addr × Obj)} {σ : L2.St}
theorem yx_leaves {e : Addr} {oe : Obj} {vs : Array Value} (I : Inv (cxOf (CXy P w) P w K mg base N qual scope f cd A outer s H E) pins σ H1 s1) (he : s1.heap.get? e = some oe) (hv : oe.data = .fields vs) (h1 : vs[1]? = some .none) (n1 : H1 e = none) (new : s.heap.get? e = none) (q : E oe.cls oe.dict H1) :
    (cxOf (CXy P w) P w K mg base N qual scope f cd A outer s H E).xe (.ref e) s1 := by
  have hS := I.stack
  have fr := I.ok.frames
  obtain ⟨L, hL⟩ : ∃ L, L = e :: frs (cxOf (CXy P w) P w K mg base N qual scope f cd A outer s H E).stack := ⟨_, rfl⟩
  have hF : s1.heap.FunFrames (hideAll s1.heap L) (cxOf (CXy P w) P w K mg base N qual scope f cd A outer s H E).stack := funFrames_hide hS fun env he b hb => by rw [hL]; exact List.mem_cons_of_mem _ (List.mem_filterMap.mpr ⟨env, he, hb⟩)
  refine d_leave0 (B := hideAll s1.heap L) fr rfl hF (fun b o z => of_hideAll _ z) (hideAll_none _ (by rw [hL]; exact List.mem_cons_self ..)) he hv h1 fun h2 f1 f4 => ?_
  have nf : ∀ b ho, H1 b = some ho → b ∉ L := fun b ho eb z => by
    rw [hL] at z
    rcases List.mem_cons.mp z with rfl | z
    · rw [n1] at eb; cases eb
    · rw [I.stkFree b z] at eb; cases eb
  have kp : ∀ b o, s1.heap.get? b = some o → b ∉ L → h2.get? b = some o := fun b o eb z => f1.st b o (hideAll_get _ eb z)
  have old : ∀ b o, s.heap.get? b = some o → b ∉ frs outer → b ∉ L := fun b o eb z y => by
    rw [hL] at y
    rcases List.mem_cons.mp y with rfl | y
    · rw [new] at eb; cases eb
    · rcases List.mem_cons.mp (I.stkSub b y) with rfl | y
      · exact absurd (Nat.lt_of_lt_of_le (Heap.lt_size eb) I.ok.above) (Nat.lt_irrefl _)
      · exact z y
  have fram : ∀ b o, b ∈ frs (cxOf (CXy P w) P w K mg base N qual scope f cd A outer s H E).stack → s1.heap.get? b = some o → ∃ sl, h2.get? b = some { o with slots := sl } := fun b o z eb => by
    obtain ⟨_, o', g1, g3⟩ := hS.mem z
    rw [eb] at g1
    cases g1
    exact f4 b o eb g3
  refine ⟨e, oe.cls, oe.dict, H1, rfl, q, I.os, I.bare, ⟨fun b o eb n nb _ => kp b o (I.base.keep b o eb n nb (by rintro z; cases z)) (old b o eb nb), fun b o eb n hb _ => ?_, fun b o eb n _ => I.base.free b o eb n (by intro z; cases z), fun b o eb _ => ?_, I.base.tups, I.base.frzs, I.base.tbls⟩, fun b ho eb => ?_, ⟨new, _, f1, fun b o eb nb => ?_, fun b ho eb => ?_⟩⟩
  · obtain ⟨sl, g⟩ := I.base.slot b o eb n hb (by intro z; cases z)
    obtain ⟨sl', g'⟩ := fram b _ (List.mem_cons_of_mem _ hb) g
    exact ⟨sl', g'⟩
  · obtain ⟨o1, g⟩ := I.base.there b o eb (by intro z; cases z)
    by_cases z : b ∈ frs (cxOf (CXy P w) P w K mg base N qual scope f cd A outer s H E).stack
    · obtain ⟨sl, g'⟩ := fram b o1 z g
      exact ⟨_, g'⟩
    · refine ⟨o1, kp b o1 g fun y => ?_⟩
      rw [hL] at y
      rcases List.mem_cons.mp y with rfl | y
      · rw [new] at eb; cases eb
      · exact z y
  · exact (I.hok b ho eb).stay (fun c u hc g => kp c u g (by
      rcases hc with rfl | hc
      · exact nf _ _ eb
      · exact nf _ _ hc)) (fun _ z => z) (fun _ _ z => z)
  · obtain ⟨o1, g⟩ := I.base.there b o eb (by intro z; cases z)
    refine ⟨o1, hideAll_get _ g (old b o eb nb), fun n => ?_⟩
    exact Option.some.inj (g.symm.trans (I.base.keep b o eb n nb (by intro z; cases z)))
  · obtain ⟨o, g⟩ := (I.hok b ho eb).here
    exact ⟨o, kp b o g (nf b ho eb), hideAll_get _ g (nf b ho eb)⟩
theorem yx_passes {s' : Shared} {H0 : Hp} {a : Addr} {C : Value} {dx : Option Addr} (I : Inv (cxOf (CXy P w) P w K mg base N qual scope f cd A outer s H E) pins σ H0 s1) (os : s'.os = s1.os) (bare : AllBare s'.gens) (un : Un (frs (cxOf (CXy P w) P w K mg base N qual scope f cd A outer s H E).stack) [] H0 H1 s1.heap s'.heap) (hok : HOk P w H1 s'.heap)
    (fl : FlyY (cxOf (CXy P w) P w K mg base N qual scope f cd A outer s H E).stack H0 H1 s1.heap s'.heap a C dx) (q : E C dx H1) : (cxOf (CXy P w) P w K mg base N qual scope f cd A outer s H E).xe (.ref a) s' := by
  obtain ⟨B, fly, bo, bt⟩ := fl.fly
  have fr := I.ok.frames
  refine d_leave fr rfl fly fun h2 f1 up => ?_
  obtain ⟨un2, ok2⟩ := fly_un un hok bo bt f1.st up fly.ff
  have old : ∀ b o, s.heap.get? b = some o → b ∉ frs outer → b ∉ frs (cxOf (CXy P w) P w K mg base N qual scope f cd A outer s H E).stack := fun b o eb z y => by
    rcases List.mem_cons.mp (I.stkSub b y) with rfl | y
    · exact absurd (Nat.lt_of_lt_of_le (Heap.lt_size eb) I.ok.above) (Nat.lt_irrefl _)
    · exact z y
  have u : Un (frs (cxOf (CXy P w) P w K mg base N qual scope f cd A outer s H E).stack) [] H H1 s.heap h2 := (I.base.mono (fun b hb => List.mem_cons_of_mem _ hb) (fun b hb => hb)).trans un2
  refine ⟨a, C, dx, H1, rfl, q, os.trans I.os, bare, ⟨fun b o eb n nb hx => u.keep b o eb n (old b o eb nb) hx, fun b o eb n hb hx => u.slot b o eb n (List.mem_cons_of_mem _ hb) hx, u.free, u.there, u.tups, u.frzs, u.tbls⟩, ok2, ⟨?_, B, f1, fun b o eb nb => ?_, fun b ho eb => ?_⟩⟩
  · cases z : s.heap.get? a with
    | none => rfl
    | some o =>
      obtain ⟨o1, g⟩ := I.base.there a o z (by intro y; cases y)
      rw [fl.new] at g; cases g
  · obtain ⟨o1, g⟩ := I.base.there b o eb (by intro z; cases z)
    obtain ⟨o', g', z⟩ := bo b o1 g (old b o eb nb)
    refine ⟨o', g', fun n => ?_⟩
    rw [z (I.base.free b o eb n (by intro z; cases z))]
    exact Option.some.inj (g.symm.trans (I.base.keep b o eb n nb (by intro z; cases z)))
  · obtain ⟨o, g, g'⟩ := bt b ho eb
    exact ⟨o, f1.st b o g', g'⟩
end
section
variable {M : Model} {A : Around} {E : Value → Shared → Prop} {s : Shared} {env : Env} {C Cl : Addr} {c : ClassData} {x : Expr} {pos : Pos} {Q : Flow → Shared → Prop}
theorem raise_ini (hh : A.handled = none) (h : wpAny M A (eval x env) (fun v s1 => ∃ e dx t, v = .ref e ∧ IniC s1.heap C Cl c ∧ s1.heap.get? e = some (xObj C dx t) ∧ E (.ref e) s1) E s) : wpAny M A (exec (.Raise (some x) none pos) env) Q E s := by
  rw [arm_exec_Raise]
  simp only [evalOpt, Option.map]
  refine wpAny_bind (wpAny_standAt ?_)
  unfold raiseStmt
  refine wpAny_bind (wpAny_bind (wpAny_mono h (fun v s1 h1 => wpAny_bind (wpAny_standAt (wpAny_pure ?_))) fun _ _ y => y))
  obtain ⟨e, dx, t, rfl, Y, he, hE⟩ := h1
  obtain ⟨nm, q, N, bs, sn, sub, ab, col, dd, k0, k1, k2, k3, k5, hC, rfl⟩ := Y.obj
  obtain ⟨hp, g, d, tk, os⟩ := s1
  have he' : hp.get? e = some { cls := .ref C, dict := dx, data := .fields #[.ref t, .none, .none, .none, .bool false, .none] } := he
  have hcB : (Value.ref C :: Value.ref Cl :: vE).contains (.type "BaseException") = true := by rw [List.contains_cons, List.contains_cons]; rfl
  repeat (first | with_reducible refine wpAny_loadPart_at he' ?_ | with_reducible refine wpAny_loadPart_at hC ?_ | (with_reducible refine wpAny_isSubtype_exc hC ?_; rw [hcB]) | wp_step)
  exact wpAny_raiseNew_none hh hE
end
end DL
namespace DL
open PySem PySem.Spec PyProof.Rows L2 PySem.W
noncomputable def XE (C : Addr) (dx : Option Addr) (e : Addr) : HO := .ext fun h => ∃ t, h.get? e = some (xObj C dx t)
theorem xe_ok {P : Program} {w : World} {H : Hp} {h : Heap} {C e t : Addr} {dx : Option Addr} (g : h.get? e = some (xObj C dx t)) : ObjOk P w H h e (XE C dx e) :=
  ⟨⟨t, g⟩, ⟨_, g⟩, fun h1 h2 ⟨t1, g1⟩ k => ⟨t1, k _ g1⟩⟩
theorem xe_at {P : Program} {w : World} {H : Hp} {h : Heap} {C e : Addr} {dx : Option Addr} (ok : HOk P w H h) (z : H e = some (XE C dx e)) : ∃ t, h.get? e = some (xObj C dx t) := (ok e _ z).1
structure ExI (K : Frag) (C Cl fI : Addr) (f : Str) : Prop where
  xin : iniIn K C Cl = true
  init : findIn K (.ref C) "__init__" = some (some (.ref fI))
  fn : typeIn K (.ref fI) = some (.type "function")
  sa : findIn K (.ref C) "__setattr__" = some (some (.builtin "object.__setattr__"))
  nf : findIn K (.ref C) f = some none
  ga : specialIn K (.ref Cl) "__getattribute__" = some (some (.builtin "type.__getattribute__"))
  rd : readsIn K Cl (.type "type") = true
  fc : findCls K (.ref Cl) (.type "type") "__init__" = some (.val (.builtin "ValueError.__init__"))
section
variable {X : Cx} {C Cl fI : Addr} {f : Str}
theorem str_app (a b : Str) : (a ++ b).length = a.length + b.length := by
  show (a.cps ++ b.cps).size = _
  rw [Array.size_append]; rfl
noncomputable def tMsg (i : Nat) : TE := fun σ H Q => ∃ n : Int, σ[i]? = some (some (.int n)) ∧ n.natAbs < 1000000 ∧ ∀ x, Q (.str x) H
theorem pe_msg {i : Nat} {x c1 c2 : Str} {j1 j2 : Nat} {p1 p2 p3 p4 pos : Pos} (hi : X.N[i]? = some x) (hv : Vis X.env.scope x) (h1 : c1.length ≤ 1000) (h2 : c2.length ≤ 1000) (hd : (x == ("__debug__" : Str)) = false := by decide) (hd2 : (x == ("__classdict__" : Str)) = false := by decide) :
    PE X (.JoinedStr [.Constant (.str c1) j1 p1, .FormattedValue (.Name x p2) (-1) none p3, .Constant (.str c2) j2 p4] pos) (tMsg i) := by
  rintro pins s σ H Q I ⟨n, hn, hb, q⟩
  have z0 : Str.empty ++ c1 = c1 := by
    show Str.mk (#[] ++ c1.cps) = c1
    rw [Array.empty_append]
  have sz : sizeLine = 16777216 := sizeLine_eq
  have ln : (toString n : Str).length ≤ 13 := by
    have := PySem.PyData.shown_int_le (i := n) (by omega)
    exact this
  refine JoinedStr_many (joinParts_cons (thn (pe_str (X := X) pins _ σ H (fun v H2 => v = .str c1 ∧ H2 = H) I ⟨rfl, rfl⟩) fun u1 s1 z => ?_))
  obtain ⟨v1, H1, I1, r1, rfl, rfl⟩ := z
  obtain ⟨t1, rfl⟩ := r1
  show (Str.empty ++ c1).length ≤ sizeLine ∧ _
  rw [z0]
  refine ⟨by omega, joinParts_cons (FormattedValue_plain (thn (pe_var (X := X) hi hv hd hd2 pins s1 σ H1 (fun v H2 => v = .int n ∧ H2 = H1) I1 ⟨_, hn, rfl, rfl⟩) fun u2 s2 z => ?_))⟩
  obtain ⟨v2, H2, I2, r2, rfl, rfl⟩ := z
  obtain ⟨t2, rfl⟩ := r2
  refine formatField_int_small ?_ ?_
  · have : n.natAbs.log2 ≤ 20 := by
      rcases Nat.eq_zero_or_pos n.natAbs with z | z
      · rw [z]; decide
      · have := (Nat.log2_lt (by omega)).mpr (show n.natAbs < 2 ^ 21 by omega)
        omega
    omega
  have l1 := str_app c1 (toString n)
  refine ⟨by omega, joinParts_cons (thn (pe_str (X := X) pins _ σ H2 (fun v H3 => v = .str c2 ∧ H3 = H2) (I2.tok _) ⟨rfl, rfl⟩) fun u3 s3 z => ?_)⟩
  obtain ⟨v3, H3, I3, r3, rfl, rfl⟩ := z
  obtain ⟨t3, rfl⟩ := r3
  have l2 := str_app (c1 ++ toString n) c2
  exact ⟨by omega, joinParts_nil ⟨.str _, H3, I3.tok _, ⟨_, rfl⟩, q _⟩ (by omega)⟩
noncomputable def tBase (C : Addr) (ta : TA) : TE := fun σ H Q => ta σ H fun vs H1 => ∃ e x, vs = [.ref e, .str x] ∧ H1 e = some (XE C none e) ∧ Q .non (upd H1 e (XE C none e))
theorem pe_base {pl : Sem Bool} {bn : Str} {e : Expr} {es : List Expr} {ta : TA} {p apos pos : Pos} (T : ExI X.K C Cl fI f) (hg : Gl X bn) (hm : X.mg bn = some (.ref Cl)) (ha : PA X (e :: es) ta)
    (hdb : (bn == ("__debug__" : Str)) = false := by decide) (hst : starEach (e :: es) X.env = (false, eval e X.env) :: starEach es X.env := by rfl) (hpl : (backTo pos (starEach es X.env)).any (·.1) = false := by rfl)
    (ht : eval (.Call (.Attribute (.Name bn p) "__init__" apos) (e :: es) [] pos) X.env = (do
      let ov ← eval (.Name bn p) X.env
      standAt apos.atName
      let (f, first) ← holding [ov] (getMethod ov "__init__" pl)
      callWith pos f first (backTo pos (starEach (e :: es) X.env)) (backToKw pos (keywordEach [] X.env))) := by rfl) :
    PE X (.Call (.Attribute (.Name bn p) "__init__" apos) (e :: es) [] pos) (tBase C ta) := by
  intro pins s σ H Q I h
  refine PySem.W.methodCall_KW (pl := pl) (ld_glob I hg hm ?_ hdb) ht
  refine method_cls I.kIn T.ga (cls_value I.kIn T.rd T.fc rfl ?_)
  refine PyProof.Rows.callWith_builtin1 (thn (ha pos pins _ σ H _ (I.tok _) h) fun us s1 ⟨vs, H1, I1, r1, e', x, hvs, hH, q⟩ => ?_) hst hpl
  subst hvs
  obtain ⟨u1, u2, rfl, r2, r3⟩ := vals2 r1
  have r2 : u1 = .ref e' := r2
  subst r2
  obtain ⟨t, g⟩ := xe_at I1.hok hH
  obtain ⟨c, hc, Y⟩ := ini_in I1.kIn T.xin
  refine xi_base Y g fun h' t' k g' => ?_
  refine ⟨.non, _, I1.write (x := e') (e := e') (t' := s1.toks) (by rw [hH]; exact True.intro) (.inl rfl) (fun b u n z => k b u n z) ⟨_, g'⟩ (xe_ok g'), rfl, q⟩
noncomputable def tSetX (C : Addr) (f : Str) (ta tv : TE) : TS := fun D σ H => tv σ H fun y H1 => ta σ H1 fun x H2 => ∃ e, x = .ref e ∧ H2 e = some (XE C none e) ∧ ∀ dx, H2 dx = none → dx ≠ e → D.nx σ (upd (upd H2 dx (.xd [(f, y)])) e (XE C (some dx) e))
theorem Inv.xdict {pins : List (Addr × Obj)} {σ : L2.St} {H : Hp} {s : Shared} {h' : Heap} {e dx t : Addr} {y : V} {u : Value} {t' : Nat} (I : Inv X pins σ H s) (he : H e = some (XE C none e)) (new : s.heap.get? dx = none) (g : h'.get? e = some (xObj C (some dx) t)) (n1 : h'.Ns1 dx fun z => if z = f then some u else none) (ry : RelV y u)
    (k : ∀ b o, b ≠ e → s.heap.get? b = some o → h'.get? b = some o) : Inv X pins σ (upd (upd H dx (.xd [(f, y)])) e (XE C (some dx) e)) { s with heap := h', toks := t' } := by
  have hn : H dx = none := by
    cases z : H dx with
    | none => rfl
    | some ho =>
      obtain ⟨o, q⟩ := (I.hok dx ho z).here
      rw [new] at q; cases q
  have ne : dx ≠ e := fun z => by rw [z, he] at hn; cases hn
  have stay : ∀ b ho, H b = some ho → b ≠ e → upd (upd H dx (.xd [(f, y)])) e (XE C (some dx) e) b = some ho := fun b ho z n => by
    rw [upd_ne n, upd_ne (fun q => by rw [q, hn] at z; cases z)]; exact z
  refine I.un ⟨fun b o eb n _ _ => k b o (fun z => by rw [z, he] at n; cases n) eb, fun b o eb n _ _ => ⟨o.slots, k b o (fun z => by rw [z, he] at n; cases n) eb⟩, fun b o eb n _ => ?_, fun b o eb _ => ?_, fun b xs z => stay b _ z (fun q => by rw [q, he] at z; cases z), fun b o u z => stay b _ z (fun q => by rw [q, he] at z; cases z), fun b ps z => ⟨#[], by rw [stay b _ z (fun q => by rw [q, he] at z; cases z)]; simp⟩⟩ fun b ho z => ?_
  · rw [upd_ne (fun q => by rw [q, he] at n; cases n), upd_ne (fun q => by rw [q, new] at eb; cases eb)]; exact n
  · by_cases q : b = e
    · subst q; exact ⟨_, g⟩
    · exact ⟨o, k b o q eb⟩
  · by_cases q : b = e
    · subst q
      rw [upd_same] at z
      cases z
      exact xe_ok g
    · rw [upd_ne q] at z
      by_cases q2 : b = dx
      · subst q2
        rw [upd_same] at z
        cases z
        refine ⟨_, n1, fun f' => ?_⟩
        by_cases q3 : f' = f
        · subst q3
          show RelO (List.lookup f' [(f', y)]) (if f' = f' then some u else none)
          rw [if_pos rfl, List.lookup_cons_self]
          exact ry
        · show RelO (List.lookup f' [(f, y)]) (if f' = f then some u else none)
          rw [if_neg q3]
          have : List.lookup f' [(f, y)] = none := by
            have : (f' == f) = false := beq_false_of_ne q3
            simp [List.lookup, this]
          rw [this]
          exact True.intro
      · rw [upd_ne q2] at z
        refine (I.hok b ho z).stay (fun c v hc r => k c v ?_ r) (fun c r => stay c _ r fun q4 => by rw [q4, he] at r; cases r) fun c xs r => stay c _ r fun q4 => by rw [q4, he] at r; cases r
        rcases hc with rfl | hc
        · exact q
        · intro q4; rw [q4, he] at hc; cases hc
theorem ps_setx {o value : Expr} {ta tv : TE} {pos pos' : Pos} (T : ExI X.K C Cl fI f) (ha : PE X o ta) (hv : PE X value tv) (hs : swapsWith value (some (.Attribute o f pos')) pos.line X.env = pure false) : PS X (.Assign [.Attribute o f pos'] value pos) (tSetX C f ta tv) := by
  intro pins s σ H D I h
  refine plainObj_wpAny_Assign_Attribute (thn (hv pins s σ H _ I h) fun u s1 ⟨y, H1, I1, ry, q⟩ => thn (ha pins s1 σ H1 _ I1 q) fun ov s2 ⟨x, H2, I2, rx, e, ex, he, q2⟩ => ?_) hs
  subst ex
  have rx : ov = Value.ref e := rx
  subst rx
  obtain ⟨t, g⟩ := xe_at I2.hok he
  obtain ⟨c, hc, Y⟩ := ini_in I2.kIn T.xin
  refine xi_set I2.kIn hc Y g T.sa T.nf fun h' dx new g' n1 k => ?_
  have hn : H2 dx = none := by
    cases z : H2 dx with
    | none => rfl
    | some ho =>
      obtain ⟨o, q⟩ := (I2.hok dx ho z).here
      rw [new] at q; cases q
  exact ⟨σ, _, Inv.xdict I2 he new g' n1 ry k, q2 dx hn fun z => by rw [z, he] at hn; cases hn⟩
end
noncomputable def spI (C : Addr) (f : Str) : Sp := fun vs H Q _ => ∃ (e : Addr) (n : Int), vs = [.ref e, .int n] ∧ n.natAbs < 1000000 ∧ H e = some (XE C none e) ∧ ∀ dx, H dx = none → dx ≠ e → Q .non (upd (upd H dx (.xd [(f, .int n)])) e (XE C (some dx) e))
theorem ini_fn {P : Program} {w : World} {K : Frag} {mg : Str → Option Value} {base : Heap} {C Cl fI : Addr} {f qual ln : Str} {st : Stmt} {fd : FuncData} {k : Nat} {c1 c2 : Str} {j1 j2 : Nat} {p1 p2 p3 p4 p5 p6 p7 p8 p9 p10 q1 q2 q3 q4 : Pos}
    (T : ExI K C Cl fI f) (hm : mg "ClaimError" = some (.ref Cl)) (F : Fun K "__init__" qual st fI fd) (S : FnScope ["self", ln] ["self", ln] (defScope st))
    (hb : defBody st = [.Expr (.Call (.Attribute (.Name "ClaimError" p1) "__init__" p2) [.Name "self" p3, .JoinedStr [.Constant (.str c1) j1 q1, .FormattedValue (.Name ln q2) (-1) none q3, .Constant (.str c2) j2 q4] p4] [] p5) p6, .Assign [.Attribute (.Name "self" p7) f p8] (.Name ln p9) p10])
    (h1 : c1.length ≤ 1000) (h2 : c2.length ≤ 1000) (sS : (defScope st).names.lookup ("self" : Str) = some .local) (sL : (defScope st).names.lookup ln = some .local) (sB : (defScope st).names.lookup ("ClaimError" : Str) = some .globalImplicit)
    (ht : ∀ (L : Addr) (cdv : Value), ∃ pl, eval (.Call (.Attribute (.Name "ClaimError" p1) "__init__" p2) [.Name "self" p3, .JoinedStr [.Constant (.str c1) j1 q1, .FormattedValue (.Name ln q2) (-1) none q3, .Constant (.str c2) j2 q4] p4] [] p5) (envOfC qual (defScope st) L fI cdv) = (do
      let ov ← eval (.Name "ClaimError" p1) (envOfC qual (defScope st) L fI cdv)
      standAt p2.atName
      let (f, first) ← holding [ov] (getMethod ov "__init__" pl)
      callWith p5 f first (backTo p5 (starEach [.Name "self" p3, .JoinedStr [.Constant (.str c1) j1 q1, .FormattedValue (.Name ln q2) (-1) none q3, .Constant (.str c2) j2 q4] p4] (envOfC qual (defScope st) L fI cdv))) (backToKw p5 (keywordEach [] (envOfC qual (defScope st) L fI cdv)))))
    (d3 : (ln == ("__debug__" : Str)) = false := by decide) (d4 : (ln == ("__classdict__" : Str)) = false := by decide) :
    FnOk P w K mg base CX0 (k + 1) fI fd ["self", ln] (spI C f) := by
  refine F.ok (N := ["self", ln]) S (fun vs H Q E ⟨e, n, z, _⟩ => by rw [z]; rfl) fun cdv A outer s H vs Q E hr zz => ?_
  obtain ⟨e, n, hvs, hn, he, q⟩ := zz
  subst hvs
  rw [hb]
  obtain ⟨pl, ht⟩ := ht s.heap.objs.size cdv
  have e1 : PE (cxOf CX0 P w K mg base ["self", ln] qual (defScope st) fI cdv A outer s H E).nox (.Call (.Attribute (.Name "ClaimError" p1) "__init__" p2) [.Name "self" p3, .JoinedStr [.Constant (.str c1) j1 q1, .FormattedValue (.Name ln q2) (-1) none q3, .Constant (.str c2) j2 q4] p4] [] p5) _ := pe_base (pl := pl) T sB hm (pa_cons (pe_var (i := 0) rfl (.inl sS)) (pa_cons (pe_msg (i := 1) rfl (.inl sL) h1 h2 d3 d4) pa_nil rfl) rfl) (by decide) rfl rfl ht
  have s1 := ps_expr (pos := p6) e1 rfl
  have s2 := ps_setx (X := (cxOf CX0 P w K mg base ["self", ln] qual (defScope st) fI cdv A outer s H E).nox) (pos := p10) (pos' := p8) T (pe_var (pos := p7) (x := "self") (i := 0) rfl (.inl sS)) (pe_var (pos := p9) (x := ln) (i := 1) rfl (.inl sL) d3 d4) rfl
  refine ⟨_, pss_cons s1 (pss_one s2), ?_⟩
  refine ⟨.ref e, rfl, n, rfl, hn, fun x => ⟨e, x, rfl, he, .int n, rfl, .ref e, rfl, e, rfl, upd_same, fun dx h3 h4 => ?_⟩⟩
  rw [upd_ne h4] at h3
  have eq : upd (upd (upd H e (XE C none e)) dx (.xd [(f, .int n)])) e (XE C (some dx) e) = upd (upd H dx (.xd [(f, .int n)])) e (XE C (some dx) e) := by
    funext b
    unfold upd
    by_cases z : b = e
    · rw [if_pos z, if_pos z]
    · rw [if_neg z, if_neg z, if_neg z]
  show Q .non _
  rw [eq]
  exact q dx h3 h4
end DL
namespace DL
open PySem PySem.Spec PyProof.Rows L2 PySem.W
section
variable {X : Cx} {C Cl fI : Addr} {f : Str}
theorem Inv.drop {pins : List (Addr × Obj)} {σ : L2.St} {H : Hp} {s : Shared} {e : Addr} {φ : Heap → Prop} (I : Inv X pins σ H s) (he : H e = some (.ext φ)) (new : X.s₀.heap.get? e = none) : Inv X pins σ (fun b => if b = e then none else H b) s := by
  have k : ∀ b ho, H b = some ho → b ≠ e → (if b = e then none else H b) = some ho := fun b ho z n => by rw [if_neg n]; exact z
  have fr : ∀ b, H b = none → (if b = e then none else H b) = none := fun b z => by split <;> first | rfl | exact z
  refine ⟨I.ok, I.os, I.bare, ⟨I.base.keep, I.base.slot, fun b o eb n hx => fr b (I.base.free b o eb n hx), I.base.there, fun b xs z => ?_, fun b o u z => ?_, fun b ps z => ?_⟩, I.loc, I.cell, fr _ I.free, fun x c z => fr c (I.freeC x c z), fun p hp => ?_, fun b ho z => ?_, I.len⟩
  · have z := I.base.tups b xs z
    exact k b _ z fun q => by rw [q, he] at z; cases z
  · have z := I.base.frzs b o u z
    exact k b _ z fun q => by rw [q, he] at z; cases z
  · obtain ⟨m, z⟩ := I.base.tbls b ps z
    exact ⟨m, k b _ z fun q => by rw [q, he] at z; cases z⟩
  · obtain ⟨a1, a2, a3⟩ := I.pin p hp
    exact ⟨a1, fr _ a2, a3⟩
  · split at z
    · cases z
    · rename_i n
      exact (I.hok b ho z).stay (fun c v _ r => r) (fun c r => k c _ r fun q => by rw [q, he] at r; cases r) fun c xs r => k c _ r fun q => by rw [q, he] at r; cases r
noncomputable def tXM (h0 : Heap) (C : Addr) (f : Str) (ta : TA) : TE := fun σ H Q => ta σ H fun vs H1 => ∃ n : Int, vs = [.int n] ∧ n.natAbs < 1000000 ∧ ∀ e dx, H1 e = none → H1 dx = none → dx ≠ e → h0.get? e = none → Q (.ref e) (upd (upd H1 dx (.xd [(f, .int n)])) e (XE C (some dx) e))
theorem pe_xmake {k : Nat} {fd : FuncData} {ps : List Str} {x : Str} {e : Expr} {ta : TA} {p pos : Pos} (T : ExI X.K C Cl fI f) (F : FnOk X.prog X.w X.K X.mg X.base CX0 k fI fd ps (spI C f)) (hr : Room (k + 1) X.A) (hg : Gl X x) (hm : X.mg x = some (.ref C)) (hk : keepIn X.K (.ref C) = true) (hb : Binds X.K fd ps []) (ha : PA X [e] ta)
    (hdb : (x == ("__debug__" : Str)) = false := by decide) (he : starEach [e] X.env = (false, eval e X.env) :: starEach [] X.env := by exact star_cons rfl) (hpl : (backTo pos (starEach [] X.env)).any (·.1) = false := by rfl) : PE X (.Call (.Name x p) [e] [] pos) (tXM X.s₀.heap C f ta) := by
  intro pins s σ H Q I h
  refine wpAny_Call_Name_kw (ld_glob I hg hm ?_ hdb)
  refine PySem.W.callWith_K (h₀ := X.base) I.ok.mod.kin hk (thn (ha pos pins s σ H _ I h) fun us s1 ⟨vs, H1, I1, r, n, hvs, hn, q⟩ => ⟨I1.kIn, ?_⟩) he hpl
  subst hvs
  obtain ⟨u, rfl, ru⟩ := vals1 r
  obtain ⟨c, hc, Y⟩ := ini_in I1.kIn T.xin
  obtain ⟨h1, g1, d1, t1, o1⟩ := s1
  have kp : ∀ b o, h1.get? b = some o → ((h1.push { cls := .type "tuple", data := .seq [u].toArray }).push (xObj C none h1.objs.size)).get? b = some o := fun b o z => Heap.get?_push_of_some _ (Heap.get?_push_of_some _ z)
  have hx : ((h1.push { cls := .type "tuple", data := .seq [u].toArray }).push (xObj C none h1.objs.size)).get? (h1.objs.size + 1) = some (xObj C none h1.objs.size) := by heap_get
  have I2 := I1.laid (a := h1.objs.size + 1) (o := XE C none (h1.objs.size + 1)) (t' := t1) kp (Nat.le_succ _) (xe_ok hx)
  have hn1 : H1 (h1.objs.size + 1) = none := I1.hok.fresh (Nat.le_succ _)
  have r2 : Vals [V.ref (h1.objs.size + 1), V.int n] [Value.ref (h1.objs.size + 1), u] := .cons rfl (.cons ru .nil)
  have sp : spI C f [V.ref (h1.objs.size + 1), V.int n] (upd H1 (h1.objs.size + 1) (XE C none (h1.objs.size + 1))) (fun v H2 => v = .non ∧ Q (.ref (h1.objs.size + 1)) H2) fun _ _ _ => False := by
    refine ⟨_, n, rfl, hn, upd_same, fun dx z1 z2 => ⟨rfl, ?_⟩⟩
    rw [upd_ne z2] at z1
    have eq : upd (upd (upd H1 (h1.objs.size + 1) (XE C none (h1.objs.size + 1))) dx (.xd [(f, .int n)])) (h1.objs.size + 1) (XE C (some dx) (h1.objs.size + 1)) = upd (upd H1 dx (.xd [(f, .int n)])) (h1.objs.size + 1) (XE C (some dx) (h1.objs.size + 1)) := by
      funext b
      unfold upd
      by_cases z : b = h1.objs.size + 1
      · rw [if_pos z, if_pos z]
      · rw [if_neg z, if_neg z, if_neg z]
    rw [eq]
    exact q _ dx hn1 z1 z2 (Heap.get?_none_of_le (Nat.le_trans I1.sz (Nat.le_succ _)))
  have hl : ([Value.ref (h1.objs.size + 1), u]).length = ps.length := by
    have e := F.len _ _ _ _ sp
    exact e
  have bd := hb _ [Value.ref (h1.objs.size + 1), u] I2.kIn (by rw [List.append_nil]; exact hl)
  rw [List.append_nil] at bd
  refine wpAny_call (xi_call (C := C) (rest := [u]) Y (looks_findIn I1.kIn T.init) (fun self => bind_fn I1.kIn self T.fn) (by rw [sizeLine_eq]; simp) (codeAny_mono (F.run _ X.stack _ _ ⟨[Value.ref (h1.objs.size + 1), u], []⟩ [Value.ref (h1.objs.size + 1), u] [V.ref (h1.objs.size + 1), V.int n] _ _ (hr.make C [u] []) (I2.env0.make C [u] []) bd r2 sp) fun r s' z => ?_))
  cases r with
  | error e => exact z.elim
  | ok fl =>
    cases fl with
    | ret w' =>
      obtain ⟨v, H', I3, rv, ev, q3⟩ := I2.after z
      subst ev
      exact ⟨rv, ⟨V.ref (h1.objs.size + 1), H', I3, rfl, q3⟩⟩
    | next => exact False.elim z
    | brk => exact False.elim z
    | cont => exact False.elim z
end
end DL
namespace DL
open PySem PySem.Spec PyProof.Rows L2 PySem.W
noncomputable abbrev YFs := SD → HD → Option (Int × HD)
noncomputable abbrev YFF := List D → HD → Option (Int × HD)
noncomputable def XdOk (av : Option Str) (i : Int) (dx : Option Addr) (H : Hp) (ι : List Addr) : Prop := match av with
  | none => dx = none
  | some f => ∃ d, dx = some d ∧ H d = some (.xd [(f, .int i)]) ∧ d ∉ ι
noncomputable def RaisY (fl : Bool) (X : Cx) (C : Addr) (dx : Option Addr) (H1 : Hp) (e : Value) (s' : Shared) : Prop := ∃ pins σ1 a, e = .ref a ∧ ((fl = false ∧ ∃ oe vs, Inv X pins σ1 H1 s' ∧ s'.heap.get? a = some oe ∧ oe.cls = .ref C ∧ oe.dict = dx ∧ oe.data = .fields vs ∧ vs[1]? = some .none ∧ H1 a = none ∧ X.s₀.heap.get? a = none) ∨
  ∃ s1 H0, Inv X pins σ1 H0 s1 ∧ s'.os = s1.os ∧ AllBare s'.gens ∧ Un (frs X.stack) [] H0 H1 s1.heap s'.heap ∧ HOk X.prog X.w H1 s'.heap ∧ FlyY X.stack H0 H1 s1.heap s'.heap a (.ref C) dx)
noncomputable def rdY (fl : Bool) (X : Cx) (C : Addr) (av : Option Str) (b : YFs) : TS := fun _ σ H => ∃ ι σd Hd i Hd', SRep X.K H ι σ σd ∧ HRep X.K H ι Hd ∧ b σd Hd = some (i, Hd') ∧
  ∀ H1 ι' dx e s', Le X.K H ι H1 ι' → HRep X.K H1 ι' Hd' → XdOk av i dx H1 ι' → RaisY fl X C dx H1 e s' → X.xe e s'
noncomputable def PYf (fl : Bool) (X : Cx) (C : Addr) (av : Option Str) (sts : List Stmt) (b : YFs) : Prop := PSs X sts (rdY fl X C av b)
noncomputable def ySeq (f : SF) (b : YFs) : YFs := fun σ H => (f σ H).bind fun r => match r.1 with
  | .nx => b r.2.1 r.2.2
  | _ => none
noncomputable def yEi (f : SF) (a b : YFs) : YFs := fun σ H => match f σ H with
  | none => a σ H
  | some r => match r.1 with
    | .nx => b r.2.1 r.2.2
    | _ => none
noncomputable def yIf (t : TF) (a b : YFs) : YFs := fun σ H => (t σ H).bind fun r => if r.1 then a σ r.2 else b σ r.2
noncomputable def yNo : YFs := fun _ _ => none
noncomputable def yRaise (fe : EF) : YFs := fun σ H => (fe σ H).bind fun r => match r.1 with
  | .int i => if i.natAbs < 1000000 then some (i, r.2) else none
  | _ => none
noncomputable def runY (n N : Nat) (b : YFs) : YFF := fun ds H => if ds.length = n then b (ds.map some ++ List.replicate (N - ds.length) none) H else none
section
variable {X : Cx} {fl : Bool} {C : Addr} {av : Option Str} {st : Stmt} {sts : List Stmt} {c : Expr} {pos : Pos}
theorem py_cons {f : SF} {b : YFs} (h1 : PSf X st f) (h2 : PYf fl X C av sts b) : PYf fl X C av (st :: sts) (ySeq f b) := by
  refine PSsi (pss_cons h1 h2) fun E σ H zz => ?_
  obtain ⟨ι, σd, Hd, i, Hd', s, hr, e, q⟩ := zz
  obtain ⟨⟨f1, σ1, H1⟩, e1, e⟩ := Option.bind_eq_some_iff.mp e
  refine ⟨ι, σd, Hd, f1, σ1, H1, s, hr, e1, fun σ' H' ι' l h ss => ?_⟩
  cases f1 with
  | nx => exact ⟨ι', σ1, H1, i, Hd', ss, h, e, fun H2 ι2 dx ex s2 l2 => q H2 ι2 dx ex s2 (l.trans l2)⟩
  | bk => cases e
  | ct => cases e
  | rt d => cases e
noncomputable def PYS (fl : Bool) (X : Cx) (C : Addr) (av : Option Str) (st : Stmt) (b : YFs) : Prop := PS X st (rdY fl X C av b)
theorem py_fst {b : YFs} (h : PYS fl X C av st b) : PYf fl X C av (st :: sts) b := PSsi (pss_cons h (pss_no (sts := sts))) fun E σ H z => z
theorem py_ei {f : SF} {a b : YFs} (h1 : PSf X st f) (h0 : PYS fl X C av st a) (h2 : PYf fl X C av sts b) : PYf fl X C av (st :: sts) (yEi f a b) := by
  rintro pins s σ H D I ⟨ι, σd, Hd, i, Hd', ss, hr, e, q⟩
  unfold yEi at e
  split at e
  · exact py_fst h0 pins s σ H D I ⟨ι, σd, Hd, i, Hd', ss, hr, e, q⟩
  · rename_i r e1
    exact py_cons h1 h2 pins s σ H D I ⟨ι, σd, Hd, i, Hd', ss, hr, by unfold ySeq; rw [e1]; exact e, q⟩
theorem py_no : PYf fl X C av sts yNo := fun pins s σ H D I ⟨_, _, _, _, _, _, _, e, _⟩ => by cases e
theorem py_if {t : TF} {as bs : List Stmt} {a b : YFs} (hc : PTf X c t) (ha : PYf fl X C av as a) (hb : PYf fl X C av bs b) : PYS fl X C av (.If c as bs pos) (yIf t a b) := by
  refine PSi (ps_if hc ha hb) fun E σ H zz => ?_
  obtain ⟨ι, σd, Hd, i, Hd', s, hr, e, q⟩ := zz
  obtain ⟨⟨z, H1⟩, e1, e⟩ := Option.bind_eq_some_iff.mp e
  refine ⟨ι, σd, Hd, z, H1, s, hr, e1, fun H' ι' l h => ?_⟩
  cases z with
  | true =>
    rw [if_pos rfl]
    exact ⟨ι', σd, H1, i, Hd', s.mono l, h, by simpa using e, fun H2 ι2 dx ex s2 l2 => q H2 ι2 dx ex s2 (l.trans l2)⟩
  | false =>
    rw [if_neg (by simp)]
    exact ⟨ι', σd, H1, i, Hd', s.mono l, h, by simpa using e, fun H2 ι2 dx ex s2 l2 => q H2 ι2 dx ex s2 (l.trans l2)⟩
open Classical in
noncomputable def yForL (own : OwnD) (g : GF) (b : SF) (yb : YFs) : List D → YFs
  | [], _, _ => none
  | x :: r, σ, H => if okOwn own H then (g x σ H).bind fun p => match b p.1 p.2 with
      | none => yb p.1 p.2
      | some q => match q.1 with
        | .nx => yForL own g b yb r q.2.1 q.2.2
        | .ct => yForL own g b yb r q.2.1 q.2.2
        | _ => none
    else none
noncomputable def yFor (it : ItF) (g : GF) (b : SF) (yb : YFs) : YFs := fun σ H => (it σ H).bind fun p => yForL p.1.2 g b yb p.1.1 σ p.2
theorem py_for {tg iter : Expr} {body : List Stmt} {f : ItF} {g : GF} {b : SF} {yb : YFs} (hp : PassesOwn (model X.prog X.w) X.A X.env X.xe) (hc : X.calm = true) (hi : PIf X tg iter f) (hg : PGf X tg g) (hb : PSsf X body b) (hy : PYf fl X C av body yb)
    (hs : ∀ x, foldedSetIterable iter X.env x = pure x := by intro _; rfl) : PYS fl X C av (.For tg iter body [] pos) (yFor f g b yb) := by
  have hbb : PSs X body (fun D σ H => rdS X.K b D σ H ∨ rdY fl X C av yb D σ H) := fun pins s σ H D I z => z.elim (hb pins s σ H D I) (hy pins s σ H D I)
  refine PSi (ps_for hp hc hi hg hbb hs) fun E σ H zz => ?_
  obtain ⟨ι, σd, Hd, i0, Hf, s, hr, e, q⟩ := zz
  obtain ⟨⟨⟨xs, own⟩, H1⟩, e1, e⟩ := Option.bind_eq_some_iff.mp e
  refine ⟨ι, σd, Hd, xs, own, H1, s, hr, e1, fun J H0 ι0 l0 h0 it => ?_⟩
  refine ⟨fun i m σ H => m = xs.length - i ∧ i ≤ xs.length ∧ ∃ ι σd Hd, Le X.K H0 ι0 H ι ∧ SRep X.K H ι σ σd ∧ HRep X.K H ι Hd ∧ yForL own g b yb (xs.drop i) σd Hd = some (i0, Hf), ⟨xs.length, by simp, Nat.zero_le _, ι0, σd, H1, Le.refl, s.mono l0, h0, by simpa using e⟩, ?_⟩
  rintro i m σ2 H2 ⟨rfl, hi, ι2, σd2, Hd2, l2, s2, h2, e2⟩
  by_cases hlt : i < xs.length
  · rw [List.drop_eq_getElem_cons hlt, yForL] at e2
    split at e2
    · rename_i ok
      obtain ⟨⟨σ3, H3⟩, e3, e2⟩ := Option.bind_eq_some_iff.mp e2
      refine .inr ⟨it.go i H2 ι2 Hd2 l2 h2 ok hlt, fun σ' H' => (xs.length - (i + 1) = xs.length - (i + 1) ∧ i + 1 ≤ xs.length ∧ ∃ ι σd Hd, Le X.K H0 ι0 H' ι ∧ SRep X.K H' ι σ' σd ∧ HRep X.K H' ι Hd ∧ yForL own g b yb (xs.drop (i + 1)) σd Hd = some (i0, Hf)), fun σ' H' p => ⟨_, by omega, p⟩, fun x H' y => ?_⟩
      obtain ⟨ι3, l3, h3, r3⟩ := it.yld i H2 ι2 Hd2 xs[i] x H' l2 h2 ok (by simp [hlt]) y
      refine ⟨ι3, σd2, Hd2, xs[i], σ3, H3, s2.mono l3, h3, r3, e3, fun σ5 H5 ι5 l5 h5 s5 => ?_⟩
      have L5 : Le X.K H0 ι0 H5 ι5 := (l2.trans l3).trans l5
      cases e4 : b σ3 H3 with
      | none =>
        dsimp only at e2
        rw [e4] at e2
        exact .inr ⟨ι5, σ3, H3, i0, Hf, s5, h5, e2, fun H6 ι6 dx ex s6 l6 => q H6 ι6 dx ex s6 ((l0.trans L5).trans l6)⟩
      | some p =>
        obtain ⟨f4, σ4, H4⟩ := p
        dsimp only at e2
        rw [e4] at e2
        refine .inl ⟨ι5, σ3, H3, f4, σ4, H4, s5, h5, e4, fun σ6 H6 ι6 l6 h6 s6 => ?_⟩
        cases f4 with
        | nx => exact ⟨rfl, hlt, ι6, σ4, H4, L5.trans l6, s6, h6, e2⟩
        | ct => exact ⟨rfl, hlt, ι6, σ4, H4, L5.trans l6, s6, h6, e2⟩
        | bk => cases e2
        | rt d => cases e2
    · cases e2
  · rw [List.drop_eq_nil_of_le (by omega), yForL] at e2
    cases e2
theorem py_raise {Cl fI : Addr} {f : Str} {k : Nat} {fd : FuncData} {ps : List Str} {x : Str} {e : Expr} {fe : EF} {np cpos : Pos} (hc : X.calm = true) (T : ExI X.K C Cl fI f) (F : FnOk X.prog X.w X.K X.mg X.base CX0 k fI fd ps (spI C f)) (hr : Room (k + 1) X.A) (hm : X.mg x = some (.ref C)) (hk : keepIn X.K (.ref C) = true) (hb : Binds X.K fd ps [])
    (hf : PAf X [e] (aCons fe aNil)) (hg : Gl X x := by rfl) (hdb : (x == ("__debug__" : Str)) = false := by decide) (he : starEach [e] X.env = (false, eval e X.env) :: starEach [] X.env := by exact star_cons rfl) :
    PYS false X C (some f) (.Raise (some (.Call (.Name x np) [e] [] cpos)) none pos) (yRaise fe) := by
  rintro pins s σ H D I ⟨ι, σd, Hd, i, Hd', ss, hh, eq, q⟩
  obtain ⟨⟨d, H1⟩, e1, e2⟩ := Option.bind_eq_some_iff.mp eq
  have z : d = .int i ∧ i.natAbs < 1000000 ∧ H1 = Hd' := by
    dsimp only at e2
    split at e2
    · rename_i j
      split at e2
      · rename_i hj; cases e2; exact ⟨rfl, hj, rfl⟩
      · cases e2
    · cases e2
  obtain ⟨rfl, hi, rfl⟩ := z
  obtain ⟨c, hc2, _⟩ := ini_in I.kIn T.xin
  have ea : aCons fe aNil σd Hd = some ([.int i], H1) := by unfold aCons; rw [e1]; rfl
  refine raise_ini (C := C) (Cl := Cl) (c := c) (I.ok.hd hc) (wpAny_mono (pe_xmake T F hr hg hm hk hb hf hdb he rfl pins s σ H (fun v H3 => ∃ H2 ι' e dx, v = .ref e ∧ Le X.K H ι H2 ι' ∧ HRep X.K H2 ι' H1 ∧ H2 e = none ∧ H2 dx = none ∧ dx ≠ e ∧ X.s₀.heap.get? e = none ∧ H3 = upd (upd H2 dx (.xd [(f, .int i)])) e (XE C (some dx) e)) I
    ⟨ι, σd, Hd, [.int i], H1, ss, hh, ea, fun vs H' ι' l h P => ?_⟩) (fun v s2 z => ?_) fun _ _ z => z)
  · obtain ⟨v, rfl, rv⟩ := prd1 P
    simp at rv
    exact ⟨i, by rw [rv], hi, fun e dx z1 z2 z3 z4 => ⟨H', ι', e, dx, rfl, l, h, z1, z2, z3, z4, rfl⟩⟩
  · obtain ⟨v, H3, I3, r3, H2, ι', ex, dx, rfl, l, h, z1, z2, z3, new, rfl⟩ := z
    have r3 : _ = Value.ref ex := r3
    subst r3
    obtain ⟨t, g⟩ := xe_at I3.hok upd_same
    obtain ⟨c', hc3, Y⟩ := ini_in I3.kIn T.xin
    rw [hc2] at hc3
    cases hc3
    have I4 := Inv.drop I3 (e := ex) (upd_same) new
    have eq : (fun b => if b = ex then none else upd (upd H2 dx (.xd [(f, .int i)])) ex (XE C (some dx) ex) b) = upd H2 dx (.xd [(f, .int i)]) := by
      funext b
      by_cases y : b = ex
      · rw [if_pos y, y, upd_ne (Ne.symm z3)]; exact z1.symm
      · rw [if_neg y, upd_ne y]
    rw [eq] at I4
    refine ⟨ex, some dx, t, rfl, Y, g, q _ ι' (some dx) _ _ (l.trans (Le.fresh z2 _)) (h.tup z2 _) ⟨dx, rfl, upd_same, h.fresh z2⟩ ⟨pins, σ, ex, rfl, .inl ⟨rfl, _, _, I4, g, rfl, rfl, rfl, rfl, ?_, new⟩⟩⟩
    rw [upd_ne (Ne.symm z3)]; exact z1
noncomputable def spY (K : PySem.W.Frag) (C : Addr) (av : Option Str) (n : Nat) (F : YFF) : Sp := fun vs H _ E => ∃ ι ds Hd i Hd', ds.length = n ∧ HRep K H ι Hd ∧ Paired (Rep K H ι) ds vs ∧ F ds Hd = some (i, Hd') ∧ ∀ H1 ι' dx, Le K H ι H1 ι' → HRep K H1 ι' Hd' → XdOk av i dx H1 ι' → E (.ref C) dx H1
noncomputable def yCall (n : Nat) (F : YFF) (fa : AF) : YFs := fun σ H => (fa σ H).bind fun p => if p.1.length = n then F p.1 p.2 else none
end
section
variable {P : Program} {w : World} {K : PySem.W.Frag} {mg : Str → Option Value} {base : Heap}
theorem xe_raisY {N : List Str} {qual : Str} {scope : Scope} {f : Addr} {cd : Value} {A : Around} {outer : List Env} {s s' : Shared} {H H1 : Hp} {E : XK} {C : Addr} {dx : Option Addr} {e : Value} {fl : Bool} (z : RaisY fl (cxOf (CXy P w) P w K mg base N qual scope f cd A outer s H E) C dx H1 e s') (q : E (.ref C) dx H1) :
    (cxOf (CXy P w) P w K mg base N qual scope f cd A outer s H E).xe e s' := by
  obtain ⟨pins, σ1, a, rfl, z⟩ := z
  rcases z with ⟨_, oe, vs, I, g1, g2, g3, g4, g5, g6, g7⟩ | ⟨s1, H0, I, os, bare, un, hok, fl⟩
  · exact yx_leaves I g1 g4 g5 g6 g7 (by rw [g2, g3]; exact q)
  · exact yx_passes I os bare un hok fl q
theorem fy_f {x qual : Str} {st : Stmt} {f C : Addr} {fd : FuncData} {N ps : List Str} {k : Nat} {b : YFs} {av : Option Str} (F : Fun K x qual st f fd) (S : FnScope N ps (defScope st))
    (hb : ∀ (cdv : Value) (A : Around) (outer : List Env) (s : Shared) (H : Hp) (E : XK), Room k (A.deeper (envOfC qual (defScope st) s.heap.objs.size f cdv)) →
      PYf false (cxOf (CXy P w) P w K mg base N qual (defScope st) f cdv A outer s H E) C av (defBody st) b) : FnOk P w K mg base (CXy P w) (k + 1) f fd ps (spY K C av ps.length (runY ps.length N.length b)) := by
  obtain ⟨oc, od, kV, doc, pm, an, cdv, ct, osl, rfl, lk, hcd⟩ := F.ex
  refine fn_of lk hcd S (fun vs H Q E ⟨ι, ds, Hd, i, Hd', hl, _, r, _⟩ => by rw [← Prd.len r]; exact hl) fun A outer s H vs Q E hr zz => ?_
  obtain ⟨ι, ds, Hd, i, Hd', hl, hh, r, e, q⟩ := zz
  refine ⟨_, hb cdv A outer s H E hr, ?_⟩
  unfold runY at e
  rw [if_pos hl] at e
  refine ⟨ι, _, Hd, i, Hd', ?_, hh, e, fun H1 ι' dx ex s' l h xd z => xe_raisY z (q H1 ι' dx l h xd)⟩
  refine ⟨by simp [L2.start, Prd.len r], fun i d0 h0 => ?_⟩
  unfold L2.start
  by_cases hi : i < ds.length
  · rw [List.getElem?_append_left (by simpa using hi), List.getElem?_map] at h0
    cases ed : ds[i]? with
    | none => rw [ed] at h0; cases h0
    | some d1 =>
      rw [ed] at h0
      cases h0
      obtain ⟨v, hv, rv⟩ := Prd.get r ed
      refine ⟨v, ?_, rv⟩
      rw [List.getElem?_append_left (by rw [List.length_map, ← Prd.len r]; exact hi), List.getElem?_map, hv]
      rfl
  · rw [List.getElem?_append_right (by simpa using hi), List.getElem?_replicate] at h0
    split at h0 <;> cases h0
structure FnY (P : Program) (w : World) (K : PySem.W.Frag) (mg : Str → Option Value) (base : Heap) (k : Nat) (x : Str) (ps : List Str) (xn : Str) (av : Option Str) (F : YFF) : Prop where
  ex : ∃ f fd, (∀ C, mg xn = some (.ref C) → FnOk P w K mg base (CXy P w) k f fd ps (spY K C av ps.length F)) ∧ Binds K fd ps [] ∧ PySem.W.keepIn K (.ref f) = true ∧ mg x = some (.ref f)
theorem fy_mk {x xn : Str} {st : Stmt} {N ps : List Str} {k : Nat} {b : YFs} {av : Option Str} (T : Tf K mg x st) (S : FnScope N ps (defScope st))
    (hbd : ∀ (kV doc pm : Value) (an : Option Addr) (cdv ct : Value) (us : List Value), us.length = ps.length → bindArgs (PySem.W.fnOf x x (defArgs st) (defBody st) (defScope st) .none kV doc pm an cdv ct) ⟨us, []⟩ = pure (ps.zip us))
    (hb : ∀ C, mg xn = some (.ref C) → ∀ (f : Addr) (cdv : Value) (A : Around) (outer : List Env) (s : Shared) (H : Hp) (E : XK), Room k (A.deeper (envOfC x (defScope st) s.heap.objs.size f cdv)) →
      PYf false (cxOf (CXy P w) P w K mg base N x (defScope st) f cdv A outer s H E) C av (defBody st) b) : FnY P w K mg base (k + 1) x ps xn av (runY ps.length N.length b) := by
  obtain ⟨f, fd, F, hm⟩ := T
  exact ⟨f, fd, fun C E => fy_f F S fun cdv A outer s H E1 hr => hb C E f cdv A outer s H E1 hr, F.binds hbd, F.kp, hm⟩
end
end DL
namespace DL
open PySem PySem.Spec PyProof.Rows L2 PySem.W
theorem XdOk.mono {K : Frag} {av : Option Str} {i : Int} {dx : Option Addr} {H H' : Hp} {ι ι' : List Addr} (h : XdOk av i dx H ι) (l : Le K H ι H' ι') : XdOk av i dx H' ι' := by
  cases av with
  | none => exact h
  | some f =>
    obtain ⟨d, rfl, g, n⟩ := h
    obtain ⟨g', n'⟩ := l.frame d _ g n
    exact ⟨d, rfl, g', n'⟩
structure Sx (iE : Nat) (ex : Addr) (av : Option Str) (i : Int) (dx : Option Addr) (σ : L2.St) (H : Hp) (ι : List Addr) : Prop where
  at_ : σ[iE]? = some (some (.ref ex))
  xd : XdOk av i dx H ι
noncomputable def rdEx (K : Frag) (iE : Nat) (ex : Addr) (av : Option Str) (i : Int) (dx : Option Addr) (f : EF) : TE := fun σ H Q => ∃ ι σd Hd d Hd', Sx iE ex av i dx σ H ι ∧ SRep K H ι σ σd ∧ HRep K H ι Hd ∧ f σd Hd = some (d, Hd') ∧ QE K H ι d Hd' Q
noncomputable def QSx (K : Frag) (iE : Nat) (ex : Addr) (av : Option Str) (i : Int) (dx : Option Addr) (H : Hp) (ι : List Addr) (fl : FD) (σd' : SD) (Hd' : HD) (E : Ends) : Prop := ∀ σ' H' ι', Le K H ι H' ι' → HRep K H' ι' Hd' → SRep K H' ι' σ' σd' → Sx iE ex av i dx σ' H' ι' →
  match fl with
  | .nx => E.nx σ' H'
  | .bk => E.bk σ' H'
  | .ct => E.ct σ' H'
  | .rt d => ∀ v, Rep K H' ι' d v → E.rt v H'
noncomputable def rdSx (K : Frag) (iE : Nat) (ex : Addr) (av : Option Str) (i : Int) (dx : Option Addr) (f : SF) : TS := fun E σ H => ∃ ι σd Hd fl σd' Hd', Sx iE ex av i dx σ H ι ∧ SRep K H ι σ σd ∧ HRep K H ι Hd ∧ f σd Hd = some (fl, σd', Hd') ∧ QSx K iE ex av i dx H ι fl σd' Hd' E
section
variable {X : Cx} {iE : Nat} {ex : Addr} {av : Option Str} {i : Int} {dx : Option Addr} {e : Expr} {es : List Expr} {pos : Pos} {st : Stmt} {sts : List Stmt}
noncomputable def PEx (X : Cx) (iE : Nat) (ex : Addr) (av : Option Str) (i : Int) (dx : Option Addr) (e : Expr) (f : EF) : Prop := PE X e (rdEx X.K iE ex av i dx f)
noncomputable def PSx (X : Cx) (iE : Nat) (ex : Addr) (av : Option Str) (i : Int) (dx : Option Addr) (st : Stmt) (f : SF) : Prop := PS X st (rdSx X.K iE ex av i dx f)
noncomputable def PSsx (X : Cx) (iE : Nat) (ex : Addr) (av : Option Str) (i : Int) (dx : Option Addr) (st : List Stmt) (f : SF) : Prop := PSs X st (rdSx X.K iE ex av i dx f)
theorem pssx_nil : PSsx X iE ex av i dx [] sNil := by
  refine PSsi pss_nil fun E σ H zz => ?_
  obtain ⟨ι, σd, Hd, fl, σd', Hd', sx, s, hr, e, q⟩ := zz
  cases e
  exact q σ H ι Le.refl hr s sx
theorem pssx_cons {f g : SF} (h1 : PSx X iE ex av i dx st f) (h2 : PSsx X iE ex av i dx sts g) : PSsx X iE ex av i dx (st :: sts) (sSeq f g) := by
  refine PSsi (pss_cons h1 h2) fun E σ H zz => ?_
  obtain ⟨ι, σd, Hd, fl, σd', Hd', sx, s, hr, e, q⟩ := zz
  obtain ⟨⟨f1, σ1, H1⟩, e1, e⟩ := Option.bind_eq_some_iff.mp e
  refine ⟨ι, σd, Hd, f1, σ1, H1, sx, s, hr, e1, fun σ' H' ι' l h ss sx' => ?_⟩
  cases f1 with
  | nx => exact ⟨ι', σ1, H1, fl, σd', Hd', sx', ss, h, e, fun σ2 H2 ι2 l2 h2 s2 => q σ2 H2 ι2 (l.trans l2) h2 s2⟩
  | bk => cases e; exact q σ' H' ι' l h ss sx'
  | ct => cases e; exact q σ' H' ι' l h ss sx'
  | rt d => cases e; exact q σ' H' ι' l h ss sx'
theorem psx_set {j : Nat} {x : Str} {f : EF} {pos' : Pos} (hN : X.N.Nodup) (hi : X.N[j]? = some x) (hne : j ≠ iE) (hx : Loc X.env.scope x) (he : PEx X iE ex av i dx e f) (hs : swapsWith e (some (.Name x pos')) pos.line X.env = pure false := by rfl) (hf : X.fn x = true ∨ X.env.scope.names.lookup x = some .local := by first | exact .inl rfl | exact .inr rfl) :
    PSx X iE ex av i dx (.Assign [.Name x pos'] e pos) (sSet j f) := by
  refine PSi (ps_set hN hi hx he hs hf) fun E σ H zz => ?_
  obtain ⟨ι, σd, Hd, fl, σd', Hd', sx, s, hr, e, q⟩ := zz
  obtain ⟨⟨y, H1⟩, e1, e⟩ := Option.map_eq_some_iff.mp e
  cases e
  refine ⟨ι, σd, Hd, y, H1, sx, s, hr, e1, fun v H' ι' l h r => q _ H' ι' l h ((s.mono l).set r j) ⟨?_, sx.xd.mono l⟩⟩
  rw [List.getElem?_set_ne hne]
  exact sx.at_
theorem pex_attr {C Cl fI : Addr} {oe : Obj} {f en : Str} {p : Pos} (T : ExI X.K C Cl fI f) (L : ExcL X.K C) (hc : oe.cls = .ref C) (hv : ∃ vs, oe.data = .fields vs) (hd : oe.dict = dx) (hi : X.N[iE]? = some en) (vE : Vis X.env.scope en) (hb : attributeBase (.Name en p) f X.env (eval (.Name en p) X.env) = eval (.Name en p) X.env)
    (dE : (en == ("__debug__" : Str)) = false := by decide) (dE2 : (en == ("__classdict__" : Str)) = false := by decide) : PEx (Xh X ex oe) iE ex (some f) i dx (.Attribute (.Name en p) f pos) (eC (.int i)) := by
  rintro pins s σ H Q I ⟨ι, σd, Hd, d, Hd', sx, ss, hr, e, q⟩
  cases e
  refine attr_of hb (thn (pe_var (X := Xh X ex oe) hi vE dE dE2 pins s σ H (fun v H' => v = .ref ex ∧ H' = H) I ⟨_, sx.at_, rfl, rfl⟩) fun u s1 z => ?_)
  obtain ⟨v, H', I1, rv, rfl, rfl⟩ := z
  have rv : u = .ref ex := rv
  subst rv
  have pn := I1.pin (ex, oe) (List.mem_append_left _ (List.mem_cons_self ..))
  obtain ⟨d, rfl, g, n⟩ := sx.xd
  obtain ⟨mA, n1, r1⟩ := I1.hok d _ g
  have r2 := r1 f
  rw [List.lookup_cons_self] at r2
  obtain ⟨u, hu, ru⟩ : ∃ u, mA f = some u ∧ RelV (.int i) u := by
    cases z : mA f with
    | none => rw [z] at r2; exact r2.elim
    | some u => rw [z] at r2; exact ⟨u, rfl, r2⟩
  obtain ⟨od, ho, hl⟩ := lookIn_ns n1
  obtain ⟨c, hc2, Y⟩ := ini_in I1.kIn T.xin
  obtain ⟨nm, qn, N, bs, sn, sub, ab, col, dd, k0, k1, k2, k3, k5, hC, rfl⟩ := Y.obj
  have J : InstAt s1.heap ex oe C (some od) := ⟨pn.1, hc, by obtain ⟨vs, hv⟩ := hv; unfold notCls; rw [hv], by rw [hd]; exact ho⟩
  have hh : hasDictIn X.K C = true := by unfold hasDictIn; rw [hc2]; rfl
  obtain ⟨t, rfl⟩ := ru
  exact exc_attr L I1.kIn J (findObj_own hh T.nf rfl (by rw [hl, hu])) rfl ⟨.int i, H', I1.tok _, ⟨_, rfl⟩, q _ H' ι Le.refl hr (by simp)⟩
end
noncomputable def sTryX (iE : Nat) (b : SF) (y : YFs) (su : Int → SF) : SF := fun σ H => match b σ H with
  | some r => some r
  | none => (y σ H).bind fun p => (su p.1 (σ.set iE none) p.2).bind fun r => match r.1 with
    | .nx => some (.nx, r.2.1.set iE none, r.2.2)
    | _ => none
section
variable {X : Cx} {iE : Nat} {av : Option Str}
theorem y_caught {C f : Addr} {k n : Nat} {fd : FuncData} {ps : List Str} {F : YFF} {fa : AF} {x xc nm : Str} {cV : Value} {b₀ : Stmt} {suite : List Stmt} {a : Expr} {as : List Expr} {su : Int → SF} {p cp np hp : Pos} {pins : List (Addr × Obj)} {s : Shared} {σ : L2.St} {H : Hp} {D : Ends} {Q : Value → Shared → Prop}
    (hstk : X.stack = X.env :: X.outer) (hfr : X.env.frame = some X.env.locals)
    (G : FnOk X.prog X.w X.K X.mg X.base (CXy X.prog X.w) k f fd ps (spY X.K C av n F)) (hr : Room k X.A) (hg : Gl X x) (hm : X.mg x = some (.ref f)) (hk : PySem.W.keepIn X.K (.ref f) = true) (hb : Binds X.K fd ps [])
    (ha : PAf X.nox (a :: as) fa) (hgc : Gl X xc) (hmc : X.mg xc = some cV) (hex : exmOne X.K (.ref C) cV = some true)
    (hN : X.N.Nodup) (hi : X.N[iE]? = some nm) (hloc : X.env.scope.names.lookup nm = some .local) (hkl : X.env.kindOf nm = some .local)
    (hS : ∀ (i : Int) (ex : Addr) (oe : Obj), oe.cls = .ref C → (∃ vs, oe.data = .fields vs) → PSsx (Xh X ex oe) iE ex av i oe.dict (b₀ :: suite) (su i))
    (hdb : (x == ("__debug__" : Str)) = false) (hdc : (xc == ("__debug__" : Str)) = false) (he : starEach (a :: as) X.env = (false, eval a X.env) :: starEach as X.env) (hpl : (backTo cp (starEach as X.env)).any (·.1) = false)
    (I : Inv X pins σ H s) (z : ∃ ι σd Hd i H2 fl σ2 H3, SRep X.K H ι σ σd ∧ HRep X.K H ι Hd ∧ yCall n F fa σd Hd = some (i, H2) ∧ su i (σd.set iE none) H2 = some (fl, σ2, H3) ∧ fl = .nx ∧ QS X.K H ι .nx (σ2.set iE none) H3 D) :
    wpAny (model X.prog X.w) X.A (eval (.Call (.Name x p) (a :: as) [] cp) X.env) Q (fun e s1 => wpAny (model X.prog X.w) X.A (noteFrame e X.env) (fun _ s2 => wpAny (model X.prog X.w) X.A (setFlight e none) (fun _ s3 => wpAny (model X.prog X.w) X.A (handleBy e X.env [.ExceptHandler (some (.Name xc np)) (some nm) (b₀ :: suite) hp]) (SP X pins D) X.xe s3) X.xe s2) X.xe s1) s := by
  obtain ⟨ι, σd, Hd, i, H2, fl, σ2, H3, ss, hh, e1, e4, rfl, q⟩ := z
  obtain ⟨⟨ds, H1⟩, e1, e⟩ := Option.bind_eq_some_iff.mp e1
  have hx : ds.length = n ∧ F ds H1 = some (i, H2) := by
    dsimp only at e
    split at e
    · rename_i z; exact ⟨z, e⟩
    · cases e
  obtain ⟨e2, e3⟩ := hx
  refine wpAny_Call_Name_kw (ld_glob I hg hm ?_ hdb)
  refine PySem.W.callWith_K (h₀ := X.base) I.ok.mod.kin hk (wpAny_mono (ha cp pins s σ H (fun vs H' => ∃ ι', Le X.K H ι H' ι' ∧ HRep X.K H' ι' H1 ∧ Paired (Rep X.K H' ι') ds vs) (I.wish _) ⟨ι, σd, Hd, ds, H1, ss, hh, e1, fun vs H' ι' l h P => ⟨ι', l, h, P⟩⟩) (fun us s1 z => ?_) fun _ _ z => z.elim) he hpl
  obtain ⟨vs, H1v, I1, r1, ι1, l1, h1, P1⟩ := z
  have I1 : Inv X pins σ H1v s1 := I1.unwish
  refine ⟨I1.kIn, ?_⟩
  have sp : spY X.K C av n F vs H1v (fun _ _ => False) fun Cv dx H' => Cv = .ref C ∧ ∃ ι', Le X.K H ι H' ι' ∧ HRep X.K H' ι' H2 ∧ XdOk av i dx H' ι' := ⟨ι1, ds, H1, i, H2, e2, h1, P1, e3, fun H' ι' dx l h z => ⟨rfl, ι', l1.trans l, h, z⟩⟩
  have hl : us.length = ps.length := by rw [← r1.length]; exact G.len _ _ _ _ sp
  have hb1 := hb s1 us I1.kIn (by rw [List.append_nil]; exact hl)
  rw [List.append_nil] at hb1
  refine wpAny_call (codeAny_mono (G.run X.A X.stack s1 H1v ⟨us, []⟩ us vs _ _ hr I1.env0 hb1 r1 sp) fun r s' hq => ?_)
  cases r with
  | ok fl' =>
    cases fl' with
    | ret u => obtain ⟨v, H', _, _, _, _, _, z⟩ := hq; exact z.elim
    | next => exact False.elim hq
    | brk => exact False.elim hq
    | cont => exact False.elim hq
  | error e =>
    obtain ⟨ex, Cv, dx, H2v, rfl, ⟨rfl, ι2, l2, h2, xd⟩, os, bare, un, hok, fl⟩ := hq
    obtain ⟨B, fly, bo, bt⟩ := fl.fly
    rw [hstk] at fly
    have new : s1.heap.get? ex = none := fl.new
    have frA : X.A.frames = some (X.env :: X.outer) := by rw [← hstk]; exact I1.ok.frames
    refine d_note frA hfr fly fun h4 held4 up4 => ?_
    refine d_flight (s := { s' with heap := h4 }) held4 fun h5 fly5 up5 => ?_
    have ff : s'.heap.FunFrames B X.stack := by rw [hstk]; exact fly.ff
    obtain ⟨un5, ok5⟩ := fly_un un hok bo bt fly5.st (up4.trans up5) ff
    have I5 : Inv X pins σ H2v { s' with heap := h5 } := I1.call' (s' := { s' with heap := h5 }) (ch := []) os un5 ok5 bare (fun b z => absurd z (by simp))
    have exH : H2v ex = none := by
      cases z : H2v ex with
      | none => rfl
      | some ho =>
        obtain ⟨o, _, g⟩ := bt ex ho z
        rw [fly.no] at g; cases g
    have ne : ex ≠ X.env.locals := fun z => by
      obtain ⟨m, ⟨o, _, _, g, _⟩, _⟩ := I1.loc
      rw [← z, new] at g; cases g
    have nf : ex ∉ X.fs := fun z => by
      obtain ⟨_, o, g, _⟩ := I1.funs.mem z
      rw [new] at g; cases g
    obtain ⟨ob, wb, gob, cob, dob, _⟩ := fly5.first
    have I5m : Inv (Xh X ex ob) pins σ H2v { s' with heap := h5 } := Inv.marked I5 gob exH ne nf fun v z => by rw [dob] at z; cases z
    refine wpAny_handleBy_cons (codeAny_handlers_test (ld_glob (X := Xh X ex ob) I5m hgc hmc ?_ hdc)) (by intro z; cases z)
    have LT : Looks (model X.prog X.w) h5 (typeOf (.ref ex)) (.ref C) := by rw [← cob]; exact (Looks.ld gob).andThen .now
    refine (exm_one (M := model X.prog X.w) I5.kIn LT hex).here ?_
    refine codeAny_handlers_suite_as ?_
    refine d_flight (s := { s' with heap := h5 }) fly5 fun h6 fly6 up6 => ?_
    obtain ⟨un6, ok6⟩ := fly_un un hok bo bt fly6.st ((up4.trans up5).trans up6) ff
    have I6 : Inv X pins σ H2v { s' with heap := h6 } := I1.call' (s' := { s' with heap := h6 }) (ch := []) os un6 ok6 bare (fun b z => absurd z (by simp))
    obtain ⟨oe, ws, goe, coe, doe, eoe⟩ := fly6.first
    have I6m : Inv (Xh X ex oe) pins σ H2v { s' with heap := h6 } := Inv.marked I6 goe exH ne nf fun v z => by rw [doe] at z; cases z
    refine store_ok (X := Xh X ex oe) I6m hN hi (.inl hloc) (v := .ref ex) rfl (fun s7 I7 => ?_) (.inr hloc)
    have li : iE < σ.length := by rw [I6.len]; exact (List.getElem?_eq_some_iff.mp hi).1
    have sr : SRep X.K H2v ι2 (σ.set iE (some (.ref ex))) (σd.set iE none) := by
      have s2 := ss.mono l2
      refine ⟨by simp [s2.len], fun j d hd => ?_⟩
      by_cases hj : j = iE
      · subst hj
        rw [List.getElem?_set] at hd
        split at hd
        · split at hd <;> cases hd
        · rename_i z; exact absurd rfl z
      · rw [List.getElem?_set_ne (Ne.symm hj)] at hd ⊢
        exact s2.var j d hd
    have st := hS i ex oe coe ⟨ws, doe⟩ pins s7 (σ.set iE (some (.ref ex))) H2v { nx := fun σ8 H8 => D.nx (σ8.set iE none) H8, rt := fun _ _ => False } I7 ⟨ι2, _, H2, .nx, σ2, H3, ⟨List.getElem?_set_self li, by rw [eoe]; exact xd⟩, sr, h2, e4, fun σ8 H8 ι8 l8 h8 s8 sx8 => ?_⟩
    · refine wpAny_mono st (fun f s8 z => ?_) fun _ _ z => z.elim
      cases f with
      | next =>
        obtain ⟨σ8, H8, I8, z⟩ := z
        exact wp_goes (Inv.unmark I1.ok I8) hN hi hkl fun s9 I9 => ⟨_, _, I9, z⟩
      | ret u => obtain ⟨v, σ8, H8, I8, r, z⟩ := z; exact z.elim
      | brk => obtain ⟨σ8, H8, I8, z⟩ := z; exact z.elim
      | cont => obtain ⟨σ8, H8, I8, z⟩ := z; exact z.elim
    · refine q (σ8.set iE none) H8 ι8 (l2.trans l8) h8 ⟨by simp [s8.len], fun j d hd => ?_⟩
      by_cases hj : j = iE
      · subst hj
        rw [List.getElem?_set] at hd
        split at hd
        · split at hd <;> cases hd
        · rename_i z; exact absurd rfl z
      · rw [List.getElem?_set_ne (Ne.symm hj)] at hd ⊢
        exact s8.var j d hd
end
end DL
namespace DL
open PySem PySem.Spec PyProof.Rows L2 PySem.W
section
variable {X : Cx} {iE : Nat} {av : Option Str} {C : Addr} {k : Nat} {ps : List Str} {F : YFF} {fa : AF} {x xn xc nm : Str} {cV : Value} {b₀ : Stmt} {suite : List Stmt} {a : Expr} {as : List Expr} {b : SF} {su : Int → SF} {p cp ep np hp pos : Pos}
theorem try_ok {body : List Stmt} {pins : List (Addr × Obj)} {s : Shared} {σ : L2.St} {H : Hp} {D : Ends} {y : YFs} (hb0 : PSsf X.nox body b) (I : Inv X pins σ H s) (z : rdS X.K (sTryX iE b y su) D σ H)
    (q : (∃ ι σd Hd i H2 fl σ2 H3, SRep X.K H ι σ σd ∧ HRep X.K H ι Hd ∧ y σd Hd = some (i, H2) ∧ su i (σd.set iE none) H2 = some (fl, σ2, H3) ∧ fl = .nx ∧ QS X.K H ι .nx (σ2.set iE none) H3 D) → wpAny (model X.prog X.w) X.A (exec (.Try body [.ExceptHandler (some (.Name xc np)) (some nm) (b₀ :: suite) hp] [] [] pos) X.env) (SP X pins D) X.xe s) :
    wpAny (model X.prog X.w) X.A (exec (.Try body [.ExceptHandler (some (.Name xc np)) (some nm) (b₀ :: suite) hp] [] [] pos) X.env) (SP X pins D) X.xe s := by
  obtain ⟨ι, σd, Hd, fl, σd', Hd', ss, hr, e, qq⟩ := z
  unfold sTryX at e
  split at e
  · rename_i r e1
    cases e
    refine wpAny_Try_except (wpAny_mono (hb0 pins s σ H D (I.wish _) ⟨ι, σd, Hd, _, _, _, ss, hr, e1, qq⟩) (fun f s1 z => ?_) fun _ _ z => z.elim)
    have z : SP X pins D f s1 := z.unwish
    cases f with
    | next => exact wpAny_execs_nil z
    | brk => exact z
    | cont => exact z
    | ret u => exact z
  · obtain ⟨⟨i, H2⟩, e1, e⟩ := Option.bind_eq_some_iff.mp e
    obtain ⟨⟨fl2, σ2, H3⟩, e2, e⟩ := Option.bind_eq_some_iff.mp e
    refine q ⟨ι, σd, Hd, i, H2, fl2, σ2, H3, ss, hr, e1, e2, ?_⟩
    cases fl2 with
    | nx => cases e; exact ⟨rfl, qq⟩
    | bk => cases e
    | ct => cases e
    | rt d => cases e
theorem psf_tryE (hb0 : PSsf X.nox [.Expr (.Call (.Name x p) (a :: as) [] cp) ep] b) (G : FnY X.prog X.w X.K X.mg X.base k x ps xn av F) (hE : X.mg xn = some (.ref C)) (hr : Room k X.A) (ha : PAf X.nox (a :: as) fa) (hmc : X.mg xc = some cV) (hex : exmOne X.K (.ref C) cV = some true)
    (hN : X.N.Nodup) (hi : X.N[iE]? = some nm) (hloc : X.env.scope.names.lookup nm = some .local) (hS : ∀ (i : Int) (ex : Addr) (oe : Obj), oe.cls = .ref C → (∃ vs, oe.data = .fields vs) → PSsx (Xh X ex oe) iE ex av i oe.dict (b₀ :: suite) (su i))
    (hstk : X.stack = X.env :: X.outer := by rfl) (hfr : X.env.frame = some X.env.locals := by rfl) (hg : Gl X x := by rfl) (hgc : Gl X xc := by rfl) (hdb : (x == ("__debug__" : Str)) = false := by decide) (hdc : (xc == ("__debug__" : Str)) = false := by decide)
    (he : starEach (a :: as) X.env = (false, eval a X.env) :: starEach as X.env := by exact star_cons rfl) (hpl : (backTo cp (starEach as X.env)).any (·.1) = false := by exact star_any rfl) (hs : swapsWith (.Call (.Name x p) (a :: as) [] cp) none ep.line X.env = pure false := by rfl) :
    PSf X (.Try [.Expr (.Call (.Name x p) (a :: as) [] cp) ep] [.ExceptHandler (some (.Name xc np)) (some nm) (b₀ :: suite) hp] [] [] pos) (sTryX iE b (yCall ps.length F fa) su) := by
  intro pins s σ H D I z
  obtain ⟨f, fd, G1, hb, hk, hm⟩ := G.ex
  refine try_ok hb0 I z fun z => ?_
  exact wpAny_Try_except (wpAny_execs_cons (wpAny_Expr_any (y_caught hstk hfr (G1 C hE) hr hg hm hk hb ha hgc hmc hex hN hi hloc hloc hS hdb hdc he hpl I z) I.quiet hs))
end
end DL
namespace DL
open PySem PySem.Spec PyProof.Rows L2 PySem.W
section
variable {X : Cx}
theorem PI_nox {tg iter : Expr} {t : TI} (h : PI X.nox tg iter t) : PI X tg iter t := fun pins s σ H R I q =>
  wpAny_mono (h pins s σ H R (I.wish _) q) (fun v s1 z => wpAny_mono z (fun itv s2 ⟨it, fp, tn, J, H', e, I', T, st, f, r⟩ => ⟨it, fp, tn, J, H', e, I'.unwish, T, st, f, r⟩) fun _ _ y => False.elim y) fun _ _ y => False.elim y
theorem PG_nox {tg : Expr} {t : TG} (h : PG X.nox tg t) : PG X tg t := fun pins s σ H v u Q I r q =>
  wpAny_mono (h pins s σ H v u Q (I.wish _) r q) (fun _ s1 ⟨σ', H', I', z⟩ => ⟨σ', H', I'.unwish, z⟩) fun _ _ y => False.elim y
variable {fl : Bool} {C : Addr} {av : Option Str} {st : Stmt} {sts : List Stmt} {c : Expr} {pos : Pos}
theorem pyn_cons {f : SF} {b : YFs} (h1 : PSf X.nox st f) (h2 : PYf fl X C av sts b) : PYf fl X C av (st :: sts) (ySeq f b) := py_cons (PS_nox h1) h2
theorem pyn_ei {f : SF} {a b : YFs} (h1 : PSf X.nox st f) (h0 : PYS fl X C av st a) (h2 : PYf fl X C av sts b) : PYf fl X C av (st :: sts) (yEi f a b) := py_ei (PS_nox h1) h0 h2
theorem pyn_if {t : TF} {as bs : List Stmt} {a b : YFs} (hc : PTf X.nox c t) (ha : PYf fl X C av as a) (hb : PYf fl X C av bs b) : PYS fl X C av (.If c as bs pos) (yIf t a b) := py_if (PT.nox hc) ha hb
theorem pyn_for {tg iter : Expr} {body : List Stmt} {f : ItF} {g : GF} {b : SF} {yb : YFs} (hp : PassesOwn (model X.prog X.w) X.A X.env X.xe) (hc : X.calm = true) (hi : PIf X.nox tg iter f) (hg : PGf X.nox tg g) (hb : PSsf X.nox body b) (hy : PYf fl X C av body yb)
    (hs : ∀ x, foldedSetIterable iter X.env x = pure x := by intro _; rfl) : PYS fl X C av (.For tg iter body [] pos) (yFor f g b yb) := py_for hp hc (PI_nox hi) (PG_nox hg) (PSs.nox hb) hy hs
end
theorem po_cx {P : Program} {w : World} {K : PySem.W.Frag} {mg : Str → Option Value} {base : Heap} {N : List Str} {qual : Str} {scope : Scope} {f : Addr} {cd : Value} {A : Around} {outer : List Env} {s : Shared} {H : Hp} {E : XK} {CX : CXT} :
    PassesOwn (model P w) (cxOf CX P w K mg base N qual scope f cd A outer s H E).A (cxOf CX P w K mg base N qual scope f cd A outer s H E).env (cxOf CX P w K mg base N qual scope f cd A outer s H E).xe := PassesOwn.leaving
noncomputable def clsBody (s : Stmt) : List Stmt := match s with
  | .ClassDef _ _ _ body _ _ _ _ _ _ _ => body
  | _ => []
structure YCl (K : Frag) (mg : Str → Option Value) (xn f qual : Str) (st : Stmt) (C Cl fI : Addr) : Prop where
  bound : mg xn = some (.ref C)
  kp : keepIn K (.ref C) = true
  ini : ExI K C Cl fI f
  base : mg "ClaimError" = some (.ref Cl)
  fn : ∃ fd, Fun K "__init__" qual st fI fd
  look : ExcL K C
structure YRs (P : Program) (w : World) (K : Frag) (mg : Str → Option Value) (base : Heap) (xn f : Str) (k : Nat) : Prop where
  ex : ∃ C Cl fI fd ps, mg xn = some (.ref C) ∧ keepIn K (.ref C) = true ∧ ExI K C Cl fI f ∧ FnOk P w K mg base CX0 k fI fd ps (spI C f) ∧ Binds K fd ps [] ∧ ExcL K C
section
variable {X : Cx} {C : Addr} {f xn : Str} {k : Nat}
theorem YRs.at {P : Program} {w : World} {K : Frag} {mg : Str → Option Value} {base : Heap} (R : YRs P w K mg base xn f k) (hE : mg xn = some (.ref C)) : ∃ Cl fI fd ps, keepIn K (.ref C) = true ∧ ExI K C Cl fI f ∧ FnOk P w K mg base CX0 k fI fd ps (spI C f) ∧ Binds K fd ps [] ∧ ExcL K C := by
  obtain ⟨C', Cl, fI, fd, ps, h1, h2, h3, h4, h5, h6⟩ := R.ex
  rw [hE] at h1
  cases h1
  exact ⟨Cl, fI, fd, ps, h2, h3, h4, h5, h6⟩
theorem pyn_raise {e : Expr} {fe : EF} {np cpos pos : Pos} (R : YRs X.prog X.w X.K X.mg X.base xn f k) (hE : X.mg xn = some (.ref C)) (hc : X.calm = true) (hr : Room (k + 1) X.A) (hf : PAf X.nox [e] (aCons fe aNil)) (hg : Gl X xn := by rfl) (hdb : (xn == ("__debug__" : Str)) = false := by decide) (he : starEach [e] X.env = (false, eval e X.env) :: starEach [] X.env := by exact star_cons rfl) :
    PYS false X C (some f) (.Raise (some (.Call (.Name xn np) [e] [] cpos)) none pos) (yRaise fe) := by
  obtain ⟨Cl, fI, fd, ps, h2, h3, h4, h5, h6⟩ := R.at hE
  exact py_raise hc h3 h4 hr hE h2 h5 (PA_nox hf) hg hdb he
theorem pexn_attr {iE : Nat} {ex : Addr} {i : Int} {dx : Option Addr} {oe : Obj} {en : Str} {p pos : Pos} (R : YRs X.prog X.w X.K X.mg X.base xn f k) (hE : X.mg xn = some (.ref C)) (hc : oe.cls = .ref C) (hv : ∃ vs, oe.data = .fields vs) (hd : oe.dict = dx) (hi : X.N[iE]? = some en) (vE : Vis X.env.scope en) (hb : attributeBase (.Name en p) f X.env (eval (.Name en p) X.env) = eval (.Name en p) X.env := by rfl)
    (dE : (en == ("__debug__" : Str)) = false := by decide) (dE2 : (en == ("__classdict__" : Str)) = false := by decide) : PEx (Xh X ex oe) iE ex (some f) i dx (.Attribute (.Name en p) f pos) (eC (.int i)) := by
  obtain ⟨Cl, fI, fd, ps, h2, h3, h4, h5, h6⟩ := R.at hE
  exact pex_attr h3 h6 hc hv hd hi vE hb dE dE2
theorem ycl_mk {K : Frag} {hp : Heap} {mg : Str → Option Value} {xn f qual : Str} {st : Stmt} {C Cl fI : Addr} {oc : Value} {od an : Option Addr} {osl : Array (Option Value)} {kV doc pm cdv ct : Value} {cd : ClassData} (X : K.In hp) (G : hp.Ns mainGlobals mg) (a : nsIn K mainGlobals xn = some (some (.ref C))) (b : nsIn K mainGlobals "ClaimError" = some (some (.ref Cl))) (c : keepIn K (.ref C) = true)
    (d : iniIn K C Cl = true) (e : findIn K (.ref C) "__init__" = some (some (.ref fI))) (f1 : typeIn K (.ref fI) = some (.type "function")) (g : findIn K (.ref C) "__setattr__" = some (some (.builtin "object.__setattr__"))) (h : findIn K (.ref C) f = some none)
    (i : specialIn K (.ref Cl) "__getattribute__" = some (some (.builtin "type.__getattribute__"))) (j : readsIn K Cl (.type "type") = true) (l : findCls K (.ref Cl) (.type "type") "__init__" = some (.val (.builtin "ValueError.__init__")))
    (m : K.lookup fI = some ⟨oc, od, .func (PySem.W.fnOf "__init__" qual (defArgs st) (defBody st) (defScope st) .none kV doc pm an cdv ct), osl⟩) (n : PySem.W.codeIn K cdv qual = true) (o : PySem.W.keepIn K (.ref fI) = true)
    (p : findIn K (.ref C) "__getattribute__" = some (some (.builtin "BaseException.__getattribute__"))) (q : findIn K (.ref C) "__getattr__" = some none) (r : findIn K (.ref C) "__class__" = some (some (.builtin "object.__class__"))) (s : specialIn K (.builtin "object.__class__") "__get__" = some (some (.builtin "getset_descriptor.__get__")))
    (t : takesIn K (.builtin "object.__class__") = some true) (u : mroIn K C (.type "object") = some true) (v : subIn K (.ref C) (.type "BaseException") = some true) (w : clsIn K C = some cd) : YCl K mg xn f qual st C Cl fI :=
  ⟨PySem.W.mg_of X G a, c, ⟨d, e, f1, g, h, i, j, l⟩, PySem.W.mg_of X G b, ⟨_, fun_mk m n o⟩, ⟨p, q, r, s, t, u, v, by rw [w]; rfl⟩⟩
end
end DL
namespace DL
open PySem PySem.Spec PyProof.Rows L2
section
variable {prog : Program} {w : World} {A : Around} {E : Value → Shared → Prop} {s : Shared}
open AutoSeq1 (wpAny_loadPart') in
theorem enum_newLK (t : Addr) (its : Array Value) (n : Nat) (dct : Option Addr) (sl : Array (Option Value)) (tk0 : Tok) :
    Meets (Builtin.«enumerate.__new__» ⟨[.type "enumerate", .ref t], [("start", .int 1 tk0)]⟩) (fun _ R s => s.heap.get? t = some { cls := .type "list", dict := dct, data := .seq its n, slots := sl } ∧
      R (.ok (.ret (.ref (s.heap.push { cls := .type "list_iterator", data := .fields #[.ref t, .int 0 0] }).objs.size)))
        { s with heap := (s.heap.push { cls := .type "list_iterator", data := .fields #[.ref t, .int 0 0] }).push { cls := .type "enumerate", data := .fields #[.none, .bool false, .ref s.heap.objs.size, rawInt 1, .none, .none] } }) :=
  .of_wp fun prog w A R s h => by
    obtain ⟨hp, g, d, tk, os⟩ := s; obtain ⟨hl, h⟩ := h
    have hsub := sub_enumerate
    have hL : Heap.IsList (Shared.heap ⟨hp, g, d, tk, os⟩) t its := ⟨_, hl, rfl, n, rfl⟩
    wp_walk using wpAny_loadPart' hl
    refine wpAny_stack_any fun st => wpAny_pure ?_
    split
    · rename_i k _ _ _ _ _
      cases (k == Value.type "enumerate") <;> (wp_walk using wpAny_loadPart' hl, wpAny_pyIter_list hL; exact ⟨_, rfl, h⟩)
    · wp_walk using wpAny_loadPart' hl, wpAny_pyIter_list hL
      exact ⟨_, rfl, h⟩
theorem call_enumLK {t : Addr} {its : Array Value} {tk : Tok} {Q : Value → Shared → Prop} (hL : s.heap.IsList t its)
    (h : ∀ h', IsEnum h' (s.heap.objs.size + 1) s.heap.objs.size 1 .none → h'.IsListIter s.heap.objs.size t 0 → h'.objs.size = s.heap.objs.size + 2 →
      (∀ b o, s.heap.get? b = some o → h'.get? b = some o) → Q (.ref (s.heap.objs.size + 1)) { s with heap := h' }) :
    wpAny (model prog w) A (call (.type "enumerate") [.ref t] [("start", .int 1 tk)]) Q E s := by
  obtain ⟨⟨k, dct, dt, sl⟩, hl, hc, n, hd⟩ := hL
  replace hc : k = .type "list" := hc
  replace hd : dt = .seq its n := hd
  subst hc hd
  refine type_kw F.called_enumerate (by decide) (tc_kw _ _) (nc_kw _ _) F.entry_enumerate_new (enum_newLK t its n dct sl tk) (fun obj => init_args _ _ _) (fun obj => init_kw F.called_enumerate.init.lookup F.called_enumerate.made (by decide)) ⟨hl, ?_⟩
  have hz : (s.heap.push { cls := .type "list_iterator", data := .fields #[.ref t, .int 0 0] }).objs.size = s.heap.objs.size + 1 := Heap.size_push ..
  show _ ∧ _
  rw [hz]
  have he : IsEnum ((s.heap.push { cls := .type "list_iterator", data := .fields #[.ref t, .int 0 0] }).push { cls := .type "enumerate", data := .fields #[.none, .bool false, .ref s.heap.objs.size, rawInt 1, .none, .none] }) (s.heap.objs.size + 1) s.heap.objs.size 1 .none := by
    have q := Heap.get?_push_size (s.heap.push { cls := .type "list_iterator", data := .fields #[.ref t, .int 0 0] }) (o := { cls := .type "enumerate", data := .fields #[.none, .bool false, .ref s.heap.objs.size, rawInt 1, .none, .none] }) rfl
    rw [hz] at q; exact q
  exact ⟨⟨_, he, rfl⟩, h _ he ⟨_, Heap.get?_push_of_some _ (Heap.get?_push_size _ rfl), rfl, rfl⟩ (by rw [Heap.size_push, hz]) fun b o x => Heap.get?_push_of_some _ (Heap.get?_push_of_some _ x)⟩
end
section
variable {X : Cx}
noncomputable def iEnumL1 (f : AF) : ItF := fun σ H => (f σ H).bind fun p => match p.1 with
  | [.ref n] => match p.2[n]? with
    | some (.lst xs) => some ((enumL 1 xs, [(n, .lst xs)]), p.2)
    | _ => none
  | _ => none
theorem pif_enumL1 {es : List Expr} {k : Nat} {tp p pos kp cp : Pos} {cj : Nat} {a : Expr} {f : AF} (hg : Gl X "enumerate") (hm : X.mg "enumerate" = none) (ha : PAf X [a] f) (hs : starEach [a] X.env = [(false, eval a X.env)] := by rfl) :
    PIf X (.Tuple es k tp) (.Call (.Name "enumerate" p) [a] [⟨some "start", .Constant (.int 1) cj cp, kp⟩] pos) (iEnumL1 f) := by
  rintro pins s σ H R I ⟨ι, σd, Hd, xs, own, Hd', sr, hr, e, q⟩
  obtain ⟨⟨ds, H1⟩, e1, e⟩ := Option.bind_eq_some_iff.mp e
  dsimp only at e
  split at e
  · rename_i n
    split at e
    · rename_i ys eo
      cases e
      show wpAny _ _ (do callWith pos (← eval (.Name "enumerate" p) X.env) [] (backTo pos (starEach [a] X.env)) (backToKw pos (keywordEach [⟨some "start", .Constant (.int 1) cj cp, kp⟩] X.env))) _ _ _
      let P1 : List V → Hp → Prop := fun vs H' => ∃ ad ws, vs = [.ref ad] ∧ H' ad = some (.lst ws) ∧ ∀ (J : It) (H2 : Hp), H2 = H' → J = IteL 1 ad → R J H2
      refine wpAny_bind (ld_blt I hg hm boot_enumerate (callWith_typeK (by rw [hs]; rfl) rfl ?_))
      have hA := ha pos pins s σ H P1 I ⟨ι, σd, Hd, _, _, sr, hr, e1, fun vs H' ι' l h P => by
        obtain ⟨v, rfl, r⟩ := prd1 P
        obtain ⟨ad, rfl, had⟩ := rep_ref.mp r
        obtain ⟨ws, hS, P2⟩ := h.obj n ad _ had eo
        refine ⟨ad, ws, rfl, hS, fun J H2 e2 e3 => ?_⟩
        subst e2 e3
        exact q _ _ ι' l h (itr_enumL had)⟩
      rw [hs] at hA ⊢
      refine evalArgs_kwB rfl (thn hA fun us s1 zz => ?_)
      obtain ⟨vs, H2, I2, r2, ad, ws, e2, hS, q2⟩ := zz
      subst e2
      obtain ⟨u, rfl, ru⟩ := vals1 r2
      cases ru
      refine kws_cons (thn (pe_int pins s1 σ H2 (fun x H' => x = .int 1 ∧ H' = H2) I2 ⟨rfl, rfl⟩) fun v s2 ⟨x, H3, I3, rx, ex, eH⟩ => kws_nil ?_)
      subst ex eH
      obtain ⟨t, rfl⟩ := rx
      obtain ⟨its, rv, p, hz⟩ := I3.list (SqL.of hS)
      show wpAny _ _ (call (.type "enumerate") [.ref ad] [("start", .int 1 t)]) _ _ _
      refine call_enumLK p.isList fun h' he hj z' kk => ?_
      have I4 : Inv X pins σ H3 { s2 with heap := h' } := I3.kept (t' := s2.toks) kk
      refine wpAny_pyIter_enum (s := { s2 with heap := h' }) he ?_
      have ne : s2.heap.objs.size + 1 ≠ s2.heap.objs.size := Nat.succ_ne_self _
      refine ⟨s2.heap.objs.size + 1, [s2.heap.objs.size + 1, s2.heap.objs.size], _, IteL 1 ad, H3, rfl, I4, turn_enumL ad _ _ 1 ne, ⟨.none, by simpa using he, hj⟩, fun b hb => ?_, q2 _ _ rfl rfl⟩
      have : s2.heap.objs.size ≤ b := by
        rcases List.mem_cons.mp hb with rfl | hb
        · exact Nat.le_succ _
        · have : b = s2.heap.objs.size := by simpa using hb
          rw [this]; exact Nat.le_refl _
      exact I3.fpOk (b := b) (H' := H3) this (I3.hok.fresh this)
    · cases e
  · cases e
end
end DL
namespace DL
open PySem PySem.Spec PyProof.Rows L2
open AutoSeq1 (wpAny_loadPart')
section
variable {prog : Program} {w : World} {A : Around} {E : Value → Shared → Prop} {s : Shared} {r : Addr} {a b c : Int} {t u v : Tok} {n : Nat}
theorem collect_rng {Q : List Value → Shared → Prop} (hh : A.handled = none) (hr : IsRange s.heap r a b c t u v) (hs : Builtin.Range.small a b c = true) (hn : Builtin.Range.rangeSize a b c = n) (hl : n ≤ 2 ^ 24)
    (q : ∀ h' tk acc, (∀ b o, s.heap.get? b = some o → h'.get? b = some o) → ItemsOf (fun i v => ∃ t, v = .int (a + i * c) t) acc n → Q acc.toList { s with heap := h', toks := tk }) : wpAny (model prog w) A (collect (.ref r)) Q E s := by
  unfold collect
  refine wpAny_bind (wpAny_runValue (codeAny_builtin F.entry_proto_collect ?_))
  rw [Around.under_plainId F.plain_proto_collect _]
  show wpAny _ A.in1 (newList [] >>= fun l => again (.builtin "list.__iadd__" ⟨[l, .ref r], []⟩)) _ _ s
  refine wpAny_bind (wpAny_newObj_type (wpAny_pure ⟨plainId_quiet F.plain_list_iadd _, codeAny_builtin F.entry_list_iadd ?_⟩))
  rw [Around.under_plainId F.plain_list_iadd _]
  show wpAny _ A.in1 (Builtin.List.listExtendWith (.ref s.heap.objs.size) (.ref r) (.ref s.heap.objs.size)) _ _ _
  have hS : (s.heap.push { cls := .type "list", data := .seq ([] : List Value).toArray }).get? s.heap.objs.size = some { cls := .type "list", data := .seq #[] 0 } := Heap.get?_push_size _ rfl
  refine wpAny_mono (wpAny_extend_range (A := A) (R := fun r s' => match r with
      | .ok (.ret v) => wpAny (model prog w) A (match v with
        | Value.ref a => do
          match (← load a).data with
            | Data.seq xs _ => pure xs.toList
            | _ => unsupported "internal:collect"
        | _ => unsupported "internal:collect") Q E s'
      | .ok _ => False
      | .error e => E e s') (s := { s with heap := s.heap.push { cls := .type "list", data := .seq ([] : List Value).toArray } }) hh (Heap.get?_push_of_some _ hr) hs hn hl s.heap.objs.size (.ref s.heap.objs.size) 0 hS fun h' tk acc' c' k hS' hacc => ?_) (fun fin s' h => by cases fin <;> exact h) fun e s' h => h
  show wpAny _ A (load s.heap.objs.size >>= _) _ _ _
  refine wpAny_bind (wpAny_load hS' (wpAny_pure ?_))
  exact q h' tk acc' (fun b o e => k b o (Nat.ne_of_lt (Heap.lt_size e)) (Heap.get?_push_of_some _ e)) hacc
theorem call_tuple_rng {Q : Value → Shared → Prop} (hh : A.handled = none) (hr : IsRange s.heap r a b c t u v) (hs : Builtin.Range.small a b c = true) (hn : Builtin.Range.rangeSize a b c = n) (hl : n ≤ 2 ^ 24)
    (q : ∀ (h' : Heap) (tk : Nat) (acc : Array Value), (∀ b o, s.heap.get? b = some o → h'.get? b = some o) → ItemsOf (fun i v => ∃ t, v = .int (a + i * c) t) acc n → Q (.ref h'.objs.size) { s with heap := h'.push { cls := .type "tuple", data := .seq acc }, toks := tk }) : wpAny (model prog w) A (call (.type "tuple") [.ref r]) Q E s := by
  refine callType_codes (Q₁ := fun obj s₁ => s₁.TypeIs obj "tuple" ∧ Q obj s₁) F.called_tuple (F.typeCall_tuple_1 _) F.entry_object_init ?_ fun obj s₁ h₁ => ?_
  · refine codeAny_of_tree ?_
    show wpAny _ A.in1.in1 (do checkBuiltinCall "tuple.__new__" ⟨[.type "tuple", .ref r], []⟩; again (.builtin "tuple.__new__" ⟨[.type "tuple", .ref r], []⟩)) _ _ s
    have pl : plainId "tuple.__new__" = true := by decide +kernel
    refine wpAny_bind (wpAny_of_eq (F.newCall_tuple_1 _) (wpAny_pure ⟨plainId_quiet pl _, codeAny_builtin F.entry_tuple_new ?_⟩))
    rw [Around.under_plainId pl _]
    have hsub := sub_tuple_self
    have hinit := init_tuple_lookup
    have hmh := madeHere_tuple
    have hTI : s.TypeIs (.ref r) "range" := ⟨_, hr, rfl⟩
    wp_walk using wpAny_typeOf hTI, collect_rng (A := A.in1.in1) hh hr hs hn hl
    intro h' tk acc k hacc
    show wpAny _ _ (Builtin.Tuple.tupleExact acc.toList.toArray >>= fun v => ret v) _ _ _
    unfold Builtin.Tuple.tupleExact
    refine wpAny_bind (wpAny_newObj_type ?_ (by show acc.toList.toArray.size ≤ sizeLine; simp only [Array.toArray_toList]; rw [hacc.1, sizeLine_eq]; omega))
    refine wpAny_pure ?_
    have e : acc.toList.toArray = acc := by simp
    rw [e]
    exact ⟨⟨_, Heap.get?_push_size _ rfl, rfl⟩, q h' tk acc k hacc⟩
  · exact ⟨h₁.1, F.args_object_init_2 obj _, object_init_meets F.called_tuple.init.lookup F.called_tuple.made (by decide) prog w A.in1 _ s₁ ⟨h₁.1, rfl, h₁.2⟩⟩
end
section
variable {X : Cx}
theorem call_tup_rng (hc : X.calm = true) : CallR X (.type "tuple") (fun xs H Q => ∃ p i j, xs = [.ref p] ∧ H p = some (.rng i j) ∧ smallI i ∧ smallI j ∧ (j - i).toNat ≤ 1000000 ∧ ∀ l, H l = none → Q (.ref l) (upd H l (.tup (intsV i (j - i).toNat)))) := by
  intro pins s σ H xs us Q I r h
  obtain ⟨p, i, j, rfl, hH, hi, hj, hn, q⟩ := h
  obtain ⟨u, rfl, rx⟩ := vals1 r
  cases rx
  obtain ⟨t, u, v, hr⟩ := (show ObjOk X.prog X.w H s.heap p (.rng i j) from I.hok p _ hH)
  have e : Builtin.Range.rangeSize i j 1 = ((j - i).toNat : Nat) := by rw [rangeSize_one]; split <;> omega
  refine call_tuple_rng (I.ok.hd hc) hr (small_one hi.1 hi.2 hj.1 hj.2) e (by omega) fun h' tk acc' kp hacc => ?_
  have sz : sizeLine = 16777216 := sizeLine_eq
  have vals : Vals (intsV i (j - i).toNat) acc'.toList := by
    refine prd_of (by simp [intsV, hacc.1]) fun k x u h1 h2 => ?_
    unfold intsV at h1
    rw [List.getElem?_map] at h1
    obtain ⟨k', h3, rfl⟩ := Option.map_eq_some_iff.mp h1
    rw [List.getElem?_eq_some_iff] at h3
    obtain ⟨_, h3⟩ := h3
    simp at h3
    subst h3
    obtain ⟨t, e⟩ := hacc.2 k u (by simpa using h2)
    exact ⟨t, by rw [e, Int.mul_one]⟩
  have I1 : Inv X pins σ H { s with heap := h', toks := tk } := I.kept (t' := tk) kp
  exact ⟨.ref h'.objs.size, _, I1.laid (h' := h'.push { cls := .type "tuple", data := .seq acc' }) (t' := tk) (o := .tup (intsV i (j - i).toNat)) (fun b o e => Heap.get?_push_of_some _ e) (Nat.le_refl _) ⟨by simp [intsV]; omega, acc'.toList, vals, ⟨_, Heap.get?_push_size _ rfl, rfl, ⟨0, by simp⟩, rfl⟩⟩, rfl, q _ (I1.hok.fresh (Nat.le_refl _))⟩
noncomputable def eTR2 (f : AF) : EF := fun σ H => (f σ H).bind fun p => match p.1 with
  | [.int i, .int j] => if smallI i ∧ smallI j ∧ (j - i).toNat ≤ 1000000 then some (.tup (rangeL i (j - i).toNat), p.2) else none
  | _ => none
theorem pef_tupR2 {a b : Expr} {f : AF} {p p2 pos pos2 : Pos} (hc : X.calm = true) (hg : Gl X "tuple") (hm : X.mg "tuple" = none) (hg2 : Gl X "range") (hm2 : X.mg "range" = none) (ha : PAf X [a, b] f)
    (hs : starEach [a, b] X.env = [(false, eval a X.env), (false, eval b X.env)] := by rfl) (hs2 : starEach [b] X.env = [(false, eval b X.env)] := by rfl)
    (he : starEach [Expr.Call (.Name "range" p2) [a, b] [] pos2] X.env = (false, eval (Expr.Call (.Name "range" p2) [a, b] [] pos2) X.env) :: starEach [] X.env := by rfl)
    (hpl : (backTo pos (starEach [] X.env)).any (·.1) = false := by rfl) : PEf X (.Call (.Name "tuple" p) [.Call (.Name "range" p2) [a, b] [] pos2] [] pos) (eTR2 f) := by
  refine PEi (pe_callTy (call_tup_rng hc) hg hm (by decide +kernel) (pa_cons (pe_rng2 hg2 hm2 ha hs hs2) pa_nil he) (by decide) (by decide) he hpl) fun σ H Q zz => ?_
  obtain ⟨ι, σd, Hd, d, Hd', s, hr, e, q⟩ := zz
  obtain ⟨⟨ds, H1⟩, e1, e⟩ := Option.bind_eq_some_iff.mp e
  dsimp only at e
  split at e
  · rename_i i j
    split at e
    · rename_i hk
      cases e
      refine ⟨ι, σd, Hd, _, _, s, hr, e1, fun vs H' ι' l h P => ?_⟩
      obtain ⟨v, v', rfl, r, r'⟩ := prd2 P
      simp at r r'
      subst r r'
      refine ⟨i, j, rfl, fun r hr' => ⟨r, i, j, rfl, upd_same, hk.1, hk.2.1, hk.2.2, fun lx hl => ?_⟩⟩
      have h2 := h.tup hr' (.rng i j)
      have P2 : Paired (Rep X.K (upd H' r (.rng i j)) ι') (rangeL i (j - i).toNat) (intsV i (j - i).toNat) := by
        unfold rangeL intsV
        generalize (List.range (j - i).toNat) = ks
        induction ks with
        | nil => exact .nil
        | cons k ks ih => exact .cons (by simp) ih
      refine q _ _ ι' ((l.trans (Le.fresh hr' _)).trans (Le.fresh hl _)) (h2.tup hl _) (rep_tup.mpr ⟨lx, _, rfl, SqT.of upd_same, Prd.imp P2 fun a b _ r => r.mono (Le.fresh hl _)⟩)
    · cases e
  · cases e
end
end DL
namespace DL
open PySem PySem.Spec PyProof.Rows L2 PySem.W
section
variable {X : Cx} {C : Addr} {f xn : Str} {k : Nat} {iE : Nat} {ex : Addr} {i : Int} {dx : Option Addr} {av : Option Str} {oe : Obj} {en : Str} {cs : List Addr}
end
end DL
namespace DL
open PySem L2
theorem size_ok {n : Nat} (h : n ≤ 1000000) : n ≤ sizeLine := by rw [PySem.sizeLine_eq]; omega
theorem atI_toNat {xs : List D} {i : Int} {d : D} (h0 : 0 ≤ i) (h : xs[i.toNat]? = some d) : atI xs i = some d := by
  have : i = (i.toNat : Int) := by omega
  rw [this]; exact atI_nat h
structure Ext (n : Nat) (H H' : HD) : Prop where
  feed : ∃ a b, H'[n]? = some (.lst [.int a, .int b])
  old : ∀ m o, m ≠ n → H[m]? = some o → H'[m]? = some o
  len : H.length ≤ H'.length
theorem Ext.trans {n : Nat} {H H1 H2 : HD} (a : Ext n H H1) (b : Ext n H1 H2) : Ext n H H2 := ⟨b.feed, fun m o h q => b.old m o h (a.old m o h q), Nat.le_trans a.len b.len⟩
theorem Ext.refl {n : Nat} {H : HD} (h : ∃ a b, H[n]? = some (.lst [.int a, .int b])) : Ext n H H := ⟨h, fun _ _ _ q => q, Nat.le_refl _⟩
theorem Ext.app {n : Nat} {H : HD} (h : ∃ a b, H[n]? = some (.lst [.int a, .int b])) (o : DO) : Ext n H (H ++ [o]) := by
  obtain ⟨a, b, e⟩ := h
  refine ⟨⟨a, b, ?_⟩, fun m u _ q => ?_, by simp⟩
  · rw [List.getElem?_append_left (List.getElem?_eq_some_iff.mp e).1]; exact e
  · rw [List.getElem?_append_left (List.getElem?_eq_some_iff.mp q).1]; exact q
end DL
namespace LH
open PySem L2 DL
noncomputable def b_law_take : SF :=
  (sSeq (sIf (tOf (eOp gtD (eOp ixD (eVar 0) (eC (.int 0))) (eC (.int 0)))) (sSeq (sSet 2 (eOp modD (eOp ixD (eVar 0) (eC (.int 0))) (eVar 1)))
  (sSeq (sAsg (eOp fdivD (eOp ixD (eVar 0) (eC (.int 0))) (eVar 1)) (gSb (eVar 0) (eC (.int 0)) setD))
  (sSeq (sRet (eVar 2))
  sNil))) sNil)
  (sSeq (sAsg (eOp modD (eOp addD (eOp mulD (eOp ixD (eVar 0) (eC (.int 1))) (eC (.int 69621))) (eC (.int 12345))) (eC (.int 2147483647))) (gSb (eVar 0) (eC (.int 1)) setD))
  (sSeq (sRet (eOp modD (eOp fdivD (eOp ixD (eVar 0) (eC (.int 1))) (eC (.int 8191))) (eVar 1)))
  sNil)))
noncomputable def m_law_take : FF := runB 2 3 b_law_take
noncomputable def b_law_pick : SF :=
  (sSeq (sRet (eOp ixD (eVar 1) (eCall 2 m_law_take (aCons (eVar 0) (aCons (eCB lenD (aCons (eVar 1) aNil)) aNil)))))
  sNil)
noncomputable def m_law_pick : FF := runB 2 2 b_law_pick
noncomputable def Seqs (n : Nat) (s : D) (xs : List D) (H : HD) : Prop := s = .tup xs ∨ ∃ m, s = .ref m ∧ m ≠ n ∧ H[m]? = some (.lst xs)
theorem Seqs.seq {n : Nat} {s : D} {xs : List D} {H : HD} (h : Seqs n s xs H) : seqD s H = some xs := by
  rcases h with rfl | ⟨m, rfl, _, e⟩
  · rfl
  · simp [seqD, e]
theorem Seqs.ext {n : Nat} {s : D} {xs : List D} {H H' : HD} (h : Seqs n s xs H) (e : Ext n H H') : Seqs n s xs H' := by
  rcases h with rfl | ⟨m, rfl, hm, q⟩
  · exact .inl rfl
  · exact .inr ⟨m, rfl, hm, e.old m _ hm q⟩
noncomputable def b_law_row : SF :=
  (sSeq (sSet 2 (eLst (aCons (eC (.int 1)) (aCons (eC (.int 2)) (aCons (eC (.int 2)) (aCons (eC (.int 3)) (aCons (eC (.int 3)) (aCons (eC (.int 4)) (aCons (eC (.int 2)) (aCons (eC (.int 3)) (aCons (eC (.int 1)) (aCons (eOp addD (eC (.int 5)) (eCall 2 m_law_take (aCons (eVar 0) (aCons (eC (.int 4)) aNil)))) (aCons (eC (.int 2)) (aCons (eOp mulD (eC (.int 2)) (eCB intD (aCons (eOp gtD (eCall 2 m_law_take (aCons (eVar 0) (aCons (eC (.int 6)) aNil))) (eC (.int 0))) aNil))) aNil))))))))))))))
  (sSeq (sSet 3 (eCB minD (aCons (eVar 1) (aCons (eCall 2 m_law_pick (aCons (eVar 0) (aCons (eVar 2) aNil))) aNil))))
  (sSeq (sSet 4 (eLR2 (aCons (eC (.int 1)) (aCons (eOp addD (eVar 1) (eC (.int 1))) aNil))))
  (sSeq (sSet 5 (eLst aNil))
  (sSeq (sFor (iR1 (aCons (eVar 3) aNil)) (gNm 6) (sSeq (sExpr (eLM appendD (eVar 5) (aCons (eLM popD (eVar 4) (aCons (eCall 2 m_law_take (aCons (eVar 0) (aCons (eCB lenD (aCons (eVar 4) aNil)) aNil))) aNil)) aNil)))
  sNil))
  (sSeq (sRet (eCB tupleD (aCons (eLC (iSq (eCB sortedD (aCons (eVar 5) aNil))) [0] tYes (eOp ixD (eLst (aCons (eVar 0) (aCons (eUn negD (eVar 0)) aNil))) (eCall 2 m_law_take (aCons (eVar 1) (aCons (eC (.int 2)) aNil))))) aNil)))
  sNil))))))
noncomputable def m_law_row : FF := runB 2 7 b_law_row
structure ExtS (S : List Nat) (H H' : HD) : Prop where
  old : ∀ m o, m ∉ S → H[m]? = some o → H'[m]? = some o
  len : H.length ≤ H'.length
theorem ExtS.trans {S : List Nat} {H H1 H2 : HD} (a : ExtS S H H1) (b : ExtS S H1 H2) : ExtS S H H2 := ⟨fun m o h q => b.old m o h (a.old m o h q), Nat.le_trans a.len b.len⟩
theorem ExtS.refl {S : List Nat} {H : HD} : ExtS S H H := ⟨fun _ _ _ q => q, Nat.le_refl _⟩
theorem ExtS.set {S : List Nat} {H : HD} {p : Nat} {o : DO} (h : p ∈ S) : ExtS S H (H.set p o) := ⟨fun m u hm q => by rw [List.getElem?_set_ne (fun z => hm (by rw [← z]; exact h))]; exact q, by simp⟩
noncomputable def absZ (l : Int) : Int := if l < 0 then -l else l
noncomputable def Up (m : Int) : Int → List Int → Prop
  | _, [] => True
  | last, l :: r => last < absZ l ∧ absZ l ≤ m ∧ Up m (absZ l) r
theorem seq_nx {f g : SF} {σ σ1 : SD} {H H1 : HD} (h : f σ H = some (.nx, σ1, H1)) : sSeq f g σ H = g σ1 H1 := by
  unfold sSeq
  rw [h]
  rfl
noncomputable def b_law_claim : SF :=
  (sSeq (sSet 3 (eCall 2 m_law_pick (aCons (eVar 0) (aCons (eLst (aCons (eVar 1) (aCons (eOp subD (eVar 1) (eC (.int 1))) (aCons (eVar 1) (aCons (eOp subD (eVar 1) (eC (.int 2))) (aCons (eVar 1) (aCons (eCall 2 m_law_take (aCons (eVar 0) (aCons (eOp addD (eVar 1) (eC (.int 1))) aNil))) aNil))))))) aNil))))
  (sSeq (sSet 4 (eCall 2 m_law_take (aCons (eVar 0) (aCons (eC (.int 4)) aNil))))
  (sSeq (sSet 5 (eLC (iR1 (aCons (eVar 3) aNil)) [0] tYes (eCall 2 m_law_pick (aCons (eVar 1) (aCons (eLst (aCons (eC (.str "all")) (aCons (eC (.str "some")) aNil))) aNil)))))
  (sSeq (sIf (tOf (eOp eqD (eVar 4) (eC (.int 0)))) (sSeq (sSet 5 (eLC (iR1 (aCons (eVar 3) aNil)) [] tYes (eOp ixD (eLst (aCons (eC (.str "some")) (aCons (eC (.str "all")) aNil))) (eOp modD (eVar 0) (eC (.int 2))))))
  sNil) sNil)
  (sSeq (sSet 6 (eCall 2 m_law_pick (aCons (eVar 0) (aCons (eLst (aCons (eVar 3) (aCons (eOp addD (eVar 3) (eOp fdivD (eVar 3) (eC (.int 2)))) (aCons (eOp mulD (eC (.int 2)) (eVar 3)) (aCons (eOp addD (eOp fdivD (eVar 3) (eC (.int 2))) (eC (.int 1))) (aCons (eCall 2 m_law_take (aCons (eVar 0) (aCons (eOp addD (eVar 2) (eC (.int 1))) aNil))) (aCons (eC (.int 2)) aNil))))))) aNil))))
  (sSeq (sSet 7 (eLC (iR1 (aCons (eCB minD (aCons (eVar 2) (aCons (eVar 6) aNil))) aNil)) [0, 3] tYes (eCall 2 m_law_row (aCons (eVar 1) (aCons (eVar 2) aNil)))))
  (sSeq (sIf (tAn (tOf (eOp neD (eVar 7) (eLst aNil))) (tOf (eOp eqD (eCall 2 m_law_take (aCons (eVar 0) (aCons (eC (.int 6)) aNil))) (eC (.int 0))))) (sSeq (sExpr (eLM appendD (eVar 7) (aCons (eCall 2 m_law_pick (aCons (eVar 0) (aCons (eVar 7) aNil))) aNil)))
  sNil) sNil)
  (sSeq (sRet (eTup (aCons (eCB tupleD (aCons (eVar 5) aNil)) (aCons (eCB tupleD (aCons (eSl (eVar 7) oNone (oSome (eVar 2))) aNil)) aNil))))
  sNil))))))))
noncomputable def m_law_claim : FF := runB 3 8 b_law_claim
noncomputable def IsKind (d : D) : Prop := d = .str "all" ∨ d = .str "some"
noncomputable def IsRow (d : D) : Prop := ∃ ls : List Int, d = .tup (ls.map .int) ∧ (∀ l ∈ ls, l ≠ 0 ∧ -10 ≤ l ∧ l ≤ 10) ∧ ls.length ≤ 9
end LH
namespace LH
open PySem L2 DL
theorem toP_int (H : HD) (n : Nat) (i : Int) : toP H n (.int i) = some (.int i) := by cases n <;> rw [toP]
theorem toP_bl (H : HD) (n : Nat) (b : Bool) : toP H n (.bl b) = some (.bool b) := by cases n <;> rw [toP]
theorem toP_non (H : HD) (n : Nat) : toP H n .non = some .none := by cases n <;> rw [toP]
theorem dat_int (H : HD) (i : Int) : dat (.int i) H = some (.int i) := by
  simp [dat, toP_int, okP, PyData.canLay0, PyData.depth]
theorem eq_int (i j : Int) (H : HD) : eqD (.int i) (.int j) H = some (.bl (i == j), H) := by
  simp [eqD, twoS, dat_int, PyData.eqv]
theorem flt {n : Nat} {H : HD} (hf : ∃ a b, H[n]? = some (.lst [.int a, .int b])) : n < H.length := by obtain ⟨a, b, e⟩ := hf; exact (List.getElem?_eq_some_iff.mp e).1
noncomputable def RowIn (m : Int) (d : D) : Prop := ∃ ls : List Int, d = .tup (ls.map .int) ∧ (∀ l ∈ ls, l ≠ 0 ∧ -10 ≤ l ∧ l ≤ 10) ∧ ls.length ≤ 9 ∧ Up m 0 ls
theorem RowIn.row {m : Int} {d : D} (h : RowIn m d) : IsRow d := by
  obtain ⟨ls, a, b, c, _⟩ := h
  exact ⟨ls, a, b, c⟩
end LH
namespace LH
open PySem L2 DL
structure Sh (x : PyData) (w dp : Nat) : Prop where
  lay : x.canLay0 = true
  sh : x.showable = true
  dep : x.depth ≤ dp
  lv : x.leavesShort 40 = true
  wt : x.weight ≤ w
theorem Sh.can {x : PyData} {w dp : Nat} (h : Sh x w dp) (hw : w ≤ 100000) (hd : dp ≤ 30) : canShow x = true := by
  have sz : sizeLine = 16777216 := PySem.sizeLine_eq
  have l := PyData.shown_le 40 (by omega) x h.lv
  have h1 : x.shown.length ≤ sizeLine := by
    have := h.wt
    rw [sz]; omega
  have h2 : x.depth ≤ 30 := Nat.le_trans h.dep hd
  simp [canShow, h.lay, h.sh, h1, h2]
noncomputable def Showy (d : D) (w dp : Nat) : Prop := ∃ x, (∀ H n, toP H n d = some x) ∧ Sh x w dp
theorem shInts : ∀ k : Fin 61, (PyData.shown (.int ((k.val : Int) - 30))).length ≤ 40 ∧ ((PyData.int ((k.val : Int) - 30)).showable = true) ∧ (PyData.int ((k.val : Int) - 30)).weight ≤ 40 := by decide
theorem Sh.int {i : Int} (h0 : -30 ≤ i) (h1 : i ≤ 30) : Sh (.int i) 40 0 := by
  have h := shInts ⟨(i + 30).toNat, by omega⟩
  have e : (((i + 30).toNat : Nat) : Int) - 30 = i := by omega
  simp only [e] at h
  exact ⟨rfl, h.2.1, Nat.le_refl _, by simpa [PyData.leavesShort] using h.1, h.2.2⟩
theorem Showy.int {i : Int} (h0 : -30 ≤ i) (h1 : i ≤ 30) : Showy (.int i) 40 0 := ⟨.int i, fun H n => toP_int H n i, Sh.int h0 h1⟩
theorem Showy.bl {b : Bool} : Showy (.bl b) 40 0 := ⟨.bool b, fun H n => toP_bl H n b, rfl, rfl, Nat.le_refl _, rfl, Nat.zero_le _⟩
theorem Showy.non : Showy .non 40 0 := ⟨.none, fun H n => toP_non H n, rfl, rfl, Nat.le_refl _, rfl, Nat.zero_le _⟩
theorem toP_str (H : HD) (n : Nat) (x : Str) : toP H n (.str x) = some (.str x) := by cases n <;> rw [toP]
theorem Showy.str {x : Str} (h : PyData.strOk x = true) (h2 : (x.cps.toList.all fun c => decide (c < 16 ^ 8)) = true) (h3 : x.cps.size ≤ 40) : Showy (.str x) 40 0 :=
  ⟨.str x, fun H n => toP_str H n x, h, rfl, Nat.le_refl _, h2, h3⟩
theorem strOk_list {x : Str} (h : (x.cps.toList.all fun c => decide (c < 0x110000)) = true) : PyData.strOk x = true := by
  unfold PyData.strOk
  rw [← Array.all_toList]
  exact h
theorem Showy.kind {d : D} (h : IsKind d) : Showy d 40 0 := by
  rcases h with rfl | rfl
  · exact Showy.str (strOk_list (by decide)) (by decide) (by decide)
  · exact Showy.str (strOk_list (by decide)) (by decide) (by decide)
theorem sh_all {H : HD} {n w dp : Nat} : ∀ xs : List D, (∀ d ∈ xs, ∃ x, toP H n d = some x ∧ Sh x w dp) → ∃ ps, toPs H n xs = some ps ∧ PyData.canLayAll0 ps = true ∧ PyData.showableAll ps = true ∧ PyData.depthAll ps ≤ dp ∧ PyData.leavesShortAll 40 ps = true ∧ PyData.weightAll ps ≤ xs.length * (w + 1) ∧ ps.length = xs.length
  | [], _ => ⟨[], by rw [toPs], rfl, rfl, Nat.zero_le _, rfl, Nat.zero_le _, rfl⟩
  | d :: xs, h => by
    obtain ⟨x, e1, s⟩ := h d (by simp)
    obtain ⟨ps, e2, a1, a2, a3, a4, a5, a6⟩ := sh_all (H := H) (n := n) (w := w) (dp := dp) xs fun z hz => h z (by simp [hz])
    refine ⟨x :: ps, ?_, ?_, ?_, ?_, ?_, ?_, by simp [a6]⟩
    · rw [toPs, e1, e2]; rfl
    · simp [PyData.canLayAll0, s.lay, a1]
    · simp [PyData.showableAll, s.sh, a2]
    · simp only [PyData.depthAll]; exact Nat.max_le.mpr ⟨s.dep, a3⟩
    · simp [PyData.leavesShortAll, s.lv, a4]
    · simp only [PyData.weightAll, List.length_cons, Nat.succ_mul]
      have := s.wt
      omega
theorem Showy.tup {xs : List D} {w dp : Nat} (h : ∀ d ∈ xs, Showy d w dp) : Showy (.tup xs) (xs.length * (w + 1)) (dp + 1) := by
  have all : ∀ H n, ∃ ps, toPs H n xs = some ps ∧ PyData.canLayAll0 ps = true ∧ PyData.showableAll ps = true ∧ PyData.depthAll ps ≤ dp ∧ PyData.leavesShortAll 40 ps = true ∧ PyData.weightAll ps ≤ xs.length * (w + 1) ∧ ps.length = xs.length := fun H n => sh_all xs fun d hd => by
    obtain ⟨x, e, s⟩ := h d hd
    exact ⟨x, e H n, s⟩
  have same : ∀ (xs : List D), (∀ d ∈ xs, Showy d w dp) → ∀ H n, toPs H n xs = toPs [] 0 xs := by
    intro xs
    induction xs with
    | nil => intro _ H n; rw [toPs, toPs]
    | cons d r ih =>
      intro h H n
      obtain ⟨x, e, _⟩ := h d (by simp)
      rw [toPs, toPs, e, e, ih (fun z hz => h z (by simp [hz])) H n]
  obtain ⟨ps, e, a1, a2, a3, a4, a5, _⟩ := all [] 0
  refine ⟨.tuple ps, fun H n => ?_, ⟨a1, a2, Nat.succ_le_succ a3, a4, a5⟩⟩
  have q : toPs H n xs = some ps := (same xs h H n).trans e
  cases n <;> rw [toP, q] <;> rfl
theorem Showy.le {d : D} {w dp w' dp' : Nat} (h : Showy d w dp) (hw : w ≤ w') (hd : dp ≤ dp') : Showy d w' dp' := by
  obtain ⟨x, e, s⟩ := h
  exact ⟨x, e, s.lay, s.sh, Nat.le_trans s.dep hd, s.lv, Nat.le_trans s.wt hw⟩
theorem Showy.rep {d : D} {w dp : Nat} (h : Showy d w dp) (hw : w ≤ 100000) (hd : dp ≤ 30) : ∃ t : Str, ∀ H, reprD [d] H = some (.str t, H) := by
  obtain ⟨x, e, s⟩ := h
  refine ⟨x.shown, fun H => ?_⟩
  unfold reprD
  simp only [e, Option.bind_some, if_pos (s.can hw hd)]
theorem cut_lo (xs : List D) (k : Nat) : cutD xs (some (k : Int)) none = xs.drop k := by
  unfold cutD
  have h1 : HT.sIx xs.length 0 (some (k : Int)) = min k xs.length := by
    show (if (k : Int) < 0 then ((k : Int) + (xs.length : Int)).toNat else min (k : Int).toNat xs.length) = min k xs.length
    rw [if_neg (by omega), Int.toNat_natCast]
  have h2 : HT.sIx xs.length xs.length none = xs.length := rfl
  rw [h1, h2]
  by_cases h : k ≤ xs.length
  · rw [Nat.min_eq_left h]
    exact List.take_of_length_le (by simp)
  · rw [Nat.min_eq_right (by omega), List.drop_of_length_le (Nat.le_refl _), List.drop_of_length_le (by omega)]
    simp
theorem cut_hi (xs : List D) (k : Nat) : cutD xs none (some (k : Int)) = xs.take k := by
  unfold cutD
  have h1 : HT.sIx xs.length 0 none = 0 := rfl
  have h2 : HT.sIx xs.length xs.length (some (k : Int)) = min k xs.length := by
    show (if (k : Int) < 0 then ((k : Int) + (xs.length : Int)).toNat else min (k : Int).toNat xs.length) = min k xs.length
    rw [if_neg (by omega), Int.toNat_natCast]
  rw [h1, h2]
  simp
theorem ac {f : EF} {g : AF} {σ : SD} {H H1 H2 : HD} {d : D} {ds : List D} (h1 : f σ H = some (d, H1)) (h2 : g σ H1 = some (ds, H2)) : aCons f g σ H = some (d :: ds, H2) := by
  unfold aCons; rw [h1]; simp only [Option.bind_some]; rw [h2]; rfl
theorem an {σ : SD} {H : HD} : aNil σ H = some ([], H) := rfl
theorem cb {g : FF} {f : AF} {σ : SD} {H H1 : HD} {ds : List D} {r : Option (D × HD)} (h1 : f σ H = some (ds, H1)) (h2 : g ds H1 = r) : eCB g f σ H = r := by
  unfold eCB; rw [h1]; exact h2
theorem tu {n : Nat} {xs : List D} {H : HD} (h : H[n]? = some (.lst xs)) : tupleD [.ref n] H = some (.tup xs, H) := by
  simp [tupleD, seqD, h]
theorem tp {f : AF} {σ : SD} {H H1 : HD} {ds : List D} (h1 : f σ H = some (ds, H1)) (h2 : ds.length ≤ 1000000) : eTup f σ H = some (.tup ds, H1) := by
  unfold eTup; rw [h1]; exact if_pos (size_ok h2)
theorem ls {f : AF} {σ : SD} {H H1 : HD} {ds : List D} (h1 : f σ H = some (ds, H1)) (h2 : ds.length ≤ 1000000) : eLst f σ H = some (.ref H1.length, H1 ++ [.lst ds]) := by
  unfold eLst; rw [h1]; exact if_pos (size_ok h2)
theorem ca {n : Nat} {F : FF} {f : AF} {σ : SD} {H H1 : HD} {ds : List D} {r : Option (D × HD)} (h1 : f σ H = some (ds, H1)) (hl : ds.length = n) (h2 : F ds H1 = r) : eCall n F f σ H = r := by
  unfold eCall; rw [h1]; simp only [Option.bind_some]; rw [if_pos hl]; exact h2
theorem rt {f : EF} {σ : SD} {H H1 : HD} {d : D} (h : f σ H = some (d, H1)) : sRet f σ H = some (.rt d, σ, H1) := by
  unfold sRet; rw [h]; rfl
theorem op {g : F2} {fa fb : EF} {σ : SD} {H H1 H2 : HD} {d1 d2 : D} {r : Option (D × HD)} (h1 : fa σ H = some (d1, H1)) (h2 : fb σ H1 = some (d2, H2)) (h3 : g d1 d2 H2 = r) : eOp g fa fb σ H = r := by
  unfold eOp; rw [h1]; simp only [Option.bind_some]; rw [h2]; exact h3
theorem iff_t {t : TF} {f g : SF} {σ : SD} {H H1 : HD} {b : Bool} (h : t σ H = some (b, H1)) : sIf t f g σ H = if b = true then f σ H1 else g σ H1 := by
  unfold sIf; rw [h]; rfl
theorem tof {f : EF} {σ : SD} {H H1 : HD} {b : Bool} (h : f σ H = some (.bl b, H1)) : tOf f σ H = some (b, H1) := by
  unfold tOf; rw [h]; rfl
theorem lenT (xs : List D) (H : HD) : lenD [.tup xs] H = some (.int xs.length, H) := by simp [lenD, seqD]
theorem lenB (bs : List Bool) (H : HD) : lenD [.tup (bs.map .bl)] H = some (.int bs.length, H) := by simp [lenD, seqD]
theorem ixT {xs : List D} {i : Int} {d : D} {H : HD} (h : atI xs i = some d) : ixD (.tup xs) (.int i) H = some (d, H) := by simp [ixD, seqD, h]
theorem skip {t : TF} {f g : SF} {σ : SD} {H H1 : HD} (h : t σ H = some (false, H1)) : sSeq (sIf t f sNil) g σ H = g σ H1 := by
  refine seq_nx ?_
  rw [iff_t h]
  rfl
theorem vr {i : Nat} {σ : SD} {H : HD} {d : D} (h : σ[i]? = some (some d)) : eVar i σ H = some (d, H) := by simp [eVar, h]
theorem sl {fe : EF} {fl fh : OF} {σ : SD} {H H1 H2 H3 : HD} {d : D} {l h : Option Int} {r : Option (D × HD)} (h1 : fe σ H = some (d, H1)) (h2 : fl σ H1 = some (l, H2)) (h3 : fh σ H2 = some (h, H3)) (h4 : slD d l h H3 = r) : eSl fe fl fh σ H = r := by
  unfold eSl; rw [h1]; simp only [Option.bind_some]; rw [h2]; simp only [Option.bind_some]; rw [h3]; exact h4
theorem os {f : EF} {σ : SD} {H H1 : HD} {i : Int} (h : f σ H = some (.int i, H1)) : oSome f σ H = some (some i, H1) := by
  unfold oSome; rw [h]; rfl
theorem slhi {xs : List D} {k : Nat} {H : HD} : slD (.tup xs) none (some (k : Int)) H = some (.tup (xs.take k), H) := by
  rw [← cut_hi]; rfl
theorem sllo {xs : List D} {k : Nat} {H : HD} : slD (.tup xs) (some (k : Int)) none H = some (.tup (xs.drop k), H) := by
  rw [← cut_lo]; rfl
theorem adT {xs ys : List D} {H : HD} (h : xs.length + ys.length ≤ 1000000) : addD (.tup xs) (.tup ys) H = some (.tup (xs ++ ys), H) :=
  if_pos (size_ok (by rw [List.length_append]; exact h))
theorem suI (i j : Int) (H : HD) : subD (.int i) (.int j) H = some (.int (i - j), H) := by simp [subD, iiD, CT]
theorem muT {xs : List D} {k : Int} {H : HD} (h1 : -1000 ≤ k) (h2 : k ≤ 1000) (h3 : xs.length ≤ 1000) : mulD (.tup xs) (.int k) H = some (.tup (List.replicate k.toNat xs).flatten, H) := by
  have b : xs.length * k.toNat ≤ 1000 * 1000 := Nat.mul_le_mul h3 (by omega)
  have sz : sizeLine = 16777216 := PySem.sizeLine_eq
  have c : -(2 ^ 63) ≤ k ∧ k < 2 ^ 63 ∧ xs.length * k.toNat ≤ sizeLine := ⟨by omega, by omega, by omega⟩
  have l : (List.replicate k.toNat xs).flatten.length ≤ sizeLine := by
    rw [List.length_flatten, List.map_replicate, List.sum_replicate_nat, Nat.mul_comm]; omega
  show (if -(2 ^ 63) ≤ k ∧ k < 2 ^ 63 ∧ xs.length * k.toNat ≤ sizeLine then mkT (List.replicate k.toNat xs).flatten H else none) = _
  rw [if_pos c]
  exact if_pos l
theorem ExtS.app {S : List Nat} {H : HD} (L : HD) : ExtS S H (H ++ L) := ⟨fun m o _ q => by
  have : m < H.length := (List.getElem?_eq_some_iff.mp q).1
  rw [List.getElem?_append_left this]; exact q, by simp⟩
noncomputable def rowD (ls : List Int) : D := .tup (ls.map .int)
end LH
namespace LH
open PySem L2 DL
theorem orF {t u : TF} {σ : SD} {H H1 : HD} (h : t σ H = some (false, H1)) : tOrr t u σ H = u σ H1 := by unfold tOrr; rw [h]; rfl
theorem orT {t u : TF} {σ : SD} {H H1 : HD} (h : t σ H = some (true, H1)) : tOrr t u σ H = some (true, H1) := by unfold tOrr; rw [h]; rfl
theorem anF {t u : TF} {σ : SD} {H H1 : HD} (h : t σ H = some (false, H1)) : tAn t u σ H = some (false, H1) := by unfold tAn; rw [h]; rfl
theorem anT {t u : TF} {σ : SD} {H H1 : HD} (h : t σ H = some (true, H1)) : tAn t u σ H = u σ H1 := by unfold tAn; rw [h]; rfl
theorem Sh.can' {x : PyData} {w dp : Nat} (h : Sh x w dp) (hw : w ≤ 390000) (hd : dp ≤ 30) : canShow x = true := by
  have sz : sizeLine = 16777216 := PySem.sizeLine_eq
  have l := PyData.shown_le 40 (by omega) x h.lv
  have h1 : x.shown.length ≤ sizeLine := by
    have := h.wt
    rw [sz]; omega
  have h2 : x.depth ≤ 30 := Nat.le_trans h.dep hd
  simp [canShow, h.lay, h.sh, h1, h2]
noncomputable def V (n : Nat) (H : HD) (k w : Nat) (d : D) : Prop := ∃ x, (∀ H', Ext n H H' → ∀ m, k ≤ m → toP H' m d = some x) ∧ Sh x w k
theorem V.of {n : Nat} {H : HD} {k w : Nat} {d : D} (h : Showy d w k) : V n H k w d := by
  obtain ⟨x, e, s⟩ := h
  exact ⟨x, fun H' _ m _ => e H' m, s⟩
theorem V.le {n : Nat} {H : HD} {k w k' w' : Nat} {d : D} (h : V n H k w d) (hk : k ≤ k') (hw : w ≤ w') : V n H k' w' d := by
  obtain ⟨x, e, s⟩ := h
  exact ⟨x, fun H' y m hm => e H' y m (Nat.le_trans hk hm), s.lay, s.sh, Nat.le_trans s.dep hk, s.lv, Nat.le_trans s.wt hw⟩
theorem V.ext {n : Nat} {H H1 : HD} {k w : Nat} {d : D} (h : V n H k w d) (y : Ext n H H1) : V n H1 k w d := by
  obtain ⟨x, e, s⟩ := h
  exact ⟨x, fun H' z m hm => e H' (y.trans z) m hm, s⟩
theorem V.same {n : Nat} {H : HD} {k w : Nat} (hf : ∃ a b, H[n]? = some (.lst [.int a, .int b])) : ∀ ds : List D, (∀ e ∈ ds, V n H k w e) → ∀ H', Ext n H H' → ∀ m, k ≤ m → toPs H' m ds = toPs H k ds
  | [], _, H', _, m, _ => by rw [toPs, toPs]
  | d :: ds, h, H', y, m, hm => by
    obtain ⟨x, e, _⟩ := h d (by simp)
    rw [toPs, toPs, e H' y m hm, e H (Ext.refl hf) k (Nat.le_refl _), V.same hf ds (fun z hz => h z (by simp [hz])) H' y m hm]
theorem V.all {n : Nat} {H : HD} {k w : Nat} {ds : List D} (hf : ∃ a b, H[n]? = some (.lst [.int a, .int b])) (h : ∀ e ∈ ds, V n H k w e) :
    ∃ ps, (∀ H', Ext n H H' → ∀ m, k ≤ m → toPs H' m ds = some ps) ∧ Sh (.tuple ps) (ds.length * (w + 1)) (k + 1) ∧ Sh (.list ps) (ds.length * (w + 1)) (k + 1) := by
  obtain ⟨ps, e, a1, a2, a3, a4, a5, _⟩ := sh_all (H := H) (n := k) (w := w) (dp := k) ds fun d hd => by
    obtain ⟨x, e, s⟩ := h d hd
    exact ⟨x, e H (Ext.refl hf) k (Nat.le_refl _), s⟩
  exact ⟨ps, fun H' y m hm => (V.same hf ds h H' y m hm).trans e, ⟨a1, a2, Nat.succ_le_succ a3, a4, a5⟩, ⟨a1, a2, Nat.succ_le_succ a3, a4, a5⟩⟩
theorem V.tup {n : Nat} {H : HD} {k w : Nat} {ds : List D} (hf : ∃ a b, H[n]? = some (.lst [.int a, .int b])) (h : ∀ e ∈ ds, V n H k w e) : V n H (k + 1) (ds.length * (w + 1)) (.tup ds) := by
  obtain ⟨ps, e, s, _⟩ := V.all hf h
  refine ⟨.tuple ps, fun H' y m hm => ?_, s⟩
  have q := e H' y m (by omega)
  cases m <;> rw [toP, q] <;> rfl
theorem V.lst {n : Nat} {H : HD} {k w p : Nat} {ds : List D} (hf : ∃ a b, H[n]? = some (.lst [.int a, .int b])) (hp : p ≠ n) (hd : H[p]? = some (.lst ds)) (h : ∀ e ∈ ds, V n H k w e) : V n H (k + 1) (ds.length * (w + 1)) (.ref p) := by
  obtain ⟨ps, e, _, s⟩ := V.all hf h
  refine ⟨.list ps, fun H' y m hm => ?_, s⟩
  match m, hm with
  | m + 1, hm =>
    rw [toP]
    simp only [y.old p _ hp hd, e H' y m (by omega), Option.map_some]
theorem V.rep {n : Nat} {H : HD} {k w : Nat} {d : D} (h : V n H k w d) (hw : w ≤ 390000) (hk : k ≤ 30) : ∃ t : Str, ∀ H', Ext n H H' → reprD [d] H' = some (.str t, H') := by
  obtain ⟨x, e, s⟩ := h
  refine ⟨x.shown, fun H' y => ?_⟩
  unfold reprD
  simp only [e H' y 30 hk, Option.bind_some, if_pos (s.can' hw hk)]
noncomputable def OkE (H : HD) (d : D) : Prop := ∃ x, toP H 30 d = some x ∧ x.canLay0 = true ∧ x.depth ≤ 30
theorem V.ok {n : Nat} {H : HD} {k w : Nat} {d : D} (hf : ∃ a b, H[n]? = some (.lst [.int a, .int b])) (h : V n H k w d) (hk : k ≤ 30) : OkE H d := by
  obtain ⟨x, e, s⟩ := h
  exact ⟨x, e H (Ext.refl hf) 30 hk, s.lay, Nat.le_trans s.dep hk⟩
theorem okE_items {H : HD} {N : Nat} : ∀ (ds : List D) (ps : List PyData), toPs H N ds = some ps → PyData.canLayAll0 ps = true → PyData.depthAll ps ≤ 29 → ∀ e ∈ ds, ∃ y, toP H N e = some y ∧ y.canLay0 = true ∧ y.depth ≤ 30
  | [], _, _, _, _, e, he => by simp at he
  | d :: ds, ps, h, c, b, e, he => by
    rw [toPs] at h
    obtain ⟨x, e1, h⟩ := Option.bind_eq_some_iff.mp h
    obtain ⟨qs, e2, rfl⟩ := Option.map_eq_some_iff.mp h
    simp only [PyData.canLayAll0, Bool.and_eq_true] at c
    simp only [PyData.depthAll] at b
    rcases List.mem_cons.mp he with rfl | he
    · exact ⟨x, e1, c.1, by omega⟩
    · exact okE_items ds qs e2 c.2 (by omega) e he
theorem OkE.item {H : HD} {ds : List D} (h : OkE H (.tup ds)) : ∀ e ∈ ds, OkE H e := by
  obtain ⟨x, e, c, b⟩ := h
  rw [toP] at e
  obtain ⟨ps, e2, rfl⟩ := Option.map_eq_some_iff.mp e
  simp only [PyData.canLay0] at c
  simp only [PyData.depth] at b
  exact okE_items ds ps e2 c (by omega)
theorem OkE.dat {H : HD} {d : D} (h : OkE H d) : ∃ x, dat d H = some x ∧ toP H 30 d = some x := by
  obtain ⟨x, e, c, b⟩ := h
  refine ⟨x, ?_, e⟩
  unfold DL.dat
  rw [e]
  simp [okP, c, b]
noncomputable def tyOf : D → String
  | .non => "NoneType"
  | .bl _ => "bool"
  | .int _ => "int"
  | .str _ => "str"
  | .tup _ => "tuple"
  | .fl _ => "list"
  | .ref _ => "list"
  | _ => "?"
theorem OkE.ty {H : HD} {d : D} (h : OkE H d) : tyD d H = some (tyOf d) := by
  obtain ⟨x, e, _⟩ := h
  cases d with
  | ty c => rw [toP] at e; cases e
  | ref m =>
    rw [toP] at e
    simp only [tyD, tyOf]
    split at e
    · rfl
    · cases e
  | _ => rfl
theorem all_ok {H : HD} {p : Nat} {bs : List Bool} (h : H[p]? = some (.lst (bs.map .bl))) : allD [.ref p] H = some (.bl (bs.all id), H) := by
  simp [allD, h, blsD_map]
end LH
namespace WP
open PySem L2 DL LH
noncomputable def wE (r : Option (D × HD)) (Q : D → HD → Prop) : Prop := ∃ d H, r = some (d, H) ∧ Q d H
noncomputable def wT (r : Option (Bool × HD)) (Q : Bool → HD → Prop) : Prop := ∃ d H, r = some (d, H) ∧ Q d H
noncomputable def wA (r : Option (List D × HD)) (Q : List D → HD → Prop) : Prop := ∃ d H, r = some (d, H) ∧ Q d H
noncomputable def wO (r : Option (Option Int × HD)) (Q : Option Int → HD → Prop) : Prop := ∃ d H, r = some (d, H) ∧ Q d H
noncomputable def wI (r : Option ((List D × OwnD) × HD)) (Q : List D → OwnD → HD → Prop) : Prop := ∃ d o H, r = some ((d, o), H) ∧ Q d o H
noncomputable def wG (r : Option (SD × HD)) (Q : SD → HD → Prop) : Prop := ∃ d H, r = some (d, H) ∧ Q d H
noncomputable def wH (r : Option HD) (Q : HD → Prop) : Prop := ∃ H, r = some H ∧ Q H
noncomputable def wS (r : Option (FD × SD × HD)) (Q : FD → SD → HD → Prop) : Prop := ∃ x d H, r = some (x, d, H) ∧ Q x d H
noncomputable def wN (n : Nat) (F : FF) (ds : List D) (H : HD) (Q : D → HD → Prop) : Prop := ds.length = n ∧ wE (F ds H) Q
noncomputable def br (b : Bool) (P Q : Prop) : Prop := (b = true → P) ∧ (b = false → Q)
noncomputable def kont (k : SD → HD → Prop) (Q : FD → SD → HD → Prop) : FD → SD → HD → Prop
  | .nx, σ, H => k σ H
  | r, σ, H => Q r σ H
noncomputable def fin (Q : D → HD → Prop) : FD → SD → HD → Prop
  | .rt d, _, H => Q d H
  | .nx, _, H => Q .non H
  | _, _, _ => False
section
variable {σ : SD} {H : HD} {Q : D → HD → Prop}
theorem wE.mono {r : Option (D × HD)} {Q' : D → HD → Prop} (h : wE r Q) (q : ∀ d H, Q d H → Q' d H) : wE r Q' := by
  obtain ⟨d, H, e, x⟩ := h; exact ⟨d, H, e, q d H x⟩
theorem wS.mono {r : Option (FD × SD × HD)} {Q Q' : FD → SD → HD → Prop} (h : wS r Q) (q : ∀ x d H, Q x d H → Q' x d H) : wS r Q' := by
  obtain ⟨x, d, H, e, z⟩ := h; exact ⟨x, d, H, e, q x d H z⟩
theorem w_var {i : Nat} {d : D} (h : (σ[i]?).join = some d) (q : Q d H) : wE (eVar i σ H) Q := ⟨d, H, by unfold eVar; rw [h]; rfl, q⟩
theorem w_c {d : D} (q : Q d H) : wE (eC d σ H) Q := ⟨d, H, rfl, q⟩
theorem w_op {g : F2} {fa fb : EF} (h : wE (fa σ H) fun x H1 => wE (fb σ H1) fun y H2 => wE (g x y H2) Q) : wE (eOp g fa fb σ H) Q := by
  obtain ⟨x, H1, e1, y, H2, e2, d, H3, e3, q⟩ := h
  exact ⟨d, H3, op e1 e2 e3, q⟩
theorem w_un {g : D → HD → Option (D × HD)} {fa : EF} (h : wE (fa σ H) fun x H1 => wE (g x H1) Q) : wE (eUn g fa σ H) Q := by
  obtain ⟨x, H1, e1, d, H3, e3, q⟩ := h
  exact ⟨d, H3, by unfold eUn; rw [e1]; exact e3, q⟩
theorem w_ch {g g' : F2} {fa fb fc : EF} (h : wE (fa σ H) fun x H1 => wE (fb σ H1) fun y H2 => wE (g x y H2) fun z H3 => ∃ k, z = .bl k ∧ br k (wE (fc σ H3) fun w H4 => wE (g' y w H4) Q) (Q (.bl false) H3)) : wE (eCh g g' fa fb fc σ H) Q := by
  obtain ⟨x, H1, e1, y, H2, e2, z, H3, e3, k, rfl, b1, b2⟩ := h
  unfold eCh
  rw [e1]; simp only [Option.bind_some]; rw [e2]; simp only [Option.bind_some]; rw [e3]; simp only [Option.bind_some, blD]
  cases k with
  | true =>
    obtain ⟨w, H4, e4, d, H5, e5, q⟩ := b1 rfl
    exact ⟨d, H5, by rw [if_pos rfl, e4]; exact e5, q⟩
  | false => exact ⟨.bl false, H3, by rw [if_neg (by simp)], b2 rfl⟩
theorem w_tof {f : EF} {Q : Bool → HD → Prop} (h : wE (f σ H) fun d H1 => ∃ b, d = .bl b ∧ Q b H1) : wT (tOf f σ H) Q := by
  obtain ⟨d, H1, e, b, rfl, q⟩ := h
  exact ⟨b, H1, tof e, q⟩
theorem w_bl {b : Bool} {P : Bool → Prop} (h : P b) : ∃ c, D.bl b = .bl c ∧ P c := ⟨b, rfl, h⟩
theorem w_ttru {f : EF} {Q : Bool → HD → Prop} (h : wE (f σ H) fun d H1 => ∃ b, truD d H1 = some b ∧ Q b H1) : wT (tTru f σ H) Q := by
  obtain ⟨d, H1, e, b, e2, q⟩ := h
  exact ⟨b, H1, by unfold tTru; rw [e]; simp only [Option.bind_some]; rw [e2]; rfl, q⟩
theorem w_no {t : TF} {Q : Bool → HD → Prop} (h : wT (t σ H) fun b H1 => Q (!b) H1) : wT (tNo t σ H) Q := by
  obtain ⟨b, H1, e, q⟩ := h
  exact ⟨!b, H1, by unfold tNo; rw [e]; rfl, q⟩
theorem w_an {t u : TF} {Q : Bool → HD → Prop} (h : wT (t σ H) fun b H1 => br b (wT (u σ H1) Q) (Q false H1)) : wT (tAn t u σ H) Q := by
  obtain ⟨b, H1, e, q1, q2⟩ := h
  cases b with
  | true => obtain ⟨c, H2, e2, q⟩ := q1 rfl; exact ⟨c, H2, (anT e).trans e2, q⟩
  | false => exact ⟨false, H1, anF e, q2 rfl⟩
theorem w_or {t u : TF} {Q : Bool → HD → Prop} (h : wT (t σ H) fun b H1 => br b (Q true H1) (wT (u σ H1) Q)) : wT (tOrr t u σ H) Q := by
  obtain ⟨b, H1, e, q1, q2⟩ := h
  cases b with
  | true => exact ⟨true, H1, orT e, q1 rfl⟩
  | false => obtain ⟨c, H2, e2, q⟩ := q2 rfl; exact ⟨c, H2, (orF e).trans e2, q⟩
theorem w_eno {f : EF} (h : wE (f σ H) fun d H1 => ∃ b, d = .bl b ∧ Q (.bl (!b)) H1) : wE (eNo f σ H) Q := by
  obtain ⟨d, H1, e, b, rfl, q⟩ := h
  exact ⟨.bl (!b), H1, by unfold eNo; rw [e]; rfl, q⟩
theorem w_ean {f g : EF} (h : wE (f σ H) fun d H1 => ∃ b, d = .bl b ∧ br b (wE (g σ H1) Q) (Q (.bl false) H1)) : wE (eAn f g σ H) Q := by
  obtain ⟨d, H1, e, b, rfl, q1, q2⟩ := h
  unfold eAn
  rw [e]; simp only [Option.bind_some, blD]
  cases b with
  | true => rw [if_pos rfl]; exact q1 rfl
  | false => rw [if_neg (by simp)]; exact ⟨_, _, rfl, q2 rfl⟩
theorem w_eorr {f g : EF} (h : wE (f σ H) fun d H1 => ∃ b, d = .bl b ∧ br b (Q (.bl true) H1) (wE (g σ H1) Q)) : wE (eOrr f g σ H) Q := by
  obtain ⟨d, H1, e, b, rfl, q1, q2⟩ := h
  unfold eOrr
  rw [e]; simp only [Option.bind_some, blD]
  cases b with
  | true => rw [if_pos rfl]; exact ⟨_, _, rfl, q1 rfl⟩
  | false => rw [if_neg (by simp)]; exact q2 rfl
theorem w_eif {t : TF} {f g : EF} (h : wT (t σ H) fun b H1 => br b (wE (f σ H1) Q) (wE (g σ H1) Q)) : wE (eIf t f g σ H) Q := by
  obtain ⟨b, H1, e, q1, q2⟩ := h
  unfold eIf
  rw [e]; simp only [Option.bind_some]
  cases b with
  | true => rw [if_pos rfl]; exact q1 rfl
  | false => rw [if_neg (by simp)]; exact q2 rfl
theorem w_anil {Q : List D → HD → Prop} (q : Q [] H) : wA (aNil σ H) Q := ⟨[], H, rfl, q⟩
theorem w_acons {f : EF} {g : AF} {Q : List D → HD → Prop} (h : wE (f σ H) fun d H1 => wA (g σ H1) fun ds H2 => Q (d :: ds) H2) : wA (aCons f g σ H) Q := by
  obtain ⟨d, H1, e1, ds, H2, e2, q⟩ := h
  exact ⟨d :: ds, H2, ac e1 e2, q⟩
theorem w_cb {g : FF} {f : AF} (h : wA (f σ H) fun ds H1 => wE (g ds H1) Q) : wE (eCB g f σ H) Q := by
  obtain ⟨ds, H1, e1, d, H2, e2, q⟩ := h
  exact ⟨d, H2, cb e1 e2, q⟩
theorem w_call {n : Nat} {F : FF} {f : AF} (h : wA (f σ H) fun ds H1 => wN n F ds H1 Q) : wE (eCall n F f σ H) Q := by
  obtain ⟨ds, H1, e1, hl, d, H2, e2, q⟩ := h
  exact ⟨d, H2, ca e1 hl e2, q⟩
theorem w_n {n : Nat} {F : FF} {ds : List D} (hl : ds.length = n) (h : wE (F ds H) Q) : wN n F ds H Q := ⟨hl, h⟩
theorem w_tup {f : AF} (h : wA (f σ H) fun ds H1 => ds.length ≤ 1000000 ∧ Q (.tup ds) H1) : wE (eTup f σ H) Q := by
  obtain ⟨ds, H1, e1, hl, q⟩ := h
  exact ⟨_, H1, tp e1 hl, q⟩
theorem w_lst {f : AF} (h : wA (f σ H) fun ds H1 => ds.length ≤ 1000000 ∧ Q (.ref H1.length) (H1 ++ [.lst ds])) : wE (eLst f σ H) Q := by
  obtain ⟨ds, H1, e1, hl, q⟩ := h
  exact ⟨_, _, ls e1 hl, q⟩
theorem w_lm {g : D → List D → HD → Option (D × HD)} {fo : EF} {f : AF} (h : wE (fo σ H) fun o H1 => isLst o H1 = true ∧ wA (f σ H1) fun ds H2 => wE (g o ds H2) Q) : wE (eLM g fo f σ H) Q := by
  obtain ⟨o, H1, e1, i, ds, H2, e2, d, H3, e3, q⟩ := h
  exact ⟨d, H3, by unfold eLM; rw [e1]; simp only [Option.bind_some]; rw [if_pos i, e2]; exact e3, q⟩
theorem w_tm {g : D → List D → HD → Option (D × HD)} {fo : EF} {f : AF} (h : wE (fo σ H) fun o H1 => isTup o = true ∧ wA (f σ H1) fun ds H2 => wE (g o ds H2) Q) : wE (eTM g fo f σ H) Q := by
  obtain ⟨o, H1, e1, i, ds, H2, e2, d, H3, e3, q⟩ := h
  exact ⟨d, H3, by unfold eTM; rw [e1]; simp only [Option.bind_some]; rw [if_pos i, e2]; exact e3, q⟩
theorem w_dm {g : D → List D → HD → Option (D × HD)} {fo : EF} {f : AF} (h : wE (fo σ H) fun o H1 => isDic o H1 = true ∧ wA (f σ H1) fun ds H2 => wE (g o ds H2) Q) : wE (eDM g fo f σ H) Q := by
  obtain ⟨o, H1, e1, i, ds, H2, e2, d, H3, e3, q⟩ := h
  exact ⟨d, H3, by unfold eDM; rw [e1]; simp only [Option.bind_some]; rw [if_pos i, e2]; exact e3, q⟩
theorem w_dn (q : Q (.ref H.length) (H ++ [.dic [] false])) : wE (eDN σ H) Q := ⟨_, _, rfl, q⟩
theorem w_on {Q : Option Int → HD → Prop} (q : Q none H) : wO (oNone σ H) Q := ⟨none, H, rfl, q⟩
theorem w_os {f : EF} {Q : Option Int → HD → Prop} (h : wE (f σ H) fun d H1 => ∃ i, d = .int i ∧ Q (some i) H1) : wO (oSome f σ H) Q := by
  obtain ⟨d, H1, e, i, rfl, q⟩ := h
  exact ⟨some i, H1, os e, q⟩
theorem w_int {i : Int} {P : Int → Prop} (h : P i) : ∃ c, D.int i = .int c ∧ P c := ⟨i, rfl, h⟩
theorem w_sl {fe : EF} {fl fh : OF} (h : wE (fe σ H) fun x H1 => wO (fl σ H1) fun l H2 => wO (fh σ H2) fun u H3 => wE (slD x l u H3) Q) : wE (eSl fe fl fh σ H) Q := by
  obtain ⟨x, H1, e1, l, H2, e2, u, H3, e3, d, H4, e4, q⟩ := h
  exact ⟨d, H4, sl e1 e2 e3 e4, q⟩
theorem w_rv {fe : EF} (h : wE (fe σ H) fun x H1 => ∃ xs, x = .tup xs ∧ xs.length ≤ 1000000 ∧ Q (.tup xs.reverse) H1) : wE (eRv fe σ H) Q := by
  obtain ⟨x, H1, e1, xs, rfl, hl, q⟩ := h
  exact ⟨_, H1, by unfold eRv; rw [e1]; exact if_pos (size_ok (by rw [List.length_reverse]; exact hl)), q⟩
variable {R : FD → SD → HD → Prop}
theorem w_snil (q : R .nx σ H) : wS (sNil σ H) R := ⟨_, _, _, rfl, q⟩
theorem w_seq {f g : SF} (h : wS (f σ H) (kont (fun σ1 H1 => wS (g σ1 H1) R) R)) : wS (sSeq f g σ H) R := by
  obtain ⟨x, σ1, H1, e, k⟩ := h
  unfold sSeq
  rw [e]; simp only [Option.bind_some]
  cases x with
  | nx => exact k
  | bk => exact ⟨_, _, _, rfl, k⟩
  | ct => exact ⟨_, _, _, rfl, k⟩
  | rt d => exact ⟨_, _, _, rfl, k⟩
theorem w_kn {k : SD → HD → Prop} (h : k σ H) : kont k R .nx σ H := h
theorem w_kr {k : SD → HD → Prop} {d : D} (h : R (.rt d) σ H) : kont k R (.rt d) σ H := h
theorem w_kb {k : SD → HD → Prop} (h : R .bk σ H) : kont k R .bk σ H := h
theorem w_kc {k : SD → HD → Prop} (h : R .ct σ H) : kont k R .ct σ H := h
theorem w_cut {r : Option (FD × SD × HD)} {k : SD → HD → Prop} (J : SD → HD → Prop) (h : wS r fun x σ H => x = .nx ∧ J σ H) (q : ∀ σ H, J σ H → k σ H) : wS r (kont k R) := by
  obtain ⟨x, s, H, e, rfl, j⟩ := h
  exact ⟨_, s, H, e, q s H j⟩
theorem w_fr {d : D} (h : Q d H) : fin Q (.rt d) σ H := h
theorem w_fn (h : Q .non H) : fin Q .nx σ H := h
theorem w_ret {f : EF} (h : wE (f σ H) fun d H1 => R (.rt d) σ H1) : wS (sRet f σ H) R := by
  obtain ⟨d, H1, e, q⟩ := h; exact ⟨_, _, _, rt e, q⟩
theorem w_retn (h : R (.rt .non) σ H) : wS (sRetN σ H) R := ⟨_, _, _, rfl, h⟩
theorem w_brk (h : R .bk σ H) : wS (sBrk σ H) R := ⟨_, _, _, rfl, h⟩
theorem w_cnt (h : R .ct σ H) : wS (sCnt σ H) R := ⟨_, _, _, rfl, h⟩
theorem w_expr {f : EF} (h : wE (f σ H) fun d H1 => R .nx σ H1) : wS (sExpr f σ H) R := by
  obtain ⟨d, H1, e, q⟩ := h; exact ⟨_, _, _, by unfold sExpr; rw [e]; rfl, q⟩
theorem w_if {t : TF} {f g : SF} (h : wT (t σ H) fun b H1 => br b (wS (f σ H1) R) (wS (g σ H1) R)) : wS (sIf t f g σ H) R := by
  obtain ⟨b, H1, e, q1, q2⟩ := h
  rw [iff_t e]
  cases b with
  | true => rw [if_pos rfl]; exact q1 rfl
  | false => rw [if_neg (by simp)]; exact q2 rfl
theorem w_set {i : Nat} {f : EF} (h : wE (f σ H) fun d H1 => R .nx (σ.set i (some d)) H1) : wS (sSet i f σ H) R := by
  obtain ⟨d, H1, e, q⟩ := h; exact ⟨_, _, _, by unfold sSet; rw [e]; rfl, q⟩
theorem w_asg {f : EF} {g : GF} (h : wE (f σ H) fun d H1 => wG (g d σ H1) fun σ2 H2 => R .nx σ2 H2) : wS (sAsg f g σ H) R := by
  obtain ⟨d, H1, e, σ2, H2, e2, q⟩ := h; exact ⟨_, _, _, by unfold sAsg; rw [e]; simp only [Option.bind_some]; rw [e2]; rfl, q⟩
theorem w_gnm {i : Nat} {d : D} {Q : SD → HD → Prop} (h : Q (σ.set i (some d)) H) : wG (gNm i d σ H) Q := ⟨_, _, rfl, h⟩
theorem w_gsb {fo fi : EF} {g : FSet} {d : D} {Q : SD → HD → Prop} (h : wE (fo σ H) fun o H1 => wE (fi σ H1) fun i H2 => wH (g o i d H2) fun H3 => Q σ H3) : wG (gSb fo fi g d σ H) Q := by
  obtain ⟨o, H1, e1, i, H2, e2, H3, e3, q⟩ := h
  exact ⟨σ, H3, by unfold gSb; rw [e1]; simp only [Option.bind_some]; rw [e2]; simp only [Option.bind_some]; rw [e3]; rfl, q⟩
theorem w_gtp {n : Nat} {g : GFs} {ds : List D} {Q : SD → HD → Prop} (hl : ds.length = n) (h : wG (g ds σ H) Q) : wG (gTp n g (.tup ds) σ H) Q := by
  obtain ⟨s, H1, e, q⟩ := h
  exact ⟨s, H1, by unfold gTp; simp only [if_pos hl]; exact e, q⟩
theorem w_gnl {Q : SD → HD → Prop} (h : Q σ H) : wG (gNl [] σ H) Q := ⟨_, _, rfl, h⟩
theorem w_gcn {g : GF} {h : GFs} {d : D} {r : List D} {Q : SD → HD → Prop} (q : wG (g d σ H) fun σ1 H1 => wG (h r σ1 H1) Q) : wG (gCn g h (d :: r) σ H) Q := by
  obtain ⟨s, H1, e, s2, H2, e2, q⟩ := q
  exact ⟨s2, H2, by unfold gCn; simp only; rw [e]; exact e2, q⟩
theorem w_for {it : ItF} {g : GF} {b : SF} (h : wI (it σ H) fun xs own H1 => wS (forL own g b xs σ H1) R) : wS (sFor it g b σ H) R := by
  obtain ⟨xs, own, H1, e, q⟩ := h
  unfold sFor; rw [e]; exact q
theorem w_run {n N : Nat} {b : SF} {ds : List D} (hl : ds.length = n) (h : wS (b (ds.map some ++ List.replicate (N - ds.length) none) H) (fin Q)) : wE (runB n N b ds H) Q := by
  obtain ⟨x, s, H1, e, q⟩ := h
  unfold runB
  rw [if_pos hl, e]
  simp only [Option.bind_some]
  cases x with
  | nx => exact ⟨_, _, rfl, q⟩
  | rt d => exact ⟨_, _, rfl, q⟩
  | bk => exact q.elim
  | ct => exact q.elim
theorem w_lc {it : ItF} {ci : List Nat} {tt : TF} {te : EF} (h : wI (it σ H) fun xs own H1 => wA (compL own (capD ci σ) tt te xs H1) fun ds H2 => ds.length ≤ 1000000 ∧ Q (.ref H2.length) (H2 ++ [.lst ds])) : wE (eLC it ci tt te σ H) Q := by
  obtain ⟨xs, own, H1, e, ds, H2, e2, hl, q⟩ := h
  exact ⟨_, _, by unfold eLC; rw [e]; simp only [Option.bind_some]; rw [e2]; exact if_pos (size_ok hl), q⟩
theorem w_bt {P S : Prop} (h : P) : br true P S := ⟨fun _ => h, nofun⟩
theorem w_bf {P S : Prop} (h : S) : br false P S := ⟨nofun, fun _ => h⟩
theorem w_bnt {P S : Prop} (h : P) : br (!false) P S := ⟨fun _ => h, nofun⟩
theorem w_bnf {P S : Prop} (h : S) : br (!true) P S := ⟨nofun, fun _ => h⟩
theorem w_bT {b : Bool} {P S : Prop} (e : b = true) (h : P) : br b P S := by subst e; exact w_bt h
theorem w_bF {b : Bool} {P S : Prop} (e : b = false) (h : S) : br b P S := by subst e; exact w_bf h
theorem w_sz {ds : List D} {P : Prop} (h : ds.length ≤ 1000000) (q : P) : ds.length ≤ 1000000 ∧ P := ⟨h, q⟩
theorem w_addI {i j : Int} (q : Q (.int (i + j)) H) : wE (addD (.int i) (.int j) H) Q := ⟨_, _, rfl, q⟩
theorem w_addT {a b : List D} (h : a.length + b.length ≤ 1000000) (q : Q (.tup (a ++ b)) H) : wE (addD (.tup a) (.tup b) H) Q := ⟨_, _, adT h, q⟩
theorem w_subI {i j : Int} (q : Q (.int (i - j)) H) : wE (subD (.int i) (.int j) H) Q := ⟨_, _, suI i j H, q⟩
theorem w_lt {i j : Int} (q : Q (.bl (decide (i < j))) H) : wE (ltD (.int i) (.int j) H) Q := ⟨_, _, by simp [ltD, iiD, CT], q⟩
theorem w_le {i j : Int} (q : Q (.bl (decide (i ≤ j))) H) : wE (leD (.int i) (.int j) H) Q := ⟨_, _, by simp [leD, iiD, CT], q⟩
theorem w_gt {i j : Int} (q : Q (.bl (decide (j < i))) H) : wE (gtD (.int i) (.int j) H) Q := ⟨_, _, by simp [gtD, iiD, CT], q⟩
theorem w_ge {i j : Int} (q : Q (.bl (decide (j ≤ i))) H) : wE (geD (.int i) (.int j) H) Q := ⟨_, _, by simp [geD, iiD, CT], q⟩
theorem w_mod {i j : Int} (h : 0 < j) (q : Q (.int (i % j)) H) : wE (modD (.int i) (.int j) H) Q := ⟨_, _, by have c : CPos i j := h; simp [modD, iiD, c], q⟩
theorem w_fdiv {i j : Int} (h : 0 < j) (h2 : j < 1073741824) (q : Q (.int (i / j)) H) : wE (fdivD (.int i) (.int j) H) Q := ⟨_, _, by have c : CDiv i j := ⟨h, h2⟩; simp [fdivD, iiD, c], q⟩
theorem w_mulL {i j : Int} (h1 : -(2 ^ 64) < i) (h2 : i < 2 ^ 64) (q : Q (.int (i * j)) H) : wE (mulD (.int i) (.int j) H) Q := ⟨_, _, by have c : CMul i j := .inl ⟨h1, h2⟩; simp [mulD, c], q⟩
theorem w_mulR {i j : Int} (h1 : -(2 ^ 64) < j) (h2 : j < 2 ^ 64) (q : Q (.int (i * j)) H) : wE (mulD (.int i) (.int j) H) Q := ⟨_, _, by have c : CMul i j := .inr ⟨h1, h2⟩; simp [mulD, c], q⟩
theorem w_pow {i j : Int} (h1 : 0 ≤ j) (h2 : j ≤ 1000000) (h3 : i.natAbs < 2 ^ 64) (q : Q (.int (i ^ j.toNat)) H) : wE (powD (.int i) (.int j) H) Q := ⟨_, _, by have c : CPow i j := ⟨h1, h2, h3⟩; simp [powD, iiD, c], q⟩
theorem w_neg {i : Int} (q : Q (.int (-i)) H) : wE (negD (.int i) H) Q := ⟨_, _, rfl, q⟩
theorem w_eqI {i j : Int} (q : Q (.bl (i == j)) H) : wE (eqD (.int i) (.int j) H) Q := ⟨_, _, eq_int _ _ _, q⟩
theorem w_eqS {a b : Str} (q : Q (.bl (a == b)) H) : wE (eqD (.str a) (.str b) H) Q := ⟨_, _, rfl, q⟩
theorem w_neS {a b : Str} (q : Q (.bl (a != b)) H) : wE (neD (.str a) (.str b) H) Q := ⟨_, _, rfl, q⟩
theorem w_lenT {xs : List D} (q : Q (.int xs.length) H) : wE (lenD [.tup xs] H) Q := ⟨_, _, lenT xs H, q⟩
theorem w_lenR {n : Nat} {xs : List D} (h : H[n]? = some (.lst xs)) (q : Q (.int xs.length) H) : wE (lenD [.ref n] H) Q := ⟨_, _, by simp [lenD, seqD, h], q⟩
theorem w_lenF {xs : List D} (q : Q (.int xs.length) H) : wE (lenD [.fl xs] H) Q := ⟨_, _, by simp [lenD, seqD], q⟩
theorem w_abs {i : Int} (q : Q (.int (absZ i)) H) : wE (absD [.int i] H) Q := ⟨_, _, rfl, q⟩
theorem w_ixT {xs : List D} {i : Int} {d : D} (h : atI xs i = some d) (q : Q d H) : wE (ixD (.tup xs) (.int i) H) Q := ⟨_, _, ixT h, q⟩
theorem w_ixR {n : Nat} {xs : List D} {i : Int} {d : D} (g : H[n]? = some (.lst xs)) (h : atI xs i = some d) (q : Q d H) : wE (ixD (.ref n) (.int i) H) Q := ⟨_, _, by simp [ixD, seqD, g, h], q⟩
theorem w_ixF {xs : List D} {i : Int} {d : D} (h : atI xs i = some d) (q : Q d H) : wE (ixD (.fl xs) (.int i) H) Q := ⟨_, _, by simp [ixD, seqD, h], q⟩
theorem w_intI {i : Int} (q : Q (.int i) H) : wE (intD [.int i] H) Q := ⟨_, _, rfl, q⟩
theorem w_intB {b : Bool} (q : Q (.int (if b then 1 else 0)) H) : wE (intD [.bl b] H) Q := ⟨_, _, rfl, q⟩
theorem w_max {i j : Int} (q : Q (.int (if j > i then j else i)) H) : wE (maxD [.int i, .int j] H) Q := ⟨_, _, rfl, q⟩
theorem w_min {i j : Int} (q : Q (.int (if j < i then j else i)) H) : wE (minD [.int i, .int j] H) Q := ⟨_, _, rfl, q⟩
theorem w_tupR {n : Nat} {xs : List D} (h : H[n]? = some (.lst xs)) (q : Q (.tup xs) H) : wE (tupleD [.ref n] H) Q := ⟨_, _, tu h, q⟩
theorem w_app {n : Nat} {xs : List D} {d : D} (h : H[n]? = some (.lst xs)) (hl : xs.length < 1000000) (q : Q .non (H.set n (.lst (xs ++ [d])))) : wE (appendD (.ref n) [d] H) Q :=
  ⟨_, _, by simp [appendD, h, Nat.lt_of_lt_of_le hl (size_ok (Nat.le_refl _))], q⟩
theorem w_isi {d : D} {c t : String} (ha : asked c = true) (h : tyD d H = some t) (q : Q (.bl (t == c || (t == "bool" && c == "int"))) H) : wE (isiD [d, .ty c] H) Q := ⟨_, _, by simp [isiD, ha, h], q⟩
theorem w_isN {d : D} {b : Bool} (h : isB d .non = some b) (q : Q (.bl b) H) : wE (isD d .non H) Q := ⟨_, _, by simp [isD, h], q⟩
theorem w_isnN {d : D} {b : Bool} (h : isB d .non = some b) (q : Q (.bl (!b)) H) : wE (isnD d .non H) Q := ⟨_, _, by simp [isnD, h], q⟩
theorem w_isBl {d : D} {c b : Bool} (h : isB d (.bl c) = some b) (q : Q (.bl b) H) : wE (isD d (.bl c) H) Q := ⟨_, _, by simp [isD, h], q⟩
theorem w_isnBl {d : D} {c b : Bool} (h : isB d (.bl c) = some b) (q : Q (.bl (!b)) H) : wE (isnD d (.bl c) H) Q := ⟨_, _, by simp [isnD, h], q⟩
theorem w_truB {b : Bool} {P : Bool → Prop} (h : P b) : ∃ c, truD (.bl b) H = some c ∧ P c := ⟨b, rfl, h⟩
theorem w_truT {xs : List D} {P : Bool → Prop} (h : P (!xs.isEmpty)) : ∃ c, truD (.tup xs) H = some c ∧ P c := ⟨_, rfl, h⟩
theorem w_truN {P : Bool → Prop} (h : P false) : ∃ c, truD .non H = some c ∧ P c := ⟨_, rfl, h⟩
theorem w_isi' {d : D} {c t : String} {r : Bool} (ha : asked c = true) (h : tyD d H = some t) (hr : (t == c || (t == "bool" && c == "int")) = r) (q : Q (.bl r) H) : wE (isiD [d, .ty c] H) Q := w_isi ha h (by rw [hr]; exact q)
theorem w_eqS' {a b : Str} {r : Bool} (hr : (a == b) = r) (q : Q (.bl r) H) : wE (eqD (.str a) (.str b) H) Q := w_eqS (by rw [hr]; exact q)
theorem w_neS' {a b : Str} {r : Bool} (hr : (a == b) = r) (q : Q (.bl (!r)) H) : wE (neD (.str a) (.str b) H) Q := w_neS (by rw [bne, hr]; exact q)
theorem w_eqI' {a b : Int} {r : Bool} (hr : (a == b) = r) (q : Q (.bl r) H) : wE (eqD (.int a) (.int b) H) Q := w_eqI (by rw [hr]; exact q)
theorem w_slhi {xs : List D} {k : Nat} (q : Q (.tup (xs.take k)) H) : wE (slD (.tup xs) none (some (k : Int)) H) Q := ⟨_, _, slhi, q⟩
theorem w_sllo {xs : List D} {k : Nat} (q : Q (.tup (xs.drop k)) H) : wE (slD (.tup xs) (some (k : Int)) none H) Q := ⟨_, _, sllo, q⟩
theorem w_sllo1 {xs : List D} {k : Nat} (q : Q (.tup (xs.drop (k + 1))) H) : wE (slD (.tup xs) (some ((k : Int) + 1)) none H) Q := ⟨_, _, sllo (k := k + 1), q⟩
variable {I : List D → OwnD → HD → Prop}
theorem w_isq {f : EF} (h : wE (f σ H) fun d H1 => ∃ xs own, itemsD d H1 = some (xs, own) ∧ I xs own H1) : wI (iSq f σ H) I := by
  obtain ⟨d, H1, e, xs, own, e2, q⟩ := h
  exact ⟨xs, own, H1, by unfold iSq; rw [e]; simp only [Option.bind_some]; rw [e2]; rfl, q⟩
theorem w_itT {xs : List D} {P : List D → OwnD → Prop} (h : P xs []) : ∃ ys own, itemsD (.tup xs) H = some (ys, own) ∧ P ys own := ⟨_, _, rfl, h⟩
theorem w_itF {xs : List D} {P : List D → OwnD → Prop} (h : P xs []) : ∃ ys own, itemsD (.fl xs) H = some (ys, own) ∧ P ys own := ⟨_, _, rfl, h⟩
theorem w_itR {n : Nat} {xs : List D} {P : List D → OwnD → Prop} (g : H[n]? = some (.lst xs)) (h : P xs [(n, .lst xs)]) : ∃ ys own, itemsD (.ref n) H = some (ys, own) ∧ P ys own := ⟨_, _, by simp [itemsD, g], h⟩
theorem w_ir1 {f : AF} (h : wA (f σ H) fun ds H1 => ∃ j, ds = [.int j] ∧ smallI j ∧ I (rangeL 0 j.toNat) [] H1) : wI (iR1 f σ H) I := by
  obtain ⟨ds, H1, e, j, rfl, s, q⟩ := h
  exact ⟨_, _, H1, by unfold iR1; rw [e]; exact if_pos s, q⟩
theorem w_ir2 {f : AF} (h : wA (f σ H) fun ds H1 => ∃ i j, ds = [.int i, .int j] ∧ smallI i ∧ smallI j ∧ I (rangeL i (j - i).toNat) [] H1) : wI (iR2 f σ H) I := by
  obtain ⟨ds, H1, e, i, j, rfl, s1, s2, q⟩ := h
  exact ⟨_, _, H1, by unfold iR2; rw [e]; exact if_pos ⟨s1, s2⟩, q⟩
theorem w_ir3 {f : AF} (h : wA (f σ H) fun ds H1 => ∃ i j c, ds = [.int i, .int j, .int c] ∧ small3 i j c ∧ I (rangeL3 i c (size3 i j c)) [] H1) : wI (iR3 f σ H) I := by
  obtain ⟨ds, H1, e, i, j, c, rfl, s1, q⟩ := h
  exact ⟨_, _, H1, by unfold iR3; rw [e]; exact if_pos s1, q⟩
theorem w_idic {f : EF} (h : wE (f σ H) fun d H1 => ∃ n kvs fz, d = .ref n ∧ H1[n]? = some (.dic kvs fz) ∧ I (kvs.map (·.1)) [(n, .dic kvs true)] (H1.set n (.dic kvs true))) : wI (iDic f σ H) I := by
  obtain ⟨d, H1, e, n, kvs, fz, rfl, g, q⟩ := h
  exact ⟨_, _, _, by unfold iDic; rw [e]; simp only [Option.bind_some, g], q⟩
theorem w_enum {f : AF} (h : wA (f σ H) fun ds H1 => ∃ xs, ds = [.tup xs] ∧ I (enumL 0 xs) [] H1) : wI (iEnum f σ H) I := by
  obtain ⟨ds, H1, e, xs, rfl, q⟩ := h
  exact ⟨_, _, H1, by unfold iEnum; rw [e]; rfl, q⟩
theorem w_enum1 {f : AF} (h : wA (f σ H) fun ds H1 => ∃ xs, ds = [.tup xs] ∧ I (enumL 1 xs) [] H1) : wI (iEnum1 f σ H) I := by
  obtain ⟨ds, H1, e, xs, rfl, q⟩ := h
  exact ⟨_, _, H1, by unfold iEnum1; rw [e]; rfl, q⟩
theorem w_zip {f : AF} (h : wA (f σ H) fun ds H1 => ∃ d1 d2 a b, ds = [d1, d2] ∧ srcD d1 H1 = some a ∧ srcD d2 H1 = some b ∧ I (zipL a.1 b.1) (a.2 ++ b.2) H1) : wI (iZipS f σ H) I := by
  obtain ⟨ds, H1, e, d1, d2, a, b, rfl, e1, e2, q⟩ := h
  exact ⟨_, _, H1, by unfold iZipS; rw [e]; simp only [Option.bind_some]; rw [e1]; simp only [Option.bind_some]; rw [e2]; rfl, q⟩
theorem w_fnil {own : OwnD} {g : GF} {b : SF} (h : okOwn own H) (q : R .nx σ H) : wS (forL own g b [] σ H) R := ⟨_, _, _, by rw [forL, if_pos h], q⟩
noncomputable def again (k : SD → HD → Prop) (R : FD → SD → HD → Prop) : FD → SD → HD → Prop
  | .nx, σ, H => k σ H
  | .ct, σ, H => k σ H
  | .bk, σ, H => R .nx σ H
  | .rt d, σ, H => R (.rt d) σ H
theorem w_fcons {own : OwnD} {g : GF} {b : SF} {x : D} {r : List D} (h : okOwn own H) (q : wG (g x σ H) fun σ1 H1 => wS (b σ1 H1) (again (fun σ2 H2 => wS (forL own g b r σ2 H2) R) R)) : wS (forL own g b (x :: r) σ H) R := by
  obtain ⟨σ1, H1, e1, y, σ2, H2, e2, q⟩ := q
  rw [forL, if_pos h, e1]
  simp only [Option.bind_some]
  rw [e2]
  cases y with
  | nx => exact q
  | ct => exact q
  | bk => exact ⟨_, _, _, rfl, q⟩
  | rt d => exact ⟨_, _, _, rfl, q⟩
theorem w_agn {k : SD → HD → Prop} (h : k σ H) : again k R .nx σ H := h
theorem w_agc {k : SD → HD → Prop} (h : k σ H) : again k R .ct σ H := h
theorem w_agb {k : SD → HD → Prop} (h : R .nx σ H) : again k R .bk σ H := h
theorem w_agr {k : SD → HD → Prop} {d : D} (h : R (.rt d) σ H) : again k R (.rt d) σ H := h
theorem w_loop {own : OwnD} {g : GF} {b : SF} (Inv : List D → List D → SD → HD → Prop) (ho : ∀ d t σ H, Inv d t σ H → okOwn own H)
    (st : ∀ d x t σ H, Inv d (x :: t) σ H → wG (g x σ H) fun σ1 H1 => wS (b σ1 H1) (again (fun σ2 H2 => Inv (d ++ [x]) t σ2 H2) R))
    (q : ∀ d σ H, Inv d [] σ H → R .nx σ H) : ∀ (t d : List D) (σ : SD) (H : HD), Inv d t σ H → wS (forL own g b t σ H) R
  | [], d, σ, H, i => w_fnil (ho _ _ _ _ i) (q d σ H i)
  | x :: t, d, σ, H, i => by
    refine w_fcons (ho _ _ _ _ i) ?_
    obtain ⟨σ1, H1, e1, y, σ2, H2, e2, k⟩ := st d x t σ H i
    refine ⟨σ1, H1, e1, y, σ2, H2, e2, ?_⟩
    cases y with
    | nx => exact w_loop Inv ho st q t _ σ2 H2 k
    | ct => exact w_loop Inv ho st q t _ σ2 H2 k
    | bk => exact k
    | rt d => exact k
theorem w_each {own : OwnD} {g : GF} {b : SF} (Inv : SD → HD → Prop) (ho : ∀ σ H, Inv σ H → okOwn own H) : ∀ (xs : List D) (st : ∀ x ∈ xs, ∀ σ H, Inv σ H → wG (g x σ H) fun σ1 H1 => wS (b σ1 H1) (again Inv R)) (σ : SD) (H : HD), Inv σ H → (∀ σ H, Inv σ H → R .nx σ H) → wS (forL own g b xs σ H) R
  | [], st, σ, H, i, q => w_fnil (ho _ _ i) (q σ H i)
  | x :: t, st, σ, H, i, q => by
    refine w_fcons (ho _ _ i) ?_
    obtain ⟨σ1, H1, e1, y, σ2, H2, e2, k⟩ := st x (by simp) σ H i
    refine ⟨σ1, H1, e1, y, σ2, H2, e2, ?_⟩
    cases y with
    | nx => exact w_each Inv ho t (fun z hz => st z (by simp [hz])) σ2 H2 k q
    | ct => exact w_each Inv ho t (fun z hz => st z (by simp [hz])) σ2 H2 k q
    | bk => exact k
    | rt d => exact k
theorem w_cnil {own : OwnD} {c0 : SD} {tt : TF} {te : EF} {Q : List D → HD → Prop} (h : okOwn own H) (q : Q [] H) : wA (compL own c0 tt te [] H) Q := ⟨_, _, by rw [compL, if_pos h], q⟩
theorem w_ccons {own : OwnD} {c0 : SD} {tt : TF} {te : EF} {x : D} {r : List D} {Q : List D → HD → Prop} (h : okOwn own H)
    (q : wT (tt (some x :: c0) H) fun b H1 => br b (wE (te (some x :: c0) H1) fun e H2 => wA (compL own c0 tt te r H2) fun es H3 => Q (e :: es) H3) (wA (compL own c0 tt te r H1) Q)) : wA (compL own c0 tt te (x :: r) H) Q := by
  obtain ⟨b, H1, e1, q1, q2⟩ := q
  rw [compL, if_pos h, e1]
  simp only [Option.bind_some]
  cases b with
  | true =>
    obtain ⟨e, H2, e2, es, H3, e3, q⟩ := q1 rfl
    exact ⟨e :: es, H3, by rw [if_pos rfl, e2]; simp only [Option.bind_some]; rw [e3]; rfl, q⟩
  | false => rw [if_neg (by simp)]; exact q2 rfl
theorem w_yes {Q : Bool → HD → Prop} (q : Q true H) : wT (tYes σ H) Q := ⟨_, _, rfl, q⟩
theorem w_comp {own : OwnD} {c0 : SD} {tt : TF} {te : EF} (Inv : List D → List D → List D → HD → Prop) (ho : ∀ d t o H, Inv d t o H → okOwn own H)
    (st : ∀ d x t o H, Inv d (x :: t) o H → wT (tt (some x :: c0) H) fun b H1 => br b (wE (te (some x :: c0) H1) fun e H2 => Inv (d ++ [x]) t (o ++ [e]) H2) (Inv (d ++ [x]) t o H1))
    {Q : List D → HD → Prop} : ∀ (t d o : List D) (H : HD), Inv d t o H → (∀ d o' H', Inv d [] (o ++ o') H' → Q o' H') → wA (compL own c0 tt te t H) Q
  | [], d, o, H, i, q => w_cnil (ho _ _ _ _ i) (q d [] H (by rw [List.append_nil]; exact i))
  | x :: t, d, o, H, i, q => by
    refine w_ccons (ho _ _ _ _ i) ?_
    obtain ⟨b, H1, e1, q1, q2⟩ := st d x t o H i
    refine ⟨b, H1, e1, fun h => ?_, fun h => ?_⟩
    · obtain ⟨e, H2, e2, k⟩ := q1 h
      refine ⟨e, H2, e2, ?_⟩
      refine w_comp Inv ho st t _ _ H2 k fun d' o' H' i' => q d' (e :: o') H' ?_
      rw [List.append_assoc] at i'; exact i'
    · exact w_comp Inv ho st t _ _ H1 (q2 h) fun d' o' H' i' => q d' o' H' i'
theorem w_cfilter {own : OwnD} {c0 : SD} {tt : TF} (f : D → Bool) (J : HD → Prop) (ho : ∀ H, J H → okOwn own H) {Q : List D → HD → Prop} : ∀ (xs : List D) (st : ∀ x ∈ xs, ∀ H, J H → wT (tt (some x :: c0) H) fun b H1 => b = f x ∧ J H1) (H : HD), J H → (∀ H', J H' → Q (xs.filter f) H') → wA (compL own c0 tt (eVar 0) xs H) Q
  | [], st, H, j, q => w_cnil (ho H j) (q H j)
  | x :: xs, st, H, j, q => by
    refine w_ccons (ho H j) ?_
    obtain ⟨b, H1, e, rfl, j1⟩ := st x (by simp) H j
    refine ⟨_, H1, e, fun h => ?_, fun h => ?_⟩
    · refine ⟨x, H1, rfl, ?_⟩
      refine w_cfilter f J ho xs (fun y hy => st y (by simp [hy])) H1 j1 fun H' j' => ?_
      have := q H' j'
      rwa [List.filter_cons_of_pos h] at this
    · refine w_cfilter f J ho xs (fun y hy => st y (by simp [hy])) H1 j1 fun H' j' => ?_
      have := q H' j'
      rwa [List.filter_cons_of_neg (by rw [h]; simp)] at this
theorem w_cmap {own : OwnD} {c0 : SD} {te : EF} (g : D → D) (J : HD → Prop) (ho : ∀ H, J H → okOwn own H) {Q : List D → HD → Prop} : ∀ (xs : List D) (st : ∀ x ∈ xs, ∀ H, J H → wE (te (some x :: c0) H) fun d H1 => d = g x ∧ J H1) (H : HD), J H → (∀ H', J H' → Q (xs.map g) H') → wA (compL own c0 tYes te xs H) Q
  | [], st, H, j, q => w_cnil (ho H j) (q H j)
  | x :: xs, st, H, j, q => by
    refine w_ccons (ho H j) (w_yes (w_bt ?_))
    obtain ⟨b, H1, e, rfl, j1⟩ := st x (by simp) H j
    exact ⟨_, H1, e, w_cmap g J ho xs (fun y hy => st y (by simp [hy])) H1 j1 q⟩
end
structure Fm (S : List Nat) (H H' : HD) : Prop where
  old : ∀ (m : Nat) (o : DO), m ∉ S → H[m]? = some o → H'[m]? = some o ∨ ∃ kvs, o = .dic kvs false ∧ H'[m]? = some (.dic kvs true)
  len : H.length ≤ H'.length
theorem Fm.refl {S : List Nat} {H : HD} : Fm S H H := ⟨fun _ _ _ h => .inl h, Nat.le_refl _⟩
theorem Fm.trans {S : List Nat} {H H1 H2 : HD} (a : Fm S H H1) (b : Fm S H1 H2) : Fm S H H2 := by
  refine ⟨fun m o hm h => ?_, Nat.le_trans a.len b.len⟩
  rcases a.old m o hm h with h1 | ⟨kvs, rfl, h1⟩
  · exact b.old m o hm h1
  · rcases b.old m _ hm h1 with h2 | ⟨k2, e, _⟩
    · exact .inr ⟨kvs, rfl, h2⟩
    · cases e
theorem Fm.sub {S T : List Nat} {H H' : HD} (a : Fm S H H') (h : ∀ m ∈ S, m ∈ T) : Fm T H H' := ⟨fun m o hm q => a.old m o (fun z => hm (h m z)) q, a.len⟩
theorem Fm.app {S : List Nat} {H : HD} (L : HD) : Fm S H (H ++ L) := ⟨fun m o _ q => .inl (by
  have : m < H.length := (List.getElem?_eq_some_iff.mp q).1
  rw [List.getElem?_append_left this]; exact q), by simp⟩
theorem Fm.set {S : List Nat} {H : HD} {p : Nat} {o : DO} (h : p ∈ S) : Fm S H (H.set p o) := ⟨fun m u hm q => .inl (by rw [List.getElem?_set_ne (fun z => hm (by rw [← z]; exact h))]; exact q), by simp⟩
theorem Fm.new {S T : List Nat} {H H1 H' : HD} (a : Fm S H H1) (b : Fm T H1 H') (h : ∀ m ∈ T, m ∉ S → H.length ≤ m) : Fm S H H' := by
  refine ⟨fun m o hm q => ?_, Nat.le_trans a.len b.len⟩
  have lt : m < H.length := (List.getElem?_eq_some_iff.mp q).1
  have ht : m ∉ T := fun z => by have := h m z hm; omega
  rcases a.old m o hm q with h1 | ⟨kvs, rfl, h1⟩
  · exact b.old m o ht h1
  · rcases b.old m _ ht h1 with h2 | ⟨k2, e, _⟩
    · exact .inr ⟨kvs, rfl, h2⟩
    · cases e
theorem Fm.lst {S : List Nat} {H H' : HD} (x : Fm S H H') {m : Nat} {xs : List D} (hm : m ∉ S) (h : H[m]? = some (.lst xs)) : H'[m]? = some (.lst xs) := by
  rcases x.old m _ hm h with h1 | ⟨k2, e, _⟩
  · exact h1
  · cases e
theorem Fm.fr {S : List Nat} {H H' : HD} (x : Fm S H H') {m : Nat} {kvs : List (D × D)} (hm : m ∉ S) (h : H[m]? = some (.dic kvs true)) : H'[m]? = some (.dic kvs true) := by
  rcases x.old m _ hm h with h1 | ⟨k2, e, _⟩
  · exact h1
  · cases e
theorem Fm.dic {S : List Nat} {H H' : HD} (x : Fm S H H') {m : Nat} {kvs : List (D × D)} {fz : Bool} (hm : m ∉ S) (h : H[m]? = some (.dic kvs fz)) : ∃ fz', H'[m]? = some (.dic kvs fz') := by
  rcases x.old m _ hm h with h1 | ⟨k2, e, h1⟩
  · exact ⟨fz, h1⟩
  · cases e; exact ⟨true, h1⟩
theorem isl {H : HD} {n : Nat} {xs : List D} (h : H[n]? = some (.lst xs)) : isLst (.ref n) H = true := by simp [isLst, h]
theorem own1 {H : HD} {n : Nat} {o : DO} (h : H[n]? = some o) : okOwn [(n, o)] H := by intro p hp; simp at hp; subst hp; exact h
theorem own0 {H : HD} : okOwn [] H := by intro p hp; cases hp
theorem last {H : HD} {o : DO} : (H ++ [o])[H.length]? = some o := by simp
theorem appL {H : HD} {n : Nat} {o u : DO} (h : H[n]? = some o) : (H ++ [u])[n]? = some o := by
  rw [List.getElem?_append_left (List.getElem?_eq_some_iff.mp h).1]; exact h
theorem setO {H : HD} {n m : Nat} {o u : DO} (hn : n ≠ m) (h : H[m]? = some o) : (H.set n u)[m]? = some o := by rw [List.getElem?_set_ne hn]; exact h
theorem setS {H : HD} {n : Nat} {o u : DO} (h : H[n]? = some u) : (H.set n o)[n]? = some o := List.getElem?_set_self (List.getElem?_eq_some_iff.mp h).1
end WP
namespace WP
open PySem L2 DL LH
structure Fine (d : D) (x : PyData) (h : Nat) : Prop where
  to : ∀ H n, toP H n d = some x
  lay : x.canLay0 = true
  dep : x.depth ≤ h
theorem Fine.le {d : D} {x : PyData} {h h' : Nat} (f : Fine d x h) (l : h ≤ h') : Fine d x h' := ⟨f.to, f.lay, Nat.le_trans f.dep l⟩
theorem Fine.int (i : Int) : Fine (.int i) (.int i) 0 := ⟨fun H n => toP_int H n i, rfl, Nat.le_refl _⟩
theorem Fine.bl (b : Bool) : Fine (.bl b) (.bool b) 0 := ⟨fun H n => toP_bl H n b, rfl, Nat.le_refl _⟩
theorem Fine.non : Fine .non .none 0 := ⟨fun H n => toP_non H n, rfl, Nat.le_refl _⟩
theorem Fine.str {s : Str} (h : PyData.strOk s = true) : Fine (.str s) (.str s) 0 := ⟨fun H n => toP_str H n s, h, Nat.le_refl _⟩
structure Fines (ds : List D) (xs : List PyData) (h : Nat) : Prop where
  to : ∀ H n, toPs H n ds = some xs
  lay : PyData.canLayAll0 xs = true
  dep : PyData.depthAll xs ≤ h
  len : xs.length = ds.length
theorem Fines.nil {h : Nat} : Fines [] [] h := ⟨fun H n => by rw [toPs], rfl, Nat.zero_le _, rfl⟩
theorem Fines.cons {d : D} {x : PyData} {ds : List D} {xs : List PyData} {h : Nat} (a : Fine d x h) (b : Fines ds xs h) : Fines (d :: ds) (x :: xs) h :=
  ⟨fun H n => by rw [toPs, a.to, b.to]; rfl, by simp [PyData.canLayAll0, a.lay, b.lay], by simp only [PyData.depthAll]; exact Nat.max_le.mpr ⟨a.dep, b.dep⟩, by simp [b.len]⟩
theorem Fines.le {ds : List D} {xs : List PyData} {h h' : Nat} (f : Fines ds xs h) (l : h ≤ h') : Fines ds xs h' := ⟨f.to, f.lay, Nat.le_trans f.dep l, f.len⟩
theorem Fines.of {h : Nat} : ∀ ds : List D, (∀ d ∈ ds, ∃ x, Fine d x h) → ∃ xs, Fines ds xs h
  | [], _ => ⟨[], .nil⟩
  | d :: ds, f => by
    obtain ⟨x, a⟩ := f d (by simp)
    obtain ⟨xs, b⟩ := Fines.of ds fun e he => f e (by simp [he])
    exact ⟨x :: xs, .cons a b⟩
theorem Fine.tup {ds : List D} {xs : List PyData} {h : Nat} (f : Fines ds xs h) : Fine (.tup ds) (.tuple xs) (h + 1) :=
  ⟨fun H n => by cases n <;> rw [toP, f.to] <;> rfl, f.lay, Nat.succ_le_succ f.dep⟩
theorem Fine.dat {d : D} {x : PyData} {h : Nat} (f : Fine d x h) (l : h ≤ 30) (H : HD) : DL.dat d H = some x := by
  unfold DL.dat
  rw [f.to]
  have : x.depth ≤ 30 := Nat.le_trans f.dep l
  simp [okP, f.lay, this]
theorem Fines.dat {ds : List D} {xs : List PyData} {h : Nat} (f : Fines ds xs h) (l : h < 30) {H : HD} {p : Nat} (g : H[p]? = some (.lst ds)) : DL.dat (.ref p) H = some (.list xs) := by
  unfold DL.dat
  rw [toP]
  simp only [g]
  rw [f.to]
  have : (PyData.list xs).depth ≤ 30 := Nat.le_trans (Nat.succ_le_succ f.dep) l
  have h2 : (PyData.list xs).canLay0 = true := f.lay
  simp [okP, h2, this]
mutual
theorem eqv_refl : ∀ x : PyData, x.canLay0 = true → PyData.eqv x x = true
  | .none, _ => by simp [PyData.eqv]
  | .bool _, _ => by simp [PyData.eqv]
  | .int _, _ => by simp [PyData.eqv]
  | .str _, _ => by simp [PyData.eqv]
  | .list xs, h => by rw [PyData.eqv]; exact eqvAll_refl xs h
  | .tuple xs, h => by rw [PyData.eqv]; exact eqvAll_refl xs h
  | .dict _, h => by cases h
theorem eqvAll_refl : ∀ xs : List PyData, PyData.canLayAll0 xs = true → PyData.eqvAll xs xs = true
  | [], _ => by rw [PyData.eqvAll]
  | x :: xs, h => by
    simp only [PyData.canLayAll0, Bool.and_eq_true] at h
    rw [PyData.eqvAll, eqv_refl x h.1, eqvAll_refl xs h.2]; rfl
end
theorem eqD_dat {a b : D} {x y : PyData} {H : HD} (h1 : dat a H = some x) (h2 : dat b H = some y) : eqD a b H = some (.bl (PyData.eqv x y), H) := by
  unfold eqD
  cases e : twoS a b with
  | none => rw [h1, h2]; rfl
  | some p =>
    obtain ⟨s, t⟩ := p
    unfold twoS at e
    split at e
    · cases e
      unfold dat at h1 h2
      rw [toP_str] at h1 h2
      simp only [Option.bind_some] at h1 h2
      split at h1
      · split at h2
        · cases h1; cases h2; simp [PyData.eqv]
        · cases h2
      · cases h1
    · cases e
theorem neD_dat {a b : D} {x y : PyData} {H : HD} (h1 : dat a H = some x) (h2 : dat b H = some y) : neD a b H = some (.bl (!PyData.eqv x y), H) := by
  unfold neD
  cases e : twoS a b with
  | none => rw [h1, h2]; rfl
  | some p =>
    obtain ⟨s, t⟩ := p
    unfold twoS at e
    split at e
    · cases e
      unfold dat at h1 h2
      rw [toP_str] at h1 h2
      simp only [Option.bind_some] at h1 h2
      split at h1
      · split at h2
        · cases h1; cases h2; simp [PyData.eqv]; rfl
        · cases h2
      · cases h1
    · cases e
variable {H : HD} {Q : D → HD → Prop}
theorem w_eqF {a b : D} {x y : PyData} {h k : Nat} (f : Fine a x h) (g : Fine b y k) (hh : h ≤ 30) (hk : k ≤ 30) (q : Q (.bl (PyData.eqv x y)) H) : wE (eqD a b H) Q := ⟨_, _, eqD_dat (f.dat hh H) (g.dat hk H), q⟩
theorem w_neF {a b : D} {x y : PyData} {h k : Nat} (f : Fine a x h) (g : Fine b y k) (hh : h ≤ 30) (hk : k ≤ 30) (q : Q (.bl (!PyData.eqv x y)) H) : wE (neD a b H) Q := ⟨_, _, neD_dat (f.dat hh H) (g.dat hk H), q⟩
theorem w_neSame {a : D} {x : PyData} {h : Nat} (f : Fine a x h) (hh : h ≤ 30) (q : Q (.bl false) H) : wE (neD a a H) Q := w_neF f f hh hh (by rw [eqv_refl x f.lay]; exact q)
theorem eqv_nil {xs : List D} {ys : List PyData} {h : Nat} (f : Fines xs ys h) : PyData.eqv (.tuple ys) (.tuple []) = xs.isEmpty := by
  have := f.len
  cases ys with
  | nil => cases xs with
    | nil => rfl
    | cons _ _ => simp at this
  | cons p ps => cases xs with
    | nil => simp at this
    | cons _ _ => simp [PyData.eqv, PyData.eqvAll]
theorem w_eqNil {xs : List D} {ys : List PyData} {h : Nat} (f : Fines xs ys h) (hh : h < 30) (q : Q (.bl xs.isEmpty) H) : wE (eqD (.tup xs) (.tup []) H) Q :=
  w_eqF (Fine.tup f) (Fine.tup (Fines.nil (h := 0))) (by omega) (by omega) (by rw [eqv_nil f]; exact q)
theorem w_inL {a : D} {x : PyData} {h k p : Nat} {ds : List D} {xs : List PyData} (f : Fine a x h) (g : Fines ds xs k) (hh : h ≤ 30) (hk : k < 30) (hp : H[p]? = some (.lst ds)) (q : Q (.bl (xs.any fun z => PyData.eqv z x)) H) : wE (inD a (.ref p) H) Q :=
  ⟨_, _, by unfold inD; rw [f.dat hh, Option.bind_some, g.dat hk hp]; rfl, q⟩
theorem w_inT {a : D} {x : PyData} {h k : Nat} {ds : List D} {xs : List PyData} (f : Fine a x h) (g : Fines ds xs k) (hh : h ≤ 30) (hk : k < 30) (q : Q (.bl (xs.any fun z => PyData.eqv z x)) H) : wE (inD a (.tup ds) H) Q :=
  ⟨_, _, by unfold inD; rw [f.dat hh, Option.bind_some, (Fine.tup g).dat hk]; rfl, q⟩
theorem w_neI {i j : Int} (q : Q (.bl (!(i == j))) H) : wE (neD (.int i) (.int j) H) Q := w_neF (.int i) (.int j) (by omega) (by omega) (by simpa [PyData.eqv] using q)
theorem w_neI' {i j : Int} {r : Bool} (hr : (i == j) = r) (q : Q (.bl (!r)) H) : wE (neD (.int i) (.int j) H) Q := w_neI (by rw [hr]; exact q)
end WP
namespace WP
open PySem L2 DL LH
noncomputable def wX (n : Option (FD × SD × HD)) (y : Option (Int × HD)) (R : Int → HD → Prop) : Prop := n = none ∧ ∃ i H, y = some (i, H) ∧ R i H
section
variable {σ : SD} {H : HD} {R : Int → HD → Prop}
theorem wx_seq {f g : SF} {b : YFs} (h : wS (f σ H) (kont (fun σ1 H1 => wX (g σ1 H1) (b σ1 H1) R) fun _ _ _ => False)) : wX (sSeq f g σ H) (ySeq f b σ H) R := by
  obtain ⟨x, σ1, H1, e, k⟩ := h
  unfold sSeq ySeq
  rw [e]
  simp only [Option.bind_some]
  cases x with
  | nx => exact k
  | bk => exact k.elim
  | ct => exact k.elim
  | rt d => exact k.elim
theorem wx_no {f g : SF} {σ : SD} {H : HD} (e : f σ H = none) : sSeq f g σ H = none := by unfold sSeq; rw [e]; rfl
theorem wx_fst {f g : SF} {a b : YFs} (h : wX (f σ H) (a σ H) R) : wX (sSeq f g σ H) (yEi f a b σ H) R := by
  obtain ⟨e, k⟩ := h
  refine ⟨wx_no e, ?_⟩
  unfold yEi
  rw [e]
  exact k
theorem wx_snd {f g : SF} {a b : YFs} (h : wS (f σ H) (kont (fun σ1 H1 => wX (g σ1 H1) (b σ1 H1) R) fun _ _ _ => False)) : wX (sSeq f g σ H) (yEi f a b σ H) R := by
  obtain ⟨x, σ1, H1, e, k⟩ := h
  unfold sSeq yEi
  rw [e]
  simp only [Option.bind_some]
  cases x with
  | nx => exact k
  | bk => exact k.elim
  | ct => exact k.elim
  | rt d => exact k.elim
theorem wx_end {f g : SF} {a : YFs} (h : wX (f σ H) (a σ H) R) : wX (sSeq f g σ H) (a σ H) R := ⟨wx_no h.1, h.2⟩
theorem wx_if {t : TF} {f g : SF} {a b : YFs} (h : wT (t σ H) fun c H1 => br c (wX (f σ H1) (a σ H1) R) (wX (g σ H1) (b σ H1) R)) : wX (sIf t f g σ H) (yIf t a b σ H) R := by
  obtain ⟨c, H1, e, q1, q2⟩ := h
  rw [iff_t e]
  unfold yIf
  rw [e]
  simp only [Option.bind_some]
  cases c with
  | true => rw [if_pos rfl, if_pos rfl]; exact q1 rfl
  | false => rw [if_neg (by simp), if_neg (by simp)]; exact q2 rfl
theorem wx_raise {g : SF} {fe : EF} (h : wE (fe σ H) fun d H1 => ∃ i, d = .int i ∧ i.natAbs < 1000000 ∧ R i H1) : wX (sSeq sErr g σ H) (yRaise fe σ H) R := by
  obtain ⟨d, H1, e, i, rfl, hi, q⟩ := h
  refine ⟨rfl, i, H1, ?_, q⟩
  unfold yRaise
  rw [e]
  exact if_pos hi
theorem wx_for {it : ItF} {g : GF} {b : SF} {yb : YFs} (h : wI (it σ H) fun xs own H1 => wX (forL own g b xs σ H1) (yForL own g b yb xs σ H1) R) : wX (sFor it g b σ H) (yFor it g b yb σ H) R := by
  obtain ⟨xs, own, H1, e, q⟩ := h
  unfold sFor yFor; rw [e]; exact q
theorem wx_more {own : OwnD} {g : GF} {b : SF} {yb : YFs} {x : D} {t : List D} (h : okOwn own H) (q : wG (g x σ H) fun σ1 H1 => wS (b σ1 H1) (again (fun σ2 H2 => wX (forL own g b t σ2 H2) (yForL own g b yb t σ2 H2) R) fun _ _ _ => False)) :
    wX (forL own g b (x :: t) σ H) (yForL own g b yb (x :: t) σ H) R := by
  obtain ⟨σ1, H1, e1, y, σ2, H2, e2, q⟩ := q
  rw [forL, yForL, if_pos h, if_pos h, e1]
  simp only [Option.bind_some]
  rw [e2]
  cases y with
  | nx => exact q
  | ct => exact q
  | bk => exact q.elim
  | rt d => exact q.elim
theorem wx_here {own : OwnD} {g : GF} {b : SF} {yb : YFs} {x : D} {t : List D} (h : okOwn own H) (q : wG (g x σ H) fun σ1 H1 => wX (b σ1 H1) (yb σ1 H1) R) :
    wX (forL own g b (x :: t) σ H) (yForL own g b yb (x :: t) σ H) R := by
  obtain ⟨σ1, H1, e1, e2, i, H2, e3, q⟩ := q
  rw [forL, yForL, if_pos h, if_pos h, e1]
  simp only [Option.bind_some]
  rw [e2]
  exact ⟨rfl, i, H2, e3, q⟩
noncomputable def wXD (n : Option (D × HD)) (y : Option (Int × HD)) (R : Int → HD → Prop) : Prop := n = none ∧ ∃ i H, y = some (i, H) ∧ R i H
theorem wx_run {n N : Nat} {b : SF} {yb : YFs} {ds : List D} (hl : ds.length = n) (h : wX (b (ds.map some ++ List.replicate (N - ds.length) none) H) (yb (ds.map some ++ List.replicate (N - ds.length) none) H) R) : wXD (runB n N b ds H) (runY n N yb ds H) R := by
  obtain ⟨e, q⟩ := h
  unfold runB runY
  rw [if_pos hl, if_pos hl, e]
  exact ⟨rfl, q⟩
theorem w_enumL1 {f : AF} {I : List D → OwnD → HD → Prop} (h : wA (f σ H) fun ds H1 => ∃ n xs, ds = [.ref n] ∧ H1[n]? = some (.lst xs) ∧ I (enumL 1 xs) [(n, .lst xs)] H1) : wI (iEnumL1 f σ H) I := by
  obtain ⟨ds, H1, e, n, xs, rfl, g, q⟩ := h
  exact ⟨_, _, _, by unfold iEnumL1; rw [e]; simp only [Option.bind_some]; rw [g], q⟩
theorem w_tryX {iE : Nat} {b : SF} {y : YFs} {su : Int → SF} {Q : FD → SD → HD → Prop} (h : wX (b σ H) (y σ H) fun i H1 => wS (su i (σ.set iE none) H1) (kont (fun σ2 H2 => Q .nx (σ2.set iE none) H2) fun _ _ _ => False)) : wS (sTryX iE b y su σ H) Q := by
  obtain ⟨e, i, H1, e1, x, σ2, H2, e2, k⟩ := h
  unfold sTryX
  rw [e]
  simp only
  rw [e1]
  simp only [Option.bind_some]
  rw [e2]
  cases x with
  | nx => exact ⟨_, _, _, rfl, k⟩
  | bk => exact k.elim
  | ct => exact k.elim
  | rt d => exact k.elim
theorem wx_callE {n : Nat} {F : FF} {Y : YFF} {fa : AF} {g : SF} (h : wA (fa σ H) fun ds H1 => ds.length = n ∧ wXD (F ds H1) (Y ds H1) R) : wX (sSeq (sExpr (eCall n F fa)) g σ H) (yCall n Y fa σ H) R := by
  obtain ⟨ds, H1, e, hl, e1, q⟩ := h
  refine ⟨wx_no ?_, ?_⟩
  · unfold sExpr eCall; rw [e]; simp only [Option.bind_some]; rw [if_pos hl, e1]; rfl
  · unfold yCall; rw [e]; simp only [Option.bind_some]; rw [if_pos hl]; exact q
end
end WP
set_option maxHeartbeats 8000000
namespace K08
open PySem L2 DL
noncomputable def k_KINDS : D := (.tup [(.str "all"), (.str "some")])
noncomputable def k_MOST_NAMES : D := (.int 8)
noncomputable def k_MOST_ROWS : D := (.int 20)
noncomputable def k_FIGURES : D := (.str "0123456789")
noncomputable def k_MOST_FIGURES : D := (.int 4)
noncomputable def b_is_whole : SF :=
  (sSeq (sRet (eAn (eCB isiD (aCons (eVar 0) (aCons (eC (.ty "int")) aNil))) (eNo (eCB isiD (aCons (eVar 0) (aCons (eC (.ty "bool")) aNil))))))
  sNil)
noncomputable def m_is_whole : FF := runB 1 1 b_is_whole
noncomputable def b_is_kinds : SF :=
  (sSeq (sIf (tOrr (tNo (tTru (eCB isiD (aCons (eVar 0) (aCons (eC (.ty "tuple")) aNil))))) (tOf (eOp gtD (eCB lenD (aCons (eVar 0) aNil)) (eC k_MOST_NAMES)))) (sSeq (sRet (eC (.bl false)))
  sNil) sNil)
  (sSeq (sRet (eCB allD (aCons (eLC (iSq (eVar 0)) [] tYes (eOp inD (eVar 0) (eC k_KINDS))) aNil)))
  sNil))
noncomputable def m_is_kinds : FF := runB 1 1 b_is_kinds
noncomputable def b_is_row : SF :=
  (sSeq (sIf (tNo (tTru (eCB isiD (aCons (eVar 1) (aCons (eC (.ty "tuple")) aNil))))) (sSeq (sRet (eC (.bl false)))
  sNil) sNil)
  (sSeq (sSet 2 (eC (.int 0)))
  (sSeq (sFor (iSq (eVar 1)) (gNm 3) (sSeq (sIf (tOrr (tNo (tTru (eCall 1 m_is_whole (aCons (eVar 3) aNil)))) (tOrr (tOf (eOp leD (eCB absD (aCons (eVar 3) aNil)) (eVar 2))) (tOf (eOp gtD (eCB absD (aCons (eVar 3) aNil)) (eVar 0))))) (sSeq (sRet (eC (.bl false)))
  sNil) sNil)
  (sSeq (sSet 2 (eCB absD (aCons (eVar 3) aNil)))
  sNil)))
  (sSeq (sRet (eC (.bl true)))
  sNil))))
noncomputable def m_is_row : FF := runB 2 4 b_is_row
noncomputable def b_show_row : SF :=
  (sSeq (sRet (eIf (tTru (eVar 0)) (eSM joinD (eC (.str " ")) (aCons (eLC (iSq (eVar 0)) [] tYes (eCB strD (aCons (eVar 0) aNil))) aNil)) (eC (.str "0"))))
  sNil)
noncomputable def m_show_row : FF := runB 1 1 b_show_row
noncomputable def b_show_claim : SF :=
  (sSeq (sSet 1 (eIf (tTru (eOp ixD (eVar 0) (eC (.int 0)))) (eSM joinD (eC (.str " ")) (aCons (eOp ixD (eVar 0) (eC (.int 0))) aNil)) (eC (.str "-"))))
  (sSeq (sSet 2 (eOp addD (eLst (aCons (eVar 1) aNil)) (eLC (iSq (eOp ixD (eVar 0) (eC (.int 1)))) [] tYes (eCall 1 m_show_row (aCons (eVar 0) aNil)))))
  (sSeq (sRet (eSM joinD (eC (.str "")) (aCons (eLC (iSq (eVar 2)) [] tYes (eJ (jE (eVar 0) (jC "\n" jNil)))) aNil)))
  sNil)))
noncomputable def m_show_claim : FF := runB 1 3 b_show_claim
noncomputable def b_read_number : SF :=
  (sSeq (sIf (tOrr (tOf (eOp eqD (eCB lenD (aCons (eVar 0) aNil)) (eC (.int 0)))) (tOrr (tOf (eOp gtD (eCB lenD (aCons (eVar 0) aNil)) (eC k_MOST_FIGURES))) (tNo (tTru (eCB allD (aCons (eLC (iTxt (eVar 0)) [] tYes (eOp sinD (eVar 0) (eC k_FIGURES))) aNil)))))) (sSeq (sRet (eC .non))
  sNil) sNil)
  (sSeq (sIf (tAn (tOf (eOp eqD (eOp sixD (eVar 0) (eC (.int 0))) (eC (.str "0")))) (tOf (eOp neD (eVar 0) (eC (.str "0"))))) (sSeq (sRet (eC .non))
  sNil) sNil)
  (sSeq (sRet (eCB intSD (aCons (eVar 0) aNil)))
  sNil)))
noncomputable def m_read_number : FF := runB 1 1 b_read_number
noncomputable def b_read_literal : SF :=
  (sSeq (sIf (tNo (tTru (eSM startsD (eVar 0) (aCons (eC (.str "-")) aNil)))) (sSeq (sRet (eCall 1 m_read_number (aCons (eVar 0) aNil)))
  sNil) sNil)
  (sSeq (sSet 1 (eCall 1 m_read_number (aCons (eSlS (eVar 0) (oSome (eC (.int 1))) oNone) aNil)))
  (sSeq (sRet (eIf (tOf (eOp isD (eVar 1) (eC .non))) (eC .non) (eUn negD (eVar 1))))
  sNil)))
noncomputable def m_read_literal : FF := runB 1 2 b_read_literal
noncomputable def b_read_row : SF :=
  (sSeq (sIf (tOf (eOp eqD (eVar 1) (eLst (aCons (eC (.str "0")) aNil)))) (sSeq (sRet (eTup aNil))
  sNil) sNil)
  (sSeq (sSet 2 (eCB tupleD (aCons (eLC (iSq (eVar 1)) [] tYes (eCall 1 m_read_literal (aCons (eVar 0) aNil))) aNil)))
  (sSeq (sRet (eIf (tAn (tTru (eVar 2)) (tTru (eCall 2 m_is_row (aCons (eVar 0) (aCons (eVar 2) aNil))))) (eVar 2) (eC .non)))
  sNil)))
noncomputable def m_read_row : FF := runB 2 3 b_read_row
noncomputable def b_read_kinds : SF :=
  (sSeq (sIf (tOf (eOp eqD (eVar 0) (eLst (aCons (eC (.str "-")) aNil)))) (sSeq (sRet (eTup aNil))
  sNil) sNil)
  (sSeq (sSet 1 (eCB tupleD (aCons (eVar 0) aNil)))
  (sSeq (sRet (eIf (tAn (tTru (eVar 1)) (tTru (eCall 1 m_is_kinds (aCons (eVar 1) aNil)))) (eVar 1) (eC .non)))
  sNil)))
noncomputable def m_read_kinds : FF := runB 1 2 b_read_kinds
noncomputable def b_read_claim : SF :=
  (sSeq (sSet 1 (eSM splitD (eVar 0) (aCons (eC (.str "\n")) aNil)))
  (sSeq (sSet 2 (eSl (eVar 1) oNone (oSome (eUn negD (eC (.int 1))))))
  (sSeq (sSet 3 (eIf (tTru (eVar 2)) (eCall 1 m_read_kinds (aCons (eSM splitD (eOp ixD (eVar 2) (eC (.int 0))) (aCons (eC (.str " ")) aNil)) aNil)) (eC .non)))
  (sSeq (sIf (tOf (eOp isD (eVar 3) (eC .non))) (sSeq sErr
  sNil) sNil)
  (sSeq (sSet 4 (eLst aNil))
  (sSeq (sFor (iEnumL1 (aCons (eSl (eVar 2) (oSome (eC (.int 1))) oNone) aNil)) (gTp 2 (gCn (gNm 5) (gCn (gNm 6) gNl))) (sSeq (sSet 7 (eCall 2 m_read_row (aCons (eCB lenD (aCons (eVar 3) aNil)) (aCons (eSM splitD (eVar 6) (aCons (eC (.str " ")) aNil)) aNil))))
  (sSeq (sIf (tOrr (tOf (eOp isD (eVar 7) (eC .non))) (tOf (eOp gtD (eVar 5) (eC k_MOST_ROWS)))) (sSeq sErr
  sNil) sNil)
  (sSeq (sExpr (eLM appendD (eVar 4) (aCons (eVar 7) aNil)))
  sNil))))
  (sSeq (sIf (tOf (eOp neD (eOp ixD (eVar 1) (eUn negD (eC (.int 1)))) (eC (.str "")))) (sSeq sErr
  sNil) sNil)
  (sSeq (sRet (eTup (aCons (eVar 3) (aCons (eCB tupleD (aCons (eVar 4) aNil)) aNil))))
  sNil))))))))
noncomputable def m_read_claim : FF := runB 1 8 b_read_claim
noncomputable def yb_read_claim : YFs :=
  (ySeq (sSet 1 (eSM splitD (eVar 0) (aCons (eC (.str "\n")) aNil)))
  (ySeq (sSet 2 (eSl (eVar 1) oNone (oSome (eUn negD (eC (.int 1))))))
  (ySeq (sSet 3 (eIf (tTru (eVar 2)) (eCall 1 m_read_kinds (aCons (eSM splitD (eOp ixD (eVar 2) (eC (.int 0))) (aCons (eC (.str " ")) aNil)) aNil)) (eC .non)))
  (yEi (sIf (tOf (eOp isD (eVar 3) (eC .non))) (sSeq sErr
  sNil) sNil)
  (yIf (tOf (eOp isD (eVar 3) (eC .non))) (yRaise (eC (.int 0))) yNo)
  (ySeq (sSet 4 (eLst aNil))
  (yEi (sFor (iEnumL1 (aCons (eSl (eVar 2) (oSome (eC (.int 1))) oNone) aNil)) (gTp 2 (gCn (gNm 5) (gCn (gNm 6) gNl))) (sSeq (sSet 7 (eCall 2 m_read_row (aCons (eCB lenD (aCons (eVar 3) aNil)) (aCons (eSM splitD (eVar 6) (aCons (eC (.str " ")) aNil)) aNil))))
  (sSeq (sIf (tOrr (tOf (eOp isD (eVar 7) (eC .non))) (tOf (eOp gtD (eVar 5) (eC k_MOST_ROWS)))) (sSeq sErr
  sNil) sNil)
  (sSeq (sExpr (eLM appendD (eVar 4) (aCons (eVar 7) aNil)))
  sNil))))
  (yFor (iEnumL1 (aCons (eSl (eVar 2) (oSome (eC (.int 1))) oNone) aNil)) (gTp 2 (gCn (gNm 5) (gCn (gNm 6) gNl))) (sSeq (sSet 7 (eCall 2 m_read_row (aCons (eCB lenD (aCons (eVar 3) aNil)) (aCons (eSM splitD (eVar 6) (aCons (eC (.str " ")) aNil)) aNil))))
  (sSeq (sIf (tOrr (tOf (eOp isD (eVar 7) (eC .non))) (tOf (eOp gtD (eVar 5) (eC k_MOST_ROWS)))) (sSeq sErr
  sNil) sNil)
  (sSeq (sExpr (eLM appendD (eVar 4) (aCons (eVar 7) aNil)))
  sNil))) (ySeq (sSet 7 (eCall 2 m_read_row (aCons (eCB lenD (aCons (eVar 3) aNil)) (aCons (eSM splitD (eVar 6) (aCons (eC (.str " ")) aNil)) aNil))))
  (yIf (tOrr (tOf (eOp isD (eVar 7) (eC .non))) (tOf (eOp gtD (eVar 5) (eC k_MOST_ROWS)))) (yRaise (eVar 5)) yNo)))
  (yIf (tOf (eOp neD (eOp ixD (eVar 1) (eUn negD (eC (.int 1)))) (eC (.str "")))) (yRaise (eCB lenD (aCons (eVar 2) aNil))) yNo)))))))
noncomputable def y_read_claim : YFF := runY 1 8 yb_read_claim
noncomputable def b_law_mix : SF :=
  (sSeq (sSet 2 (eOp ixD (eLst (aCons (eC (.int 2147483647)) (aCons (eC (.int 2147483629)) (aCons (eC (.int 2147483587)) (aCons (eC (.int 2147483579)) (aCons (eC (.int 2147483563)) (aCons (eC (.int 2147483549)) (aCons (eC (.int 2147483543)) aNil)))))))) (eOp modD (eVar 1) (eC (.int 7)))))
  (sSeq (sSet 3 (eOp modD (eOp mulD (eOp addD (eOp modD (eVar 0) (eC (.int 998244353))) (eOp mulD (eC (.int 104729)) (eOp addD (eVar 1) (eC (.int 1))))) (eOp addD (eOp addD (eOp mulD (eVar 1) (eVar 1)) (eOp mulD (eC (.int 7)) (eVar 1))) (eC (.int 13)))) (eVar 2)))
  (sSeq (sSet 3 (eOp modD (eOp powD (eVar 3) (eC (.int 5))) (eC (.int 1000000007))))
  (sSeq (sSet 3 (eOp modD (eOp addD (eOp addD (eOp mulD (eVar 3) (eC (.int 48271))) (eOp mulD (eC (.int 31)) (eVar 1))) (eC (.int 5))) (eVar 2)))
  (sSeq (sRet (eOp fdivD (eOp modD (eOp powD (eVar 3) (eC (.int 3))) (eC (.int 998244353))) (eC (.int 8))))
  sNil)))))
noncomputable def m_law_mix : FF := runB 2 4 b_law_mix
noncomputable def b_law_digits : SF :=
  (sSeq (sSet 2 (eLst aNil))
  (sSeq (sSet 3 (eCB absD (aCons (eVar 0) aNil)))
  (sSeq (sSet 4 (eOp geD (eVar 3) (eOp powD (eC (.int 10)) (eC (.int 18)))))
  (sSeq (sFor (iR1 (aCons (eVar 1) aNil)) (gNm 5) (sSeq (sIf (tAn (tTru (eVar 4)) (tOf (eOp gtD (eVar 3) (eC (.int 0))))) (sSeq (sExpr (eLM appendD (eVar 2) (aCons (eOp modD (eVar 3) (eC (.int 10007))) aNil)))
  (sSeq (sSet 3 (eOp fdivD (eVar 3) (eC (.int 10007))))
  sNil)) (sSeq (sExpr (eLM appendD (eVar 2) (aCons (eCall 2 m_law_mix (aCons (eVar 0) (aCons (eVar 5) aNil))) aNil)))
  sNil))
  sNil))
  (sSeq (sRet (eVar 2))
  sNil)))))
noncomputable def m_law_digits : FF := runB 2 6 b_law_digits
noncomputable def b_law_at : SF :=
  (sSeq (sIf (tOf (eOp ltD (eVar 1) (eCB lenD (aCons (eVar 0) aNil)))) (sSeq (sRet (eOp ixD (eVar 0) (eVar 1)))
  sNil) sNil)
  (sSeq (sRet (eOp addD (eOp addD (eOp mulD (eC (.int 67)) (eVar 1)) (eC (.int 19))) (eCB lenD (aCons (eVar 0) aNil))))
  sNil))
noncomputable def m_law_at : FF := runB 2 2 b_law_at
noncomputable def b_law_kinds : SF :=
  (sSeq (sSet 2 (eLst aNil))
  (sSeq (sFor (iR1 (aCons (eVar 1) aNil)) (gNm 3) (sSeq (sSet 4 (eOp ixD (eLst (aCons (eC (.str "all")) (aCons (eC (.str "some")) aNil))) (eOp modD (eOp ixD (eVar 0) (eOp addD (eC (.int 1)) (eVar 3))) (eC (.int 2)))))
  (sSeq (sIf (tOf (eOp eqD (eOp modD (eOp ixD (eVar 0) (eC (.int 0))) (eC (.int 4))) (eC (.int 1)))) (sSeq (sSet 4 (eOp ixD (eLst (aCons (eC (.str "some")) (aCons (eC (.str "all")) aNil))) (eOp modD (eOp addD (eVar 3) (eOp ixD (eVar 0) (eC (.int 1)))) (eC (.int 2)))))
  sNil) sNil)
  (sSeq (sIf (tOf (eOp eqD (eOp modD (eOp ixD (eVar 0) (eC (.int 0))) (eC (.int 4))) (eC (.int 2)))) (sSeq (sSet 4 (eOp ixD (eLst (aCons (eC (.str "all")) (aCons (eC (.str "some")) aNil))) (eCB intD (aCons (eOp gtD (eOp modD (eOp ixD (eVar 0) (eOp addD (eC (.int 1)) (eVar 3))) (eC (.int 3))) (eC (.int 0))) aNil))))
  sNil) sNil)
  (sSeq (sExpr (eLM appendD (eVar 2) (aCons (eVar 4) aNil)))
  sNil)))))
  (sSeq (sRet (eCB tupleD (aCons (eVar 2) aNil)))
  sNil)))
noncomputable def m_law_kinds : FF := runB 2 5 b_law_kinds
noncomputable def b_law_row : SF :=
  (sSeq (sSet 3 (eCall 2 m_law_digits (aCons (eVar 0) (aCons (eOp addD (eVar 1) (eC (.int 1))) aNil))))
  (sSeq (sSet 4 (eLst aNil))
  (sSeq (sFor (iR1 (aCons (eVar 1) aNil)) (gNm 5) (sSeq (sIf (tOf (eOp ltD (eOp modD (eOp ixD (eVar 3) (eOp addD (eC (.int 1)) (eVar 5))) (eOp addD (eVar 1) (eC (.int 1)))) (eOp addD (eVar 2) (eOp modD (eOp ixD (eVar 3) (eC (.int 0))) (eC (.int 3)))))) (sSeq (sExpr (eLM appendD (eVar 4) (aCons (eOp ixD (eLst (aCons (eOp addD (eVar 5) (eC (.int 1))) (aCons (eOp subD (eOp subD (eC (.int 0)) (eVar 5)) (eC (.int 1))) aNil))) (eOp modD (eOp fdivD (eOp ixD (eVar 3) (eOp addD (eC (.int 1)) (eVar 5))) (eOp addD (eVar 1) (eC (.int 1)))) (eC (.int 2)))) aNil)))
  sNil) sNil)
  sNil))
  (sSeq (sRet (eCB tupleD (aCons (eVar 4) aNil)))
  sNil))))
noncomputable def m_law_row : FF := runB 3 6 b_law_row
noncomputable def b_law_claim : SF :=
  (sSeq (sSet 2 (eCall 2 m_law_digits (aCons (eCall 2 m_law_at (aCons (eVar 0) (aCons (eC (.int 0)) aNil))) (aCons (eC (.int 14)) aNil))))
  (sSeq (sSet 3 (eOp ixD (eLst (aCons (eOp modD (eOp ixD (eVar 2) (eC (.int 0))) (eOp addD (eVar 1) (eC (.int 1)))) (aCons (eOp subD (eVar 1) (eOp modD (eOp ixD (eVar 2) (eC (.int 0))) (eC (.int 3)))) (aCons (eVar 1) aNil)))) (eOp modD (eOp ixD (eVar 2) (eC (.int 1))) (eC (.int 3)))))
  (sSeq (sSet 4 (eCall 2 m_law_kinds (aCons (eSl (eVar 2) (oSome (eC (.int 2))) oNone) (aCons (eCB maxD (aCons (eC (.int 0)) (aCons (eVar 3) aNil))) aNil))))
  (sSeq (sSet 5 (eOp ixD (eLst (aCons (eOp modD (eOp ixD (eVar 2) (eC (.int 12))) (eC (.int 5))) (aCons (eOp modD (eOp ixD (eVar 2) (eC (.int 12))) (eC (.int 11))) (aCons (eOp addD (eC (.int 5)) (eOp modD (eOp ixD (eVar 2) (eC (.int 12))) (eC (.int 16)))) aNil)))) (eOp modD (eOp ixD (eVar 2) (eC (.int 11))) (eC (.int 3)))))
  (sSeq (sSet 6 (eLC (iR1 (aCons (eVar 5) aNil)) [0, 4] tYes (eCall 3 m_law_row (aCons (eCall 2 m_law_at (aCons (eVar 1) (aCons (eOp addD (eC (.int 1)) (eVar 0)) aNil))) (aCons (eCB lenD (aCons (eVar 2) aNil)) (aCons (eC (.int 1)) aNil))))))
  (sSeq (sIf (tOf (eOp gtD (eOp modD (eOp ixD (eVar 2) (eC (.int 13))) (eC (.int 3))) (eC (.int 0)))) (sSeq (sSet 6 (eLC (iSq (eVar 6)) [] (tOf (eOp neD (eVar 0) (eTup aNil))) (eVar 0)))
  sNil) sNil)
  (sSeq (sRet (eTup (aCons (eVar 4) (aCons (eCB tupleD (aCons (eVar 6) aNil)) aNil))))
  sNil)))))))
noncomputable def m_law_claim : FF := runB 2 7 b_law_claim
noncomputable def b_law_text : SF :=
  (sSeq (sSet 1 (eSM joinD (eC (.str " ")) (aCons (eOp ixD (eVar 0) (eC (.int 0))) aNil)))
  (sSeq (sIf (tOf (eOp eqD (eOp ixD (eVar 0) (eC (.int 0))) (eTup aNil))) (sSeq (sSet 1 (eC (.str "-")))
  sNil) sNil)
  (sSeq (sFor (iSq (eOp ixD (eVar 0) (eC (.int 1)))) (gNm 2) (sSeq (sSet 3 (eLst aNil))
  (sSeq (sFor (iSq (eVar 2)) (gNm 4) (sSeq (sExpr (eLM appendD (eVar 3) (aCons (eOp addD (eOp ixD (eLst (aCons (eC (.str "-")) (aCons (eC (.str "")) aNil))) (eCB intD (aCons (eOp gtD (eVar 4) (eC (.int 0))) aNil))) (eCB strD (aCons (eCB absD (aCons (eVar 4) aNil)) aNil))) aNil)))
  sNil))
  (sSeq (sIf (tOf (eOp eqD (eVar 2) (eTup aNil))) (sSeq (sSet 3 (eLst (aCons (eC (.str "0")) aNil)))
  sNil) sNil)
  (sSeq (sSet 1 (eOp addD (eOp addD (eVar 1) (eC (.str "\n"))) (eSM joinD (eC (.str " ")) (aCons (eVar 3) aNil))))
  sNil)))))
  (sSeq (sRet (eOp addD (eVar 1) (eC (.str "\n"))))
  sNil))))
noncomputable def m_law_text : FF := runB 1 5 b_law_text
noncomputable def b_law_right : SF :=
  (sSeq (sSet 1 (eCall 1 m_law_text (aCons (eVar 0) aNil)))
  (sSeq (sFor (iR1 (aCons (eC (.int 2)) aNil)) (gNm 2) (sSeq (sSet 3 (eCall 1 m_show_claim (aCons (eVar 0) aNil)))
  (sSeq (sIf (tOrr (tNo (tTru (eCB isiD (aCons (eVar 3) (aCons (eC (.ty "str")) aNil))))) (tOf (eOp neD (eVar 3) (eVar 1)))) (sSeq (sRet (eC (.bl false)))
  sNil) sNil)
  (sSeq (sSet 4 (eCall 1 m_read_claim (aCons (eVar 1) aNil)))
  (sSeq (sIf (tOrr (tNo (tTru (eCB isiD (aCons (eVar 4) (aCons (eC (.ty "tuple")) aNil))))) (tOrr (tOf (eOp neD (eVar 4) (eVar 0))) (tNo (tTru (eCB isiD (aCons (eOp ixD (eVar 4) (eC (.int 0))) (aCons (eC (.ty "tuple")) aNil))))))) (sSeq (sRet (eC (.bl false)))
  sNil) sNil)
  (sSeq (sFor (iSq (eOp ixD (eVar 4) (eC (.int 1)))) (gNm 5) (sSeq (sIf (tOrr (tNo (tTru (eCB isiD (aCons (eVar 5) (aCons (eC (.ty "tuple")) aNil))))) (tOf (eOp inD (eC (.bl true)) (eLC (iSq (eVar 5)) [] tYes (eCB isiD (aCons (eVar 0) (aCons (eC (.ty "bool")) aNil))))))) (sSeq (sRet (eC (.bl false)))
  sNil) sNil)
  sNil))
  sNil))))))
  (sSeq (sRet (eC (.bl true)))
  sNil)))
noncomputable def m_law_right : FF := runB 1 6 b_law_right
noncomputable def b_law_line : SF :=
  (sSeq (sSet 1 (eC .non))
  (sSeq (sTryX 2 (sSeq (sExpr (eCall 1 m_read_claim (aCons (eVar 0) aNil)))
  sNil) (yCall 1 y_read_claim (aCons (eVar 0) aNil)) (fun i => (sSeq (sSet 1 (eC (.int i))) sNil)))
  (sSeq (sRet (eVar 1))
  sNil)))
noncomputable def m_law_line : FF := runB 1 3 b_law_line
noncomputable def b_law : SF :=
  (sSeq (sAsg (eCall 2 m_law_claim (aCons (eVar 0) (aCons (eC (.int 8)) aNil))) (gTp 2 (gCn (gNm 4) (gCn (gNm 5) gNl))))
  (sSeq (sSet 1 (eTup (aCons (eVar 4) (aCons (eSl (eOp mulD (eOp addD (eVar 5) (eTup (aCons (eTup aNil) aNil))) (eC (.int 40))) oNone (oSome (eOp addD (eC (.int 21)) (eOp modD (eCB absD (aCons (eCall 2 m_law_at (aCons (eVar 0) (aCons (eC (.int 1)) aNil))) aNil)) (eC (.int 20)))))) aNil))))
  (sSeq (sIf (tOrr (tOf (eOp neD (eCall 1 m_show_claim (aCons (eVar 1) aNil)) (eCall 1 m_law_text (aCons (eVar 1) aNil)))) (tOf (eOp neD (eCall 1 m_law_line (aCons (eCall 1 m_law_text (aCons (eVar 1) aNil)) aNil)) (eC (.int 21))))) (sSeq (sRet (eC (.bl false)))
  sNil) sNil)
  (sSeq (sFor (iR1 (aCons (eC (.int 3)) aNil)) (gNm 2) (sSeq (sIf (tNo (tTru (eCall 1 m_law_right (aCons (eCall 2 m_law_claim (aCons (eSl (eVar 0) (oSome (eOp mulD (eC (.int 4)) (eVar 2))) oNone) (aCons (eC (.int 8)) aNil))) aNil)))) (sSeq (sRet (eC (.bl false)))
  sNil) sNil)
  sNil))
  (sSeq (sSet 3 (eTup (aCons (eOp mulD (eTup (aCons (eC (.str "some")) aNil)) (eC (.int 8))) (aCons (eOp mulD (eTup (aCons (eTR2 (aCons (eC (.int 1)) (aCons (eC (.int 9)) aNil))) (aCons (eCB tupleD (aCons (eLC (iR2 (aCons (eC (.int 1)) (aCons (eC (.int 9)) aNil))) [] tYes (eOp subD (eC (.int 0)) (eVar 0))) aNil)) aNil))) (eC (.int 10))) aNil))))
  (sSeq (sRet (eAn (eCall 1 m_law_right (aCons (eVar 3) aNil)) (eAn (eCall 1 m_law_right (aCons (eTup (aCons (eTup aNil) (aCons (eTup aNil) aNil))) aNil)) (eCall 1 m_law_right (aCons (eTup (aCons (eTup aNil) (aCons (eOp mulD (eTup (aCons (eTup aNil) aNil)) (eC (.int 20))) aNil))) aNil)))))
  sNil))))))
noncomputable def m_law : FF := runB 1 6 b_law
end K08
set_option maxHeartbeats 4000000
namespace K08
open PySem L2 DL LH
noncomputable def opn (bs : List Bool) (l : Int) : Bool := decide ((bs.length : Int) < absZ l)
noncomputable def rig (bs : List Bool) (l : Int) : Bool := match bs[(absZ l - 1).toNat]? with
  | some b => b == decide (0 < l)
  | none => false
noncomputable def kept (bs : List Bool) (ls : List Int) : Bool := ls.any (rig bs)
noncomputable def rest (bs : List Bool) (ls : List Int) : List Int := ls.filter (opn bs)
structure DR (rss : List (List Int)) (bs : List Bool) (kvs : List (D × D)) : Prop where
  key : ∀ p ∈ kvs, ∃ ls ∈ rss, kept bs ls = false ∧ p.1 = rowD (rest bs ls)
  all : ∀ ls ∈ rss, kept bs ls = false → (dlook kvs (rest bs ls)).isSome = true
  len : kvs.length ≤ rss.length
  val : ∀ p ∈ kvs, ∃ (i : Nat) (ls : List Int), rss[i]? = some ls ∧ kept bs ls = false ∧ p = (rowD (rest bs ls), .int i)
end K08
namespace K08
open PySem L2 DL LH
structure Fz (H H' : HD) : Prop where
  old : ∀ (m : Nat) (o : DO), H[m]? = some o → H'[m]? = some o ∨ ∃ kvs, o = .dic kvs false ∧ H'[m]? = some (.dic kvs true)
  len : H.length ≤ H'.length
theorem Fz.refl {H : HD} : Fz H H := ⟨fun _ _ h => .inl h, Nat.le_refl _⟩
theorem Fz.trans {H H1 H2 : HD} (a : Fz H H1) (b : Fz H1 H2) : Fz H H2 := by
  refine ⟨fun m o h => ?_, Nat.le_trans a.len b.len⟩
  rcases a.old m o h with h1 | ⟨kvs, rfl, h1⟩
  · exact b.old m o h1
  · rcases b.old m _ h1 with h2 | ⟨k2, e, _⟩
    · exact .inr ⟨kvs, rfl, h2⟩
    · cases e
theorem Fz.app {H : HD} (L : HD) : Fz H (H ++ L) := ⟨fun m o q => .inl (by
  have : m < H.length := (List.getElem?_eq_some_iff.mp q).1
  rw [List.getElem?_append_left this]; exact q), by simp⟩
theorem Fz.dic {H H' : HD} (x : Fz H H') {m : Nat} {kvs : List (D × D)} {fz : Bool} (h : H[m]? = some (.dic kvs fz)) : ∃ fz', H'[m]? = some (.dic kvs fz') := by
  rcases x.old m _ h with h1 | ⟨k2, e, h1⟩
  · exact ⟨fz, h1⟩
  · cases e; exact ⟨true, h1⟩
theorem Fz.ext {n : Nat} {H H' : HD} (x : Fz H H') (hf : ∃ a b, H[n]? = some (.lst [.int a, .int b])) : ∃ a b, H'[n]? = some (.lst [.int a, .int b]) := by
  obtain ⟨a, b, f⟩ := hf
  rcases x.old n _ f with h | ⟨_, e, _⟩
  · exact ⟨a, b, h⟩
  · cases e
theorem ex {f : EF} {σ : SD} {H H1 : HD} {d : D} (h : f σ H = some (d, H1)) : sExpr f σ H = some (.nx, σ, H1) := by unfold sExpr; rw [h]; rfl
noncomputable abbrev fb : SF := (sSeq (sExpr (eDM sdefD (eVar 1) (aCons (eVar 3) (aCons (eVar 2) aNil)))) sNil)
end K08
namespace K08
open PySem L2 DL LH
noncomputable abbrev bb : SF := (sSeq (sSet 6 (eIf (tTru (eVar 5)) (eOp ixD (eVar 5) (eC (.int 0))) (eC (.int 0))))
  (sSeq (sIf (tOf (eOp eqD (eVar 6) (eUn negD (eVar 3)))) (sSeq (sExpr (eDM sdefD (eVar 4) (aCons (eSl (eVar 5) (oSome (eC (.int 1))) oNone) (aCons (eOp dgetD (eVar 0) (eVar 5)) aNil))))
  sNil) (sSeq (sIf (tOf (eOp neD (eVar 6) (eVar 3))) (sSeq (sExpr (eDM sdefD (eVar 4) (aCons (eVar 5) (aCons (eOp dgetD (eVar 0) (eVar 5)) aNil))))
  sNil) sNil)
  sNil))
  sNil))
theorem un {g : D → HD → Option (D × HD)} {f : EF} {σ : SD} {H H1 : HD} {d : D} {r : Option (D × HD)} (h1 : f σ H = some (d, H1)) (h2 : g d H1 = r) : eUn g f σ H = r := by
  unfold eUn; rw [h1]; exact h2
end K08
namespace K08
open PySem L2 DL LH
end K08
namespace K08
open PySem L2 DL LH
noncomputable def kS (d : D) : Bool := match d with
  | .str s => s == "some"
  | _ => false
noncomputable def sideD (b : Bool) : D := if b then .str "some" else .str "all"
theorem kind_side {d : D} (h : IsKind d) : d = sideD (kS d) := by
  rcases h with rfl | rfl
  · have : kS (.str "all") = false := by decide
    rw [this]; rfl
  · have : kS (.str "some") = true := by decide
    rw [this]; rfl
noncomputable def W (ks : List D) (rss : List (List Int)) : Nat → List Bool → Bool
  | 0, bs => rss.all (kept bs)
  | j + 1, bs =>
    let who := kS (ks.getD bs.length .non)
    if W ks rss j (bs ++ [false]) == who || W ks rss j (bs ++ [true]) == who then who else !who
noncomputable def playD (bs : List Bool) : D := .tup (bs.map .bl)
end K08
namespace K08
open PySem L2 DL LH WP
theorem at0 (a b : D) : atI [a, b] 0 = some a := atI_nat (j := 0) rfl
theorem at1 (a b : D) : atI [a, b] 1 = some b := atI_nat (j := 1) rfl
structure Cl (ks : List D) (rss : List (List Int)) : Prop where
  hk : ∀ d ∈ ks, IsKind d
  hu : ∀ ls ∈ rss, Up ks.length 0 ls
  hl : rss.length ≤ 1000
  h8 : ks.length ≤ 8
noncomputable def claimD (ks : List D) (rss : List (List Int)) : D := .tup [.tup ks, .tup (rss.map rowD)]
variable {H : HD} {Q : D → HD → Prop}
theorem w_cl0 {ks : List D} {rss : List (List Int)} (q : Q (.tup ks) H) : wE (ixD (claimD ks rss) (.int 0) H) Q := ⟨_, _, ixT (at0 _ _), q⟩
theorem w_cl1 {ks : List D} {rss : List (List Int)} (q : Q (.tup (rss.map rowD)) H) : wE (ixD (claimD ks rss) (.int 1) H) Q := ⟨_, _, ixT (at1 _ _), q⟩
theorem w_lenP {bs : List Bool} {H : HD} {Q : D → HD → Prop} (q : Q (.int bs.length) H) : wE (lenD [playD bs] H) Q := ⟨_, _, lenB bs H, q⟩
theorem w_addP {bs : List Bool} {t : Bool} {H : HD} {Q : D → HD → Prop} (h : bs.length ≤ 1000) (q : Q (playD (bs ++ [t])) H) : wE (addD (playD bs) (.tup [.bl t]) H) Q :=
  ⟨playD (bs ++ [t]), H, by unfold playD; rw [adT (by simp; omega), List.map_append]; rfl, q⟩
end K08
namespace K08
open PySem L2 DL LH WP
local macro_rules | `(tactic| fail $s:str) => do
  if s.getString == "lk" then `(tactic| first | assumption | with_reducible exact WP.last | (with_reducible refine WP.appL ?_; fail "lk"))
  else if s.getString == "go" then do
    let a0 ← `(by with_unfolding_all rfl)
    let a1 ← `(?_)
    let a2 ← `(by first | (simp; done) | (simp; omega) | omega)
    let a3 ← `(by decide)
    let a4 ← `(by with_unfolding_all first | exact (rfl : _ = true) | exact (rfl : _ = false))
    let a5 ← `(by fail "lk")
    let a6 ← `(by with_unfolding_all exact rfl)
    let t ← ([`WP.w_var].map (·, [a0, a1]) ++ [`WP.w_c, `WP.w_seq, `WP.w_kn, `WP.w_set, `WP.w_op, `WP.w_acons, `WP.w_anil, `WP.w_call, `WP.w_cb, `WP.w_tof, `WP.w_bl, `WP.w_bt, `WP.w_bf, `WP.w_bnt, `WP.w_bnf, `WP.w_ret, `WP.w_fr, `WP.w_kr, `WP.w_snil, `WP.w_expr, `WP.w_for, `WP.w_or, `WP.w_an, `WP.w_no, `WP.w_ttru, `WP.w_eif, `WP.w_eno, `WP.w_ean, `WP.w_eorr, `WP.w_un, `WP.w_ch, `WP.w_int, `WP.w_tup, `WP.w_lst, `WP.w_lm, `WP.w_tm, `WP.w_dm, `WP.w_dn, `WP.w_on, `WP.w_os, `WP.w_sl, `WP.w_rv, `WP.w_lc, `WP.w_asg, `WP.w_gnm, `WP.w_gsb, `WP.w_gcn, `WP.w_gnl].map (·, [a1]) ++ [`WP.w_n, `WP.w_gtp, `WP.w_ixT, `WP.w_isN, `WP.w_isnN, `WP.w_isBl, `WP.w_isnBl].map (·, [a0, a1]) ++ [`WP.w_sz, `WP.w_addT].map (·, [a2, a1]) ++ [`WP.w_mod].map (·, [a3, a1]) ++ [`WP.w_fdiv, `WP.w_mulL, `WP.w_mulR].map (·, [a3, a3, a1]) ++ [`WP.w_eqI', `WP.w_neI', `WP.w_eqS', `WP.w_neS'].map (·, [a4, a1]) ++ [`WP.w_lenR, `WP.w_tupR, `WP.w_itR].map (·, [a5, a1]) ++ [`WP.w_ixR].map (·, [a5, a0, a1]) ++ [`WP.w_isi'].map (·, [a0, a0, a4, a1]) ++ [`WP.w_addI, `WP.w_subI, `WP.w_lt, `WP.w_le, `WP.w_gt, `WP.w_ge, `WP.w_slhi, `WP.w_sllo, `WP.w_sllo1, `WP.w_neg, `WP.w_eqI, `WP.w_neI, `WP.w_eqS, `WP.w_neS, `WP.w_lenT, `WP.w_lenF, `WP.w_abs, `WP.w_intI, `WP.w_intB, `WP.w_max, `WP.w_min, `WP.w_truB, `WP.w_truT, `WP.w_truN, `WP.w_isq, `WP.w_itT, `WP.w_itF, `WP.w_ir1, `WP.w_ir2, `WP.w_ir3, `WP.w_idic, `WP.w_enum, `WP.w_enum1, `WP.w_zip, `WP.w_yes, `WP.w_retn, `WP.w_fn, `WP.w_agn, `WP.w_agr, `WP.w_kb, `WP.w_kc, `WP.w_agb, `WP.w_agc, `WP.w_brk, `WP.w_cnt].map (·, [a1]) ++ [`WP.w_bT, `WP.w_bF].map (·, [a6, a1]) : List (Lean.Name × List Lean.Term)).foldrM (fun p (r : Lean.TSyntax `tactic) => `(tactic| first | with_reducible refine $(Lean.Syntax.mkApp (Lean.mkIdent p.1) p.2.toArray) | $r:tactic)) (← `(tactic| fail "no"))
    return t
  else Lean.Macro.throwUnsupported
local macro_rules | `(tactic| fail $s:str) => do
  if s.getString == "go" then `(tactic| first | with_reducible refine w_lenP ?_ | with_reducible refine w_addP (by omega) ?_ | with_reducible refine w_cl0 ?_ | with_reducible refine w_cl1 ?_)
  else Lean.Macro.throwUnsupported
variable {H : HD} {Q : D → HD → Prop}
theorem w_ifB' {t : TF} {f g : SF} {σ : SD} {R : FD → SD → HD → Prop} (B : Bool) (h : wT (t σ H) fun b H' => H' = H ∧ b = B) (ht : B = true → wS (f σ H) R) (hf : B = false → wS (g σ H) R) : wS (sIf t f g σ H) R := by
  obtain ⟨b, H1, e, rfl, rfl⟩ := h
  exact w_if ⟨_, _, e, ht, hf⟩
theorem w_mix {cell k : Int} (h0 : 0 ≤ k) (h1 : k ≤ 100) (q : ∀ r H', 0 ≤ r → r < 2147483648 → Fm [] H H' → Q (.int r) H') : wE (m_law_mix [.int cell, .int k] H) Q := by
  refine w_run rfl ?_
  show wS (b_law_mix [some (.int cell), some (.int k), none, none] H) _
  unfold b_law_mix
  obtain ⟨P, hP, hP2, eP⟩ : ∃ P : Int, 0 < P ∧ P < 2147483648 ∧ atI [D.int 2147483647, .int 2147483629, .int 2147483587, .int 2147483579, .int 2147483563, .int 2147483549, .int 2147483543] (k % 7) = some (.int P) := by
    rcases (show k % 7 = 0 ∨ k % 7 = 1 ∨ k % 7 = 2 ∨ k % 7 = 3 ∨ k % 7 = 4 ∨ k % 7 = 5 ∨ k % 7 = 6 by omega) with h | h | h | h | h | h | h <;> rw [h]
    · exact ⟨2147483647, by omega, by omega, rfl⟩
    · exact ⟨2147483629, by omega, by omega, rfl⟩
    · exact ⟨2147483587, by omega, by omega, rfl⟩
    · exact ⟨2147483579, by omega, by omega, rfl⟩
    · exact ⟨2147483563, by omega, by omega, rfl⟩
    · exact ⟨2147483549, by omega, by omega, rfl⟩
    · exact ⟨2147483543, by omega, by omega, rfl⟩
  (repeat fail "go")
  refine w_ixR last eP ?_
  (repeat fail "go")
  have c0 := Int.emod_nonneg cell (show (998244353 : Int) ≠ 0 by decide)
  have c1 := Int.emod_lt_of_pos cell (show (0 : Int) < 998244353 by decide)
  generalize cell % 998244353 = c at *
  refine w_mulL (by omega) (by omega) ?_
  (repeat fail "go")
  refine w_mulL (by omega) (by omega) ?_
  (repeat fail "go")
  refine w_mod hP ?_
  have a0 := Int.emod_nonneg ((c + 104729 * (k + 1)) * (k * k + 7 * k + 13)) (show P ≠ 0 by omega)
  have a1 := Int.emod_lt_of_pos ((c + 104729 * (k + 1)) * (k * k + 7 * k + 13)) hP
  generalize (c + 104729 * (k + 1)) * (k * k + 7 * k + 13) % P = a at *
  (repeat fail "go")
  refine w_pow (by decide) (by decide) (by omega) ?_
  (repeat fail "go")
  have b0 := Int.emod_nonneg (a ^ (5 : Int).toNat) (show (1000000007 : Int) ≠ 0 by decide)
  have b1 := Int.emod_lt_of_pos (a ^ (5 : Int).toNat) (show (0 : Int) < 1000000007 by decide)
  generalize a ^ (5 : Int).toNat % 1000000007 = b at *
  refine w_mod hP ?_
  have d0 := Int.emod_nonneg (b * 48271 + 31 * k + 5) (show P ≠ 0 by omega)
  have d1 := Int.emod_lt_of_pos (b * 48271 + 31 * k + 5) hP
  generalize (b * 48271 + 31 * k + 5) % P = d at *
  (repeat fail "go")
  refine w_pow (by decide) (by decide) (by omega) ?_
  (repeat fail "go")
  have e0 := Int.emod_nonneg (d ^ (3 : Int).toNat) (show (998244353 : Int) ≠ 0 by decide)
  have e1 := Int.emod_lt_of_pos (d ^ (3 : Int).toNat) (show (0 : Int) < 998244353 by decide)
  generalize d ^ (3 : Int).toNat % 998244353 = e at *
  exact q _ _ (by omega) (by omega) (Fm.app _)
noncomputable def Digs (ds : List Int) : Prop := ∀ d ∈ ds, 0 ≤ d ∧ d < 2147483648
theorem w_digits {cell : Int} {many : Nat} (h1 : many ≤ 100) (q : ∀ (ds : List Int) p H', ds.length = many → Digs ds → H'[p]? = some (.lst (ds.map .int)) → H.length ≤ p → Fm [] H H' → Q (.ref p) H') : wE (m_law_digits [.int cell, .int many] H) Q := by
  refine w_run rfl ?_
  show wS (b_law_digits [some (.int cell), some (.int many), none, none, none, none] H) _
  unfold b_law_digits
  (repeat fail "go")
  refine w_pow (by decide) (by decide) (by decide) ?_
  (repeat fail "go")
  generalize decide ((10 : Int) ^ (18 : Int).toNat ≤ absZ cell) = wide
  refine ⟨_, rfl, ⟨by omega, by omega⟩, ?_⟩
  rw [show ((many : Int)).toNat = many by omega]
  refine w_loop (fun d t σ H' => d ++ t = rangeL 0 many ∧ ∃ (ds : List Int) (L : Int) (z5 : Option D), ds.length = d.length ∧ Digs ds ∧ H'[H.length]? = some (.lst (ds.map .int)) ∧ Fm [H.length] (H ++ [.lst []]) H' ∧ 0 ≤ L ∧ σ = [some (.int cell), some (.int many), some (.ref H.length), some (.int L), some (.bl wide), z5]) (fun _ _ _ _ _ => own0) (fun d x t σ H1 ⟨e0, ds, L, z5, e1, e2, e3, x1, hL, e5⟩ => ?_) (fun d σ H1 ⟨e0, ds, L, z5, e1, e2, e3, x1, hL, e5⟩ => ?_) _ [] _ _ ⟨rfl, [], absZ cell, _, rfl, (by intro d h; cases h), last, Fm.refl, (by unfold absZ; split <;> omega), rfl⟩
  · subst e5
    have hx : x ∈ rangeL 0 many := by rw [← e0]; simp
    simp only [rangeL, List.mem_map, List.mem_range] at hx
    obtain ⟨i, hi, rfl⟩ := hx
    have hd : d.length ≤ 100 := by
      have := congrArg List.length e0
      simp [rangeL] at this
      omega
    (repeat fail "go")
    refine w_ifB' (wide && decide (0 < L)) ?_ (fun h => ?_) (fun h => ?_)
    · (repeat fail "go")
      cases wide
      · exact ⟨(fun z => nomatch z), fun _ => ⟨rfl, rfl⟩⟩
      · refine ⟨fun _ => ?_, (fun z => nomatch z)⟩
        (repeat fail "go")
        exact ⟨rfl, by simp⟩
    · (repeat fail "go")
      refine ⟨isl e3, ?_⟩
      (repeat fail "go")
      refine w_app e3 (by simp; omega) ?_
      (repeat fail "go")
      have m0 := Int.emod_nonneg L (show (10007 : Int) ≠ 0 by decide)
      have m1 := Int.emod_lt_of_pos L (show (0 : Int) < 10007 by decide)
      refine ⟨by rw [← e0]; simp, ds ++ [L % 10007], L / 10007, _, by simp [e1], ?_, ?_, x1.trans (Fm.set (by simp)), Int.ediv_nonneg hL (by decide), rfl⟩
      · intro y hy
        rcases List.mem_append.mp hy with h | h
        · exact e2 y h
        · simp at h; subst h; exact ⟨m0, by omega⟩
      · rw [List.map_append]; exact setS e3
    · (repeat fail "go")
      refine ⟨isl e3, ?_⟩
      (repeat fail "go")
      refine w_mix (by omega) (by omega) fun r H2 r0 r1 x2 => ?_
      (repeat fail "go")
      have e3' := x2.lst (by simp) e3
      refine w_app e3' (by simp; omega) ?_
      (repeat fail "go")
      refine ⟨by rw [← e0]; simp, ds ++ [r], L, _, by simp [e1], ?_, ?_, (x1.trans (x2.sub (by simp))).trans (Fm.set (by simp)), hL, rfl⟩
      · intro y hy
        rcases List.mem_append.mp hy with h | h
        · exact e2 y h
        · simp at h; subst h; exact ⟨r0, r1⟩
      · rw [List.map_append]; exact setS e3'
  · subst e5
    have hd : d.length = many := by
      have := congrArg List.length e0
      simpa [rangeL] using this
    (repeat fail "go")
    exact q ds _ H1 (by omega) e2 e3 (Nat.le_refl _) ((Fm.app (S := []) _).new x1 (by intro m hm _; simp at hm; omega))
theorem w_dig {p : Nat} {ds : List Int} {i : Int} (g : H[p]? = some (.lst (ds.map .int))) (hd : Digs ds) (h0 : 0 ≤ i) (h1 : i < ds.length) (q : ∀ r, 0 ≤ r → r < 2147483648 → Q (.int r) H) : wE (ixD (.ref p) (.int i) H) Q := by
  have lt : i.toNat < ds.length := by omega
  have hm := hd _ (List.getElem_mem lt)
  exact w_ixR g (atI_toNat h0 (d := .int ds[i.toNat]) (by rw [List.getElem?_map, List.getElem?_eq_getElem lt]; rfl)) (q _ hm.1 hm.2)
theorem two_as {r : Int} (h0 : 0 ≤ r) (h1 : r < 2) : ∃ k, IsKind k ∧ atI [D.str "all", .str "some"] r = some k := by
  rcases (show r = 0 ∨ r = 1 by omega) with rfl | rfl
  · exact ⟨_, .inl rfl, rfl⟩
  · exact ⟨_, .inr rfl, rfl⟩
theorem two_sa {r : Int} (h0 : 0 ≤ r) (h1 : r < 2) : ∃ k, IsKind k ∧ atI [D.str "some", .str "all"] r = some k := by
  rcases (show r = 0 ∨ r = 1 by omega) with rfl | rfl
  · exact ⟨_, .inr rfl, rfl⟩
  · exact ⟨_, .inl rfl, rfl⟩
theorem mod2 (r : Int) : 0 ≤ r % 2 ∧ r % 2 < 2 := by omega
theorem w_kinds {p : Nat} {ds : List Int} {many : Nat} (g : H[p]? = some (.lst (ds.map .int))) (hd : Digs ds) (hl : many + 1 ≤ ds.length) (h100 : many ≤ 100) (q : ∀ ks H', (∀ d ∈ ks, IsKind d) → ks.length = many → Fm [] H H' → Q (.tup ks) H') : wE (m_law_kinds [.ref p, .int many] H) Q := by
  refine w_run rfl ?_
  show wS (b_law_kinds [some (.ref p), some (.int many), none, none, none] H) _
  unfold b_law_kinds
  (repeat fail "go")
  have hp : p < H.length := (List.getElem?_eq_some_iff.mp g).1
  refine ⟨_, rfl, ⟨by omega, by omega⟩, ?_⟩
  rw [show ((many : Int)).toNat = many by omega]
  refine w_loop (fun d t σ H' => d ++ t = rangeL 0 many ∧ ∃ (ks : List D) (z3 z4 : Option D), ks.length = d.length ∧ (∀ d ∈ ks, IsKind d) ∧ H'[H.length]? = some (.lst ks) ∧ Fm [H.length] (H ++ [.lst []]) H' ∧ σ = [some (.ref p), some (.int many), some (.ref H.length), z3, z4]) (fun _ _ _ _ _ => own0) (fun d x t σ H1 ⟨e0, ks, z3, z4, e1, e2, e3, x1, e5⟩ => ?_) (fun d σ H1 ⟨e0, ks, z3, z4, e1, e2, e3, x1, e5⟩ => ?_) _ [] _ _ ⟨rfl, [], _, _, rfl, (by intro d h; cases h), last, Fm.refl, rfl⟩
  · subst e5
    have hx : x ∈ rangeL 0 many := by rw [← e0]; simp
    simp only [rangeL, List.mem_map, List.mem_range] at hx
    obtain ⟨i, hi, rfl⟩ := hx
    have hdl : d.length ≤ 100 := by
      have := congrArg List.length e0
      simp [rangeL] at this
      omega
    have gp : H1[p]? = some (.lst (ds.map .int)) := x1.lst (by simp; omega) (appL g)
    have Jn : ∀ (L : List D) {H2 : HD}, Fm [H.length] (H ++ [.lst []]) H2 → H2[p]? = some (.lst (ds.map .int)) → H2[H.length]? = some (.lst ks) → Fm [H.length] (H ++ [.lst []]) (H2 ++ [.lst L]) ∧ (H2 ++ [.lst L])[p]? = some (.lst (ds.map .int)) ∧ (H2 ++ [.lst L])[H.length]? = some (.lst ks) := fun L H2 a b c => ⟨a.trans (Fm.app _), appL b, appL c⟩
    refine w_gnm (w_seq ?_)
    refine w_cut (fun σ H2 => (Fm [H.length] (H ++ [.lst []]) H2 ∧ H2[p]? = some (.lst (ds.map .int)) ∧ H2[H.length]? = some (.lst ks)) ∧ ∃ k, IsKind k ∧ σ = [some (.ref p), some (.int many), some (.ref H.length), some (.int (0 + i)), some k]) ?_ ?_
    · (repeat fail "go")
      refine w_dig (appL gp) hd (by omega) (by omega) fun r r0 r1 => ?_
      (repeat fail "go")
      obtain ⟨k, hk, ek⟩ := two_as (mod2 r).1 (mod2 r).2
      refine w_ixR last ek ?_
      exact ⟨rfl, Jn _ x1 gp e3, k, hk, rfl⟩
    rintro _ H2 ⟨⟨x2, g2, e4⟩, k, hk, rfl⟩
    refine w_seq (w_cut (fun σ H2 => (Fm [H.length] (H ++ [.lst []]) H2 ∧ H2[p]? = some (.lst (ds.map .int)) ∧ H2[H.length]? = some (.lst ks)) ∧ ∃ k, IsKind k ∧ σ = [some (.ref p), some (.int many), some (.ref H.length), some (.int (0 + i)), some k]) ?_ ?_)
    · (refine WP.w_if ?_; (repeat fail "go"))
      refine w_dig g2 hd (by omega) (by omega) fun r r0 r1 => ?_
      (repeat fail "go")
      refine ⟨fun h => ?_, fun h => ?_⟩
      · (repeat fail "go")
        refine w_dig (appL g2) hd (by omega) (by omega) fun r' r0' r1' => ?_
        (repeat fail "go")
        obtain ⟨k2, hk2, ek2⟩ := two_sa (mod2 (0 + (i : Int) + r')).1 (mod2 _).2
        refine w_ixR last ek2 ?_
        (repeat fail "go")
        exact ⟨rfl, Jn _ x2 g2 e4, k2, hk2, rfl⟩
      · (repeat fail "go")
        exact ⟨rfl, ⟨x2, g2, e4⟩, k, hk, rfl⟩
    rintro _ H3 ⟨⟨x3, g3, e6⟩, k, hk, rfl⟩
    refine w_seq (w_cut (fun σ H2 => (Fm [H.length] (H ++ [.lst []]) H2 ∧ H2[p]? = some (.lst (ds.map .int)) ∧ H2[H.length]? = some (.lst ks)) ∧ ∃ k, IsKind k ∧ σ = [some (.ref p), some (.int many), some (.ref H.length), some (.int (0 + i)), some k]) ?_ ?_)
    · (refine WP.w_if ?_; (repeat fail "go"))
      refine w_dig g3 hd (by omega) (by omega) fun r r0 r1 => ?_
      (repeat fail "go")
      refine ⟨fun h => ?_, fun h => ?_⟩
      · (repeat fail "go")
        refine w_dig (appL g3) hd (by omega) (by omega) fun r' r0' r1' => ?_
        (repeat fail "go")
        obtain ⟨k2, hk2, ek2⟩ := two_as (r := if decide (0 < r' % 3) = true then 1 else 0) (by split <;> omega) (by split <;> omega)
        refine w_ixR last ek2 ?_
        (repeat fail "go")
        exact ⟨rfl, Jn _ x3 g3 e6, k2, hk2, rfl⟩
      · (repeat fail "go")
        exact ⟨rfl, ⟨x3, g3, e6⟩, k, hk, rfl⟩
    rintro _ H4 ⟨⟨x4, g4, e7⟩, k, hk, rfl⟩
    (repeat fail "go")
    refine ⟨isl e7, ?_⟩
    (repeat fail "go")
    refine w_app e7 (by omega) ?_
    (repeat fail "go")
    refine ⟨by rw [← e0]; simp, ks ++ [k], _, _, by simp [e1], ?_, setS e7, x4.trans (Fm.set (by simp)), rfl⟩
    intro y hy
    rcases List.mem_append.mp hy with h | h
    · exact e2 y h
    · simp at h; subst h; exact hk
  · subst e5
    have hdl : d.length = many := by
      have := congrArg List.length e0
      simpa [rangeL] using this
    (repeat fail "go")
    exact q ks H1 e2 (by omega) ((Fm.app (S := []) _).new x1 (by intro m hm _; simp at hm; omega))
theorem up_snoc {m : Int} : ∀ (ls : List Int) (last l : Int), Up m last ls → (∀ x ∈ ls, absZ x < absZ l) → last < absZ l → absZ l ≤ m → Up m last (ls ++ [l])
  | [], last, l, _, _, h1, h2 => ⟨h1, h2, trivial⟩
  | x :: r, last, l, u, h, h1, h2 => by
    obtain ⟨u1, u2, u3⟩ := u
    exact ⟨u1, u2, up_snoc r (absZ x) l u3 (fun y hy => h y (by simp [hy])) (h x (by simp)) h2⟩
theorem range_cons43 (lo : Int) (m : Nat) : rangeL lo (m + 1) = .int lo :: rangeL (lo + 1) m := by
  unfold rangeL
  rw [List.range_succ_eq_map, List.map_cons, List.map_map]
  have e0 : D.int (lo + ((0 : Nat) : Int)) = .int lo := by simp
  rw [e0]
  refine congrArg (List.cons _) (List.map_congr_left fun a _ => ?_)
  show D.int _ = D.int _
  congr 1
  omega
theorem w_row43 {cell : Int} {M : Nat} {wide : Int} (hM : M ≤ 8) (q : ∀ ls H', Up M 0 ls → Fm [] H H' → Q (rowD ls) H') : wE (m_law_row [.int cell, .int M, .int wide] H) Q := by
  refine w_run rfl ?_
  show wS (b_law_row [some (.int cell), some (.int M), some (.int wide), none, none, none] H) _
  unfold b_law_row
  (repeat fail "go")
  rw [show (M : Int) + 1 = ((M + 1 : Nat) : Int) by omega]
  refine w_digits (by omega) fun ds p H1 l1 d1 g1 n1 x1 => ?_
  (repeat fail "go")
  refine ⟨_, rfl, ⟨by omega, by omega⟩, ?_⟩
  rw [Int.toNat_natCast]
  refine w_loop (fun d t σ H' => ∃ ls : List Int, t = rangeL (d.length : Int) (M - d.length) ∧ H'[p]? = some (.lst (ds.map .int)) ∧ H'[H1.length]? = some (.lst (ls.map .int)) ∧ ls.length ≤ d.length ∧ d.length ≤ M ∧ Up M 0 ls ∧ (∀ x ∈ ls, absZ x ≤ d.length) ∧ Fm [] H H' ∧ ∃ z, σ = [some (.int cell), some (.int M), some (.int wide), some (.ref p), some (.ref H1.length), z]) (fun _ _ _ _ _ => own0) (fun d x t σ H2 ⟨ls, i1, i2, i3, i4, i5, i6, i7, i8, z, i9⟩ => ?_) (fun d σ H2 ⟨ls, i1, i2, i3, i4, i5, i6, i7, i8, z, i9⟩ => ?_) _ [] _ _ ⟨[], by simp, appL g1, last, by simp, by simp, trivial, by simp, x1.trans (Fm.app _), none, rfl⟩
  · subst i9
    obtain ⟨k, hk⟩ : ∃ k, M - d.length = k + 1 := by
      cases h : M - d.length with
      | zero => rw [h] at i1; simp [rangeL] at i1
      | succ k => exact ⟨k, rfl⟩
    rw [hk, range_cons43] at i1
    obtain ⟨rfl, rfl⟩ := List.cons.inj i1
    have tl : rangeL ((d.length : Int) + 1) k = rangeL (((d ++ [D.int (d.length : Int)]).length : Nat) : Int) (M - (d ++ [D.int (d.length : Int)]).length) := by
      simp only [List.length_append, List.length_cons, List.length_nil]
      congr 1
      omega
    (repeat fail "go"); (refine WP.w_if ?_; (repeat fail "go"))
    refine w_dig i2 d1 (by omega) (by omega) fun r r0 r1 => ?_
    (repeat fail "go")
    refine w_mod (by omega) ?_
    (repeat fail "go")
    refine w_dig i2 d1 (by omega) (by omega) fun r' r0' r1' => ?_
    (repeat fail "go")
    refine ⟨fun h => ?_, fun h => ?_⟩
    · (repeat fail "go")
      refine ⟨isl i3, ?_⟩
      (repeat fail "go")
      refine w_dig (appL i2) d1 (by omega) (by omega) fun r2 r20 r21 => ?_
      (repeat fail "go")
      refine w_fdiv (by omega) (by omega) ?_
      (repeat fail "go")
      have m2 : r2 / ((M : Int) + 1) % 2 = 0 ∨ r2 / ((M : Int) + 1) % 2 = 1 := by omega
      obtain ⟨l, hl, el⟩ : ∃ l : Int, absZ l = (d.length : Int) + 1 ∧ atI [D.int ((d.length : Int) + 1), .int (0 - (d.length : Int) - 1)] (r2 / ((M : Int) + 1) % 2) = some (.int l) := by
        rcases m2 with z | z <;> rw [z]
        · exact ⟨_, by unfold absZ; split <;> omega, rfl⟩
        · exact ⟨_, by unfold absZ; split <;> omega, rfl⟩
      refine w_ixR last el ?_
      (repeat fail "go")
      refine w_app (appL i3) (by simp; omega) ?_
      (repeat fail "go")
      have np : H1.length ≠ p := by have := (List.getElem?_eq_some_iff.mp g1).1; omega
      refine ⟨ls ++ [l], tl, setO np (appL i2), by rw [setS (appL i3)]; simp, by simp; omega, by simp; omega, up_snoc ls 0 l i6 (fun x hx => by have := i7 x hx; omega) (by omega) (by omega), fun x hx => ?_, ?_, _, rfl⟩
      · rcases List.mem_append.mp hx with z | z
        · have := i7 x z; simp; omega
        · simp at z; subst z; simp; omega
      · exact (i8.trans (Fm.app _)).new (Fm.set (S := [H1.length]) (by simp)) (fun q hq _ => by simp at hq; subst hq; exact x1.len)
    · (repeat fail "go")
      exact ⟨ls, tl, i2, i3, by simp; omega, by simp; omega, i6, fun x hx => by have := i7 x hx; simp; omega, i8, _, rfl⟩
  · subst i9
    (repeat fail "go")
    exact q ls H2 i6 i8
noncomputable def tS (l : List Nat) : Str := ⟨l.toArray⟩
noncomputable def tx (l : List Nat) : D := .str (tS l)
theorem tS_len (l : List Nat) : (tS l).length = l.length := by simp [tS, Str.length]
theorem tS_inj {a b : List Nat} (h : tS a = tS b) : a = b := by
  have := congrArg (fun x : Str => x.cps.toList) h
  simpa [tS] using this
theorem tS_app (a b : List Nat) : tS a ++ tS b = tS (a ++ b) := by
  show Str.mk (a.toArray ++ b.toArray) = _
  unfold tS
  rw [List.append_toArray]
theorem tS_beq (a b : List Nat) : (tS a == tS b) = decide (a = b) := by
  rw [Bool.eq_iff_iff, beq_iff_eq, decide_eq_true_iff]
  exact ⟨tS_inj, fun h => by rw [h]⟩
theorem idx_clamp (i j n : Nat) : Builtin.Str.strSliceIndices (some (i : Int)) (some (j : Int)) 1 n = Builtin.Str.strSliceIndices (some ((min i n : Nat) : Int)) (some ((max (min i n) (min j n) : Nat) : Int)) 1 n := by
  unfold Builtin.Str.strSliceIndices sliceRange
  simp only [show (1 : Int) > 0 by decide, if_true]
  have e1 : ¬ ((i : Int) < 0) := by omega
  have e2 : ¬ ((j : Int) < 0) := by omega
  have e3 : ¬ (((min i n : Nat) : Int) < 0) := by omega
  have e4 : ¬ (((max (min i n) (min j n) : Nat) : Int) < 0) := by omega
  simp only [if_neg e1, if_neg e2, if_neg e3, if_neg e4]
  have f1 : max 0 (min ((min i n : Nat) : Int) (n : Int)) = max 0 (min (i : Int) n) := by omega
  rw [f1]
  by_cases h : max 0 (min (i : Int) n) < max 0 (min (j : Int) n)
  · have f2 : max 0 (min ((max (min i n) (min j n) : Nat) : Int) (n : Int)) = max 0 (min (j : Int) n) := by omega
    rw [f2]
  · have f2 : ¬ (max 0 (min (i : Int) n) < max 0 (min ((max (min i n) (min j n) : Nat) : Int) (n : Int))) := by omega
    rw [if_neg h, if_neg f2]
noncomputable def cutL (l : List Nat) (i j : Nat) : List Nat := (l.drop i).take (j - i)
theorem slice_nn (l : List Nat) (i j : Nat) : Txt.slice (tS l) (some (i : Int)) (some (j : Int)) = tS (cutL l i j) := by
  have hl : (tS l).length = l.length := tS_len l
  have e : Txt.slice (tS l) (some (i : Int)) (some (j : Int)) = Txt.slice (tS l) (some ((min i l.length : Nat) : Int)) (some ((max (min i l.length) (min j l.length) : Nat) : Int)) := by
    unfold Txt.slice
    rw [hl, idx_clamp]
  rw [e]
  show StrLaws.sliceText (tS l) _ _ = _
  rw [StrLaws.sliceText_plain ⟨by omega, by omega, by show ((max (min i l.length) (min j l.length) : Nat) : Int) ≤ ((tS l).cps.toList.length : Nat); simp [tS]; omega⟩]
  show Str.mk _ = Str.mk _
  congr 2
  have : (tS l).cps.toList = l := by simp [tS]
  rw [this]
  unfold cutL
  simp only [Int.toNat_natCast]
  rw [show (((max (min i l.length) (min j l.length) : Nat) : Int) - ((min i l.length : Nat) : Int)).toNat = max (min i l.length) (min j l.length) - min i l.length by omega]
  by_cases h : i < l.length
  · rw [show min i l.length = i by omega]
    by_cases hj : j ≤ l.length
    · rw [show min j l.length = j by omega]
      by_cases h2 : i ≤ j
      · rw [show max i j = j by omega]
      · rw [show max i j - i = 0 by omega, show j - i = 0 by omega]
    · rw [show min j l.length = l.length by omega, show max i l.length = l.length by omega]
      rw [List.take_of_length_le (by simp), List.take_of_length_le (by simp; omega)]
  · rw [List.drop_eq_nil_of_le (by omega), List.drop_eq_nil_of_le (by omega)]
    simp
theorem slice_0n (l : List Nat) (i : Nat) : Txt.slice (tS l) (some (i : Int)) none = tS (l.drop i) := by
  have e : Txt.slice (tS l) (some (i : Int)) none = Txt.slice (tS l) (some (i : Int)) (some (l.length : Int)) := by
    have z : Builtin.Str.strSliceIndices (some (i : Int)) none 1 (tS l).length = Builtin.Str.strSliceIndices (some (i : Int)) (some (l.length : Int)) 1 (tS l).length := by
      unfold Builtin.Str.strSliceIndices
      simp only [show (1 : Int) > 0 by decide, if_true]
      rw [tS_len]
      congr 1
      have : ¬ ((l.length : Int) < 0) := by omega
      rw [if_neg this]
      omega
    unfold Txt.slice
    rw [z]
  rw [e, slice_nn]
  unfold cutL
  rw [List.take_of_length_le (by simp)]
theorem found1 (l : List Nat) (c : Nat) : (!(Builtin.Str.occurrences (tS l) (tS [c]) 0 (tS l).length 1).isEmpty) = decide (c ∈ l) := by
  have := StrLaws.found_one (tS l) c
  rw [show (tS l).cps.toList = l by simp [tS]] at this
  exact this
theorem w_sls {fe : EF} {fl fh : OF} {σ : SD} (h : wE (fe σ H) fun x H1 => wO (fl σ H1) fun l H2 => wO (fh σ H2) fun u H3 => wE (slSD x l u H3) Q) : wE (eSlS fe fl fh σ H) Q := by
  obtain ⟨x, H1, e1, l, H2, e2, u, H3, e3, d, H4, e4, q⟩ := h
  exact ⟨d, H4, by unfold eSlS; rw [e1]; simp only [Option.bind_some]; rw [e2]; simp only [Option.bind_some]; rw [e3]; exact e4, q⟩
theorem w_cutLo {l : List Nat} {i : Nat} {a : Int} (ha : a = i) (hl : l.length ≤ 100000) (q : Q (tx (l.drop i)) H) : wE (slSD (tx l) (some a) none H) Q := by
  subst ha
  exact ⟨_, _, by unfold slSD tx; dsimp only; rw [if_pos (by rw [tS_len, PySem.sizeLine_eq]; omega), slice_0n], q⟩
theorem w_six {l : List Nat} {i c : Nat} {a : Int} (ha : a = i) (hc : l[i]? = some c) (hl : l.length ≤ 100000) (q : Q (tx [c]) H) : wE (sixD (tx l) (.int a) H) Q := by
  subst ha
  refine ⟨_, _, ?_, q⟩
  unfold sixD tx
  dsimp only
  rw [if_pos (by rw [tS_len, PySem.sizeLine_eq]; omega), show (tS l).cps.toList = l by simp [tS], atI_nat hc]
  rfl
theorem w_sin {l : List Nat} {c : Nat} (q : Q (.bl (decide (c ∈ l))) H) : wE (sinD (tx [c]) (tx l) H) Q :=
  ⟨_, _, by unfold sinD tx; dsimp only; rw [found1], q⟩
theorem w_eqX {a b : List Nat} (q : Q (.bl (decide (a = b))) H) : wE (eqD (tx a) (tx b) H) Q := w_eqS (by rw [tS_beq]; exact q)
theorem w_neX {a b : List Nat} (q : Q (.bl (!decide (a = b))) H) : wE (neD (tx a) (tx b) H) Q := w_neS (by rw [bne, tS_beq]; exact q)
theorem w_lenX {l : List Nat} (hl : l.length ≤ 100000) (q : Q (.int l.length) H) : wE (lenD [tx l] H) Q :=
  ⟨_, _, by unfold lenD tx; dsimp only; rw [if_pos (by rw [tS_len, PySem.sizeLine_eq]; omega), tS_len], q⟩
theorem w_addX {a b : List Nat} (hl : a.length + b.length ≤ 100000) (q : Q (tx (a ++ b)) H) : wE (addD (tx a) (tx b) H) Q :=
  ⟨_, _, by unfold addD tx; dsimp only; rw [if_pos (by rw [tS_len, tS_len, PySem.sizeLine_eq]; omega), tS_app], q⟩
noncomputable def spl (c : Nat) : List Nat → List (List Nat)
  | [] => [[]]
  | x :: r => if x = c then [] :: spl c r else match spl c r with
    | w :: ws => (x :: w) :: ws
    | [] => [[x]]
theorem spl_ne (c : Nat) : ∀ l, ∃ w ws, spl c l = w :: ws
  | [] => ⟨[], [], rfl⟩
  | x :: r => by
    obtain ⟨w, ws, e⟩ := spl_ne c r
    unfold spl
    rw [e]
    split <;> exact ⟨_, _, rfl⟩
theorem spl_no {c : Nat} : ∀ {w : List Nat}, c ∉ w → spl c w = [w]
  | [], _ => rfl
  | x :: r, h => by
    have h1 : ¬ x = c := fun z => h (by simp [z])
    unfold spl
    rw [if_neg h1, spl_no (w := r) fun z => h (by simp [z])]
theorem spl_app {c : Nat} {r : List Nat} : ∀ {w : List Nat}, c ∉ w → spl c (w ++ c :: r) = w :: spl c r
  | [], _ => by
    show spl c (c :: r) = _
    rw [spl, if_pos rfl]
  | x :: t, h => by
    have h1 : ¬ x = c := fun z => h (by simp [z])
    show spl c (x :: (t ++ c :: r)) = _
    rw [spl, if_neg h1, spl_app (w := t) fun z => h (by simp [z])]
theorem sub_at (l : List Nat) (c i : Nat) : Builtin.Str.subAt (tS l) (tS [c]) i = decide (l[i]? = some c) := by
  unfold Builtin.Str.subAt
  show (l.toArray.extract i (i + 1) == [c].toArray) = _
  rw [Bool.eq_iff_iff, beq_iff_eq, decide_eq_true_iff]
  have e : (l.toArray.extract i (i + 1)).toList = (l.drop i).take 1 := by simp
  constructor
  · intro h
    have h2 := congrArg Array.toList h
    rw [e] at h2
    have h3 : ((l.drop i).take 1)[0]? = some c := by rw [h2]; rfl
    simpa using h3
  · intro h
    apply Array.toList_inj.mp
    rw [e]
    have hi : i < l.length := (List.getElem?_eq_some_iff.mp h).1
    rw [List.drop_eq_getElem_cons hi]
    have : l[i] = c := (List.getElem?_eq_some_iff.mp h).2
    simp [this]
theorem occ_go (l : List Nat) (c : Nat) : ∀ (m a : Nat) (st : Array Nat × Nat), a + m ≤ l.length + 1 → st.1.size ≤ a → st.2 ≤ a →
    (forIn (List.range' a m) st (StrLaws.occBody (tS l) (tS [c]) l.length (l.length + 1))).run.fst.toList = st.1.toList ++ (List.range' a m).filter fun i => decide (l[i]? = some c)
  | 0, a, st, _, _, _ => by simp
  | m + 1, a, st, h1, h2, h3 => by
    rw [List.range'_succ, List.forIn_cons]
    unfold StrLaws.occBody
    rw [sub_at]
    have tl : (tS [c]).length = 1 := rfl
    by_cases h : l[a]? = some c
    · have hi : a < l.length := (List.getElem?_eq_some_iff.mp h).1
      rw [if_pos ⟨⟨⟨by omega, h3⟩, by rw [tl]; omega⟩, by rw [decide_eq_true_iff]; exact h⟩]
      have := occ_go l c m (a + 1) (st.1.push a, a + 1) (by omega) (by simp; omega) (Nat.le_refl _)
      rw [List.filter_cons_of_pos (by simpa using h)]
      refine Eq.trans this ?_
      simp
    · rw [if_neg (fun z => h (by simpa using z.2))]
      have := occ_go l c m (a + 1) st (by omega) (by omega) (by omega)
      rw [List.filter_cons_of_neg (by simpa using h)]
      exact this
theorem occ_all (l : List Nat) (c : Nat) : Builtin.Str.occurrences (tS l) (tS [c]) 0 l.length (l.length + 1) = (List.range' 0 l.length).filter fun i => decide (l[i]? = some c) := by
  rw [StrLaws.occ_eq]
  have := occ_go l c (l.length + 1 - 0) 0 (#[], 0) (by omega) (by simp) (Nat.le_refl _)
  refine Eq.trans this ?_
  rw [Nat.sub_zero, List.range'_concat, List.filter_append]
  simp
theorem sub_tS (l : List Nat) (i j : Nat) : Builtin.Str.strSub (tS l) i j = tS ((l.drop i).take (j - i)) := by
  unfold Builtin.Str.strSub tS
  congr 1
  apply Array.toList_inj.mp
  simp
theorem parts_go (l : List Nat) (c : Nat) : ∀ (m a : Nat), a + m = l.length → StrLaws.partsFrom (tS l) 1 a ((List.range' a m).filter fun i => decide (l[i]? = some c)) = (spl c (l.drop a)).map tS
  | 0, a, h => by
    rw [List.drop_eq_nil_of_le (by omega)]
    show [Builtin.Str.strSub (tS l) a (tS l).length] = _
    rw [sub_tS, List.drop_eq_nil_of_le (by omega)]
    simp [spl]
  | m + 1, a, h => by
    have ha : a < l.length := by omega
    have ih := parts_go l c m (a + 1) (by omega)
    rw [List.range'_succ, List.drop_eq_getElem_cons ha]
    by_cases hc : l[a]? = some c
    · have e : l[a] = c := (List.getElem?_eq_some_iff.mp hc).2
      rw [List.filter_cons_of_pos (by simpa using hc), spl, if_pos e]
      show Builtin.Str.strSub (tS l) a a :: _ = _
      rw [sub_tS, Nat.sub_self, List.take_zero, List.map_cons, ih]
    · have e : ¬ l[a] = c := fun z => hc (List.getElem?_eq_some_iff.mpr ⟨ha, z⟩)
      rw [List.filter_cons_of_neg (by simpa using hc), spl, if_neg e]
      obtain ⟨w, ws, e2⟩ := spl_ne c (l.drop (a + 1))
      rw [e2] at ih ⊢
      rw [List.map_cons] at ih ⊢
      have key : ∀ k, a + 1 ≤ k → Builtin.Str.strSub (tS l) a k = tS (l[a] :: ((l.drop (a + 1)).take (k - (a + 1)))) := fun k hk => by
        rw [sub_tS, List.drop_eq_getElem_cons ha, show k - a = (k - (a + 1)) + 1 by omega, List.take_succ_cons]
      cases hf : (List.range' (a + 1) m).filter fun i => decide (l[i]? = some c) with
      | nil =>
        rw [hf] at ih
        have i1 : [Builtin.Str.strSub (tS l) (a + 1) (tS l).length] = tS w :: ws.map tS := ih
        rw [sub_tS] at i1
        obtain ⟨i2, i3⟩ := List.cons.inj i1
        have i2 := tS_inj i2
        show [Builtin.Str.strSub (tS l) a (tS l).length] = _
        rw [key _ (by rw [tS_len]; omega), i2, ← i3]
      | cons k r =>
        rw [hf] at ih
        have i1 : Builtin.Str.strSub (tS l) (a + 1) k :: StrLaws.partsFrom (tS l) 1 (k + 1) r = tS w :: ws.map tS := ih
        rw [sub_tS] at i1
        obtain ⟨i2, i3⟩ := List.cons.inj i1
        have i2 := tS_inj i2
        have hk : a + 1 ≤ k := by
          have : k ∈ (List.range' (a + 1) m).filter fun i => decide (l[i]? = some c) := by rw [hf]; exact List.mem_cons_self ..
          exact (List.mem_range'_1.mp (List.mem_filter.mp this).1).1
        show Builtin.Str.strSub (tS l) a k :: StrLaws.partsFrom (tS l) 1 (k + 1) r = _
        rw [key _ hk, i2, i3]
theorem parts_spl {c : Nat} (hc : c < 256) (l : List Nat) : partsS (tS l) (tS [c]) = (spl c l).map tS := by
  unfold partsS
  have k1 : Builtin.Str.strKind (tS [c]) = 1 := by
    unfold Builtin.Str.strKind
    rw [if_pos (by simp [tS, hc])]
  have k2 : ¬ Builtin.Str.strKind (tS l) < 1 := by
    unfold Builtin.Str.strKind
    split
    · decide
    · split <;> decide
  rw [k1, decide_eq_false k2, Bool.or_false, tS_len, tS_len]
  by_cases h0 : l.length < 1
  · have : l = [] := List.length_eq_zero_iff.mp (by omega)
    subst this
    rfl
  · rw [if_neg (by simpa using h0), occ_all]
    have pg := parts_go l c l.length 0 (by omega)
    rw [List.drop_zero] at pg
    split
    · rename_i he
      have he := List.isEmpty_iff.mp he
      rw [he] at pg
      rw [← pg]
      show [tS l] = [Builtin.Str.strSub (tS l) 0 (tS l).length]
      rw [sub_tS, tS_len]
      simp
    · rw [StrLaws.partsBetween_eq]
      exact pg
noncomputable def jnL (g : List Nat) : List (List Nat) → List Nat
  | [] => []
  | w :: r => w ++ (r.map (g ++ ·)).flatten
theorem glue_go (g : List Nat) : ∀ (r : List (List Nat)) (a : List Nat), (r.map tS).foldl (fun acc p => acc ++ (tS g).cps ++ p.cps) a.toArray = (a ++ (r.map (g ++ ·)).flatten).toArray
  | [], a => by simp
  | w :: r, a => by
    rw [List.map_cons, List.foldl_cons]
    have : a.toArray ++ (tS g).cps ++ (tS w).cps = (a ++ g ++ w).toArray := by simp [tS]
    rw [this, glue_go g r]
    simp
theorem join_tS (g : List Nat) (ws : List (List Nat)) : joinS (tS g) (ws.map tS) = tS (jnL g ws) := by
  have gl : ∀ w r, Builtin.Str.glued (tS g) (tS w :: r.map tS) = tS (jnL g (w :: r)) := fun w r => by
    unfold Builtin.Str.glued
    show Str.mk ((r.map tS).foldl _ w.toArray) = _
    rw [glue_go]
    rfl
  cases ws with
  | nil =>
    show Builtin.Str.glued (tS g) [] = _
    unfold Builtin.Str.glued
    rfl
  | cons w r =>
    cases r with
    | nil =>
      show tS w = tS (w ++ [])
      rw [List.append_nil]
    | cons w2 r => exact gl w (w2 :: r)
theorem jnL_len (g : List Nat) : ∀ ws : List (List Nat), (jnL g ws).length ≤ (ws.map List.length).sum + ws.length * g.length
  | [] => by simp [jnL]
  | w :: r => by
    unfold jnL
    rw [List.length_append, List.length_flatten, List.map_map, List.map_cons, List.sum_cons, List.length_cons]
    have : ∀ r : List (List Nat), (r.map (List.length ∘ fun x => g ++ x)).sum = (r.map List.length).sum + r.length * g.length := by
      intro r
      induction r with
      | nil => simp
      | cons x t ih =>
        rw [List.map_cons, List.sum_cons, ih, List.map_cons, List.sum_cons, List.length_cons, Nat.succ_mul]
        simp only [Function.comp, List.length_append]
        omega
    rw [this, Nat.succ_mul]
    omega
theorem fold_len (g : List Nat) : ∀ (ws : List (List Nat)) (n : Nat), (ws.map tS).foldl (fun a x => a + x.length + (tS g).length) n = n + (ws.map List.length).sum + ws.length * g.length
  | [], n => by simp
  | w :: r, n => by
    rw [List.map_cons, List.foldl_cons, fold_len g r, tS_len, tS_len, List.map_cons, List.sum_cons, List.length_cons, Nat.succ_mul]
    omega
theorem strs_tx : ∀ ws : List (List Nat), strsOf (ws.map tx) = some (ws.map tS)
  | [] => rfl
  | w :: r => by
    rw [List.map_cons]
    show (strsOf (r.map tx)).map (tS w :: ·) = _
    rw [strs_tx r]
    rfl
theorem w_join {g : List Nat} {d : D} {ws : List (List Nat)} (hs : seqD d H = some (ws.map tx)) (hl : (ws.map List.length).sum + ws.length * g.length ≤ 100000) (q : Q (tx (jnL g ws)) H) : wE (joinD (tx g) [d] H) Q := by
  refine ⟨_, _, ?_, q⟩
  show (seqD d H).bind _ = _
  rw [hs]
  simp only [Option.bind_some]
  rw [strs_tx]
  simp only [Option.bind_some]
  rw [join_tS]
  refine if_pos ⟨?_, ?_⟩
  · unfold Builtin.Str.tooLong
    rw [List.foldl_toArray, fold_len, sizeLine_eq]
    simp only [decide_eq_false_iff_not]
    omega
  · have := jnL_len g ws
    rw [tS_len, sizeLine_eq]; omega
theorem w_split {c : Nat} {l : List Nat} (hc : c < 256) (hl : l.length ≤ 100000) (hp : (spl c l).length ≤ 100000) (q : Q (.ref H.length) (H ++ [.lst ((spl c l).map tx)])) : wE (splitD (tx l) [tx [c]] H) Q := by
  refine ⟨_, _, ?_, q⟩
  show (if ((tS [c]).length == 0) = false ∧ (tS l).length ≤ sizeLine then mkL ((partsS (tS l) (tS [c])).map .str) H else none) = _
  rw [if_pos ⟨rfl, by rw [tS_len, sizeLine_eq]; omega⟩, parts_spl hc, List.map_map]
  unfold mkL
  rw [if_pos (by rw [List.length_map, sizeLine_eq]; omega)]
  rfl
theorem spl_jn {c : Nat} : ∀ (ws : List (List Nat)), ws ≠ [] → (∀ w ∈ ws, c ∉ w) → spl c (jnL [c] ws) = ws
  | [], h, _ => absurd rfl h
  | [w], _, h => by
    show spl c (w ++ []) = _
    rw [List.append_nil, spl_no (h w (by simp))]
  | w :: w2 :: r, _, h => by
    have ih := spl_jn (w2 :: r) (by simp) fun x hx => h x (by simp [hx])
    have e : jnL [c] (w :: w2 :: r) = w ++ c :: jnL [c] (w2 :: r) := by simp [jnL]
    rw [e, spl_app (h w (by simp)), ih]
theorem w_atF {ns : List Int} (H : HD) (k : Int) (Q : D → HD → Prop) (h0 : 0 ≤ k) (h1 : k ≤ 1000) (q : ∀ c, Q (.int c) H) : wE (m_law_at [.fl (ns.map .int), .int k] H) Q := by
  refine w_run rfl ?_
  show wS (b_law_at [some (.fl (ns.map .int)), some (.int k)] H) _
  unfold b_law_at
  (repeat fail "go"); (refine WP.w_if ?_; (repeat fail "go"))
  refine ⟨fun h => ?_, fun h => ?_⟩
  · have lt : k.toNat < ns.length := by have := of_decide_eq_true h; simp at this; omega
    (repeat fail "go")
    refine w_ixF (atI_toNat h0 (d := .int ns[k.toNat]) (by rw [List.getElem?_map, List.getElem?_eq_getElem lt]; rfl)) ?_
    (repeat fail "go")
    exact q _
  · (repeat fail "go")
    exact q _
theorem w_slL {p : Nat} {xs : List D} {k : Nat} (g : H[p]? = some (.lst xs)) (q : Q (.ref H.length) (H ++ [.lst (xs.drop k)])) : wE (slD (.ref p) (some (k : Int)) none H) Q :=
  ⟨_, _, by rw [← cut_lo]; simp only [slD, g], q⟩
theorem Digs.drop {ds : List Int} (h : Digs ds) (k : Nat) : Digs (ds.drop k) := fun d hd => h d (List.mem_of_mem_drop hd)
theorem fine_ints (ls : List Int) : Fines (ls.map .int) (ls.map .int) 0 := by
  induction ls with
  | nil => exact .nil
  | cons l r ih => exact .cons (.int l) ih
theorem w_claim77 {sd : D} {most : Nat} (at' : ∀ (H1 : HD) (k : Int) (Q : D → HD → Prop), Fm [] H H1 → 0 ≤ k → k ≤ 1000 → (∀ c, Q (.int c) H1) → wE (m_law_at [sd, .int k] H1) Q) (hm : 2 ≤ most ∧ most ≤ 8) (q : ∀ ks rss H', Cl ks rss → ks.length ≤ most → rss.length ≤ 20 → Fm [] H H' → Q (claimD ks rss) H') : wE (m_law_claim [sd, .int most] H) Q := by
  refine w_run rfl ?_
  show wS (b_law_claim [some sd, some (.int most), none, none, none, none, none] H) _
  unfold b_law_claim
  (repeat fail "go")
  refine at' _ _ _ .refl (by omega) (by omega) fun c => ?_
  (repeat fail "go")
  refine w_digits (many := 14) (by omega) fun ds pd H1 l1 d1 g1 n1 x1 => ?_
  (repeat fail "go")
  refine w_dig g1 d1 (by omega) (by omega) fun a a0 a1 => ?_
  (repeat fail "go")
  refine w_mod (by omega) ?_
  (repeat fail "go")
  refine w_dig g1 d1 (by omega) (by omega) fun a' a0' a1' => ?_
  (repeat fail "go")
  refine w_dig (appL g1) d1 (by omega) (by omega) fun b b0 b1 => ?_
  (repeat fail "go")
  have m3 : b % 3 = 0 ∨ b % 3 = 1 ∨ b % 3 = 2 := by omega
  obtain ⟨N, hN, eN⟩ : ∃ N : Nat, N ≤ most ∧ atI [D.int (a % ((most : Int) + 1)), .int ((most : Int) - a' % 3), .int (most : Int)] (b % 3) = some (.int N) := by
    have e1 := Int.emod_nonneg a (show (most : Int) + 1 ≠ 0 by omega)
    have e2 := Int.emod_lt_of_pos a (show 0 < (most : Int) + 1 by omega)
    rcases m3 with z | z | z <;> rw [z]
    · refine ⟨(a % ((most : Int) + 1)).toNat, by omega, ?_⟩
      rw [Int.toNat_of_nonneg e1]; rfl
    · refine ⟨((most : Int) - a' % 3).toNat, by omega, ?_⟩
      rw [Int.toNat_of_nonneg (by omega)]; rfl
    · exact ⟨most, Nat.le_refl _, rfl⟩
  refine w_ixR last eN ?_
  (repeat fail "go")
  refine w_slL (k := 2) (appL g1) ?_
  (repeat fail "go")
  rw [show (if (N : Int) > 0 then (N : Int) else 0) = (N : Int) by split <;> omega]
  rw [← List.map_drop]
  refine w_kinds (many := N) last (d1.drop 2) (by simp; omega) (by omega) fun ks H2 hk lk x2 => ?_
  have X2 : Fm [] H H2 := ((x1.trans (Fm.app _)).trans (Fm.app _)).trans x2
  have g2 := x2.lst (by simp) (appL (u := DO.lst ((ds.drop 2).map D.int)) (appL (u := DO.lst [D.int (a % ((most : Int) + 1)), .int ((most : Int) - a' % 3), .int (most : Int)]) g1))
  (repeat fail "go")
  refine w_dig g2 d1 (by omega) (by omega) fun u0 u1 u2 => ?_
  (repeat fail "go")
  refine w_dig g2 d1 (by omega) (by omega) fun v0 v1 v2 => ?_
  (repeat fail "go")
  refine w_dig g2 d1 (by omega) (by omega) fun y0 y1 y2 => ?_
  (repeat fail "go")
  refine w_dig (appL g2) d1 (by omega) (by omega) fun e e0 e1 => ?_
  (repeat fail "go")
  have m3' : e % 3 = 0 ∨ e % 3 = 1 ∨ e % 3 = 2 := by omega
  obtain ⟨Z, hZ, eZ⟩ : ∃ Z : Nat, Z ≤ 20 ∧ atI [D.int (u0 % 5), .int (v0 % 11), .int (5 + y0 % 16)] (e % 3) = some (.int Z) := by
    rcases m3' with z | z | z <;> rw [z]
    · refine ⟨(u0 % 5).toNat, by omega, ?_⟩
      rw [Int.toNat_of_nonneg (by omega)]; rfl
    · refine ⟨(v0 % 11).toNat, by omega, ?_⟩
      rw [Int.toNat_of_nonneg (by omega)]; rfl
    · refine ⟨(5 + y0 % 16).toNat, by omega, ?_⟩
      rw [Int.toNat_of_nonneg (by omega)]; rfl
  refine w_ixR last eZ ?_
  (repeat fail "go")
  refine ⟨_, rfl, ⟨by omega, by omega⟩, ?_⟩
  rw [Int.toNat_natCast]
  have Y : Fm [] H (H2 ++ [DO.lst [D.int (u0 % 5), .int (v0 % 11), .int (5 + y0 % 16)]]) := X2.trans (Fm.app _)
  refine w_comp (fun d t o H' => ∃ rss : List (List Int), o = rss.map rowD ∧ rss.length = d.length ∧ d.length + t.length = Z ∧ (∀ ls ∈ rss, Up N 0 ls) ∧ (∀ x ∈ t, ∃ i : Nat, x = .int i ∧ i ≤ 100) ∧ True ∧ H'[pd]? = some (.lst (ds.map .int)) ∧ Fm [] H H') (fun _ _ _ _ _ => own0) (fun d x t o H3 ⟨rss, i1, i2, i3, i4, i5, i6, i7, i8⟩ => ?_) _ [] [] _ ⟨[], rfl, rfl, by simp [rangeL], by simp, fun x hx => ?_, trivial, appL g2, Y⟩ (fun d o H3 ⟨rss, i1, i2, i3, i4, i5, i6, i7, i8⟩ => ?_)
  · obtain ⟨i, rfl, hi⟩ := i5 x (by simp)
    (repeat fail "go")
    refine at' _ _ _ i8 (by omega) (by omega) fun cell => ?_
    (repeat fail "go")
    rw [lk]
    refine w_row43 (by omega) fun ls H4 u x4 => ?_
    refine ⟨rss ++ [ls], by rw [i1]; simp, by simp [i2], by simp at i3 ⊢; omega, fun y hy => ?_, fun y hy => i5 y (by simp [hy]), trivial, x4.lst (by simp) i7, i8.trans x4⟩
    rcases List.mem_append.mp hy with z | z
    · exact i4 y z
    · simp at z; subst z; exact u
  · simp only [rangeL, List.mem_map, List.mem_range] at hx
    obtain ⟨k, hk, rfl⟩ := hx
    exact ⟨k, by simp, by omega⟩
  rw [List.nil_append] at i1
  simp only [List.length_nil, Nat.add_zero] at i3
  subst i1
  refine ⟨by simp; omega, ?_⟩
  show wS (sSeq _ _ [some sd, some (.int most), some (.ref pd), some (.int N), some (.tup ks), some (.int Z), some (.ref H3.length)] (H3 ++ [.lst (rss.map rowD)])) _
  refine w_seq (w_cut (fun σ H' => ∃ (rs : List (List Int)) (pr : Nat), H'[pr]? = some (.lst (rs.map rowD)) ∧ rs.length ≤ 20 ∧ (∀ ls ∈ rs, Up N 0 ls) ∧ Fm [] H H' ∧ σ = [some sd, some (.int most), some (.ref pd), some (.int N), some (.tup ks), some (.int Z), some (.ref pr)]) ?_ ?_)
  · (refine WP.w_if ?_; (repeat fail "go"))
    refine w_dig (appL i7) d1 (by omega) (by omega) fun r r0 r1 => ?_
    (repeat fail "go")
    refine ⟨fun h => ?_, fun h => ?_⟩
    · (repeat fail "go")
      refine w_cfilter (fun d => match d with | .tup xs => !xs.isEmpty | _ => true) (fun H' => H' = H3 ++ [.lst (rss.map rowD)]) (fun _ j => by rw [j]; exact own1 last) _ (fun x hx H4 j => ?_) _ rfl fun H4 j => ?_
      · obtain ⟨ls, hls, rfl⟩ := List.mem_map.mp hx
        subst j
        (repeat fail "go")
        refine w_neF (Fine.tup (fine_ints ls)) (Fine.tup (h := 0) Fines.nil) (by omega) (by omega) ?_
        refine ⟨_, rfl, ?_, rfl⟩
        cases ls <;> simp [PyData.eqv, PyData.eqvAll, rowD]
      · subst j
        have ef : (rss.map rowD).filter (fun d => match d with | .tup xs => !xs.isEmpty | _ => true) = (rss.filter fun ls => !ls.isEmpty).map rowD := by
          rw [List.filter_map]
          congr 1
          exact List.filter_congr fun ls _ => by cases ls <;> rfl
        rw [ef]
        have lf := List.length_filter_le (fun ls : List Int => !ls.isEmpty) rss
        refine ⟨by simp; omega, ?_⟩
        (repeat fail "go")
        exact ⟨rfl, _, _, last, by omega, fun ls h => i4 ls (List.mem_filter.mp h).1, (i8.trans (Fm.app _)).trans (Fm.app _), rfl⟩
    · (repeat fail "go")
      exact ⟨rfl, rss, _, last, by omega, i4, i8.trans (Fm.app _), rfl⟩
  rintro _ H4 ⟨rs, pr, g4, l4, u4, X4, rfl⟩
  (repeat fail "go")
  refine q ks rs H4 ⟨hk, fun ls h => by rw [lk]; exact u4 ls h, by omega, by omega⟩ (by omega) l4 X4
noncomputable def kw (d : D) : List Nat := if kS d then [115, 111, 109, 101] else [97, 108, 108]
theorem kind_tx {d : D} (h : IsKind d) : d = tx (kw d) := by
  rw [kind_side h]
  cases kS d with
  | true =>
    show D.str "some" = D.str _
    congr 1
  | false =>
    show D.str "all" = D.str _
    congr 1
theorem kinds_tx {ks : List D} (h : ∀ d ∈ ks, IsKind d) : ks = (ks.map kw).map tx := by
  rw [List.map_map]
  conv => lhs; rw [← List.map_id ks]
  exact List.map_congr_left fun d hd => kind_tx (h d hd)
noncomputable def lw (i : Int) : List Nat := if i < 0 then [45, 48 + i.natAbs] else [48 + i.natAbs]
theorem str_lw : ∀ k : Fin 19, (Str.ofString (toString ((k.val : Int) - 9))) = tS (lw ((k.val : Int) - 9)) := by decide
theorem w_strI {i : Int} (h0 : -9 ≤ i) (h1 : i ≤ 9) (q : Q (tx (lw i)) H) : wE (strD [.int i] H) Q := by
  refine ⟨_, _, ?_, q⟩
  show (if -1000000000 ≤ i ∧ i ≤ 1000000000 then some (D.str (Str.ofString (toString i)), H) else none) = _
  rw [if_pos (by omega)]
  have := str_lw ⟨(i + 9).toNat, by omega⟩
  simp only [show (((i + 9).toNat : Nat) : Int) - 9 = i by omega] at this
  rw [this]
  rfl
noncomputable def rln (ls : List Int) : List Nat := if ls = [] then [48] else jnL [32] (ls.map lw)
noncomputable def kln (ks : List D) : List Nat := if ks = [] then [45] else jnL [32] (ks.map kw)
noncomputable def cln (ks : List D) (rss : List (List Int)) : List (List Nat) := kln ks :: rss.map rln
noncomputable def ctx (ks : List D) (rss : List (List Int)) : List Nat := ((cln ks rss).map (· ++ [10])).flatten
theorem lw_len (i : Int) : (lw i).length ≤ 2 := by unfold lw; split <;> simp
theorem kw_len (d : D) : (kw d).length ≤ 4 := by unfold kw; split <;> simp
theorem sum_le {α : Type} (f : α → Nat) (n : Nat) : ∀ (l : List α), (∀ x ∈ l, f x ≤ n) → (l.map f).sum ≤ l.length * n
  | [], _ => by simp
  | x :: r, h => by
    have := sum_le f n r fun y hy => h y (by simp [hy])
    have := h x (by simp)
    rw [List.map_cons, List.sum_cons, List.length_cons, Nat.succ_mul]
    omega
theorem up_len {m : Int} (hm : m ≤ 8) : ∀ (ls : List Int) (last : Int), 0 ≤ last → Up m last ls → (ls.length : Int) + last ≤ m ∨ ls = []
  | [], _, _, _ => .inr rfl
  | l :: r, last, h0, u => by
    obtain ⟨u1, u2, u3⟩ := u
    rcases up_len hm r (absZ l) (by omega) u3 with z | z
    · left; simp; omega
    · subst z; left; simp; omega
theorem up_abs {m : Int} : ∀ (ls : List Int) (last : Int), 0 ≤ last → Up m last ls → ∀ x ∈ ls, last < absZ x ∧ absZ x ≤ m
  | [], _, _, _, x, hx => by simp at hx
  | l :: r, last, h0, u, x, hx => by
    obtain ⟨u1, u2, u3⟩ := u
    rcases List.mem_cons.mp hx with rfl | hx
    · exact ⟨u1, u2⟩
    · have := up_abs r (absZ l) (by omega) u3 x hx
      exact ⟨by omega, this.2⟩
theorem absZ_nat (x : Int) : absZ x = x.natAbs := by unfold absZ; split <;> omega
theorem words_len {m : Int} (hm : m ≤ 8) {ls : List Int} (u : Up m 0 ls) : ls.length ≤ 8 := by
  rcases up_len hm ls 0 (by omega) u with z | z
  · omega
  · subst z; simp
theorem join_bound {ws : List (List Nat)} {n : Nat} (h : ∀ w ∈ ws, w.length ≤ n) (hl : ws.length * n + ws.length ≤ 100000) : (ws.map List.length).sum + ws.length * [32].length ≤ 100000 := by
  have := sum_le List.length n ws h
  simp
  omega
theorem w_sm {g : D → List D → HD → Option (D × HD)} {fo : EF} {f : AF} {σ : SD} (h : wE (fo σ H) fun o H1 => isStrD o = true ∧ wA (f σ H1) fun ds H2 => wE (g o ds H2) Q) : wE (eSM g fo f σ H) Q := by
  obtain ⟨o, H1, e1, i, ds, H2, e2, d, H3, e3, q⟩ := h
  exact ⟨d, H3, by unfold eSM; rw [e1]; simp only [Option.bind_some]; rw [if_pos i, e2]; exact e3, q⟩
theorem s_sp : (D.str " ") = tx [32] := rfl
theorem s_nl : (D.str "\n") = tx [10] := rfl
theorem s_em : (D.str "") = tx [] := rfl
theorem s_mi : (D.str "-") = tx [45] := rfl
theorem s_ze : (D.str "0") = tx [48] := rfl
theorem w_showRow {m : Int} {ls : List Int} (hm : m ≤ 8) (u : Up m 0 ls) (q : ∀ H', Fm [] H H' → Q (tx (rln ls)) H') : wE (m_show_row [rowD ls] H) Q := by
  refine w_run rfl ?_
  show wS (b_show_row [some (rowD ls)] H) _
  unfold b_show_row
  (repeat fail "go")
  refine w_truT ?_
  have hl := words_len hm u
  cases ls with
  | nil =>
    refine w_bf ?_
    (repeat fail "go")
    exact q H .refl
  | cons l r =>
    refine w_bt ?_
    refine w_sm ?_
    (repeat fail "go")
    refine ⟨rfl, ?_⟩
    (repeat fail "go")
    refine w_itT ?_
    refine w_cmap (fun d => match d with | .int i => tx (lw i) | d => d) (fun H1 => H1 = H) (fun _ _ => own0) _ (fun d hd H1 e => ?_) H rfl fun H1 e => ?_
    · subst e
      obtain ⟨i, hi, rfl⟩ := List.mem_map.mp hd
      have := up_abs _ _ (by omega) u i hi
      rw [absZ_nat] at this
      (repeat fail "go")
      refine w_strI (by omega) (by omega) ?_
      exact ⟨rfl, rfl⟩
    · subst e
      have em : ((l :: r).map D.int).map (fun d => match d with | .int i => tx (lw i) | d => d) = ((l :: r).map lw).map tx := by rw [List.map_map, List.map_map]; rfl
      rw [em]
      refine w_sz (by simp at hl ⊢; omega) ?_
      (repeat fail "go")
      rw [s_sp]
      refine w_join (ws := (l :: r).map lw) (by simp [seqD]) (join_bound (n := 2) (fun w hw => ?_) (by simp at hl ⊢; omega)) ?_
      · obtain ⟨i, _, rfl⟩ := List.mem_map.mp hw
        exact lw_len i
      (repeat fail "go")
      have := q _ (.app [DO.lst (((l :: r).map lw).map tx)])
      unfold rln at this
      rw [if_neg (by simp)] at this
      exact this
theorem x_line {l : List Nat} {c0 : SD} (hl : l.length ≤ 1000) (q : Q (tx (l ++ [10])) H) : wE (eJ (jE (eVar 0) (jC "\n" jNil)) (some (tx l) :: c0) H) Q := by
  refine ⟨_, _, ?_, q⟩
  have e0 : Str.empty ++ tS l = tS l := by
    show tS [] ++ tS l = _
    rw [tS_app]; rfl
  have e1 : jE (eVar 0) (jC "\n" jNil) (some (tx l) :: c0) H Str.empty = some (tS (l ++ [10]), H) := by
    show (if (tS l).length ≤ sizeLine ∧ (Str.empty ++ tS l).length ≤ sizeLine then jC "\n" jNil (some (tx l) :: c0) H (Str.empty ++ tS l) else none) = _
    rw [e0, if_pos ⟨by rw [tS_len, sizeLine_eq]; omega, by rw [tS_len, sizeLine_eq]; omega⟩]
    show (if (tS l ++ tS [10]).length ≤ sizeLine then jNil (some (tx l) :: c0) H (tS l ++ tS [10]) else none) = _
    rw [tS_app, if_pos (by rw [tS_len, sizeLine_eq]; simp; omega)]
    rfl
  unfold eJ
  rw [e1]
  rfl
theorem rln_len {m : Int} (hm : m ≤ 8) {ls : List Int} (u : Up m 0 ls) : (rln ls).length ≤ 24 := by
  have hl := words_len hm u
  unfold rln
  split
  · simp
  · have h1 := jnL_len [32] (ls.map lw)
    have h2 := sum_le List.length 2 (ls.map lw) fun w hw => by
      obtain ⟨i, _, rfl⟩ := List.mem_map.mp hw
      exact lw_len i
    simp only [List.length_map, List.length_cons, List.length_nil] at h1 h2
    omega
theorem kln_len {ks : List D} (h : ks.length ≤ 8) : (kln ks).length ≤ 40 := by
  unfold kln
  split
  · simp
  · have h1 := jnL_len [32] (ks.map kw)
    have h2 := sum_le List.length 4 (ks.map kw) fun w hw => by
      obtain ⟨i, _, rfl⟩ := List.mem_map.mp hw
      exact kw_len i
    simp only [List.length_map, List.length_cons, List.length_nil] at h1 h2
    omega
theorem w_addLL {a b : Nat} {xs ys : List D} (ga : H[a]? = some (.lst xs)) (gb : H[b]? = some (.lst ys)) (hl : xs.length + ys.length ≤ 1000000) (q : Q (.ref H.length) (H ++ [.lst (xs ++ ys)])) : wE (addD (.ref a) (.ref b) H) Q := by
  refine ⟨_, _, ?_, q⟩
  simp only [addD, ga, gb]
  unfold mkL
  rw [if_pos (by rw [List.length_append, sizeLine_eq]; omega)]
theorem jn_nil (ws : List (List Nat)) : jnL [] ws = ws.flatten := by
  cases ws with
  | nil => rfl
  | cons w r =>
    show w ++ _ = _
    rw [List.flatten_cons]
    congr 2
    conv => rhs; rw [← List.map_id r]
    exact List.map_congr_left fun x _ => rfl
theorem cln_len {ks : List D} {rss : List (List Int)} (c : Cl ks rss) : ∀ w ∈ cln ks rss, w.length ≤ 40 := by
  intro w hw
  have h8 := c.h8
  rcases List.mem_cons.mp hw with rfl | hw
  · exact kln_len c.h8
  · obtain ⟨ls, hls, rfl⟩ := List.mem_map.mp hw
    have := rln_len (by omega) (c.hu ls hls)
    omega
theorem w_showClaim {ks : List D} {rss : List (List Int)} (c : Cl ks rss) (hr : rss.length ≤ 100) (q : ∀ H', Fm [] H H' → Q (tx (ctx ks rss)) H') : wE (m_show_claim [claimD ks rss] H) Q := by
  have h8 := c.h8
  refine w_run rfl ?_
  show wS (b_show_claim [some (claimD ks rss), none, none] H) _
  unfold b_show_claim
  refine w_seq (w_set ?_)
  have h1 : wE (eIf (tTru (eOp ixD (eVar 0) (eC (.int 0)))) (eSM joinD (eC (.str " ")) (aCons (eOp ixD (eVar 0) (eC (.int 0))) aNil)) (eC (.str "-")) [some (claimD ks rss), none, none] H) fun d H' => d = tx (kln ks) ∧ H' = H := by
    (repeat fail "go")
    cases ks with
    | nil =>
      refine w_bf ?_
      (repeat fail "go")
      exact ⟨rfl, rfl⟩
    | cons k r =>
      refine w_bt ?_
      refine w_sm ?_
      (repeat fail "go")
      refine ⟨rfl, ?_⟩
      (repeat fail "go")
      rw [s_sp]
      refine w_join (ws := (k :: r).map kw) ?_ (join_bound (n := 4) (fun w hw => ?_) (by simp at h8 ⊢; omega)) ?_
      · show some (k :: r) = _
        rw [← kinds_tx c.hk]
      · obtain ⟨i, _, rfl⟩ := List.mem_map.mp hw
        exact kw_len i
      · unfold kln
        rw [if_neg (by simp)]
        exact ⟨rfl, rfl⟩
  obtain ⟨d, H1, e1, rfl, rfl⟩ := h1
  refine ⟨_, _, e1, w_kn ?_⟩
  (repeat fail "go")
  refine w_cmap (fun d => match d with | .tup xs => tx (rln (xs.map fun x => match x with | .int i => i | _ => 0)) | d => d) (fun H' => Fm [] (H1 ++ [DO.lst [tx (kln ks)]]) H') (fun _ _ => own0) _ (fun d hd H' e => ?_) _ .refl fun H2 e => ?_
  · obtain ⟨ls, hls, rfl⟩ := List.mem_map.mp hd
    (repeat fail "go")
    refine w_showRow (m := ks.length) (by omega) (c.hu ls hls) fun H2 x2 => ?_
    refine ⟨?_, e.trans x2⟩
    show tx (rln ls) = tx (rln _)
    rw [List.map_map]
    congr 2
    conv => lhs; rw [← List.map_id ls]
    exact List.map_congr_left fun x _ => rfl
  · have em : (rss.map rowD).map (fun d => match d with | .tup xs => tx (rln (xs.map fun x => match x with | .int i => i | _ => 0)) | d => d) = (rss.map rln).map tx := by
      rw [List.map_map, List.map_map]
      refine List.map_congr_left fun ls _ => ?_
      show tx (rln _) = tx (rln ls)
      rw [List.map_map]
      congr 2
      conv => rhs; rw [← List.map_id ls]
      exact List.map_congr_left fun x _ => rfl
    rw [em]
    refine w_sz (by simp; omega) ?_
    have g2 := e.lst (by simp) (last (H := H1) (o := DO.lst [tx (kln ks)]))
    refine w_addLL (appL g2) last (by simp; omega) ?_
    (repeat fail "go")
    refine w_sm ?_
    (repeat fail "go")
    refine ⟨rfl, ?_⟩
    have ec : [tx (kln ks)] ++ (rss.map rln).map tx = (cln ks rss).map tx := rfl
    rw [ec]
    (repeat fail "go")
    refine w_cmap (fun d => match d with | .str x => tx (x.cps.toList ++ [10]) | d => d) (fun H' => H' = H2 ++ [DO.lst ((rss.map rln).map tx)] ++ [DO.lst ((cln ks rss).map tx)]) (fun _ j => by rw [j]; exact own1 last) _ (fun d hd H' j => ?_) _ rfl fun H3 j => ?_
    · subst j
      obtain ⟨w, hw, rfl⟩ := List.mem_map.mp hd
      have := cln_len c w hw
      refine x_line (by omega) ⟨?_, rfl⟩
      show _ = tx ((tS w).cps.toList ++ [10])
      simp [tS]
    · subst j
      have e3 : ((cln ks rss).map tx).map (fun d => match d with | .str x => tx (x.cps.toList ++ [10]) | d => d) = ((cln ks rss).map (· ++ [10])).map tx := by
        rw [List.map_map, List.map_map]
        refine List.map_congr_left fun w _ => ?_
        show tx ((tS w).cps.toList ++ [10]) = _
        simp [tS]
      rw [e3]
      have lc : (cln ks rss).length ≤ 101 := by simp [cln]; omega
      refine w_sz (by simp; omega) ?_
      (repeat fail "go")
      rw [s_em]
      refine w_join (ws := (cln ks rss).map (· ++ [10])) (by simp [seqD]) ?_ ?_
      · have := sum_le List.length 41 ((cln ks rss).map (· ++ [10])) fun w hw => by
          obtain ⟨v, hv, rfl⟩ := List.mem_map.mp hw
          have := cln_len c v hv
          simp; omega
        rw [List.length_map] at this
        simp only [List.length_nil, Nat.mul_zero, Nat.add_zero]
        have : (cln ks rss).length * 41 ≤ 101 * 41 := Nat.mul_le_mul_right _ lc
        omega
      · (repeat fail "go")
        rw [jn_nil]
        exact q _ ((((Fm.app _).trans e).trans (Fm.app _)).trans ((Fm.app _).trans (Fm.app _)))
theorem fold_rows : ∀ (rs : List (List Nat)) (a : List Nat), rs.foldl (fun acc r => acc ++ 10 :: r) a ++ [10] = a ++ [10] ++ (rs.map (· ++ [10])).flatten
  | [], a => by simp
  | r :: t, a => by
    rw [List.foldl_cons, fold_rows t]
    simp
theorem ctx_fold (ks : List D) (rss : List (List Int)) : (rss.map rln).foldl (fun acc r => acc ++ 10 :: r) (kln ks) ++ [10] = ctx ks rss := by
  rw [fold_rows]
  rfl
noncomputable def Asx (l : List Nat) : Prop := ∀ c ∈ l, c < 128
theorem fine_x {l : List Nat} (h : Asx l) : Fine (tx l) (.str (tS l)) 0 := by
  refine Fine.str ?_
  unfold PyData.strOk
  rw [← Array.all_toList, List.all_eq_true]
  intro c hc
  have := h c (by simpa [tS] using hc)
  exact decide_eq_true (by omega)
theorem fines_x (ws : List (List Nat)) (h : ∀ n ∈ ws, Asx n) : Fines (ws.map tx) (ws.map fun n => .str (tS n)) 0 := by
  induction ws with
  | nil => exact .nil
  | cons n r ih => exact .cons (fine_x (h n (by simp))) (ih fun m hm => h m (by simp [hm]))
theorem eqv_tx : ∀ (a b : List (List Nat)), PyData.eqvAll (a.map fun n => .str (tS n)) (b.map fun n => .str (tS n)) = decide (a = b)
  | [], [] => by simp [PyData.eqvAll]
  | [], y :: b => by simp [PyData.eqvAll]
  | x :: a, [] => by simp [PyData.eqvAll]
  | x :: a, y :: b => by
    rw [List.map_cons, List.map_cons, PyData.eqvAll, eqv_tx a b]
    have : PyData.eqv (.str (tS x)) (.str (tS y)) = decide (x = y) := by
      rw [show PyData.eqv (.str (tS x)) (.str (tS y)) = (tS x == tS y) by simp [PyData.eqv], tS_beq]
    rw [this]
    by_cases h1 : x = y
    · subst h1; simp
    · simp [h1]
theorem w_eqWs {p q : Nat} {a b : List (List Nat)} (g : H[p]? = some (.lst (a.map tx))) (g2 : H[q]? = some (.lst (b.map tx))) (ha : ∀ n ∈ a, Asx n) (hb : ∀ n ∈ b, Asx n) (z : Q (.bl (decide (a = b))) H) : wE (eqD (.ref p) (.ref q) H) Q := by
  refine ⟨_, _, eqD_dat ((fines_x a ha).dat (by decide) g) ((fines_x b hb).dat (by decide) g2), ?_⟩
  rw [PyData.eqv, eqv_tx]
  exact z
theorem asx_lw {i : Int} (h : i.natAbs ≤ 9) : Asx (lw i) := by
  intro c hc
  unfold lw at hc
  split at hc <;> simp at hc <;> omega
theorem asx_kw (d : D) : Asx (kw d) := by
  intro c hc
  unfold kw at hc
  split at hc <;> simp at hc <;> omega
theorem kfine {ks : List D} (h : ∀ d ∈ ks, IsKind d) : Fine (.tup ks) (.tuple ((ks.map kw).map fun n => .str (tS n))) 1 := by
  conv => arg 1; rw [kinds_tx h]
  exact Fine.tup (fines_x _ fun n hn => by obtain ⟨d, _, rfl⟩ := List.mem_map.mp hn; exact asx_kw d)
theorem rfine (ls : List Int) : Fine (rowD ls) (.tuple (ls.map .int)) 1 := Fine.tup (fine_ints ls)
theorem rsfine (rss : List (List Int)) : Fines (rss.map rowD) (rss.map fun ls => .tuple (ls.map .int)) 1 := by
  induction rss with
  | nil => exact .nil
  | cons l r ih => exact .cons (rfine l) ih
theorem cfine {ks : List D} {rss : List (List Int)} (h : ∀ d ∈ ks, IsKind d) : ∃ x, Fine (claimD ks rss) x 3 := ⟨_, Fine.tup (.cons ((kfine h).le (by omega)) (.cons (Fine.tup (rsfine rss)) .nil))⟩
theorem lw_law {i : Int} (h0 : i ≠ 0) : (if decide (0 < i) = true then ([] : List Nat) else [45]) ++ [48 + i.natAbs] = lw i := by
  unfold lw
  by_cases h : i < 0
  · rw [if_neg (by simp; omega), if_pos h]; rfl
  · rw [if_pos (by simp; omega), if_neg h]; rfl
theorem w_lawWords {m : Int} {ls : List Int} (hm : m ≤ 8) (u : Up m 0 ls) {pw : Nat} {σ4 : Option D} {a b c : Option D} (gw : H[pw]? = some (.lst [])) {R : FD → SD → HD → Prop}
    (q : ∀ z H', H'[pw]? = some (.lst ((ls.map lw).map tx)) → Fm [pw] H H' → R .nx [a, b, c, some (.ref pw), z] H') :
    wS (forL [] (gNm 4) (sSeq (sExpr (eLM appendD (eVar 3) (aCons (eOp addD (eOp ixD (eLst (aCons (eC (.str "-")) (aCons (eC (.str "")) aNil))) (eCB intD (aCons (eOp gtD (eVar 4) (eC (.int 0))) aNil))) (eCB strD (aCons (eCB absD (aCons (eVar 4) aNil)) aNil))) aNil)))
  sNil) (ls.map .int) [a, b, c, some (.ref pw), σ4] H) R := by
  refine w_loop (fun d t σ H' => ∃ (done : List Int) (z : Option D), d = done.map .int ∧ (∃ rest : List Int, t = rest.map .int ∧ done ++ rest = ls) ∧ H'[pw]? = some (.lst ((done.map lw).map tx)) ∧ Fm [pw] H H' ∧ σ = [a, b, c, some (.ref pw), z]) (fun _ _ _ _ _ => own0) (fun d x t σ H' z => ?_) (fun d σ H' z => ?_) (ls.map .int) [] _ _ ⟨[], σ4, rfl, ⟨ls, rfl, rfl⟩, gw, .refl, rfl⟩
  · obtain ⟨done, z, rfl, ⟨rest, e1, e2⟩, g, x1, rfl⟩ := z
    cases rest with
    | nil => cases e1
    | cons i rest =>
      rw [List.map_cons] at e1
      obtain ⟨rfl, rfl⟩ := List.cons.inj e1
      have hi := up_abs ls 0 (by omega) u i (by rw [← e2]; simp)
      rw [absZ_nat] at hi
      have hl := words_len hm u
      have hdl : done.length ≤ 8 := by rw [← e2] at hl; simp at hl; omega
      (repeat fail "go")
      refine ⟨isl g, ?_⟩
      (repeat fail "go")
      refine w_ixR last (i := (if decide (0 < i) = true then 1 else 0)) (d := tx (if decide (0 < i) = true then [] else [45])) ?_ ?_
      · split
        · exact atI_nat (j := 1) rfl
        · exact atI_nat (j := 0) rfl
      (repeat fail "go")
      rw [absZ_nat]
      refine w_strI (by omega) (by omega) ?_
      have el : lw (i.natAbs : Int) = [48 + i.natAbs] := by unfold lw; rw [if_neg (by omega)]; simp
      rw [el]
      refine w_addX (by split <;> simp) ?_
      rw [lw_law (by omega)]
      (repeat fail "go")
      refine w_app (appL g) (by simp; omega) ?_
      (repeat fail "go")
      have hp : pw < H'.length := (List.getElem?_eq_some_iff.mp g).1
      refine ⟨done ++ [i], _, by simp, ⟨rest, rfl, by simp [e2]⟩, ?_, ?_, rfl⟩
      · rw [setS (appL g)]; simp
      · exact (x1.trans (.app _)).trans (.set (by simp))
  · obtain ⟨done, z, rfl, ⟨rest, e1, e2⟩, g, x1, rfl⟩ := z
    have : rest = [] := by cases rest with | nil => rfl | cons _ _ => cases e1
    subst this
    rw [List.append_nil] at e2
    subst e2
    exact q z H' g x1
theorem w_eqNil {ks : List D} {x : PyData} {xs : List PyData} {h : Nat} (f : Fines ks xs h) (hh : h < 30) (q : Q (.bl ks.isEmpty) H) : wE (eqD (.tup ks) (.tup []) H) Q := by
  refine w_eqF (Fine.tup f) (Fine.tup (h := 0) Fines.nil) (by omega) (by omega) ?_
  have e : PyData.eqv (.tuple xs) (.tuple []) = ks.isEmpty := by
    have := f.len
    cases xs with
    | nil =>
      cases ks with
      | nil => simp [PyData.eqv, PyData.eqvAll]
      | cons _ _ => simp at this
    | cons y ys =>
      cases ks with
      | nil => simp at this
      | cons _ _ => simp [PyData.eqv, PyData.eqvAll]
  rw [e]
  exact q
theorem w_lawText {ks : List D} {rss : List (List Int)} (c : Cl ks rss) (hr : rss.length ≤ 100) (q : ∀ H', Fm [] H H' → Q (tx (ctx ks rss)) H') : wE (m_law_text [claimD ks rss] H) Q := by
  have h8 := c.h8
  refine w_run rfl ?_
  show wS (b_law_text [some (claimD ks rss), none, none, none, none] H) _
  unfold b_law_text
  refine w_seq (w_set ?_)
  refine w_sm ?_
  (repeat fail "go")
  refine ⟨rfl, ?_⟩
  (repeat fail "go")
  rw [s_sp]
  refine w_join (ws := ks.map kw) (by show some ks = _; rw [← kinds_tx c.hk]) (join_bound (n := 4) (fun w hw => ?_) (by simp; omega)) ?_
  · obtain ⟨i, _, rfl⟩ := List.mem_map.mp hw
    exact kw_len i
  (repeat fail "go")
  refine w_cut (fun σ H' => H' = H ∧ σ = [some (claimD ks rss), some (tx (kln ks)), none, none, none]) ?_ fun σ H' z => ?_
  · refine w_if ?_
    (repeat fail "go")
    refine w_eqNil (x := .none) (by conv => arg 1; rw [kinds_tx c.hk]
                                    exact fines_x _ fun n hn => by obtain ⟨d, _, rfl⟩ := List.mem_map.mp hn; exact asx_kw d) (by omega) ?_
    refine w_bl ?_
    cases ks with
    | nil =>
      refine w_bt ?_
      (repeat fail "go")
      exact ⟨rfl, rfl, rfl⟩
    | cons k r =>
      refine w_bf ?_
      (repeat fail "go")
      refine ⟨rfl, rfl, ?_⟩
      unfold kln
      rw [if_neg (by simp)]
      rfl
  obtain ⟨rfl, rfl⟩ := z
  (repeat fail "go")
  refine w_loop (fun d t σ H1 => ∃ (done : List (List Int)) (z2 z3 z4 : Option D), d = done.map rowD ∧ (∃ rest : List (List Int), t = rest.map rowD ∧ done ++ rest = rss) ∧ Fm [] H' H1 ∧ σ = [some (claimD ks rss), some (tx ((done.map rln).foldl (fun acc r => acc ++ 10 :: r) (kln ks))), z2, z3, z4]) (fun _ _ _ _ _ => own0) (fun d x t σ H1 z => ?_) (fun d σ H1 z => ?_) (rss.map rowD) [] _ _ ⟨[], _, _, _, rfl, ⟨rss, rfl, rfl⟩, .refl, rfl⟩
  · obtain ⟨done, z2, z3, z4, rfl, ⟨rest, e1, e2⟩, x1, rfl⟩ := z
    cases rest with
    | nil => cases e1
    | cons ls rest =>
      rw [List.map_cons] at e1
      obtain ⟨rfl, rfl⟩ := List.cons.inj e1
      have hu := c.hu ls (by rw [← e2]; simp)
      have hl := words_len (by omega) hu
      have hrl := rln_len (by omega) hu
      have hacc : ((done.map rln).foldl (fun acc r => acc ++ 10 :: r) (kln ks)).length ≤ 5000 := by
        have h1 : ∀ (rs : List (List Nat)) (a : List Nat), (∀ r ∈ rs, r.length ≤ 24) → (rs.foldl (fun acc r => acc ++ 10 :: r) a).length ≤ a.length + rs.length * 25 := by
          intro rs
          induction rs with
          | nil => intro a _; simp
          | cons r t ih =>
            intro a hh
            have := ih (a ++ 10 :: r) fun y hy => hh y (by simp [hy])
            have := hh r (by simp)
            rw [List.foldl_cons, List.length_cons, Nat.succ_mul]
            simp at *
            omega
        have h2 := h1 (done.map rln) (kln ks) fun r hr' => by
          obtain ⟨l, hl', rfl⟩ := List.mem_map.mp hr'
          exact rln_len (by omega) (c.hu l (by rw [← e2]; simp [hl']))
        have h3 := kln_len h8
        have h4 : done.length ≤ 100 := by rw [← e2] at hr; simp at hr; omega
        rw [List.length_map] at h2
        omega
      (repeat fail "go")
      refine w_itT ?_
      refine w_lawWords (m := ks.length) (by omega) hu last fun z5 H2 g2 x2 => ?_
      have X2 : Fm [] H' H2 := x1.new ((Fm.app (S := [H1.length]) [DO.lst []]).trans x2) fun m hm _ => by
        simp at hm; subst hm; exact x1.len
      refine w_kn (w_seq (w_cut (fun σ H3 => ∃ p, H3[p]? = some (.lst ((if ls = [] then [[48]] else ls.map lw).map tx)) ∧ Fm [] H2 H3 ∧ σ = [some (claimD ks rss), some (tx ((done.map rln).foldl (fun acc r => acc ++ 10 :: r) (kln ks))), some (rowD ls), some (.ref p), z5]) ?_ fun σ H3 z => ?_))
      · refine w_if ?_
        (repeat fail "go")
        refine w_eqNil (x := .none) (fine_ints ls) (by omega) ?_
        refine w_bl ?_
        cases ls with
        | nil =>
          refine w_bt ?_
          (repeat fail "go")
          exact ⟨rfl, _, last, .app _, rfl⟩
        | cons l r =>
          refine w_bf ?_
          (repeat fail "go")
          exact ⟨rfl, _, by rw [if_neg (by simp)]; exact g2, .refl, rfl⟩
      obtain ⟨p, g3, x3, rfl⟩ := z
      (repeat fail "go")
      rw [s_nl]
      refine w_addX (by show _ + 1 ≤ 100000; omega) ?_
      refine w_sm ?_
      (repeat fail "go")
      refine ⟨rfl, ?_⟩
      (repeat fail "go")
      refine w_join (ws := if ls = [] then [[48]] else ls.map lw) (by simp [seqD, g3]) ?_ ?_
      · split
        · simp
        · refine join_bound (n := 2) (fun w hw => ?_) (by simp; omega)
          obtain ⟨i, _, rfl⟩ := List.mem_map.mp hw
          exact lw_len i
      have er : jnL [32] (if ls = [] then [[48]] else ls.map lw) = rln ls := by
        unfold rln
        split
        · rfl
        · rfl
      rw [er]
      refine w_addX (by rw [List.length_append]; show _ + 1 + _ ≤ 100000; omega) ?_
      (repeat fail "go")
      refine ⟨done ++ [ls], some (rowD ls), some (.ref p), z5, by simp, ⟨rest, rfl, by simp [e2]⟩, X2.trans x3, ?_⟩
      have ef : ((done ++ [ls]).map rln).foldl (fun acc r => acc ++ 10 :: r) (kln ks) = (done.map rln).foldl (fun acc r => acc ++ 10 :: r) (kln ks) ++ [10] ++ rln ls := by
        rw [List.map_append, List.foldl_append]
        simp
      rw [ef]
      rfl
  · obtain ⟨done, z2, z3, z4, rfl, ⟨rest, e1, e2⟩, x1, rfl⟩ := z
    have : rest = [] := by cases rest with | nil => rfl | cons _ _ => cases e1
    subst this
    rw [List.append_nil] at e2
    subst e2
    have hz := ctx_fold ks done
    (repeat fail "go")
    rw [s_nl]
    refine w_addX ?_ ?_
    · have h1 : ∀ (rs : List (List Nat)) (a : List Nat), (∀ r ∈ rs, r.length ≤ 24) → (rs.foldl (fun acc r => acc ++ 10 :: r) a).length ≤ a.length + rs.length * 25 := by
        intro rs
        induction rs with
        | nil => intro a _; simp
        | cons r t ih =>
          intro a hh
          have := ih (a ++ 10 :: r) fun y hy => hh y (by simp [hy])
          have := hh r (by simp)
          rw [List.foldl_cons, List.length_cons, Nat.succ_mul]
          simp at *
          omega
      have h2 := h1 (done.map rln) (kln ks) fun r hr' => by
        obtain ⟨l, hl', rfl⟩ := List.mem_map.mp hr'
        exact rln_len (by omega) (c.hu l hl')
      have h3 := kln_len h8
      rw [List.length_map] at h2
      show _ + 1 ≤ 100000
      omega
    rw [hz]
    (repeat fail "go")
    exact q H1 x1
theorem w_itx {σ : SD} {f : EF} {I : List D → OwnD → HD → Prop} (h : wE (f σ H) fun d H1 => ∃ x : Str, d = .str x ∧ x.cps.all (· < 128) = true ∧ I (signs x) [] H1) : wI (iTxt f σ H) I := by
  obtain ⟨d, H1, e, x, rfl, e2, q⟩ := h
  exact ⟨_, _, H1, by unfold iTxt; rw [e]; simp only [Option.bind_some]; rw [if_pos e2], q⟩
theorem int_fig {n : Nat} (h : n ≤ 9) : PySem.intText? (tS [48 + n]) = some (n : Int) := by
  have hz : (tS [48 + n]).cps.toList = [48 + n] := by simp [tS]
  have := PySem.intText_digits (x := tS [48 + n]) (fun c hc => by rw [hz] at hc; simp at hc; omega) (by rw [hz]; simp) (by rw [tS_len]; simp)
  rw [hz] at this
  rw [this]
  congr 2
  simp [NumText.digitsVal]
theorem s_fig : k_FIGURES = tx [48, 49, 50, 51, 52, 53, 54, 55, 56, 57] := rfl
theorem all_ref {p : Nat} {bs : List Bool} (g : H[p]? = some (.lst (bs.map .bl))) (q : Q (.bl (bs.all id)) H) : wE (allD [.ref p] H) Q := by
  exact ⟨_, _, all_ok g, q⟩
theorem w_num1 {n : Nat} (h1 : 1 ≤ n) (h9 : n ≤ 9) (q : ∀ H', Fm [] H H' → Q (.int n) H') : wE (m_read_number [tx [48 + n]] H) Q := by
  refine w_run rfl ?_
  show wS (b_read_number [some (tx [48 + n])] H) _
  unfold b_read_number k_MOST_FIGURES
  rw [s_fig]
  refine w_seq (w_if ?_)
  (repeat fail "go")
  refine w_lenX (by simp) ?_
  (repeat fail "go")
  refine w_lenX (by simp) ?_
  (repeat fail "go")
  refine w_itx ?_
  (repeat fail "go")
  refine ⟨tS [48 + n], rfl, by simp [tS]; omega, ?_⟩
  show wA (compL [] _ tYes _ [tx [48 + n]] H) _
  refine w_cmap (fun _ => .bl true) (fun H' => H' = H) (fun _ _ => own0) _ (fun d hd H' e => ?_) H rfl fun H' e => ?_
  · subst e
    simp at hd
    subst hd
    (repeat fail "go")
    refine w_sin ⟨?_, rfl⟩
    have : (48 + n) ∈ [48, 49, 50, 51, 52, 53, 54, 55, 56, 57] := by simp; omega
    rw [decide_eq_true this]
  · subst e
    refine w_sz (by simp) ?_
    (repeat fail "go")
    refine all_ref (bs := [true]) last ?_
    (repeat fail "go")
    refine w_if ?_
    (repeat fail "go")
    refine w_six (i := 0) (c := 48 + n) rfl rfl (by simp) ?_
    rw [s_ze]
    refine w_c (w_eqX ?_)
    refine w_bl ?_
    rw [decide_eq_false (by simp; omega)]
    (repeat fail "go")
    have hq := q (H' ++ [DO.lst (List.map (fun x => D.bl true) [tx [48 + n]])]) (.app _)
    refine ⟨.int n, _, ?_, hq⟩
    show (if (tS [48 + n]).length ≤ 640 then (PySem.intText? (tS [48 + n])).map fun z => (D.int z, H' ++ [DO.lst (List.map (fun x => D.bl true) [tx [48 + n]])]) else none) = _
    rw [if_pos (by rw [tS_len]; simp), int_fig h9]
    rfl
theorem w_starts {l : List Nat} {c : Nat} (q : Q (.bl (decide (l[0]? = some c))) H) : wE (startsD (tx l) [tx [c]] H) Q := by
  refine ⟨_, _, ?_, q⟩
  show some (D.bl (decide (0 + (tS [c]).length ≤ (tS l).length) && Builtin.Str.subAt (tS l) (tS [c]) 0), H) = _
  rw [sub_at, tS_len, tS_len]
  congr 3
  cases l with
  | nil => simp
  | cons x r => simp
theorem w_lit {i : Int} (h1 : 1 ≤ i.natAbs) (h9 : i.natAbs ≤ 9) (q : ∀ H', Fm [] H H' → Q (.int i) H') : wE (m_read_literal [tx (lw i)] H) Q := by
  refine w_run rfl ?_
  show wS (b_read_literal [some (tx (lw i)), none] H) _
  unfold b_read_literal
  rw [s_mi]
  refine w_seq (w_if ?_)
  (repeat fail "go")
  refine w_sm ?_
  (repeat fail "go")
  refine ⟨rfl, ?_⟩
  (repeat fail "go")
  refine w_starts ?_
  (repeat fail "go")
  by_cases h : i < 0
  · have e : lw i = [45, 48 + i.natAbs] := by unfold lw; rw [if_pos h]
    rw [e, decide_eq_true (show ([45, 48 + i.natAbs] : List Nat)[0]? = some 45 from rfl)]
    (repeat fail "go")
    refine w_sls ?_
    (repeat fail "go")
    refine w_cutLo (i := 1) rfl (by simp) ?_
    (repeat fail "go")
    refine w_num1 h1 h9 fun H1 x1 => ?_
    (repeat fail "go")
    have := q H1 x1
    rwa [show i = -(i.natAbs : Int) by omega] at this
  · have e : lw i = [48 + i.natAbs] := by unfold lw; rw [if_neg h]
    rw [e, decide_eq_false (show ¬ ([48 + i.natAbs] : List Nat)[0]? = some 45 by simp; omega)]
    (repeat fail "go")
    refine w_num1 h1 h9 fun H1 x1 => ?_
    (repeat fail "go")
    have := q H1 x1
    rwa [show i = (i.natAbs : Int) by omega] at this
theorem w_whole {i : Int} (q : Q (.bl true) H) : wE (m_is_whole [.int i] H) Q := by
  refine w_run rfl ?_
  show wS (b_is_whole [some (.int i)] H) _
  unfold b_is_whole
  (repeat fail "go")
  exact q
theorem w_isRow {m : Int} {ls : List Int} (u : Up m 0 ls) (q : Q (.bl true) H) : wE (m_is_row [.int m, rowD ls] H) Q := by
  refine w_run rfl ?_
  show wS (b_is_row [some (.int m), some (rowD ls), none, none] H) _
  unfold b_is_row
  refine w_seq (w_if ?_)
  (repeat fail "go")
  refine w_itT ?_
  refine w_loop (fun d t σ H' => H' = H ∧ ∃ (rest : List Int) (last : Int) (z : Option D), t = rest.map .int ∧ Up m last rest ∧ σ = [some (.int m), some (rowD ls), some (.int last), z]) (fun _ _ _ _ _ => own0) (fun d x t σ H' z => ?_) (fun d σ H' z => ?_) (ls.map .int) [] _ _ ⟨rfl, ls, 0, none, rfl, u, rfl⟩
  · obtain ⟨rfl, rest, last, z, e1, u1, rfl⟩ := z
    cases rest with
    | nil => cases e1
    | cons i rest =>
      rw [List.map_cons] at e1
      obtain ⟨rfl, rfl⟩ := List.cons.inj e1
      obtain ⟨a1, a2, a3⟩ := u1
      (repeat fail "go")
      refine w_if ?_
      (repeat fail "go")
      refine w_whole ?_
      (repeat fail "go")
      rw [decide_eq_false (by omega)]
      (repeat fail "go")
      rw [decide_eq_false (by omega)]
      (repeat fail "go")
      exact ⟨rfl, rest, absZ i, _, rfl, a3, rfl⟩
  · obtain ⟨rfl, rest, last, z, e1, u1, rfl⟩ := z
    (repeat fail "go")
    exact q
noncomputable def wordsR (ls : List Int) : List (List Nat) := if ls = [] then [[48]] else ls.map lw
theorem w_readRow {m : Int} {ls : List Int} {p : Nat} (hm : m ≤ 8) (u : Up m 0 ls) (g : H[p]? = some (.lst ((wordsR ls).map tx))) (q : ∀ H', Fm [] H H' → Q (rowD ls) H') : wE (m_read_row [.int m, .ref p] H) Q := by
  have hl := words_len hm u
  have ha := up_abs ls 0 (by omega) u
  have as : ∀ n ∈ wordsR ls, Asx n := by
    intro n hn
    unfold wordsR at hn
    split at hn
    · simp at hn; subst hn; intro c hc; simp at hc; omega
    · obtain ⟨i, hi, rfl⟩ := List.mem_map.mp hn
      have := ha i hi
      rw [absZ_nat] at this
      exact asx_lw (by omega)
  refine w_run rfl ?_
  show wS (b_read_row [some (.int m), some (.ref p), none] H) _
  unfold b_read_row
  rw [s_ze]
  refine w_seq (w_if ?_)
  (repeat fail "go")
  refine w_eqWs (a := wordsR ls) (b := [[48]]) (appL g) last as (fun n hn => by simp at hn; subst hn; intro c hc; simp at hc; omega) ?_
  refine w_bl ?_
  cases ls with
  | nil =>
    rw [decide_eq_true (show wordsR [] = [[48]] from rfl)]
    (repeat fail "go")
    exact q _ (.app _)
  | cons l r =>
    have e0 : wordsR (l :: r) = (l :: r).map lw := by unfold wordsR; rw [if_neg (by simp)]
    have ne : ¬ wordsR (l :: r) = [[48]] := by
      rw [e0]
      intro z
      have z1 := (List.cons.inj z).1
      have := ha l (by simp)
      rw [absZ_nat] at this
      unfold lw at z1
      split at z1
      · cases z1
      · have := (List.cons.inj z1).1
        omega
    rw [decide_eq_false ne]
    rw [e0] at g
    refine w_bf ?_
    (repeat fail "go")
    refine w_cmap (fun d => match d with | .str x => .int (if x.cps.toList.length = 2 then -((x.cps.toList.getD 1 48 - 48 : Nat) : Int) else ((x.cps.toList.getD 0 48 - 48 : Nat) : Int)) | d => d) (fun H' => Fm [] (H ++ [DO.lst [tx [48]]]) H') (fun H' j => own1 (j.lst (by simp) (appL g))) _ (fun d hd H' j => ?_) _ .refl fun H' j => ?_
    · obtain ⟨w, hw, rfl⟩ := List.mem_map.mp hd
      obtain ⟨i, hi, rfl⟩ := List.mem_map.mp hw
      have hi2 := ha i hi
      rw [absZ_nat] at hi2
      (repeat fail "go")
      refine w_lit (by omega) (by omega) fun H2 x2 => ⟨?_, j.trans x2⟩
      show D.int i = D.int (if (tS (lw i)).cps.toList.length = 2 then _ else _)
      have e : (tS (lw i)).cps.toList = lw i := by simp [tS]
      rw [e]
      unfold lw
      congr 1
      split
      · rw [if_pos (by simp)]; simp; omega
      · rw [if_neg (by simp)]; simp; omega
    · have em : ((l :: r).map lw |>.map tx).map (fun d => match d with | .str x => D.int (if x.cps.toList.length = 2 then -((x.cps.toList.getD 1 48 - 48 : Nat) : Int) else ((x.cps.toList.getD 0 48 - 48 : Nat) : Int)) | d => d) = (l :: r).map .int := by
        rw [List.map_map, List.map_map]
        refine List.map_congr_left fun i hi => ?_
        show D.int (if (tS (lw i)).cps.toList.length = 2 then _ else _) = D.int i
        have e : (tS (lw i)).cps.toList = lw i := by simp [tS]
        rw [e]
        unfold lw
        congr 1
        split
        · rw [if_pos (by simp)]; simp; omega
        · rw [if_neg (by simp)]; simp; omega
      rw [em]
      refine w_sz (by simp at hl ⊢; omega) ?_
      (repeat fail "go")
      refine w_isRow u ?_
      (repeat fail "go")
      exact q _ (((Fm.app _).trans j).trans (.app _))
noncomputable def wordsK (ks : List D) : List (List Nat) := if ks = [] then [[45]] else ks.map kw
theorem s_kinds : k_KINDS = .tup ([[97, 108, 108], [115, 111, 109, 101]].map tx) := rfl
theorem w_isKinds {ks : List D} (hk : ∀ d ∈ ks, IsKind d) (h8 : ks.length ≤ 8) (q : ∀ H', Fm [] H H' → Q (.bl true) H') : wE (m_is_kinds [.tup ks] H) Q := by
  refine w_run rfl ?_
  show wS (b_is_kinds [some (.tup ks)] H) _
  unfold b_is_kinds k_MOST_NAMES
  rw [s_kinds]
  refine w_seq (w_if ?_)
  (repeat fail "go")
  rw [decide_eq_false (by omega)]
  (repeat fail "go")
  refine w_cmap (fun _ => .bl true) (fun H' => H' = H) (fun _ _ => own0) _ (fun d hd H' e => ?_) H rfl fun H' e => ?_
  · subst e
    have ek := kind_tx (hk d hd)
    (repeat fail "go")
    rw [ek]
    refine w_inT (fine_x (asx_kw d)) (fines_x [[97, 108, 108], [115, 111, 109, 101]] (fun n hn => by simp at hn; rcases hn with rfl | rfl <;> (rintro c hc; simp at hc; omega))) (by omega) (by omega) ⟨?_, rfl⟩
    congr 1
    unfold kw
    cases kS d <;> simp [PyData.eqv, tS_beq]
  · subst e
    refine w_sz (by simp; omega) ?_
    (repeat fail "go")
    refine all_ref (bs := ks.map fun _ => true) (by rw [List.map_map]; exact last) ?_
    (repeat fail "go")
    rw [show (ks.map fun _ => true).all id = true by rw [List.all_eq_true]; intro x hx; simp at hx; simp [hx.2]]
    exact q _ (.app _)
theorem w_readKinds {ks : List D} {p : Nat} (hk : ∀ d ∈ ks, IsKind d) (h8 : ks.length ≤ 8) (g : H[p]? = some (.lst ((wordsK ks).map tx))) (q : ∀ H', Fm [] H H' → Q (.tup ks) H') : wE (m_read_kinds [.ref p] H) Q := by
  have as : ∀ n ∈ wordsK ks, Asx n := by
    intro n hn
    unfold wordsK at hn
    split at hn
    · simp at hn; subst hn; intro c hc; simp at hc; omega
    · obtain ⟨i, hi, rfl⟩ := List.mem_map.mp hn
      exact asx_kw i
  refine w_run rfl ?_
  show wS (b_read_kinds [some (.ref p), none] H) _
  unfold b_read_kinds
  rw [s_mi]
  refine w_seq (w_if ?_)
  (repeat fail "go")
  refine w_eqWs (a := wordsK ks) (b := [[45]]) (appL g) last as (fun n hn => by simp at hn; subst hn; intro c hc; simp at hc; omega) ?_
  refine w_bl ?_
  cases ks with
  | nil =>
    rw [decide_eq_true (show wordsK [] = [[45]] from rfl)]
    (repeat fail "go")
    exact q _ (.app _)
  | cons k r =>
    have e0 : wordsK (k :: r) = (k :: r).map kw := by unfold wordsK; rw [if_neg (by simp)]
    have ne : ¬ wordsK (k :: r) = [[45]] := by
      rw [e0]
      intro z
      have z1 := (List.cons.inj z).1
      unfold kw at z1
      split at z1 <;> cases z1
    rw [decide_eq_false ne]
    rw [e0, ← kinds_tx hk] at g
    refine w_bf ?_
    (repeat fail "go")
    refine w_isKinds hk h8 fun H2 x2 => ?_
    (repeat fail "go")
    exact q _ ((Fm.app _).trans x2)
theorem spl_lines {c : Nat} : ∀ (ws : List (List Nat)), (∀ w ∈ ws, c ∉ w) → spl c ((ws.map (· ++ [c])).flatten) = ws ++ [[]]
  | [], _ => rfl
  | w :: r, h => by
    rw [List.map_cons, List.flatten_cons, List.append_assoc]
    show spl c (w ++ c :: (r.map (· ++ [c])).flatten) = _
    rw [spl_app (h w (by simp)), spl_lines r fun x hx => h x (by simp [hx])]
    rfl
theorem lw_no {i : Int} {c : Nat} (hc : c < 45) : c ∉ lw i := by
  unfold lw
  split <;> simp <;> omega
theorem kw_no {d : D} {c : Nat} (hc : c < 45) : c ∉ kw d := by
  unfold kw
  split <;> simp <;> omega
theorem jn_no {c : Nat} : ∀ (ws : List (List Nat)), c ≠ 32 → (∀ w ∈ ws, c ∉ w) → c ∉ jnL [32] ws
  | [], _, _ => by simp [jnL]
  | w :: r, h, hw => by
    unfold jnL
    intro z
    rcases List.mem_append.mp z with z | z
    · exact hw w (by simp) z
    · obtain ⟨x, hx, z⟩ := List.mem_flatten.mp z
      obtain ⟨y, hy, rfl⟩ := List.mem_map.mp hx
      rcases List.mem_append.mp z with z | z
      · simp at z; exact h z
      · exact hw y (by simp [hy]) z
theorem rln_no (ls : List Int) : 10 ∉ rln ls := by
  unfold rln
  split
  · simp
  · refine jn_no _ (by decide) fun w hw => ?_
    obtain ⟨i, _, rfl⟩ := List.mem_map.mp hw
    exact lw_no (by decide)
theorem kln_no (ks : List D) : 10 ∉ kln ks := by
  unfold kln
  split
  · simp
  · refine jn_no _ (by decide) fun w hw => ?_
    obtain ⟨i, _, rfl⟩ := List.mem_map.mp hw
    exact kw_no (by decide)
theorem spl_rln (ls : List Int) : spl 32 (rln ls) = wordsR ls := by
  unfold rln wordsR
  split
  · rfl
  · rename_i h
    refine spl_jn _ (by simpa using h) fun w hw => ?_
    obtain ⟨i, _, rfl⟩ := List.mem_map.mp hw
    exact lw_no (by decide)
theorem spl_kln (ks : List D) : spl 32 (kln ks) = wordsK ks := by
  unfold kln wordsK
  split
  · rfl
  · rename_i h
    refine spl_jn _ (by simpa using h) fun w hw => ?_
    obtain ⟨i, _, rfl⟩ := List.mem_map.mp hw
    exact kw_no (by decide)
theorem spl_ctx (ks : List D) (rss : List (List Int)) : spl 10 (ctx ks rss) = cln ks rss ++ [[]] := by
  refine spl_lines _ fun w hw => ?_
  rcases List.mem_cons.mp hw with rfl | hw
  · exact kln_no ks
  · obtain ⟨ls, _, rfl⟩ := List.mem_map.mp hw
    exact rln_no ls
theorem cut_neg (xs : List D) (x : D) : cutD (xs ++ [x]) none (some (-1)) = xs := by
  unfold cutD HT.sIx
  simp
  rw [show (-1 + ((xs.length : Int) + 1)).toNat = xs.length by omega]
  simp
theorem w_slNeg {p : Nat} {xs : List D} {x : D} (g : H[p]? = some (.lst (xs ++ [x]))) (q : Q (.ref H.length) (H ++ [.lst xs])) : wE (slD (.ref p) none (some (-1)) H) Q :=
  ⟨_, _, by simp only [slD, g]; rw [cut_neg], q⟩
theorem w_truR {p : Nat} {xs : List D} {P : Bool → Prop} (g : H[p]? = some (.lst xs)) (h : P (!xs.isEmpty)) : ∃ c, truD (.ref p) H = some c ∧ P c := ⟨_, by simp [truD, g], h⟩
noncomputable def rcA : SF := sSet 1 (eSM splitD (eVar 0) (aCons (eC (.str "\n")) aNil))
noncomputable def rcB : SF := sSet 2 (eSl (eVar 1) oNone (oSome (eUn negD (eC (.int 1)))))
noncomputable def rcC : SF := sSet 3 (eIf (tTru (eVar 2)) (eCall 1 m_read_kinds (aCons (eSM splitD (eOp ixD (eVar 2) (eC (.int 0))) (aCons (eC (.str " ")) aNil)) aNil)) (eC .non))
noncomputable def rcD : SF := sIf (tOf (eOp isD (eVar 3) (eC .non))) (sSeq sErr sNil) sNil
noncomputable def rcE : SF := sSet 4 (eLst aNil)
noncomputable def rcI : ItF := iEnumL1 (aCons (eSl (eVar 2) (oSome (eC (.int 1))) oNone) aNil)
noncomputable def rcG : GF := gTp 2 (gCn (gNm 5) (gCn (gNm 6) gNl))
noncomputable def rcR : SF := sSet 7 (eCall 2 m_read_row (aCons (eCB lenD (aCons (eVar 3) aNil)) (aCons (eSM splitD (eVar 6) (aCons (eC (.str " ")) aNil)) aNil)))
noncomputable def rcT : TF := tOrr (tOf (eOp isD (eVar 7) (eC .non))) (tOf (eOp gtD (eVar 5) (eC k_MOST_ROWS)))
noncomputable def rcS : SF := sSeq rcR (sSeq (sIf rcT (sSeq sErr sNil) sNil) (sSeq (sExpr (eLM appendD (eVar 4) (aCons (eVar 7) aNil))) sNil))
noncomputable def rcY : YFs := ySeq rcR (yIf rcT (yRaise (eVar 5)) yNo)
noncomputable def rcU : TF := tOf (eOp neD (eOp ixD (eVar 1) (eUn negD (eC (.int 1)))) (eC (.str "")))
noncomputable def rcZ : SF := sSeq (sIf rcU (sSeq sErr sNil) sNil) (sSeq (sRet (eTup (aCons (eVar 3) (aCons (eCB tupleD (aCons (eVar 4) aNil)) aNil)))) sNil)
noncomputable def rcYD : YFs := yIf (tOf (eOp isD (eVar 3) (eC .non))) (yRaise (eC (.int 0))) yNo
noncomputable def rcYU : YFs := yIf rcU (yRaise (eCB lenD (aCons (eVar 2) aNil))) yNo
theorem rc_b : b_read_claim = sSeq rcA (sSeq rcB (sSeq rcC (sSeq rcD (sSeq rcE (sSeq (sFor rcI rcG rcS) rcZ))))) := rfl
theorem rc_y : yb_read_claim = ySeq rcA (ySeq rcB (ySeq rcC (yEi rcD rcYD (ySeq rcE (yEi (sFor rcI rcG rcS) (yFor rcI rcG rcS rcY) rcYU))))) := rfl
section
variable {ks : List D} {rss : List (List Int)} {k : SD → HD → Prop} {R : FD → SD → HD → Prop}
theorem s_sp1 : D.str " " = tx [32] := rfl
theorem s_e : D.str "" = tx [] := rfl
theorem w_rcA {T : List Nat} (hl : T.length ≤ 100000) (hp : (spl 10 T).length ≤ 100000) (q : k [some (tx T), some (.ref H.length), none, none, none, none, none, none] (H ++ [.lst ((spl 10 T).map tx)])) : wS (rcA [some (tx T), none, none, none, none, none, none, none] H) (kont k R) := by
  unfold rcA
  refine w_set ?_
  refine w_sm ?_
  (repeat fail "go")
  refine ⟨rfl, ?_⟩
  (repeat fail "go")
  rw [s_nl]
  refine w_split (by decide) hl hp ?_
  exact q
theorem w_rcB {T : D} {p : Nat} {xs : List D} {x : D} (g : H[p]? = some (.lst (xs ++ [x]))) (q : k [some T, some (.ref p), some (.ref H.length), none, none, none, none, none] (H ++ [.lst xs])) : wS (rcB [some T, some (.ref p), none, none, none, none, none, none] H) (kont k R) := by
  unfold rcB
  (repeat fail "go")
  refine w_slNeg g ?_
  exact q
theorem w_rcC {T A : D} {p : Nat} {r : List D} (hk : ∀ d ∈ ks, IsKind d) (h8 : ks.length ≤ 8) (g : H[p]? = some (.lst (tx (kln ks) :: r))) (q : ∀ H', Fm [] H H' → k [some T, some A, some (.ref p), some (.tup ks), none, none, none, none] H') : wS (rcC [some T, some A, some (.ref p), none, none, none, none, none] H) (kont k R) := by
  unfold rcC
  refine w_set (w_eif (w_ttru (w_var rfl ?_)))
  refine w_truR g ?_
  refine w_bt ?_
  refine w_call ?_
  (repeat fail "go")
  refine w_sm ?_
  (repeat fail "go")
  refine w_ixR g (atI_nat (j := 0) rfl) ?_
  refine ⟨rfl, ?_⟩
  (repeat fail "go")
  rw [s_sp1]
  refine w_split (by decide) (by have := kln_len h8; omega) (by rw [spl_kln]; unfold wordsK; split <;> simp <;> omega) ?_
  rw [spl_kln]
  (repeat fail "go")
  refine w_readKinds hk h8 last fun H1 x1 => ?_
  exact q _ ((Fm.app _).trans x1)
theorem w_rcD {T A B : D} (q : k [some T, some A, some B, some (.tup ks), none, none, none, none] H) : wS (rcD [some T, some A, some B, some (.tup ks), none, none, none, none] H) (kont k R) := by
  unfold rcD
  refine w_if ?_
  (repeat fail "go")
  exact q
theorem w_rcE {T A B : D} (q : k [some T, some A, some B, some (.tup ks), some (.ref H.length), none, none, none] (H ++ [.lst []])) : wS (rcE [some T, some A, some B, some (.tup ks), none, none, none, none] H) (kont k R) := by
  unfold rcE
  (repeat fail "go")
  exact q
noncomputable def RcI (H0 : HD) (T : D) (p1 p2 p3 p4 : Nat) (ks : List D) (L : List D) (rs : List (List Int)) (σ : SD) (H : HD) : Prop :=
  (∃ z5 z6 z7, σ = [some T, some (.ref p1), some (.ref p2), some (.tup ks), some (.ref p4), z5, z6, z7]) ∧ H[p3]? = some (.lst L) ∧ H[p4]? = some (.lst (rs.map rowD)) ∧ Fm [p4] H0 H
theorem rln_len1 {m : Int} {ls : List Int} (hm : m ≤ 8) (u : Up m 0 ls) : (rln ls).length ≤ 1000 ∧ (wordsR ls).length ≤ 1000 := by
  have hl := words_len hm u
  refine ⟨by have := rln_len hm u; omega, ?_⟩
  unfold wordsR
  split <;> simp <;> omega
theorem w_rcR {T z7 : D} {A B E : Option D} {Z7 : Option D} {i : Int} {ls : List Int} (h8 : ks.length ≤ 8) (u : Up ks.length 0 ls) (q : ∀ H', Fm [] H H' → k [some T, A, B, some (.tup ks), E, some (.int i), some (tx (rln ls)), some (rowD ls)] H') :
    wS (rcR [some T, A, B, some (.tup ks), E, some (.int i), some (tx (rln ls)), Z7] H) (kont k R) := by
  obtain ⟨l1, l2⟩ := rln_len1 (by omega) u
  unfold rcR
  refine w_set (w_call ?_)
  (repeat fail "go")
  refine w_sm ?_
  (repeat fail "go")
  refine ⟨rfl, ?_⟩
  (repeat fail "go")
  rw [s_sp1]
  refine w_split (by decide) (by omega) (by rw [spl_rln]; omega) ?_
  rw [spl_rln]
  (repeat fail "go")
  refine w_readRow (by omega) u last fun H1 x1 => ?_
  exact q _ ((Fm.app _).trans x1)
theorem rc_step {H0 : HD} {T : D} {p1 p2 p3 p4 : Nat} {L : List D} {rs : List (List Int)} {ls : List Int} {σ : SD} (h8 : ks.length ≤ 8) (hp : p3 ≠ p4) (h4 : p4 < H0.length) (u : Up ks.length 0 ls) (hl : rs.length < 20) (j : RcI H0 T p1 p2 p3 p4 ks L rs σ H)
    (q : ∀ σ' H', RcI H0 T p1 p2 p3 p4 ks L (rs ++ [ls]) σ' H' → k σ' H') : wG (rcG (.tup [.int (rs.length + 1), tx (rln ls)]) σ H) fun σ1 H1 => wS (rcS σ1 H1) (again k R) := by
  obtain ⟨⟨z5, z6, z7, rfl⟩, g3, g4, x⟩ := j
  unfold rcG rcS
  refine w_gtp rfl (w_gcn (w_gnm (w_gcn (w_gnm (w_gnl ?_)))))
  refine w_seq ?_
  refine w_rcR (T := T) (z7 := T) h8 u fun H1 x1 => ?_
  unfold rcT k_MOST_ROWS
  refine w_seq (w_if ?_)
  (repeat fail "go")
  rw [decide_eq_false (by omega)]
  (repeat fail "go")
  have g4' := x1.lst (by simp) g4
  refine ⟨by simp [isLst, g4'], ?_⟩
  (repeat fail "go")
  refine w_app g4' (by simp; omega) ?_
  (repeat fail "go")
  refine q _ _ ⟨⟨_, _, _, rfl⟩, ?_, ?_, (x.trans (x1.sub (by simp))).trans (.set (by simp))⟩
  · rw [List.getElem?_set_ne (Ne.symm hp)]
    exact x1.lst (by simp) g3
  · have : p4 < H1.length := (List.getElem?_eq_some_iff.mp g4').1
    rw [List.getElem?_set_self this]
    simp
theorem rc_loop {H0 : HD} {T : D} {p1 p2 p3 p4 : Nat} {L : List D} (h8 : ks.length ≤ 8) (hp : p3 ≠ p4) (h4 : p4 < H0.length) : ∀ (t : List (List Int)) (rs : List (List Int)) (σ : SD) (H : HD), (∀ ls ∈ t, Up ks.length 0 ls) → rs.length + t.length ≤ 20 → RcI H0 T p1 p2 p3 p4 ks L rs σ H →
    (∀ σ' H', RcI H0 T p1 p2 p3 p4 ks L (rs ++ t) σ' H' → R .nx σ' H') → wS (forL [(p3, .lst L)] rcG rcS (enumL (rs.length + 1) (t.map fun ls => tx (rln ls))) σ H) R
  | [], rs, σ, H, u, hl, j, q => w_fnil (own1 j.2.1) (q σ H (by rw [List.append_nil]; exact j))
  | ls :: t, rs, σ, H, u, hl, j, q => by
    refine w_fcons (own1 j.2.1) ?_
    simp only [List.length_cons] at hl
    refine rc_step h8 hp h4 (u ls (by simp)) (by omega) j fun σ' H' j' => ?_
    have := rc_loop h8 hp h4 t (rs ++ [ls]) σ' H' (fun x hx => u x (by simp [hx])) (by simp; omega) j' (by simpa using q)
    rwa [List.length_append, List.length_singleton, Int.natCast_add] at this
theorem rc_many {H0 : HD} {T : D} {p1 p2 p3 p4 : Nat} {L : List D} {P : Int → HD → Prop} (h8 : ks.length ≤ 8) (hp : p3 ≠ p4) (h4 : p4 < H0.length) (q : ∀ H', Fm [p4] H0 H' → P 21 H') : ∀ (t : List (List Int)) (rs : List (List Int)) (σ : SD) (H : HD), (∀ ls ∈ t, Up ks.length 0 ls) → rs.length ≤ 20 → 21 ≤ rs.length + t.length → RcI H0 T p1 p2 p3 p4 ks L rs σ H →
    wX (forL [(p3, .lst L)] rcG rcS (enumL (rs.length + 1) (t.map fun ls => tx (rln ls))) σ H) (yForL [(p3, .lst L)] rcG rcS rcY (enumL (rs.length + 1) (t.map fun ls => tx (rln ls))) σ H) P
  | [], rs, σ, H, u, hl, hm, j => by simp at hm; omega
  | ls :: t, rs, σ, H, u, hl, hm, j => by
    simp only [List.length_cons] at hm
    by_cases h : rs.length < 20
    · refine wx_more (own1 j.2.1) ?_
      refine rc_step h8 hp h4 (u ls (by simp)) h j fun σ' H' j' => ?_
      have := rc_many h8 hp h4 q t (rs ++ [ls]) σ' H' (fun x hx => u x (by simp [hx])) (by simp; omega) (by simp; omega) j'
      rwa [List.length_append, List.length_singleton, Int.natCast_add] at this
    · have e20 : rs.length = 20 := by omega
      refine wx_here (own1 j.2.1) ?_
      obtain ⟨⟨z5, z6, z7, rfl⟩, g3, g4, x⟩ := j
      unfold rcG rcS rcY
      refine w_gtp rfl (w_gcn (w_gnm (w_gcn (w_gnm (w_gnl ?_)))))
      refine wx_seq ?_
      refine w_rcR (T := T) (z7 := T) h8 (u ls (by simp)) fun H1 x1 => ?_
      unfold rcT k_MOST_ROWS
      refine wx_end (wx_if ?_)
      (repeat fail "go")
      rw [decide_eq_true (by omega)]
      refine w_bt ?_
      refine wx_raise ?_
      (repeat fail "go")
      rw [e20]
      exact ⟨by decide, q _ (x.trans (x1.sub (by simp)))⟩
theorem cut1 (xs : List D) (x : D) : cutD (x :: xs) (some 1) none = xs := by
  unfold cutD HT.sIx
  simp
theorem w_sl1 {p : Nat} {xs : List D} {x : D} (g : H[p]? = some (.lst (x :: xs))) (q : Q (.ref H.length) (H ++ [.lst xs])) : wE (slD (.ref p) (some 1) none H) Q :=
  ⟨_, _, by simp only [slD, g]; rw [cut1], q⟩
theorem atI_last (xs : List D) (x : D) : atI (xs ++ [x]) (-1) = some x := by
  have e : atI (xs ++ [x]) (-1) = (ixN (xs ++ [x]).length (-1)).bind fun j => (xs ++ [x])[j]? := rfl
  have e2 : ixN (xs ++ [x]).length (-1) = some xs.length := by
    unfold ixN
    rw [if_neg (by omega), if_pos (by simp; omega)]
    simp
    omega
  rw [e, e2]
  simp
theorem cln_map : (cln ks rss).map tx = tx (kln ks) :: rss.map fun ls => tx (rln ls) := by
  unfold cln
  simp
theorem ctx_len (c : Cl ks rss) (hr : rss.length ≤ 100) : (ctx ks rss).length ≤ 100000 := by
  have h : ∀ (ws : List (List Nat)), (∀ w ∈ ws, w.length ≤ 40) → ((ws.map (· ++ [10])).flatten).length ≤ 41 * ws.length := by
    intro ws
    induction ws with
    | nil => intro _; simp
    | cons w r ih =>
      intro h
      have := ih fun x hx => h x (by simp [hx])
      have := h w (by simp)
      rw [List.map_cons, List.flatten_cons]
      simp only [List.length_append, List.length_cons, List.length_nil]
      omega
  have := h (cln ks rss) (cln_len c)
  have e : (cln ks rss).length = rss.length + 1 := by unfold cln; simp
  unfold ctx
  omega
theorem w_readClaim (c : Cl ks rss) (hr : rss.length ≤ 20) (q : ∀ H', Fm [] H H' → Q (claimD ks rss) H') : wE (m_read_claim [tx (ctx ks rss)] H) Q := by
  refine w_run rfl ?_
  show wS (b_read_claim [some (tx (ctx ks rss)), none, none, none, none, none, none, none] H) _
  rw [rc_b]
  refine w_seq (w_rcA (ctx_len c (by omega)) (by rw [spl_ctx]; unfold cln; simp; omega) ?_)
  rw [spl_ctx, List.map_append]
  refine w_seq (w_rcB last ?_)
  rw [cln_map]
  refine w_seq (w_rcC c.hk c.h8 last fun H1 x1 => ?_)
  refine w_seq (w_rcD ?_)
  refine w_seq (w_rcE ?_)
  have gA := x1.lst (by simp) (appL (last (H := H) (o := DO.lst ((tx (kln ks) :: rss.map fun ls => tx (rln ls)) ++ [[]].map tx))))
  have gB := x1.lst (by simp) (last (H := H ++ [DO.lst ((tx (kln ks) :: rss.map fun ls => tx (rln ls)) ++ [[]].map tx)]) (o := DO.lst (tx (kln ks) :: rss.map fun ls => tx (rln ls))))
  refine w_seq (w_for ?_)
  unfold rcI
  refine w_enumL1 ?_
  (repeat fail "go")
  refine w_sl1 (appL gB) ?_
  (repeat fail "go")
  refine ⟨_, _, rfl, last, ?_⟩
  have L := rc_loop (ks := ks) (R := kont (fun σ1 H1 => wS (rcZ σ1 H1) (fin Q)) (fin Q)) (H0 := H1 ++ [DO.lst []] ++ [.lst (rss.map fun ls => tx (rln ls))]) (T := tx (ctx ks rss)) (p1 := H.length) (p2 := (H ++ [DO.lst ((tx (kln ks) :: rss.map fun ls => tx (rln ls)) ++ [[]].map tx)]).length) (p3 := (H1 ++ [DO.lst []]).length) (p4 := H1.length) (L := rss.map fun ls => tx (rln ls)) c.h8 (by simp) (by simp) rss [] _ _ c.hu (by simpa using hr) ⟨⟨none, none, none, rfl⟩, last, appL last, .refl⟩ fun σ' H' j => ?_
  · simpa using L
  · obtain ⟨⟨z5, z6, z7, rfl⟩, g3, g4, x⟩ := j
    refine w_kn ?_
    unfold rcZ rcU
    rw [s_e]
    refine w_seq (w_if ?_)
    (repeat fail "go")
    refine w_ixR (x.lst (by simp; intro z; have := x1.len; simp at this; omega) (appL (appL gA))) (atI_last _ _) ?_
    (repeat fail "go")
    refine w_neX ?_
    rw [decide_eq_true rfl]
    (repeat fail "go")
    refine q _ ?_
    refine Fm.new (T := [H1.length]) ((((Fm.app _).trans (.app _)).trans x1).trans ((Fm.app _).trans (.app _))) x fun m hm _ => ?_
    simp at hm
    have := x1.len
    simp at this
    omega
theorem w_readMany (c : Cl ks rss) (hr : 21 ≤ rss.length) (h1 : rss.length ≤ 100) {P : Int → HD → Prop} (q : ∀ H', Fm [] H H' → P 21 H') : wXD (m_read_claim [tx (ctx ks rss)] H) (y_read_claim [tx (ctx ks rss)] H) P := by
  refine wx_run rfl ?_
  show wX (b_read_claim [some (tx (ctx ks rss)), none, none, none, none, none, none, none] H) (yb_read_claim [some (tx (ctx ks rss)), none, none, none, none, none, none, none] H) _
  rw [rc_b, rc_y]
  refine wx_seq (w_rcA (ctx_len c (by omega)) (by rw [spl_ctx]; unfold cln; simp; omega) ?_)
  rw [spl_ctx, List.map_append]
  refine wx_seq (w_rcB last ?_)
  rw [cln_map]
  refine wx_seq (w_rcC c.hk c.h8 last fun H1 x1 => ?_)
  refine wx_snd (w_rcD ?_)
  refine wx_seq (w_rcE ?_)
  have gA := x1.lst (by simp) (appL (last (H := H) (o := DO.lst ((tx (kln ks) :: rss.map fun ls => tx (rln ls)) ++ [[]].map tx))))
  have gB := x1.lst (by simp) (last (H := H ++ [DO.lst ((tx (kln ks) :: rss.map fun ls => tx (rln ls)) ++ [[]].map tx)]) (o := DO.lst (tx (kln ks) :: rss.map fun ls => tx (rln ls))))
  refine wx_fst (wx_for ?_)
  unfold rcI
  refine w_enumL1 ?_
  (repeat fail "go")
  refine w_sl1 (appL gB) ?_
  (repeat fail "go")
  refine ⟨_, _, rfl, last, ?_⟩
  have L := rc_many (ks := ks) (P := P) (H0 := H1 ++ [DO.lst []] ++ [.lst (rss.map fun ls => tx (rln ls))]) (T := tx (ctx ks rss)) (p1 := H.length) (p2 := (H ++ [DO.lst ((tx (kln ks) :: rss.map fun ls => tx (rln ls)) ++ [[]].map tx)]).length) (p3 := (H1 ++ [DO.lst []]).length) (p4 := H1.length) (L := rss.map fun ls => tx (rln ls)) c.h8 (by simp) (by simp) (fun H' x => ?_) rss [] _ _ c.hu (by simp) (by simpa using hr) ⟨⟨none, none, none, rfl⟩, last, appL last, .refl⟩
  · simpa using L
  · refine q _ ?_
    refine Fm.new (T := [H1.length]) ((((Fm.app _).trans (.app _)).trans x1).trans ((Fm.app _).trans (.app _))) x fun m hm _ => ?_
    simp at hm
    have := x1.len
    simp at this
    omega
end
theorem bools_fine (n : Nat) : Fines (List.replicate n (D.bl false)) (List.replicate n (PyData.bool false)) 0 := by
  induction n with
  | zero => exact .nil
  | succ n ih => exact .cons (.bl false) ih
theorem w_noBool {p n : Nat} (g : H[p]? = some (.lst (List.replicate n (.bl false)))) (q : Q (.bl false) H) : wE (inD (.bl true) (.ref p) H) Q := by
  refine w_inL (.bl true) (bools_fine n) (by omega) (by omega) g ?_
  rw [show ((List.replicate n (PyData.bool false)).any fun z => PyData.eqv z (.bool true)) = false by
    rw [List.any_eq_false]; intro x hx; rw [(List.mem_replicate.mp hx).2]; decide]
  exact q
theorem w_lawRight {ks : List D} {rss : List (List Int)} (c : Cl ks rss) (hr : rss.length ≤ 20) (q : ∀ H', Fm [] H H' → Q (.bl true) H') : wE (m_law_right [claimD ks rss] H) Q := by
  have h8 := c.h8
  obtain ⟨cx, fc⟩ := cfine (rss := rss) c.hk
  refine w_run rfl ?_
  show wS (b_law_right [some (claimD ks rss), none, none, none, none, none] H) _
  unfold b_law_right
  (repeat fail "go")
  refine w_lawText c (by omega) fun H1 x1 => ?_
  (repeat fail "go")
  refine ⟨_, rfl, ⟨by omega, by omega⟩, ?_⟩
  refine w_each (fun σ H' => Fm [] H H' ∧ ∃ z2 z3 z4 z5, σ = [some (claimD ks rss), some (tx (ctx ks rss)), z2, z3, z4, z5]) (fun _ _ _ => own0) _ (fun x hx σ H' ⟨x2, z2, z3, z4, z5, e⟩ => ?_) _ _ ⟨x1, _, _, _, _, rfl⟩ fun σ H' ⟨x2, z2, z3, z4, z5, e⟩ => ?_
  · subst e
    (repeat fail "go")
    refine w_showClaim c (by omega) fun H3 x3 => ?_
    (repeat fail "go")
    refine w_if ?_
    (repeat fail "go")
    refine w_neX ?_
    rw [decide_eq_true rfl]
    (repeat fail "go")
    refine w_readClaim c hr fun H4 x4 => ?_
    (repeat fail "go")
    refine w_if ?_
    (repeat fail "go")
    refine w_neSame fc (by omega) ?_
    (repeat fail "go")
    refine w_each (fun σ H' => Fm [] H H' ∧ ∃ z2 z5, σ = [some (claimD ks rss), some (tx (ctx ks rss)), z2, some (tx (ctx ks rss)), some (claimD ks rss), z5]) (fun _ _ _ => own0) _ (fun x hx σ H' ⟨x5, z2, z5, e⟩ => ?_) _ _ ⟨(x2.trans x3).trans x4, _, _, rfl⟩ fun σ H' ⟨x5, z2, z5, e⟩ => ?_
    · subst e
      obtain ⟨ls, hls, rfl⟩ := List.mem_map.mp hx
      have hl := words_len (by omega) (c.hu ls hls)
      (repeat fail "go")
      refine w_if ?_
      (repeat fail "go")
      refine w_itT ?_
      refine w_cmap (fun _ => .bl false) (fun H'' => H'' = H') (fun _ _ => own0) _ (fun d hd H'' e => ?_) _ rfl fun H'' e => ?_
      · subst e
        obtain ⟨i, _, rfl⟩ := List.mem_map.mp hd
        (repeat fail "go")
        exact ⟨rfl, rfl⟩
      · subst e
        refine w_sz (by simp; omega) ?_
        rw [show (ls.map D.int).map (fun _ => D.bl false) = List.replicate ls.length (.bl false) from List.eq_replicate_iff.mpr ⟨by simp, fun b hb => by obtain ⟨_, _, z⟩ := List.mem_map.mp hb; exact z.symm⟩]
        refine w_noBool (n := ls.length) last ?_
        (repeat fail "go")
        exact ⟨x5.trans (.app _), _, _, rfl⟩
    · subst e
      (repeat fail "go")
      exact ⟨x5, _, _, _, _, rfl⟩
  · subst e
    (repeat fail "go")
    exact q _ x2
theorem w_lawLine {ks : List D} {rss : List (List Int)} (c : Cl ks rss) (hr : 21 ≤ rss.length) (h1 : rss.length ≤ 100) (q : ∀ H', Fm [] H H' → Q (.int 21) H') : wE (m_law_line [tx (ctx ks rss)] H) Q := by
  refine w_run rfl ?_
  show wS (b_law_line [some (tx (ctx ks rss)), none, none] H) _
  unfold b_law_line
  refine w_seq ?_
  (repeat fail "go")
  refine w_tryX ?_
  refine wx_callE ?_
  (repeat fail "go")
  refine ⟨rfl, w_readMany c hr h1 fun H1 x1 => ?_⟩
  (repeat fail "go")
  exact q _ x1
variable {H : HD} {Q : D → HD → Prop}
theorem w_slFl {xs : List D} {k : Nat} (q : Q (.ref H.length) (H ++ [.lst (xs.drop k)])) : wE (slD (.fl xs) (some (k : Int)) none H) Q :=
  ⟨_, _, by rw [← cut_lo]; rfl, q⟩
theorem w_atR {p : Nat} {ns : List Int} {k : Int} (g : H[p]? = some (.lst (ns.map .int))) (h0 : 0 ≤ k) (h1 : k ≤ 1000) (q : ∀ c, Q (.int c) H) : wE (m_law_at [.ref p, .int k] H) Q := by
  refine w_run rfl ?_
  show wS (b_law_at [some (.ref p), some (.int k)] H) _
  unfold b_law_at
  (repeat fail "go"); (refine WP.w_if ?_; (repeat fail "go"))
  refine ⟨fun h => ?_, fun h => ?_⟩
  · have lt : k.toNat < ns.length := by have := of_decide_eq_true h; simp at this; omega
    (repeat fail "go")
    refine w_ixR g (atI_toNat h0 (d := .int ns[k.toNat]) (by rw [List.getElem?_map, List.getElem?_eq_getElem lt]; rfl)) ?_
    (repeat fail "go")
    exact q _
  · (repeat fail "go")
    exact q _
theorem w_tr2 {σ : SD} {f : AF} (h : wA (f σ H) fun ds H1 => ∃ i j, ds = [.int i, .int j] ∧ smallI i ∧ smallI j ∧ (j - i).toNat ≤ 1000000 ∧ Q (.tup (rangeL i (j - i).toNat)) H1) : wE (eTR2 f σ H) Q := by
  obtain ⟨ds, H1, e, i, j, rfl, h1, h2, h3, q⟩ := h
  exact ⟨_, _, by unfold eTR2; rw [e]; simp only [Option.bind_some]; exact if_pos ⟨h1, h2, h3⟩, q⟩
theorem w_mulX {xs : List D} {k : Int} (h1 : 0 ≤ k) (h2 : k ≤ 1000) (h3 : xs.length ≤ 1000) (q : Q (.tup (List.replicate k.toNat xs).flatten) H) : wE (mulD (.tup xs) (.int k) H) Q := ⟨_, _, muT (by omega) h2 h3, q⟩
noncomputable def grt (rss : List (List Int)) (n : Nat) : List (List Int) := (List.replicate 40 (rss ++ [[]])).flatten.take n
theorem grt_map (rss : List (List Int)) (n : Nat) : ((List.replicate 40 (rss.map rowD ++ [rowD []])).flatten).take n = (grt rss n).map rowD := by
  unfold grt
  rw [List.map_take, List.map_flatten, List.map_replicate, List.map_append]
  rfl
theorem grt_len (rss : List (List Int)) {n : Nat} (h : n ≤ 40) : (grt rss n).length = n := by
  unfold grt
  rw [List.length_take, List.length_flatten, List.map_replicate, List.sum_replicate_nat]
  simp
  have : 40 * (rss.length + 1) = 40 * rss.length + 40 := by omega
  omega
theorem grt_cl {ks : List D} {rss : List (List Int)} (c : Cl ks rss) {n : Nat} (h : n ≤ 40) : Cl ks (grt rss n) where
  hk := c.hk
  h8 := c.h8
  hl := by rw [grt_len rss h]; omega
  hu := by
    intro ls hls
    have := List.mem_of_mem_take hls
    obtain ⟨l, hl, hx⟩ := List.mem_flatten.mp this
    rw [(List.mem_replicate.mp hl).2] at hx
    rcases List.mem_append.mp hx with z | z
    · exact c.hu ls z
    · simp at z; subst z; exact trivial
noncomputable def wideR : List (List Int) := (List.replicate 10 [[1, 2, 3, 4, 5, 6, 7, 8], [-1, -2, -3, -4, -5, -6, -7, -8]]).flatten
theorem wide_cl : Cl (List.replicate 8 (.str "some")) wideR where
  hk := by intro d hd; rw [(List.mem_replicate.mp hd).2]; exact .inr rfl
  h8 := by simp
  hl := by decide
  hu := by
    intro ls hls
    obtain ⟨l, hl, hx⟩ := List.mem_flatten.mp hls
    rw [(List.mem_replicate.mp hl).2] at hx
    simp at hx
    rcases hx with rfl | rfl <;> simp [Up, absZ]
theorem none_cl (n : Nat) (h : n ≤ 20) : Cl [] (List.replicate n []) where
  hk := by simp
  h8 := by simp
  hl := by simp; omega
  hu := by intro ls hls; rw [(List.mem_replicate.mp hls).2]; exact trivial
theorem pure_law : ∀ ns : List Int, ns.length ≤ 63 → ∃ Hd', m_law [.fl (ns.map .int)] [] = some (.bl true, Hd') := by
  intro ns hn
  suffices h : wE (m_law [.fl (ns.map .int)] []) fun d _ => d = .bl true by
    obtain ⟨d, H, e, rfl⟩ := h; exact ⟨H, e⟩
  refine w_run rfl ?_
  show wS (b_law [some (.fl (ns.map .int)), none, none, none, none, none] []) _
  unfold b_law
  (repeat fail "go")
  refine w_claim77 (most := 8) (fun H1 k Q _ h0 h1 q => w_atF H1 k Q h0 h1 q) (by omega) fun ks rss H1 c l1 r1 x1 => ?_
  unfold claimD
  (repeat fail "go")
  refine w_mulX (by omega) (by omega) (by simp; omega) ?_
  (repeat fail "go")
  refine w_atF _ _ _ (by omega) (by omega) fun cell => ?_
  (repeat fail "go")
  obtain ⟨n, hn1, hn2, en⟩ : ∃ n : Nat, 21 ≤ n ∧ n ≤ 40 ∧ (21 : Int) + absZ cell % 20 = n := ⟨(21 + absZ cell % 20).toNat, by omega, by omega, by omega⟩
  rw [en]
  (repeat fail "go")
  have eg := grt_map rss n
  rw [show (rowD []) = D.tup [] from rfl] at eg
  rw [show Int.toNat 40 = 40 from rfl, eg]
  clear eg
  have C := grt_cl c hn2
  have L := grt_len rss hn2
  generalize grt rss n = G at C L
  subst L
  show wS (sIf _ _ _ [some (.fl (ns.map .int)), some (claimD ks G), none, none, some (.tup ks), some (.tup (rss.map rowD))] H1) _
  refine w_if ?_
  (repeat fail "go")
  refine w_showClaim C (by omega) fun H2 x2 => ?_
  (repeat fail "go")
  refine w_lawText C (by omega) fun H3 x3 => ?_
  refine w_neX ?_
  rw [decide_eq_true rfl]
  (repeat fail "go")
  refine w_lawText C (by omega) fun H4 x4 => ?_
  (repeat fail "go")
  refine w_lawLine C (by omega) (by omega) fun H5 x5 => ?_
  (repeat fail "go")
  refine ⟨_, rfl, ⟨by omega, by omega⟩, ?_⟩
  refine w_each (fun σ _ => ∃ z2, σ = [some (.fl (ns.map .int)), some (claimD ks G), z2, none, some (.tup ks), some (.tup (rss.map rowD))]) (fun _ _ _ => own0) _ (fun x hx σ H' ⟨z2, e⟩ => ?_) _ _ ⟨_, rfl⟩ fun σ H' ⟨z2, e⟩ => ?_
  · obtain ⟨k, rfl, hk⟩ : ∃ k : Nat, x = .int (k : Int) ∧ k < 3 := by
      simp only [rangeL, List.mem_map, List.mem_range] at hx
      obtain ⟨k, hk, rfl⟩ := hx
      exact ⟨k, by simp, hk⟩
    clear hx
    subst e
    (repeat fail "go")
    refine w_if ?_
    (repeat fail "go")
    rw [show (4 : Int) * (k : Int) = ((4 * k : Nat) : Int) by omega]
    refine w_slFl ?_
    (repeat fail "go")
    rw [← List.map_drop]
    refine w_claim77 (most := 8) (fun H1 k' Q x h0 h1 q => w_atR (x.lst (by simp) last) h0 h1 q) (by omega) fun ks2 rss2 H6 c6 l6 r6 x6 => ?_
    (repeat fail "go")
    refine w_lawRight c6 r6 fun H7 x7 => ?_
    (repeat fail "go")
    exact ⟨_, rfl⟩
  · subst e
    refine w_kn (w_seq (w_set ?_))
    (repeat fail "go")
    refine w_mulX (by omega) (by omega) (by simp) ?_
    (repeat fail "go")
    refine w_tr2 ?_
    (repeat fail "go")
    refine ⟨1, 9, rfl, by decide, by decide, by decide, ?_⟩
    (repeat fail "go")
    refine ⟨1, 9, rfl, by decide, by decide, ?_⟩
    refine w_cmap (fun d => match d with | .int i => .int (0 - i) | d => d) (fun H'' => H'' = H') (fun _ _ => own0) _ (fun d hd H'' e => ?_) _ rfl fun H'' e => ?_
    · subst e
      simp only [rangeL, List.mem_map] at hd
      obtain ⟨i, _, rfl⟩ := hd
      (repeat fail "go")
      exact ⟨rfl, rfl⟩
    subst e
    refine w_sz (by decide) ?_
    (repeat fail "go")
    refine w_mulX (by omega) (by omega) (by simp) ?_
    refine w_anil (w_sz (by simp) (w_kn ?_))
    show wS (sSeq _ _ [some (.fl (ns.map .int)), some (claimD ks G), z2, some (claimD (List.replicate 8 (.str "some")) wideR), some (.tup ks), some (.tup (rss.map rowD))] _) _
    (repeat fail "go")
    refine w_lawRight wide_cl (by decide) fun H2 x2 => ?_
    (repeat fail "go")
    refine w_lawRight (ks := []) (rss := List.replicate 0 []) (none_cl 0 (by omega)) (by decide) fun H3 x3 => ?_
    (repeat fail "go")
    refine w_mulX (by omega) (by omega) (by simp) ?_
    (repeat fail "go")
    refine w_lawRight (ks := []) (rss := List.replicate 20 []) (none_cl 20 (by omega)) (by decide) fun H4 x4 => ?_
    (repeat fail "go")
    rfl
end K08
set_option maxHeartbeats 8000000
namespace K08
open PySem PySem.Spec PyProof.Rows L2 DL
noncomputable def top (i : Nat) : Stmt := PySem.Challenge.pw_allsome_k77_claims_written_and_read.main.body.getD i (.Pass ⟨0, 0, 0, 0⟩)
noncomputable abbrev si_NoText : Stmt := (clsBody (top 9)).getD 0 (.Pass ⟨0, 0, 0, 0⟩)
theorem sci_NoText : FnScope ["self", "line"] ["self", "line"] (defScope si_NoText) := ⟨rfl, rfl, rfl, by decide +kernel, rfl, by decide +kernel, by decide +kernel⟩
noncomputable abbrev s_is_whole : Stmt := top 4
theorem sc_is_whole : FnScope ["thing"] ["thing"] (defScope s_is_whole) := ⟨rfl, rfl, rfl, by decide +kernel, rfl, by decide +kernel, by decide +kernel⟩
noncomputable abbrev s_is_kinds : Stmt := top 5
theorem sc_is_kinds : FnScope ["thing"] ["thing"] (defScope s_is_kinds) := ⟨rfl, rfl, rfl, by decide +kernel, rfl, by decide +kernel, by decide +kernel⟩
noncomputable abbrev s_is_row : Stmt := top 6
theorem sc_is_row : FnScope ["many", "thing", "last", "literal"] ["many", "thing"] (defScope s_is_row) := ⟨rfl, rfl, rfl, by decide +kernel, rfl, by decide +kernel, by decide +kernel⟩
noncomputable abbrev s_show_row : Stmt := top 13
theorem sc_show_row : FnScope ["row"] ["row"] (defScope s_show_row) := ⟨rfl, rfl, rfl, by decide +kernel, rfl, by decide +kernel, by decide +kernel⟩
noncomputable abbrev s_show_claim : Stmt := top 14
theorem sc_show_claim : FnScope ["claim", "kinds", "rows"] ["claim"] (defScope s_show_claim) := ⟨rfl, rfl, rfl, by decide +kernel, rfl, by decide +kernel, by decide +kernel⟩
noncomputable abbrev s_read_number : Stmt := top 15
theorem sc_read_number : FnScope ["word"] ["word"] (defScope s_read_number) := ⟨rfl, rfl, rfl, by decide +kernel, rfl, by decide +kernel, by decide +kernel⟩
noncomputable abbrev s_read_literal : Stmt := top 16
theorem sc_read_literal : FnScope ["word", "number"] ["word"] (defScope s_read_literal) := ⟨rfl, rfl, rfl, by decide +kernel, rfl, by decide +kernel, by decide +kernel⟩
noncomputable abbrev s_read_row : Stmt := top 17
theorem sc_read_row : FnScope ["many", "words", "row"] ["many", "words"] (defScope s_read_row) := ⟨rfl, rfl, rfl, by decide +kernel, rfl, by decide +kernel, by decide +kernel⟩
noncomputable abbrev s_read_kinds : Stmt := top 18
theorem sc_read_kinds : FnScope ["words", "kinds"] ["words"] (defScope s_read_kinds) := ⟨rfl, rfl, rfl, by decide +kernel, rfl, by decide +kernel, by decide +kernel⟩
noncomputable abbrev s_read_claim : Stmt := top 19
theorem sc_read_claim : FnScope ["text", "lines", "ended", "kinds", "rows", "number", "line", "row"] ["text"] (defScope s_read_claim) := ⟨rfl, rfl, rfl, by decide +kernel, rfl, by decide +kernel, by decide +kernel⟩
noncomputable abbrev s_law_mix : Stmt := top 21
theorem sc_law_mix : FnScope ["cell", "k", "prime", "one"] ["cell", "k"] (defScope s_law_mix) := ⟨rfl, rfl, rfl, by decide +kernel, rfl, by decide +kernel, by decide +kernel⟩
noncomputable abbrev s_law_digits : Stmt := top 22
theorem sc_law_digits : FnScope ["cell", "many", "found", "left_over", "wide", "k"] ["cell", "many"] (defScope s_law_digits) := ⟨rfl, rfl, rfl, by decide +kernel, rfl, by decide +kernel, by decide +kernel⟩
noncomputable abbrev s_law_at : Stmt := top 23
theorem sc_law_at : FnScope ["script", "k"] ["script", "k"] (defScope s_law_at) := ⟨rfl, rfl, rfl, by decide +kernel, rfl, by decide +kernel, by decide +kernel⟩
noncomputable abbrev s_law_kinds : Stmt := top 24
theorem sc_law_kinds : FnScope ["some", "many", "found", "k", "kind"] ["some", "many"] (defScope s_law_kinds) := ⟨rfl, rfl, rfl, by decide +kernel, rfl, by decide +kernel, by decide +kernel⟩
noncomputable abbrev s_law_row : Stmt := top 25
theorem sc_law_row : FnScope ["cell", "many", "wide", "some", "found", "k"] ["cell", "many", "wide"] (defScope s_law_row) := ⟨rfl, rfl, rfl, by decide +kernel, rfl, by decide +kernel, by decide +kernel⟩
noncomputable abbrev s_law_claim : Stmt := top 26
theorem sc_law_claim : FnScope ["script", "most", "some", "many", "kinds", "size", "rows"] ["script", "most"] (defScope s_law_claim) := ⟨rfl, rfl, rfl, by decide +kernel, rfl, by decide +kernel, by decide +kernel⟩
noncomputable abbrev s_law_text : Stmt := top 27
theorem sc_law_text : FnScope ["claim", "found", "row", "words", "literal"] ["claim"] (defScope s_law_text) := ⟨rfl, rfl, rfl, by decide +kernel, rfl, by decide +kernel, by decide +kernel⟩
noncomputable abbrev s_law_right : Stmt := top 28
theorem sc_law_right : FnScope ["claim", "text", "turn", "told", "found", "row"] ["claim"] (defScope s_law_right) := ⟨rfl, rfl, rfl, by decide +kernel, rfl, by decide +kernel, by decide +kernel⟩
noncomputable abbrev s_law_line : Stmt := top 29
theorem sc_law_line : FnScope ["text", "told", "e"] ["text"] (defScope s_law_line) := ⟨rfl, rfl, rfl, by decide +kernel, rfl, by decide +kernel, by decide +kernel⟩
noncomputable abbrev s_law : Stmt := top 30
theorem sc_law : FnScope ["script", "great", "k", "wide", "kinds", "rows"] ["script"] (defScope s_law) := ⟨rfl, rfl, rfl, by decide +kernel, rfl, by decide +kernel, by decide +kernel⟩
structure Top (K : PySem.W.Frag) (mg : Str → Option Value) : Prop where
  t_is_whole : Tf K mg "is_whole" s_is_whole
  t_is_kinds : Tf K mg "is_kinds" s_is_kinds
  t_is_row : Tf K mg "is_row" s_is_row
  t_show_row : Tf K mg "show_row" s_show_row
  t_show_claim : Tf K mg "show_claim" s_show_claim
  t_read_number : Tf K mg "read_number" s_read_number
  t_read_literal : Tf K mg "read_literal" s_read_literal
  t_read_row : Tf K mg "read_row" s_read_row
  t_read_kinds : Tf K mg "read_kinds" s_read_kinds
  t_read_claim : Tf K mg "read_claim" s_read_claim
  t_law_mix : Tf K mg "_law_mix" s_law_mix
  t_law_digits : Tf K mg "_law_digits" s_law_digits
  t_law_at : Tf K mg "_law_at" s_law_at
  t_law_kinds : Tf K mg "_law_kinds" s_law_kinds
  t_law_row : Tf K mg "_law_row" s_law_row
  t_law_claim : Tf K mg "_law_claim" s_law_claim
  t_law_text : Tf K mg "_law_text" s_law_text
  t_law_right : Tf K mg "_law_right" s_law_right
  t_law_line : Tf K mg "_law_line" s_law_line
  t_law : Tf K mg "law" s_law
  n_abs : mg "abs" = none
  n_all : mg "all" = none
  n_bool : mg "bool" = none
  n_enumerate : mg "enumerate" = none
  n_int : mg "int" = none
  n_isinstance : mg "isinstance" = none
  n_len : mg "len" = none
  n_max : mg "max" = none
  n_range : mg "range" = none
  n_str : mg "str" = none
  n_tuple : mg "tuple" = none
  c_FIGURES : Gc K mg "FIGURES" k_FIGURES
  c_KINDS : Gc K mg "KINDS" k_KINDS
  c_MOST_FIGURES : Gc K mg "MOST_FIGURES" k_MOST_FIGURES
  c_MOST_NAMES : Gc K mg "MOST_NAMES" k_MOST_NAMES
  c_MOST_ROWS : Gc K mg "MOST_ROWS" k_MOST_ROWS
  y_NoText : ∃ C Cl fI, YCl K mg "NoText" "line" "NoText.__init__" si_NoText C Cl fI
  h_NoText_NoText : ∃ C cV, mg "NoText" = some (.ref C) ∧ mg "NoText" = some cV ∧ PySem.W.exmOne K (.ref C) cV = some true
section
variable {P : Program} {w : World} {K : PySem.W.Frag} {mg : Str → Option Value} {base : Heap}
theorem okI_NoText (T : Top K mg) : YRs P w K mg base "NoText" "line" 1 := by
  obtain ⟨C, Cl, fI, Y⟩ := T.y_NoText
  obtain ⟨fd, F⟩ := Y.fn
  exact ⟨C, Cl, fI, fd, ["self", "line"], Y.bound, Y.kp, Y.ini, ini_fn (k := 0) (ln := "line") Y.ini Y.base F sci_NoText rfl (by decide) (by decide) rfl rfl rfl (fun L cdv => ⟨_, rfl⟩), F.binds (fun _ _ _ _ _ _ us hl => by obtain ⟨_, _, rfl⟩ := us2 hl; rfl), Y.look⟩
theorem ok_is_whole (T : Top K mg) : Fn P w K mg base 1 "is_whole" ["thing"] m_is_whole := by
  refine (fun h => h : _ → Fn P w K mg base 1 "is_whole" ["thing"] (runB 1 1 b_is_whole)) (fn_mk (N := ["thing"]) (k := 0) T.t_is_whole sc_is_whole (fun _ _ _ _ _ _ us hl => by obtain ⟨_, rfl⟩ := us1 hl; rfl) ?_)
  intro f cdv A outer s H E hr
  unfold b_is_whole
  refine pssf_cons ?_ pssf_nil
  refine psf_ret ?_
  refine pef_and ?_ ?_
  refine pef_callB callf_isi ?_ T.n_isinstance bb_isinstance ?_
  rfl
  refine paf_c ?_ ?_ ?_
  exact (pef_var (pv 0))
  refine paf_c ?_ ?_ ?_
  refine pef_ty ?_ T.n_int bb_int
  rfl
  exact paf_nil
  rfl
  rfl
  refine pef_one ?_
  refine pef_not ?_
  refine pef_callB callf_isi ?_ T.n_isinstance bb_isinstance ?_
  rfl
  refine paf_c ?_ ?_ ?_
  exact (pef_var (pv 0))
  refine paf_c ?_ ?_ ?_
  refine pef_ty ?_ T.n_bool bb_bool
  rfl
  exact paf_nil
  rfl
  rfl
theorem ok_is_kinds (T : Top K mg) : Fn P w K mg base 1 "is_kinds" ["thing"] m_is_kinds := by
  refine (fun h => h : _ → Fn P w K mg base 1 "is_kinds" ["thing"] (runB 1 1 b_is_kinds)) (fn_mk (N := ["thing"]) (k := 0) T.t_is_kinds sc_is_kinds (fun _ _ _ _ _ _ us hl => by obtain ⟨_, rfl⟩ := us1 hl; rfl) ?_)
  intro f cdv A outer s H E hr
  unfold b_is_kinds
  refine pssf_cons ?_ ?_
  refine psf_if ?_ ?_ pssf_nil
  refine PWf.pt ?_
  refine pwf_or ?_ ?_
  refine ptf_not ?_
  refine ptf_truth ?_ (fun _ => rfl)
  refine pef_callB callf_isi ?_ T.n_isinstance bb_isinstance ?_
  rfl
  refine paf_c ?_ ?_ ?_
  exact (pef_var (pv 0))
  refine paf_c ?_ ?_ ?_
  refine pef_ty ?_ T.n_tuple bb_tuple
  rfl
  exact paf_nil
  rfl
  rfl
  refine pwf_or1 ?_
  refine ptf_cmp opf_gt ?_ ?_ (nomark _)
  refine pef_callB callf_len ?_ T.n_len bb_len ?_
  rfl
  refine paf_c ?_ ?_ ?_
  exact (pef_var (pv 0))
  exact paf_nil
  rfl
  refine pef_gc ?_ T.c_MOST_NAMES
  rfl
  refine pssf_cons ?_ pssf_nil
  exact psf_ret pef_bl
  refine pssf_cons ?_ pssf_nil
  refine psf_ret ?_
  refine pef_callB (callf_all (by rfl)) ?_ T.n_all bb_all ?_
  rfl
  refine paf_c ?_ ?_ ?_
  refine pef_lc (cn := []) ?_ (blk_fn (x := "kind") (cn := []) (ci := []) (by decide +kernel)) ?_ ?_ ?_
  rfl
  exact pif_seq (pef_var (pv 0))
  intro _ _ _ _ _ _
  exact ptsf_nil
  intro _ _ _ _ _ _
  refine pef_cmp (opf_in hr.units) (pef_var (pv 0)) ?_ ?_
  refine pef_gc ?_ T.c_KINDS
  rfl
  with_unfolding_all rfl
  exact paf_nil
  rfl
theorem ok_is_row (T : Top K mg) (F_is_whole : Fn P w K mg base 1 "is_whole" ["thing"] m_is_whole) : Fn P w K mg base 2 "is_row" ["many", "thing"] m_is_row := by
  refine (fun h => h : _ → Fn P w K mg base 2 "is_row" ["many", "thing"] (runB 2 4 b_is_row)) (fn_mk (N := ["many", "thing", "last", "literal"]) (k := 1) T.t_is_row sc_is_row (fun _ _ _ _ _ _ us hl => by obtain ⟨_, _, rfl⟩ := us2 hl; rfl) ?_)
  intro f cdv A outer s H E hr
  unfold b_is_row
  refine pssf_cons ?_ ?_
  refine psf_if ?_ ?_ pssf_nil
  refine ptf_not ?_
  refine ptf_truth ?_ (fun _ => rfl)
  refine pef_callB callf_isi ?_ T.n_isinstance bb_isinstance ?_
  rfl
  refine paf_c ?_ ?_ ?_
  exact (pef_var (pv 1))
  refine paf_c ?_ ?_ ?_
  refine pef_ty ?_ T.n_tuple bb_tuple
  rfl
  exact paf_nil
  rfl
  rfl
  refine pssf_cons ?_ pssf_nil
  exact psf_ret pef_bl
  refine pssf_cons ?_ ?_
  refine psf_set (i := 2) ?_ ?_ ?_ pef_int
  exact sc_is_row.nd
  rfl
  first | exact Or.inl rfl | exact Or.inr rfl
  refine pssf_cons ?_ ?_
  refine psf_for PassesOwn.never ?_ ?_ ?_ ?_
  rfl
  exact pif_seq (pef_var (pv 1))
  refine pgf_name (i := 3) ?_ ?_ ?_
  exact sc_is_row.nd
  rfl
  first | exact Or.inl rfl | exact Or.inr rfl
  refine pssf_cons ?_ ?_
  refine psf_if ?_ ?_ pssf_nil
  refine PWf.pt ?_
  refine pwf_or ?_ ?_
  refine ptf_not ?_
  refine ptf_truth ?_ (fun _ => rfl)
  refine pef_fn F_is_whole (hr.mono (by decide)) ?_ ?_
  rfl
  refine paf_c ?_ ?_ ?_
  exact (pef_var (pv 3))
  exact paf_nil
  rfl
  refine pwf_or ?_ ?_
  refine ptf_cmp opf_le ?_ (pef_var (pv 2)) (nomark _)
  refine pef_callB callf_abs ?_ T.n_abs bb_abs ?_
  rfl
  refine paf_c ?_ ?_ ?_
  exact (pef_var (pv 3))
  exact paf_nil
  rfl
  refine pwf_or1 ?_
  refine ptf_cmp opf_gt ?_ (pef_var (pv 0)) (nomark _)
  refine pef_callB callf_abs ?_ T.n_abs bb_abs ?_
  rfl
  refine paf_c ?_ ?_ ?_
  exact (pef_var (pv 3))
  exact paf_nil
  rfl
  refine pssf_cons ?_ pssf_nil
  exact psf_ret pef_bl
  refine pssf_cons ?_ pssf_nil
  refine psf_set (i := 2) ?_ ?_ ?_ ?_
  exact sc_is_row.nd
  rfl
  first | exact Or.inl rfl | exact Or.inr rfl
  refine pef_callB callf_abs ?_ T.n_abs bb_abs ?_
  rfl
  refine paf_c ?_ ?_ ?_
  exact (pef_var (pv 3))
  exact paf_nil
  rfl
  refine pssf_cons ?_ pssf_nil
  exact psf_ret pef_bl
theorem ok_show_row (T : Top K mg) : Fn P w K mg base 1 "show_row" ["row"] m_show_row := by
  refine (fun h => h : _ → Fn P w K mg base 1 "show_row" ["row"] (runB 1 1 b_show_row)) (fn_mk (N := ["row"]) (k := 0) T.t_show_row sc_show_row (fun _ _ _ _ _ _ us hl => by obtain ⟨_, rfl⟩ := us1 hl; rfl) ?_)
  intro f cdv A outer s H E hr
  unfold b_show_row
  refine pssf_cons ?_ pssf_nil
  refine psf_ret ?_
  refine pef_if ?_ ?_ pef_str
  exact ptf_truth (pef_var (pv 0)) (fun _ => rfl)
  refine pef_sm PySem.F.slot_str_join PySem.F.type_str_join mtf_join pef_str ?_
  refine paf_c ?_ ?_ ?_
  refine pef_lc (cn := []) ?_ (blk_fn (x := "literal") (cn := []) (ci := []) (by decide +kernel)) ?_ ?_ ?_
  rfl
  exact pif_seq (pef_var (pv 0))
  intro _ _ _ _ _ _
  exact ptsf_nil
  intro _ _ _ _ _ _
  refine pef_callTy callf_str ?_ T.n_str bb_str ?_
  rfl
  refine paf_c ?_ ?_ ?_
  exact (pef_var (pv 0))
  exact paf_nil
  rfl
  exact paf_nil
  rfl
theorem ok_show_claim (T : Top K mg) (F_show_row : Fn P w K mg base 1 "show_row" ["row"] m_show_row) : Fn P w K mg base 2 "show_claim" ["claim"] m_show_claim := by
  refine (fun h => h : _ → Fn P w K mg base 2 "show_claim" ["claim"] (runB 1 3 b_show_claim)) (fn_mk (N := ["claim", "kinds", "rows"]) (k := 1) T.t_show_claim sc_show_claim (fun _ _ _ _ _ _ us hl => by obtain ⟨_, rfl⟩ := us1 hl; rfl) ?_)
  intro f cdv A outer s H E hr
  unfold b_show_claim
  refine pssf_cons ?_ ?_
  refine psf_set (i := 1) ?_ ?_ ?_ ?_
  exact sc_show_claim.nd
  rfl
  first | exact Or.inl rfl | exact Or.inr rfl
  refine pef_if ?_ ?_ pef_str
  refine ptf_truth ?_ (fun _ => rfl)
  exact pef_ix ixf (pef_var (pv 0)) pef_int (fun _ _ => rfl)
  refine pef_sm PySem.F.slot_str_join PySem.F.type_str_join mtf_join pef_str ?_
  refine paf_c ?_ ?_ ?_
  exact pef_ix ixf (pef_var (pv 0)) pef_int (fun _ _ => rfl)
  exact paf_nil
  rfl
  refine pssf_cons ?_ ?_
  refine psf_set (i := 2) ?_ ?_ ?_ ?_
  exact sc_show_claim.nd
  rfl
  first | exact Or.inl rfl | exact Or.inr rfl
  refine pef_op opf_add ?_ ?_
  refine pef_lst ?_
  refine paf_c ?_ ?_ ?_
  exact (pef_var (pv 1))
  exact paf_nil
  rfl
  refine pef_lc (cn := []) ?_ (blk_fn (x := "row") (cn := []) (ci := []) (by decide +kernel)) ?_ ?_ ?_
  rfl
  refine pif_seq ?_
  exact pef_ix ixf (pef_var (pv 0)) pef_int (fun _ _ => rfl)
  intro _ _ _ _ _ _
  exact ptsf_nil
  intro _ _ _ _ _ _
  refine pef_fn F_show_row (hr.mono (by decide)) ?_ ?_
  rfl
  refine paf_c ?_ ?_ ?_
  exact (pef_var (pv 0))
  exact paf_nil
  rfl
  refine pssf_cons ?_ pssf_nil
  refine psf_ret ?_
  refine pef_sm PySem.F.slot_str_join PySem.F.type_str_join mtf_join pef_str ?_
  refine paf_c ?_ ?_ ?_
  refine pef_lc (cn := []) ?_ (blk_fn (x := "row") (cn := []) (ci := []) (by decide +kernel)) ?_ ?_ ?_
  rfl
  exact pif_seq (pef_var (pv 2))
  intro _ _ _ _ _ _
  exact ptsf_nil
  intro _ _ _ _ _ _
  refine pef_join ?_
  refine pj_e (pef_var (pv 0)) ?_
  exact pj_c pj_nil
  exact paf_nil
  rfl
theorem ok_read_number (T : Top K mg) : Fn P w K mg base 1 "read_number" ["word"] m_read_number := by
  refine (fun h => h : _ → Fn P w K mg base 1 "read_number" ["word"] (runB 1 1 b_read_number)) (fn_mk (N := ["word"]) (k := 0) T.t_read_number sc_read_number (fun _ _ _ _ _ _ us hl => by obtain ⟨_, rfl⟩ := us1 hl; rfl) ?_)
  intro f cdv A outer s H E hr
  unfold b_read_number
  refine pssf_cons ?_ ?_
  refine psf_if ?_ ?_ pssf_nil
  refine PWf.pt ?_
  refine pwf_or ?_ ?_
  refine ptf_cmp (opf_eq hr.units) ?_ pef_int (nomark _)
  refine pef_callB callf_len ?_ T.n_len bb_len ?_
  rfl
  refine paf_c ?_ ?_ ?_
  exact (pef_var (pv 0))
  exact paf_nil
  rfl
  refine pwf_or ?_ ?_
  refine ptf_cmp opf_gt ?_ ?_ (nomark _)
  refine pef_callB callf_len ?_ T.n_len bb_len ?_
  rfl
  refine paf_c ?_ ?_ ?_
  exact (pef_var (pv 0))
  exact paf_nil
  rfl
  refine pef_gc ?_ T.c_MOST_FIGURES
  rfl
  refine pwf_or1 ?_
  refine ptf_not ?_
  refine ptf_truth ?_ (fun _ => rfl)
  refine pef_callB (callf_all (by rfl)) ?_ T.n_all bb_all ?_
  rfl
  refine paf_c ?_ ?_ ?_
  refine pef_lc (cn := []) ?_ (blk_fn (x := "sign") (cn := []) (ci := []) (by decide +kernel)) ?_ ?_ ?_
  rfl
  exact pif_txt (pef_var (pv 0))
  intro _ _ _ _ _ _
  exact ptsf_nil
  intro _ _ _ _ _ _
  refine pef_cmp sinf (pef_var (pv 0)) ?_ ?_
  refine pef_gc ?_ T.c_FIGURES
  rfl
  with_unfolding_all rfl
  exact paf_nil
  rfl
  refine pssf_cons ?_ pssf_nil
  exact psf_ret pef_non
  refine pssf_cons ?_ ?_
  refine psf_if ?_ ?_ pssf_nil
  refine PWf.pt ?_
  refine pwf_and ?_ ?_
  refine ptf_cmp (opf_eq hr.units) ?_ pef_str (nomark _)
  exact pef_ix sixf (pef_var (pv 0)) pef_int (fun _ _ => rfl)
  refine pwf_and1 ?_
  exact ptf_cmp (opf_ne hr.units) (pef_var (pv 0)) pef_str (nomark _)
  refine pssf_cons ?_ pssf_nil
  exact psf_ret pef_non
  refine pssf_cons ?_ pssf_nil
  refine psf_ret ?_
  refine pef_callTy callf_intS ?_ T.n_int bb_int ?_
  rfl
  refine paf_c ?_ ?_ ?_
  exact (pef_var (pv 0))
  exact paf_nil
  rfl
theorem ok_read_literal (T : Top K mg) (F_read_number : Fn P w K mg base 1 "read_number" ["word"] m_read_number) : Fn P w K mg base 2 "read_literal" ["word"] m_read_literal := by
  refine (fun h => h : _ → Fn P w K mg base 2 "read_literal" ["word"] (runB 1 2 b_read_literal)) (fn_mk (N := ["word", "number"]) (k := 1) T.t_read_literal sc_read_literal (fun _ _ _ _ _ _ us hl => by obtain ⟨_, rfl⟩ := us1 hl; rfl) ?_)
  intro f cdv A outer s H E hr
  unfold b_read_literal
  refine pssf_cons ?_ ?_
  refine psf_if ?_ ?_ pssf_nil
  refine ptf_not ?_
  refine ptf_truth ?_ (fun _ => rfl)
  refine pef_sm PySem.F.slot_str_startswith PySem.F.type_str_startswith mtf_starts (pef_var (pv 0)) ?_
  refine paf_c ?_ ?_ ?_
  exact pef_str
  exact paf_nil
  rfl
  refine pssf_cons ?_ pssf_nil
  refine psf_ret ?_
  refine pef_fn F_read_number (hr.mono (by decide)) ?_ ?_
  rfl
  refine paf_c ?_ ?_ ?_
  exact (pef_var (pv 0))
  exact paf_nil
  rfl
  refine pssf_cons ?_ ?_
  refine psf_set (i := 1) ?_ ?_ ?_ ?_
  exact sc_read_literal.nd
  rfl
  first | exact Or.inl rfl | exact Or.inr rfl
  refine pef_fn F_read_number (hr.mono (by decide)) ?_ ?_
  rfl
  refine paf_c ?_ ?_ ?_
  refine pef_sliceS (pef_var (pv 0)) ?_ pof_none
  exact pof_some pef_int
  exact paf_nil
  rfl
  refine pssf_cons ?_ pssf_nil
  refine psf_ret ?_
  refine pef_if ?_ pef_non ?_
  exact ptf_cmp opf_is (pef_var (pv 1)) pef_non (nomark _)
  exact pef_un unf_neg (pef_var (pv 1))
theorem ok_read_row (T : Top K mg) (F_is_row : Fn P w K mg base 2 "is_row" ["many", "thing"] m_is_row) (F_read_literal : Fn P w K mg base 2 "read_literal" ["word"] m_read_literal) : Fn P w K mg base 3 "read_row" ["many", "words"] m_read_row := by
  refine (fun h => h : _ → Fn P w K mg base 3 "read_row" ["many", "words"] (runB 2 3 b_read_row)) (fn_mk (N := ["many", "words", "row"]) (k := 2) T.t_read_row sc_read_row (fun _ _ _ _ _ _ us hl => by obtain ⟨_, _, rfl⟩ := us2 hl; rfl) ?_)
  intro f cdv A outer s H E hr
  unfold b_read_row
  refine pssf_cons ?_ ?_
  refine psf_if ?_ ?_ pssf_nil
  refine ptf_cmp (opf_eq hr.units) (pef_var (pv 1)) ?_ (nomark _)
  refine pef_lst ?_
  refine paf_c ?_ ?_ ?_
  exact pef_str
  exact paf_nil
  rfl
  refine pssf_cons ?_ pssf_nil
  refine psf_ret ?_
  exact pef_tup paf_nil
  refine pssf_cons ?_ ?_
  refine psf_set (i := 2) ?_ ?_ ?_ ?_
  exact sc_read_row.nd
  rfl
  first | exact Or.inl rfl | exact Or.inr rfl
  refine pef_callTy callf_tuple ?_ T.n_tuple bb_tuple ?_
  rfl
  refine paf_c ?_ ?_ ?_
  refine pef_lc (cn := []) ?_ (blk_fn (x := "word") (cn := []) (ci := []) (by decide +kernel)) ?_ ?_ ?_
  rfl
  exact pif_seq (pef_var (pv 1))
  intro _ _ _ _ _ _
  exact ptsf_nil
  intro _ _ _ _ _ _
  refine pef_fn F_read_literal (hr.mono (by decide)) ?_ ?_
  rfl
  refine paf_c ?_ ?_ ?_
  exact (pef_var (pv 0))
  exact paf_nil
  rfl
  exact paf_nil
  rfl
  refine pssf_cons ?_ pssf_nil
  refine psf_ret ?_
  refine pef_if ?_ (pef_var (pv 2)) pef_non
  refine PWf.pt ?_
  refine pwf_and ?_ ?_
  exact ptf_truth (pef_var (pv 2)) (fun _ => rfl)
  refine pwf_and1 ?_
  refine ptf_truth ?_ (fun _ => rfl)
  refine pef_fn F_is_row (hr.mono (by decide)) ?_ ?_
  rfl
  refine paf_c ?_ ?_ ?_
  exact (pef_var (pv 0))
  refine paf_c ?_ ?_ ?_
  exact (pef_var (pv 2))
  exact paf_nil
  rfl
  rfl
theorem ok_read_kinds (T : Top K mg) (F_is_kinds : Fn P w K mg base 1 "is_kinds" ["thing"] m_is_kinds) : Fn P w K mg base 2 "read_kinds" ["words"] m_read_kinds := by
  refine (fun h => h : _ → Fn P w K mg base 2 "read_kinds" ["words"] (runB 1 2 b_read_kinds)) (fn_mk (N := ["words", "kinds"]) (k := 1) T.t_read_kinds sc_read_kinds (fun _ _ _ _ _ _ us hl => by obtain ⟨_, rfl⟩ := us1 hl; rfl) ?_)
  intro f cdv A outer s H E hr
  unfold b_read_kinds
  refine pssf_cons ?_ ?_
  refine psf_if ?_ ?_ pssf_nil
  refine ptf_cmp (opf_eq hr.units) (pef_var (pv 0)) ?_ (nomark _)
  refine pef_lst ?_
  refine paf_c ?_ ?_ ?_
  exact pef_str
  exact paf_nil
  rfl
  refine pssf_cons ?_ pssf_nil
  refine psf_ret ?_
  exact pef_tup paf_nil
  refine pssf_cons ?_ ?_
  refine psf_set (i := 1) ?_ ?_ ?_ ?_
  exact sc_read_kinds.nd
  rfl
  first | exact Or.inl rfl | exact Or.inr rfl
  refine pef_callTy callf_tuple ?_ T.n_tuple bb_tuple ?_
  rfl
  refine paf_c ?_ ?_ ?_
  exact (pef_var (pv 0))
  exact paf_nil
  rfl
  refine pssf_cons ?_ pssf_nil
  refine psf_ret ?_
  refine pef_if ?_ (pef_var (pv 1)) pef_non
  refine PWf.pt ?_
  refine pwf_and ?_ ?_
  exact ptf_truth (pef_var (pv 1)) (fun _ => rfl)
  refine pwf_and1 ?_
  refine ptf_truth ?_ (fun _ => rfl)
  refine pef_fn F_is_kinds (hr.mono (by decide)) ?_ ?_
  rfl
  refine paf_c ?_ ?_ ?_
  exact (pef_var (pv 1))
  exact paf_nil
  rfl
theorem ok_read_claim (T : Top K mg) (F_read_row : Fn P w K mg base 3 "read_row" ["many", "words"] m_read_row) (F_read_kinds : Fn P w K mg base 2 "read_kinds" ["words"] m_read_kinds) : Fn P w K mg base 4 "read_claim" ["text"] m_read_claim := by
  refine (fun h => h : _ → Fn P w K mg base 4 "read_claim" ["text"] (runB 1 8 b_read_claim)) (fn_mk (N := ["text", "lines", "ended", "kinds", "rows", "number", "line", "row"]) (k := 3) T.t_read_claim sc_read_claim (fun _ _ _ _ _ _ us hl => by obtain ⟨_, rfl⟩ := us1 hl; rfl) ?_)
  intro f cdv A outer s H E hr
  unfold b_read_claim
  refine pssf_cons ?_ ?_
  refine psf_set (i := 1) ?_ ?_ ?_ ?_
  exact sc_read_claim.nd
  rfl
  first | exact Or.inl rfl | exact Or.inr rfl
  refine pef_sm PySem.F.slot_str_split PySem.F.type_str_split mtf_split (pef_var (pv 0)) ?_
  refine paf_c ?_ ?_ ?_
  exact pef_str
  exact paf_nil
  rfl
  refine pssf_cons ?_ ?_
  refine psf_set (i := 2) ?_ ?_ ?_ ?_
  exact sc_read_claim.nd
  rfl
  first | exact Or.inl rfl | exact Or.inr rfl
  refine pef_slice (pef_var (pv 1)) pof_none ?_
  refine pof_some ?_
  exact pef_un unf_neg pef_int
  refine pssf_cons ?_ ?_
  refine psf_set (i := 3) ?_ ?_ ?_ ?_
  exact sc_read_claim.nd
  rfl
  first | exact Or.inl rfl | exact Or.inr rfl
  refine pef_if ?_ ?_ pef_non
  exact ptf_truth (pef_var (pv 2)) (fun _ => rfl)
  refine pef_fn F_read_kinds (hr.mono (by decide)) ?_ ?_
  rfl
  refine paf_c ?_ ?_ ?_
  refine pef_sm PySem.F.slot_str_split PySem.F.type_str_split mtf_split ?_ ?_
  exact pef_ix ixf (pef_var (pv 2)) pef_int (fun _ _ => rfl)
  refine paf_c ?_ ?_ ?_
  exact pef_str
  exact paf_nil
  rfl
  exact paf_nil
  rfl
  refine pssf_cons ?_ ?_
  refine psf_if ?_ ?_ pssf_nil
  exact ptf_cmp opf_is (pef_var (pv 3)) pef_non (nomark _)
  exact pssf_cons psf_err pssf_nil
  refine pssf_cons ?_ ?_
  refine psf_set (i := 4) ?_ ?_ ?_ ?_
  exact sc_read_claim.nd
  rfl
  first | exact Or.inl rfl | exact Or.inr rfl
  exact pef_lst paf_nil
  refine pssf_cons ?_ ?_
  refine psf_for PassesOwn.never ?_ ?_ ?_ ?_
  rfl
  refine pif_enumL1 ?_ T.n_enumerate ?_
  rfl
  refine paf_c ?_ ?_ ?_
  refine pef_slice (pef_var (pv 2)) ?_ pof_none
  exact pof_some pef_int
  exact paf_nil
  rfl
  refine pgf_tup ?_ ?_
  rfl
  refine pgsf_cons ?_ ?_
  refine pgf_name (i := 5) ?_ ?_ ?_
  exact sc_read_claim.nd
  rfl
  first | exact Or.inl rfl | exact Or.inr rfl
  refine pgsf_cons ?_ pgsf_nil
  refine pgf_name (i := 6) ?_ ?_ ?_
  exact sc_read_claim.nd
  rfl
  first | exact Or.inl rfl | exact Or.inr rfl
  refine pssf_cons ?_ ?_
  refine psf_set (i := 7) ?_ ?_ ?_ ?_
  exact sc_read_claim.nd
  rfl
  first | exact Or.inl rfl | exact Or.inr rfl
  refine pef_fn F_read_row (hr.mono (by decide)) ?_ ?_
  rfl
  refine paf_c ?_ ?_ ?_
  refine pef_callB callf_len ?_ T.n_len bb_len ?_
  rfl
  refine paf_c ?_ ?_ ?_
  exact (pef_var (pv 3))
  exact paf_nil
  rfl
  refine paf_c ?_ ?_ ?_
  refine pef_sm PySem.F.slot_str_split PySem.F.type_str_split mtf_split (pef_var (pv 6)) ?_
  refine paf_c ?_ ?_ ?_
  exact pef_str
  exact paf_nil
  rfl
  exact paf_nil
  rfl
  rfl
  refine pssf_cons ?_ ?_
  refine psf_if ?_ ?_ pssf_nil
  refine PWf.pt ?_
  refine pwf_or ?_ ?_
  exact ptf_cmp opf_is (pef_var (pv 7)) pef_non (nomark _)
  refine pwf_or1 ?_
  refine ptf_cmp opf_gt (pef_var (pv 5)) ?_ (nomark _)
  refine pef_gc ?_ T.c_MOST_ROWS
  rfl
  exact pssf_cons psf_err pssf_nil
  refine pssf_cons ?_ pssf_nil
  refine psf_expr ?_
  refine pef_lm PySem.F.slot_list_append PySem.F.type_list_append mtf_append (pef_var (pv 4)) ?_
  refine paf_c ?_ ?_ ?_
  exact (pef_var (pv 7))
  exact paf_nil
  rfl
  refine pssf_cons ?_ ?_
  refine psf_if ?_ ?_ pssf_nil
  refine ptf_cmp (opf_ne hr.units) ?_ pef_str (nomark _)
  refine pef_ix ixf (pef_var (pv 1)) ?_ (fun _ _ => rfl)
  exact pef_un unf_neg pef_int
  exact pssf_cons psf_err pssf_nil
  refine pssf_cons ?_ pssf_nil
  refine psf_ret ?_
  refine pef_tup ?_
  refine paf_c ?_ ?_ ?_
  exact (pef_var (pv 3))
  refine paf_c ?_ ?_ ?_
  refine pef_callTy callf_tuple ?_ T.n_tuple bb_tuple ?_
  rfl
  refine paf_c ?_ ?_ ?_
  exact (pef_var (pv 4))
  exact paf_nil
  rfl
  exact paf_nil
  rfl
  rfl
theorem oky_read_claim (T : Top K mg) (F_read_row : Fn P w K mg base 3 "read_row" ["many", "words"] m_read_row) (F_read_kinds : Fn P w K mg base 2 "read_kinds" ["words"] m_read_kinds) (RI_NoText : YRs P w K mg base "NoText" "line" 1) : FnY P w K mg base 4 "read_claim" ["text"] "NoText" (some "line") y_read_claim := by
  refine (fun h => h : _ → FnY P w K mg base 4 "read_claim" ["text"] "NoText" (some "line") (runY 1 8 yb_read_claim)) (fy_mk (N := ["text", "lines", "ended", "kinds", "rows", "number", "line", "row"]) (k := 3) T.t_read_claim sc_read_claim (fun _ _ _ _ _ _ us hl => by obtain ⟨_, rfl⟩ := us1 hl; rfl) ?_)
  intro C hE f cdv A outer s H E hr
  unfold yb_read_claim
  refine pyn_cons ?_ ?_
  refine psf_set (i := 1) ?_ ?_ ?_ ?_
  exact sc_read_claim.nd
  rfl
  first | exact Or.inl rfl | exact Or.inr rfl
  refine pef_sm PySem.F.slot_str_split PySem.F.type_str_split mtf_split (pef_var (pv 0)) ?_
  refine paf_c ?_ ?_ ?_
  exact pef_str
  exact paf_nil
  rfl
  refine pyn_cons ?_ ?_
  refine psf_set (i := 2) ?_ ?_ ?_ ?_
  exact sc_read_claim.nd
  rfl
  first | exact Or.inl rfl | exact Or.inr rfl
  refine pef_slice (pef_var (pv 1)) pof_none ?_
  refine pof_some ?_
  exact pef_un unf_neg pef_int
  refine pyn_cons ?_ ?_
  refine psf_set (i := 3) ?_ ?_ ?_ ?_
  exact sc_read_claim.nd
  rfl
  first | exact Or.inl rfl | exact Or.inr rfl
  refine pef_if ?_ ?_ pef_non
  exact ptf_truth (pef_var (pv 2)) (fun _ => rfl)
  refine pef_fn F_read_kinds (hr.mono (by decide)) ?_ ?_
  rfl
  refine paf_c ?_ ?_ ?_
  refine pef_sm PySem.F.slot_str_split PySem.F.type_str_split mtf_split ?_ ?_
  exact pef_ix ixf (pef_var (pv 2)) pef_int (fun _ _ => rfl)
  refine paf_c ?_ ?_ ?_
  exact pef_str
  exact paf_nil
  rfl
  exact paf_nil
  rfl
  refine pyn_ei ?_ ?_ ?_
  refine psf_if ?_ ?_ pssf_nil
  exact ptf_cmp opf_is (pef_var (pv 3)) pef_non (nomark _)
  exact pssf_cons psf_err pssf_nil
  refine pyn_if ?_ ?_ py_no
  exact ptf_cmp opf_is (pef_var (pv 3)) pef_non (nomark _)
  refine py_fst ?_
  refine pyn_raise (k := 1) ?_ ?_ ?_ ?_ ?_
  exact RI_NoText
  exact hE
  rfl
  exact hr.mono (by decide)
  exact paf_cons pef_int paf_nil
  refine pyn_cons ?_ ?_
  refine psf_set (i := 4) ?_ ?_ ?_ ?_
  exact sc_read_claim.nd
  rfl
  first | exact Or.inl rfl | exact Or.inr rfl
  exact pef_lst paf_nil
  refine pyn_ei ?_ ?_ ?_
  refine psf_for PassesOwn.never ?_ ?_ ?_ ?_
  rfl
  refine pif_enumL1 ?_ T.n_enumerate ?_
  rfl
  refine paf_c ?_ ?_ ?_
  refine pef_slice (pef_var (pv 2)) ?_ pof_none
  exact pof_some pef_int
  exact paf_nil
  rfl
  refine pgf_tup ?_ ?_
  rfl
  refine pgsf_cons ?_ ?_
  refine pgf_name (i := 5) ?_ ?_ ?_
  exact sc_read_claim.nd
  rfl
  first | exact Or.inl rfl | exact Or.inr rfl
  refine pgsf_cons ?_ pgsf_nil
  refine pgf_name (i := 6) ?_ ?_ ?_
  exact sc_read_claim.nd
  rfl
  first | exact Or.inl rfl | exact Or.inr rfl
  refine pssf_cons ?_ ?_
  refine psf_set (i := 7) ?_ ?_ ?_ ?_
  exact sc_read_claim.nd
  rfl
  first | exact Or.inl rfl | exact Or.inr rfl
  refine pef_fn F_read_row (hr.mono (by decide)) ?_ ?_
  rfl
  refine paf_c ?_ ?_ ?_
  refine pef_callB callf_len ?_ T.n_len bb_len ?_
  rfl
  refine paf_c ?_ ?_ ?_
  exact (pef_var (pv 3))
  exact paf_nil
  rfl
  refine paf_c ?_ ?_ ?_
  refine pef_sm PySem.F.slot_str_split PySem.F.type_str_split mtf_split (pef_var (pv 6)) ?_
  refine paf_c ?_ ?_ ?_
  exact pef_str
  exact paf_nil
  rfl
  exact paf_nil
  rfl
  rfl
  refine pssf_cons ?_ ?_
  refine psf_if ?_ ?_ pssf_nil
  refine PWf.pt ?_
  refine pwf_or ?_ ?_
  exact ptf_cmp opf_is (pef_var (pv 7)) pef_non (nomark _)
  refine pwf_or1 ?_
  refine ptf_cmp opf_gt (pef_var (pv 5)) ?_ (nomark _)
  refine pef_gc ?_ T.c_MOST_ROWS
  rfl
  exact pssf_cons psf_err pssf_nil
  refine pssf_cons ?_ pssf_nil
  refine psf_expr ?_
  refine pef_lm PySem.F.slot_list_append PySem.F.type_list_append mtf_append (pef_var (pv 4)) ?_
  refine paf_c ?_ ?_ ?_
  exact (pef_var (pv 7))
  exact paf_nil
  rfl
  refine pyn_for ?_ ?_ ?_ ?_ ?_ ?_
  exact po_cx
  rfl
  refine pif_enumL1 ?_ T.n_enumerate ?_
  rfl
  refine paf_c ?_ ?_ ?_
  refine pef_slice (pef_var (pv 2)) ?_ pof_none
  exact pof_some pef_int
  exact paf_nil
  rfl
  refine pgf_tup ?_ ?_
  rfl
  refine pgsf_cons ?_ ?_
  refine pgf_name (i := 5) ?_ ?_ ?_
  exact sc_read_claim.nd
  rfl
  first | exact Or.inl rfl | exact Or.inr rfl
  refine pgsf_cons ?_ pgsf_nil
  refine pgf_name (i := 6) ?_ ?_ ?_
  exact sc_read_claim.nd
  rfl
  first | exact Or.inl rfl | exact Or.inr rfl
  refine pssf_cons ?_ ?_
  refine psf_set (i := 7) ?_ ?_ ?_ ?_
  exact sc_read_claim.nd
  rfl
  first | exact Or.inl rfl | exact Or.inr rfl
  refine pef_fn F_read_row (hr.mono (by decide)) ?_ ?_
  rfl
  refine paf_c ?_ ?_ ?_
  refine pef_callB callf_len ?_ T.n_len bb_len ?_
  rfl
  refine paf_c ?_ ?_ ?_
  exact (pef_var (pv 3))
  exact paf_nil
  rfl
  refine paf_c ?_ ?_ ?_
  refine pef_sm PySem.F.slot_str_split PySem.F.type_str_split mtf_split (pef_var (pv 6)) ?_
  refine paf_c ?_ ?_ ?_
  exact pef_str
  exact paf_nil
  rfl
  exact paf_nil
  rfl
  rfl
  refine pssf_cons ?_ ?_
  refine psf_if ?_ ?_ pssf_nil
  refine PWf.pt ?_
  refine pwf_or ?_ ?_
  exact ptf_cmp opf_is (pef_var (pv 7)) pef_non (nomark _)
  refine pwf_or1 ?_
  refine ptf_cmp opf_gt (pef_var (pv 5)) ?_ (nomark _)
  refine pef_gc ?_ T.c_MOST_ROWS
  rfl
  exact pssf_cons psf_err pssf_nil
  refine pssf_cons ?_ pssf_nil
  refine psf_expr ?_
  refine pef_lm PySem.F.slot_list_append PySem.F.type_list_append mtf_append (pef_var (pv 4)) ?_
  refine paf_c ?_ ?_ ?_
  exact (pef_var (pv 7))
  exact paf_nil
  rfl
  refine pyn_cons ?_ ?_
  refine psf_set (i := 7) ?_ ?_ ?_ ?_
  exact sc_read_claim.nd
  rfl
  first | exact Or.inl rfl | exact Or.inr rfl
  refine pef_fn F_read_row (hr.mono (by decide)) ?_ ?_
  rfl
  refine paf_c ?_ ?_ ?_
  refine pef_callB callf_len ?_ T.n_len bb_len ?_
  rfl
  refine paf_c ?_ ?_ ?_
  exact (pef_var (pv 3))
  exact paf_nil
  rfl
  refine paf_c ?_ ?_ ?_
  refine pef_sm PySem.F.slot_str_split PySem.F.type_str_split mtf_split (pef_var (pv 6)) ?_
  refine paf_c ?_ ?_ ?_
  exact pef_str
  exact paf_nil
  rfl
  exact paf_nil
  rfl
  rfl
  refine py_fst ?_
  refine pyn_if ?_ ?_ py_no
  refine PWf.pt ?_
  refine pwf_or ?_ ?_
  exact ptf_cmp opf_is (pef_var (pv 7)) pef_non (nomark _)
  refine pwf_or1 ?_
  refine ptf_cmp opf_gt (pef_var (pv 5)) ?_ (nomark _)
  refine pef_gc ?_ T.c_MOST_ROWS
  rfl
  refine py_fst ?_
  refine pyn_raise (k := 1) ?_ ?_ ?_ ?_ ?_
  exact RI_NoText
  exact hE
  rfl
  exact hr.mono (by decide)
  exact paf_cons (pef_var (pv 5)) paf_nil
  refine py_fst ?_
  refine pyn_if ?_ ?_ py_no
  refine ptf_cmp (opf_ne hr.units) ?_ pef_str (nomark _)
  refine pef_ix ixf (pef_var (pv 1)) ?_ (fun _ _ => rfl)
  exact pef_un unf_neg pef_int
  refine py_fst ?_
  refine pyn_raise (k := 1) ?_ ?_ ?_ ?_ ?_
  exact RI_NoText
  exact hE
  rfl
  exact hr.mono (by decide)
  refine paf_cons ?_ paf_nil
  refine pef_callB callf_len ?_ T.n_len bb_len ?_
  rfl
  refine paf_c ?_ ?_ ?_
  exact (pef_var (pv 2))
  exact paf_nil
  rfl
theorem ok_law_mix (T : Top K mg) : Fn P w K mg base 1 "_law_mix" ["cell", "k"] m_law_mix := by
  refine (fun h => h : _ → Fn P w K mg base 1 "_law_mix" ["cell", "k"] (runB 2 4 b_law_mix)) (fn_mk (N := ["cell", "k", "prime", "one"]) (k := 0) T.t_law_mix sc_law_mix (fun _ _ _ _ _ _ us hl => by obtain ⟨_, _, rfl⟩ := us2 hl; rfl) ?_)
  intro f cdv A outer s H E hr
  unfold b_law_mix
  refine pssf_cons ?_ ?_
  refine psf_set (i := 2) ?_ ?_ ?_ ?_
  exact sc_law_mix.nd
  rfl
  first | exact Or.inl rfl | exact Or.inr rfl
  refine pef_ix ixf ?_ ?_ (fun _ _ => rfl)
  refine pef_lst ?_
  refine paf_c ?_ ?_ ?_
  exact pef_int
  refine paf_c ?_ ?_ ?_
  exact pef_int
  refine paf_c ?_ ?_ ?_
  exact pef_int
  refine paf_c ?_ ?_ ?_
  exact pef_int
  refine paf_c ?_ ?_ ?_
  exact pef_int
  refine paf_c ?_ ?_ ?_
  exact pef_int
  refine paf_c ?_ ?_ ?_
  exact pef_int
  exact paf_nil
  rfl
  rfl
  rfl
  rfl
  rfl
  rfl
  rfl
  exact pef_op opf_mod (pef_var (pv 1)) pef_int
  refine pssf_cons ?_ ?_
  refine psf_set (i := 3) ?_ ?_ ?_ ?_
  exact sc_law_mix.nd
  rfl
  first | exact Or.inl rfl | exact Or.inr rfl
  refine pef_op opf_mod ?_ (pef_var (pv 2))
  refine pef_op opf_mul ?_ ?_
  refine pef_op opf_add ?_ ?_
  exact pef_op opf_mod (pef_var (pv 0)) pef_int
  refine pef_op opf_mul pef_int ?_
  exact pef_op opf_add (pef_var (pv 1)) pef_int
  refine pef_op opf_add ?_ pef_int
  refine pef_op opf_add ?_ ?_
  exact pef_op opf_mul (pef_var (pv 1)) (pef_var (pv 1))
  exact pef_op opf_mul pef_int (pef_var (pv 1))
  refine pssf_cons ?_ ?_
  refine psf_set (i := 3) ?_ ?_ ?_ ?_
  exact sc_law_mix.nd
  rfl
  first | exact Or.inl rfl | exact Or.inr rfl
  refine pef_op opf_mod ?_ pef_int
  exact pef_op opf_pow (pef_var (pv 3)) pef_int
  refine pssf_cons ?_ ?_
  refine psf_set (i := 3) ?_ ?_ ?_ ?_
  exact sc_law_mix.nd
  rfl
  first | exact Or.inl rfl | exact Or.inr rfl
  refine pef_op opf_mod ?_ (pef_var (pv 2))
  refine pef_op opf_add ?_ pef_int
  refine pef_op opf_add ?_ ?_
  exact pef_op opf_mul (pef_var (pv 3)) pef_int
  exact pef_op opf_mul pef_int (pef_var (pv 1))
  refine pssf_cons ?_ pssf_nil
  refine psf_ret ?_
  refine pef_op opf_fdiv ?_ pef_int
  refine pef_op opf_mod ?_ pef_int
  exact pef_op opf_pow (pef_var (pv 3)) pef_int
theorem ok_law_digits (T : Top K mg) (F_law_mix : Fn P w K mg base 1 "_law_mix" ["cell", "k"] m_law_mix) : Fn P w K mg base 2 "_law_digits" ["cell", "many"] m_law_digits := by
  refine (fun h => h : _ → Fn P w K mg base 2 "_law_digits" ["cell", "many"] (runB 2 6 b_law_digits)) (fn_mk (N := ["cell", "many", "found", "left_over", "wide", "k"]) (k := 1) T.t_law_digits sc_law_digits (fun _ _ _ _ _ _ us hl => by obtain ⟨_, _, rfl⟩ := us2 hl; rfl) ?_)
  intro f cdv A outer s H E hr
  unfold b_law_digits
  refine pssf_cons ?_ ?_
  refine psf_set (i := 2) ?_ ?_ ?_ ?_
  exact sc_law_digits.nd
  rfl
  first | exact Or.inl rfl | exact Or.inr rfl
  exact pef_lst paf_nil
  refine pssf_cons ?_ ?_
  refine psf_set (i := 3) ?_ ?_ ?_ ?_
  exact sc_law_digits.nd
  rfl
  first | exact Or.inl rfl | exact Or.inr rfl
  refine pef_callB callf_abs ?_ T.n_abs bb_abs ?_
  rfl
  refine paf_c ?_ ?_ ?_
  exact (pef_var (pv 0))
  exact paf_nil
  rfl
  refine pssf_cons ?_ ?_
  refine psf_set (i := 4) ?_ ?_ ?_ ?_
  exact sc_law_digits.nd
  rfl
  first | exact Or.inl rfl | exact Or.inr rfl
  refine pef_cmp opf_ge (pef_var (pv 3)) ?_ (nomark _)
  exact pef_op opf_pow pef_int pef_int
  refine pssf_cons ?_ ?_
  refine psf_for PassesOwn.never ?_ ?_ ?_ ?_
  rfl
  refine pif_range1 ?_ T.n_range ?_
  rfl
  refine paf_c ?_ ?_ ?_
  exact (pef_var (pv 1))
  exact paf_nil
  rfl
  refine pgf_name (i := 5) ?_ ?_ ?_
  exact sc_law_digits.nd
  rfl
  first | exact Or.inl rfl | exact Or.inr rfl
  refine pssf_cons ?_ pssf_nil
  refine psf_if ?_ ?_ ?_
  refine PWf.pt ?_
  refine pwf_and ?_ ?_
  exact ptf_truth (pef_var (pv 4)) (fun _ => rfl)
  refine pwf_and1 ?_
  exact ptf_cmp opf_gt (pef_var (pv 3)) pef_int (nomark _)
  refine pssf_cons ?_ ?_
  refine psf_expr ?_
  refine pef_lm PySem.F.slot_list_append PySem.F.type_list_append mtf_append (pef_var (pv 2)) ?_
  refine paf_c ?_ ?_ ?_
  exact pef_op opf_mod (pef_var (pv 3)) pef_int
  exact paf_nil
  rfl
  refine pssf_cons ?_ pssf_nil
  refine psf_set (i := 3) ?_ ?_ ?_ ?_
  exact sc_law_digits.nd
  rfl
  first | exact Or.inl rfl | exact Or.inr rfl
  exact pef_op opf_fdiv (pef_var (pv 3)) pef_int
  refine pssf_cons ?_ pssf_nil
  refine psf_expr ?_
  refine pef_lm PySem.F.slot_list_append PySem.F.type_list_append mtf_append (pef_var (pv 2)) ?_
  refine paf_c ?_ ?_ ?_
  refine pef_fn F_law_mix (hr.mono (by decide)) ?_ ?_
  rfl
  refine paf_c ?_ ?_ ?_
  exact (pef_var (pv 0))
  refine paf_c ?_ ?_ ?_
  exact (pef_var (pv 5))
  exact paf_nil
  rfl
  rfl
  exact paf_nil
  rfl
  refine pssf_cons ?_ pssf_nil
  exact psf_ret (pef_var (pv 2))
theorem ok_law_at (T : Top K mg) : Fn P w K mg base 1 "_law_at" ["script", "k"] m_law_at := by
  refine (fun h => h : _ → Fn P w K mg base 1 "_law_at" ["script", "k"] (runB 2 2 b_law_at)) (fn_mk (N := ["script", "k"]) (k := 0) T.t_law_at sc_law_at (fun _ _ _ _ _ _ us hl => by obtain ⟨_, _, rfl⟩ := us2 hl; rfl) ?_)
  intro f cdv A outer s H E hr
  unfold b_law_at
  refine pssf_cons ?_ ?_
  refine psf_if ?_ ?_ pssf_nil
  refine ptf_cmp opf_lt (pef_var (pv 1)) ?_ (nomark _)
  refine pef_callB callf_len ?_ T.n_len bb_len ?_
  rfl
  refine paf_c ?_ ?_ ?_
  exact (pef_var (pv 0))
  exact paf_nil
  rfl
  refine pssf_cons ?_ pssf_nil
  refine psf_ret ?_
  exact pef_ix ixf (pef_var (pv 0)) (pef_var (pv 1)) (fun _ _ => rfl)
  refine pssf_cons ?_ pssf_nil
  refine psf_ret ?_
  refine pef_op opf_add ?_ ?_
  refine pef_op opf_add ?_ pef_int
  exact pef_op opf_mul pef_int (pef_var (pv 1))
  refine pef_callB callf_len ?_ T.n_len bb_len ?_
  rfl
  refine paf_c ?_ ?_ ?_
  exact (pef_var (pv 0))
  exact paf_nil
  rfl
theorem ok_law_kinds (T : Top K mg) : Fn P w K mg base 1 "_law_kinds" ["some", "many"] m_law_kinds := by
  refine (fun h => h : _ → Fn P w K mg base 1 "_law_kinds" ["some", "many"] (runB 2 5 b_law_kinds)) (fn_mk (N := ["some", "many", "found", "k", "kind"]) (k := 0) T.t_law_kinds sc_law_kinds (fun _ _ _ _ _ _ us hl => by obtain ⟨_, _, rfl⟩ := us2 hl; rfl) ?_)
  intro f cdv A outer s H E hr
  unfold b_law_kinds
  refine pssf_cons ?_ ?_
  refine psf_set (i := 2) ?_ ?_ ?_ ?_
  exact sc_law_kinds.nd
  rfl
  first | exact Or.inl rfl | exact Or.inr rfl
  exact pef_lst paf_nil
  refine pssf_cons ?_ ?_
  refine psf_for PassesOwn.never ?_ ?_ ?_ ?_
  rfl
  refine pif_range1 ?_ T.n_range ?_
  rfl
  refine paf_c ?_ ?_ ?_
  exact (pef_var (pv 1))
  exact paf_nil
  rfl
  refine pgf_name (i := 3) ?_ ?_ ?_
  exact sc_law_kinds.nd
  rfl
  first | exact Or.inl rfl | exact Or.inr rfl
  refine pssf_cons ?_ ?_
  refine psf_set (i := 4) ?_ ?_ ?_ ?_
  exact sc_law_kinds.nd
  rfl
  first | exact Or.inl rfl | exact Or.inr rfl
  refine pef_ix ixf ?_ ?_ (fun _ _ => rfl)
  refine pef_lst ?_
  refine paf_c ?_ ?_ ?_
  exact pef_str
  refine paf_c ?_ ?_ ?_
  exact pef_str
  exact paf_nil
  rfl
  rfl
  refine pef_op opf_mod ?_ pef_int
  refine pef_ix ixf (pef_var (pv 0)) ?_ (fun _ _ => rfl)
  exact pef_op opf_add pef_int (pef_var (pv 3))
  refine pssf_cons ?_ ?_
  refine psf_if ?_ ?_ pssf_nil
  refine ptf_cmp (opf_eq hr.units) ?_ pef_int (nomark _)
  refine pef_op opf_mod ?_ pef_int
  exact pef_ix ixf (pef_var (pv 0)) pef_int (fun _ _ => rfl)
  refine pssf_cons ?_ pssf_nil
  refine psf_set (i := 4) ?_ ?_ ?_ ?_
  exact sc_law_kinds.nd
  rfl
  first | exact Or.inl rfl | exact Or.inr rfl
  refine pef_ix ixf ?_ ?_ (fun _ _ => rfl)
  refine pef_lst ?_
  refine paf_c ?_ ?_ ?_
  exact pef_str
  refine paf_c ?_ ?_ ?_
  exact pef_str
  exact paf_nil
  rfl
  rfl
  refine pef_op opf_mod ?_ pef_int
  refine pef_op opf_add (pef_var (pv 3)) ?_
  exact pef_ix ixf (pef_var (pv 0)) pef_int (fun _ _ => rfl)
  refine pssf_cons ?_ ?_
  refine psf_if ?_ ?_ pssf_nil
  refine ptf_cmp (opf_eq hr.units) ?_ pef_int (nomark _)
  refine pef_op opf_mod ?_ pef_int
  exact pef_ix ixf (pef_var (pv 0)) pef_int (fun _ _ => rfl)
  refine pssf_cons ?_ pssf_nil
  refine psf_set (i := 4) ?_ ?_ ?_ ?_
  exact sc_law_kinds.nd
  rfl
  first | exact Or.inl rfl | exact Or.inr rfl
  refine pef_ix ixf ?_ ?_ (fun _ _ => rfl)
  refine pef_lst ?_
  refine paf_c ?_ ?_ ?_
  exact pef_str
  refine paf_c ?_ ?_ ?_
  exact pef_str
  exact paf_nil
  rfl
  rfl
  refine pef_callTy callf_int ?_ T.n_int bb_int ?_
  rfl
  refine paf_c ?_ ?_ ?_
  refine pef_cmp opf_gt ?_ pef_int (nomark _)
  refine pef_op opf_mod ?_ pef_int
  refine pef_ix ixf (pef_var (pv 0)) ?_ (fun _ _ => rfl)
  exact pef_op opf_add pef_int (pef_var (pv 3))
  exact paf_nil
  rfl
  refine pssf_cons ?_ pssf_nil
  refine psf_expr ?_
  refine pef_lm PySem.F.slot_list_append PySem.F.type_list_append mtf_append (pef_var (pv 2)) ?_
  refine paf_c ?_ ?_ ?_
  exact (pef_var (pv 4))
  exact paf_nil
  rfl
  refine pssf_cons ?_ pssf_nil
  refine psf_ret ?_
  refine pef_callTy callf_tuple ?_ T.n_tuple bb_tuple ?_
  rfl
  refine paf_c ?_ ?_ ?_
  exact (pef_var (pv 2))
  exact paf_nil
  rfl
theorem ok_law_row (T : Top K mg) (F_law_digits : Fn P w K mg base 2 "_law_digits" ["cell", "many"] m_law_digits) : Fn P w K mg base 3 "_law_row" ["cell", "many", "wide"] m_law_row := by
  refine (fun h => h : _ → Fn P w K mg base 3 "_law_row" ["cell", "many", "wide"] (runB 3 6 b_law_row)) (fn_mk (N := ["cell", "many", "wide", "some", "found", "k"]) (k := 2) T.t_law_row sc_law_row (fun _ _ _ _ _ _ us hl => by obtain ⟨_, _, _, rfl⟩ := us3 hl; rfl) ?_)
  intro f cdv A outer s H E hr
  unfold b_law_row
  refine pssf_cons ?_ ?_
  refine psf_set (i := 3) ?_ ?_ ?_ ?_
  exact sc_law_row.nd
  rfl
  first | exact Or.inl rfl | exact Or.inr rfl
  refine pef_fn F_law_digits (hr.mono (by decide)) ?_ ?_
  rfl
  refine paf_c ?_ ?_ ?_
  exact (pef_var (pv 0))
  refine paf_c ?_ ?_ ?_
  exact pef_op opf_add (pef_var (pv 1)) pef_int
  exact paf_nil
  rfl
  rfl
  refine pssf_cons ?_ ?_
  refine psf_set (i := 4) ?_ ?_ ?_ ?_
  exact sc_law_row.nd
  rfl
  first | exact Or.inl rfl | exact Or.inr rfl
  exact pef_lst paf_nil
  refine pssf_cons ?_ ?_
  refine psf_for PassesOwn.never ?_ ?_ ?_ ?_
  rfl
  refine pif_range1 ?_ T.n_range ?_
  rfl
  refine paf_c ?_ ?_ ?_
  exact (pef_var (pv 1))
  exact paf_nil
  rfl
  refine pgf_name (i := 5) ?_ ?_ ?_
  exact sc_law_row.nd
  rfl
  first | exact Or.inl rfl | exact Or.inr rfl
  refine pssf_cons ?_ pssf_nil
  refine psf_if ?_ ?_ pssf_nil
  refine ptf_cmp opf_lt ?_ ?_ (nomark _)
  refine pef_op opf_mod ?_ ?_
  refine pef_ix ixf (pef_var (pv 3)) ?_ (fun _ _ => rfl)
  exact pef_op opf_add pef_int (pef_var (pv 5))
  exact pef_op opf_add (pef_var (pv 1)) pef_int
  refine pef_op opf_add (pef_var (pv 2)) ?_
  refine pef_op opf_mod ?_ pef_int
  exact pef_ix ixf (pef_var (pv 3)) pef_int (fun _ _ => rfl)
  refine pssf_cons ?_ pssf_nil
  refine psf_expr ?_
  refine pef_lm PySem.F.slot_list_append PySem.F.type_list_append mtf_append (pef_var (pv 4)) ?_
  refine paf_c ?_ ?_ ?_
  refine pef_ix ixf ?_ ?_ (fun _ _ => rfl)
  refine pef_lst ?_
  refine paf_c ?_ ?_ ?_
  exact pef_op opf_add (pef_var (pv 5)) pef_int
  refine paf_c ?_ ?_ ?_
  refine pef_op opf_sub ?_ pef_int
  exact pef_op opf_sub pef_int (pef_var (pv 5))
  exact paf_nil
  rfl
  rfl
  refine pef_op opf_mod ?_ pef_int
  refine pef_op opf_fdiv ?_ ?_
  refine pef_ix ixf (pef_var (pv 3)) ?_ (fun _ _ => rfl)
  exact pef_op opf_add pef_int (pef_var (pv 5))
  exact pef_op opf_add (pef_var (pv 1)) pef_int
  exact paf_nil
  rfl
  refine pssf_cons ?_ pssf_nil
  refine psf_ret ?_
  refine pef_callTy callf_tuple ?_ T.n_tuple bb_tuple ?_
  rfl
  refine paf_c ?_ ?_ ?_
  exact (pef_var (pv 4))
  exact paf_nil
  rfl
theorem ok_law_claim (T : Top K mg) (F_law_row : Fn P w K mg base 3 "_law_row" ["cell", "many", "wide"] m_law_row) (F_law_at : Fn P w K mg base 1 "_law_at" ["script", "k"] m_law_at) (F_law_kinds : Fn P w K mg base 1 "_law_kinds" ["some", "many"] m_law_kinds) (F_law_digits : Fn P w K mg base 2 "_law_digits" ["cell", "many"] m_law_digits) : Fn P w K mg base 4 "_law_claim" ["script", "most"] m_law_claim := by
  refine (fun h => h : _ → Fn P w K mg base 4 "_law_claim" ["script", "most"] (runB 2 7 b_law_claim)) (fn_mk (N := ["script", "most", "some", "many", "kinds", "size", "rows"]) (k := 3) T.t_law_claim sc_law_claim (fun _ _ _ _ _ _ us hl => by obtain ⟨_, _, rfl⟩ := us2 hl; rfl) ?_)
  intro f cdv A outer s H E hr
  unfold b_law_claim
  refine pssf_cons ?_ ?_
  refine psf_set (i := 2) ?_ ?_ ?_ ?_
  exact sc_law_claim.nd
  rfl
  first | exact Or.inl rfl | exact Or.inr rfl
  refine pef_fn F_law_digits (hr.mono (by decide)) ?_ ?_
  rfl
  refine paf_c ?_ ?_ ?_
  refine pef_fn F_law_at (hr.mono (by decide)) ?_ ?_
  rfl
  refine paf_c ?_ ?_ ?_
  exact (pef_var (pv 0))
  refine paf_c ?_ ?_ ?_
  exact pef_int
  exact paf_nil
  rfl
  rfl
  refine paf_c ?_ ?_ ?_
  exact pef_int
  exact paf_nil
  rfl
  rfl
  refine pssf_cons ?_ ?_
  refine psf_set (i := 3) ?_ ?_ ?_ ?_
  exact sc_law_claim.nd
  rfl
  first | exact Or.inl rfl | exact Or.inr rfl
  refine pef_ix ixf ?_ ?_ (fun _ _ => rfl)
  refine pef_lst ?_
  refine paf_c ?_ ?_ ?_
  refine pef_op opf_mod ?_ ?_
  exact pef_ix ixf (pef_var (pv 2)) pef_int (fun _ _ => rfl)
  exact pef_op opf_add (pef_var (pv 1)) pef_int
  refine paf_c ?_ ?_ ?_
  refine pef_op opf_sub (pef_var (pv 1)) ?_
  refine pef_op opf_mod ?_ pef_int
  exact pef_ix ixf (pef_var (pv 2)) pef_int (fun _ _ => rfl)
  refine paf_c ?_ ?_ ?_
  exact (pef_var (pv 1))
  exact paf_nil
  rfl
  rfl
  rfl
  refine pef_op opf_mod ?_ pef_int
  exact pef_ix ixf (pef_var (pv 2)) pef_int (fun _ _ => rfl)
  refine pssf_cons ?_ ?_
  refine psf_set (i := 4) ?_ ?_ ?_ ?_
  exact sc_law_claim.nd
  rfl
  first | exact Or.inl rfl | exact Or.inr rfl
  refine pef_fn F_law_kinds (hr.mono (by decide)) ?_ ?_
  rfl
  refine paf_c ?_ ?_ ?_
  refine pef_slice (pef_var (pv 2)) ?_ pof_none
  exact pof_some pef_int
  refine paf_c ?_ ?_ ?_
  refine pef_callB (callf_max (by rfl)) ?_ T.n_max bb_max ?_
  rfl
  refine paf_c ?_ ?_ ?_
  exact pef_int
  refine paf_c ?_ ?_ ?_
  exact (pef_var (pv 3))
  exact paf_nil
  rfl
  rfl
  exact paf_nil
  rfl
  rfl
  refine pssf_cons ?_ ?_
  refine psf_set (i := 5) ?_ ?_ ?_ ?_
  exact sc_law_claim.nd
  rfl
  first | exact Or.inl rfl | exact Or.inr rfl
  refine pef_ix ixf ?_ ?_ (fun _ _ => rfl)
  refine pef_lst ?_
  refine paf_c ?_ ?_ ?_
  refine pef_op opf_mod ?_ pef_int
  exact pef_ix ixf (pef_var (pv 2)) pef_int (fun _ _ => rfl)
  refine paf_c ?_ ?_ ?_
  refine pef_op opf_mod ?_ pef_int
  exact pef_ix ixf (pef_var (pv 2)) pef_int (fun _ _ => rfl)
  refine paf_c ?_ ?_ ?_
  refine pef_op opf_add pef_int ?_
  refine pef_op opf_mod ?_ pef_int
  exact pef_ix ixf (pef_var (pv 2)) pef_int (fun _ _ => rfl)
  exact paf_nil
  rfl
  rfl
  rfl
  refine pef_op opf_mod ?_ pef_int
  exact pef_ix ixf (pef_var (pv 2)) pef_int (fun _ _ => rfl)
  refine pssf_cons ?_ ?_
  refine psf_lcset (i := 6) (cn := ["script", "kinds"]) ?_ (blk_fn (x := "k") (cn := ["script", "kinds"]) (ci := [0, 4]) (by decide +kernel)) ?_ ?_ ?_ ?_ ?_ ?_
  rfl
  refine pif_range1 ?_ T.n_range ?_
  rfl
  refine paf_c ?_ ?_ ?_
  exact (pef_var (pv 5))
  exact paf_nil
  rfl
  intro _ _ _ _ _ _
  exact ptsf_nil
  intro _ _ _ _ _ _
  refine pef_fn F_law_row (hr.mono (by decide)) ?_ ?_
  rfl
  refine paf_c ?_ ?_ ?_
  refine pef_fn F_law_at (hr.mono (by decide)) ?_ ?_
  rfl
  refine paf_c ?_ ?_ ?_
  exact (pef_var (pv 1))
  refine paf_c ?_ ?_ ?_
  exact pef_op opf_add pef_int (pef_var (pv 0))
  exact paf_nil
  rfl
  rfl
  refine paf_c ?_ ?_ ?_
  refine pef_callB callf_len ?_ T.n_len bb_len ?_
  rfl
  refine paf_c ?_ ?_ ?_
  exact (pef_var (pv 2))
  exact paf_nil
  rfl
  refine paf_c ?_ ?_ ?_
  exact pef_int
  exact paf_nil
  rfl
  rfl
  rfl
  exact sc_law_claim.nd
  rfl
  rfl
  refine pssf_cons ?_ ?_
  refine psf_if ?_ ?_ pssf_nil
  refine ptf_cmp opf_gt ?_ pef_int (nomark _)
  refine pef_op opf_mod ?_ pef_int
  exact pef_ix ixf (pef_var (pv 2)) pef_int (fun _ _ => rfl)
  refine pssf_cons ?_ pssf_nil
  refine psf_lcset (i := 6) (cn := []) ?_ (blk_fn (x := "row") (cn := []) (ci := []) (by decide +kernel)) ?_ ?_ ?_ ?_ ?_ ?_
  rfl
  exact pif_seq (pef_var (pv 6))
  intro _ _ _ _ _ _
  refine ptsf_one ?_
  refine ptf_cmp (opf_ne hr.units) (pef_var (pv 0)) ?_ (nomark _)
  exact pef_tup paf_nil
  intro _ _ _ _ _ _
  exact (pef_var (pv 0))
  exact sc_law_claim.nd
  rfl
  rfl
  refine pssf_cons ?_ pssf_nil
  refine psf_ret ?_
  refine pef_tup ?_
  refine paf_c ?_ ?_ ?_
  exact (pef_var (pv 4))
  refine paf_c ?_ ?_ ?_
  refine pef_callTy callf_tuple ?_ T.n_tuple bb_tuple ?_
  rfl
  refine paf_c ?_ ?_ ?_
  exact (pef_var (pv 6))
  exact paf_nil
  rfl
  exact paf_nil
  rfl
  rfl
theorem ok_law_text (T : Top K mg) : Fn P w K mg base 1 "_law_text" ["claim"] m_law_text := by
  refine (fun h => h : _ → Fn P w K mg base 1 "_law_text" ["claim"] (runB 1 5 b_law_text)) (fn_mk (N := ["claim", "found", "row", "words", "literal"]) (k := 0) T.t_law_text sc_law_text (fun _ _ _ _ _ _ us hl => by obtain ⟨_, rfl⟩ := us1 hl; rfl) ?_)
  intro f cdv A outer s H E hr
  unfold b_law_text
  refine pssf_cons ?_ ?_
  refine psf_set (i := 1) ?_ ?_ ?_ ?_
  exact sc_law_text.nd
  rfl
  first | exact Or.inl rfl | exact Or.inr rfl
  refine pef_sm PySem.F.slot_str_join PySem.F.type_str_join mtf_join pef_str ?_
  refine paf_c ?_ ?_ ?_
  exact pef_ix ixf (pef_var (pv 0)) pef_int (fun _ _ => rfl)
  exact paf_nil
  rfl
  refine pssf_cons ?_ ?_
  refine psf_if ?_ ?_ pssf_nil
  refine ptf_cmp (opf_eq hr.units) ?_ ?_ (nomark _)
  exact pef_ix ixf (pef_var (pv 0)) pef_int (fun _ _ => rfl)
  exact pef_tup paf_nil
  refine pssf_cons ?_ pssf_nil
  refine psf_set (i := 1) ?_ ?_ ?_ pef_str
  exact sc_law_text.nd
  rfl
  first | exact Or.inl rfl | exact Or.inr rfl
  refine pssf_cons ?_ ?_
  refine psf_for PassesOwn.never ?_ ?_ ?_ ?_
  rfl
  refine pif_seq ?_
  exact pef_ix ixf (pef_var (pv 0)) pef_int (fun _ _ => rfl)
  refine pgf_name (i := 2) ?_ ?_ ?_
  exact sc_law_text.nd
  rfl
  first | exact Or.inl rfl | exact Or.inr rfl
  refine pssf_cons ?_ ?_
  refine psf_set (i := 3) ?_ ?_ ?_ ?_
  exact sc_law_text.nd
  rfl
  first | exact Or.inl rfl | exact Or.inr rfl
  exact pef_lst paf_nil
  refine pssf_cons ?_ ?_
  refine psf_for PassesOwn.never ?_ ?_ ?_ ?_
  rfl
  exact pif_seq (pef_var (pv 2))
  refine pgf_name (i := 4) ?_ ?_ ?_
  exact sc_law_text.nd
  rfl
  first | exact Or.inl rfl | exact Or.inr rfl
  refine pssf_cons ?_ pssf_nil
  refine psf_expr ?_
  refine pef_lm PySem.F.slot_list_append PySem.F.type_list_append mtf_append (pef_var (pv 3)) ?_
  refine paf_c ?_ ?_ ?_
  refine pef_op opf_add ?_ ?_
  refine pef_ix ixf ?_ ?_ (fun _ _ => rfl)
  refine pef_lst ?_
  refine paf_c ?_ ?_ ?_
  exact pef_str
  refine paf_c ?_ ?_ ?_
  exact pef_str
  exact paf_nil
  rfl
  rfl
  refine pef_callTy callf_int ?_ T.n_int bb_int ?_
  rfl
  refine paf_c ?_ ?_ ?_
  exact pef_cmp opf_gt (pef_var (pv 4)) pef_int (nomark _)
  exact paf_nil
  rfl
  refine pef_callTy callf_str ?_ T.n_str bb_str ?_
  rfl
  refine paf_c ?_ ?_ ?_
  refine pef_callB callf_abs ?_ T.n_abs bb_abs ?_
  rfl
  refine paf_c ?_ ?_ ?_
  exact (pef_var (pv 4))
  exact paf_nil
  rfl
  exact paf_nil
  rfl
  exact paf_nil
  rfl
  refine pssf_cons ?_ ?_
  refine psf_if ?_ ?_ pssf_nil
  refine ptf_cmp (opf_eq hr.units) (pef_var (pv 2)) ?_ (nomark _)
  exact pef_tup paf_nil
  refine pssf_cons ?_ pssf_nil
  refine psf_set (i := 3) ?_ ?_ ?_ ?_
  exact sc_law_text.nd
  rfl
  first | exact Or.inl rfl | exact Or.inr rfl
  refine pef_lst ?_
  refine paf_c ?_ ?_ ?_
  exact pef_str
  exact paf_nil
  rfl
  refine pssf_cons ?_ pssf_nil
  refine psf_set (i := 1) ?_ ?_ ?_ ?_
  exact sc_law_text.nd
  rfl
  first | exact Or.inl rfl | exact Or.inr rfl
  refine pef_op opf_add ?_ ?_
  exact pef_op opf_add (pef_var (pv 1)) pef_str
  refine pef_sm PySem.F.slot_str_join PySem.F.type_str_join mtf_join pef_str ?_
  refine paf_c ?_ ?_ ?_
  exact (pef_var (pv 3))
  exact paf_nil
  rfl
  refine pssf_cons ?_ pssf_nil
  refine psf_ret ?_
  exact pef_op opf_add (pef_var (pv 1)) pef_str
theorem ok_law_right (T : Top K mg) (F_read_claim : Fn P w K mg base 4 "read_claim" ["text"] m_read_claim) (F_show_claim : Fn P w K mg base 2 "show_claim" ["claim"] m_show_claim) (F_law_text : Fn P w K mg base 1 "_law_text" ["claim"] m_law_text) : Fn P w K mg base 5 "_law_right" ["claim"] m_law_right := by
  refine (fun h => h : _ → Fn P w K mg base 5 "_law_right" ["claim"] (runB 1 6 b_law_right)) (fn_mk (N := ["claim", "text", "turn", "told", "found", "row"]) (k := 4) T.t_law_right sc_law_right (fun _ _ _ _ _ _ us hl => by obtain ⟨_, rfl⟩ := us1 hl; rfl) ?_)
  intro f cdv A outer s H E hr
  unfold b_law_right
  refine pssf_cons ?_ ?_
  refine psf_set (i := 1) ?_ ?_ ?_ ?_
  exact sc_law_right.nd
  rfl
  first | exact Or.inl rfl | exact Or.inr rfl
  refine pef_fn F_law_text (hr.mono (by decide)) ?_ ?_
  rfl
  refine paf_c ?_ ?_ ?_
  exact (pef_var (pv 0))
  exact paf_nil
  rfl
  refine pssf_cons ?_ ?_
  refine psf_for PassesOwn.never ?_ ?_ ?_ ?_
  rfl
  refine pif_range1 ?_ T.n_range ?_
  rfl
  refine paf_c ?_ ?_ ?_
  exact pef_int
  exact paf_nil
  rfl
  refine pgf_name (i := 2) ?_ ?_ ?_
  exact sc_law_right.nd
  rfl
  first | exact Or.inl rfl | exact Or.inr rfl
  refine pssf_cons ?_ ?_
  refine psf_set (i := 3) ?_ ?_ ?_ ?_
  exact sc_law_right.nd
  rfl
  first | exact Or.inl rfl | exact Or.inr rfl
  refine pef_fn F_show_claim (hr.mono (by decide)) ?_ ?_
  rfl
  refine paf_c ?_ ?_ ?_
  exact (pef_var (pv 0))
  exact paf_nil
  rfl
  refine pssf_cons ?_ ?_
  refine psf_if ?_ ?_ pssf_nil
  refine PWf.pt ?_
  refine pwf_or ?_ ?_
  refine ptf_not ?_
  refine ptf_truth ?_ (fun _ => rfl)
  refine pef_callB callf_isi ?_ T.n_isinstance bb_isinstance ?_
  rfl
  refine paf_c ?_ ?_ ?_
  exact (pef_var (pv 3))
  refine paf_c ?_ ?_ ?_
  refine pef_ty ?_ T.n_str bb_str
  rfl
  exact paf_nil
  rfl
  rfl
  refine pwf_or1 ?_
  exact ptf_cmp (opf_ne hr.units) (pef_var (pv 3)) (pef_var (pv 1)) (nomark _)
  refine pssf_cons ?_ pssf_nil
  exact psf_ret pef_bl
  refine pssf_cons ?_ ?_
  refine psf_set (i := 4) ?_ ?_ ?_ ?_
  exact sc_law_right.nd
  rfl
  first | exact Or.inl rfl | exact Or.inr rfl
  refine pef_fn F_read_claim (hr.mono (by decide)) ?_ ?_
  rfl
  refine paf_c ?_ ?_ ?_
  exact (pef_var (pv 1))
  exact paf_nil
  rfl
  refine pssf_cons ?_ ?_
  refine psf_if ?_ ?_ pssf_nil
  refine PWf.pt ?_
  refine pwf_or ?_ ?_
  refine ptf_not ?_
  refine ptf_truth ?_ (fun _ => rfl)
  refine pef_callB callf_isi ?_ T.n_isinstance bb_isinstance ?_
  rfl
  refine paf_c ?_ ?_ ?_
  exact (pef_var (pv 4))
  refine paf_c ?_ ?_ ?_
  refine pef_ty ?_ T.n_tuple bb_tuple
  rfl
  exact paf_nil
  rfl
  rfl
  refine pwf_or ?_ ?_
  exact ptf_cmp (opf_ne hr.units) (pef_var (pv 4)) (pef_var (pv 0)) (nomark _)
  refine pwf_or1 ?_
  refine ptf_not ?_
  refine ptf_truth ?_ (fun _ => rfl)
  refine pef_callB callf_isi ?_ T.n_isinstance bb_isinstance ?_
  rfl
  refine paf_c ?_ ?_ ?_
  exact pef_ix ixf (pef_var (pv 4)) pef_int (fun _ _ => rfl)
  refine paf_c ?_ ?_ ?_
  refine pef_ty ?_ T.n_tuple bb_tuple
  rfl
  exact paf_nil
  rfl
  rfl
  refine pssf_cons ?_ pssf_nil
  exact psf_ret pef_bl
  refine pssf_cons ?_ pssf_nil
  refine psf_for PassesOwn.never ?_ ?_ ?_ ?_
  rfl
  refine pif_seq ?_
  exact pef_ix ixf (pef_var (pv 4)) pef_int (fun _ _ => rfl)
  refine pgf_name (i := 5) ?_ ?_ ?_
  exact sc_law_right.nd
  rfl
  first | exact Or.inl rfl | exact Or.inr rfl
  refine pssf_cons ?_ pssf_nil
  refine psf_if ?_ ?_ pssf_nil
  refine PWf.pt ?_
  refine pwf_or ?_ ?_
  refine ptf_not ?_
  refine ptf_truth ?_ (fun _ => rfl)
  refine pef_callB callf_isi ?_ T.n_isinstance bb_isinstance ?_
  rfl
  refine paf_c ?_ ?_ ?_
  exact (pef_var (pv 5))
  refine paf_c ?_ ?_ ?_
  refine pef_ty ?_ T.n_tuple bb_tuple
  rfl
  exact paf_nil
  rfl
  rfl
  refine pwf_or1 ?_
  refine ptf_cmp (opf_in hr.units) pef_bl ?_ ?_
  refine pef_lc (cn := []) ?_ (blk_fn (x := "one") (cn := []) (ci := []) (by decide +kernel)) ?_ ?_ ?_
  rfl
  exact pif_seq (pef_var (pv 5))
  intro _ _ _ _ _ _
  exact ptsf_nil
  intro _ _ _ _ _ _
  refine pef_callB callf_isi ?_ T.n_isinstance bb_isinstance ?_
  rfl
  refine paf_c ?_ ?_ ?_
  exact (pef_var (pv 0))
  refine paf_c ?_ ?_ ?_
  refine pef_ty ?_ T.n_bool bb_bool
  rfl
  exact paf_nil
  rfl
  rfl
  with_unfolding_all rfl
  refine pssf_cons ?_ pssf_nil
  exact psf_ret pef_bl
  refine pssf_cons ?_ pssf_nil
  exact psf_ret pef_bl
theorem ok_law_line (T : Top K mg) (F_read_claim : Fn P w K mg base 4 "read_claim" ["text"] m_read_claim) (RI_NoText : YRs P w K mg base "NoText" "line" 1) (FY_read_claim : FnY P w K mg base 4 "read_claim" ["text"] "NoText" (some "line") y_read_claim) : Fn P w K mg base 5 "_law_line" ["text"] m_law_line := by
  refine (fun h => h : _ → Fn P w K mg base 5 "_law_line" ["text"] (runB 1 3 b_law_line)) (fn_mk (N := ["text", "told", "e"]) (k := 4) T.t_law_line sc_law_line (fun _ _ _ _ _ _ us hl => by obtain ⟨_, rfl⟩ := us1 hl; rfl) ?_)
  intro f cdv A outer s H E hr
  unfold b_law_line
  obtain ⟨C, cV, hE, hmc, hex⟩ := T.h_NoText_NoText
  refine pssf_cons ?_ ?_
  refine psf_set (i := 1) ?_ ?_ ?_ pef_non
  exact sc_law_line.nd
  rfl
  first | exact Or.inl rfl | exact Or.inr rfl
  refine pssf_cons ?_ ?_
  refine psf_tryE (k := 4) (iE := 2) (C := C) (cV := cV) (xn := "NoText") (av := some "line") (ps := ["text"]) ?_ ?_ ?_ ?_ ?_ ?_ ?_ ?_ ?_ ?_ ?_
  refine pssf_cons ?_ pssf_nil
  refine psf_expr ?_
  refine pef_fn F_read_claim (hr.mono (by decide)) ?_ ?_
  rfl
  refine paf_c ?_ ?_ ?_
  exact (pef_var (pv 0))
  exact paf_nil
  rfl
  exact FY_read_claim
  exact hE
  exact hr.mono (by decide)
  refine paf_c ?_ ?_ ?_
  exact (pef_var (pv 0))
  exact paf_nil
  rfl
  exact hmc
  exact hex
  exact sc_law_line.nd
  rfl
  rfl
  intro i ex oe c1 c2
  refine pssx_cons ?_ pssx_nil
  refine psx_set (j := 1) ?_ ?_ ?_ ?_ ?_
  exact sc_law_line.nd
  rfl
  decide
  first | exact Or.inl rfl | exact Or.inr rfl
  refine pexn_attr (iE := 2) (C := C) (xn := "NoText") (k := 1) ?_ ?_ ?_ ?_ ?_ ?_ ?_
  exact RI_NoText
  exact hE
  exact c1
  exact c2
  rfl
  rfl
  first | exact Or.inl rfl | exact Or.inr rfl
  refine pssf_cons ?_ pssf_nil
  exact psf_ret (pef_var (pv 1))
theorem ok_law (T : Top K mg) (F_law_right : Fn P w K mg base 5 "_law_right" ["claim"] m_law_right) (F_law_claim : Fn P w K mg base 4 "_law_claim" ["script", "most"] m_law_claim) (F_show_claim : Fn P w K mg base 2 "show_claim" ["claim"] m_show_claim) (F_law_text : Fn P w K mg base 1 "_law_text" ["claim"] m_law_text) (F_law_line : Fn P w K mg base 5 "_law_line" ["text"] m_law_line) (F_law_at : Fn P w K mg base 1 "_law_at" ["script", "k"] m_law_at) : Fn P w K mg base 6 "law" ["script"] m_law := by
  refine (fun h => h : _ → Fn P w K mg base 6 "law" ["script"] (runB 1 6 b_law)) (fn_mk (N := ["script", "great", "k", "wide", "kinds", "rows"]) (k := 5) T.t_law sc_law (fun _ _ _ _ _ _ us hl => by obtain ⟨_, rfl⟩ := us1 hl; rfl) ?_)
  intro f cdv A outer s H E hr
  unfold b_law
  refine pssf_cons ?_ ?_
  refine psf_asg ?_ ?_
  refine pef_fn F_law_claim (hr.mono (by decide)) ?_ ?_
  rfl
  refine paf_c ?_ ?_ ?_
  exact (pef_var (pv 0))
  refine paf_c ?_ ?_ ?_
  exact pef_int
  exact paf_nil
  rfl
  rfl
  refine pgf_tup ?_ ?_
  rfl
  refine pgsf_cons ?_ ?_
  refine pgf_name (i := 4) ?_ ?_ ?_
  exact sc_law.nd
  rfl
  first | exact Or.inl rfl | exact Or.inr rfl
  refine pgsf_cons ?_ pgsf_nil
  refine pgf_name (i := 5) ?_ ?_ ?_
  exact sc_law.nd
  rfl
  first | exact Or.inl rfl | exact Or.inr rfl
  refine pssf_cons ?_ ?_
  refine psf_set (i := 1) ?_ ?_ ?_ ?_
  exact sc_law.nd
  rfl
  first | exact Or.inl rfl | exact Or.inr rfl
  refine pef_tup ?_
  refine paf_c ?_ ?_ ?_
  exact (pef_var (pv 4))
  refine paf_c ?_ ?_ ?_
  refine pef_slice ?_ pof_none ?_
  refine pef_op opf_mul ?_ pef_int
  refine pef_op opf_add (pef_var (pv 5)) ?_
  refine pef_tup ?_
  refine paf_c ?_ ?_ ?_
  exact pef_tup paf_nil
  exact paf_nil
  rfl
  refine pof_some ?_
  refine pef_op opf_add pef_int ?_
  refine pef_op opf_mod ?_ pef_int
  refine pef_callB callf_abs ?_ T.n_abs bb_abs ?_
  rfl
  refine paf_c ?_ ?_ ?_
  refine pef_fn F_law_at (hr.mono (by decide)) ?_ ?_
  rfl
  refine paf_c ?_ ?_ ?_
  exact (pef_var (pv 0))
  refine paf_c ?_ ?_ ?_
  exact pef_int
  exact paf_nil
  rfl
  rfl
  exact paf_nil
  rfl
  exact paf_nil
  rfl
  rfl
  refine pssf_cons ?_ ?_
  refine psf_if ?_ ?_ pssf_nil
  refine PWf.pt ?_
  refine pwf_or ?_ ?_
  refine ptf_cmp (opf_ne hr.units) ?_ ?_ (nomark _)
  refine pef_fn F_show_claim (hr.mono (by decide)) ?_ ?_
  rfl
  refine paf_c ?_ ?_ ?_
  exact (pef_var (pv 1))
  exact paf_nil
  rfl
  refine pef_fn F_law_text (hr.mono (by decide)) ?_ ?_
  rfl
  refine paf_c ?_ ?_ ?_
  exact (pef_var (pv 1))
  exact paf_nil
  rfl
  refine pwf_or1 ?_
  refine ptf_cmp (opf_ne hr.units) ?_ pef_int (nomark _)
  refine pef_fn F_law_line (hr.mono (by decide)) ?_ ?_
  rfl
  refine paf_c ?_ ?_ ?_
  refine pef_fn F_law_text (hr.mono (by decide)) ?_ ?_
  rfl
  refine paf_c ?_ ?_ ?_
  exact (pef_var (pv 1))
  exact paf_nil
  rfl
  exact paf_nil
  rfl
  refine pssf_cons ?_ pssf_nil
  exact psf_ret pef_bl
  refine pssf_cons ?_ ?_
  refine psf_for PassesOwn.never ?_ ?_ ?_ ?_
  rfl
  refine pif_range1 ?_ T.n_range ?_
  rfl
  refine paf_c ?_ ?_ ?_
  exact pef_int
  exact paf_nil
  rfl
  refine pgf_name (i := 2) ?_ ?_ ?_
  exact sc_law.nd
  rfl
  first | exact Or.inl rfl | exact Or.inr rfl
  refine pssf_cons ?_ pssf_nil
  refine psf_if ?_ ?_ pssf_nil
  refine ptf_not ?_
  refine ptf_truth ?_ (fun _ => rfl)
  refine pef_fn F_law_right (hr.mono (by decide)) ?_ ?_
  rfl
  refine paf_c ?_ ?_ ?_
  refine pef_fn F_law_claim (hr.mono (by decide)) ?_ ?_
  rfl
  refine paf_c ?_ ?_ ?_
  refine pef_slice (pef_var (pv 0)) ?_ pof_none
  refine pof_some ?_
  exact pef_op opf_mul pef_int (pef_var (pv 2))
  refine paf_c ?_ ?_ ?_
  exact pef_int
  exact paf_nil
  rfl
  rfl
  exact paf_nil
  rfl
  refine pssf_cons ?_ pssf_nil
  exact psf_ret pef_bl
  refine pssf_cons ?_ ?_
  refine psf_set (i := 3) ?_ ?_ ?_ ?_
  exact sc_law.nd
  rfl
  first | exact Or.inl rfl | exact Or.inr rfl
  refine pef_tup ?_
  refine paf_c ?_ ?_ ?_
  refine pef_op opf_mul ?_ pef_int
  refine pef_tup ?_
  refine paf_c ?_ ?_ ?_
  exact pef_str
  exact paf_nil
  rfl
  refine paf_c ?_ ?_ ?_
  refine pef_op opf_mul ?_ pef_int
  refine pef_tup ?_
  refine paf_c ?_ ?_ ?_
  refine pef_tupR2 ?_ ?_ T.n_tuple ?_ T.n_range ?_
  rfl
  rfl
  rfl
  refine paf_c ?_ ?_ ?_
  exact pef_int
  refine paf_c ?_ ?_ ?_
  exact pef_int
  exact paf_nil
  rfl
  rfl
  refine paf_c ?_ ?_ ?_
  refine pef_callTy callf_tuple ?_ T.n_tuple bb_tuple ?_
  rfl
  refine paf_c ?_ ?_ ?_
  refine pef_lc (cn := []) ?_ (blk_fn (x := "k") (cn := []) (ci := []) (by decide +kernel)) ?_ ?_ ?_
  rfl
  refine pif_range2 ?_ T.n_range ?_
  rfl
  refine paf_c ?_ ?_ ?_
  exact pef_int
  refine paf_c ?_ ?_ ?_
  exact pef_int
  exact paf_nil
  rfl
  rfl
  intro _ _ _ _ _ _
  exact ptsf_nil
  intro _ _ _ _ _ _
  exact pef_op opf_sub pef_int (pef_var (pv 0))
  exact paf_nil
  rfl
  exact paf_nil
  rfl
  rfl
  exact paf_nil
  rfl
  rfl
  refine pssf_cons ?_ pssf_nil
  refine psf_ret ?_
  refine pef_and ?_ ?_
  refine pef_fn F_law_right (hr.mono (by decide)) ?_ ?_
  rfl
  refine paf_c ?_ ?_ ?_
  exact (pef_var (pv 3))
  exact paf_nil
  rfl
  refine pef_and ?_ ?_
  refine pef_fn F_law_right (hr.mono (by decide)) ?_ ?_
  rfl
  refine paf_c ?_ ?_ ?_
  refine pef_tup ?_
  refine paf_c ?_ ?_ ?_
  exact pef_tup paf_nil
  refine paf_c ?_ ?_ ?_
  exact pef_tup paf_nil
  exact paf_nil
  rfl
  rfl
  exact paf_nil
  rfl
  refine pef_one ?_
  refine pef_fn F_law_right (hr.mono (by decide)) ?_ ?_
  rfl
  refine paf_c ?_ ?_ ?_
  refine pef_tup ?_
  refine paf_c ?_ ?_ ?_
  exact pef_tup paf_nil
  refine paf_c ?_ ?_ ?_
  refine pef_op opf_mul ?_ pef_int
  refine pef_tup ?_
  refine paf_c ?_ ?_ ?_
  exact pef_tup paf_nil
  exact paf_nil
  rfl
  exact paf_nil
  rfl
  rfl
  exact paf_nil
  rfl
theorem ok_all (T : Top K mg) : Fn P w K mg base 6 "law" ["script"] m_law := by
  have RI_NoText := okI_NoText (P := P) (w := w) (base := base) T
  have F_is_whole := ok_is_whole (P := P) (w := w) (base := base) T
  have F_is_kinds := ok_is_kinds (P := P) (w := w) (base := base) T
  have F_is_row := ok_is_row (P := P) (w := w) (base := base) T F_is_whole
  have F_show_row := ok_show_row (P := P) (w := w) (base := base) T
  have F_show_claim := ok_show_claim (P := P) (w := w) (base := base) T F_show_row
  have F_read_number := ok_read_number (P := P) (w := w) (base := base) T
  have F_read_literal := ok_read_literal (P := P) (w := w) (base := base) T F_read_number
  have F_read_row := ok_read_row (P := P) (w := w) (base := base) T F_is_row F_read_literal
  have F_read_kinds := ok_read_kinds (P := P) (w := w) (base := base) T F_is_kinds
  have F_read_claim := ok_read_claim (P := P) (w := w) (base := base) T F_read_row F_read_kinds
  have FY_read_claim := oky_read_claim (P := P) (w := w) (base := base) T F_read_row F_read_kinds RI_NoText
  have F_law_mix := ok_law_mix (P := P) (w := w) (base := base) T
  have F_law_digits := ok_law_digits (P := P) (w := w) (base := base) T F_law_mix
  have F_law_at := ok_law_at (P := P) (w := w) (base := base) T
  have F_law_kinds := ok_law_kinds (P := P) (w := w) (base := base) T
  have F_law_row := ok_law_row (P := P) (w := w) (base := base) T F_law_digits
  have F_law_claim := ok_law_claim (P := P) (w := w) (base := base) T F_law_row F_law_at F_law_kinds F_law_digits
  have F_law_text := ok_law_text (P := P) (w := w) (base := base) T
  have F_law_right := ok_law_right (P := P) (w := w) (base := base) T F_read_claim F_show_claim F_law_text
  have F_law_line := ok_law_line (P := P) (w := w) (base := base) T F_read_claim RI_NoText FY_read_claim
  have F_law := ok_law (P := P) (w := w) (base := base) T F_law_right F_law_claim F_show_claim F_law_text F_law_line F_law_at
  exact F_law
end
theorem walk {l : PySem.W.OpenLaw} {q : Program} {loose : List Str} {XP : (Str → Option Value) → Heap → Prop} {YP : World → Heap → Prop} {d : DefRec} {K : Params → PySem.W.Frag} (hn : l.most = some 63) (hdf : d.params.defaults = [])
    (hd : d.name = "law") (hY : ∀ (w : World) (h : Heap), YP w h → (K w.params).In h) (hT : ∀ (w : World) (mg : Str → Option Value) (h : Heap), (K w.params).In h → h.Ns mainGlobals mg → Top (K w.params) mg)
    (pure : ∀ ns : List Int, ns.length ≤ 63 → ∃ Hd', m_law [.fl (ns.map .int)] [] = some (.bl true, Hd')) : PySem.W.WalkO q loose XP YP l.row.toRowW d [] (fun f vs => PySem.call f vs) := by
  refine L2.walk_ofK (n := 63) (k := 6) (x := "script") (CX := CX0) (sp := spLaw m_law) hn (by decide) hdf ⟨rfl, by decide, by decide, rfl⟩ hY (fun w mg fa h KX G hmg => ?_) (law_start pure) (fun _ _ _ _ z => z)
  have T := hT w mg h KX G
  obtain ⟨f, fd, F, hm⟩ := T.t_law
  have e0 : f = fa := by rw [hd] at hmg; rw [hm] at hmg; cases hmg; rfl
  subst e0
  have B := F.binds (ps := ["script"]) (fun _ _ _ _ _ _ us hl => by obtain ⟨_, rfl⟩ := us1 hl; rfl)
  refine ⟨fd, fun s u => ?_, fun base kb nb => ?_⟩
  · obtain ⟨oc, od, kV, doc, pm, an, cdv, ct, osl, rfl, lk, hcd⟩ := F.ex
    exact .of_eq rfl
  · obtain ⟨f', fd', G1, hb, hk, hm', oc', od', osl', lk'⟩ := (ok_all (P := l.prog) (w := w) (base := base) T).ex
    have e1 : f' = f := by rw [hm] at hm'; cases hm'; rfl
    subst e1
    have e2 : fd' = fd := by
      obtain ⟨oc, od, kV, doc, pm, an, cdv, ct, osl, e3, lk, hcd⟩ := F.ex
      rw [lk] at lk'
      have e4 := Option.some.inj lk'
      injection e4 with _ _ e5 _
      injection e5 with e6
      exact e6.symm
    subst e2
    exact G1
end K08
open PySem PySem.W PyProof.Rows L2 DL
set_option maxRecDepth 100000 in
set_option maxHeartbeats 0 in
theorem PySem.Challenge.cw_allsome_k77_claims_written_and_read_holds : PySem.Challenge.rw_allsome_k77_claims_written_and_read.Holds := by
  w_on; o_law; refine holds_open (q := (PySem.Challenge.vwOf PySem.Challenge.pw_allsome_k77_claims_written_and_read)) (loose := []) (Xt := PySem.Challenge.xt0) (XP := XL (PySem.Challenge.vwOf PySem.Challenge.pw_allsome_k77_claims_written_and_read) []) (Yf := Hook.obs PySem.Challenge.hk0) (Ya := Hook.val PySem.Challenge.hk0) (YP := InK PySem.Challenge.mk0.heap_39) (N := 2340) PySem.Challenge.left0 (Hook.of PySem.Challenge.hk0) (Hook.keeps PySem.Challenge.hk0) (fun s e => xl_of s (Bool.and_eq_true_iff.mp e).1) XL.keeps (by rfl) (by rfl) (by rfl) (fun s e => recFacts_of (Bool.and_eq_true_iff.mp e).2) (by rfl) (by assumption) (by decide +kernel) ⟨rfl, rfl, rfl, rfl, rfl, by decide +kernel⟩ ?hw ?hc
  (case hw => w_witness2)
  k_fill
  refine K08.walk (l := PySem.Challenge.rw_allsome_k77_claims_written_and_read) rfl rfl rfl (fun w h Y => Y) ?T K08.pure_law
  case T =>
    intro w mg h KX G
    have t_is_whole : Tf (L2.KOf KX) mg "is_whole" K08.s_is_whole := by
      dsimp only [L2.KOf]
      refine' tf_mk KX G ?a ?l ?c ?k
      (case a => k_is); (case l => k_is); (case c => k_is); (case k => k_is)
    have t_is_kinds : Tf (L2.KOf KX) mg "is_kinds" K08.s_is_kinds := by
      dsimp only [L2.KOf]
      refine' tf_mk KX G ?a ?l ?c ?k
      (case a => k_is); (case l => k_is); (case c => k_is); (case k => k_is)
    have t_is_row : Tf (L2.KOf KX) mg "is_row" K08.s_is_row := by
      dsimp only [L2.KOf]
      refine' tf_mk KX G ?a ?l ?c ?k
      (case a => k_is); (case l => k_is); (case c => k_is); (case k => k_is)
    have t_show_row : Tf (L2.KOf KX) mg "show_row" K08.s_show_row := by
      dsimp only [L2.KOf]
      refine' tf_mk KX G ?a ?l ?c ?k
      (case a => k_is); (case l => k_is); (case c => k_is); (case k => k_is)
    have t_show_claim : Tf (L2.KOf KX) mg "show_claim" K08.s_show_claim := by
      dsimp only [L2.KOf]
      refine' tf_mk KX G ?a ?l ?c ?k
      (case a => k_is); (case l => k_is); (case c => k_is); (case k => k_is)
    have t_read_number : Tf (L2.KOf KX) mg "read_number" K08.s_read_number := by
      dsimp only [L2.KOf]
      refine' tf_mk KX G ?a ?l ?c ?k
      (case a => k_is); (case l => k_is); (case c => k_is); (case k => k_is)
    have t_read_literal : Tf (L2.KOf KX) mg "read_literal" K08.s_read_literal := by
      dsimp only [L2.KOf]
      refine' tf_mk KX G ?a ?l ?c ?k
      (case a => k_is); (case l => k_is); (case c => k_is); (case k => k_is)
    have t_read_row : Tf (L2.KOf KX) mg "read_row" K08.s_read_row := by
      dsimp only [L2.KOf]
      refine' tf_mk KX G ?a ?l ?c ?k
      (case a => k_is); (case l => k_is); (case c => k_is); (case k => k_is)
    have t_read_kinds : Tf (L2.KOf KX) mg "read_kinds" K08.s_read_kinds := by
      dsimp only [L2.KOf]
      refine' tf_mk KX G ?a ?l ?c ?k
      (case a => k_is); (case l => k_is); (case c => k_is); (case k => k_is)
    have t_read_claim : Tf (L2.KOf KX) mg "read_claim" K08.s_read_claim := by
      dsimp only [L2.KOf]
      refine' tf_mk KX G ?a ?l ?c ?k
      (case a => k_is); (case l => k_is); (case c => k_is); (case k => k_is)
    have t_law_mix : Tf (L2.KOf KX) mg "_law_mix" K08.s_law_mix := by
      dsimp only [L2.KOf]
      refine' tf_mk KX G ?a ?l ?c ?k
      (case a => k_is); (case l => k_is); (case c => k_is); (case k => k_is)
    have t_law_digits : Tf (L2.KOf KX) mg "_law_digits" K08.s_law_digits := by
      dsimp only [L2.KOf]
      refine' tf_mk KX G ?a ?l ?c ?k
      (case a => k_is); (case l => k_is); (case c => k_is); (case k => k_is)
    have t_law_at : Tf (L2.KOf KX) mg "_law_at" K08.s_law_at := by
      dsimp only [L2.KOf]
      refine' tf_mk KX G ?a ?l ?c ?k
      (case a => k_is); (case l => k_is); (case c => k_is); (case k => k_is)
    have t_law_kinds : Tf (L2.KOf KX) mg "_law_kinds" K08.s_law_kinds := by
      dsimp only [L2.KOf]
      refine' tf_mk KX G ?a ?l ?c ?k
      (case a => k_is); (case l => k_is); (case c => k_is); (case k => k_is)
    have t_law_row : Tf (L2.KOf KX) mg "_law_row" K08.s_law_row := by
      dsimp only [L2.KOf]
      refine' tf_mk KX G ?a ?l ?c ?k
      (case a => k_is); (case l => k_is); (case c => k_is); (case k => k_is)
    have t_law_claim : Tf (L2.KOf KX) mg "_law_claim" K08.s_law_claim := by
      dsimp only [L2.KOf]
      refine' tf_mk KX G ?a ?l ?c ?k
      (case a => k_is); (case l => k_is); (case c => k_is); (case k => k_is)
    have t_law_text : Tf (L2.KOf KX) mg "_law_text" K08.s_law_text := by
      dsimp only [L2.KOf]
      refine' tf_mk KX G ?a ?l ?c ?k
      (case a => k_is); (case l => k_is); (case c => k_is); (case k => k_is)
    have t_law_right : Tf (L2.KOf KX) mg "_law_right" K08.s_law_right := by
      dsimp only [L2.KOf]
      refine' tf_mk KX G ?a ?l ?c ?k
      (case a => k_is); (case l => k_is); (case c => k_is); (case k => k_is)
    have t_law_line : Tf (L2.KOf KX) mg "_law_line" K08.s_law_line := by
      dsimp only [L2.KOf]
      refine' tf_mk KX G ?a ?l ?c ?k
      (case a => k_is); (case l => k_is); (case c => k_is); (case k => k_is)
    have t_law : Tf (L2.KOf KX) mg "law" K08.s_law := by
      dsimp only [L2.KOf]
      refine' tf_mk KX G ?a ?l ?c ?k
      (case a => k_is); (case l => k_is); (case c => k_is); (case k => k_is)
    have n_abs : mg "abs" = none := by
      refine' PySem.W.mg_none_of KX G ?z
      (case z => k_is)
    have n_all : mg "all" = none := by
      refine' PySem.W.mg_none_of KX G ?z
      (case z => k_is)
    have n_bool : mg "bool" = none := by
      refine' PySem.W.mg_none_of KX G ?z
      (case z => k_is)
    have n_enumerate : mg "enumerate" = none := by
      refine' PySem.W.mg_none_of KX G ?z
      (case z => k_is)
    have n_int : mg "int" = none := by
      refine' PySem.W.mg_none_of KX G ?z
      (case z => k_is)
    have n_isinstance : mg "isinstance" = none := by
      refine' PySem.W.mg_none_of KX G ?z
      (case z => k_is)
    have n_len : mg "len" = none := by
      refine' PySem.W.mg_none_of KX G ?z
      (case z => k_is)
    have n_max : mg "max" = none := by
      refine' PySem.W.mg_none_of KX G ?z
      (case z => k_is)
    have n_range : mg "range" = none := by
      refine' PySem.W.mg_none_of KX G ?z
      (case z => k_is)
    have n_str : mg "str" = none := by
      refine' PySem.W.mg_none_of KX G ?z
      (case z => k_is)
    have n_tuple : mg "tuple" = none := by
      refine' PySem.W.mg_none_of KX G ?z
      (case z => k_is)
    have c_FIGURES : Gc (L2.KOf KX) mg "FIGURES" K08.k_FIGURES := by
      dsimp only [L2.KOf]
      refine' gc_str KX G ?a
      (case a => k_is)
    have c_KINDS : Gc (L2.KOf KX) mg "KINDS" K08.k_KINDS := by
      dsimp only [L2.KOf]
      refine' gc_strs2 KX G ?a ?l
      (case a => k_is); (case l => k_is)
    have c_MOST_FIGURES : Gc (L2.KOf KX) mg "MOST_FIGURES" K08.k_MOST_FIGURES := by
      dsimp only [L2.KOf]
      refine' gc_int KX G ?a
      (case a => k_is)
    have c_MOST_NAMES : Gc (L2.KOf KX) mg "MOST_NAMES" K08.k_MOST_NAMES := by
      dsimp only [L2.KOf]
      refine' gc_int KX G ?a
      (case a => k_is)
    have c_MOST_ROWS : Gc (L2.KOf KX) mg "MOST_ROWS" K08.k_MOST_ROWS := by
      dsimp only [L2.KOf]
      refine' gc_int KX G ?a
      (case a => k_is)
    have y_NoText : ∃ C Cl fI, YCl (L2.KOf KX) mg "NoText" "line" "NoText.__init__" K08.si_NoText C Cl fI := by
      dsimp only [L2.KOf]
      refine' ⟨_, _, _, ycl_mk KX G ?za ?zb ?zc ?zd ?ze ?zf ?zg ?zh ?zi ?zj ?zl ?zm ?zn ?zo ?zp ?zq ?zr ?zs ?zt ?zu ?zv ?zw⟩
      (case za => k_is); (case zb => k_is); (case ze => k_is); (case zc => k_is); (case zd => kernel_rfl); (case zf => k_is); (case zg => k_is); (case zh => k_is); (case zi => k_is); (case zj => k_is); (case zl => k_is); (case zm => k_is); (case zn => k_is); (case zo => k_is); (case zp => k_is); (case zq => k_is); (case zr => k_is); (case zs => k_is); (case zt => k_is); (case zu => k_is); (case zv => k_is); (case zw => k_is)
    have h_NoText_NoText : ∃ C cV, mg "NoText" = some (.ref C) ∧ mg "NoText" = some cV ∧ PySem.W.exmOne (L2.KOf KX) (.ref C) cV = some true := by
      dsimp only [L2.KOf]
      refine' ⟨_, _, mg_ref KX G ?za, PySem.W.mg_of KX G ?zb, ?zc⟩
      (case za => k_is); (case zb => k_is); (case zc => kernel_rfl)
    exact ⟨t_is_whole, t_is_kinds, t_is_row, t_show_row, t_show_claim, t_read_number, t_read_literal, t_read_row, t_read_kinds, t_read_claim, t_law_mix, t_law_digits, t_law_at, t_law_kinds, t_law_row, t_law_claim, t_law_text, t_law_right, t_law_line, t_law, n_abs, n_all, n_bool, n_enumerate, n_int, n_isinstance, n_len, n_max, n_range, n_str, n_tuple, c_FIGURES, c_KINDS, c_MOST_FIGURES, c_MOST_NAMES, c_MOST_ROWS, y_NoText, h_NoText_NoText⟩
