import PyProof.Rows.All
import Wide.All
import OpenK.AllK
import Wide.FinOn
import Lean
import PyProof.EqAt
import PyProof.EqKinds
import PyProof.TupleCall
import KE.KDictList
import KE.KDictOf
import KE.KIntText
import KE.KItemsList
import KE.KSortKey
import KE.KSortTup
import KE.KTryMore
import PyProof.AttrMissHeap
import PyProof.AutoSeq1
import PyProof.ExcAttrAll.ValueError
import PyProof.FitsBits
import PyProof.MeetsStr2
import PyProof.MinMaxWalk
import PyProof.P3Eq
import PyProof.P3In
import PyProof.ReprLen
import PyProof.Rows.DictRows
import PyProof.Rows.Own
import PyProof.Rows.RuleB_bool
import PyProof.Rows.TupIter
import PyProof.SeqI3
import PyProof.StrBlockG
import PyProof.StrLawsChain
import PyProof.StrOps2
import PyProof.StrWalks
import PyProof.SumWalkG
import PyProof.TupleOfSeq
import PyProof.WalkInts
import PySem.Challenge.RW_allsome_k78_wrong_texts_of_claims
set_option Elab.async false
set_option compiler.extract_closed false
set_option bootstrap.genMatcherCode false
set_option linter.all false
set_option maxRecDepth 100000
theorem Zo {α β : Type} {x : Option α} {f : α → Option β} {b : β} (h : x.bind f = some b) : ∃ a, x = some a ∧ f a = some b := Option.bind_eq_some_iff.1 h
theorem Zm {α β : Type} {x : Option α} {f : α → β} {b : β} (h : x.map f = some b) : ∃ a, x = some a ∧ f a = b := Option.map_eq_some_iff.1 h
theorem Zb {α β : Type} (a : α) (f : α → Option β) : (some a).bind f = f a := rfl
section
open PySem PySem.W PyProof.Rows
noncomputable def PySem.Challenge.vwOf (p : Program) : Program := { p with main := { p.main with body := [1, 2, 3, 4, 5, 6, 8, 9, 10, 11, 12, 13, 14, 15, 16, 18, 19, 20, 21, 22, 23, 24, 26, 27, 28, 29, 30, 31, 32, 33, 34, 35, 36, 37, 38, 39, 40, 41].filterMap fun i => p.main.body[i]? } }
local macro_rules | `(tactic| o_head $_) => `(tactic| exact False.elim (by assumption))
set_option maxRecDepth 100000 in
set_option maxHeartbeats 0 in
theorem PySem.Challenge.mk0 : False -> PySem.Challenge.rw_allsome_k78_wrong_texts_of_claims.Holds := by
 intro f; w_on; o_law; k_head
noncomputable def PySem.Challenge.hk0 : Hook := kHook PySem.Challenge.mk0.heap_39 [2, 3, 15, 16, 18, 19, 21, 22, 23, 26, 27, 28, 30, 31, 33, 34, 35, 42, 43, 44, 45, 48, 55, 57, 58, 60, 61, 62, 63, 64, 67, 74, 76, 77, 79, 80, 81, 82, 83, 86, 93, 94, 95, 98, 105, 106, 107, 110, 117, 118, 119, 122, 129, 130, 131, 134, 141, 142, 143, 146, 153, 154, 155, 158, 161, 162, 163, 165, 166, 168, 169, 170, 173, 174, 175, 177, 178, 180, 181, 182, 184, 185, 187, 188, 189, 191, 192, 194, 195, 196, 198, 199, 201, 202, 203, 205, 206, 208, 209, 210, 212, 213, 215, 216, 217, 219, 220, 222, 223, 224, 227, 228, 229, 231, 232, 234, 235, 236, 239, 240, 241, 243, 244, 246, 247, 248, 250, 251, 253, 254, 255, 257, 258, 260, 261, 262, 264, 265, 267, 268, 269, 271, 272, 274, 275, 276, 278, 279, 281, 282, 283, 285, 286, 288, 289, 290, 292, 293, 295, 296] (fun _ => by kernel_rfl)
noncomputable def PySem.Challenge.xt0 (s : Shared) : Bool := xlAt (PySem.Challenge.vwOf PySem.Challenge.pw_allsome_k78_wrong_texts_of_claims) [] s && recOk (RowW.records (OpenRow.toRowW (OpenLaw.row PySem.Challenge.rw_allsome_k78_wrong_texts_of_claims))) s
set_option maxRecDepth 100000 in
theorem PySem.Challenge.left0 : LeftO (OpenLaw.row PySem.Challenge.rw_allsome_k78_wrong_texts_of_claims).prog (PySem.Challenge.vwOf PySem.Challenge.pw_allsome_k78_wrong_texts_of_claims) [] PySem.Challenge.xt0 PySem.Challenge.hk0.obs PySem.Challenge.hk0.val 5700 := by
 intro w
 unfold PySem.Challenge.xt0
 rewrite [PySem.W.Fast.te4187177175401517315, PySem.W.Fast.te5923862056798008813, PySem.W.Fast.te2368527892694137696, PySem.W.Fast.te3933645180151002051, PySem.W.Fast.te14703947514590758510, PySem.W.Fast.te14364793385576792824]
 kernel_rfl
end
namespace L2
open PySem PySem.Spec PyProof.Rows
noncomputable abbrev Key := Sum Int Str
noncomputable def Zw6 : Key -> Value -> Bool
 | .inl k, v => Value.isInt k v
 | .inr x, v => Value.isStrOf x v
noncomputable def keyH (w : World) : Key -> Int
 | .inl k => hashInt k
 | .inr x => hashStr w x
theorem Zbr : ∀ {k : Key} {v : Value}, Zw6 k v = true -> (∃ i t, k = Sum.inl i ∧ v = Value.int i t) ∨ (∃ x t, k = Sum.inr x ∧ v = Value.str x t)
 | .inl i, v, h => by
  obtain ⟨t, e⟩ := Value.isInt_shape (k := i) (v := v) h
  exact .inl ⟨i, t, rfl, e⟩
 | .inr x, v, h => by
  obtain ⟨t, e⟩ := Value.isStrOf_shape (x := x) (v := v) h
  exact .inr ⟨x, t, rfl, e⟩
theorem Zxf (a b : Int) : decide ((Sum.inl a : Key) = Sum.inl b) = (a == b) := by
 by_cases e : a = b
 ·subst e; simp
 ·have h : ¬ (Sum.inl a : Key) = Sum.inl b := fun q => e (Sum.inl.inj q)
  rw [decide_eq_false h]
  exact (beq_eq_false_iff_ne.mpr e).symm
theorem Zyv (a b : Str) : decide ((Sum.inr a : Key) = Sum.inr b) = decide (a = b) := by
 by_cases e : a = b
 ·subst e; simp
 ·have h : ¬ (Sum.inr a : Key) = Sum.inr b := fun q => e (Sum.inr.inj q)
  rw [decide_eq_false h, decide_eq_false e]
theorem Zwz (a : Int) (b : Str) : decide ((Sum.inl a : Key) = Sum.inr b) = false := decide_eq_false (fun q => nomatch q)
theorem Zzi (a : Str) (b : Int) : decide ((Sum.inr a : Key) = Sum.inl b) = false := decide_eq_false (fun q => nomatch q)
noncomputable def Zk9 (prog : Program) (w : World) : PySem.KeyKind prog w Key where
 is := Zw6
 hash := keyH w
 inj := fun v a b ha hb => by
  rcases Zbr ha with ⟨i, t, rfl, rfl⟩ | ⟨x, t, rfl, rfl⟩
  ·rcases Zbr hb with ⟨j, u, rfl, e⟩ | ⟨y, u, rfl, e⟩
   ·injection e with e1 _; rw [e1]
   ·exact nomatch e
  ·rcases Zbr hb with ⟨j, u, rfl, e⟩ | ⟨y, u, rfl, e⟩
   ·exact nomatch e
   ·injection e with e1 _; rw [e1]
 byValue := fun k v h => by
  rcases Zbr h with ⟨i, t, rfl, rfl⟩ | ⟨x, t, rfl, rfl⟩ <;> rfl
 pyHash := fun hv h => by
  rcases Zbr hv with ⟨i, t, rfl, rfl⟩ | ⟨x, t, rfl, rfl⟩
  ·exact wpAny_pyHash_int h
  ·exact wpAny_pyHash_str h
 eqBool := fun hu hv h => by
  rcases Zbr hu with ⟨i, t, rfl, rfl⟩ | ⟨x, t, rfl, rfl⟩
  ·rcases Zbr hv with ⟨j, u, rfl, rfl⟩ | ⟨y, u, rfl, rfl⟩
   ·rw [Zxf] at h; exact wpAny_eqBool_int h
   ·rw [Zwz] at h; exact SeqAt.EqAt.int_str i t y u _ _ _ _ h
  ·rcases Zbr hv with ⟨j, u, rfl, rfl⟩ | ⟨y, u, rfl, rfl⟩
   ·rw [Zzi] at h; exact SeqAt.EqAt.str_int x t j u _ _ _ _ h
   ·rw [Zyv] at h; exact wpAny_eqBool_str h
 «strs» := fun k x t v h => by
  rcases Zbr h with ⟨i, u, rfl, e⟩ | ⟨y, u, rfl, e⟩
  ·exact nomatch e
  ·injection e with e1 _
   subst e1
   cases v <;> rfl
inductive V where
 | non | bl (b : Bool) | int (i : Int) | str (x : Str) | byt (b : Array UInt8) | flt (b : UInt64) | ref (a : Addr) | ty (n : String)
noncomputable def Zct : V -> Value -> Prop
 | .non, u => u = Value.none
 | .bl b, u => u = Value.bool b
 | .int i, u => ∃ t, u = Value.int i t
 | .str x, u => ∃ t, u = Value.str x t
 | .byt b, u => ∃ t, u = Value.bytes b t
 | .flt b, u => ∃ t, u = Value.float b t
 | .ref a, u => u = Value.ref a
 | .ty n, u => u = Value.type n
noncomputable abbrev Zbk : List V -> List Value -> Prop := Paired Zct
theorem Zbk.length {xs : List V} {us : List Value} (r : Zbk xs us) : xs.length = us.length := Paired.length r
theorem Zbk.get : ∀ {xs : List V} {us : List Value} {i : Nat} {x : V}, Zbk xs us -> xs[i]? = some x -> ∃ u, us[i]? = some u ∧ Zct x u
 | _, _, _, _, .nil, e => by simp at e
 | _, _, 0, _, .cons r _, e => by simp at e; subst e; exact ⟨_, rfl, r⟩
 | _, _, i + 1, x, .cons _ t, e => by
  obtain ⟨u, h1, h2⟩ := Zbk.get (i := i) (x := x) t (by simpa using e)
  exact ⟨u, by simpa using h1, h2⟩
theorem Zbk.set {x : V} {u : Value} (r : Zct x u) : ∀ {xs : List V} {us : List Value} (i : Nat), Zbk xs us -> Zbk (xs.set i x) (us.set i u)
 | _, _, _, .nil => .nil
 | _, _, 0, .cons _ t => .cons r t
 | _, _, i + 1, .cons q t => .cons q (Zbk.set r i t)
theorem Zbk.append : ∀ {xs ys : List V} {us ws : List Value}, Zbk xs us -> Zbk ys ws -> Zbk (xs ++ ys) (us ++ ws)
 | _, _, _, _, .nil, s => s
 | _, _, _, _, .cons r t, s => .cons r (Zbk.append t s)
theorem Zbk.take : ∀ {xs : List V} {us : List Value} (n : Nat), Zbk xs us -> Zbk (xs.take n) (us.take n)
 | _, _, 0, _ => .nil
 | _, _, _ + 1, .nil => .nil
 | _, _, n + 1, .cons r t => .cons r (Zbk.take n t)
theorem Zbk.drop : ∀ {xs : List V} {us : List Value} (n : Nat), Zbk xs us -> Zbk (xs.drop n) (us.drop n)
 | _, _, 0, r => r
 | _, _, _ + 1, .nil => .nil
 | _, _, n + 1, .cons _ t => Zbk.drop n t
noncomputable def RelO : Option V -> Option Value -> Prop
 | some v, some u => Zct v u
 | none, none => True
 | _, _ => False
noncomputable def KV {κ : Type} : List (κ × V) -> List (κ × Value) -> Prop := Paired fun (p : κ × V) (q : κ × Value) => p.1 = q.1 ∧ Zct p.2 q.2
noncomputable def kV : Key -> V
 | .inl i => .int i
 | .inr x => .str x
inductive HO where
 | lst (xs : List V)
 | tup (xs : List V)
 | dK (kvs : List (Key × V)) | dT (kvs : List (List Key × V))
 | set (S : Int -> Bool) (n : Nat)
 | ins (C dx : Addr) (fs : List (Str × V))
 | own (x : Addr)
 | xd (fs : List (Str × V))
 | met (f x : Addr)
 | rng (lo hi : Int)
 | frz (o : Obj) (u : HO)
 | tbl (ps : Array Value)
 | ext (φ : Heap -> Prop)
noncomputable abbrev Hp := Addr -> Option HO
noncomputable def upd (H : Hp) (a : Addr) (o : HO) : Hp := fun b => if b = a then some o else H b
theorem upd_same {H : Hp} {a : Addr} {o : HO} : upd H a o a = some o := by unfold upd; rw [if_pos rfl]
theorem Zaw {H : Hp} {a b : Addr} {o : HO} (h : b ≠ a) : upd H a o b = H b := by unfold upd; rw [if_neg h]
theorem Zjp {H : Hp} {a b : Addr} {o u : HO} (h : H a = some o) (h' : H b = some u) (d : o ≠ u) : a ≠ b := by
 intro e; subst e; rw [h] at h'; exact d (Option.some.inj h')
theorem Za3 {H : Hp} {a b : Addr} {o : HO} (h : H a = some o) (h' : H b = none) : a ≠ b := by
 intro e; subst e; rw [h] at h'; cases h'
noncomputable def Zje (h : Heap) (a : Addr) (items : Array Value) : Prop := ∃ o, h.get? a = some o ∧ o.cls = .type "tuple" ∧ (∃ n, o.data = .seq items n) ∧ o.dict = none
theorem Zje.new (h : Heap) (items : Array Value) : Zje (h.push { cls := .type "tuple", data := .seq items }) h.objs.size items := ⟨_, Heap.get?_push_size _ rfl, rfl, ⟨_, rfl⟩, rfl⟩
theorem Zje.tup {h : Heap} {a : Addr} {items : Array Value} (x : Zje h a items) : IsTup h a items := let ⟨o, e, c, d, _⟩ := x; ⟨o, e, c, d⟩
section
variable (P : Program) (w : World)
noncomputable def Zep (H : Hp) (h : Heap) (a : Addr) : HO -> Prop
 | .lst xs => xs.length ≤ sizeLine ∧ ∃ (its : List Value) (n : Nat), Zbk xs its ∧ h.get? a = some { cls := .type "list", data := .seq its.toArray n }
 | .tup xs => xs.length ≤ sizeLine ∧ ∃ its : List Value, Zbk xs its ∧ Zje h a its.toArray
 | .dK kvs => kvs.length ≤ sizeLine ∧ (a == sysModules) = false ∧ ∃ vs, KV kvs vs ∧ h.DictOf (Zk9 P w) a vs
 | .dT kvs => kvs.length ≤ sizeLine ∧ (a == sysModules) = false ∧ ∃ xs : List (List Key × Addr × Value),
   Paired (fun (p : List Key × V) (q : List Key × Addr × Value) => p.1 = q.1 ∧ H q.2.1 = some (.tup (p.1.map kV)) ∧ Zct p.2 q.2.2) kvs xs ∧
   ∃ o es ep, h.get? a = some o ∧ o.ExactDict ∧ o.data = .dict es ep ∧ es.toList = xs.map (entryOfKey (tupleKind (Zk9 P w))) ∧ (xs.map (·.1)).Nodup
 | .set S n => h.SetOf (intKind P w) a S n
 | .ins C dx fs => H dx = some (.own a) ∧ fs.length ≤ 1000 ∧ dx ≠ a ∧ h.get? a = some (PySem.W.instObj C dx) ∧
   ∃ mA, h.Ns1 dx mA ∧ (∀ f, RelO (fs.lookup f) (mA f)) ∧ PySem.Within mA (fs.map (·.1))
 | .own _ => ∃ o, h.get? a = some o
 | .xd fs => ∃ mA, h.Ns1 a mA ∧ ∀ f, RelO (fs.lookup f) (mA f)
 | .rng lo hi => ∃ t u v, h.get? a = some { cls := .type "range", data := .fields #[.int lo t, .int hi u, .int 1 v] }
 | .frz o u => h.get? a = some o ∧ Zep H h a u
 | .tbl ps => h.get? a = some { cls := .none, data := .fields ps }
 | .met f x => h.get? a = some (PySem.W.methodObj (.ref f) (.ref x))
 | .ext φ => φ h ∧ (∃ o, h.get? a = some o) ∧ ∀ h1 h2 : Heap, φ h1 -> (∀ o, h1.get? a = some o -> h2.get? a = some o) -> φ h2
noncomputable def HOk (H : Hp) (h : Heap) : Prop := ∀ a o, H a = some o -> Zep P w H h a o
end
section
variable {P : Program} {w : World} {H H' : Hp} {h h' : Heap} {a : Addr} {o : HO}
theorem Zep.lt (x : Zep P w H h a o) : a < h.objs.size := by
 cases o with
 | lst xs => obtain ⟨_, _, _, _, e⟩ := x; exact Heap.lt_size e
 | tup xs => obtain ⟨_, _, _, p⟩ := x; exact p.tup.lt
 | dK kvs => obtain ⟨_, _, _, _, o, _, _, e, _⟩ := x; exact Heap.lt_size e
 | dT kvs => obtain ⟨_, _, _, _, o, _, _, e, _⟩ := x; exact Heap.lt_size e
 | set S n => obtain ⟨o, _, _, _, e, _⟩ := x; exact Heap.lt_size e
 | ins C dx fs => obtain ⟨_, _, _, e, _⟩ := x; exact Heap.lt_size e
 | own y => obtain ⟨_, e⟩ := x; exact Heap.lt_size e
 | xd fs => obtain ⟨_, ⟨_, _, _, e, _⟩, _⟩ := x; exact Heap.lt_size e
 | rng lo hi => obtain ⟨_, _, _, e⟩ := x; exact Heap.lt_size e
 | frz ob u => obtain ⟨e, _⟩ := x; exact Heap.lt_size e
 | tbl ps => exact Heap.lt_size (show h.get? a = some _ from x)
 | met f y => exact Heap.lt_size (show h.get? a = some _ from x)
 | ext φ => obtain ⟨_, ⟨_, e⟩, _⟩ := x; exact Heap.lt_size e
theorem Paired.mapP {α β : Type} {F G : α -> β -> Prop} : ∀ {l₁ : List α} {l₂ : List β}, Paired F l₁ l₂ -> (∀ a b, F a b -> G a b) -> Paired G l₁ l₂
 | _, _, .nil, _ => .nil
 | _, _, .cons r t, f => .cons (f _ _ r) (Paired.mapP t f)
theorem Zep.stay (x : Zep P w H h a o) (k : ∀ b u, (b = a ∨ H b = some (.own a)) -> h.get? b = some u -> h'.get? b = some u)
  (ho : ∀ b, H b = some (.own a) -> H' b = some (.own a)) (ht : ∀ b xs, H b = some (.tup xs) -> H' b = some (.tup xs)) : Zep P w H' h' a o := by
 induction o with
 | lst xs => obtain ⟨z, its, n, r, e⟩ := x; exact ⟨z, its, n, r, k _ _ (.inl rfl) e⟩
 | tup xs => obtain ⟨z, its, r, ob, e, c⟩ := x; exact ⟨z, its, r, ob, k _ _ (.inl rfl) e, c⟩
 | dK kvs => obtain ⟨z, y, vs, r, ob, es, ep, e, c⟩ := x; exact ⟨z, y, vs, r, ob, es, ep, k _ _ (.inl rfl) e, c⟩
 | dT kvs =>
  obtain ⟨z, y, xs, r, ob, es, ep, e, c⟩ := x
  exact ⟨z, y, xs, Paired.mapP r fun p q z => ⟨z.1, ht _ _ z.2.1, z.2.2⟩, ob, es, ep, k _ _ (.inl rfl) e, c⟩
 | set S n => obtain ⟨ob, es, ep, t, e, c⟩ := x; exact ⟨ob, es, ep, t, k _ _ (.inl rfl) e, c⟩
 | ins C dx fs =>
  obtain ⟨d, z, ne, e, mA, ⟨od, es, ep, e2, c⟩, r⟩ := x
  exact ⟨ho _ d, z, ne, k _ _ (.inl rfl) e, mA, ⟨od, es, ep, k _ _ (.inr d) e2, c⟩, r⟩
 | own y => obtain ⟨ob, e⟩ := x; exact ⟨ob, k _ _ (.inl rfl) e⟩
 | xd fs => obtain ⟨mA, ⟨od, es, ep, e, c⟩, r⟩ := x; exact ⟨mA, ⟨od, es, ep, k _ _ (.inl rfl) e, c⟩, r⟩
 | rng lo hi => obtain ⟨t, u, v, e⟩ := x; exact ⟨t, u, v, k _ _ (.inl rfl) e⟩
 | frz ob u ih => obtain ⟨e, q⟩ := x; exact ⟨k _ _ (.inl rfl) e, ih q⟩
 | tbl ps =>
  have e : h.get? a = some { cls := .none, data := .fields ps } := x
  show h'.get? a = some { cls := .none, data := .fields ps }
  exact k a _ (.inl rfl) e
 | met f y =>
  have e : h.get? a = some (PySem.W.methodObj (.ref f) (.ref y)) := x
  show h'.get? a = some (PySem.W.methodObj (.ref f) (.ref y))
  exact k a _ (.inl rfl) e
 | ext φ => obtain ⟨p, ⟨o, e⟩, st⟩ := x; exact ⟨st _ _ p fun o q => k _ _ (.inl rfl) q, ⟨o, k _ _ (.inl rfl) e⟩, st⟩
theorem HOk.lt (x : HOk P w H h) (e : H a = some o) : a < h.objs.size := (x a o e).lt
theorem HOk.fresh (x : HOk P w H h) (e : h.objs.size ≤ a) : H a = none := by
 cases q : H a with
 | none => rfl
 | some u => exact absurd (Nat.lt_of_lt_of_le (x.lt q) e) (Nat.lt_irrefl _)
theorem HOk.kept (x : HOk P w H h) (k : ∀ b u, h.get? b = some u -> h'.get? b = some u) : HOk P w H h' := fun a o e =>
 (x a o e).stay (fun b u _ q => k b u q) (fun _ q => q) fun _ _ q => q
theorem HOk.laid (x : HOk P w H h) (k : ∀ b u, h.get? b = some u -> h'.get? b = some u) (hp : h.objs.size ≤ a) (new : Zep P w (upd H a o) h' a o) : HOk P w (upd H a o) h' := fun b u e => by
 have hn := x.fresh hp
 by_cases hb : b = a
 ·subst hb; rw [upd_same] at e; cases e; exact new
 ·rw [Zaw hb] at e
  exact (x b u e).stay (fun c v _ q => k c v q) (fun c q => by rw [Zaw (Za3 q hn)]; exact q) fun c xs q => by rw [Zaw (Za3 q hn)]; exact q
end
noncomputable def Rd (H : Hp) (a : Addr) (u : HO) : Prop := H a = some u ∨ ∃ o, H a = some (.frz o u)
theorem Rd.of {H : Hp} {a : Addr} {u : HO} (h : H a = some u) : Rd H a u := .inl h
theorem Rd.ok {P : Program} {w : World} {H : Hp} {h : Heap} {a : Addr} {u : HO} (r : Rd H a u) (x : HOk P w H h) : Zep P w H h a u := by
 rcases r with r | ⟨o, r⟩
 ·exact x a u r
 ·obtain ⟨_, q⟩ := x a _ r
  exact q
noncomputable def Mut : Option HO -> Prop
 | some (.lst _) => True
 | some (.dK _) => True
 | some (.dT _) => True
 | some (.set _ _) => True
 | some (.ins _ _ _) => True
 | some (.ext _) => True
 | _ => False
section
variable {P : Program} {w : World} {H : Hp} {h h' : Heap} {x e : Addr} {o' : HO}
theorem HOk.write (ok : HOk P w H h) (mu : Mut (H x)) (he : e = x ∨ H e = some (.own x)) (k : ∀ b u, b ≠ e -> h.get? b = some u -> h'.get? b = some u) (heo : ∃ u, h'.get? e = some u)
  (new : Zep P w (upd H x o') h' x o') : HOk P w (upd H x o') h' := fun b u q => by
 have nown : ∀ c y, H c = some (.own y) -> c ≠ x := fun c y r z => by subst z; rw [r] at mu; exact mu
 have ntup : ∀ c xs, H c = some (.tup xs) -> c ≠ x := fun c xs r z => by subst z; rw [r] at mu; exact mu
 by_cases hb : b = x
 ·subst hb; rw [upd_same] at q; cases q; exact new
 ·rw [Zaw hb] at q
  by_cases hbe : b = e
  ·have q' : H b = some (.own x) := by
    rcases he with z | z
    ·exact absurd (hbe.trans z) hb
    ·rw [hbe]; exact z
   rw [q] at q'; cases q'
   obtain ⟨v, hv⟩ := heo
   exact ⟨v, by rw [hbe]; exact hv⟩
  ·refine (ok b u q).stay (fun c v hc r => k c v ?_ r) (fun c r => by rw [Zaw (nown c b r)]; exact r) fun c xs r => by rw [Zaw (ntup c xs r)]; exact r
   rcases hc with rfl | hc
   ·exact hbe
   ·rintro rfl
    rcases he with z | z
    ·exact nown c b hc z
    ·rw [hc] at z; cases z; exact hb rfl
end
structure Un (fs ex : List Addr) (H H' : Hp) (h h' : Heap) : Prop where
 keep : ∀ b o, h.get? b = some o -> H b = none -> b ∉ fs -> b ∉ ex -> h'.get? b = some o
 slot : ∀ b o, h.get? b = some o -> H b = none -> b ∈ fs -> b ∉ ex -> ∃ sl, h'.get? b = some { o with slots := sl }
 free : ∀ b o, h.get? b = some o -> H b = none -> b ∉ ex -> H' b = none
 there : ∀ b o, h.get? b = some o -> b ∉ ex -> ∃ o', h'.get? b = some o'
 tups : ∀ b xs, H b = some (.tup xs) -> H' b = some (.tup xs)
 frzs : ∀ b o u, H b = some (.frz o u) -> H' b = some (.frz o u)
 tbls : ∀ b ps, H b = some (.tbl ps) -> ∃ more, H' b = some (.tbl (ps ++ more))
section
variable {fs fs' ex ex' : List Addr} {H H1 H2 : Hp} {h h1 h2 h' : Heap} {a x e : Addr} {o : HO}
theorem Un.any (u : Un fs ex H H1 h h1) {b : Addr} {ob : Obj} (q : h.get? b = some ob) (n : H b = none) (hx : b ∉ ex) : ∃ sl, h1.get? b = some { ob with slots := sl } := by
 by_cases hb : b ∈ fs
 ·exact u.slot b ob q n hb hx
 ·exact ⟨ob.slots, u.keep b ob q n hb hx⟩
theorem Un.trans (a : Un fs ex H H1 h h1) (b : Un fs ex H1 H2 h1 h2) : Un fs ex H H2 h h2 where
 keep := fun c ob q n hc hx => b.keep c ob (a.keep c ob q n hc hx) (a.free c ob q n hx) hc hx
 slot := fun c ob q n hc hx => by
  obtain ⟨sl, e1⟩ := a.slot c ob q n hc hx
  obtain ⟨sl', e2⟩ := b.slot c _ e1 (a.free c ob q n hx) hc hx
  exact ⟨sl', e2⟩
 free := fun c ob q n hx => by
  obtain ⟨o', e1⟩ := a.there c ob q hx
  exact b.free c o' e1 (a.free c ob q n hx) hx
 there := fun c ob q hx => by
  obtain ⟨o', e1⟩ := a.there c ob q hx
  exact b.there c o' e1 hx
 tups := fun c xs q => b.tups c xs (a.tups c xs q)
 frzs := fun c ob xs q => b.frzs c ob xs (a.frzs c ob xs q)
 tbls := fun c ps q => by
  obtain ⟨m1, e1⟩ := a.tbls c ps q
  obtain ⟨m2, e2⟩ := b.tbls c _ e1
  exact ⟨m1 ++ m2, by rw [e2, Array.append_assoc]⟩
theorem Un.kept (k : ∀ b u, h.get? b = some u -> h'.get? b = some u) : Un fs ex H H h h' :=
 ⟨fun b ob q _ _ _ => k b ob q, fun b ob q _ _ _ => ⟨ob.slots, k b ob q⟩, fun _ _ _ n _ => n, fun b ob q _ => ⟨ob, k b ob q⟩, fun _ _ q => q, fun _ _ _ q => q, fun _ ps q => ⟨#[], by rw [q]; simp⟩⟩
theorem Un.refl : Un fs ex H H h h := Un.kept fun _ _ q => q
theorem Un.laid (k : ∀ b u, h.get? b = some u -> h'.get? b = some u) (hp : h.objs.size ≤ a) (hn : H a = none) : Un fs ex H (upd H a o) h h' where
 keep := fun b u q _ _ _ => k b u q
 slot := fun b u q _ _ _ => ⟨u.slots, k b u q⟩
 free := fun b u q n _ => by rw [Zaw (Nat.ne_of_lt (Nat.lt_of_lt_of_le (Heap.lt_size q) hp))]; exact n
 there := fun b u q _ => ⟨u, k b u q⟩
 tups := fun b xs q => by rw [Zaw (Za3 q hn)]; exact q
 frzs := fun b u xs q => by rw [Zaw (Za3 q hn)]; exact q
 tbls := fun b ps q => ⟨#[], by rw [Zaw (Za3 q hn), q]; simp⟩
theorem Un.write (mu : Mut (H x)) (he : e = x ∨ H e = some (.own x)) (k : ∀ b u, b ≠ e -> h.get? b = some u -> h'.get? b = some u) (heo : ∃ u, h'.get? e = some u) : Un fs ex H (upd H x o) h h' := by
 have hx : ∀ b, H b = none -> b ≠ x := fun b n z => by subst z; rw [n] at mu; exact mu
 have hb : ∀ b, H b = none -> b ≠ e := fun b n z => by
  subst z
  rcases he with r | r
  ·exact hx b n r
  ·rw [n] at r; cases r
 have hm : ∀ b u, H b = some u -> ¬ Mut (some u) -> b ≠ x := fun b u q nm z => by subst z; rw [q] at mu; exact nm mu
 refine ⟨fun b u q n _ _ => k b u (hb b n) q, fun b u q n _ _ => ⟨u.slots, k b u (hb b n) q⟩, fun b u q n _ => by rw [Zaw (hx b n)]; exact n, fun b u q _ => ?_,
  fun b xs q => by rw [Zaw (hm b _ q fun z => z)]; exact q, fun b u xs q => by rw [Zaw (hm b _ q fun z => z)]; exact q, fun b ps q => ⟨#[], by rw [Zaw (hm b _ q fun z => z), q]; simp⟩⟩
 by_cases hbe : b = e
 ·subst hbe; exact heo
 ·exact ⟨u, k b u hbe q⟩
theorem Un.mono (u : Un fs ex H H1 h h1) (hs : ∀ b ∈ fs, b ∈ fs') (hx : ∀ b ∈ ex, b ∈ ex') : Un fs' ex' H H1 h h1 :=
 ⟨fun b ob q n hb he => u.keep b ob q n (fun z => hb (hs b z)) fun z => he (hx b z), fun _ _ q n _ he => u.any q n fun z => he (hx _ z), fun b ob q n he => u.free b ob q n fun z => he (hx b z), fun b ob q he => u.there b ob q fun z => he (hx b z), u.tups, u.frzs, u.tbls⟩
end
noncomputable def trk (h : Heap) (H : Hp) : List Addr := (List.range h.objs.size).filter fun a => (H a).isSome
noncomputable def Zrm (h : Heap) (H : Hp) : Heap := PySem.W.hideAll h (trk h H)
theorem Zp1 (h : Heap) (H : Hp) : (Zrm h H).objs.size = h.objs.size := PySem.W.hideAll_size _ _
theorem Zr0 {h : Heap} {H : Hp} {b : Addr} {o : Obj} (e : h.get? b = some o) (n : H b = none) : (Zrm h H).get? b = some o :=
 PySem.W.hideAll_get _ e fun hm => by
  have q : (H b).isSome = true := (List.mem_filter.mp hm).2
  rw [n] at q; simp at q
theorem Zug {h : Heap} {H : Hp} {b : Addr} {o : Obj} (e : (Zrm h H).get? b = some o) : h.get? b = some o ∧ H b = none := by
 have e' : h.get? b = some o := PySem.W.of_hideAll (trk h H) e
 refine ⟨e', ?_⟩
 cases q : H b with
 | none => rfl
 | some x =>
  have hm : b ∈ trk h H := List.mem_filter.mpr ⟨List.mem_range.mpr (Heap.lt_size e'), by simp [q]⟩
  have z : (Zrm h H).get? b = none := PySem.W.hideAll_none (trk h H) hm
  rw [z] at e; cases e
noncomputable def Ztz (g h : Heap) (L : Addr) : List (Addr × Obj) := (List.range h.objs.size).filterMap fun a => if a = L ∨ (g.get? a).isSome = true then none else (h.get? a).map fun o => (a, o)
noncomputable def rest (g h : Heap) (L d : Addr) : List (Addr × Obj) := (Ztz g h L).filter fun p => decide (p.1 ≠ d)
structure Mod (K : PySem.W.Frag) (mg : Str -> Option Value) (base : Heap) : Prop where
 kin : K.In base
 glob : base.Ns mainGlobals mg
 blt : ∃ mb, base.Ns builtinsNs mb ∧ ∀ x : Str, x ≠ "__name__" → mb x = bootBuiltins x
 nolimit : base.NoLimit
structure Cx where
 prog : Program
 w : World
 K : PySem.W.Frag
 mg : Str -> Option Value
 base : Heap
 A : Around
 N : List Str
 s₀ : Shared
 H₀ : Hp
 env : Env
 outer : List Env
 stack : List Env
 ex : List Addr
 fn : Str -> Bool
 calm : Bool
 pn : List (Addr × Obj)
 xe : Value -> Shared -> Prop
noncomputable def frs (l : List Env) : List Addr := l.filterMap (·.frame)
noncomputable abbrev Cx.fs (X : Cx) : List Addr := frs X.outer
noncomputable def Vis (sc : Scope) (x : Str) : Prop := sc.names.lookup x = some .local ∨ sc.names.lookup x = some .cell ∨ sc.names.lookup x = some .free
noncomputable def Loc (sc : Scope) (x : Str) : Prop := sc.names.lookup x = some .local ∨ sc.names.lookup x = some .cell
noncomputable def Look (env : Env) (h : Heap) (m : Str -> Option Value) (x : Str) (u : Value) : Prop :=
 (env.kindOf x = some .local ∧ m x = some u) ∨ ((env.kindOf x = some .cell ∨ env.kindOf x = some .free) ∧ ∃ c, env.cells.lookup x = some c ∧ h.IsCell c (some u))
structure Cx.Ok (X : Cx) : Prop where
 mod : Mod X.K X.mg X.base
 kind : X.env.scope.kind = .function
 glob : X.env.globals = mainGlobals
 blt : X.env.builtins = builtinsNs
 above : X.s₀.heap.objs.size ≤ X.env.locals
 inj : ∀ x y c, X.env.cells.lookup x = some c -> X.env.cells.lookup y = some c -> x = y
 has : ∀ x, (X.env.kindOf x = some .cell ∨ X.env.kindOf x = some .free) -> ∃ c, X.env.cells.lookup x = some c
 cab : ∀ x c, X.fn x = true -> X.env.cells.lookup x = some c -> X.s₀.heap.objs.size ≤ c
 hd : X.calm = true -> X.A.handled = none
 frames : X.A.frames = some X.stack
 stk : X.stack = X.outer ∨ (X.stack = X.env :: X.outer ∧ X.env.frame = some X.env.locals)
 exf : ∀ b ∈ X.ex, b ≠ X.env.locals ∧ ∀ x c, X.env.cells.lookup x = some c -> c ≠ b
 bs : ∀ b o, X.base.get? b = some o -> X.s₀.heap.get? b = some o ∧ X.H₀ b = none
 bsz : X.base.objs.size ≤ X.s₀.heap.objs.size
 noex : ∀ b o, X.base.get? b = some o -> b ∉ X.ex
 exfs : ∀ b ∈ X.ex, b ∉ X.fs
 funs : X.s₀.heap.FunFrames X.base X.outer
 frf : ∀ b ∈ X.fs, X.H₀ b = none
structure Inv (X : Cx) (pins : List (Addr × Obj)) (σ : List (Option V)) (H : Hp) (s : Shared) : Prop where
 ok : X.Ok
 os : s.os = X.s₀.os
 bare : AllBare s.gens
 base : Un X.fs X.ex X.H₀ H X.s₀.heap s.heap
 loc : ∃ m, s.heap.Ns X.env.locals m ∧ ∀ (i : Nat) (x : Str) (v : V), X.N[i]? = some x -> σ[i]? = some (some v) -> Vis X.env.scope x -> ∃ u, Zct v u ∧ Look X.env s.heap m x u
 cell : ∀ x c, X.env.cells.lookup x = some c -> ∃ v, s.heap.IsCell c v
 free : H X.env.locals = none
 freeC : ∀ x c, X.env.cells.lookup x = some c -> H c = none
 pin : ∀ p ∈ X.pn ++ pins, s.heap.get? p.1 = some p.2 ∧ H p.1 = none ∧ p.1 ≠ X.env.locals ∧ p.1 ∉ X.fs ∧ ∀ v, p.2.data ≠ .cell v
 hok : HOk X.prog X.w H s.heap
 len : σ.length = X.N.length
section
variable {X : Cx} {pins : List (Addr × Obj)} {σ : List (Option V)} {H H' : Hp} {s : Shared} {h' : Heap}
theorem Cx.Ok.nofr (ok : X.Ok) {b : Addr} {o : Obj} (e : X.base.get? b = some o) : b ∉ X.fs := fun hb => by
 have := (ok.funs.mem hb).1
 rw [e] at this; cases this
theorem Inv.bs (I : Inv X pins σ H s) : ∀ b o, X.base.get? b = some o -> s.heap.get? b = some o ∧ H b = none := fun b o e =>
 ⟨I.base.keep b o (I.ok.bs b o e).1 (I.ok.bs b o e).2 (I.ok.nofr e) (I.ok.noex b o e), I.base.free b o (I.ok.bs b o e).1 (I.ok.bs b o e).2 (I.ok.noex b o e)⟩
theorem Inv.bk (I : Inv X pins σ H s) : ∀ b o, X.base.get? b = some o -> s.heap.get? b = some o := fun b o e => (I.bs b o e).1
theorem Inv.mod (I : Inv X pins σ H s) : Mod X.K X.mg X.base := I.ok.mod
theorem Inv.kIn (I : Inv X pins σ H s) : X.K.In s.heap := I.ok.mod.kin.keeps I.bk
theorem Inv.nolimit (I : Inv X pins σ H s) : s.heap.NoLimit := I.ok.mod.nolimit.keeps I.bk
theorem Inv.fr (I : Inv X pins σ H s) : ∃ m, Fr X.base X.env.locals s.heap m :=
 let ⟨m, hn, _⟩ := I.loc
 ⟨m, hn, I.bk, Nat.le_trans I.ok.bsz I.ok.above⟩
theorem Inv.lt (I : Inv X pins σ H s) : X.env.locals < s.heap.objs.size := let ⟨_, hn, _⟩ := I.loc; hn.lt
theorem Inv.sz (I : Inv X pins σ H s) : X.s₀.heap.objs.size ≤ s.heap.objs.size := Nat.le_trans I.ok.above (Nat.le_of_lt I.lt)
theorem Inv.nofs (I : Inv X pins σ H s) {a : Addr} (h : s.heap.objs.size ≤ a) : a ∉ X.fs := fun hb => by
 obtain ⟨_, o, ho, _⟩ := I.ok.funs.mem hb
 exact absurd (Nat.lt_of_lt_of_le (Heap.lt_size ho) (Nat.le_trans I.sz h)) (Nat.lt_irrefl _)
theorem Inv.cne (I : Inv X pins σ H s) : ∀ x c, X.env.cells.lookup x = some c -> c ≠ X.env.locals := fun x c e z => by
 obtain ⟨v, o, ho, hd⟩ := I.cell x c e
 obtain ⟨m, ⟨o', es, ep, ho', hd', _⟩, _⟩ := I.loc
 rw [z, ho'] at ho; cases ho; rw [hd'] at hd; cases hd
theorem Inv.funs (I : Inv X pins σ H s) : s.heap.FunFrames X.base X.outer := by
 have all : ∀ (l : List Env), (∀ b ∈ frs l, b ∈ X.fs) -> X.s₀.heap.FunFrames X.base l -> s.heap.FunFrames X.base l := by
  intro l
  induction l with
  | nil => intro _ _; trivial
  | cons env r ih =>
   intro hs hl
   obtain ⟨hk, ⟨L, o, hf, hn, ho, hd⟩, hr⟩ := hl
   have hL : L ∈ X.fs := hs L (by unfold frs; rw [List.filterMap_cons, hf]; exact List.mem_cons_self)
   obtain ⟨sl, e⟩ := I.base.slot L o ho (I.ok.frf L hL) hL fun z => I.ok.exfs L z hL
   exact ⟨hk, ⟨L, _, hf, hn, e, hd⟩, ih (fun b hb => hs b (by unfold frs; rw [List.filterMap_cons, hf]; exact List.mem_cons_of_mem _ hb)) hr⟩
 exact all X.outer (fun _ hb => hb) I.ok.funs
theorem Inv.stack (I : Inv X pins σ H s) : s.heap.FunFrames X.base X.stack := by
 rcases I.ok.stk with e | ⟨e, hf⟩
 ·rw [e]; exact I.funs
 ·rw [e]
  obtain ⟨m, hn, _⟩ := I.loc
  refine .cons (by rw [I.ok.kind]; decide) hf hn ?_ I.funs
  exact Heap.get?_none_of_le (Nat.le_trans I.ok.bsz I.ok.above)
theorem Inv.stkSub (I : Inv X pins σ H s) : ∀ b ∈ frs X.stack, b ∈ X.env.locals :: X.fs := fun b hb => by
 rcases I.ok.stk with e | ⟨e, hf⟩
 ·rw [e] at hb; exact List.mem_cons_of_mem _ hb
 ·rw [e] at hb
  unfold frs at hb
  rw [List.filterMap_cons, hf] at hb
  exact hb
theorem Inv.stkFree (I : Inv X pins σ H s) : ∀ b ∈ frs X.stack, H b = none := fun b hb => by
 rcases List.mem_cons.mp (I.stkSub b hb) with e | hb
 ·rw [e]; exact I.free
 ·obtain ⟨_, o, ho, _⟩ := I.ok.funs.mem hb
  exact I.base.free b o ho (I.ok.frf b hb) fun z => I.ok.exfs b z hb
theorem Inv.step {g' : Array GenState} {t' : Nat} {d' : Drawn} {ch : List Addr} (I : Inv X pins σ H s)
  (hch : ∀ b ∈ ch, (b ∈ X.ex ∨ X.s₀.heap.objs.size ≤ b) ∧ b ≠ X.env.locals ∧ (∀ x c, X.env.cells.lookup x = some c -> c ≠ b) ∧ ∀ p ∈ X.pn ++ pins, p.1 ≠ b)
  (keep : ∀ b o, b ≠ X.env.locals -> b ∉ X.fs -> b ∉ ch -> s.heap.get? b = some o -> H b = none -> h'.get? b = some o)
  (slot : ∀ b o, b ≠ X.env.locals -> b ∈ X.fs -> b ∉ ch -> s.heap.get? b = some o -> H b = none -> ∃ sl, h'.get? b = some { o with slots := sl }) (free : ∀ b o, b ∉ ch -> s.heap.get? b = some o -> H b = none -> H' b = none)
  (there : ∀ b o, b ∉ ch -> s.heap.get? b = some o -> ∃ o', h'.get? b = some o')
  (tups : ∀ b xs, H b = some (.tup xs) -> H' b = some (.tup xs)) (frzs : ∀ b o u, H b = some (.frz o u) -> H' b = some (.frz o u)) (tbls : ∀ b ps, H b = some (.tbl ps) -> ∃ more, H' b = some (.tbl (ps ++ more)))
  (ns : ∀ m, s.heap.Ns X.env.locals m -> h'.Ns X.env.locals m) (hok : HOk X.prog X.w H' h') (hg : AllBare g') :
  Inv X pins σ H' { s with heap := h', gens := g', drawn := d', toks := t' } := by
 have neL : ∀ b o, X.s₀.heap.get? b = some o -> b ≠ X.env.locals := fun b o e => Nat.ne_of_lt (Nat.lt_of_lt_of_le (Heap.lt_size e) I.ok.above)
 have neC : ∀ b o, X.s₀.heap.get? b = some o -> b ∉ X.ex -> b ∉ ch := fun b o e hx hb => by
  rcases (hch b hb).1 with z | z
  ·exact hx z
  ·exact absurd (Nat.lt_of_lt_of_le (Heap.lt_size e) z) (Nat.lt_irrefl _)
 have cellK : ∀ x c, X.env.cells.lookup x = some c -> ∀ v, s.heap.IsCell c v -> h'.IsCell c v := fun x c e v ⟨o, ho, hd⟩ => by
  have nch : c ∉ ch := fun z => (hch c z).2.2.1 x c e rfl
  by_cases hc : c ∈ X.fs
  ·obtain ⟨sl, q⟩ := slot c o (I.cne x c e) hc nch ho (I.freeC x c e)
   exact ⟨_, q, hd⟩
  ·exact ⟨o, keep c o (I.cne x c e) hc nch ho (I.freeC x c e), hd⟩
 refine ⟨I.ok, I.os, hg, ⟨fun b o e n hb hx => ?_, fun b o e n hb hx => ?_, fun b o e n hx => ?_, fun b o e hx => ?_, fun b xs e => tups b xs (I.base.tups b xs e), fun b o xs e => frzs b o xs (I.base.frzs b o xs e), fun b ps e => ?_⟩, ?_, fun x c e => ?_, ?_, fun x c e => ?_, fun p hp => ?_, hok, I.len⟩
 ·exact keep b o (neL b o e) hb (neC b o e hx) (I.base.keep b o e n hb hx) (I.base.free b o e n hx)
 ·obtain ⟨sl, e1⟩ := I.base.slot b o e n hb hx
  obtain ⟨sl', e2⟩ := slot b _ (neL b o e) hb (neC b o e hx) e1 (I.base.free b o e n hx)
  exact ⟨sl', e2⟩
 ·obtain ⟨o', e1⟩ := I.base.there b o e hx
  exact free b o' (neC b o e hx) e1 (I.base.free b o e n hx)
 ·obtain ⟨o', e1⟩ := I.base.there b o e hx
  exact there b o' (neC b o e hx) e1
 ·obtain ⟨m1, e1⟩ := I.base.tbls b ps e
  obtain ⟨m2, e2⟩ := tbls b _ e1
  exact ⟨m1 ++ m2, by rw [e2, Array.append_assoc]⟩
 ·obtain ⟨m, hn, hl⟩ := I.loc
  refine ⟨m, ns m hn, fun i x v e1 e2 e3 => ?_⟩
  obtain ⟨u, r, l⟩ := hl i x v e1 e2 e3
  refine ⟨u, r, ?_⟩
  rcases l with l | ⟨k, c, e, z⟩
  ·exact .inl l
  ·exact .inr ⟨k, c, e, cellK x c e _ z⟩
 ·obtain ⟨v, z⟩ := I.cell x c e
  exact ⟨v, cellK x c e v z⟩
 ·obtain ⟨m, ⟨o, _, _, ho, _⟩, _⟩ := I.loc
  exact free _ o (fun z => (hch _ z).2.1 rfl) ho I.free
 ·obtain ⟨v, o, ho, hd⟩ := I.cell x c e
  exact free c o (fun z => (hch c z).2.2.1 x c e rfl) ho (I.freeC x c e)
 ·obtain ⟨e, n, ne, nf, d⟩ := I.pin p hp
  have nch : p.1 ∉ ch := fun z => (hch p.1 z).2.2.2 p hp rfl
  exact ⟨keep p.1 p.2 ne nf nch e n, free p.1 p.2 nch e n, ne, nf, d⟩
theorem Inv.un {t' : Nat} (I : Inv X pins σ H s) (u : Un X.fs [] H H' s.heap h') (hok : HOk X.prog X.w H' h') : Inv X pins σ H' { s with heap := h', toks := t' } := by
 obtain ⟨m, ⟨o, es, ep, ho, r⟩, _⟩ := id I.loc
 obtain ⟨sl, hL⟩ := u.any ho I.free (by simp)
 exact I.step (g' := s.gens) (d' := s.drawn) (ch := []) (fun _ z => nomatch z) (fun b o _ hb _ e n => u.keep b o e n hb (by simp)) (fun b o _ hb _ e n => u.slot b o e n hb (by simp)) (fun b o _ e n => u.free b o e n (by simp)) (fun b o _ e => u.there b o e (by simp)) u.tups u.frzs u.tbls (fun m' hm => by
  obtain ⟨o', es', ep', ho', r'⟩ := hm
  rw [ho] at ho'; cases ho'
  exact ⟨_, es', ep', hL, r'⟩) hok I.bare
theorem Inv.call {g' : Array GenState} {t' : Nat} {d' : Drawn} {ch : List Addr} (I : Inv X pins σ H s) (u : Un (frs X.stack) ch H H' s.heap h') (hok : HOk X.prog X.w H' h') (hg : AllBare g')
  (hch : ∀ b ∈ ch, (b ∈ X.ex ∨ X.s₀.heap.objs.size ≤ b) ∧ b ≠ X.env.locals ∧ (∀ x c, X.env.cells.lookup x = some c -> c ≠ b) ∧ ∀ p ∈ X.pn ++ pins, p.1 ≠ b) :
  Inv X pins σ H' { s with heap := h', gens := g', drawn := d', toks := t' } := by
 obtain ⟨m, ⟨o, es, ep, ho, r⟩, _⟩ := id I.loc
 obtain ⟨sl, hL⟩ := u.any ho I.free fun z => (hch _ z).2.1 rfl
 exact I.step (ch := ch) hch (fun b o hL hb hc e n => u.keep b o e n (fun z => (List.mem_cons.mp (I.stkSub b z)).elim hL hb) hc) (fun b o _ _ hc e n => u.any e n hc) (fun b o hc e n => u.free b o e n hc) (fun b o hc e => u.there b o e hc) u.tups u.frzs u.tbls (fun m' hm => by
  obtain ⟨o', es', ep', ho', r'⟩ := hm
  rw [ho] at ho'; cases ho'
  exact ⟨_, es', ep', hL, r'⟩) hok hg
theorem Inv.turned {t' : Nat} {it : Addr} (I : Inv X pins σ H s) (k : ∀ b o, b ≠ it -> s.heap.get? b = some o -> h'.get? b = some o) (hn : H it = none) (hL : it ≠ X.env.locals)
  (h1 : it ∈ X.ex ∨ X.s₀.heap.objs.size ≤ it) (h2 : ∀ x c, X.env.cells.lookup x = some c -> c ≠ it) (h3 : ∀ p ∈ X.pn ++ pins, p.1 ≠ it) : Inv X pins σ H { s with heap := h', toks := t' } := by
 have nit : ∀ b u, H b = some u -> b ≠ it := fun b u e z => by rw [z, hn] at e; cases e
 refine I.step (g' := s.gens) (d' := s.drawn) (ch := [it]) (fun b hb => ?_) (fun b o _ _ hc e _ => k b o (fun z => hc (by simp [z])) e) (fun b o _ _ hc e _ => ⟨o.slots, k b o (fun z => hc (by simp [z])) e⟩) (fun _ _ _ _ n => n)
  (fun b o hc e => ⟨o, k b o (fun z => hc (by simp [z])) e⟩) (fun _ _ e => e) (fun _ _ _ e => e) (fun b ps e => ⟨#[], by rw [e]; simp⟩) (fun m hm => ?_) (fun b u e => ?_) I.bare
 ·have e : b = it := by simpa using hb
  subst e
  exact ⟨h1, hL, h2, h3⟩
 ·obtain ⟨o, es, ep, ho, r⟩ := hm
  exact ⟨o, es, ep, k _ o (Ne.symm hL) ho, r⟩
 ·refine (I.hok b u e).stay (fun c v hc q => k c v ?_ q) (fun _ q => q) fun _ _ q => q
  rcases hc with z | z
  ·rw [z]; exact nit b u e
  ·exact nit c _ z
theorem Inv.tok (I : Inv X pins σ H s) (t : Nat) : Inv X pins σ H { s with toks := t } := I.un (h' := s.heap) (t' := t) Un.refl I.hok
theorem Inv.kept {t' : Nat} (I : Inv X pins σ H s) (k : ∀ b u, s.heap.get? b = some u -> h'.get? b = some u) : Inv X pins σ H { s with heap := h', toks := t' } := I.un (Un.kept k) (I.hok.kept k)
theorem Inv.laid {a : Addr} {o : HO} {t' : Nat} (I : Inv X pins σ H s) (k : ∀ b u, s.heap.get? b = some u -> h'.get? b = some u) (hp : s.heap.objs.size ≤ a) (new : Zep X.prog X.w (upd H a o) h' a o) :
  Inv X pins σ (upd H a o) { s with heap := h', toks := t' } := I.un (Un.laid k hp (I.hok.fresh hp)) (I.hok.laid k hp new)
theorem Inv.write {x e : Addr} {o : HO} {t' : Nat} (I : Inv X pins σ H s) (mu : Mut (H x)) (he : e = x ∨ H e = some (.own x)) (k : ∀ b u, b ≠ e -> s.heap.get? b = some u -> h'.get? b = some u) (heo : ∃ u, h'.get? e = some u)
  (new : Zep X.prog X.w (upd H x o) h' x o) : Inv X pins σ (upd H x o) { s with heap := h', toks := t' } := I.un (Un.write mu he k heo) (I.hok.write mu he k heo new)
theorem Inv.pins_of {pins' : List (Addr × Obj)} (I : Inv X pins σ H s) (h : ∀ p ∈ pins', s.heap.get? p.1 = some p.2 ∧ H p.1 = none ∧ p.1 ≠ X.env.locals ∧ p.1 ∉ X.fs ∧ ∀ v, p.2.data ≠ .cell v) : Inv X pins' σ H s :=
 ⟨I.ok, I.os, I.bare, I.base, I.loc, I.cell, I.free, I.freeC, fun p hp => (List.mem_append.mp hp).elim (fun z => I.pin p (List.mem_append_left _ z)) (h p), I.hok, I.len⟩
theorem Zix {N : List Str} (hN : N.Nodup) {i j : Nat} {x : Str} (a : N[i]? = some x) (b : N[j]? = some x) : i = j := by
 obtain ⟨h1, e1⟩ := List.getElem?_eq_some_iff.mp a
 obtain ⟨h2, e2⟩ := List.getElem?_eq_some_iff.mp b
 exact (List.getElem_inj hN).mp (e1.trans e2.symm)
theorem Zj3 {M : Model} {A : Around} {E : Value -> Shared -> Prop} {i : Nat} {x : Str} {v : V} {u : Value} {Q : Unit -> Shared -> Prop} (I : Inv X pins σ H s) (hN : X.N.Nodup) (hi : X.N[i]? = some x) (hx : Loc X.env.scope x) (r : Zct v u)
  (h : ∀ s', Inv X pins (σ.set i (some v)) H s' -> (∃ a, Heap.SameBut a s.heap s'.heap ∧ (a = X.env.locals ∨ X.env.cells.lookup x = some a)) -> Q () s') (hf : X.fn x = true ∨ X.env.scope.names.lookup x = some .local := by first | exact .inl rfl | exact .inr rfl | assumption) : wpAny M A (storeName X.env x u) Q E s := by
 obtain ⟨m, hn, hl⟩ := id I.loc
 have hcls : (X.env.scope.kind == .class || (X.env.scope.kind == .module && X.env.locals != X.env.globals)) = false := by rw [I.ok.kind]; rfl
 have hiσ : i < σ.length := by rw [I.len]; exact (List.getElem?_eq_some_iff.mp hi).1
 have cne := I.cne
 have tracked : ∀ {a : Addr} {h' : Heap}, (∃ o, s.heap.get? a = some o ∧ H a = none) -> Heap.SameBut a s.heap h' -> HOk X.prog X.w H h' := fun {a h'} ha hs b ob e => by
  obtain ⟨_, _, hfree⟩ := ha
  refine (I.hok b ob e).stay (fun c w' hc q => (hs.2 c ?_).trans q) (fun _ q => q) fun _ _ q => q
  rintro rfl
  rcases hc with rfl | hc
  ·rw [hfree] at e; cases e
  ·rw [hfree] at hc; cases hc
 rcases hx with hk | hk
 ·refine wpAny_storeName_local hk hn (fun h' hn' hs => ?_) hcls
  obtain ⟨oL, _, _, hoL, _⟩ := id hn
  refine h _ ⟨I.ok, I.os, I.bare, ⟨fun b o e n hb hx => ?_, fun b o e n hb hx => ?_, I.base.free, fun b o e hx => ?_, I.base.tups, I.base.frzs, I.base.tbls⟩, ⟨_, hn', fun j y v' e1 e2 e3 => ?_⟩, fun y c e => ?_, I.free, I.freeC, fun p hp => ?_, tracked ⟨oL, hoL, I.free⟩ hs, by simpa using I.len⟩ ⟨_, hs, .inl rfl⟩
  ·exact (hs.2 b (Nat.ne_of_lt (Nat.lt_of_lt_of_le (Heap.lt_size e) I.ok.above))).trans (I.base.keep b o e n hb hx)
  ·obtain ⟨sl, e1⟩ := I.base.slot b o e n hb hx
   exact ⟨sl, (hs.2 b (Nat.ne_of_lt (Nat.lt_of_lt_of_le (Heap.lt_size e) I.ok.above))).trans e1⟩
  ·obtain ⟨o', e1⟩ := I.base.there b o e hx
   exact ⟨o', (hs.2 b (Nat.ne_of_lt (Nat.lt_of_lt_of_le (Heap.lt_size e) I.ok.above))).trans e1⟩
  ·by_cases hj : j = i
   ·subst hj
    rw [hi] at e1; cases e1
    rw [List.getElem?_set_self hiσ] at e2
    cases e2
    exact ⟨u, r, .inl ⟨hk, by simp⟩⟩
   ·rw [List.getElem?_set_ne (Ne.symm hj)] at e2
    obtain ⟨u', r', q⟩ := hl j y v' e1 e2 e3
    refine ⟨u', r', ?_⟩
    rcases q with ⟨k, e⟩ | ⟨k, c, e, z⟩
    ·refine .inl ⟨k, ?_⟩
     have : y ≠ x := fun e => hj (Zix hN e1 (e ▸ hi))
     simp [this, e]
    ·exact .inr ⟨k, c, e, z.sameBut hs (cne y c e)⟩
  ·obtain ⟨w', z⟩ := I.cell y c e
   exact ⟨w', z.sameBut hs (cne y c e)⟩
  ·obtain ⟨e, n, ne, nf, d⟩ := I.pin p hp
   exact ⟨(hs.2 p.1 ne).trans e, n, ne, nf, d⟩
 ·have hfn : X.fn x = true := by
   rcases hf with z | z
   ·exact z
   ·rw [z] at hk; cases hk
  obtain ⟨c, hc⟩ := I.ok.has x (.inl hk)
  obtain ⟨w', z⟩ := I.cell x c hc
  refine wpAny_storeName_cell I.ok.kind hk hc z (fun h' hc' hs => ?_)
  obtain ⟨oc, hoc, hocd⟩ := id z
  refine h { s with heap := h' } ⟨I.ok, I.os, I.bare, ⟨fun b o e n hb hx => ?_, fun b o e n hb hx => ?_, I.base.free, fun b o e hx => ?_, I.base.tups, I.base.frzs, I.base.tbls⟩, ⟨m, hn.sameBut hs (Ne.symm (cne x c hc)), fun j y v' e1 e2 e3 => ?_⟩, fun y c' e => ?_, I.free, I.freeC, fun p hp => ?_, tracked ⟨oc, hoc, I.freeC x c hc⟩ hs, by simpa using I.len⟩ ⟨c, hs, .inr hc⟩
  ·exact (hs.2 b (Nat.ne_of_lt (Nat.lt_of_lt_of_le (Heap.lt_size e) (I.ok.cab x c hfn hc)))).trans (I.base.keep b o e n hb hx)
  ·obtain ⟨sl, e1⟩ := I.base.slot b o e n hb hx
   exact ⟨sl, (hs.2 b (Nat.ne_of_lt (Nat.lt_of_lt_of_le (Heap.lt_size e) (I.ok.cab x c hfn hc)))).trans e1⟩
  ·obtain ⟨o', e1⟩ := I.base.there b o e hx
   exact ⟨o', (hs.2 b (Nat.ne_of_lt (Nat.lt_of_lt_of_le (Heap.lt_size e) (I.ok.cab x c hfn hc)))).trans e1⟩
  ·by_cases hj : j = i
   ·subst hj
    rw [hi] at e1; cases e1
    rw [List.getElem?_set_self hiσ] at e2
    cases e2
    exact ⟨u, r, .inr ⟨.inl hk, c, hc, hc'⟩⟩
   ·rw [List.getElem?_set_ne (Ne.symm hj)] at e2
    obtain ⟨u', r', q⟩ := hl j y v' e1 e2 e3
    refine ⟨u', r', ?_⟩
    rcases q with q | ⟨k, c', e, z'⟩
    ·exact .inl q
    ·refine .inr ⟨k, c', e, z'.sameBut hs ?_⟩
     rintro rfl
     exact hj (Zix hN e1 (I.ok.inj _ _ _ e hc ▸ hi))
  ·by_cases hcc : c' = c
   ·subst hcc; exact ⟨_, hc'⟩
   ·obtain ⟨w2, z2⟩ := I.cell y c' e
    exact ⟨w2, z2.sameBut hs hcc⟩
  ·obtain ⟨e, n, ne, nf, d⟩ := I.pin p hp
   refine ⟨(hs.2 p.1 ?_).trans e, n, ne, nf, d⟩
   intro q
   rw [q, hoc] at e
   have q' : oc = p.2 := Option.some.inj e
   exact d w' (by rw [← q']; exact hocd)
theorem Zi1 {M : Model} {A : Around} {E : Value -> Shared -> Prop} {i : Nat} {x : Str} {v : V} {u : Value} {Q : Unit -> Shared -> Prop} (I : Inv X pins σ H s) (hN : X.N.Nodup) (hi : X.N[i]? = some x) (hx : Loc X.env.scope x) (r : Zct v u)
  (h : ∀ s', Inv X pins (σ.set i (some v)) H s' -> Q () s') (hf : X.fn x = true ∨ X.env.scope.names.lookup x = some .local := by first | exact .inl rfl | exact .inr rfl | assumption) : wpAny M A (storeName X.env x u) Q E s :=
 Zj3 I hN hi hx r (fun s' I' _ => h s' I') hf
theorem Inv.call' {s' : Shared} {ch : List Addr} (I : Inv X pins σ H s) (ho : s'.os = s.os) (u : Un (frs X.stack) ch H H' s.heap s'.heap) (hok : HOk X.prog X.w H' s'.heap) (hg : AllBare s'.gens)
  (hch : ∀ b ∈ ch, (b ∈ X.ex ∨ X.s₀.heap.objs.size ≤ b) ∧ b ≠ X.env.locals ∧ (∀ x c, X.env.cells.lookup x = some c -> c ≠ b) ∧ ∀ p ∈ X.pn ++ pins, p.1 ≠ b) : Inv X pins σ H' s' := by
 obtain ⟨h', g', d', t', o'⟩ := s'
 have e : o' = s.os := ho
 subst e
 exact I.call (g' := g') (t' := t') (d' := d') u hok hg hch
end
noncomputable abbrev XK := Value -> Option Addr -> Hp -> Prop
noncomputable abbrev St := List (Option V)
noncomputable abbrev VK := V -> Hp -> Prop
noncomputable abbrev TE := St -> Hp -> VK -> Prop
noncomputable abbrev TT := St -> Hp -> (Bool -> Hp -> Prop) -> Prop
noncomputable abbrev TA := St -> Hp -> (List V -> Hp -> Prop) -> Prop
structure Ends where
 nx : St -> Hp -> Prop
 rt : VK
 bk : St -> Hp -> Prop := fun _ _ => False
 ct : St -> Hp -> Prop := fun _ _ => False
noncomputable abbrev TS := Ends -> St -> Hp -> Prop
noncomputable def EP (X : Cx) (pins : List (Addr × Obj)) (σ : St) (Q : VK) (u : Value) (s' : Shared) : Prop := ∃ v H', Inv X pins σ H' s' ∧ Zct v u ∧ Q v H'
noncomputable def TP (X : Cx) (pins : List (Addr × Obj)) (σ : St) (Q : Bool -> Hp -> Prop) (b : Bool) (s' : Shared) : Prop := ∃ H', Inv X pins σ H' s' ∧ Q b H'
noncomputable def AP (X : Cx) (pins : List (Addr × Obj)) (σ : St) (Q : List V -> Hp -> Prop) (us : List Value) (s' : Shared) : Prop := ∃ vs H', Inv X pins σ H' s' ∧ Zbk vs us ∧ Q vs H'
noncomputable def SP (X : Cx) (pins : List (Addr × Obj)) (D : Ends) (f : Flow) (s' : Shared) : Prop :=
 match f with
 | .next => ∃ σ' H', Inv X pins σ' H' s' ∧ D.nx σ' H'
 | .brk => ∃ σ' H', Inv X pins σ' H' s' ∧ D.bk σ' H'
 | .cont => ∃ σ' H', Inv X pins σ' H' s' ∧ D.ct σ' H'
 | .ret u => ∃ v σ' H', Inv X pins σ' H' s' ∧ Zct v u ∧ D.rt v H'
noncomputable def PE (X : Cx) (e : Expr) (t : TE) : Prop :=
 ∀ (pins : List (Addr × Obj)) (s : Shared) (σ : St) (H : Hp) (Q : VK), Inv X pins σ H s -> t σ H Q -> wpAny (model X.prog X.w) X.A (eval e X.env) (EP X pins σ Q) X.xe s
noncomputable def PT (X : Cx) (e : Expr) (t : TT) : Prop :=
 ∀ (pins : List (Addr × Obj)) (s : Shared) (σ : St) (H : Hp) (Q : Bool -> Hp -> Prop), Inv X pins σ H s -> t σ H Q -> wpAny (model X.prog X.w) X.A (isTrue e X.env (eval e X.env)) (TP X pins σ Q) X.xe s
noncomputable def PW (X : Cx) (e : Expr) (t : TT) : Prop :=
 ∀ (whole : Sem Value) (pins : List (Addr × Obj)) (s : Shared) (σ : St) (H : Hp) (Q : Bool -> Hp -> Prop), Inv X pins σ H s -> t σ H Q -> wpAny (model X.prog X.w) X.A (isTrue e X.env whole) (TP X pins σ Q) X.xe s
theorem PW.pt {X : Cx} {e : Expr} {t : TT} (h : PW X e t) : PT X e t := h _
noncomputable def PA (X : Cx) (es : List Expr) (t : TA) : Prop :=
 ∀ (pos : Pos) (pins : List (Addr × Obj)) (s : Shared) (σ : St) (H : Hp) (Q : List V -> Hp -> Prop), Inv X pins σ H s -> t σ H Q -> wpAny (model X.prog X.w) X.A (spliced (backTo pos (starEach es X.env))) (AP X pins σ Q) X.xe s
noncomputable def PS (X : Cx) (st : Stmt) (t : TS) : Prop :=
 ∀ (pins : List (Addr × Obj)) (s : Shared) (σ : St) (H : Hp) (D : Ends), Inv X pins σ H s -> t D σ H -> wpAny (model X.prog X.w) X.A (exec st X.env) (SP X pins D) X.xe s
noncomputable def PSs (X : Cx) (st : List Stmt) (t : TS) : Prop :=
 ∀ (pins : List (Addr × Obj)) (s : Shared) (σ : St) (H : Hp) (D : Ends), Inv X pins σ H s -> t D σ H -> wpAny (model X.prog X.w) X.A (execs st X.env) (SP X pins D) X.xe s
theorem thn {α : Type} {t : Sem α} {Q Q' : α -> Shared -> Prop} {M : Model} {A : Around} {E : Value -> Shared -> Prop} {s : Shared} (h : wpAny M A t Q E s) (hQ : ∀ a s, Q a s -> Q' a s) : wpAny M A t Q' E s := wpAny_mono h hQ fun _ _ x => x
section
variable {X : Cx}
noncomputable def tVar (i : Nat) : TE := fun σ H Q => ∃ v, σ[i]? = some (some v) ∧ Q v H
noncomputable def tC (v : V) : TE := fun _ H Q => Q v H
theorem Zgk {i : Nat} {x : Str} {pos : Pos} (hN : X.N[i]? = some x) (hv : Vis X.env.scope x) (hd : (x == ("__debug__" : Str)) = false := by decide) (hcd : (x == ("__classdict__" : Str)) = false := by decide) : PE X (.Name x pos) (tVar i) := by
 intro pins s σ H Q I h
 obtain ⟨v, e, h⟩ := h
 obtain ⟨m, hn, hl⟩ := I.loc
 obtain ⟨u, r, l⟩ := hl i x v hN e hv
 have fin : EP X pins σ Q u s := ⟨v, H, I, r, h⟩
 rcases l with ⟨hk, hm⟩ | ⟨hk, c, hc, hcell⟩
 ·exact wpAny_Name (wpAny_loadName_local I.ok.kind hk hn hm fin) hd
 ·rcases hk with hk | hk
  ·exact wpAny_Name (wpAny_loadName_cell I.ok.kind hk hc hcell fin) hd
  ·exact wpAny_Name (wpAny_loadName_free I.ok.kind hk hc hcell fin hcd) hd
theorem Zts {i j pos} : PE X (.Constant (.int i) j pos) (tC (.int i)) := fun _ _ _ H _ I h => wpAny_Constant_int ⟨.int i, H, I.tok _, ⟨_, rfl⟩, h⟩
theorem pe_bl {b j pos} : PE X (.Constant (.bool b) j pos) (tC (.bl b)) := fun _ _ _ H _ I h => Constant_bool ⟨.bl b, H, I, rfl, h⟩
theorem Zwt {j pos} : PE X (.Constant .none j pos) (tC .non) := fun _ _ _ H _ I h => Constant_none ⟨.non, H, I, rfl, h⟩
theorem Znv {x j pos} : PE X (.Constant (.str x) j pos) (tC (.str x)) := fun _ _ _ H _ I h => Calls.Constant_str ⟨.str x, H, I.tok _, ⟨_, rfl⟩, h⟩
noncomputable def Gl (X : Cx) (x : Str) : Prop := X.env.kindOf x = some .globalImplicit
theorem Zgc {E : Value -> Shared -> Prop} {pins : List (Addr × Obj)} {s : Shared} {σ : St} {H : Hp} {x : Str} {u : Value} {pos : Pos} {Q : Value -> Shared -> Prop} (I : Inv X pins σ H s) (hg : Gl X x) (hm : X.mg x = some u) (h : Q u s)
  (hd : (x == ("__debug__" : Str)) = false := by decide) : wpAny (model X.prog X.w) X.A (eval (.Name x pos) X.env) Q E s :=
 Calls.Name_function_global I.ok.kind hg (Calls.loadGlobal_global (by rw [I.ok.glob]; exact I.mod.glob.keeps I.bk) hm h) hd
theorem Zhp {E : Value -> Shared -> Prop} {pins : List (Addr × Obj)} {s : Shared} {σ : St} {H : Hp} {x : Str} {u : Value} {pos : Pos} {Q : Value -> Shared -> Prop} (I : Inv X pins σ H s) (hg : Gl X x) (hm : X.mg x = none) (hv : bootBuiltins x = some u) (h : Q u s)
  (hn : x ≠ "__name__" := by decide) (hd : (x == ("__debug__" : Str)) = false := by decide) : wpAny (model X.prog X.w) X.A (eval (.Name x pos) X.env) Q E s := by
 obtain ⟨mb, h1, h2⟩ := I.mod.blt
 exact Calls.Name_function_global I.ok.kind hg (Calls.loadGlobal_builtin (by rw [I.ok.glob]; exact I.mod.glob.keeps I.bk) hm (by rw [I.ok.blt]; exact h1.keeps I.bk) ((h2 x hn).trans hv) h) hd
theorem Zob {x : Str} {v : V} {u : Value} {pos : Pos} (hg : Gl X x) (hm : X.mg x = some u) (r : Zct v u) (hd : (x == ("__debug__" : Str)) = false := by decide) : PE X (.Name x pos) (tC v) :=
 fun _ _ _ H _ I h => Zgc I hg hm ⟨v, H, I, r, h⟩ hd
theorem Zn9 {x : Str} {v : V} {u : Value} {pos : Pos} (hg : Gl X x) (hm : X.mg x = none) (hv : bootBuiltins x = some u) (r : Zct v u) (hn : x ≠ "__name__" := by decide) (hd : (x == ("__debug__" : Str)) = false := by decide) : PE X (.Name x pos) (tC v) :=
 fun _ _ _ H _ I h => Zhp I hg hm hv ⟨v, H, I, r, h⟩ hn hd
variable {a b : Expr} {ta tb : TE} {pos : Pos}
variable {tA tB' : TT} {rest : List Expr}
noncomputable def tAnd (t u : TT) : TT := fun σ H Q => t σ H fun c H1 => if c = true then u σ H1 Q else Q false H1
noncomputable def tOr (t u : TT) : TT := fun σ H Q => t σ H fun c H1 => if c = true then Q true H1 else u σ H1 Q
noncomputable def tNot (t : TT) : TT := fun σ H Q => t σ H fun c H1 => Q (!c) H1
theorem Zu0 (ha : PT X a tA) : PW X (.BoolOp .And [a] pos) tA := by
 intro wh pins s σ H Q I h
 refine isTrue_and (thn (ha pins s σ H Q I h) fun c s1 e => ?_)
 cases c with
 | true => exact isTrue_and_nil e
 | false => exact e
theorem Zw4 (ha : PT X a tA) : PW X (.BoolOp .Or [a] pos) tA := by
 intro wh pins s σ H Q I h
 refine isTrue_or (thn (ha pins s σ H Q I h) fun c s1 e => ?_)
 cases c with
 | false => exact isTrue_or_nil e
 | true => exact e
theorem Zyz (ha : PT X a tA) (hb : PW X (.BoolOp .And (b :: rest) pos) tB') : PW X (.BoolOp .And (a :: b :: rest) pos) (tAnd tA tB') := by
 intro wh pins s σ H Q I h
 refine isTrue_and (thn (ha pins s σ H _ I h) fun c s1 zz => ?_)
 obtain ⟨H1, I1, q1⟩ := zz
 cases c with
 | true => exact hb wh pins s1 σ H1 Q I1 q1
 | false => exact ⟨H1, I1, q1⟩
theorem pw_or (ha : PT X a tA) (hb : PW X (.BoolOp .Or (b :: rest) pos) tB') : PW X (.BoolOp .Or (a :: b :: rest) pos) (tOr tA tB') := by
 intro wh pins s σ H Q I h
 refine isTrue_or (thn (ha pins s σ H _ I h) fun c s1 zz => ?_)
 obtain ⟨H1, I1, q1⟩ := zz
 cases c with
 | true => exact ⟨H1, I1, q1⟩
 | false => exact hb wh pins s1 σ H1 Q I1 q1
theorem Zxi (ha : PT X a tA) : PT X (.UnaryOp .Not a pos) (tNot tA) := by
 intro pins s σ H Q I h
 exact isTrue_not (ha pins s σ H (fun c H1 => Q (!c) H1) I h)
noncomputable def tAndV (ta tb : TE) : TE := fun σ H Q => ta σ H fun x H1 => ∃ c, x = .bl c ∧ if c = true then tb σ H1 Q else Q (.bl false) H1
noncomputable def tOrV (ta tb : TE) : TE := fun σ H Q => ta σ H fun x H1 => ∃ c, x = .bl c ∧ if c = true then Q (.bl true) H1 else tb σ H1 Q
noncomputable def tNotV (ta : TE) : TE := fun σ H Q => ta σ H fun x H1 => ∃ c, x = .bl c ∧ Q (.bl (!c)) H1
theorem Zw5 {op} {t : TE} (h : PE X a t) : PE X (.BoolOp op [a] pos) t := fun pins s σ H Q I hw => BoolOp_one (h pins s σ H Q I hw)
theorem Zw9 (ha : PE X a ta) (hb : PE X (.BoolOp .And (b :: rest) pos) tb) : PE X (.BoolOp .And (a :: b :: rest) pos) (tAndV ta tb) := by
 intro pins s σ H Q I h
 refine BoolOp_and (thn (ha pins s σ H _ I h) fun v s1 zz => ?_)
 obtain ⟨x, H1, I1, r1, q1⟩ := zz
 obtain ⟨c, rfl, q1⟩ := q1
 cases r1
 refine wpAny_truthy_bool ?_
 cases c with
 | true => exact hb pins s1 σ H1 Q I1 q1
 | false => exact ⟨.bl false, H1, I1, rfl, q1⟩
theorem pe_or (ha : PE X a ta) (hb : PE X (.BoolOp .Or (b :: rest) pos) tb) : PE X (.BoolOp .Or (a :: b :: rest) pos) (tOrV ta tb) := by
 intro pins s σ H Q I h
 refine BoolOp_or (thn (ha pins s σ H _ I h) fun v s1 zz => ?_)
 obtain ⟨x, H1, I1, r1, q1⟩ := zz
 obtain ⟨c, rfl, q1⟩ := q1
 cases r1
 refine wpAny_truthy_bool ?_
 cases c with
 | false => exact hb pins s1 σ H1 Q I1 q1
 | true => exact ⟨.bl true, H1, I1, rfl, q1⟩
theorem Zyg (ha : PE X a ta) : PE X (.UnaryOp .Not a pos) (tNotV ta) := by
 intro pins s σ H Q I h
 refine UnaryOp_ (thn (ha pins s σ H _ I h) fun v s1 zz => ?_)
 obtain ⟨x, H1, I1, r1, q1⟩ := zz
 obtain ⟨c, rfl, q1⟩ := q1
 cases r1
 exact not_of (wpAny_truthy_bool ⟨.bl (!c), H1, I1, rfl, q1⟩)
noncomputable def tIf (t : TT) (ta tb : TE) : TE := fun σ H Q => t σ H fun c H1 => if c = true then ta σ H1 Q else tb σ H1 Q
theorem Zri {c : Expr} (hc : PT X c tA) (ha : PE X a ta) (hb : PE X b tb) : PE X (.IfExp c a b pos) (tIf tA ta tb) := by
 intro pins s σ H Q I h
 refine wpAny_IfExp (thn (hc pins s σ H _ I h) fun d s1 zz => ?_)
 obtain ⟨H1, I1, q1⟩ := zz
 cases d with
 | true => exact ha pins s1 σ H1 Q I1 q1
 | false => exact hb pins s1 σ H1 Q I1 q1
end
noncomputable def SqL (K : PySem.W.Frag) (H : Hp) (a : Addr) (xs : List V) : Prop :=
 Rd H a (.lst xs) ∨
  ∃ (o : Obj) (its : Array Value) (n : Nat), K.lookup a = some o ∧ o.cls = .type "list" ∧ o.dict = none ∧ o.data = .seq its n ∧ its.size ≤ sizeLine ∧ Zbk xs its.toList
noncomputable def SqT (K : PySem.W.Frag) (H : Hp) (a : Addr) (xs : List V) : Prop :=
 Rd H a (.tup xs) ∨
  ∃ (o : Obj) (its : Array Value) (n : Nat), K.lookup a = some o ∧ o.cls = .type "tuple" ∧ o.data = .seq its n ∧ its.size ≤ sizeLine ∧ Zbk xs its.toList ∧ o.dict = none
noncomputable def absV : Value -> Option V
 | .none => some .non
 | .bool b => some (.bl b)
 | .int i _ => some (.int i)
 | .str x _ => some (.str x)
 | .bytes b _ => some (.byt b)
 | .float b _ => some (.flt b)
 | .ref a => some (.ref a)
 | .type n => some (.ty n)
 | _ => none
theorem Zct.abs {x : V} {u : Value} (r : Zct x u) : absV u = some x := by
 cases x with
 | non => cases r; rfl
 | bl _ => cases r; rfl
 | int _ => obtain ⟨t, rfl⟩ := r; rfl
 | str _ => obtain ⟨t, rfl⟩ := r; rfl
 | byt _ => obtain ⟨t, rfl⟩ := r; rfl
 | flt _ => obtain ⟨t, rfl⟩ := r; rfl
 | ref _ => cases r; rfl
 | ty _ => cases r; rfl
theorem Zct.inj {x y : V} {u : Value} (r : Zct x u) (q : Zct y u) : x = y := Option.some.inj (r.abs.symm.trans q.abs)
theorem Zbk.inj : ∀ {xs ys : List V} {us : List Value}, Zbk xs us -> Zbk ys us -> xs = ys := by
 intro xs ys us h
 induction h generalizing ys with
 | nil => intro h'; cases h'; rfl
 | cons r t ih =>
  intro h'
  cases h' with
  | cons r' t' => rw [r.inj r', ih t']
section
variable {X : Cx} {pins : List (Addr × Obj)} {σ : St} {H : Hp} {s : Shared} {a : Addr} {xs ys : List V}
theorem SqL.of {K : PySem.W.Frag} (h : H a = some (.lst xs)) : SqL K H a xs := .inl (.inl h)
theorem SqT.of {K : PySem.W.Frag} (h : H a = some (.tup xs)) : SqT K H a xs := .inl (.inl h)
theorem Inv.list (I : Inv X pins σ H s) (h : SqL X.K H a xs) : ∃ its : List Value, Zbk xs its ∧ PlainL s.heap a its.toArray ∧ xs.length ≤ sizeLine := by
 rcases h with h | ⟨o, its, n, hk, hc, hd, hs, hz, r⟩
 ·obtain ⟨z, its, n, r, e⟩ := h.ok I.hok
  exact ⟨its, r, ⟨_, n, e, rfl, rfl, rfl⟩, z⟩
 ·refine ⟨its.toList, r, ⟨o, n, I.kIn a o hk, hc, hd, by simpa using hs⟩, ?_⟩
  have e := r.length
  simp only [Array.length_toList] at e
  omega
theorem Inv.tuple (I : Inv X pins σ H s) (h : SqT X.K H a xs) : ∃ its : List Value, Zbk xs its ∧ IsTup s.heap a its.toArray ∧ xs.length ≤ sizeLine := by
 rcases h with h | ⟨o, its, n, hk, hc, hs, hz, r, _⟩
 ·obtain ⟨z, its, r, p⟩ := h.ok I.hok
  exact ⟨its, r, p.tup, z⟩
 ·refine ⟨its.toList, r, ⟨o, I.kIn a o hk, hc, n, by simpa using hs⟩, ?_⟩
  have e := r.length
  simp only [Array.length_toList] at e
  omega
theorem Inv.list_inj (I : Inv X pins σ H s) (h : SqL X.K H a xs) (h' : SqL X.K H a ys) : xs = ys := by
 obtain ⟨its, r, ⟨o, n, e, _, _, d⟩, _⟩ := I.list h
 obtain ⟨its', r', ⟨o', n', e', _, _, d'⟩, _⟩ := I.list h'
 rw [e] at e'; cases e'
 rw [d] at d'
 injection d' with d1 _
 have : its = its' := by simpa using congrArg Array.toList d1
 subst this
 exact r.inj r'
theorem Inv.tuple_inj (I : Inv X pins σ H s) (h : SqT X.K H a xs) (h' : SqT X.K H a ys) : xs = ys := by
 obtain ⟨its, r, ⟨o, e, _, n, d⟩, _⟩ := I.tuple h
 obtain ⟨its', r', ⟨o', e', _, n', d'⟩, _⟩ := I.tuple h'
 rw [e] at e'; cases e'
 rw [d] at d'
 injection d' with d1 _
 have : its = its' := by simpa using congrArg Array.toList d1
 subst this
 exact r.inj r'
end
noncomputable abbrev Cx.wish (X : Cx) (E : Value -> Shared -> Prop) : Cx := { X with xe := E }
noncomputable abbrev Cx.nox (X : Cx) : Cx := X.wish fun _ _ => False
theorem Cx.Ok.wish {X : Cx} (ok : X.Ok) (E : Value -> Shared -> Prop) : (X.wish E).Ok :=
 ⟨ok.mod, ok.kind, ok.glob, ok.blt, ok.above, ok.inj, ok.has, ok.cab, ok.hd, ok.frames, ok.stk, ok.exf, ok.bs, ok.bsz, ok.noex, ok.exfs, ok.funs, ok.frf⟩
theorem Cx.Ok.unwish {X : Cx} {E : Value -> Shared -> Prop} (ok : (X.wish E).Ok) : X.Ok :=
 ⟨ok.mod, ok.kind, ok.glob, ok.blt, ok.above, ok.inj, ok.has, ok.cab, ok.hd, ok.frames, ok.stk, ok.exf, ok.bs, ok.bsz, ok.noex, ok.exfs, ok.funs, ok.frf⟩
section
variable {X : Cx} {pins : List (Addr × Obj)} {σ : St} {H : Hp} {s : Shared} {E : Value -> Shared -> Prop}
theorem Inv.wish (I : Inv X pins σ H s) (E : Value -> Shared -> Prop) : Inv (X.wish E) pins σ H s := ⟨I.ok.wish E, I.os, I.bare, I.base, I.loc, I.cell, I.free, I.freeC, I.pin, I.hok, I.len⟩
theorem Inv.unwish (I : Inv (X.wish E) pins σ H s) : Inv X pins σ H s := ⟨I.ok.unwish, I.os, I.bare, I.base, I.loc, I.cell, I.free, I.freeC, I.pin, I.hok, I.len⟩
theorem SP.unwish {D : Ends} {f : Flow} {s' : Shared} (h : SP (X.wish E) pins D f s') : SP X pins D f s' := by
 cases f with
 | next => obtain ⟨σ', H', I, q⟩ := h; exact ⟨σ', H', I.unwish, q⟩
 | brk => obtain ⟨σ', H', I, q⟩ := h; exact ⟨σ', H', I.unwish, q⟩
 | cont => obtain ⟨σ', H', I, q⟩ := h; exact ⟨σ', H', I.unwish, q⟩
 | ret u => obtain ⟨v, σ', H', I, r, q⟩ := h; exact ⟨v, σ', H', I.unwish, r, q⟩
theorem PE.nox {e : Expr} {t : TE} (h : PE X.nox e t) : PE X e t := fun pins s σ H Q I hw =>
 wpAny_mono (h pins s σ H Q (I.wish _) hw) (fun _ _ ⟨v, H', I', r, q⟩ => ⟨v, H', I'.unwish, r, q⟩) fun _ _ z => False.elim z
theorem PT.nox {e : Expr} {t : TT} (h : PT X.nox e t) : PT X e t := fun pins s σ H Q I hw =>
 wpAny_mono (h pins s σ H Q (I.wish _) hw) (fun _ _ ⟨H', I', q⟩ => ⟨H', I'.unwish, q⟩) fun _ _ z => False.elim z
theorem PSs.nox {st : List Stmt} {t : TS} (h : PSs X.nox st t) : PSs X st t := fun pins s σ H D I hw =>
 wpAny_mono (h pins s σ H D (I.wish _) hw) (fun _ _ q => q.unwish) fun _ _ z => False.elim z
end
section
variable {X : Cx} {st : Stmt} {rest : List Stmt} {t u : TS} {e : Expr} {te : TE} {pos : Pos}
noncomputable def tNext : TS := fun D σ H => D.nx σ H
noncomputable def tSeq (t u : TS) : TS := fun D σ H => t { D with nx := u D } σ H
theorem Zp6 : PSs X [] tNext := fun _ _ σ H _ I h => wpAny_execs_nil ⟨σ, H, I, h⟩
theorem Zfu (h1 : PS X st t) (h2 : PSs X rest u) : PSs X (st :: rest) (tSeq t u) := by
 intro pins s σ H D I h
 refine wpAny_execs_cons (thn (h1 pins s σ H { D with nx := u D } I h) fun f s1 q => ?_)
 cases f with
 | next =>
  obtain ⟨σ', H', I', q⟩ := q
  exact h2 pins s1 σ' H' D I' q
 | ret v => exact q
 | brk => exact q
 | cont => exact q
theorem Zt9 (h1 : PS X st t) : PSs X [st] t := by
 intro pins s σ H D I h
 refine wpAny_execs_cons (thn (h1 pins s σ H D I h) fun f s1 q => ?_)
 cases f with
 | next => exact wpAny_execs_nil q
 | ret v => exact q
 | brk => exact q
 | cont => exact q
theorem Inv.quiet {pins : List (Addr × Obj)} {σ : St} {H : Hp} {s : Shared} (I : Inv X pins σ H s) : interactive X.env = false := by simp [interactive, I.ok.kind]
noncomputable def tDrop (te : TE) : TS := fun D σ H => te σ H fun _ H1 => D.nx σ H1
theorem Zov (he : PE X e te) (hs : swapsWith e none pos.line X.env = pure false := by rfl) : PS X (.Expr e pos) (tDrop te) := by
 intro pins s σ H D I h
 exact wpAny_Expr_any (thn (he pins s σ H _ I h) fun v s1 ⟨x, H1, I1, r1, q1⟩ => ⟨σ, H1, I1, q1⟩) I.quiet hs
noncomputable def tRet (te : TE) : TS := fun D σ H => te σ H D.rt
theorem Zz6 (he : PE X e te) : PS X (.Return (some e) pos) (tRet te) := by
 intro pins s σ H D I h
 exact wpAny_Return_some (thn (he pins s σ H _ I h) fun v s1 ⟨x, H1, I1, r1, q1⟩ => ⟨x, σ, H1, I1, r1, q1⟩)
noncomputable def tIfS (c : TT) (t u : TS) : TS := fun D σ H => c σ H fun b H1 => if b = true then t D σ H1 else u D σ H1
theorem Zyk {c : Expr} {a b : List Stmt} {tc : TT} (hc : PT X c tc) (ha : PSs X a t) (hb : PSs X b u) : PS X (.If c a b pos) (tIfS tc t u) := by
 intro pins s σ H D I h
 refine wpAny_If (thn (hc pins s σ H _ I h) fun d s1 zz => ?_)
 obtain ⟨H1, I1, q1⟩ := zz
 cases d with
 | true => exact ha pins s1 σ H1 D I1 q1
 | false => exact hb pins s1 σ H1 D I1 q1
end
noncomputable abbrev TG := V -> St -> Hp -> (St -> Hp -> Prop) -> Prop
noncomputable abbrev TGs := List V -> St -> Hp -> (St -> Hp -> Prop) -> Prop
noncomputable def PG (X : Cx) (target : Expr) (t : TG) : Prop :=
 ∀ (pins : List (Addr × Obj)) (s : Shared) (σ : St) (H : Hp) (v : V) (u : Value) (Q : St -> Hp -> Prop), Inv X pins σ H s -> Zct v u -> t v σ H Q →
  wpAny (model X.prog X.w) X.A (assign target X.env u) (fun _ s' => ∃ σ' H', Inv X pins σ' H' s' ∧ Q σ' H') X.xe s
noncomputable def PGs (X : Cx) (ts : List Expr) (t : TGs) : Prop :=
 ∀ (pins : List (Addr × Obj)) (s : Shared) (σ : St) (H : Hp) (vs : List V) (us : List Value) (Q : St -> Hp -> Prop), Inv X pins σ H s -> Zbk vs us -> t vs σ H Q →
  wpAny (model X.prog X.w) X.A (assignInOrder ((assignEach ts X.env).map (·.2)) us) (fun _ s' => ∃ σ' H', Inv X pins σ' H' s' ∧ Q σ' H') X.xe s
noncomputable abbrev TSet := V -> V -> V -> Hp -> (Hp -> Prop) -> Prop
noncomputable def PSet (X : Cx) (t : TSet) : Prop :=
 ∀ (pins : List (Addr × Obj)) (s : Shared) (σ : St) (H : Hp) (o i v : V) (ov iv u : Value) (Q : Hp -> Prop), Inv X pins σ H s -> Zct o ov -> Zct i iv -> Zct v u -> t o i v H Q →
  wpAny (model X.prog X.w) X.A (setItem ov iv u) (fun _ s' => ∃ H', Inv X pins σ H' s' ∧ Q H') X.xe s
section
variable {X : Cx} {pos : Pos}
noncomputable def Zo8 (i : Nat) : TG := fun v σ H Q => Q (σ.set i (some v)) H
theorem Zoo {i : Nat} {x : Str} (hN : X.N.Nodup) (hi : X.N[i]? = some x) (hx : Loc X.env.scope x) (hf : X.fn x = true ∨ X.env.scope.names.lookup x = some .local := by first | exact .inl rfl | exact .inr rfl | assumption) : PG X (.Name x pos) (Zo8 i) := by
 intro pins s σ H v u Q I r h
 exact wpAny_assign_Name (Zi1 I hN hi hx r (fun s' I' => ⟨_, H, I', h⟩) hf)
noncomputable def gNil : TGs := fun vs σ H Q => vs = [] ∧ Q σ H
noncomputable def gCons (t : TG) (u : TGs) : TGs := fun vs σ H Q => ∃ v r, vs = v :: r ∧ t v σ H fun σ' H' => u r σ' H' Q
theorem Zt5 : PGs X [] gNil := by
 intro pins s σ H vs us Q I r h
 obtain ⟨e, h⟩ := h
 subst e
 cases r
 exact assignInOrder_nil ⟨σ, H, I, h⟩
theorem Zsf {e : Expr} {es : List Expr} {t : TG} {u : TGs} (h1 : PG X e t) (h2 : PGs X es u)
  (hs : (assignEach (e :: es) X.env).map (·.2) = assign e X.env :: (assignEach es X.env).map (·.2) := by rfl) : PGs X (e :: es) (gCons t u) := by
 intro pins s σ H vs us Q I r h
 obtain ⟨v, vr, e1, h⟩ := h
 subst e1
 cases r with
 | cons r rr =>
  rw [hs]
  refine assignInOrder_cons (thn (h1 pins s σ H _ _ _ I r h) fun _ s1 zz => ?_)
  obtain ⟨σ1, H1, I1, q1⟩ := zz
  exact h2 pins s1 σ1 H1 _ _ Q I1 rr q1
noncomputable def gTup (K : PySem.W.Frag) (n : Nat) (t : TGs) : TG := fun v σ H Q => ∃ a xs, v = .ref a ∧ SqT K H a xs ∧ xs.length = n ∧ t xs σ H Q
theorem Zza {es : List Expr} {k : Nat} {t : TGs} {n : Nat} (hc : X.calm = true) (h : PGs X es t)
  (hn : (assignEach es X.env).length = n := by rfl) (hst : (assignEach es X.env).findIdx? (·.1) = none := by rfl) : PG X (.Tuple es k pos) (gTup X.K n t) := by
 intro pins s σ H v u Q I r hw
 obtain ⟨a, xs, e1, hq, hl, hw⟩ := hw
 subst e1
 cases r
 obtain ⟨its, rv, ht, hz⟩ := I.tuple hq
 refine assign_Tuple_tuple (I.ok.hd hc) ht (by simp [hn, ← hl, rv.length]) hst fun h' hx => ?_
 have I1 : Inv X pins σ H { s with heap := h' } := I.kept (t' := s.toks) fun b o e => hx b o (Nat.ne_of_lt (Heap.lt_size e)) e
 exact h pins _ σ H xs _ Q I1 (by simpa using rv) hw
noncomputable def gSub (to ti : TE) (t : TSet) : TG := fun v σ H Q => to σ H fun o H1 => ti σ H1 fun i H2 => t o i v H2 fun H3 => Q σ H3
theorem Zy4 {o i : Expr} {to ti : TE} {t : TSet} (ho : PE X o to) (hi : PE X i ti) (hs : PSet X t)
  (ha : ∀ v, assign (.Subscript o i pos) X.env v = (do
   let ov ← holding [v] (eval o X.env)
   let iv ← holding [v, ov] (eval i X.env)
   standAt pos
   holding [v, ov, iv] (setItem ov iv v)
   release [v, ov, iv] []) := by intro _; rfl) : PG X (.Subscript o i pos) (gSub to ti t) := by
 intro pins s σ H v u Q I r h
 rw [ha]
 refine wpAny_bind (wpAny_holding (thn (ho pins s σ H _ I h) fun ov s1 zz => ?_))
 obtain ⟨x, H1, I1, r1, q1⟩ := zz
 refine wpAny_bind (wpAny_holding (thn (hi pins s1 σ H1 _ I1 q1) fun iv s2 zz => ?_))
 obtain ⟨y, H2, I2, r2, q2⟩ := zz
 refine wpAny_bind (wpAny_standAt (wpAny_bind (wpAny_holding (thn (hs pins s2 σ H2 x y v ov iv u _ I2 r1 r2 r q2) fun _ s3 zz => ?_))))
 obtain ⟨H3, I3, q3⟩ := zz
 exact wpAny_release ⟨σ, H3, I3, q3⟩
noncomputable def tAsg (te : TE) (g : TG) : TS := fun D σ H => te σ H fun x H1 => g x σ H1 D.nx
theorem Zxk {tg e : Expr} {te : TE} {g : TG} (he : PE X e te) (hg : PG X tg g) (hs : swapsWithSole [tg] e pos.line X.env = pure false := by rfl) (hw : swappedStores [tg] e X.env = pure none := by rfl)
  (h1 : (assignEach [tg] X.env).map (·.2) = [assign tg X.env] := by rfl) : PS X (.Assign [tg] e pos) (tAsg te g) := by
 intro pins s σ H D I h
 refine wpAny_Assign_stores (thn (he pins s σ H _ I h) fun v s1 ⟨x, H1, I1, r1, q1⟩ => ?_) hs hw
 rw [h1]
 exact thn (hg pins s1 σ H1 x v _ I1 r1 q1) fun _ s2 q => q
theorem Ztn {i : Nat} {x : Str} {e : Expr} {te : TE} {pos' : Pos} (hN : X.N.Nodup) (hi : X.N[i]? = some x) (hx : Loc X.env.scope x) (he : PE X e te) (hs : swapsWith e (some (.Name x pos')) pos.line X.env = pure false := by rfl) (hf : X.fn x = true ∨ X.env.scope.names.lookup x = some .local := by first | exact .inl rfl | exact .inr rfl | assumption) :
  PS X (.Assign [.Name x pos'] e pos) (tAsg te (Zo8 i)) := by
 intro pins s σ H D I h
 refine wpAny_Assign_Name (thn (he pins s σ H _ I h) fun v s1 ⟨y, H1, I1, r1, q1⟩ => ?_) hs
 exact Zi1 I1 hN hi hx r1 (fun s2 I2 => ⟨_, H1, I2, q1⟩) hf
end
section
variable {X : Cx} {pos : Pos}
end
structure It where
 go : Nat -> Hp -> Prop
 yld : Nat -> Hp -> V -> Hp -> Prop
 stop : Nat -> Hp -> Prop
noncomputable def Zpx (X : Cx) (pins : List (Addr × Obj)) (H : Hp) (b : Addr) : Prop :=
 H b = none ∧ b ≠ X.env.locals ∧ b ∉ X.fs ∧ (b ∈ X.ex ∨ X.s₀.heap.objs.size ≤ b) ∧ (∀ x c, X.env.cells.lookup x = some c -> c ≠ b) ∧ ∀ p ∈ X.pn ++ pins, p.1 ≠ b
theorem Inv.fpOk {X : Cx} {pins : List (Addr × Obj)} {σ : St} {H H' : Hp} {s : Shared} {b : Addr} (I : Inv X pins σ H s) (hb : s.heap.objs.size ≤ b) (hn : H' b = none) : Zpx X pins H' b := by
 refine ⟨hn, Nat.ne_of_gt (Nat.lt_of_lt_of_le I.lt hb), I.nofs hb, .inr (Nat.le_trans I.sz hb), fun x c e z => ?_, fun p hp z => ?_⟩
 ·obtain ⟨v, q⟩ := I.cell x c e
  exact absurd (Nat.lt_of_lt_of_le q.lt (by rw [z]; exact hb)) (Nat.lt_irrefl _)
 ·exact absurd (Nat.lt_of_lt_of_le (Heap.lt_size (I.pin p hp).1) (by rw [z]; exact hb)) (Nat.lt_irrefl _)
structure Turn (P : Program) (w : World) (K : PySem.W.Frag) (tg : Expr) (J : It) (fp : List Addr) (it : Addr) (tn : Nat -> Heap -> Prop) : Prop where
 mem : it ∈ fp
 obj : ∀ i h, tn i h -> ∀ b ∈ fp, ∃ o, h.get? b = some o ∧ ∀ v, o.data ≠ .cell v
 keep : ∀ i h h', tn i h -> (∀ b ∈ fp, ∀ o, h.get? b = some o -> h'.get? b = some o) -> tn i h'
 item : ∀ (X : Cx), X.prog = P -> X.w = w -> X.K = K -> X.calm = true -> ∀ (i : Nat) (pins : List (Addr × Obj)) (s : Shared) (σ : St) (H : Hp) (E : Value -> Shared -> Prop), Inv X pins σ H s -> (∀ b ∈ fp, Zpx X pins H b) -> tn i s.heap -> J.go i H →
  wpAny (model P w) X.A (pyNext (.ref it)) (fun r s1 => ∃ u, r = some u ∧
   wpAny (model P w) X.A (letOwnedTupleGo tg (.ref it) u) (fun _ s2 => ∃ x H', Inv X pins σ H' s2 ∧ Zct x u ∧ J.yld i H x H' ∧ tn (i + 1) s2.heap ∧ ∀ b ∈ fp, H' b = none) E s1) E s
 done : ∀ (X : Cx), X.prog = P -> X.w = w -> X.K = K -> X.calm = true -> ∀ (i : Nat) (pins : List (Addr × Obj)) (s : Shared) (σ : St) (H : Hp) (E : Value -> Shared -> Prop), Inv X pins σ H s -> (∀ b ∈ fp, Zpx X pins H b) -> tn i s.heap -> J.stop i H →
  wpAny (model P w) X.A (pyNext (.ref it)) (fun r s1 => r = none ∧ Inv X pins σ H s1) E s
 self : ∀ (A : Around) (i : Nat) (s : Shared) (Q : Value -> Shared -> Prop) (E : Value -> Shared -> Prop), tn i s.heap -> Q (.ref it) s -> wpAny (model P w) A (pyIter (.ref it)) Q E s
noncomputable abbrev TI := St -> Hp -> (It -> Hp -> Prop) -> Prop
noncomputable def PIE (X : Cx) (pins : List (Addr × Obj)) (σ : St) (tg : Expr) (R : It -> Hp -> Prop) (itv : Value) (s2 : Shared) : Prop :=
 ∃ (it : Addr) (fp : List Addr) (tn : Nat -> Heap -> Prop) (J : It) (H' : Hp), itv = .ref it ∧ Inv X pins σ H' s2 ∧ Turn X.prog X.w X.K tg J fp it tn ∧ tn 0 s2.heap ∧ (∀ b ∈ fp, Zpx X pins H' b) ∧ R J H'
noncomputable def PI (X : Cx) (tg iter : Expr) (wi : TI) : Prop :=
 ∀ (pins : List (Addr × Obj)) (s : Shared) (σ : St) (H : Hp) (R : It -> Hp -> Prop), Inv X pins σ H s -> wi σ H R →
  wpAny (model X.prog X.w) X.A (eval iter X.env) (fun v s1 => wpAny (model X.prog X.w) X.A (pyIter v) (PIE X pins σ tg R) X.xe s1) X.xe s
theorem Zrq {M : Model} {A : Around} {E : Value -> Shared -> Prop} {s : Shared} {tg : Expr} {it : Addr} {u : Value} {o : Obj} {n : String} {vs : Array Value} {Q : Unit -> Shared -> Prop} (ho : s.heap.get? it = some o) (hc : o.cls = .type n) (hd : o.data = .fields vs)
  (hn : ["enumerate", "zip", "dict_itemiterator", "dict_reverseitemiterator", "odict_iterator", "itertools.zip_longest", "itertools.pairwise"].contains n = false) (hQ : Q () s) : wpAny M A (letOwnedTupleGo tg (.ref it) u) Q E s := by
 unfold letOwnedTupleGo
 cases tg <;> first
  | exact wpAny_pure hQ
  | (cases u <;> first
    | exact wpAny_pure hQ
    | (refine wpAny_bind (wpAny_load ho ?_)
       rw [hc, hd]
       show wpAny M A (if (["enumerate", "zip", "dict_itemiterator", "dict_reverseitemiterator", "odict_iterator", "itertools.zip_longest", "itertools.pairwise"].contains n && vs[0]? == some (rawInt _)) = true then _ else _) Q E s
       rw [if_neg (by intro h; rw [hn, Bool.false_and] at h; cases h)]
       exact wpAny_pure hQ))
noncomputable def Itl (K : PySem.W.Frag) (a : Addr) : It :=
 ⟨fun i H => ∃ xs x, SqL K H a xs ∧ xs[i]? = some x, fun i H x H' => H' = H ∧ ∀ xs, SqL K H a xs -> xs[i]? = some x, fun i H => ∃ xs, SqL K H a xs ∧ xs.length ≤ i⟩
noncomputable def Itt (K : PySem.W.Frag) (a : Addr) : It :=
 ⟨fun i H => ∃ xs x, SqT K H a xs ∧ xs[i]? = some x, fun i H x H' => H' = H ∧ ∀ xs, SqT K H a xs -> xs[i]? = some x, fun i H => ∃ xs, SqT K H a xs ∧ xs.length ≤ i⟩
noncomputable def Itr (lo : Int) (n : Nat) : It := ⟨fun i _ => i < n, fun i H x H' => H' = H ∧ x = .int (lo + i), fun i _ => n ≤ i⟩
theorem Zp0 {P : Program} {w : World} {K : PySem.W.Frag} {tg : Expr} (a it : Addr) : Turn P w K tg (Itl K a) [it] it (fun i h => h.IsListIter it a i) where
 mem := by simp
 obj := fun i h st b hb => by
  have e : b = it := by simpa using hb
  subst e
  obtain ⟨o, e, c, d⟩ := st
  exact ⟨o, e, fun v z => by rw [d] at z; cases z⟩
 keep := fun i h h' st k => st.at fun o e => k it (by simp) o e
 item := by
  intro X hP hw hK hc i pins s σ H E I hf st hg
  subst hP hw hK
  obtain ⟨xs, x, hq, hx⟩ := hg
  obtain ⟨its, rv, p, hz⟩ := I.list hq
  obtain ⟨u, hu, ru⟩ := rv.get hx
  obtain ⟨f0, f1, f2, f3, f4, f5⟩ := hf it (by simp)
  refine wpAny_pyNext_list_item st p.isList (x := u) (by simpa using hu) fun h' st' sb => ?_
  have I1 : Inv X pins σ H { s with heap := h' } := I.turned (t' := s.toks) (fun b o hb e => (sb.2 b hb).trans e) f0 f1 f3 f4 f5
  obtain ⟨o, e, c, d⟩ := id st'
  exact ⟨u, rfl, Zrq (s := { s with heap := h' }) e c d (by decide) ⟨x, H, I1, ru, ⟨rfl, fun ys hy => by rw [I.list_inj hy hq]; exact hx⟩, st', fun b hb => (hf b hb).1⟩⟩
 done := by
  intro X hP hw hK hc i pins s σ H E I hf st hg
  subst hP hw hK
  obtain ⟨xs, hq, hx⟩ := hg
  obtain ⟨its, rv, p, hz⟩ := I.list hq
  obtain ⟨f0, f1, f2, f3, f4, f5⟩ := hf it (by simp)
  have hl := rv.length
  exact wpAny_pyNext_list_end (I.ok.hd hc) st p.isList (by simp; omega) fun h' eb => ⟨rfl, I.turned (t' := s.toks) (fun b o hb e => eb b o hb e) f0 f1 f3 f4 f5⟩
 self := fun _ _ _ _ _ st h => wpAny_pyIter_listiter st h
theorem Zmy {P : Program} {w : World} {K : PySem.W.Frag} {tg : Expr} (a it : Addr) : Turn P w K tg (Itt K a) [it] it (fun i h => h.IsTupleIter it a i) where
 mem := by simp
 obj := fun i h st b hb => by
  have e : b = it := by simpa using hb
  subst e
  obtain ⟨o, e, c, d⟩ := st
  exact ⟨o, e, fun v z => by rw [d] at z; cases z⟩
 keep := fun i h h' st k => st.at fun o e => k it (by simp) o e
 item := by
  intro X hP hw hK hc i pins s σ H E I hf st hg
  subst hP hw hK
  obtain ⟨xs, x, hq, hx⟩ := hg
  obtain ⟨its, rv, p, hz⟩ := I.tuple hq
  obtain ⟨u, hu, ru⟩ := rv.get hx
  obtain ⟨f0, f1, f2, f3, f4, f5⟩ := hf it (by simp)
  refine wpAny_pyNext_tuple_item st (show s.heap.IsTuple a its.toArray from p) (x := u) (by simpa using hu) fun h' st' sb => ?_
  have I1 : Inv X pins σ H { s with heap := h' } := I.turned (t' := s.toks) (fun b o hb e => (sb.2 b hb).trans e) f0 f1 f3 f4 f5
  obtain ⟨o, e, c, d⟩ := id st'
  exact ⟨u, rfl, Zrq (s := { s with heap := h' }) e c d (by decide) ⟨x, H, I1, ru, ⟨rfl, fun ys hy => by rw [I.tuple_inj hy hq]; exact hx⟩, st', fun b hb => (hf b hb).1⟩⟩
 done := by
  intro X hP hw hK hc i pins s σ H E I hf st hg
  subst hP hw hK
  obtain ⟨xs, hq, hx⟩ := hg
  obtain ⟨its, rv, p, hz⟩ := I.tuple hq
  obtain ⟨f0, f1, f2, f3, f4, f5⟩ := hf it (by simp)
  have hl := rv.length
  exact wpAny_pyNext_tuple_end (I.ok.hd hc) st (show s.heap.IsTuple a its.toArray from p) (by simp; omega) fun h' eb => ⟨rfl, I.turned (t' := s.toks) (fun b o hb e => eb b o hb e) f0 f1 f3 f4 f5⟩
 self := fun _ _ _ _ _ st h => wpAny_pyIter_tupleiter st h
theorem Zmm {P : Program} {w : World} {K : PySem.W.Frag} {tg : Expr} (it : Addr) (lo : Int) (n : Nat) : Turn P w K tg (Itr lo n) [it] it (fun i h => IsRangeIter h it (lo + (i : Nat) * 1) ((n : Int) - (i : Nat)) 1) where
 mem := by simp
 obj := fun i h st b hb => by
  have e : b = it := by simpa using hb
  subst e
  exact ⟨_, st, fun v z => by
   have z' : Data.fields _ = Data.cell v := z
   cases z'⟩
 keep := fun i h h' st k => k it (by simp) _ st
 item := by
  intro X hP hw hK hc i pins s σ H E I hf st hg
  subst hP hw hK
  obtain ⟨f0, f1, f2, f3, f4, f5⟩ := hf it (by simp)
  have W := Walks.range (prog := X.prog) (w := X.w) (I.ok.hd hc) it lo 1 n
  refine W.item i s _ _ hg st fun v h' tk hv st' kk => ?_
  obtain ⟨t, rfl⟩ := hv
  have I1 : Inv X pins σ H { s with heap := h', toks := tk } := I.turned (fun b o hb e => kk b o (by simpa using hb) e) f0 f1 f3 f4 f5
  refine ⟨_, rfl, Zrq (s := { s with heap := h', toks := tk }) (n := "range_iterator") st' rfl rfl (by decide) ⟨.int (lo + i), H, I1, ⟨t, ?_⟩, ⟨rfl, rfl⟩, st', fun b hb => (hf b hb).1⟩⟩
  rw [Int.mul_one]
 done := by
  intro X hP hw hK hc i pins s σ H E I hf st hg
  subst hP hw hK
  obtain ⟨f0, f1, f2, f3, f4, f5⟩ := hf it (by simp)
  exact wpAny_pyNext_range_end (I.ok.hd hc) st (by have : n ≤ i := hg; omega) fun h' eb => ⟨rfl, I.turned (t' := s.toks) (fun b o hb e => eb b o hb e) f0 f1 f3 f4 f5⟩
 self := fun _ _ _ _ _ st h => wpAny_pyIter_rangeiter st h
section
variable {X : Cx} {tg : Expr}
theorem Zls {pins : List (Addr × Obj)} {σ : St} {H : Hp} {s : Shared} {R : It -> Hp -> Prop} {E : Value -> Shared -> Prop} {lo hi : Int} {t u v : Tok} {tk : Nat} (I : Inv X pins σ H s) (h1 : -(2 ^ 62) ≤ lo) (h2 : lo < 2 ^ 62) (h3 : -(2 ^ 62) ≤ hi) (h4 : hi < 2 ^ 62)
  (q : R (Itr lo (hi - lo).toNat) H) : wpAny (model X.prog X.w) X.A (pyIter (.ref s.heap.objs.size)) (PIE X pins σ tg R) E { s with heap := s.heap.push { cls := .type "range", data := .fields #[.int lo t, .int hi u, .int 1 v] }, toks := tk } := by
 refine wpAny_pyIter_range (IsRange.new ..) (small_one h1 h2 h3 h4) ?_
 have I1 : Inv X pins σ H { s with heap := s.heap.push { cls := .type "range", data := .fields #[.int lo t, .int hi u, .int 1 v] }, toks := tk } := I.kept fun b o e => Heap.get?_push_of_some _ e
 refine ⟨(s.heap.push { cls := .type "range", data := .fields #[.int lo t, .int hi u, .int 1 v] }).objs.size, [(s.heap.push { cls := .type "range", data := .fields #[.int lo t, .int hi u, .int 1 v] }).objs.size], _, _, H, rfl,
  I1.kept (t' := tk) fun b o e => Heap.get?_push_of_some _ e, Zmm _ lo (hi - lo).toNat, ?_, fun b hb => ?_, q⟩
 ·have e1 : lo + ((0 : Nat) : Int) * 1 = lo := by simp
  have e2 : (((hi - lo).toNat : Nat) : Int) - ((0 : Nat) : Int) = Builtin.Range.rangeSize lo hi 1 := by rw [rangeSize_one]; split <;> omega
  show IsRangeIter _ _ (lo + ((0 : Nat) : Int) * 1) ((((hi - lo).toNat : Nat) : Int) - ((0 : Nat) : Int)) 1
  rw [e1, e2]
  exact Heap.get?_push_size _ rfl
 ·have e : b = (s.heap.push { cls := .type "range", data := .fields #[.int lo t, .int hi u, .int 1 v] }).objs.size := by simpa using hb
  subst e
  exact I1.fpOk (Nat.le_refl _) (I1.hok.fresh (Nat.le_refl _))
noncomputable def iRng1 (ta : TA) : TI := fun σ H R => ta σ H fun vs H1 => ∃ j : Int, vs = [.int j] ∧ -(2 ^ 62) ≤ j ∧ j < 2 ^ 62 ∧ R (Itr 0 j.toNat) H1
noncomputable def iRng2 (ta : TA) : TI := fun σ H R => ta σ H fun vs H1 => ∃ i j : Int, vs = [.int i, .int j] ∧ (-(2 ^ 62) ≤ i ∧ i < 2 ^ 62 ∧ -(2 ^ 62) ≤ j ∧ j < 2 ^ 62) ∧ R (Itr i (j - i).toNat) H1
theorem Zpm {a : Expr} {ta : TA} {p pos : Pos} (hg : Gl X "range") (hm : X.mg "range" = none) (ha : PA X [a] ta) (hs : starEach [a] X.env = [(false, eval a X.env)] := by rfl) : PI X tg (.Call (.Name "range" p) [a] [] pos) (iRng1 ta) := by
 intro pins s σ H R I h
 refine Call_ (Zhp I hg hm boot_range (PyProof.Rows.callWith_type1 (thn (ha pos pins s σ H _ I h) fun us s1 ⟨vs, H1, I1, r1, q1⟩ => ?_) hs rfl))
 obtain ⟨j, e, q1, q2, q⟩ := q1
 subst e
 cases r1 with
 | cons r rr =>
  cases rr
  obtain ⟨t, rfl⟩ := r
  exact call_range_1 (Zls I1 (by omega) (by omega) q1 q2 (by simpa using q))
theorem Zpt {a b : Expr} {ta : TA} {p pos : Pos} (hg : Gl X "range") (hm : X.mg "range" = none) (ha : PA X [a, b] ta) (hs : starEach [a, b] X.env = [(false, eval a X.env), (false, eval b X.env)] := by rfl) (hs2 : starEach [b] X.env = [(false, eval b X.env)] := by rfl) :
  PI X tg (.Call (.Name "range" p) [a, b] [] pos) (iRng2 ta) := by
 intro pins s σ H R I h
 refine Call_ (Zhp I hg hm boot_range (PyProof.Rows.callWith_type1 (thn (ha pos pins s σ H _ I h) fun us s1 ⟨vs, H1, I1, r1, q1⟩ => ?_) (by rw [hs, hs2]) (by rw [hs2]; rfl)))
 obtain ⟨i, j, e, ⟨q1, q2, q3, q4⟩, q⟩ := q1
 subst e
 cases r1 with
 | cons r rr =>
  cases rr with
  | cons r' rr =>
   cases rr
   obtain ⟨t, rfl⟩ := r
   obtain ⟨t', rfl⟩ := r'
   exact call_range_2 (Zls I1 q1 q2 q3 q4 q)
noncomputable def tFor (wi : TI) (g : TG) (tb : TS) : TS := fun D σ H => wi σ H fun J H1 => ∃ W : Nat -> Nat -> St -> Hp -> Prop, (∃ m, W 0 m σ H1) ∧ ∀ i m σ H, W i m σ H →
 (J.stop i H ∧ D.nx σ H) ∨ (J.go i H ∧ ∃ N : St -> Hp -> Prop, (∀ σ' H', N σ' H' -> ∃ m', m' < m ∧ W (i + 1) m' σ' H') ∧ ∀ x H', J.yld i H x H' -> g x σ H' fun σ2 H2 => tb { D with nx := N, ct := N, bk := D.nx } σ2 H2)
noncomputable def Zjk (fp : List Addr) (h : Heap) : List (Addr × Obj) := fp.filterMap fun b => (h.get? b).map fun o => (b, o)
theorem Ze4 {fp : List Addr} {h : Heap} {b : Addr} {o : Obj} (hb : b ∈ fp) (e : h.get? b = some o) : (b, o) ∈ Zjk fp h := List.mem_filterMap.mpr ⟨b, hb, by rw [e]; rfl⟩
theorem Zn3 {fp : List Addr} {h : Heap} {p : Addr × Obj} (hp : p ∈ Zjk fp h) : p.1 ∈ fp ∧ h.get? p.1 = some p.2 := by
 obtain ⟨b, hb, e⟩ := List.mem_filterMap.mp hp
 cases q : h.get? b with
 | none => rw [q] at e; cases e
 | some o =>
  rw [q] at e
  have e' : (b, o) = p := Option.some.inj e
  subst e'
  exact ⟨hb, q⟩
theorem Inv.pinned {pins : List (Addr × Obj)} {σ : St} {H : Hp} {s : Shared} {fp : List Addr} (I : Inv X pins σ H s) (hf : ∀ b ∈ fp, Zpx X pins H b) (ho : ∀ b ∈ fp, ∃ o, s.heap.get? b = some o ∧ ∀ v, o.data ≠ .cell v) : Inv X (pins ++ Zjk fp s.heap) σ H s :=
 I.pins_of fun p hp => (List.mem_append.mp hp).elim (fun z => I.pin p (List.mem_append_right _ z)) fun z => by
  obtain ⟨hb, e⟩ := Zn3 z
  obtain ⟨f0, f1, f2, _⟩ := hf p.1 hb
  obtain ⟨o, e', d⟩ := ho p.1 hb
  rw [e] at e'; cases e'
  exact ⟨e, f0, f1, f2, d⟩
theorem Inv.unpinned {pins pl : List (Addr × Obj)} {σ : St} {H : Hp} {s : Shared} (I : Inv X (pins ++ pl) σ H s) : Inv X pins σ H s := I.pins_of fun p hp => I.pin p (List.mem_append_right _ (List.mem_append_left _ hp))
theorem Ztb {iter : Expr} {body : List Stmt} {wi : TI} {g : TG} {tb : TS} {pos : Pos} (hp : PassesOwn (model X.prog X.w) X.A X.env X.xe) (hc : X.calm = true) (hi : PI X tg iter wi) (hg : PG X tg g) (hb : PSs X body tb)
  (hs : ∀ x, foldedSetIterable iter X.env x = pure x := by intro _; rfl) : PS X (.For tg iter body [] pos) (tFor wi g tb) := by
 intro pins s σ H D I h
 refine wpAny_For (thn (hi pins s σ H _ I h) fun v s1 h1 => thn h1 fun itv s2 h2 => ?_) hs
 obtain ⟨it, fp, tn, J, H2, e, I2, T, st2, f2, W, ⟨m0, w0⟩, turn⟩ := h2
 subst e
 -- what stays true of the iterator's objects through the loop
 have stat : ∀ {H' : Hp}, (∀ b ∈ fp, H' b = none) -> ∀ b ∈ fp, Zpx X pins H' b := fun hn b hb => ⟨hn b hb, (f2 b hb).2⟩
 refine codeAny_forLoop_any (fun n s' => ∃ i σ' H', Inv X pins σ' H' s' ∧ tn i s'.heap ∧ (∀ b ∈ fp, H' b = none) ∧ W i n σ' H') ?_ m0 ⟨0, σ, H2, I2, st2, fun b hb => (f2 b hb).1, w0⟩
 rintro n s3 ⟨i, σ3, H3, I3, st3, fr3, w3⟩
 rcases turn i n σ3 H3 w3 with ⟨stop, qn⟩ | ⟨go, N, hN, step⟩
 ·refine wpAny_passesOwn hp (thn (T.done X rfl rfl rfl hc i pins s3 σ3 H3 X.xe I3 (stat fr3) st3 stop) fun r s4 zz => ?_)
  obtain ⟨hr, I4⟩ := zz
  subst hr
  exact wpAny_execs_nil ⟨σ3, H3, I4, qn⟩
 ·refine wpAny_passesOwn hp (thn (T.item X rfl rfl rfl hc i pins s3 σ3 H3 X.xe I3 (stat fr3) st3 go) fun r s4 zz => ?_)
  obtain ⟨u, hr, h4⟩ := zz
  subst hr
  refine wpAny_passesOwn hp (thn h4 fun _ s5 zz => ?_)
  obtain ⟨x, H5, I5, r5, y5, st5, fr5⟩ := zz
  have I5' := I5.pinned (stat fr5) (T.obj _ _ st5)
  refine wpAny_passesOwn hp (thn (hg _ s5 σ3 H5 x u _ I5' r5 (step x H5 y5)) fun _ s6 zz => ?_)
  obtain ⟨σ6, H6, I6, q6⟩ := zz
  refine wpAny_passesOwn hp (thn (hb _ s6 σ6 H6 _ I6 q6) fun f s7 q7 => ?_)
  have again : ∀ {σ7 : St} {H7 : Hp}, Inv X (pins ++ Zjk fp s5.heap) σ7 H7 s7 -> N σ7 H7 -> ∃ m, m < n ∧ ∃ i σ' H', Inv X pins σ' H' s7 ∧ tn i s7.heap ∧ (∀ b ∈ fp, H' b = none) ∧ W i m σ' H' := fun {σ7 H7} I7 n7 => by
   obtain ⟨m', hm, w7⟩ := hN σ7 H7 n7
   refine ⟨m', hm, i + 1, σ7, H7, I7.unpinned, T.keep _ _ _ st5 fun b hb o e => (I7.pin (b, o) (List.mem_append_right _ (List.mem_append_right _ (Ze4 hb e)))).1, fun b hb => ?_, w7⟩
   obtain ⟨o, e, d⟩ := T.obj _ _ st5 b hb
   exact (I7.pin (b, o) (List.mem_append_right _ (List.mem_append_right _ (Ze4 hb e)))).2.1
  cases f with
  | next => obtain ⟨σ7, H7, I7, n7⟩ := q7; exact again I7 n7
  | cont => obtain ⟨σ7, H7, I7, n7⟩ := q7; exact again I7 n7
  | brk => obtain ⟨σ7, H7, I7, q7⟩ := q7; exact ⟨σ7, H7, I7.unpinned, q7⟩
  | ret v => obtain ⟨x7, σ7, H7, I7, r7, q7⟩ := q7; exact ⟨x7, σ7, H7, I7.unpinned, r7, q7⟩
end
noncomputable abbrev R2 := V -> V -> Hp -> VK -> Prop
noncomputable def OpR (X : Cx) (f : Value -> Value -> Sem Value) (r : R2) : Prop :=
 ∀ (pins : List (Addr × Obj)) (s : Shared) (σ : St) (H : Hp) (x y : V) (v u : Value) (Q : VK), Inv X pins σ H s -> Zct x v -> Zct y u -> r x y H Q →
  wpAny (model X.prog X.w) X.A (f v u) (EP X pins σ Q) X.xe s
noncomputable def UnR (X : Cx) (f : Value -> Sem Value) (r : V -> Hp -> VK -> Prop) : Prop :=
 ∀ (pins : List (Addr × Obj)) (s : Shared) (σ : St) (H : Hp) (x : V) (v : Value) (Q : VK), Inv X pins σ H s -> Zct x v -> r x H Q →
  wpAny (model X.prog X.w) X.A (f v) (EP X pins σ Q) X.xe s
noncomputable def Zgg (X : Cx) (f : Value) (r : List V -> Hp -> VK -> Prop) : Prop :=
 ∀ (pins : List (Addr × Obj)) (s : Shared) (σ : St) (H : Hp) (xs : List V) (us : List Value) (Q : VK), Inv X pins σ H s -> Zbk xs us -> r xs H Q →
  wpAny (model X.prog X.w) X.A (call f us) (EP X pins σ Q) X.xe s
noncomputable def TruR (X : Cx) (r : V -> Hp -> (Bool -> Hp -> Prop) -> Prop) : Prop :=
 ∀ (pins : List (Addr × Obj)) (s : Shared) (σ : St) (H : Hp) (x : V) (v : Value) (Q : Bool -> Hp -> Prop), Inv X pins σ H s -> Zct x v -> r x H Q →
  wpAny (model X.prog X.w) X.A (truthy v) (TP X pins σ Q) X.xe s
noncomputable def tOp (r : R2) (ta tb : TE) : TE := fun σ H Q => ta σ H fun x H1 => tb σ H1 fun y H2 => r x y H2 Q
noncomputable def tUn (r : V -> Hp -> VK -> Prop) (ta : TE) : TE := fun σ H Q => ta σ H fun x H1 => r x H1 Q
noncomputable def rI (C : Int -> Int -> Prop) (g : Int -> Int -> V) : R2 := fun x y H Q => ∃ i j, x = .int i ∧ y = .int j ∧ C i j ∧ Q (g i j) H
noncomputable def rI0 (g : Int -> Int -> V) : R2 := fun x y H Q => ∃ i j, x = .int i ∧ y = .int j ∧ Q (g i j) H
noncomputable def rU (g : Int -> V) : V -> Hp -> VK -> Prop := fun x H Q => ∃ i, x = .int i ∧ Q (g i) H
section
variable {X : Cx} {a b c : Expr} {ta tb tc : TE} {pos : Pos}
theorem binT (ha : PE X a ta) (hb : PE X b tb) {pins : List (Addr × Obj)} {s : Shared} {σ : St} {H : Hp} {R : V -> V -> Hp -> Prop} (I : Inv X pins σ H s)
  (h : ta σ H fun x H1 => tb σ H1 fun y H2 => R x y H2) {Q : Value -> Shared -> Prop} {f : Value -> Value -> Sem Value}
  (hf : ∀ v u s2 x y H2, Inv X pins σ H2 s2 -> Zct x v -> Zct y u -> R x y H2 -> wpAny (model X.prog X.w) X.A (f v u) Q X.xe s2) :
  wpAny (model X.prog X.w) X.A (eval a X.env) (fun v s₁ => wpAny (model X.prog X.w) X.A (eval b X.env) (fun u s₂ => wpAny (model X.prog X.w) X.A (f v u) Q X.xe s₂) X.xe s₁) X.xe s := by
 refine thn (ha pins s σ H _ I h) fun v s1 zz => ?_
 obtain ⟨x, H1, I1, r1, q1⟩ := zz
 refine thn (hb pins s1 σ H1 _ I1 q1) fun u s2 zz => ?_
 obtain ⟨y, H2, I2, r2, q2⟩ := zz
 exact hf v u s2 x y H2 I2 r1 r2 q2
theorem pe_op {op : Operator} {r : R2} (ho : OpR X (binaryOp op) r) (ha : PE X a ta) (hb : PE X b tb) : PE X (.BinOp a op b pos) (tOp r ta tb) := by
 intro pins s σ H Q I h
 exact wpAny_BinOp (binT ha hb I h fun v u s2 x y H2 I2 rx ry q => ho pins s2 σ H2 x y v u Q I2 rx ry q)
theorem pe_un {op : UnaryOp} {r : V -> Hp -> VK -> Prop} (ho : UnR X (unaryOp op) r) (ha : PE X a ta) : PE X (.UnaryOp op a pos) (tUn r ta) := by
 intro pins s σ H Q I h
 exact UnaryOp_ (thn (ha pins s σ H _ I h) fun v s1 ⟨x, H1, I1, r1, q1⟩ => ho pins s1 σ H1 x v Q I1 r1 q1)
theorem opI {f : Value -> Value -> Sem Value} {C : Int -> Int -> Prop} {g : Int -> Int -> Int}
  (rule : ∀ (i j : Int) (t u : Tok) (s : Shared) (Q : Value -> Shared -> Prop) (E : Value -> Shared -> Prop), C i j -> Q (.int (g i j) s.toks) { s with toks := s.toks + 1 } -> wpAny (model X.prog X.w) X.A (f (.int i t) (.int j u)) Q E s) :
  OpR X f (rI C fun i j => .int (g i j)) := by
 intro pins s σ H x y v u Q I rx ry h
 obtain ⟨i, j, rfl, rfl, hc, q⟩ := h
 obtain ⟨t, rfl⟩ := rx
 obtain ⟨t', rfl⟩ := ry
 exact rule i j t t' s _ _ hc ⟨.int (g i j), H, I.tok _, ⟨_, rfl⟩, q⟩
theorem opI0 {f : Value -> Value -> Sem Value} {g : Int -> Int -> Int}
  (rule : ∀ (i j : Int) (t u : Tok) (s : Shared) (Q : Value -> Shared -> Prop) (E : Value -> Shared -> Prop), Q (.int (g i j) s.toks) { s with toks := s.toks + 1 } -> wpAny (model X.prog X.w) X.A (f (.int i t) (.int j u)) Q E s) :
  OpR X f (rI0 fun i j => .int (g i j)) := by
 intro pins s σ H x y v u Q I rx ry h
 obtain ⟨i, j, rfl, rfl, q⟩ := h
 obtain ⟨t, rfl⟩ := rx
 obtain ⟨t', rfl⟩ := ry
 exact rule i j t t' s _ _ ⟨.int (g i j), H, I.tok _, ⟨_, rfl⟩, q⟩
theorem opB0 {f : Value -> Value -> Sem Value} {g : Int -> Int -> Bool}
  (rule : ∀ (i j : Int) (t u : Tok) (s : Shared) (Q : Value -> Shared -> Prop) (E : Value -> Shared -> Prop), Q (.bool (g i j)) s -> wpAny (model X.prog X.w) X.A (f (.int i t) (.int j u)) Q E s) :
  OpR X f (rI0 fun i j => .bl (g i j)) := by
 intro pins s σ H x y v u Q I rx ry h
 obtain ⟨i, j, rfl, rfl, q⟩ := h
 obtain ⟨t, rfl⟩ := rx
 obtain ⟨t', rfl⟩ := ry
 exact rule i j t t' s _ _ ⟨.bl (g i j), H, I, rfl, q⟩
noncomputable def Zze (i j : Int) : Prop := 0 < j ∧ j < 1073741824
noncomputable def Zxu (i j : Int) : Prop := 0 ≤ j ∧ j ≤ 1000000 ∧ i.natAbs < 2 ^ 64
noncomputable def Zs0 (i j : Int) : Prop := (-(2 ^ 64) < i ∧ i < 2 ^ 64) ∨ (-(2 ^ 64) < j ∧ j < 2 ^ 64)
theorem Zs0.ok {i j : Int} (h : Zs0 i j) : IntMulOk i j := by
 rcases h with ⟨h1, h2⟩ | ⟨h1, h2⟩
 ·exact .of_left (intBits_le_64 h1 h2)
 ·exact .of_right (intBits_le_64 h1 h2)
theorem Zy7 : OpR X (binaryOp .Add) (rI0 fun i j => .int (i + j)) := opI0 fun _ _ _ _ _ _ _ q => add_int q
theorem Zx6 : OpR X (binaryOp .Sub) (rI0 fun i j => .int (i - j)) := opI0 fun _ _ _ _ _ _ _ q => sub_int q
theorem Zxh : OpR X (binaryOp .Mult) (rI Zs0 fun i j => .int (i * j)) := opI fun _ _ _ _ _ _ _ hc q => mul_int q hc.ok
theorem Zuz : OpR X (binaryOp .FloorDiv) (rI Zze fun i j => .int (i / j)) := opI fun i j _ _ _ _ _ hc q => by
 have h1 : (0 : Int) < j := hc.1
 have h2 : j < 1073741824 := hc.2
 exact floordiv_int (by omega) (by rw [Int.fdiv_eq_ediv_of_nonneg i (by omega)]; exact q) (.inl (PyProof.noPylong_small (by omega)))
theorem Zzc : OpR X (binaryOp .Mod) (rI (fun _ j => 0 < j) fun i j => .int (i % j)) := opI fun i j _ _ _ _ _ hc q => by
 have h1 : (0 : Int) < j := hc
 exact mod_int' (by omega) (by rw [Int.fmod_eq_emod_of_nonneg i (by omega)]; exact q)
theorem Zzg : OpR X (binaryOp .Pow) (rI Zxu fun i j => .int (i ^ j.toNat)) := opI fun _ _ _ _ _ _ _ hc q => pow_int_small hc.1 hc.2.1 hc.2.2 q
theorem unI {f : Value -> Sem Value} {g : Int -> Int}
  (rule : ∀ (i : Int) (t : Tok) (s : Shared) (Q : Value -> Shared -> Prop) (E : Value -> Shared -> Prop), Q (.int (g i) s.toks) { s with toks := s.toks + 1 } -> wpAny (model X.prog X.w) X.A (f (.int i t)) Q E s) :
  UnR X f (rU fun i => .int (g i)) := by
 intro pins s σ H x v Q I rx h
 obtain ⟨i, rfl, q⟩ := h
 obtain ⟨t, rfl⟩ := rx
 exact rule i t s _ _ ⟨.int (g i), H, I.tok _, ⟨_, rfl⟩, q⟩
theorem Zzr : UnR X (unaryOp .USub) (rU fun i => .int (-i)) := unI fun _ _ _ _ _ q => neg_int q
end
section
variable {X : Cx} {a b c : Expr} {ta tb tc : TE} {pos : Pos}
theorem Ztf {pins : List (Addr × Obj)} {σ : St} {H : Hp} {s : Shared} {Q : VK} {k k' : Bool} (I : Inv X pins σ H s) (q : Q (.bl k) H) (e : k = k') : EP X pins σ Q (.bool k') s := by
 subst e
 exact ⟨.bl k, H, I, rfl, q⟩
theorem op_lt : OpR X (compareOp .Lt) (rI0 fun i j => .bl (decide (i < j))) := opB0 fun _ _ _ _ _ _ _ q => lt_int q
theorem op_le : OpR X (compareOp .LtE) (rI0 fun i j => .bl (decide (i ≤ j))) := opB0 fun _ _ _ _ _ _ _ q => le_int q
theorem op_gt : OpR X (compareOp .Gt) (rI0 fun i j => .bl (decide (j < i))) := opB0 fun _ _ _ _ _ _ _ q => gt_int q
theorem op_ge : OpR X (compareOp .GtE) (rI0 fun i j => .bl (decide (j ≤ i))) := opB0 fun _ _ _ _ _ _ _ q => ge_int q
theorem Zpv : OpR X (compareOp .In) (fun x y H Q => ∃ i j, x = .str i ∧ y = .str j ∧ Q (.bl (!(Builtin.Str.occurrences j i 0 j.length 1).isEmpty)) H) := by
 intro pins s σ H x y v u Q I rx ry h
 obtain ⟨i, j, rfl, rfl, q⟩ := h
 obtain ⟨t, rfl⟩ := rx
 obtain ⟨t', rfl⟩ := ry
 exact in_str (Ztf I q rfl)
theorem Zkm : OpR X (compareOp .NotIn) (fun x y H Q => ∃ i j, x = .str i ∧ y = .str j ∧ Q (.bl (!(!(Builtin.Str.occurrences j i 0 j.length 1).isEmpty))) H) := by
 intro pins s σ H x y v u Q I rx ry h
 obtain ⟨i, j, rfl, rfl, q⟩ := h
 obtain ⟨t, rfl⟩ := rx
 obtain ⟨t', rfl⟩ := ry
 exact notIn_str (Ztf I q rfl)
theorem Zau (b : Expr) {op : CmpOp} (h : op ≠ .In := by decide) (h2 : op ≠ .NotIn := by decide) : behindInMarks op b = false := by
 have e1 : (op == CmpOp.In) = false := by cases op <;> first | rfl | exact absurd rfl h
 have e2 : (op == CmpOp.NotIn) = false := by cases op <;> first | rfl | exact absurd rfl h2
 cases b <;> simp [behindInMarks, e1, e2]
theorem Zvb {op : CmpOp} {r : R2} (ho : OpR X (compareOp op) r) (ha : PE X a ta) (hb : PE X b tb) (hm : behindInMarks op b = false) : PE X (.Compare a [op] [b] pos) (tOp r ta tb) := by
 intro pins s σ H Q I h
 exact wpAny_Compare1 (binT ha hb I h fun v u s2 x y H2 I2 rx ry q => ho pins s2 σ H2 x y v u Q I2 rx ry q) hm
noncomputable def tTest (t : TE) : TT := fun σ H Q => t σ H fun x H' => ∃ k, x = .bl k ∧ Q k H'
theorem Zue {op : CmpOp} {r : R2} (ho : OpR X (compareOp op) r) (ha : PE X a ta) (hb : PE X b tb) (hm : behindInMarks op b = false) : PT X (.Compare a [op] [b] pos) (tTest (tOp r ta tb)) := by
 intro pins s σ H Q I h
 refine wpAny_isTrue_Compare1 (thn (ha pins s σ H _ I h) fun v s1 ⟨x, H1, I1, r1, q1⟩ => thn (hb pins s1 σ H1 _ I1 q1) fun u s2 ⟨y, H2, I2, r2, q2⟩ =>
  thn (ho pins s2 σ H2 x y v u _ I2 r1 r2 q2) fun c s3 ⟨z, H3, I3, r3, k, e, q3⟩ => ?_) hm
 subst e
 cases r3
 exact wpAny_truthy_bool ⟨H3, I3, q3⟩
noncomputable def TruV (K : PySem.W.Frag) (x : V) (H : Hp) (k : Bool) : Prop :=
 match x with
 | .non => k = false
 | .bl b => k = b
 | .int i => k = (i != 0)
 | .str y => y.length ≤ sizeLine ∧ k = ((y.length : Int) != 0)
 | .byt y => y.size ≤ sizeLine ∧ k = ((y.size : Int) != 0)
 | .ref p => (∃ xs, SqL K H p xs ∧ k = !xs.isEmpty) ∨ (∃ xs, SqT K H p xs ∧ k = !xs.isEmpty) ∨ ∃ kvs, H p = some (.dK kvs) ∧ k = !kvs.isEmpty
 | _ => False
theorem Zm4 {κ : Type} {kvs : List (κ × V)} {vs : List (κ × Value)} (r : KV kvs vs) : (!vs.isEmpty) = !kvs.isEmpty := by
 cases r <;> rfl
theorem Zik {xs : List V} {its : List Value} (r : Zbk xs its) : (!its.toArray.isEmpty) = !xs.isEmpty := by
 cases r <;> simp
theorem Zhx : (sizeLine : Nat) < 2 ^ 63 := by rw [sizeLine_eq]; decide
theorem Zyh : TruR X (fun x H Q => ∃ k, TruV X.K x H k ∧ Q k H) := by
 intro pins s σ H x v Q I rx h
 obtain ⟨k, e, q⟩ := h
 have hl := Zhx
 have hs : sizeLine = 16777216 := sizeLine_eq
 cases x with
 | non =>
  cases rx
  have e' : k = false := e
  subst e'
  exact truthy_none ⟨H, I, q⟩
 | bl b =>
  cases rx
  have e' : k = b := e
  subst e'
  exact wpAny_truthy_bool ⟨H, I, q⟩
 | int i =>
  obtain ⟨t, rfl⟩ := rx
  have e' : k = (i != 0) := e
  subst e'
  exact PySem.P.truthy_int ⟨H, I, q⟩
 | str y =>
  obtain ⟨t, rfl⟩ := rx
  obtain ⟨hy, e'⟩ : y.length ≤ sizeLine ∧ k = ((y.length : Int) != 0) := e
  subst e'
  exact PySem.P.truthy_str (by omega) ⟨H, I.tok _, q⟩
 | byt y =>
  obtain ⟨t, rfl⟩ := rx
  obtain ⟨hy, e'⟩ : y.size ≤ sizeLine ∧ k = ((y.size : Int) != 0) := e
  subst e'
  exact PySem.W.truthy_bytes (by omega) ⟨H, I.tok _, q⟩
 | ref p =>
  cases rx
  have e' : (∃ xs, SqL X.K H p xs ∧ k = !xs.isEmpty) ∨ (∃ xs, SqT X.K H p xs ∧ k = !xs.isEmpty) ∨ ∃ kvs, H p = some (.dK kvs) ∧ k = !kvs.isEmpty := e
  rcases e' with ⟨xs, hx, e'⟩ | ⟨xs, hx, e'⟩ | ⟨kvs, hx, e'⟩
  ·subst e'
   obtain ⟨its, r, pl, hz⟩ := I.list hx
   have hlen := r.length
   exact wpAny_truthy_list pl.isList (by simp only [List.size_toArray]; omega) ⟨H, I.tok _, by rw [Zik r]; exact q⟩
  ·subst e'
   obtain ⟨its, r, pl, hz⟩ := I.tuple hx
   have hlen := r.length
   exact truthy_tuple pl (by simp only [List.size_toArray]; omega) ⟨H, I.tok _, by rw [Zik r]; exact q⟩
  ·subst e'
   obtain ⟨hz, hS, vs, r, m⟩ : kvs.length ≤ sizeLine ∧ (p == sysModules) = false ∧ ∃ vs, KV kvs vs ∧ s.heap.DictOf (Zk9 X.prog X.w) p vs := I.hok p _ hx
   have hlen : kvs.length = vs.length := Paired.length r
   exact wpAny_truthy_dict hS m (by omega) ⟨H, I.tok _, by rw [Zm4 r]; exact q⟩
 | _ => exact (show False from e).elim
theorem Zsp (ha : PE X a ta) (he : ∀ whole, isTrue a X.env whole = (do let v ← whole; standAt a.pos; holding [v] (truthy v))) :
  PT X a (fun σ H Q => ta σ H fun x H' => ∃ k, TruV X.K x H' k ∧ Q k H') := by
 intro pins s σ H Q I h
 exact isTrue_plain (thn (ha pins s σ H _ I h) fun v s1 ⟨x, H1, I1, r1, q1⟩ => Zyh pins s1 σ H1 x v Q I1 r1 q1) (he _)
theorem Zmz : OpR X (binaryOp .Add) (fun x y H Q => ∃ i j, x = .str i ∧ y = .str j ∧ i.length + j.length ≤ sizeLine ∧ Q (.str (i ++ j)) H) := by
 intro pins s σ H x y v u Q I rx ry h
 obtain ⟨i, j, rfl, rfl, hz, q⟩ := h
 obtain ⟨t, rfl⟩ := rx
 obtain ⟨t', rfl⟩ := ry
 exact add_str (fun t' tk => ⟨.str (i ++ j), H, I.tok _, ⟨_, rfl⟩, q⟩) hz
theorem Zgs {x : V} {us : List Value} (r : Zbk [x] us) : ∃ u, us = [u] ∧ Zct x u := by
 cases r with
 | cons r1 r2 => cases r2; exact ⟨_, rfl, r1⟩
theorem Zqk {x y : V} {us : List Value} (r : Zbk [x, y] us) : ∃ u w', us = [u, w'] ∧ Zct x u ∧ Zct y w' := by
 cases r with
 | cons r1 r2 =>
  cases r2 with
  | cons r3 r4 => cases r4; exact ⟨_, _, rfl, r1, r3⟩
theorem Zre : Zgg X (.builtin "abs") (fun xs H Q => ∃ i, xs = [.int i] ∧ Q (.int (if i < 0 then -i else i)) H) := by
 intro pins s σ H xs us Q I r h
 obtain ⟨i, rfl, q⟩ := h
 obtain ⟨u, rfl, t, rfl⟩ := Zgs r
 exact call_abs_int fun u tk => ⟨.int (if i < 0 then -i else i), H, I.tok _, ⟨_, rfl⟩, q⟩
theorem Zqs (hc : X.calm = true) : Zgg X (.builtin "max") (fun xs H Q => ∃ i j, xs = [.int i, .int j] ∧ Q (.int (if j > i then j else i)) H) := by
 intro pins s σ H xs us Q I r h
 obtain ⟨i, j, rfl, q⟩ := h
 obtain ⟨u, w', rfl, ⟨t, rfl⟩, ⟨t', rfl⟩⟩ := Zqk r
 refine max_two_ints (I.ok.hd hc) fun h' tk k => ⟨_, H, I.kept k, ?_, q⟩
 by_cases hj : j > i
 ·rw [if_pos hj, if_pos hj]; exact ⟨_, rfl⟩
 ·rw [if_neg hj, if_neg hj]; exact ⟨_, rfl⟩
theorem Zj1 : Zgg X (.type "int") (fun xs H Q => (∃ i, xs = [.int i] ∧ Q (.int i) H) ∨ ∃ k, xs = [.bl k] ∧ Q (.int (if k then 1 else 0)) H) := by
 intro pins s σ H xs us Q I r h
 rcases h with ⟨i, rfl, q⟩ | ⟨k, rfl, q⟩
 ·obtain ⟨u, rfl, t, rfl⟩ := Zgs r
  exact call_int_int ⟨.int i, H, I, ⟨_, rfl⟩, q⟩
 ·obtain ⟨u, rfl, r1⟩ := Zgs r
  cases r1
  exact call_int_bool ⟨.int (if k then 1 else 0), H, I.tok _, ⟨_, rfl⟩, q⟩
theorem Zkf : Zgg X (.type "str") (fun xs H Q => ∃ i, xs = [.int i] ∧ i.natAbs.log2 < 1920 ∧ Q (.str (toString i)) H) := by
 intro pins s σ H xs us Q I r h
 obtain ⟨i, rfl, hz, q⟩ := h
 obtain ⟨u, rfl, t, rfl⟩ := Zgs r
 exact PySem.P.str_of_int hz ⟨.str _, H, I.tok _, ⟨_, rfl⟩, q⟩
end
structure ObjM (h : Heap) (x dx C : Addr) (mA : Str -> Option Value) : Prop where
 obj : h.get? x = some (PySem.W.instObj C dx)
 ns : h.Ns1 dx mA
 ne : dx ≠ x
theorem Zj7 {h : Heap} {dx : Addr} {mA : Str -> Option Value} (n : h.Ns1 dx mA) : ∃ od, h.get? dx = some od ∧ ∀ name, PySem.W.lookIn name od = some (mA name) := by
 obtain ⟨o, es, ep, ho, hd, hk, _, hm⟩ := n
 refine ⟨o, ho, fun name => ?_⟩
 have e := hm name
 unfold nsFind findBy at e
 rw [← Array.find?_toList] at e
 unfold PySem.W.lookIn
 rw [hd]
 dsimp only
 split
 ·rename_i y q
  rw [q] at e
  exact congrArg some e
 ·rename_i q
  rw [q] at e
  have a : es.toList.any (·.refKey) = false := by
   rw [List.any_eq_false]
   intro y hy
   obtain ⟨z, t, hkey⟩ := hk y (Array.mem_toList_iff.mp hy)
   simp [DictEntry.refKey, hkey]
  have a' : ¬ es.toList.any (·.refKey) = true := by rw [a]; exact Bool.false_ne_true
  rw [if_neg a']
  exact congrArg some e
theorem ObjM.look {h : Heap} {x dx C : Addr} {mA : Str -> Option Value} (I : ObjM h x dx C mA) : ∃ od, PySem.W.InstAt h x (PySem.W.instObj C dx) C (some od) ∧ ∀ name, PySem.W.lookIn name od = some (mA name) :=
 let ⟨od, ho, hl⟩ := Zj7 I.ns
 ⟨od, ⟨I.obj, rfl, rfl, ho⟩, hl⟩
section
variable {prog : Program} {w : World} {A : Around} {E : Value -> Shared -> Prop} {s : Shared} {K : PySem.W.Frag} {x dx C f : Addr} {mA : Str -> Option Value} {name : Str} {v : Value}
end
section
variable {P : Program} {w : World} {H H' : Hp} {h h' : Heap} {a C dx : Addr} {fs fs' : List (Str × V)}
end
structure Cls (K : PySem.W.Frag) (C : Addr) : Prop where
 pg : PySem.W.plainGet K C Str.empty = true
 hd : PySem.W.hasDictIn K C = true
 po : PySem.W.plainOver K C = true
 sa : PySem.W.findIn K (.ref C) "__setattr__" = some (some (.builtin "object.__setattr__"))
theorem Cls.get {K : PySem.W.Frag} {C : Addr} (c : Cls K C) (f : Str) : PySem.W.plainGet K C f = true := c.pg
structure Con (K : PySem.W.Frag) (C : Addr) (f : Str) (v : V) (u : Value) : Prop where
 at_ : PySem.W.findIn K (.ref C) f = some (some u)
 rel : Zct v u
 get : PySem.W.specialIn K u "__get__" = some none
 cp : PySem.W.copiedNames.contains f = false
structure Meth (K : PySem.W.Frag) (C : Addr) (m : Str) (f : Addr) : Prop where
 at_ : PySem.W.findIn K (.ref C) m = some (some (.ref f))
 fn : PySem.W.isFn K (.ref f) = true
 kp : PySem.W.keepIn K (.ref f) = true
section
variable {X : Cx} {pins : List (Addr × Obj)} {σ : St} {H : Hp} {s : Shared} {a C dx : Addr} {fs : List (Str × V)} {f : Str} {v : V} {A : Around} {E : Value -> Shared -> Prop}
theorem Inv.made (I : Inv X pins σ H s) : Inv X pins σ (upd (upd H s.heap.objs.size (.own (s.heap.objs.size + 1))) (s.heap.objs.size + 1) (.ins C s.heap.objs.size []))
  { s with heap := (s.heap.push PySem.W.emptyDict).push (PySem.W.instObj C s.heap.objs.size) } := by
 have e1 : (s.heap.push PySem.W.emptyDict).get? s.heap.objs.size = some PySem.W.emptyDict := Heap.get?_push_size s.heap rfl
 have e2 : ((s.heap.push PySem.W.emptyDict).push (PySem.W.instObj C s.heap.objs.size)).get? (s.heap.objs.size + 1) = some (PySem.W.instObj C s.heap.objs.size) := by
  have := Heap.get?_push_size (s.heap.push PySem.W.emptyDict) (o := PySem.W.instObj C s.heap.objs.size) rfl
  rwa [Heap.size_push] at this
 have e3 : (s.heap.push PySem.W.emptyDict).Ns s.heap.objs.size (fun _ => none) := ⟨PySem.W.emptyDict, #[], _, e1, rfl, (fun e he => absurd he (by simp)), fun _ => rfl⟩
 have I1 := I.laid (a := s.heap.objs.size) (o := .own (s.heap.objs.size + 1)) (h' := s.heap.push PySem.W.emptyDict) (t' := s.toks) (fun b u q => Heap.get?_push_of_some _ q) (Nat.le_refl _) ⟨_, e1⟩
 refine I1.laid (a := s.heap.objs.size + 1) (o := .ins C s.heap.objs.size []) (t' := s.toks) (fun b u q => Heap.get?_push_of_some _ q) (Nat.le_of_eq (Heap.size_push _ _)) ?_
 have ne : s.heap.objs.size ≠ s.heap.objs.size + 1 := Nat.ne_of_lt (Nat.lt_succ_self _)
 refine ⟨by rw [Zaw ne, upd_same], Nat.zero_le _, ne, e2, fun _ => none, (Heap.Ns1.of_empty e3).at fun o q => Heap.get?_push_of_some _ q, fun _ => True.intro, fun y hy => absurd rfl hy⟩
theorem Zwb {prog : Program} {w : World} {env : Env} {e : Expr} {f : Str} {pos : Pos} {s : Shared} {Q : Value -> Shared -> Prop} (hb : attributeBase e f env (eval e env) = eval e env)
  (h : wpAny (model prog w) A (eval e env) (fun o s₁ => wpAny (model prog w) A (getAttr o f true) Q E s₁) E s) : wpAny (model prog w) A (eval (.Attribute e f pos) env) Q E s :=
 Attribute_any_ h (by rw [arm_eval_Attribute, hb])
end
section
variable {X : Cx} {o e value : Expr} {f : Str} {pos pos' tpos : Pos} {ta tv : TE}
end
section
variable {X : Cx} {pins : List (Addr × Obj)} {σ : St} {H : Hp} {s : Shared} {A : Around} {E : Value -> Shared -> Prop} {Q : Value -> Shared -> Prop} {c : Value} {b : Bool}
inductive TyOf (K : PySem.W.Frag) (H : Hp) : V -> Value -> Prop where
 | non : TyOf K H .non (.type "NoneType")
 | bl (x : Bool) : TyOf K H (.bl x) (.type "bool")
 | int (i : Int) : TyOf K H (.int i) (.type "int")
 | str (x : Str) : TyOf K H (.str x) (.type "str")
 | flt (x : UInt64) : TyOf K H (.flt x) (.type "float")
 | lst {a : Addr} {xs : List V} (e : H a = some (.lst xs)) : TyOf K H (.ref a) (.type "list")
 | frz {a : Addr} {o : Obj} {xs : List V} (e : H a = some (.frz o (.lst xs))) : TyOf K H (.ref a) (.type "list")
 | tup {a : Addr} {xs : List V} (e : H a = some (.tup xs)) : TyOf K H (.ref a) (.type "tuple")
 | dK {a : Addr} {kvs : List (Key × V)} (e : H a = some (.dK kvs)) : TyOf K H (.ref a) (.type "dict")
 | dT {a : Addr} {kvs : List (List Key × V)} (e : H a = some (.dT kvs)) : TyOf K H (.ref a) (.type "dict")
 | ins {a C dx : Addr} {fs : List (Str × V)} (e : H a = some (.ins C dx fs)) (cl : Cls K C) (ha : PySem.W.findIn K (.ref C) "__class__" = some (some (.builtin "object.__class__")))
   (hn : PySem.W.specialIn K (.builtin "object.__class__") "__get__" = some (some (.builtin "getset_descriptor.__get__"))) (htk : PySem.W.takesIn K (.builtin "object.__class__") = some true)
   (hm : PySem.W.mroIn K C (.type "object") = some true) : TyOf K H (.ref a) (.ref C)
end
structure Room (k : Nat) (A : Around) : Prop where
 hd : A.handled = none
 dp : A.depth + 3 * k + 5 < recursionLimit
 un : A.units + 16 * k + 200 < cLine
 gd : A.guards = some []
theorem Room.mono {j k : Nat} {A : Around} (r : Room k A) (h : j ≤ k) : Room j A := ⟨r.hd, by have := r.dp; omega, by have := r.un; omega, r.gd⟩
theorem Room.deeper {k : Nat} {A : Around} (r : Room (k + 1) A) (env : Env) : Room k (A.deeper env) :=
 ⟨r.hd, by have := r.dp; show A.depth + 1 + 3 * k + 5 < _; omega, by have := r.un; show A.units + 3 + 16 * k + 200 < _; omega, r.gd⟩
theorem Room.in1 {k : Nat} {A : Around} (r : Room (k + 1) A) : Room k A.in1 :=
 ⟨r.hd, by have := r.dp; show A.depth + 3 * k + 5 < _; omega, by have := r.un; show A.units + 1 + 16 * k + 200 < _; omega, r.gd⟩
theorem Znj {A : Around} {C : Addr} {us : List Value} {kw : List (Str × Value)} : (A.under (.builtin "type.__call__" ⟨.ref C :: us, kw⟩)).depth = A.depth + 1 := by
 first | rfl | simp [Around.under, Code.weight, Code.isCreation, Code.isGuard, Code.isCaller, Code.frames, Code.isFrame, guardIds]
theorem Zm3 {A : Around} {C : Addr} {us : List Value} {kw : List (Str × Value)} : (A.under (.builtin "type.__call__" ⟨.ref C :: us, kw⟩)).units = A.units + 1 := by
 first | rfl | simp [Around.under, Code.cUnits, Code.frames, Code.isFrame]
theorem Room.make {k : Nat} {A : Around} (r : Room (k + 1) A) (C : Addr) (us : List Value) (kw : List (Str × Value)) : Room k (A.under (.builtin "type.__call__" ⟨.ref C :: us, kw⟩)) :=
 ⟨r.hd, by have := r.dp; rw [Znj]; omega, by have := r.un; rw [Zm3]; omega, by first | exact r.gd | (simpa [Around.under, Code.guards, Code.isGuard, guardIds, pushGuards] using r.gd)⟩
theorem Room.depth {k : Nat} {A : Around} (r : Room k A) : A.depth < recursionLimit := by have := r.dp; omega
theorem Room.units {k : Nat} {A : Around} (r : Room k A) : A.units + 64 < cLine := by have := r.un; omega
noncomputable def tNil : TA := fun _ H Q => Q [] H
noncomputable def tCons (ta : TE) (tr : TA) : TA := fun σ H Q => ta σ H fun x H1 => tr σ H1 fun xs H2 => Q (x :: xs) H2
section
variable {X : Cx} {e : Expr} {es : List Expr} {te : TE} {t : TA} {pos : Pos}
theorem Zkd : PA X [] tNil := fun _ _ _ _ H Q I h => Calls.spliced_nil ⟨[], H, I, .nil, h⟩
theorem Zem (ha : PE X e te) (hr : PA X es t) (hs : starEach (e :: es) X.env = (false, eval e X.env) :: starEach es X.env := by rfl) : PA X (e :: es) (tCons te t) := by
 intro pos pins s σ H Q I h
 rw [hs]
 show wpAny _ _ (spliced ((false, eval e X.env) :: backTo pos (starEach es X.env))) _ _ s
 refine Calls.spliced_cons (thn (ha pins s σ H _ I h) fun u s1 zz => ?_)
 obtain ⟨x, H1, I1, r1, q1⟩ := zz
 exact thn (hr pos pins s1 σ H1 _ I1 q1) fun us s2 ⟨xs, H2, I2, r2, q2⟩ => ⟨x :: xs, H2, I2, .cons r1 r2, q2⟩
noncomputable def tTup (t : TA) : TE := fun σ H Q => t σ H fun xs H1 => xs.length ≤ sizeLine ∧ ∀ p, H1 p = none -> Q (.ref p) (upd H1 p (.tup xs))
noncomputable def tLst (t : TA) : TE := fun σ H Q => t σ H fun xs H1 => xs.length ≤ sizeLine ∧ ∀ p, H1 p = none -> Q (.ref p) (upd H1 p (.lst xs))
theorem Znt {x1} (h : PA X es t) : PE X (.Tuple es x1 pos) (tTup t) := by
 intro pins s σ H Q I hq
 refine wpAny_Tuple_spliced (thn (h pos pins s σ H _ I hq) fun us s1 ⟨xs, H1, I1, r, z, q⟩ => ⟨by rw [← r.length]; exact z, ?_⟩)
 have hf : H1 s1.heap.objs.size = none := I1.hok.fresh (Nat.le_refl _)
 refine ⟨.ref s1.heap.objs.size, upd H1 s1.heap.objs.size (.tup xs), I1.laid (t' := s1.toks) (fun b u e => Heap.get?_push_of_some _ e) (Nat.le_refl _) ?_, rfl, q _ hf⟩
 exact ⟨z, us, r, ⟨_, Heap.get?_push_size _ rfl, rfl, ⟨_, rfl⟩, rfl⟩⟩
theorem Ztl (h : PA X es t) : PE X (.List es pos) (tLst t) := by
 intro pins s σ H Q I hq
 refine wpAny_List_spliced (thn (h pos pins s σ H _ I hq) fun us s1 ⟨xs, H1, I1, r, z, q⟩ => ⟨by rw [← r.length]; exact z, ?_⟩)
 have hf : H1 s1.heap.objs.size = none := I1.hok.fresh (Nat.le_refl _)
 refine ⟨.ref s1.heap.objs.size, upd H1 s1.heap.objs.size (.lst xs), I1.laid (t' := s1.toks) (fun b u e => Heap.get?_push_of_some _ e) (Nat.le_refl _) ?_, rfl, q _ hf⟩
 exact ⟨z, us, 0, r, Heap.get?_push_size _ rfl⟩
end
noncomputable abbrev Sp := List V -> Hp -> VK -> XK -> Prop
noncomputable abbrev CXT := List Env -> Hp -> Shared -> XK -> Value -> Shared -> Prop
structure Env0 (P : Program) (w : World) (K : PySem.W.Frag) (mg : Str -> Option Value) (base : Heap) (A : Around) (outer : List Env) (s : Shared) (H : Hp) : Prop where
 frames : A.frames = some outer
 mod : Mod K mg base
 bs : ∀ b o, base.get? b = some o -> s.heap.get? b = some o ∧ H b = none
 bsz : base.objs.size ≤ s.heap.objs.size
 funs : s.heap.FunFrames base outer
 frf : ∀ b ∈ frs outer, H b = none
 hok : HOk P w H s.heap
 bare : AllBare s.gens
noncomputable def CE (outer : List Env) (P : Program) (w : World) (H : Hp) (s : Shared) (Q : VK) (u : Value) (s' : Shared) : Prop :=
 ∃ v H', s'.os = s.os ∧ AllBare s'.gens ∧ Un (frs outer) [] H H' s.heap s'.heap ∧ HOk P w H' s'.heap ∧ Zct v u ∧ Q v H'
noncomputable def CR (CX : CXT) (outer : List Env) (P : Program) (w : World) (H : Hp) (s : Shared) (Q : VK) (E : XK) (r : Result) (s' : Shared) : Prop :=
 match r with
 | .ok (.ret u) => CE outer P w H s Q u s'
 | .ok _ => False
 | .error e => CX outer H s E e s'
structure FnOk (P : Program) (w : World) (K : PySem.W.Frag) (mg : Str -> Option Value) (base : Heap) (CX : CXT) (k : Nat) (f : Addr) (fd : FuncData) (ps : List Str) (sp : Sp) : Prop where
 len : ∀ vs H Q E, sp vs H Q E -> vs.length = ps.length
 run : ∀ (A : Around) (outer : List Env) (s : Shared) (H : Hp) (args : Args) (us : List Value) (vs : List V) (Q : VK) (E : XK), Room k A -> Env0 P w K mg base A outer s H -> BindsTo s fd args (ps.zip us) -> Zbk vs us -> sp vs H Q E →
  codeAny (model P w) A (.call (.ref f) args) (CR CX outer P w H s Q E) s
theorem FnOk.mono {P : Program} {w : World} {K : PySem.W.Frag} {mg : Str -> Option Value} {base : Heap} {CX : CXT} {j k : Nat} {f : Addr} {fd : FuncData} {ps : List Str} {sp : Sp} (F : FnOk P w K mg base CX j f fd ps sp) (h : j ≤ k) :
  FnOk P w K mg base CX k f fd ps sp := ⟨F.len, fun A outer s H args us vs Q E hr => F.run A outer s H args us vs Q E (hr.mono h)⟩
theorem FnOk.imp {P : Program} {w : World} {K : PySem.W.Frag} {mg : Str -> Option Value} {base : Heap} {CX : CXT} {k : Nat} {f : Addr} {fd : FuncData} {ps : List Str} {sp sp' : Sp} (F : FnOk P w K mg base CX k f fd ps sp)
  (h : ∀ vs H Q E, sp' vs H Q E -> sp vs H Q E) : FnOk P w K mg base CX k f fd ps sp' :=
 ⟨fun vs H Q E q => F.len vs H Q E (h _ _ _ _ q), fun A outer s H args us vs Q E hr he hb hv hs => F.run A outer s H args us vs Q E hr he hb hv (h _ _ _ _ hs)⟩
theorem Env0.make {P : Program} {w : World} {K : PySem.W.Frag} {mg : Str -> Option Value} {base : Heap} {A : Around} {outer : List Env} {s : Shared} {H : Hp} (e : Env0 P w K mg base A outer s H) (C : Addr) (us : List Value) (kw : List (Str × Value)) :
  Env0 P w K mg base (A.under (.builtin "type.__call__" ⟨.ref C :: us, kw⟩)) outer s H := ⟨by first | exact e.frames | (simpa [Around.under, Code.envs, Code.isFrame, pushEnvs] using e.frames), e.mod, e.bs, e.bsz, e.funs, e.frf, e.hok, e.bare⟩
theorem Env0.in1 {P : Program} {w : World} {K : PySem.W.Frag} {mg : Str -> Option Value} {base : Heap} {A : Around} {outer : List Env} {s : Shared} {H : Hp} (e : Env0 P w K mg base A outer s H) :
  Env0 P w K mg base A.in1 outer s H := ⟨e.frames, e.mod, e.bs, e.bsz, e.funs, e.frf, e.hok, e.bare⟩
section
variable {X : Cx} {pins : List (Addr × Obj)} {σ : St} {H : Hp} {s s' : Shared}
theorem Inv.env0 (I : Inv X pins σ H s) : Env0 X.prog X.w X.K X.mg X.base X.A X.stack s H :=
 ⟨I.ok.frames, I.ok.mod, I.bs, Nat.le_trans I.ok.bsz I.sz, I.stack, I.stkFree, I.hok, I.bare⟩
theorem Inv.after {Q : VK} {u : Value} (I : Inv X pins σ H s) (h : CE X.stack X.prog X.w H s Q u s') : EP X pins σ Q u s' := by
 obtain ⟨v, H', os, bare, un, hok, r, q⟩ := h
 obtain ⟨hh, g, d, t, os'⟩ := s'
 obtain rfl : os' = s.os := os
 exact ⟨v, H', I.call (h' := hh) (g' := g) (d' := d) (t' := t) (ch := []) un hok bare (fun b z => absurd z (by simp)), r, q⟩
end
noncomputable def tCall (sp : Sp) (dvs : List V) (E : XK) (t : TA) : TE := fun σ H Q => t σ H fun vs H1 => sp (vs ++ dvs) H1 Q E
noncomputable def Zfs (K : PySem.W.Frag) (fd : FuncData) (ps : List Str) (ds : List Value) : Prop :=
 ∀ (s : Shared) (us : List Value), K.In s.heap -> (us ++ ds).length = ps.length -> BindsTo s fd ⟨us, []⟩ (ps.zip (us ++ ds))
theorem Zfs.all {K : PySem.W.Frag} {fd : FuncData} {ps : List Str} (h : ∀ us : List Value, us.length = ps.length -> bindArgs fd ⟨us, []⟩ = pure (ps.zip us)) : Zfs K fd ps [] := fun s us _ hl => by
 rw [List.append_nil] at hl ⊢
 exact .of_eq (h us hl)
noncomputable def Znw (CX : CXT) (X : Cx) (E : XK) : Prop := ∀ (pins : List (Addr × Obj)) (σ : St) (H : Hp) (s : Shared) (e : Value) (s' : Shared), Inv X pins σ H s -> CX X.stack H s E e s' -> X.xe e s'
section
variable {X : Cx} {CX : CXT} {k : Nat} {f C : Addr} {fd : FuncData} {ps : List Str} {sp : Sp} {dvs : List V} {ds : List Value} {E : XK} {x m : Str} {p pos apos : Pos} {e o : Expr} {es : List Expr} {ta : TE} {t : TA}
theorem Zzm {pins : List (Addr × Obj)} {σ : St} {H : Hp} {s : Shared} {Q : VK} {us : List Value} {vs : List V} (F : FnOk X.prog X.w X.K X.mg X.base CX k f fd ps sp) (hr : Room k X.A) (hb : Zfs X.K fd ps ds) (hd : Zbk dvs ds) (hx : Znw CX X E)
  (I : Inv X pins σ H s) (r : Zbk vs us) (h : sp (vs ++ dvs) H Q E) : wpAny (model X.prog X.w) X.A (call (.ref f) us) (EP X pins σ Q) X.xe s := by
 have r2 : Zbk (vs ++ dvs) (us ++ ds) := r.append hd
 have hl : (us ++ ds).length = ps.length := by rw [← r2.length]; exact F.len _ _ _ _ h
 refine wpAny_call (codeAny_mono (F.run X.A X.stack s H ⟨us, []⟩ (us ++ ds) (vs ++ dvs) Q E hr I.env0 (hb s us I.kIn hl) r2 h) fun r s' hq => ?_)
 cases r with
 | error e => exact hx pins σ H s e s' I hq
 | ok fl =>
  cases fl with
  | ret u => exact I.after hq
  | next => exact False.elim hq
  | brk => exact False.elim hq
  | cont => exact False.elim hq
theorem Zun (F : FnOk X.prog X.w X.K X.mg X.base CX k f fd ps sp) (hr : Room k X.A) (hg : Gl X x) (hm : X.mg x = some (.ref f)) (hk : PySem.W.keepIn X.K (.ref f) = true) (hb : Zfs X.K fd ps ds) (hd : Zbk dvs ds) (hx : Znw CX X E)
  (ha : PA X (e :: es) t) (hdb : (x == ("__debug__" : Str)) = false := by decide) (he : starEach (e :: es) X.env = (false, eval e X.env) :: starEach es X.env := by rfl) (hpl : (backTo pos (starEach es X.env)).any (·.1) = false := by rfl) :
  PE X (.Call (.Name x p) (e :: es) [] pos) (tCall sp dvs E t) := by
 intro pins s σ H Q I h
 refine wpAny_Call_Name_kw (Zgc I hg hm ?_ hdb)
 refine PySem.W.callWith_K (h₀ := X.base) I.ok.mod.kin hk (thn (ha pos pins s σ H _ I h) fun us s1 ⟨vs, H1, I1, r, q⟩ => ⟨I1.kIn, ?_⟩) he hpl
 exact Zzm F hr hb hd hx I1 r q
structure Mk (K : PySem.W.Frag) (C f : Addr) : Prop where
 makes : PySem.W.makesIn K C = true
 init : PySem.W.findIn K (.ref C) "__init__" = some (some (.ref f))
 fn : PySem.W.isFn K (.ref f) = true
 kp : PySem.W.keepIn K (.ref C) = true
end
noncomputable def PK (X : Cx) (kws : List Keyword) (t : TA) : Prop :=
 ∀ (pos : Pos) (pins : List (Addr × Obj)) (s : Shared) (σ : St) (H : Hp) (Q : List V -> Hp -> Prop), Inv X pins σ H s -> t σ H Q -> wpAny (model X.prog X.w) X.A (evalAll ((backToKw pos (keywordEach kws X.env)).map (·.2))) (AP X pins σ Q) X.xe s
section
variable {X : Cx} {CX : CXT} {k : Nat} {f C : Addr} {fd : FuncData} {ps ks : List Str} {sp : Sp} {E : XK} {x m : Str} {p pos apos kpos : Pos} {e o : Expr} {es : List Expr} {kws : List Keyword} {te ta : TE} {t tk : TA} {nm : Option Str}
structure KBinds (K : PySem.W.Frag) (fd : FuncData) (ps ks : List Str) (g : List Value -> List Value -> List Value) (gV : List V -> List V -> List V) : Prop where
 to : ∀ (s : Shared) (us ws : List Value), K.In s.heap -> (g us ws).length = ps.length -> BindsTo s fd ⟨us, ks.zip ws⟩ (ps.zip (g us ws))
 rel : ∀ {vs : List V} {us : List Value} {zs : List V} {ws : List Value}, Zbk vs us -> Zbk zs ws -> Zbk (gV vs zs) (g us ws)
variable {g : List Value -> List Value -> List Value} {gV : List V -> List V -> List V}
end
structure FnScope (N P : List Str) (sc : Scope) : Prop where
 kind : sc.kind = .function
 co : sc.isCoroutine = false
 gen : sc.isGenerator = false
 nd : N.Nodup
 pre : N.take P.length = P
 par : ∀ x ∈ P, sc.names.lookup x = some .local ∨ sc.names.lookup x = some .cell
 nofree : ∀ y ∈ sc.names, y.2 ≠ .free
theorem Zjr {kindOf : Str -> Option NameKind} {x : Str} : ∀ {binds : List (Str × Value)} {m : Str -> Option Value}, (∀ v, (x, v) ∉ binds) -> bindL kindOf binds m x = m x
 | [], _, _ => rfl
 | (n, v) :: r, m, h => by
  unfold bindL
  rw [Zjr fun w hw => h w (List.mem_cons_of_mem _ hw)]
  split
  ·have : x ≠ n := by rintro rfl; exact h v List.mem_cons_self
   simp [this]
  ·rfl
theorem Zj8 {kindOf : Str -> Option NameKind} {x : Str} : ∀ {binds : List (Str × Value)} {m : Str -> Option Value}, (∀ v, (x, v) ∉ binds) -> bindC kindOf binds m x = m x
 | [], _, _ => rfl
 | (n, v) :: r, m, h => by
  unfold bindC
  rw [Zj8 fun w hw => h w (List.mem_cons_of_mem _ hw)]
  split
  ·rfl
  ·have : x ≠ n := by rintro rfl; exact h v List.mem_cons_self
   simp [this]
theorem Zke {kindOf : Str -> Option NameKind} {x : Str} {v : Value} : ∀ {P : List Str} {vs : List Value} {i : Nat} {m : Str -> Option Value}, P.Nodup -> P[i]? = some x -> vs[i]? = some v -> kindOf x = some .local →
  bindL kindOf (P.zip vs) m x = some v
 | [], _, _, _, _, h, _, _ => by simp at h
 | _ :: _, [], _, _, _, _, h, _ => by simp at h
 | p :: P, w :: vs, 0, m, nd, h1, h2, hk => by
  simp at h1 h2; subst h1; subst h2
  show bindL kindOf ((p, w) :: P.zip vs) m p = _
  unfold bindL
  rw [Zjr fun v hv => (List.nodup_cons.mp nd).1 (List.of_mem_zip hv).1, if_pos hk]
  simp
 | p :: P, w :: vs, i + 1, m, nd, h1, h2, hk => by
  show bindL kindOf ((p, w) :: P.zip vs) m x = _
  unfold bindL
  exact Zke (i := i) (List.nodup_cons.mp nd).2 (by simpa using h1) (by simpa using h2) hk
theorem Zko {kindOf : Str -> Option NameKind} {x : Str} {v : Value} : ∀ {P : List Str} {vs : List Value} {i : Nat} {m : Str -> Option Value}, P.Nodup -> P[i]? = some x -> vs[i]? = some v -> kindOf x ≠ some .local →
  bindC kindOf (P.zip vs) m x = some v
 | [], _, _, _, _, h, _, _ => by simp at h
 | _ :: _, [], _, _, _, _, h, _ => by simp at h
 | p :: P, w :: vs, 0, m, nd, h1, h2, hk => by
  simp at h1 h2; subst h1; subst h2
  show bindC kindOf ((p, w) :: P.zip vs) m p = _
  unfold bindC
  rw [Zj8 fun v hv => (List.nodup_cons.mp nd).1 (List.of_mem_zip hv).1, if_neg hk]
  simp
 | p :: P, w :: vs, i + 1, m, nd, h1, h2, hk => by
  show bindC kindOf ((p, w) :: P.zip vs) m x = _
  unfold bindC
  exact Zko (i := i) (List.nodup_cons.mp nd).2 (by simpa using h1) (by simpa using h2) hk
noncomputable def start (N : List Str) (vs : List V) : St := vs.map some ++ List.replicate (N.length - vs.length) none
noncomputable def Zfn (CX : CXT) (P : Program) (w : World) (K : PySem.W.Frag) (mg : Str -> Option Value) (base : Heap) (N : List Str) (qual : Str) (scope : Scope) (f : Addr) (cd : Value) (A : Around) (outer : List Env) (s : Shared) (H : Hp) (E : XK) : Cx where
 prog := P
 w := w
 K := K
 mg := mg
 base := base
 A := A.deeper (envOfC qual scope s.heap.objs.size f cd)
 N := N
 s₀ := s
 H₀ := H
 env := envOfC qual scope s.heap.objs.size f cd
 outer := outer
 stack := envOfC qual scope s.heap.objs.size f cd :: outer
 ex := []
 calm := true
 fn := fun _ => true
 pn := []
 xe := fun e s' => wpAny (model P w) (A.deeper (envOfC qual scope s.heap.objs.size f cd)) (leaving (envOfC qual scope s.heap.objs.size f cd) e) (fun _ s'' => CX outer H s E e s'') (fun e' s'' => CX outer H s E e' s'') s'
theorem Zjg {sc : Scope} {n : Nat} {x : Str} (h : sc.names.lookup x = some .cell) : ∃ c, (cellsFrom n sc.names []).lookup x = some c := by
 have q := PySem.W.cellsFrom_some sc.names n [] (.inl h)
 exact Option.isSome_iff_exists.mp q
theorem Zqa {CX : CXT} {P : Program} {w : World} {K : PySem.W.Frag} {mg : Str -> Option Value} {base : Heap} {N ps : List Str} {qual : Str} {scope : Scope} {f : Addr} {cd : Value} {A : Around} {outer : List Env} {s s1 : Shared} {H : Hp} {E : XK} {us : List Value} {vs : List V}
  (S : FnScope N ps scope) (hd : A.handled = none) (e0 : Env0 P w K mg base A outer s H) (hl : vs.length = ps.length) (r : Zbk vs us)
  (x : InCallC s s.heap.objs.size (bindL (envOfC qual scope s.heap.objs.size f cd).kindOf (ps.zip us) fun _ => none) (cellsFrom (s.heap.objs.size + 1) scope.names []) (bindC (envOfC qual scope s.heap.objs.size f cd).kindOf (ps.zip us) fun _ => none) s1) :
  Inv (Zfn CX P w K mg base N qual scope f cd A outer s H E) [] (start N vs) H s1 := by
 have hpl : ps.length ≤ N.length := by have := congrArg List.length S.pre; rw [List.length_take] at this; omega
 obtain ⟨h1, tk, rfl, hk⟩ := x.done
 have noA : ∀ b : Addr, b ∉ (Zfn CX P w K mg base N qual scope f cd A outer s H E).ex := fun b z => absurd (show b ∈ ([] : List Addr) from z) (by simp)
 refine ⟨⟨e0.mod, S.kind, rfl, rfl, Nat.le_refl _, fun y z c h1 h2 => ?_, fun y hy => ?_, fun y c _ h => ?_, fun _ => hd, Around.frames_deeper e0.frames, .inr ⟨rfl, rfl⟩, fun b z => absurd z (noA b), e0.bs, e0.bsz, fun b _ _ => noA b, fun b z => absurd z (noA b), e0.funs, e0.frf⟩,
  rfl, e0.bare, Un.kept hk, ⟨_, x.toInCall.ns, fun i y v h1 h2 h3 => ?_⟩, fun y c h => ⟨_, x.cell y c h⟩, e0.hok.fresh (Nat.le_refl _), fun y c h => ?_, fun p hp => absurd (show p ∈ ([] : List (Addr × Obj)) from hp) (by simp), e0.hok.kept hk, ?_⟩
 ·exact name_of_addr x.apart (PySem.mem_of_lookup h1) (PySem.mem_of_lookup h2)
 ·have hy : scope.names.lookup y = some .cell ∨ scope.names.lookup y = some .free := hy
  rcases hy with hy | hy
  ·exact Zjg hy
  ·exact absurd rfl (S.nofree _ (PySem.mem_of_lookup hy))
 ·exact Nat.le_of_lt (x.above y c (PySem.mem_of_lookup h))
 ·have hi : i < vs.length := by
   unfold start at h2
   by_cases hi : i < vs.length
   ·exact hi
   ·rw [List.getElem?_append_right (by simpa using hi)] at h2
    rw [List.getElem?_replicate] at h2
    split at h2 <;> cases h2
  have ha : vs[i]? = some v := by
   unfold start at h2
   rw [List.getElem?_append_left (by simpa using hi), List.getElem?_map] at h2
   cases e : vs[i]? with
   | none => rw [e] at h2; cases h2
   | some a => rw [e] at h2; cases h2; rfl
  obtain ⟨u, hu, rv⟩ := r.get ha
  have hp : ps[i]? = some y := by
   rw [← S.pre, List.getElem?_take_of_lt (by omega)]; exact h1
  have ndP : ps.Nodup := by rw [← S.pre]; exact S.nd.sublist (List.take_sublist _ _)
  refine ⟨u, rv, ?_⟩
  rcases S.par y (List.mem_of_getElem? hp) with k | k
  ·exact .inl ⟨k, Zke ndP hp hu k⟩
  ·obtain ⟨c, e⟩ := Zjg (n := s.heap.objs.size + 1) k
   refine .inr ⟨.inl k, c, e, ?_⟩
   have q := x.cell y c e
   rw [Zko ndP hp hu (by show scope.names.lookup y ≠ _; rw [k]; decide)] at q
   exact q
 ·exact e0.hok.fresh (Nat.le_of_lt (x.above y c (PySem.mem_of_lookup h)))
 ·unfold start
  show _ = N.length
  rw [List.length_append, List.length_map, List.length_replicate]
  omega
theorem Zzd {CX : CXT} {P : Program} {w : World} {K : PySem.W.Frag} {mg : Str -> Option Value} {base : Heap} {k : Nat} {f : Addr} {name qual : Str} {params : Arguments} {body : List Stmt} {scope : Scope} {dV kV doc pm cdv ct oc : Value} {an od : Option Addr}
  {osl : Array (Option Value)} {N ps : List Str} {sp : Sp} (lk : K.lookup f = some ⟨oc, od, .func (PySem.W.fnOf name qual params body scope dV kV doc pm an cdv ct), osl⟩) (hcd : PySem.W.codeIn K cdv qual = true) (S : FnScope N ps scope)
  (len : ∀ vs H Q E, sp vs H Q E -> vs.length = ps.length)
  (hbody : ∀ (A : Around) (outer : List Env) (s : Shared) (H : Hp) (vs : List V) (Q : VK) (E : XK), Room k (A.deeper (envOfC qual scope s.heap.objs.size f cdv)) -> sp vs H Q E →
   ∃ t, PSs (Zfn CX P w K mg base N qual scope f cdv A outer s H E) body t ∧ t { nx := fun _ H' => Q .non H', rt := Q } (start N vs) H) :
  FnOk P w K mg base CX (k + 1) f (PySem.W.fnOf name qual params body scope dV kV doc pm an cdv ct) ps sp := by
 refine ⟨len, fun A outer s H args us vs Q E hr e0 hb r hsp => ?_⟩
 have hl := len _ _ _ _ hsp
 have KX : K.In s.heap := e0.mod.kin.keeps fun b o e => (e0.bs b o e).1
 have lim : s.heap.NoLimit := e0.mod.nolimit.keeps fun b o e => (e0.bs b o e).1
 have hkind : ∀ y ∈ ps.zip us, scope.names.lookup y.1 = some .local ∨ (scope.names.lookup y.1 = some .cell ∧ ((cellsFrom (s.heap.objs.size + 1) scope.names []).lookup y.1).isSome = true) := fun ⟨n, v⟩ hy => by
  rcases S.par n (List.of_mem_zip hy).1 with q | q
  ·exact .inl q
  ·exact .inr ⟨q, PySem.W.cellsFrom_some _ _ _ (.inl q)⟩
 refine codeAny_call_function hr.depth (KX _ _ lk) rfl S.co S.gen rfl (PySem.W.codeRec_of KX hcd) (hb _ _ _ _ ?_)
 refine wpAny_newFunctionEnv_cells S.kind hkind fun env he s1 x => ?_
 subst he
 refine ⟨lim.keeps x.toInCall.keep, codeAny_func ?_⟩
 obtain ⟨t, ht, hq⟩ := hbody A outer s H vs Q E (hr.deeper _) hsp
 have I : Inv (Zfn CX P w K mg base N qual scope f cdv A outer s H E) [] (start N vs) H s1 := Zqa S hr.hd e0 hl r x
 refine wpAny_mono (ht [] s1 (start N vs) H _ I hq) (fun fl s' hs => ?_) fun e s' hs => hs
 have fin : ∀ {σ' : St} {H' : Hp} {v : V} {u : Value}, Inv (Zfn CX P w K mg base N qual scope f cdv A outer s H E) [] σ' H' s' -> Zct v u -> Q v H' -> CE outer P w H s Q u s' :=
  fun {σ' H' v u} J rv q => ⟨v, H', J.os, J.bare, J.base, J.hok, rv, q⟩
 cases fl with
 | ret u =>
  obtain ⟨v, σ', H', J, rv, q⟩ := hs
  exact fin J rv q
 | next =>
  obtain ⟨σ', H', J, q⟩ := hs
  exact fin (v := V.non) (u := Value.none) J rfl q
 | brk =>
  obtain ⟨_, _, _, q⟩ := hs
  exact False.elim q
 | cont =>
  obtain ⟨_, _, _, q⟩ := hs
  exact False.elim q
section
variable {X : Cx} {x : Str} {p pos : Pos} {e : Expr} {es : List Expr} {t : TA} {id T : String} {r : List V -> Hp -> VK -> Prop}
noncomputable def tCB (r : List V -> Hp -> VK -> Prop) (t : TA) : TE := fun σ H Q => t σ H fun vs H1 => r vs H1 Q
theorem Zi5 (hc : Zgg X (.builtin id) r) (hg : Gl X x) (hm : X.mg x = none) (hv : bootBuiltins x = some (.builtin id)) (ha : PA X (e :: es) t) (hn : x ≠ "__name__" := by decide) (hdb : (x == ("__debug__" : Str)) = false := by decide)
  (he : starEach (e :: es) X.env = (false, eval e X.env) :: starEach es X.env := by rfl) (hpl : (backTo pos (starEach es X.env)).any (·.1) = false := by rfl) : PE X (.Call (.Name x p) (e :: es) [] pos) (tCB r t) := by
 intro pins s σ H Q I h
 refine wpAny_Call_Name_kw (Zhp I hg hm hv ?_ hn hdb)
 exact PyProof.Rows.callWith_builtin1 (thn (ha pos pins s σ H _ I h) fun us s1 ⟨vs, H1, I1, r1, q1⟩ => hc pins s1 σ H1 vs us Q I1 r1 q1) he hpl
theorem Zop (hc : Zgg X (.type T) r) (hg : Gl X x) (hm : X.mg x = none) (hv : bootBuiltins x = some (.type T)) (ha : PA X (e :: es) t) (hn : x ≠ "__name__" := by decide) (hdb : (x == ("__debug__" : Str)) = false := by decide)
  (he : starEach (e :: es) X.env = (false, eval e X.env) :: starEach es X.env := by rfl) (hpl : (backTo pos (starEach es X.env)).any (·.1) = false := by rfl) : PE X (.Call (.Name x p) (e :: es) [] pos) (tCB r t) := by
 intro pins s σ H Q I h
 refine wpAny_Call_Name_kw (Zhp I hg hm hv ?_ hn hdb)
 exact PyProof.Rows.callWith_type1 (thn (ha pos pins s σ H _ I h) fun us s1 ⟨vs, H1, I1, r1, q1⟩ => hc pins s1 σ H1 vs us Q I1 r1 q1) he hpl
end
end L2
namespace HT
open PySem PyProof.Rows
section
open PySem.SeqAt
open PySem.AutoSeq1 (wpAny_loadPart')
open PySem.MeetsSeq PySem.MeetsSeq2 PySem.MeetsSeq3
end
section
variable {prog : Program} {w : World} {A : Around} {E : Value -> Shared -> Prop} {s : Shared}
theorem cat_tup {t b : Addr} {vs ws : List Value} {Q : Value -> Shared -> Prop} (ht : IsTup s.heap t vs.toArray) (hb : IsTup s.heap b ws.toArray) (hv : vs ≠ [])
  (h1 : ws = [] → Q (.ref t) s) (h2 : ws ≠ [] → Q (.ref s.heap.objs.size) { s with heap := s.heap.push { cls := .type "tuple", data := .seq (vs ++ ws).toArray } })
  (hsz : vs.length + ws.length ≤ sizeLine) : wpAny (model prog w) A (binaryOp .Add (.ref t) (.ref b)) Q E s := by
 obtain ⟨⟨cls, dd, data, sl⟩, ho, hc, n, hd⟩ := id ht
 obtain ⟨⟨cls2, dd2, data2, sl2⟩, ho2, hc2, n2, hd2⟩ := id hb
 simp only at hc hd hc2 hd2
 subst hc hd hc2 hd2
 have e : vs.toArray ++ ws.toArray = (vs ++ ws).toArray := by simp
 by_cases hw : ws = []
 ·exact concat_meets ⟨_, ho, rfl⟩ ⟨_, ho2, rfl⟩ noFill_tuple_add seq_tuple_add PySem.F.slot_tuple_add PySem.F.entry_tuple_add (PySem.F.args_tuple_add_2 _ _)
   (tuple_addW1 t b vs.toArray ws.toArray n n2 dd dd2 sl sl2 (by simpa using hv) (by simp [hw])) ⟨ho, ho2, h1 hw⟩
 ·refine concat_meets ⟨_, ho, rfl⟩ ⟨_, ho2, rfl⟩ noFill_tuple_add seq_tuple_add PySem.F.slot_tuple_add PySem.F.entry_tuple_add (PySem.F.args_tuple_add_2 _ _)
   (tuple_addW2 t b vs.toArray ws.toArray n n2 dd dd2 sl sl2 (by simpa using hv) (by simpa using hw) (by rw [List.size_toArray, List.size_toArray]; exact hsz)) ⟨ho, ho2, ?_⟩
  rw [e]
  exact h2 hw
noncomputable def sIx (n d : Nat) : Option Int -> Nat
 | none => d
 | some v => if v < 0 then (v + (n : Int)).toNat else min v.toNat n
theorem Zxm (n d : Nat) (hd : d ≤ n) (o : Option Int) : sIx n d o ≤ n := by
 cases o with
 | none => exact hd
 | some v =>
  show (if v < 0 then (v + (n : Int)).toNat else min v.toNat n) ≤ n
  by_cases hv : v < 0
  ·rw [if_pos hv]; omega
  ·rw [if_neg hv]; exact Nat.min_le_right _ _
theorem Zpi (v : Int) (n d : Nat) : (if v < 0 then max (v + (n : Int)) 0 else min v (n : Int)) = ((sIx n d (some v) : Nat) : Int) := by
 show (if v < 0 then max (v + (n : Int)) 0 else min v (n : Int)) = (((if v < 0 then (v + (n : Int)).toNat else min v.toNat n) : Nat) : Int)
 by_cases hv : v < 0
 ·simp only [if_pos hv]; omega
 ·simp only [if_neg hv]; omega
theorem Znh (lo hi : Option Int) (n : Nat) : Builtin.Slice.sliceAdjust lo hi 1 (n : Int) = (((sIx n 0 lo : Nat) : Int), ((sIx n n hi : Nat) : Int)) := by
 have h1 : ¬ ((1 : Int) < 0) := by omega
 unfold Builtin.Slice.sliceAdjust
 simp only [h1, if_false]
 refine Prod.ext ?_ ?_
 ·cases lo with
  | none => rfl
  | some v => exact Zpi v n 0
 ·cases hi with
  | none => rfl
  | some v => exact Zpi v n n
theorem Zmw (i j : Nat) : Builtin.Slice.slicePlaces (i : Int) (j : Int) 1 = j - i := by
 unfold Builtin.Slice.slicePlaces
 have h1 : (1 : Int) > 0 := by omega
 simp only [h1, if_true, Int.ediv_one]
 split <;> omega
theorem Zif {v : Value} {o : Option Int} {Q : Option Int -> Shared -> Prop} (p : IsPart v o) (h : Q o s) : wpAny (model prog w) A (Builtin.Slice.slicePartIndex v) Q E s := by
 cases p with
 | none => exact slicePart_none h
 | int i t => exact slicePart_int h
theorem sliceApplied_gen {sl : Addr} {vl vu : Value} {lo hi : Option Int} {n : Nat} {Q : Int × Int × Nat -> Shared -> Prop} (hs : s.heap.IsSliceOf sl vl vu .none) (pl : IsPart vl lo) (pu : IsPart vu hi)
  (h : Q (((sIx n 0 lo : Nat) : Int), 1, sIx n n hi - sIx n 0 lo) s) : wpAny (model prog w) A (Builtin.Slice.sliceApplied (.ref sl) (pure (n : Int))) Q E s := by
 obtain ⟨os, hos, hcs, hds⟩ := id hs
 unfold Builtin.Slice.sliceApplied Builtin.Slice.sliceFields
 refine wpAny_bind (wpAny_bind (wpAny_field hos hds (x := vl) rfl (wpAny_bind (wpAny_field hos hds (x := vu) rfl (wpAny_bind (wpAny_field hos hds (x := .none) rfl (wpAny_pure ?_)))))))
 refine wpAny_bind (slicePart_none ?_)
 show wpAny _ _ (if ((1 : Int) == 0) = true then _ else _) _ _ s
 rw [if_neg (by decide)]
 refine wpAny_bind (Zif pl (wpAny_bind (Zif pu (wpAny_bind (wpAny_pure ?_)))))
 show wpAny _ _ (match Builtin.Slice.sliceAdjust lo hi 1 (n : Int) with | (lo, hi) => pure (lo, (1 : Int), Builtin.Slice.slicePlaces lo hi 1)) _ _ s
 rw [Znh lo hi n]
 show wpAny _ _ (pure (((sIx n 0 lo : Nat) : Int), (1 : Int), Builtin.Slice.slicePlaces ((sIx n 0 lo : Nat) : Int) ((sIx n n hi : Nat) : Int) 1)) _ _ s
 rw [Zmw]
 exact wpAny_pure h
theorem Zry (xs : Array Value) (i k : Nat) : ((List.range k).filterMap fun (m : Nat) => xs[((i : Int) + (m : Int) * 1).toNat]?).toArray = ((xs.toList.drop i).take k).toArray := by
 have e : (fun (m : Nat) => xs[((i : Int) + (m : Int) * 1).toNat]?) = fun m => xs[i + m]? := by
  funext m
  have : ((i : Int) + (m : Int) * 1).toNat = i + m := by omega
  rw [this]
 rw [e]
 have := pick_run xs i k
 rw [List.filterMap_map] at this
 have e2 : ((fun x => xs[x]?) ∘ fun x => i + x) = fun m => xs[i + m]? := rfl
 rw [e2] at this
 rw [this]
theorem getItem_tuple_cut {t sl : Addr} {items : Array Value} {vl vu : Value} {lo hi : Option Int} {Q : Value -> Shared -> Prop} (ht : IsTup s.heap t items) (hs : s.heap.IsSliceOf sl vl vu .none) (pl : IsPart vl lo) (pu : IsPart vu hi)
  (hw : ¬ (sIx items.size 0 lo = 0 ∧ sIx items.size items.size hi = items.size))
  (h : Q (.ref s.heap.objs.size) { s with heap := s.heap.push { cls := .type "tuple", data := .seq ((items.toList.drop (sIx items.size 0 lo)).take (sIx items.size items.size hi - sIx items.size 0 lo)).toArray } })
  (hsz : items.size ≤ sizeLine) : wpAny (model prog w) A (getItem (.ref t) (.ref sl)) Q E s := by
 have htake : sizeOk (.seq ((items.toList.drop (sIx items.size 0 lo)).take (sIx items.size items.size hi - sIx items.size 0 lo)).toArray) := by
  show ((items.toList.drop (sIx items.size 0 lo)).take (sIx items.size items.size hi - sIx items.size 0 lo)).toArray.size ≤ sizeLine
  rw [List.size_toArray, List.length_take, List.length_drop, Array.length_toList]
  omega
 have hj : sIx items.size items.size hi ≤ items.size := Zxm _ _ (Nat.le_refl _) hi
 obtain ⟨os, hos, hcs, hds⟩ := id hs
 have hTs : s.TypeIs (.ref sl) "slice" := ⟨os, hos, hcs⟩
 unfold getItem
 try with_reducible refine wpAny_holding ?_
 first | refine wpAny_bind (wpAny_pure ?_) | skip
 refine wpAny_bind (wpAny_sequenceKey ht.typeIs (by decide) ?_)
 refine wpAny_bind (wpAny_callSpecial?_slot (name := Str.ofString "__getitem__") ht.typeIs PyProof.Rows.slot_tuple_getitem
  (wpAny_call_entry PyProof.Rows.slot_tuple_getitem ht.typeIs entry_tuple_getitem ?_ (args_tuple_getitem _ _)))
 show wpAny _ _ (Builtin.Tuple.tupleItemsOf (.ref t) >>= _) _ _ s
 refine wpAny_bind (tupleItemsOf_ ht ?_)
 refine wpAny_bind (wpAny_typeOf hTs ?_)
 rw [if_pos (by decide)]
 refine wpAny_bind (sliceApplied_gen hs pl pu ?_)
 have hno : ¬ ((((sIx items.size 0 lo : Nat) : Int) == 0 && (1 : Int) == 1 && (sIx items.size items.size hi - sIx items.size 0 lo) == items.size) = true) := by
  intro q
  rw [Bool.and_eq_true, Bool.and_eq_true] at q
  have q1 : ((sIx items.size 0 lo : Nat) : Int) = 0 := eq_of_beq q.1.1
  have q2 : sIx items.size items.size hi - sIx items.size 0 lo = items.size := eq_of_beq q.2
  exact hw ⟨by omega, by omega⟩
 show wpAny _ _ (if (((sIx items.size 0 lo : Nat) : Int) == 0 && (1 : Int) == 1 && (sIx items.size items.size hi - sIx items.size 0 lo) == items.size) = true then _ else _) _ _ s
 rw [if_neg hno, Zry]
 first
  | exact wpAny_bind (m := Builtin.Tuple.tupleExact _) (wpAny_newObj_type (wpAny_pure ⟨_, rfl, wpAny_pure h⟩) htake)
  | exact wpAny_bind (m := Builtin.Tuple.tupleExact _) (wpAny_newObj_type (wpAny_bind (wpAny_pure (wpAny_pure ⟨_, rfl, wpAny_pure h⟩))) htake)
  | exact wpAny_bind (wpAny_bind (m := Builtin.Tuple.tupleExact _) (wpAny_newObj_type (wpAny_pure (wpAny_pure ⟨_, rfl, wpAny_pure h⟩)) htake))
  | exact wpAny_bind (wpAny_bind (m := Builtin.Tuple.tupleExact _) (wpAny_newObj_type (wpAny_pure ⟨_, rfl, wpAny_pure h⟩) htake))
end
end HT
namespace L2
open PySem PySem.Spec PyProof.Rows
noncomputable abbrev TO := St -> Hp -> (Option Int -> Hp -> Prop) -> Prop
noncomputable def PO (X : Cx) (e : Option Expr) (t : TO) : Prop :=
 ∀ (pins : List (Addr × Obj)) (s : Shared) (σ : St) (H : Hp) (Q : Option Int -> Hp -> Prop), Inv X pins σ H s -> t σ H Q →
  wpAny (model X.prog X.w) X.A (evalPart e X.env) (fun u s' => ∃ o H', Inv X pins σ H' s' ∧ IsPart u o ∧ Q o H') X.xe s
noncomputable def Zv9 : TO := fun _ H Q => Q none H
noncomputable def tPart (t : TE) : TO := fun σ H Q => t σ H fun x H1 => ∃ i, x = .int i ∧ Q (some i) H1
section
variable {X : Cx} {e : Expr} {te : TE} {lo hi : Option Expr} {tl th : TO} {pos p2 : Pos}
theorem Zux : PO X none Zv9 := by
 intro pins s σ H Q I h
 rw [evalPart_none]
 exact wpAny_pure ⟨none, H, I, .none, h⟩
theorem Ztu (h : PE X e te) : PO X (some e) (tPart te) := by
 intro pins s σ H Q I hw
 rw [evalPart_some]
 refine thn (h pins s σ H _ I hw) fun u s1 zz => ?_
 obtain ⟨x, H1, I1, r1, q1⟩ := zz
 obtain ⟨i, rfl, q⟩ := q1
 obtain ⟨t, rfl⟩ := r1
 exact ⟨some i, H1, I1, .int i t, q⟩
noncomputable def SlR (X : Cx) (r : V -> Option Int -> Option Int -> Hp -> VK -> Prop) : Prop :=
 ∀ (pins : List (Addr × Obj)) (s : Shared) (σ : St) (H : Hp) (x : V) (v vl vu : Value) (lo hi : Option Int) (sl : Addr) (Q : VK), Inv X pins σ H s -> Zct x v -> s.heap.IsSliceOf sl vl vu .none -> IsPart vl lo -> IsPart vu hi -> r x lo hi H Q →
  ∃ T id, typeLookup (.type T) "__getitem__" = pure (some (.builtin id)) ∧ s.TypeIs v T ∧ wpAny (model X.prog X.w) X.A (getItem v (.ref sl)) (EP X pins σ Q) X.xe s
noncomputable def tSl (r : V -> Option Int -> Option Int -> Hp -> VK -> Prop) (te : TE) (tl th : TO) : TE := fun σ H Q => te σ H fun x H1 => tl σ H1 fun l H2 => th σ H2 fun u H3 => r x l u H3 Q
theorem Zlp {r : V -> Option Int -> Option Int -> Hp -> VK -> Prop} (hr : SlR X r) (he : PE X e te) (hl : PO X lo tl) (hu : PO X hi th) : PE X (.Subscript e (.Slice lo hi none p2) pos) (tSl r te tl th) := by
 intro pins s σ H Q I h
 refine Subscript_ (thn (he pins s σ H _ I h) fun v s1 zz => ?_)
 obtain ⟨x, H1, I1, r1, q1⟩ := zz
 refine wpAny_Slice (thn (hl pins s1 σ H1 _ I1 q1) fun vl s2 ⟨l, H2, I2, pl, q2⟩ => thn (hu pins s2 σ H2 _ I2 q2) fun vu s3 zz => ?_)
 obtain ⟨u, H3, I3, pu, q3⟩ := zz
 rw [evalPart_none]
 refine wpAny_pure ?_
 have I4 : Inv X pins σ H3 { s3 with heap := s3.heap.push { cls := .type "slice", data := .fields #[vl, vu, .none] } } := I3.kept (t' := s3.toks) fun b ob q => Heap.get?_push_of_some _ q
 obtain ⟨T, id, hT, ht, hg⟩ := hr pins { s3 with heap := s3.heap.push { cls := .type "slice", data := .fields #[vl, vu, .none] } } σ H3 x v vl vu l u s3.heap.objs.size Q I4 r1 (Heap.IsSliceOf.new ..) pl pu q3
 show wpAny (model X.prog X.w) X.A (subscriptTail e (.Slice lo hi none p2) v (.ref s3.heap.objs.size)) (EP X pins σ Q) X.xe { s3 with heap := s3.heap.push { cls := .type "slice", data := .fields #[vl, vu, .none] } }
 exact tail_any (ops := [.ref s3.heap.objs.size, v]) ht hT hg (by with_unfolding_all rfl)
noncomputable def Zsv (xs : List V) (lo hi : Option Int) : List V := (xs.drop (HT.sIx xs.length 0 lo)).take (HT.sIx xs.length xs.length hi - HT.sIx xs.length 0 lo)
theorem Zei (xs : List V) (lo hi : Option Int) : (Zsv xs lo hi).length ≤ xs.length := by
 unfold Zsv
 rw [List.length_take, List.length_drop]
 omega
noncomputable def rSlT (K : PySem.W.Frag) : V -> Option Int -> Option Int -> Hp -> VK -> Prop := fun x lo hi H Q => ∃ a xs, x = .ref a ∧ SqT K H a xs ∧
 ¬ (HT.sIx xs.length 0 lo = 0 ∧ HT.sIx xs.length xs.length hi = xs.length) ∧ ∀ p, H p = none -> Q (.ref p) (upd H p (.tup (Zsv xs lo hi)))
theorem Zx4 : SlR X (rSlT X.K) := by
 intro pins s σ H x v vl vu lo hi sl Q I rx hs pl pu h
 obtain ⟨a, xs, rfl, hx, hw, q⟩ := h
 cases rx
 obtain ⟨its, r, ht, hz⟩ := I.tuple hx
 have hlen : its.toArray.size = xs.length := by rw [List.size_toArray]; exact r.length.symm
 refine ⟨"tuple", _, PyProof.Rows.slot_tuple_getitem.lookup, ht.typeIs, ?_⟩
 refine HT.getItem_tuple_cut ht hs pl pu (by rw [hlen]; exact hw) ?_ (by rw [hlen]; exact hz)
 rw [hlen]
 refine ⟨.ref s.heap.objs.size, _, I.laid (t' := s.toks) (o := .tup (Zsv xs lo hi)) (fun b ob q => Heap.get?_push_of_some _ q) (Nat.le_refl _) ?_, rfl, q _ (I.hok.fresh (Nat.le_refl _))⟩
 exact ⟨Nat.le_trans (Zei xs lo hi) hz, _, (r.drop (HT.sIx xs.length 0 lo)).take (HT.sIx xs.length xs.length hi - HT.sIx xs.length 0 lo), Zje.new _ _⟩
noncomputable def rCatT (K : PySem.W.Frag) : R2 := fun x y H Q => ∃ a b xs ys, x = .ref a ∧ y = .ref b ∧ SqT K H a xs ∧ SqT K H b ys ∧ xs ≠ [] ∧ xs.length + ys.length ≤ sizeLine ∧
 (ys = [] -> Q (.ref a) H) ∧ (ys ≠ [] -> ∀ p, H p = none -> Q (.ref p) (upd H p (.tup (xs ++ ys))))
theorem Zbk.nil_iff {xs : List V} {us : List Value} (r : Zbk xs us) : us = [] ↔ xs = [] := by
 cases r with
 | nil => simp
 | cons _ _ => simp
theorem Zqb : OpR X (binaryOp .Add) (rCatT X.K) := by
 intro pins s σ H x y v u Q I rx ry h
 obtain ⟨a, b, xs, ys, rfl, rfl, ha, hb, hx, hz, q1, q2⟩ := h
 cases rx
 cases ry
 obtain ⟨its, r1, p1, _⟩ := I.tuple ha
 obtain ⟨its2, r2, p2, _⟩ := I.tuple hb
 refine HT.cat_tup p1 p2 (fun z => hx (r1.nil_iff.mp z)) (fun z => ⟨.ref a, H, I, rfl, q1 (r2.nil_iff.mp z)⟩) (fun z => ?_) (by rw [← r1.length, ← r2.length]; exact hz)
 refine ⟨.ref s.heap.objs.size, _, I.laid (t' := s.toks) (o := .tup (xs ++ ys)) (fun b ob q => Heap.get?_push_of_some _ q) (Nat.le_refl _) ?_, rfl, q2 (fun w => z (r2.nil_iff.mpr w)) _ (I.hok.fresh (Nat.le_refl _))⟩
 exact ⟨by rw [List.length_append]; exact hz, _, r1.append r2, Zje.new _ _⟩
end
noncomputable def ixN (n : Nat) (i : Int) : Option Nat := if 0 ≤ i then (if i < n then some i.toNat else none) else if -(n : Int) ≤ i then some (i + n).toNat else none
noncomputable def atI {α : Type} (xs : List α) (i : Int) : Option α := (ixN xs.length i).bind fun j => xs[j]?
theorem Zn2 {n : Nat} {i : Int} {j : Nat} (h : ixN n i = some j) : seqIndex? i n = some j ∧ j < n ∧ -(n : Int) ≤ i ∧ i < n := by
 unfold ixN at h
 by_cases h0 : 0 ≤ i
 ·rw [if_pos h0] at h
  by_cases h1 : i < n
  ·rw [if_pos h1] at h
   have e : i.toNat = j := Option.some.inj h
   exact ⟨by rw [seqIndex_of h0 h1, e], by omega, by omega, h1⟩
  ·rw [if_neg h1] at h; cases h
 ·rw [if_neg h0] at h
  by_cases h1 : -(n : Int) ≤ i
  ·rw [if_pos h1] at h
   have e : (i + n).toNat = j := Option.some.inj h
   exact ⟨by rw [seqIndex_neg (by omega) h1, e], by omega, h1, by omega⟩
  ·rw [if_neg h1] at h; cases h
theorem Zk0 {α : Type} {xs : List α} {i : Int} {v : α} (h : atI xs i = some v) : ∃ j, seqIndex? i xs.length = some j ∧ xs[j]? = some v ∧ j < xs.length ∧ -(xs.length : Int) ≤ i ∧ i < xs.length := by
 unfold atI at h
 cases e : ixN xs.length i with
 | none => rw [e] at h; cases h
 | some j =>
  rw [e] at h
  obtain ⟨h1, h2, h3, h4⟩ := Zn2 e
  exact ⟨j, h1, h, h2, h3, h4⟩
theorem Zeh {α : Type} {xs : List α} {j : Nat} {v : α} (h : xs[j]? = some v) : atI xs (j : Int) = some v := by
 have hj : j < xs.length := (List.getElem?_eq_some_iff.mp h).1
 have e : ixN xs.length (j : Int) = some j := by
  unfold ixN
  rw [if_pos (by omega), if_pos (by omega)]; simp
 unfold atI; rw [e]; exact h
theorem Zg2 {α : Type} (xs : List α) (v : α) : atI (xs ++ [v]) (-1) = some v := by
 have hl : (xs ++ [v]).length = xs.length + 1 := by simp
 have e : ixN (xs ++ [v]).length (-1) = some xs.length := by
  unfold ixN
  rw [hl, if_neg (by decide), if_pos (by omega)]
  congr 1
  omega
 unfold atI
 rw [e]
 show (xs ++ [v])[xs.length]? = some v
 simp
noncomputable def Zps (b : Expr) : Prop := ∀ o i, subscripted b false o i = operate [o, i] (getItem o i)
noncomputable def IxR (X : Cx) (r : R2) : Prop :=
 ∀ (value slice : Expr) (pins : List (Addr × Obj)) (s : Shared) (σ : St) (H : Hp) (x y : V) (v u : Value) (Q : VK), Inv X pins σ H s -> Zct x v -> Zct y u -> r x y H Q →
  subscripted slice false v u = operate [v, u] (getItem v u) -> wpAny (model X.prog X.w) X.A (subscriptTail value slice v u) (EP X pins σ Q) X.xe s
noncomputable def MtR (X : Cx) (id : String) (r : V -> List V -> Hp -> VK -> Prop) : Prop :=
 ∀ (pins : List (Addr × Obj)) (s : Shared) (σ : St) (H : Hp) (x : V) (xs : List V) (v : Value) (us : List Value) (Q : VK), Inv X pins σ H s -> Zct x v -> Zbk xs us -> r x xs H Q →
  wpAny (model X.prog X.w) X.A (call (.builtin id) (v :: us)) (EP X pins σ Q) X.xe s
section
variable {X : Cx} {a b : Expr} {ta tb : TE} {pos : Pos}
theorem pe_ix {r : R2} (hr : IxR X r) (ha : PE X a ta) (hb : PE X b tb) (hs : Zps b) : PE X (.Subscript a b pos) (tOp r ta tb) := by
 intro pins s σ H Q I h
 exact Subscript_ (binT ha hb I h fun v u s2 x y H2 I2 rx ry q => hr a b pins s2 σ H2 x y v u Q I2 rx ry q (hs _ _))
noncomputable def rIxL (K : PySem.W.Frag) : R2 := fun x y H Q => ∃ p xs i v, x = .ref p ∧ y = .int i ∧ SqL K H p xs ∧ atI xs i = some v ∧ Q v H
noncomputable def rIxT (K : PySem.W.Frag) : R2 := fun x y H Q => ∃ p xs i v, x = .ref p ∧ y = .int i ∧ SqT K H p xs ∧ atI xs i = some v ∧ Q v H
noncomputable def rIxS : R2 := fun x y H Q => ∃ z i c, x = .str z ∧ y = .int i ∧ z.length ≤ sizeLine ∧ atI z.cps.toList i = some c ∧ Q (.str ⟨#[c]⟩) H
theorem Zwc : IxR X (rIxL X.K) := by
 intro value slice pins s σ H x y v u Q I rx ry h hs
 obtain ⟨p, xs, i, z, rfl, rfl, hq, he, q⟩ := h
 cases rx
 obtain ⟨t, rfl⟩ := ry
 obtain ⟨its, r, pl, hz⟩ := I.list hq
 obtain ⟨j, h1, h2, h3, h4, h5⟩ := Zk0 he
 obtain ⟨w, ew, rw'⟩ := r.get h2
 have hl := r.length
 have hn := Zhx
 have fin : EP X pins σ Q w s := ⟨z, H, I, rw', q⟩
 by_cases h0 : 0 ≤ i
 ·have hj : i.toNat = j := by
   rw [seqIndex_of h0 h5] at h1
   exact Option.some.inj h1
  exact item_listR pl.isList h0 (by omega) (by rw [hj]; simpa using ew) fin hs
 ·have hj : (i + (its.toArray.size : Int)).toNat = j := by
   rw [seqIndex_neg (by omega) h4] at h1
   rw [List.size_toArray, ← hl]
   exact Option.some.inj h1
  exact subscriptTail_builtinR (x := w) pl.isList.typeIs slot_list_getitem.lookup
   (wpAny_getItem_list_neg (Q := fun r s' => r = w ∧ EP X pins σ Q r s') pl.isList (by omega) (by rw [List.size_toArray] <;> omega) (by omega) (by rw [hj]; simpa using ew) ⟨rfl, fin⟩) hs
theorem Zz5 : IxR X (rIxT X.K) := by
 intro value slice pins s σ H x y v u Q I rx ry h hs
 obtain ⟨p, xs, i, z, rfl, rfl, hq, he, q⟩ := h
 cases rx
 obtain ⟨t, rfl⟩ := ry
 obtain ⟨its, r, pl, hz⟩ := I.tuple hq
 obtain ⟨j, h1, h2, h3, h4, h5⟩ := Zk0 he
 obtain ⟨w, ew, rw'⟩ := r.get h2
 have hl := r.length
 have hn := Zhx
 have fin : EP X pins σ Q w s := ⟨z, H, I, rw', q⟩
 exact subscriptTail_builtinR (x := w) pl.typeIs slot_tuple_getitem.lookup
  (getItem_tuple (j := j) (Q := fun r s' => r = w ∧ EP X pins σ Q r s') pl (by omega) (by omega) (by rw [List.size_toArray, ← hl]; exact h1) (by simpa using ew) ⟨rfl, fin⟩) hs
theorem Zz8 : IxR X rIxS := by
 intro value slice pins s σ H x y v u Q I rx ry h hs
 obtain ⟨z, i, c, rfl, rfl, hz, he, q⟩ := h
 obtain ⟨t, rfl⟩ := rx
 obtain ⟨t', rfl⟩ := ry
 obtain ⟨j, h1, h2, h3, h4, h5⟩ := Zk0 he
 have hl : z.cps.toList.length = z.length := by simp [Str.length]
 rw [hl] at h1 h4 h5
 have hn := Zhx
 exact tail_any (typeIs_str s z t) slot_str_getitem.lookup (getItem_str (c := c) (by
  have e1 : decide (i < -(2 ^ 63 : Int)) = false := decide_eq_false (by omega)
  have e2 : decide (i ≥ 2 ^ 63) = false := decide_eq_false (by omega)
  rw [e1, e2, Bool.or_false]) (by rw [h1]; simpa using h2) ⟨.str ⟨#[c]⟩, H, I.tok _, ⟨_, rfl⟩, q⟩) hs
theorem Zmq (its : List Value) (n j : Nat) (u : Value) : Obj.mapSeq (·.setIfInBounds j u) { cls := .type "list", data := .seq its.toArray n } = { cls := .type "list", data := .seq (its.set j u).toArray n } := by
 simp [Obj.mapSeq]
theorem Inv.lst {pins : List (Addr × Obj)} {σ : St} {H : Hp} {s : Shared} {p : Addr} {xs : List V} (I : Inv X pins σ H s) (h : H p = some (.lst xs)) :
  ∃ (its : List Value) (n : Nat), Zbk xs its ∧ s.heap.get? p = some { cls := .type "list", data := .seq its.toArray n } ∧ xs.length ≤ sizeLine := by
 obtain ⟨z, its, n, r, e⟩ := I.hok p _ h
 exact ⟨its, n, r, e, z⟩
theorem Inv.lstUpd {pins : List (Addr × Obj)} {σ : St} {H : Hp} {s : Shared} {p : Addr} {xs ys : List V} {its its' : List Value} {n n' : Nat} {f : Obj -> Obj} (I : Inv X pins σ H s) (h : H p = some (.lst xs))
  (ho : s.heap.get? p = some { cls := .type "list", data := .seq its.toArray n }) (hf : f { cls := .type "list", data := .seq its.toArray n } = { cls := .type "list", data := .seq its'.toArray n' }) (r : Zbk ys its') (hz : ys.length ≤ sizeLine) (t : Nat) :
  Inv X pins σ (upd H p (.lst ys)) { s with heap := s.heap.update p f, toks := t } := by
 have e : (s.heap.update p f).get? p = some { cls := .type "list", data := .seq its'.toArray n' } := by
  rw [Heap.get?_update_self f ho (by rw [hf] <;> rfl), hf]
 refine I.write (x := p) (e := p) (by rw [h]; trivial) (.inl rfl) (fun b u hb q => (Heap.get?_update_other _ _ (Ne.symm hb)).trans q) ⟨_, e⟩ ?_
 exact ⟨hz, its', n', r, e⟩
noncomputable def rSetL : V -> V -> V -> Hp -> (Hp -> Prop) -> Prop := fun o i v H Q => ∃ p xs k j, o = .ref p ∧ i = .int k ∧ H p = some (.lst xs) ∧ ixN xs.length k = some j ∧ Q (upd H p (.lst (xs.set j v)))
theorem Zrr : PSet X rSetL := by
 intro pins s σ H o i v ov iv u Q I ro ri rv h
 obtain ⟨p, xs, k, j, rfl, rfl, hp, hj, q⟩ := h
 cases ro
 obtain ⟨t, rfl⟩ := ri
 obtain ⟨its, n, r, ho, hz⟩ := I.lst hp
 obtain ⟨h1, h2, h3, h4⟩ := Zn2 hj
 have hl := r.length
 have hn := Zhx
 have I' : Inv X pins σ (upd H p (.lst (xs.set j v))) { s with heap := s.heap.update p (Obj.mapSeq (·.setIfInBounds j u)) } :=
  I.lstUpd hp ho (Zmq its n j u) (r.set rv j) (by rw [List.length_set]; exact hz) s.toks
 by_cases h0 : 0 ≤ k
 ·have hk : k.toNat = j := by
   rw [seqIndex_of h0 h4] at h1
   exact Option.some.inj h1
  exact PySem.W.ki_setAt ho h0 (by omega) (by rw [List.size_toArray, ← hl]; exact h4) (by rw [hk]; exact ⟨_, I', q⟩)
 ·have hk : (k + (its.toArray.size : Int)).toNat = j := by
   rw [seqIndex_neg (by omega) h3] at h1
   rw [List.size_toArray, ← hl]
   exact Option.some.inj h1
  exact PySem.W.ki_setBack ho (by omega) (by rw [List.size_toArray, ← hl]; exact h3) (by omega) (by rw [hk]; exact ⟨_, I', q⟩)
theorem Zjs (lo hi : Option Int) (n : Nat) : (sliceBounds lo hi none n).1 = ((HT.sIx n 0 lo : Nat) : Int) ∧ (sliceBounds lo hi none n).2.1 = ((HT.sIx n n hi : Nat) : Int) ∧ (sliceBounds lo hi none n).2.2 = 1 := by
 refine ⟨?_, ?_, rfl⟩
 ·cases lo with
  | none => simp [sliceBounds, HT.sIx]
  | some i =>
   simp only [sliceBounds, HT.sIx, Option.getD_none, show (1 : Int) > 0 by decide, if_true]
   by_cases h : i < 0
   ·simp only [h, if_true] <;> omega
   ·simp only [h, if_false] <;> omega
 ·cases hi with
  | none => simp [sliceBounds, HT.sIx]
  | some i =>
   simp only [sliceBounds, HT.sIx, Option.getD_none, show (1 : Int) > 0 by decide, if_true]
   by_cases h : i < 0
   ·simp only [h, if_true] <;> omega
   ·simp only [h, if_false] <;> omega
theorem Zip (its : List Value) (lo hi : Option Int) : slicePick its.toArray lo hi none = ((its.drop (HT.sIx its.length 0 lo)).take (HT.sIx its.length its.length hi - HT.sIx its.length 0 lo)).toArray := by
 obtain ⟨h1, h2, h3⟩ := Zjs lo hi its.toArray.size
 unfold slicePick
 rw [h1, h2, h3]
 simp only [sliceRange_one, pick_run, List.size_toArray] <;> rfl
noncomputable def rSlL (K : PySem.W.Frag) : V -> Option Int -> Option Int -> Hp -> VK -> Prop := fun x lo hi H Q => ∃ a xs, x = .ref a ∧ SqL K H a xs ∧ ∀ p, H p = none -> Q (.ref p) (upd H p (.lst (Zsv xs lo hi)))
theorem Zu2 : SlR X (rSlL X.K) := by
 intro pins s σ H x v vl vu lo hi sl Q I rx hs pl pu h
 obtain ⟨a, xs, rfl, hx, q⟩ := h
 cases rx
 obtain ⟨its, r, ht, hz⟩ := I.list hx
 have hlen := r.length
 refine ⟨"list", _, slot_list_getitem.lookup, ht.isList.typeIs, ?_⟩
 refine wpAny_getItem_list_slice ht.isList hs pl pu .none (by simp) ?_ (by rw [List.size_toArray] <;> omega)
 rw [Zip, ← hlen]
 refine ⟨.ref s.heap.objs.size, _, I.laid (t' := s.toks) (o := .lst (Zsv xs lo hi)) (fun b ob q => Heap.get?_push_of_some _ q) (Nat.le_refl _) ?_, rfl, q _ (I.hok.fresh (Nat.le_refl _))⟩
 exact ⟨Nat.le_trans (Zei xs lo hi) hz, _, 0, (r.drop (HT.sIx xs.length 0 lo)).take (HT.sIx xs.length xs.length hi - HT.sIx xs.length 0 lo), Heap.get?_push_size _ rfl⟩
theorem Zkk : Zgg X (.builtin "len") (fun xs H Q => ∃ p ys, xs = [.ref p] ∧ (SqL X.K H p ys ∨ SqT X.K H p ys) ∧ Q (.int ys.length) H) := by
 intro pins s σ H xs us Q I r h
 obtain ⟨p, ys, rfl, hq, q⟩ := h
 obtain ⟨u, rfl, rx⟩ := Zgs r
 cases rx
 have hn := Zhx
 rcases hq with hq | hq
 ·obtain ⟨its, r', pl, hz⟩ := I.list hq
  have hlen := r'.length
  exact Calls.call_len_list pl.isList (by simp only [List.size_toArray] <;> omega) ⟨.int ys.length, H, I.tok _, ⟨s.toks + 1, by rw [List.size_toArray, hlen]⟩, q⟩
 ·obtain ⟨its, r', pl, hz⟩ := I.tuple hq
  have hlen := r'.length
  exact len_tuple pl (by simp only [List.size_toArray] <;> omega) ⟨.int ys.length, H, I.tok _, ⟨s.toks + 1, by rw [List.size_toArray, hlen]⟩, q⟩
theorem Zkh : Zgg X (.builtin "len") (fun xs H Q => ∃ z, xs = [.str z] ∧ z.length ≤ sizeLine ∧ Q (.int z.length) H) := by
 intro pins s σ H xs us Q I r h
 obtain ⟨z, rfl, hz, q⟩ := h
 obtain ⟨u, rfl, t, rfl⟩ := Zgs r
 have hn := Zhx
 exact len_str (by omega) ⟨.int z.length, H, I.tok _, ⟨_, rfl⟩, q⟩
theorem Zj2 : Zgg X (.type "list") (fun xs H Q => ∃ p ys, xs = [.ref p] ∧ (SqL X.K H p ys ∨ SqT X.K H p ys) ∧ ∀ l, H l = none → Q (.ref l) (upd H l (.lst ys))) := by
 intro pins s σ H xs us Q I r h
 obtain ⟨p, ys, rfl, hq, q⟩ := h
 obtain ⟨u, rfl, rx⟩ := Zgs r
 cases rx
 have fin : ∀ (its : List Value), Zbk ys its -> ys.length ≤ sizeLine -> ∀ (h' : Heap) (c' : Nat), (∀ b o', s.heap.get? b = some o' -> h'.get? b = some o') →
   h'.get? s.heap.objs.size = some { cls := .type "list", dict := none, data := .seq its.toArray c', slots := #[] } → EP X pins σ Q (.ref s.heap.objs.size) { s with heap := h' } := fun its r' hz h' c' kp e =>
  ⟨.ref s.heap.objs.size, _, I.laid (t' := s.toks) kp (Nat.le_refl _) (show Zep X.prog X.w _ h' _ (.lst ys) from ⟨hz, its, c', r', e⟩), rfl, q _ (I.hok.fresh (Nat.le_refl _))⟩
 rcases hq with hq | hq
 ·obtain ⟨its, r', pl, hz⟩ := I.list hq
  have hlen := r'.length
  obtain ⟨o, ho, hc, n, hd⟩ := pl.isList
  exact call_list_seq p (.inl rfl) ho hc hd (fun h' c' kp e => fin its r' hz h' c' kp e) (by simp only [List.size_toArray] <;> omega)
 ·obtain ⟨its, r', pl, hz⟩ := I.tuple hq
  have hlen := r'.length
  obtain ⟨o, ho, hc, n, hd⟩ := pl
  exact call_list_seq p (.inr rfl) ho hc hd (fun h' c' kp e => fin its r' hz h' c' kp e) (by simp only [List.size_toArray] <;> omega)
theorem Zjb : Zgg X (.type "tuple") (fun xs H Q => ∃ p ys, xs = [.ref p] ∧ ((SqL X.K H p ys ∧ ∀ l, H l = none → Q (.ref l) (upd H l (.tup ys))) ∨ (SqT X.K H p ys ∧ Q (.ref p) H))) := by
 intro pins s σ H xs us Q I r h
 obtain ⟨p, ys, rfl, h⟩ := h
 obtain ⟨u, rfl, rx⟩ := Zgs r
 cases rx
 rcases h with ⟨hq, q⟩ | ⟨hq, q⟩
 ·obtain ⟨its, r', pl, hz⟩ := I.list hq
  have hlen := r'.length
  refine call_tuple_list pl.isList (fun h' kp => ?_) (by simp only [List.size_toArray] <;> omega)
  have I1 : Inv X pins σ H { s with heap := h' } := I.kept (t' := s.toks) kp
  have I2 : Inv X pins σ (upd H h'.objs.size (.tup ys)) { s with heap := h'.push { cls := .type "tuple", data := .seq its.toArray } } :=
   I1.laid (t' := s.toks) (fun b o e => Heap.get?_push_of_some _ e) (Nat.le_refl _) (show Zep X.prog X.w _ _ _ (.tup ys) from ⟨hz, its, r', Zje.new _ _⟩)
  exact ⟨.ref h'.objs.size, _, I2, rfl, q _ (I1.hok.fresh (Nat.le_refl _))⟩
 ·obtain ⟨its, r', pl, hz⟩ := I.tuple hq
  exact call_tuple_same pl ⟨.ref p, H, I, rfl, q⟩
noncomputable def tyV (K : PySem.W.Frag) (T : String) (x : V) (H : Hp) : Prop := match x with
 | .str _ => T = "str"
 | .int _ => T = "int"
 | .ref p => (T = "list" ∧ ∃ xs, SqL K H p xs) ∨ (T = "tuple" ∧ ∃ o, K.lookup p = some o ∧ o.cls = .type "tuple" ∧ o.dict = none) ∨
   (T = "dict" ∧ ((∃ kvs, H p = some (.dK kvs)) ∨ ∃ kvs, H p = some (.dT kvs))) ∨ (T = "set" ∧ ∃ S n, H p = some (.set S n))
 | _ => False
theorem Zyr {pins : List (Addr × Obj)} {σ : St} {H : Hp} {s : Shared} {T : String} {x : V} {v : Value} (I : Inv X pins σ H s) (r : Zct x v) (ty : tyV X.K T x H) :
  s.TypeIs v T ∧ ∀ a, v = .ref a -> ∃ ob, s.heap.get? a = some ob ∧ ob.dict = none := by
 cases x with
 | str z =>
  obtain ⟨t, rfl⟩ := r
  cases (show T = "str" from ty)
  exact ⟨typeIs_str s z t, fun _ e => nomatch e⟩
 | int i =>
  obtain ⟨t, rfl⟩ := r
  cases (show T = "int" from ty)
  exact ⟨typeIs_int s i t, fun _ e => nomatch e⟩
 | ref p =>
  cases r
  rcases ty with ⟨rfl, xs, hq⟩ | ⟨rfl, o, hk, hc, hd⟩ | ⟨rfl, hk⟩ | ⟨rfl, S, n, hk⟩
  ·obtain ⟨its, _, pl, _⟩ := I.list hq
   refine ⟨pl.isList.typeIs, fun a e => ?_⟩
   cases e
   obtain ⟨o, n, e, c, hd, _⟩ := pl
   exact ⟨o, e, hd⟩
  ·refine ⟨⟨o, I.kIn p o hk, hc⟩, fun a e => ?_⟩
   cases e
   exact ⟨o, I.kIn _ o hk, hd⟩
  ·have z : ∃ o, s.heap.get? p = some o ∧ o.ExactDict := by
    rcases hk with ⟨kvs, hk⟩ | ⟨kvs, hk⟩
    ·obtain ⟨_, _, _, _, o, _, _, e, ex, _⟩ := I.hok p _ hk
     exact ⟨o, e, ex⟩
    ·obtain ⟨_, _, _, _, o, _, _, e, ex, _⟩ := I.hok p _ hk
     exact ⟨o, e, ex⟩
   obtain ⟨o, e, ex⟩ := z
   refine ⟨⟨o, e, ex.1⟩, fun a e2 => ?_⟩
   cases e2
   exact ⟨o, e, ex.2.1⟩
  ·obtain ⟨o, _, _, _, e, ex, _⟩ := I.hok p _ hk
   refine ⟨⟨o, e, ex.1⟩, fun a e2 => ?_⟩
   cases e2
   exact ⟨o, e, ex.2.1⟩
 | _ => exact False.elim ty
noncomputable def tBM (K : PySem.W.Frag) (T : String) (r : V -> List V -> Hp -> VK -> Prop) (to : TE) (t : TA) : TE := fun σ H Q => to σ H fun x H1 => tyV K T x H1 ∧ t σ H1 fun xs H2 => r x xs H2 Q
variable {o e : Expr} {es : List Expr} {to : TE} {t : TA} {name : Str} {apos cpos : Pos} {T id : String} {r : V -> List V -> Hp -> VK -> Prop}
theorem Zzq (pa : PlainAttrs T) (slot : Slot T name id) (hty : typeOf (.builtin id) = pure (.type "method_descriptor")) (hm : MtR X id r) (ho : PE X o to) (ha : PA X (e :: es) t)
  (hbase : attributeBase o name X.env (eval o X.env) = eval o X.env := by rfl)
  (hfew : ((backTo cpos (starEach (e :: es) X.env)).all (fun x => !x.1) && (backToKw cpos (keywordEach [] X.env)).all (fun x => x.1.isSome)
   && decide ((e :: es).length + ([] : List Keyword).length + (if ([] : List Keyword).isEmpty then 0 else 1) < 30)) = true := by rfl)
  (hline : (apos.endLine == cpos.line) = true := by rfl) (hs : starEach (e :: es) X.env = (false, eval e X.env) :: starEach es X.env := by rfl) (hplain : (backTo cpos (starEach es X.env)).any (·.1) = false := by rfl) :
  PE X (.Call (.Attribute o name apos) (e :: es) [] cpos) (tBM X.K T r to t) := by
 intro pins s σ H Q I h
 refine wpAny_Call_method_late hbase hfew hline rfl (thn (ho pins s σ H _ I h) fun v s1 zz => ?_)
 obtain ⟨x, H1, I1, r1, ty, q1⟩ := zz
 obtain ⟨h1, h2⟩ := Zyr I1 r1 ty
 refine ⟨T, id, pa, slot, hty, h1, h2, ?_⟩
 have hA := ha cpos pins s1 σ H1 _ I1 q1
 rw [hs] at hA ⊢
 refine Calls.callWith_builtin (by show (false || (backTo cpos (starEach es X.env)).any (·.1)) = false; rw [hplain] <;> rfl) (Calls.evalArgs_plain ?_)
 exact thn hA fun us s2 ⟨vs, H2, I2, r2, q2⟩ => hm pins s2 σ H2 x vs v us Q I2 r1 r2 q2
end
noncomputable def MtM (X : Cx) (id : String) (r : V -> List V -> Hp -> VK -> Prop) : Prop :=
 ∀ (pins : List (Addr × Obj)) (s : Shared) (σ : St) (H : Hp) (x : V) (xs : List V) (v : Value) (us : List Value) (Q : VK), Inv X pins σ H s -> Zct x v -> Zbk xs us -> r x xs H Q →
  wpAny (model X.prog X.w) X.A (call (.builtin id) (v :: us)) (EP X pins σ Q) X.xe s
theorem Zbk.one : ∀ {x : V} {us : List Value}, Zbk [x] us -> ∃ u, us = [u] ∧ Zct x u := by
 intro x us h
 cases h with
 | cons r t => cases t; exact ⟨_, rfl, r⟩
theorem Zbk.two : ∀ {x y : V} {us : List Value}, Zbk [x, y] us -> ∃ u v, us = [u, v] ∧ Zct x u ∧ Zct y v
 | _, _, _, .cons r (.cons q .nil) => ⟨_, _, rfl, r, q⟩
theorem Zbk.zero : ∀ {us : List Value}, Zbk [] us -> us = []
 | _, .nil => rfl
theorem Zbk.dropLast {xs : List V} {us : List Value} (h : Zbk xs us) : Zbk xs.dropLast us.dropLast := by
 induction h with
 | nil => exact .nil
 | cons r t ih =>
  cases t with
  | nil => exact .nil
  | cons q t' => exact .cons r ih
theorem Zbk.eraseIdx : ∀ {xs : List V} {us : List Value} (i : Nat), Zbk xs us -> Zbk (xs.eraseIdx i) (us.eraseIdx i)
 | _, _, _, .nil => .nil
 | _, _, 0, .cons _ t => t
 | _, _, i + 1, .cons r t => .cons r (Zbk.eraseIdx i t)
theorem Zbk.reverse {xs : List V} {us : List Value} (h : Zbk xs us) : Zbk xs.reverse us.reverse := by
 induction h with
 | nil => exact .nil
 | cons r t ih => rw [List.reverse_cons, List.reverse_cons]; exact Zbk.append ih (.cons r .nil)
theorem Zbk.rep {xs : List V} {us : List Value} (h : Zbk xs us) : ∀ k : Nat, Zbk (List.replicate k xs).flatten (List.replicate k us).flatten
 | 0 => .nil
 | k + 1 => by
  rw [List.replicate_succ, List.replicate_succ, List.flatten_cons, List.flatten_cons]
  exact Zbk.append h (Zbk.rep h k)
theorem Zhv (its : List Value) : ∀ (k : Nat) (acc : List Value),
  List.foldl (fun x1 x2 => x1 ++ x2) acc.toArray (List.replicate k its.toArray) = (acc ++ (List.replicate k its).flatten).toArray
 | 0, acc => by simp
 | k + 1, acc => by
  have e : acc.toArray ++ its.toArray = (acc ++ its).toArray := by simp
  have e2 : (acc ++ its) ++ (List.replicate k its).flatten = acc ++ (List.replicate (k + 1) its).flatten := by
   rw [List.replicate_succ, List.flatten_cons, List.append_assoc]
  rw [← e2, ← Zhv its k (acc ++ its), ← e, List.replicate_succ, List.foldl_cons]
section
variable {X : Cx} {pins : List (Addr × Obj)} {σ : St} {H : Hp} {s : Shared} {l b : Addr} {xs ys zs : List V}
theorem Inv.lset {its its' : List Value} {n : Nat} {f : Array Value -> Array Value} {t' : Nat} (I : Inv X pins σ H s) (hH : H l = some (.lst xs))
  (e : s.heap.get? l = some { cls := .type "list", data := .seq its.toArray n }) (hf : f its.toArray = its'.toArray) (hv : Zbk ys its') (hz : ys.length ≤ sizeLine) :
  Inv X pins σ (upd H l (.lst ys)) { s with heap := s.heap.update l (Obj.mapSeq f), toks := t' } := by
 have q := PySem.IsL.update e f
 rw [hf] at q
 refine I.write (x := l) (e := l) (by rw [hH]; exact trivial) (.inl rfl) (fun b' u hb hu => (Heap.get?_update_other s.heap (Obj.mapSeq f) (Ne.symm hb)).trans hu) ⟨_, q⟩ ?_
 exact ⟨hz, its', _, hv, q⟩
theorem Inv.lnew {its : List Value} {t' : Nat} (I : Inv X pins σ H s) (hv : Zbk ys its) (hz : ys.length ≤ sizeLine) :
  Inv X pins σ (upd H s.heap.objs.size (.lst ys)) { s with heap := s.heap.push { cls := .type "list", data := .seq its.toArray }, toks := t' } :=
 I.laid (fun _ _ q => Heap.get?_push_of_some _ q) (Nat.le_refl _) ⟨hz, its, 0, hv, Heap.get?_push_size _ rfl⟩
theorem Inv.fresh (I : Inv X pins σ H s) : H s.heap.objs.size = none := I.hok.fresh (Nat.le_refl _)
theorem Inv.lstM (I : Inv X pins σ H s) (hH : H l = some (.lst xs)) : xs.length ≤ sizeLine ∧ ∃ (its : List Value) (n : Nat), Zbk xs its ∧ xs.length = its.length ∧ s.heap.get? l = some { cls := .type "list", data := .seq its.toArray n } := by
 obtain ⟨z, its, n, r, e⟩ := I.hok l _ hH
 exact ⟨z, its, n, r, r.length, e⟩
theorem Zq6 {n : Nat} (h : n ≤ sizeLine) : Builtin.List.listTooLong n = false := by
 unfold Builtin.List.listTooLong
 exact decide_eq_false (by omega)
end
section
variable {X : Cx}
noncomputable def Zu1 : V -> List V -> Hp -> VK -> Prop := fun x vs H Q => ∃ l xs y, x = .ref l ∧ vs = [y] ∧ H l = some (.lst xs) ∧ xs.length < sizeLine ∧ Q .non (upd H l (.lst (xs ++ [y])))
theorem Zkq : MtM X "list.append" Zu1 := by
 intro pins s σ H x vs v us Q I rx rv h
 obtain ⟨l, xs, y, rfl, rfl, hH, hz, q⟩ := h
 cases rx
 obtain ⟨u, rfl, ru⟩ := rv.one
 obtain ⟨z, its, n, r, hl, e⟩ := I.lstM hH
 refine call_meets F.slot_list_append ⟨_, e, rfl⟩ F.entry_list_append (F.args_list_append_2 _ _) (PySem.list_append l its.toArray n u (by rw [List.size_toArray]; omega)) ⟨e, ?_⟩
 refine ⟨.non, _, I.lset (its' := its ++ [u]) hH e (by simp) (r.append (.cons ru .nil)) ?_, rfl, q⟩
 rw [List.length_append, List.length_singleton]
 omega
noncomputable def rCat : R2 := fun x y H Q => ∃ l b xs zs, x = .ref l ∧ y = .ref b ∧ H l = some (.lst xs) ∧ H b = some (.lst zs) ∧ xs.length + zs.length ≤ sizeLine ∧ ∀ p, H p = none -> Q (.ref p) (upd H p (.lst (xs ++ zs)))
theorem Zzu : OpR X (binaryOp .Add) rCat := by
 intro pins s σ H x y v u Q I rx ry h
 obtain ⟨l, b, xs, zs, rfl, rfl, hH, hB, hz, q⟩ := h
 cases rx
 cases ry
 obtain ⟨z, its, n, r, hl, e⟩ := I.lstM hH
 obtain ⟨z2, its2, n2, r2, hl2, e2⟩ := I.lstM hB
 refine PySem.P.add_list e e2 ?_ (by rw [List.size_toArray, List.size_toArray]; omega)
 have ea : its.toArray ++ its2.toArray = (its ++ its2).toArray := by simp
 rw [ea]
 exact ⟨.ref _, _, I.lnew (t' := s.toks) (r.append r2) (by rw [List.length_append]; omega), rfl, q _ I.fresh⟩
noncomputable def rRep : R2 := fun x y H Q => ∃ l k xs, x = .ref l ∧ y = .int k ∧ H l = some (.lst xs) ∧ -(2 ^ 63) ≤ k ∧ k < 2 ^ 63 ∧ xs.length * k.toNat ≤ sizeLine ∧
 ∀ p, H p = none -> Q (.ref p) (upd H p (.lst (List.replicate k.toNat xs).flatten))
theorem Zk3 {α : Type} (xs : List α) (k : Nat) : (List.replicate k xs).flatten.length = k * xs.length := by
 induction k with
 | zero => simp
 | succ k ih => rw [List.replicate_succ, List.flatten_cons, List.length_append, ih, Nat.succ_mul, Nat.add_comm]
theorem Zzo : OpR X (binaryOp .Mult) rRep := by
 intro pins s σ H x y v u Q I rx ry h
 obtain ⟨l, k, xs, rfl, rfl, hH, h1, h2, hz, q⟩ := h
 cases rx
 obtain ⟨t, rfl⟩ := ry
 obtain ⟨z, its, n, r, hl, e⟩ := I.lstM hH
 have hlen : its.toArray.size * k.toNat ≤ sizeLine := by rw [List.size_toArray, ← hl]; exact hz
 have hcap : ¬ its.toArray.size * k.toNat > (2 ^ 63 - 1) / 8 := by
  have : (sizeLine : Nat) ≤ (2 ^ 63 - 1) / 8 := by decide
  omega
 have hfit : ¬ (!Builtin.List.listFitsIndex k) = true := by
  rw [fitsIndex_both h1 h2]
  exact Bool.false_ne_true
 have hlong : ¬ Builtin.List.listTooLong (its.toArray.size * k.toNat) = true := by
  rw [Zq6 hlen]
  exact Bool.false_ne_true
 have hnew : List.foldl (fun x1 x2 => x1 ++ x2) #[] (List.replicate (if its.toArray.isEmpty = true then 0 else k.toNat) its.toArray) = (List.replicate k.toNat its).flatten.toArray := by
  have f0 : ∀ m : Nat, List.foldl (fun x1 x2 => x1 ++ x2) #[] (List.replicate m its.toArray) = (List.replicate m its).flatten.toArray := fun m => by
   have := Zhv its m []
   rw [List.nil_append] at this
   exact this
  rw [f0]
  cases its with
  | nil => simp
  | cons a r' => rw [if_neg (by simp)]
 refine wpAny_binaryOp_repeat_ref (T := "list") (U := "int") (by decide) ⟨_, e, rfl⟩ (fun s' => typeIs_int s' k t) noFill_list_mul F.fills_int_mul F.slot_int_rmul repeat_list F.slot_int_index.lookup
  (call_meets F.slot_int_rmul (typeIs_int s k t) F.entry_int_rmul (F.args_int_rmul_2 _ _) (int___rmul___int_list k t l its.toArray n)
   ⟨e, rfl, ⟨_, e, rfl⟩, call_meets F.slot_list_mul ⟨_, e, rfl⟩ F.entry_list_mul (F.args_list_mul_2 _ _) (AutoListH.list___mul___list_int_3 l its.toArray n k t hfit hcap hlong) ⟨e, ?_⟩⟩)
 rw [hnew]
 exact ⟨.ref _, _, I.lnew (t' := s.toks) (r.rep k.toNat) (by rw [Zk3, Nat.mul_comm]; exact hz), rfl, q _ I.fresh⟩
end
section
variable {prog : Program} {w : World} {A : Around} {E : Value -> Shared -> Prop} {s : Shared}
set_option maxRecDepth 100000 in
end
section
variable {X : Cx}
end
end L2
namespace Att
open PySem PySem.W PySem.Calls PyProof.Rows
theorem Zhh {P : Params} {h : Heap} : ∀ (ns : List Int) (vs : List Value), WellAll P h vs (ns.map WData.int) -> IntsAre vs ns := by
 intro ns
 induction ns with
 | nil =>
  intro vs w
  rw [List.map_nil] at w
  cases w
  exact .nil
 | cons n ns ih =>
  intro vs w
  rw [List.map_cons] at w
  cases w with
  | cons a b =>
   cases a
   exact .cons _ _ (ih _ b)
theorem Zo7 {l : OpenLaw} {n : Nat} (hn : l.most = some n) {P : Params} {h : Heap} {args : List WData} {vals : List Value}
  (hpre : l.row.toRowW.claim.pre args = true) (hwl : WellAll P h vals args) :
  ∃ a vs ns, vals = [Value.ref a] ∧ args = [WData.list (ns.map WData.int)] ∧ h.get? a = some { cls := .type "list", data := .seq vs.toArray } ∧ IntsAre vs ns ∧ ns.length ≤ n := by
 have hsh : WShape.hasAll [] args [.list .int] = true := (pre_splitW hpre).1
 have hc : l.pre.holds [] { args := args } = true := (pre_splitW hpre).2
 obtain ⟨d, r, rfl, h1, h2⟩ := hasAllW_cons hsh
 obtain rfl := hasAllW_nil h2
 obtain ⟨xs, rfl, h3⟩ := hasW_list h1
 obtain ⟨ns, rfl⟩ := items_int h3
 have hlen : ns.length ≤ n := by
  unfold OpenLaw.pre at hc
  have h4 : (WTm.not (.lt (.lit (.int (n : Int))) (.len (.arg 0)))).holds [] { args := [.list (ns.map .int)] } = true := by
   have h4 := (holds_andW hc).1
   rw [hn] at h4
   exact h4
  have h5 := condW_of h4 (w_not (w_lt w_lit (w_len_list (w_arg rfl))))
  rw [List.length_map] at h5
  refine Nat.le_of_not_lt fun q => ?_
  have q' : (n : Int) < ((ns.length : Nat) : Int) := by omega
  first
   | (rw [decide_eq_true q'] at h5; exact absurd h5 (by decide))
   | (simp at h5; omega)
 cases hwl with
 | cons w1 w2 =>
  cases w2
  cases w1 with
  | list ho hall => exact ⟨_, _, ns, rfl, rfl, ho, Zhh ns _ hall, hlen⟩
theorem Zoc (l : OpenLaw) (args : List WData) : l.row.toRowW.claim.post args (.bool true) args = true :=
 postW_of (r := l.row.toRowW) (X := (true == true))
  (show WShape.has [] (.bool true) .bool = true by first | rfl | decide | simp [WShape.has, WShape.arms, WShape.armsAll])
  (show (WTm.eq .res (.lit (.bool true))).value [] { args := args, res := some (.bool true), after := args } = some (.bool (true == true)) from w_eq_bool (w_res rfl) w_lit) rfl
theorem attach_call {l : OpenLaw} {n : Nat} {q : Program} {loose : List Str} {XP : (Str -> Option Value) -> Heap -> Prop} {YP : World -> Heap -> Prop} {d : DefRec}
  (hn : l.most = some n) (hdf : d.params.defaults = [])
  (call : ∀ (w : World) (s₀ s₁ : Shared) (mg mb : Str -> Option Value) (fa : Addr) (o : Obj) (pm cd doc : Value) (a : Addr) (vs : List Value) (ns : List Int),
   Ground q loose [] XP w s₀ mg mb s₁.heap -> YP w s₁.heap →
   s₁.heap.get? fa = some o -> o.data = .func (docDef d.name d.params d.body d.scope pm cd doc) -> s₁.heap.CodeRec cd d.name -> mg d.name = some (.ref fa) →
   s₁.heap.get? a = some { cls := .type "list", data := .seq vs.toArray } → IntsAre vs ns → ns.length ≤ n → s₁.gens = #[] →
   codeAny (model l.prog w) callerA (.call (.ref fa) ⟨[.ref a], []⟩) (fun r s' => r = .ok (.ret (.bool true)) ∧ OldK s₁.heap s'.heap ∧ s'.os = s₁.os ∧ AllBare s'.gens) s₁) :
  WalkO q loose XP YP l.row.toRowW d [] (fun f vs => PySem.call f vs) := by
 intro w s₀ s₁ mg mb G Y fa o pm cd doc dV kV ho hd hcd hD hmg hg args vals as hpre hlay hrd hwl hlo
 obtain rfl : dV = .none := Dflts.none hD hdf
 obtain rfl : kV = .none := Dflts.noKw hD
 obtain ⟨a, vs, ns, rfl, rfl, hobj, hints, hlen⟩ := Zo7 hn hpre hwl
 refine enter_call (codeAny_mono (call w s₀ s₁ mg mb fa o pm cd doc a vs ns G Y ho (fd_plain hd) hcd hmg hobj hints hlen hg) fun r s' hq => ?_)
 obtain ⟨rfl, h2, h3, h4⟩ := hq
 exact ⟨.inl ⟨.bool true, .bool true, [], rfl, fun _ => rfl, .bool true, Zoc l _, fun _ => ⟨List.Pairwise.nil, fun _ hm => (nomatch hm)⟩⟩, h2, h3, h4⟩
section
variable {prog : Program} {w : World} {A : Around} {E : Value -> Shared -> Prop} {s : Shared} {K : Frag}
end
end Att
namespace L2
open PySem PySem.Spec PyProof.Rows
theorem Zfx : ∀ {vs : List Value} {ns : List Int}, IntsAre vs ns -> Zbk (ns.map V.int) vs
 | _, _, .nil => .nil
 | _, _, .cons n t h => .cons ⟨t, rfl⟩ (Zfx h)
noncomputable def Zyd (H : Hp) : Prop := ∀ b, H b = none ∨ ∃ o xs, H b = some (.frz o (.lst xs))
theorem Zsm {P : Program} {w : World} {K : PySem.W.Frag} {mg mb : Str -> Option Value} {CX : CXT} {k : Nat} {fa a : Addr} {fd : FuncData} {x : Str} {sp : Sp} {s₁ : Shared} {vs : List Value} {ns : List Int}
  (KX : K.In s₁.heap) (hns : s₁.heap.Ns mainGlobals mg) (hb : s₁.heap.Ns builtinsNs mb) (hbb : ∀ x : Str, x ≠ "__name__" → mb x = bootBuiltins x) (hlim : s₁.heap.NoLimit) (hg : s₁.gens = #[])
  (ha : s₁.heap.get? a = some { cls := .type "list", data := .seq vs.toArray }) (hi : IntsAre vs ns) (hl : ns.length ≤ sizeLine) (hr : Room k callerA)
  (F : ∀ base : Heap, K.In base -> base.Ns mainGlobals mg -> FnOk P w K mg base CX k fa fd [x] sp) (hbind : ∀ (s : Shared) (u : Value), BindsTo s fd ⟨[u], []⟩ [(x, u)])
  (hsp : ∀ H : Hp, Zyd H -> SqL K H a (ns.map V.int) -> sp [.ref a] H (fun v _ => v = .bl true) fun _ _ _ => False)
  (hCX : ∀ H e s', CX [] H s₁ (fun _ _ _ => False) e s' -> False) :
  codeAny (model P w) callerA (.call (.ref fa) ⟨[.ref a], []⟩) (fun r s' => r = .ok (.ret (.bool true)) ∧ OldK s₁.heap s'.heap ∧ s'.os = s₁.os ∧ AllBare s'.gens) s₁ := by
 have rv := Zfx hi
 have lenV := hi.length
 -- from an abstract heap in which nothing but the script may be tracked
 have core : ∀ H : Hp, Zyd H -> SqL K H a (ns.map V.int) -> HOk P w H s₁.heap -> (∀ b, H b ≠ none -> b = a) -> (H a ≠ none -> K.lookup a = none) →
   codeAny (model P w) callerA (.call (.ref fa) ⟨[.ref a], []⟩) (fun r s' => r = .ok (.ret (.bool true)) ∧ OldK s₁.heap s'.heap ∧ s'.os = s₁.os ∧ AllBare s'.gens) s₁ := by
  intro H hO hS hok hA hK
  have base_of : ∀ {b : Addr} {o : Obj}, s₁.heap.get? b = some o -> H b = none -> (Zrm s₁.heap H).get? b = some o := fun e n => Zr0 e n
  have noA : ∀ {b : Addr} {o : Obj} {es : Array DictEntry} {ep : Nat}, s₁.heap.get? b = some o -> o.data = .dict es ep -> H b = none := fun {b o es ep} e d => by
   cases q : H b with
   | none => rfl
   | some u =>
    have e' : b = a := hA b (by rw [q]; simp)
    subst e'
    rw [ha] at e; cases e
    have d' : Data.seq vs.toArray _ = Data.dict es ep := d
    cases d'
  have nsK : ∀ {b : Addr} {m : Str -> Option Value}, s₁.heap.Ns b m -> (Zrm s₁.heap H).Ns b m := fun {b m} ⟨o, es, ep, e, d, r⟩ => ⟨o, es, ep, base_of e (noA e d), d, r⟩
  have hKb : K.In (Zrm s₁.heap H) := fun b o e => base_of (KX b o e) (by
   cases q : H b with
   | none => rfl
   | some u =>
    have e' : b = a := hA b (by rw [q]; simp)
    subst e'
    rw [hK (by rw [q]; simp)] at e; cases e)
  have hM : Mod K mg (Zrm s₁.heap H) := ⟨hKb, nsK hns, ⟨mb, nsK hb, hbb⟩, let ⟨mc, h1, h2⟩ := hlim; ⟨mc, nsK h1, h2⟩⟩
  have e0 : Env0 P w K mg (Zrm s₁.heap H) callerA [] s₁ H := ⟨rfl, hM, fun b o e => Zug e, Nat.le_of_eq (Zp1 _ _), trivial, fun b hb => absurd (show b ∈ ([] : List Addr) from hb) (by simp), hok, .of_eq hg⟩
  refine codeAny_mono ((F _ hKb (nsK hns)).run callerA [] s₁ H ⟨[.ref a], []⟩ [.ref a] [.ref a] _ _ hr e0 (hbind s₁ (.ref a)) (.cons rfl .nil) (hsp H hO hS)) fun r s' h => ?_
  cases r with
  | error e => exact (hCX H e s' h).elim
  | ok fl =>
   cases fl with
   | next => exact False.elim h
   | brk => exact False.elim h
   | cont => exact False.elim h
   | ret u =>
    obtain ⟨v, H', os, bare, un, hok', r', q⟩ := h
    have q' : v = .bl true := q
    subst q'
    obtain rfl : u = Value.bool true := r'
    refine ⟨rfl, OldK.of_keep fun b o e => ?_, os, bare⟩
    cases q : H b with
    | none => exact un.keep b o e q (by intro z; exact absurd (show b ∈ ([] : List Addr) from z) (by simp)) (by simp)
    | some u =>
     rcases hO b with z | ⟨ob, xs, z⟩
     ·rw [q] at z; cases z
     ·have z2 := un.frzs b ob _ z
      obtain ⟨e1, _⟩ := hok b _ z
      obtain ⟨e2, _⟩ := hok' b _ z2
      rw [e] at e1; cases e1
      exact e2
 cases hk : K.lookup a with
 | some o =>
  -- the script is one of the module's own objects
  have e := KX a o hk
  rw [ha] at e
  cases e
  refine core (fun _ => none) (fun _ => .inl rfl) (.inr ⟨_, vs.toArray, _, hk, rfl, rfl, rfl, by rw [List.size_toArray, lenV]; exact hl, by simpa using rv⟩) (fun b u z => by have z' : (none : Option HO) = some u := z; cases z') (fun b z => absurd rfl z) fun z => absurd rfl z
 | none =>
  refine core (fun b => if b = a then some (.frz { cls := .type "list", data := .seq vs.toArray } (.lst (ns.map V.int))) else none) (fun b => ?_) (.inl (.inr ⟨{ cls := .type "list", data := .seq vs.toArray }, if_pos rfl⟩)) (fun b u z => ?_) (fun b z => ?_) fun _ => hk
  ·by_cases hb : b = a
   ·exact .inr ⟨_, _, if_pos hb⟩
   ·exact .inl (if_neg hb)
  ·by_cases hb : b = a
   ·have z' := (if_pos hb).symm.trans z
    cases z'
    subst hb
    exact ⟨ha, by rw [List.length_map]; exact hl, vs, _, rv, ha⟩
   ·have z' := (if_neg hb).symm.trans z
    cases z'
  ·by_cases hb : b = a
   ·exact hb
   ·exact absurd (if_neg hb) z
noncomputable abbrev KOf {K : PySem.W.Frag} {h : Heap} (_ : K.In h) : PySem.W.Frag := K
theorem Zu3 {l : PySem.W.OpenLaw} {n k : Nat} {q : Program} {loose : List Str} {XP : (Str -> Option Value) -> Heap -> Prop} {YP : World -> Heap -> Prop} {d : DefRec} {K : Params -> PySem.W.Frag} {CX : World -> CXT} {sp : World -> Sp} {x : Str}
  (hn : l.most = some n) (hn2 : n ≤ sizeLine) (hdf : d.params.defaults = []) (hr : Room k callerA)
  (hY : ∀ (w : World) (h : Heap), YP w h -> (K w.params).In h)
  (F : ∀ (w : World) (mg : Str -> Option Value) (fa : Addr) (h : Heap), (K w.params).In h -> h.Ns mainGlobals mg -> mg d.name = some (.ref fa) →
   ∃ fd : FuncData, (∀ (s : Shared) (u : Value), BindsTo s fd ⟨[u], []⟩ [(x, u)]) ∧
    ∀ base : Heap, (K w.params).In base -> base.Ns mainGlobals mg -> FnOk l.prog w (K w.params) mg base (CX w) k fa fd [x] (sp w))
  (hsp : ∀ (w : World) (H : Hp) (a : Addr) (ns : List Int), ns.length ≤ n -> Zyd H -> SqL (K w.params) H a (ns.map V.int) -> sp w [.ref a] H (fun v _ => v = .bl true) fun _ _ _ => False)
  (hCX : ∀ (w : World) (H : Hp) (s : Shared) (e : Value) (s' : Shared), CX w [] H s (fun _ _ _ => False) e s' -> False) :
  PySem.W.WalkO q loose XP YP l.row.toRowW d [] (fun f vs => PySem.call f vs) := by
 refine Att.attach_call hn hdf fun w s₀ s₁ mg mb fa o pm cd doc a vs ns G Y ho hd hcd hmg hobj hints hlen hg => ?_
 have KX := hY w _ Y
 obtain ⟨fd, hb, hF⟩ := F w mg fa _ KX G.T.g hmg
 exact Zsm KX G.T.g G.T.b G.T.builtins G.T.nolimit hg hobj hints (Nat.le_trans hlen hn2) hr hF hb (fun H hO hS => hsp w H a ns hlen hO hS) fun H e s' => hCX w H s₁ e s'
theorem walk_ofK {l : PySem.W.OpenLaw} {n k : Nat} {q : Program} {loose : List Str} {XP : (Str -> Option Value) -> Heap -> Prop} {YP : World -> Heap -> Prop} {d : DefRec} {K : Params -> PySem.W.Frag} {CX : CXT} {sp : PySem.W.Frag -> Sp} {x : Str}
  (hn : l.most = some n) (hn2 : n ≤ sizeLine) (hdf : d.params.defaults = []) (hr : Room k callerA)
  (hY : ∀ (w : World) (h : Heap), YP w h -> (K w.params).In h)
  (F : ∀ (w : World) (mg : Str -> Option Value) (fa : Addr) (h : Heap), (K w.params).In h -> h.Ns mainGlobals mg -> mg d.name = some (.ref fa) →
   ∃ fd : FuncData, (∀ (s : Shared) (u : Value), BindsTo s fd ⟨[u], []⟩ [(x, u)]) ∧
    ∀ base : Heap, (K w.params).In base -> base.Ns mainGlobals mg -> FnOk l.prog w (K w.params) mg base CX k fa fd [x] (sp (K w.params)))
  (hsp : ∀ (K : PySem.W.Frag) (H : Hp) (a : Addr) (ns : List Int), ns.length ≤ n -> Zyd H -> SqL K H a (ns.map V.int) -> sp K [.ref a] H (fun v _ => v = .bl true) fun _ _ _ => False)
  (hCX : ∀ (H : Hp) (s : Shared) (e : Value) (s' : Shared), CX [] H s (fun _ _ _ => False) e s' -> False) :
  PySem.W.WalkO q loose XP YP l.row.toRowW d [] (fun f vs => PySem.call f vs) :=
 Zu3 (K := K) (CX := fun _ => CX) (sp := fun w => sp (K w.params)) hn hn2 hdf hr hY F (fun w H a ns h1 h2 h3 => hsp (K w.params) H a ns h1 h2 h3) fun _ H s e s' => hCX H s e s'
noncomputable def Zes (s : Stmt) : Arguments := match s with
 | .FunctionDef _ a _ _ _ _ _ _ _ _ => a
 | _ => { posonlyargs := [], args := [], vararg := none, kwonlyargs := [], kw_defaults := [], kwarg := none, defaults := [] }
noncomputable def Zcn (s : Stmt) : List Stmt := match s with
 | .FunctionDef _ _ b _ _ _ _ _ _ _ => b
 | _ => []
noncomputable def Zal (s : Stmt) : Scope := match s with
 | .FunctionDef _ _ _ _ _ _ sc _ _ _ => sc
 | _ => { kind := .function, names := [], isGenerator := false, isCoroutine := false }
noncomputable abbrev CX0 : CXT := fun _ _ _ _ _ _ => False
noncomputable abbrev E0 : XK := fun _ _ _ => False
theorem pass0 {X : Cx} : Znw CX0 X E0 := fun _ _ _ _ _ _ _ h => h.elim
structure Fun (K : PySem.W.Frag) (x qual : Str) (st : Stmt) (f : Addr) (fd : FuncData) : Prop where
 ex : ∃ (oc : Value) (od : Option Addr) (kV doc pm : Value) (an : Option Addr) (cdv ct : Value) (osl : Array (Option Value)),
  fd = PySem.W.fnOf x qual (Zes st) (Zcn st) (Zal st) .none kV doc pm an cdv ct ∧ K.lookup f = some ⟨oc, od, .func fd, osl⟩ ∧ PySem.W.codeIn K cdv qual = true
 kp : PySem.W.keepIn K (.ref f) = true
section
variable {P : Program} {w : World} {K : PySem.W.Frag} {mg : Str -> Option Value} {base : Heap}
theorem Fun.ok {x qual : Str} {st : Stmt} {f : Addr} {fd : FuncData} {N ps : List Str} {k : Nat} {sp : Sp} (F : Fun K x qual st f fd) (S : FnScope N ps (Zal st)) (len : ∀ vs H Q E, sp vs H Q E -> vs.length = ps.length)
  (hbody : ∀ (cdv : Value) (A : Around) (outer : List Env) (s : Shared) (H : Hp) (vs : List V) (Q : VK) (E : XK), Room k (A.deeper (envOfC qual (Zal st) s.heap.objs.size f cdv)) -> sp vs H Q E →
   ∃ t, PSs (Zfn CX0 P w K mg base N qual (Zal st) f cdv A outer s H E).nox (Zcn st) t ∧ t { nx := fun _ H' => Q .non H', rt := Q } (start N vs) H) : FnOk P w K mg base CX0 (k + 1) f fd ps sp := by
 obtain ⟨oc, od, kV, doc, pm, an, cdv, ct, osl, rfl, lk, hcd⟩ := F.ex
 refine Zzd lk hcd S len fun A outer s H vs Q E hr hsp => ?_
 obtain ⟨t, h, q⟩ := hbody cdv A outer s H vs Q E hr hsp
 exact ⟨t, h.nox, q⟩
theorem Fun.binds {x qual : Str} {st : Stmt} {f : Addr} {fd : FuncData} {ps : List Str} (F : Fun K x qual st f fd)
  (h : ∀ (kV doc pm : Value) (an : Option Addr) (cdv ct : Value) (us : List Value), us.length = ps.length -> bindArgs (PySem.W.fnOf x qual (Zes st) (Zcn st) (Zal st) .none kV doc pm an cdv ct) ⟨us, []⟩ = pure (ps.zip us)) : Zfs K fd ps [] := by
 obtain ⟨oc, od, kV, doc, pm, an, cdv, ct, osl, rfl, lk, hcd⟩ := F.ex
 exact .all (h kV doc pm an cdv ct)
theorem Zs2 {x qual : Str} {st : Stmt} {f : Addr} {oc : Value} {od an : Option Addr} {osl : Array (Option Value)} {kV doc pm cdv ct : Value} (l : K.lookup f = some ⟨oc, od, .func (PySem.W.fnOf x qual (Zes st) (Zcn st) (Zal st) .none kV doc pm an cdv ct), osl⟩)
  (c : PySem.W.codeIn K cdv qual = true) (k : PySem.W.keepIn K (.ref f) = true) : Fun K x qual st f (PySem.W.fnOf x qual (Zes st) (Zcn st) (Zal st) .none kV doc pm an cdv ct) := ⟨⟨oc, od, kV, doc, pm, an, cdv, ct, osl, rfl, l, c⟩, k⟩
end
section
variable {X : Cx}
theorem pv (i : Nat) {x : Str} {pos : Pos} (hN : X.N[i]? = some x := by rfl) (hv : Vis X.env.scope x := by first | exact Or.inl rfl | exact Or.inr (Or.inl rfl) | exact Or.inr (Or.inr rfl)) (hd : (x == ("__debug__" : Str)) = false := by decide)
  (hcd : (x == ("__classdict__" : Str)) = false := by decide) : PE X (.Name x pos) (tVar i) := Zgk hN hv hd hcd
end
noncomputable def Zqy (H H' : Hp) : Prop := ∀ b o, H b = some o -> H' b = some o
theorem Zqy.refl (H : Hp) : Zqy H H := fun _ _ h => h
theorem Zqy.trans {H H1 H2 : Hp} (a : Zqy H H1) (b : Zqy H1 H2) : Zqy H H2 := fun c o h => b c o (a c o h)
theorem Zqy.free {H H' : Hp} (e : Zqy H H') {l : Addr} (h : H' l = Option.none) : H l = Option.none := by
 cases q : H l with
 | none => rfl
 | some o =>
  rw [e l o q] at h
  cases h
theorem Zqy.seq {K : PySem.W.Frag} {H H' : Hp} {a : Addr} {xs : List V} (e : Zqy H H') (h : SqL K H a xs) : SqL K H' a xs := by
 rcases h with (h | ⟨o, h⟩) | h
 ·exact .inl (.inl (e _ _ h))
 ·exact .inl (.inr ⟨o, e _ _ h⟩)
 ·exact .inr h
end L2
set_option maxHeartbeats 4000000
set_option autoImplicit false
namespace DL
open PySem PySem.Spec PyProof.Rows L2
noncomputable def Zv2 : Value -> Option Int
 | .int i _ => some i
 | .bool b => some (if b then 1 else 0)
 | _ => none
noncomputable def Zkn (k : Int) (v : Value) : Bool := Zv2 v == some k
theorem Zej {k : Int} {v : Value} (h : Zkn k v = true) : (∃ t, v = .int k t) ∨ ∃ b, v = .bool b ∧ k = (if b then 1 else 0) := by
 have h : Zv2 v = some k := eq_of_beq h
 cases v with
 | int i t => exact .inl ⟨t, by cases h; rfl⟩
 | bool b => exact .inr ⟨b, rfl, (Option.some.inj h).symm⟩
 | _ => cases h
section
variable {prog : Program} {w : World} {A : Around} {E : Value -> Shared -> Prop} {s : Shared}
theorem Zk8 {b : Bool} {Q : Int -> Shared -> Prop} (h : Q (hashInt (if b then 1 else 0)) { s with toks := s.toks + 1 }) : wpAny (model prog w) A (pyHash (.bool b)) Q E s := by
 have hr := rawHash_range (if b then 1 else 0)
 have tb : s.TypeIs (.bool b) "bool" := rfl
 unfold pyHash
 have hv : [Value.bool b].any Value.onHeap = false := rfl
 refine wpAny_bind ?_
 rw [cRoomFor, if_neg (by rw [hv]; exact Bool.false_ne_true)]; refine wpAny_pure ?_
 refine wpAny_bind (wpAny_specialOf tb F.slot_bool_hash.lookup ?_)
 show wpAny _ _ (if (some (Value.builtin "int.__hash__") == some Value.none) = true then _ else _) Q E s
 rw [if_neg (by rw [beq_builtin_none]; exact Bool.false_ne_true)]
 refine wpAny_bind (wpAny_specialOf tb F.slot_bool_hash.lookup ?_)
 show wpAny _ _ (callSpecialIfBoundUnlessNone? (.bool b) "__hash__" _ >>= _) Q E s
 refine wpAny_bind (wpAny_callSpecialIfBoundUnlessNone?_slot tb F.slot_bool_hash
  (wpAny_call_entry F.slot_bool_hash tb entry_int_hash
   (show wpAny _ _ (do ret (← mkInt (rawHash (if b then 1 else 0)))) _ _ s from wpAny_ret_mkInt ?_) (args_int_hash _)))
 show wpAny _ _ (if (decide (-(2 : Int) ^ 63 ≤ rawHash (if b then 1 else 0)) && decide (rawHash (if b then 1 else 0) < 2 ^ 63)) = true then _ else _) Q E _
 rw [if_pos (by rw [decide_eq_true hr.1, decide_eq_true hr.2]; rfl)]
 exact wpAny_pure h
end
noncomputable def Zbm (prog : Program) (w : World) : KeyKind prog w Int where
 is := Zkn
 hash := hashInt
 inj := fun v a b ha hb => by
  unfold Zkn at ha hb
  have := (eq_of_beq ha).symm.trans (eq_of_beq hb)
  exact Option.some.inj this
 byValue := fun k v h => by rcases Zej h with ⟨t, rfl⟩ | ⟨b, rfl, _⟩ <;> rfl
 pyHash := fun hv h => by
  rcases Zej hv with ⟨t, rfl⟩ | ⟨b, rfl, rfl⟩
  ·exact wpAny_pyHash_int h
  ·exact Zk8 h
 eqBool := fun {A E s a b u v Q} hu hv h => by
  rcases Zej hu with ⟨t, rfl⟩ | ⟨c, rfl, rfl⟩ <;> rcases Zej hv with ⟨t', rfl⟩ | ⟨c', rfl, rfl⟩
  ·exact wpAny_eqBool_int h
  ·exact PySem.SeqAt.EqAt.int_bool _ _ _ prog w E Q h
  ·exact PySem.SeqAt.EqAt.bool_int _ _ _ prog w E Q h
  ·refine PySem.SeqAt.EqAt.bool_bool _ _ prog w E Q ?_
   have e : (c == c') = decide ((if c then (1 : Int) else 0) = (if c' then 1 else 0)) := by cases c <;> cases c' <;> rfl
   rw [e]; exact h
 «strs» := fun k x t v h => by simp [Zkn, Zv2] at h
inductive D where
 | non | bl (b : Bool) | int (i : Int) | str (x : Str) | ty (n : String) | tup (xs : List D) | fl (xs : List D) | ref (n : Nat)
inductive DO where
 | lst (xs : List D) | dic (kvs : List (D × D)) (fz : Bool) | dci (kvs : List (Int × D)) | dcn (kvs : List (D × D))
noncomputable abbrev HD := List DO
noncomputable abbrev SD := List (Option D)
noncomputable def FzL (K : PySem.W.Frag) (H : Hp) (a : Addr) (xs : List V) : Prop :=
 (∃ o, H a = some (.frz o (.lst xs))) ∨
  ∃ (o : Obj) (its : Array Value) (n : Nat), K.lookup a = some o ∧ o.cls = .type "list" ∧ o.dict = none ∧ o.data = .seq its n ∧ its.size ≤ sizeLine ∧ Zbk xs its.toList
theorem FzL.sq {K : PySem.W.Frag} {H : Hp} {a : Addr} {xs : List V} (h : FzL K H a xs) : SqL K H a xs := by
 rcases h with h | h
 ·exact .inl (.inr h)
 ·exact .inr h
mutual
noncomputable def Rep (K : PySem.W.Frag) (H : Hp) (ι : List Addr) : D -> V -> Prop
 | .non, v => v = .non
 | .bl b, v => v = .bl b
 | .int i, v => v = .int i
 | .str x, v => v = .str x
 | .ty n, v => v = .ty n
 | .tup ds, v => ∃ a vs, v = .ref a ∧ SqT K H a vs ∧ Zjo K H ι ds vs
 | .fl ds, v => ∃ a vs, v = .ref a ∧ FzL K H a vs ∧ Zjo K H ι ds vs
 | .ref n, v => ∃ a, v = .ref a ∧ ι[n]? = some a
noncomputable def Zjo (K : PySem.W.Frag) (H : Hp) (ι : List Addr) : List D -> List V -> Prop
 | [], vs => vs = []
 | d :: ds, vs => ∃ v r, vs = v :: r ∧ Rep K H ι d v ∧ Zjo K H ι ds r
end
section
variable {α β : Type} {F G : α -> β -> Prop}
theorem Prd.len : ∀ {xs : List α} {us : List β}, Paired F xs us -> xs.length = us.length
 | _, _, .nil => rfl
 | _, _, .cons _ t => by simp [Prd.len t]
theorem Prd.get : ∀ {xs : List α} {us : List β} {i : Nat} {x : α}, Paired F xs us -> xs[i]? = some x -> ∃ u, us[i]? = some u ∧ F x u
 | _, _, _, _, .nil, e => by simp at e
 | _, _, 0, _, .cons r _, e => by simp at e; subst e; exact ⟨_, rfl, r⟩
 | _, _, i + 1, x, .cons _ t, e => by
  obtain ⟨u, h1, h2⟩ := Prd.get (i := i) (x := x) t (by simpa using e)
  exact ⟨u, by simpa using h1, h2⟩
theorem Prd.set {x : α} {u : β} (r : F x u) : ∀ {xs : List α} {us : List β} (i : Nat), Paired F xs us -> Paired F (xs.set i x) (us.set i u)
 | _, _, _, .nil => .nil
 | _, _, 0, .cons _ t => .cons r t
 | _, _, i + 1, .cons q t => .cons q (Prd.set r i t)
theorem Prd.append : ∀ {xs ys : List α} {us ws : List β}, Paired F xs us -> Paired F ys ws -> Paired F (xs ++ ys) (us ++ ws)
 | _, _, _, _, .nil, s => s
 | _, _, _, _, .cons r t, s => .cons r (Prd.append t s)
theorem Prd.take : ∀ {xs : List α} {us : List β} (n : Nat), Paired F xs us -> Paired F (xs.take n) (us.take n)
 | _, _, 0, _ => .nil
 | _, _, _ + 1, .nil => .nil
 | _, _, n + 1, .cons r t => .cons r (Prd.take n t)
theorem Prd.drop : ∀ {xs : List α} {us : List β} (n : Nat), Paired F xs us -> Paired F (xs.drop n) (us.drop n)
 | _, _, 0, r => r
 | _, _, _ + 1, .nil => .nil
 | _, _, n + 1, .cons _ t => Prd.drop n t
theorem Prd.eraseIdx : ∀ {xs : List α} {us : List β} (i : Nat), Paired F xs us -> Paired F (xs.eraseIdx i) (us.eraseIdx i)
 | _, _, _, .nil => .nil
 | _, _, 0, .cons _ t => t
 | _, _, i + 1, .cons r t => .cons r (Prd.eraseIdx i t)
theorem Prd.rep {xs : List α} {us : List β} (h : Paired F xs us) : ∀ k : Nat, Paired F (List.replicate k xs).flatten (List.replicate k us).flatten
 | 0 => .nil
 | k + 1 => by
  rw [List.replicate_succ, List.flatten_cons, List.replicate_succ, List.flatten_cons]
  exact Prd.append h (Prd.rep h k)
theorem Prd.imp : ∀ {xs : List α} {us : List β}, Paired F xs us -> (∀ a b, a ∈ xs -> F a b -> G a b) -> Paired G xs us
 | _, _, .nil, _ => .nil
 | _, _, .cons r t, f => .cons (f _ _ (by simp) r) (Prd.imp t fun a b h => f a b (by simp [h]))
theorem Prd.reverse : ∀ {xs : List α} {us : List β}, Paired F xs us -> Paired F xs.reverse us.reverse
 | _, _, .nil => .nil
 | _, _, .cons r t => by
  rw [List.reverse_cons, List.reverse_cons]
  exact Prd.append (Prd.reverse t) (.cons r .nil)
end
section
variable {K : PySem.W.Frag} {H H' : Hp} {ι ι' : List Addr}
theorem Zds : ∀ {ds : List D} {vs : List V}, Zjo K H ι ds vs ↔ Paired (Rep K H ι) ds vs
 | [], vs => by
  constructor
  ·intro h; rw [Zjo] at h; subst h; exact .nil
  ·intro h; cases h; rw [Zjo]
 | d :: ds, vs => by
  constructor
  ·intro h; rw [Zjo] at h
   obtain ⟨v, r, rfl, h1, h2⟩ := h
   exact .cons h1 (Zds.mp h2)
  ·intro h
   cases h with
   | cons h1 h2 => rw [Zjo]; exact ⟨_, _, rfl, h1, Zds.mpr h2⟩
@[simp] theorem rep_non {v : V} : Rep K H ι .non v ↔ v = .non := by rw [Rep]
@[simp] theorem rep_bl {b : Bool} {v : V} : Rep K H ι (.bl b) v ↔ v = .bl b := by rw [Rep]
@[simp] theorem rep_int {i : Int} {v : V} : Rep K H ι (.int i) v ↔ v = .int i := by rw [Rep]
@[simp] theorem rep_str {x : Str} {v : V} : Rep K H ι (.str x) v ↔ v = .str x := by rw [Rep]
@[simp] theorem rep_ty {n : String} {v : V} : Rep K H ι (.ty n) v ↔ v = .ty n := by rw [Rep]
theorem Zb8 {ds : List D} {v : V} : Rep K H ι (.tup ds) v ↔ ∃ a vs, v = .ref a ∧ SqT K H a vs ∧ Paired (Rep K H ι) ds vs := by
 rw [Rep]
 constructor
 ·rintro ⟨a, vs, h1, h2, h3⟩; exact ⟨a, vs, h1, h2, Zds.mp h3⟩
 ·rintro ⟨a, vs, h1, h2, h3⟩; exact ⟨a, vs, h1, h2, Zds.mpr h3⟩
theorem Zfy {ds : List D} {v : V} : Rep K H ι (.fl ds) v ↔ ∃ a vs, v = .ref a ∧ FzL K H a vs ∧ Paired (Rep K H ι) ds vs := by
 rw [Rep]
 constructor
 ·rintro ⟨a, vs, h1, h2, h3⟩; exact ⟨a, vs, h1, h2, Zds.mp h3⟩
 ·rintro ⟨a, vs, h1, h2, h3⟩; exact ⟨a, vs, h1, h2, Zds.mpr h3⟩
theorem Zbq {n : Nat} {v : V} : Rep K H ι (.ref n) v ↔ ∃ a, v = .ref a ∧ ι[n]? = some a := by rw [Rep]
structure Lw (K : PySem.W.Frag) (H : Hp) (ι : List Addr) (H' : Hp) (ι' : List Addr) : Prop where
 tup : ∀ a xs, SqT K H a xs -> SqT K H' a xs
 fz : ∀ a xs, FzL K H a xs -> FzL K H' a xs
 pre : ∃ t, ι' = ι ++ t
 fr : ∀ a o u, H a = some (.frz o u) -> H' a = some (.frz o u)
structure Le (K : PySem.W.Frag) (H : Hp) (ι : List Addr) (H' : Hp) (ι' : List Addr) : Prop extends Lw K H ι H' ι' where
 frame : ∀ a o, H a = some o -> a ∉ ι -> H' a = some o ∧ a ∉ ι'
theorem Le.refl : Le K H ι H ι := ⟨⟨fun _ _ h => h, fun _ _ h => h, ⟨[], by simp⟩, fun _ _ _ h => h⟩, fun _ _ h n => ⟨h, n⟩⟩
theorem Le.trans {H1 H2 : Hp} {ι1 ι2 : List Addr} (a : Le K H ι H1 ι1) (b : Le K H1 ι1 H2 ι2) : Le K H ι H2 ι2 := by
 refine ⟨⟨fun x xs h => b.tup x xs (a.tup x xs h), fun x xs h => b.fz x xs (a.fz x xs h), ?_, fun x o u h => b.fr x o u (a.fr x o u h)⟩, fun x o h n => ?_⟩
 ·obtain ⟨t, e⟩ := a.pre
  obtain ⟨u, e'⟩ := b.pre
  exact ⟨t ++ u, by rw [e', e, List.append_assoc]⟩
 ·obtain ⟨h1, n1⟩ := a.frame x o h n
  exact b.frame x o h1 n1
theorem Lw.get (l : Lw K H ι H' ι') {n : Nat} {a : Addr} (h : ι[n]? = some a) : ι'[n]? = some a := by
 obtain ⟨t, e⟩ := l.pre
 rw [e, List.getElem?_append_left (by exact (List.getElem?_eq_some_iff.mp h).1), h]
mutual
theorem Rep.monoW (l : Lw K H ι H' ι') : ∀ {d : D} {v : V}, Rep K H ι d v -> Rep K H' ι' d v
 | .non, v, h => by rw [Rep] at h ⊢; exact h
 | .bl _, v, h => by rw [Rep] at h ⊢; exact h
 | .int _, v, h => by rw [Rep] at h ⊢; exact h
 | .str _, v, h => by rw [Rep] at h ⊢; exact h
 | .ty _, v, h => by rw [Rep] at h ⊢; exact h
 | .tup ds, v, h => by
  rw [Rep] at h ⊢
  obtain ⟨a, vs, h1, h2, h3⟩ := h
  exact ⟨a, vs, h1, l.tup a vs h2, Zjo.monoW l h3⟩
 | .fl ds, v, h => by
  rw [Rep] at h ⊢
  obtain ⟨a, vs, h1, h2, h3⟩ := h
  exact ⟨a, vs, h1, l.fz a vs h2, Zjo.monoW l h3⟩
 | .ref n, v, h => by
  rw [Rep] at h ⊢
  obtain ⟨a, h1, h2⟩ := h
  exact ⟨a, h1, l.get h2⟩
theorem Zjo.monoW (l : Lw K H ι H' ι') : ∀ {ds : List D} {vs : List V}, Zjo K H ι ds vs -> Zjo K H' ι' ds vs
 | [], vs, h => by rw [Zjo] at h ⊢; exact h
 | d :: ds, vs, h => by
  rw [Zjo] at h ⊢
  obtain ⟨v, r, h1, h2, h3⟩ := h
  exact ⟨v, r, h1, Rep.monoW l h2, Zjo.monoW l h3⟩
end
theorem Rep.mono (l : Le K H ι H' ι') {d : D} {v : V} (h : Rep K H ι d v) : Rep K H' ι' d v := Rep.monoW l.toLw h
theorem Prd.monoW (l : Lw K H ι H' ι') {ds : List D} {vs : List V} (h : Paired (Rep K H ι) ds vs) : Paired (Rep K H' ι') ds vs := Zds.mp (Zjo.monoW l (Zds.mpr h))
theorem Prd.mono (l : Le K H ι H' ι') {ds : List D} {vs : List V} (h : Paired (Rep K H ι) ds vs) : Paired (Rep K H' ι') ds vs := Prd.monoW l.toLw h
noncomputable def nkOf : D -> Option Int
 | .int i => some i
 | .bl b => some (if b then 1 else 0)
 | _ => none
noncomputable def Zzx : List D -> Option (List Int)
 | [] => some []
 | d :: r => (nkOf d).bind fun k => (Zzx r).map fun ks => k :: ks
noncomputable def nk : D -> Option (List Int)
 | .tup ds => Zzx ds
 | _ => none
noncomputable def Zx5 (ks : List Int) : Int := reduceHash (Builtin.Tuple.tupleHashOf (ks.map hashInt))
noncomputable def Zp5 (a : Addr) (xs : List (List Int × Addr × Value)) (h : Heap) : Prop :=
 ∃ o es ep, h.get? a = some o ∧ o.ExactDict ∧ o.data = .dict es ep ∧ es.toList = xs.map (fun x => (⟨Zx5 x.1, .ref x.2.1, x.2.2⟩ : DictEntry)) ∧ (xs.map (·.1)).Nodup
theorem Zp5.keep {a : Addr} {xs : List (List Int × Addr × Value)} {h1 h2 : Heap} (d : Zp5 a xs h1) (k : ∀ o, h1.get? a = some o -> h2.get? a = some o) : Zp5 a xs h2 := by
 obtain ⟨o, es, ep, e, r⟩ := d
 exact ⟨o, es, ep, k o e, r⟩
noncomputable def KRep (K : PySem.W.Frag) (H : Hp) (ι : List Addr) (p : D × D) (x : List Int × Addr × Value) : Prop := nk p.1 = some x.1 ∧ Rep K H ι p.1 (.ref x.2.1) ∧ ∃ v, Zct v x.2.2 ∧ Rep K H ι p.2 v
noncomputable def Zq7 (a : Addr) (xs : List (Int × Value)) (h : Heap) : Prop := ∀ (p : Program) (w : World), h.DictOf (Zbm p w) a xs
theorem Zq7.keep {a : Addr} {xs : List (Int × Value)} {h1 h2 : Heap} (d : Zq7 a xs h1) (k : ∀ o, h1.get? a = some o -> h2.get? a = some o) : Zq7 a xs h2 := fun p w => by
 obtain ⟨o, es, ep, e, r⟩ := d p w
 exact ⟨o, es, ep, k o e, r⟩
noncomputable def IRep (K : PySem.W.Frag) (H : Hp) (ι : List Addr) (p : Int × D) (x : Int × Value) : Prop := p.1 = x.1 ∧ ∃ v, Zct v x.2 ∧ Rep K H ι p.2 v
noncomputable def nk2 : D -> Option (Int × List Int)
 | .tup [a, b] => (nkOf a).bind fun i => (nk b).map fun ks => (i, ks)
 | _ => none
noncomputable def Zr7 (k : Int × List Int) : Int := reduceHash (Builtin.Tuple.tupleHashOf [hashInt k.1, Zx5 k.2])
noncomputable def Zrk (a : Addr) (xs : List ((Int × List Int) × Addr × Value)) (h : Heap) : Prop :=
 ∃ o es ep, h.get? a = some o ∧ o.ExactDict ∧ o.data = .dict es ep ∧ es.toList = xs.map (fun x => (⟨Zr7 x.1, .ref x.2.1, x.2.2⟩ : DictEntry)) ∧ (xs.map (·.1)).Nodup
theorem Zrk.keep {a : Addr} {xs : List ((Int × List Int) × Addr × Value)} {h1 h2 : Heap} (d : Zrk a xs h1) (k : ∀ o, h1.get? a = some o -> h2.get? a = some o) : Zrk a xs h2 := by
 obtain ⟨o, es, ep, e, r⟩ := d
 exact ⟨o, es, ep, k o e, r⟩
noncomputable def NRep (K : PySem.W.Frag) (H : Hp) (ι : List Addr) (p : D × D) (x : (Int × List Int) × Addr × Value) : Prop := nk2 p.1 = some x.1 ∧ Rep K H ι p.1 (.ref x.2.1) ∧ ∃ v, Zct v x.2.2 ∧ Rep K H ι p.2 v
noncomputable def Zo5 (K : PySem.W.Frag) (H : Hp) (ι : List Addr) (a : Addr) : DO -> Prop
 | .lst ds => ∃ vs, H a = some (.lst vs) ∧ Paired (Rep K H ι) ds vs
 | .dic kvs fz => (a == sysModules) = false ∧ kvs.length ≤ sizeLine ∧ ∃ xs, (if fz = true then ∃ o, H a = some (.frz o (.ext (Zp5 a xs))) else H a = some (.ext (Zp5 a xs))) ∧ Paired (KRep K H ι) kvs xs
 | .dci kvs => (a == sysModules) = false ∧ kvs.length ≤ sizeLine ∧ ∃ xs, H a = some (.ext (Zq7 a xs)) ∧ Paired (IRep K H ι) kvs xs
 | .dcn kvs => (a == sysModules) = false ∧ kvs.length ≤ sizeLine ∧ ∃ xs, H a = some (.ext (Zrk a xs)) ∧ Paired (NRep K H ι) kvs xs
structure HRep (K : PySem.W.Frag) (H : Hp) (ι : List Addr) (Hd : HD) : Prop where
 len : ι.length = Hd.length
 nd : ι.Nodup
 obj : ∀ (n : Nat) (a : Addr) (o : DO), ι[n]? = some a -> Hd[n]? = some o -> Zo5 K H ι a o
theorem Zo5.there {a : Addr} {o : DO} (h : Zo5 K H ι a o) : H a ≠ none := by
 cases o with
 | lst ds => obtain ⟨vs, e, _⟩ := h; rw [e]; simp
 | dic kv fz =>
  obtain ⟨_, _, xs, e, _⟩ := h
  cases fz with
  | true => rw [if_pos rfl] at e; obtain ⟨ob, e⟩ := e; rw [e]; simp
  | false => rw [if_neg (by simp)] at e; rw [e]; simp
 | dci kv => obtain ⟨_, _, xs, e, _⟩ := h; rw [e]; simp
 | dcn kv => obtain ⟨_, _, xs, e, _⟩ := h; rw [e]; simp
theorem Zo5.step {a : Addr} {o : DO} (h : Zo5 K H ι a o) (l : Lw K H ι H' ι') (e : H' a = H a) : Zo5 K H' ι' a o := by
 cases o with
 | lst ds => obtain ⟨vs, q, r⟩ := h; exact ⟨vs, by rw [e, q], Prd.monoW l r⟩
 | dic kv fz => obtain ⟨h1, h2, xs, q, r⟩ := h; exact ⟨h1, h2, xs, by rw [e]; exact q, Prd.imp r fun p x _ z => ⟨z.1, Rep.monoW l z.2.1, let ⟨v, z1, z2⟩ := z.2.2; ⟨v, z1, Rep.monoW l z2⟩⟩⟩
 | dci kv => obtain ⟨h1, h2, xs, q, r⟩ := h; exact ⟨h1, h2, xs, by rw [e]; exact q, Prd.imp r fun p x _ z => ⟨z.1, let ⟨v, z1, z2⟩ := z.2; ⟨v, z1, Rep.monoW l z2⟩⟩⟩
 | dcn kv => obtain ⟨h1, h2, xs, q, r⟩ := h; exact ⟨h1, h2, xs, by rw [e]; exact q, Prd.imp r fun p x _ z => ⟨z.1, Rep.monoW l z.2.1, let ⟨v, z1, z2⟩ := z.2.2; ⟨v, z1, Rep.monoW l z2⟩⟩⟩
theorem HRep.at {Hd : HD} (h : HRep K H ι Hd) {n : Nat} {o : DO} (e : Hd[n]? = some o) : ∃ a, ι[n]? = some a ∧ Zo5 K H ι a o := by
 have hl : n < ι.length := by rw [h.len]; exact (List.getElem?_eq_some_iff.mp e).1
 exact ⟨ι[n], by simp [hl], h.obj n _ o (by simp [hl]) e⟩
theorem HRep.has {Hd : HD} (h : HRep K H ι Hd) {a : Addr} (hm : a ∈ ι) : ∃ (n : Nat) (o : DO), ι[n]? = some a ∧ Hd[n]? = some o ∧ Zo5 K H ι a o := by
 obtain ⟨n, hn⟩ := List.mem_iff_getElem?.mp hm
 have hl : n < Hd.length := by rw [← h.len]; exact (List.getElem?_eq_some_iff.mp hn).1
 exact ⟨n, Hd[n], hn, by simp [hl], h.obj n a Hd[n] hn (by simp [hl])⟩
theorem HRep.fresh {Hd : HD} (h : HRep K H ι Hd) {p : Addr} (hp : H p = none) : p ∉ ι := fun hm => by
 obtain ⟨_, _, _, _, o⟩ := h.has hm
 exact o.there hp
theorem HRep.keep {Hd : HD} (h : HRep K H ι Hd) (l : Lw K H ι H' ι) (e : ∀ a ∈ ι, H' a = H a) : HRep K H' ι Hd :=
 ⟨h.len, h.nd, fun n a o h1 h2 => (h.obj n a o h1 h2).step l (e a (List.mem_of_getElem? h1))⟩
theorem Lw.fresh {p : Addr} (hp : H p = none) (o : HO) : Lw K H ι (upd H p o) ι where
 tup := fun a xs h => by
  rcases h with (h | ⟨ob, h⟩) | h
  ·exact .inl (.inl (by rw [Zaw (Za3 h hp)]; exact h))
  ·exact .inl (.inr ⟨ob, by rw [Zaw (Za3 h hp)]; exact h⟩)
  ·exact .inr h
 fz := fun a xs h => by
  rcases h with ⟨ob, h⟩ | h
  ·exact .inl ⟨ob, by rw [Zaw (Za3 h hp)]; exact h⟩
  ·exact .inr h
 pre := ⟨[], by simp⟩
 fr := fun a ob u h => by rw [Zaw (Za3 h hp)]; exact h
theorem Le.fresh {p : Addr} (hp : H p = none) (o : HO) : Le K H ι (upd H p o) ι := ⟨Lw.fresh hp o, fun a ob h n => ⟨by rw [Zaw (Za3 h hp)]; exact h, n⟩⟩
theorem Le.fresh1 {p : Addr} (hp : H p = none) (o : HO) : Le K H ι (upd H p o) (ι ++ [p]) where
 tup := (Le.fresh (ι := ι) hp o).tup
 fz := (Le.fresh (ι := ι) hp o).fz
 pre := ⟨[p], rfl⟩
 fr := (Le.fresh (K := K) (ι := ι) hp o).fr
 frame := fun a ob h n => ⟨by rw [Zaw (Za3 h hp)]; exact h, by
  have := Za3 h hp
  simp [n, this]⟩
theorem HRep.tup {Hd : HD} (h : HRep K H ι Hd) {p : Addr} (hp : H p = none) (o : HO) : HRep K (upd H p o) ι Hd :=
 h.keep (Lw.fresh hp o) fun a ha => Zaw fun z => by subst z; exact h.fresh hp ha
theorem HRep.new {Hd : HD} (h : HRep K H ι Hd) {p : Addr} (hp : H p = none) {u : HO} {o : DO} (ho : Zo5 K (upd H p u) (ι ++ [p]) p o) : HRep K (upd H p u) (ι ++ [p]) (Hd ++ [o]) := by
 have hf := h.fresh hp
 refine ⟨by simp [h.len], by simp only [List.nodup_append, h.nd, true_and]; exact ⟨by simp, fun a ha b hb e => hf (by simp at hb; rw [← hb, ← e]; exact ha)⟩, fun n a ob h1 h2 => ?_⟩
 by_cases hn : n < ι.length
 ·rw [List.getElem?_append_left hn] at h1
  rw [List.getElem?_append_left (by rw [← h.len]; exact hn)] at h2
  have ha : a ∈ ι := List.mem_of_getElem? h1
  exact (h.obj n a ob h1 h2).step (Le.fresh1 hp u).toLw (Zaw fun z => by subst z; exact hf ha)
 ·rw [List.getElem?_append_right (by omega)] at h1
  rw [List.getElem?_append_right (by rw [← h.len]; omega)] at h2
  rw [← h.len] at h2
  have : n - ι.length = 0 := by
   have := (List.getElem?_eq_some_iff.mp h1).1
   simp at this; omega
  rw [this] at h1 h2
  simp at h1 h2
  subst h1; subst h2
  exact ho
noncomputable def Zz0 : HO -> Prop
 | .lst _ => True
 | .ext _ => True
 | _ => False
theorem Le.upd {a : Addr} (ha : a ∈ ι) {o : HO} (e : H a = some o) (lo : Zz0 o) (u : HO) : Le K H ι (upd H a u) ι where
 tup := fun b xs h => by
  rcases h with (h | ⟨ob, h⟩) | h
  ·refine .inl (.inl ?_)
   rw [Zaw (Zjp h e (by rintro rfl; exact lo))]; exact h
  ·refine .inl (.inr ⟨ob, ?_⟩)
   rw [Zaw (Zjp h e (by rintro rfl; exact lo))]; exact h
  ·exact .inr h
 fz := fun b xs h => by
  rcases h with ⟨ob, h⟩ | h
  ·refine .inl ⟨ob, ?_⟩
   rw [Zaw (Zjp h e (by rintro rfl; exact lo))]; exact h
  ·exact .inr h
 pre := ⟨[], by simp⟩
 fr := fun b ob w h => by rw [Zaw (Zjp h e (by rintro rfl; exact lo))]; exact h
 frame := fun b ob h n => ⟨by rw [Zaw (by rintro rfl; exact n ha)]; exact h, n⟩
theorem HRep.upd {Hd : HD} (h : HRep K H ι Hd) {n : Nat} {a : Addr} (hn : ι[n]? = some a) {o u : HO} (e : H a = some o) (lo : Zz0 o) {ob : DO} (ho : Zo5 K (upd H a u) ι a ob) : HRep K (upd H a u) ι (Hd.set n ob) := by
 refine ⟨by simp [h.len], h.nd, fun m b oc h1 h2 => ?_⟩
 by_cases hm : n = m
 ·subst hm
  rw [hn] at h1; cases h1
  rw [List.getElem?_set] at h2
  rw [if_pos rfl] at h2
  split at h2
  ·cases h2; exact ho
  ·cases h2
 ·rw [List.getElem?_set_ne hm] at h2
  have hb : b ≠ a := fun z => by
   subst z
   have l1 := (List.getElem?_eq_some_iff.mp hn).1
   exact hm ((List.getElem?_inj l1 h.nd).mp (hn.trans h1.symm))
  exact (h.obj m b oc h1 h2).step (Le.upd (List.mem_of_getElem? hn) e lo u).toLw (Zaw hb)
theorem HRep.add {Hd : HD} (h : HRep K H ι Hd) {p : Addr} (hp : p ∉ ι) {o : DO} (ho : Zo5 K H (ι ++ [p]) p o) : HRep K H (ι ++ [p]) (Hd ++ [o]) := by
 refine ⟨by simp [h.len], by simp only [List.nodup_append, h.nd, true_and]; exact ⟨by simp, fun a ha b hb e => hp (by simp at hb; rw [← hb, ← e]; exact ha)⟩, fun n a ob h1 h2 => ?_⟩
 by_cases hn : n < ι.length
 ·rw [List.getElem?_append_left hn] at h1
  rw [List.getElem?_append_left (by rw [← h.len]; exact hn)] at h2
  exact (h.obj n a ob h1 h2).step ⟨fun _ _ z => z, fun _ _ z => z, ⟨[p], rfl⟩, fun _ _ _ z => z⟩ rfl
 ·rw [List.getElem?_append_right (by omega)] at h1
  rw [List.getElem?_append_right (by rw [← h.len]; omega)] at h2
  rw [← h.len] at h2
  have : n - ι.length = 0 := by
   have := (List.getElem?_eq_some_iff.mp h1).1
   simp at this; omega
  rw [this] at h1 h2
  simp at h1 h2
  subst h1; subst h2
  exact ho
theorem Lw.side {p : Addr} {ys : List V} (hp : H p = some (.lst ys)) (u : HO) : Lw K H ι (L2.upd H p u) ι where
 tup := fun a xs h => by
  rcases h with (h | ⟨ob, h⟩) | h
  ·refine .inl (.inl ?_)
   rw [Zaw (Zjp h hp (by intro z; cases z))]; exact h
  ·refine .inl (.inr ⟨ob, ?_⟩)
   rw [Zaw (Zjp h hp (by intro z; cases z))]; exact h
  ·exact .inr h
 fz := fun a xs h => by
  rcases h with ⟨ob, h⟩ | h
  ·refine .inl ⟨ob, ?_⟩
   rw [Zaw (Zjp h hp (by intro z; cases z))]; exact h
  ·exact .inr h
 pre := ⟨[], by simp⟩
 fr := fun a ob w h => by rw [Zaw (Zjp h hp (by intro z; cases z))]; exact h
theorem Lw.trans {H1 H2 : Hp} {ι1 ι2 : List Addr} (a : Lw K H ι H1 ι1) (b : Lw K H1 ι1 H2 ι2) : Lw K H ι H2 ι2 := by
 refine ⟨fun x xs h => b.tup x xs (a.tup x xs h), fun x xs h => b.fz x xs (a.fz x xs h), ?_, fun x o u h => b.fr x o u (a.fr x o u h)⟩
 obtain ⟨t, e⟩ := a.pre
 obtain ⟨u, e'⟩ := b.pre
 exact ⟨t ++ u, by rw [e', e, List.append_assoc]⟩
theorem Le.side {H1 : Hp} {ι1 : List Addr} {p : Addr} {ys : List V} (l : Le K H ι H1 ι1) (h0 : H p = none) (h1 : H1 p = some (.lst ys)) (u : HO) : Le K H ι (L2.upd H1 p u) ι1 :=
 ⟨l.toLw.trans (Lw.side h1 u), fun a o h n => by
  obtain ⟨q, m⟩ := l.frame a o h n
  exact ⟨by rw [Zaw (Za3 h h0)]; exact q, m⟩⟩
structure SRep (K : PySem.W.Frag) (H : Hp) (ι : List Addr) (σ : L2.St) (σd : SD) : Prop where
 len : σ.length = σd.length
 var : ∀ (i : Nat) (d : D), σd[i]? = some (some d) -> ∃ v, σ[i]? = some (some v) ∧ Rep K H ι d v
theorem SRep.mono {σ : L2.St} {σd : SD} (s : SRep K H ι σ σd) (l : Le K H ι H' ι') : SRep K H' ι' σ σd :=
 ⟨s.len, fun i d h => let ⟨v, h1, h2⟩ := s.var i d h; ⟨v, h1, h2.mono l⟩⟩
theorem SRep.set {σ : L2.St} {σd : SD} {d : D} {v : V} (s : SRep K H ι σ σd) (r : Rep K H ι d v) (i : Nat) : SRep K H ι (σ.set i (some v)) (σd.set i (some d)) := by
 refine ⟨by simp [s.len], fun j e h => ?_⟩
 by_cases hj : i = j
 ·subst hj
  rw [List.getElem?_set] at h ⊢
  rw [if_pos rfl] at h ⊢
  split at h
  ·rename_i hl
   rw [if_pos (by rw [s.len]; exact hl)]
   cases h
   exact ⟨v, rfl, r⟩
  ·cases h
 ·rw [List.getElem?_set_ne hj] at h ⊢
  exact s.var j e h
end
noncomputable def Zlt : Expr -> Bool
 | .Starred _ _ => false
 | _ => true
theorem Zbe {e : Expr} {es : List Expr} {env : Env} (h : Zlt e = true) : starEach (e :: es) env = (false, eval e env) :: starEach es env := by
 cases e <;> first | rfl | cases h
theorem Zc2 {pos : Pos} {env : Env} : ∀ {es : List Expr}, es.all Zlt = true -> (backTo pos (starEach es env)).any (·.1) = false
 | [], _ => rfl
 | e :: es, h => by
  rw [List.all_cons, Bool.and_eq_true] at h
  rw [Zbe h.1]
  show (false || (backTo pos (starEach es env)).any (·.1)) = false
  rw [Zc2 h.2]
  rfl
theorem Zl0 {pos : Pos} {env : Env} {es : List Expr} (h : es.all Zlt = true) (hl : es.length < 30) : ((backTo pos (starEach es env)).all (fun x => !x.1) && (backToKw pos (keywordEach [] env)).all (fun x => x.1.isSome)
   && decide (es.length + ([] : List Keyword).length + (if ([] : List Keyword).isEmpty then 0 else 1) < 30)) = true := by
 have h1 := Zc2 (pos := pos) (env := env) h
 have h2 : (backTo pos (starEach es env)).all (fun x => !x.1) = true := by
  rw [List.all_eq_true]
  intro x hx
  rw [List.any_eq_false] at h1
  have := h1 x hx
  simpa using this
 have h3 : decide (es.length + ([] : List Keyword).length + (if ([] : List Keyword).isEmpty then 0 else 1) < 30) = true := by
  rw [decide_eq_true_eq]
  simpa using hl
 rw [h2, h3]
 rfl
noncomputable abbrev EF := SD -> HD -> Option (D × HD)
noncomputable abbrev TF := SD -> HD -> Option (Bool × HD)
noncomputable abbrev AF := SD -> HD -> Option (List D × HD)
inductive FD where
 | nx | bk | ct | rt (d : D)
noncomputable abbrev SF := SD -> HD -> Option (FD × SD × HD)
noncomputable abbrev GF := D -> SD -> HD -> Option (SD × HD)
noncomputable abbrev FF := List D -> HD -> Option (D × HD)
noncomputable abbrev F2 := D -> D -> HD -> Option (D × HD)
noncomputable def QE (K : PySem.W.Frag) (H : Hp) (ι : List Addr) (d : D) (Hd' : HD) (Q : VK) : Prop := ∀ v H' ι', Le K H ι H' ι' -> HRep K H' ι' Hd' -> Rep K H' ι' d v -> Q v H'
noncomputable def rdE (K : PySem.W.Frag) (f : EF) : TE := fun σ H Q => ∃ ι σd Hd d Hd', SRep K H ι σ σd ∧ HRep K H ι Hd ∧ f σd Hd = some (d, Hd') ∧ QE K H ι d Hd' Q
noncomputable def rdT (K : PySem.W.Frag) (f : TF) : TT := fun σ H Q => ∃ ι σd Hd b Hd', SRep K H ι σ σd ∧ HRep K H ι Hd ∧ f σd Hd = some (b, Hd') ∧ ∀ H' ι', Le K H ι H' ι' -> HRep K H' ι' Hd' -> Q b H'
noncomputable def rdA (K : PySem.W.Frag) (f : AF) : TA := fun σ H Q => ∃ ι σd Hd ds Hd', SRep K H ι σ σd ∧ HRep K H ι Hd ∧ f σd Hd = some (ds, Hd') ∧ ∀ vs H' ι', Le K H ι H' ι' -> HRep K H' ι' Hd' -> Paired (Rep K H' ι') ds vs -> Q vs H'
noncomputable def QS (K : PySem.W.Frag) (H : Hp) (ι : List Addr) (fl : FD) (σd' : SD) (Hd' : HD) (E : Ends) : Prop := ∀ σ' H' ι', Le K H ι H' ι' -> HRep K H' ι' Hd' -> SRep K H' ι' σ' σd' →
 match fl with
 | .nx => E.nx σ' H'
 | .bk => E.bk σ' H'
 | .ct => E.ct σ' H'
 | .rt d => ∀ v, Rep K H' ι' d v -> E.rt v H'
noncomputable def rdS (K : PySem.W.Frag) (f : SF) : TS := fun E σ H => ∃ ι σd Hd fl σd' Hd', SRep K H ι σ σd ∧ HRep K H ι Hd ∧ f σd Hd = some (fl, σd', Hd') ∧ QS K H ι fl σd' Hd' E
noncomputable def rdG (K : PySem.W.Frag) (g : GF) : TG := fun v σ H Q => ∃ ι σd Hd d σd' Hd', SRep K H ι σ σd ∧ HRep K H ι Hd ∧ Rep K H ι d v ∧ g d σd Hd = some (σd', Hd') ∧
 ∀ σ' H' ι', Le K H ι H' ι' -> HRep K H' ι' Hd' -> SRep K H' ι' σ' σd' -> Q σ' H'
noncomputable def rd2 (K : PySem.W.Frag) (g : F2) : R2 := fun x y H Q => ∃ ι dx dy Hd d Hd', HRep K H ι Hd ∧ Rep K H ι dx x ∧ Rep K H ι dy y ∧ g dx dy Hd = some (d, Hd') ∧ QE K H ι d Hd' Q
noncomputable def rd1 (K : PySem.W.Frag) (g : D -> HD -> Option (D × HD)) : V -> Hp -> VK -> Prop := fun x H Q => ∃ ι dx Hd d Hd', HRep K H ι Hd ∧ Rep K H ι dx x ∧ g dx Hd = some (d, Hd') ∧ QE K H ι d Hd' Q
noncomputable def rdC (K : PySem.W.Frag) (g : FF) : List V -> Hp -> VK -> Prop := fun vs H Q => ∃ ι ds Hd d Hd', HRep K H ι Hd ∧ Paired (Rep K H ι) ds vs ∧ g ds Hd = some (d, Hd') ∧ QE K H ι d Hd' Q
noncomputable def rdM (K : PySem.W.Frag) (g : D -> List D -> HD -> Option (D × HD)) : V -> List V -> Hp -> VK -> Prop := fun v vs H Q => ∃ ι x ds Hd d Hd', HRep K H ι Hd ∧ Rep K H ι x v ∧ Paired (Rep K H ι) ds vs ∧ g x ds Hd = some (d, Hd') ∧ QE K H ι d Hd' Q
noncomputable def PEf (X : Cx) (e : Expr) (f : EF) : Prop := PE X e (rdE X.K f)
noncomputable def PTf (X : Cx) (e : Expr) (f : TF) : Prop := PT X e (rdT X.K f)
noncomputable def PWf (X : Cx) (e : Expr) (f : TF) : Prop := PW X e (rdT X.K f)
noncomputable def PAf (X : Cx) (es : List Expr) (f : AF) : Prop := PA X es (rdA X.K f)
noncomputable def PSf (X : Cx) (st : Stmt) (f : SF) : Prop := PS X st (rdS X.K f)
noncomputable def Zmp (X : Cx) (st : List Stmt) (f : SF) : Prop := PSs X st (rdS X.K f)
noncomputable def PGf (X : Cx) (tg : Expr) (g : GF) : Prop := PG X tg (rdG X.K g)
noncomputable def OpF (X : Cx) (f : Value -> Value -> Sem Value) (g : F2) : Prop := OpR X f (rd2 X.K g)
noncomputable def UnF (X : Cx) (f : Value -> Sem Value) (g : D -> HD -> Option (D × HD)) : Prop := UnR X f (rd1 X.K g)
noncomputable def Zgr (X : Cx) (f : Value) (g : FF) : Prop := Zgg X f (rdC X.K g)
noncomputable def IxF (X : Cx) (g : F2) : Prop := IxR X (rd2 X.K g)
noncomputable def MtF (X : Cx) (id : String) (g : D -> List D -> HD -> Option (D × HD)) : Prop := MtR X id (rdM X.K g)
section
variable {X : Cx} {e a b c : Expr} {es : List Expr} {pos : Pos} {st : Stmt} {sts : List Stmt}
theorem PEi {t t' : TE} (h : PE X e t) (i : ∀ σ H Q, t' σ H Q -> t σ H Q) : PE X e t' := fun pins s σ H Q I q => h pins s σ H Q I (i σ H Q q)
theorem PTi {t t' : TT} (h : PT X e t) (i : ∀ σ H Q, t' σ H Q -> t σ H Q) : PT X e t' := fun pins s σ H Q I q => h pins s σ H Q I (i σ H Q q)
theorem PWi {t t' : TT} (h : PW X e t) (i : ∀ σ H Q, t' σ H Q -> t σ H Q) : PW X e t' := fun wh pins s σ H Q I q => h wh pins s σ H Q I (i σ H Q q)
theorem PAi {t t' : TA} (h : PA X es t) (i : ∀ σ H Q, t' σ H Q -> t σ H Q) : PA X es t' := fun ps pins s σ H Q I q => h ps pins s σ H Q I (i σ H Q q)
theorem PSi {t t' : TS} (h : PS X st t) (i : ∀ E σ H, t' E σ H -> t E σ H) : PS X st t' := fun pins s σ H E I q => h pins s σ H E I (i E σ H q)
theorem Zwh {t t' : TS} (h : PSs X sts t) (i : ∀ E σ H, t' E σ H -> t E σ H) : PSs X sts t' := fun pins s σ H E I q => h pins s σ H E I (i E σ H q)
theorem PGi {t t' : TG} (h : PG X e t) (i : ∀ v σ H Q, t' v σ H Q -> t v σ H Q) : PG X e t' := fun pins s σ H v u Q I r q => h pins s σ H v u Q I r (i v σ H Q q)
theorem OpRi {f : Value -> Value -> Sem Value} {t t' : R2} (h : OpR X f t) (i : ∀ x y H Q, t' x y H Q -> t x y H Q) : OpR X f t' := fun pins s σ H x y v u Q I r1 r2 q => h pins s σ H x y v u Q I r1 r2 (i x y H Q q)
noncomputable def Zah (i : Nat) : EF := fun σ H => (σ[i]?).join.map fun d => (d, H)
noncomputable def eC (d : D) : EF := fun _ H => some (d, H)
theorem Zaa {i : Nat} {x : Str} (h : PE X (.Name x pos) (tVar i)) : PEf X (.Name x pos) (Zah i) := by
 refine PEi h fun σ H Q zz => ?_
 obtain ⟨ι, σd, Hd, d, Hd', s, hr, e, q⟩ := zz
 unfold Zah at e
 cases hx : σd[i]? with
 | none => rw [hx] at e; cases e
 | some o =>
  cases o with
  | none => rw [hx] at e; cases e
  | some d0 =>
   rw [hx] at e
   have e' : (d0, Hd) = (d, Hd') := Option.some.inj e
   obtain ⟨rfl, rfl⟩ := Prod.mk.inj e'
   obtain ⟨v, h1, h2⟩ := s.var i d0 hx
   exact ⟨v, h1, q v H ι Le.refl hr h2⟩
theorem Zmx {v : V} {d : D} (h : PE X e (tC v)) (r : ∀ H ι, Rep X.K H ι d v) : PEf X e (eC d) := by
 refine PEi h fun σ H Q zz => ?_
 obtain ⟨ι, σd, Hd, d', Hd', s, hr, e, q⟩ := zz
 cases e
 exact q v H ι Le.refl hr (r H ι)
theorem Zae {i j} : PEf X (.Constant (.int i) j pos) (eC (.int i)) := Zmx Zts fun _ _ => by simp
theorem Zex {b j} : PEf X (.Constant (.bool b) j pos) (eC (.bl b)) := Zmx pe_bl fun _ _ => by simp
theorem Zbd {j} : PEf X (.Constant .none j pos) (eC .non) := Zmx Zwt fun _ _ => by simp
theorem Zai {x j} : PEf X (.Constant (.str x) j pos) (eC (.str x)) := Zmx Znv fun _ _ => by simp
theorem Zio {x : Str} {n : String} (hg : Gl X x) (hm : X.mg x = none) (hv : bootBuiltins x = some (.type n)) (hn : x ≠ "__name__" := by decide) (hd : (x == ("__debug__" : Str)) = false := by decide) : PEf X (.Name x pos) (eC (.ty n)) :=
 Zmx (Zn9 (v := .ty n) hg hm hv rfl hn hd) fun _ _ => by simp
noncomputable def eOp (g : F2) (fa fb : EF) : EF := fun σ H => (fa σ H).bind fun p => (fb σ p.2).bind fun q => g p.1 q.1 q.2
theorem Zr2 {fa fb : EF} {g : F2} {σ : L2.St} {H : Hp} {Q : VK} {K : PySem.W.Frag} (h : rdE K (eOp g fa fb) σ H Q) : tOp (rd2 K g) (rdE K fa) (rdE K fb) σ H Q := by
 obtain ⟨ι, σd, Hd, d, Hd', s, hr, e, q⟩ := h
 obtain ⟨⟨x, H1⟩, e1, e⟩ := Zo e
 obtain ⟨⟨y, H2⟩, e2, e⟩ := Zo e
 exact ⟨ι, σd, Hd, x, H1, s, hr, e1, fun v1 H1' ι1 l1 h1 r1 => ⟨ι1, σd, H1, y, H2, s.mono l1, h1, e2, fun v2 H2' ι2 l2 h2 r2 =>
  ⟨ι2, x, y, H2, d, Hd', h2, r1.mono l2, r2, e, fun v H' ι' l h r => q v H' ι' ((l1.trans l2).trans l) h r⟩⟩⟩
theorem Zaj {op : Operator} {g : F2} {fa fb : EF} (ho : OpF X (binaryOp op) g) (ha : PEf X a fa) (hb : PEf X b fb) : PEf X (.BinOp a op b pos) (eOp g fa fb) :=
 PEi (pe_op ho ha hb) fun _ _ _ h => Zr2 h
theorem Zev {op : CmpOp} {g : F2} {fa fb : EF} (ho : OpF X (compareOp op) g) (ha : PEf X a fa) (hb : PEf X b fb) (hm : behindInMarks op b = false) : PEf X (.Compare a [op] [b] pos) (eOp g fa fb) :=
 PEi (Zvb ho ha hb hm) fun _ _ _ h => Zr2 h
theorem Zat {g : F2} {fa fb : EF} (ho : IxF X g) (ha : PEf X a fa) (hb : PEf X b fb) (hs : Zps b) : PEf X (.Subscript a b pos) (eOp g fa fb) :=
 PEi (pe_ix ho ha hb hs) fun _ _ _ h => Zr2 h
noncomputable def eUn (g : D -> HD -> Option (D × HD)) (fa : EF) : EF := fun σ H => (fa σ H).bind fun p => g p.1 p.2
theorem Zdy {op : UnaryOp} {g : D -> HD -> Option (D × HD)} {fa : EF} (ho : UnF X (unaryOp op) g) (ha : PEf X a fa) : PEf X (.UnaryOp op a pos) (eUn g fa) := by
 refine PEi (pe_un ho ha) fun σ H Q zz => ?_
 obtain ⟨ι, σd, Hd, d, Hd', s, hr, e, q⟩ := zz
 obtain ⟨⟨x, H1⟩, e1, e⟩ := Zo e
 exact ⟨ι, σd, Hd, x, H1, s, hr, e1, fun v1 H1' ι1 l1 h1 r1 => ⟨ι1, x, H1, d, Hd', h1, r1, e, fun v H' ι' l h r => q v H' ι' (l1.trans l) h r⟩⟩
noncomputable def blD : D -> Option Bool
 | .bl b => some b
 | _ => none
noncomputable def tOf (f : EF) : TF := fun σ H => (f σ H).bind fun p => (blD p.1).map fun b => (b, p.2)
theorem Zis {K : PySem.W.Frag} {H : Hp} {ι : List Addr} {d : D} {b : Bool} {v : V} (e : blD d = some b) (r : Rep K H ι d v) : v = .bl b := by
 cases d <;> simp [blD] at e
 subst e
 simpa using r
theorem Zao {op : CmpOp} {g : F2} {fa fb : EF} (ho : OpF X (compareOp op) g) (ha : PEf X a fa) (hb : PEf X b fb) (hm : behindInMarks op b = false) : PTf X (.Compare a [op] [b] pos) (tOf (eOp g fa fb)) := by
 refine PTi (Zue ho ha hb hm) fun σ H Q zz => ?_
 obtain ⟨ι, σd, Hd, bb, Hd', s, hr, e, q⟩ := zz
 obtain ⟨⟨x, H1⟩, e1, e⟩ := Zo e
 obtain ⟨b', eb, e⟩ := Zm e
 cases e
 exact Zr2 ⟨ι, σd, Hd, x, H1, s, hr, e1, fun v H' ι' l h r => ⟨bb, Zis eb r, q H' ι' l h⟩⟩
noncomputable def Zlz : D -> HD -> Option Bool
 | .non, _ => some false
 | .bl b, _ => some b
 | .int i, _ => some (i != 0)
 | .tup xs, _ => some (!xs.isEmpty)
 | .fl xs, _ => some (!xs.isEmpty)
 | .str x, _ => if x.length ≤ sizeLine then some ((x.length : Int) != 0) else none
 | .ref n, H => match H[n]? with
  | some (.lst xs) => some (!xs.isEmpty)
  | _ => none
 | _, _ => none
theorem Zhi {α β : Type} {F : α -> β -> Prop} {xs : List α} {us : List β} (r : Paired F xs us) : (!us.isEmpty) = !xs.isEmpty := by cases r <;> rfl
theorem Zty {K : PySem.W.Frag} {H : Hp} {ι : List Addr} {Hd : HD} {d : D} {k : Bool} {v : V} (hr : HRep K H ι Hd) (r : Rep K H ι d v) (e : Zlz d Hd = some k) : TruV K v H k := by
 cases d with
 | non => simp at r; subst r; simp [Zlz] at e; subst e; exact rfl
 | bl b => simp at r; subst r; simp [Zlz] at e; subst e; exact rfl
 | int i => simp at r; subst r; simp [Zlz] at e; subst e; exact rfl
 | ty n => simp [Zlz] at e
 | str x =>
  simp at r; subst r
  simp only [Zlz] at e
  split at e
  ·rename_i hl
   cases e
   exact ⟨hl, rfl⟩
  ·cases e
 | tup xs =>
  obtain ⟨ad, vs, rfl, h, p⟩ := Zb8.mp r
  cases (show some (!xs.isEmpty) = some k from e)
  exact .inr (.inl ⟨vs, h, by rw [Zhi p]⟩)
 | fl xs =>
  obtain ⟨ad, vs, rfl, h, p⟩ := Zfy.mp r
  cases (show some (!xs.isEmpty) = some k from e)
  exact .inl ⟨vs, h.sq, by rw [Zhi p]⟩
 | ref n =>
  obtain ⟨ad, rfl, h⟩ := Zbq.mp r
  simp only [Zlz] at e
  split at e
  ·rename_i xs ho
   cases e
   obtain ⟨vs, h1, p⟩ := hr.obj n ad _ h ho
   exact .inl ⟨vs, SqL.of h1, by rw [Zhi p]⟩
  ·cases e
noncomputable def Zg4 (f : EF) : TF := fun σ H => (f σ H).bind fun p => (Zlz p.1 p.2).map fun b => (b, p.2)
theorem Za9 {fa : EF} (ha : PEf X a fa) (he : ∀ whole, isTrue a X.env whole = (do let v ← whole; standAt a.pos; holding [v] (truthy v))) : PTf X a (Zg4 fa) := by
 refine PTi (Zsp ha he) fun σ H Q zz => ?_
 obtain ⟨ι, σd, Hd, bb, Hd', s, hr, e, q⟩ := zz
 obtain ⟨⟨x, H1⟩, e1, e⟩ := Zo e
 obtain ⟨b', eb, e⟩ := Zm e
 cases e
 exact ⟨ι, σd, Hd, x, H1, s, hr, e1, fun v H' ι' l h r => ⟨bb, Zty h r eb, q H' ι' l h⟩⟩
noncomputable def tNo (t : TF) : TF := fun σ H => (t σ H).map fun p => (!p.1, p.2)
noncomputable def tAn (t u : TF) : TF := fun σ H => (t σ H).bind fun p => if p.1 = true then u σ p.2 else some (false, p.2)
noncomputable def Zfr (t u : TF) : TF := fun σ H => (t σ H).bind fun p => if p.1 = true then some (true, p.2) else u σ p.2
theorem Zdu {t : TF} (h : PTf X a t) : PTf X (.UnaryOp .Not a pos) (tNo t) := by
 refine PTi (Zxi h) fun σ H Q zz => ?_
 obtain ⟨ι, σd, Hd, bb, Hd', s, hr, e, q⟩ := zz
 obtain ⟨⟨x, H1⟩, e1, e⟩ := Zm e
 cases e
 exact ⟨ι, σd, Hd, x, H1, s, hr, e1, fun H' ι' l h => q H' ι' l h⟩
theorem Zg9 {t : TF} (h : PTf X a t) : PWf X (.BoolOp .And [a] pos) t := Zu0 h
theorem Zcx {t : TF} (h : PTf X a t) : PWf X (.BoolOp .Or [a] pos) t := Zw4 h
theorem Zjf {t u : TF} (h : PTf X a t) (h2 : PWf X (.BoolOp .And (b :: es) pos) u) : PWf X (.BoolOp .And (a :: b :: es) pos) (tAn t u) := by
 refine PWi (Zyz h h2) fun σ H Q zz => ?_
 obtain ⟨ι, σd, Hd, bb, Hd', s, hr, e, q⟩ := zz
 obtain ⟨⟨x, H1⟩, e1, e⟩ := Zo e
 refine ⟨ι, σd, Hd, x, H1, s, hr, e1, fun H' ι' l h => ?_⟩
 cases x with
 | true =>
  rw [if_pos rfl]
  exact ⟨ι', σd, H1, bb, Hd', s.mono l, h, by simpa using e, fun H2 ι2 l2 h2 => q H2 ι2 (l.trans l2) h2⟩
 | false =>
  rw [if_neg (by simp)]
  simp at e
  obtain ⟨rfl, rfl⟩ := e
  exact q H' ι' l h
theorem Zc5 {t u : TF} (h : PTf X a t) (h2 : PWf X (.BoolOp .Or (b :: es) pos) u) : PWf X (.BoolOp .Or (a :: b :: es) pos) (Zfr t u) := by
 refine PWi (pw_or h h2) fun σ H Q zz => ?_
 obtain ⟨ι, σd, Hd, bb, Hd', s, hr, e, q⟩ := zz
 obtain ⟨⟨x, H1⟩, e1, e⟩ := Zo e
 refine ⟨ι, σd, Hd, x, H1, s, hr, e1, fun H' ι' l h => ?_⟩
 cases x with
 | true =>
  rw [if_pos rfl]
  simp at e
  obtain ⟨rfl, rfl⟩ := e
  exact q H' ι' l h
 | false =>
  rw [if_neg (by simp)]
  exact ⟨ι', σd, H1, bb, Hd', s.mono l, h, by simpa using e, fun H2 ι2 l2 h2 => q H2 ι2 (l.trans l2) h2⟩
theorem PWf.pt {t : TF} (h : PWf X a t) : PTf X a t := h _
noncomputable def eNo (f : EF) : EF := fun σ H => (f σ H).bind fun p => (blD p.1).map fun b => (.bl (!b), p.2)
noncomputable def eAn (f g : EF) : EF := fun σ H => (f σ H).bind fun p => (blD p.1).bind fun b => if b = true then g σ p.2 else some (.bl false, p.2)
noncomputable def eOrr (f g : EF) : EF := fun σ H => (f σ H).bind fun p => (blD p.1).bind fun b => if b = true then some (.bl true, p.2) else g σ p.2
noncomputable def eIf (t : TF) (f g : EF) : EF := fun σ H => (t σ H).bind fun p => if p.1 = true then f σ p.2 else g σ p.2
theorem Zv8 {f : EF} (h : PEf X a f) : PEf X (.UnaryOp .Not a pos) (eNo f) := by
 refine PEi (Zyg h) fun σ H Q zz => ?_
 obtain ⟨ι, σd, Hd, d, Hd', s, hr, e, q⟩ := zz
 obtain ⟨⟨x, H1⟩, e1, e⟩ := Zo e
 obtain ⟨b', eb, e⟩ := Zm e
 cases e
 exact ⟨ι, σd, Hd, x, H1, s, hr, e1, fun v H' ι' l h r => ⟨b', Zis eb r, q _ H' ι' l h (by simp)⟩⟩
theorem Zny {op} {f : EF} (h : PEf X a f) : PEf X (.BoolOp op [a] pos) f := Zw5 h
theorem Zvw {f g : EF} (h : PEf X a f) (h2 : PEf X (.BoolOp .And (b :: es) pos) g) : PEf X (.BoolOp .And (a :: b :: es) pos) (eAn f g) := by
 refine PEi (Zw9 h h2) fun σ H Q zz => ?_
 obtain ⟨ι, σd, Hd, d, Hd', s, hr, e, q⟩ := zz
 obtain ⟨⟨x, H1⟩, e1, e⟩ := Zo e
 obtain ⟨b', eb, e⟩ := Zo e
 refine ⟨ι, σd, Hd, x, H1, s, hr, e1, fun v H' ι' l h r => ⟨b', Zis eb r, ?_⟩⟩
 cases b' with
 | true =>
  rw [if_pos rfl]
  exact ⟨ι', σd, H1, d, Hd', s.mono l, h, by simpa using e, fun v2 H2 ι2 l2 h2 r2 => q v2 H2 ι2 (l.trans l2) h2 r2⟩
 | false =>
  rw [if_neg (by simp)]
  simp at e
  obtain ⟨rfl, rfl⟩ := e
  exact q _ H' ι' l h (by simp)
theorem Zzj {f g : EF} (h : PEf X a f) (h2 : PEf X (.BoolOp .Or (b :: es) pos) g) : PEf X (.BoolOp .Or (a :: b :: es) pos) (eOrr f g) := by
 refine PEi (pe_or h h2) fun σ H Q zz => ?_
 obtain ⟨ι, σd, Hd, d, Hd', s, hr, e, q⟩ := zz
 obtain ⟨⟨x, H1⟩, e1, e⟩ := Zo e
 obtain ⟨b', eb, e⟩ := Zo e
 refine ⟨ι, σd, Hd, x, H1, s, hr, e1, fun v H' ι' l h r => ⟨b', Zis eb r, ?_⟩⟩
 cases b' with
 | true =>
  rw [if_pos rfl]
  simp at e
  obtain ⟨rfl, rfl⟩ := e
  exact q _ H' ι' l h (by simp)
 | false =>
  rw [if_neg (by simp)]
  exact ⟨ι', σd, H1, d, Hd', s.mono l, h, by simpa using e, fun v2 H2 ι2 l2 h2 r2 => q v2 H2 ι2 (l.trans l2) h2 r2⟩
theorem Zkt {t : TF} {f g : EF} (hc : PTf X c t) (ha : PEf X a f) (hb : PEf X b g) : PEf X (.IfExp c a b pos) (eIf t f g) := by
 refine PEi (Zri hc ha hb) fun σ H Q zz => ?_
 obtain ⟨ι, σd, Hd, d, Hd', s, hr, e, q⟩ := zz
 obtain ⟨⟨x, H1⟩, e1, e⟩ := Zo e
 refine ⟨ι, σd, Hd, x, H1, s, hr, e1, fun H' ι' l h => ?_⟩
 cases x with
 | true =>
  rw [if_pos rfl]
  exact ⟨ι', σd, H1, d, Hd', s.mono l, h, by simpa using e, fun v2 H2 ι2 l2 h2 r2 => q v2 H2 ι2 (l.trans l2) h2 r2⟩
 | false =>
  rw [if_neg (by simp)]
  exact ⟨ι', σd, H1, d, Hd', s.mono l, h, by simpa using e, fun v2 H2 ι2 l2 h2 r2 => q v2 H2 ι2 (l.trans l2) h2 r2⟩
noncomputable def Zan : AF := fun _ H => some ([], H)
noncomputable def Zac (f : EF) (g : AF) : AF := fun σ H => (f σ H).bind fun p => (g σ p.2).map fun q => (p.1 :: q.1, q.2)
theorem Zad : PAf X [] Zan := by
 refine PAi Zkd fun σ H Q zz => ?_
 obtain ⟨ι, σd, Hd, d, Hd', s, hr, e, q⟩ := zz
 cases e
 exact q [] H ι Le.refl hr .nil
theorem Zg3 {f : EF} {g : AF} (ha : PEf X e f) (hr : PAf X es g) (hs : starEach (e :: es) X.env = (false, eval e X.env) :: starEach es X.env := by exact Zbe rfl) : PAf X (e :: es) (Zac f g) := by
 refine PAi (Zem ha hr hs) fun σ H Q zz => ?_
 obtain ⟨ι, σd, Hd, d, Hd', s, hr, e, q⟩ := zz
 obtain ⟨⟨x, H1⟩, e1, e⟩ := Zo e
 obtain ⟨⟨y, H2⟩, e2, e⟩ := Zm e
 cases e
 exact ⟨ι, σd, Hd, x, H1, s, hr, e1, fun v1 H1' ι1 l1 h1 r1 => ⟨ι1, σd, H1, y, H2, s.mono l1, h1, e2, fun vs H2' ι2 l2 h2 r2 => q _ H2' ι2 (l1.trans l2) h2 (.cons (r1.mono l2) r2)⟩⟩
noncomputable def mkT (xs : List D) (H : HD) : Option (D × HD) := if xs.length ≤ sizeLine then some (.tup xs, H) else none
noncomputable def mkL (xs : List D) (H : HD) : Option (D × HD) := if xs.length ≤ sizeLine then some (.ref H.length, H ++ [.lst xs]) else none
theorem Zgx {xs : List D} {H : HD} {r : D × HD} (h : mkT xs H = some r) : xs.length ≤ sizeLine ∧ r = (.tup xs, H) := by
 unfold mkT at h
 split at h
 ·rename_i hl; cases h; exact ⟨hl, rfl⟩
 ·cases h
theorem Zl4 {xs : List D} {H : HD} {r : D × HD} (h : mkL xs H = some r) : xs.length ≤ sizeLine ∧ r = (.ref H.length, H ++ [.lst xs]) := by
 unfold mkL at h
 split at h
 ·rename_i hl; cases h; exact ⟨hl, rfl⟩
 ·cases h
theorem Zf9 {K : PySem.W.Frag} {H : Hp} {ι : List Addr} {Hd Hd' : HD} {xs : List D} {vs : List V} {d : D} {Q : VK} (hr : HRep K H ι Hd) (r : Paired (Rep K H ι) xs vs) (e : mkT xs Hd = some (d, Hd')) (q : QE K H ι d Hd' Q) :
  vs.length ≤ sizeLine ∧ ∀ p, H p = none -> Q (.ref p) (upd H p (.tup vs)) := by
 obtain ⟨hl, e⟩ := Zgx e
 cases e
 refine ⟨by rw [← Prd.len r]; exact hl, fun p hp => ?_⟩
 exact q _ _ ι (Le.fresh hp _) (hr.tup hp _) (Zb8.mpr ⟨p, vs, rfl, SqT.of upd_same, Prd.mono (Le.fresh hp _) r⟩)
theorem Zfm {K : PySem.W.Frag} {H : Hp} {ι : List Addr} {Hd Hd' : HD} {xs : List D} {vs : List V} {d : D} {Q : VK} (hr : HRep K H ι Hd) (r : Paired (Rep K H ι) xs vs) (e : mkL xs Hd = some (d, Hd')) (q : QE K H ι d Hd' Q) :
  vs.length ≤ sizeLine ∧ ∀ p, H p = none -> Q (.ref p) (upd H p (.lst vs)) := by
 obtain ⟨hl, e⟩ := Zl4 e
 cases e
 refine ⟨by rw [← Prd.len r]; exact hl, fun p hp => ?_⟩
 refine q _ _ (ι ++ [p]) (Le.fresh1 hp _) (hr.new hp ⟨vs, upd_same, Prd.mono (Le.fresh1 hp _) r⟩) (Zbq.mpr ⟨p, rfl, ?_⟩)
 rw [← hr.len]; simp
noncomputable def Zgl (f : AF) : EF := fun σ H => (f σ H).bind fun p => mkT p.1 p.2
noncomputable def Zc8 (f : AF) : EF := fun σ H => (f σ H).bind fun p => mkL p.1 p.2
theorem Zcf {f : AF} {x1} (h : PAf X es f) : PEf X (.Tuple es x1 pos) (Zgl f) := by
 refine PEi (Znt h) fun σ H Q zz => ?_
 obtain ⟨ι, σd, Hd, d, Hd', s, hr, e, q⟩ := zz
 obtain ⟨⟨x, H1⟩, e1, e⟩ := Zo e
 exact ⟨ι, σd, Hd, x, H1, s, hr, e1, fun vs H' ι' l h r => Zf9 h r e fun v2 H2 ι2 l2 h2 r2 => q v2 H2 ι2 (l.trans l2) h2 r2⟩
theorem Za1 {f : AF} (h : PAf X es f) : PEf X (.List es pos) (Zc8 f) := by
 refine PEi (Ztl h) fun σ H Q zz => ?_
 obtain ⟨ι, σd, Hd, d, Hd', s, hr, e, q⟩ := zz
 obtain ⟨⟨x, H1⟩, e1, e⟩ := Zo e
 exact ⟨ι, σd, Hd, x, H1, s, hr, e1, fun vs H' ι' l h r => Zfm h r e fun v2 H2 ι2 l2 h2 r2 => q v2 H2 ι2 (l.trans l2) h2 r2⟩
noncomputable def eCB (g : FF) (f : AF) : EF := fun σ H => (f σ H).bind fun p => g p.1 p.2
theorem Zxg {f : AF} {g : FF} {σ : L2.St} {H : Hp} {Q : VK} {K : PySem.W.Frag} (h : rdE K (eCB g f) σ H Q) : tCB (rdC K g) (rdA K f) σ H Q := by
 obtain ⟨ι, σd, Hd, d, Hd', s, hr, e, q⟩ := h
 obtain ⟨⟨x, H1⟩, e1, e⟩ := Zo e
 exact ⟨ι, σd, Hd, x, H1, s, hr, e1, fun vs H' ι' l h r => ⟨ι', x, H1, d, Hd', h, r, e, fun v2 H2 ι2 l2 h2 r2 => q v2 H2 ι2 (l.trans l2) h2 r2⟩⟩
theorem Zaq {x : Str} {id : String} {g : FF} {f : AF} {p : Pos} (hc : Zgr X (.builtin id) g) (hg : Gl X x) (hm : X.mg x = none) (hv : bootBuiltins x = some (.builtin id)) (ha : PAf X (e :: es) f) (hn : x ≠ "__name__" := by decide) (hdb : (x == ("__debug__" : Str)) = false := by decide)
  (he : starEach (e :: es) X.env = (false, eval e X.env) :: starEach es X.env := by exact Zbe rfl) (hpl : (backTo pos (starEach es X.env)).any (·.1) = false := by exact Zc2 rfl) : PEf X (.Call (.Name x p) (e :: es) [] pos) (eCB g f) :=
 PEi (Zi5 hc hg hm hv ha hn hdb he hpl) fun _ _ _ h => Zxg h
theorem Za4 {x : Str} {T : String} {g : FF} {f : AF} {p : Pos} (hc : Zgr X (.type T) g) (hg : Gl X x) (hm : X.mg x = none) (hv : bootBuiltins x = some (.type T)) (ha : PAf X (e :: es) f) (hn : x ≠ "__name__" := by decide) (hdb : (x == ("__debug__" : Str)) = false := by decide)
  (he : starEach (e :: es) X.env = (false, eval e X.env) :: starEach es X.env := by exact Zbe rfl) (hpl : (backTo pos (starEach es X.env)).any (·.1) = false := by exact Zc2 rfl) : PEf X (.Call (.Name x p) (e :: es) [] pos) (eCB g f) :=
 PEi (Zop hc hg hm hv ha hn hdb he hpl) fun _ _ _ h => Zxg h
noncomputable def spF (K : PySem.W.Frag) (n : Nat) (F : FF) : Sp := fun vs H Q _ => ∃ ι ds Hd d Hd', ds.length = n ∧ HRep K H ι Hd ∧ Paired (Rep K H ι) ds vs ∧ F ds Hd = some (d, Hd') ∧ QE K H ι d Hd' Q
noncomputable def Za2 (n : Nat) (F : FF) (f : AF) : EF := fun σ H => (f σ H).bind fun p => if p.1.length = n then F p.1 p.2 else none
theorem Zr1 {k n : Nat} {f : Addr} {fd : FuncData} {ps : List Str} {x : Str} {p : Pos} {F : FF} {fa : AF} (G : FnOk X.prog X.w X.K X.mg X.base CX0 k f fd ps (spF X.K n F)) (hr : Room k X.A) (hg : Gl X x) (hm : X.mg x = some (.ref f)) (hk : PySem.W.keepIn X.K (.ref f) = true)
  (hb : Zfs X.K fd ps []) (ha : PAf X (e :: es) fa) (hdb : (x == ("__debug__" : Str)) = false := by decide) (he : starEach (e :: es) X.env = (false, eval e X.env) :: starEach es X.env := by exact Zbe rfl) (hpl : (backTo pos (starEach es X.env)).any (·.1) = false := by exact Zc2 rfl) :
  PEf X (.Call (.Name x p) (e :: es) [] pos) (Za2 n F fa) := by
 refine PEi (Zun (E := E0) G hr hg hm hk hb .nil pass0 ha hdb he hpl) fun σ H Q zz => ?_
 obtain ⟨ι, σd, Hd, d, Hd', s, hr, e, q⟩ := zz
 obtain ⟨⟨x, H1⟩, e1, e⟩ := Zo e
 refine ⟨ι, σd, Hd, x, H1, s, hr, e1, fun vs H' ι' l h r => ?_⟩
 dsimp only at e
 split at e
 ·rename_i hl
  exact ⟨ι', x, H1, d, Hd', hl, h, by simpa using r, e, fun v2 H2 ι2 l2 h2 r2 => q v2 H2 ι2 (l.trans l2) h2 r2⟩
 ·cases e
noncomputable def Zh5 : D -> HD -> Bool
 | .ref n, H => match H[n]? with
  | some (.lst _) => true
  | _ => false
 | _, _ => false
theorem Zsl {K : PySem.W.Frag} {H : Hp} {ι : List Addr} {Hd : HD} {d : D} {v : V} (hr : HRep K H ι Hd) (r : Rep K H ι d v) (e : Zh5 d Hd = true) : tyV K "list" v H := by
 cases d with
 | ref n =>
  obtain ⟨ad, rfl, h⟩ := Zbq.mp r
  simp only [Zh5] at e
  split at e
  ·rename_i xs ho
   obtain ⟨vs, h1, p⟩ := hr.obj n ad _ h ho
   exact .inl ⟨rfl, vs, SqL.of h1⟩
  ·cases e
 | _ => simp [Zh5] at e
noncomputable def eLM (g : D -> List D -> HD -> Option (D × HD)) (fo : EF) (f : AF) : EF := fun σ H => (fo σ H).bind fun o => if Zh5 o.1 o.2 = true then (f σ o.2).bind fun p => g o.1 p.1 p.2 else none
theorem Ze9 {o : Expr} {name : Str} {apos cpos : Pos} {id : String} {g : D → List D → HD → Option (D × HD)} {fo : EF} {f : AF} (slot : Slot "list" name id) (hty : typeOf (.builtin id) = pure (.type "method_descriptor")) (hm : MtF X id g) (ho : PEf X o fo) (ha : PAf X (e :: es) f)
  (hbase : attributeBase o name X.env (eval o X.env) = eval o X.env := by rfl)
  (hfew : ((backTo cpos (starEach (e :: es) X.env)).all (fun x => !x.1) && (backToKw cpos (keywordEach [] X.env)).all (fun x => x.1.isSome)
   && decide ((e :: es).length + ([] : List Keyword).length + (if ([] : List Keyword).isEmpty then 0 else 1) < 30)) = true := by exact Zl0 rfl (by decide))
  (hline : (apos.endLine == cpos.line) = true := by rfl) (hs : starEach (e :: es) X.env = (false, eval e X.env) :: starEach es X.env := by exact Zbe rfl) (hplain : (backTo cpos (starEach es X.env)).any (·.1) = false := by exact Zc2 rfl) :
  PEf X (.Call (.Attribute o name apos) (e :: es) [] cpos) (eLM g fo f) := by
 refine PEi (Zzq PySem.F.plainAttrs_list slot hty hm ho ha hbase hfew hline hs hplain) fun σ H Q zz => ?_
 obtain ⟨ι, σd, Hd, d, Hd', s, hr, e, q⟩ := zz
 obtain ⟨⟨x, H1⟩, e1, e⟩ := Zo e
 dsimp only at e
 split at e
 ·rename_i hl
  obtain ⟨⟨y, H2⟩, e2, e⟩ := Zo e
  exact ⟨ι, σd, Hd, x, H1, s, hr, e1, fun v1 H1' ι1 l1 h1 r1 => ⟨Zsl h1 r1 hl, ι1, σd, H1, y, H2, s.mono l1, h1, e2, fun vs H2' ι2 l2 h2 r2 =>
   ⟨ι2, x, y, H2, d, Hd', h2, r1.mono l2, r2, e, fun v H' ι' l h r => q v H' ι' ((l1.trans l2).trans l) h r⟩⟩⟩
 ·cases e
noncomputable def Zav : SF := fun σ H => some (.nx, σ, H)
noncomputable def Zam (f g : SF) : SF := fun σ H => (f σ H).bind fun r => match r.1 with
 | .nx => g r.2.1 r.2.2
 | _ => some r
theorem Zaf : Zmp X [] Zav := by
 refine Zwh Zp6 fun E σ H zz => ?_
 obtain ⟨ι, σd, Hd, fl, σd', Hd', s, hr, e, q⟩ := zz
 cases e
 exact q σ H ι Le.refl hr s
theorem Zab {f g : SF} (h1 : PSf X st f) (h2 : Zmp X sts g) : Zmp X (st :: sts) (Zam f g) := by
 refine Zwh (Zfu h1 h2) fun E σ H zz => ?_
 obtain ⟨ι, σd, Hd, fl, σd', Hd', s, hr, e, q⟩ := zz
 obtain ⟨⟨f1, σ1, H1⟩, e1, e⟩ := Zo e
 refine ⟨ι, σd, Hd, f1, σ1, H1, s, hr, e1, fun σ' H' ι' l h ss => ?_⟩
 cases f1 with
 | nx => exact ⟨ι', σ1, H1, fl, σd', Hd', ss, h, e, fun σ2 H2 ι2 l2 h2 s2 => q σ2 H2 ι2 (l.trans l2) h2 s2⟩
 | bk => cases e; exact q σ' H' ι' l h ss
 | ct => cases e; exact q σ' H' ι' l h ss
 | rt d => cases e; exact q σ' H' ι' l h ss
noncomputable def Zcl (f : EF) : SF := fun σ H => (f σ H).map fun p => (.rt p.1, σ, p.2)
theorem Zas {f : EF} (he : PEf X e f) : PSf X (.Return (some e) pos) (Zcl f) := by
 refine PSi (Zz6 he) fun E σ H zz => ?_
 obtain ⟨ι, σd, Hd, fl, σd', Hd', s, hr, e, q⟩ := zz
 obtain ⟨⟨x, H1⟩, e1, e⟩ := Zm e
 cases e
 exact ⟨ι, σd, Hd, x, H1, s, hr, e1, fun v H' ι' l h r => q σ H' ι' l h (s.mono l) v r⟩
noncomputable def sRetN : SF := fun σ H => some (.rt .non, σ, H)
noncomputable def sBrk : SF := fun σ H => some (.bk, σ, H)
noncomputable def sCnt : SF := fun σ H => some (.ct, σ, H)
noncomputable def Zcv (f : EF) : SF := fun σ H => (f σ H).map fun p => (.nx, σ, p.2)
theorem Zcm {f : EF} (he : PEf X e f) (hs : swapsWith e none pos.line X.env = pure false := by rfl) : PSf X (.Expr e pos) (Zcv f) := by
 refine PSi (Zov he hs) fun E σ H zz => ?_
 obtain ⟨ι, σd, Hd, fl, σd', Hd', s, hr, e, q⟩ := zz
 obtain ⟨⟨x, H1⟩, e1, e⟩ := Zm e
 cases e
 exact ⟨ι, σd, Hd, x, H1, s, hr, e1, fun v H' ι' l h r => q σ H' ι' l h (s.mono l)⟩
noncomputable def sIf (t : TF) (f g : SF) : SF := fun σ H => (t σ H).bind fun p => if p.1 = true then f σ p.2 else g σ p.2
theorem Za6 {t : TF} {f g : SF} {as bs : List Stmt} (hc : PTf X c t) (ha : Zmp X as f) (hb : Zmp X bs g) : PSf X (.If c as bs pos) (sIf t f g) := by
 refine PSi (Zyk hc ha hb) fun E σ H zz => ?_
 obtain ⟨ι, σd, Hd, fl, σd', Hd', s, hr, e, q⟩ := zz
 obtain ⟨⟨x, H1⟩, e1, e⟩ := Zo e
 refine ⟨ι, σd, Hd, x, H1, s, hr, e1, fun H' ι' l h => ?_⟩
 cases x with
 | true =>
  rw [if_pos rfl]
  exact ⟨ι', σd, H1, fl, σd', Hd', s.mono l, h, by simpa using e, fun σ2 H2 ι2 l2 h2 s2 => q σ2 H2 ι2 (l.trans l2) h2 s2⟩
 | false =>
  rw [if_neg (by simp)]
  exact ⟨ι', σd, H1, fl, σd', Hd', s.mono l, h, by simpa using e, fun σ2 H2 ι2 l2 h2 s2 => q σ2 H2 ι2 (l.trans l2) h2 s2⟩
noncomputable def Zba (i : Nat) (f : EF) : SF := fun σ H => (f σ H).map fun p => (.nx, σ.set i (some p.1), p.2)
theorem Zak {i : Nat} {x : Str} {f : EF} {pos' : Pos} (hN : X.N.Nodup) (hi : X.N[i]? = some x) (hx : Loc X.env.scope x) (he : PEf X e f) (hs : swapsWith e (some (.Name x pos')) pos.line X.env = pure false := by rfl) (hf : X.fn x = true ∨ X.env.scope.names.lookup x = some .local := by first | exact .inl rfl | exact .inr rfl | assumption) :
  PSf X (.Assign [.Name x pos'] e pos) (Zba i f) := by
 refine PSi (Ztn hN hi hx he hs hf) fun E σ H zz => ?_
 obtain ⟨ι, σd, Hd, fl, σd', Hd', s, hr, e, q⟩ := zz
 obtain ⟨⟨x, H1⟩, e1, e⟩ := Zm e
 cases e
 exact ⟨ι, σd, Hd, x, H1, s, hr, e1, fun v H' ι' l h r => q _ H' ι' l h ((s.mono l).set r i)⟩
noncomputable def gNm (i : Nat) : GF := fun d σ H => some (σ.set i (some d), H)
theorem Zbh {i : Nat} {x : Str} (hN : X.N.Nodup) (hi : X.N[i]? = some x) (hx : Loc X.env.scope x) (hf : X.fn x = true ∨ X.env.scope.names.lookup x = some .local := by first | exact .inl rfl | exact .inr rfl | assumption) : PGf X (.Name x pos) (gNm i) := by
 refine PGi (Zoo hN hi hx hf) fun v σ H Q zz => ?_
 obtain ⟨ι, σd, Hd, d, σd', Hd', s, hr, r, e, q⟩ := zz
 cases e
 exact q _ H ι Le.refl hr (s.set r i)
noncomputable abbrev Zwl := D -> D -> D -> HD -> Option HD
noncomputable def rdSet (K : PySem.W.Frag) (g : Zwl) : TSet := fun o i v H Q => ∃ ι od id vd Hd Hd', HRep K H ι Hd ∧ Rep K H ι od o ∧ Rep K H ι id i ∧ Rep K H ι vd v ∧ g od id vd Hd = some Hd' ∧ ∀ H' ι', Le K H ι H' ι' -> HRep K H' ι' Hd' -> Q H'
noncomputable def Zyf (X : Cx) (g : Zwl) : Prop := PSet X (rdSet X.K g)
noncomputable def gSb (fo fi : EF) (g : Zwl) : GF := fun d σ H => (fo σ H).bind fun o => (fi σ o.2).bind fun i => (g o.1 i.1 d i.2).map fun H' => (σ, H')
theorem Zvt {o i : Expr} {fo fi : EF} {g : Zwl} (ho : PEf X o fo) (hi : PEf X i fi) (hs : Zyf X g)
  (ha : ∀ v, assign (.Subscript o i pos) X.env v = (do
   let ov ← holding [v] (eval o X.env)
   let iv ← holding [v, ov] (eval i X.env)
   standAt pos
   holding [v, ov, iv] (setItem ov iv v)
   release [v, ov, iv] []) := by intro _; rfl) : PGf X (.Subscript o i pos) (gSb fo fi g) := by
 refine PGi (Zy4 ho hi hs ha) fun v σ H Q zz => ?_
 obtain ⟨ι, σd, Hd, d, σd', Hd', s, hr, r, e, q⟩ := zz
 obtain ⟨⟨x, H1⟩, e1, e⟩ := Zo e
 obtain ⟨⟨y, H2⟩, e2, e⟩ := Zo e
 obtain ⟨H3, e3, e⟩ := Zm e
 obtain ⟨rfl, rfl⟩ := Prod.mk.inj e
 exact ⟨ι, σd, Hd, x, H1, s, hr, e1, fun v1 H1' ι1 l1 h1 r1 => ⟨ι1, σd, H1, y, H2, s.mono l1, h1, e2, fun v2 H2' ι2 l2 h2 r2 =>
  ⟨ι2, x, y, d, H2, H3, h2, r1.mono l2, r2, r.mono (l1.trans l2), e3, fun H' ι' l h => q σ H' ι' ((l1.trans l2).trans l) h (s.mono ((l1.trans l2).trans l))⟩⟩⟩
noncomputable abbrev GFs := List D -> SD -> HD -> Option (SD × HD)
noncomputable def rdGs (K : PySem.W.Frag) (g : GFs) : TGs := fun vs σ H Q => ∃ ι σd Hd ds σd' Hd', SRep K H ι σ σd ∧ HRep K H ι Hd ∧ Paired (Rep K H ι) ds vs ∧ g ds σd Hd = some (σd', Hd') ∧
 ∀ σ' H' ι', Le K H ι H' ι' -> HRep K H' ι' Hd' -> SRep K H' ι' σ' σd' -> Q σ' H'
noncomputable def PGsf (X : Cx) (ts : List Expr) (g : GFs) : Prop := PGs X ts (rdGs X.K g)
noncomputable def gNl : GFs := fun ds σ H => match ds with
 | [] => some (σ, H)
 | _ => none
noncomputable def gCn (g : GF) (h : GFs) : GFs := fun ds σ H => match ds with
 | d :: r => (g d σ H).bind fun p => h r p.1 p.2
 | [] => none
theorem PGsi {ts : List Expr} {t t' : TGs} (h : PGs X ts t) (i : ∀ v σ H Q, t' v σ H Q -> t v σ H Q) : PGs X ts t' := fun pins s σ H v u Q I r q => h pins s σ H v u Q I r (i v σ H Q q)
theorem Zgy : PGsf X [] gNl := by
 refine PGsi Zt5 fun vs σ H Q zz => ?_
 obtain ⟨ι, σd, Hd, ds, σd', Hd', s, hr, r, e, q⟩ := zz
 cases r with
 | nil => cases e; exact ⟨rfl, q σ H ι Le.refl hr s⟩
 | cons _ _ => cases e
theorem Zc7 {g : GF} {h : GFs} (h1 : PGf X e g) (h2 : PGsf X es h) (hs : (assignEach (e :: es) X.env).map (·.2) = assign e X.env :: (assignEach es X.env).map (·.2) := by rfl) : PGsf X (e :: es) (gCn g h) := by
 refine PGsi (Zsf h1 h2 hs) fun vs σ H Q zz => ?_
 obtain ⟨ι, σd, Hd, ds, σd', Hd', s, hr, r, e, q⟩ := zz
 cases r with
 | nil => cases e
 | cons r rr =>
  obtain ⟨⟨σ1, H1⟩, e1, e⟩ := Zo e
  exact ⟨_, _, rfl, ι, σd, Hd, _, σ1, H1, s, hr, r, e1, fun σ' H' ι' l h ss => ⟨ι', σ1, H1, _, σd', Hd', ss, h, Prd.mono l rr, e, fun σ2 H2 ι2 l2 h2 s2 => q σ2 H2 ι2 (l.trans l2) h2 s2⟩⟩
noncomputable def gTp (n : Nat) (g : GFs) : GF := fun d σ H => match d with
 | .tup ds => if ds.length = n then g ds σ H else none
 | _ => none
theorem Zi6 {k n : Nat} {g : GFs} (hc : X.calm = true) (h : PGsf X es g) (hn : (assignEach es X.env).length = n := by rfl) (hst : (assignEach es X.env).findIdx? (·.1) = none := by rfl) : PGf X (.Tuple es k pos) (gTp n g) := by
 refine PGi (Zza hc h hn hst) fun v σ H Q zz => ?_
 obtain ⟨ι, σd, Hd, d, σd', Hd', s, hr, r, e, q⟩ := zz
 cases d with
 | tup ds =>
  obtain ⟨a, vs, rfl, h1, p⟩ := Zb8.mp r
  simp only [gTp] at e
  split at e
  ·rename_i hl
   exact ⟨a, vs, rfl, h1, by rw [← Prd.len p]; exact hl, ι, σd, Hd, ds, σd', Hd', s, hr, p, e, q⟩
  ·cases e
 | _ => simp [gTp] at e
noncomputable def Zwf (f : EF) (g : GF) : SF := fun σ H => (f σ H).bind fun p => (g p.1 σ p.2).map fun q => (.nx, q.1, q.2)
theorem Zuf {tg : Expr} {f : EF} {g : GF} (he : PEf X e f) (hg : PGf X tg g) (hs : swapsWithSole [tg] e pos.line X.env = pure false := by rfl) (hw : swappedStores [tg] e X.env = pure none := by rfl)
  (h1 : (assignEach [tg] X.env).map (·.2) = [assign tg X.env] := by rfl) : PSf X (.Assign [tg] e pos) (Zwf f g) := by
 refine PSi (Zxk he hg hs hw h1) fun E σ H zz => ?_
 obtain ⟨ι, σd, Hd, fl, σd', Hd', s, hr, e, q⟩ := zz
 obtain ⟨⟨x, H1⟩, e1, e⟩ := Zo e
 obtain ⟨⟨σ2, H2⟩, e2, e⟩ := Zm e
 cases e
 exact ⟨ι, σd, Hd, x, H1, s, hr, e1, fun v H' ι' l h r => ⟨ι', σd, H1, x, σ2, H2, s.mono l, h, r, e2, fun σ3 H3 ι3 l3 h3 s3 => q σ3 H3 ι3 (l.trans l3) h3 s3⟩⟩
noncomputable abbrev Zfq := List (Nat × DO)
noncomputable def Zdb (own : Zfq) (H : HD) : Prop := ∀ p ∈ own, H[p.1]? = some p.2
noncomputable abbrev ItF := SD -> HD -> Option ((List D × Zfq) × HD)
structure ItRep (K : PySem.W.Frag) (J : It) (xs : List D) (own : Zfq) (H0 : Hp) (ι0 : List Addr) : Prop where
 go : ∀ i H ι Hd, Le K H0 ι0 H ι -> HRep K H ι Hd -> Zdb own Hd -> i < xs.length -> J.go i H
 yld : ∀ i H ι Hd d x H', Le K H0 ι0 H ι -> HRep K H ι Hd -> Zdb own Hd -> xs[i]? = some d -> J.yld i H x H' -> ∃ ι', Le K H ι H' ι' ∧ HRep K H' ι' Hd ∧ Rep K H' ι' d x
 stop : ∀ i H ι Hd, Le K H0 ι0 H ι -> HRep K H ι Hd -> Zdb own Hd -> xs.length ≤ i -> J.stop i H
noncomputable def rdI (K : PySem.W.Frag) (f : ItF) : TI := fun σ H R => ∃ ι σd Hd xs own Hd', SRep K H ι σ σd ∧ HRep K H ι Hd ∧ f σd Hd = some ((xs, own), Hd') ∧ ∀ J H' ι', Le K H ι H' ι' -> HRep K H' ι' Hd' -> ItRep K J xs own H' ι' -> R J H'
noncomputable def PIf (X : Cx) (tg iter : Expr) (f : ItF) : Prop := PI X tg iter (rdI X.K f)
theorem PIi {tg iter : Expr} {t t' : TI} (h : PI X tg iter t) (i : ∀ σ H R, t' σ H R -> t σ H R) : PI X tg iter t' := fun pins s σ H R I q => h pins s σ H R I (i σ H R q)
open Classical in
noncomputable def Zf0 (own : Zfq) (g : GF) (body : SF) : List D -> SF
 | [], σ, H => if Zdb own H then some (.nx, σ, H) else none
 | x :: r, σ, H => if Zdb own H then (g x σ H).bind fun p => (body p.1 p.2).bind fun q => match q.1 with
   | .nx => Zf0 own g body r q.2.1 q.2.2
   | .ct => Zf0 own g body r q.2.1 q.2.2
   | .bk => some (.nx, q.2.1, q.2.2)
   | .rt d => some (.rt d, q.2.1, q.2.2)
  else none
noncomputable def Zh3 (it : ItF) (g : GF) (body : SF) : SF := fun σ H => (it σ H).bind fun p => Zf0 p.1.2 g body p.1.1 σ p.2
theorem Zcw {tg iter : Expr} {body : List Stmt} {f : ItF} {g : GF} {b : SF} (hp : PassesOwn (model X.prog X.w) X.A X.env X.xe) (hc : X.calm = true) (hi : PIf X tg iter f) (hg : PGf X tg g) (hb : Zmp X body b)
  (hs : ∀ x, foldedSetIterable iter X.env x = pure x := by intro _; rfl) : PSf X (.For tg iter body [] pos) (Zh3 f g b) := by
 refine PSi (Ztb hp hc hi hg hb hs) fun E σ H zz => ?_
 obtain ⟨ι, σd, Hd, fl, σf, Hf, s, hr, e, q⟩ := zz
 obtain ⟨⟨⟨xs, own⟩, H1⟩, e1, e⟩ := Zo e
 refine ⟨ι, σd, Hd, xs, own, H1, s, hr, e1, fun J H0 ι0 l0 h0 it => ?_⟩
 refine ⟨fun i m σ H => m = xs.length - i ∧ i ≤ xs.length ∧ ∃ ι σd Hd, Le X.K H0 ι0 H ι ∧ SRep X.K H ι σ σd ∧ HRep X.K H ι Hd ∧ Zf0 own g b (xs.drop i) σd Hd = some (fl, σf, Hf),
  ⟨xs.length, by simp, Nat.zero_le _, ι0, σd, H1, Le.refl, s.mono l0, h0, by simpa using e⟩, ?_⟩
 rintro i m σ2 H2 ⟨rfl, hi, ι2, σd2, Hd2, l2, s2, h2, e2⟩
 by_cases hlt : i < xs.length
 ·have ed : xs.drop i = xs[i] :: xs.drop (i + 1) := List.drop_eq_getElem_cons hlt
  rw [ed, Zf0] at e2
  split at e2
  ·rename_i ok
   obtain ⟨⟨σ3, H3⟩, e3, e2⟩ := Zo e2
   obtain ⟨⟨f4, σ4, H4⟩, e4, e2⟩ := Zo e2
   refine .inr ⟨it.go i H2 ι2 Hd2 l2 h2 ok hlt, fun σ' H' => (xs.length - (i + 1) = xs.length - (i + 1) ∧ i + 1 ≤ xs.length ∧ ∃ ι σd Hd, Le X.K H0 ι0 H' ι ∧ SRep X.K H' ι σ' σd ∧ HRep X.K H' ι Hd ∧ Zf0 own g b (xs.drop (i + 1)) σd Hd = some (fl, σf, Hf)),
    fun σ' H' p => ⟨_, by omega, p⟩, fun x H' y => ?_⟩
   obtain ⟨ι3, l3, h3, r3⟩ := it.yld i H2 ι2 Hd2 xs[i] x H' l2 h2 ok (by simp [hlt]) y
   refine ⟨ι3, σd2, Hd2, xs[i], σ3, H3, s2.mono l3, h3, r3, e3, fun σ5 H5 ι5 l5 h5 s5 => ?_⟩
   refine ⟨ι5, σ3, H3, f4, σ4, H4, s5, h5, e4, fun σ6 H6 ι6 l6 h6 s6 => ?_⟩
   have L : Le X.K H0 ι0 H6 ι6 := ((l2.trans l3).trans l5).trans l6
   cases f4 with
   | nx => exact ⟨rfl, hlt, ι6, σ4, H4, L, s6, h6, e2⟩
   | ct => exact ⟨rfl, hlt, ι6, σ4, H4, L, s6, h6, e2⟩
   | bk => cases e2; exact q σ6 H6 ι6 (l0.trans L) h6 s6
   | rt d => cases e2; exact q σ6 H6 ι6 (l0.trans L) h6 s6
  ·cases e2
 ·have hi' : i = xs.length := by omega
  rw [List.drop_eq_nil_of_le (by omega), Zf0] at e2
  split at e2
  ·rename_i ok
   have e3 : (FD.nx, σd2, Hd2) = (fl, σf, Hf) := Option.some.inj e2
   obtain ⟨rfl, e4⟩ := Prod.mk.inj e3
   obtain ⟨rfl, rfl⟩ := Prod.mk.inj e4
   exact .inl ⟨it.stop i H2 ι2 _ l2 h2 ok (by omega), q σ2 H2 ι2 (l0.trans l2) h2 s2⟩
  ·cases e2
end
noncomputable def Zcr (n N : Nat) (b : SF) : FF := fun ds H => if ds.length = n then (b (ds.map some ++ List.replicate (N - ds.length) none) H).bind fun r => match r.1 with
  | .rt d => some (d, r.2.2)
  | .nx => some (.non, r.2.2)
  | _ => none
 else none
section
variable {P : Program} {w : World} {K : PySem.W.Frag} {mg : Str -> Option Value} {base : Heap}
theorem fn_f {x qual : Str} {st : Stmt} {f : Addr} {fd : FuncData} {N ps : List Str} {k : Nat} {b : SF} (F : Fun K x qual st f fd) (S : FnScope N ps (Zal st))
  (hb : ∀ (cdv : Value) (A : Around) (outer : List Env) (s : Shared) (H : Hp) (E : XK), Room k (A.deeper (envOfC qual (Zal st) s.heap.objs.size f cdv)) →
   Zmp (Zfn CX0 P w K mg base N qual (Zal st) f cdv A outer s H E).nox (Zcn st) b) : FnOk P w K mg base CX0 (k + 1) f fd ps (spF K ps.length (Zcr ps.length N.length b)) := by
 refine F.ok S (fun vs H Q E h => ?_) (fun cdv A outer s H vs Q E hr h => ?_)
 ·obtain ⟨ι, ds, Hd, d, Hd', hl, _, r, _⟩ := h
  rw [← Prd.len r]; exact hl
 ·obtain ⟨ι, ds, Hd, d, Hd', hl, hh, r, e, q⟩ := h
  refine ⟨_, hb cdv A outer s H E hr, ?_⟩
  unfold Zcr at e
  rw [if_pos hl] at e
  obtain ⟨⟨fl, σ1, H1⟩, e1, e⟩ := Zo e
  refine ⟨ι, _, Hd, fl, σ1, H1, ?_, hh, e1, fun σ' H' ι' l h ss => ?_⟩
  ·refine ⟨by simp [L2.start, Prd.len r], fun i d0 h0 => ?_⟩
   unfold L2.start
   by_cases hi : i < ds.length
   ·rw [List.getElem?_append_left (by simpa using hi), List.getElem?_map] at h0
    cases ed : ds[i]? with
    | none => rw [ed] at h0; cases h0
    | some d1 =>
     rw [ed] at h0
     cases h0
     obtain ⟨v, hv, rv⟩ := Prd.get r ed
     refine ⟨v, ?_, rv⟩
     rw [List.getElem?_append_left (by rw [List.length_map, ← Prd.len r]; exact hi), List.getElem?_map, hv]
     rfl
   ·rw [List.getElem?_append_right (by simpa using hi), List.getElem?_replicate] at h0
    split at h0 <;> cases h0
  ·cases fl with
   | rt d1 => cases e; exact fun v rv => q v H' ι' l h rv
   | nx => cases e; exact q .non H' ι' l h (by simp)
   | bk => cases e
   | ct => cases e
end
noncomputable def Zjt (env : Env) : List (Str × NameKind) -> List (Str × Addr) -> List (Str × Addr)
 | [], cs => cs
 | (n, k) :: r, cs => Zjt env r (if k = .free then (match env.cells.lookup n with | some a => (n, a) :: cs | none => cs) else cs)
theorem Zic (env : Env) (scope : Scope) (h : ∀ y ∈ scope.names, y.2 = .free -> (env.cells.lookup y.1).isSome = true) : closureFor scope env = pure (Zjt env scope.names []) := by
 have key : ∀ (ns : List (Str × NameKind)) (cs : List (Str × Addr)), (∀ y ∈ ns, y.2 = .free -> (env.cells.lookup y.1).isSome = true) →
   (forIn ns cs fun (x : Str × NameKind) cs => match x with
    | (name, kind) => if (kind == .free) = true then (do let a ← cellOf env name; pure (ForInStep.yield ((name, a) :: cs))) else pure (ForInStep.yield cs) : Sem (List (Str × Addr))) = pure (Zjt env ns cs) := by
  intro ns
  induction ns with
  | nil => intro cs _; rfl
  | cons x r ih =>
   intro cs hh
   obtain ⟨n, k⟩ := x
   have hr := ih
   rw [List.forIn_cons]
   by_cases hk : k = .free
   ·subst hk
    have q := hh (n, .free) (by simp) rfl
    cases e : env.cells.lookup n with
    | none => rw [e] at q; cases q
    | some a =>
     have e2 : cellOf env n = pure a := by unfold cellOf; rw [e]
     simp only [beq_self_eq_true, if_true, e2, pure_bind, Zjt, e]
     exact ih _ fun y hy => hh y (List.mem_cons_of_mem _ hy)
   ·have hb : (k == NameKind.free) = false := by simpa using hk
    simp only [hb, Bool.false_eq_true, if_false, pure_bind, Zjt, hk]
    exact ih _ fun y hy => hh y (List.mem_cons_of_mem _ hy)
 have e : closureFor scope env = ((forIn scope.names [] fun (x : Str × NameKind) cs => match x with
    | (name, kind) => if (kind == .free) = true then (do let a ← cellOf env name; pure (ForInStep.yield ((name, a) :: cs))) else pure (ForInStep.yield cs) : Sem (List (Str × Addr))) >>= pure) := rfl
 rw [e, bind_pure]
 exact key scope.names [] h
theorem Zit (env : Env) : ∀ (ns : List (Str × NameKind)) (cs : List (Str × Addr)), (∀ x c, cs.lookup x = some c -> env.cells.lookup x = some c) -> ∀ x c, (Zjt env ns cs).lookup x = some c -> env.cells.lookup x = some c
 | [], cs, h => h
 | (n, k) :: r, cs, h => by
  unfold Zjt
  refine Zit env r _ ?_
  split
  ·cases e : env.cells.lookup n with
   | none => exact h
   | some a =>
    intro x c q
    dsimp only at q
    rw [List.lookup_cons] at q
    split at q
    ·rename_i hb
     have hb' : x = n := by simpa using hb
     subst hb'; cases q; exact e
    ·exact h x c q
  ·exact h
theorem Zl2 (env : Env) : ∀ (ns : List (Str × NameKind)) (cs : List (Str × Addr)) (x : Str), ((cs.lookup x).isSome = true ∨ ((x, NameKind.free) ∈ ns ∧ (env.cells.lookup x).isSome = true)) -> ((Zjt env ns cs).lookup x).isSome = true
 | [], cs, x, h => by
  rcases h with h | ⟨h, _⟩
  ·exact h
  ·simp at h
 | (n, k) :: r, cs, x, h => by
  unfold Zjt
  refine Zl2 env r _ x ?_
  by_cases hk : k = .free
  ·rw [if_pos hk]
   cases e : env.cells.lookup n with
   | none =>
    rcases h with h | ⟨h, h2⟩
    ·exact .inl h
    ·rcases List.mem_cons.mp h with h | h
     ·cases h; rw [e] at h2; cases h2
     ·exact .inr ⟨h, h2⟩
   | some a =>
    dsimp only
    rw [List.lookup_cons]
    by_cases hx : x = n
    ·subst hx; simp
    ·have : (x == n) = false := by simpa using hx
     rw [this]
     rcases h with h | ⟨h, h2⟩
     ·exact .inl h
     ·rcases List.mem_cons.mp h with h | h
      ·cases h; exact absurd rfl hx
      ·exact .inr ⟨h, h2⟩
  ·rw [if_neg hk]
   rcases h with h | ⟨h, h2⟩
   ·exact .inl h
   ·rcases List.mem_cons.mp h with h | h
    ·cases h; exact absurd rfl hk
    ·exact .inr ⟨h, h2⟩
theorem Zhb {env : Env} : ∀ {names : List (Str × NameKind)} {x : Str}, names.lookup x = some .free →
  ((names.map fun (n, k) => if (k == NameKind.free && env.scope.kind == .function && env.kindOf n == some .cell) then (n, NameKind.cell) else (n, k)).lookup x = some .cell ∨
   (names.map fun (n, k) => if (k == NameKind.free && env.scope.kind == .function && env.kindOf n == some .cell) then (n, NameKind.cell) else (n, k)).lookup x = some .free)
 | [], _, h => by simp at h
 | (n, k) :: r, x, h => by
  have ih := @Zhb env r x
  show List.lookup x ((if (k == NameKind.free && env.scope.kind == .function && env.kindOf n == some .cell) = true then (n, NameKind.cell) else (n, k)) :: _) = _ ∨ List.lookup x ((if (k == NameKind.free && env.scope.kind == .function && env.kindOf n == some .cell) = true then (n, NameKind.cell) else (n, k)) :: _) = _
  cases hx : x == n with
  | true =>
   simp only [List.lookup_cons, hx] at h
   cases h
   by_cases hc : (NameKind.free == NameKind.free && env.scope.kind == .function && env.kindOf n == some .cell) = true
   ·rw [if_pos hc]; simp only [List.lookup_cons, hx]; simp
   ·rw [if_neg hc]; simp only [List.lookup_cons, hx]; simp
  | false =>
   simp only [List.lookup_cons, hx] at h
   by_cases hc : (k == NameKind.free && env.scope.kind == .function && env.kindOf n == some .cell) = true
   ·rw [if_pos hc]; simp only [List.lookup_cons, hx]; exact ih h
   ·rw [if_neg hc]; simp only [List.lookup_cons, hx]; exact ih h
theorem Zgp {env : Env} : ∀ {names : List (Str × NameKind)} {x : Str}, (∀ y ∈ names, y.2 ≠ .cell) →
  ((names.map fun (n, k) => if (k == NameKind.free && env.scope.kind == .function && env.kindOf n == some .cell) then (n, NameKind.cell) else (n, k)).lookup x = some .cell ∨
   (names.map fun (n, k) => if (k == NameKind.free && env.scope.kind == .function && env.kindOf n == some .cell) then (n, NameKind.cell) else (n, k)).lookup x = some .free) -> (x, NameKind.free) ∈ names
 | [], _, _, h => by simp at h
 | (n, k) :: r, x, hn, h => by
  have ih := @Zgp env r x (fun y hy => hn y (List.mem_cons_of_mem _ hy))
  have h : List.lookup x ((if (k == NameKind.free && env.scope.kind == .function && env.kindOf n == some .cell) = true then (n, NameKind.cell) else (n, k)) :: _) = _ ∨ List.lookup x ((if (k == NameKind.free && env.scope.kind == .function && env.kindOf n == some .cell) = true then (n, NameKind.cell) else (n, k)) :: _) = _ := h
  cases hx : x == n with
  | true =>
   have hx' : x = n := by simpa using hx
   subst hx'
   by_cases hc : (k == NameKind.free && env.scope.kind == .function && env.kindOf x == some .cell) = true
   ·have hk : k = .free := by
     rw [Bool.and_eq_true, Bool.and_eq_true] at hc
     simpa using hc.1.1
    subst hk; simp
   ·rw [if_neg hc] at h
    simp only [List.lookup_cons, hx] at h
    rcases h with h | h
    ·cases h; exact absurd rfl (hn (x, .cell) (by simp))
    ·cases h; simp
  | false =>
   refine List.mem_cons_of_mem _ (ih ?_)
   by_cases hc : (k == NameKind.free && env.scope.kind == .function && env.kindOf n == some .cell) = true
   ·rw [if_pos hc] at h; simp only [List.lookup_cons, hx] at h; exact h
   ·rw [if_neg hc] at h; simp only [List.lookup_cons, hx] at h; exact h
noncomputable def blk (X : Cx) (scope : Scope) (N : List Str) (cl : List (Str × Addr)) (C : Addr) (s : Shared) (H : Hp) (fp : List Addr) (pn : List (Addr × Obj)) : Cx where
 prog := X.prog
 w := X.w
 K := X.K
 mg := X.mg
 base := X.base
 A := X.A
 N := N
 s₀ := s
 H₀ := H
 env := compEnvC scope cl C X.env
 outer := X.stack
 stack := X.stack
 ex := fp
 fn := fun _ => false
 calm := X.calm
 pn := pn
 xe := fun _ _ => False
structure BlkOk (X : Cx) (scope : Scope) (x : Str) (cn : List Str) (ci : List Nat) : Prop where
 kind : scope.kind = .function
 nocell : ∀ y ∈ scope.names, y.2 ≠ .cell
 names : ∀ y ∈ scope.names, y.2 = .local -> scope.names.lookup y.1 = some .local
 tgt : scope.names.lookup x = some .local
 free : ∀ y ∈ scope.names, y.2 = .free -> (X.env.cells.lookup y.1).isSome = true
 nd : (x :: cn).Nodup
 len : ci.length = cn.length
 cap : ∀ (j : Nat) (y : Str), cn[j]? = some y -> ∃ i, ci[j]? = some i ∧ X.N[i]? = some y ∧ scope.names.lookup y = some .free ∧ (X.env.kindOf y = some .cell ∨ X.env.kindOf y = some .free)
noncomputable def Zno (ci : List Nat) (σ : L2.St) : L2.St := ci.map fun i => (σ[i]?).join
section
variable {X : Cx} {pins : List (Addr × Obj)} {σ : L2.St} {H : Hp} {s : Shared} {scope : Scope} {x : Str} {cn : List Str} {ci : List Nat} {fp : List Addr}
theorem Zve {h₁ : Heap} {tk : Nat} {o₁ : Obj} (I : Inv X pins σ H s) (B : BlkOk X scope x cn ci) (hf : ∀ b ∈ fp, Zpx X pins H b) (hlt : ∀ b ∈ fp, b < s.heap.objs.size)
  (hns : h₁.Ns s.heap.objs.size (fun _ => none)) (hsb : Heap.SameBut s.heap.objs.size (s.heap.push o₁) h₁) :
  Inv (blk X scope (x :: cn) (Zjt X.env scope.names []) s.heap.objs.size s H fp (X.pn ++ pins)) [] (none :: Zno ci σ) H { s with heap := h₁, toks := tk } := by
 have old : ∀ b o, s.heap.get? b = some o -> h₁.get? b = some o := fun b o e => hsb.extBut b o (Nat.ne_of_lt (Heap.lt_size e)) (Heap.get?_push_of_some _ e)
 have sub := Zit X.env scope.names [] (by intro x c h; simp at h)
 have has : ∀ y, (y, NameKind.free) ∈ scope.names -> ∃ c, (Zjt X.env scope.names []).lookup y = some c := fun y hy =>
  Option.isSome_iff_exists.mp (Zl2 X.env scope.names [] y (.inr ⟨hy, B.free _ hy rfl⟩))
 refine ⟨⟨I.ok.mod, B.kind, I.ok.glob, I.ok.blt, Nat.le_refl _, fun y z c h1 h2 => I.ok.inj y z c (sub y c h1) (sub z c h2), fun y hy => has y (Zgp B.nocell hy), fun y c hy => absurd hy (by show ¬ (false = true); simp), I.ok.hd, I.ok.frames, .inl rfl,
   fun b hb => ⟨Nat.ne_of_lt (hlt b hb), fun y c e => (hf b hb).2.2.2.2.1 y c (sub y c e)⟩, I.bs, Nat.le_trans I.ok.bsz I.sz, fun b o e hb => ?_, fun b hb z => ?_, I.stack, I.stkFree⟩,
  rfl, I.bare, Un.kept old, ⟨_, hns, fun i y v h1 h2 h3 => ?_⟩, fun y c e => ?_, I.hok.fresh (Nat.le_refl _), fun y c e => I.freeC y c (sub y c e), fun p hp => ?_, I.hok.kept old, ?_⟩
 ·rcases (hf b hb).2.2.2.1 with z | z
  ·exact I.ok.noex b o e z
  ·exact absurd (Nat.lt_of_lt_of_le (Heap.lt_size e) (Nat.le_trans I.ok.bsz z)) (Nat.lt_irrefl _)
 ·exact (List.mem_cons.mp (I.stkSub b z)).elim (hf b hb).2.1 (hf b hb).2.2.1
 ·cases i with
  | zero => simp at h2
  | succ j =>
   have h1' : cn[j]? = some y := by simpa [blk] using h1
   have h2' : (Zno ci σ)[j]? = some (some v) := by simpa using h2
   obtain ⟨i, e1, e2, e3, e4⟩ := B.cap j y h1'
   have e5 : σ[i]? = some (some v) := by
    unfold Zno at h2'
    rw [List.getElem?_map, e1] at h2'
    simp at h2'
    cases e : σ[i]? with
    | none => rw [e] at h2'; cases h2'
    | some o => rw [e] at h2'; simp at h2'; rw [h2']
   obtain ⟨m, hn, hl⟩ := I.loc
   have hv : Vis X.env.scope y := by
    rcases e4 with e4 | e4
    ·exact .inr (.inl e4)
    ·exact .inr (.inr e4)
   obtain ⟨u, r, l⟩ := hl i y v e2 e5 hv
   refine ⟨u, r, .inr ⟨Zhb e3, ?_⟩⟩
   obtain ⟨c, ec⟩ := has y (PySem.mem_of_lookup e3)
   refine ⟨c, ec, ?_⟩
   rcases l with ⟨l, _⟩ | ⟨_, c', ec', hc⟩
   ·rcases e4 with e4 | e4 <;> rw [e4] at l <;> cases l
   ·rw [sub y c ec] at ec'
    cases ec'
    obtain ⟨ob, q1, q2⟩ := hc
    exact ⟨ob, old _ _ q1, q2⟩
 ·obtain ⟨v, ob, q1, q2⟩ := I.cell y c (sub y c e)
  exact ⟨v, ob, old _ _ q1, q2⟩
 ·have hp' : p ∈ X.pn ++ pins := by simpa [blk] using hp
  obtain ⟨q1, q2, q3, q4, q5⟩ := I.pin p hp'
  refine ⟨old _ _ q1, q2, Nat.ne_of_lt (Heap.lt_size q1), fun z => ?_, q5⟩
  exact (List.mem_cons.mp (I.stkSub p.1 z)).elim q3 q4
 ·simp [blk, Zno, B.len]
noncomputable def PTs (X : Cx) (ifs : List Expr) (t : TT) : Prop :=
 ∀ (pins : List (Addr × Obj)) (s : Shared) (σ : L2.St) (H : Hp) (Q : Bool -> Hp -> Prop), Inv X pins σ H s -> t σ H Q →
  wpAny (model X.prog X.w) X.A (forIn ifs true fun c r => if r = true then do let ok ← isTrue c X.env (eval c X.env); pure (ForInStep.yield ok) else pure (ForInStep.yield r)) (TP X pins σ Q) X.xe s
theorem Zvq : PTs X [] (fun _ H Q => Q true H) := fun _ _ _ H _ I h => wpAny_tests_nil ⟨H, I, h⟩
theorem Ztv {c : Expr} {t : TT} (h : PT X c t) : PTs X [c] t := fun pins s σ H Q I q => wpAny_tests_one (h pins s σ H Q I q)
noncomputable def LcW (J : It) (ci : List Nat) (tt : TT) (te : TE) (σ : L2.St) (Q : VK) (H1 : Hp) : Prop := ∀ p, H1 p = none -> ∃ W : Nat -> Nat -> List V -> Hp -> Prop, (∃ m, W 0 m [] (upd H1 p (.lst []))) ∧ ∀ i m ys H, W i m ys H →
 H p = some (.lst ys) ∧ ((J.stop i H ∧ Q (.ref p) H) ∨ (J.go i H ∧ ∀ v H', J.yld i H v H' -> tt (some v :: Zno ci σ) H' fun b H2 =>
  if b = true then te (some v :: Zno ci σ) H2 fun y H3 => H3 p = some (.lst ys) ∧ ys.length < sizeLine ∧ ∃ m', m' < m ∧ W (i + 1) m' (ys ++ [y]) (upd H3 p (.lst (ys ++ [y])))
  else ∃ m', m' < m ∧ W (i + 1) m' ys H2))
structure Gone (X : Cx) (pins : List (Addr × Obj)) (H : Hp) (s : Shared) (C : Addr) : Prop where
 ns : ∃ m, s.heap.Ns C m
 free : H C = none
 nl : C ≠ X.env.locals
 up : X.s₀.heap.objs.size ≤ C
 nc : ∀ x c, X.env.cells.lookup x = some c -> c ≠ C
 np : ∀ p ∈ X.pn ++ pins, p.1 ≠ C
theorem Gone.go {σ : L2.St} {h' : Heap} {C : Addr} (g : Gone X pins H s C) (I : Inv X pins σ H s) (hs : Heap.SameBut C s.heap h') : Inv X pins σ H { s with heap := h' } :=
 I.turned (t' := s.toks) (fun b o hb e => hs.extBut b o hb e) g.free g.nl (.inr g.up) g.nc g.np
theorem Zmf {elt iter : Expr} {px pos : Pos} {ifs : List Expr} {tt : TT} {te : TE} {Q : VK} {E : Value -> Shared -> Prop} {RR : Value -> Addr -> Result -> Shared -> Prop} {it : Addr} {tn : Nat -> Heap -> Prop} {J : It}
  (I : Inv X pins σ H s) (hc : X.calm = true) (B : BlkOk X scope x cn ci) (T : Turn X.prog X.w X.K (.Name x px) J fp it tn) (st : tn 0 s.heap) (hf : ∀ b ∈ fp, Zpx X pins H b)
  (ht : ∀ cl C s H fp pn, PTs (blk X scope (x :: cn) cl C s H fp pn) ifs tt) (he : ∀ cl C s H fp pn, PE (blk X scope (x :: cn) cl C s H fp pn) elt te)
  (hw : LcW J ci tt te σ Q H) (hRR : ∀ p C H' s', Inv X pins σ H' s' -> Gone X pins H' s' C -> Q (.ref p) H' -> RR (.ref p) C (.ok .next) s') :
  wpAny (model X.prog X.w) X.A (newList []) (fun acc s₃ => wpAny (model X.prog X.w) X.A (newFunctionEnv scope X.env.globals (Zjt X.env scope.names []) [] X.env.qual none .none (some X.env)) (fun cenv s₄ =>
   codeAny (model X.prog X.w) X.A (.compStart (.ListComp elt [⟨.Name x px, iter, ifs, 0⟩] scope pos) 0 (.ref it) acc { cenv with scope := relabel scope X.env }) (RR acc cenv.locals) s₄) E s₃) E s := by
 have hp0 : H s.heap.objs.size = none := I.hok.fresh (Nat.le_refl _)
 obtain ⟨W, ⟨m0, w0⟩, turn⟩ := hw _ hp0
 refine wpAny_newObj_type (wpAny_newFunctionEnv B.nocell (by intro y hy; simp at hy) (fun h₁ hns₁ hsb₁ => ?_) B.kind)
 dsimp only at hns₁ hsb₁ ⊢
 have I3 : Inv X pins σ (upd H s.heap.objs.size (.lst [])) { s with heap := s.heap.push { cls := .type "list", dict := none, data := .seq ([] : List Value).toArray } } :=
  I.laid (t' := s.toks) (fun b u e => Heap.get?_push_of_some _ e) (Nat.le_refl _) ⟨Nat.zero_le _, [], 0, .nil, Heap.get?_push_size _ rfl⟩
 generalize hH3 : s.heap.push { cls := .type "list", dict := none, data := .seq ([] : List Value).toArray } = hp3 at hns₁ hsb₁ I3 ⊢
 have flt : ∀ b ∈ fp, b < s.heap.objs.size := fun b hb => by
  obtain ⟨o, e, _⟩ := T.obj 0 _ st b hb
  exact Heap.lt_size e
 have sz3 : hp3.objs.size = s.heap.objs.size + 1 := by rw [← hH3, Heap.size_push]
 have f3 : ∀ b ∈ fp, Zpx X pins (upd H s.heap.objs.size (.lst [])) b := fun b hb => ⟨by rw [Zaw (Nat.ne_of_lt (flt b hb))]; exact (hf b hb).1, (hf b hb).2⟩
 have old3 : ∀ b o, s.heap.get? b = some o -> hp3.get? b = some o := fun b o e => by rw [← hH3]; exact Heap.get?_push_of_some _ e
 have I4 := Zve (s := { s with heap := hp3 }) (tk := s.toks + ([] : List (Str × Value)).length) I3 B f3 (fun b hb => by show b < hp3.objs.size; rw [sz3]; exact Nat.lt_succ_of_lt (flt b hb)) (by simpa using hns₁) hsb₁
 have old4 : ∀ b o, hp3.get? b = some o -> h₁.get? b = some o := fun b o e => hsb₁.extBut b o (Nat.ne_of_lt (Heap.lt_size e)) (Heap.get?_push_of_some _ e)
 generalize hX' : blk X scope (x :: cn) (Zjt X.env scope.names []) hp3.objs.size { s with heap := hp3 } (upd H s.heap.objs.size (.lst [])) fp (X.pn ++ pins) = X' at I4
 have ePr : X'.prog = X.prog := by rw [← hX']; rfl
 have eW : X'.w = X.w := by rw [← hX']; rfl
 have eK : X'.K = X.K := by rw [← hX']; rfl
 have eA : X'.A = X.A := by rw [← hX']; rfl
 have eEnv : X'.env = compEnvC scope (Zjt X.env scope.names []) hp3.objs.size X.env := by rw [← hX']; rfl
 have eEx : X'.ex = fp := by rw [← hX']; rfl
 have ht' : PTs X' ifs tt := by rw [← hX']; exact ht _ _ _ _ _ _
 have he' : PE X' elt te := by rw [← hX']; exact he _ _ _ _ _ _
 have eXe : X'.xe = fun _ _ => False := by rw [← hX']; rfl
 have hg' : PG X' (.Name x px) (Zo8 0) := by
  rw [← hX']
  exact Zoo (X := blk X scope (x :: cn) _ _ _ _ _ _) B.nd rfl (.inl (lookup_relabel_local B.tgt)) (.inr (lookup_relabel_local B.tgt))
 -- the iterator's objects, seen from the block
 have stat : ∀ {H' : Hp}, (∀ b ∈ fp, H' b = none) -> ∀ b ∈ fp, Zpx X' [] H' b := fun {H'} hn b hb => by
  rw [← hX']
  refine ⟨hn b hb, (by show b ≠ hp3.objs.size; rw [sz3]; exact Nat.ne_of_lt (Nat.lt_succ_of_lt (flt b hb))), fun z => (List.mem_cons.mp (I3.stkSub b z)).elim (hf b hb).2.1 (hf b hb).2.2.1, .inl hb, fun y c e => ?_, fun p hp => ?_⟩
  ·exact (hf b hb).2.2.2.2.1 y c (Zit X.env scope.names [] (by intro x c h; simp at h) y c e)
  ·exact (hf b hb).2.2.2.2.2 p (by simpa [blk] using hp)
 have back : ∀ {σ' : L2.St} {H' : Hp} {s' : Shared}, Inv X' [] σ' H' s' -> Inv X pins σ H' s' ∧ Gone X pins H' s' hp3.objs.size := fun {σ' H' s'} I5 => by
  have u : Un (frs X.stack) fp (upd H s.heap.objs.size (.lst [])) H' hp3 s'.heap := by
   have := I5.base
   rw [← hX'] at this
   exact this
  have hok : HOk X.prog X.w H' s'.heap := by have := I5.hok; rw [ePr, eW] at this; exact this
  have ho : s'.os = s.os := by have := I5.os; rw [← hX'] at this; exact this
  refine ⟨I3.call' ho u hok I5.bare fun b hb => ⟨(hf b hb).2.2.2.1, (hf b hb).2.1, (hf b hb).2.2.2.2.1, (hf b hb).2.2.2.2.2⟩, ?_, ?_, ?_, ?_, fun y c e z => ?_, fun p hp z => ?_⟩
  ·obtain ⟨m, hn, _⟩ := I5.loc
   rw [eEnv] at hn
   exact ⟨m, hn⟩
  ·have := I5.free
   rw [eEnv] at this
   exact this
  ·exact Nat.ne_of_gt (I3.lt)
  ·exact I3.sz
  ·obtain ⟨v, q⟩ := I3.cell y c e
   exact absurd (Nat.lt_of_lt_of_le q.lt (by rw [z]; exact Nat.le_refl _)) (Nat.lt_irrefl _)
  ·have := Heap.lt_size (I3.pin p hp).1
   rw [z] at this
   exact Nat.lt_irrefl _ this
 have loop : codeAny (model X.prog X.w) X.A (.compLoop (.ListComp elt [⟨.Name x px, iter, ifs, 0⟩] scope pos) 0 (.ref it) (.ref s.heap.objs.size) (compEnvC scope (Zjt X.env scope.names []) hp3.objs.size X.env))
   (RR (.ref s.heap.objs.size) hp3.objs.size) { s with heap := h₁, toks := s.toks + ([] : List (Str × Value)).length } := by
  refine codeAny_loop rfl (fun n s' => ∃ i o ys H', Inv X' [] (o :: Zno ci σ) H' s' ∧ tn i s'.heap ∧ (∀ b ∈ fp, H' b = none) ∧ W i n ys H') (fun n s' hI => ?_) m0
   ⟨0, none, [], _, I4, T.keep _ _ _ st (fun b hb o e => old4 b o (old3 b o e)), fun b hb => (f3 b hb).1, w0⟩
  obtain ⟨i, o, ys, H', I5, st5, fr5, w5⟩ := hI
  show wpAny _ X.A ((compTurn (.ListComp elt [⟨.Name x px, iter, ifs, 0⟩] scope pos) 0 (.ref it) (.ref s.heap.objs.size) (compEnvC scope (Zjt X.env scope.names []) hp3.objs.size X.env)).onRaise (fun x => do noteFrame x (compEnvC scope (Zjt X.env scope.names []) hp3.objs.size X.env); theTreesLotGoes x)) _ _ s'
  refine wpAny_noted ?_
  rw [compTurn_list, ← eEnv, ← ePr, ← eW, ← eA]
  refine wpAny_mono (E := fun _ _ => False) ?_ (fun _ _ q => q) (fun _ _ z => z.elim)
  obtain ⟨hpl, wt⟩ := turn i n ys H' w5
  refine wpAny_bind (wpAny_standAt (wpAny_bind ?_))
  rcases wt with ⟨stop, q⟩ | ⟨go, step⟩
  ·have z := T.done X' ePr eW eK (by rw [← hX']; exact hc) i [] s' _ H' (fun _ _ => False) I5 (stat fr5) st5 stop
   rw [← ePr, ← eW] at z
   refine thn z fun r s6 zz => ?_
   obtain ⟨hr, I6⟩ := zz
   subst hr
   obtain ⟨J1, g1⟩ := back I6
   exact wpAny_pure (hRR _ _ H' s6 J1 g1 q)
  ·have z := T.item X' ePr eW eK (by rw [← hX']; exact hc) i [] s' _ H' (fun _ _ => False) I5 (stat fr5) st5 go
   rw [← ePr, ← eW] at z
   refine thn z fun r s6 zz => ?_
   obtain ⟨u, hr, h6⟩ := zz
   subst hr
   refine wpAny_bind (thn h6 fun _ s7 zz => ?_)
   obtain ⟨v, H7, I7, r7, y7, st7, fr7⟩ := zz
   have I7' := I7.pinned (stat fr7) (T.obj _ _ st7)
   rw [← eXe]
   refine wpAny_bind (thn (hg' _ s7 _ H7 v u _ I7' r7 (show Zo8 0 v (o :: Zno ci σ) H7 (fun σ8 H8 => σ8 = some v :: Zno ci σ ∧ H8 = H7) from ⟨rfl, rfl⟩)) fun _ s8 zz => ?_)
   obtain ⟨σ8, H8, I8, e8, e8'⟩ := zz
   subst e8 e8'
   refine wpAny_bind (thn (ht' _ s8 _ _ _ I8 (step v _ y7)) fun b s9 zz => ?_)
   obtain ⟨H9, I9, q9⟩ := zz
   have tnK : ∀ {σ' : L2.St} {H' : Hp} {s' : Shared}, Inv X' (([] : List (Addr × Obj)) ++ Zjk fp s7.heap) σ' H' s' -> tn (i + 1) s'.heap ∧ ∀ b ∈ fp, H' b = none := fun {σ' H' s'} I' =>
    ⟨T.keep _ _ _ st7 fun b hb o e => (I'.pin (b, o) (List.mem_append_right _ (List.mem_append_right _ (Ze4 hb e)))).1, fun b hb => by
     obtain ⟨ob, e, d⟩ := T.obj _ _ st7 b hb
     exact (I'.pin (b, ob) (List.mem_append_right _ (List.mem_append_right _ (Ze4 hb e)))).2.1⟩
   cases b with
   | false =>
    obtain ⟨m', hm, w9⟩ := q9
    obtain ⟨t9, f9⟩ := tnK I9
    exact wpAny_pure ⟨rfl, m', hm, i + 1, _, ys, H9, I9.unpinned, t9, f9, w9⟩
   | true =>
    refine wpAny_bind (wpAny_bind (thn (he' _ s9 _ _ _ I9 q9) fun yv s10 zz => ?_))
    obtain ⟨y, H10, I10, r10, hp10, hz10, m', hm, w10⟩ := zz
    refine wpAny_bind (thn (Zkq (X := X') _ s10 _ H10 (.ref s.heap.objs.size) [y] (.ref s.heap.objs.size) [yv] (fun _ H11 => H11 = upd H10 s.heap.objs.size (.lst (ys ++ [y]))) I10 rfl (.cons r10 .nil) ⟨_, ys, y, rfl, rfl, hp10, hz10, rfl⟩) fun _ s11 zz => ?_)
    obtain ⟨_, H11, I11, _, e11⟩ := zz
    subst e11
    obtain ⟨t11, f11⟩ := tnK I11
    exact wpAny_pure (wpAny_pure ⟨rfl, m', hm, i + 1, _, ys ++ [y], _, I11.unpinned, t11, f11, w10⟩)
 exact codeAny_compStart_list loop (T.self _ 0 _ _ _ (T.keep _ _ _ st (fun b hb o e => old4 b o (old3 b o e))) loop)
noncomputable def tLC (wi : TI) (ci : List Nat) (tt : TT) (te : TE) : TE := fun σ H Q => wi σ H fun J H1 => LcW J ci tt te σ Q H1
theorem pe_lc {elt iter : Expr} {px pos : Pos} {ifs : List Expr} {wi : TI} {tt : TT} {te : TE} (hc : X.calm = true) (B : BlkOk X scope x cn ci) (hi : PI X (.Name x px) iter wi)
  (ht : ∀ cl C s H fp pn, PTs (blk X scope (x :: cn) cl C s H fp pn) ifs tt) (he : ∀ cl C s H fp pn, PE (blk X scope (x :: cn) cl C s H fp pn) elt te)
  (hs : ∀ x, foldedSetIterable iter X.env x = pure x := by rintro _; rfl) : PE X (.ListComp elt [⟨.Name x px, iter, ifs, 0⟩] scope pos) (tLC wi ci tt te) := by
 intro pins s σ H Q I h
 rw [eval_ListComp]
 refine wpAny_comprehension_free (use := none) rfl hs (Zic X.env scope B.free) B.kind B.names ?_
 refine thn (hi pins s σ H _ I h) fun v s1 h1 => thn h1 fun itv s2 h2 => ?_
 obtain ⟨it, fp, tn, J, H2, e, I2, T, st2, f2, w2⟩ := h2
 subst e
 refine Zmf (RR := fun acc C => compPost (model X.prog X.w) X.A X.xe none (EP X pins σ Q) acc C) I2 hc B T st2 f2 ht he w2 fun p C H' s' I' g q => ?_
 obtain ⟨m, hn⟩ := g.ns
 exact ⟨m, hn, fun h' hs' => ⟨.ref p, H', g.go I' hs', rfl, q⟩⟩
theorem Zsc {elt iter : Expr} {px py pos spos : Pos} {ifs : List Expr} {wi : TI} {tt : TT} {te : TE} {i : Nat} {y : Str} (hc : X.calm = true) (B : BlkOk X scope x cn ci) (hi : PI X (.Name x px) iter wi)
  (ht : ∀ cl C s H fp pn, PTs (blk X scope (x :: cn) cl C s H fp pn) ifs tt) (he : ∀ cl C s H fp pn, PE (blk X scope (x :: cn) cl C s H fp pn) elt te)
  (hN : X.N.Nodup) (hiN : X.N[i]? = some y) (hy : X.env.scope.names.lookup y = some .local)
  (hsw : swapsWith (.ListComp elt [⟨.Name x px, iter, ifs, 0⟩] scope pos) (some (.Name y py)) spos.line X.env = pure true := by rfl)
  (hs : ∀ x, foldedSetIterable iter X.env x = pure x := by rintro _; rfl) : PS X (.Assign [.Name y py] (.ListComp elt [⟨.Name x px, iter, ifs, 0⟩] scope pos) spos) (tAsg (tLC wi ci tt te) (Zo8 i)) := by
 intro pins s σ H E I h
 rw [exec_Assign_Name_used _ _ _ _ hsw]
 refine wpAny_bind (wpAny_standAt (wpAny_bind ?_))
 show wpAny _ X.A (do let _ ← comprehension (.ListComp elt [⟨.Name x px, iter, ifs, 0⟩] scope pos) scope X.env _ (newList []) false (eval iter X.env) (some (assign (.Name y py) X.env))) _ _ s
 refine wpAny_bind (wpAny_mono (wpAny_comprehension_free (use := some (assign (.Name y py) X.env)) (Q := fun _ s' => SP X pins E .next s') rfl hs (Zic X.env scope B.free) B.kind B.names ?_) (fun _ s' hq => wpAny_pure (wpAny_pure hq)) fun _ _ e => e)
 refine thn (hi pins s σ H _ I h) fun v s1 h1 => thn h1 fun itv s2 h2 => ?_
 obtain ⟨it, fp, tn, J, H2, e, I2, T, st2, f2, w2⟩ := h2
 subst e
 refine Zmf (RR := fun acc C => compPost (model X.prog X.w) X.A X.xe (some (assign (.Name y py) X.env)) (fun _ s' => SP X pins E .next s') acc C) I2 hc B T st2 f2 ht he w2 fun p C H' s' I' g q => ?_
 show wpAny _ X.A (assign (.Name y py) X.env (.ref p)) _ _ _
 have hk : X.env.kindOf y = some .local := hy
 refine wpAny_assign_Name (Zj3 I' hN hiN (.inl hy) (v := .ref p) (u := .ref p) rfl (fun s'' I'' ch => ?_) (.inr hy))
 obtain ⟨m, hn⟩ := g.ns
 obtain ⟨a, hsb, ha⟩ := ch
 have haC : C ≠ a := by
  rcases ha with ha | ha
  ·rw [ha]; exact g.nl
  ·exact Ne.symm (g.nc y a ha)
 have hn2 : s''.heap.Ns C m := hn.sameBut hsb haC
 exact ⟨m, hn2, fun h' hs' => ⟨_, H', Gone.go ⟨⟨m, hn2⟩, g.free, g.nl, g.up, g.nc, g.np⟩ I'' hs', q⟩⟩
end
noncomputable def Zwg (ci : List Nat) (σd : SD) : SD := ci.map fun i => (σd[i]?).join
open Classical in
noncomputable def Ze8 (own : Zfq) (c0 : SD) (tt : TF) (te : EF) : List D -> HD -> Option (List D × HD)
 | [], H => if Zdb own H then some ([], H) else none
 | x :: r, H => if Zdb own H then (tt (some x :: c0) H).bind fun t => if t.1 = true then (te (some x :: c0) t.2).bind fun e => (Ze8 own c0 tt te r e.2).map fun q => (e.1 :: q.1, q.2) else Ze8 own c0 tt te r t.2 else none
noncomputable def eLC (it : ItF) (ci : List Nat) (tt : TF) (te : EF) : EF := fun σ H => (it σ H).bind fun p => (Ze8 p.1.2 (Zwg ci σ) tt te p.1.1 p.2).bind fun q => mkL q.1 q.2
noncomputable def Zpo : TF := fun _ H => some (true, H)
noncomputable def PTsf (X : Cx) (ifs : List Expr) (t : TF) : Prop := PTs X ifs (rdT X.K t)
section
variable {X : Cx} {scope : Scope} {x : Str} {cn : List Str} {ci : List Nat}
theorem Zgu : PTsf X [] Zpo := by
 rintro pins s σ H Q I ⟨ι, σd, Hd, b, Hd', sr, hr, e, q⟩
 cases e
 exact Zvq pins s σ H Q I (q H ι Le.refl hr)
theorem Zlv {c : Expr} {t : TF} (h : PTf X c t) : PTsf X [c] t := Ztv h
theorem SRep.cap {K : PySem.W.Frag} {H : Hp} {ι : List Addr} {σ : L2.St} {σd : SD} {d : D} {v : V} (s : SRep K H ι σ σd) (r : Rep K H ι d v) : SRep K H ι (some v :: Zno ci σ) (some d :: Zwg ci σd) := by
 refine ⟨by simp [Zno, Zwg], fun i e h => ?_⟩
 cases i with
 | zero => simp at h; subst h; exact ⟨v, rfl, r⟩
 | succ j =>
  simp only [List.getElem?_cons_succ, Zno, Zwg, List.getElem?_map] at h ⊢
  cases ej : ci[j]? with
  | none => rw [ej] at h; simp at h
  | some i =>
   rw [ej] at h
   simp only [Option.map_some, Option.some.injEq] at h ⊢
   cases es : σd[i]? with
   | none => rw [es] at h; simp at h
   | some o =>
    rw [es] at h
    simp at h
    subst h
    obtain ⟨u, h1, h2⟩ := s.var i e es
    exact ⟨u, by rw [h1]; rfl, h2⟩
theorem Zy5 {K : PySem.W.Frag} {it : ItF} {tt : TF} {te : EF} {σ : L2.St} {H : Hp} {Q : VK} (h : rdE K (eLC it ci tt te) σ H Q) : tLC (rdI K it) ci (rdT K tt) (rdE K te) σ H Q := by
 obtain ⟨ι, σd, Hd, d, Hd', s, hr, e, q⟩ := h
 obtain ⟨⟨⟨xs, own⟩, H1⟩, e1, e⟩ := Zo e
 obtain ⟨⟨ds, H2⟩, e2, e⟩ := Zo e
 obtain ⟨hz, e⟩ := Zl4 e
 cases e
 dsimp only at e2 hz
 refine ⟨ι, σd, Hd, xs, own, H1, s, hr, e1, fun J H0 ι0 l0 h0 itr p hp => ?_⟩
 have s0 := s.mono l0
 refine ⟨fun i m ys H => m = xs.length - i ∧ i ≤ xs.length ∧ H p = some (.lst ys) ∧ ∃ ι Hd done rest, Le K H0 ι0 H ι ∧ p ∉ ι ∧ HRep K H ι Hd ∧ Paired (Rep K H ι) done ys ∧ Ze8 own (Zwg ci σd) tt te (xs.drop i) Hd = some (rest, H2) ∧ ds = done ++ rest,
  ⟨xs.length, by simp, Nat.zero_le _, upd_same, ι0, H1, [], ds, Le.fresh hp _, h0.fresh hp, h0.tup hp _, .nil, by simpa using e2, by simp⟩, ?_⟩
 rintro i m ys H5 ⟨rfl, hi, hpl, ι5, Hd5, done, rest, l5, np5, h5, pd5, e5, eds⟩
 refine ⟨hpl, ?_⟩
 by_cases hlt : i < xs.length
 ·have ed : xs.drop i = xs[i] :: xs.drop (i + 1) := List.drop_eq_getElem_cons hlt
  rw [ed, Ze8] at e5
  split at e5
  ·rename_i ok
   obtain ⟨⟨b6, H6⟩, e6, e5⟩ := Zo e5
   refine .inr ⟨itr.go i H5 ι5 Hd5 l5 h5 ok hlt, fun v H' y => ?_⟩
   obtain ⟨ι6, l6, h6, r6⟩ := itr.yld i H5 ι5 Hd5 xs[i] v H' l5 h5 ok (by simp [hlt]) y
   obtain ⟨hp6, np6⟩ := l6.frame p _ hpl np5
   have s6 := SRep.cap (ci := ci) (s0.mono (l5.trans l6)) r6
   refine ⟨ι6, _, Hd5, b6, H6, s6, h6, e6, fun H7 ι7 l7 h7 => ?_⟩
   obtain ⟨hp7, np7⟩ := l7.frame p _ hp6 np6
   have L7 := (l5.trans l6).trans l7
   cases b6 with
   | true =>
    rw [if_pos rfl]
    dsimp only at e5
    rw [if_pos rfl] at e5
    obtain ⟨⟨d8, H8⟩, e8, e5⟩ := Zo e5
    obtain ⟨⟨r9, H9⟩, e9, e5⟩ := Zm e5
    cases e5
    refine ⟨ι7, _, H6, d8, H8, s6.mono l7, h7, e8, fun v8 H8' ι8 l8 h8 rr8 => ?_⟩
    obtain ⟨hp8, np8⟩ := l8.frame p _ hp7 np7
    have ly : ys.length < sizeLine := by
     rw [← Prd.len pd5]
     rw [eds] at hz
     simp at hz
     omega
    have w8 : Lw K H8' ι8 (upd H8' p (.lst (ys ++ [v8]))) ι8 := Lw.side hp8 _
    refine ⟨hp8, ly, xs.length - (i + 1), by omega, rfl, hlt, upd_same, ι8, H8, done ++ [d8], r9, (L7.trans l8).side hp hp8 _, np8, h8.keep w8 (fun a ha => Zaw fun z => by subst z; exact np8 ha), ?_, e9, by rw [eds]; simp⟩
    exact Prd.append (Prd.monoW w8 (Prd.mono ((l6.trans l7).trans l8) pd5)) (.cons (Rep.monoW w8 rr8) .nil)
   | false =>
    rw [if_neg (by simp)]
    dsimp only at e5
    rw [if_neg (by simp)] at e5
    exact ⟨xs.length - (i + 1), by omega, rfl, hlt, hp7, ι7, H6, done, rest, L7, np7, h7, Prd.mono (l6.trans l7) pd5, e5, eds⟩
  ·cases e5
 ·rw [List.drop_eq_nil_of_le (by omega), Ze8] at e5
  split at e5
  ·rename_i ok
   have e6 : (([] : List D), Hd5) = (rest, H2) := Option.some.inj e5
   obtain ⟨rfl, rfl⟩ := Prod.mk.inj e6
   refine .inl ⟨itr.stop i H5 ι5 _ l5 h5 ok (by omega), ?_⟩
   have w5 : Lw K H5 ι5 H5 (ι5 ++ [p]) := ⟨fun _ _ z => z, fun _ _ z => z, ⟨[p], rfl⟩, fun _ _ _ z => z⟩
   have L := l0.trans l5
   simp at eds
   subst eds
   refine q _ H5 (ι5 ++ [p]) ⟨L.toLw.trans w5, fun a o ha na => ?_⟩ (h5.add np5 ⟨ys, hpl, Prd.monoW w5 pd5⟩) (Zbq.mpr ⟨p, rfl, by rw [← h5.len]; simp⟩)
   obtain ⟨q1, q2⟩ := L.frame a o ha na
   refine ⟨q1, ?_⟩
   have : a ≠ p := fun z => by
    subst z
    have := (l0.frame a o ha na).1
    rw [hp] at this; cases this
   simp [q2, this]
  ·cases e5
theorem Zmj {elt iter : Expr} {px pos : Pos} {ifs : List Expr} {it : ItF} {tt : TF} {te : EF} (hc : X.calm = true) (B : BlkOk X scope x cn ci) (hi : PIf X (.Name x px) iter it)
  (ht : ∀ cl C s H fp pn, PTsf (blk X scope (x :: cn) cl C s H fp pn) ifs tt) (he : ∀ cl C s H fp pn, PEf (blk X scope (x :: cn) cl C s H fp pn) elt te)
  (hs : ∀ x, foldedSetIterable iter X.env x = pure x := by rintro _; rfl) : PEf X (.ListComp elt [⟨.Name x px, iter, ifs, 0⟩] scope pos) (eLC it ci tt te) :=
 PEi (pe_lc (tt := rdT X.K tt) (te := rdE X.K te) hc B hi ht he hs) fun _ _ _ h => Zy5 h
theorem Zj9 {elt iter : Expr} {px py pos spos : Pos} {ifs : List Expr} {it : ItF} {tt : TF} {te : EF} {i : Nat} {y : Str} (hc : X.calm = true) (B : BlkOk X scope x cn ci) (hi : PIf X (.Name x px) iter it)
  (ht : ∀ cl C s H fp pn, PTsf (blk X scope (x :: cn) cl C s H fp pn) ifs tt) (he : ∀ cl C s H fp pn, PEf (blk X scope (x :: cn) cl C s H fp pn) elt te)
  (hN : X.N.Nodup) (hiN : X.N[i]? = some y) (hy : X.env.scope.names.lookup y = some .local)
  (hsw : swapsWith (.ListComp elt [⟨.Name x px, iter, ifs, 0⟩] scope pos) (some (.Name y py)) spos.line X.env = pure true := by rfl)
  (hs : ∀ x, foldedSetIterable iter X.env x = pure x := by rintro _; rfl) : PSf X (.Assign [.Name y py] (.ListComp elt [⟨.Name x px, iter, ifs, 0⟩] scope pos) spos) (Zba i (eLC it ci tt te)) := by
 refine PSi (Zsc (tt := rdT X.K tt) (te := rdE X.K te) hc B hi ht he hN hiN hy hsw hs) fun E σ H zz => ?_
 obtain ⟨ι, σd, Hd, fl, σd', Hd', s, hr, e, q⟩ := zz
 obtain ⟨⟨x, H1⟩, e1, e⟩ := Zm e
 cases e
 exact Zy5 ⟨ι, σd, Hd, x, H1, s, hr, e1, fun v H' ι' l h r => q _ H' ι' l h ((s.mono l).set r i)⟩
end
theorem Zum : fillsNumberSlot (.type "tuple") "mul" = pure false :=
 PySem.fillsNumberSlot_seq (id := "tuple.__mul__") (r := some (.builtin "tuple.__rmul__")) F.slot_tuple_mul.lookup (by decide +kernel) F.slot_tuple_rmul.lookup (by decide +kernel)
theorem repT : seqRepeat? (.type "tuple") = pure (some (.builtin "tuple.__mul__")) := by
 unfold seqRepeat?
 rw [PySem.seqSlot_of (T := "tuple") (name := "__mul__") (id := "tuple.__mul__") F.slot_tuple_mul.lookup (by decide +kernel), PySem.seqSlot_of (T := "tuple") (name := "__rmul__") (id := "tuple.__rmul__") F.slot_tuple_rmul.lookup (by decide +kernel)]
 rfl
section
variable {dd : Option Addr} {sl : Array (Option Value)}
theorem rmulT (a : Int) (t : Tok) (l : Addr) (items : Array Value) (n : Nat) :
  Meets (Builtin.«int.__rmul__» ⟨[.int a t, .ref l], []⟩) (fun _ R s => s.heap.get? l = some { cls := .type "tuple", dict := dd, data := .seq items n, slots := sl } ∧ R (.ok (.ret Value.notImplemented)) s) :=
 .of_wp fun prog w A R s h => by obtain ⟨hp, g, d, tk, os⟩ := s; obtain ⟨hl, h⟩ := h; wp_walk; exact ⟨_, rfl, h⟩
theorem Zqo (l : Addr) (items : Array Value) (n : Nat) (x : Int) (u : Tok) (h1 : (decide (x < -(2 ^ 63)) || decide (x ≥ 2 ^ 63)) = false) (h2 : (items.isEmpty || x == 1) = true) :
  Meets (Builtin.«tuple.__mul__» ⟨[.ref l, .int x u], []⟩) (fun _ R s => s.heap.get? l = some { cls := .type "tuple", dict := dd, data := .seq items n, slots := sl } ∧ R (.ok (.ret (.ref l))) s) :=
 .of_wp fun prog w A R s h => by
  obtain ⟨hp, g, d, tk, os⟩ := s; obtain ⟨hl, h⟩ := h
  have f1 := AutoSeq1.idx_int
  wp_walk
  simp only [h1, Bool.false_eq_true, if_false]
  wp_walk using wpAny_loadPart' hl
  simp only [h2, if_true]
  wp_walk using wpAny_loadPart' hl
  exact ⟨_, rfl, h⟩
theorem Zpc (l : Addr) (items : Array Value) (n : Nat) (x : Int) (u : Tok) (h1 : (decide (x < -(2 ^ 63)) || decide (x ≥ 2 ^ 63)) = false) (h2 : (items.isEmpty || x == 1) = false) (h3 : (decide (x ≤ 0) || items.isEmpty) = true) :
  Meets (Builtin.«tuple.__mul__» ⟨[.ref l, .int x u], []⟩) (fun _ R s => s.heap.get? l = some { cls := .type "tuple", dict := dd, data := .seq items n, slots := sl } ∧ R (.ok (.ret (.ref s.heap.objs.size))) { s with heap := s.heap.push { cls := Value.type "tuple", data := Data.seq #[] } }) :=
 .of_wp fun prog w A R s h => by
  obtain ⟨hp, g, d, tk, os⟩ := s; obtain ⟨hl, h⟩ := h
  have f1 := AutoSeq1.idx_int
  wp_walk
  simp only [h1, Bool.false_eq_true, if_false]
  wp_walk using wpAny_loadPart' hl
  try simp only [h2, h3, Bool.false_eq_true, if_false, if_true]
  try (wp_walk using wpAny_loadPart' hl)
  exact ⟨_, rfl, h⟩
theorem Zsj (l : Addr) (items : Array Value) (n : Nat) (x : Int) (u : Tok) (h1 : (decide (x < -(2 ^ 63)) || decide (x ≥ 2 ^ 63)) = false) (h2 : (items.isEmpty || x == 1) = false) (h3 : (decide (x ≤ 0) || items.isEmpty) = false) (h4 : ¬ (items.size * x : Int) > (2 ^ 63 - 1) / 8) (h5 : Builtin.Tuple.tupleTooMany (items.size * x) = false)
  (hs : (List.foldl (fun x1 x2 => x1 ++ x2) #[] (List.replicate x.toNat items)).size ≤ sizeLine) :
  Meets (Builtin.«tuple.__mul__» ⟨[.ref l, .int x u], []⟩) (fun _ R s => s.heap.get? l = some { cls := .type "tuple", dict := dd, data := .seq items n, slots := sl } ∧ R (.ok (.ret (.ref s.heap.objs.size))) { s with heap := s.heap.push { cls := Value.type "tuple", data := Data.seq (List.foldl (fun x1 x2 => x1 ++ x2) #[] (List.replicate x.toNat items)) } }) :=
 .of_wp fun prog w A R s h => by
  obtain ⟨hp, g, d, tk, os⟩ := s; obtain ⟨hl, h⟩ := h
  have f1 := AutoSeq1.idx_int
  wp_walk
  simp only [h1, Bool.false_eq_true, if_false]
  wp_walk using wpAny_loadPart' hl
  simp only [h2, h3, h5, Bool.false_eq_true, if_false, if_neg h4]
  wp_walk using wpAny_loadPart' hl
  exact ⟨_, rfl, h⟩
end
theorem Zie (its : List Value) (m : Nat) : List.foldl (fun x1 x2 => x1 ++ x2) #[] (List.replicate m its.toArray) = (List.replicate m its).flatten.toArray := by
 have := Zhv its m []
 rw [List.nil_append] at this
 exact this
section
variable {prog : Program} {w : World} {A : Around} {E : Value -> Shared -> Prop} {s : Shared}
theorem Zwa {l : Addr} {its : List Value} {k : Int} {t : Tok} {Q : Value -> Shared -> Prop} (p : IsTup s.heap l its.toArray) (h1 : -(2 ^ 63) ≤ k) (h2 : k < 2 ^ 63) (hz : its.length * k.toNat ≤ sizeLine)
  (qs : (its = [] ∨ k = 1) → Q (.ref l) s) (qn : its ≠ [] → k ≠ 1 → Q (.ref s.heap.objs.size) { s with heap := s.heap.push { cls := .type "tuple", data := .seq (List.replicate k.toNat its).flatten.toArray } }) :
  wpAny (model prog w) A (binaryOp .Mult (.ref l) (.int k t)) Q E s := by
 obtain ⟨o, e, hc, n, hd⟩ := p
 obtain ⟨c, dd, da, sl⟩ := o
 have hc' : c = .type "tuple" := hc
 have hd' : da = .seq its.toArray n := hd
 subst hc' hd'
 have b1 : (decide (k < -(2 ^ 63)) || decide (k ≥ 2 ^ 63)) = false := by simp; omega
 refine wpAny_binaryOp_repeat_ref (T := "tuple") (U := "int") (by decide) ⟨_, e, rfl⟩ (fun s' => typeIs_int s' k t) Zum F.fills_int_mul F.slot_int_rmul repT F.slot_int_index.lookup
  (call_meets F.slot_int_rmul (typeIs_int s k t) F.entry_int_rmul (F.args_int_rmul_2 _ _) (rmulT k t l its.toArray n) ⟨e, rfl, ⟨_, e, rfl⟩, ?_⟩)
 by_cases hs : its = [] ∨ k = 1
 ·exact call_meets F.slot_tuple_mul ⟨_, e, rfl⟩ F.entry_tuple_mul (F.args_tuple_mul_2 _ _) (Zqo l its.toArray n k t b1 (by rcases hs with h | h <;> simp [h])) ⟨e, qs hs⟩
 ·have hne : its ≠ [] := fun h => hs (.inl h)
  have hk : k ≠ 1 := fun h => hs (.inr h)
  have b2 : (its.toArray.isEmpty || k == 1) = false := by cases its <;> simp_all
  have new := qn hne hk
  by_cases h0 : k ≤ 0
  ·have z : k.toNat = 0 := by omega
   rw [z] at new
   exact call_meets F.slot_tuple_mul ⟨_, e, rfl⟩ F.entry_tuple_mul (F.args_tuple_mul_2 _ _) (Zpc l its.toArray n k t b1 b2 (by simp [h0])) ⟨e, new⟩
  ·have sz : sizeLine = 16777216 := PySem.sizeLine_eq
   have hm : (its.toArray.size : Int) * k ≤ 16777216 := by
    have e1 : k = (k.toNat : Int) := by omega
    rw [List.size_toArray, e1, ← Int.natCast_mul]
    omega
   have b3 : (decide (k ≤ 0) || its.toArray.isEmpty) = false := by cases its <;> simp_all
   refine call_meets F.slot_tuple_mul ⟨_, e, rfl⟩ F.entry_tuple_mul (F.args_tuple_mul_2 _ _) (Zsj l its.toArray n k t b1 b2 b3 (by omega) (by simp only [Builtin.Tuple.tupleTooMany, decide_eq_false_iff_not, sz]; omega) ?_) ⟨e, ?_⟩
   ·rw [Zie, List.size_toArray, Zk3, Nat.mul_comm]; exact hz
   ·rw [Zie]; exact new
end
variable {X : Cx}
noncomputable def rRepT (K : PySem.W.Frag) : R2 := fun x y H Q => ∃ l k xs, x = .ref l ∧ y = .int k ∧ SqT K H l xs ∧ -(2 ^ 63) ≤ k ∧ k < 2 ^ 63 ∧ xs.length * k.toNat ≤ sizeLine ∧ ((xs = [] ∨ k = 1) -> Q (.ref l) H) ∧
 (xs ≠ [] -> k ≠ 1 -> ∀ p, H p = none -> Q (.ref p) (upd H p (.tup (List.replicate k.toNat xs).flatten)))
theorem Zut : OpR X (binaryOp .Mult) (rRepT X.K) := by
 intro pins s σ H x y v u Q I rx ry h
 obtain ⟨l, k, xs, rfl, rfl, ha, h1, h2, hz, q1, q2⟩ := h
 cases rx
 obtain ⟨t, rfl⟩ := ry
 obtain ⟨its, r1, p1, _⟩ := I.tuple ha
 refine Zwa p1 h1 h2 (by rw [← r1.length]; exact hz) (fun z => ⟨.ref l, H, I, rfl, q1 (z.imp r1.nil_iff.mp id)⟩) (fun z zk => ?_)
 refine ⟨.ref s.heap.objs.size, _, I.laid (t' := s.toks) (o := .tup (List.replicate k.toNat xs).flatten) (fun b ob q => Heap.get?_push_of_some _ q) (Nat.le_refl _) ?_, rfl, q2 (fun w => z (r1.nil_iff.mpr w)) zk _ (I.hok.fresh (Nat.le_refl _))⟩
 exact ⟨by rw [Zk3, Nat.mul_comm]; exact hz, _, r1.rep k.toNat, Zje.new _ _⟩
section
variable {X : Cx}
noncomputable def iiD (C : Int -> Int -> Prop) [∀ i j, Decidable (C i j)] (g : Int -> Int -> D) : F2 := fun x y H => match x, y with
 | .int i, .int j => if C i j then some (g i j, H) else none
 | _, _ => none
theorem Zlr {f : Value -> Value -> Sem Value} {C : Int -> Int -> Prop} [∀ i j, Decidable (C i j)] {g : Int -> Int -> Int} (h : OpR X f (rI C fun i j => .int (g i j))) : OpF X f (iiD C fun i j => .int (g i j)) := by
 refine OpRi h fun x y H Q zz => ?_
 obtain ⟨ι, dx, dy, Hd, d, Hd', hr, r1, r2, e, q⟩ := zz
 cases dx <;> cases dy <;> simp only [iiD] at e <;> try cases e
 rename_i i j
 split at e
 ·rename_i hc
  cases e
  simp at r1 r2
  exact ⟨i, j, r1, r2, hc, q _ H ι Le.refl hr (by simp)⟩
 ·cases e
noncomputable def CT (_ _ : Int) : Prop := True
instance : ∀ i j, Decidable (CT i j) := fun _ _ => instDecidableTrue
theorem Zw2 {f : Value -> Value -> Sem Value} {g : Int -> Int -> V} (h : OpR X f (rI0 g)) : OpR X f (rI CT g) := OpRi h fun x y H Q ⟨i, j, e1, e2, _, q⟩ => ⟨i, j, e1, e2, q⟩
theorem Zmc {f : Value -> Value -> Sem Value} {g : Int -> Int -> Bool} (h : OpR X f (rI0 fun i j => .bl (g i j))) : OpF X f (iiD CT fun i j => .bl (g i j)) := by
 refine OpRi h fun x y H Q zz => ?_
 obtain ⟨ι, dx, dy, Hd, d, Hd', hr, r1, r2, e, q⟩ := zz
 cases dx <;> cases dy <;> simp only [iiD] at e <;> try cases e
 rename_i i j
 simp at r1 r2
 exact ⟨i, j, r1, r2, q _ H ι Le.refl hr (by simp)⟩
instance (i j : Int) : Decidable (Zze i j) := by unfold Zze; exact inferInstance
instance (i j : Int) : Decidable (Zs0 i j) := by unfold Zs0; exact inferInstance
instance (i j : Int) : Decidable (Zxu i j) := by unfold Zxu; exact inferInstance
noncomputable def Zzl (_ j : Int) : Prop := 0 < j
instance (i j : Int) : Decidable (Zzl i j) := by unfold Zzl; exact inferInstance
noncomputable def Zn0 : F2 := iiD CT fun i j => .int (i - j)
noncomputable def Zhk : F2 := iiD Zze fun i j => .int (i / j)
noncomputable def Zdd : F2 := iiD Zzl fun i j => .int (i % j)
noncomputable def Zwm : F2 := iiD Zxu fun i j => .int (i ^ j.toNat)
noncomputable def ltD : F2 := iiD CT fun i j => .bl (decide (i < j))
noncomputable def leD : F2 := iiD CT fun i j => .bl (decide (i ≤ j))
noncomputable def gtD : F2 := iiD CT fun i j => .bl (decide (j < i))
noncomputable def geD : F2 := iiD CT fun i j => .bl (decide (j ≤ i))
theorem Zhs : OpF X (binaryOp .Sub) Zn0 := Zlr (Zw2 Zx6)
theorem Zg1 : OpF X (binaryOp .FloorDiv) Zhk := Zlr Zuz
theorem Za0 : OpF X (binaryOp .Mod) Zdd := Zlr (C := Zzl) Zzc
theorem Zku : OpF X (binaryOp .Pow) Zwm := Zlr Zzg
theorem Zql : OpF X (compareOp .Lt) ltD := Zmc op_lt
theorem Zsu : OpF X (compareOp .LtE) leD := Zmc op_le
theorem Zd6 : OpF X (compareOp .Gt) gtD := Zmc op_gt
theorem Zyc : OpF X (compareOp .GtE) geD := Zmc op_ge
noncomputable def Zh7 : D -> HD -> Option (D × HD) := fun x H => match x with
 | .int i => some (.int (-i), H)
 | _ => none
theorem Zc0 : UnF X (unaryOp .USub) Zh7 := by
 rintro pins s σ H x v Q I rx ⟨ι, dx, Hd, d, Hd', hr, r1, e, q⟩
 cases dx <;> simp only [Zh7] at e <;> try cases e
 simp at r1
 exact Zzr pins s σ H x v Q I rx ⟨_, r1, q _ H ι Le.refl hr (by simp)⟩
theorem Zsq {prog : Program} {w : World} {A : Around} {E : Value -> Shared -> Prop} {s : Shared} {t b : Addr} {ws : List Value} {Q : Value -> Shared -> Prop} (ht : IsTup s.heap t #[]) (hb : IsTup s.heap b ws.toArray)
  (h1 : Q (.ref b) s) : wpAny (model prog w) A (binaryOp .Add (.ref t) (.ref b)) Q E s := by
 obtain ⟨⟨cls, dd, data, sl⟩, ho, hc, n, hd⟩ := id ht
 obtain ⟨⟨cls2, dd2, data2, sl2⟩, ho2, hc2, n2, hd2⟩ := id hb
 simp only at hc hd hc2 hd2
 subst hc hd hc2 hd2
 exact concat_meets ⟨_, ho, rfl⟩ ⟨_, ho2, rfl⟩ noFill_tuple_add seq_tuple_add PySem.F.slot_tuple_add PySem.F.entry_tuple_add (PySem.F.args_tuple_add_2 _ _)
   (tuple_addW0 t b #[] ws.toArray n n2 dd dd2 sl sl2 (by simp)) ⟨ho, ho2, h1⟩
noncomputable def Zbx : F2 := fun x y H => match x, y with
 | .int i, .int j => some (.int (i + j), H)
 | .str a, .str b => if a.length + b.length ≤ sizeLine then some (.str (a ++ b), H) else none
 | .tup a, .tup b => mkT (a ++ b) H
 | .ref n, .ref m => match H[n]?, H[m]? with
  | some (.lst a), some (.lst b) => mkL (a ++ b) H
  | _, _ => none
 | _, _ => none
theorem Zar : OpF X (binaryOp .Add) Zbx := by
 rintro pins s σ H x y v u Q I rx ry ⟨ι, dx, dy, Hd, d, Hd', hr, r1, r2, e, q⟩
 cases dx <;> cases dy <;> simp only [Zbx] at e <;> try cases e
 ·simp at r1 r2
  exact Zy7 pins s σ H x y v u Q I rx ry ⟨_, _, r1, r2, q _ H ι Le.refl hr (by simp)⟩
 ·simp at r1 r2
  split at e
  ·rename_i hl
   cases e
   exact Zmz pins s σ H x y v u Q I rx ry ⟨_, _, r1, r2, hl, q _ H ι Le.refl hr (by simp)⟩
  ·cases e
 ·rename_i as bs
  obtain ⟨a, vs, rfl, h1, p1⟩ := Zb8.mp r1
  obtain ⟨b, ws, rfl, h2, p2⟩ := Zb8.mp r2
  cases p1 with
  | nil =>
   obtain ⟨hl, e⟩ := Zgx e
   simp only [List.nil_append, Prod.mk.injEq] at e
   obtain ⟨rfl, rfl⟩ := e
   cases rx
   cases ry
   obtain ⟨its, q1, t1, _⟩ := I.tuple h1
   obtain ⟨its2, q2, t2, _⟩ := I.tuple h2
   cases q1
   exact Zsq t1 t2 ⟨.ref b, H, I, rfl, q _ H ι Le.refl hr r2⟩
  | cons p p' =>
   have P := Prd.append (.cons p p') p2
   obtain ⟨hl, e'⟩ := Zgx e
   cases p2 with
   | nil =>
    simp only [List.append_nil, Prod.mk.injEq] at e'
    obtain ⟨rfl, rfl⟩ := e'
    refine Zqb pins s σ H _ _ v u Q I rx ry ⟨a, b, _, _, rfl, rfl, h1, h2, by simp, ?_, fun _ => q _ H ι Le.refl hr r1, fun z => absurd rfl z⟩
    have := Prd.len P
    simp only [List.append_nil] at this hl
    simp only [List.length_nil]
    omega
   | cons p3 p4 =>
    obtain ⟨k1, k2⟩ := Zf9 hr P e q
    refine Zqb pins s σ H _ _ v u Q I rx ry ⟨a, b, _, _, rfl, rfl, h1, h2, by simp, ?_, fun z => absurd z (by simp), fun _ => k2⟩
    rw [← List.length_append]; exact k1
 ·rename_i n m
  obtain ⟨a, rfl, ha⟩ := Zbq.mp r1
  obtain ⟨b, rfl, hb⟩ := Zbq.mp r2
  split at e
  ·rename_i as bs e1 e2
   obtain ⟨vs, h1, p1⟩ := hr.obj n a _ ha e1
   obtain ⟨ws, h2, p2⟩ := hr.obj m b _ hb e2
   obtain ⟨k1, k2⟩ := Zfm hr (Prd.append p1 p2) e q
   exact Zzu pins s σ H _ _ v u Q I rx ry ⟨a, b, vs, ws, rfl, rfl, h1, h2, by rw [← List.length_append]; exact k1, k2⟩
  ·cases e
noncomputable def Zib : F2 := fun x y H => match x, y with
 | .int i, .int j => if Zs0 i j then some (.int (i * j), H) else none
 | .ref n, .int k => match H[n]? with
  | some (.lst a) => if -(2 ^ 63) ≤ k ∧ k < 2 ^ 63 ∧ a.length * k.toNat ≤ sizeLine then mkL (List.replicate k.toNat a).flatten H else none
  | _ => none
 | .tup a, .int k => if -(2 ^ 63) ≤ k ∧ k < 2 ^ 63 ∧ a.length * k.toNat ≤ sizeLine then mkT (List.replicate k.toNat a).flatten H else none
 | _, _ => none
theorem Zel : OpF X (binaryOp .Mult) Zib := by
 rintro pins s σ H x y v u Q I rx ry ⟨ι, dx, dy, Hd, d, Hd', hr, r1, r2, e, q⟩
 cases dx <;> cases dy <;> simp only [Zib] at e <;> try cases e
 ·simp at r1 r2
  split at e
  ·rename_i hc
   cases e
   exact Zxh pins s σ H x y v u Q I rx ry ⟨_, _, r1, r2, hc, q _ H ι Le.refl hr (by simp)⟩
  ·cases e
 ·rename_i as k
  obtain ⟨a, vs, rfl, h1, p1⟩ := Zb8.mp r1
  simp at r2
  split at e
  ·rename_i hc
   have hlen := Prd.len p1
   obtain ⟨k1, k2⟩ := Zf9 hr (Prd.rep p1 k.toNat) e q
   refine Zut pins s σ H _ _ v u Q I rx ry ⟨a, k, vs, rfl, r2, h1, hc.1, hc.2.1, by rw [← hlen]; exact hc.2.2, fun z => ?_, fun _ _ => k2⟩
   obtain ⟨_, e'⟩ := Zgx e
   have hf : (List.replicate k.toNat as).flatten = as := by
    rcases z with z | z
    ·have : as = [] := List.eq_nil_of_length_eq_zero (by rw [hlen, z]; rfl)
     subst this
     simp
    ·subst z
     simp
   rw [hf] at e'
   cases e'
   exact q _ H ι Le.refl hr r1
  ·cases e
 ·rename_i n k
  obtain ⟨a, rfl, ha⟩ := Zbq.mp r1
  simp at r2
  split at e
  ·rename_i as e1
   obtain ⟨vs, h1, p1⟩ := hr.obj n a _ ha e1
   split at e
   ·rename_i hc
    obtain ⟨k1, k2⟩ := Zfm hr (Prd.rep p1 _) e q
    exact Zzo pins s σ H _ _ v u Q I rx ry ⟨a, k, vs, rfl, r2, h1, hc.1, hc.2.1, by rw [← Prd.len p1]; exact hc.2.2, k2⟩
   ·cases e
  ·cases e
noncomputable def Zg8 : D -> HD -> Option (List D)
 | .tup xs, _ => some xs
 | .fl xs, _ => some xs
 | .ref n, H => match H[n]? with
  | some (.lst xs) => some xs
  | _ => none
 | _, _ => none
theorem Zjz {K : PySem.W.Frag} {H : Hp} {ι : List Addr} {Hd : HD} {d : D} {xs : List D} {v : V} (hr : HRep K H ι Hd) (r : Rep K H ι d v) (e : Zg8 d Hd = some xs) : ∃ p vs, v = .ref p ∧ (SqL K H p vs ∨ SqT K H p vs) ∧ Paired (Rep K H ι) xs vs := by
 cases d with
 | tup ys => cases e; obtain ⟨a, vs, rfl, h, p⟩ := Zb8.mp r; exact ⟨a, vs, rfl, .inr h, p⟩
 | fl ys => cases e; obtain ⟨a, vs, rfl, h, p⟩ := Zfy.mp r; exact ⟨a, vs, rfl, .inl h.sq, p⟩
 | ref n =>
  obtain ⟨a, rfl, ha⟩ := Zbq.mp r
  simp only [Zg8] at e
  split at e
  ·rename_i ys e1
   cases e
   obtain ⟨vs, h1, p1⟩ := hr.obj n a _ ha e1
   exact ⟨a, vs, rfl, .inl (SqL.of h1), p1⟩
  ·cases e
 | _ => simp [Zg8] at e
theorem Ztx {α β : Type} {F : α -> β -> Prop} {xs : List α} {us : List β} {i : Int} {x : α} (r : Paired F xs us) (h : atI xs i = some x) : ∃ u, atI us i = some u ∧ F x u := by
 unfold atI at h ⊢
 rw [← Prd.len r]
 obtain ⟨j, h1, h2⟩ := Zo h
 obtain ⟨u, h3, h4⟩ := Prd.get r h2
 exact ⟨u, by rw [h1]; exact h3, h4⟩
noncomputable def ixD : F2 := fun x y H => match y with
 | .int i => (Zg8 x H).bind fun xs => (atI xs i).map fun d => (d, H)
 | _ => none
theorem ixf : IxF X ixD := by
 rintro va sl pins s σ H x y v u Q I rx ry ⟨ι, dx, dy, Hd, d, Hd', hr, r1, r2, e, q⟩ hs
 cases dy <;> simp only [ixD] at e <;> try cases e
 rename_i i
 simp at r2
 obtain ⟨xs, e1, e⟩ := Zo e
 obtain ⟨d', e2, e⟩ := Zm e
 obtain ⟨rfl, rfl⟩ := Prod.mk.inj e
 obtain ⟨p, vs, rfl, h, P⟩ := Zjz hr r1 e1
 obtain ⟨z, hz, rz⟩ := Ztx P e2
 rcases h with h | h
 ·exact Zwc va sl pins s σ H _ _ v u Q I rx ry ⟨p, vs, i, z, rfl, r2, h, hz, q _ H ι Le.refl hr rz⟩ hs
 ·exact Zz5 va sl pins s σ H _ _ v u Q I rx ry ⟨p, vs, i, z, rfl, r2, h, hz, q _ H ι Le.refl hr rz⟩ hs
noncomputable def Zvn : Zwl := fun o i v H => match o, i with
 | .ref n, .int k => match H[n]? with
  | some (.lst xs) => (ixN xs.length k).map fun j => H.set n (.lst (xs.set j v))
  | _ => none
 | _, _ => none
theorem setf : Zyf X Zvn := by
 rintro pins s σ H o i v ov iv u Q I ro ri rv ⟨ι, od, id, vd, Hd, Hd', hr, r1, r2, r3, e, q⟩
 cases od <;> cases id <;> simp only [Zvn] at e <;> try cases e
 rename_i n k
 obtain ⟨a, rfl, ha⟩ := Zbq.mp r1
 simp at r2
 split at e
 ·rename_i xs e1
  obtain ⟨j, e2, e⟩ := Zm e
  subst e
  obtain ⟨vs, h1, P⟩ := hr.obj n a _ ha e1
  refine Zrr pins s σ H _ _ v ov iv u Q I ro ri rv ⟨a, vs, k, j, rfl, r2, h1, by rw [← Prd.len P]; exact e2, ?_⟩
  have L : Le X.K H ι (upd H a (.lst (vs.set j v))) ι := Le.upd (List.mem_of_getElem? ha) h1 trivial _
  exact q _ ι L (hr.upd ha h1 trivial ⟨_, upd_same, Prd.set (r3.mono L) j (Prd.mono L P)⟩)
 ·cases e
noncomputable def Zhr (xs : List D) (lo hi : Option Int) : List D := (xs.drop (HT.sIx xs.length 0 lo)).take (HT.sIx xs.length xs.length hi - HT.sIx xs.length 0 lo)
theorem Zjd {K : PySem.W.Frag} {H : Hp} {ι : List Addr} {xs : List D} {vs : List V} (P : Paired (Rep K H ι) xs vs) (lo hi : Option Int) : Paired (Rep K H ι) (Zhr xs lo hi) (Zsv vs lo hi) := by
 unfold Zhr Zsv
 rw [← Prd.len P]
 exact Prd.take _ (Prd.drop _ P)
noncomputable abbrev OF := SD -> HD -> Option (Option Int × HD)
noncomputable def rdO (K : PySem.W.Frag) (f : OF) : TO := fun σ H Q => ∃ ι σd Hd o Hd', SRep K H ι σ σd ∧ HRep K H ι Hd ∧ f σd Hd = some (o, Hd') ∧ ∀ H' ι', Le K H ι H' ι' -> HRep K H' ι' Hd' -> Q o H'
noncomputable def POf (X : Cx) (e : Option Expr) (f : OF) : Prop := PO X e (rdO X.K f)
noncomputable def Zbf : OF := fun _ H => some (none, H)
noncomputable def Zbc (f : EF) : OF := fun σ H => (f σ H).bind fun p => match p.1 with
 | .int i => some (some i, p.2)
 | _ => none
theorem Zax : POf X none Zbf := by
 rintro pins s σ H Q I ⟨ι, σd, Hd, o, Hd', sr, hr, e, q⟩
 cases e
 exact Zux pins s σ H Q I (q H ι Le.refl hr)
theorem Zay {e : Expr} {f : EF} (h : PEf X e f) : POf X (some e) (Zbc f) := by
 rintro pins s σ H Q I ⟨ι, σd, Hd, o, Hd', sr, hr, e, q⟩
 obtain ⟨⟨d, H1⟩, e1, e⟩ := Zo e
 cases d <;> try cases e
 rename_i i
 exact Ztu h pins s σ H Q I ⟨ι, σd, Hd, _, _, sr, hr, e1, fun v H' ι' l h r => ⟨i, by simpa using r, q H' ι' l h⟩⟩
noncomputable def slD (x : D) (lo hi : Option Int) (H : HD) : Option (D × HD) := match x with
 | .tup xs => some (.tup (Zhr xs lo hi), H)
 | .fl xs => some (.ref H.length, H ++ [.lst (Zhr xs lo hi)])
 | .ref n => match H[n]? with
  | some (.lst xs) => some (.ref H.length, H ++ [.lst (Zhr xs lo hi)])
  | _ => none
 | _ => none
theorem Zfk {prog : Program} {w : World} {A : Around} {E : Value -> Shared -> Prop} {s : Shared} {t sl : Addr} {items : Array Value} {vl vu : Value} {lo hi : Option Int} {Q : Value -> Shared -> Prop} (ht : IsTup s.heap t items) (hs : s.heap.IsSliceOf sl vl vu .none) (pl : IsPart vl lo) (pu : IsPart vu hi)
  (hw : HT.sIx items.size 0 lo = 0 ∧ HT.sIx items.size items.size hi = items.size) (h : Q (.ref t) s) : wpAny (model prog w) A (getItem (.ref t) (.ref sl)) Q E s := by
 obtain ⟨os, hos, hcs, hds⟩ := id hs
 have hTs : s.TypeIs (.ref sl) "slice" := ⟨os, hos, hcs⟩
 obtain ⟨ot, hot, hct, nt, hdt⟩ := id ht
 unfold getItem
 try with_reducible refine wpAny_holding ?_
 first | refine wpAny_bind (wpAny_pure ?_) | skip
 refine wpAny_bind (wpAny_sequenceKey ht.typeIs (by decide) ?_)
 refine wpAny_bind (wpAny_callSpecial?_slot (name := Str.ofString "__getitem__") ht.typeIs PyProof.Rows.slot_tuple_getitem
  (wpAny_call_entry PyProof.Rows.slot_tuple_getitem ht.typeIs entry_tuple_getitem ?_ (args_tuple_getitem _ _)))
 show wpAny _ _ (Builtin.Tuple.tupleItemsOf (.ref t) >>= _) _ _ s
 refine wpAny_bind (tupleItemsOf_ ht ?_)
 refine wpAny_bind (wpAny_typeOf hTs ?_)
 rw [if_pos (by decide)]
 refine wpAny_bind (HT.sliceApplied_gen hs pl pu ?_)
 show wpAny _ _ (if (((HT.sIx items.size 0 lo : Nat) : Int) == 0 && (1 : Int) == 1 && (HT.sIx items.size items.size hi - HT.sIx items.size 0 lo) == items.size) = true then _ else _) _ _ s
 rw [if_pos (by rw [hw.1, hw.2]; simp)]
 show wpAny _ _ (Builtin.Tuple.tupleIsExact (Value.ref t) >>= _) _ _ s
 unfold Builtin.Tuple.tupleIsExact
 refine wpAny_bind (wpAny_bind (wpAny_typeOf ht.typeIs (wpAny_pure ?_)))
 rw [if_pos (by decide)]
 exact wpAny_bind (wpAny_rule (wpAny_pure ⟨_, rfl, wpAny_pure h⟩))
theorem Zmv {xs : List D} {lo hi : Option Int} (h : HT.sIx xs.length 0 lo = 0 ∧ HT.sIx xs.length xs.length hi = xs.length) : Zhr xs lo hi = xs := by
 unfold Zhr
 rw [h.1, h.2]; simp
noncomputable def rdSl (K : PySem.W.Frag) : V -> Option Int -> Option Int -> Hp -> VK -> Prop := fun x lo hi H Q => ∃ ι dx Hd d Hd', HRep K H ι Hd ∧ Rep K H ι dx x ∧ slD dx lo hi Hd = some (d, Hd') ∧ QE K H ι d Hd' Q
theorem slf : SlR X (rdSl X.K) := by
 rintro pins s σ H x v vl vu lo hi sl Q I rx hs pl pu ⟨ι, dx, Hd, d, Hd', hr, r, e, q⟩
 have lists : ∀ {a : Addr} {xs : List D} {vs : List V}, x = .ref a -> SqL X.K H a vs -> Paired (Rep X.K H ι) xs vs -> (D.ref Hd.length, Hd ++ [DO.lst (Zhr xs lo hi)]) = (d, Hd') →
   ∃ T id, typeLookup (.type T) "__getitem__" = pure (some (.builtin id)) ∧ s.TypeIs v T ∧ wpAny (model X.prog X.w) X.A (getItem v (.ref sl)) (EP X pins σ Q) X.xe s := fun {a xs vs} ex h P e => by
  obtain ⟨_, _, _, hz⟩ := I.list h
  have hz2 : (Zhr xs lo hi).length ≤ sizeLine := by
   rw [Prd.len (Zjd P lo hi)]
   exact Nat.le_trans (Zei vs lo hi) hz
  obtain ⟨k1, k2⟩ := Zfm hr (Zjd P lo hi) (show mkL (Zhr xs lo hi) Hd = some (d, Hd') by unfold mkL; rw [if_pos hz2, e]) q
  exact Zu2 pins s σ H x v vl vu lo hi sl Q I rx hs pl pu ⟨a, vs, ex, h, k2⟩
 cases dx with
 | tup xs =>
  obtain ⟨a, vs, rfl, h, P⟩ := Zb8.mp r
  simp only [slD, Option.some.injEq] at e
  obtain ⟨its, rv, ht, hz⟩ := I.tuple h
  have hlen : its.toArray.size = vs.length := by rw [List.size_toArray]; exact rv.length.symm
  by_cases hw : HT.sIx vs.length 0 lo = 0 ∧ HT.sIx vs.length vs.length hi = vs.length
  ·cases rx
   refine ⟨"tuple", _, PyProof.Rows.slot_tuple_getitem.lookup, ht.typeIs, Zfk ht hs pl pu (by rw [hlen]; exact hw) ?_⟩
   rw [Zmv (by rw [Prd.len P]; exact hw)] at e
   obtain ⟨rfl, rfl⟩ := Prod.mk.inj e
   exact ⟨.ref a, H, I, rfl, q _ H ι Le.refl hr r⟩
  ·have hz2 : (Zhr xs lo hi).length ≤ sizeLine := by
    rw [Prd.len (Zjd P lo hi)]
    exact Nat.le_trans (Zei vs lo hi) hz
   obtain ⟨k1, k2⟩ := Zf9 hr (Zjd P lo hi) (show mkT (Zhr xs lo hi) Hd = some (d, Hd') by unfold mkT; rw [if_pos hz2, e]) q
   exact Zx4 pins s σ H _ v vl vu lo hi sl Q I rx hs pl pu ⟨a, vs, rfl, h, hw, k2⟩
 | fl xs =>
  obtain ⟨a, vs, rfl, h, P⟩ := Zfy.mp r
  simp only [slD, Option.some.injEq] at e
  exact lists rfl h.sq P e
 | ref n =>
  obtain ⟨a, rfl, ha⟩ := Zbq.mp r
  simp only [slD] at e
  split at e
  ·rename_i xs e1
   obtain ⟨vs, h1, P⟩ := hr.obj n a _ ha e1
   exact lists rfl (SqL.of h1) P (Option.some.inj e)
  ·cases e
 | _ => simp [slD] at e
noncomputable def eSl (fe : EF) (fl fh : OF) : EF := fun σ H => (fe σ H).bind fun p => (fl σ p.2).bind fun l => (fh σ l.2).bind fun h => slD p.1 l.1 h.1 h.2
theorem Za5 {e : Expr} {lo hi : Option Expr} {fe : EF} {fl fh : OF} {pos p2 : Pos} (he : PEf X e fe) (hl : POf X lo fl) (hu : POf X hi fh) : PEf X (.Subscript e (.Slice lo hi none p2) pos) (eSl fe fl fh) := by
 refine PEi (Zlp slf he hl hu) fun σ H Q zz => ?_
 obtain ⟨ι, σd, Hd, d, Hd', s, hr, e, q⟩ := zz
 obtain ⟨⟨x, H1⟩, e1, e⟩ := Zo e
 obtain ⟨⟨y, H2⟩, e2, e⟩ := Zo e
 obtain ⟨⟨z, H3⟩, e3, e⟩ := Zo e
 exact ⟨ι, σd, Hd, x, H1, s, hr, e1, fun v1 H1' ι1 l1 h1 r1 => ⟨ι1, σd, H1, y, H2, s.mono l1, h1, e2, fun H2' ι2 l2 h2 => ⟨ι2, σd, H2, z, H3, s.mono (l1.trans l2), h2, e3, fun H3' ι3 l3 h3 =>
  ⟨ι3, x, H3, d, Hd', h3, r1.mono (l2.trans l3), e, fun v H' ι' l h r => q v H' ι' (((l1.trans l2).trans l3).trans l) h r⟩⟩⟩⟩
noncomputable def Zdw : FF := fun ds H => match ds with
 | [.str x] => if x.length ≤ sizeLine then some (.int x.length, H) else none
 | [d] => (Zg8 d H).map fun xs => (.int xs.length, H)
 | _ => none
theorem Zjh {K : PySem.W.Frag} {H : Hp} {ι : List Addr} {d : D} {vs : List V} (P : Paired (Rep K H ι) [d] vs) : ∃ v, vs = [v] ∧ Rep K H ι d v := by
 cases P with
 | cons r t => cases t; exact ⟨_, rfl, r⟩
theorem prd2 {K : PySem.W.Frag} {H : Hp} {ι : List Addr} {d d' : D} {vs : List V} (P : Paired (Rep K H ι) [d, d'] vs) : ∃ v v', vs = [v, v'] ∧ Rep K H ι d v ∧ Rep K H ι d' v' := by
 cases P with
 | cons r t => obtain ⟨v, rfl, r'⟩ := Zjh t; exact ⟨_, _, rfl, r, r'⟩
theorem Za7 : Zgr X (.builtin "len") Zdw := by
 rintro pins s σ H xs us Q I rv ⟨ι, ds, Hd, d, Hd', hr, P, e, q⟩
 unfold Zdw at e
 split at e
 ·obtain ⟨v, rfl, r⟩ := Zjh P
  simp at r
  subst r
  split at e
  ·rename_i hl
   cases e
   exact Zkh pins s σ H _ us Q I rv ⟨_, rfl, hl, q _ H ι Le.refl hr (by simp)⟩
  ·cases e
 ·obtain ⟨v, rfl, r⟩ := Zjh P
  obtain ⟨ys, e1, e⟩ := Zm e
  obtain ⟨rfl, rfl⟩ := Prod.mk.inj e
  obtain ⟨p, vs, rfl, h, P2⟩ := Zjz hr r e1
  exact Zkk pins s σ H _ us Q I rv ⟨p, vs, rfl, h, q _ H ι Le.refl hr (by simp [Prd.len P2])⟩
 ·cases e
noncomputable def Znl : FF := fun ds H => match ds with
 | [.int i] => some (.int (if i < 0 then -i else i), H)
 | _ => none
theorem Zeu : Zgr X (.builtin "abs") Znl := by
 rintro pins s σ H xs us Q I rv ⟨ι, ds, Hd, d, Hd', hr, P, e, q⟩
 unfold Znl at e
 split at e
 ·obtain ⟨v, rfl, r⟩ := Zjh P
  simp at r
  subst r
  cases e
  exact Zre pins s σ H _ us Q I rv ⟨_, rfl, q _ H ι Le.refl hr (by simp)⟩
 ·cases e
noncomputable def maxD : FF := fun ds H => match ds with
 | [.int i, .int j] => some (.int (if j > i then j else i), H)
 | _ => none
noncomputable def minD : FF := fun ds H => match ds with
 | [.int i, .int j] => some (.int (if j < i then j else i), H)
 | _ => none
theorem Zqn (hc : X.calm = true) : Zgr X (.builtin "max") maxD := by
 rintro pins s σ H xs us Q I rv ⟨ι, ds, Hd, d, Hd', hr, P, e, q⟩
 unfold maxD at e
 split at e
 ·obtain ⟨v, v', rfl, r, r'⟩ := prd2 P
  simp at r r'
  subst r r'
  cases e
  exact Zqs hc pins s σ H _ us Q I rv ⟨_, _, rfl, q _ H ι Le.refl hr (by simp)⟩
 ·cases e
noncomputable def Znm : FF := fun ds H => match ds with
 | [.int i] => some (.int i, H)
 | [.bl b] => some (.int (if b then 1 else 0), H)
 | _ => none
theorem Zft : Zgr X (.type "int") Znm := by
 rintro pins s σ H xs us Q I rv ⟨ι, ds, Hd, d, Hd', hr, P, e, q⟩
 unfold Znm at e
 split at e
 ·obtain ⟨v, rfl, r⟩ := Zjh P
  simp at r
  subst r
  cases e
  exact Zj1 pins s σ H _ us Q I rv (.inl ⟨_, rfl, q _ H ι Le.refl hr (by simp)⟩)
 ·obtain ⟨v, rfl, r⟩ := Zjh P
  simp at r
  subst r
  cases e
  exact Zj1 pins s σ H _ us Q I rv (.inr ⟨_, rfl, q _ H ι Le.refl hr (by simp)⟩)
 ·cases e
noncomputable def Zoa : FF := fun ds H => match ds with
 | [d] => (Zg8 d H).map fun xs => (.ref H.length, H ++ [.lst xs])
 | _ => none
theorem Zln {pins : List (Addr × Obj)} {s : Shared} {σ : L2.St} {H : Hp} {p : Addr} {vs : List V} (I : Inv X pins σ H s) (h : SqL X.K H p vs ∨ SqT X.K H p vs) : vs.length ≤ sizeLine := by
 rcases h with h | h
 ·obtain ⟨_, _, _, z⟩ := I.list h; exact z
 ·obtain ⟨_, _, _, z⟩ := I.tuple h; exact z
theorem Znc : Zgr X (.type "list") Zoa := by
 rintro pins s σ H xs us Q I rv ⟨ι, ds, Hd, d, Hd', hr, P, e, q⟩
 unfold Zoa at e
 split at e
 ·obtain ⟨v, rfl, r⟩ := Zjh P
  obtain ⟨ys, e1, e⟩ := Zm e
  obtain ⟨p, vs, rfl, h, P2⟩ := Zjz hr r e1
  obtain ⟨k1, k2⟩ := Zfm hr P2 (show mkL ys Hd = some (d, Hd') by unfold mkL; rw [if_pos (by rw [Prd.len P2]; exact Zln I h), e]) q
  exact Zj2 pins s σ H _ us Q I rv ⟨p, vs, rfl, h, k2⟩
 ·cases e
noncomputable def Zcu : FF := fun ds H => match ds with
 | [d] => (Zg8 d H).map fun xs => (.tup xs, H)
 | _ => none
theorem Zbs : Zgr X (.type "tuple") Zcu := by
 rintro pins s σ H xs us Q I rv ⟨ι, ds, Hd, d, Hd', hr, P, e, q⟩
 unfold Zcu at e
 split at e
 ·rename_i d0
  obtain ⟨v, rfl, r⟩ := Zjh P
  obtain ⟨ys, e1, e⟩ := Zm e
  obtain ⟨p, vs, rfl, h, P2⟩ := Zjz hr r e1
  obtain ⟨k1, k2⟩ := Zf9 hr P2 (show mkT ys Hd = some (d, Hd') by unfold mkT; rw [if_pos (by rw [Prd.len P2]; exact Zln I h), e]) q
  refine Zjb pins s σ H _ us Q I rv ⟨p, vs, rfl, ?_⟩
  rcases h with h | h
  ·exact .inl ⟨h, k2⟩
  ·obtain ⟨rfl, rfl⟩ := Prod.mk.inj e
   exact .inr ⟨h, q _ H ι Le.refl hr (Zb8.mpr ⟨p, vs, rfl, h, P2⟩)⟩
 ·cases e
noncomputable def Zbo (x : D) (ds : List D) (H : HD) : Option (D × HD) := match x, ds with
 | .ref n, [d] => match H[n]? with
  | some (.lst xs) => if xs.length < sizeLine then some (.non, H.set n (.lst (xs ++ [d]))) else none
  | _ => none
 | _, _ => none
theorem Zbw : MtF X "list.append" Zbo := by
 rintro pins s σ H x xs v us Q I rx rv ⟨ι, dx, ds, Hd, d, Hd', hr, r1, P, e, q⟩
 unfold Zbo at e
 split at e
 ·rename_i n d1
  obtain ⟨a, rfl, ha⟩ := Zbq.mp r1
  obtain ⟨z, rfl, rz⟩ := Zjh P
  split at e
  ·rename_i ys e1
   split at e
   ·rename_i hl
    cases e
    obtain ⟨vs, h1, P1⟩ := hr.obj n a _ ha e1
    refine Zkq pins s σ H _ _ v us Q I rx rv ⟨a, vs, z, rfl, rfl, h1, by rw [← Prd.len P1]; exact hl, ?_⟩
    have L : Le X.K H ι (upd H a (.lst (vs ++ [z]))) ι := Le.upd (List.mem_of_getElem? ha) h1 trivial _
    exact q _ _ ι L (hr.upd ha h1 trivial ⟨_, upd_same, Prd.append (Prd.mono L P1) (.cons (rz.mono L) .nil)⟩) (by simp)
   ·cases e
  ·cases e
 ·cases e
noncomputable def popD (x : D) (ds : List D) (H : HD) : Option (D × HD) := match x, ds with
 | .ref n, [.int i] => match H[n]? with
  | some (.lst xs) => if -(2 ^ 63) ≤ i ∧ i < 2 ^ 63 then (seqIndex? i xs.length).bind fun k => (xs[k]?).map fun d => (d, H.set n (.lst (xs.eraseIdx k))) else none
  | _ => none
 | _, _ => none
end
mutual
noncomputable def toP (H : HD) : Nat -> D -> Option PyData
 | _, .non => some .none
 | _, .bl b => some (.bool b)
 | _, .int i => some (.int i)
 | _, .str x => some (.str x)
 | _, .ty _ => none
 | n, .tup xs => (Zfo H n xs).map .tuple
 | n, .fl xs => (Zfo H n xs).map .list
 | 0, .ref _ => none
 | n + 1, .ref k => match H[k]? with
  | some (.lst xs) => (Zfo H n xs).map .list
  | _ => none
termination_by n d => (n, sizeOf d)
noncomputable def Zfo (H : HD) : Nat -> List D -> Option (List PyData)
 | _, [] => some []
 | n, d :: ds => (toP H n d).bind fun x => (Zfo H n ds).map fun r => x :: r
termination_by n ds => (n, sizeOf ds)
end
section
variable {X : Cx} {pins : List (Addr × Obj)} {σ : L2.St} {H : Hp} {s : Shared} {ι : List Addr} {Hd : HD}
mutual
theorem Zde (I : Inv X pins σ H s) (hr : HRep X.K H ι Hd) : ∀ (n : Nat) (d : D) {x : PyData} {v : V} {u : Value}, toP Hd n d = some x -> Rep X.K H ι d v -> Zct v u -> ∃ as, Reads s.heap u x as
 | n, .non, x, v, u, e, r, q => by
  rw [toP] at e; cases e; simp at r; subst r; cases q; exact ⟨_, .none⟩
 | n, .bl b, x, v, u, e, r, q => by
  rw [toP] at e; cases e; simp at r; subst r; cases q; exact ⟨_, .bool b⟩
 | n, .int i, x, v, u, e, r, q => by
  rw [toP] at e; cases e; simp at r; subst r; obtain ⟨t, rfl⟩ := q; exact ⟨_, .int i t⟩
 | n, .str z, x, v, u, e, r, q => by
  rw [toP] at e; cases e; simp at r; subst r; obtain ⟨t, rfl⟩ := q; exact ⟨_, .str z t⟩
 | n, .ty _, x, v, u, e, r, q => by rw [toP] at e; cases e
 | n, .tup xs, x, v, u, e, r, q => by
  rw [toP] at e
  obtain ⟨ps, e1, rfl⟩ := Zm e
  obtain ⟨a, vs, rfl, h, P⟩ := Zb8.mp r
  cases q
  obtain ⟨its, rv, ⟨o, ho, hc, m, hd⟩, hz⟩ := I.tuple h
  obtain ⟨as, ra⟩ := Zed I hr n xs e1 P rv
  exact ⟨_, .tuple ho hc hd (by simpa using ra)⟩
 | n, .fl xs, x, v, u, e, r, q => by
  rw [toP] at e
  obtain ⟨ps, e1, rfl⟩ := Zm e
  obtain ⟨a, vs, rfl, h, P⟩ := Zfy.mp r
  cases q
  obtain ⟨its, rv, pl, hz⟩ := I.list h.sq
  obtain ⟨o, ho, hc, m, hd⟩ := pl.isList
  obtain ⟨as, ra⟩ := Zed I hr n xs e1 P rv
  exact ⟨_, .list ho hc hd (by simpa using ra)⟩
 | 0, .ref k, x, v, u, e, r, q => by rw [toP] at e; cases e
 | n + 1, .ref k, x, v, u, e, r, q => by
  rw [toP] at e
  split at e
  ·rename_i xs eo
   obtain ⟨ps, e1, rfl⟩ := Zm e
   obtain ⟨a, rfl, ha⟩ := Zbq.mp r
   cases q
   obtain ⟨vs, h1, P⟩ := hr.obj k a _ ha eo
   obtain ⟨its, rv, pl, hz⟩ := I.list (SqL.of h1)
   obtain ⟨o, ho, hc, m, hd⟩ := pl.isList
   obtain ⟨as, ra⟩ := Zed I hr n xs e1 P rv
   exact ⟨_, .list ho hc hd (by simpa using ra)⟩
  ·cases e
termination_by n d => (n, sizeOf d)
theorem Zed (I : Inv X pins σ H s) (hr : HRep X.K H ι Hd) : ∀ (n : Nat) (ds : List D) {xs : List PyData} {vs : List V} {us : List Value}, Zfo Hd n ds = some xs -> Paired (Rep X.K H ι) ds vs -> Zbk vs us -> ∃ as, ReadsAll s.heap us xs as
 | n, [], xs, vs, us, e, P, q => by
  rw [Zfo] at e; cases e; cases P; cases q; exact ⟨_, .nil⟩
 | n, d :: ds, xs, vs, us, e, P, q => by
  rw [Zfo] at e
  obtain ⟨x, e1, e⟩ := Zo e
  obtain ⟨r, e2, rfl⟩ := Zm e
  cases P with
  | cons p P =>
   cases q with
   | cons q Q =>
    obtain ⟨as, ra⟩ := Zde I hr n d e1 p q
    obtain ⟨bs, rb⟩ := Zed I hr n ds e2 P Q
    exact ⟨_, .cons ra rb⟩
termination_by n ds => (n, sizeOf ds)
end
noncomputable def okP (x : PyData) : Bool := x.canLay0 && decide (x.depth ≤ 30)
noncomputable def dat (d : D) (H : HD) : Option PyData := (toP H 30 d).bind fun x => if okP x = true then some x else none
theorem Zdr {d : D} {x : PyData} (e : dat d Hd = some x) : toP Hd 30 d = some x ∧ x.canLay0 = true ∧ x.depth ≤ 30 := by
 obtain ⟨y, e1, e⟩ := Zo e
 split at e
 ·rename_i h
  cases e
  rw [okP, Bool.and_eq_true, decide_eq_true_eq] at h
  exact ⟨e1, h⟩
 ·cases e
noncomputable def Zsh : D -> D -> Option (Str × Str)
 | .str a, .str b => some (a, b)
 | _, _ => none
theorem Zkl {x y : D} {a b : Str} (h : Zsh x y = some (a, b)) : x = .str a ∧ y = .str b := by
 unfold Zsh at h
 split at h
 ·cases h; exact ⟨rfl, rfl⟩
 ·cases h
noncomputable def eqD : F2 := fun x y H => match Zsh x y with
 | some (a, b) => some (.bl (a == b), H)
 | none => (dat x H).bind fun p => (dat y H).map fun q => (.bl (PyData.eqv p q), H)
noncomputable def neD : F2 := fun x y H => match Zsh x y with
 | some (a, b) => some (.bl (a != b), H)
 | none => (dat x H).bind fun p => (dat y H).map fun q => (.bl (!PyData.eqv p q), H)
theorem Zb7 (hu : X.A.units + 64 < cLine) : OpF X (compareOp .Eq) eqD := by
 rintro pins s σ H x y v u Q I rx ry ⟨ι, dx, dy, Hd, d, Hd', hr, r1, r2, e, q⟩
 unfold eqD at e
 split at e
 ·rename_i a b es
  obtain ⟨rfl, rfl⟩ := Zkl es
  obtain ⟨rfl, rfl⟩ := Prod.mk.inj (Option.some.inj e)
  simp at r1 r2
  subst r1 r2
  obtain ⟨t1, rfl⟩ := rx
  obtain ⟨t2, rfl⟩ := ry
  exact PyProof.Rows.eq_str ⟨.bl _, H, I, rfl, q _ H ι Le.refl hr (by simp)⟩
 ·obtain ⟨p, e1, e⟩ := Zo e
  obtain ⟨p2, e2, e⟩ := Zm e
  obtain ⟨rfl, rfl⟩ := Prod.mk.inj e
  obtain ⟨t1, c1, d1⟩ := Zdr e1
  obtain ⟨t2, c2, d2⟩ := Zdr e2
  obtain ⟨as, ra⟩ := Zde I hr _ _ t1 r1 rx
  obtain ⟨bs, rb⟩ := Zde I hr _ _ t2 r2 ry
  exact SeqAt.compareEq_reads ra rb c1 c2 (by omega) ⟨.bl _, H, I, rfl, q _ H ι Le.refl hr (by simp)⟩
theorem Zgn (hu : X.A.units + 64 < cLine) : OpF X (compareOp .NotEq) neD := by
 rintro pins s σ H x y v u Q I rx ry ⟨ι, dx, dy, Hd, d, Hd', hr, r1, r2, e, q⟩
 unfold neD at e
 split at e
 ·rename_i a b es
  obtain ⟨rfl, rfl⟩ := Zkl es
  obtain ⟨rfl, rfl⟩ := Prod.mk.inj (Option.some.inj e)
  simp at r1 r2
  subst r1 r2
  obtain ⟨t1, rfl⟩ := rx
  obtain ⟨t2, rfl⟩ := ry
  exact PyProof.Rows.ne_str ⟨.bl _, H, I, rfl, q _ H ι Le.refl hr (by simp)⟩
 ·obtain ⟨p, e1, e⟩ := Zo e
  obtain ⟨p2, e2, e⟩ := Zm e
  obtain ⟨rfl, rfl⟩ := Prod.mk.inj e
  obtain ⟨t1, c1, d1⟩ := Zdr e1
  obtain ⟨t2, c2, d2⟩ := Zdr e2
  obtain ⟨as, ra⟩ := Zde I hr _ _ t1 r1 rx
  obtain ⟨bs, rb⟩ := Zde I hr _ _ t2 r2 ry
  exact SeqAt.compareNe_reads ra rb c1 c2 (by omega) ⟨.bl _, H, I, rfl, q _ H ι Le.refl hr (by simp)⟩
noncomputable def Zmb : PyData -> Option (List PyData)
 | .list xs => some xs
 | .tuple xs => some xs
 | _ => none
noncomputable def inD : F2 := fun x y H => (dat x H).bind fun p => (dat y H).bind fun q => (Zmb q).map fun xs => (.bl (xs.any fun z => PyData.eqv z p), H)
noncomputable def niD : F2 := fun x y H => (dat x H).bind fun p => (dat y H).bind fun q => (Zmb q).map fun xs => (.bl (!xs.any fun z => PyData.eqv z p), H)
theorem Zxb (hu : X.A.units + 64 < cLine) : OpF X (compareOp .In) inD := by
 rintro pins s σ H x y v u Q I rx ry ⟨ι, dx, dy, Hd, d, Hd', hr, r1, r2, e, q⟩
 obtain ⟨p, e1, e⟩ := Zo e
 obtain ⟨p2, e2, e⟩ := Zo e
 obtain ⟨xs, e3, e⟩ := Zm e
 obtain ⟨rfl, rfl⟩ := Prod.mk.inj e
 obtain ⟨t1, c1, d1⟩ := Zdr e1
 obtain ⟨t2, c2, d2⟩ := Zdr e2
 obtain ⟨as, ra⟩ := Zde I hr _ _ t1 r1 rx
 obtain ⟨bs, rb⟩ := Zde I hr _ _ t2 r2 ry
 have fin : EP X pins σ Q (.bool (xs.any fun z => PyData.eqv z p)) s := ⟨.bl _, H, I, rfl, q _ H ι Le.refl hr (by simp)⟩
 cases p2 with
 | list ys =>
  cases e3
  simp only [PyData.canLay0] at c2
  simp only [PyData.depth] at d2
  exact SeqAt.in_list_reads rb ra c2 c1 (by omega) fin
 | tuple ys =>
  cases e3
  simp only [PyData.canLay0] at c2
  simp only [PyData.depth] at d2
  exact SeqAt.in_tuple_reads rb ra c2 c1 (by omega) fin
 | _ => simp [Zmb] at e3
theorem Zwq (hu : X.A.units + 64 < cLine) : OpF X (compareOp .NotIn) niD := by
 rintro pins s σ H x y v u Q I rx ry ⟨ι, dx, dy, Hd, d, Hd', hr, r1, r2, e, q⟩
 obtain ⟨p, e1, e⟩ := Zo e
 obtain ⟨p2, e2, e⟩ := Zo e
 obtain ⟨xs, e3, e⟩ := Zm e
 obtain ⟨rfl, rfl⟩ := Prod.mk.inj e
 obtain ⟨t1, c1, d1⟩ := Zdr e1
 obtain ⟨t2, c2, d2⟩ := Zdr e2
 obtain ⟨as, ra⟩ := Zde I hr _ _ t1 r1 rx
 obtain ⟨bs, rb⟩ := Zde I hr _ _ t2 r2 ry
 have fin : EP X pins σ Q (.bool (!xs.any fun z => PyData.eqv z p)) s := ⟨.bl _, H, I, rfl, q _ H ι Le.refl hr (by simp)⟩
 cases p2 with
 | list ys =>
  cases e3
  simp only [PyData.canLay0] at c2
  simp only [PyData.depth] at d2
  exact SeqAt.notIn_list_reads rb ra c2 c1 (by omega) fin
 | tuple ys =>
  cases e3
  simp only [PyData.canLay0] at c2
  simp only [PyData.depth] at d2
  exact SeqAt.notIn_tuple_reads rb ra c2 c1 (by omega) fin
 | _ => simp [Zmb] at e3
noncomputable def isB (x y : D) : Option Bool := match y, x with
 | .non, .non => some true
 | .non, _ => some false
 | .bl b, .bl c => some (c == b)
 | .bl _, _ => some false
 | _, _ => none
noncomputable def isD : F2 := fun x y H => (isB x y).map fun b => (.bl b, H)
noncomputable def isnD : F2 := fun x y H => (isB x y).map fun b => (.bl (!b), H)
theorem Zk5 {M : Model} {A : Around} {E : Value -> Shared -> Prop} {s : Shared} {Q : Value -> Shared -> Prop} {v : Value} {b : Bool} (hv : ∀ i, v ≠ .builtin i) (h : Q (.bool (v == .bool b)) s) : wpAny M A (compareOp .Is v (.bool b)) Q E s := by
 cases v <;> first | exact wpAny_pure h | exact absurd rfl (hv _)
theorem Zvz {x : V} {v : Value} (r : Zct x v) : ∀ i, v ≠ .builtin i := by
 intro i
 cases x with
 | non => cases r; intro z; cases z
 | bl _ => cases r; intro z; cases z
 | int _ => obtain ⟨t, rfl⟩ := r; intro z; cases z
 | str _ => obtain ⟨t, rfl⟩ := r; intro z; cases z
 | byt _ => obtain ⟨t, rfl⟩ := r; intro z; cases z
 | flt _ => obtain ⟨t, rfl⟩ := r; intro z; cases z
 | ref _ => cases r; intro z; cases z
 | ty _ => cases r; intro z; cases z
theorem Zyi {dx dy : D} {x y : V} {v u : Value} {b : Bool} (r1 : Rep X.K H ι dx x) (r2 : Rep X.K H ι dy y) (rx : Zct x v) (ry : Zct y u) (e : isB dx dy = some b) :
  (u = .none ∧ b = (v == .none)) ∨ ∃ c, u = .bool c ∧ b = (v == .bool c) := by
 cases dy with
 | non =>
  simp at r2; subst r2; cases ry
  refine .inl ⟨rfl, ?_⟩
  cases dx with
  | non => simp at r1; subst r1; cases rx; cases e; rfl
  | bl _ => simp at r1; subst r1; cases rx; cases e; rfl
  | int _ => simp at r1; subst r1; obtain ⟨t, rfl⟩ := rx; cases e; rfl
  | str _ => simp at r1; subst r1; obtain ⟨t, rfl⟩ := rx; cases e; rfl
  | ty _ => simp at r1; subst r1; cases rx; cases e; rfl
  | tup _ => obtain ⟨a, _, rfl, _⟩ := Zb8.mp r1; cases rx; cases e; rfl
  | fl _ => obtain ⟨a, _, rfl, _⟩ := Zfy.mp r1; cases rx; cases e; rfl
  | ref _ => obtain ⟨a, rfl, _⟩ := Zbq.mp r1; cases rx; cases e; rfl
 | bl c =>
  simp at r2; subst r2; cases ry
  refine .inr ⟨c, rfl, ?_⟩
  cases dx with
  | non => simp at r1; subst r1; cases rx; cases e; rfl
  | bl z => simp at r1; subst r1; cases rx; cases e; cases z <;> cases c <;> rfl
  | int _ => simp at r1; subst r1; obtain ⟨t, rfl⟩ := rx; cases e; rfl
  | str _ => simp at r1; subst r1; obtain ⟨t, rfl⟩ := rx; cases e; rfl
  | ty _ => simp at r1; subst r1; cases rx; cases e; rfl
  | tup _ => obtain ⟨a, _, rfl, _⟩ := Zb8.mp r1; cases rx; cases e; rfl
  | fl _ => obtain ⟨a, _, rfl, _⟩ := Zfy.mp r1; cases rx; cases e; rfl
  | ref _ => obtain ⟨a, rfl, _⟩ := Zbq.mp r1; cases rx; cases e; rfl
 | _ => simp [isB] at e
theorem Zfd : OpF X (compareOp .Is) isD := by
 rintro pins s σ H x y v u Q I rx ry ⟨ι, dx, dy, Hd, d, Hd', hr, r1, r2, e, q⟩
 obtain ⟨b, e1, e⟩ := Zm e
 obtain ⟨rfl, rfl⟩ := Prod.mk.inj e
 have fin : EP X pins σ Q (.bool b) s := ⟨.bl _, H, I, rfl, q _ H ι Le.refl hr (by simp)⟩
 rcases Zyi r1 r2 rx ry e1 with ⟨rfl, rfl⟩ | ⟨c, rfl, rfl⟩
 ·exact is_none_gen fin
 ·exact Zk5 (Zvz rx) fin
noncomputable def tyD : D -> HD -> Option String
 | .non, _ => some "NoneType"
 | .bl _, _ => some "bool"
 | .int _, _ => some "int"
 | .str _, _ => some "str"
 | .tup _, _ => some "tuple"
 | .fl _, _ => some "list"
 | .ref n, H => match H[n]? with
  | some (.lst _) => some "list"
  | _ => none
 | _, _ => none
noncomputable def Zow (c : String) : Bool := c == "bool" || c == "int" || c == "str" || c == "tuple" || c == "list"
noncomputable def Zot : FF := fun ds H => match ds with
 | [x, .ty c] => if Zow c = true then (tyD x H).map fun t => (.bl (t == c || (t == "bool" && c == "int")), H) else none
 | _ => none
noncomputable def tys : List String := ["NoneType", "bool", "int", "str", "tuple", "list"]
theorem Zvy {d : D} {t : String} (e : tyD d Hd = some t) : t ∈ tys := by
 cases d with
 | ref n =>
  simp only [tyD] at e
  split at e
  ·cases e; decide
  ·cases e
 | ty n => simp [tyD] at e
 | _ => simp only [tyD] at e; cases e; decide
theorem Zyy (K : PySem.W.Frag) {t c : String} (ht : t ∈ tys) (hc : Zow c = true) : PySem.W.kitOne K (.type t) (.type c) = some (t == c || (t == "bool" && c == "int")) := by
 have hc' : c = "bool" ∨ c = "int" ∨ c = "str" ∨ c = "tuple" ∨ c = "list" := by
  simpa [Zow, or_assoc] using hc
 simp only [tys, List.mem_cons, List.not_mem_nil, or_false] at ht
 rcases ht with rfl | rfl | rfl | rfl | rfl | rfl <;> rcases hc' with rfl | rfl | rfl | rfl | rfl <;> first | rfl | (with_unfolding_all rfl) | kernel_rfl
theorem Zd1 : Zgr X (.builtin "isinstance") Zot := by
 rintro pins s σ H xs us Q I rv ⟨ι, ds, Hd, d, Hd', hr, P, e, q⟩
 unfold Zot at e
 split at e
 ·rename_i x c
  split at e
  ·rename_i hc
   obtain ⟨t, e1, e⟩ := Zm e
   obtain ⟨rfl, rfl⟩ := Prod.mk.inj e
   obtain ⟨v, v', rfl, r, r'⟩ := prd2 P
   obtain ⟨u, u', rfl, ru, ru'⟩ := Zqk rv
   simp at r'
   subst r'
   cases ru'
   have k := Zyy X.K (Zvy e1) hc
   have fin : ∀ tk, EP X pins σ Q (.bool (t == c || (t == "bool" && c == "int"))) { s with toks := tk } := fun tk => ⟨.bl _, H, I.tok tk, rfl, q _ H ι Le.refl hr (by simp)⟩
   cases x with
   | non => simp at r; subst r; cases ru; cases e1; exact PySem.W.kia_one PySem.W.kitx_none I.kIn True.intro k (fun z => nomatch z) fin
   | bl y => simp at r; subst r; cases ru; cases e1; exact PySem.W.kia_one PySem.W.kitx_bool I.kIn True.intro k (fun z => nomatch z) fin
   | int y => simp at r; subst r; obtain ⟨t, rfl⟩ := ru; cases e1; exact PySem.W.kia_one PySem.W.kitx_int I.kIn True.intro k (fun z => nomatch z) fin
   | str y => simp at r; subst r; obtain ⟨t, rfl⟩ := ru; cases e1; exact PySem.W.kia_one PySem.W.kitx_str I.kIn True.intro k (fun z => nomatch z) fin
   | ty _ => simp [tyD] at e1
   | tup ys =>
    obtain ⟨a, vs, rfl, h, _⟩ := Zb8.mp r
    cases ru; cases e1
    obtain ⟨its, _, ⟨o, ho, hcl, _⟩, _⟩ := I.tuple h
    exact PySem.W.kia_one PySem.W.kitx_tuple I.kIn ⟨o, ho, hcl⟩ k (fun z => nomatch z) fin
   | fl ys =>
    obtain ⟨a, vs, rfl, h, _⟩ := Zfy.mp r
    cases ru; cases e1
    obtain ⟨its, _, pl, _⟩ := I.list h.sq
    obtain ⟨o, ho, hcl, _⟩ := pl.isList
    exact PySem.W.kia_one PySem.W.kitx_list I.kIn ⟨o, ho, hcl⟩ k (fun z => nomatch z) fin
   | ref n =>
    obtain ⟨a, rfl, ha⟩ := Zbq.mp r
    cases ru
    simp only [tyD] at e1
    split at e1
    ·rename_i ys eo
     cases e1
     obtain ⟨vs, h1, _⟩ := hr.obj n a _ ha eo
     obtain ⟨its, _, pl, _⟩ := I.list (SqL.of h1)
     obtain ⟨o, ho, hcl, _⟩ := pl.isList
     exact PySem.W.kia_one PySem.W.kitx_list I.kIn ⟨o, ho, hcl⟩ k (fun z => nomatch z) fin
    ·cases e1
  ·cases e
 ·cases e
noncomputable def Zv3 : D -> Bool
 | .tup _ => true
 | _ => false
noncomputable def Zy6 : List D -> Option (List Int)
 | [] => some []
 | .int i :: r => (Zy6 r).map fun s => i :: s
 | _ => none
noncomputable def isort (ns : List Int) : List Int := ns.mergeSort (fun a b => decide (a ≤ b))
noncomputable def Zui : FF := fun ds H => match ds with
 | [d] => (Zg8 d H).bind fun xs => (Zy6 xs).bind fun ns => if ns.length < 64 ∧ Zv3 d = false then some (.ref H.length, H ++ [.lst ((isort ns).map .int)]) else none
 | _ => none
end
section
variable {X : Cx} {tg : Expr}
noncomputable def Zgj : D -> HD -> Option (List D × Zfq)
 | .tup xs, _ => some (xs, [])
 | .fl xs, _ => some (xs, [])
 | .ref n, H => match H[n]? with
  | some (.lst xs) => some (xs, [(n, .lst xs)])
  | _ => none
 | _, _ => none
noncomputable def Zfb (i : Int) : Prop := -(2 ^ 62) ≤ i ∧ i < 2 ^ 62
instance (i : Int) : Decidable (Zfb i) := by unfold Zfb; exact inferInstance
noncomputable def Zbb (lo : Int) (n : Nat) : List D := (List.range n).map fun k : Nat => .int (lo + (k : Int))
theorem Zm5 {lo : Int} {n i : Nat} {d : D} (h : (Zbb lo n)[i]? = some d) : i < n ∧ d = .int (lo + i) := by
 unfold Zbb at h
 rw [List.getElem?_map] at h
 obtain ⟨k, h1, rfl⟩ := Zm h
 rw [List.getElem?_eq_some_iff] at h1
 obtain ⟨hl, h1⟩ := h1
 simp at h1 hl
 subst h1
 exact ⟨hl, rfl⟩
theorem Zjn {K : PySem.W.Frag} {H0 : Hp} {ι0 : List Addr} (lo : Int) (n : Nat) : ItRep K (Itr lo n) (Zbb lo n) [] H0 ι0 := by
 refine ⟨fun i H2 ι2 Hd2 l2 h2 _ hi => (show i < n by simpa [Zbb] using hi), fun i H2 ι2 Hd2 d x H3 l2 h2 _ hd y => ?_, fun i H2 ι2 Hd2 l2 h2 _ hi => (show n ≤ i by simpa [Zbb] using hi)⟩
 obtain ⟨rfl, rfl⟩ := y
 obtain ⟨_, rfl⟩ := Zm5 hd
 exact ⟨ι2, Le.refl, h2, by simp⟩
noncomputable def iR1 (f : AF) : ItF := fun σ H => (f σ H).bind fun p => match p.1 with
 | [.int j] => if Zfb j then some ((Zbb 0 j.toNat, []), p.2) else none
 | _ => none
noncomputable def iR2 (f : AF) : ItF := fun σ H => (f σ H).bind fun p => match p.1 with
 | [.int i, .int j] => if Zfb i ∧ Zfb j then some ((Zbb i (j - i).toNat, []), p.2) else none
 | _ => none
theorem Ze2 {a : Expr} {f : AF} {p pos : Pos} (hg : Gl X "range") (hm : X.mg "range" = none) (ha : PAf X [a] f) (hs : starEach [a] X.env = [(false, eval a X.env)] := by rfl) : PIf X tg (.Call (.Name "range" p) [a] [] pos) (iR1 f) := by
 refine PIi (Zpm hg hm ha hs) fun σ H R zz => ?_
 obtain ⟨ι, σd, Hd, xs, own, Hd', s, hr, e, q⟩ := zz
 obtain ⟨⟨ds, H1⟩, e1, e⟩ := Zo e
 dsimp only at e
 split at e
 ·rename_i j
  split at e
  ·rename_i hj
   cases e
   refine ⟨ι, σd, Hd, _, _, s, hr, e1, fun vs H' ι' l h P => ?_⟩
   obtain ⟨v, rfl, r⟩ := Zjh P
   simp at r
   subst r
   exact ⟨j, rfl, hj.1, hj.2, q _ H' ι' l h (Zjn 0 _)⟩
  ·cases e
 ·cases e
theorem Zng {a b : Expr} {f : AF} {p pos : Pos} (hg : Gl X "range") (hm : X.mg "range" = none) (ha : PAf X [a, b] f) (hs : starEach [a, b] X.env = [(false, eval a X.env), (false, eval b X.env)] := by rfl) (hs2 : starEach [b] X.env = [(false, eval b X.env)] := by rfl) :
  PIf X tg (.Call (.Name "range" p) [a, b] [] pos) (iR2 f) := by
 refine PIi (Zpt hg hm ha hs hs2) fun σ H R zz => ?_
 obtain ⟨ι, σd, Hd, xs, own, Hd', s, hr, e, q⟩ := zz
 obtain ⟨⟨ds, H1⟩, e1, e⟩ := Zo e
 dsimp only at e
 split at e
 ·rename_i i j
  split at e
  ·rename_i hj
   cases e
   refine ⟨ι, σd, Hd, _, _, s, hr, e1, fun vs H' ι' l h P => ?_⟩
   obtain ⟨v, v', rfl, r, r'⟩ := prd2 P
   simp at r r'
   subst r r'
   exact ⟨i, j, rfl, ⟨hj.1.1, hj.1.2, hj.2.1, hj.2.2⟩, q _ H' ι' l h (Zjn _ _)⟩
  ·cases e
 ·cases e
end
open Builtin.SmallTypes (nextOf)
section
variable {prog : Program} {w : World} {A : Around} {E : Value -> Shared -> Prop} {s : Shared}
theorem Zrc {j t : Addr} {i : Nat} {its : Array Value} {x : Value} {Q : Value -> Shared -> Prop} (hj : s.heap.IsTupleIter j t i) (ht : s.heap.IsTuple t its) (hx : its[i]? = some x)
  (hQ : ∀ h', h'.IsTupleIter j t (i + 1) -> Heap.SameBut j s.heap h' -> Q x { s with heap := h' }) : wpAny (model prog w) A (nextOf (.ref j)) Q E s := by
 obtain ⟨oj, ho, hcj, hdj⟩ := id hj
 obtain ⟨ot, hot, _, nt, hdt⟩ := ht
 unfold nextOf
 refine wpAny_bind (wpAny_callSpecial?_slot (name := Str.ofString "__next__") hj.typeIs F.slot_tuple_iterator_next (wpAny_call_entry F.slot_tuple_iterator_next hj.typeIs F.entry_tuple_iterator_next ?_ (F.args_tuple_iterator_next_1 _)))
 show wpAny _ _ (field (.ref j) 0 >>= _) _ _ s
 refine wpAny_bind (wpAny_field ho hdj (x := .ref t) rfl ?_)
 show wpAny _ _ (if (Value.ref t == Value.none) = true then _ else _) _ _ s
 rw [if_neg (show ¬ ((Value.ref t == Value.none) = true) by intro z; cases z)]
 show wpAny _ _ (field (.ref j) 1 >>= _) _ _ s
 refine wpAny_bind (wpAny_field ho hdj (x := .int i 0) rfl ?_)
 show wpAny _ _ (seqItems? (.ref t) >>= _) _ _ s
 refine wpAny_bind (wpAny_seqItems hot hdt ?_)
 simp only [Int.toNat_natCast, hx]
 refine wpAny_bind (wpAny_setField ho hdj (by simp) (wpAny_pure ⟨x, rfl, wpAny_pure (hQ _ ⟨_, Heap.get?_update_self _ ho (Obj.isFreed_of_fields (Obj.data_mapFields hdj _)), (Obj.cls_mapFields ..).trans hcj, ?_⟩ (Heap.SameBut.update ..))⟩))
 rw [Obj.data_mapFields hdj]; simp [rawInt]
theorem Zub {j t : Addr} {i : Nat} {its : Array Value} {Q : Value -> Shared -> Prop} (hh : A.handled = none) (hj : s.heap.IsTupleIter j t i) (ht : s.heap.IsTuple t its) (hx : its[i]? = none)
  (hE : ∀ h' e, Heap.ExtBut j s.heap h' → (∃ o, h'.get? e = some o ∧ o.cls = .type "StopIteration") → E (.ref e) { s with heap := h' }) : wpAny (model prog w) A (nextOf (.ref j)) Q E s := by
 obtain ⟨oj, ho, hcj, hdj⟩ := id hj
 obtain ⟨ot, hot, _, nt, hdt⟩ := ht
 unfold nextOf
 refine wpAny_bind (wpAny_callSpecial?_slot (name := Str.ofString "__next__") hj.typeIs F.slot_tuple_iterator_next (wpAny_call_entry F.slot_tuple_iterator_next hj.typeIs F.entry_tuple_iterator_next ?_ (F.args_tuple_iterator_next_1 _)))
 show wpAny _ _ (field (.ref j) 0 >>= _) _ _ s
 refine wpAny_bind (wpAny_field ho hdj (x := .ref t) rfl ?_)
 show wpAny _ _ (if (Value.ref t == Value.none) = true then _ else _) _ _ s
 rw [if_neg (show ¬ ((Value.ref t == Value.none) = true) by intro z; cases z)]
 show wpAny _ _ (field (.ref j) 1 >>= _) _ _ s
 refine wpAny_bind (wpAny_field ho hdj (x := .int i 0) rfl ?_)
 show wpAny _ _ (seqItems? (.ref t) >>= _) _ _ s
 refine wpAny_bind (wpAny_seqItems hot hdt ?_)
 simp only [Int.toNat_natCast, hx]
 refine wpAny_bind (wpAny_rule (wpAny_bind (wpAny_setField ho hdj (by simp) ?_)))
 show wpAny _ _ (newExc (.type "StopIteration") [] >>= _) _ _ _
 refine wpAny_bind ?_
 simp only [newExc, newTuple]
 refine wpAny_bind (wpAny_newObj_type ?_ (by size_fits))
 refine wpAny_bind (m := firstArgMember _ _) (wpAny_of_eq (a := Value.none) (by first | rfl | (simp only [firstArgMember]; rfl)) (wpAny_newObj_type ?_ (by size_fits)))
 simp only [raiseNew]
 refine wpAny_bind (wpAny_handled ?_)
 first | rw [show A.in1.handled = none from hh] | rw [hh]
 exact wpAny_bind (wpAny_pure (wpAny_throw (hE _ _ (((Heap.SameBut.update ..).extBut.push _).push _) ⟨_, Heap.get?_push_size _ rfl, rfl⟩)))
open AutoSeq1 (wpAny_loadPart') in
theorem Zy0 (t : Addr) (its : Array Value) (n : Nat) (dct : Option Addr) (sl : Array (Option Value)) :
  Meets (Builtin.«enumerate.__new__» ⟨[.type "enumerate", .ref t], []⟩) (fun _ R s => s.heap.get? t = some { cls := .type "tuple", dict := dct, data := .seq its n, slots := sl } ∧
   R (.ok (.ret (.ref (s.heap.push { cls := .type "tuple_iterator", data := .fields #[.ref t, .int 0 0] }).objs.size)))
    { s with heap := (s.heap.push { cls := .type "tuple_iterator", data := .fields #[.ref t, .int 0 0] }).push { cls := .type "enumerate", data := .fields #[.none, .bool false, .ref s.heap.objs.size, rawInt 0, .none, .none] } }) :=
 .of_wp fun prog w A R s h => by
  obtain ⟨hp, g, d, tk, os⟩ := s; obtain ⟨hl, h⟩ := h
  have hsub := sub_enumerate
  have hL : Heap.IsTuple (Shared.heap ⟨hp, g, d, tk, os⟩) t its := ⟨_, hl, rfl, n, rfl⟩
  wp_walk using wpAny_loadPart' hl
  refine wpAny_stack_any fun st => wpAny_pure ?_
  split
  ·rename_i k _ _ _ _ _
   cases (k == Value.type "enumerate") <;> (wp_walk using wpAny_loadPart' hl, wpAny_pyIter_tuple hL; exact ⟨_, rfl, h⟩)
  ·wp_walk using wpAny_loadPart' hl, wpAny_pyIter_tuple hL
   exact ⟨_, rfl, h⟩
end
section
variable {X : Cx}
noncomputable def Zd8 (c : Int) : List D -> List D
 | [] => []
 | x :: r => .tup [.int c, x] :: Zd8 (c + 1) r
theorem Zhl : ∀ (xs : List D) (c : Int), (Zd8 c xs).length = xs.length
 | [], _ => rfl
 | x :: r, c => by simp [Zd8, Zhl r]
theorem Zhj : ∀ {xs : List D} {c : Int} {i : Nat} {d : D}, (Zd8 c xs)[i]? = some d -> ∃ x, xs[i]? = some x ∧ d = .tup [.int (c + i), x]
 | [], c, i, d, h => by simp [Zd8] at h
 | x :: r, c, 0, d, h => by simp [Zd8] at h; exact ⟨x, rfl, by rw [← h]; simp⟩
 | x :: r, c, i + 1, d, h => by
  simp only [Zd8, List.getElem?_cons_succ] at h
  obtain ⟨y, h1, h2⟩ := Zhj h
  refine ⟨y, by simpa using h1, ?_⟩
  rw [h2]
  have : c + 1 + (i : Int) = c + ((i + 1 : Nat) : Int) := by push_cast; omega
  rw [this]
noncomputable def Zyj (f : AF) : ItF := fun σ H => (f σ H).bind fun p => match p.1 with
 | [.tup xs] => some ((Zd8 0 xs, []), p.2)
 | _ => none
end
structure Five (z a b c d : Addr) : Prop where
 az : a ≠ z
 bz : b ≠ z
 cz : c ≠ z
 dz : d ≠ z
 ab : a ≠ b
 ac : a ≠ c
 ad : a ≠ d
 bc : b ≠ c
 bd : b ≠ d
 cd : c ≠ d
section
variable {X : Cx}
noncomputable def zipL : List D -> List D -> List D
 | x :: xs, y :: ys => .tup [x, y] :: zipL xs ys
 | _, _ => []
noncomputable def Zok (lo c : Int) (n : Nat) : List D := (List.range n).map fun k : Nat => .int (lo + (k : Int) * c)
noncomputable def Zw7 (i j c : Int) : Nat := if i < j then ((j - i - 1) / c + 1).toNat else 0
noncomputable def Zl1 (i j c : Int) : Prop := -(2 ^ 60) ≤ i ∧ i < 2 ^ 60 ∧ -(2 ^ 60) ≤ j ∧ j < 2 ^ 60 ∧ 0 < c ∧ c < 2 ^ 20
instance (i j c : Int) : Decidable (Zl1 i j c) := by unfold Zl1; exact inferInstance
noncomputable def iR3 (f : AF) : ItF := fun σ H => (f σ H).bind fun p => match p.1 with
 | [.int i, .int j, .int c] => if Zl1 i j c then some ((Zok i c (Zw7 i j c), []), p.2) else none
 | _ => none
end
section
variable {X : Cx}
noncomputable def eLR2 (f : AF) : EF := fun σ H => (f σ H).bind fun p => match p.1 with
 | [.int i, .int j] => if Zfb i ∧ Zfb j ∧ (j - i).toNat ≤ 1000000 then some (.ref p.2.length, p.2 ++ [.lst (Zbb i (j - i).toNat)]) else none
 | _ => none
end
structure Fn (P : Program) (w : World) (K : PySem.W.Frag) (mg : Str -> Option Value) (base : Heap) (k : Nat) (x : Str) (ps : List Str) (F : FF) : Prop where
 ex : ∃ f fd, FnOk P w K mg base CX0 k f fd ps (spF K ps.length F) ∧ Zfs K fd ps [] ∧ PySem.W.keepIn K (.ref f) = true ∧ mg x = some (.ref f) ∧ ∃ (oc : Value) (od : Option Addr) (osl : Array (Option Value)), K.lookup f = some ⟨oc, od, .func fd, osl⟩
theorem Za8 {X : Cx} {k n : Nat} {ps : List Str} {x : Str} {p pos : Pos} {F : FF} {fa : AF} {e : Expr} {es : List Expr} (G : Fn X.prog X.w X.K X.mg X.base k x ps F) (hr : Room k X.A) (hg : Gl X x)
  (ha : PAf X (e :: es) fa) (hdb : (x == ("__debug__" : Str)) = false := by decide) (he : starEach (e :: es) X.env = (false, eval e X.env) :: starEach es X.env := by exact Zbe rfl) (hpl : (backTo pos (starEach es X.env)).any (·.1) = false := by exact Zc2 rfl) (hn : ps.length = n := by rfl) :
  PEf X (.Call (.Name x p) (e :: es) [] pos) (Za2 n F fa) := by
 subst hn
 obtain ⟨f, fd, G1, hb, hk, hm, _⟩ := G.ex
 exact Zr1 G1 hr hg hm hk hb ha hdb he hpl
noncomputable def Tf (K : PySem.W.Frag) (mg : Str -> Option Value) (x : Str) (st : Stmt) : Prop := ∃ f fd, Fun K x x st f fd ∧ mg x = some (.ref f)
theorem us0 {us : List Value} (h : us.length = 0) : us = [] := List.length_eq_zero_iff.mp h
theorem us1 {us : List Value} (h : us.length = 1) : ∃ a, us = [a] := by
 obtain ⟨a, r⟩ := List.exists_cons_of_length_eq_add_one h
 obtain ⟨t, rfl⟩ := r
 rw [us0 (us := t) (by simpa using h)]
 exact ⟨a, rfl⟩
theorem us2 {us : List Value} (h : us.length = 2) : ∃ a b, us = [a, b] := by
 obtain ⟨a, t, rfl⟩ := List.exists_cons_of_length_eq_add_one h
 obtain ⟨b, rfl⟩ := us1 (us := t) (by simpa using h)
 exact ⟨a, b, rfl⟩
theorem us3 {us : List Value} (h : us.length = 3) : ∃ a b c, us = [a, b, c] := by
 obtain ⟨a, t, rfl⟩ := List.exists_cons_of_length_eq_add_one h
 obtain ⟨b, c, rfl⟩ := us2 (us := t) (by simpa using h)
 exact ⟨a, b, c, rfl⟩
theorem Zdh {K : PySem.W.Frag} {h : Heap} {mg : Str -> Option Value} {x : Str} {st : Stmt} {f : Addr} {oc : Value} {od an : Option Addr} {osl : Array (Option Value)} {kV doc pm cdv ct : Value} (X : K.In h) (G : h.Ns mainGlobals mg)
  (a : PySem.W.nsIn K mainGlobals x = some (some (.ref f))) (l : K.lookup f = some ⟨oc, od, .func (PySem.W.fnOf x x (Zes st) (Zcn st) (Zal st) .none kV doc pm an cdv ct), osl⟩)
  (c : PySem.W.codeIn K cdv x = true) (k : PySem.W.keepIn K (.ref f) = true) : Tf K mg x st := ⟨f, _, Zs2 l c k, PySem.W.mg_of X G a⟩
theorem Zdg {P : Program} {w : World} {K : PySem.W.Frag} {mg : Str -> Option Value} {base : Heap} {x : Str} {st : Stmt} {N ps : List Str} {k : Nat} {b : SF} (T : Tf K mg x st) (S : FnScope N ps (Zal st))
  (hbd : ∀ (kV doc pm : Value) (an : Option Addr) (cdv ct : Value) (us : List Value), us.length = ps.length -> bindArgs (PySem.W.fnOf x x (Zes st) (Zcn st) (Zal st) .none kV doc pm an cdv ct) ⟨us, []⟩ = pure (ps.zip us))
  (hb : ∀ (f : Addr) (cdv : Value) (A : Around) (outer : List Env) (s : Shared) (H : Hp) (E : XK), Room k (A.deeper (envOfC x (Zal st) s.heap.objs.size f cdv)) →
   Zmp (Zfn CX0 P w K mg base N x (Zal st) f cdv A outer s H E).nox (Zcn st) b) : Fn P w K mg base (k + 1) x ps (Zcr ps.length N.length b) := by
 obtain ⟨f, fd, F, hm⟩ := T
 refine ⟨f, fd, fn_f F S fun cdv A outer s H E hr => hb f cdv A outer s H E hr, F.binds hbd, F.kp, hm, ?_⟩
 obtain ⟨oc, od, kV, doc, pm, an, cdv, ct, osl, rfl, lk, hcd⟩ := F.ex
 exact ⟨oc, od, osl, lk⟩
noncomputable def blkB (sc scope : Scope) (N : List Str) (x : Str) (cn : List Str) (ci : List Nat) : Bool :=
 (scope.kind == .function) && scope.names.all (fun y => y.2 != .cell) && scope.names.all (fun y => y.2 != .local || scope.names.lookup y.1 == some .local) && (scope.names.lookup x == some .local) &&
 scope.names.all (fun y => y.2 != .free || sc.names.lookup y.1 == some .cell) && decide (x :: cn).Nodup && (ci.length == cn.length) &&
 (cn.zip ci).all (fun p => N[p.2]? == some p.1 && scope.names.lookup p.1 == some .free && sc.names.lookup p.1 == some .cell)
theorem Zij {P : Program} {w : World} {K : PySem.W.Frag} {mg : Str -> Option Value} {base : Heap} {N : List Str} {qual : Str} {sc scope : Scope} {f : Addr} {cdv : Value} {A : Around} {outer : List Env} {s : Shared} {H : Hp} {E : XK} {x : Str} {cn : List Str} {ci : List Nat}
  (h : blkB sc scope N x cn ci = true) : BlkOk (Zfn CX0 P w K mg base N qual sc f cdv A outer s H E).nox scope x cn ci := by
 unfold blkB at h
 simp only [Bool.and_eq_true, List.all_eq_true, Bool.or_eq_true, bne_iff_ne, ne_eq, beq_iff_eq, decide_eq_true_eq] at h
 obtain ⟨⟨⟨⟨⟨⟨⟨h1, h2⟩, h3⟩, h4⟩, h5⟩, h6⟩, h7⟩, h8⟩ := h
 refine ⟨h1, fun y hy => h2 y hy, fun y hy hl => (h3 y hy).resolve_left fun z => z hl, h4, fun y hy hf => ?_, h6, h7, fun j y hj => ?_⟩
 ·have := (h5 y hy).resolve_left fun z => z hf
  obtain ⟨c, hc⟩ := Zjg (n := s.heap.objs.size + 1) this
  exact Option.isSome_iff_exists.mpr ⟨c, hc⟩
 ·have hl : j < ci.length := by rw [h7]; exact (List.getElem?_eq_some_iff.mp hj).1
  have hm : (y, ci[j]) ∈ cn.zip ci := by
   refine List.mem_iff_getElem?.mpr ⟨j, ?_⟩
   rw [List.getElem?_zip_eq_some]
   exact ⟨hj, by simp [hl]⟩
  obtain ⟨⟨k1, k2⟩, k3⟩ := h8 _ hm
  exact ⟨ci[j], by simp [hl], k1, k2, .inl k3⟩
theorem Zci : bootBuiltins "len" = some (.builtin "len") := by decide +kernel
theorem Zj6 : bootBuiltins "abs" = some (.builtin "abs") := by decide +kernel
theorem Zxa : bootBuiltins "max" = some (.builtin "max") := by decide +kernel
theorem Zb5 : bootBuiltins "isinstance" = some (.builtin "isinstance") := by decide +kernel
theorem Zsz : bootBuiltins "all" = some (.builtin "all") := by decide +kernel
theorem Zfz : bootBuiltins "int" = some (.type "int") := by decide +kernel
theorem Zcq : bootBuiltins "tuple" = some (.type "tuple") := by decide +kernel
theorem Zv6 : bootBuiltins "list" = some (.type "list") := by decide +kernel
theorem Zpu : bootBuiltins "bool" = some (.type "bool") := by decide +kernel
theorem Zzn : bootBuiltins "str" = some (.type "str") := by decide +kernel
section
variable {X : Cx} {tg : Expr}
theorem Zvm {K : PySem.W.Frag} {H0 : Hp} {ι0 : List Addr} {a : Addr} {xs : List D} {vs : List V} (hS : SqT K H0 a vs) (P : Paired (Rep K H0 ι0) xs vs) : ItRep K (Itt K a) xs [] H0 ι0 := by
 refine ⟨fun i H2 ι2 Hd2 l2 h2 _ hi => ?_, fun i H2 ι2 Hd2 d x H3 l2 h2 _ hd y => ?_, fun i H2 ι2 Hd2 l2 h2 _ hi => ⟨vs, l2.tup a vs hS, by rw [← Prd.len P]; exact hi⟩⟩
 ·exact ⟨vs, vs[i]'(by rw [← Prd.len P]; exact hi), l2.tup a vs hS, by simp⟩
 ·obtain ⟨rfl, y⟩ := y
  obtain ⟨u, hu, ru⟩ := Prd.get P hd
  have := y vs (l2.tup a vs hS)
  rw [hu] at this
  cases this
  exact ⟨ι2, Le.refl, h2, ru.mono l2⟩
theorem Zxd {K : PySem.W.Frag} {H0 : Hp} {ι0 : List Addr} {a : Addr} {xs : List D} {vs : List V} (hS : FzL K H0 a vs) (P : Paired (Rep K H0 ι0) xs vs) : ItRep K (Itl K a) xs [] H0 ι0 := by
 refine ⟨fun i H2 ι2 Hd2 l2 h2 _ hi => ?_, fun i H2 ι2 Hd2 d x H3 l2 h2 _ hd y => ?_, fun i H2 ι2 Hd2 l2 h2 _ hi => ⟨vs, (l2.fz a vs hS).sq, by rw [← Prd.len P]; exact hi⟩⟩
 ·exact ⟨vs, vs[i]'(by rw [← Prd.len P]; exact hi), (l2.fz a vs hS).sq, by simp⟩
 ·obtain ⟨rfl, y⟩ := y
  obtain ⟨u, hu, ru⟩ := Prd.get P hd
  have := y vs (l2.fz a vs hS).sq
  rw [hu] at this
  cases this
  exact ⟨ι2, Le.refl, h2, ru.mono l2⟩
theorem Zv4 {K : PySem.W.Frag} {H0 : Hp} {ι0 : List Addr} {a : Addr} {n : Nat} {xs : List D} (ha : ι0[n]? = some a) : ItRep K (Itl K a) xs [(n, .lst xs)] H0 ι0 := by
 have now : ∀ {H2 : Hp} {ι2 : List Addr} {Hd2 : HD}, Le K H0 ι0 H2 ι2 -> HRep K H2 ι2 Hd2 -> Zdb [(n, DO.lst xs)] Hd2 -> ∃ ws, H2 a = some (.lst ws) ∧ Paired (Rep K H2 ι2) xs ws := fun {H2 ι2 Hd2} l2 h2 ok =>
  h2.obj n a _ (l2.get ha) (ok (n, .lst xs) (by simp))
 refine ⟨fun i H2 ι2 Hd2 l2 h2 ok hi => ?_, fun i H2 ι2 Hd2 d x H3 l2 h2 ok hd y => ?_, fun i H2 ι2 Hd2 l2 h2 ok hi => ?_⟩
 ·obtain ⟨ws, h3, P3⟩ := now l2 h2 ok
  exact ⟨ws, ws[i]'(by rw [← Prd.len P3]; exact hi), SqL.of h3, by simp⟩
 ·obtain ⟨ws, h3, P3⟩ := now l2 h2 ok
  obtain ⟨rfl, y⟩ := y
  obtain ⟨u, hu, ru⟩ := Prd.get P3 hd
  have := y ws (SqL.of h3)
  rw [hu] at this
  cases this
  exact ⟨ι2, Le.refl, h2, ru⟩
 ·obtain ⟨ws, h3, P3⟩ := now l2 h2 ok
  exact ⟨ws, SqL.of h3, by rw [← Prd.len P3]; exact hi⟩
noncomputable def iSq (f : EF) : ItF := fun σ H => (f σ H).bind fun p => (Zgj p.1 p.2).map fun r => (r, p.2)
theorem Zdv {l : Expr} {f : EF} (hl : PEf X l f) : PIf X tg l (iSq f) := by
 rintro pins s σ H R I ⟨ι, σd, Hd, xs, own, Hd', sr, hr, e, q⟩
 obtain ⟨⟨d, H1⟩, e1, e⟩ := Zo e
 obtain ⟨⟨ys, ow⟩, e2, e⟩ := Zm e
 obtain ⟨e3, rfl⟩ := Prod.mk.inj e
 obtain ⟨rfl, rfl⟩ := Prod.mk.inj e3
 refine thn (hl pins s σ H (fun v H1 => ∃ a, v = .ref a ∧ (((∃ xs, SqL X.K H1 a xs) ∧ R (Itl X.K a) H1) ∨ ((∃ xs, SqT X.K H1 a xs) ∧ R (Itt X.K a) H1))) I ⟨ι, σd, Hd, _, _, sr, hr, e1, fun v H' ι' l h r => ?_⟩) fun v s1 ⟨x, H2, I2, r2, q2⟩ => ?_
 ·cases d with
  | tup zs =>
   cases e2
   obtain ⟨a, vs, rfl, hS, P⟩ := Zb8.mp r
   exact ⟨a, rfl, .inr ⟨⟨vs, hS⟩, q _ H' ι' l h (Zvm hS P)⟩⟩
  | fl zs =>
   cases e2
   obtain ⟨a, vs, rfl, hS, P⟩ := Zfy.mp r
   exact ⟨a, rfl, .inl ⟨⟨vs, hS.sq⟩, q _ H' ι' l h (Zxd hS P)⟩⟩
  | ref n =>
   simp only [Zgj] at e2
   split at e2
   ·rename_i zs eo
    obtain ⟨e5, e6⟩ := Prod.mk.inj (Option.some.inj e2)
    subst e5 e6
    obtain ⟨a, rfl, ha⟩ := Zbq.mp r
    obtain ⟨vs, h1, P⟩ := h.obj n a _ ha eo
    exact ⟨a, rfl, .inl ⟨⟨vs, SqL.of h1⟩, q _ H' ι' l h (Zv4 ha)⟩⟩
   ·cases e2
  | _ => simp [Zgj] at e2
 ·obtain ⟨a, rfl, q2⟩ := q2
  cases r2
  have fp : ∀ b ∈ [s1.heap.objs.size], Zpx X pins H2 b := fun b hb => by
   have e : b = s1.heap.objs.size := by simpa using hb
   subst e
   exact I2.fpOk (Nat.le_refl _) (I2.hok.fresh (Nat.le_refl _))
  rcases q2 with ⟨⟨xs, hq⟩, q2⟩ | ⟨⟨xs, hq⟩, q2⟩
  ·obtain ⟨its, rv, p, hz⟩ := I2.list hq
   exact wpAny_pyIter_list p.isList ⟨s1.heap.objs.size, [s1.heap.objs.size], _, _, H2, rfl, I2.kept (t' := s1.toks) fun b o e => Heap.get?_push_of_some _ e, Zp0 a _, ⟨_, Heap.get?_push_size _ rfl, rfl, rfl⟩, fp, q2⟩
  ·obtain ⟨its, rv, p, hz⟩ := I2.tuple hq
   exact wpAny_pyIter_tuple (show s1.heap.IsTuple a its.toArray from p) ⟨s1.heap.objs.size, [s1.heap.objs.size], _, _, H2, rfl, I2.kept (t' := s1.toks) fun b o e => Heap.get?_push_of_some _ e, Zmy a _, ⟨_, Heap.get?_push_size _ rfl, rfl, rfl⟩, fp, q2⟩
end
theorem Zag {X : Cx} {e : Expr} {es : List Expr} {f : EF} {g : AF} (ha : PEf X e f) (hr : PAf X es g) (hs : Zlt e = true) : PAf X (e :: es) (Zac f g) := Zg3 ha hr (Zbe hs)
noncomputable def Zxl (F : FF) (K : PySem.W.Frag) : Sp := spF K 1 F
theorem Zn7 {F : FF} (h : ∀ ns : List Int, ns.length ≤ 63 -> ∃ Hd', F [.fl (ns.map .int)] [] = some (.bl true, Hd')) :
  ∀ (K : PySem.W.Frag) (H : Hp) (a : Addr) (ns : List Int), ns.length ≤ 63 -> Zyd H -> SqL K H a (ns.map V.int) -> Zxl F K [.ref a] H (fun v _ => v = .bl true) fun _ _ _ => False := by
 intro K H a ns hl hO hS
 obtain ⟨Hd', e⟩ := h ns hl
 have fz : FzL K H a (ns.map V.int) := by
  rcases hS with (h | h) | h
  ·rcases hO a with z | ⟨o, xs, z⟩
   ·rw [h] at z; cases z
   ·rw [h] at z; cases z
  ·exact .inl h
  ·exact .inr h
 have P : Paired (Rep K H []) (ns.map D.int) (ns.map V.int) := by
  generalize ns = ks
  induction ks with
  | nil => exact .nil
  | cons k ks ih => exact .cons (by simp) ih
 refine ⟨[], [.fl (ns.map .int)], [], .bl true, Hd', rfl, ⟨rfl, List.nodup_nil, fun n a o h1 h2 => by simp at h1⟩, .cons (Zfy.mpr ⟨a, _, rfl, fz, P⟩) .nil, e, fun v H' ι' l h r => by simpa using r⟩
variable {X : Cx}
noncomputable def Zh1 (x : PyData) : Bool := x.canLay0 && x.showable && decide (x.depth ≤ 30) && decide (x.shown.length ≤ sizeLine)
noncomputable def Zsa : FF := fun ds H => match ds with
 | [d] => (toP H 30 d).bind fun x => if Zh1 x = true then some (.str x.shown, H) else none
 | _ => none
noncomputable def Zwn : List D -> Option (List Bool)
 | [] => some []
 | .bl b :: r => (Zwn r).map fun x => b :: x
 | _ :: _ => none
theorem Zjx {K : PySem.W.Frag} {H : Hp} {ι : List Addr} : ∀ {xs : List D} {bs : List Bool} {vs : List V} {us : List Value}, Zwn xs = some bs -> Paired (Rep K H ι) xs vs -> Zbk vs us -> us = bs.map .bool
 | [], bs, vs, us, e, P, q => by cases e; cases P; cases q; rfl
 | d :: r, bs, vs, us, e, P, q => by
  cases P with
  | cons p P =>
   cases q with
   | cons q Q =>
    cases d <;> simp only [Zwn] at e <;> try cases e
    obtain ⟨y, e1, rfl⟩ := Zm e
    simp at p
    subst p
    cases q
    rw [Zjx e1 P Q]
    rfl
theorem Zso (bs : List Bool) : Zwn (bs.map .bl) = some bs := by
 induction bs with
 | nil => rfl
 | cons b r ih => simp [Zwn, ih]
noncomputable def Zvr : FF := fun ds H => match ds with
 | [.ref n] => match H[n]? with
  | some (.lst xs) => (Zwn xs).map fun bs => (.bl (bs.all id), H)
  | _ => none
 | _ => none
theorem Zpf (bs : List Bool) : ((List.range bs.length).all fun i => (bs[i]?).getD true) = bs.all id := by
 rw [Bool.eq_iff_iff, List.all_eq_true, List.all_eq_true]
 constructor
 ·intro h x hx
  obtain ⟨i, hi, rfl⟩ := List.getElem_of_mem hx
  have := h i (by simpa using hi)
  simpa [hi] using this
 ·intro h i hi
  have hi : i < bs.length := by simpa using hi
  have := h _ (List.getElem_mem hi)
  simpa [hi] using this
theorem Zjq (hc : X.calm = true) : Zgr X (.builtin "all") Zvr := by
 rintro pins s σ H xs us Q I rv ⟨ι, ds, Hd, d, Hd', hr, P, e, q⟩
 unfold Zvr at e
 split at e
 ·rename_i n
  split at e
  ·rename_i ys eo
   obtain ⟨bs, e1, e⟩ := Zm e
   obtain ⟨rfl, rfl⟩ := Prod.mk.inj e
   obtain ⟨v, rfl, r⟩ := Zjh P
   obtain ⟨a, rfl, ha⟩ := Zbq.mp r
   obtain ⟨vs, h1, P2⟩ := hr.obj n a _ ha eo
   cases rv with
   | cons rx rv =>
    cases rv
    cases rx
    obtain ⟨its, rv2, p, hz⟩ := I.list (SqL.of h1)
    have eits := Zjx e1 P2 rv2
    have hlt : a < s.heap.objs.size := by
     obtain ⟨o, ho, _⟩ := p.isList
     exact Heap.lt_size ho
    refine call_all_walk (wpAny_pyIter_list p.isList ⟨s.heap.objs.size, [s.heap.objs.size, a], [s.heap.objs.size], its.toArray.size, _, _, fun i => (bs[i]?).getD true, rfl,
     Walks.list (A := X.A.in1) (show X.A.in1.handled = none from I.ok.hd hc) s.heap.objs.size a (Nat.ne_of_lt hlt) its.toArray, ⟨⟨_, Heap.get?_push_size _ rfl, rfl, rfl⟩, p.isList.at fun o z => Heap.get?_push_of_some _ z⟩, ?_, fun h' tk k => ?_⟩)
    ·intro i v s2 Q2 E2 hv hq
     rw [eits] at hv
     have hv2 : (bs.map Value.bool)[i]? = some v := by simpa using hv
     rw [List.getElem?_map] at hv2
     obtain ⟨b, hb, rfl⟩ := Zm hv2
     refine wpAny_truthy_bool ?_
     simpa [hb] using hq
    ·have hn : its.toArray.size = bs.length := by rw [eits]; simp
     rw [hn, Zpf]
     refine ⟨.bl (bs.all id), H, I.kept (t' := tk) fun b o z => k b o ?_ (Heap.get?_push_of_some _ z), rfl, q _ H ι Le.refl hr (by simp)⟩
     intro hm
     have : b = s.heap.objs.size := by simpa using hm
     exact absurd (this ▸ Heap.lt_size z) (Nat.lt_irrefl _)
  ·cases e
 ·cases e
end DL
namespace HT
open PySem PySem.Spec PyProof.Rows
section
variable {prog : Program} {w : World} {A : Around} {E : Value -> Shared -> Prop} {s : Shared}
end
end HT
namespace DL
open PySem PySem.Spec PyProof.Rows L2
variable {X : Cx}
section
variable {a b c : Expr} {pos : Pos}
noncomputable def eCh (g g' : F2) (fa fb fc : EF) : EF := fun σ H => (fa σ H).bind fun p => (fb σ p.2).bind fun q => (g p.1 q.1 q.2).bind fun z => (blD z.1).bind fun k => if k = true then (fc σ z.2).bind fun w => g' q.1 w.1 w.2 else some (.bl false, z.2)
end
noncomputable def Gc (K : PySem.W.Frag) (mg : Str -> Option Value) (x : Str) (d : D) : Prop := ∃ u v, mg x = some u ∧ Zct v u ∧ ∀ H ι, Rep K H ι d v
theorem Zgi {x : Str} {d : D} {pos : Pos} (hg : Gl X x) (h : Gc X.K X.mg x d) (hd : (x == ("__debug__" : Str)) = false := by decide) : PEf X (.Name x pos) (eC d) := by
 obtain ⟨u, v, hm, r, rp⟩ := h
 exact Zmx (Zob (v := v) hg hm r hd) rp
theorem Zou {K : PySem.W.Frag} {h : Heap} {mg : Str -> Option Value} {x : Str} {i : Int} {t : Tok} (X : K.In h) (G : h.Ns mainGlobals mg) (a : PySem.W.nsIn K mainGlobals x = some (some (.int i t))) : Gc K mg x (.int i) :=
 ⟨_, .int i, PySem.W.mg_of X G a, ⟨t, rfl⟩, fun _ _ => by simp⟩
theorem Zru {K : PySem.W.Frag} {h : Heap} {mg : Str -> Option Value} {x s1 s2 : Str} {p : Addr} {t1 t2 : Tok} {n : Nat} {osl : Array (Option Value)} (X : K.In h) (G : h.Ns mainGlobals mg) (a : PySem.W.nsIn K mainGlobals x = some (some (.ref p)))
  (l : K.lookup p = some ⟨.type "tuple", none, .seq #[.str s1 t1, .str s2 t2] n, osl⟩) : Gc K mg x (.tup [.str s1, .str s2]) := by
 refine ⟨_, .ref p, PySem.W.mg_of X G a, rfl, fun H ι => Zb8.mpr ⟨p, [.str s1, .str s2], rfl, .inr ⟨_, _, _, l, rfl, rfl, ?_, ?_, rfl⟩, ?_⟩⟩
 ·show 2 ≤ sizeLine
  rw [PySem.sizeLine_eq]; omega
 ·exact .cons ⟨t1, rfl⟩ (.cons ⟨t2, rfl⟩ .nil)
 ·exact .cons (by simp) (.cons (by simp) .nil)
noncomputable def revD (x : D) (H : HD) : Option (D × HD) := match x with
 | .tup xs => mkT xs.reverse H
 | _ => none
noncomputable def eRv (fe : EF) : EF := fun σ H => (fe σ H).bind fun p => revD p.1 p.2
variable {X : Cx}
noncomputable def Zq8 (kvs : List (D × D)) (k : List Int) : Option D := (kvs.find? fun p => nk p.1 == some k).map (·.2)
noncomputable def dput (kvs : List (D × D)) (kd : D) (k : List Int) (vd : D) : List (D × D) :=
 if (Zq8 kvs k).isSome then kvs.map (fun p => if nk p.1 = some k then (p.1, vd) else p) else kvs ++ [(kd, vd)]
section
variable {K : PySem.W.Frag} {H : Hp} {ι : List Addr}
end
section
variable {pins : List (Addr × Obj)} {σ : L2.St} {H : Hp} {s : Shared} {ι : List Addr} {Hd : HD}
end
noncomputable def dicD (x : D) (H : HD) : Option (List (D × D)) := match x with
 | .ref n => match H[n]? with
  | some (.dic kvs _) => some kvs
  | _ => none
 | _ => none
noncomputable def Zzz : F2 := fun x y H => (dicD x H).bind fun kvs => (nk y).bind fun k => (Zq8 kvs k).map fun v => (v, H)
noncomputable def eDN : EF := fun _ H => some (.ref H.length, H ++ [.dic [] false])
section
variable {prog : Program} {w : World} {kd : HeapKind prog w (List Int)} {A : Around} {E : Value -> Shared -> Prop} {s : Shared}
end
noncomputable def Zvx (x : D) (ds : List D) (H : HD) : Option (D × HD) := match x, ds with
 | .ref n, [y, v] => match H[n]? with
  | some (.dic kvs false) => (nk y).bind fun k => if kvs.length < sizeLine then match Zq8 kvs k with
   | some z => some (z, H)
   | none => some (v, H.set n (.dic (dput kvs y k v) false))
   else none
  | _ => none
 | _, _ => none
noncomputable def Zym : D -> HD -> Bool
 | .ref n, H => match H[n]? with
  | some (.dic _ _) => true
  | _ => false
 | _, _ => false
noncomputable def eDM (g : D -> List D -> HD -> Option (D × HD)) (fo : EF) (f : AF) : EF := fun σ H => (fo σ H).bind fun o => if Zym o.1 o.2 = true then (f σ o.2).bind fun p => g o.1 p.1 p.2 else none
section
variable {prog : Program} {w : World} {A : Around} {E : Value -> Shared -> Prop} {s : Shared}
end
variable {X : Cx} {tg : Expr}
noncomputable def iDic (f : EF) : ItF := fun σ H => (f σ H).bind fun p => match p.1 with
 | .ref n => match p.2[n]? with
  | some (.dic kvs _) => some ((kvs.map (·.1), [(n, .dic kvs true)]), p.2.set n (.dic kvs true))
  | _ => none
 | _ => none
section
variable {prog : Program} {w : World} {A : Around} {E : Value -> Shared -> Prop} {s : Shared}
theorem Zu4 {T newId : String} {self a : Value} {kw : List (Str × Value)} (hl : typeLookup (.type T) "__init__" = pure (some (.builtin "object.__init__")))
  (hm : Bind.madeBy (.type T) = pure (some newId)) (hne : (some newId != some "object.__new__") = true) :
  Meets (Builtin.«object.__init__» ⟨[self, a], kw⟩) (fun _ R s => s.TypeIs self T ∧ R (.ok (.ret .none)) s) := by
 refine Meets.of_wp fun prog w A R s zz => ?_
 obtain ⟨hT, hq⟩ := zz
 repeat (any_goals (first | assumption | wp_step))
 exact ⟨_, rfl, hq⟩
theorem tc_kw (a v : Value) : checkTypeCall "enumerate" ⟨[a], [("start", v)]⟩ = pure () := by kernel_rfl
theorem nc_kw (a v : Value) : checkBuiltinCall "enumerate.__new__" ⟨[.type "enumerate", a], [("start", v)]⟩ = pure () := by kernel_rfl
open AutoSeq1 (wpAny_loadPart') in
theorem Zxx (t : Addr) (its : Array Value) (n : Nat) (dct : Option Addr) (sl : Array (Option Value)) (tk0 : Tok) :
  Meets (Builtin.«enumerate.__new__» ⟨[.type "enumerate", .ref t], [("start", .int 1 tk0)]⟩) (fun _ R s => s.heap.get? t = some { cls := .type "tuple", dict := dct, data := .seq its n, slots := sl } ∧
   R (.ok (.ret (.ref (s.heap.push { cls := .type "tuple_iterator", data := .fields #[.ref t, .int 0 0] }).objs.size)))
    { s with heap := (s.heap.push { cls := .type "tuple_iterator", data := .fields #[.ref t, .int 0 0] }).push { cls := .type "enumerate", data := .fields #[.none, .bool false, .ref s.heap.objs.size, rawInt 1, .none, .none] } }) :=
 .of_wp fun prog w A R s h => by
  obtain ⟨hp, g, d, tk, os⟩ := s; obtain ⟨hl, h⟩ := h
  have hsub := sub_enumerate
  have hL : Heap.IsTuple (Shared.heap ⟨hp, g, d, tk, os⟩) t its := ⟨_, hl, rfl, n, rfl⟩
  wp_walk using wpAny_loadPart' hl
  refine wpAny_stack_any fun st => wpAny_pure ?_
  split
  ·rename_i k _ _ _ _ _
   cases (k == Value.type "enumerate") <;> (wp_walk using wpAny_loadPart' hl, wpAny_pyIter_tuple hL; exact ⟨_, rfl, h⟩)
  ·wp_walk using wpAny_loadPart' hl, wpAny_pyIter_tuple hL
   exact ⟨_, rfl, h⟩
end
section
variable {prog : Program} {w : World} {A : Around} {E : Value -> Shared -> Prop} {s : Shared}
theorem Zu7 {args : List Value} {kw : List (Str × Value)} {newId : String} {Bn : Builtin} {T : String} {S : PySem.Spec} {Q : Value → Shared → Prop} (ft : TypeCalled T newId "object.__init__") (hne : (some newId != some "object.__new__") = true)
  (hct : checkTypeCall T ⟨args, kw⟩ = pure ()) (hcn : checkBuiltinCall newId ⟨.type T :: args, kw⟩ = pure ()) (entryN : entryFor table newId = some Bn) (g : Meets (Bn ⟨.type T :: args, kw⟩) S)
  (hok : ∀ obj, argsOk "object.__init__" ⟨obj :: args, kw⟩) (gi : ∀ obj, Meets (Builtin.«object.__init__» ⟨obj :: args, kw⟩) (fun _ R s => s.TypeIs obj T ∧ R (.ok (.ret .none)) s))
  (h : S A.in1 (wants (fun obj s₁ => s₁.TypeIs obj T ∧ Q obj s₁) E) s) : wpAny (model prog w) A (call (.type T) args kw) Q E s := by
 obtain ⟨c, tl, hmro⟩ := ft.mro
 have hmade := ft.made
 have hsub := ft.sub
 have n1 := ft.notType
 have n2 := ft.canCreate
 refine wpAny_call (codeAny_of_tree (show wpAny _ _ (callAny (.type T) _) _ _ _ from wpAny_pure ⟨Code.quiet_builtin _ (by decide +kernel), codeAny_builtin F.entry_type_call ?_⟩))
 rw [Around.under_plain (weight_type_call_type T args kw) (units_type_call_type T args kw)]
 repeat (any_goals (first | assumption | wp_step))
 refine codeAny_mono (codeAny_call_builtin ft.plain entryN (wpAny_of_eq hcn (g prog w A.in1 _ s h))) fun r s₁ hr => ?_
 cases r with
 | error e => exact hr
 | ok fl =>
  cases fl with
  | ret obj =>
   obtain ⟨hT, hq⟩ : s₁.TypeIs obj T ∧ Q obj s₁ := hr
   have hli := ft.init.lookup
   have hbi := ft.init.bind obj
   repeat (any_goals (first | assumption | wp_step))
   refine codeAny_mono (codeAny_call_builtin ft.init.plain F.entry_object_init (ft.init.check _ _ _ _ _ _ _ _ hT (hok obj) (gi obj prog w A.in1 (wants (fun r s₂ => r = .none ∧ Q obj s₂) E) s₁ ⟨hT, rfl, hq⟩))) fun r₂ s₂ hr₂ => ?_
   cases r₂ with
   | error e => exact hr₂
   | ok fl₂ =>
    cases fl₂ with
    | ret r =>
     obtain ⟨rfl, hq2⟩ := hr₂
     repeat (any_goals (first | assumption | wp_step))
    | _ => exact hr₂.elim
  | _ => exact hr.elim
theorem Zh2 {M : Model} {pos : Pos} {T : String} {args : List (Bool × Sem Value)} {kws : List (Option Str × Sem Value)} {Q : Value -> Shared -> Prop} (h1 : args.any (·.1) = false) (h2 : kws.any (·.1.isNone) = false)
  (h : wpAny M A (evalArgs (.type T) true args kws) (fun a s₁ => wpAny M A (call (.type T) a.pos a.kw) Q E s₁) E s) : wpAny M A (callWith pos (.type T) [] args kws) Q E s := by
 unfold callWith
 refine wpAny_bind (wpAny_holding (thn h fun a s₁ q => wpAny_bind (wpAny_standAt ?_)))
 simp only [h1, h2, Bool.or_false]
 exact wpAny_bind (wpAny_pure (wpAny_bind (thn q fun r s₂ q2 => wpAny_bind (wpAny_holding (wpAny_point (wpAny_pure q2))))))
theorem Zpb (a b v : Value) : argsOk "object.__init__" ⟨[a, b], [("start", v)]⟩ := by
 unfold argsOk
 first | decide +kernel | kernel_rfl | (intro _; kernel_rfl)
end
variable {X : Cx}
noncomputable def Zs3 (f : AF) : ItF := fun σ H => (f σ H).bind fun p => match p.1 with
 | [.tup xs] => some ((Zd8 1 xs, []), p.2)
 | _ => none
variable {X : Cx} {tg : Expr}
section
variable {X : Cx} {c : Expr} {pos : Pos}
end
section
variable {X : Cx} {e : Expr} {es : List Expr} {pos : Pos}
noncomputable def eTM (g : D -> List D -> HD -> Option (D × HD)) (fo : EF) (f : AF) : EF := fun σ H => (fo σ H).bind fun o => if Zv3 o.1 = true then (f σ o.2).bind fun p => g o.1 p.1 p.2 else none
end
section
variable {prog : Program} {w : World} {A : Around} {E : Value -> Shared -> Prop} {s : Shared}
end
open Builtin.SmallTypes (nextOf)
noncomputable def SqI (b : Bool) (h : Heap) (i l : Addr) (n : Nat) : Prop := ∃ o, h.get? i = some o ∧ o.cls = .type (if b then "list_iterator" else "tuple_iterator") ∧ o.data = .fields #[.ref l, .int n 0]
noncomputable def SqX (b : Bool) (h : Heap) (l : Addr) (xs : Array Value) : Prop := ∃ o, h.get? l = some o ∧ o.cls = .type (if b then "list" else "tuple") ∧ ∃ n, o.data = .seq xs n
theorem SqI.lt {b : Bool} {h : Heap} {i l : Addr} {n : Nat} (x : SqI b h i l n) : i < h.objs.size := let ⟨_, e, _⟩ := x; Heap.lt_size e
section
variable {prog : Program} {w : World} {A : Around} {E : Value -> Shared -> Prop} {s : Shared}
theorem Zuc {b : Bool} {i l : Addr} {n : Nat} {xs : Array Value} {x : Value} {Q : Value -> Shared -> Prop} (hi : SqI b s.heap i l n) (hl : SqX b s.heap l xs) (hx : xs[n]? = some x)
  (hQ : ∀ h', SqI b h' i l (n + 1) -> Heap.SameBut i s.heap h' -> Q x { s with heap := h' }) : wpAny (model prog w) A (nextOf (.ref i)) Q E s := by
 cases b
 ·exact Zrc hi hl hx hQ
 ·exact wpAny_nextOf_list_item hi hl hx hQ
theorem Zyn {b : Bool} {i l : Addr} {n : Nat} {xs : Array Value} {Q : Value -> Shared -> Prop} (hh : A.handled = none) (hi : SqI b s.heap i l n) (hl : SqX b s.heap l xs) (hx : xs[n]? = none)
  (hE : ∀ h' e, Heap.ExtBut i s.heap h' → (∃ o, h'.get? e = some o ∧ o.cls = .type "StopIteration") → E (.ref e) { s with heap := h' }) : wpAny (model prog w) A (nextOf (.ref i)) Q E s := by
 cases b
 ·exact Zub hh hi hl hx hE
 ·exact wpAny_nextOf_list_end hh hi hl hx hE
variable {z TI TO i1 i2 l1 l2 : Addr} {k1 k2 : Nat} {xs ys : Array Value} {b1 b2 : Bool}
end
noncomputable def srcD (d : D) (H : HD) : Option (List D × Zfq) := match d with
 | .tup xs => some (xs, [])
 | .ref n => match H[n]? with
  | some (.lst xs) => some (xs, [(n, .lst xs)])
  | _ => none
 | _ => none
section
variable {X : Cx} {pins : List (Addr × Obj)} {σ : L2.St} {H : Hp} {s : Shared} {b : Bool} {l : Addr} {xs ys : List V}
end
noncomputable def Zzy (f : AF) : ItF := fun σ H => (f σ H).bind fun p => match p.1 with
 | [d1, d2] => (srcD d1 p.2).bind fun a => (srcD d2 p.2).map fun b => ((zipL a.1 b.1, a.2 ++ b.2), p.2)
 | _ => none
theorem Zfx : ∀ {ns : List Int} {us : List Value}, Zbk (ns.map V.int) us -> us.length = ns.length ∧ ∀ (i : Nat) (v : Value), us[i]? = some v -> ∃ t, v = .int ((ns[i]?).getD 0) t
 | [], us, h => by
  cases h
  exact ⟨rfl, by intro i v e; simp at e⟩
 | n :: r, us, h => by
  cases h with
  | cons p Q =>
   obtain ⟨h1, h2⟩ := Zfx Q
   refine ⟨by simp [h1], ?_⟩
   intro i v e
   cases i with
   | zero =>
    obtain ⟨t, rfl⟩ := p
    simp at e
    exact ⟨t, by simpa using e.symm⟩
   | succ i =>
    simp at e
    simpa using h2 i v e
section
variable {X : Cx}
end
section
variable {X : Cx} {e : Expr} {pos : Pos}
noncomputable def Zqv : SF := fun _ _ => none
theorem Zgh {st : Stmt} : PSf X st Zqv := by
 rintro pins s σ H E I ⟨ι, σd, Hd, fl, σd', Hd', _, _, e, _⟩
 cases e
end
noncomputable def LtAt (A : Around) (s : Shared) (x y : Value) (b : Bool) : Prop := ∀ (prog : Program) (w : World) (E Q : Value -> Shared -> Prop), Q (.bool b) s -> wpAny (model prog w) A (richCompare .Lt x y) Q E s
inductive LexAt (A : Around) (s : Shared) : List Value -> List Value -> Bool -> Prop
 | nn : LexAt A s [] [] false
 | nc {w ws} : LexAt A s [] (w :: ws) true
 | cn {v vs} : LexAt A s (v :: vs) [] false
 | eq {v vs w ws r} : SeqAt.EqAt A s v w true -> LexAt A s vs ws r -> LexAt A s (v :: vs) (w :: ws) r
 | ne {v vs w ws r} : SeqAt.EqAt A s v w false -> LtAt A s v w r -> LexAt A s (v :: vs) (w :: ws) r
section
open PySem.SeqAt
open PySem.AutoSeq1 (wpAny_loadPart')
open PySem.MeetsSeq PySem.MeetsSeq2 PySem.MeetsSeq3
end
section
variable {prog : Program} {w : World} {A : Around} {R : Result -> Shared -> Prop} {J S : Addr} {fp wr : List Addr} {n : Nat} {P : Nat -> Value -> Prop} {St : Nat -> Heap -> Prop} {Gd : Heap -> Prop} {bt : Nat -> Nat -> Bool}
noncomputable def Holds (wr : List Addr) (S : Addr) (h h' : Heap) : Prop := ∀ b o, b ∉ wr -> b ≠ S -> h.get? b = some o -> h'.get? b = some o
end
section
variable {X : Cx}
end
section
variable {prog : Program} {w : World} {A : Around} {R : Result -> Shared -> Prop} {J d : Addr} {fp wr : List Addr} {n : Nat} {P : Nat -> Value -> Prop} {St : Nat -> Heap -> Prop} {Gd : Nat -> Heap -> Prop}
end
structure BlkOk2 (X : Cx) (scope : Scope) (x y : Str) (cn : List Str) (ci : List Nat) : Prop where
 kind : scope.kind = .function
 nocell : ∀ y ∈ scope.names, y.2 ≠ .cell
 names : ∀ y ∈ scope.names, y.2 = .local -> scope.names.lookup y.1 = some .local
 tgt : scope.names.lookup x = some .local
 tgt2 : scope.names.lookup y = some .local
 free : ∀ y ∈ scope.names, y.2 = .free -> (X.env.cells.lookup y.1).isSome = true
 nd : (x :: y :: cn).Nodup
 len : ci.length = cn.length
 cap : ∀ (j : Nat) (y : Str), cn[j]? = some y -> ∃ i, ci[j]? = some i ∧ X.N[i]? = some y ∧ scope.names.lookup y = some .free ∧ (X.env.kindOf y = some .cell ∨ X.env.kindOf y = some .free)
section
variable {X : Cx} {pins : List (Addr × Obj)} {σ : L2.St} {H : Hp} {s : Shared} {scope : Scope} {x y0 : Str} {cn : List Str} {ci : List Nat} {fp : List Addr}
end
open Builtin.SmallTypes (nextOf)
section
variable {prog : Program} {w : World} {A : Around} {E : Value -> Shared -> Prop} {s : Shared}
theorem Znz {j t : Addr} {i : Nat} {its : Array Value} {x : Value} {Q : Value -> Shared -> Prop} (hj : s.heap.IsListIter j t i) (ht : s.heap.IsList t its) (hx : its[i]? = some x)
  (hQ : ∀ h', h'.IsListIter j t (i + 1) -> Heap.SameBut j s.heap h' -> Q x { s with heap := h' }) : wpAny (model prog w) A (nextOf (.ref j)) Q E s :=
 Zuc (b := true) hj ht hx hQ
theorem Zrg {j t : Addr} {i : Nat} {its : Array Value} {Q : Value -> Shared -> Prop} (hh : A.handled = none) (hj : s.heap.IsListIter j t i) (ht : s.heap.IsList t its) (hx : its[i]? = none)
  (hE : ∀ h' e, Heap.ExtBut j s.heap h' → (∃ o, h'.get? e = some o ∧ o.cls = .type "StopIteration") → E (.ref e) { s with heap := h' }) : wpAny (model prog w) A (nextOf (.ref j)) Q E s :=
 Zyn (b := true) hh hj ht hx hE
theorem Zm1 {e j t : Addr} {i : Nat} {c : Int} {its : Array Value} {x old : Value} {Q : Option Value -> Shared -> Prop} (he : IsEnum s.heap e j c old) (hj : s.heap.IsListIter j t i) (ht : s.heap.IsList t its) (hx : its[i]? = some x) (hne : e ≠ j)
  (hQ : ∀ h' tk, IsEnumOut h' e j (c + 1) x s.heap.objs.size → h'.IsListIter j t (i + 1) → h'.get? s.heap.objs.size = some { cls := .type "tuple", data := .seq #[.int c tk, x] } → h'.objs.size = s.heap.objs.size + 1 →
   (∀ b o, b ≠ e -> b ≠ j -> s.heap.get? b = some o -> h'.get? b = some o) -> Q (some (.ref s.heap.objs.size)) { s with heap := h', toks := s.toks + 1 }) :
  wpAny (model prog w) A (pyNext (.ref e)) Q E s := by
 have hT : s.TypeIs (.ref e) "enumerate" := ⟨_, he, rfl⟩
 unfold pyNext
 refine wpAny_bind (wpAny_attempt (wpAny_callSpecial?_slot (name := Str.ofString "__next__") hT F.slot_enumerate_next (wpAny_call_entry F.slot_enumerate_next hT F.entry_enumerate_next ?_ (F.args_enumerate_next_1 _))))
 obtain ⟨hp, g, d, tk, os⟩ := s
 show wpAny _ _ (field (.ref e) 2 >>= _) _ _ _
 refine wpAny_bind (wpAny_field he rfl (x := .ref j) rfl (wpAny_bind (Znz hj ht hx fun h1 j1 s1 => ?_)))
 replace s1 : Heap.SameBut j hp h1 := s1
 have e1 : IsEnum h1 e j c old := (s1.2 e hne).trans he
 show wpAny _ _ (field (.ref e) 3 >>= _) _ _ ⟨h1, g, d, tk, os⟩
 refine wpAny_bind (wpAny_field e1 rfl (x := rawInt c) rfl ?_)
 show wpAny _ _ (field (.ref e) 4 >>= _) _ _ ⟨h1, g, d, tk, os⟩
 refine wpAny_bind (wpAny_field e1 rfl (x := .none) rfl ?_)
 show wpAny _ _ (mkInt c >>= _) _ _ ⟨h1, g, d, tk, os⟩
 refine wpAny_bind (wpAny_mkInt ?_)
 show wpAny _ _ (setField (.ref e) 3 (rawInt (c + 1)) >>= _) _ _ ⟨h1, g, d, tk + 1, os⟩
 refine wpAny_bind (wpAny_setField_rec e1 (by simp) fun h2 e2 s2 => ?_)
 replace s2 : Heap.SameBut e h1 h2 := s2
 replace e2 : IsEnum h2 e j (c + 1) old := e2
 show wpAny _ _ (setField (.ref e) 4 .none >>= _) _ _ ⟨h2, g, d, tk + 1, os⟩
 refine wpAny_bind (wpAny_setField_rec e2 (by simp) fun h3 e3 s3 => ?_)
 replace s3 : Heap.SameBut e h2 h3 := s3
 replace e3 : IsEnum h3 e j (c + 1) old := e3
 show wpAny _ _ (newTuple [.int c tk, x] >>= _) _ _ ⟨h3, g, d, tk + 1, os⟩
 refine wpAny_bind (wpAny_newTuple ?_)
 have e4 : IsEnum (h3.push { cls := .type "tuple", data := .seq #[.int c tk, x] }) e j (c + 1) old := Heap.get?_push_of_some _ e3
 generalize q4 : h3.push { cls := .type "tuple", data := .seq #[.int c tk, x] } = h4 at e4
 have zz : h3.objs.size = hp.objs.size := by rw [s3.1, s2.1, s1.1]
 have lt : e < hp.objs.size := Heap.lt_size he
 have t4 : h4.get? hp.objs.size = some { cls := .type "tuple", data := .seq #[.int c tk, x] } := by rw [← q4, ← zz]; exact Heap.get?_push_size _ rfl
 have z4 : h4.objs.size = hp.objs.size + 1 := by rw [← q4, Heap.size_push, zz]
 have k4 : ∀ b o, b ≠ e -> b ≠ j -> hp.get? b = some o -> h4.get? b = some o := fun b o n1 n2 q => by
  rw [← q4]; exact Heap.get?_push_of_some _ (s3.extBut b o n1 (s2.extBut b o n1 (s1.extBut b o n2 q)))
 have j4 : h4.IsListIter j t (i + 1) := by
  obtain ⟨o, ho, r⟩ := id j1
  exact ⟨o, by rw [← q4]; exact Heap.get?_push_of_some _ (s3.extBut j o (Ne.symm hne) (s2.extBut j o (Ne.symm hne) ho)), r⟩
 show wpAny _ _ (Builtin.SmallTypes.ownedTupleIsFree (.ref e) >>= _) _ _ ⟨h4, g, d, tk + 1, os⟩
 rw [zz]
 clear q4 e3 s3 e2 s2 e1 s1 j1 zz h3 h2 h1
 refine wpAny_bind ?_
 unfold Builtin.SmallTypes.ownedTupleIsFree
 refine wpAny_bind (wpAny_field e4 rfl (x := .none) rfl (wpAny_pure ?_))
 simp only [if_true]
 refine wpAny_bind (wpAny_rule (wpAny_bind (wpAny_field e4 rfl (x := old) rfl (wpAny_bind (wpAny_setField_rec e4 (by simp) fun h5 e5 s5 => ?_)))))
 replace s5 : Heap.SameBut e h4 h5 := s5
 replace e5 : IsEnum h5 e j (c + 1) x := e5
 show wpAny _ _ (Builtin.SmallTypes.ownedTupleHandOut (.ref e) (.ref hp.objs.size) >>= _) _ _ ⟨h5, g, d, tk + 1, os⟩
 refine wpAny_bind ?_
 unfold Builtin.SmallTypes.ownedTupleHandOut
 refine wpAny_bind (wpAny_setField_rec e5 (by simp) fun h6 e6 s6 => ?_)
 replace s6 : Heap.SameBut e h5 h6 := s6
 replace e6 : IsEnumOut h6 e j (c + 1) x hp.objs.size := e6
 refine wpAny_setField_rec e6 (by simp) fun h7 e7 s7 => ?_
 replace s7 : Heap.SameBut e h6 h7 := s7
 replace e7 : IsEnumOut h7 e j (c + 1) x hp.objs.size := e7
 have up : ∀ b o, b ≠ e -> h4.get? b = some o -> h7.get? b = some o := fun b o n q => s7.extBut b o n (s6.extBut b o n (s5.extBut b o n q))
 refine wpAny_bind (wpAny_letGo (wpAny_pure ⟨_, rfl, wpAny_pure (hQ h7 tk e7 ?_ (up _ _ (Nat.ne_of_gt lt) t4) (by rw [s7.1, s6.1, s5.1, z4]) fun b o n1 n2 q => up b o n1 (k4 b o n1 n2 q))⟩))
 obtain ⟨o, ho, r⟩ := id j4
 exact ⟨o, up j o (Ne.symm hne) ho, r⟩
theorem Zmt {e j t : Addr} {i : Nat} {c : Int} {its : Array Value} {old : Value} {Q : Option Value -> Shared -> Prop} (hh : A.handled = none) (he : IsEnum s.heap e j c old) (hj : s.heap.IsListIter j t i) (ht : s.heap.IsList t its) (hx : its[i]? = none)
  (hQ : ∀ h', Heap.ExtBut j s.heap h' -> Q none { s with heap := h' }) : wpAny (model prog w) A (pyNext (.ref e)) Q E s := by
 have hT : s.TypeIs (.ref e) "enumerate" := ⟨_, he, rfl⟩
 unfold pyNext
 refine wpAny_bind (wpAny_attempt (wpAny_callSpecial?_slot (name := Str.ofString "__next__") hT F.slot_enumerate_next (wpAny_call_entry F.slot_enumerate_next hT F.entry_enumerate_next ?_ (F.args_enumerate_next_1 _))))
 show wpAny _ _ (field (.ref e) 2 >>= _) _ _ _
 refine wpAny_bind (wpAny_field he rfl (x := .ref j) rfl (wpAny_bind (Zrg hh hj ht hx fun h' z he' zz => ?_)))
 obtain ⟨o, ho, hc⟩ := zz
 exact wpAny_bind (wpAny_isInstance (T := "StopIteration") (b := true) ⟨o, ho, hc⟩ isSubtype_stop (wpAny_pure (hQ _ he')))
open AutoSeq1 (wpAny_loadPart') in
theorem Zoj (t : Addr) (its : Array Value) (n : Nat) (dct : Option Addr) (sl : Array (Option Value)) :
  Meets (Builtin.«enumerate.__new__» ⟨[.type "enumerate", .ref t], []⟩) (fun _ R s => s.heap.get? t = some { cls := .type "list", dict := dct, data := .seq its n, slots := sl } ∧
   R (.ok (.ret (.ref (s.heap.push { cls := .type "list_iterator", data := .fields #[.ref t, .int 0 0] }).objs.size)))
    { s with heap := (s.heap.push { cls := .type "list_iterator", data := .fields #[.ref t, .int 0 0] }).push { cls := .type "enumerate", data := .fields #[.none, .bool false, .ref s.heap.objs.size, rawInt 0, .none, .none] } }) :=
 .of_wp fun prog w A R s h => by
  obtain ⟨hp, g, d, tk, os⟩ := s; obtain ⟨hl, h⟩ := h
  have hsub := sub_enumerate
  have hL : Heap.IsList (Shared.heap ⟨hp, g, d, tk, os⟩) t its := ⟨_, hl, rfl, n, rfl⟩
  wp_walk using wpAny_loadPart' hl
  refine wpAny_stack_any fun st => wpAny_pure ?_
  split
  ·rename_i k _ _ _ _ _
   cases (k == Value.type "enumerate") <;> (wp_walk using wpAny_loadPart' hl, wpAny_pyIter_list hL; exact ⟨_, rfl, h⟩)
  ·wp_walk using wpAny_loadPart' hl, wpAny_pyIter_list hL
   exact ⟨_, rfl, h⟩
theorem Zm0 {t : Addr} {its : Array Value} {Q : Value -> Shared -> Prop} (hL : s.heap.IsList t its)
  (h : ∀ h', IsEnum h' (s.heap.objs.size + 1) s.heap.objs.size 0 .none -> h'.IsListIter s.heap.objs.size t 0 -> h'.objs.size = s.heap.objs.size + 2 →
   (∀ b o, s.heap.get? b = some o -> h'.get? b = some o) -> Q (.ref (s.heap.objs.size + 1)) { s with heap := h' }) :
  wpAny (model prog w) A (call (.type "enumerate") [.ref t]) Q E s := by
 obtain ⟨⟨k, dct, dt, sl⟩, hl, hc, n, hd⟩ := hL
 replace hc : k = .type "list" := hc
 replace hd : dt = .seq its n := hd
 subst hc hd
 refine callType_new F.called_enumerate (by decide) (F.typeCall_enumerate_1 _) (F.newCall_enumerate_1 _) (fun obj => F.args_object_init_2 obj _) F.entry_enumerate_new (Zoj t its n dct sl) ⟨hl, ?_⟩
 have hz : (s.heap.push { cls := .type "list_iterator", data := .fields #[.ref t, .int 0 0] }).objs.size = s.heap.objs.size + 1 := Heap.size_push ..
 show _ ∧ _
 rw [hz]
 have he : IsEnum ((s.heap.push { cls := .type "list_iterator", data := .fields #[.ref t, .int 0 0] }).push { cls := .type "enumerate", data := .fields #[.none, .bool false, .ref s.heap.objs.size, rawInt 0, .none, .none] }) (s.heap.objs.size + 1) s.heap.objs.size 0 .none := by
  have q := Heap.get?_push_size (s.heap.push { cls := .type "list_iterator", data := .fields #[.ref t, .int 0 0] }) (o := { cls := .type "enumerate", data := .fields #[.none, .bool false, .ref s.heap.objs.size, rawInt 0, .none, .none] }) rfl
  rw [hz] at q; exact q
 exact ⟨⟨_, he, rfl⟩, h _ he ⟨_, Heap.get?_push_of_some _ (Heap.get?_push_size _ rfl), rfl, rfl⟩ (by rw [Heap.size_push, hz]) fun b o x => Heap.get?_push_of_some _ (Heap.get?_push_of_some _ x)⟩
end
noncomputable def Zwo (c : Int) (a : Addr) : It :=
 ⟨fun i H => ∃ xs x, H a = some (.lst xs) ∧ xs[i]? = some x, fun i H v H' => ∃ p x, H p = none ∧ v = .ref p ∧ H' = upd H p (.tup [.int (c + i), x]) ∧ ∀ xs, H a = some (.lst xs) -> xs[i]? = some x, fun i H => ∃ xs, H a = some (.lst xs) ∧ xs.length ≤ i⟩
theorem Zid {P : Program} {w : World} {K : PySem.W.Frag} {es : List Expr} {k : Nat} {pos : Pos} (a e j : Addr) (c : Int) (hne : e ≠ j) : Turn P w K (.Tuple es k pos) (Zwo c a) [e, j] e (fun i h => ∃ old, IsEnum h e j (c + i) old ∧ h.IsListIter j a i) where
 mem := by simp
 obj := fun i h st b hb => by
  obtain ⟨old, he, o, ho, hc, hd⟩ := st
  rcases List.mem_cons.mp hb with rfl | hb
  ·exact ⟨_, he, fun v z => by cases z⟩
  ·have : b = j := by simpa using hb
   subst this
   exact ⟨o, ho, fun v z => by rw [hd] at z; cases z⟩
 keep := fun i h h' st kk => by
  obtain ⟨old, he, o, ho, r⟩ := st
  exact ⟨old, kk e (by simp) _ he, o, kk j (by simp) o ho, r⟩
 item := by
  intro X hP hw hK hc i pins s σ H E I hf st hg
  subst hP hw hK
  obtain ⟨xs, x, hq, hx⟩ := hg
  obtain ⟨old, he, hj⟩ := st
  obtain ⟨its, rv, p, hz⟩ := I.list (SqL.of hq)
  obtain ⟨u, hu, ru⟩ := rv.get hx
  have fe := hf e (by simp)
  have fj := hf j (by simp)
  refine Zm1 he hj p.isList (x := u) (by simpa using hu) hne fun h' tk eo j' t' z' kk => ?_
  refine ⟨_, rfl, wpAny_letOwnedTupleGo_enum (s := { s with heap := h', toks := s.toks + 1 }) eo fun h2 e2 s2 => ?_⟩
  replace s2 : Heap.SameBut e h' h2 := s2
  have le : e < s.heap.objs.size := Heap.lt_size he
  have ne2 : s.heap.objs.size ≠ e := Nat.ne_of_gt le
  -- the iterator's two records have turned, the pair is new
  have t2 : h2.get? s.heap.objs.size = some { cls := .type "tuple", data := .seq #[.int (c + i) tk, u] } := s2.extBut _ _ ne2 t'
  have hp0 : H s.heap.objs.size = none := I.hok.fresh (Nat.le_refl _)
  have up : ∀ b o, b ∉ [e, j] -> s.heap.get? b = some o -> h2.get? b = some o := fun b o hb q =>
   s2.extBut b o (fun z => hb (by simp [z])) (kk b o (fun z => hb (by simp [z])) (fun z => hb (by simp [z])) q)
  have I2 : Inv X pins σ (upd H s.heap.objs.size (.tup [.int (c + i), x])) { s with heap := h2, toks := s.toks + 1 } := by
   refine I.step (g' := s.gens) (d' := s.drawn) (t' := s.toks + 1) (ch := [e, j]) (fun b hb => ?_) (fun b o _ _ hb q n => up b o hb q) (fun b o _ _ hb q n => ⟨o.slots, up b o hb q⟩) (fun b o _ q n => ?_) (fun b o hb q => ⟨o, up b o hb q⟩) (fun b ys q => ?_) (fun b o y q => ?_) (fun b ps q => ⟨#[], ?_⟩) (fun m hm => ?_) (fun b o q => ?_) I.bare
   ·have := hf b hb; exact ⟨this.2.2.2.1, this.2.1, this.2.2.2.2.1, this.2.2.2.2.2⟩
   ·rw [Zaw (Nat.ne_of_lt (Heap.lt_size q))]; exact n
   ·rw [Zaw (Za3 q hp0)]; exact q
   ·rw [Zaw (Za3 q hp0)]; exact q
   ·rw [Zaw (Za3 q hp0), q]; simp
   ·obtain ⟨o, es', ep, ho, r⟩ := hm
    exact ⟨o, es', ep, s2.extBut _ o (Ne.symm fe.2.1) (kk _ o (Ne.symm fe.2.1) (Ne.symm fj.2.1) ho), r⟩
   ·by_cases hb : b = s.heap.objs.size
    ·subst hb
     rw [upd_same] at q
     cases q
     exact ⟨(by show 2 ≤ sizeLine; decide), [.int (c + i) tk, u], .cons ⟨tk, rfl⟩ (.cons ru .nil), _, t2, rfl, ⟨_, rfl⟩, rfl⟩
    ·rw [Zaw hb] at q
     refine (I.hok b o q).stay (fun d v hd z => up d v (fun hm => ?_) z) (fun d z => by rw [Zaw (Za3 z hp0)]; exact z) fun d ys z => by rw [Zaw (Za3 z hp0)]; exact z
     have : H d ≠ none := by
      rcases hd with rfl | hd
      ·rw [q]; simp
      ·rw [hd]; simp
     exact this (hf d hm).1
  refine ⟨.ref s.heap.objs.size, _, I2, rfl, ⟨_, x, hp0, rfl, rfl, fun ys hy => by rw [hq] at hy; cases hy; exact hx⟩, ?_, fun b hb => ?_⟩
  ·obtain ⟨o, ho, r⟩ := id j'
   have ec : c + ((i + 1 : Nat) : Int) = c + (i : Int) + 1 := by push_cast; omega
   exact ⟨u, by rw [ec]; exact e2, o, s2.extBut j o (Ne.symm hne) ho, r⟩
  ·have hb2 : b ≠ s.heap.objs.size := by
    rcases List.mem_cons.mp hb with rfl | hb
    ·exact Nat.ne_of_lt le
    ·have : b = j := by simpa using hb
     subst this
     obtain ⟨o, ho, _⟩ := id hj
     exact Nat.ne_of_lt (Heap.lt_size ho)
   rw [Zaw hb2]; exact (hf b hb).1
 done := by
  intro X hP hw hK hc i pins s σ H E I hf st hg
  subst hP hw hK
  obtain ⟨xs, hq, hx⟩ := hg
  obtain ⟨old, he, hj⟩ := st
  obtain ⟨its, rv, p, hz⟩ := I.list (SqL.of hq)
  obtain ⟨f0, f1, f2, f3, f4, f5⟩ := hf j (by simp)
  have hl := rv.length
  exact Zmt (I.ok.hd hc) he hj p.isList (by simp; omega) fun h' eb => ⟨rfl, I.turned (t' := s.toks) (fun b o hb q => eb b o hb q) f0 f1 f3 f4 f5⟩
 self := fun _ _ _ _ _ st h => by
  obtain ⟨old, he, _⟩ := st
  exact wpAny_pyIter_enum he h
noncomputable def two2 : D -> Option (D × D)
 | .tup [a, b] => some (a, b)
 | _ => none
open Classical in
noncomputable def Ztm (own : Zfq) (c0 : SD) (tt : TF) (te : EF) : List D -> HD -> Option (List D × HD)
 | [], H => if Zdb own H then some ([], H) else none
 | x :: r, H => (two2 x).bind fun ab => if Zdb own H then (tt (some ab.1 :: some ab.2 :: c0) H).bind fun t => if t.1 = true then (te (some ab.1 :: some ab.2 :: c0) t.2).bind fun e => (Ztm own c0 tt te r e.2).map fun q => (e.1 :: q.1, q.2) else Ztm own c0 tt te r t.2 else none
section
variable {X : Cx} {scope : Scope} {x y0 : Str} {cn : List Str} {ci : List Nat}
noncomputable def Zlx (f : AF) : ItF := fun σ H => (f σ H).bind fun p => match p.1 with
 | [.ref n] => match p.2[n]? with
  | some (.lst xs) => some ((Zd8 0 xs, [(n, .lst xs)]), p.2)
  | _ => none
 | _ => none
theorem Zki {K : PySem.W.Frag} {H0 : Hp} {ι0 : List Addr} {a : Addr} {n : Nat} {c : Int} {xs : List D} (ha : ι0[n]? = some a) : ItRep K (Zwo c a) (Zd8 c xs) [(n, .lst xs)] H0 ι0 := by
 have now : ∀ {H2 : Hp} {ι2 : List Addr} {Hd2 : HD}, Le K H0 ι0 H2 ι2 -> HRep K H2 ι2 Hd2 -> Zdb [(n, DO.lst xs)] Hd2 -> ∃ ws, H2 a = some (.lst ws) ∧ Paired (Rep K H2 ι2) xs ws := fun {H2 ι2 Hd2} l2 h2 ok =>
  h2.obj n a _ (l2.get ha) (ok (n, .lst xs) (by simp))
 refine ⟨fun i H2 ι2 Hd2 l2 h2 ok hi => ?_, fun i H2 ι2 Hd2 d v H3 l2 h2 ok hd y => ?_, fun i H2 ι2 Hd2 l2 h2 ok hi => ?_⟩
 ·obtain ⟨ws, h3, P3⟩ := now l2 h2 ok
  exact ⟨ws, ws[i]'(by rw [← Prd.len P3, ← Zhl xs c]; exact hi), h3, by simp⟩
 ·obtain ⟨ws, h3, P3⟩ := now l2 h2 ok
  obtain ⟨p, x, hp, rfl, rfl, y⟩ := y
  obtain ⟨x', hx', rfl⟩ := Zhj hd
  obtain ⟨u, hu, ru⟩ := Prd.get P3 hx'
  have := y ws h3
  rw [hu] at this
  cases this
  exact ⟨ι2, Le.fresh hp _, h2.tup hp _, Zb8.mpr ⟨p, _, rfl, SqT.of upd_same, .cons (by simp) (.cons (ru.mono (Le.fresh hp _)) .nil)⟩⟩
 ·obtain ⟨ws, h3, P3⟩ := now l2 h2 ok
  exact ⟨ws, h3, by rw [← Prd.len P3, ← Zhl xs c]; exact hi⟩
theorem Zn8 {es : List Expr} {k : Nat} {tp p pos : Pos} {a : Expr} {f : AF} (hg : Gl X "enumerate") (hm : X.mg "enumerate" = none) (ha : PAf X [a] f) (hs : starEach [a] X.env = [(false, eval a X.env)] := by rfl) : PIf X (.Tuple es k tp) (.Call (.Name "enumerate" p) [a] [] pos) (Zlx f) := by
 rintro pins s σ H R I ⟨ι, σd, Hd, xs, own, Hd', sr, hr, e, q⟩
 obtain ⟨⟨ds, H1⟩, e1, e⟩ := Zo e
 dsimp only at e
 split at e
 ·rename_i n
  split at e
  ·rename_i ys eo
   cases e
   refine Call_ (Zhp I hg hm boot_enumerate (PyProof.Rows.callWith_type1 (thn (ha pos pins s σ H (fun vs H' => ∃ a ws, vs = [.ref a] ∧ H' a = some (.lst ws) ∧ ∀ (J : It) (H2 : Hp), H2 = H' -> J = Zwo 0 a -> R J H2) I ⟨ι, σd, Hd, _, _, sr, hr, e1, fun vs H' ι' l h P => ?_⟩) fun us s1 ⟨vs, H2, I2, r2, q2⟩ => ?_) hs rfl))
   ·obtain ⟨v, rfl, r⟩ := Zjh P
    obtain ⟨ad, rfl, had⟩ := Zbq.mp r
    obtain ⟨ws, hS, P2⟩ := h.obj n ad _ had eo
    refine ⟨ad, ws, rfl, hS, fun J H2 e2 e3 => ?_⟩
    subst e2 e3
    exact q _ _ ι' l h (Zki had)
   ·obtain ⟨ad, ws, rfl, hS, q2⟩ := q2
    obtain ⟨u, rfl, ru⟩ := Zgs r2
    cases ru
    obtain ⟨its, rv, p, hz⟩ := I2.list (SqL.of hS)
    refine Zm0 p.isList fun h' he hj z' kk => ?_
    have I3 : Inv X pins σ H2 { s1 with heap := h' } := I2.kept (t' := s1.toks) kk
    refine wpAny_pyIter_enum (s := { s1 with heap := h' }) he ?_
    have ne : s1.heap.objs.size + 1 ≠ s1.heap.objs.size := Nat.succ_ne_self _
    refine ⟨s1.heap.objs.size + 1, [s1.heap.objs.size + 1, s1.heap.objs.size], _, Zwo 0 ad, H2, rfl, I3, Zid ad _ _ 0 ne, ⟨.none, by simpa using he, hj⟩, fun b hb => ?_, q2 _ _ rfl rfl⟩
    have : s1.heap.objs.size ≤ b := by
     rcases List.mem_cons.mp hb with rfl | hb
     ·exact Nat.le_succ _
     ·have : b = s1.heap.objs.size := by simpa using hb
      rw [this]; exact Nat.le_refl _
    exact I2.fpOk (b := b) (H' := H2) this (I2.hok.fresh this)
  ·cases e
 ·cases e
end
section
variable {K : PySem.W.Frag} {H : Hp} {ι : List Addr}
end
section
variable {X : Cx} {pins : List (Addr × Obj)} {σ : L2.St} {H : Hp} {s : Shared} {ι : List Addr}
end
section
variable {X : Cx}
end
section
variable {X : Cx}
end
section
variable {X : Cx}
noncomputable def CBig (i j : Int) : Prop := i.natAbs < 2 ^ 1000 ∧ j.natAbs < 2 ^ 1000
instance (i j : Int) : Decidable (CBig i j) := by unfold CBig; exact inferInstance
theorem Zsg {P : Program} {w : World} {h : Heap} {k : List Int} {b : Addr} (x : (tupleKind (Zbm P w)).is h k b) : b < h.objs.size := by
 obtain ⟨o, its, n, h1, r⟩ := x
 exact Heap.lt_size h1
end
end DL
namespace DL
open PySem PySem.Spec PyProof.Rows L2 PySem.W
section
variable {prog : Program} {w : World} {A : Around} {E : Value -> Shared -> Prop} {s : Shared}
noncomputable def Zuj (d : Addr) (es : Array DictEntry) (ep : Nat) (h : Heap) : Prop := ∃ o, h.get? d = some o ∧ o.cls = .type "dict" ∧ o.data = .dict es ep
theorem Zuj.at {d : Addr} {es : Array DictEntry} {ep : Nat} {h h' : Heap} (x : Zuj d es ep h) (k : ∀ o, h.get? d = some o -> h'.get? d = some o) : Zuj d es ep h' := let ⟨o, e, r⟩ := x; ⟨o, k o e, r⟩
end
section
variable {X : Cx}
end
end DL
namespace DL
open PySem PySem.Spec PyProof.Rows L2
section
variable {X : Cx}
noncomputable def Zs9 (i j c : Int) : Prop := -(2 ^ 60) ≤ i ∧ i < 2 ^ 60 ∧ -(2 ^ 60) ≤ j ∧ j < 2 ^ 60 ∧ c = -1
instance (i j c : Int) : Decidable (Zs9 i j c) := by unfold Zs9; exact inferInstance
end
end DL
namespace L2
open PySem PySem.Spec PyProof.Rows
theorem Zep.here {P : Program} {w : World} {H : Hp} {h : Heap} {a : Addr} {o : HO} (x : Zep P w H h a o) : ∃ ob, h.get? a = some ob := by
 cases o with
 | lst xs => obtain ⟨_, its, n, _, e⟩ := x; exact ⟨_, e⟩
 | tup xs => obtain ⟨_, its, _, ob, e, _⟩ := x; exact ⟨_, e⟩
 | dK kvs => obtain ⟨_, _, vs, _, ob, es, ep, e, _⟩ := x; exact ⟨_, e⟩
 | dT kvs => obtain ⟨_, _, xs, _, ob, es, ep, e, _⟩ := x; exact ⟨_, e⟩
 | set S n => obtain ⟨ob, es, ep, t, e, _⟩ := x; exact ⟨_, e⟩
 | ins C dx fs => obtain ⟨_, _, _, e, _⟩ := x; exact ⟨_, e⟩
 | own y => obtain ⟨ob, e⟩ := x; exact ⟨_, e⟩
 | xd fs => obtain ⟨mA, ⟨od, es, ep, e, _⟩, _⟩ := x; exact ⟨_, e⟩
 | rng lo hi => obtain ⟨t, u, v, e⟩ := x; exact ⟨_, e⟩
 | frz ob u => obtain ⟨e, _⟩ := x; exact ⟨_, e⟩
 | tbl ps => exact ⟨_, x⟩
 | met f y => exact ⟨_, x⟩
 | ext φ => obtain ⟨_, e, _⟩ := x; exact e
end L2
namespace DL
open PySem PySem.Spec PyProof.Rows L2 PySem.W
structure Fly (l : List Env) (H H1 : Hp) (h0 h1 : Heap) (a : Addr) (C : Value) : Prop where
 new : h0.get? a = none
 fly : ∃ (B : Heap) (a0 : Value), Heap.FlyingW B l a C a0 h1 ∧ (∀ b o, h0.get? b = some o -> b ∉ frs l -> ∃ o', B.get? b = some o' ∧ (H b = none -> o' = o)) ∧ ∀ b ho, H1 b = some ho -> ∃ o, h1.get? b = some o ∧ B.get? b = some o
noncomputable def CXe (P : Program) (w : World) : CXT := fun outer H s E e s' => ∃ (a : Addr) (C : Value) (H1 : Hp), e = .ref a ∧ E C none H1 ∧ s'.os = s.os ∧ AllBare s'.gens ∧ Un (frs outer) [] H H1 s.heap s'.heap ∧ HOk P w H1 s'.heap ∧ Fly outer H H1 s.heap s'.heap a C
structure ExcT (K : PySem.W.Frag) (mg : Str -> Option Value) (x : Str) (C : Addr) : Prop where
 bound : mg x = some (.ref C)
 kp : PySem.W.keepIn K (.ref C) = true
 inK : ∃ (bm : List Value) (B newId initId : String), PySem.W.excIn K C bm newId = true ∧ ExcBaseFacts B newId initId bm
theorem Zp3 {P : Program} {w : World} {l : List Env} {H H1 : Hp} {h0 h1 h2 B : Heap} (u : Un (frs l) [] H H1 h0 h1) (ok : HOk P w H1 h1) (bo : ∀ b o, h0.get? b = some o -> b ∉ frs l -> ∃ o', B.get? b = some o' ∧ (H b = none -> o' = o)) (bt : ∀ b ho, H1 b = some ho -> ∃ o, h1.get? b = some o ∧ B.get? b = some o)
  (st : B.StaysIn h2) (up : h1.UpToSlots h2) (ff : h1.FunFrames B l) : Un (frs l) [] H H1 h0 h2 ∧ HOk P w H1 h2 := by
 have fram : ∀ b o, b ∈ frs l -> h1.get? b = some o -> ∃ sl, h2.get? b = some { o with slots := sl } := fun b o z eb => by
  obtain ⟨_, o', g1, g3⟩ := ff.mem z
  rw [eb] at g1
  cases g1
  exact up b o eb g3
 refine ⟨⟨fun b o e n nb _ => ?_, fun b o e n hb hx => ?_, u.free, fun b o e hx => ?_, u.tups, u.frzs, u.tbls⟩, fun b ho e => ?_⟩
 ·obtain ⟨o', g, z⟩ := bo b o e nb
  rw [z n] at g
  exact st b o g
 ·obtain ⟨sl, g⟩ := u.slot b o e n hb hx
  obtain ⟨sl', g'⟩ := fram b _ hb g
  exact ⟨sl', g'⟩
 ·by_cases z : b ∈ frs l
  ·obtain ⟨o1, g⟩ := u.there b o e hx
   obtain ⟨sl, g'⟩ := fram b o1 z g
   exact ⟨_, g'⟩
  ·obtain ⟨o', g, _⟩ := bo b o e z
   exact ⟨o', st b o' g⟩
 ·refine (ok b ho e).stay (fun c v hc g => ?_) (fun _ z => z) (fun _ _ z => z)
  have tk : ∃ hc, H1 c = some hc := by
   rcases hc with rfl | hc
   ·exact ⟨_, e⟩
   ·exact ⟨_, hc⟩
  obtain ⟨hc', tk⟩ := tk
  obtain ⟨o, g1, g2⟩ := bt c hc' tk
  rw [g] at g1
  cases g1
  exact st c v g2
section
variable {P : Program} {w : World} {K : PySem.W.Frag} {mg : Str -> Option Value} {base : Heap} {N : List Str} {qual : Str} {scope : Scope} {f : Addr} {cd : Value} {A : Around} {outer : List Env} {s s1 : Shared} {H H1 : Hp} {E : XK} {pins : List (Addr × Obj)} {σ : L2.St}
end
noncomputable abbrev XFF := List D -> HD -> Option HD
section
variable {X : Cx} {C : Addr} {st : Stmt} {sts : List Stmt} {e c : Expr} {pos np cpos : Pos} {x : Str}
theorem Zww : PSs X sts fun _ _ _ => False := fun _ _ _ _ _ _ h => h.elim
noncomputable def spX (K : PySem.W.Frag) (C : Addr) (n : Nat) (F : XFF) : Sp := fun vs H _ E => ∃ ι ds Hd Hd', ds.length = n ∧ HRep K H ι Hd ∧ Paired (Rep K H ι) ds vs ∧ F ds Hd = some Hd' ∧ ∀ H1 ι', Le K H ι H1 ι' -> HRep K H1 ι' Hd' -> E (.ref C) none H1
end
section
variable {X : Cx} {C f : Addr} {k n : Nat} {fd : FuncData} {ps : List Str} {XF : XFF} {fa : AF} {x : Str} {a : Expr} {as : List Expr} {sts : List Stmt} {p cp ep : Pos}
end
section
variable {P : Program} {w : World} {K : PySem.W.Frag} {mg : Str -> Option Value} {base : Heap}
end
end DL
namespace L2
open PySem PySem.Spec PyProof.Rows
theorem Zuw {X : Cx} {pins : List (Addr × Obj)} {σ : St} {H : Hp} {s : Shared} {M : Model} {A : Around} {E : Value -> Shared -> Prop} {i : Nat} {x : Str} {pos : Pos} {Q : Unit -> Shared -> Prop} (I : Inv X pins σ H s) (hN : X.N.Nodup) (hi : X.N[i]? = some x) (hl : X.env.kindOf x = some .local)
  (h : ∀ s', Inv X pins (σ.set i none) H s' -> Q () s') : wpAny M A (do bindName X.env x .none; unbindBehindTheSuite X.env x pos) Q E s := by
 obtain ⟨m, hn, hv⟩ := id I.loc
 refine wpAny_nameGoes_keeps hl hn (by rw [I.ok.kind]; rfl) fun h' v hn' hs => h _ ?_
 have old : ∀ b o, X.s₀.heap.get? b = some o -> b ≠ X.env.locals := fun b o e => Nat.ne_of_lt (Nat.lt_of_lt_of_le (Heap.lt_size e) I.ok.above)
 have tr : ∀ b ho, H b = some ho -> b ≠ X.env.locals := fun b ho e z => by rw [z, I.free] at e; cases e
 refine ⟨I.ok, I.os, I.bare, ⟨fun b o e n hb hx => (hs.2 b (old b o e)).trans (I.base.keep b o e n hb hx), fun b o e n hb hx => ?_, I.base.free, fun b o e hx => ?_, I.base.tups, I.base.frzs, I.base.tbls⟩, ⟨_, hn', fun j y w e1 e2 e3 => ?_⟩, fun y c e => ?_, I.free, I.freeC, fun p hp => ?_, fun b ho e => ?_, by simpa using I.len⟩
 ·obtain ⟨sl, g⟩ := I.base.slot b o e n hb hx
  exact ⟨sl, (hs.2 b (old b o e)).trans g⟩
 ·obtain ⟨o', g⟩ := I.base.there b o e hx
  exact ⟨o', (hs.2 b (old b o e)).trans g⟩
 ·by_cases hj : j = i
  ·subst hj
   rw [List.getElem?_set] at e2
   split at e2
   ·split at e2 <;> cases e2
   ·rename_i z; exact absurd rfl z
  ·rw [List.getElem?_set_ne (Ne.symm hj)] at e2
   obtain ⟨u, r, q⟩ := hv j y w e1 e2 e3
   refine ⟨u, r, ?_⟩
   rcases q with ⟨k, z⟩ | ⟨k, c, z, g⟩
   ·have ne : y ≠ x := fun z => hj (Zix hN e1 (z ▸ hi))
    exact .inl ⟨k, (if_neg ne).trans z⟩
   ·exact .inr ⟨k, c, z, g.sameBut hs (I.cne y c z)⟩
 ·obtain ⟨w, g⟩ := I.cell y c e
  exact ⟨w, g.sameBut hs (I.cne y c e)⟩
 ·obtain ⟨e, n, ne, nf, d⟩ := I.pin p hp
  exact ⟨(hs.2 p.1 ne).trans e, n, ne, nf, d⟩
 ·refine (I.hok b ho e).stay (fun c u hc g => (hs.2 c ?_).trans g) (fun _ z => z) (fun _ _ z => z)
  rcases hc with rfl | hc
  ·exact tr _ _ e
  ·exact tr _ _ hc
end L2
namespace DL
open PySem PySem.Spec PyProof.Rows L2 PySem.W
noncomputable abbrev Xh (X : Cx) (ex : Addr) (oe : Obj) : Cx := { X with A := X.A.mark (some (.ref ex)), calm := false, pn := (ex, oe) :: X.pn, xe := fun _ _ => False }
theorem Inv.marked {X : Cx} {pins : List (Addr × Obj)} {σ : L2.St} {H : Hp} {s : Shared} {ex : Addr} {oe : Obj} (I : Inv X pins σ H s) (g : s.heap.get? ex = some oe) (n : H ex = none) (ne : ex ≠ X.env.locals) (nf : ex ∉ X.fs) (nc : ∀ v, oe.data ≠ .cell v) : Inv (Xh X ex oe) pins σ H s := by
 obtain ⟨o1, o2, o3, o4, o5, o6, o7, o8, o9, o10, o11, o12, o13, o14, o15, o16, o17, o18⟩ := I.ok
 refine ⟨⟨o1, o2, o3, o4, o5, o6, o7, o8, (fun z => by cases z), o10, o11, o12, o13, o14, o15, o16, o17, o18⟩, I.os, I.bare, I.base, I.loc, I.cell, I.free, I.freeC, fun p hp => ?_, I.hok, I.len⟩
 rcases List.mem_cons.mp (show p ∈ (ex, oe) :: (X.pn ++ pins) from hp) with rfl | hp
 ·exact ⟨g, n, ne, nf, nc⟩
 ·exact I.pin p hp
theorem Inv.unmark {X : Cx} {pins : List (Addr × Obj)} {σ : L2.St} {H : Hp} {s : Shared} {ex : Addr} {oe : Obj} (ok : X.Ok) (I : Inv (Xh X ex oe) pins σ H s) : Inv X pins σ H s :=
 ⟨ok, I.os, I.bare, I.base, I.loc, I.cell, I.free, I.freeC, fun p hp => I.pin p (List.mem_cons_of_mem _ hp), I.hok, I.len⟩
structure ExcL (K : PySem.W.Frag) (C : Addr) : Prop where
 ga : findIn K (.ref C) "__getattribute__" = some (some (.builtin "BaseException.__getattribute__"))
 gr : findIn K (.ref C) "__getattr__" = some none
 cl : findIn K (.ref C) "__class__" = some (some (.builtin "object.__class__"))
 gt : specialIn K (.builtin "object.__class__") "__get__" = some (some (.builtin "getset_descriptor.__get__"))
 tk : takesIn K (.builtin "object.__class__") = some true
 mr : mroIn K C (.type "object") = some true
 sb : subIn K (.ref C) (.type "BaseException") = some true
 cs : (clsIn K C).isSome = true
section
variable {prog : Program} {w : World} {A : Around} {E : Value -> Shared -> Prop} {s : Shared} {K : PySem.W.Frag} {x C : Addr} {ox : Obj}
structure ExcO (h : Heap) (x : Addr) (ox : Obj) (C : Addr) : Prop where
 at_ : h.get? x = some ox
 cls : ox.cls = .ref C
theorem ExcO.type {M : Model} {h : Heap} (I : ExcO h x ox C) : Looks M h (typeOf (.ref x)) (.ref C) := by rw [← I.cls]; exact (Looks.ld I.at_).andThen .now
theorem Zro {M : Model} {h : Heap} (L : ExcL K C) (X : K.In h) : Looks M h (Builtin.ObjectAttr.find (.ref x) (.ref C) "__class__") (.bind (.builtin "getset_descriptor.__get__") (.builtin "object.__class__")) := by
 have a1 := looks_findIn (M := M) X L.cl
 have a2 := looks_specialIn (M := M) X L.gt
 have a3 := looks_takesIn (M := M) X L.tk
 unfold Builtin.ObjectAttr.find
 refine a1.andThen ?_
 refine Looks.andThen (t := Builtin.ObjectAttr.getOf (some (.builtin "object.__class__"))) a2 ?_
 refine Looks.andThen (t := Builtin.ObjectAttr.dataDescriptor? (some (.builtin "object.__class__")) (some (.builtin "getset_descriptor.__get__"))) (a := some (.builtin "getset_descriptor.__get__", .builtin "object.__class__")) ?_ (Looks.tag .now)
 unfold Builtin.ObjectAttr.dataDescriptor?
 exact a3.andThen .now
theorem Zus {R : Result → Shared → Prop} {tp : Value} (X : K.In s.heap) (I : ExcO s.heap x ox C) (hm : mroIn K C (.type "object") = some true) (z : R (.ok (.ret (.ref C))) s) : codeAny (model prog w) A (.call (.builtin "getset_descriptor.__get__") ⟨[.builtin "object.__class__", .ref x, tp], []⟩) R s := by
 obtain ⟨h1, g1, d1, t1, o1⟩ := s
 have a0 := I.type (M := model prog w)
 have a1 := looks_mroIn (M := model prog w) X hm
 refine codeAny_call_builtin KF.slot_gs.plain KF.entry_gs ?_
 refine KF.slot_gs.check _ _ _ _ _ _ _ _ KF.type_class (KF.args_gs _ _ _) ?_
 (unfold Builtin.«getset_descriptor.__get__» Builtin.Getset_descriptor.descrGet; rw [dga_obj]; refine wpAny_bind (wpAny_pure ?_); unfold Builtin.Getset_descriptor.descrGetter Builtin.Getset_descriptor.descrCheckInstance Builtin.Getset_descriptor.descrNameAndClass isInstance; simp only [KF.owner_class]; repeat lk)
 have e1 := KF.entry_class
 refine ⟨Code.quiet_builtin _ (by decide +kernel), codeAny_builtin e1 ?_⟩
 (unfold Builtin.«object.__class__» shownTypeOf; repeat lk); exact z
theorem Zn4 {Q : Option Value → Shared → Prop} (L : ExcL K C) (X : K.In s.heap) (I : ExcO s.heap x ox C) (q : Q (some (.ref C)) { s with toks := s.toks + 1 }) : wpAny (model prog w) A (getAttr? (.ref x) "__class__") Q E s := by
 obtain ⟨hh, g, d, t, os⟩ := s
 have L0 := I.type (M := model prog w)
 have L1 := looks_findIn (M := model prog w) X L.ga
 have L2 := looks_findIn (M := model prog w) X L.gr
 have LF := Zro (x := x) (M := model prog w) L X
 have LS := looks_subIn (M := model prog w) X L.sb
 unfold getAttr? getAttrBy? getAttrBy
 refine wpAny_bind (wpAny_mkText (wpAny_bind (wpAny_attempt (wpAny_holding (wpAny_bind (L0.at (wpAny_bind (L1.at ?_))))))))
 show wpAny _ _ (if (onTheHeap (Value.ref C) && (Value.builtin "BaseException.__getattribute__" == Value.builtin "object.__getattribute__")) = true then _ else _) _ _ _
 have n2 : (Value.builtin "BaseException.__getattribute__" == Value.builtin "object.__getattribute__") = false := by decide +kernel
 rw [if_neg (by rw [n2, Bool.and_false]; exact Bool.false_ne_true)]
 unfold getAttrByItsOwn hookBefore
 rw [if_pos (by rfl)]
 refine wpAny_bind (L2.at (wpAny_bind (wpAny_attempt (wpAny_holding ?_))))
 unfold callGetattribute
 rw [if_neg (by exact Bool.false_ne_true)]
 unfold boundAndCalled
 have LI : Looks (model prog w) hh (isInstance (.ref x) (.type "BaseException")) true := L0.andThen LS
 rw [PySem.F.attr_ValueError.ga.bind (.ref x)]
 refine wpAny_bind (wpAny_pure ?_)
 show wpAny _ _ (call (.builtin "BaseException.__getattribute__") [.ref x, .str (Str.ofString "__class__") t]) _ _ _
 refine wpAny_call (codeAny_call_builtin PySem.F.attr_ValueError.ga.plain PySem.F.entry_bexc_ga ?_)
 have b1 : builtinKind "BaseException.__getattribute__" = some .slot := by decide +kernel
 have b2 : splitId "BaseException.__getattribute__" = some ("BaseException", "__getattribute__") := by decide +kernel
 have b3 := PySem.F.args_bexc_ga (.ref x) (.str (Str.ofString "__class__") t)
 simp only [checkBuiltinCall, b1, b2]
 refine wpAny_bind (LI.at ?_)
 repeat (first | (with_reducible refine L0.at ?_) | (with_reducible refine LF.at ?_) | wp_step)
 exact Zus (ox := ox) X I L.mr (wpAny_pure (handed_on rfl (wpAny_pure q)))
theorem Zqg (L : ExcL K C) : ∃ c dd cd sl, K.lookup C = some ⟨c, dd, .cls cd, sl⟩ := by
 have z := L.cs
 unfold clsIn at z
 split at z
 ·rename_i e; exact ⟨_, _, _, _, e⟩
 ·cases z
theorem Zmk (L : ExcL K C) : KitX K (.ref x) (.ref C) (fun h => ExcO h x ox C) where
 ty := fun _ _ _ I => I.type
 it := fun M h X _ => by
  obtain ⟨c, dd, cd, sl, e⟩ := Zqg L
  intro A1 Q1 E1 s1 kp z
  show wpAny M A1 (isType (.ref C)) Q1 E1 s1
  unfold isType loadHead
  refine wpAny_bind (wpAny_loadPart (kp C _ (X C _ e)) ?_)
  exact wpAny_pure z
 ne := fun h tp dd its n sl X g => by
  obtain ⟨c, d1, cd, s1, e⟩ := Zqg L
  cases z : (Value.ref C == Value.ref tp) with
  | false => rfl
  | true =>
   have y : C = tp := Value.ref.inj (beq_iff_eq.mp z)
   subst y
   have y := X C _ e
   rw [g] at y
   cases y
 ca := fun X I z => Zn4 L X I z
end
theorem Zzb {x : V} {r : List V} {l : List Value} (h : Zbk (x :: r) l) : ∃ b t, l = b :: t ∧ Zct x b ∧ Zbk r t := by
 cases h with
 | cons p P => exact ⟨_, _, rfl, p, P⟩
section
variable {X : Cx}
theorem Zqx : ∀ {cs : List Addr} {its : List Value}, Zbk (cs.map .ref) its -> its = cs.map .ref := by
 intro cs
 induction cs with
 | nil => intro its rv; cases rv; rfl
 | cons a r ih =>
  intro its rv
  obtain ⟨b, t, rfl, p1, p2⟩ := Zzb rv
  have p1 : b = Value.ref a := p1
  rw [p1, ih p2]; rfl
theorem Zvs {ex C : Addr} {oe : Obj} {c : V} {cV : Value} {b : Bool} (L : ExcL X.K C) (hc : oe.cls = .ref C) (hu : ∀ u, Zct c u -> u = cV) (e : kitOne X.K (.ref C) cV = some b) :
  Zgg (Xh X ex oe) (.builtin "isinstance") (fun xs H Q => xs = [.ref ex, c] ∧ Q (.bl b) H) := by
 rintro pins s σ H xs us Q I r ⟨rfl, q⟩
 obtain ⟨u1, u2, rfl, r1, r2⟩ := Zqk r
 have e1 : u1 = .ref ex := r1
 subst e1
 obtain rfl := hu u2 r2
 have pn := I.pin (ex, oe) (List.mem_append_left _ (List.mem_cons_self ..))
 exact kia_one (Zmk (ox := oe) (x := ex) L) I.kIn ⟨pn.1, hc⟩ e (by rintro z; cases z) fun tk => ⟨.bl b, H, I.tok tk, rfl, q⟩
theorem Zuy {ex C : Addr} {oe : Obj} {cs : List Addr} {b : Bool} (L : ExcL X.K C) (hc : oe.cls = .ref C) (e : kitAny X.K (.ref C) (cs.map .ref) = some b) :
  Zgg (Xh X ex oe) (.builtin "isinstance") (fun xs H Q => ∃ p, xs = [.ref ex, .ref p] ∧ H p = some (.tup (cs.map .ref)) ∧ Q (.bl b) H) := by
 rintro pins s σ H xs us Q I r ⟨p, rfl, hp, q⟩
 obtain ⟨u1, u2, rfl, r1, r2⟩ := Zqk r
 have e1 : u1 = .ref ex := r1
 have e2 : u2 = .ref p := r2
 subst e1 e2
 have pn := I.pin (ex, oe) (List.mem_append_left _ (List.mem_cons_self ..))
 obtain ⟨_, its, rv, o, g, c1, ⟨n, d1⟩, _⟩ := I.hok p _ hp
 have ei := Zqx rv
 subst ei
 obtain ⟨oc, od, odd, os⟩ := o
 have c1 : oc = .type "tuple" := c1
 have d1 : odd = .seq (cs.map Value.ref).toArray n := d1
 subst c1 d1
 exact kia_tup (Zmk (ox := oe) (x := ex) L) I.kIn ⟨pn.1, hc⟩ g e (by rintro z; cases z) fun tk => ⟨.bl b, H, I.tok tk, rfl, q⟩
noncomputable def Zn1 (cs : List Addr) : TA := fun _ H Q => Q (cs.map .ref) H
theorem Zvu : PA X [] (Zn1 []) := Zkd
theorem Zhc {x : Str} {c : Addr} {cs : List Addr} {es : List Expr} {p : Pos} (hg : Gl X x) (hm : X.mg x = some (.ref c)) (h : PA X es (Zn1 cs)) (hd : (x == ("__debug__" : Str)) = false := by decide) (hs : starEach (.Name x p :: es) X.env = (false, eval (.Name x p) X.env) :: starEach es X.env := by rfl) : PA X (.Name x p :: es) (Zn1 (c :: cs)) :=
 Zem (Zob (v := .ref c) hg hm rfl hd) h hs
end
section
variable {X : Cx}
theorem Zsx {st : Stmt} {t : TS} (h : PS X.nox st t) : PS X st t := by
 intro pins s σ H D I q
 refine wpAny_mono (h pins s σ H D (I.wish _) q) (fun f s1 z => ?_) fun _ _ z => z.elim
 cases f with
 | next => obtain ⟨σ1, H1, I1, z⟩ := z; exact ⟨σ1, H1, I1.unwish, z⟩
 | brk => obtain ⟨σ1, H1, I1, z⟩ := z; exact ⟨σ1, H1, I1.unwish, z⟩
 | cont => obtain ⟨σ1, H1, I1, z⟩ := z; exact ⟨σ1, H1, I1.unwish, z⟩
 | ret u => obtain ⟨v, σ1, H1, I1, r, z⟩ := z; exact ⟨v, σ1, H1, I1.unwish, r, z⟩
theorem Zwx {es : List Expr} {t : TA} (h : PA X.nox es t) : PA X es t := by
 intro pos pins s σ H Q I q
 refine wpAny_mono (h pos pins s σ H Q (I.wish _) q) (fun us s1 z => ?_) fun _ _ z => z.elim
 obtain ⟨vs, H1, I1, r, z⟩ := z
 exact ⟨vs, H1, I1.unwish, r, z⟩
end
structure FnX (P : Program) (w : World) (K : PySem.W.Frag) (mg : Str -> Option Value) (base : Heap) (k : Nat) (x : Str) (ps : List Str) (xn : Str) (F : XFF) : Prop where
 ex : ∃ f fd, (∀ C, ExcT K mg xn C -> FnOk P w K mg base (CXe P w) k f fd ps (spX K C ps.length F)) ∧ Zfs K fd ps [] ∧ PySem.W.keepIn K (.ref f) = true ∧ mg x = some (.ref f)
structure Refu (K : PySem.W.Frag) (mg : Str -> Option Value) (xn xc : Str) (C : Addr) (cV : Value) (cs : List Addr) : Prop where
 exc : ExcT K mg xn C
 look : ExcL K C
 cls : mg xc = some cV
 one : exmOne K (.ref C) cV = some true
 any : kitAny K (.ref C) (cs.map .ref) = some false
 val : kitOne K (.ref C) (.type "ValueError") = some true
theorem Zfa {K : PySem.W.Frag} {hp : Heap} {mg : Str -> Option Value} {n : Str} {c : Addr} (X : K.In hp) (G : hp.Ns mainGlobals mg) (e : nsIn K mainGlobals n = some (some (.ref c))) : mg n = some (.ref c) := PySem.W.mg_of X G e
section
variable {X : Cx}
end
end DL
namespace DL
open PySem PySem.Spec PyProof.Rows L2
section
variable {X : Cx}
noncomputable def CNn (_ j : Int) : Prop := 0 ≤ j
instance (i j : Int) : Decidable (CNn i j) := by unfold CNn; exact inferInstance
end
section
variable {X : Cx}
end
section
variable {X : Cx}
end
noncomputable def Its (x : Str) : It := ⟨fun i _ => i < x.cps.size, fun i H v H' => H' = H ∧ ∃ c, x.cps[i]? = some c ∧ v = .str ⟨#[c]⟩, fun i _ => x.cps.size ≤ i⟩
theorem Zrs {P : Program} {w : World} {K : PySem.W.Frag} {tg : Expr} (it : Addr) (x : Str) (t : Tok) : Turn P w K tg (Its x) [it] it (fun i h => h.IsStrIter it "str_ascii_iterator" x t i) where
 mem := by simp
 obj := fun i h st b hb => by
  have e : b = it := by simpa using hb
  subst e
  obtain ⟨o, e, c, d⟩ := st
  exact ⟨o, e, fun v z => by rw [d] at z; cases z⟩
 keep := fun i h h' st k => by
  obtain ⟨o, e, r⟩ := st
  exact ⟨o, k it (by simp) o e, r⟩
 item := by
  intro X hP hw hK hc i pins s σ H E I hf st hg
  subst hP hw hK
  have hi : i < x.cps.size := hg
  obtain ⟨f0, f1, f2, f3, f4, f5⟩ := hf it (by simp)
  refine wpAny_pyNext_ascii_item st (c := x.cps[i]) (by simp [hi]) fun h' st' sb => ?_
  have I1 : Inv X pins σ H { s with heap := h', toks := s.toks + 1 } := I.turned (t' := s.toks + 1) (fun b o hb e => (sb.2 b hb).trans e) f0 f1 f3 f4 f5
  obtain ⟨o, e, c, d⟩ := id st'
  exact ⟨_, rfl, Zrq (s := { s with heap := h', toks := s.toks + 1 }) e c d (by decide) ⟨.str ⟨#[x.cps[i]]⟩, H, I1, ⟨_, rfl⟩, ⟨rfl, _, by simp [hi], rfl⟩, st', fun b hb => (hf b hb).1⟩⟩
 done := by
  intro X hP hw hK hc i pins s σ H E I hf st hg
  subst hP hw hK
  have hi : x.cps.size ≤ i := hg
  obtain ⟨f0, f1, f2, f3, f4, f5⟩ := hf it (by simp)
  exact wpAny_pyNext_ascii_end (I.ok.hd hc) st (by simp [hi]) fun h' eb => ⟨rfl, I.turned (t' := s.toks) (fun b o hb e => eb b o hb e) f0 f1 f3 f4 f5⟩
 self := fun _ _ _ _ _ st h => wpAny_pyIter_striter_ascii st h
noncomputable def signs (x : Str) : List D := x.cps.toList.map fun c => .str ⟨#[c]⟩
theorem Zr5 {K : PySem.W.Frag} {H0 : Hp} {ι0 : List Addr} (x : Str) : ItRep K (Its x) (signs x) [] H0 ι0 := by
 refine ⟨fun i H2 ι2 Hd2 l2 h2 _ hi => (show i < x.cps.size by simpa [signs] using hi), fun i H2 ι2 Hd2 d v H3 l2 h2 _ hd y => ?_, fun i H2 ι2 Hd2 l2 h2 _ hi => (show x.cps.size ≤ i by simpa [signs] using hi)⟩
 obtain ⟨rfl, c, hc, rfl⟩ := y
 unfold signs at hd
 rw [List.getElem?_map, Array.getElem?_toList, hc] at hd
 cases hd
 exact ⟨ι2, Le.refl, h2, by simp⟩
section
variable {X : Cx} {tg : Expr}
noncomputable def iTxt (f : EF) : ItF := fun σ H => (f σ H).bind fun p => match p.1 with
 | .str x => if x.cps.all (· < 128) = true then some ((signs x, []), p.2) else none
 | _ => none
noncomputable def tiTxt (tl : TE) : TI := fun σ H R => tl σ H fun v H1 => ∃ x : Str, v = .str x ∧ x.cps.all (· < 128) = true ∧ R (Its x) H1
theorem Zy3 {l : Expr} {tl : TE} (hl : PE X l tl) : PI X tg l (tiTxt tl) := by
 intro pins s σ H R I h
 refine thn (hl pins s σ H _ I h) fun v s1 zz => ?_
 obtain ⟨y, H1, I1, r1, q1⟩ := zz
 obtain ⟨x, rfl, ha, q⟩ := q1
 obtain ⟨t, rfl⟩ := r1
 refine wpAny_pyIter_ascii ha ?_
 refine ⟨s1.heap.objs.size, [s1.heap.objs.size], _, _, H1, rfl, I1.kept (t' := s1.toks) fun b o e => Heap.get?_push_of_some _ e, Zrs _ x t, ⟨_, Heap.get?_push_size _ rfl, rfl, rfl⟩, fun b hb => ?_, q⟩
 have e : b = s1.heap.objs.size := by simpa using hb
 subst e
 exact I1.fpOk (Nat.le_refl _) (I1.hok.fresh (Nat.le_refl _))
theorem Zt2 {e : Expr} {f : EF} (he : PEf X e f) : PIf X tg e (iTxt f) := by
 refine PIi (Zy3 he) fun σ H R zz => ?_
 obtain ⟨ι, σd, Hd, xs, own, Hd', s, hr, e, q⟩ := zz
 obtain ⟨⟨d, H1⟩, e1, e⟩ := Zo e
 dsimp only at e
 split at e
 ·rename_i x
  split at e
  ·rename_i ha
   cases e
   refine ⟨ι, σd, Hd, _, _, s, hr, e1, fun v H' ι' l h r => ?_⟩
   have r : v = .str x := by simpa using r
   subst r
   exact ⟨x, rfl, ha, q _ H' ι' l h (Zr5 x)⟩
  ·cases e
 ·cases e
end
section
variable {X : Cx}
end
section
variable {P P2 : Program} {w w2 : World}
theorem Zqf {ks : List Int} {vs : List Value} (h : ItemsAre (Zbm P w) ks vs) : ItemsAre (Zbm P2 w2) ks vs := by
 induction h with
 | nil => exact .nil
 | cons a b ih => exact .cons a ih
theorem Zma {h : Heap} {ks : List Int} {a : Addr} (x : (tupleKind (Zbm P w)).is h ks a) : (tupleKind (Zbm P2 w2)).is h ks a := by
 obtain ⟨o, its, n, e1, e2, e3, e4⟩ := x
 exact ⟨o, its, n, e1, e2, e3, Zqf e4⟩
noncomputable def Zmr (P : Program) (w : World) (h : Heap) (k : Int × List Int) (a : Addr) : Prop := ∃ o v b n, h.get? a = some o ∧ o.cls = .type "tuple" ∧ o.data = .seq #[v, .ref b] n ∧ Zkn k.1 v = true ∧ (tupleKind (Zbm P w)).is h k.2 b
theorem Zmr.typeIs {s : Shared} {k : Int × List Int} {a : Addr} (x : Zmr P w s.heap k a) : s.TypeIs (.ref a) "tuple" := by
 obtain ⟨o, v, b, n, e1, e2, _⟩ := x
 exact ⟨o, e1, e2⟩
theorem Zmr.inj {h : Heap} {a : Addr} {x y : Int × List Int} (hx : Zmr P w h x a) (hy : Zmr P w h y a) : x = y := by
 obtain ⟨o, v, b, n, e1, _, e3, e4, e5⟩ := hx
 obtain ⟨o', v', b', n', f1, _, f3, f4, f5⟩ := hy
 rw [e1] at f1
 cases f1
 rw [e3] at f3
 injection f3 with g1 _
 have g2 := congrArg Array.toList g1
 simp at g2
 obtain ⟨rfl, rfl⟩ := g2
 exact Prod.ext ((Zbm P w).inj _ _ _ e4 f4) ((tupleKind (Zbm P w)).inj e5 f5)
theorem Zmr.keeps {h h' : Heap} {k : Int × List Int} {a d : Addr} {o : Obj} {es ep} (x : Zmr P w h k a) (ho : h.get? d = some o) (hd : o.data = .dict es ep) (hs : Heap.SameBut d h h') : Zmr P w h' k a := by
 obtain ⟨o', v, b, n, e1, e2, e3, e4, e5⟩ := x
 have hne : a ≠ d := fun z => by
  subst z
  rw [e1] at ho
  cases ho
  rw [hd] at e3
  cases e3
 exact ⟨o', v, b, n, (hs.2 a hne).trans e1, e2, e3, e4, (tupleKind (Zbm P w)).keeps e5 ho hd hs⟩
variable {A : Around} {E : Value -> Shared -> Prop} {s : Shared}
theorem Zuu {k : Int × List Int} {a : Addr} {Q : Int -> Shared -> Prop} (hu : A.units + 1 < cLine) (x : Zmr P w s.heap k a) (q : Q (Zr7 k) { s with toks := s.toks + (k.2.length + 3) }) : wpAny (model P w) A (pyHash (.ref a)) Q E s := by
 have hT := x.typeIs
 obtain ⟨o, v, b, n, e1, e2, e3, e4, e5⟩ := x
 refine PySem.W.pyHash_slot hT F.slot_tuple_hash F.entry_tuple_hash (F.args_tuple_hash_1 _) (beq_builtin_none _) (.inr (Nat.lt_of_succ_lt hu)) ?_
 show wpAny _ _ (Builtin.Tuple.tupleItemsOf (.ref a) >>= _) _ _ s
 refine wpAny_bind (wpAny_tupleItemsOf e1 e3 (wpAny_bind ?_))
 rw [← Array.forIn_toList]
 simp only [List.forIn_cons, List.forIn_nil]
 refine wpAny_bind (wpAny_bind ((Zbm P w).pyHash e4 (wpAny_bind (wpAny_pure (wpAny_pure ?_)))))
 refine wpAny_bind (wpAny_bind ((tupleKind (Zbm P w)).pyHash (show A.in1.units < cLine by simpa using hu) e5 (wpAny_pure ?_)))
 refine wpAny_pure ?_
 show wpAny _ _ (retInt (Builtin.Tuple.tupleHashOf _)) _ _ _
 refine wpAny_bind (wpAny_mkInt (wpAny_pure ⟨_, _, rfl, ?_⟩))
 have : s.toks + 1 + (k.2.length + 1) + 1 = s.toks + (k.2.length + 3) := by omega
 have q2 : Q (Zr7 k) { s with toks := s.toks + 1 + (k.2.length + 1) + 1 } := by rw [this]; exact q
 exact q2
theorem Zrb {A : Around} {s : Shared} {i j : Int} {u v : Value} (hu : Zkn i u = true) (hv : Zkn j v = true) : SeqAt.EqAt A s u v (decide (i = j)) := fun P w E Q h => (Zbm P w).eqBool (a := i) (b := j) hu hv h
theorem Zrh {A : Around} {s : Shared} {i j : List Int} {u v : Addr} (hr : A.units < cLine) (hu : (tupleKind (Zbm P w)).is s.heap i u) (hv : (tupleKind (Zbm P w)).is s.heap j v) : SeqAt.EqAt A s (.ref u) (.ref v) (decide (i = j)) := fun P2 w2 E Q h => (tupleKind (Zbm P2 w2)).eqBool hr (Zma hu) (Zma hv) h
theorem pk_eq {x y : Int × List Int} {a b : Addr} {Q : Bool -> Shared -> Prop} (hu : A.units + 1 < cLine) (hx : Zmr P w s.heap x a) (hy : Zmr P w s.heap y b) (q : Q (decide (x = y)) s) : wpAny (model P w) A (eqBool (.ref a) (.ref b)) Q E s := by
 by_cases hab : a = b
 ·subst hab
  obtain rfl := hx.inj hy
  exact SeqAt.EqAt.same (A := A) (s := s) (.ref a) P w E Q (by simpa using q)
 ·obtain ⟨o, v, c, n, e1, e2, e3, e4, e5⟩ := hx
  obtain ⟨o', v', c', n', f1, f2, f3, f4, f5⟩ := hy
  have R := SeqAt.RcAt.tuples (A := A) (s := s) (l := a) (b := b) (items := #[v, .ref c]) (items2 := #[v', .ref c']) (e := fun j => if j = 0 then decide (x.1 = y.1) else decide (x.2 = y.2)) ⟨o, e1, e2, n, e3⟩ ⟨o', f1, f2, n', f3⟩ (Nat.lt_of_succ_lt hu) fun j h1 h2 => by
   match j, h1 with
   | 0, _ => exact Zrb e4 f4
   | 1, _ => exact Zrh (show A.in1.units < cLine by simpa using hu) e5 f5
  refine SeqAt.EqAt.of_refs hab R P w E Q ?_
  have : ((List.range (min (#[v, Value.ref c]).size (#[v', Value.ref c']).size)).all (fun j => if j = 0 then decide (x.1 = y.1) else decide (x.2 = y.2)) && (#[v, Value.ref c]).size == (#[v', Value.ref c']).size) = decide (x = y) := by
   obtain ⟨x1, x2⟩ := x
   obtain ⟨y1, y2⟩ := y
   simp [List.range, List.range.loop]
  rw [this]
  exact q
theorem Zqj (m : Nat) {ks : List Int} {a : Addr} {Q : Bool -> Shared -> Prop} (x : (tupleKind (Zbm P w)).is s.heap ks a) (q : Q true s) : wpAny (model P w) A (eqIsQuiet (m + 1) (.ref a)) Q E s := by
 have hT : s.TypeIs (.ref a) "tuple" := IsTupleKey.typeIs (knd := Zbm P w) x
 obtain ⟨o, its, n, e1, e2, e3, e4⟩ := x
 unfold eqIsQuiet
 refine wpAny_bind (wpAny_specialOf hT F.slot_tuple_eq.lookup ?_)
 refine wpAny_bind (wpAny_isInstance hT isSubtype_tuple_tuple ?_)
 simp only [Bool.not_true, Bool.false_eq_true, if_false]
 refine wpAny_bind (wpAny_seqItems e1 e3 (wpAny_bind ?_))
 show wpAny _ _ (forIn its _ _) _ _ s
 rw [← Array.forIn_toList]
 have all := e4.byValue
 clear e3 e4
 generalize its.toList = l at all
 induction l with
 | nil => exact wpAny_pure (wpAny_pure q)
 | cons v r ih =>
  rw [List.forIn_cons, eqIsQuiet_byValue _ (all v List.mem_cons_self)]
  refine wpAny_bind (wpAny_bind (wpAny_pure ?_))
  simp only [Bool.not_true, Bool.false_eq_true, if_false]
  exact wpAny_pure (ih fun z hz => all z (List.mem_cons_of_mem _ hz))
theorem Zrv {k : Int × List Int} {a : Addr} {Q : Bool -> Shared -> Prop} (x : Zmr P w s.heap k a) (q : Q true s) : wpAny (model P w) A (eqIsQuiet 8 (.ref a)) Q E s := by
 have hT := x.typeIs
 obtain ⟨o, v, b, n, e1, e2, e3, e4, e5⟩ := x
 unfold eqIsQuiet
 refine wpAny_bind (wpAny_specialOf hT F.slot_tuple_eq.lookup ?_)
 refine wpAny_bind (wpAny_isInstance hT isSubtype_tuple_tuple ?_)
 simp only [Bool.not_true, Bool.false_eq_true, if_false]
 refine wpAny_bind (wpAny_seqItems e1 e3 (wpAny_bind ?_))
 show wpAny _ _ (forIn (#[v, Value.ref b]) _ _) _ _ s
 rw [← Array.forIn_toList]
 simp only [List.forIn_cons, List.forIn_nil]
 rw [eqIsQuiet_byValue _ ((Zbm P w).byValue _ _ e4)]
 refine wpAny_bind (wpAny_bind (wpAny_pure ?_))
 simp only [Bool.not_true, Bool.false_eq_true, if_false]
 refine wpAny_pure ?_
 refine wpAny_bind (wpAny_bind (Zqj 6 e5 ?_))
 simp only [Bool.not_true, Bool.false_eq_true, if_false]
 exact wpAny_pure (wpAny_pure (wpAny_pure q))
end
noncomputable def Zl6 (P : Program) (w : World) : HeapKind P w (Int × List Int) where
 is := Zmr P w
 hash := Zr7
 draws := fun k => k.2.length + 3
 room := fun A => A.units + 1 < cLine
 inj := fun hx hy => hx.inj hy
 keeps := fun x ho hd hs => x.keeps ho hd hs
 pyHash := fun hu hk h => Zuu hu hk h
 eqBool := fun hu hx hy h => pk_eq hu hx hy h
 quiet := fun hk h => Zrv hk h
noncomputable abbrev PK := Int × List Int
section
variable {K : PySem.W.Frag} {H : Hp} {ι : List Addr}
end
section
variable {X : Cx} {pins : List (Addr × Obj)} {σ : L2.St} {H : Hp} {s : Shared} {ι : List Addr}
end
section
variable {X : Cx}
noncomputable def PKlt (P : Program) (w : World) (h : Heap) (n : Nat) (k : PK) (b : Addr) : Prop := b < n ∧ ∃ o v c m, h.get? b = some o ∧ o.cls = .type "tuple" ∧ o.data = .seq #[v, .ref c] m ∧ Zkn k.1 v = true ∧ (tupleKind (Zbm P w)).is h k.2 c ∧ c < n
theorem PKlt.is {P : Program} {w : World} {h : Heap} {n : Nat} {k : PK} {b : Addr} (x : PKlt P w h n k b) : (Zl6 P w).is h k b := by
 obtain ⟨_, o, v, c, m, e1, e2, e3, e4, e5, _⟩ := x
 exact ⟨o, v, c, m, e1, e2, e3, e4, e5⟩
theorem PKlt.of {P : Program} {w : World} {h : Heap} {k : PK} {b : Addr} (x : (Zl6 P w).is h k b) : PKlt P w h h.objs.size k b := by
 obtain ⟨o, v, c, m, e1, e2, e3, e4, e5⟩ := x
 exact ⟨Heap.lt_size e1, o, v, c, m, e1, e2, e3, e4, e5, Zsg e5⟩
end
open Builtin.SmallTypes (nextOf)
noncomputable def ZipO (h : Heap) (z TI TO a : Addr) (f : Bool) : Prop := h.get? z = some { cls := .type "zip", dict := none, data := .fields #[rawInt a, .bool f, .bool false, .ref TI, .ref TO], slots := #[] }
section
variable {prog : Program} {w : World} {A : Around} {E : Value -> Shared -> Prop} {s : Shared}
variable {z TI TO i1 i2 l1 l2 : Addr} {k1 k2 : Nat} {xs ys : Array Value} {b1 b2 : Bool}
structure ZS (n : Nat) (z TI TO i1 i2 l1 l2 : Addr) (b1 b2 : Bool) (xs ys : Array Value) (i : Nat) (h : Heap) : Prop where
 ti : IsPair h TI (.ref i1) (.ref i2)
 s1 : SqI b1 h i1 l1 i
 s2 : SqI b2 h i2 l2 i
 q1 : SqX b1 h l1 xs
 q2 : SqX b2 h l2 ys
 zz : (IsZip h z TI TO .none ∧ ∃ u v, IsPair h TO u v) ∨ ∃ a f oa, ZipO h z TI TO a f ∧ h.get? a = some oa ∧ n ≤ a
end
section
variable {prog : Program} {w : World} {A : Around} {R : Result -> Shared -> Prop} {d z TI TO i1 i2 l1 l2 : Addr} {n m : Nat} {xs ys : Array Value} {b1 b2 : Bool} {Gd : Nat -> Heap -> Prop}
end
section
variable {X : Cx}
end
open PySem.W (KasT kas_rev kas_asc kas_desc kas_tail3 kas_descPart kas_count kas_place kas_bin kas_sort)
noncomputable def krun {α : Type} (c : Nat -> Nat -> Bool) : KasT α -> α
 | .ret a => a
 | .ask i j k => krun c (k (c i j))
noncomputable def KOk {α : Type} (n : Nat) (R : α -> Prop) : KasT α -> Prop
 | .ret a => R a
 | .ask i j k => i < n ∧ j < n ∧ ∀ b, KOk n R (k b)
theorem KOk.bind {α β : Type} {n : Nat} {R : α -> Prop} {S : β -> Prop} {f : α -> KasT β} : ∀ {t : KasT α}, KOk n R t -> (∀ a, R a -> KOk n S (f a)) -> KOk n S (t.bind f)
 | .ret a, h, g => g a h
 | .ask i j k, h, g => ⟨h.1, h.2.1, fun b => KOk.bind (h.2.2 b) g⟩
theorem KOk.run {α : Type} {n : Nat} {R : α -> Prop} {c : Nat -> Nat -> Bool} : ∀ {t : KasT α}, KOk n R t -> R (krun c t)
 | .ret a, h => h
 | .ask i j k, h => KOk.run (t := k (c i j)) (h.2.2 _)
noncomputable def Pm (n : Nat) (p : Array Nat) : Prop := p.toList.Perm (List.range n)
section
variable {n : Nat}
theorem Pm.at {p : Array Nat} (h : Pm n p) (h0 : 0 < n) (i : Nat) : p.getD i 0 < n := by
 unfold Array.getD
 split
 ·rename_i hi
  have : p[i] ∈ p.toList := by simp
  exact List.mem_range.mp (h.mem_iff.mp this)
 ·exact h0
variable (h0 : 0 < n)
include h0
end
open PySem.W (KatLex KatGo)
section
variable {prog : Program} {w : World} {A : Around} {E : Value -> Shared -> Prop} {s : Shared}
end
open PySem.W (KdlSrc)
section
variable {prog : Program} {w : World} {A : Around} {E : Value -> Shared -> Prop} {s : Shared}
end
open PySem.W (UpdF KasFin kas_sort)
section
variable {prog : Program} {w : World} {A : Around} {E : Value -> Shared -> Prop} {s : Shared}
end
section
variable {X : Cx} {pins : List (Addr × Obj)} {σ : L2.St} {H : Hp} {s : Shared} {ι : List Addr}
end
section
variable {X : Cx}
end
section
variable {X : Cx}
noncomputable def Zss : F2 := fun x y H => match x, y with
 | .str a, .int i => if a.length ≤ sizeLine then (atI a.cps.toList i).map fun c => (.str ⟨#[c]⟩, H) else none
 | _, _ => none
theorem sixf : IxF X Zss := by
 rintro va sl pins s σ H x y v u Q I rx ry ⟨ι, dx, dy, Hd, d, Hd', hr, r1, r2, e, q⟩ hs
 unfold Zss at e
 split at e
 ·simp at r1 r2
  split at e
  ·rename_i hl
   obtain ⟨c, e1, e⟩ := Zm e
   cases e
   exact Zz8 va sl pins s σ H _ _ v u Q I rx ry ⟨_, _, c, r1, r2, hl, e1, q _ H ι Le.refl hr (by simp)⟩ hs
  ·cases e
 ·cases e
noncomputable def Zw0 : F2 := fun x y H => match x, y with
 | .str i, .str j => some (.bl (!(Builtin.Str.occurrences j i 0 j.length 1).isEmpty), H)
 | _, _ => none
theorem sinf : OpF X (compareOp .In) Zw0 := by
 rintro pins s σ H x y v u Q I rx ry ⟨ι, dx, dy, Hd, d, Hd', hr, r1, r2, e, q⟩
 unfold Zw0 at e
 split at e
 ·simp at r1 r2
  cases e
  exact Zpv pins s σ H _ _ v u Q I rx ry ⟨_, _, r1, r2, q _ H ι Le.refl hr (by simp)⟩
 ·cases e
noncomputable def Zwp : F2 := fun x y H => match x, y with
 | .str i, .str j => some (.bl (!(!(Builtin.Str.occurrences j i 0 j.length 1).isEmpty)), H)
 | _, _ => none
theorem snif : OpF X (compareOp .NotIn) Zwp := by
 rintro pins s σ H x y v u Q I rx ry ⟨ι, dx, dy, Hd, d, Hd', hr, r1, r2, e, q⟩
 unfold Zwp at e
 split at e
 ·simp at r1 r2
  cases e
  exact Zkm pins s σ H _ _ v u Q I rx ry ⟨_, _, r1, r2, q _ H ι Le.refl hr (by simp)⟩
 ·cases e
noncomputable def Zog (x : D) (lo hi : Option Int) (H : HD) : Option (D × HD) := match x with
 | .str a => if a.length ≤ sizeLine then some (.str (Txt.slice a lo hi), H) else none
 | _ => none
noncomputable def rdSlS (K : PySem.W.Frag) : V -> Option Int -> Option Int -> Hp -> VK -> Prop := fun x lo hi H Q => ∃ ι dx Hd d Hd', HRep K H ι Hd ∧ Rep K H ι dx x ∧ Zog dx lo hi Hd = some (d, Hd') ∧ QE K H ι d Hd' Q
theorem slfS : SlR X (rdSlS X.K) := by
 rintro pins s σ H x v vl vu lo hi sl Q I rx hs pl pu ⟨ι, dx, Hd, d, Hd', hr, r, e, q⟩
 cases dx with
 | str a =>
  simp at r
  subst r
  obtain ⟨t, rfl⟩ := rx
  unfold Zog at e
  dsimp only at e
  split at e
  ·rename_i hl
   cases e
   refine ⟨"str", _, PySem.F.slot_str_getitem.lookup, typeIs_str s a t, ?_⟩
   have fin : ∀ t' k, EP X pins σ Q (.str (Txt.slice a lo hi) t') { s with toks := k } := fun t' k => ⟨.str (Txt.slice a lo hi), H, I.tok k, ⟨_, rfl⟩, q _ H ι Le.refl hr (by simp)⟩
   have part : ∀ {w : Value} {o : Option Int}, IsPart w o -> ∃ p : Option (Int × Tok), w = partValue p ∧ p.map (·.1) = o := by
    intro w o p
    cases p with
    | none => exact ⟨none, rfl, rfl⟩
    | int i t => exact ⟨some (i, t), rfl, rfl⟩
   obtain ⟨p1, rfl, rfl⟩ := part pl
   obtain ⟨p2, rfl, rfl⟩ := part pu
   refine wpAny_getItem_str_slice (l := p1) (u := p2) (st := none) hs rfl ?_
   exact post_val_or_str ⟨Nat.le_trans (Txt.slice_le a _ _) hl, fun t' k => fin t' k⟩
  ·cases e
 | _ => simp [Zog] at e
noncomputable def Zhe (fe : EF) (fl fh : OF) : EF := fun σ H => (fe σ H).bind fun p => (fl σ p.2).bind fun l => (fh σ l.2).bind fun h => Zog p.1 l.1 h.1 h.2
theorem Zbp {e : Expr} {lo hi : Option Expr} {fe : EF} {fl fh : OF} {pos p2 : Pos} (he : PEf X e fe) (hl : POf X lo fl) (hu : POf X hi fh) : PEf X (.Subscript e (.Slice lo hi none p2) pos) (Zhe fe fl fh) := by
 refine PEi (Zlp slfS he hl hu) fun σ H Q zz => ?_
 obtain ⟨ι, σd, Hd, d, Hd', s, hr, e, q⟩ := zz
 obtain ⟨⟨x, H1⟩, e1, e⟩ := Zo e
 obtain ⟨⟨y, H2⟩, e2, e⟩ := Zo e
 obtain ⟨⟨z, H3⟩, e3, e⟩ := Zo e
 exact ⟨ι, σd, Hd, x, H1, s, hr, e1, fun v1 H1' ι1 l1 h1 r1 => ⟨ι1, σd, H1, y, H2, s.mono l1, h1, e2, fun H2' ι2 l2 h2 => ⟨ι2, σd, H2, z, H3, s.mono (l1.trans l2), h2, e3, fun H3' ι3 l3 h3 =>
  ⟨ι3, x, H3, d, Hd', h3, r1.mono (l2.trans l3), e, fun v H' ι' l h r => q v H' ι' (((l1.trans l2).trans l3).trans l) h r⟩⟩⟩⟩
noncomputable def Zmo : F2 := fun x y H => match x, y with
 | .str a, .int n => if 1 < n ∧ 0 < a.length ∧ a.length * n.toNat ≤ 100000 then some (.str ⟨(List.replicate n.toNat a.cps).foldl (· ++ ·) #[]⟩, H) else none
 | _, _ => none
noncomputable def Zwr : FF := fun ds H => match ds with
 | [.int i] => if -1000000000 ≤ i ∧ i ≤ 1000000000 then some (.str (toString i), H) else none
 | _ => none
theorem Zpg : Zgr X (.type "str") Zwr := by
 rintro pins s σ H xs us Q I rv ⟨ι, ds, Hd, d, Hd', hr, P, e, q⟩
 unfold Zwr at e
 split at e
 ·obtain ⟨v, rfl, r⟩ := Zjh P
  simp at r
  subst r
  split at e
  ·rename_i hz
   cases e
   refine Zkf pins s σ H _ us Q I rv ⟨_, rfl, ?_, q _ H ι Le.refl hr (by simp)⟩
   rename_i i
   have h1 : i.natAbs ≤ 1000000000 := by omega
   by_cases h0 : i.natAbs = 0
   ·rw [h0]; decide
   ·refine (Nat.log2_lt h0).mpr (Nat.lt_of_le_of_lt h1 ?_)
    exact Nat.lt_of_lt_of_le (by decide : 1000000000 < 2 ^ 30) (Nat.pow_le_pow_right (by decide) (by decide))
  ·cases e
 ·cases e
noncomputable def Ziy : FF := fun ds H => match ds with
 | [.str x] => if x.length ≤ 640 then (PySem.intText? x).map fun n => (.int n, H) else none
 | _ => none
theorem Zga : Zgr X (.type "int") Ziy := by
 rintro pins s σ H xs us Q I rv ⟨ι, ds, Hd, d, Hd', hr, P, e, q⟩
 unfold Ziy at e
 split at e
 ·obtain ⟨v, rfl, r⟩ := Zjh P
  simp at r
  subst r
  split at e
  ·rename_i hz
   obtain ⟨n, e1, e⟩ := Zm e
   cases e
   obtain ⟨u, rfl, t, rfl⟩ := Zgs rv
   exact PySem.W.KIN.call_text e1 hz ⟨.int n, H, I.tok _, ⟨_, rfl⟩, q _ H ι Le.refl hr (by simp)⟩
  ·cases e
 ·cases e
theorem Zyq : OpF X (binaryOp .Mult) Zmo := by
 rintro pins s σ H x y v u Q I rx ry ⟨ι, dx, dy, Hd, d, Hd', hr, r1, r2, e, q⟩
 unfold Zmo at e
 split at e
 ·rename_i a n
  simp at r1 r2
  subst r1 r2
  obtain ⟨t1, rfl⟩ := rx
  obtain ⟨t2, rfl⟩ := ry
  split at e
  ·rename_i hz
   obtain ⟨z1, z2, z3⟩ := hz
   cases e
   have z4 : (n.toNat : Int) = n := by omega
   have z5 : n.toNat ≤ 100000 := Nat.le_trans (Nat.le_mul_of_pos_left _ z2) z3
   have hlong : Builtin.Str.tooLong (a.length * n.toNat) = false := by
    unfold Builtin.Str.tooLong
    rw [decide_eq_false_iff_not, PySem.sizeLine_eq]; omega
   refine PySem.P.mul_str ?_ ?_ ?_ ?_
   ·have e1 : decide (n < -(2 ^ 63 : Int)) = false := decide_eq_false (by omega)
    have e2 : decide (n ≥ 2 ^ 63) = false := decide_eq_false (by omega)
    rw [e1, e2, Bool.or_false]
   ·intro _ _ hh
    have : (2 ^ 63 - 1 : Int) / n < a.length := hh
    have h2 : (2 ^ 63 - 1 : Int) < a.length * n := (Int.ediv_lt_iff_lt_mul (by omega)).mp this
    have h3 : ((a.length * n.toNat : Nat) : Int) ≤ 100000 := Int.ofNat_le.mpr z3
    rw [Int.natCast_mul, z4] at h3
    have h4 : (100000 : Int) < 2 ^ 63 - 1 := by decide
    exact absurd (Int.lt_of_lt_of_le h2 h3) (Int.not_lt.mpr (Int.le_of_lt h4))
   ·intro _ _; exact hlong
   ·have e0 : ¬ n < 1 := by omega
    have e1 : ¬ ((n == 1 || a.length == 0) = true) := by
     rw [Bool.or_eq_true, beq_iff_eq, beq_iff_eq]; omega
    rw [if_neg e0, if_neg e1]
    exact ⟨fits_reps hlong, .str _, H, I.tok _, ⟨_, rfl⟩, q _ H ι Le.refl hr (by simp)⟩
  ·cases e
 ·cases e
end
section
variable {X : Cx}
noncomputable abbrev JF := SD -> HD -> Str -> Option (Str × HD)
noncomputable def jE (g : EF) (f : JF) : JF := fun σ H out => (g σ H).bind fun p => match p.1 with
 | .str x => if x.length ≤ sizeLine ∧ (out ++ x).length ≤ sizeLine then f σ p.2 (out ++ x) else none
 | _ => none
theorem Zwu {K : PySem.W.Frag} {h : Heap} {mg : Str -> Option Value} {x a0 : Str} {t : Tok} (X : K.In h) (G : h.Ns mainGlobals mg) (a : PySem.W.nsIn K mainGlobals x = some (some (.str a0 t))) : Gc K mg x (.str a0) :=
 ⟨_, .str a0, PySem.W.mg_of X G a, ⟨t, rfl⟩, fun _ _ => by simp⟩
end
section
variable {P : Program} {w : World} {K : PySem.W.Frag} {mg : Str -> Option Value} {base : Heap} {x y z : Str} {st su sv : Stmt} {N1 ps N2 qs N3 rs : List Str} {k : Nat} {a b c : FF -> FF -> FF -> SF}
end
section
variable {X : Cx} {e : Expr} {es : List Expr}
noncomputable def Zs7 : D -> Bool
 | .str _ => true
 | _ => false
noncomputable def eSM (g : D -> List D -> HD -> Option (D × HD)) (fo : EF) (f : AF) : EF := fun σ H => (fo σ H).bind fun o => if Zs7 o.1 = true then (f σ o.2).bind fun p => g o.1 p.1 p.2 else none
theorem Zc9 {o : Expr} {name : Str} {apos cpos : Pos} {id : String} {g : D → List D → HD → Option (D × HD)} {fo : EF} {f : AF} (slot : Slot "str" name id) (hty : typeOf (.builtin id) = pure (.type "method_descriptor")) (hm : MtF X id g) (ho : PEf X o fo) (ha : PAf X (e :: es) f)
  (hbase : attributeBase o name X.env (eval o X.env) = eval o X.env := by rfl)
  (hfew : ((backTo cpos (starEach (e :: es) X.env)).all (fun x => !x.1) && (backToKw cpos (keywordEach [] X.env)).all (fun x => x.1.isSome)
   && decide ((e :: es).length + ([] : List Keyword).length + (if ([] : List Keyword).isEmpty then 0 else 1) < 30)) = true := by exact Zl0 rfl (by decide))
  (hline : (apos.endLine == cpos.line) = true := by rfl) (hs : starEach (e :: es) X.env = (false, eval e X.env) :: starEach es X.env := by exact Zbe rfl) (hplain : (backTo cpos (starEach es X.env)).any (·.1) = false := by exact Zc2 rfl) :
  PEf X (.Call (.Attribute o name apos) (e :: es) [] cpos) (eSM g fo f) := by
 refine PEi (Zzq PySem.F.plainAttrs_str slot hty hm ho ha hbase hfew hline hs hplain) fun σ H Q zz => ?_
 obtain ⟨ι, σd, Hd, d, Hd', s, hr, e, q⟩ := zz
 obtain ⟨⟨x, H1⟩, e1, e⟩ := Zo e
 dsimp only at e
 split at e
 ·rename_i hl
  obtain ⟨⟨y, H2⟩, e2, e⟩ := Zo e
  refine ⟨ι, σd, Hd, x, H1, s, hr, e1, fun v1 H1' ι1 l1 h1 r1 => ⟨?_, ι1, σd, H1, y, H2, s.mono l1, h1, e2, fun vs H2' ι2 l2 h2 r2 =>
   ⟨ι2, x, y, H2, d, Hd', h2, r1.mono l2, r2, e, fun v H' ι' l h r => q v H' ι' ((l1.trans l2).trans l) h r⟩⟩⟩
  cases x with
  | str a =>
   simp at r1
   subst r1
   exact rfl
  | _ => cases hl
 ·cases e
noncomputable def Ziw (x : D) (ds : List D) (H : HD) : Option (D × HD) := match x, ds with
 | .str a, [.str b] => some (.bl (decide (0 + b.length ≤ a.length) && Builtin.Str.subAt a b 0), H)
 | _, _ => none
theorem Zms : MtF X "str.startswith" Ziw := by
 rintro pins s σ H x xs v us Q I rx rv ⟨ι, dx, ds, Hd, d, Hd', hr, r1, P, e, q⟩
 unfold Ziw at e
 split at e
 ·rename_i a b
  obtain ⟨z, rfl, rz⟩ := Zjh P
  obtain ⟨u, rfl, ru⟩ := rv.one
  simp at r1 rz
  subst r1 rz
  obtain ⟨t1, rfl⟩ := rx
  obtain ⟨t2, rfl⟩ := ru
  cases e
  exact call_gives PySem.F.slot_str_startswith (typeIs_str s a t1) PySem.F.entry_str_startswith (PySem.F.args_str_startswith_2 _ _) (gives_str_startswith a b t1 t2) ⟨.bl _, H, I, rfl, q _ H ι Le.refl hr (by simp)⟩
 ·cases e
noncomputable def Zks : List D -> Option (List Str)
 | [] => some []
 | .str x :: r => (Zks r).map (x :: ·)
 | _ :: _ => none
noncomputable def Zkz (sep : Str) : List Str -> Str
 | [x] => x
 | l => Builtin.Str.glued sep l
noncomputable def Zlc (x : D) (ds : List D) (H : HD) : Option (D × HD) := match x, ds with
 | .str sep, [d] => (Zg8 d H).bind fun xs => (Zks xs).bind fun l => if Builtin.Str.tooLong (l.toArray.foldl (· + ·.length + sep.length) 0) = false ∧ (Zkz sep l).length ≤ sizeLine then some (.str (Zkz sep l), H) else none
 | _, _ => none
theorem Zjl {K : PySem.W.Frag} {H : Hp} {ι : List Addr} : ∀ {ds : List D} {l : List Str} {vs : List V} {its : List Value}, Zks ds = some l -> Paired (Rep K H ι) ds vs -> Zbk vs its -> ∃ z : List (Str × Tok), its = strValues z ∧ z.map (·.1) = l := by
 intro ds
 induction ds with
 | nil =>
  intro l vs its e P rv
  cases e
  cases P
  cases rv
  exact ⟨[], rfl, rfl⟩
 | cons d r ih =>
  intro l vs its e P rv
  cases d with
  | str x =>
   obtain ⟨l', e1, rfl⟩ := Zm e
   cases P with
   | cons p P =>
    simp at p
    subst p
    cases rv with
    | cons p2 P2 =>
     obtain ⟨t, rfl⟩ := p2
     obtain ⟨z, rfl, rfl⟩ := ih e1 P P2
     exact ⟨(x, t) :: z, rfl, rfl⟩
  | _ => cases e
theorem Zj4 {pins : List (Addr × Obj)} {s : Shared} {σ : L2.St} {H : Hp} {Q : VK} {sep : Str} {z : List (Str × Tok)} (I : Inv X pins σ H s) (hl : (Zkz sep (z.map (·.1))).length ≤ sizeLine) (q : Q (.str (Zkz sep (z.map (·.1)))) H) :
  (joinMade sep z).post (EP X pins σ Q) s := by
 match z with
 | [] => exact ⟨hl, .str _, H, I.tok _, ⟨_, rfl⟩, q⟩
 | [p] => exact ⟨.str p.1, H, I, ⟨_, rfl⟩, q⟩
 | p :: r :: t => exact ⟨hl, .str _, H, I.tok _, ⟨_, rfl⟩, q⟩
theorem Zha : MtF X "str.join" Zlc := by
 rintro pins s σ H x xs v us Q I rx rv ⟨ι, dx, ds, Hd, d, Hd', hr, r1, P, e, q⟩
 unfold Zlc at e
 split at e
 ·rename_i sep d1
  obtain ⟨z, rfl, rz⟩ := Zjh P
  obtain ⟨u, rfl, ru⟩ := rv.one
  simp at r1
  subst r1
  obtain ⟨t1, rfl⟩ := rx
  obtain ⟨ys, e1, e⟩ := Zo e
  obtain ⟨l, e2, e⟩ := Zo e
  split at e
  ·rename_i hz
   cases e
   obtain ⟨p, vs, rfl, h, P2⟩ := Zjz hr rz e1
   have eu : u = .ref p := ru
   subst eu
   have fin := q _ H ι Le.refl hr (show Rep X.K H ι (.str (Zkz sep l)) (.str (Zkz sep l)) by simp)
   rcases h with h | h
   ·obtain ⟨its, rr, pl, _⟩ := I.list h
    obtain ⟨zz, rfl, rfl⟩ := Zjl e2 P2 rr
    exact call_meets PySem.F.slot_str_join (typeIs_str s sep t1) PySem.F.entry_str_join (PySem.F.args_str_join_2 _ _) (meets_str_join_list sep t1 p zz hz.1) ⟨pl.isList, Zj4 I hz.2 fin⟩
   ·obtain ⟨its, rr, pl, _⟩ := I.tuple h
    obtain ⟨zz, rfl, rfl⟩ := Zjl e2 P2 rr
    obtain ⟨o, ho, hc, n, hd⟩ := pl
    exact call_meets PySem.F.slot_str_join (typeIs_str s sep t1) PySem.F.entry_str_join (PySem.F.args_str_join_2 _ _) (meets_str_join_tuple sep t1 p zz hz.1) ⟨⟨o, n, ho, hc, hd⟩, Zj4 I hz.2 fin⟩
  ·cases e
 ·cases e
noncomputable def Zf8 (x y : Str) : List Str := if (decide (x.length < y.length) || decide (Builtin.Str.strKind x < Builtin.Str.strKind y)) = true then [x]
 else if (Builtin.Str.occurrences x y 0 x.length (x.length + 1)).isEmpty = true then [x] else Builtin.Str.partsBetween x (Builtin.Str.occurrences x y 0 x.length (x.length + 1)) y.length
noncomputable def Zcs (x : D) (ds : List D) (H : HD) : Option (D × HD) := match x, ds with
 | .str a, [.str b] => if (b.length == 0) = false ∧ a.length ≤ sizeLine then mkL ((Zf8 a b).map .str) H else none
 | _, _ => none
theorem Zo4 : ∀ z : List (Str × Tok), Zbk (z.map fun p => V.str p.1) (strValues z) := by
 intro z
 induction z with
 | nil => exact .nil
 | cons p r ih => exact .cons ⟨p.2, rfl⟩ ih
theorem Zrn {K : PySem.W.Frag} {H : Hp} {ι : List Addr} : ∀ l : List Str, Paired (Rep K H ι) (l.map .str) (l.map .str) := by
 intro l
 induction l with
 | nil => exact .nil
 | cons x r ih => exact .cons (by simp) ih
theorem Zbt : MtF X "str.split" Zcs := by
 rintro pins s σ H x xs v us Q I rx rv ⟨ι, dx, ds, Hd, d, Hd', hr, r1, P, e, q⟩
 unfold Zcs at e
 split at e
 ·rename_i a b
  obtain ⟨z, rfl, rz⟩ := Zjh P
  obtain ⟨u, rfl, ru⟩ := rv.one
  simp at r1 rz
  subst r1 rz
  obtain ⟨t1, rfl⟩ := rx
  obtain ⟨t2, rfl⟩ := ru
  split at e
  ·rename_i hz
   obtain ⟨k1, k2⟩ := Zfm hr (Zrn (Zf8 a b)) e q
   rw [List.length_map] at k1
   have fin : ∀ (zz : List (Str × Tok)) (tk : Nat), zz.map (·.1) = Zf8 a b → EP X pins σ Q (.ref s.heap.objs.size) { s with toks := tk, heap := s.heap.push { cls := .type "list", data := .seq (strValues zz).toArray } } := fun zz tk ez => by
    have ev : (Zf8 a b).map V.str = zz.map fun p => V.str p.1 := by rw [← ez, List.map_map]; rfl
    refine ⟨.ref s.heap.objs.size, _, I.laid (t' := tk) (fun _ _ q => Heap.get?_push_of_some _ q) (Nat.le_refl _) (show Zep X.prog X.w _ _ _ (.lst ((Zf8 a b).map .str)) from ⟨by rw [List.length_map]; exact k1, strValues zz, 0, by rw [ev]; exact Zo4 zz, Heap.get?_push_size _ rfl⟩), rfl, k2 _ (I.hok.fresh (Nat.le_refl _))⟩
   unfold Zf8 at fin k1
   cases h1 : (decide (a.length < b.length) || decide (Builtin.Str.strKind a < Builtin.Str.strKind b)) with
   | true =>
    rw [h1, if_pos rfl] at fin
    exact call_meets PySem.F.slot_str_split (typeIs_str s a t1) PySem.F.entry_str_split (PySem.F.args_str_split_2 _ _) (meets_str_split_cannot_occur a b t1 t2 h1) (fin [(a, t1)] s.toks rfl)
   | false =>
    rw [h1, if_neg (by simp)] at fin k1
    cases hf : (Builtin.Str.occurrences a b 0 a.length (a.length + 1)).isEmpty with
    | true =>
     rw [hf, if_pos rfl] at fin
     exact call_meets PySem.F.slot_str_split (typeIs_str s a t1) PySem.F.entry_str_split (PySem.F.args_str_split_2 _ _) (meets_str_split_not_found a b t1 t2 h1 hz.1 hf) (fin [(a, t1)] s.toks rfl)
    | false =>
     rw [hf, if_neg (by simp)] at fin k1
     refine call_meets PySem.F.slot_str_split (typeIs_str s a t1) PySem.F.entry_str_split (PySem.F.args_str_split_2 _ _) (meets_str_split_sep a b t1 t2 h1 hz.1 hf hz.2 k1) ?_
     rw [strsFrom_eq]
     exact fin (numbered s.toks _) _ (numbered_texts _ _)
  ·cases e
 ·cases e
end
end DL
namespace DL
open PySem PySem.Spec PyProof.Rows L2 PySem.W
noncomputable def TrD (h B : Heap) (e : Addr) (C : Value) (dx : Option Addr) (fl : Value) : Prop :=
 ∃ oe vs T oT ts, (h.get? e = some oe ∧ oe.cls = C ∧ oe.dict = dx ∧ oe.data = .fields vs ∧ vs[1]? = some (.ref T)) ∧ B.get? T = none ∧ T ≠ e ∧ h.get? T = some oT ∧ oT.data = .fields ts ∧ ts[3]? = some fl
structure FlyD (B : Heap) (l : List Env) (e : Addr) (C : Value) (dx : Option Addr) (fl : Value) (h : Heap) : Prop where
 st : B.StaysIn h
 no : B.get? e = none
 ff : h.FunFrames B l
 tr : TrD h B e C dx fl
theorem FlyD.first {B : Heap} {l : List Env} {e : Addr} {C : Value} {dx : Option Addr} {fl : Value} {h : Heap} (x : FlyD B l e C dx fl h) : ∃ oe vs, h.get? e = some oe ∧ oe.cls = C ∧ oe.data = .fields vs ∧ oe.dict = dx := by
 obtain ⟨oe, vs, _, _, _, ⟨h1, h2, h3, h4, _⟩, _⟩ := x.tr
 exact ⟨oe, vs, h1, h2, h4, h3⟩
theorem FlyD.tail {B : Heap} {env : Env} {l : List Env} {e : Addr} {C : Value} {dx : Option Addr} {fl : Value} {h : Heap} (x : FlyD B (env :: l) e C dx fl h) : FlyD B l e C dx fl h := ⟨x.st, x.no, x.ff.2.2, x.tr⟩
theorem Zh8 (f : Array Value -> Array Value) (o : Obj) : (Obj.mapFields f o).dict = o.dict := by
 unfold Obj.mapFields
 split <;> rfl
section
variable {M : Model} {A : Around} {E : Value -> Shared -> Prop} {s : Shared} {B : Heap} {env : Env} {outer l : List Env} {L e : Addr} {C : Value} {dx : Option Addr} {fl : Value} {Q : Unit -> Shared -> Prop}
theorem Zoi {oe : Obj} {vs : Array Value} {hd : Value} {nx : Bool} (hfr : A.frames = some (env :: outer)) (hf : env.frame = some L) (ff : s.heap.FunFrames B (env :: outer)) (st : B.StaysIn s.heap) (no : B.get? e = none)
  (he : s.heap.get? e = some oe) (hv : oe.data = .fields vs) (hz : 1 < vs.size) (q : ∀ h', FlyD B (env :: outer) e oe.cls oe.dict (rawInt L) h' -> s.heap.UpToSlots h' -> Q () { s with heap := h' }) :
  wpAny M A (frameOf env >>= fun a => entryPlaceOf L nx >>= fun pl => EntryCells.newEntry hd a .none (rawInt L) .none pl >>= fun b => setField (.ref e) 1 b) Q E s := by
 have nf : e ∉ (env :: outer).filterMap (·.frame) := fun z => by
  obtain ⟨_, o, g, n⟩ := ff.mem z
  rw [he] at g
  cases g
  exact n vs hv
 refine wpAny_bind (wpAny_frameOf_fun hfr ff hf fun h1 s1 => wpAny_bind (wpAny_entryPlaceOf fun pl hpl => ?_))
 unfold EntryCells.newEntry newFields
 refine wpAny_bind (wpAny_newObj_type ?_ (hpl.sizeOk5 _ _ _ _ _))
 obtain ⟨oT, hoT⟩ : ∃ o : Obj, o = { cls := .type "traceback", dict := none, data := .fields ([hd, .ref L, .none, rawInt L, .none] ++ (if pl.isEmpty then List.replicate 6 Value.none else pl)).toArray } := ⟨_, rfl⟩
 have e1 : h1.get? e = some oe := (s1.2.1 e nf).trans he
 have b1 : B.StaysIn h1 := fun b o z => (s1.2.1 b fun y => by rw [(ff.mem y).1] at z; cases z).trans (st b o z)
 rw [← hoT]
 have e2 := Heap.get?_push_of_some (h := h1) oT e1
 refine wpAny_setField e2 hv hz (q _ ?_ ?_)
 all_goals
  have nT : h1.objs.size ≠ e := Nat.ne_of_gt (Heap.lt_size e1)
  have v3 := Obj.data_mapFields hv (·.setIfInBounds 1 (Value.ref h1.objs.size))
  have e3 := Heap.get?_update_self (Obj.mapFields (·.setIfInBounds 1 (Value.ref h1.objs.size))) e2 (Obj.isFreed_of_fields v3)
  have lf : oT.isFreed = false := by rw [hoT]; rfl
  have t3 := (Heap.get?_update_other (h1.push oT) (Obj.mapFields (·.setIfInBounds 1 (Value.ref h1.objs.size))) (Ne.symm nT)).trans (Heap.get?_push_size h1 lf)
  have kp : ∀ b o, b ≠ e -> h1.get? b = some o -> ((h1.push oT).update e (Obj.mapFields (·.setIfInBounds 1 (Value.ref h1.objs.size)))).get? b = some o := fun b o n z => by
   rw [Heap.get?_update_other _ _ (Ne.symm n)]
   exact Heap.get?_push_of_some _ z
  have nr : ∀ b o, s.heap.get? b = some o -> (∀ vs, o.data ≠ .fields vs) -> b ≠ e := fun b o z n y => by
   rw [y, he] at z
   cases z
   exact n vs hv
 ·refine ⟨fun b o z => kp b o (fun y => by rw [y, no] at z; cases z) (b1 b o z), no, ff.of_keeps fun b o z n => ?_, ?_⟩
  ·obtain ⟨sl, g⟩ := s1.2.2 b o z
   exact ⟨_, kp b _ (nr b o z n) g, rfl⟩
  ·refine ⟨_, _, h1.objs.size, oT, _, ⟨e3, Obj.cls_mapFields _ _, Zh8 _ _, v3, by simp [hz]⟩, b1.fresh, nT, t3, by rw [hoT], ?_⟩
   first
   | (simp; done)
   | (rcases hpl with rfl | ⟨_, _, _, _, _, _, _, rfl⟩ <;> simp)
 ·intro b o z n
  obtain ⟨sl, g⟩ := s1.2.2 b o z
  exact ⟨sl, kp b _ (nr b o z n) g⟩
theorem Zvk {oe : Obj} {vs : Array Value} (hfr : A.frames = some (env :: outer)) (hf : env.frame = some L) (ff : s.heap.FunFrames B (env :: outer)) (st : B.StaysIn s.heap) (no : B.get? e = none)
  (he : s.heap.get? e = some oe) (hv : oe.data = .fields vs) (h1 : vs[1]? = some .none) (q : ∀ h', FlyD B (env :: outer) e oe.cls oe.dict (rawInt L) h' -> s.heap.UpToSlots h' -> Q () { s with heap := h' }) : wpAny M A (noteFrame (.ref e) env) Q E s := by
 unfold noteFrame
 simp only [hf]
 refine wpAny_bind (wpAny_field he hv h1 ?_)
 rw [if_neg (by decide)]
 exact Zoi hfr hf ff st no he hv (Array.getElem?_eq_some_iff.mp h1).1 q
theorem Ztq (hfr : A.frames = some (env :: outer)) (hf : env.frame = some L) (x : FlyD B (env :: outer) e C dx .none s.heap) (q : ∀ h', FlyD B (env :: outer) e C dx (rawInt L) h' -> s.heap.UpToSlots h' -> Q () { s with heap := h' }) : wpAny M A (noteFrame (.ref e) env) Q E s := by
 obtain ⟨oe, vs, T, oT, ts, ⟨g1, rfl, rfl, g4, g5⟩, k1, k2, k3, k4, k5⟩ := x.tr
 unfold noteFrame
 simp only [hf]
 refine wpAny_bind (wpAny_field g1 g4 g5 ?_)
 rw [if_pos (by simp)]
 refine wpAny_bind (wpAny_field k3 k4 k5 ?_)
 rw [if_neg (by simp [rawInt])]
 refine wpAny_bind (wpAny_setField k3 k4 (Array.getElem?_eq_some_iff.mp k5).1 ?_)
 have ot : ∀ b, b ≠ T -> (s.heap.update T (Obj.mapFields (·.setIfInBounds 3 Value.none))).get? b = s.heap.get? b := fun b n => Heap.get?_update_other _ _ (Ne.symm n)
 have nr : ∀ b o, s.heap.get? b = some o -> (∀ vs, o.data ≠ .fields vs) -> b ≠ T := fun b o z n y => by
  rw [y, k3] at z
  cases z
  exact n ts k4
 refine Zoi hfr hf (x.ff.of_keeps fun b o z n => ⟨o, (ot b (nr b o z n)).trans z, rfl⟩) (fun b o z => (ot b fun y => by rw [y, k1] at z; cases z).trans (x.st b o z)) x.no ((ot e (Ne.symm k2)).trans g1) g4 (Array.getElem?_eq_some_iff.mp g5).1 fun h' y up => q h' y ?_
 exact fun b o z n => up b o ((ot b (nr b o z n)).trans z) n
theorem Zgw (x : FlyD B l e C dx fl s.heap) (q : ∀ h', FlyD B l e C dx .none h' -> s.heap.UpToSlots h' -> Q () { s with heap := h' }) : wpAny M A (setFlight (.ref e) none) Q E s := by
 obtain ⟨oe, vs, T, oT, ts, ⟨g1, g2, g3, g4, g5⟩, k1, k2, k3, k4, k5⟩ := x.tr
 have sz := (Array.getElem?_eq_some_iff.mp k5).1
 have ot : ∀ b, b ≠ T -> (s.heap.update T (Obj.mapFields (·.setIfInBounds 3 ((none : Option Addr).elim Value.none fun f => rawInt f)))).get? b = s.heap.get? b := fun b n => Heap.get?_update_other _ _ (Ne.symm n)
 have nr : ∀ b o, s.heap.get? b = some o -> (∀ vs, o.data ≠ .fields vs) -> b ≠ T := fun b o z n y => by
  rw [y, k3] at z
  cases z
  exact n ts k4
 unfold setFlight
 refine wpAny_bind (wpAny_field g1 g4 g5 ?_)
 rw [if_pos (by simp)]
 have v3 := Obj.data_mapFields k4 (·.setIfInBounds 3 ((none : Option Addr).elim Value.none fun f => rawInt f))
 refine wpAny_setField k3 k4 sz (q _ ⟨fun b o z => (ot b fun y => by rw [y, k1] at z; cases z).trans (x.st b o z), x.no, x.ff.of_keeps fun b o z n => ⟨o, (ot b (nr b o z n)).trans z, rfl⟩, ?_⟩ fun b o z n => ⟨o.slots, (ot b (nr b o z n)).trans z⟩)
 exact ⟨oe, vs, T, _, _, ⟨(ot e (Ne.symm k2)).trans g1, g2, g3, g4, g5⟩, k1, k2, Heap.get?_update_self _ k3 (Obj.isFreed_of_fields v3), v3, by simp [sz]⟩
theorem Zrw {oe : Obj} {vs : Array Value} (hfr : A.frames = some (env :: outer)) (hf : env.frame = some L) (ff : s.heap.FunFrames B (env :: outer)) (st : B.StaysIn s.heap) (no : B.get? e = none)
  (he : s.heap.get? e = some oe) (hv : oe.data = .fields vs) (h1 : vs[1]? = some .none) (q : ∀ h', FlyD B outer e oe.cls oe.dict .none h' -> s.heap.UpToSlots h' -> Q () { s with heap := h' }) : wpAny M A (leaving env (.ref e)) Q E s := by
 unfold leaving
 refine wpAny_bind (Zvk hfr hf ff st no he hv h1 fun h2 x u => ?_)
 exact Zgw (s := { s with heap := h2 }) x fun h3 x3 u3 => q h3 x3.tail (u.trans u3)
theorem Zvo (hfr : A.frames = some (env :: outer)) (hf : env.frame = some L) (x : FlyD B (env :: outer) e C dx .none s.heap) (q : ∀ h', FlyD B outer e C dx .none h' -> s.heap.UpToSlots h' -> Q () { s with heap := h' }) : wpAny M A (leaving env (.ref e)) Q E s := by
 unfold leaving
 refine wpAny_bind (Ztq hfr hf x fun h2 y u => ?_)
 exact Zgw (s := { s with heap := h2 }) y fun h3 x3 u3 => q h3 x3.tail (u.trans u3)
end
noncomputable def vE : List Value := [.type "ValueError", .type "Exception", .type "BaseException", .type "object"]
noncomputable def Zrd (K : Frag) (C Cl : Addr) : Bool := match K.lookup C with
 | some ⟨.type "type", _, .cls c, l⟩ => (match l.toList with
  | [_, _, _, _, some (.builtin n), _] => n == "ValueError.__new__" && !c.hasDel && c.hasDict && c.mro == .ref C :: .ref Cl :: vE && tailIn K vE (.ref Cl :: vE)
  | _ => false)
 | _ => false
structure IniC (h : Heap) (C Cl : Addr) (c : ClassData) : Prop where
 obj : ∃ nm q N bs sn sub ab col dd k0 k1 k2 k3 k5, h.get? C = some (excClassObj nm q C N bs (.ref Cl :: vE) true sn sub ab col dd k0 k1 k2 k3 k5 "ValueError.__new__") ∧ c = { name := nm, bases := bs, mro := .ref C :: .ref Cl :: vE, ns := N, qualname := q, hasDict := true, slotNames := sn, subclasses := sub, abstract := ab, collection := col, hasDel := false }
 tail : OwnTail h vE (.ref Cl :: vE)
theorem Zil {K : Frag} {h : Heap} {C Cl : Addr} (X : K.In h) (q : Zrd K C Cl = true) : ∃ c, clsIn K C = some c ∧ IniC h C Cl c := by
 unfold Zrd at q
 split at q
 ·rename_i dd c l e
  split at q
  ·rename_i k0 k1 k2 k3 n k5 e2
   simp only [Bool.and_eq_true, beq_iff_eq, Bool.not_eq_true'] at q
   obtain ⟨⟨⟨⟨rfl, q2⟩, q3⟩, q4⟩, q5⟩ := q
   refine ⟨c, by unfold clsIn; rw [e], ?_, tail_of_in X q5⟩
   obtain ⟨nm, bs, mro, ns, qn, hd, sn, sub, ab, col, del⟩ := c
   dsimp only at q2 q3 q4
   subst q2 q3 q4
   obtain ⟨l⟩ := l
   simp only at e2
   subst e2
   exact ⟨nm, qn, ns, bs, sn, sub, ab, col, dd, k0, k1, k2, k3, k5, X _ _ e, rfl⟩
  ·cases q
 ·cases q
section
variable {prog : Program} {w : World} {A : Around} {R : Result -> Shared -> Prop} {h : Heap} {g : Array GenState} {d : Drawn} {t : Nat} {os : OsState} {C Cl fI : Addr} {c : ClassData} {rest : List Value}
noncomputable abbrev Zjj (C : Addr) (dx : Option Addr) (t : Addr) : Obj := { cls := .ref C, dict := dx, data := .fields #[.ref t, .none, .none, .none, .bool false, .none] }
theorem Zuq (Y : IniC h C Cl c) (hi : Looks (model prog w) h (typeLookup (.ref C) "__init__") (some (.ref fI))) (hb : ∀ self, Looks (model prog w) h (bindSpecial (.ref fI) self) (.ref fI, [self])) (hr : rest.length ≤ sizeLine)
  (hq : codeAny (model prog w) (A.under (.builtin "type.__call__" ⟨.ref C :: rest, []⟩)) (.call (.ref fI) ⟨.ref (h.objs.size + 1) :: rest, []⟩) (InitBack (h.objs.size + 1) R) ⟨(h.push { cls := .type "tuple", data := .seq rest.toArray }).push (Zjj C none h.objs.size), g, d, t, os⟩) :
  codeAny (model prog w) A (.call (.ref C) ⟨rest, []⟩) R ⟨h, g, d, t, os⟩ := by
 obtain ⟨nm, q, N, bs, sn, sub, ab, col, dd, k0, k1, k2, k3, k5, hC, rfl⟩ := Y.obj
 have T := Y.tail
 have F := PySem.F.excBase_ValueError
 have f1 := tc_lookup
 have f2 := tc_bind (.ref C)
 have hT : (⟨h, g, d, t, os⟩ : Shared).TypeIs (.ref C) "type" := ⟨_, hC, rfl⟩
 refine codeAny_of_tree ?_
 show wpAny _ _ (callAny (.ref C) _) _ _ _
 repeat (any_goals (first | assumption | with_reducible refine wpAny_loadPart_at hC ?_ | wp_step))
 refine ⟨rfl, codeAny_call_builtin_at (Code.quiet_builtin _ (by decide +kernel)) entry_typeCall (wpAny_check_type_call_sub hC ?_)⟩
 show wpAny _ _ (Builtin.«type.__call__» ⟨.ref C :: rest, []⟩) _ _ _
 repeat (first | with_reducible refine wpAny_loadPart_at hC ?_ | with_reducible refine wpAny_madeBy_exc hC ?_ | wp_step)
 refine codeAny_call_builtin_code (Code.quiet_builtin _ F.quiet) (wpAny_check_new_subT F T hC (codeAny_exc_new_subT F T hC ?_ hr))
 show wpAny _ _ _ _ _ _
 have k : ∀ b o, h.get? b = some o → ((h.push { cls := .type "tuple", data := .seq rest.toArray }).push (Zjj C none h.objs.size)).get? b = some o := fun b o e => Heap.get?_push_of_some _ (Heap.get?_push_of_some _ e)
 have hC1 := k _ _ hC
 have hx : ((h.push { cls := .type "tuple", data := .seq rest.toArray }).push (Zjj C none h.objs.size)).get? (h.objs.size + 1) = some { cls := .ref C, data := .fields #[.ref h.objs.size, .none, .none, .none, .bool false, .none] } := by heap_get
 have hcC : (Value.ref C :: Value.ref Cl :: vE).contains (.ref C) = true := by simp
 unfold isInstance
 repeat (first | with_reducible refine wpAny_loadPart_at hx ?_ | (with_reducible refine wpAny_isSubtype_exc hC1 ?_; rw [hcC]) | wp_step)
 show wpAny _ _ (typeLookup (.ref C) _) _ _ _
 refine (hi.keeps k).at ?_
 refine wpAny_holding (wpAny_bind (((hb _).keeps k).at ?_))
 refine wpAny_bind (wpAny_call (codeAny_mono hq fun r s' z => ?_))
 rcases r with e | (v | _ | _ | _) <;> first | exact z | exact z.elim | skip
 obtain ⟨rfl, z⟩ := z
 exact wpAny_pure (wpAny_pure z)
end
section
variable {prog : Program} {w : World} {A : Around} {E : Value -> Shared -> Prop} {s : Shared} {K : Frag} {C Cl e tt : Addr} {c : ClassData} {f : Str} {u : Value}
theorem Zwd {Q : Value -> Shared -> Prop} (Y : IniC s.heap C Cl c) (he : s.heap.get? e = some (Zjj C none tt))
  (q : ∀ h' t', (∀ b o, b ≠ e → s.heap.get? b = some o → h'.get? b = some o) → h'.get? e = some (Zjj C none t') → Q .none { s with heap := h' }) : wpAny (model prog w) A (call (.builtin "ValueError.__init__") [.ref e, u]) Q E s := by
 obtain ⟨h, g, d, t, os⟩ := s
 obtain ⟨nm, qn, N, bs, sn, sub, ab, col, dd, k0, k1, k2, k3, k5, hC, rfl⟩ := Y.obj
 have F := PySem.F.excBase_ValueError
 have he' : h.get? e = some { cls := .ref C, data := .fields #[.ref tt, .none, .none, .none, .bool false, .none] } := he
 refine wpAny_call (codeAny_call_builtin F.init.plain F.initEntry (wpAny_check_init_subT F Y.tail hC he' rfl ?_))
 wp_walk
 refine q _ h.objs.size (fun b o n z => ?_) ?_
 ·rw [Heap.get?_update_other _ _ (Ne.symm n)]
  exact Heap.get?_push_of_some _ z
 ·rw [Heap.get?_update_self _ (Heap.get?_push_of_some _ he') rfl]
  rfl
theorem Zos (self : Value) (C Cl : Addr) : refuseLoop self "__setattr__" (.ref C :: .ref Cl :: vE) = pure () := by
 rw [refuseLoop_ref, refuseLoop_ref]
 unfold vE
 kernel_rfl
theorem Zyt {Q : Unit → Shared → Prop} (X : K.In s.heap) (hc : clsIn K C = some c) (Y : IniC s.heap C Cl c) (he : s.heap.get? e = some (Zjj C none tt)) (hs : findIn K (.ref C) "__setattr__" = some (some (.builtin "object.__setattr__"))) (hf : findIn K (.ref C) f = some none)
  (q : ∀ h' dx, s.heap.get? dx = none -> h'.get? e = some (Zjj C (some dx) tt) -> h'.Ns1 dx (fun y => if y = f then some u else none) -> (∀ b o, b ≠ e -> s.heap.get? b = some o -> h'.get? b = some o) -> Q () { s with heap := h', toks := s.toks + 2 }) :
  wpAny (model prog w) A (setAttr (.ref e) f u) Q E s := by
 obtain ⟨nm, qn, N, bs, sn, sub, ab, col, dd, k0, k1, k2, k3, k5, hC, rfl⟩ := Y.obj
 have J : InstAt s.heap e (Zjj C none tt) C none := ⟨he, rfl, rfl, True.intro⟩
 have hm : Looks (model prog w) s.heap (mroOf (.ref C)) (.ref C :: .ref Cl :: vE) := (looks_clsIn X hc).andThen .now
 have sb : Looks (model prog w) s.heap (isInstance (.ref e) (.type "object")) true := J.type.andThen (looks_mroIn X (by unfold mroIn; rw [hc, Zb, if_neg (by simp)]; rfl))
 have SF := PySem.F.store_object
 refine set_plain X J hs (codeAny_call_builtin SF.slot.plain SF.entry (@check_slot (model prog w) _ _ { s with toks := s.toks + 1 } "object.__setattr__" "object" "__setattr__" (.ref e) [.str f s.toks, u] [] _ SF.kind SF.split sb (SF.args (.ref e) (.str f s.toks) u) ?_))
 rw [osa_eq, refuse_eq]
 refine wpAny_bind (wpAny_bind (J.type.here (s := { s with toks := s.toks + 1 }) (wpAny_bind (hm.here (s := { s with toks := s.toks + 1 }) ?_))))
 rw [Zos]
 refine wpAny_pure (wpAny_bind (J.type.here (s := { s with toks := s.toks + 1 }) (wpAny_bind ((looks_findIn (M := model prog w) X hf).here (s := { s with toks := s.toks + 1 }) (wpAny_bind (wpAny_pure ?_))))))
 dsimp only
 refine wpAny_bind (wpAny_pure (wpAny_bind (wpAny_bind (wpAny_loadPart (s := { s with toks := s.toks + 1 }) he (wpAny_bind (Looks.here (s := { s with toks := s.toks + 1 }) (looks_clsIn (M := model prog w) X hc) ?_))))))
 rw [if_neg (by simp)]
 show wpAny _ _ (alloc emptyDict >>= fun d => update e (fun o => { o with dict := some d }) >>= fun _ => dictMade (.ref C) e d) _ _ _
 have he1 := Heap.get?_push_of_some (h := s.heap) emptyDict he
 refine wpAny_bind (wpAny_alloc (wpAny_bind (wpAny_update (o := Zjj C none tt) he1 ?_)))
 have ne : s.heap.objs.size ≠ e := Nat.ne_of_gt (Heap.lt_size he)
 have k1 : ∀ b o, b ≠ e -> (s.heap.push emptyDict).get? b = some o -> ((s.heap.push emptyDict).update e fun o => { o with dict := some s.heap.objs.size }).get? b = some o := fun b o n z => by
  rw [Heap.get?_update_other _ _ (Ne.symm n)]; exact z
 have e1 := k1 _ _ ne (Heap.get?_push_size s.heap (o := emptyDict) rfl)
 have e2 : ((s.heap.push emptyDict).update e fun o => { o with dict := some s.heap.objs.size }).get? e = some (Zjj C (some s.heap.objs.size) tt) := by
  rw [Heap.get?_update_self _ he1 rfl]
 have n1 : ((s.heap.push emptyDict).update e fun o => { o with dict := some s.heap.objs.size }).Ns1 s.heap.objs.size fun _ => none := Heap.Ns1.of_empty ⟨emptyDict, #[], _, e1, rfl, (fun y hy => absurd hy (by simp)), fun _ => rfl⟩
 show wpAny _ _ (pure (some s.heap.objs.size)) _ _ _
 refine wpAny_pure (wpAny_bind (wpAny_pure (wpAny_bind (wpAny_nsSet1 n1 fun h' n2 s2 => ?_))))
 obtain ⟨oD, esD, epD, g1, g2, g3⟩ := n2.count (ns := [f]) fun y hy => by
  by_cases z : y = f
  ·simp [z]
  ·rw [if_neg z] at hy; exact absurd rfl hy
 refine wpAny_bind (wpAny_lookBehind g1 (by rw [g2]; exact pastItsLine_dict (Nat.le_trans g3 (by rw [sizeLine_eq]; simp))) (wpAny_pure ?_))
 refine q h' s.heap.objs.size (Heap.get?_none_of_le (Nat.le_refl _)) ((s2.2 _ (Ne.symm ne)).trans e2) n2 fun b o n z => ?_
 rw [s2.2 b (Nat.ne_of_lt (Heap.lt_size z))]
 exact k1 b o n (Heap.get?_push_of_some _ z)
end
section
variable {prog : Program} {w : World} {A : Around} {E : Value -> Shared -> Prop} {s : Shared} {K : Frag} {C x : Addr} {ox od : Obj} {f : Str} {v : Value} {ex : Bool}
theorem Zsb {Q : Value -> Shared -> Prop} (L : ExcL K C) (X : K.In s.heap) (I : InstAt s.heap x ox C (some od)) (hf : findObj K C (some od) f = some (.value v)) (hv : handedIn v = true) (q : Q v { s with toks := s.toks + 1 }) : wpAny (model prog w) A (getAttr (.ref x) f ex) Q E s := by
 obtain ⟨hh, g, d, t, os⟩ := s
 have L0 := I.type (M := model prog w)
 have L1 := looks_findIn (M := model prog w) X L.ga
 have L2 := looks_findIn (M := model prog w) X L.gr
 have LF := looks_find (M := model prog w) X I hf
 have LS := looks_subIn (M := model prog w) X L.sb
 unfold getAttr getAttrBy
 refine wpAny_bind (wpAny_mkText (wpAny_holding (wpAny_bind (L0.at (wpAny_bind (L1.at ?_))))))
 show wpAny _ _ (if (onTheHeap (Value.ref C) && (Value.builtin "BaseException.__getattribute__" == Value.builtin "object.__getattribute__")) = true then _ else _) _ _ _
 have n2 : (Value.builtin "BaseException.__getattribute__" == Value.builtin "object.__getattribute__") = false := by decide +kernel
 rw [if_neg (by rw [n2, Bool.and_false]; exact Bool.false_ne_true)]
 unfold getAttrByItsOwn hookBefore
 rw [if_pos (by rfl)]
 refine wpAny_bind (L2.at (wpAny_bind (wpAny_attempt (wpAny_holding ?_))))
 unfold callGetattribute
 have n3 : (ex && onTheHeap (Value.builtin "BaseException.__getattribute__")) = false := by cases ex <;> rfl
 rw [if_neg (by rw [n3]; exact Bool.false_ne_true)]
 unfold boundAndCalled
 have LI : Looks (model prog w) hh (isInstance (.ref x) (.type "BaseException")) true := L0.andThen LS
 rw [PySem.F.attr_ValueError.ga.bind (.ref x)]
 refine wpAny_bind (wpAny_pure ?_)
 show wpAny _ _ (call (.builtin "BaseException.__getattribute__") [.ref x, .str f t]) _ _ _
 refine wpAny_call (codeAny_call_builtin PySem.F.attr_ValueError.ga.plain PySem.F.entry_bexc_ga ?_)
 have b1 : builtinKind "BaseException.__getattribute__" = some .slot := by decide +kernel
 have b2 : splitId "BaseException.__getattribute__" = some ("BaseException", "__getattribute__") := by decide +kernel
 have b3 := PySem.F.args_bexc_ga (.ref x) (.str f t)
 simp only [checkBuiltinCall, b1, b2]
 refine wpAny_bind (LI.at ?_)
 repeat (first | (with_reducible refine L0.at ?_) | (with_reducible refine LF.at ?_) | wp_step)
 exact handed_on hv q
end
structure FlyY (l : List Env) (H H1 : Hp) (h0 h1 : Heap) (a : Addr) (C : Value) (dx : Option Addr) : Prop where
 new : h0.get? a = none
 fly : ∃ B : Heap, FlyD B l a C dx .none h1 ∧ (∀ b o, h0.get? b = some o -> b ∉ frs l -> ∃ o', B.get? b = some o' ∧ (H b = none -> o' = o)) ∧ ∀ b ho, H1 b = some ho -> ∃ o, h1.get? b = some o ∧ B.get? b = some o
noncomputable def CXy (P : Program) (w : World) : CXT := fun outer H s E e s' => ∃ (a : Addr) (C : Value) (dx : Option Addr) (H1 : Hp), e = .ref a ∧ E C dx H1 ∧ s'.os = s.os ∧ AllBare s'.gens ∧ Un (frs outer) [] H H1 s.heap s'.heap ∧ HOk P w H1 s'.heap ∧ FlyY outer H H1 s.heap s'.heap a C dx
section
variable {P : Program} {w : World} {K : PySem.W.Frag} {mg : Str -> Option Value} {base : Heap} {N : List Str} {qual : Str} {scope : Scope} {f : Addr} {cd : Value} {A : Around} {outer : List Env} {s s1 : Shared} {H H1 : Hp} {E : XK} {pins : List (Addr × Obj)} {σ : L2.St}
theorem Zp2 {e : Addr} {oe : Obj} {vs : Array Value} (I : Inv (Zfn (CXy P w) P w K mg base N qual scope f cd A outer s H E) pins σ H1 s1) (he : s1.heap.get? e = some oe) (hv : oe.data = .fields vs) (h1 : vs[1]? = some .none) (n1 : H1 e = none) (new : s.heap.get? e = none) (q : E oe.cls oe.dict H1) :
  (Zfn (CXy P w) P w K mg base N qual scope f cd A outer s H E).xe (.ref e) s1 := by
 have hS := I.stack
 have fr := I.ok.frames
 obtain ⟨L, hL⟩ : ∃ L, L = e :: frs (Zfn (CXy P w) P w K mg base N qual scope f cd A outer s H E).stack := ⟨_, rfl⟩
 have hF : s1.heap.FunFrames (hideAll s1.heap L) (Zfn (CXy P w) P w K mg base N qual scope f cd A outer s H E).stack := funFrames_hide hS fun env he b hb => by rw [hL]; exact List.mem_cons_of_mem _ (List.mem_filterMap.mpr ⟨env, he, hb⟩)
 refine Zrw (B := hideAll s1.heap L) fr rfl hF (fun b o z => of_hideAll _ z) (hideAll_none _ (by rw [hL]; exact List.mem_cons_self ..)) he hv h1 fun h2 f1 f4 => ?_
 have nf : ∀ b ho, H1 b = some ho -> b ∉ L := fun b ho eb z => by
  rw [hL] at z
  rcases List.mem_cons.mp z with rfl | z
  ·rw [n1] at eb; cases eb
  ·rw [I.stkFree b z] at eb; cases eb
 have kp : ∀ b o, s1.heap.get? b = some o -> b ∉ L -> h2.get? b = some o := fun b o eb z => f1.st b o (hideAll_get _ eb z)
 have old : ∀ b o, s.heap.get? b = some o -> b ∉ frs outer -> b ∉ L := fun b o eb z y => by
  rw [hL] at y
  rcases List.mem_cons.mp y with rfl | y
  ·rw [new] at eb; cases eb
  ·rcases List.mem_cons.mp (I.stkSub b y) with rfl | y
   ·exact absurd (Nat.lt_of_lt_of_le (Heap.lt_size eb) I.ok.above) (Nat.lt_irrefl _)
   ·exact z y
 have fram : ∀ b o, b ∈ frs (Zfn (CXy P w) P w K mg base N qual scope f cd A outer s H E).stack -> s1.heap.get? b = some o -> ∃ sl, h2.get? b = some { o with slots := sl } := fun b o z eb => by
  obtain ⟨_, o', g1, g3⟩ := hS.mem z
  rw [eb] at g1
  cases g1
  exact f4 b o eb g3
 refine ⟨e, oe.cls, oe.dict, H1, rfl, q, I.os, I.bare, ⟨fun b o eb n nb _ => kp b o (I.base.keep b o eb n nb (by rintro z; cases z)) (old b o eb nb), fun b o eb n hb _ => ?_, fun b o eb n _ => I.base.free b o eb n (by intro z; cases z), fun b o eb _ => ?_, I.base.tups, I.base.frzs, I.base.tbls⟩, fun b ho eb => ?_, ⟨new, _, f1, fun b o eb nb => ?_, fun b ho eb => ?_⟩⟩
 ·obtain ⟨sl, g⟩ := I.base.slot b o eb n hb (by intro z; cases z)
  obtain ⟨sl', g'⟩ := fram b _ (List.mem_cons_of_mem _ hb) g
  exact ⟨sl', g'⟩
 ·obtain ⟨o1, g⟩ := I.base.there b o eb (by intro z; cases z)
  by_cases z : b ∈ frs (Zfn (CXy P w) P w K mg base N qual scope f cd A outer s H E).stack
  ·obtain ⟨sl, g'⟩ := fram b o1 z g
   exact ⟨_, g'⟩
  ·refine ⟨o1, kp b o1 g fun y => ?_⟩
   rw [hL] at y
   rcases List.mem_cons.mp y with rfl | y
   ·rw [new] at eb; cases eb
   ·exact z y
 ·exact (I.hok b ho eb).stay (fun c u hc g => kp c u g (by
   rcases hc with rfl | hc
   ·exact nf _ _ eb
   ·exact nf _ _ hc)) (fun _ z => z) (fun _ _ z => z)
 ·obtain ⟨o1, g⟩ := I.base.there b o eb (by intro z; cases z)
  refine ⟨o1, hideAll_get _ g (old b o eb nb), fun n => ?_⟩
  exact Option.some.inj (g.symm.trans (I.base.keep b o eb n nb (by intro z; cases z)))
 ·obtain ⟨o, g⟩ := (I.hok b ho eb).here
  exact ⟨o, kp b o g (nf b ho eb), hideAll_get _ g (nf b ho eb)⟩
theorem Zqq {s' : Shared} {H0 : Hp} {a : Addr} {C : Value} {dx : Option Addr} (I : Inv (Zfn (CXy P w) P w K mg base N qual scope f cd A outer s H E) pins σ H0 s1) (os : s'.os = s1.os) (bare : AllBare s'.gens) (un : Un (frs (Zfn (CXy P w) P w K mg base N qual scope f cd A outer s H E).stack) [] H0 H1 s1.heap s'.heap) (hok : HOk P w H1 s'.heap)
  (fl : FlyY (Zfn (CXy P w) P w K mg base N qual scope f cd A outer s H E).stack H0 H1 s1.heap s'.heap a C dx) (q : E C dx H1) : (Zfn (CXy P w) P w K mg base N qual scope f cd A outer s H E).xe (.ref a) s' := by
 obtain ⟨B, fly, bo, bt⟩ := fl.fly
 have fr := I.ok.frames
 refine Zvo fr rfl fly fun h2 f1 up => ?_
 obtain ⟨un2, ok2⟩ := Zp3 un hok bo bt f1.st up fly.ff
 have old : ∀ b o, s.heap.get? b = some o -> b ∉ frs outer -> b ∉ frs (Zfn (CXy P w) P w K mg base N qual scope f cd A outer s H E).stack := fun b o eb z y => by
  rcases List.mem_cons.mp (I.stkSub b y) with rfl | y
  ·exact absurd (Nat.lt_of_lt_of_le (Heap.lt_size eb) I.ok.above) (Nat.lt_irrefl _)
  ·exact z y
 have u : Un (frs (Zfn (CXy P w) P w K mg base N qual scope f cd A outer s H E).stack) [] H H1 s.heap h2 := (I.base.mono (fun b hb => List.mem_cons_of_mem _ hb) (fun b hb => hb)).trans un2
 refine ⟨a, C, dx, H1, rfl, q, os.trans I.os, bare, ⟨fun b o eb n nb hx => u.keep b o eb n (old b o eb nb) hx, fun b o eb n hb hx => u.slot b o eb n (List.mem_cons_of_mem _ hb) hx, u.free, u.there, u.tups, u.frzs, u.tbls⟩, ok2, ⟨?_, B, f1, fun b o eb nb => ?_, fun b ho eb => ?_⟩⟩
 ·cases z : s.heap.get? a with
  | none => rfl
  | some o =>
   obtain ⟨o1, g⟩ := I.base.there a o z (by intro y; cases y)
   rw [fl.new] at g; cases g
 ·obtain ⟨o1, g⟩ := I.base.there b o eb (by intro z; cases z)
  obtain ⟨o', g', z⟩ := bo b o1 g (old b o eb nb)
  refine ⟨o', g', fun n => ?_⟩
  rw [z (I.base.free b o eb n (by intro z; cases z))]
  exact Option.some.inj (g.symm.trans (I.base.keep b o eb n nb (by intro z; cases z)))
 ·obtain ⟨o, g, g'⟩ := bt b ho eb
  exact ⟨o, f1.st b o g', g'⟩
end
section
variable {M : Model} {A : Around} {E : Value -> Shared -> Prop} {s : Shared} {env : Env} {C Cl : Addr} {c : ClassData} {x : Expr} {pos : Pos} {Q : Flow -> Shared -> Prop}
theorem Zpl (hh : A.handled = none) (h : wpAny M A (eval x env) (fun v s1 => ∃ e dx t, v = .ref e ∧ IniC s1.heap C Cl c ∧ s1.heap.get? e = some (Zjj C dx t) ∧ E (.ref e) s1) E s) : wpAny M A (exec (.Raise (some x) none pos) env) Q E s := by
 rw [arm_exec_Raise]
 simp only [evalOpt, Option.map]
 refine wpAny_bind (wpAny_standAt ?_)
 unfold raiseStmt
 refine wpAny_bind (wpAny_bind (wpAny_mono h (fun v s1 h1 => wpAny_bind (wpAny_standAt (wpAny_pure ?_))) fun _ _ y => y))
 obtain ⟨e, dx, t, rfl, Y, he, hE⟩ := h1
 obtain ⟨nm, q, N, bs, sn, sub, ab, col, dd, k0, k1, k2, k3, k5, hC, rfl⟩ := Y.obj
 obtain ⟨hp, g, d, tk, os⟩ := s1
 have he' : hp.get? e = some { cls := .ref C, dict := dx, data := .fields #[.ref t, .none, .none, .none, .bool false, .none] } := he
 have hcB : (Value.ref C :: Value.ref Cl :: vE).contains (.type "BaseException") = true := by rw [List.contains_cons, List.contains_cons]; rfl
 repeat (first | with_reducible refine wpAny_loadPart_at he' ?_ | with_reducible refine wpAny_loadPart_at hC ?_ | (with_reducible refine wpAny_isSubtype_exc hC ?_; rw [hcB]) | wp_step)
 exact wpAny_raiseNew_none hh hE
end
noncomputable def XE (C : Addr) (dx : Option Addr) (e : Addr) : HO := .ext fun h => ∃ t, h.get? e = some (Zjj C dx t)
theorem Zt6 {P : Program} {w : World} {H : Hp} {h : Heap} {C e t : Addr} {dx : Option Addr} (g : h.get? e = some (Zjj C dx t)) : Zep P w H h e (XE C dx e) :=
 ⟨⟨t, g⟩, ⟨_, g⟩, fun h1 h2 ⟨t1, g1⟩ k => ⟨t1, k _ g1⟩⟩
theorem Zvp {P : Program} {w : World} {H : Hp} {h : Heap} {C e : Addr} {dx : Option Addr} (ok : HOk P w H h) (z : H e = some (XE C dx e)) : ∃ t, h.get? e = some (Zjj C dx t) := (ok e _ z).1
structure ExI (K : Frag) (C Cl fI : Addr) (f : Str) : Prop where
 xin : Zrd K C Cl = true
 init : findIn K (.ref C) "__init__" = some (some (.ref fI))
 fn : typeIn K (.ref fI) = some (.type "function")
 sa : findIn K (.ref C) "__setattr__" = some (some (.builtin "object.__setattr__"))
 nf : findIn K (.ref C) f = some none
 ga : specialIn K (.ref Cl) "__getattribute__" = some (some (.builtin "type.__getattribute__"))
 rd : readsIn K Cl (.type "type") = true
 fc : findCls K (.ref Cl) (.type "type") "__init__" = some (.val (.builtin "ValueError.__init__"))
section
variable {X : Cx} {C Cl fI : Addr} {f : Str}
theorem Zpj (a b : Str) : (a ++ b).length = a.length + b.length := by
 show (a.cps ++ b.cps).size = _
 rw [Array.size_append]; rfl
noncomputable def tMsg (i : Nat) : TE := fun σ H Q => ∃ n : Int, σ[i]? = some (some (.int n)) ∧ n.natAbs < 1000000 ∧ ∀ x, Q (.str x) H
theorem Zy9 {i : Nat} {x c1 c2 : Str} {j1 j2 : Nat} {p1 p2 p3 p4 pos : Pos} (hi : X.N[i]? = some x) (hv : Vis X.env.scope x) (h1 : c1.length ≤ 1000) (h2 : c2.length ≤ 1000) (hd : (x == ("__debug__" : Str)) = false := by decide) (hd2 : (x == ("__classdict__" : Str)) = false := by decide) :
  PE X (.JoinedStr [.Constant (.str c1) j1 p1, .FormattedValue (.Name x p2) (-1) none p3, .Constant (.str c2) j2 p4] pos) (tMsg i) := by
 rintro pins s σ H Q I ⟨n, hn, hb, q⟩
 have z0 : Str.empty ++ c1 = c1 := by
  show Str.mk (#[] ++ c1.cps) = c1
  rw [Array.empty_append]
 have sz : sizeLine = 16777216 := sizeLine_eq
 have ln : (toString n : Str).length ≤ 13 := by
  have := PySem.PyData.shown_int_le (i := n) (by omega)
  exact this
 refine JoinedStr_many (joinParts_cons (thn (Znv (X := X) pins _ σ H (fun v H2 => v = .str c1 ∧ H2 = H) I ⟨rfl, rfl⟩) fun u1 s1 z => ?_))
 obtain ⟨v1, H1, I1, r1, rfl, rfl⟩ := z
 obtain ⟨t1, rfl⟩ := r1
 show (Str.empty ++ c1).length ≤ sizeLine ∧ _
 rw [z0]
 refine ⟨by omega, joinParts_cons (FormattedValue_plain (thn (Zgk (X := X) hi hv hd hd2 pins s1 σ H1 (fun v H2 => v = .int n ∧ H2 = H1) I1 ⟨_, hn, rfl, rfl⟩) fun u2 s2 z => ?_))⟩
 obtain ⟨v2, H2, I2, r2, rfl, rfl⟩ := z
 obtain ⟨t2, rfl⟩ := r2
 refine formatField_int_small ?_ ?_
 ·have : n.natAbs.log2 ≤ 20 := by
   rcases Nat.eq_zero_or_pos n.natAbs with z | z
   ·rw [z]; decide
   ·have := (Nat.log2_lt (by omega)).mpr (show n.natAbs < 2 ^ 21 by omega)
    omega
  omega
 have l1 := Zpj c1 (toString n)
 refine ⟨by omega, joinParts_cons (thn (Znv (X := X) pins _ σ H2 (fun v H3 => v = .str c2 ∧ H3 = H2) (I2.tok _) ⟨rfl, rfl⟩) fun u3 s3 z => ?_)⟩
 obtain ⟨v3, H3, I3, r3, rfl, rfl⟩ := z
 obtain ⟨t3, rfl⟩ := r3
 have l2 := Zpj (c1 ++ toString n) c2
 exact ⟨by omega, joinParts_nil ⟨.str _, H3, I3.tok _, ⟨_, rfl⟩, q _⟩ (by omega)⟩
noncomputable def tBase (C : Addr) (ta : TA) : TE := fun σ H Q => ta σ H fun vs H1 => ∃ e x, vs = [.ref e, .str x] ∧ H1 e = some (XE C none e) ∧ Q .non (upd H1 e (XE C none e))
theorem Zul {pl : Sem Bool} {bn : Str} {e : Expr} {es : List Expr} {ta : TA} {p apos pos : Pos} (T : ExI X.K C Cl fI f) (hg : Gl X bn) (hm : X.mg bn = some (.ref Cl)) (ha : PA X (e :: es) ta)
  (hdb : (bn == ("__debug__" : Str)) = false := by decide) (hst : starEach (e :: es) X.env = (false, eval e X.env) :: starEach es X.env := by rfl) (hpl : (backTo pos (starEach es X.env)).any (·.1) = false := by rfl)
  (ht : eval (.Call (.Attribute (.Name bn p) "__init__" apos) (e :: es) [] pos) X.env = (do
   let ov ← eval (.Name bn p) X.env
   standAt apos.atName
   let (f, first) ← holding [ov] (getMethod ov "__init__" pl)
   callWith pos f first (backTo pos (starEach (e :: es) X.env)) (backToKw pos (keywordEach [] X.env))) := by rfl) :
  PE X (.Call (.Attribute (.Name bn p) "__init__" apos) (e :: es) [] pos) (tBase C ta) := by
 intro pins s σ H Q I h
 refine PySem.W.methodCall_KW (pl := pl) (Zgc I hg hm ?_ hdb) ht
 refine method_cls I.kIn T.ga (cls_value I.kIn T.rd T.fc rfl ?_)
 refine PyProof.Rows.callWith_builtin1 (thn (ha pos pins _ σ H _ (I.tok _) h) fun us s1 ⟨vs, H1, I1, r1, e', x, hvs, hH, q⟩ => ?_) hst hpl
 subst hvs
 obtain ⟨u1, u2, rfl, r2, r3⟩ := Zqk r1
 have r2 : u1 = .ref e' := r2
 subst r2
 obtain ⟨t, g⟩ := Zvp I1.hok hH
 obtain ⟨c, hc, Y⟩ := Zil I1.kIn T.xin
 refine Zwd Y g fun h' t' k g' => ?_
 refine ⟨.non, _, I1.write (x := e') (e := e') (t' := s1.toks) (by rw [hH]; exact True.intro) (.inl rfl) (fun b u n z => k b u n z) ⟨_, g'⟩ (Zt6 g'), rfl, q⟩
noncomputable def tSetX (C : Addr) (f : Str) (ta tv : TE) : TS := fun D σ H => tv σ H fun y H1 => ta σ H1 fun x H2 => ∃ e, x = .ref e ∧ H2 e = some (XE C none e) ∧ ∀ dx, H2 dx = none -> dx ≠ e -> D.nx σ (upd (upd H2 dx (.xd [(f, y)])) e (XE C (some dx) e))
theorem Inv.xdict {pins : List (Addr × Obj)} {σ : L2.St} {H : Hp} {s : Shared} {h' : Heap} {e dx t : Addr} {y : V} {u : Value} {t' : Nat} (I : Inv X pins σ H s) (he : H e = some (XE C none e)) (new : s.heap.get? dx = none) (g : h'.get? e = some (Zjj C (some dx) t)) (n1 : h'.Ns1 dx fun z => if z = f then some u else none) (ry : Zct y u)
  (k : ∀ b o, b ≠ e -> s.heap.get? b = some o -> h'.get? b = some o) : Inv X pins σ (upd (upd H dx (.xd [(f, y)])) e (XE C (some dx) e)) { s with heap := h', toks := t' } := by
 have hn : H dx = none := by
  cases z : H dx with
  | none => rfl
  | some ho =>
   obtain ⟨o, q⟩ := (I.hok dx ho z).here
   rw [new] at q; cases q
 have ne : dx ≠ e := fun z => by rw [z, he] at hn; cases hn
 have stay : ∀ b ho, H b = some ho -> b ≠ e -> upd (upd H dx (.xd [(f, y)])) e (XE C (some dx) e) b = some ho := fun b ho z n => by
  rw [Zaw n, Zaw (fun q => by rw [q, hn] at z; cases z)]; exact z
 refine I.un ⟨fun b o eb n _ _ => k b o (fun z => by rw [z, he] at n; cases n) eb, fun b o eb n _ _ => ⟨o.slots, k b o (fun z => by rw [z, he] at n; cases n) eb⟩, fun b o eb n _ => ?_, fun b o eb _ => ?_, fun b xs z => stay b _ z (fun q => by rw [q, he] at z; cases z), fun b o u z => stay b _ z (fun q => by rw [q, he] at z; cases z), fun b ps z => ⟨#[], by rw [stay b _ z (fun q => by rw [q, he] at z; cases z)]; simp⟩⟩ fun b ho z => ?_
 ·rw [Zaw (fun q => by rw [q, he] at n; cases n), Zaw (fun q => by rw [q, new] at eb; cases eb)]; exact n
 ·by_cases q : b = e
  ·subst q; exact ⟨_, g⟩
  ·exact ⟨o, k b o q eb⟩
 ·by_cases q : b = e
  ·subst q
   rw [upd_same] at z
   cases z
   exact Zt6 g
  ·rw [Zaw q] at z
   by_cases q2 : b = dx
   ·subst q2
    rw [upd_same] at z
    cases z
    refine ⟨_, n1, fun f' => ?_⟩
    by_cases q3 : f' = f
    ·subst q3
     show RelO (List.lookup f' [(f', y)]) (if f' = f' then some u else none)
     rw [if_pos rfl, List.lookup_cons_self]
     exact ry
    ·show RelO (List.lookup f' [(f, y)]) (if f' = f then some u else none)
     rw [if_neg q3]
     have : List.lookup f' [(f, y)] = none := by
      have : (f' == f) = false := beq_false_of_ne q3
      simp [List.lookup, this]
     rw [this]
     exact True.intro
   ·rw [Zaw q2] at z
    refine (I.hok b ho z).stay (fun c v hc r => k c v ?_ r) (fun c r => stay c _ r fun q4 => by rw [q4, he] at r; cases r) fun c xs r => stay c _ r fun q4 => by rw [q4, he] at r; cases r
    rcases hc with rfl | hc
    ·exact q
    ·intro q4; rw [q4, he] at hc; cases hc
theorem Zvj {o value : Expr} {ta tv : TE} {pos pos' : Pos} (T : ExI X.K C Cl fI f) (ha : PE X o ta) (hv : PE X value tv) (hs : swapsWith value (some (.Attribute o f pos')) pos.line X.env = pure false) : PS X (.Assign [.Attribute o f pos'] value pos) (tSetX C f ta tv) := by
 intro pins s σ H D I h
 refine plainObj_wpAny_Assign_Attribute (thn (hv pins s σ H _ I h) fun u s1 ⟨y, H1, I1, ry, q⟩ => thn (ha pins s1 σ H1 _ I1 q) fun ov s2 ⟨x, H2, I2, rx, e, ex, he, q2⟩ => ?_) hs
 subst ex
 have rx : ov = Value.ref e := rx
 subst rx
 obtain ⟨t, g⟩ := Zvp I2.hok he
 obtain ⟨c, hc, Y⟩ := Zil I2.kIn T.xin
 refine Zyt I2.kIn hc Y g T.sa T.nf fun h' dx new g' n1 k => ?_
 have hn : H2 dx = none := by
  cases z : H2 dx with
  | none => rfl
  | some ho =>
   obtain ⟨o, q⟩ := (I2.hok dx ho z).here
   rw [new] at q; cases q
 exact ⟨σ, _, Inv.xdict I2 he new g' n1 ry k, q2 dx hn fun z => by rw [z, he] at hn; cases hn⟩
end
noncomputable def spI (C : Addr) (f : Str) : Sp := fun vs H Q _ => ∃ (e : Addr) (n : Int), vs = [.ref e, .int n] ∧ n.natAbs < 1000000 ∧ H e = some (XE C none e) ∧ ∀ dx, H dx = none -> dx ≠ e -> Q .non (upd (upd H dx (.xd [(f, .int n)])) e (XE C (some dx) e))
theorem Zyu {P : Program} {w : World} {K : Frag} {mg : Str -> Option Value} {base : Heap} {C Cl fI : Addr} {f qual ln : Str} {st : Stmt} {fd : FuncData} {k : Nat} {c1 c2 : Str} {j1 j2 : Nat} {p1 p2 p3 p4 p5 p6 p7 p8 p9 p10 q1 q2 q3 q4 : Pos}
  (T : ExI K C Cl fI f) (hm : mg "ClaimError" = some (.ref Cl)) (F : Fun K "__init__" qual st fI fd) (S : FnScope ["self", ln] ["self", ln] (Zal st))
  (hb : Zcn st = [.Expr (.Call (.Attribute (.Name "ClaimError" p1) "__init__" p2) [.Name "self" p3, .JoinedStr [.Constant (.str c1) j1 q1, .FormattedValue (.Name ln q2) (-1) none q3, .Constant (.str c2) j2 q4] p4] [] p5) p6, .Assign [.Attribute (.Name "self" p7) f p8] (.Name ln p9) p10])
  (h1 : c1.length ≤ 1000) (h2 : c2.length ≤ 1000) (sS : (Zal st).names.lookup ("self" : Str) = some .local) (sL : (Zal st).names.lookup ln = some .local) (sB : (Zal st).names.lookup ("ClaimError" : Str) = some .globalImplicit)
  (ht : ∀ (L : Addr) (cdv : Value), ∃ pl, eval (.Call (.Attribute (.Name "ClaimError" p1) "__init__" p2) [.Name "self" p3, .JoinedStr [.Constant (.str c1) j1 q1, .FormattedValue (.Name ln q2) (-1) none q3, .Constant (.str c2) j2 q4] p4] [] p5) (envOfC qual (Zal st) L fI cdv) = (do
   let ov ← eval (.Name "ClaimError" p1) (envOfC qual (Zal st) L fI cdv)
   standAt p2.atName
   let (f, first) ← holding [ov] (getMethod ov "__init__" pl)
   callWith p5 f first (backTo p5 (starEach [.Name "self" p3, .JoinedStr [.Constant (.str c1) j1 q1, .FormattedValue (.Name ln q2) (-1) none q3, .Constant (.str c2) j2 q4] p4] (envOfC qual (Zal st) L fI cdv))) (backToKw p5 (keywordEach [] (envOfC qual (Zal st) L fI cdv)))))
  (d3 : (ln == ("__debug__" : Str)) = false := by decide) (d4 : (ln == ("__classdict__" : Str)) = false := by decide) :
  FnOk P w K mg base CX0 (k + 1) fI fd ["self", ln] (spI C f) := by
 refine F.ok (N := ["self", ln]) S (fun vs H Q E ⟨e, n, z, _⟩ => by rw [z]; rfl) fun cdv A outer s H vs Q E hr zz => ?_
 obtain ⟨e, n, hvs, hn, he, q⟩ := zz
 subst hvs
 rw [hb]
 obtain ⟨pl, ht⟩ := ht s.heap.objs.size cdv
 have e1 : PE (Zfn CX0 P w K mg base ["self", ln] qual (Zal st) fI cdv A outer s H E).nox (.Call (.Attribute (.Name "ClaimError" p1) "__init__" p2) [.Name "self" p3, .JoinedStr [.Constant (.str c1) j1 q1, .FormattedValue (.Name ln q2) (-1) none q3, .Constant (.str c2) j2 q4] p4] [] p5) _ := Zul (pl := pl) T sB hm (Zem (Zgk (i := 0) rfl (.inl sS)) (Zem (Zy9 (i := 1) rfl (.inl sL) h1 h2 d3 d4) Zkd rfl) rfl) (by decide) rfl rfl ht
 have s1 := Zov (pos := p6) e1 rfl
 have s2 := Zvj (X := (Zfn CX0 P w K mg base ["self", ln] qual (Zal st) fI cdv A outer s H E).nox) (pos := p10) (pos' := p8) T (Zgk (pos := p7) (x := "self") (i := 0) rfl (.inl sS)) (Zgk (pos := p9) (x := ln) (i := 1) rfl (.inl sL) d3 d4) rfl
 refine ⟨_, Zfu s1 (Zt9 s2), ?_⟩
 refine ⟨.ref e, rfl, n, rfl, hn, fun x => ⟨e, x, rfl, he, .int n, rfl, .ref e, rfl, e, rfl, upd_same, fun dx h3 h4 => ?_⟩⟩
 rw [Zaw h4] at h3
 have eq : upd (upd (upd H e (XE C none e)) dx (.xd [(f, .int n)])) e (XE C (some dx) e) = upd (upd H dx (.xd [(f, .int n)])) e (XE C (some dx) e) := by
  funext b
  unfold upd
  by_cases z : b = e
  ·rw [if_pos z, if_pos z]
  ·rw [if_neg z, if_neg z, if_neg z]
 show Q .non _
 rw [eq]
 exact q dx h3 h4
section
variable {X : Cx} {C Cl fI : Addr} {f : Str}
theorem Inv.drop {pins : List (Addr × Obj)} {σ : L2.St} {H : Hp} {s : Shared} {e : Addr} {φ : Heap -> Prop} (I : Inv X pins σ H s) (he : H e = some (.ext φ)) (new : X.s₀.heap.get? e = none) : Inv X pins σ (fun b => if b = e then none else H b) s := by
 have k : ∀ b ho, H b = some ho -> b ≠ e -> (if b = e then none else H b) = some ho := fun b ho z n => by rw [if_neg n]; exact z
 have fr : ∀ b, H b = none -> (if b = e then none else H b) = none := fun b z => by split <;> first | rfl | exact z
 refine ⟨I.ok, I.os, I.bare, ⟨I.base.keep, I.base.slot, fun b o eb n hx => fr b (I.base.free b o eb n hx), I.base.there, fun b xs z => ?_, fun b o u z => ?_, fun b ps z => ?_⟩, I.loc, I.cell, fr _ I.free, fun x c z => fr c (I.freeC x c z), fun p hp => ?_, fun b ho z => ?_, I.len⟩
 ·have z := I.base.tups b xs z
  exact k b _ z fun q => by rw [q, he] at z; cases z
 ·have z := I.base.frzs b o u z
  exact k b _ z fun q => by rw [q, he] at z; cases z
 ·obtain ⟨m, z⟩ := I.base.tbls b ps z
  exact ⟨m, k b _ z fun q => by rw [q, he] at z; cases z⟩
 ·obtain ⟨a1, a2, a3⟩ := I.pin p hp
  exact ⟨a1, fr _ a2, a3⟩
 ·split at z
  ·cases z
  ·rename_i n
   exact (I.hok b ho z).stay (fun c v _ r => r) (fun c r => k c _ r fun q => by rw [q, he] at r; cases r) fun c xs r => k c _ r fun q => by rw [q, he] at r; cases r
noncomputable def tXM (h0 : Heap) (C : Addr) (f : Str) (ta : TA) : TE := fun σ H Q => ta σ H fun vs H1 => ∃ n : Int, vs = [.int n] ∧ n.natAbs < 1000000 ∧ ∀ e dx, H1 e = none -> H1 dx = none -> dx ≠ e -> h0.get? e = none -> Q (.ref e) (upd (upd H1 dx (.xd [(f, .int n)])) e (XE C (some dx) e))
theorem Zsn {k : Nat} {fd : FuncData} {ps : List Str} {x : Str} {e : Expr} {ta : TA} {p pos : Pos} (T : ExI X.K C Cl fI f) (F : FnOk X.prog X.w X.K X.mg X.base CX0 k fI fd ps (spI C f)) (hr : Room (k + 1) X.A) (hg : Gl X x) (hm : X.mg x = some (.ref C)) (hk : keepIn X.K (.ref C) = true) (hb : Zfs X.K fd ps []) (ha : PA X [e] ta)
  (hdb : (x == ("__debug__" : Str)) = false := by decide) (he : starEach [e] X.env = (false, eval e X.env) :: starEach [] X.env := by exact Zbe rfl) (hpl : (backTo pos (starEach [] X.env)).any (·.1) = false := by rfl) : PE X (.Call (.Name x p) [e] [] pos) (tXM X.s₀.heap C f ta) := by
 intro pins s σ H Q I h
 refine wpAny_Call_Name_kw (Zgc I hg hm ?_ hdb)
 refine PySem.W.callWith_K (h₀ := X.base) I.ok.mod.kin hk (thn (ha pos pins s σ H _ I h) fun us s1 ⟨vs, H1, I1, r, n, hvs, hn, q⟩ => ⟨I1.kIn, ?_⟩) he hpl
 subst hvs
 obtain ⟨u, rfl, ru⟩ := Zgs r
 obtain ⟨c, hc, Y⟩ := Zil I1.kIn T.xin
 obtain ⟨h1, g1, d1, t1, o1⟩ := s1
 have kp : ∀ b o, h1.get? b = some o → ((h1.push { cls := .type "tuple", data := .seq [u].toArray }).push (Zjj C none h1.objs.size)).get? b = some o := fun b o z => Heap.get?_push_of_some _ (Heap.get?_push_of_some _ z)
 have hx : ((h1.push { cls := .type "tuple", data := .seq [u].toArray }).push (Zjj C none h1.objs.size)).get? (h1.objs.size + 1) = some (Zjj C none h1.objs.size) := by heap_get
 have I2 := I1.laid (a := h1.objs.size + 1) (o := XE C none (h1.objs.size + 1)) (t' := t1) kp (Nat.le_succ _) (Zt6 hx)
 have hn1 : H1 (h1.objs.size + 1) = none := I1.hok.fresh (Nat.le_succ _)
 have r2 : Zbk [V.ref (h1.objs.size + 1), V.int n] [Value.ref (h1.objs.size + 1), u] := .cons rfl (.cons ru .nil)
 have sp : spI C f [V.ref (h1.objs.size + 1), V.int n] (upd H1 (h1.objs.size + 1) (XE C none (h1.objs.size + 1))) (fun v H2 => v = .non ∧ Q (.ref (h1.objs.size + 1)) H2) fun _ _ _ => False := by
  refine ⟨_, n, rfl, hn, upd_same, fun dx z1 z2 => ⟨rfl, ?_⟩⟩
  rw [Zaw z2] at z1
  have eq : upd (upd (upd H1 (h1.objs.size + 1) (XE C none (h1.objs.size + 1))) dx (.xd [(f, .int n)])) (h1.objs.size + 1) (XE C (some dx) (h1.objs.size + 1)) = upd (upd H1 dx (.xd [(f, .int n)])) (h1.objs.size + 1) (XE C (some dx) (h1.objs.size + 1)) := by
   funext b
   unfold upd
   by_cases z : b = h1.objs.size + 1
   ·rw [if_pos z, if_pos z]
   ·rw [if_neg z, if_neg z, if_neg z]
  rw [eq]
  exact q _ dx hn1 z1 z2 (Heap.get?_none_of_le (Nat.le_trans I1.sz (Nat.le_succ _)))
 have hl : ([Value.ref (h1.objs.size + 1), u]).length = ps.length := by
  have e := F.len _ _ _ _ sp
  exact e
 have bd := hb _ [Value.ref (h1.objs.size + 1), u] I2.kIn (by rw [List.append_nil]; exact hl)
 rw [List.append_nil] at bd
 refine wpAny_call (Zuq (C := C) (rest := [u]) Y (looks_findIn I1.kIn T.init) (fun self => bind_fn I1.kIn self T.fn) (by rw [sizeLine_eq]; simp) (codeAny_mono (F.run _ X.stack _ _ ⟨[Value.ref (h1.objs.size + 1), u], []⟩ [Value.ref (h1.objs.size + 1), u] [V.ref (h1.objs.size + 1), V.int n] _ _ (hr.make C [u] []) (I2.env0.make C [u] []) bd r2 sp) fun r s' z => ?_))
 cases r with
 | error e => exact z.elim
 | ok fl =>
  cases fl with
  | ret w' =>
   obtain ⟨v, H', I3, rv, ev, q3⟩ := I2.after z
   subst ev
   exact ⟨rv, ⟨V.ref (h1.objs.size + 1), H', I3, rfl, q3⟩⟩
  | next => exact False.elim z
  | brk => exact False.elim z
  | cont => exact False.elim z
end
noncomputable abbrev YFs := SD -> HD -> Option (Int × HD)
noncomputable abbrev YFF := List D -> HD -> Option (Int × HD)
noncomputable def Zt3 (av : Option Str) (i : Int) (dx : Option Addr) (H : Hp) (ι : List Addr) : Prop := match av with
 | none => dx = none
 | some f => ∃ d, dx = some d ∧ H d = some (.xd [(f, .int i)]) ∧ d ∉ ι
noncomputable def Zzv (fl : Bool) (X : Cx) (C : Addr) (dx : Option Addr) (H1 : Hp) (e : Value) (s' : Shared) : Prop := ∃ pins σ1 a, e = .ref a ∧ ((fl = false ∧ ∃ oe vs, Inv X pins σ1 H1 s' ∧ s'.heap.get? a = some oe ∧ oe.cls = .ref C ∧ oe.dict = dx ∧ oe.data = .fields vs ∧ vs[1]? = some .none ∧ H1 a = none ∧ X.s₀.heap.get? a = none) ∨
 ∃ s1 H0, Inv X pins σ1 H0 s1 ∧ s'.os = s1.os ∧ AllBare s'.gens ∧ Un (frs X.stack) [] H0 H1 s1.heap s'.heap ∧ HOk X.prog X.w H1 s'.heap ∧ FlyY X.stack H0 H1 s1.heap s'.heap a (.ref C) dx)
noncomputable def rdY (fl : Bool) (X : Cx) (C : Addr) (av : Option Str) (b : YFs) : TS := fun _ σ H => ∃ ι σd Hd i Hd', SRep X.K H ι σ σd ∧ HRep X.K H ι Hd ∧ b σd Hd = some (i, Hd') ∧
 ∀ H1 ι' dx e s', Le X.K H ι H1 ι' -> HRep X.K H1 ι' Hd' -> Zt3 av i dx H1 ι' -> Zzv fl X C dx H1 e s' -> X.xe e s'
noncomputable def PYf (fl : Bool) (X : Cx) (C : Addr) (av : Option Str) (sts : List Stmt) (b : YFs) : Prop := PSs X sts (rdY fl X C av b)
noncomputable def Zk1 (f : SF) (b : YFs) : YFs := fun σ H => (f σ H).bind fun r => match r.1 with
 | .nx => b r.2.1 r.2.2
 | _ => none
noncomputable def yEi (f : SF) (a b : YFs) : YFs := fun σ H => match f σ H with
 | none => a σ H
 | some r => match r.1 with
  | .nx => b r.2.1 r.2.2
  | _ => none
noncomputable def yIf (t : TF) (a b : YFs) : YFs := fun σ H => (t σ H).bind fun r => if r.1 then a σ r.2 else b σ r.2
noncomputable def yNo : YFs := fun _ _ => none
noncomputable def Zfc (fe : EF) : YFs := fun σ H => (fe σ H).bind fun r => match r.1 with
 | .int i => if i.natAbs < 1000000 then some (i, r.2) else none
 | _ => none
noncomputable def Zud (n N : Nat) (b : YFs) : YFF := fun ds H => if ds.length = n then b (ds.map some ++ List.replicate (N - ds.length) none) H else none
section
variable {X : Cx} {fl : Bool} {C : Addr} {av : Option Str} {st : Stmt} {sts : List Stmt} {c : Expr} {pos : Pos}
theorem Zqe {f : SF} {b : YFs} (h1 : PSf X st f) (h2 : PYf fl X C av sts b) : PYf fl X C av (st :: sts) (Zk1 f b) := by
 refine Zwh (Zfu h1 h2) fun E σ H zz => ?_
 obtain ⟨ι, σd, Hd, i, Hd', s, hr, e, q⟩ := zz
 obtain ⟨⟨f1, σ1, H1⟩, e1, e⟩ := Zo e
 refine ⟨ι, σd, Hd, f1, σ1, H1, s, hr, e1, fun σ' H' ι' l h ss => ?_⟩
 cases f1 with
 | nx => exact ⟨ι', σ1, H1, i, Hd', ss, h, e, fun H2 ι2 dx ex s2 l2 => q H2 ι2 dx ex s2 (l.trans l2)⟩
 | bk => cases e
 | ct => cases e
 | rt d => cases e
noncomputable def PYS (fl : Bool) (X : Cx) (C : Addr) (av : Option Str) (st : Stmt) (b : YFs) : Prop := PS X st (rdY fl X C av b)
theorem Zim {b : YFs} (h : PYS fl X C av st b) : PYf fl X C av (st :: sts) b := Zwh (Zfu h (Zww (sts := sts))) fun E σ H z => z
theorem py_ei {f : SF} {a b : YFs} (h1 : PSf X st f) (h0 : PYS fl X C av st a) (h2 : PYf fl X C av sts b) : PYf fl X C av (st :: sts) (yEi f a b) := by
 rintro pins s σ H D I ⟨ι, σd, Hd, i, Hd', ss, hr, e, q⟩
 unfold yEi at e
 split at e
 ·exact Zim h0 pins s σ H D I ⟨ι, σd, Hd, i, Hd', ss, hr, e, q⟩
 ·rename_i r e1
  exact Zqe h1 h2 pins s σ H D I ⟨ι, σd, Hd, i, Hd', ss, hr, by unfold Zk1; rw [e1]; exact e, q⟩
theorem Zvh : PYf fl X C av sts yNo := fun pins s σ H D I ⟨_, _, _, _, _, _, _, e, _⟩ => by cases e
theorem py_if {t : TF} {as bs : List Stmt} {a b : YFs} (hc : PTf X c t) (ha : PYf fl X C av as a) (hb : PYf fl X C av bs b) : PYS fl X C av (.If c as bs pos) (yIf t a b) := by
 refine PSi (Zyk hc ha hb) fun E σ H zz => ?_
 obtain ⟨ι, σd, Hd, i, Hd', s, hr, e, q⟩ := zz
 obtain ⟨⟨z, H1⟩, e1, e⟩ := Zo e
 refine ⟨ι, σd, Hd, z, H1, s, hr, e1, fun H' ι' l h => ?_⟩
 cases z with
 | true =>
  rw [if_pos rfl]
  exact ⟨ι', σd, H1, i, Hd', s.mono l, h, by simpa using e, fun H2 ι2 dx ex s2 l2 => q H2 ι2 dx ex s2 (l.trans l2)⟩
 | false =>
  rw [if_neg (by simp)]
  exact ⟨ι', σd, H1, i, Hd', s.mono l, h, by simpa using e, fun H2 ι2 dx ex s2 l2 => q H2 ι2 dx ex s2 (l.trans l2)⟩
open Classical in
noncomputable def Zf2 (own : Zfq) (g : GF) (b : SF) (yb : YFs) : List D -> YFs
 | [], _, _ => none
 | x :: r, σ, H => if Zdb own H then (g x σ H).bind fun p => match b p.1 p.2 with
   | none => yb p.1 p.2
   | some q => match q.1 with
    | .nx => Zf2 own g b yb r q.2.1 q.2.2
    | .ct => Zf2 own g b yb r q.2.1 q.2.2
    | _ => none
  else none
noncomputable def Zwi (it : ItF) (g : GF) (b : SF) (yb : YFs) : YFs := fun σ H => (it σ H).bind fun p => Zf2 p.1.2 g b yb p.1.1 σ p.2
theorem Zx8 {tg iter : Expr} {body : List Stmt} {f : ItF} {g : GF} {b : SF} {yb : YFs} (hp : PassesOwn (model X.prog X.w) X.A X.env X.xe) (hc : X.calm = true) (hi : PIf X tg iter f) (hg : PGf X tg g) (hb : Zmp X body b) (hy : PYf fl X C av body yb)
  (hs : ∀ x, foldedSetIterable iter X.env x = pure x := by intro _; rfl) : PYS fl X C av (.For tg iter body [] pos) (Zwi f g b yb) := by
 have hbb : PSs X body (fun D σ H => rdS X.K b D σ H ∨ rdY fl X C av yb D σ H) := fun pins s σ H D I z => z.elim (hb pins s σ H D I) (hy pins s σ H D I)
 refine PSi (Ztb hp hc hi hg hbb hs) fun E σ H zz => ?_
 obtain ⟨ι, σd, Hd, i0, Hf, s, hr, e, q⟩ := zz
 obtain ⟨⟨⟨xs, own⟩, H1⟩, e1, e⟩ := Zo e
 refine ⟨ι, σd, Hd, xs, own, H1, s, hr, e1, fun J H0 ι0 l0 h0 it => ?_⟩
 refine ⟨fun i m σ H => m = xs.length - i ∧ i ≤ xs.length ∧ ∃ ι σd Hd, Le X.K H0 ι0 H ι ∧ SRep X.K H ι σ σd ∧ HRep X.K H ι Hd ∧ Zf2 own g b yb (xs.drop i) σd Hd = some (i0, Hf), ⟨xs.length, by simp, Nat.zero_le _, ι0, σd, H1, Le.refl, s.mono l0, h0, by simpa using e⟩, ?_⟩
 rintro i m σ2 H2 ⟨rfl, hi, ι2, σd2, Hd2, l2, s2, h2, e2⟩
 by_cases hlt : i < xs.length
 ·rw [List.drop_eq_getElem_cons hlt, Zf2] at e2
  split at e2
  ·rename_i ok
   obtain ⟨⟨σ3, H3⟩, e3, e2⟩ := Zo e2
   refine .inr ⟨it.go i H2 ι2 Hd2 l2 h2 ok hlt, fun σ' H' => (xs.length - (i + 1) = xs.length - (i + 1) ∧ i + 1 ≤ xs.length ∧ ∃ ι σd Hd, Le X.K H0 ι0 H' ι ∧ SRep X.K H' ι σ' σd ∧ HRep X.K H' ι Hd ∧ Zf2 own g b yb (xs.drop (i + 1)) σd Hd = some (i0, Hf)), fun σ' H' p => ⟨_, by omega, p⟩, fun x H' y => ?_⟩
   obtain ⟨ι3, l3, h3, r3⟩ := it.yld i H2 ι2 Hd2 xs[i] x H' l2 h2 ok (by simp [hlt]) y
   refine ⟨ι3, σd2, Hd2, xs[i], σ3, H3, s2.mono l3, h3, r3, e3, fun σ5 H5 ι5 l5 h5 s5 => ?_⟩
   have L5 : Le X.K H0 ι0 H5 ι5 := (l2.trans l3).trans l5
   cases e4 : b σ3 H3 with
   | none =>
    dsimp only at e2
    rw [e4] at e2
    exact .inr ⟨ι5, σ3, H3, i0, Hf, s5, h5, e2, fun H6 ι6 dx ex s6 l6 => q H6 ι6 dx ex s6 ((l0.trans L5).trans l6)⟩
   | some p =>
    obtain ⟨f4, σ4, H4⟩ := p
    dsimp only at e2
    rw [e4] at e2
    refine .inl ⟨ι5, σ3, H3, f4, σ4, H4, s5, h5, e4, fun σ6 H6 ι6 l6 h6 s6 => ?_⟩
    cases f4 with
    | nx => exact ⟨rfl, hlt, ι6, σ4, H4, L5.trans l6, s6, h6, e2⟩
    | ct => exact ⟨rfl, hlt, ι6, σ4, H4, L5.trans l6, s6, h6, e2⟩
    | bk => cases e2
    | rt d => cases e2
  ·cases e2
 ·rw [List.drop_eq_nil_of_le (by omega), Zf2] at e2
  cases e2
theorem Zsk {Cl fI : Addr} {f : Str} {k : Nat} {fd : FuncData} {ps : List Str} {x : Str} {e : Expr} {fe : EF} {np cpos : Pos} (hc : X.calm = true) (T : ExI X.K C Cl fI f) (F : FnOk X.prog X.w X.K X.mg X.base CX0 k fI fd ps (spI C f)) (hr : Room (k + 1) X.A) (hm : X.mg x = some (.ref C)) (hk : keepIn X.K (.ref C) = true) (hb : Zfs X.K fd ps [])
  (hf : PAf X [e] (Zac fe Zan)) (hg : Gl X x := by rfl) (hdb : (x == ("__debug__" : Str)) = false := by decide) (he : starEach [e] X.env = (false, eval e X.env) :: starEach [] X.env := by exact Zbe rfl) :
  PYS false X C (some f) (.Raise (some (.Call (.Name x np) [e] [] cpos)) none pos) (Zfc fe) := by
 rintro pins s σ H D I ⟨ι, σd, Hd, i, Hd', ss, hh, eq, q⟩
 obtain ⟨⟨d, H1⟩, e1, e2⟩ := Zo eq
 have z : d = .int i ∧ i.natAbs < 1000000 ∧ H1 = Hd' := by
  dsimp only at e2
  split at e2
  ·rename_i j
   split at e2
   ·rename_i hj; cases e2; exact ⟨rfl, hj, rfl⟩
   ·cases e2
  ·cases e2
 obtain ⟨rfl, hi, rfl⟩ := z
 obtain ⟨c, hc2, _⟩ := Zil I.kIn T.xin
 have ea : Zac fe Zan σd Hd = some ([.int i], H1) := by unfold Zac; rw [e1]; rfl
 refine Zpl (C := C) (Cl := Cl) (c := c) (I.ok.hd hc) (wpAny_mono (Zsn T F hr hg hm hk hb hf hdb he rfl pins s σ H (fun v H3 => ∃ H2 ι' e dx, v = .ref e ∧ Le X.K H ι H2 ι' ∧ HRep X.K H2 ι' H1 ∧ H2 e = none ∧ H2 dx = none ∧ dx ≠ e ∧ X.s₀.heap.get? e = none ∧ H3 = upd (upd H2 dx (.xd [(f, .int i)])) e (XE C (some dx) e)) I
  ⟨ι, σd, Hd, [.int i], H1, ss, hh, ea, fun vs H' ι' l h P => ?_⟩) (fun v s2 z => ?_) fun _ _ z => z)
 ·obtain ⟨v, rfl, rv⟩ := Zjh P
  simp at rv
  exact ⟨i, by rw [rv], hi, fun e dx z1 z2 z3 z4 => ⟨H', ι', e, dx, rfl, l, h, z1, z2, z3, z4, rfl⟩⟩
 ·obtain ⟨v, H3, I3, r3, H2, ι', ex, dx, rfl, l, h, z1, z2, z3, new, rfl⟩ := z
  have r3 : _ = Value.ref ex := r3
  subst r3
  obtain ⟨t, g⟩ := Zvp I3.hok upd_same
  obtain ⟨c', hc3, Y⟩ := Zil I3.kIn T.xin
  rw [hc2] at hc3
  cases hc3
  have I4 := Inv.drop I3 (e := ex) (upd_same) new
  have eq : (fun b => if b = ex then none else upd (upd H2 dx (.xd [(f, .int i)])) ex (XE C (some dx) ex) b) = upd H2 dx (.xd [(f, .int i)]) := by
   funext b
   by_cases y : b = ex
   ·rw [if_pos y, y, Zaw (Ne.symm z3)]; exact z1.symm
   ·rw [if_neg y, Zaw y]
  rw [eq] at I4
  refine ⟨ex, some dx, t, rfl, Y, g, q _ ι' (some dx) _ _ (l.trans (Le.fresh z2 _)) (h.tup z2 _) ⟨dx, rfl, upd_same, h.fresh z2⟩ ⟨pins, σ, ex, rfl, .inl ⟨rfl, _, _, I4, g, rfl, rfl, rfl, rfl, ?_, new⟩⟩⟩
  rw [Zaw (Ne.symm z3)]; exact z1
noncomputable def spY (K : PySem.W.Frag) (C : Addr) (av : Option Str) (n : Nat) (F : YFF) : Sp := fun vs H _ E => ∃ ι ds Hd i Hd', ds.length = n ∧ HRep K H ι Hd ∧ Paired (Rep K H ι) ds vs ∧ F ds Hd = some (i, Hd') ∧ ∀ H1 ι' dx, Le K H ι H1 ι' -> HRep K H1 ι' Hd' -> Zt3 av i dx H1 ι' -> E (.ref C) dx H1
noncomputable def Zi3 (n : Nat) (F : YFF) (fa : AF) : YFs := fun σ H => (fa σ H).bind fun p => if p.1.length = n then F p.1 p.2 else none
end
section
variable {P : Program} {w : World} {K : PySem.W.Frag} {mg : Str -> Option Value} {base : Heap}
theorem Zr8 {N : List Str} {qual : Str} {scope : Scope} {f : Addr} {cd : Value} {A : Around} {outer : List Env} {s s' : Shared} {H H1 : Hp} {E : XK} {C : Addr} {dx : Option Addr} {e : Value} {fl : Bool} (z : Zzv fl (Zfn (CXy P w) P w K mg base N qual scope f cd A outer s H E) C dx H1 e s') (q : E (.ref C) dx H1) :
  (Zfn (CXy P w) P w K mg base N qual scope f cd A outer s H E).xe e s' := by
 obtain ⟨pins, σ1, a, rfl, z⟩ := z
 rcases z with ⟨_, oe, vs, I, g1, g2, g3, g4, g5, g6, g7⟩ | ⟨s1, H0, I, os, bare, un, hok, fl⟩
 ·exact Zp2 I g1 g4 g5 g6 g7 (by rw [g2, g3]; exact q)
 ·exact Zqq I os bare un hok fl q
theorem fy_f {x qual : Str} {st : Stmt} {f C : Addr} {fd : FuncData} {N ps : List Str} {k : Nat} {b : YFs} {av : Option Str} (F : Fun K x qual st f fd) (S : FnScope N ps (Zal st))
  (hb : ∀ (cdv : Value) (A : Around) (outer : List Env) (s : Shared) (H : Hp) (E : XK), Room k (A.deeper (envOfC qual (Zal st) s.heap.objs.size f cdv)) →
   PYf false (Zfn (CXy P w) P w K mg base N qual (Zal st) f cdv A outer s H E) C av (Zcn st) b) : FnOk P w K mg base (CXy P w) (k + 1) f fd ps (spY K C av ps.length (Zud ps.length N.length b)) := by
 obtain ⟨oc, od, kV, doc, pm, an, cdv, ct, osl, rfl, lk, hcd⟩ := F.ex
 refine Zzd lk hcd S (fun vs H Q E ⟨ι, ds, Hd, i, Hd', hl, _, r, _⟩ => by rw [← Prd.len r]; exact hl) fun A outer s H vs Q E hr zz => ?_
 obtain ⟨ι, ds, Hd, i, Hd', hl, hh, r, e, q⟩ := zz
 refine ⟨_, hb cdv A outer s H E hr, ?_⟩
 unfold Zud at e
 rw [if_pos hl] at e
 refine ⟨ι, _, Hd, i, Hd', ?_, hh, e, fun H1 ι' dx ex s' l h xd z => Zr8 z (q H1 ι' dx l h xd)⟩
 refine ⟨by simp [L2.start, Prd.len r], fun i d0 h0 => ?_⟩
 unfold L2.start
 by_cases hi : i < ds.length
 ·rw [List.getElem?_append_left (by simpa using hi), List.getElem?_map] at h0
  cases ed : ds[i]? with
  | none => rw [ed] at h0; cases h0
  | some d1 =>
   rw [ed] at h0
   cases h0
   obtain ⟨v, hv, rv⟩ := Prd.get r ed
   refine ⟨v, ?_, rv⟩
   rw [List.getElem?_append_left (by rw [List.length_map, ← Prd.len r]; exact hi), List.getElem?_map, hv]
   rfl
 ·rw [List.getElem?_append_right (by simpa using hi), List.getElem?_replicate] at h0
  split at h0 <;> cases h0
structure FnY (P : Program) (w : World) (K : PySem.W.Frag) (mg : Str -> Option Value) (base : Heap) (k : Nat) (x : Str) (ps : List Str) (xn : Str) (av : Option Str) (F : YFF) : Prop where
 ex : ∃ f fd, (∀ C, mg xn = some (.ref C) -> FnOk P w K mg base (CXy P w) k f fd ps (spY K C av ps.length F)) ∧ Zfs K fd ps [] ∧ PySem.W.keepIn K (.ref f) = true ∧ mg x = some (.ref f)
theorem fy_mk {x xn : Str} {st : Stmt} {N ps : List Str} {k : Nat} {b : YFs} {av : Option Str} (T : Tf K mg x st) (S : FnScope N ps (Zal st))
  (hbd : ∀ (kV doc pm : Value) (an : Option Addr) (cdv ct : Value) (us : List Value), us.length = ps.length -> bindArgs (PySem.W.fnOf x x (Zes st) (Zcn st) (Zal st) .none kV doc pm an cdv ct) ⟨us, []⟩ = pure (ps.zip us))
  (hb : ∀ C, mg xn = some (.ref C) -> ∀ (f : Addr) (cdv : Value) (A : Around) (outer : List Env) (s : Shared) (H : Hp) (E : XK), Room k (A.deeper (envOfC x (Zal st) s.heap.objs.size f cdv)) →
   PYf false (Zfn (CXy P w) P w K mg base N x (Zal st) f cdv A outer s H E) C av (Zcn st) b) : FnY P w K mg base (k + 1) x ps xn av (Zud ps.length N.length b) := by
 obtain ⟨f, fd, F, hm⟩ := T
 exact ⟨f, fd, fun C E => fy_f F S fun cdv A outer s H E1 hr => hb C E f cdv A outer s H E1 hr, F.binds hbd, F.kp, hm⟩
end
theorem Zt3.mono {K : Frag} {av : Option Str} {i : Int} {dx : Option Addr} {H H' : Hp} {ι ι' : List Addr} (h : Zt3 av i dx H ι) (l : Le K H ι H' ι') : Zt3 av i dx H' ι' := by
 cases av with
 | none => exact h
 | some f =>
  obtain ⟨d, rfl, g, n⟩ := h
  obtain ⟨g', n'⟩ := l.frame d _ g n
  exact ⟨d, rfl, g', n'⟩
structure Sx (iE : Nat) (ex : Addr) (av : Option Str) (i : Int) (dx : Option Addr) (σ : L2.St) (H : Hp) (ι : List Addr) : Prop where
 at_ : σ[iE]? = some (some (.ref ex))
 xd : Zt3 av i dx H ι
noncomputable def rdEx (K : Frag) (iE : Nat) (ex : Addr) (av : Option Str) (i : Int) (dx : Option Addr) (f : EF) : TE := fun σ H Q => ∃ ι σd Hd d Hd', Sx iE ex av i dx σ H ι ∧ SRep K H ι σ σd ∧ HRep K H ι Hd ∧ f σd Hd = some (d, Hd') ∧ QE K H ι d Hd' Q
noncomputable def rdAx (K : Frag) (iE : Nat) (ex : Addr) (av : Option Str) (i : Int) (dx : Option Addr) (f : AF) : TA := fun σ H Q => ∃ ι σd Hd ds Hd', Sx iE ex av i dx σ H ι ∧ SRep K H ι σ σd ∧ HRep K H ι Hd ∧ f σd Hd = some (ds, Hd') ∧ ∀ vs H' ι', Le K H ι H' ι' -> HRep K H' ι' Hd' -> Paired (Rep K H' ι') ds vs -> Q vs H'
noncomputable def QSx (K : Frag) (iE : Nat) (ex : Addr) (av : Option Str) (i : Int) (dx : Option Addr) (H : Hp) (ι : List Addr) (fl : FD) (σd' : SD) (Hd' : HD) (E : Ends) : Prop := ∀ σ' H' ι', Le K H ι H' ι' -> HRep K H' ι' Hd' -> SRep K H' ι' σ' σd' -> Sx iE ex av i dx σ' H' ι' →
 match fl with
 | .nx => E.nx σ' H'
 | .bk => E.bk σ' H'
 | .ct => E.ct σ' H'
 | .rt d => ∀ v, Rep K H' ι' d v -> E.rt v H'
noncomputable def rdSx (K : Frag) (iE : Nat) (ex : Addr) (av : Option Str) (i : Int) (dx : Option Addr) (f : SF) : TS := fun E σ H => ∃ ι σd Hd fl σd' Hd', Sx iE ex av i dx σ H ι ∧ SRep K H ι σ σd ∧ HRep K H ι Hd ∧ f σd Hd = some (fl, σd', Hd') ∧ QSx K iE ex av i dx H ι fl σd' Hd' E
section
variable {X : Cx} {iE : Nat} {ex : Addr} {av : Option Str} {i : Int} {dx : Option Addr} {e : Expr} {es : List Expr} {pos : Pos} {st : Stmt} {sts : List Stmt}
noncomputable def PEx (X : Cx) (iE : Nat) (ex : Addr) (av : Option Str) (i : Int) (dx : Option Addr) (e : Expr) (f : EF) : Prop := PE X e (rdEx X.K iE ex av i dx f)
noncomputable def PAx (X : Cx) (iE : Nat) (ex : Addr) (av : Option Str) (i : Int) (dx : Option Addr) (es : List Expr) (f : AF) : Prop := PA X es (rdAx X.K iE ex av i dx f)
noncomputable def PSx (X : Cx) (iE : Nat) (ex : Addr) (av : Option Str) (i : Int) (dx : Option Addr) (st : Stmt) (f : SF) : Prop := PS X st (rdSx X.K iE ex av i dx f)
noncomputable def Zwk (X : Cx) (iE : Nat) (ex : Addr) (av : Option Str) (i : Int) (dx : Option Addr) (st : List Stmt) (f : SF) : Prop := PSs X st (rdSx X.K iE ex av i dx f)
theorem Zxe {f : EF} (h : PEf X e f) : PEx X iE ex av i dx e f := PEi h fun σ H Q ⟨ι, σd, Hd, d, Hd', _, s, hr, e, q⟩ => ⟨ι, σd, Hd, d, Hd', s, hr, e, q⟩
theorem Zon : PAx X iE ex av i dx [] Zan := PAi Zad fun σ H Q ⟨ι, σd, Hd, d, Hd', _, s, hr, e, q⟩ => ⟨ι, σd, Hd, d, Hd', s, hr, e, q⟩
theorem Zg6 {f : EF} {g : AF} (ha : PEx X iE ex av i dx e f) (hr : PAx X iE ex av i dx es g) (hs : starEach (e :: es) X.env = (false, eval e X.env) :: starEach es X.env := by exact Zbe rfl) : PAx X iE ex av i dx (e :: es) (Zac f g) := by
 refine PAi (Zem ha hr hs) fun σ H Q zz => ?_
 obtain ⟨ι, σd, Hd, d, Hd', sx, s, hr, e, q⟩ := zz
 obtain ⟨⟨x, H1⟩, e1, e⟩ := Zo e
 obtain ⟨⟨y, H2⟩, e2, e⟩ := Zm e
 cases e
 exact ⟨ι, σd, Hd, x, H1, sx, s, hr, e1, fun v1 H1' ι1 l1 h1 r1 => ⟨ι1, σd, H1, y, H2, ⟨sx.at_, sx.xd.mono l1⟩, s.mono l1, h1, e2, fun vs H2' ι2 l2 h2 r2 => q _ H2' ι2 (l1.trans l2) h2 (.cons (r1.mono l2) r2)⟩⟩
theorem Zu6 {f : AF} {x1} (h : PAx X iE ex av i dx es f) : PEx X iE ex av i dx (.Tuple es x1 pos) (Zgl f) := by
 refine PEi (Znt h) fun σ H Q zz => ?_
 obtain ⟨ι, σd, Hd, d, Hd', sx, s, hr, e, q⟩ := zz
 obtain ⟨⟨x, H1⟩, e1, e⟩ := Zo e
 exact ⟨ι, σd, Hd, x, H1, sx, s, hr, e1, fun vs H' ι' l h r => Zf9 h r e fun v2 H2 ι2 l2 h2 r2 => q v2 H2 ι2 (l.trans l2) h2 r2⟩
theorem Zvg {f : AF} (h : PAx X iE ex av i dx es f) : PEx X iE ex av i dx (.List es pos) (Zc8 f) := by
 refine PEi (Ztl h) fun σ H Q zz => ?_
 obtain ⟨ι, σd, Hd, d, Hd', sx, s, hr, e, q⟩ := zz
 obtain ⟨⟨x, H1⟩, e1, e⟩ := Zo e
 exact ⟨ι, σd, Hd, x, H1, sx, s, hr, e1, fun vs H' ι' l h r => Zfm h r e fun v2 H2 ι2 l2 h2 r2 => q v2 H2 ι2 (l.trans l2) h2 r2⟩
theorem Zl9 : Zwk X iE ex av i dx [] Zav := by
 refine Zwh Zp6 fun E σ H zz => ?_
 obtain ⟨ι, σd, Hd, fl, σd', Hd', sx, s, hr, e, q⟩ := zz
 cases e
 exact q σ H ι Le.refl hr s sx
theorem Zj0 {f g : SF} (h1 : PSx X iE ex av i dx st f) (h2 : Zwk X iE ex av i dx sts g) : Zwk X iE ex av i dx (st :: sts) (Zam f g) := by
 refine Zwh (Zfu h1 h2) fun E σ H zz => ?_
 obtain ⟨ι, σd, Hd, fl, σd', Hd', sx, s, hr, e, q⟩ := zz
 obtain ⟨⟨f1, σ1, H1⟩, e1, e⟩ := Zo e
 refine ⟨ι, σd, Hd, f1, σ1, H1, sx, s, hr, e1, fun σ' H' ι' l h ss sx' => ?_⟩
 cases f1 with
 | nx => exact ⟨ι', σ1, H1, fl, σd', Hd', sx', ss, h, e, fun σ2 H2 ι2 l2 h2 s2 => q σ2 H2 ι2 (l.trans l2) h2 s2⟩
 | bk => cases e; exact q σ' H' ι' l h ss sx'
 | ct => cases e; exact q σ' H' ι' l h ss sx'
 | rt d => cases e; exact q σ' H' ι' l h ss sx'
theorem Zpp {j : Nat} {x : Str} {f : EF} {pos' : Pos} (hN : X.N.Nodup) (hi : X.N[j]? = some x) (hne : j ≠ iE) (hx : Loc X.env.scope x) (he : PEx X iE ex av i dx e f) (hs : swapsWith e (some (.Name x pos')) pos.line X.env = pure false := by rfl) (hf : X.fn x = true ∨ X.env.scope.names.lookup x = some .local := by first | exact .inl rfl | exact .inr rfl) :
  PSx X iE ex av i dx (.Assign [.Name x pos'] e pos) (Zba j f) := by
 refine PSi (Ztn hN hi hx he hs hf) fun E σ H zz => ?_
 obtain ⟨ι, σd, Hd, fl, σd', Hd', sx, s, hr, e, q⟩ := zz
 obtain ⟨⟨y, H1⟩, e1, e⟩ := Zm e
 cases e
 refine ⟨ι, σd, Hd, y, H1, sx, s, hr, e1, fun v H' ι' l h r => q _ H' ι' l h ((s.mono l).set r j) ⟨?_, sx.xd.mono l⟩⟩
 rw [List.getElem?_set_ne hne]
 exact sx.at_
theorem Zse {C Cl fI : Addr} {oe : Obj} {f en : Str} {p : Pos} (T : ExI X.K C Cl fI f) (L : ExcL X.K C) (hc : oe.cls = .ref C) (hv : ∃ vs, oe.data = .fields vs) (hd : oe.dict = dx) (hi : X.N[iE]? = some en) (vE : Vis X.env.scope en) (hb : attributeBase (.Name en p) f X.env (eval (.Name en p) X.env) = eval (.Name en p) X.env)
  (dE : (en == ("__debug__" : Str)) = false := by decide) (dE2 : (en == ("__classdict__" : Str)) = false := by decide) : PEx (Xh X ex oe) iE ex (some f) i dx (.Attribute (.Name en p) f pos) (eC (.int i)) := by
 rintro pins s σ H Q I ⟨ι, σd, Hd, d, Hd', sx, ss, hr, e, q⟩
 cases e
 refine Zwb hb (thn (Zgk (X := Xh X ex oe) hi vE dE dE2 pins s σ H (fun v H' => v = .ref ex ∧ H' = H) I ⟨_, sx.at_, rfl, rfl⟩) fun u s1 z => ?_)
 obtain ⟨v, H', I1, rv, rfl, rfl⟩ := z
 have rv : u = .ref ex := rv
 subst rv
 have pn := I1.pin (ex, oe) (List.mem_append_left _ (List.mem_cons_self ..))
 obtain ⟨d, rfl, g, n⟩ := sx.xd
 obtain ⟨mA, n1, r1⟩ := I1.hok d _ g
 have r2 := r1 f
 rw [List.lookup_cons_self] at r2
 obtain ⟨u, hu, ru⟩ : ∃ u, mA f = some u ∧ Zct (.int i) u := by
  cases z : mA f with
  | none => rw [z] at r2; exact r2.elim
  | some u => rw [z] at r2; exact ⟨u, rfl, r2⟩
 obtain ⟨od, ho, hl⟩ := Zj7 n1
 obtain ⟨c, hc2, Y⟩ := Zil I1.kIn T.xin
 obtain ⟨nm, qn, N, bs, sn, sub, ab, col, dd, k0, k1, k2, k3, k5, hC, rfl⟩ := Y.obj
 have J : InstAt s1.heap ex oe C (some od) := ⟨pn.1, hc, by obtain ⟨vs, hv⟩ := hv; unfold notCls; rw [hv], by rw [hd]; exact ho⟩
 have hh : hasDictIn X.K C = true := by unfold hasDictIn; rw [hc2]; rfl
 obtain ⟨t, rfl⟩ := ru
 exact Zsb L I1.kIn J (findObj_own hh T.nf rfl (by rw [hl, hu])) rfl ⟨.int i, H', I1.tok _, ⟨_, rfl⟩, q _ H' ι Le.refl hr (by simp)⟩
theorem Zr4 {C : Addr} {oe : Obj} {en : Str} {b : Bool} {p1 p2 p3 p4 : Pos} (L : ExcL X.K C) (hc : oe.cls = .ref C) (hk : kitOne X.K (.ref C) (.type "ValueError") = some b) (hi : X.N[iE]? = some en) (vE : Vis X.env.scope en) (mI : X.mg "isinstance" = none) (mX : X.mg "ValueError" = none) (bV : bootBuiltins "ValueError" = some (.type "ValueError")) (gI : Gl X "isinstance" := by rfl) (gX : Gl X "ValueError" := by rfl)
  (dE : (en == ("__debug__" : Str)) = false := by decide) (dE2 : (en == ("__classdict__" : Str)) = false := by decide) : PEx (Xh X ex oe) iE ex av i dx (.Call (.Name "isinstance" p1) [.Name en p2, .Name "ValueError" p3] [] p4) (eC (.bl b)) := by
 have e2 : PE (Xh X ex oe) (.Call (.Name "isinstance" p1) [.Name en p2, .Name "ValueError" p3] [] p4) _ := Zi5 (Zvs (c := .ty "ValueError") (cV := .type "ValueError") L hc (fun u r => r) hk) gI mI boot_isinstance (Zem (Zgk hi vE dE dE2) (Zem (Zn9 (v := .ty "ValueError") gX mX bV rfl) Zkd rfl) rfl)
 refine PEi e2 fun σ H Q zz => ?_
 obtain ⟨ι, σd, Hd, d, Hd', sx, s, hr, e, q⟩ := zz
 cases e
 exact ⟨.ref ex, sx.at_, rfl, q _ H ι Le.refl hr (by simp)⟩
theorem Zq4 {C : Addr} {oe : Obj} {en : Str} {es : List Expr} {cs : List Addr} {b : Bool} {x1 : Nat} {p1 p2 p3 p4 : Pos} (L : ExcL X.K C) (hc : oe.cls = .ref C) (hk : kitAny X.K (.ref C) (cs.map .ref) = some b) (hz : cs.length ≤ 1000) (hcl : PA (Xh X ex oe) es (Zn1 cs)) (hi : X.N[iE]? = some en) (vE : Vis X.env.scope en) (mI : X.mg "isinstance" = none) (gI : Gl X "isinstance" := by rfl)
  (dE : (en == ("__debug__" : Str)) = false := by decide) (dE2 : (en == ("__classdict__" : Str)) = false := by decide) : PEx (Xh X ex oe) iE ex av i dx (.Call (.Name "isinstance" p1) [.Name en p2, .Tuple es x1 p3] [] p4) (eC (.bl b)) := by
 have e2 : PE (Xh X ex oe) (.Call (.Name "isinstance" p1) [.Name en p2, .Tuple es x1 p3] [] p4) _ := Zi5 (Zuy (cs := cs) L hc hk) gI mI boot_isinstance (Zem (Zgk hi vE dE dE2) (Zem (Znt hcl) Zkd rfl) rfl)
 refine PEi e2 fun σ H Q zz => ?_
 obtain ⟨ι, σd, Hd, d, Hd', sx, s, hr, e, q⟩ := zz
 cases e
 refine ⟨.ref ex, sx.at_, ?_, fun p hp => ⟨p, rfl, L2.upd_same, ?_⟩⟩
 ·rw [List.length_map, PySem.sizeLine_eq]; omega
 exact q _ _ ι (Le.fresh hp _) (hr.tup hp _) (by simp)
end
noncomputable def Zh9 (iE : Nat) (b : SF) (y : YFs) (su : Int -> SF) : SF := fun σ H => match b σ H with
 | some r => some r
 | none => (y σ H).bind fun p => (su p.1 (σ.set iE none) p.2).bind fun r => match r.1 with
  | .nx => some (.nx, r.2.1.set iE none, r.2.2)
  | _ => none
section
variable {X : Cx} {iE : Nat} {av : Option Str}
theorem Zlu {C f : Addr} {k n : Nat} {fd : FuncData} {ps : List Str} {F : YFF} {fa : AF} {x xc nm : Str} {cV : Value} {b₀ : Stmt} {suite : List Stmt} {a : Expr} {as : List Expr} {su : Int -> SF} {p cp np hp : Pos} {pins : List (Addr × Obj)} {s : Shared} {σ : L2.St} {H : Hp} {D : Ends} {Q : Value -> Shared -> Prop}
  (hstk : X.stack = X.env :: X.outer) (hfr : X.env.frame = some X.env.locals)
  (G : FnOk X.prog X.w X.K X.mg X.base (CXy X.prog X.w) k f fd ps (spY X.K C av n F)) (hr : Room k X.A) (hg : Gl X x) (hm : X.mg x = some (.ref f)) (hk : PySem.W.keepIn X.K (.ref f) = true) (hb : Zfs X.K fd ps [])
  (ha : PAf X.nox (a :: as) fa) (hgc : Gl X xc) (hmc : X.mg xc = some cV) (hex : exmOne X.K (.ref C) cV = some true)
  (hN : X.N.Nodup) (hi : X.N[iE]? = some nm) (hloc : X.env.scope.names.lookup nm = some .local) (hkl : X.env.kindOf nm = some .local)
  (hS : ∀ (i : Int) (ex : Addr) (oe : Obj), oe.cls = .ref C -> (∃ vs, oe.data = .fields vs) -> Zwk (Xh X ex oe) iE ex av i oe.dict (b₀ :: suite) (su i))
  (hdb : (x == ("__debug__" : Str)) = false) (hdc : (xc == ("__debug__" : Str)) = false) (he : starEach (a :: as) X.env = (false, eval a X.env) :: starEach as X.env) (hpl : (backTo cp (starEach as X.env)).any (·.1) = false)
  (I : Inv X pins σ H s) (z : ∃ ι σd Hd i H2 fl σ2 H3, SRep X.K H ι σ σd ∧ HRep X.K H ι Hd ∧ Zi3 n F fa σd Hd = some (i, H2) ∧ su i (σd.set iE none) H2 = some (fl, σ2, H3) ∧ fl = .nx ∧ QS X.K H ι .nx (σ2.set iE none) H3 D) :
  wpAny (model X.prog X.w) X.A (eval (.Call (.Name x p) (a :: as) [] cp) X.env) Q (fun e s1 => wpAny (model X.prog X.w) X.A (noteFrame e X.env) (fun _ s2 => wpAny (model X.prog X.w) X.A (setFlight e none) (fun _ s3 => wpAny (model X.prog X.w) X.A (handleBy e X.env [.ExceptHandler (some (.Name xc np)) (some nm) (b₀ :: suite) hp]) (SP X pins D) X.xe s3) X.xe s2) X.xe s1) s := by
 obtain ⟨ι, σd, Hd, i, H2, fl, σ2, H3, ss, hh, e1, e4, rfl, q⟩ := z
 obtain ⟨⟨ds, H1⟩, e1, e⟩ := Zo e1
 have hx : ds.length = n ∧ F ds H1 = some (i, H2) := by
  dsimp only at e
  split at e
  ·rename_i z; exact ⟨z, e⟩
  ·cases e
 obtain ⟨e2, e3⟩ := hx
 refine wpAny_Call_Name_kw (Zgc I hg hm ?_ hdb)
 refine PySem.W.callWith_K (h₀ := X.base) I.ok.mod.kin hk (wpAny_mono (ha cp pins s σ H (fun vs H' => ∃ ι', Le X.K H ι H' ι' ∧ HRep X.K H' ι' H1 ∧ Paired (Rep X.K H' ι') ds vs) (I.wish _) ⟨ι, σd, Hd, ds, H1, ss, hh, e1, fun vs H' ι' l h P => ⟨ι', l, h, P⟩⟩) (fun us s1 z => ?_) fun _ _ z => z.elim) he hpl
 obtain ⟨vs, H1v, I1, r1, ι1, l1, h1, P1⟩ := z
 have I1 : Inv X pins σ H1v s1 := I1.unwish
 refine ⟨I1.kIn, ?_⟩
 have sp : spY X.K C av n F vs H1v (fun _ _ => False) fun Cv dx H' => Cv = .ref C ∧ ∃ ι', Le X.K H ι H' ι' ∧ HRep X.K H' ι' H2 ∧ Zt3 av i dx H' ι' := ⟨ι1, ds, H1, i, H2, e2, h1, P1, e3, fun H' ι' dx l h z => ⟨rfl, ι', l1.trans l, h, z⟩⟩
 have hl : us.length = ps.length := by rw [← r1.length]; exact G.len _ _ _ _ sp
 have hb1 := hb s1 us I1.kIn (by rw [List.append_nil]; exact hl)
 rw [List.append_nil] at hb1
 refine wpAny_call (codeAny_mono (G.run X.A X.stack s1 H1v ⟨us, []⟩ us vs _ _ hr I1.env0 hb1 r1 sp) fun r s' hq => ?_)
 cases r with
 | ok fl' =>
  cases fl' with
  | ret u => obtain ⟨v, H', _, _, _, _, _, z⟩ := hq; exact z.elim
  | next => exact False.elim hq
  | brk => exact False.elim hq
  | cont => exact False.elim hq
 | error e =>
  obtain ⟨ex, Cv, dx, H2v, rfl, ⟨rfl, ι2, l2, h2, xd⟩, os, bare, un, hok, fl⟩ := hq
  obtain ⟨B, fly, bo, bt⟩ := fl.fly
  rw [hstk] at fly
  have new : s1.heap.get? ex = none := fl.new
  have frA : X.A.frames = some (X.env :: X.outer) := by rw [← hstk]; exact I1.ok.frames
  refine Ztq frA hfr fly fun h4 held4 up4 => ?_
  refine Zgw (s := { s' with heap := h4 }) held4 fun h5 fly5 up5 => ?_
  have ff : s'.heap.FunFrames B X.stack := by rw [hstk]; exact fly.ff
  obtain ⟨un5, ok5⟩ := Zp3 un hok bo bt fly5.st (up4.trans up5) ff
  have I5 : Inv X pins σ H2v { s' with heap := h5 } := I1.call' (s' := { s' with heap := h5 }) (ch := []) os un5 ok5 bare (fun b z => absurd z (by simp))
  have exH : H2v ex = none := by
   cases z : H2v ex with
   | none => rfl
   | some ho =>
    obtain ⟨o, _, g⟩ := bt ex ho z
    rw [fly.no] at g; cases g
  have ne : ex ≠ X.env.locals := fun z => by
   obtain ⟨m, ⟨o, _, _, g, _⟩, _⟩ := I1.loc
   rw [← z, new] at g; cases g
  have nf : ex ∉ X.fs := fun z => by
   obtain ⟨_, o, g, _⟩ := I1.funs.mem z
   rw [new] at g; cases g
  obtain ⟨ob, wb, gob, cob, dob, _⟩ := fly5.first
  have I5m : Inv (Xh X ex ob) pins σ H2v { s' with heap := h5 } := Inv.marked I5 gob exH ne nf fun v z => by rw [dob] at z; cases z
  refine wpAny_handleBy_cons (codeAny_handlers_test (Zgc (X := Xh X ex ob) I5m hgc hmc ?_ hdc)) (by intro z; cases z)
  have LT : Looks (model X.prog X.w) h5 (typeOf (.ref ex)) (.ref C) := by rw [← cob]; exact (Looks.ld gob).andThen .now
  refine (exm_one (M := model X.prog X.w) I5.kIn LT hex).here ?_
  refine codeAny_handlers_suite_as ?_
  refine Zgw (s := { s' with heap := h5 }) fly5 fun h6 fly6 up6 => ?_
  obtain ⟨un6, ok6⟩ := Zp3 un hok bo bt fly6.st ((up4.trans up5).trans up6) ff
  have I6 : Inv X pins σ H2v { s' with heap := h6 } := I1.call' (s' := { s' with heap := h6 }) (ch := []) os un6 ok6 bare (fun b z => absurd z (by simp))
  obtain ⟨oe, ws, goe, coe, doe, eoe⟩ := fly6.first
  have I6m : Inv (Xh X ex oe) pins σ H2v { s' with heap := h6 } := Inv.marked I6 goe exH ne nf fun v z => by rw [doe] at z; cases z
  refine Zi1 (X := Xh X ex oe) I6m hN hi (.inl hloc) (v := .ref ex) rfl (fun s7 I7 => ?_) (.inr hloc)
  have li : iE < σ.length := by rw [I6.len]; exact (List.getElem?_eq_some_iff.mp hi).1
  have sr : SRep X.K H2v ι2 (σ.set iE (some (.ref ex))) (σd.set iE none) := by
   have s2 := ss.mono l2
   refine ⟨by simp [s2.len], fun j d hd => ?_⟩
   by_cases hj : j = iE
   ·subst hj
    rw [List.getElem?_set] at hd
    split at hd
    ·split at hd <;> cases hd
    ·rename_i z; exact absurd rfl z
   ·rw [List.getElem?_set_ne (Ne.symm hj)] at hd ⊢
    exact s2.var j d hd
  have st := hS i ex oe coe ⟨ws, doe⟩ pins s7 (σ.set iE (some (.ref ex))) H2v { nx := fun σ8 H8 => D.nx (σ8.set iE none) H8, rt := fun _ _ => False } I7 ⟨ι2, _, H2, .nx, σ2, H3, ⟨List.getElem?_set_self li, by rw [eoe]; exact xd⟩, sr, h2, e4, fun σ8 H8 ι8 l8 h8 s8 sx8 => ?_⟩
  ·refine wpAny_mono st (fun f s8 z => ?_) fun _ _ z => z.elim
   cases f with
   | next =>
    obtain ⟨σ8, H8, I8, z⟩ := z
    exact Zuw (Inv.unmark I1.ok I8) hN hi hkl fun s9 I9 => ⟨_, _, I9, z⟩
   | ret u => obtain ⟨v, σ8, H8, I8, r, z⟩ := z; exact z.elim
   | brk => obtain ⟨σ8, H8, I8, z⟩ := z; exact z.elim
   | cont => obtain ⟨σ8, H8, I8, z⟩ := z; exact z.elim
  ·refine q (σ8.set iE none) H8 ι8 (l2.trans l8) h8 ⟨by simp [s8.len], fun j d hd => ?_⟩
   by_cases hj : j = iE
   ·subst hj
    rw [List.getElem?_set] at hd
    split at hd
    ·split at hd <;> cases hd
    ·rename_i z; exact absurd rfl z
   ·rw [List.getElem?_set_ne (Ne.symm hj)] at hd ⊢
    exact s8.var j d hd
end
section
variable {X : Cx} {iE : Nat} {av : Option Str} {C : Addr} {k : Nat} {ps : List Str} {F : YFF} {fa : AF} {x xn xc nm : Str} {cV : Value} {b₀ : Stmt} {suite : List Stmt} {a : Expr} {as : List Expr} {b : SF} {su : Int -> SF} {p cp ep np hp pos : Pos}
theorem Zs4 {body : List Stmt} {pins : List (Addr × Obj)} {s : Shared} {σ : L2.St} {H : Hp} {D : Ends} {y : YFs} (hb0 : Zmp X.nox body b) (I : Inv X pins σ H s) (z : rdS X.K (Zh9 iE b y su) D σ H)
  (q : (∃ ι σd Hd i H2 fl σ2 H3, SRep X.K H ι σ σd ∧ HRep X.K H ι Hd ∧ y σd Hd = some (i, H2) ∧ su i (σd.set iE none) H2 = some (fl, σ2, H3) ∧ fl = .nx ∧ QS X.K H ι .nx (σ2.set iE none) H3 D) -> wpAny (model X.prog X.w) X.A (exec (.Try body [.ExceptHandler (some (.Name xc np)) (some nm) (b₀ :: suite) hp] [] [] pos) X.env) (SP X pins D) X.xe s) :
  wpAny (model X.prog X.w) X.A (exec (.Try body [.ExceptHandler (some (.Name xc np)) (some nm) (b₀ :: suite) hp] [] [] pos) X.env) (SP X pins D) X.xe s := by
 obtain ⟨ι, σd, Hd, fl, σd', Hd', ss, hr, e, qq⟩ := z
 unfold Zh9 at e
 split at e
 ·rename_i r e1
  cases e
  refine wpAny_Try_except (wpAny_mono (hb0 pins s σ H D (I.wish _) ⟨ι, σd, Hd, _, _, _, ss, hr, e1, qq⟩) (fun f s1 z => ?_) fun _ _ z => z.elim)
  have z : SP X pins D f s1 := z.unwish
  cases f with
  | next => exact wpAny_execs_nil z
  | brk => exact z
  | cont => exact z
  | ret u => exact z
 ·obtain ⟨⟨i, H2⟩, e1, e⟩ := Zo e
  obtain ⟨⟨fl2, σ2, H3⟩, e2, e⟩ := Zo e
  refine q ⟨ι, σd, Hd, i, H2, fl2, σ2, H3, ss, hr, e1, e2, ?_⟩
  cases fl2 with
  | nx => cases e; exact ⟨rfl, qq⟩
  | bk => cases e
  | ct => cases e
  | rt d => cases e
theorem Zq5 (hb0 : Zmp X.nox [.Expr (.Call (.Name x p) (a :: as) [] cp) ep] b) (G : FnY X.prog X.w X.K X.mg X.base k x ps xn av F) (hE : X.mg xn = some (.ref C)) (hr : Room k X.A) (ha : PAf X.nox (a :: as) fa) (hmc : X.mg xc = some cV) (hex : exmOne X.K (.ref C) cV = some true)
  (hN : X.N.Nodup) (hi : X.N[iE]? = some nm) (hloc : X.env.scope.names.lookup nm = some .local) (hS : ∀ (i : Int) (ex : Addr) (oe : Obj), oe.cls = .ref C -> (∃ vs, oe.data = .fields vs) -> Zwk (Xh X ex oe) iE ex av i oe.dict (b₀ :: suite) (su i))
  (hstk : X.stack = X.env :: X.outer := by rfl) (hfr : X.env.frame = some X.env.locals := by rfl) (hg : Gl X x := by rfl) (hgc : Gl X xc := by rfl) (hdb : (x == ("__debug__" : Str)) = false := by decide) (hdc : (xc == ("__debug__" : Str)) = false := by decide)
  (he : starEach (a :: as) X.env = (false, eval a X.env) :: starEach as X.env := by exact Zbe rfl) (hpl : (backTo cp (starEach as X.env)).any (·.1) = false := by exact Zc2 rfl) (hs : swapsWith (.Call (.Name x p) (a :: as) [] cp) none ep.line X.env = pure false := by rfl) :
  PSf X (.Try [.Expr (.Call (.Name x p) (a :: as) [] cp) ep] [.ExceptHandler (some (.Name xc np)) (some nm) (b₀ :: suite) hp] [] [] pos) (Zh9 iE b (Zi3 ps.length F fa) su) := by
 intro pins s σ H D I z
 obtain ⟨f, fd, G1, hb, hk, hm⟩ := G.ex
 refine Zs4 hb0 I z fun z => ?_
 exact wpAny_Try_except (wpAny_execs_cons (wpAny_Expr_any (Zlu hstk hfr (G1 C hE) hr hg hm hk hb ha hgc hmc hex hN hi hloc hloc hS hdb hdc he hpl I z) I.quiet hs))
theorem Zqz {tn : Str} {tp c0p t2p : Pos} {c0 : Expr} {d0 : D} {x1 : Nat} (hc0 : PEf X.nox c0 (eC d0)) (hb0 : Zmp X.nox [.Assign [.Name tn tp] (.Tuple [c0, .Call (.Name x p) (a :: as) [] cp] x1 t2p) ep] b) (G : FnY X.prog X.w X.K X.mg X.base k x ps xn av F) (hE : X.mg xn = some (.ref C)) (hr : Room k X.A) (ha : PAf X.nox (a :: as) fa) (hmc : X.mg xc = some cV) (hex : exmOne X.K (.ref C) cV = some true)
  (hN : X.N.Nodup) (hi : X.N[iE]? = some nm) (hloc : X.env.scope.names.lookup nm = some .local) (hS : ∀ (i : Int) (ex : Addr) (oe : Obj), oe.cls = .ref C -> (∃ vs, oe.data = .fields vs) -> Zwk (Xh X ex oe) iE ex av i oe.dict (b₀ :: suite) (su i))
  (hstk : X.stack = X.env :: X.outer := by rfl) (hfr : X.env.frame = some X.env.locals := by rfl) (hg : Gl X x := by rfl) (hgc : Gl X xc := by rfl) (hdb : (x == ("__debug__" : Str)) = false := by decide) (hdc : (xc == ("__debug__" : Str)) = false := by decide)
  (he : starEach (a :: as) X.env = (false, eval a X.env) :: starEach as X.env := by exact Zbe rfl) (hpl : (backTo cp (starEach as X.env)).any (·.1) = false := by exact Zc2 rfl) (h2 : starEach [c0, .Call (.Name x p) (a :: as) [] cp] X.env = [(false, eval c0 X.env), (false, eval (.Call (.Name x p) (a :: as) [] cp) X.env)] := by rfl)
  (hs : swapsWith (.Tuple [c0, .Call (.Name x p) (a :: as) [] cp] x1 t2p) (some (.Name tn tp)) ep.line X.env = pure false := by rfl) :
  PSf X (.Try [.Assign [.Name tn tp] (.Tuple [c0, .Call (.Name x p) (a :: as) [] cp] x1 t2p) ep] [.ExceptHandler (some (.Name xc np)) (some nm) (b₀ :: suite) hp] [] [] pos) (Zh9 iE b (Zi3 ps.length F fa) su) := by
 intro pins s σ H D I z
 obtain ⟨f, fd, G1, hb, hk, hm⟩ := G.ex
 refine Zs4 hb0 I z fun z => ?_
 refine wpAny_Try_except (wpAny_execs_cons (wpAny_Assign_Name (wpAny_Tuple_spliced ?_) hs))
 rw [h2]
 show wpAny _ _ (spliced ((false, eval c0 X.env) :: backTo t2p [(false, eval (.Call (.Name x p) (a :: as) [] cp) X.env)])) _ _ _
 obtain ⟨ι, σd, Hd, i, H2, fl, σ2, H3, ss, hr0, e1, e2, e3, q⟩ := z
 refine Calls.spliced_cons (wpAny_mono (hc0 pins s σ H (fun v H' => ∃ ι', Le X.K H ι H' ι' ∧ HRep X.K H' ι' Hd) (I.wish _) ⟨ι, σd, Hd, d0, Hd, ss, hr0, rfl, fun v H' ι' l h r => ⟨ι', l, h⟩⟩) (fun v s1 z => ?_) fun _ _ z => z.elim)
 obtain ⟨v, H', I1, rv, ι', l, h⟩ := z
 have I1 : Inv X pins σ H' s1 := I1.unwish
 show wpAny _ _ (spliced [(false, eval (.Call (.Name x p) (a :: as) [] cp) X.env)]) _ _ _
 exact Calls.spliced_cons (wpAny_mono (Zlu (Q := fun _ _ => False) hstk hfr (G1 C hE) hr hg hm hk hb ha hgc hmc hex hN hi hloc hloc hS hdb hdc he hpl I1 ⟨ι', σd, Hd, i, H2, fl, σ2, H3, ss.mono l, h, e1, e2, e3, fun σ8 H8 ι8 l8 => q σ8 H8 ι8 (l.trans l8)⟩) (fun _ _ z => z.elim) fun _ _ z => z)
end
section
variable {X : Cx}
theorem Zws {tg iter : Expr} {t : TI} (h : PI X.nox tg iter t) : PI X tg iter t := fun pins s σ H R I q =>
 wpAny_mono (h pins s σ H R (I.wish _) q) (fun v s1 z => wpAny_mono z (fun itv s2 ⟨it, fp, tn, J, H', e, I', T, st, f, r⟩ => ⟨it, fp, tn, J, H', e, I'.unwish, T, st, f, r⟩) fun _ _ y => False.elim y) fun _ _ y => False.elim y
theorem Zy8 {tg : Expr} {t : TG} (h : PG X.nox tg t) : PG X tg t := fun pins s σ H v u Q I r q =>
 wpAny_mono (h pins s σ H v u Q (I.wish _) r q) (fun _ s1 ⟨σ', H', I', z⟩ => ⟨σ', H', I'.unwish, z⟩) fun _ _ y => False.elim y
variable {fl : Bool} {C : Addr} {av : Option Str} {st : Stmt} {sts : List Stmt} {c : Expr} {pos : Pos}
theorem Zf4 {f : SF} {b : YFs} (h1 : PSf X.nox st f) (h2 : PYf fl X C av sts b) : PYf fl X C av (st :: sts) (Zk1 f b) := Zqe (Zsx h1) h2
theorem Zs6 {f : SF} {a b : YFs} (h1 : PSf X.nox st f) (h0 : PYS fl X C av st a) (h2 : PYf fl X C av sts b) : PYf fl X C av (st :: sts) (yEi f a b) := py_ei (Zsx h1) h0 h2
theorem Zoz {t : TF} {as bs : List Stmt} {a b : YFs} (hc : PTf X.nox c t) (ha : PYf fl X C av as a) (hb : PYf fl X C av bs b) : PYS fl X C av (.If c as bs pos) (yIf t a b) := py_if (PT.nox hc) ha hb
theorem Zt0 {tg iter : Expr} {body : List Stmt} {f : ItF} {g : GF} {b : SF} {yb : YFs} (hp : PassesOwn (model X.prog X.w) X.A X.env X.xe) (hc : X.calm = true) (hi : PIf X.nox tg iter f) (hg : PGf X.nox tg g) (hb : Zmp X.nox body b) (hy : PYf fl X C av body yb)
  (hs : ∀ x, foldedSetIterable iter X.env x = pure x := by intro _; rfl) : PYS fl X C av (.For tg iter body [] pos) (Zwi f g b yb) := Zx8 hp hc (Zws hi) (Zy8 hg) (PSs.nox hb) hy hs
end
theorem po_cx {P : Program} {w : World} {K : PySem.W.Frag} {mg : Str -> Option Value} {base : Heap} {N : List Str} {qual : Str} {scope : Scope} {f : Addr} {cd : Value} {A : Around} {outer : List Env} {s : Shared} {H : Hp} {E : XK} {CX : CXT} :
  PassesOwn (model P w) (Zfn CX P w K mg base N qual scope f cd A outer s H E).A (Zfn CX P w K mg base N qual scope f cd A outer s H E).env (Zfn CX P w K mg base N qual scope f cd A outer s H E).xe := PassesOwn.leaving
noncomputable def Zuo (s : Stmt) : List Stmt := match s with
 | .ClassDef _ _ _ body _ _ _ _ _ _ _ => body
 | _ => []
structure YCl (K : Frag) (mg : Str -> Option Value) (xn f qual : Str) (st : Stmt) (C Cl fI : Addr) : Prop where
 bound : mg xn = some (.ref C)
 kp : keepIn K (.ref C) = true
 ini : ExI K C Cl fI f
 base : mg "ClaimError" = some (.ref Cl)
 fn : ∃ fd, Fun K "__init__" qual st fI fd
 look : ExcL K C
structure YRs (P : Program) (w : World) (K : Frag) (mg : Str -> Option Value) (base : Heap) (xn f : Str) (k : Nat) : Prop where
 ex : ∃ C Cl fI fd ps, mg xn = some (.ref C) ∧ keepIn K (.ref C) = true ∧ ExI K C Cl fI f ∧ FnOk P w K mg base CX0 k fI fd ps (spI C f) ∧ Zfs K fd ps [] ∧ ExcL K C
section
variable {X : Cx} {C : Addr} {f xn : Str} {k : Nat}
theorem YRs.at {P : Program} {w : World} {K : Frag} {mg : Str -> Option Value} {base : Heap} (R : YRs P w K mg base xn f k) (hE : mg xn = some (.ref C)) : ∃ Cl fI fd ps, keepIn K (.ref C) = true ∧ ExI K C Cl fI f ∧ FnOk P w K mg base CX0 k fI fd ps (spI C f) ∧ Zfs K fd ps [] ∧ ExcL K C := by
 obtain ⟨C', Cl, fI, fd, ps, h1, h2, h3, h4, h5, h6⟩ := R.ex
 rw [hE] at h1
 cases h1
 exact ⟨Cl, fI, fd, ps, h2, h3, h4, h5, h6⟩
theorem Zho {e : Expr} {fe : EF} {np cpos pos : Pos} (R : YRs X.prog X.w X.K X.mg X.base xn f k) (hE : X.mg xn = some (.ref C)) (hc : X.calm = true) (hr : Room (k + 1) X.A) (hf : PAf X.nox [e] (Zac fe Zan)) (hg : Gl X xn := by rfl) (hdb : (xn == ("__debug__" : Str)) = false := by decide) (he : starEach [e] X.env = (false, eval e X.env) :: starEach [] X.env := by exact Zbe rfl) :
  PYS false X C (some f) (.Raise (some (.Call (.Name xn np) [e] [] cpos)) none pos) (Zfc fe) := by
 obtain ⟨Cl, fI, fd, ps, h2, h3, h4, h5, h6⟩ := R.at hE
 exact Zsk hc h3 h4 hr hE h2 h5 (Zwx hf) hg hdb he
theorem Zpy {iE : Nat} {ex : Addr} {i : Int} {dx : Option Addr} {oe : Obj} {en : Str} {p pos : Pos} (R : YRs X.prog X.w X.K X.mg X.base xn f k) (hE : X.mg xn = some (.ref C)) (hc : oe.cls = .ref C) (hv : ∃ vs, oe.data = .fields vs) (hd : oe.dict = dx) (hi : X.N[iE]? = some en) (vE : Vis X.env.scope en) (hb : attributeBase (.Name en p) f X.env (eval (.Name en p) X.env) = eval (.Name en p) X.env := by rfl)
  (dE : (en == ("__debug__" : Str)) = false := by decide) (dE2 : (en == ("__classdict__" : Str)) = false := by decide) : PEx (Xh X ex oe) iE ex (some f) i dx (.Attribute (.Name en p) f pos) (eC (.int i)) := by
 obtain ⟨Cl, fI, fd, ps, h2, h3, h4, h5, h6⟩ := R.at hE
 exact Zse h3 h6 hc hv hd hi vE hb dE dE2
theorem Zx0 {K : Frag} {hp : Heap} {mg : Str → Option Value} {xn f qual : Str} {st : Stmt} {C Cl fI : Addr} {oc : Value} {od an : Option Addr} {osl : Array (Option Value)} {kV doc pm cdv ct : Value} {cd : ClassData} (X : K.In hp) (G : hp.Ns mainGlobals mg) (a : nsIn K mainGlobals xn = some (some (.ref C))) (b : nsIn K mainGlobals "ClaimError" = some (some (.ref Cl))) (c : keepIn K (.ref C) = true)
  (d : Zrd K C Cl = true) (e : findIn K (.ref C) "__init__" = some (some (.ref fI))) (f1 : typeIn K (.ref fI) = some (.type "function")) (g : findIn K (.ref C) "__setattr__" = some (some (.builtin "object.__setattr__"))) (h : findIn K (.ref C) f = some none)
  (i : specialIn K (.ref Cl) "__getattribute__" = some (some (.builtin "type.__getattribute__"))) (j : readsIn K Cl (.type "type") = true) (l : findCls K (.ref Cl) (.type "type") "__init__" = some (.val (.builtin "ValueError.__init__")))
  (m : K.lookup fI = some ⟨oc, od, .func (PySem.W.fnOf "__init__" qual (Zes st) (Zcn st) (Zal st) .none kV doc pm an cdv ct), osl⟩) (n : PySem.W.codeIn K cdv qual = true) (o : PySem.W.keepIn K (.ref fI) = true)
  (p : findIn K (.ref C) "__getattribute__" = some (some (.builtin "BaseException.__getattribute__"))) (q : findIn K (.ref C) "__getattr__" = some none) (r : findIn K (.ref C) "__class__" = some (some (.builtin "object.__class__"))) (s : specialIn K (.builtin "object.__class__") "__get__" = some (some (.builtin "getset_descriptor.__get__")))
  (t : takesIn K (.builtin "object.__class__") = some true) (u : mroIn K C (.type "object") = some true) (v : subIn K (.ref C) (.type "BaseException") = some true) (w : clsIn K C = some cd) : YCl K mg xn f qual st C Cl fI :=
 ⟨PySem.W.mg_of X G a, c, ⟨d, e, f1, g, h, i, j, l⟩, PySem.W.mg_of X G b, ⟨_, Zs2 m n o⟩, ⟨p, q, r, s, t, u, v, by rw [w]; rfl⟩⟩
end
end DL
namespace DL
open PySem PySem.Spec PyProof.Rows L2
section
variable {prog : Program} {w : World} {A : Around} {E : Value -> Shared -> Prop} {s : Shared}
open AutoSeq1 (wpAny_loadPart') in
theorem Zmu (t : Addr) (its : Array Value) (n : Nat) (dct : Option Addr) (sl : Array (Option Value)) (tk0 : Tok) :
  Meets (Builtin.«enumerate.__new__» ⟨[.type "enumerate", .ref t], [("start", .int 1 tk0)]⟩) (fun _ R s => s.heap.get? t = some { cls := .type "list", dict := dct, data := .seq its n, slots := sl } ∧
   R (.ok (.ret (.ref (s.heap.push { cls := .type "list_iterator", data := .fields #[.ref t, .int 0 0] }).objs.size)))
    { s with heap := (s.heap.push { cls := .type "list_iterator", data := .fields #[.ref t, .int 0 0] }).push { cls := .type "enumerate", data := .fields #[.none, .bool false, .ref s.heap.objs.size, rawInt 1, .none, .none] } }) :=
 .of_wp fun prog w A R s h => by
  obtain ⟨hp, g, d, tk, os⟩ := s; obtain ⟨hl, h⟩ := h
  have hsub := sub_enumerate
  have hL : Heap.IsList (Shared.heap ⟨hp, g, d, tk, os⟩) t its := ⟨_, hl, rfl, n, rfl⟩
  wp_walk using wpAny_loadPart' hl
  refine wpAny_stack_any fun st => wpAny_pure ?_
  split
  ·rename_i k _ _ _ _ _
   cases (k == Value.type "enumerate") <;> (wp_walk using wpAny_loadPart' hl, wpAny_pyIter_list hL; exact ⟨_, rfl, h⟩)
  ·wp_walk using wpAny_loadPart' hl, wpAny_pyIter_list hL
   exact ⟨_, rfl, h⟩
theorem Zkx {t : Addr} {its : Array Value} {tk : Tok} {Q : Value -> Shared -> Prop} (hL : s.heap.IsList t its)
  (h : ∀ h', IsEnum h' (s.heap.objs.size + 1) s.heap.objs.size 1 .none -> h'.IsListIter s.heap.objs.size t 0 -> h'.objs.size = s.heap.objs.size + 2 →
   (∀ b o, s.heap.get? b = some o -> h'.get? b = some o) -> Q (.ref (s.heap.objs.size + 1)) { s with heap := h' }) :
  wpAny (model prog w) A (call (.type "enumerate") [.ref t] [("start", .int 1 tk)]) Q E s := by
 obtain ⟨⟨k, dct, dt, sl⟩, hl, hc, n, hd⟩ := hL
 replace hc : k = .type "list" := hc
 replace hd : dt = .seq its n := hd
 subst hc hd
 refine Zu7 F.called_enumerate (by decide) (tc_kw _ _) (nc_kw _ _) F.entry_enumerate_new (Zmu t its n dct sl tk) (fun obj => Zpb _ _ _) (fun obj => Zu4 F.called_enumerate.init.lookup F.called_enumerate.made (by decide)) ⟨hl, ?_⟩
 have hz : (s.heap.push { cls := .type "list_iterator", data := .fields #[.ref t, .int 0 0] }).objs.size = s.heap.objs.size + 1 := Heap.size_push ..
 show _ ∧ _
 rw [hz]
 have he : IsEnum ((s.heap.push { cls := .type "list_iterator", data := .fields #[.ref t, .int 0 0] }).push { cls := .type "enumerate", data := .fields #[.none, .bool false, .ref s.heap.objs.size, rawInt 1, .none, .none] }) (s.heap.objs.size + 1) s.heap.objs.size 1 .none := by
  have q := Heap.get?_push_size (s.heap.push { cls := .type "list_iterator", data := .fields #[.ref t, .int 0 0] }) (o := { cls := .type "enumerate", data := .fields #[.none, .bool false, .ref s.heap.objs.size, rawInt 1, .none, .none] }) rfl
  rw [hz] at q; exact q
 exact ⟨⟨_, he, rfl⟩, h _ he ⟨_, Heap.get?_push_of_some _ (Heap.get?_push_size _ rfl), rfl, rfl⟩ (by rw [Heap.size_push, hz]) fun b o x => Heap.get?_push_of_some _ (Heap.get?_push_of_some _ x)⟩
end
section
variable {X : Cx}
noncomputable def Zfj (f : AF) : ItF := fun σ H => (f σ H).bind fun p => match p.1 with
 | [.ref n] => match p.2[n]? with
  | some (.lst xs) => some ((Zd8 1 xs, [(n, .lst xs)]), p.2)
  | _ => none
 | _ => none
theorem Zgf {es : List Expr} {k : Nat} {tp p pos kp cp : Pos} {cj : Nat} {a : Expr} {f : AF} (hg : Gl X "enumerate") (hm : X.mg "enumerate" = none) (ha : PAf X [a] f) (hs : starEach [a] X.env = [(false, eval a X.env)] := by rfl) :
  PIf X (.Tuple es k tp) (.Call (.Name "enumerate" p) [a] [⟨some "start", .Constant (.int 1) cj cp, kp⟩] pos) (Zfj f) := by
 rintro pins s σ H R I ⟨ι, σd, Hd, xs, own, Hd', sr, hr, e, q⟩
 obtain ⟨⟨ds, H1⟩, e1, e⟩ := Zo e
 dsimp only at e
 split at e
 ·rename_i n
  split at e
  ·rename_i ys eo
   cases e
   show wpAny _ _ (do callWith pos (← eval (.Name "enumerate" p) X.env) [] (backTo pos (starEach [a] X.env)) (backToKw pos (keywordEach [⟨some "start", .Constant (.int 1) cj cp, kp⟩] X.env))) _ _ _
   let P1 : List V -> Hp -> Prop := fun vs H' => ∃ ad ws, vs = [.ref ad] ∧ H' ad = some (.lst ws) ∧ ∀ (J : It) (H2 : Hp), H2 = H' -> J = Zwo 1 ad -> R J H2
   refine wpAny_bind (Zhp I hg hm boot_enumerate (Zh2 (by rw [hs]; rfl) rfl ?_))
   have hA := ha pos pins s σ H P1 I ⟨ι, σd, Hd, _, _, sr, hr, e1, fun vs H' ι' l h P => by
    obtain ⟨v, rfl, r⟩ := Zjh P
    obtain ⟨ad, rfl, had⟩ := Zbq.mp r
    obtain ⟨ws, hS, P2⟩ := h.obj n ad _ had eo
    refine ⟨ad, ws, rfl, hS, fun J H2 e2 e3 => ?_⟩
    subst e2 e3
    exact q _ _ ι' l h (Zki had)⟩
   rw [hs] at hA ⊢
   refine evalArgs_kwB rfl (thn hA fun us s1 zz => ?_)
   obtain ⟨vs, H2, I2, r2, ad, ws, e2, hS, q2⟩ := zz
   subst e2
   obtain ⟨u, rfl, ru⟩ := Zgs r2
   cases ru
   refine kws_cons (thn (Zts pins s1 σ H2 (fun x H' => x = .int 1 ∧ H' = H2) I2 ⟨rfl, rfl⟩) fun v s2 ⟨x, H3, I3, rx, ex, eH⟩ => kws_nil ?_)
   subst ex eH
   obtain ⟨t, rfl⟩ := rx
   obtain ⟨its, rv, p, hz⟩ := I3.list (SqL.of hS)
   show wpAny _ _ (call (.type "enumerate") [.ref ad] [("start", .int 1 t)]) _ _ _
   refine Zkx p.isList fun h' he hj z' kk => ?_
   have I4 : Inv X pins σ H3 { s2 with heap := h' } := I3.kept (t' := s2.toks) kk
   refine wpAny_pyIter_enum (s := { s2 with heap := h' }) he ?_
   have ne : s2.heap.objs.size + 1 ≠ s2.heap.objs.size := Nat.succ_ne_self _
   refine ⟨s2.heap.objs.size + 1, [s2.heap.objs.size + 1, s2.heap.objs.size], _, Zwo 1 ad, H3, rfl, I4, Zid ad _ _ 1 ne, ⟨.none, by simpa using he, hj⟩, fun b hb => ?_, q2 _ _ rfl rfl⟩
   have : s2.heap.objs.size ≤ b := by
    rcases List.mem_cons.mp hb with rfl | hb
    ·exact Nat.le_succ _
    ·have : b = s2.heap.objs.size := by simpa using hb
     rw [this]; exact Nat.le_refl _
   exact I3.fpOk (b := b) (H' := H3) this (I3.hok.fresh this)
  ·cases e
 ·cases e
end
open AutoSeq1 (wpAny_loadPart')
section
variable {prog : Program} {w : World} {A : Around} {E : Value -> Shared -> Prop} {s : Shared} {r : Addr} {a b c : Int} {t u v : Tok} {n : Nat}
end
section
variable {X : Cx}
end
end DL
namespace DL
open PySem PySem.Spec PyProof.Rows L2 PySem.W
noncomputable def Zxn (K : Frag) (mg : Str → Option Value) (xn : Str) (cs : List Addr) : Prop := ∀ C, mg xn = some (.ref C) → kitAny K (.ref C) (cs.map .ref) = some false ∧ kitOne K (.ref C) (.type "ValueError") = some true
theorem Zyp {K : Frag} {hp : Heap} {mg : Str → Option Value} {xn : Str} {C : Addr} {cs : List Addr} (X : K.In hp) (G : hp.Ns mainGlobals mg) (a : nsIn K mainGlobals xn = some (some (.ref C))) (r : kitAny K (.ref C) (cs.map .ref) = some false) (s : kitOne K (.ref C) (.type "ValueError") = some true) : Zxn K mg xn cs := by
 intro C' h
 rw [Zfa X G a] at h
 cases h
 exact ⟨r, s⟩
section
variable {X : Cx} {C : Addr} {f xn : Str} {k : Nat} {iE : Nat} {ex : Addr} {i : Int} {dx : Option Addr} {av : Option Str} {oe : Obj} {en : Str} {cs : List Addr}
theorem Zqw {p1 p2 p3 p4 : Pos} (R : YRs X.prog X.w X.K X.mg X.base xn f k) (hE : X.mg xn = some (.ref C)) (J : Zxn X.K X.mg xn cs) (hc : oe.cls = .ref C) (mI : X.mg "isinstance" = none) (mX : X.mg "ValueError" = none) (hi : X.N[iE]? = some en) (vE : Vis X.env.scope en) (gI : Gl X "isinstance" := by rfl) (gX : Gl X "ValueError" := by rfl)
  (dE : (en == ("__debug__" : Str)) = false := by decide) (dE2 : (en == ("__classdict__" : Str)) = false := by decide) : PEx (Xh X ex oe) iE ex av i dx (.Call (.Name "isinstance" p1) [.Name en p2, .Name "ValueError" p3] [] p4) (eC (.bl true)) := by
 obtain ⟨Cl, fI, fd, ps, h2, h3, h4, h5, h6⟩ := R.at hE
 exact Zr4 h6 hc (J C hE).2 hi vE mI mX (by decide +kernel) gI gX dE dE2
theorem Zp9 {es : List Expr} {x1 : Nat} {p1 p2 p3 p4 : Pos} (R : YRs X.prog X.w X.K X.mg X.base xn f k) (hE : X.mg xn = some (.ref C)) (J : Zxn X.K X.mg xn cs) (hc : oe.cls = .ref C) (hz : cs.length ≤ 1000) (mI : X.mg "isinstance" = none) (hi : X.N[iE]? = some en) (vE : Vis X.env.scope en) (hcl : PA (Xh X ex oe) es (Zn1 cs)) (gI : Gl X "isinstance" := by rfl)
  (dE : (en == ("__debug__" : Str)) = false := by decide) (dE2 : (en == ("__classdict__" : Str)) = false := by decide) : PEx (Xh X ex oe) iE ex av i dx (.Call (.Name "isinstance" p1) [.Name en p2, .Tuple es x1 p3] [] p4) (eC (.bl false)) := by
 obtain ⟨Cl, fI, fd, ps, h2, h3, h4, h5, h6⟩ := R.at hE
 exact Zq4 h6 hc (J C hE).1 hz hcl hi vE mI gI dE dE2
end
theorem Zrt {X : Cx} {e : Expr} {k : Int} (h : PEf X e (eUn Zh7 (eC (.int k)))) : PEf X e (eC (.int (-k))) := h
end DL
namespace DL
open PySem L2
theorem Zgb {n : Nat} (h : n ≤ 1000000) : n ≤ sizeLine := by rw [PySem.sizeLine_eq]; omega
theorem Zhq {xs : List D} {i : Int} {d : D} (h0 : 0 ≤ i) (h : xs[i.toNat]? = some d) : atI xs i = some d := by
 have : i = (i.toNat : Int) := by omega
 rw [this]; exact Zeh h
structure Ext (n : Nat) (H H' : HD) : Prop where
 feed : ∃ a b, H'[n]? = some (.lst [.int a, .int b])
 old : ∀ m o, m ≠ n -> H[m]? = some o -> H'[m]? = some o
 len : H.length ≤ H'.length
theorem Ext.trans {n : Nat} {H H1 H2 : HD} (a : Ext n H H1) (b : Ext n H1 H2) : Ext n H H2 := ⟨b.feed, fun m o h q => b.old m o h (a.old m o h q), Nat.le_trans a.len b.len⟩
theorem Ext.refl {n : Nat} {H : HD} (h : ∃ a b, H[n]? = some (.lst [.int a, .int b])) : Ext n H H := ⟨h, fun _ _ _ q => q, Nat.le_refl _⟩
theorem Ext.app {n : Nat} {H : HD} (h : ∃ a b, H[n]? = some (.lst [.int a, .int b])) (o : DO) : Ext n H (H ++ [o]) := by
 obtain ⟨a, b, e⟩ := h
 refine ⟨⟨a, b, ?_⟩, fun m u _ q => ?_, by simp⟩
 ·rw [List.getElem?_append_left (List.getElem?_eq_some_iff.mp e).1]; exact e
 ·rw [List.getElem?_append_left (List.getElem?_eq_some_iff.mp q).1]; exact q
end DL
namespace LH
open PySem L2 DL
noncomputable def Zm2 : SF :=
 (Zam (sIf (tOf (eOp gtD (eOp ixD (Zah 0) (eC (.int 0))) (eC (.int 0)))) (Zam (Zba 2 (eOp Zdd (eOp ixD (Zah 0) (eC (.int 0))) (Zah 1)))
 (Zam (Zwf (eOp Zhk (eOp ixD (Zah 0) (eC (.int 0))) (Zah 1)) (gSb (Zah 0) (eC (.int 0)) Zvn))
 (Zam (Zcl (Zah 2))
 Zav))) Zav)
 (Zam (Zwf (eOp Zdd (eOp Zbx (eOp Zib (eOp ixD (Zah 0) (eC (.int 1))) (eC (.int 69621))) (eC (.int 12345))) (eC (.int 2147483647))) (gSb (Zah 0) (eC (.int 1)) Zvn))
 (Zam (Zcl (eOp Zdd (eOp Zhk (eOp ixD (Zah 0) (eC (.int 1))) (eC (.int 8191))) (Zah 1)))
 Zav)))
noncomputable def Zb3 : FF := Zcr 2 3 Zm2
noncomputable def Znf : SF :=
 (Zam (Zcl (eOp ixD (Zah 1) (Za2 2 Zb3 (Zac (Zah 0) (Zac (eCB Zdw (Zac (Zah 1) Zan)) Zan)))))
 Zav)
noncomputable def Zea : FF := Zcr 2 2 Znf
noncomputable def Zzh (n : Nat) (s : D) (xs : List D) (H : HD) : Prop := s = .tup xs ∨ ∃ m, s = .ref m ∧ m ≠ n ∧ H[m]? = some (.lst xs)
theorem Zzh.seq {n : Nat} {s : D} {xs : List D} {H : HD} (h : Zzh n s xs H) : Zg8 s H = some xs := by
 rcases h with rfl | ⟨m, rfl, _, e⟩
 ·rfl
 ·simp [Zg8, e]
theorem Zzh.ext {n : Nat} {s : D} {xs : List D} {H H' : HD} (h : Zzh n s xs H) (e : Ext n H H') : Zzh n s xs H' := by
 rcases h with rfl | ⟨m, rfl, hm, q⟩
 ·exact .inl rfl
 ·exact .inr ⟨m, rfl, hm, e.old m _ hm q⟩
noncomputable def Zdk : SF :=
 (Zam (Zba 2 (Zc8 (Zac (eC (.int 1)) (Zac (eC (.int 2)) (Zac (eC (.int 2)) (Zac (eC (.int 3)) (Zac (eC (.int 3)) (Zac (eC (.int 4)) (Zac (eC (.int 2)) (Zac (eC (.int 3)) (Zac (eC (.int 1)) (Zac (eOp Zbx (eC (.int 5)) (Za2 2 Zb3 (Zac (Zah 0) (Zac (eC (.int 4)) Zan)))) (Zac (eC (.int 2)) (Zac (eOp Zib (eC (.int 2)) (eCB Znm (Zac (eOp gtD (Za2 2 Zb3 (Zac (Zah 0) (Zac (eC (.int 6)) Zan))) (eC (.int 0))) Zan))) Zan))))))))))))))
 (Zam (Zba 3 (eCB minD (Zac (Zah 1) (Zac (Za2 2 Zea (Zac (Zah 0) (Zac (Zah 2) Zan))) Zan))))
 (Zam (Zba 4 (eLR2 (Zac (eC (.int 1)) (Zac (eOp Zbx (Zah 1) (eC (.int 1))) Zan))))
 (Zam (Zba 5 (Zc8 Zan))
 (Zam (Zh3 (iR1 (Zac (Zah 3) Zan)) (gNm 6) (Zam (Zcv (eLM Zbo (Zah 5) (Zac (eLM popD (Zah 4) (Zac (Za2 2 Zb3 (Zac (Zah 0) (Zac (eCB Zdw (Zac (Zah 4) Zan)) Zan))) Zan)) Zan)))
 Zav))
 (Zam (Zcl (eCB Zcu (Zac (eLC (iSq (eCB Zui (Zac (Zah 5) Zan))) [0] Zpo (eOp ixD (Zc8 (Zac (Zah 0) (Zac (eUn Zh7 (Zah 0)) Zan))) (Za2 2 Zb3 (Zac (Zah 1) (Zac (eC (.int 2)) Zan))))) Zan)))
 Zav))))))
noncomputable def Zec : FF := Zcr 2 7 Zdk
structure ExtS (S : List Nat) (H H' : HD) : Prop where
 old : ∀ m o, m ∉ S -> H[m]? = some o -> H'[m]? = some o
 len : H.length ≤ H'.length
theorem ExtS.trans {S : List Nat} {H H1 H2 : HD} (a : ExtS S H H1) (b : ExtS S H1 H2) : ExtS S H H2 := ⟨fun m o h q => b.old m o h (a.old m o h q), Nat.le_trans a.len b.len⟩
theorem ExtS.refl {S : List Nat} {H : HD} : ExtS S H H := ⟨fun _ _ _ q => q, Nat.le_refl _⟩
theorem ExtS.set {S : List Nat} {H : HD} {p : Nat} {o : DO} (h : p ∈ S) : ExtS S H (H.set p o) := ⟨fun m u hm q => by rw [List.getElem?_set_ne (fun z => hm (by rw [← z]; exact h))]; exact q, by simp⟩
noncomputable def Zdf (l : Int) : Int := if l < 0 then -l else l
noncomputable def Up (m : Int) : Int -> List Int -> Prop
 | _, [] => True
 | last, l :: r => last < Zdf l ∧ Zdf l ≤ m ∧ Up m (Zdf l) r
theorem Zxj {f g : SF} {σ σ1 : SD} {H H1 : HD} (h : f σ H = some (.nx, σ1, H1)) : Zam f g σ H = g σ1 H1 := by
 unfold Zam
 rw [h]
 rfl
noncomputable def Zcd : SF :=
 (Zam (Zba 3 (Za2 2 Zea (Zac (Zah 0) (Zac (Zc8 (Zac (Zah 1) (Zac (eOp Zn0 (Zah 1) (eC (.int 1))) (Zac (Zah 1) (Zac (eOp Zn0 (Zah 1) (eC (.int 2))) (Zac (Zah 1) (Zac (Za2 2 Zb3 (Zac (Zah 0) (Zac (eOp Zbx (Zah 1) (eC (.int 1))) Zan))) Zan))))))) Zan))))
 (Zam (Zba 4 (Za2 2 Zb3 (Zac (Zah 0) (Zac (eC (.int 4)) Zan))))
 (Zam (Zba 5 (eLC (iR1 (Zac (Zah 3) Zan)) [0] Zpo (Za2 2 Zea (Zac (Zah 1) (Zac (Zc8 (Zac (eC (.str "all")) (Zac (eC (.str "some")) Zan))) Zan)))))
 (Zam (sIf (tOf (eOp eqD (Zah 4) (eC (.int 0)))) (Zam (Zba 5 (eLC (iR1 (Zac (Zah 3) Zan)) [] Zpo (eOp ixD (Zc8 (Zac (eC (.str "some")) (Zac (eC (.str "all")) Zan))) (eOp Zdd (Zah 0) (eC (.int 2))))))
 Zav) Zav)
 (Zam (Zba 6 (Za2 2 Zea (Zac (Zah 0) (Zac (Zc8 (Zac (Zah 3) (Zac (eOp Zbx (Zah 3) (eOp Zhk (Zah 3) (eC (.int 2)))) (Zac (eOp Zib (eC (.int 2)) (Zah 3)) (Zac (eOp Zbx (eOp Zhk (Zah 3) (eC (.int 2))) (eC (.int 1))) (Zac (Za2 2 Zb3 (Zac (Zah 0) (Zac (eOp Zbx (Zah 2) (eC (.int 1))) Zan))) (Zac (eC (.int 2)) Zan))))))) Zan))))
 (Zam (Zba 7 (eLC (iR1 (Zac (eCB minD (Zac (Zah 2) (Zac (Zah 6) Zan))) Zan)) [0, 3] Zpo (Za2 2 Zec (Zac (Zah 1) (Zac (Zah 2) Zan)))))
 (Zam (sIf (tAn (tOf (eOp neD (Zah 7) (Zc8 Zan))) (tOf (eOp eqD (Za2 2 Zb3 (Zac (Zah 0) (Zac (eC (.int 6)) Zan))) (eC (.int 0))))) (Zam (Zcv (eLM Zbo (Zah 7) (Zac (Za2 2 Zea (Zac (Zah 0) (Zac (Zah 7) Zan))) Zan)))
 Zav) Zav)
 (Zam (Zcl (Zgl (Zac (eCB Zcu (Zac (Zah 5) Zan)) (Zac (eCB Zcu (Zac (eSl (Zah 7) Zbf (Zbc (Zah 2))) Zan)) Zan))))
 Zav))))))))
noncomputable def Zdm : FF := Zcr 3 8 Zcd
noncomputable def Zeo (d : D) : Prop := d = .str "all" ∨ d = .str "some"
noncomputable def IsRow (d : D) : Prop := ∃ ls : List Int, d = .tup (ls.map .int) ∧ (∀ l ∈ ls, l ≠ 0 ∧ -10 ≤ l ∧ l ≤ 10) ∧ ls.length ≤ 9
theorem Zkw (H : HD) (n : Nat) (i : Int) : toP H n (.int i) = some (.int i) := by cases n <;> rw [toP]
theorem Zto (H : HD) (n : Nat) (b : Bool) : toP H n (.bl b) = some (.bool b) := by cases n <;> rw [toP]
theorem Zof (H : HD) (n : Nat) : toP H n .non = some .none := by cases n <;> rw [toP]
theorem Zur (H : HD) (i : Int) : dat (.int i) H = some (.int i) := by
 simp [dat, Zkw, okP, PyData.canLay0, PyData.depth]
theorem Zw8 (i j : Int) (H : HD) : eqD (.int i) (.int j) H = some (.bl (i == j), H) := by
 simp [eqD, Zsh, Zur, PyData.eqv]
theorem flt {n : Nat} {H : HD} (hf : ∃ a b, H[n]? = some (.lst [.int a, .int b])) : n < H.length := by obtain ⟨a, b, e⟩ := hf; exact (List.getElem?_eq_some_iff.mp e).1
noncomputable def Zwy (m : Int) (d : D) : Prop := ∃ ls : List Int, d = .tup (ls.map .int) ∧ (∀ l ∈ ls, l ≠ 0 ∧ -10 ≤ l ∧ l ≤ 10) ∧ ls.length ≤ 9 ∧ Up m 0 ls
theorem Zwy.row {m : Int} {d : D} (h : Zwy m d) : IsRow d := by
 obtain ⟨ls, a, b, c, _⟩ := h
 exact ⟨ls, a, b, c⟩
structure Sh (x : PyData) (w dp : Nat) : Prop where
 lay : x.canLay0 = true
 sh : x.showable = true
 dep : x.depth ≤ dp
 lv : x.leavesShort 40 = true
 wt : x.weight ≤ w
theorem Sh.can {x : PyData} {w dp : Nat} (h : Sh x w dp) (hw : w ≤ 100000) (hd : dp ≤ 30) : Zh1 x = true := by
 have sz : sizeLine = 16777216 := PySem.sizeLine_eq
 have l := PyData.shown_le 40 (by omega) x h.lv
 have h1 : x.shown.length ≤ sizeLine := by
  have := h.wt
  rw [sz]; omega
 have h2 : x.depth ≤ 30 := Nat.le_trans h.dep hd
 simp [Zh1, h.lay, h.sh, h1, h2]
noncomputable def Zdq (d : D) (w dp : Nat) : Prop := ∃ x, (∀ H n, toP H n d = some x) ∧ Sh x w dp
theorem Zz4 : ∀ k : Fin 61, (PyData.shown (.int ((k.val : Int) - 30))).length ≤ 40 ∧ ((PyData.int ((k.val : Int) - 30)).showable = true) ∧ (PyData.int ((k.val : Int) - 30)).weight ≤ 40 := by decide
theorem Sh.int {i : Int} (h0 : -30 ≤ i) (h1 : i ≤ 30) : Sh (.int i) 40 0 := by
 have h := Zz4 ⟨(i + 30).toNat, by omega⟩
 have e : (((i + 30).toNat : Nat) : Int) - 30 = i := by omega
 simp only [e] at h
 exact ⟨rfl, h.2.1, Nat.le_refl _, by simpa [PyData.leavesShort] using h.1, h.2.2⟩
theorem Zdq.int {i : Int} (h0 : -30 ≤ i) (h1 : i ≤ 30) : Zdq (.int i) 40 0 := ⟨.int i, fun H n => Zkw H n i, Sh.int h0 h1⟩
theorem Zdq.bl {b : Bool} : Zdq (.bl b) 40 0 := ⟨.bool b, fun H n => Zto H n b, rfl, rfl, Nat.le_refl _, rfl, Nat.zero_le _⟩
theorem Zdq.non : Zdq .non 40 0 := ⟨.none, fun H n => Zof H n, rfl, rfl, Nat.le_refl _, rfl, Nat.zero_le _⟩
theorem Ziu (H : HD) (n : Nat) (x : Str) : toP H n (.str x) = some (.str x) := by cases n <;> rw [toP]
theorem Zdq.str {x : Str} (h : PyData.strOk x = true) (h2 : (x.cps.toList.all fun c => decide (c < 16 ^ 8)) = true) (h3 : x.cps.size ≤ 40) : Zdq (.str x) 40 0 :=
 ⟨.str x, fun H n => Ziu H n x, h, rfl, Nat.le_refl _, h2, h3⟩
theorem Zii {x : Str} (h : (x.cps.toList.all fun c => decide (c < 0x110000)) = true) : PyData.strOk x = true := by
 unfold PyData.strOk
 rw [← Array.all_toList]
 exact h
theorem Zdq.kind {d : D} (h : Zeo d) : Zdq d 40 0 := by
 rcases h with rfl | rfl
 ·exact Zdq.str (Zii (by decide)) (by decide) (by decide)
 ·exact Zdq.str (Zii (by decide)) (by decide) (by decide)
theorem Zpa {H : HD} {n w dp : Nat} : ∀ xs : List D, (∀ d ∈ xs, ∃ x, toP H n d = some x ∧ Sh x w dp) -> ∃ ps, Zfo H n xs = some ps ∧ PyData.canLayAll0 ps = true ∧ PyData.showableAll ps = true ∧ PyData.depthAll ps ≤ dp ∧ PyData.leavesShortAll 40 ps = true ∧ PyData.weightAll ps ≤ xs.length * (w + 1) ∧ ps.length = xs.length
 | [], _ => ⟨[], by rw [Zfo], rfl, rfl, Nat.zero_le _, rfl, Nat.zero_le _, rfl⟩
 | d :: xs, h => by
  obtain ⟨x, e1, s⟩ := h d (by simp)
  obtain ⟨ps, e2, a1, a2, a3, a4, a5, a6⟩ := Zpa (H := H) (n := n) (w := w) (dp := dp) xs fun z hz => h z (by simp [hz])
  refine ⟨x :: ps, ?_, ?_, ?_, ?_, ?_, ?_, by simp [a6]⟩
  ·rw [Zfo, e1, e2]; rfl
  ·simp [PyData.canLayAll0, s.lay, a1]
  ·simp [PyData.showableAll, s.sh, a2]
  ·simp only [PyData.depthAll]; exact Nat.max_le.mpr ⟨s.dep, a3⟩
  ·simp [PyData.leavesShortAll, s.lv, a4]
  ·simp only [PyData.weightAll, List.length_cons, Nat.succ_mul]
   have := s.wt
   omega
theorem Zdq.tup {xs : List D} {w dp : Nat} (h : ∀ d ∈ xs, Zdq d w dp) : Zdq (.tup xs) (xs.length * (w + 1)) (dp + 1) := by
 have all : ∀ H n, ∃ ps, Zfo H n xs = some ps ∧ PyData.canLayAll0 ps = true ∧ PyData.showableAll ps = true ∧ PyData.depthAll ps ≤ dp ∧ PyData.leavesShortAll 40 ps = true ∧ PyData.weightAll ps ≤ xs.length * (w + 1) ∧ ps.length = xs.length := fun H n => Zpa xs fun d hd => by
  obtain ⟨x, e, s⟩ := h d hd
  exact ⟨x, e H n, s⟩
 have same : ∀ (xs : List D), (∀ d ∈ xs, Zdq d w dp) -> ∀ H n, Zfo H n xs = Zfo [] 0 xs := by
  intro xs
  induction xs with
  | nil => intro _ H n; rw [Zfo, Zfo]
  | cons d r ih =>
   intro h H n
   obtain ⟨x, e, _⟩ := h d (by simp)
   rw [Zfo, Zfo, e, e, ih (fun z hz => h z (by simp [hz])) H n]
 obtain ⟨ps, e, a1, a2, a3, a4, a5, _⟩ := all [] 0
 refine ⟨.tuple ps, fun H n => ?_, ⟨a1, a2, Nat.succ_le_succ a3, a4, a5⟩⟩
 have q : Zfo H n xs = some ps := (same xs h H n).trans e
 cases n <;> rw [toP, q] <;> rfl
theorem Zdq.le {d : D} {w dp w' dp' : Nat} (h : Zdq d w dp) (hw : w ≤ w') (hd : dp ≤ dp') : Zdq d w' dp' := by
 obtain ⟨x, e, s⟩ := h
 exact ⟨x, e, s.lay, s.sh, Nat.le_trans s.dep hd, s.lv, Nat.le_trans s.wt hw⟩
theorem Zdq.rep {d : D} {w dp : Nat} (h : Zdq d w dp) (hw : w ≤ 100000) (hd : dp ≤ 30) : ∃ t : Str, ∀ H, Zsa [d] H = some (.str t, H) := by
 obtain ⟨x, e, s⟩ := h
 refine ⟨x.shown, fun H => ?_⟩
 unfold Zsa
 simp only [e, Zb, if_pos (s.can hw hd)]
theorem Zqc (xs : List D) (k : Nat) : Zhr xs (some (k : Int)) none = xs.drop k := by
 unfold Zhr
 have h1 : HT.sIx xs.length 0 (some (k : Int)) = min k xs.length := by
  show (if (k : Int) < 0 then ((k : Int) + (xs.length : Int)).toNat else min (k : Int).toNat xs.length) = min k xs.length
  rw [if_neg (by omega), Int.toNat_natCast]
 have h2 : HT.sIx xs.length xs.length none = xs.length := rfl
 rw [h1, h2]
 by_cases h : k ≤ xs.length
 ·rw [Nat.min_eq_left h]
  exact List.take_of_length_le (by simp)
 ·rw [Nat.min_eq_right (by omega), List.drop_of_length_le (Nat.le_refl _), List.drop_of_length_le (by omega)]
  simp
theorem Zsr (xs : List D) (k : Nat) : Zhr xs none (some (k : Int)) = xs.take k := by
 unfold Zhr
 have h1 : HT.sIx xs.length 0 none = 0 := rfl
 have h2 : HT.sIx xs.length xs.length (some (k : Int)) = min k xs.length := by
  show (if (k : Int) < 0 then ((k : Int) + (xs.length : Int)).toNat else min (k : Int).toNat xs.length) = min k xs.length
  rw [if_neg (by omega), Int.toNat_natCast]
 rw [h1, h2]
 simp
theorem ac {f : EF} {g : AF} {σ : SD} {H H1 H2 : HD} {d : D} {ds : List D} (h1 : f σ H = some (d, H1)) (h2 : g σ H1 = some (ds, H2)) : Zac f g σ H = some (d :: ds, H2) := by
 unfold Zac; rw [h1]; simp only [Zb]; rw [h2]; rfl
theorem an {σ : SD} {H : HD} : Zan σ H = some ([], H) := rfl
theorem cb {g : FF} {f : AF} {σ : SD} {H H1 : HD} {ds : List D} {r : Option (D × HD)} (h1 : f σ H = some (ds, H1)) (h2 : g ds H1 = r) : eCB g f σ H = r := by
 unfold eCB; rw [h1]; exact h2
theorem tu {n : Nat} {xs : List D} {H : HD} (h : H[n]? = some (.lst xs)) : Zcu [.ref n] H = some (.tup xs, H) := by
 simp [Zcu, Zg8, h]
theorem tp {f : AF} {σ : SD} {H H1 : HD} {ds : List D} (h1 : f σ H = some (ds, H1)) (h2 : ds.length ≤ 1000000) : Zgl f σ H = some (.tup ds, H1) := by
 unfold Zgl; rw [h1]; exact if_pos (Zgb h2)
theorem ls {f : AF} {σ : SD} {H H1 : HD} {ds : List D} (h1 : f σ H = some (ds, H1)) (h2 : ds.length ≤ 1000000) : Zc8 f σ H = some (.ref H1.length, H1 ++ [.lst ds]) := by
 unfold Zc8; rw [h1]; exact if_pos (Zgb h2)
theorem ca {n : Nat} {F : FF} {f : AF} {σ : SD} {H H1 : HD} {ds : List D} {r : Option (D × HD)} (h1 : f σ H = some (ds, H1)) (hl : ds.length = n) (h2 : F ds H1 = r) : Za2 n F f σ H = r := by
 unfold Za2; rw [h1]; simp only [Zb]; rw [if_pos hl]; exact h2
theorem rt {f : EF} {σ : SD} {H H1 : HD} {d : D} (h : f σ H = some (d, H1)) : Zcl f σ H = some (.rt d, σ, H1) := by
 unfold Zcl; rw [h]; rfl
theorem op {g : F2} {fa fb : EF} {σ : SD} {H H1 H2 : HD} {d1 d2 : D} {r : Option (D × HD)} (h1 : fa σ H = some (d1, H1)) (h2 : fb σ H1 = some (d2, H2)) (h3 : g d1 d2 H2 = r) : eOp g fa fb σ H = r := by
 unfold eOp; rw [h1]; simp only [Zb]; rw [h2]; exact h3
theorem Zv0 {t : TF} {f g : SF} {σ : SD} {H H1 : HD} {b : Bool} (h : t σ H = some (b, H1)) : sIf t f g σ H = if b = true then f σ H1 else g σ H1 := by
 unfold sIf; rw [h]; rfl
theorem tof {f : EF} {σ : SD} {H H1 : HD} {b : Bool} (h : f σ H = some (.bl b, H1)) : tOf f σ H = some (b, H1) := by
 unfold tOf; rw [h]; rfl
theorem lenT (xs : List D) (H : HD) : Zdw [.tup xs] H = some (.int xs.length, H) := by simp [Zdw, Zg8]
theorem lenB (bs : List Bool) (H : HD) : Zdw [.tup (bs.map .bl)] H = some (.int bs.length, H) := by simp [Zdw, Zg8]
theorem ixT {xs : List D} {i : Int} {d : D} {H : HD} (h : atI xs i = some d) : ixD (.tup xs) (.int i) H = some (d, H) := by simp [ixD, Zg8, h]
theorem skip {t : TF} {f g : SF} {σ : SD} {H H1 : HD} (h : t σ H = some (false, H1)) : Zam (sIf t f Zav) g σ H = g σ H1 := by
 refine Zxj ?_
 rw [Zv0 h]
 rfl
theorem vr {i : Nat} {σ : SD} {H : HD} {d : D} (h : σ[i]? = some (some d)) : Zah i σ H = some (d, H) := by simp [Zah, h]
theorem sl {fe : EF} {fl fh : OF} {σ : SD} {H H1 H2 H3 : HD} {d : D} {l h : Option Int} {r : Option (D × HD)} (h1 : fe σ H = some (d, H1)) (h2 : fl σ H1 = some (l, H2)) (h3 : fh σ H2 = some (h, H3)) (h4 : slD d l h H3 = r) : eSl fe fl fh σ H = r := by
 unfold eSl; rw [h1]; simp only [Zb]; rw [h2]; simp only [Zb]; rw [h3]; exact h4
theorem os {f : EF} {σ : SD} {H H1 : HD} {i : Int} (h : f σ H = some (.int i, H1)) : Zbc f σ H = some (some i, H1) := by
 unfold Zbc; rw [h]; rfl
theorem slhi {xs : List D} {k : Nat} {H : HD} : slD (.tup xs) none (some (k : Int)) H = some (.tup (xs.take k), H) := by
 rw [← Zsr]; rfl
theorem sllo {xs : List D} {k : Nat} {H : HD} : slD (.tup xs) (some (k : Int)) none H = some (.tup (xs.drop k), H) := by
 rw [← Zqc]; rfl
theorem adT {xs ys : List D} {H : HD} (h : xs.length + ys.length ≤ 1000000) : Zbx (.tup xs) (.tup ys) H = some (.tup (xs ++ ys), H) :=
 if_pos (Zgb (by rw [List.length_append]; exact h))
theorem suI (i j : Int) (H : HD) : Zn0 (.int i) (.int j) H = some (.int (i - j), H) := by simp [Zn0, iiD, CT]
theorem ExtS.app {S : List Nat} {H : HD} (L : HD) : ExtS S H (H ++ L) := ⟨fun m o _ q => by
 have : m < H.length := (List.getElem?_eq_some_iff.mp q).1
 rw [List.getElem?_append_left this]; exact q, by simp⟩
noncomputable def Zgt (ls : List Int) : D := .tup (ls.map .int)
theorem orF {t u : TF} {σ : SD} {H H1 : HD} (h : t σ H = some (false, H1)) : Zfr t u σ H = u σ H1 := by unfold Zfr; rw [h]; rfl
theorem orT {t u : TF} {σ : SD} {H H1 : HD} (h : t σ H = some (true, H1)) : Zfr t u σ H = some (true, H1) := by unfold Zfr; rw [h]; rfl
theorem anF {t u : TF} {σ : SD} {H H1 : HD} (h : t σ H = some (false, H1)) : tAn t u σ H = some (false, H1) := by unfold tAn; rw [h]; rfl
theorem anT {t u : TF} {σ : SD} {H H1 : HD} (h : t σ H = some (true, H1)) : tAn t u σ H = u σ H1 := by unfold tAn; rw [h]; rfl
theorem Sh.can' {x : PyData} {w dp : Nat} (h : Sh x w dp) (hw : w ≤ 390000) (hd : dp ≤ 30) : Zh1 x = true := by
 have sz : sizeLine = 16777216 := PySem.sizeLine_eq
 have l := PyData.shown_le 40 (by omega) x h.lv
 have h1 : x.shown.length ≤ sizeLine := by
  have := h.wt
  rw [sz]; omega
 have h2 : x.depth ≤ 30 := Nat.le_trans h.dep hd
 simp [Zh1, h.lay, h.sh, h1, h2]
noncomputable def V (n : Nat) (H : HD) (k w : Nat) (d : D) : Prop := ∃ x, (∀ H', Ext n H H' -> ∀ m, k ≤ m -> toP H' m d = some x) ∧ Sh x w k
theorem V.of {n : Nat} {H : HD} {k w : Nat} {d : D} (h : Zdq d w k) : V n H k w d := by
 obtain ⟨x, e, s⟩ := h
 exact ⟨x, fun H' _ m _ => e H' m, s⟩
theorem V.le {n : Nat} {H : HD} {k w k' w' : Nat} {d : D} (h : V n H k w d) (hk : k ≤ k') (hw : w ≤ w') : V n H k' w' d := by
 obtain ⟨x, e, s⟩ := h
 exact ⟨x, fun H' y m hm => e H' y m (Nat.le_trans hk hm), s.lay, s.sh, Nat.le_trans s.dep hk, s.lv, Nat.le_trans s.wt hw⟩
theorem V.ext {n : Nat} {H H1 : HD} {k w : Nat} {d : D} (h : V n H k w d) (y : Ext n H H1) : V n H1 k w d := by
 obtain ⟨x, e, s⟩ := h
 exact ⟨x, fun H' z m hm => e H' (y.trans z) m hm, s⟩
theorem V.same {n : Nat} {H : HD} {k w : Nat} (hf : ∃ a b, H[n]? = some (.lst [.int a, .int b])) : ∀ ds : List D, (∀ e ∈ ds, V n H k w e) -> ∀ H', Ext n H H' -> ∀ m, k ≤ m -> Zfo H' m ds = Zfo H k ds
 | [], _, H', _, m, _ => by rw [Zfo, Zfo]
 | d :: ds, h, H', y, m, hm => by
  obtain ⟨x, e, _⟩ := h d (by simp)
  rw [Zfo, Zfo, e H' y m hm, e H (Ext.refl hf) k (Nat.le_refl _), V.same hf ds (fun z hz => h z (by simp [hz])) H' y m hm]
theorem V.all {n : Nat} {H : HD} {k w : Nat} {ds : List D} (hf : ∃ a b, H[n]? = some (.lst [.int a, .int b])) (h : ∀ e ∈ ds, V n H k w e) :
  ∃ ps, (∀ H', Ext n H H' -> ∀ m, k ≤ m -> Zfo H' m ds = some ps) ∧ Sh (.tuple ps) (ds.length * (w + 1)) (k + 1) ∧ Sh (.list ps) (ds.length * (w + 1)) (k + 1) := by
 obtain ⟨ps, e, a1, a2, a3, a4, a5, _⟩ := Zpa (H := H) (n := k) (w := w) (dp := k) ds fun d hd => by
  obtain ⟨x, e, s⟩ := h d hd
  exact ⟨x, e H (Ext.refl hf) k (Nat.le_refl _), s⟩
 exact ⟨ps, fun H' y m hm => (V.same hf ds h H' y m hm).trans e, ⟨a1, a2, Nat.succ_le_succ a3, a4, a5⟩, ⟨a1, a2, Nat.succ_le_succ a3, a4, a5⟩⟩
theorem V.tup {n : Nat} {H : HD} {k w : Nat} {ds : List D} (hf : ∃ a b, H[n]? = some (.lst [.int a, .int b])) (h : ∀ e ∈ ds, V n H k w e) : V n H (k + 1) (ds.length * (w + 1)) (.tup ds) := by
 obtain ⟨ps, e, s, _⟩ := V.all hf h
 refine ⟨.tuple ps, fun H' y m hm => ?_, s⟩
 have q := e H' y m (by omega)
 cases m <;> rw [toP, q] <;> rfl
theorem V.lst {n : Nat} {H : HD} {k w p : Nat} {ds : List D} (hf : ∃ a b, H[n]? = some (.lst [.int a, .int b])) (hp : p ≠ n) (hd : H[p]? = some (.lst ds)) (h : ∀ e ∈ ds, V n H k w e) : V n H (k + 1) (ds.length * (w + 1)) (.ref p) := by
 obtain ⟨ps, e, _, s⟩ := V.all hf h
 refine ⟨.list ps, fun H' y m hm => ?_, s⟩
 match m, hm with
 | m + 1, hm =>
  rw [toP]
  simp only [y.old p _ hp hd, e H' y m (by omega), Option.map_some]
theorem V.rep {n : Nat} {H : HD} {k w : Nat} {d : D} (h : V n H k w d) (hw : w ≤ 390000) (hk : k ≤ 30) : ∃ t : Str, ∀ H', Ext n H H' -> Zsa [d] H' = some (.str t, H') := by
 obtain ⟨x, e, s⟩ := h
 refine ⟨x.shown, fun H' y => ?_⟩
 unfold Zsa
 simp only [e H' y 30 hk, Zb, if_pos (s.can' hw hk)]
noncomputable def OkE (H : HD) (d : D) : Prop := ∃ x, toP H 30 d = some x ∧ x.canLay0 = true ∧ x.depth ≤ 30
theorem V.ok {n : Nat} {H : HD} {k w : Nat} {d : D} (hf : ∃ a b, H[n]? = some (.lst [.int a, .int b])) (h : V n H k w d) (hk : k ≤ 30) : OkE H d := by
 obtain ⟨x, e, s⟩ := h
 exact ⟨x, e H (Ext.refl hf) 30 hk, s.lay, Nat.le_trans s.dep hk⟩
theorem Zjv {H : HD} {N : Nat} : ∀ (ds : List D) (ps : List PyData), Zfo H N ds = some ps -> PyData.canLayAll0 ps = true -> PyData.depthAll ps ≤ 29 -> ∀ e ∈ ds, ∃ y, toP H N e = some y ∧ y.canLay0 = true ∧ y.depth ≤ 30
 | [], _, _, _, _, e, he => by simp at he
 | d :: ds, ps, h, c, b, e, he => by
  rw [Zfo] at h
  obtain ⟨x, e1, h⟩ := Zo h
  obtain ⟨qs, e2, rfl⟩ := Zm h
  simp only [PyData.canLayAll0, Bool.and_eq_true] at c
  simp only [PyData.depthAll] at b
  rcases List.mem_cons.mp he with rfl | he
  ·exact ⟨x, e1, c.1, by omega⟩
  ·exact Zjv ds qs e2 c.2 (by omega) e he
theorem OkE.item {H : HD} {ds : List D} (h : OkE H (.tup ds)) : ∀ e ∈ ds, OkE H e := by
 obtain ⟨x, e, c, b⟩ := h
 rw [toP] at e
 obtain ⟨ps, e2, rfl⟩ := Zm e
 simp only [PyData.canLay0] at c
 simp only [PyData.depth] at b
 exact Zjv ds ps e2 c (by omega)
theorem OkE.dat {H : HD} {d : D} (h : OkE H d) : ∃ x, dat d H = some x ∧ toP H 30 d = some x := by
 obtain ⟨x, e, c, b⟩ := h
 refine ⟨x, ?_, e⟩
 unfold DL.dat
 rw [e]
 simp [okP, c, b]
noncomputable def tyOf : D -> String
 | .non => "NoneType"
 | .bl _ => "bool"
 | .int _ => "int"
 | .str _ => "str"
 | .tup _ => "tuple"
 | .fl _ => "list"
 | .ref _ => "list"
 | _ => "?"
theorem OkE.ty {H : HD} {d : D} (h : OkE H d) : tyD d H = some (tyOf d) := by
 obtain ⟨x, e, _⟩ := h
 cases d with
 | ty c => rw [toP] at e; cases e
 | ref m =>
  rw [toP] at e
  simp only [tyD, tyOf]
  split at e
  ·rfl
  ·cases e
 | _ => rfl
theorem Zw3 {H : HD} {p : Nat} {bs : List Bool} (h : H[p]? = some (.lst (bs.map .bl))) : Zvr [.ref p] H = some (.bl (bs.all id), H) := by
 simp [Zvr, h, Zso]
end LH
namespace WP
open PySem L2 DL LH
noncomputable def wE (r : Option (D × HD)) (Q : D -> HD -> Prop) : Prop := ∃ d H, r = some (d, H) ∧ Q d H
noncomputable def wT (r : Option (Bool × HD)) (Q : Bool -> HD -> Prop) : Prop := ∃ d H, r = some (d, H) ∧ Q d H
noncomputable def wA (r : Option (List D × HD)) (Q : List D -> HD -> Prop) : Prop := ∃ d H, r = some (d, H) ∧ Q d H
noncomputable def wO (r : Option (Option Int × HD)) (Q : Option Int -> HD -> Prop) : Prop := ∃ d H, r = some (d, H) ∧ Q d H
noncomputable def wI (r : Option ((List D × Zfq) × HD)) (Q : List D -> Zfq -> HD -> Prop) : Prop := ∃ d o H, r = some ((d, o), H) ∧ Q d o H
noncomputable def wG (r : Option (SD × HD)) (Q : SD -> HD -> Prop) : Prop := ∃ d H, r = some (d, H) ∧ Q d H
noncomputable def wH (r : Option HD) (Q : HD -> Prop) : Prop := ∃ H, r = some H ∧ Q H
noncomputable def wS (r : Option (FD × SD × HD)) (Q : FD -> SD -> HD -> Prop) : Prop := ∃ x d H, r = some (x, d, H) ∧ Q x d H
noncomputable def wN (n : Nat) (F : FF) (ds : List D) (H : HD) (Q : D -> HD -> Prop) : Prop := ds.length = n ∧ wE (F ds H) Q
noncomputable def br (b : Bool) (P Q : Prop) : Prop := (b = true -> P) ∧ (b = false -> Q)
noncomputable def Zgm (k : SD -> HD -> Prop) (Q : FD -> SD -> HD -> Prop) : FD -> SD -> HD -> Prop
 | .nx, σ, H => k σ H
 | r, σ, H => Q r σ H
noncomputable def fin (Q : D -> HD -> Prop) : FD -> SD -> HD -> Prop
 | .rt d, _, H => Q d H
 | .nx, _, H => Q .non H
 | _, _, _ => False
section
variable {σ : SD} {H : HD} {Q : D -> HD -> Prop}
theorem wE.mono {r : Option (D × HD)} {Q' : D -> HD -> Prop} (h : wE r Q) (q : ∀ d H, Q d H -> Q' d H) : wE r Q' := by
 obtain ⟨d, H, e, x⟩ := h; exact ⟨d, H, e, q d H x⟩
theorem wS.mono {r : Option (FD × SD × HD)} {Q Q' : FD -> SD -> HD -> Prop} (h : wS r Q) (q : ∀ x d H, Q x d H -> Q' x d H) : wS r Q' := by
 obtain ⟨x, d, H, e, z⟩ := h; exact ⟨x, d, H, e, q x d H z⟩
theorem w_var {i : Nat} {d : D} (h : (σ[i]?).join = some d) (q : Q d H) : wE (Zah i σ H) Q := ⟨d, H, by unfold Zah; rw [h]; rfl, q⟩
theorem w_c {d : D} (q : Q d H) : wE (eC d σ H) Q := ⟨d, H, rfl, q⟩
theorem w_op {g : F2} {fa fb : EF} (h : wE (fa σ H) fun x H1 => wE (fb σ H1) fun y H2 => wE (g x y H2) Q) : wE (eOp g fa fb σ H) Q := by
 obtain ⟨x, H1, e1, y, H2, e2, d, H3, e3, q⟩ := h
 exact ⟨d, H3, op e1 e2 e3, q⟩
theorem w_un {g : D -> HD -> Option (D × HD)} {fa : EF} (h : wE (fa σ H) fun x H1 => wE (g x H1) Q) : wE (eUn g fa σ H) Q := by
 obtain ⟨x, H1, e1, d, H3, e3, q⟩ := h
 exact ⟨d, H3, by unfold eUn; rw [e1]; exact e3, q⟩
theorem w_ch {g g' : F2} {fa fb fc : EF} (h : wE (fa σ H) fun x H1 => wE (fb σ H1) fun y H2 => wE (g x y H2) fun z H3 => ∃ k, z = .bl k ∧ br k (wE (fc σ H3) fun w H4 => wE (g' y w H4) Q) (Q (.bl false) H3)) : wE (eCh g g' fa fb fc σ H) Q := by
 obtain ⟨x, H1, e1, y, H2, e2, z, H3, e3, k, rfl, b1, b2⟩ := h
 unfold eCh
 rw [e1]; simp only [Zb]; rw [e2]; simp only [Zb]; rw [e3]; simp only [Zb, blD]
 cases k with
 | true =>
  obtain ⟨w, H4, e4, d, H5, e5, q⟩ := b1 rfl
  exact ⟨d, H5, by rw [if_pos rfl, e4]; exact e5, q⟩
 | false => exact ⟨.bl false, H3, by rw [if_neg (by simp)], b2 rfl⟩
theorem w_tof {f : EF} {Q : Bool -> HD -> Prop} (h : wE (f σ H) fun d H1 => ∃ b, d = .bl b ∧ Q b H1) : wT (tOf f σ H) Q := by
 obtain ⟨d, H1, e, b, rfl, q⟩ := h
 exact ⟨b, H1, tof e, q⟩
theorem w_bl {b : Bool} {P : Bool -> Prop} (h : P b) : ∃ c, D.bl b = .bl c ∧ P c := ⟨b, rfl, h⟩
theorem w_ttru {f : EF} {Q : Bool -> HD -> Prop} (h : wE (f σ H) fun d H1 => ∃ b, Zlz d H1 = some b ∧ Q b H1) : wT (Zg4 f σ H) Q := by
 obtain ⟨d, H1, e, b, e2, q⟩ := h
 exact ⟨b, H1, by unfold Zg4; rw [e]; simp only [Zb]; rw [e2]; rfl, q⟩
theorem w_no {t : TF} {Q : Bool -> HD -> Prop} (h : wT (t σ H) fun b H1 => Q (!b) H1) : wT (tNo t σ H) Q := by
 obtain ⟨b, H1, e, q⟩ := h
 exact ⟨!b, H1, by unfold tNo; rw [e]; rfl, q⟩
theorem w_an {t u : TF} {Q : Bool -> HD -> Prop} (h : wT (t σ H) fun b H1 => br b (wT (u σ H1) Q) (Q false H1)) : wT (tAn t u σ H) Q := by
 obtain ⟨b, H1, e, q1, q2⟩ := h
 cases b with
 | true => obtain ⟨c, H2, e2, q⟩ := q1 rfl; exact ⟨c, H2, (anT e).trans e2, q⟩
 | false => exact ⟨false, H1, anF e, q2 rfl⟩
theorem w_or {t u : TF} {Q : Bool -> HD -> Prop} (h : wT (t σ H) fun b H1 => br b (Q true H1) (wT (u σ H1) Q)) : wT (Zfr t u σ H) Q := by
 obtain ⟨b, H1, e, q1, q2⟩ := h
 cases b with
 | true => exact ⟨true, H1, orT e, q1 rfl⟩
 | false => obtain ⟨c, H2, e2, q⟩ := q2 rfl; exact ⟨c, H2, (orF e).trans e2, q⟩
theorem w_eno {f : EF} (h : wE (f σ H) fun d H1 => ∃ b, d = .bl b ∧ Q (.bl (!b)) H1) : wE (eNo f σ H) Q := by
 obtain ⟨d, H1, e, b, rfl, q⟩ := h
 exact ⟨.bl (!b), H1, by unfold eNo; rw [e]; rfl, q⟩
theorem w_ean {f g : EF} (h : wE (f σ H) fun d H1 => ∃ b, d = .bl b ∧ br b (wE (g σ H1) Q) (Q (.bl false) H1)) : wE (eAn f g σ H) Q := by
 obtain ⟨d, H1, e, b, rfl, q1, q2⟩ := h
 unfold eAn
 rw [e]; simp only [Zb, blD]
 cases b with
 | true => rw [if_pos rfl]; exact q1 rfl
 | false => rw [if_neg (by simp)]; exact ⟨_, _, rfl, q2 rfl⟩
theorem w_eorr {f g : EF} (h : wE (f σ H) fun d H1 => ∃ b, d = .bl b ∧ br b (Q (.bl true) H1) (wE (g σ H1) Q)) : wE (eOrr f g σ H) Q := by
 obtain ⟨d, H1, e, b, rfl, q1, q2⟩ := h
 unfold eOrr
 rw [e]; simp only [Zb, blD]
 cases b with
 | true => rw [if_pos rfl]; exact ⟨_, _, rfl, q1 rfl⟩
 | false => rw [if_neg (by simp)]; exact q2 rfl
theorem w_eif {t : TF} {f g : EF} (h : wT (t σ H) fun b H1 => br b (wE (f σ H1) Q) (wE (g σ H1) Q)) : wE (eIf t f g σ H) Q := by
 obtain ⟨b, H1, e, q1, q2⟩ := h
 unfold eIf
 rw [e]; simp only [Zb]
 cases b with
 | true => rw [if_pos rfl]; exact q1 rfl
 | false => rw [if_neg (by simp)]; exact q2 rfl
theorem w_anil {Q : List D -> HD -> Prop} (q : Q [] H) : wA (Zan σ H) Q := ⟨[], H, rfl, q⟩
theorem w_acons {f : EF} {g : AF} {Q : List D -> HD -> Prop} (h : wE (f σ H) fun d H1 => wA (g σ H1) fun ds H2 => Q (d :: ds) H2) : wA (Zac f g σ H) Q := by
 obtain ⟨d, H1, e1, ds, H2, e2, q⟩ := h
 exact ⟨d :: ds, H2, ac e1 e2, q⟩
theorem w_cb {g : FF} {f : AF} (h : wA (f σ H) fun ds H1 => wE (g ds H1) Q) : wE (eCB g f σ H) Q := by
 obtain ⟨ds, H1, e1, d, H2, e2, q⟩ := h
 exact ⟨d, H2, cb e1 e2, q⟩
theorem w_call {n : Nat} {F : FF} {f : AF} (h : wA (f σ H) fun ds H1 => wN n F ds H1 Q) : wE (Za2 n F f σ H) Q := by
 obtain ⟨ds, H1, e1, hl, d, H2, e2, q⟩ := h
 exact ⟨d, H2, ca e1 hl e2, q⟩
theorem w_n {n : Nat} {F : FF} {ds : List D} (hl : ds.length = n) (h : wE (F ds H) Q) : wN n F ds H Q := ⟨hl, h⟩
theorem w_tup {f : AF} (h : wA (f σ H) fun ds H1 => ds.length ≤ 1000000 ∧ Q (.tup ds) H1) : wE (Zgl f σ H) Q := by
 obtain ⟨ds, H1, e1, hl, q⟩ := h
 exact ⟨_, H1, tp e1 hl, q⟩
theorem w_lst {f : AF} (h : wA (f σ H) fun ds H1 => ds.length ≤ 1000000 ∧ Q (.ref H1.length) (H1 ++ [.lst ds])) : wE (Zc8 f σ H) Q := by
 obtain ⟨ds, H1, e1, hl, q⟩ := h
 exact ⟨_, _, ls e1 hl, q⟩
theorem w_lm {g : D -> List D -> HD -> Option (D × HD)} {fo : EF} {f : AF} (h : wE (fo σ H) fun o H1 => Zh5 o H1 = true ∧ wA (f σ H1) fun ds H2 => wE (g o ds H2) Q) : wE (eLM g fo f σ H) Q := by
 obtain ⟨o, H1, e1, i, ds, H2, e2, d, H3, e3, q⟩ := h
 exact ⟨d, H3, by unfold eLM; rw [e1]; simp only [Zb]; rw [if_pos i, e2]; exact e3, q⟩
theorem w_tm {g : D -> List D -> HD -> Option (D × HD)} {fo : EF} {f : AF} (h : wE (fo σ H) fun o H1 => Zv3 o = true ∧ wA (f σ H1) fun ds H2 => wE (g o ds H2) Q) : wE (eTM g fo f σ H) Q := by
 obtain ⟨o, H1, e1, i, ds, H2, e2, d, H3, e3, q⟩ := h
 exact ⟨d, H3, by unfold eTM; rw [e1]; simp only [Zb]; rw [if_pos i, e2]; exact e3, q⟩
theorem w_dm {g : D -> List D -> HD -> Option (D × HD)} {fo : EF} {f : AF} (h : wE (fo σ H) fun o H1 => Zym o H1 = true ∧ wA (f σ H1) fun ds H2 => wE (g o ds H2) Q) : wE (eDM g fo f σ H) Q := by
 obtain ⟨o, H1, e1, i, ds, H2, e2, d, H3, e3, q⟩ := h
 exact ⟨d, H3, by unfold eDM; rw [e1]; simp only [Zb]; rw [if_pos i, e2]; exact e3, q⟩
theorem w_dn (q : Q (.ref H.length) (H ++ [.dic [] false])) : wE (eDN σ H) Q := ⟨_, _, rfl, q⟩
theorem w_on {Q : Option Int -> HD -> Prop} (q : Q none H) : wO (Zbf σ H) Q := ⟨none, H, rfl, q⟩
theorem w_os {f : EF} {Q : Option Int -> HD -> Prop} (h : wE (f σ H) fun d H1 => ∃ i, d = .int i ∧ Q (some i) H1) : wO (Zbc f σ H) Q := by
 obtain ⟨d, H1, e, i, rfl, q⟩ := h
 exact ⟨some i, H1, os e, q⟩
theorem w_int {i : Int} {P : Int -> Prop} (h : P i) : ∃ c, D.int i = .int c ∧ P c := ⟨i, rfl, h⟩
theorem w_sl {fe : EF} {fl fh : OF} (h : wE (fe σ H) fun x H1 => wO (fl σ H1) fun l H2 => wO (fh σ H2) fun u H3 => wE (slD x l u H3) Q) : wE (eSl fe fl fh σ H) Q := by
 obtain ⟨x, H1, e1, l, H2, e2, u, H3, e3, d, H4, e4, q⟩ := h
 exact ⟨d, H4, sl e1 e2 e3 e4, q⟩
theorem w_rv {fe : EF} (h : wE (fe σ H) fun x H1 => ∃ xs, x = .tup xs ∧ xs.length ≤ 1000000 ∧ Q (.tup xs.reverse) H1) : wE (eRv fe σ H) Q := by
 obtain ⟨x, H1, e1, xs, rfl, hl, q⟩ := h
 exact ⟨_, H1, by unfold eRv; rw [e1]; exact if_pos (Zgb (by rw [List.length_reverse]; exact hl)), q⟩
variable {R : FD -> SD -> HD -> Prop}
theorem w_snil (q : R .nx σ H) : wS (Zav σ H) R := ⟨_, _, _, rfl, q⟩
theorem w_seq {f g : SF} (h : wS (f σ H) (Zgm (fun σ1 H1 => wS (g σ1 H1) R) R)) : wS (Zam f g σ H) R := by
 obtain ⟨x, σ1, H1, e, k⟩ := h
 unfold Zam
 rw [e]; simp only [Zb]
 cases x with
 | nx => exact k
 | bk => exact ⟨_, _, _, rfl, k⟩
 | ct => exact ⟨_, _, _, rfl, k⟩
 | rt d => exact ⟨_, _, _, rfl, k⟩
theorem w_kn {k : SD -> HD -> Prop} (h : k σ H) : Zgm k R .nx σ H := h
theorem w_kr {k : SD -> HD -> Prop} {d : D} (h : R (.rt d) σ H) : Zgm k R (.rt d) σ H := h
theorem w_kb {k : SD -> HD -> Prop} (h : R .bk σ H) : Zgm k R .bk σ H := h
theorem w_kc {k : SD -> HD -> Prop} (h : R .ct σ H) : Zgm k R .ct σ H := h
theorem Zja {r : Option (FD × SD × HD)} {k : SD -> HD -> Prop} (J : SD -> HD -> Prop) (h : wS r fun x σ H => x = .nx ∧ J σ H) (q : ∀ σ H, J σ H -> k σ H) : wS r (Zgm k R) := by
 obtain ⟨x, s, H, e, rfl, j⟩ := h
 exact ⟨_, s, H, e, q s H j⟩
theorem w_fr {d : D} (h : Q d H) : fin Q (.rt d) σ H := h
theorem w_fn (h : Q .non H) : fin Q .nx σ H := h
theorem w_ret {f : EF} (h : wE (f σ H) fun d H1 => R (.rt d) σ H1) : wS (Zcl f σ H) R := by
 obtain ⟨d, H1, e, q⟩ := h; exact ⟨_, _, _, rt e, q⟩
theorem w_retn (h : R (.rt .non) σ H) : wS (sRetN σ H) R := ⟨_, _, _, rfl, h⟩
theorem w_brk (h : R .bk σ H) : wS (sBrk σ H) R := ⟨_, _, _, rfl, h⟩
theorem w_cnt (h : R .ct σ H) : wS (sCnt σ H) R := ⟨_, _, _, rfl, h⟩
theorem w_expr {f : EF} (h : wE (f σ H) fun d H1 => R .nx σ H1) : wS (Zcv f σ H) R := by
 obtain ⟨d, H1, e, q⟩ := h; exact ⟨_, _, _, by unfold Zcv; rw [e]; rfl, q⟩
theorem w_if {t : TF} {f g : SF} (h : wT (t σ H) fun b H1 => br b (wS (f σ H1) R) (wS (g σ H1) R)) : wS (sIf t f g σ H) R := by
 obtain ⟨b, H1, e, q1, q2⟩ := h
 rw [Zv0 e]
 cases b with
 | true => rw [if_pos rfl]; exact q1 rfl
 | false => rw [if_neg (by simp)]; exact q2 rfl
theorem w_set {i : Nat} {f : EF} (h : wE (f σ H) fun d H1 => R .nx (σ.set i (some d)) H1) : wS (Zba i f σ H) R := by
 obtain ⟨d, H1, e, q⟩ := h; exact ⟨_, _, _, by unfold Zba; rw [e]; rfl, q⟩
theorem w_asg {f : EF} {g : GF} (h : wE (f σ H) fun d H1 => wG (g d σ H1) fun σ2 H2 => R .nx σ2 H2) : wS (Zwf f g σ H) R := by
 obtain ⟨d, H1, e, σ2, H2, e2, q⟩ := h; exact ⟨_, _, _, by unfold Zwf; rw [e]; simp only [Zb]; rw [e2]; rfl, q⟩
theorem w_gnm {i : Nat} {d : D} {Q : SD -> HD -> Prop} (h : Q (σ.set i (some d)) H) : wG (gNm i d σ H) Q := ⟨_, _, rfl, h⟩
theorem w_gsb {fo fi : EF} {g : Zwl} {d : D} {Q : SD -> HD -> Prop} (h : wE (fo σ H) fun o H1 => wE (fi σ H1) fun i H2 => wH (g o i d H2) fun H3 => Q σ H3) : wG (gSb fo fi g d σ H) Q := by
 obtain ⟨o, H1, e1, i, H2, e2, H3, e3, q⟩ := h
 exact ⟨σ, H3, by unfold gSb; rw [e1]; simp only [Zb]; rw [e2]; simp only [Zb]; rw [e3]; rfl, q⟩
theorem w_gtp {n : Nat} {g : GFs} {ds : List D} {Q : SD -> HD -> Prop} (hl : ds.length = n) (h : wG (g ds σ H) Q) : wG (gTp n g (.tup ds) σ H) Q := by
 obtain ⟨s, H1, e, q⟩ := h
 exact ⟨s, H1, by unfold gTp; simp only [if_pos hl]; exact e, q⟩
theorem w_gnl {Q : SD -> HD -> Prop} (h : Q σ H) : wG (gNl [] σ H) Q := ⟨_, _, rfl, h⟩
theorem w_gcn {g : GF} {h : GFs} {d : D} {r : List D} {Q : SD -> HD -> Prop} (q : wG (g d σ H) fun σ1 H1 => wG (h r σ1 H1) Q) : wG (gCn g h (d :: r) σ H) Q := by
 obtain ⟨s, H1, e, s2, H2, e2, q⟩ := q
 exact ⟨s2, H2, by unfold gCn; simp only; rw [e]; exact e2, q⟩
theorem w_for {it : ItF} {g : GF} {b : SF} (h : wI (it σ H) fun xs own H1 => wS (Zf0 own g b xs σ H1) R) : wS (Zh3 it g b σ H) R := by
 obtain ⟨xs, own, H1, e, q⟩ := h
 unfold Zh3; rw [e]; exact q
theorem Zda {n N : Nat} {b : SF} {ds : List D} (hl : ds.length = n) (h : wS (b (ds.map some ++ List.replicate (N - ds.length) none) H) (fin Q)) : wE (Zcr n N b ds H) Q := by
 obtain ⟨x, s, H1, e, q⟩ := h
 unfold Zcr
 rw [if_pos hl, e]
 simp only [Zb]
 cases x with
 | nx => exact ⟨_, _, rfl, q⟩
 | rt d => exact ⟨_, _, rfl, q⟩
 | bk => exact q.elim
 | ct => exact q.elim
theorem w_lc {it : ItF} {ci : List Nat} {tt : TF} {te : EF} (h : wI (it σ H) fun xs own H1 => wA (Ze8 own (Zwg ci σ) tt te xs H1) fun ds H2 => ds.length ≤ 1000000 ∧ Q (.ref H2.length) (H2 ++ [.lst ds])) : wE (eLC it ci tt te σ H) Q := by
 obtain ⟨xs, own, H1, e, ds, H2, e2, hl, q⟩ := h
 exact ⟨_, _, by unfold eLC; rw [e]; simp only [Zb]; rw [e2]; exact if_pos (Zgb hl), q⟩
theorem w_bt {P S : Prop} (h : P) : br true P S := ⟨fun _ => h, nofun⟩
theorem w_bf {P S : Prop} (h : S) : br false P S := ⟨nofun, fun _ => h⟩
theorem w_bnt {P S : Prop} (h : P) : br (!false) P S := ⟨fun _ => h, nofun⟩
theorem w_bnf {P S : Prop} (h : S) : br (!true) P S := ⟨nofun, fun _ => h⟩
theorem w_bT {b : Bool} {P S : Prop} (e : b = true) (h : P) : br b P S := by subst e; exact w_bt h
theorem w_bF {b : Bool} {P S : Prop} (e : b = false) (h : S) : br b P S := by subst e; exact w_bf h
theorem w_sz {ds : List D} {P : Prop} (h : ds.length ≤ 1000000) (q : P) : ds.length ≤ 1000000 ∧ P := ⟨h, q⟩
theorem w_addI {i j : Int} (q : Q (.int (i + j)) H) : wE (Zbx (.int i) (.int j) H) Q := ⟨_, _, rfl, q⟩
theorem w_addT {a b : List D} (h : a.length + b.length ≤ 1000000) (q : Q (.tup (a ++ b)) H) : wE (Zbx (.tup a) (.tup b) H) Q := ⟨_, _, adT h, q⟩
theorem w_subI {i j : Int} (q : Q (.int (i - j)) H) : wE (Zn0 (.int i) (.int j) H) Q := ⟨_, _, suI i j H, q⟩
theorem w_lt {i j : Int} (q : Q (.bl (decide (i < j))) H) : wE (ltD (.int i) (.int j) H) Q := ⟨_, _, by simp [ltD, iiD, CT], q⟩
theorem w_le {i j : Int} (q : Q (.bl (decide (i ≤ j))) H) : wE (leD (.int i) (.int j) H) Q := ⟨_, _, by simp [leD, iiD, CT], q⟩
theorem w_gt {i j : Int} (q : Q (.bl (decide (j < i))) H) : wE (gtD (.int i) (.int j) H) Q := ⟨_, _, by simp [gtD, iiD, CT], q⟩
theorem w_ge {i j : Int} (q : Q (.bl (decide (j ≤ i))) H) : wE (geD (.int i) (.int j) H) Q := ⟨_, _, by simp [geD, iiD, CT], q⟩
theorem w_mod {i j : Int} (h : 0 < j) (q : Q (.int (i % j)) H) : wE (Zdd (.int i) (.int j) H) Q := ⟨_, _, by have c : Zzl i j := h; simp [Zdd, iiD, c], q⟩
theorem w_fdiv {i j : Int} (h : 0 < j) (h2 : j < 1073741824) (q : Q (.int (i / j)) H) : wE (Zhk (.int i) (.int j) H) Q := ⟨_, _, by have c : Zze i j := ⟨h, h2⟩; simp [Zhk, iiD, c], q⟩
theorem w_mulL {i j : Int} (h1 : -(2 ^ 64) < i) (h2 : i < 2 ^ 64) (q : Q (.int (i * j)) H) : wE (Zib (.int i) (.int j) H) Q := ⟨_, _, by have c : Zs0 i j := .inl ⟨h1, h2⟩; simp [Zib, c], q⟩
theorem w_mulR {i j : Int} (h1 : -(2 ^ 64) < j) (h2 : j < 2 ^ 64) (q : Q (.int (i * j)) H) : wE (Zib (.int i) (.int j) H) Q := ⟨_, _, by have c : Zs0 i j := .inr ⟨h1, h2⟩; simp [Zib, c], q⟩
theorem Zva {i j : Int} (h1 : 0 ≤ j) (h2 : j ≤ 1000000) (h3 : i.natAbs < 2 ^ 64) (q : Q (.int (i ^ j.toNat)) H) : wE (Zwm (.int i) (.int j) H) Q := ⟨_, _, by have c : Zxu i j := ⟨h1, h2, h3⟩; simp [Zwm, iiD, c], q⟩
theorem w_neg {i : Int} (q : Q (.int (-i)) H) : wE (Zh7 (.int i) H) Q := ⟨_, _, rfl, q⟩
theorem w_eqI {i j : Int} (q : Q (.bl (i == j)) H) : wE (eqD (.int i) (.int j) H) Q := ⟨_, _, Zw8 _ _ _, q⟩
theorem w_eqS {a b : Str} (q : Q (.bl (a == b)) H) : wE (eqD (.str a) (.str b) H) Q := ⟨_, _, rfl, q⟩
theorem w_neS {a b : Str} (q : Q (.bl (a != b)) H) : wE (neD (.str a) (.str b) H) Q := ⟨_, _, rfl, q⟩
theorem w_lenT {xs : List D} (q : Q (.int xs.length) H) : wE (Zdw [.tup xs] H) Q := ⟨_, _, lenT xs H, q⟩
theorem w_lenR {n : Nat} {xs : List D} (h : H[n]? = some (.lst xs)) (q : Q (.int xs.length) H) : wE (Zdw [.ref n] H) Q := ⟨_, _, by simp [Zdw, Zg8, h], q⟩
theorem w_lenF {xs : List D} (q : Q (.int xs.length) H) : wE (Zdw [.fl xs] H) Q := ⟨_, _, by simp [Zdw, Zg8], q⟩
theorem w_abs {i : Int} (q : Q (.int (Zdf i)) H) : wE (Znl [.int i] H) Q := ⟨_, _, rfl, q⟩
theorem w_ixT {xs : List D} {i : Int} {d : D} (h : atI xs i = some d) (q : Q d H) : wE (ixD (.tup xs) (.int i) H) Q := ⟨_, _, ixT h, q⟩
theorem w_ixR {n : Nat} {xs : List D} {i : Int} {d : D} (g : H[n]? = some (.lst xs)) (h : atI xs i = some d) (q : Q d H) : wE (ixD (.ref n) (.int i) H) Q := ⟨_, _, by simp [ixD, Zg8, g, h], q⟩
theorem w_intI {i : Int} (q : Q (.int i) H) : wE (Znm [.int i] H) Q := ⟨_, _, rfl, q⟩
theorem w_intB {b : Bool} (q : Q (.int (if b then 1 else 0)) H) : wE (Znm [.bl b] H) Q := ⟨_, _, rfl, q⟩
theorem w_max {i j : Int} (q : Q (.int (if j > i then j else i)) H) : wE (maxD [.int i, .int j] H) Q := ⟨_, _, rfl, q⟩
theorem w_min {i j : Int} (q : Q (.int (if j < i then j else i)) H) : wE (minD [.int i, .int j] H) Q := ⟨_, _, rfl, q⟩
theorem w_tupR {n : Nat} {xs : List D} (h : H[n]? = some (.lst xs)) (q : Q (.tup xs) H) : wE (Zcu [.ref n] H) Q := ⟨_, _, tu h, q⟩
theorem Zkp {n : Nat} {xs : List D} {d : D} (h : H[n]? = some (.lst xs)) (hl : xs.length < 1000000) (q : Q .non (H.set n (.lst (xs ++ [d])))) : wE (Zbo (.ref n) [d] H) Q :=
 ⟨_, _, by simp [Zbo, h, Nat.lt_of_lt_of_le hl (Zgb (Nat.le_refl _))], q⟩
theorem w_isi {d : D} {c t : String} (ha : Zow c = true) (h : tyD d H = some t) (q : Q (.bl (t == c || (t == "bool" && c == "int"))) H) : wE (Zot [d, .ty c] H) Q := ⟨_, _, by simp [Zot, ha, h], q⟩
theorem w_isN {d : D} {b : Bool} (h : isB d .non = some b) (q : Q (.bl b) H) : wE (isD d .non H) Q := ⟨_, _, by simp [isD, h], q⟩
theorem w_isnN {d : D} {b : Bool} (h : isB d .non = some b) (q : Q (.bl (!b)) H) : wE (isnD d .non H) Q := ⟨_, _, by simp [isnD, h], q⟩
theorem w_isBl {d : D} {c b : Bool} (h : isB d (.bl c) = some b) (q : Q (.bl b) H) : wE (isD d (.bl c) H) Q := ⟨_, _, by simp [isD, h], q⟩
theorem w_isnBl {d : D} {c b : Bool} (h : isB d (.bl c) = some b) (q : Q (.bl (!b)) H) : wE (isnD d (.bl c) H) Q := ⟨_, _, by simp [isnD, h], q⟩
theorem w_truB {b : Bool} {P : Bool -> Prop} (h : P b) : ∃ c, Zlz (.bl b) H = some c ∧ P c := ⟨b, rfl, h⟩
theorem w_truT {xs : List D} {P : Bool -> Prop} (h : P (!xs.isEmpty)) : ∃ c, Zlz (.tup xs) H = some c ∧ P c := ⟨_, rfl, h⟩
theorem w_truN {P : Bool -> Prop} (h : P false) : ∃ c, Zlz .non H = some c ∧ P c := ⟨_, rfl, h⟩
theorem w_isi' {d : D} {c t : String} {r : Bool} (ha : Zow c = true) (h : tyD d H = some t) (hr : (t == c || (t == "bool" && c == "int")) = r) (q : Q (.bl r) H) : wE (Zot [d, .ty c] H) Q := w_isi ha h (by rw [hr]; exact q)
theorem w_eqS' {a b : Str} {r : Bool} (hr : (a == b) = r) (q : Q (.bl r) H) : wE (eqD (.str a) (.str b) H) Q := w_eqS (by rw [hr]; exact q)
theorem w_neS' {a b : Str} {r : Bool} (hr : (a == b) = r) (q : Q (.bl (!r)) H) : wE (neD (.str a) (.str b) H) Q := w_neS (by rw [bne, hr]; exact q)
theorem w_eqI' {a b : Int} {r : Bool} (hr : (a == b) = r) (q : Q (.bl r) H) : wE (eqD (.int a) (.int b) H) Q := w_eqI (by rw [hr]; exact q)
theorem w_slhi {xs : List D} {k : Nat} (q : Q (.tup (xs.take k)) H) : wE (slD (.tup xs) none (some (k : Int)) H) Q := ⟨_, _, slhi, q⟩
theorem w_sllo {xs : List D} {k : Nat} (q : Q (.tup (xs.drop k)) H) : wE (slD (.tup xs) (some (k : Int)) none H) Q := ⟨_, _, sllo, q⟩
theorem w_sllo1 {xs : List D} {k : Nat} (q : Q (.tup (xs.drop (k + 1))) H) : wE (slD (.tup xs) (some ((k : Int) + 1)) none H) Q := ⟨_, _, sllo (k := k + 1), q⟩
variable {I : List D -> Zfq -> HD -> Prop}
theorem w_isq {f : EF} (h : wE (f σ H) fun d H1 => ∃ xs own, Zgj d H1 = some (xs, own) ∧ I xs own H1) : wI (iSq f σ H) I := by
 obtain ⟨d, H1, e, xs, own, e2, q⟩ := h
 exact ⟨xs, own, H1, by unfold iSq; rw [e]; simp only [Zb]; rw [e2]; rfl, q⟩
theorem w_itT {xs : List D} {P : List D -> Zfq -> Prop} (h : P xs []) : ∃ ys own, Zgj (.tup xs) H = some (ys, own) ∧ P ys own := ⟨_, _, rfl, h⟩
theorem w_itF {xs : List D} {P : List D -> Zfq -> Prop} (h : P xs []) : ∃ ys own, Zgj (.fl xs) H = some (ys, own) ∧ P ys own := ⟨_, _, rfl, h⟩
theorem w_itR {n : Nat} {xs : List D} {P : List D -> Zfq -> Prop} (g : H[n]? = some (.lst xs)) (h : P xs [(n, .lst xs)]) : ∃ ys own, Zgj (.ref n) H = some (ys, own) ∧ P ys own := ⟨_, _, by simp [Zgj, g], h⟩
theorem w_ir1 {f : AF} (h : wA (f σ H) fun ds H1 => ∃ j, ds = [.int j] ∧ Zfb j ∧ I (Zbb 0 j.toNat) [] H1) : wI (iR1 f σ H) I := by
 obtain ⟨ds, H1, e, j, rfl, s, q⟩ := h
 exact ⟨_, _, H1, by unfold iR1; rw [e]; exact if_pos s, q⟩
theorem w_ir2 {f : AF} (h : wA (f σ H) fun ds H1 => ∃ i j, ds = [.int i, .int j] ∧ Zfb i ∧ Zfb j ∧ I (Zbb i (j - i).toNat) [] H1) : wI (iR2 f σ H) I := by
 obtain ⟨ds, H1, e, i, j, rfl, s1, s2, q⟩ := h
 exact ⟨_, _, H1, by unfold iR2; rw [e]; exact if_pos ⟨s1, s2⟩, q⟩
theorem w_ir3 {f : AF} (h : wA (f σ H) fun ds H1 => ∃ i j c, ds = [.int i, .int j, .int c] ∧ Zl1 i j c ∧ I (Zok i c (Zw7 i j c)) [] H1) : wI (iR3 f σ H) I := by
 obtain ⟨ds, H1, e, i, j, c, rfl, s1, q⟩ := h
 exact ⟨_, _, H1, by unfold iR3; rw [e]; exact if_pos s1, q⟩
theorem w_idic {f : EF} (h : wE (f σ H) fun d H1 => ∃ n kvs fz, d = .ref n ∧ H1[n]? = some (.dic kvs fz) ∧ I (kvs.map (·.1)) [(n, .dic kvs true)] (H1.set n (.dic kvs true))) : wI (iDic f σ H) I := by
 obtain ⟨d, H1, e, n, kvs, fz, rfl, g, q⟩ := h
 exact ⟨_, _, _, by unfold iDic; rw [e]; simp only [Zb, g], q⟩
theorem w_enum {f : AF} (h : wA (f σ H) fun ds H1 => ∃ xs, ds = [.tup xs] ∧ I (Zd8 0 xs) [] H1) : wI (Zyj f σ H) I := by
 obtain ⟨ds, H1, e, xs, rfl, q⟩ := h
 exact ⟨_, _, H1, by unfold Zyj; rw [e]; rfl, q⟩
theorem w_enum1 {f : AF} (h : wA (f σ H) fun ds H1 => ∃ xs, ds = [.tup xs] ∧ I (Zd8 1 xs) [] H1) : wI (Zs3 f σ H) I := by
 obtain ⟨ds, H1, e, xs, rfl, q⟩ := h
 exact ⟨_, _, H1, by unfold Zs3; rw [e]; rfl, q⟩
theorem w_zip {f : AF} (h : wA (f σ H) fun ds H1 => ∃ d1 d2 a b, ds = [d1, d2] ∧ srcD d1 H1 = some a ∧ srcD d2 H1 = some b ∧ I (zipL a.1 b.1) (a.2 ++ b.2) H1) : wI (Zzy f σ H) I := by
 obtain ⟨ds, H1, e, d1, d2, a, b, rfl, e1, e2, q⟩ := h
 exact ⟨_, _, H1, by unfold Zzy; rw [e]; simp only [Zb]; rw [e1]; simp only [Zb]; rw [e2]; rfl, q⟩
theorem Zih {own : Zfq} {g : GF} {b : SF} (h : Zdb own H) (q : R .nx σ H) : wS (Zf0 own g b [] σ H) R := ⟨_, _, _, by rw [Zf0, if_pos h], q⟩
noncomputable def again (k : SD -> HD -> Prop) (R : FD -> SD -> HD -> Prop) : FD -> SD -> HD -> Prop
 | .nx, σ, H => k σ H
 | .ct, σ, H => k σ H
 | .bk, σ, H => R .nx σ H
 | .rt d, σ, H => R (.rt d) σ H
theorem Zff {own : Zfq} {g : GF} {b : SF} {x : D} {r : List D} (h : Zdb own H) (q : wG (g x σ H) fun σ1 H1 => wS (b σ1 H1) (again (fun σ2 H2 => wS (Zf0 own g b r σ2 H2) R) R)) : wS (Zf0 own g b (x :: r) σ H) R := by
 obtain ⟨σ1, H1, e1, y, σ2, H2, e2, q⟩ := q
 rw [Zf0, if_pos h, e1]
 simp only [Zb]
 rw [e2]
 cases y with
 | nx => exact q
 | ct => exact q
 | bk => exact ⟨_, _, _, rfl, q⟩
 | rt d => exact ⟨_, _, _, rfl, q⟩
theorem w_agn {k : SD -> HD -> Prop} (h : k σ H) : again k R .nx σ H := h
theorem w_agc {k : SD -> HD -> Prop} (h : k σ H) : again k R .ct σ H := h
theorem w_agb {k : SD -> HD -> Prop} (h : R .nx σ H) : again k R .bk σ H := h
theorem w_agr {k : SD -> HD -> Prop} {d : D} (h : R (.rt d) σ H) : again k R (.rt d) σ H := h
theorem Zhm {own : Zfq} {g : GF} {b : SF} (Inv : List D -> List D -> SD -> HD -> Prop) (ho : ∀ d t σ H, Inv d t σ H -> Zdb own H)
  (st : ∀ d x t σ H, Inv d (x :: t) σ H -> wG (g x σ H) fun σ1 H1 => wS (b σ1 H1) (again (fun σ2 H2 => Inv (d ++ [x]) t σ2 H2) R))
  (q : ∀ d σ H, Inv d [] σ H -> R .nx σ H) : ∀ (t d : List D) (σ : SD) (H : HD), Inv d t σ H -> wS (Zf0 own g b t σ H) R
 | [], d, σ, H, i => Zih (ho _ _ _ _ i) (q d σ H i)
 | x :: t, d, σ, H, i => by
  refine Zff (ho _ _ _ _ i) ?_
  obtain ⟨σ1, H1, e1, y, σ2, H2, e2, k⟩ := st d x t σ H i
  refine ⟨σ1, H1, e1, y, σ2, H2, e2, ?_⟩
  cases y with
  | nx => exact Zhm Inv ho st q t _ σ2 H2 k
  | ct => exact Zhm Inv ho st q t _ σ2 H2 k
  | bk => exact k
  | rt d => exact k
theorem Zka {own : Zfq} {g : GF} {b : SF} (Inv : SD -> HD -> Prop) (ho : ∀ σ H, Inv σ H -> Zdb own H) : ∀ (xs : List D) (st : ∀ x ∈ xs, ∀ σ H, Inv σ H -> wG (g x σ H) fun σ1 H1 => wS (b σ1 H1) (again Inv R)) (σ : SD) (H : HD), Inv σ H -> (∀ σ H, Inv σ H -> R .nx σ H) -> wS (Zf0 own g b xs σ H) R
 | [], st, σ, H, i, q => Zih (ho _ _ i) (q σ H i)
 | x :: t, st, σ, H, i, q => by
  refine Zff (ho _ _ i) ?_
  obtain ⟨σ1, H1, e1, y, σ2, H2, e2, k⟩ := st x (by simp) σ H i
  refine ⟨σ1, H1, e1, y, σ2, H2, e2, ?_⟩
  cases y with
  | nx => exact Zka Inv ho t (fun z hz => st z (by simp [hz])) σ2 H2 k q
  | ct => exact Zka Inv ho t (fun z hz => st z (by simp [hz])) σ2 H2 k q
  | bk => exact k
  | rt d => exact k
theorem Zqd {own : Zfq} {c0 : SD} {tt : TF} {te : EF} {Q : List D -> HD -> Prop} (h : Zdb own H) (q : Q [] H) : wA (Ze8 own c0 tt te [] H) Q := ⟨_, _, by rw [Ze8, if_pos h], q⟩
theorem Zk4 {own : Zfq} {c0 : SD} {tt : TF} {te : EF} {x : D} {r : List D} {Q : List D -> HD -> Prop} (h : Zdb own H)
  (q : wT (tt (some x :: c0) H) fun b H1 => br b (wE (te (some x :: c0) H1) fun e H2 => wA (Ze8 own c0 tt te r H2) fun es H3 => Q (e :: es) H3) (wA (Ze8 own c0 tt te r H1) Q)) : wA (Ze8 own c0 tt te (x :: r) H) Q := by
 obtain ⟨b, H1, e1, q1, q2⟩ := q
 rw [Ze8, if_pos h, e1]
 simp only [Zb]
 cases b with
 | true =>
  obtain ⟨e, H2, e2, es, H3, e3, q⟩ := q1 rfl
  exact ⟨e :: es, H3, by rw [if_pos rfl, e2]; simp only [Zb]; rw [e3]; rfl, q⟩
 | false => rw [if_neg (by simp)]; exact q2 rfl
theorem w_yes {Q : Bool -> HD -> Prop} (q : Q true H) : wT (Zpo σ H) Q := ⟨_, _, rfl, q⟩
theorem Znu {own : Zfq} {c0 : SD} {tt : TF} {te : EF} (Inv : List D -> List D -> List D -> HD -> Prop) (ho : ∀ d t o H, Inv d t o H -> Zdb own H)
  (st : ∀ d x t o H, Inv d (x :: t) o H -> wT (tt (some x :: c0) H) fun b H1 => br b (wE (te (some x :: c0) H1) fun e H2 => Inv (d ++ [x]) t (o ++ [e]) H2) (Inv (d ++ [x]) t o H1))
  {Q : List D -> HD -> Prop} : ∀ (t d o : List D) (H : HD), Inv d t o H -> (∀ d o' H', Inv d [] (o ++ o') H' -> Q o' H') -> wA (Ze8 own c0 tt te t H) Q
 | [], d, o, H, i, q => Zqd (ho _ _ _ _ i) (q d [] H (by rw [List.append_nil]; exact i))
 | x :: t, d, o, H, i, q => by
  refine Zk4 (ho _ _ _ _ i) ?_
  obtain ⟨b, H1, e1, q1, q2⟩ := st d x t o H i
  refine ⟨b, H1, e1, fun h => ?_, fun h => ?_⟩
  ·obtain ⟨e, H2, e2, k⟩ := q1 h
   refine ⟨e, H2, e2, ?_⟩
   refine Znu Inv ho st t _ _ H2 k fun d' o' H' i' => q d' (e :: o') H' ?_
   rw [List.append_assoc] at i'; exact i'
  ·exact Znu Inv ho st t _ _ H1 (q2 h) fun d' o' H' i' => q d' o' H' i'
theorem Zfv {own : Zfq} {c0 : SD} {tt : TF} (f : D -> Bool) (J : HD -> Prop) (ho : ∀ H, J H -> Zdb own H) {Q : List D -> HD -> Prop} : ∀ (xs : List D) (st : ∀ x ∈ xs, ∀ H, J H -> wT (tt (some x :: c0) H) fun b H1 => b = f x ∧ J H1) (H : HD), J H -> (∀ H', J H' -> Q (xs.filter f) H') -> wA (Ze8 own c0 tt (Zah 0) xs H) Q
 | [], st, H, j, q => Zqd (ho H j) (q H j)
 | x :: xs, st, H, j, q => by
  refine Zk4 (ho H j) ?_
  obtain ⟨b, H1, e, rfl, j1⟩ := st x (by simp) H j
  refine ⟨_, H1, e, fun h => ?_, fun h => ?_⟩
  ·refine ⟨x, H1, rfl, ?_⟩
   refine Zfv f J ho xs (fun y hy => st y (by simp [hy])) H1 j1 fun H' j' => ?_
   have := q H' j'
   rwa [List.filter_cons_of_pos h] at this
  ·refine Zfv f J ho xs (fun y hy => st y (by simp [hy])) H1 j1 fun H' j' => ?_
   have := q H' j'
   rwa [List.filter_cons_of_neg (by rw [h]; simp)] at this
theorem Zmg {own : Zfq} {c0 : SD} {te : EF} (g : D -> D) (J : HD -> Prop) (ho : ∀ H, J H -> Zdb own H) {Q : List D -> HD -> Prop} : ∀ (xs : List D) (st : ∀ x ∈ xs, ∀ H, J H -> wE (te (some x :: c0) H) fun d H1 => d = g x ∧ J H1) (H : HD), J H -> (∀ H', J H' -> Q (xs.map g) H') -> wA (Ze8 own c0 Zpo te xs H) Q
 | [], st, H, j, q => Zqd (ho H j) (q H j)
 | x :: xs, st, H, j, q => by
  refine Zk4 (ho H j) (w_yes (w_bt ?_))
  obtain ⟨b, H1, e, rfl, j1⟩ := st x (by simp) H j
  exact ⟨_, H1, e, Zmg g J ho xs (fun y hy => st y (by simp [hy])) H1 j1 q⟩
end
structure Fm (S : List Nat) (H H' : HD) : Prop where
 old : ∀ (m : Nat) (o : DO), m ∉ S -> H[m]? = some o -> H'[m]? = some o ∨ ∃ kvs, o = .dic kvs false ∧ H'[m]? = some (.dic kvs true)
 len : H.length ≤ H'.length
theorem Fm.refl {S : List Nat} {H : HD} : Fm S H H := ⟨fun _ _ _ h => .inl h, Nat.le_refl _⟩
theorem Fm.trans {S : List Nat} {H H1 H2 : HD} (a : Fm S H H1) (b : Fm S H1 H2) : Fm S H H2 := by
 refine ⟨fun m o hm h => ?_, Nat.le_trans a.len b.len⟩
 rcases a.old m o hm h with h1 | ⟨kvs, rfl, h1⟩
 ·exact b.old m o hm h1
 ·rcases b.old m _ hm h1 with h2 | ⟨k2, e, _⟩
  ·exact .inr ⟨kvs, rfl, h2⟩
  ·cases e
theorem Fm.sub {S T : List Nat} {H H' : HD} (a : Fm S H H') (h : ∀ m ∈ S, m ∈ T) : Fm T H H' := ⟨fun m o hm q => a.old m o (fun z => hm (h m z)) q, a.len⟩
theorem Fm.app {S : List Nat} {H : HD} (L : HD) : Fm S H (H ++ L) := ⟨fun m o _ q => .inl (by
 have : m < H.length := (List.getElem?_eq_some_iff.mp q).1
 rw [List.getElem?_append_left this]; exact q), by simp⟩
theorem Fm.set {S : List Nat} {H : HD} {p : Nat} {o : DO} (h : p ∈ S) : Fm S H (H.set p o) := ⟨fun m u hm q => .inl (by rw [List.getElem?_set_ne (fun z => hm (by rw [← z]; exact h))]; exact q), by simp⟩
theorem Fm.new {S T : List Nat} {H H1 H' : HD} (a : Fm S H H1) (b : Fm T H1 H') (h : ∀ m ∈ T, m ∉ S -> H.length ≤ m) : Fm S H H' := by
 refine ⟨fun m o hm q => ?_, Nat.le_trans a.len b.len⟩
 have lt : m < H.length := (List.getElem?_eq_some_iff.mp q).1
 have ht : m ∉ T := fun z => by have := h m z hm; omega
 rcases a.old m o hm q with h1 | ⟨kvs, rfl, h1⟩
 ·exact b.old m o ht h1
 ·rcases b.old m _ ht h1 with h2 | ⟨k2, e, _⟩
  ·exact .inr ⟨kvs, rfl, h2⟩
  ·cases e
theorem Fm.lst {S : List Nat} {H H' : HD} (x : Fm S H H') {m : Nat} {xs : List D} (hm : m ∉ S) (h : H[m]? = some (.lst xs)) : H'[m]? = some (.lst xs) := by
 rcases x.old m _ hm h with h1 | ⟨k2, e, _⟩
 ·exact h1
 ·cases e
theorem Fm.fr {S : List Nat} {H H' : HD} (x : Fm S H H') {m : Nat} {kvs : List (D × D)} (hm : m ∉ S) (h : H[m]? = some (.dic kvs true)) : H'[m]? = some (.dic kvs true) := by
 rcases x.old m _ hm h with h1 | ⟨k2, e, _⟩
 ·exact h1
 ·cases e
theorem Fm.dic {S : List Nat} {H H' : HD} (x : Fm S H H') {m : Nat} {kvs : List (D × D)} {fz : Bool} (hm : m ∉ S) (h : H[m]? = some (.dic kvs fz)) : ∃ fz', H'[m]? = some (.dic kvs fz') := by
 rcases x.old m _ hm h with h1 | ⟨k2, e, h1⟩
 ·exact ⟨fz, h1⟩
 ·cases e; exact ⟨true, h1⟩
theorem _root_.DL.Ext.fm {n : Nat} {H H' : HD} (x : Ext n H H') : Fm [n] H H' := ⟨fun m o hm q => .inl (x.old m o (by simpa using hm) q), x.len⟩
theorem _root_.LH.ExtS.fm {S : List Nat} {H H' : HD} (x : ExtS S H H') : Fm S H H' := ⟨fun m o hm q => .inl (x.old m o hm q), x.len⟩
theorem isl {H : HD} {n : Nat} {xs : List D} (h : H[n]? = some (.lst xs)) : Zh5 (.ref n) H = true := by simp [Zh5, h]
theorem Zni {H : HD} {n : Nat} {o : DO} (h : H[n]? = some o) : Zdb [(n, o)] H := by intro p hp; simp at hp; subst hp; exact h
theorem Zna {H : HD} : Zdb [] H := by intro p hp; cases hp
theorem last {H : HD} {o : DO} : (H ++ [o])[H.length]? = some o := by simp
theorem appL {H : HD} {n : Nat} {o u : DO} (h : H[n]? = some o) : (H ++ [u])[n]? = some o := by
 rw [List.getElem?_append_left (List.getElem?_eq_some_iff.mp h).1]; exact h
theorem setO {H : HD} {n m : Nat} {o u : DO} (hn : n ≠ m) (h : H[m]? = some o) : (H.set n u)[m]? = some o := by rw [List.getElem?_set_ne hn]; exact h
theorem Zys {H : HD} {n : Nat} {o u : DO} (h : H[n]? = some u) : (H.set n o)[n]? = some o := List.getElem?_set_self (List.getElem?_eq_some_iff.mp h).1
structure Fine (d : D) (x : PyData) (h : Nat) : Prop where
 to : ∀ H n, toP H n d = some x
 lay : x.canLay0 = true
 dep : x.depth ≤ h
theorem Fine.le {d : D} {x : PyData} {h h' : Nat} (f : Fine d x h) (l : h ≤ h') : Fine d x h' := ⟨f.to, f.lay, Nat.le_trans f.dep l⟩
theorem Fine.int (i : Int) : Fine (.int i) (.int i) 0 := ⟨fun H n => Zkw H n i, rfl, Nat.le_refl _⟩
theorem Fine.bl (b : Bool) : Fine (.bl b) (.bool b) 0 := ⟨fun H n => Zto H n b, rfl, Nat.le_refl _⟩
theorem Fine.non : Fine .non .none 0 := ⟨fun H n => Zof H n, rfl, Nat.le_refl _⟩
theorem Fine.str {s : Str} (h : PyData.strOk s = true) : Fine (.str s) (.str s) 0 := ⟨fun H n => Ziu H n s, h, Nat.le_refl _⟩
structure Fines (ds : List D) (xs : List PyData) (h : Nat) : Prop where
 to : ∀ H n, Zfo H n ds = some xs
 lay : PyData.canLayAll0 xs = true
 dep : PyData.depthAll xs ≤ h
 len : xs.length = ds.length
theorem Fines.nil {h : Nat} : Fines [] [] h := ⟨fun H n => by rw [Zfo], rfl, Nat.zero_le _, rfl⟩
theorem Fines.cons {d : D} {x : PyData} {ds : List D} {xs : List PyData} {h : Nat} (a : Fine d x h) (b : Fines ds xs h) : Fines (d :: ds) (x :: xs) h :=
 ⟨fun H n => by rw [Zfo, a.to, b.to]; rfl, by simp [PyData.canLayAll0, a.lay, b.lay], by simp only [PyData.depthAll]; exact Nat.max_le.mpr ⟨a.dep, b.dep⟩, by simp [b.len]⟩
theorem Fines.le {ds : List D} {xs : List PyData} {h h' : Nat} (f : Fines ds xs h) (l : h ≤ h') : Fines ds xs h' := ⟨f.to, f.lay, Nat.le_trans f.dep l, f.len⟩
theorem Fines.of {h : Nat} : ∀ ds : List D, (∀ d ∈ ds, ∃ x, Fine d x h) -> ∃ xs, Fines ds xs h
 | [], _ => ⟨[], .nil⟩
 | d :: ds, f => by
  obtain ⟨x, a⟩ := f d (by simp)
  obtain ⟨xs, b⟩ := Fines.of ds fun e he => f e (by simp [he])
  exact ⟨x :: xs, .cons a b⟩
theorem Fine.tup {ds : List D} {xs : List PyData} {h : Nat} (f : Fines ds xs h) : Fine (.tup ds) (.tuple xs) (h + 1) :=
 ⟨fun H n => by cases n <;> rw [toP, f.to] <;> rfl, f.lay, Nat.succ_le_succ f.dep⟩
theorem Fine.dat {d : D} {x : PyData} {h : Nat} (f : Fine d x h) (l : h ≤ 30) (H : HD) : DL.dat d H = some x := by
 unfold DL.dat
 rw [f.to]
 have : x.depth ≤ 30 := Nat.le_trans f.dep l
 simp [okP, f.lay, this]
theorem Fines.dat {ds : List D} {xs : List PyData} {h : Nat} (f : Fines ds xs h) (l : h < 30) {H : HD} {p : Nat} (g : H[p]? = some (.lst ds)) : DL.dat (.ref p) H = some (.list xs) := by
 unfold DL.dat
 rw [toP]
 simp only [g]
 rw [f.to]
 have : (PyData.list xs).depth ≤ 30 := Nat.le_trans (Nat.succ_le_succ f.dep) l
 have h2 : (PyData.list xs).canLay0 = true := f.lay
 simp [okP, h2, this]
mutual
theorem Zlk : ∀ x : PyData, x.canLay0 = true -> PyData.eqv x x = true
 | .none, _ => by simp [PyData.eqv]
 | .bool _, _ => by simp [PyData.eqv]
 | .int _, _ => by simp [PyData.eqv]
 | .str _, _ => by simp [PyData.eqv]
 | .list xs, h => by rw [PyData.eqv]; exact Zfi xs h
 | .tuple xs, h => by rw [PyData.eqv]; exact Zfi xs h
 | .dict _, h => by cases h
theorem Zfi : ∀ xs : List PyData, PyData.canLayAll0 xs = true -> PyData.eqvAll xs xs = true
 | [], _ => by rw [PyData.eqvAll]
 | x :: xs, h => by
  simp only [PyData.canLayAll0, Bool.and_eq_true] at h
  rw [PyData.eqvAll, Zlk x h.1, Zfi xs h.2]; rfl
end
theorem Zi7 {a b : D} {x y : PyData} {H : HD} (h1 : dat a H = some x) (h2 : dat b H = some y) : eqD a b H = some (.bl (PyData.eqv x y), H) := by
 unfold eqD
 cases e : Zsh a b with
 | none => rw [h1, h2]; rfl
 | some p =>
  obtain ⟨s, t⟩ := p
  unfold Zsh at e
  split at e
  ·cases e
   unfold dat at h1 h2
   rw [Ziu] at h1 h2
   simp only [Zb] at h1 h2
   split at h1
   ·split at h2
    ·cases h1; cases h2; simp [PyData.eqv]
    ·cases h2
   ·cases h1
  ·cases e
theorem Zoh {a b : D} {x y : PyData} {H : HD} (h1 : dat a H = some x) (h2 : dat b H = some y) : neD a b H = some (.bl (!PyData.eqv x y), H) := by
 unfold neD
 cases e : Zsh a b with
 | none => rw [h1, h2]; rfl
 | some p =>
  obtain ⟨s, t⟩ := p
  unfold Zsh at e
  split at e
  ·cases e
   unfold dat at h1 h2
   rw [Ziu] at h1 h2
   simp only [Zb] at h1 h2
   split at h1
   ·split at h2
    ·cases h1; cases h2; simp [PyData.eqv]; rfl
    ·cases h2
   ·cases h1
  ·cases e
variable {H : HD} {Q : D -> HD -> Prop}
theorem Zx9 {a b : D} {x y : PyData} {h k : Nat} (f : Fine a x h) (g : Fine b y k) (hh : h ≤ 30) (hk : k ≤ 30) (q : Q (.bl (PyData.eqv x y)) H) : wE (eqD a b H) Q := ⟨_, _, Zi7 (f.dat hh H) (g.dat hk H), q⟩
theorem Zua {a b : D} {x y : PyData} {h k : Nat} (f : Fine a x h) (g : Fine b y k) (hh : h ≤ 30) (hk : k ≤ 30) (q : Q (.bl (!PyData.eqv x y)) H) : wE (neD a b H) Q := ⟨_, _, Zoh (f.dat hh H) (g.dat hk H), q⟩
theorem Zl8 {a : D} {x : PyData} {h : Nat} (f : Fine a x h) (hh : h ≤ 30) (q : Q (.bl false) H) : wE (neD a a H) Q := Zua f f hh hh (by rw [Zlk x f.lay]; exact q)
theorem Zvl {xs : List D} {ys : List PyData} {h : Nat} (f : Fines xs ys h) : PyData.eqv (.tuple ys) (.tuple []) = xs.isEmpty := by
 have := f.len
 cases ys with
 | nil => cases xs with
  | nil => rfl
  | cons _ _ => simp at this
 | cons p ps => cases xs with
  | nil => simp at this
  | cons _ _ => simp [PyData.eqv, PyData.eqvAll]
theorem Zk2 {xs : List D} {ys : List PyData} {h : Nat} (f : Fines xs ys h) (hh : h < 30) (q : Q (.bl xs.isEmpty) H) : wE (eqD (.tup xs) (.tup []) H) Q :=
 Zx9 (Fine.tup f) (Fine.tup (Fines.nil (h := 0))) (by omega) (by omega) (by rw [Zvl f]; exact q)
theorem w_niL {a : D} {x : PyData} {h k p : Nat} {ds : List D} {xs : List PyData} (f : Fine a x h) (g : Fines ds xs k) (hh : h ≤ 30) (hk : k < 30) (hp : H[p]? = some (.lst ds)) (q : Q (.bl (!xs.any fun z => PyData.eqv z x)) H) : wE (niD a (.ref p) H) Q :=
 ⟨_, _, by unfold niD; rw [f.dat hh, Zb, g.dat hk hp]; rfl, q⟩
theorem w_inT {a : D} {x : PyData} {h k : Nat} {ds : List D} {xs : List PyData} (f : Fine a x h) (g : Fines ds xs k) (hh : h ≤ 30) (hk : k < 30) (q : Q (.bl (xs.any fun z => PyData.eqv z x)) H) : wE (inD a (.tup ds) H) Q :=
 ⟨_, _, by unfold inD; rw [f.dat hh, Zb, (Fine.tup g).dat hk]; rfl, q⟩
theorem w_neI {i j : Int} (q : Q (.bl (!(i == j))) H) : wE (neD (.int i) (.int j) H) Q := Zua (.int i) (.int j) (by omega) (by omega) (by simpa [PyData.eqv] using q)
theorem w_neI' {i j : Int} {r : Bool} (hr : (i == j) = r) (q : Q (.bl (!r)) H) : wE (neD (.int i) (.int j) H) Q := w_neI (by rw [hr]; exact q)
noncomputable def wX (n : Option (FD × SD × HD)) (y : Option (Int × HD)) (R : Int -> HD -> Prop) : Prop := n = none ∧ ∃ i H, y = some (i, H) ∧ R i H
section
variable {σ : SD} {H : HD} {R : Int -> HD -> Prop}
theorem Zdc {f g : SF} {b : YFs} (h : wS (f σ H) (Zgm (fun σ1 H1 => wX (g σ1 H1) (b σ1 H1) R) fun _ _ _ => False)) : wX (Zam f g σ H) (Zk1 f b σ H) R := by
 obtain ⟨x, σ1, H1, e, k⟩ := h
 unfold Zam Zk1
 rw [e]
 simp only [Zb]
 cases x with
 | nx => exact k
 | bk => exact k.elim
 | ct => exact k.elim
 | rt d => exact k.elim
theorem Zrj {f g : SF} {σ : SD} {H : HD} (e : f σ H = none) : Zam f g σ H = none := by unfold Zam; rw [e]; rfl
theorem Zoq {f g : SF} {a b : YFs} (h : wX (f σ H) (a σ H) R) : wX (Zam f g σ H) (yEi f a b σ H) R := by
 obtain ⟨e, k⟩ := h
 refine ⟨Zrj e, ?_⟩
 unfold yEi
 rw [e]
 exact k
theorem Zpq {f g : SF} {a b : YFs} (h : wS (f σ H) (Zgm (fun σ1 H1 => wX (g σ1 H1) (b σ1 H1) R) fun _ _ _ => False)) : wX (Zam f g σ H) (yEi f a b σ H) R := by
 obtain ⟨x, σ1, H1, e, k⟩ := h
 unfold Zam yEi
 rw [e]
 simp only [Zb]
 cases x with
 | nx => exact k
 | bk => exact k.elim
 | ct => exact k.elim
 | rt d => exact k.elim
theorem Zod {f g : SF} {a : YFs} (h : wX (f σ H) (a σ H) R) : wX (Zam f g σ H) (a σ H) R := ⟨Zrj h.1, h.2⟩
theorem Zrf {t : TF} {f g : SF} {a b : YFs} (h : wT (t σ H) fun c H1 => br c (wX (f σ H1) (a σ H1) R) (wX (g σ H1) (b σ H1) R)) : wX (sIf t f g σ H) (yIf t a b σ H) R := by
 obtain ⟨c, H1, e, q1, q2⟩ := h
 rw [Zv0 e]
 unfold yIf
 rw [e]
 simp only [Zb]
 cases c with
 | true => rw [if_pos rfl, if_pos rfl]; exact q1 rfl
 | false => rw [if_neg (by simp), if_neg (by simp)]; exact q2 rfl
theorem Zg7 {g : SF} {fe : EF} (h : wE (fe σ H) fun d H1 => ∃ i, d = .int i ∧ i.natAbs < 1000000 ∧ R i H1) : wX (Zam Zqv g σ H) (Zfc fe σ H) R := by
 obtain ⟨d, H1, e, i, rfl, hi, q⟩ := h
 refine ⟨rfl, i, H1, ?_, q⟩
 unfold Zfc
 rw [e]
 exact if_pos hi
theorem Zyb {it : ItF} {g : GF} {b : SF} {yb : YFs} (h : wI (it σ H) fun xs own H1 => wX (Zf0 own g b xs σ H1) (Zf2 own g b yb xs σ H1) R) : wX (Zh3 it g b σ H) (Zwi it g b yb σ H) R := by
 obtain ⟨xs, own, H1, e, q⟩ := h
 unfold Zh3 Zwi; rw [e]; exact q
theorem Zv7 {own : Zfq} {g : GF} {b : SF} {yb : YFs} {x : D} {t : List D} (h : Zdb own H) (q : wG (g x σ H) fun σ1 H1 => wS (b σ1 H1) (again (fun σ2 H2 => wX (Zf0 own g b t σ2 H2) (Zf2 own g b yb t σ2 H2) R) fun _ _ _ => False)) :
  wX (Zf0 own g b (x :: t) σ H) (Zf2 own g b yb (x :: t) σ H) R := by
 obtain ⟨σ1, H1, e1, y, σ2, H2, e2, q⟩ := q
 rw [Zf0, Zf2, if_pos h, if_pos h, e1]
 simp only [Zb]
 rw [e2]
 cases y with
 | nx => exact q
 | ct => exact q
 | bk => exact q.elim
 | rt d => exact q.elim
theorem Znq {own : Zfq} {g : GF} {b : SF} {yb : YFs} {x : D} {t : List D} (h : Zdb own H) (q : wG (g x σ H) fun σ1 H1 => wX (b σ1 H1) (yb σ1 H1) R) :
  wX (Zf0 own g b (x :: t) σ H) (Zf2 own g b yb (x :: t) σ H) R := by
 obtain ⟨σ1, H1, e1, e2, i, H2, e3, q⟩ := q
 rw [Zf0, Zf2, if_pos h, if_pos h, e1]
 simp only [Zb]
 rw [e2]
 exact ⟨rfl, i, H2, e3, q⟩
noncomputable def wXD (n : Option (D × HD)) (y : Option (Int × HD)) (R : Int -> HD -> Prop) : Prop := n = none ∧ ∃ i H, y = some (i, H) ∧ R i H
theorem Zly {n N : Nat} {b : SF} {yb : YFs} {ds : List D} (hl : ds.length = n) (h : wX (b (ds.map some ++ List.replicate (N - ds.length) none) H) (yb (ds.map some ++ List.replicate (N - ds.length) none) H) R) : wXD (Zcr n N b ds H) (Zud n N yb ds H) R := by
 obtain ⟨e, q⟩ := h
 unfold Zcr Zud
 rw [if_pos hl, if_pos hl, e]
 exact ⟨rfl, q⟩
theorem Zi2 {f : AF} {I : List D -> Zfq -> HD -> Prop} (h : wA (f σ H) fun ds H1 => ∃ n xs, ds = [.ref n] ∧ H1[n]? = some (.lst xs) ∧ I (Zd8 1 xs) [(n, .lst xs)] H1) : wI (Zfj f σ H) I := by
 obtain ⟨ds, H1, e, n, xs, rfl, g, q⟩ := h
 exact ⟨_, _, _, by unfold Zfj; rw [e]; simp only [Zb]; rw [g], q⟩
theorem Ztc {iE : Nat} {b : SF} {y : YFs} {su : Int -> SF} {Q : FD -> SD -> HD -> Prop} (h : wX (b σ H) (y σ H) fun i H1 => wS (su i (σ.set iE none) H1) (Zgm (fun σ2 H2 => Q .nx (σ2.set iE none) H2) fun _ _ _ => False)) : wS (Zh9 iE b y su σ H) Q := by
 obtain ⟨e, i, H1, e1, x, σ2, H2, e2, k⟩ := h
 unfold Zh9
 rw [e]
 simp only
 rw [e1]
 simp only [Zb]
 rw [e2]
 cases x with
 | nx => exact ⟨_, _, _, rfl, k⟩
 | bk => exact k.elim
 | ct => exact k.elim
 | rt d => exact k.elim
theorem Zxt {iE : Nat} {b : SF} {y : YFs} {su : Int -> SF} {Q : FD -> SD -> HD -> Prop} (h : wS (b σ H) Q) : wS (Zh9 iE b y su σ H) Q := by
 obtain ⟨x, σ2, H2, e, q⟩ := h
 unfold Zh9
 rw [e]
 exact ⟨_, _, _, rfl, q⟩
theorem Zr3 {n : Nat} {F : FF} {Y : YFF} {fa : AF} {g : SF} (h : wA (fa σ H) fun ds H1 => ds.length = n ∧ wXD (F ds H1) (Y ds H1) R) : wX (Zam (Zcv (Za2 n F fa)) g σ H) (Zi3 n Y fa σ H) R := by
 obtain ⟨ds, H1, e, hl, e1, q⟩ := h
 refine ⟨Zrj ?_, ?_⟩
 ·unfold Zcv Za2; rw [e]; simp only [Zb]; rw [if_pos hl, e1]; rfl
 ·unfold Zi3; rw [e]; simp only [Zb]; rw [if_pos hl]; exact q
end
end WP
set_option maxHeartbeats 8000000
namespace K08
open PySem L2 DL
noncomputable def k_KINDS : D := (.tup [(.str "all"), (.str "some")])
noncomputable def k_MOST_NAMES : D := (.int 8)
noncomputable def k_MOST_ROWS : D := (.int 20)
noncomputable def k_FIGURES : D := (.str "0123456789")
noncomputable def k_MOST_FIGURES : D := (.int 4)
noncomputable def Zcy : SF :=
 (Zam (Zcl (eAn (eCB Zot (Zac (Zah 0) (Zac (eC (.ty "int")) Zan))) (eNo (eCB Zot (Zac (Zah 0) (Zac (eC (.ty "bool")) Zan))))))
 Zav)
noncomputable def Zdi : FF := Zcr 1 1 Zcy
noncomputable def Zd5 : SF :=
 (Zam (sIf (Zfr (tNo (Zg4 (eCB Zot (Zac (Zah 0) (Zac (eC (.ty "tuple")) Zan))))) (tOf (eOp gtD (eCB Zdw (Zac (Zah 0) Zan)) (eC k_MOST_NAMES)))) (Zam (Zcl (eC (.bl false)))
 Zav) Zav)
 (Zam (Zcl (eCB Zvr (Zac (eLC (iSq (Zah 0)) [] Zpo (eOp inD (Zah 0) (eC k_KINDS))) Zan)))
 Zav))
noncomputable def Ze3 : FF := Zcr 1 1 Zd5
noncomputable def Zfw : SF :=
 (Zam (sIf (tNo (Zg4 (eCB Zot (Zac (Zah 1) (Zac (eC (.ty "tuple")) Zan))))) (Zam (Zcl (eC (.bl false)))
 Zav) Zav)
 (Zam (Zba 2 (eC (.int 0)))
 (Zam (Zh3 (iSq (Zah 1)) (gNm 3) (Zam (sIf (Zfr (tNo (Zg4 (Za2 1 Zdi (Zac (Zah 3) Zan)))) (Zfr (tOf (eOp leD (eCB Znl (Zac (Zah 3) Zan)) (Zah 2))) (tOf (eOp gtD (eCB Znl (Zac (Zah 3) Zan)) (Zah 0))))) (Zam (Zcl (eC (.bl false)))
 Zav) Zav)
 (Zam (Zba 2 (eCB Znl (Zac (Zah 3) Zan)))
 Zav)))
 (Zam (Zcl (eC (.bl true)))
 Zav))))
noncomputable def Zgz : FF := Zcr 2 4 Zfw
noncomputable def Zco : SF :=
 (Zam (sIf (Zfr (tOf (eOp eqD (eCB Zdw (Zac (Zah 0) Zan)) (eC (.int 0)))) (Zfr (tOf (eOp gtD (eCB Zdw (Zac (Zah 0) Zan)) (eC k_MOST_FIGURES))) (tNo (Zg4 (eCB Zvr (Zac (eLC (iTxt (Zah 0)) [] Zpo (eOp Zw0 (Zah 0) (eC k_FIGURES))) Zan)))))) (Zam (Zcl (eC .non))
 Zav) Zav)
 (Zam (sIf (tAn (tOf (eOp eqD (eOp Zss (Zah 0) (eC (.int 0))) (eC (.str "0")))) (tOf (eOp neD (Zah 0) (eC (.str "0"))))) (Zam (Zcl (eC .non))
 Zav) Zav)
 (Zam (Zcl (eCB Ziy (Zac (Zah 0) Zan)))
 Zav)))
noncomputable def Zcp : FF := Zcr 1 1 Zco
noncomputable def Zcb : SF :=
 (Zam (sIf (tNo (Zg4 (eSM Ziw (Zah 0) (Zac (eC (.str "-")) Zan)))) (Zam (Zcl (Za2 1 Zcp (Zac (Zah 0) Zan)))
 Zav) Zav)
 (Zam (Zba 1 (Za2 1 Zcp (Zac (Zhe (Zah 0) (Zbc (eC (.int 1))) Zbf) Zan)))
 (Zam (Zcl (eIf (tOf (eOp isD (Zah 1) (eC .non))) (eC .non) (eUn Zh7 (Zah 1))))
 Zav)))
noncomputable def Zc3 : FF := Zcr 1 2 Zcb
noncomputable def Zd0 : SF :=
 (Zam (sIf (tOf (eOp eqD (Zah 1) (Zc8 (Zac (eC (.str "0")) Zan)))) (Zam (Zcl (Zgl Zan))
 Zav) Zav)
 (Zam (Zba 2 (eCB Zcu (Zac (eLC (iSq (Zah 1)) [] Zpo (Za2 1 Zc3 (Zac (Zah 0) Zan))) Zan)))
 (Zam (Zcl (eIf (tAn (Zg4 (Zah 2)) (Zg4 (Za2 2 Zgz (Zac (Zah 0) (Zac (Zah 2) Zan))))) (Zah 2) (eC .non)))
 Zav)))
noncomputable def Zb6 : FF := Zcr 2 3 Zd0
noncomputable def Zc6 : SF :=
 (Zam (sIf (tOf (eOp eqD (Zah 0) (Zc8 (Zac (eC (.str "-")) Zan)))) (Zam (Zcl (Zgl Zan))
 Zav) Zav)
 (Zam (Zba 1 (eCB Zcu (Zac (Zah 0) Zan)))
 (Zam (Zcl (eIf (tAn (Zg4 (Zah 1)) (Zg4 (Za2 1 Ze3 (Zac (Zah 1) Zan)))) (Zah 1) (eC .non)))
 Zav)))
noncomputable def Zby : FF := Zcr 1 2 Zc6
noncomputable def Zbj : SF :=
 (Zam (Zba 1 (eSM Zcs (Zah 0) (Zac (eC (.str "\n")) Zan)))
 (Zam (Zba 2 (eSl (Zah 1) Zbf (Zbc (eUn Zh7 (eC (.int 1))))))
 (Zam (Zba 3 (eIf (Zg4 (Zah 2)) (Za2 1 Zby (Zac (eSM Zcs (eOp ixD (Zah 2) (eC (.int 0))) (Zac (eC (.str " ")) Zan)) Zan)) (eC .non)))
 (Zam (sIf (tOf (eOp isD (Zah 3) (eC .non))) (Zam Zqv
 Zav) Zav)
 (Zam (Zba 4 (Zc8 Zan))
 (Zam (Zh3 (Zfj (Zac (eSl (Zah 2) (Zbc (eC (.int 1))) Zbf) Zan)) (gTp 2 (gCn (gNm 5) (gCn (gNm 6) gNl))) (Zam (Zba 7 (Za2 2 Zb6 (Zac (eCB Zdw (Zac (Zah 3) Zan)) (Zac (eSM Zcs (Zah 6) (Zac (eC (.str " ")) Zan)) Zan))))
 (Zam (sIf (Zfr (tOf (eOp isD (Zah 7) (eC .non))) (tOf (eOp gtD (Zah 5) (eC k_MOST_ROWS)))) (Zam Zqv
 Zav) Zav)
 (Zam (Zcv (eLM Zbo (Zah 4) (Zac (Zah 7) Zan)))
 Zav))))
 (Zam (sIf (tOf (eOp neD (eOp ixD (Zah 1) (eUn Zh7 (eC (.int 1)))) (eC (.str "")))) (Zam Zqv
 Zav) Zav)
 (Zam (Zcl (Zgl (Zac (Zah 3) (Zac (eCB Zcu (Zac (Zah 4) Zan)) Zan))))
 Zav))))))))
noncomputable def Zbz : FF := Zcr 1 8 Zbj
noncomputable def Zbl : YFs :=
 (Zk1 (Zba 1 (eSM Zcs (Zah 0) (Zac (eC (.str "\n")) Zan)))
 (Zk1 (Zba 2 (eSl (Zah 1) Zbf (Zbc (eUn Zh7 (eC (.int 1))))))
 (Zk1 (Zba 3 (eIf (Zg4 (Zah 2)) (Za2 1 Zby (Zac (eSM Zcs (eOp ixD (Zah 2) (eC (.int 0))) (Zac (eC (.str " ")) Zan)) Zan)) (eC .non)))
 (yEi (sIf (tOf (eOp isD (Zah 3) (eC .non))) (Zam Zqv
 Zav) Zav)
 (yIf (tOf (eOp isD (Zah 3) (eC .non))) (Zfc (eC (.int 0))) yNo)
 (Zk1 (Zba 4 (Zc8 Zan))
 (yEi (Zh3 (Zfj (Zac (eSl (Zah 2) (Zbc (eC (.int 1))) Zbf) Zan)) (gTp 2 (gCn (gNm 5) (gCn (gNm 6) gNl))) (Zam (Zba 7 (Za2 2 Zb6 (Zac (eCB Zdw (Zac (Zah 3) Zan)) (Zac (eSM Zcs (Zah 6) (Zac (eC (.str " ")) Zan)) Zan))))
 (Zam (sIf (Zfr (tOf (eOp isD (Zah 7) (eC .non))) (tOf (eOp gtD (Zah 5) (eC k_MOST_ROWS)))) (Zam Zqv
 Zav) Zav)
 (Zam (Zcv (eLM Zbo (Zah 4) (Zac (Zah 7) Zan)))
 Zav))))
 (Zwi (Zfj (Zac (eSl (Zah 2) (Zbc (eC (.int 1))) Zbf) Zan)) (gTp 2 (gCn (gNm 5) (gCn (gNm 6) gNl))) (Zam (Zba 7 (Za2 2 Zb6 (Zac (eCB Zdw (Zac (Zah 3) Zan)) (Zac (eSM Zcs (Zah 6) (Zac (eC (.str " ")) Zan)) Zan))))
 (Zam (sIf (Zfr (tOf (eOp isD (Zah 7) (eC .non))) (tOf (eOp gtD (Zah 5) (eC k_MOST_ROWS)))) (Zam Zqv
 Zav) Zav)
 (Zam (Zcv (eLM Zbo (Zah 4) (Zac (Zah 7) Zan)))
 Zav))) (Zk1 (Zba 7 (Za2 2 Zb6 (Zac (eCB Zdw (Zac (Zah 3) Zan)) (Zac (eSM Zcs (Zah 6) (Zac (eC (.str " ")) Zan)) Zan))))
 (yIf (Zfr (tOf (eOp isD (Zah 7) (eC .non))) (tOf (eOp gtD (Zah 5) (eC k_MOST_ROWS)))) (Zfc (Zah 5)) yNo)))
 (yIf (tOf (eOp neD (eOp ixD (Zah 1) (eUn Zh7 (eC (.int 1)))) (eC (.str "")))) (Zfc (eCB Zdw (Zac (Zah 2) Zan))) yNo)))))))
noncomputable def Zch : YFF := Zud 1 8 Zbl
noncomputable def Zew : SF :=
 (Zam (Zba 2 (eOp ixD (Zc8 (Zac (eC (.int 2147483647)) (Zac (eC (.int 2147483629)) (Zac (eC (.int 2147483587)) (Zac (eC (.int 2147483579)) (Zac (eC (.int 2147483563)) (Zac (eC (.int 2147483549)) (Zac (eC (.int 2147483543)) Zan)))))))) (eOp Zdd (Zah 1) (eC (.int 7)))))
 (Zam (Zba 3 (eOp Zdd (eOp Zib (eOp Zbx (eOp Zdd (Zah 0) (eC (.int 998244353))) (eOp Zib (eC (.int 104729)) (eOp Zbx (Zah 1) (eC (.int 1))))) (eOp Zbx (eOp Zbx (eOp Zib (Zah 1) (Zah 1)) (eOp Zib (eC (.int 7)) (Zah 1))) (eC (.int 13)))) (Zah 2)))
 (Zam (Zba 3 (eOp Zdd (eOp Zwm (Zah 3) (eC (.int 5))) (eC (.int 1000000007))))
 (Zam (Zba 3 (eOp Zdd (eOp Zbx (eOp Zbx (eOp Zib (Zah 3) (eC (.int 48271))) (eOp Zib (eC (.int 31)) (Zah 1))) (eC (.int 5))) (Zah 2)))
 (Zam (Zcl (eOp Zhk (eOp Zdd (eOp Zwm (Zah 3) (eC (.int 3))) (eC (.int 998244353))) (eC (.int 8))))
 Zav)))))
noncomputable def Zf6 : FF := Zcr 2 4 Zew
noncomputable def Zc4 : SF :=
 (Zam (Zba 2 (Zc8 Zan))
 (Zam (Zba 3 (eCB Znl (Zac (Zah 0) Zan)))
 (Zam (Zba 4 (eOp geD (Zah 3) (eOp Zwm (eC (.int 10)) (eC (.int 18)))))
 (Zam (Zh3 (iR1 (Zac (Zah 1) Zan)) (gNm 5) (Zam (sIf (tAn (Zg4 (Zah 4)) (tOf (eOp gtD (Zah 3) (eC (.int 0))))) (Zam (Zcv (eLM Zbo (Zah 2) (Zac (eOp Zdd (Zah 3) (eC (.int 10007))) Zan)))
 (Zam (Zba 3 (eOp Zhk (Zah 3) (eC (.int 10007))))
 Zav)) (Zam (Zcv (eLM Zbo (Zah 2) (Zac (Za2 2 Zf6 (Zac (Zah 0) (Zac (Zah 5) Zan))) Zan)))
 Zav))
 Zav))
 (Zam (Zcl (Zah 2))
 Zav)))))
noncomputable def Zbi : FF := Zcr 2 6 Zc4
noncomputable def Zf5 : SF :=
 (Zam (sIf (tOf (eOp ltD (Zah 1) (eCB Zdw (Zac (Zah 0) Zan)))) (Zam (Zcl (eOp ixD (Zah 0) (Zah 1)))
 Zav) Zav)
 (Zam (Zcl (eOp Zbx (eOp Zbx (eOp Zib (eC (.int 67)) (Zah 1)) (eC (.int 19))) (eCB Zdw (Zac (Zah 0) Zan))))
 Zav))
noncomputable def Ze5 : FF := Zcr 2 2 Zf5
noncomputable def Zdp : SF :=
 (Zam (Zba 2 (Zc8 Zan))
 (Zam (Zh3 (iR1 (Zac (Zah 1) Zan)) (gNm 3) (Zam (Zba 4 (eOp ixD (Zc8 (Zac (eC (.str "all")) (Zac (eC (.str "some")) Zan))) (eOp Zdd (eOp ixD (Zah 0) (eOp Zbx (eC (.int 1)) (Zah 3))) (eC (.int 2)))))
 (Zam (sIf (tOf (eOp eqD (eOp Zdd (eOp ixD (Zah 0) (eC (.int 0))) (eC (.int 4))) (eC (.int 1)))) (Zam (Zba 4 (eOp ixD (Zc8 (Zac (eC (.str "some")) (Zac (eC (.str "all")) Zan))) (eOp Zdd (eOp Zbx (Zah 3) (eOp ixD (Zah 0) (eC (.int 1)))) (eC (.int 2)))))
 Zav) Zav)
 (Zam (sIf (tOf (eOp eqD (eOp Zdd (eOp ixD (Zah 0) (eC (.int 0))) (eC (.int 4))) (eC (.int 2)))) (Zam (Zba 4 (eOp ixD (Zc8 (Zac (eC (.str "all")) (Zac (eC (.str "some")) Zan))) (eCB Znm (Zac (eOp gtD (eOp Zdd (eOp ixD (Zah 0) (eOp Zbx (eC (.int 1)) (Zah 3))) (eC (.int 3))) (eC (.int 0))) Zan))))
 Zav) Zav)
 (Zam (Zcv (eLM Zbo (Zah 2) (Zac (Zah 4) Zan)))
 Zav)))))
 (Zam (Zcl (eCB Zcu (Zac (Zah 2) Zan)))
 Zav)))
noncomputable def Zee : FF := Zcr 2 5 Zdp
noncomputable def Zdk : SF :=
 (Zam (Zba 3 (Za2 2 Zbi (Zac (Zah 0) (Zac (eOp Zbx (Zah 1) (eC (.int 1))) Zan))))
 (Zam (Zba 4 (Zc8 Zan))
 (Zam (Zh3 (iR1 (Zac (Zah 1) Zan)) (gNm 5) (Zam (sIf (tOf (eOp ltD (eOp Zdd (eOp ixD (Zah 3) (eOp Zbx (eC (.int 1)) (Zah 5))) (eOp Zbx (Zah 1) (eC (.int 1)))) (eOp Zbx (Zah 2) (eOp Zdd (eOp ixD (Zah 3) (eC (.int 0))) (eC (.int 3)))))) (Zam (Zcv (eLM Zbo (Zah 4) (Zac (eOp ixD (Zc8 (Zac (eOp Zbx (Zah 5) (eC (.int 1))) (Zac (eOp Zn0 (eOp Zn0 (eC (.int 0)) (Zah 5)) (eC (.int 1))) Zan))) (eOp Zdd (eOp Zhk (eOp ixD (Zah 3) (eOp Zbx (eC (.int 1)) (Zah 5))) (eOp Zbx (Zah 1) (eC (.int 1)))) (eC (.int 2)))) Zan)))
 Zav) Zav)
 Zav))
 (Zam (Zcl (eCB Zcu (Zac (Zah 4) Zan)))
 Zav))))
noncomputable def Zec : FF := Zcr 3 6 Zdk
noncomputable def Zcd : SF :=
 (Zam (Zba 2 (Za2 2 Zbi (Zac (Za2 2 Ze5 (Zac (Zah 0) (Zac (eC (.int 0)) Zan))) (Zac (eC (.int 14)) Zan))))
 (Zam (Zba 3 (eOp ixD (Zc8 (Zac (eOp Zdd (eOp ixD (Zah 2) (eC (.int 0))) (eOp Zbx (Zah 1) (eC (.int 1)))) (Zac (eOp Zn0 (Zah 1) (eOp Zdd (eOp ixD (Zah 2) (eC (.int 0))) (eC (.int 3)))) (Zac (Zah 1) Zan)))) (eOp Zdd (eOp ixD (Zah 2) (eC (.int 1))) (eC (.int 3)))))
 (Zam (Zba 4 (Za2 2 Zee (Zac (eSl (Zah 2) (Zbc (eC (.int 2))) Zbf) (Zac (eCB maxD (Zac (eC (.int 0)) (Zac (Zah 3) Zan))) Zan))))
 (Zam (Zba 5 (eOp ixD (Zc8 (Zac (eOp Zdd (eOp ixD (Zah 2) (eC (.int 12))) (eC (.int 5))) (Zac (eOp Zdd (eOp ixD (Zah 2) (eC (.int 12))) (eC (.int 11))) (Zac (eOp Zbx (eC (.int 5)) (eOp Zdd (eOp ixD (Zah 2) (eC (.int 12))) (eC (.int 16)))) Zan)))) (eOp Zdd (eOp ixD (Zah 2) (eC (.int 11))) (eC (.int 3)))))
 (Zam (Zba 6 (eLC (iR1 (Zac (Zah 5) Zan)) [0, 4] Zpo (Za2 3 Zec (Zac (Za2 2 Ze5 (Zac (Zah 1) (Zac (eOp Zbx (eC (.int 1)) (Zah 0)) Zan))) (Zac (eCB Zdw (Zac (Zah 2) Zan)) (Zac (eC (.int 1)) Zan))))))
 (Zam (sIf (tOf (eOp gtD (eOp Zdd (eOp ixD (Zah 2) (eC (.int 13))) (eC (.int 3))) (eC (.int 0)))) (Zam (Zba 6 (eLC (iSq (Zah 6)) [] (tOf (eOp neD (Zah 0) (Zgl Zan))) (Zah 0)))
 Zav) Zav)
 (Zam (Zcl (Zgl (Zac (Zah 4) (Zac (eCB Zcu (Zac (Zah 6) Zan)) Zan))))
 Zav)))))))
noncomputable def Zdm : FF := Zcr 2 7 Zcd
noncomputable def Zd7 : SF :=
 (Zam (Zba 1 (eSM Zlc (eC (.str " ")) (Zac (eOp ixD (Zah 0) (eC (.int 0))) Zan)))
 (Zam (sIf (tOf (eOp eqD (eOp ixD (Zah 0) (eC (.int 0))) (Zgl Zan))) (Zam (Zba 1 (eC (.str "-")))
 Zav) Zav)
 (Zam (Zh3 (iSq (eOp ixD (Zah 0) (eC (.int 1)))) (gNm 2) (Zam (Zba 3 (Zc8 Zan))
 (Zam (Zh3 (iSq (Zah 2)) (gNm 4) (Zam (Zcv (eLM Zbo (Zah 3) (Zac (eOp Zbx (eOp ixD (Zc8 (Zac (eC (.str "-")) (Zac (eC (.str "")) Zan))) (eCB Znm (Zac (eOp gtD (Zah 4) (eC (.int 0))) Zan))) (eCB Zwr (Zac (eCB Znl (Zac (Zah 4) Zan)) Zan))) Zan)))
 Zav))
 (Zam (sIf (tOf (eOp eqD (Zah 2) (Zgl Zan))) (Zam (Zba 3 (Zc8 (Zac (eC (.str "0")) Zan)))
 Zav) Zav)
 (Zam (Zba 1 (eOp Zbx (eOp Zbx (Zah 1) (eC (.str "\n"))) (eSM Zlc (eC (.str " ")) (Zac (Zah 3) Zan))))
 Zav)))))
 (Zam (Zcl (eOp Zbx (Zah 1) (eC (.str "\n"))))
 Zav))))
noncomputable def Ze6 : FF := Zcr 1 5 Zd7
noncomputable def Zbv : SF :=
 (Zam (sIf (tOf (eOp eqD (Zah 0) (eC (.str "-")))) (Zam (Zcl (Zgl Zan))
 Zav) Zav)
 (Zam (Zba 1 (eSM Zcs (Zah 0) (Zac (eC (.str " ")) Zan)))
 (Zam (sIf (Zfr (tOf (eOp gtD (eCB Zdw (Zac (Zah 1) Zan)) (eC (.int 8)))) (tOf (eOp neD (eLC (iSq (Zah 1)) [] (tOf (eOp niD (Zah 0) (Zc8 (Zac (eC (.str "all")) (Zac (eC (.str "some")) Zan))))) (Zah 0)) (Zc8 Zan)))) (Zam (Zcl (eC .non))
 Zav) Zav)
 (Zam (Zcl (eCB Zcu (Zac (Zah 1) Zan)))
 Zav))))
noncomputable def Zcc : FF := Zcr 1 2 Zbv
noncomputable def Zb9 : SF :=
 (Zam (sIf (tOf (eOp eqD (Zah 0) (eC (.str "0")))) (Zam (Zcl (Zgl Zan))
 Zav) Zav)
 (Zam (Zba 2 (Zc8 Zan))
 (Zam (Zba 3 (eC (.int 0)))
 (Zam (Zh3 (iSq (eSM Zcs (Zah 0) (Zac (eC (.str " ")) Zan))) (gNm 4) (Zam (Zba 5 (eOp eqD (Zhe (Zah 4) Zbf (Zbc (eC (.int 1)))) (eC (.str "-"))))
 (Zam (Zba 6 (Zhe (Zah 4) (Zbc (eCB Znm (Zac (Zah 5) Zan))) Zbf))
 (Zam (sIf (Zfr (tOf (eOp neD (eCB Zdw (Zac (Zah 6) Zan)) (eC (.int 1)))) (Zfr (tOf (eOp Zwp (Zah 6) (Zhe (eC (.str "12345678")) Zbf (Zbc (Zah 1))))) (tOf (eOp leD (eCB Ziy (Zac (Zah 6) Zan)) (Zah 3))))) (Zam (Zcl (eC .non))
 Zav) Zav)
 (Zam (Zba 3 (eCB Ziy (Zac (Zah 6) Zan)))
 (Zam (Zcv (eLM Zbo (Zah 2) (Zac (eOp ixD (Zc8 (Zac (Zah 3) (Zac (eUn Zh7 (Zah 3)) Zan))) (eCB Znm (Zac (Zah 5) Zan))) Zan)))
 Zav))))))
 (Zam (Zcl (eCB Zcu (Zac (Zah 2) Zan)))
 Zav)))))
noncomputable def Zca : FF := Zcr 2 7 Zb9
noncomputable def Zdx : SF :=
 (Zam (Zba 1 (eSM Zcs (Zah 0) (Zac (eC (.str "\n")) Zan)))
 (Zam (Zba 2 (Za2 1 Zcc (Zac (eOp ixD (Zah 1) (eC (.int 0))) Zan)))
 (Zam (sIf (Zfr (tOf (eOp isD (Zah 2) (eC .non))) (tOf (eOp eqD (eCB Zdw (Zac (Zah 1) Zan)) (eC (.int 1))))) (Zam (Zcl (Zgl (Zac (eC (.int 0)) (Zac (eC .non) Zan))))
 Zav) Zav)
 (Zam (Zba 3 (Zc8 Zan))
 (Zam (Zh3 (iR2 (Zac (eC (.int 1)) (Zac (eOp Zn0 (eCB Zdw (Zac (Zah 1) Zan)) (eC (.int 1))) Zan))) (gNm 4) (Zam (Zba 5 (Za2 2 Zca (Zac (eOp ixD (Zah 1) (Zah 4)) (Zac (eCB Zdw (Zac (Zah 2) Zan)) Zan))))
 (Zam (sIf (Zfr (tOf (eOp isD (Zah 5) (eC .non))) (tOf (eOp gtD (Zah 4) (eC (.int 20))))) (Zam (Zcl (Zgl (Zac (Zah 4) (Zac (eC .non) Zan))))
 Zav) Zav)
 (Zam (Zcv (eLM Zbo (Zah 3) (Zac (Zah 5) Zan)))
 Zav))))
 (Zam (sIf (tOf (eOp neD (eOp ixD (Zah 1) (eUn Zh7 (eC (.int 1)))) (eC (.str "")))) (Zam (Zcl (Zgl (Zac (eOp Zn0 (eCB Zdw (Zac (Zah 1) Zan)) (eC (.int 1))) (Zac (eC .non) Zan))))
 Zav) Zav)
 (Zam (Zcl (Zgl (Zac (eUn Zh7 (eC (.int 1))) (Zac (Zgl (Zac (Zah 2) (Zac (eCB Zcu (Zac (Zah 3) Zan)) Zan))) Zan))))
 Zav)))))))
noncomputable def Ze7 : FF := Zcr 1 6 Zdx
noncomputable def Zdz : SF :=
 (Zam (Zba 1 (eC .non))
 (Zam (Zh9 2 (Zam (Zba 1 (Zgl (Zac (eUn Zh7 (eC (.int 1))) (Zac (Za2 1 Zbz (Zac (Zah 0) Zan)) Zan))))
 Zav) (Zi3 1 Zch (Zac (Zah 0) Zan)) (fun i => (Zam (Zba 1 (Zgl (Zac (eC (.int i)) (Zac (eC .non) Zan)))) Zav)))
 (Zam (Zcl (Zah 1))
 Zav)))
noncomputable def Ze1 : FF := Zcr 1 3 Zdz
noncomputable def Zdn : SF :=
 (Zam (Zba 1 (Zc8 Zan))
 (Zam (Zh9 2 (Zam (Zcv (Za2 1 Zbz (Zac (Zah 0) Zan)))
 Zav) (Zi3 1 Zch (Zac (Zah 0) Zan)) (fun i => (Zam (Zba 1 (Zc8 (Zac (eC (.bl true)) (Zac (eC (.bl false)) Zan)))) Zav)))
 (Zam (Zcl (eOp eqD (Zah 1) (Zc8 (Zac (eC (.bl true)) (Zac (eC (.bl false)) Zan)))))
 Zav)))
noncomputable def Zeg : FF := Zcr 1 3 Zdn
noncomputable def Zd3 : SF :=
 (Zam (Zba 2 (eC (.str "012345678- alsome\n\n")))
 (Zam (sIf (tOf (eOp eqD (eOp Zdd (eOp ixD (Zah 1) (eC (.int 0))) (eC (.int 2))) (eC (.int 0)))) (Zam (Zba 2 (eC (.str " !\"#$&'()*+,-./0123456789:;<=>?@ABCDEFGHIJKLMNOPQRSTUVWXYZ[\\]^_`abcdefghijklmnopqrstuvwxyz{|}~")))
 (Zam (Zba 2 (eOp Zbx (Zah 2) (eC (.str "\n	"))))
 Zav)) Zav)
 (Zam (Zba 3 (eOp Zss (Zah 2) (eOp Zdd (eOp ixD (Zah 1) (eC (.int 1))) (eCB Zdw (Zac (Zah 2) Zan)))))
 (Zam (Zba 4 (eOp Zdd (eOp ixD (Zah 1) (eC (.int 2))) (eOp Zbx (eCB Zdw (Zac (Zah 0) Zan)) (eC (.int 1)))))
 (Zam (sIf (tOf (eOp eqD (eOp Zdd (eOp ixD (Zah 1) (eC (.int 3))) (eC (.int 3))) (eC (.int 0)))) (Zam (Zcl (eOp Zbx (eOp Zbx (Zhe (Zah 0) Zbf (Zbc (Zah 4))) (Zah 3)) (Zhe (Zah 0) (Zbc (Zah 4)) Zbf)))
 Zav) Zav)
 (Zam (sIf (tOf (eOp eqD (eOp Zdd (eOp ixD (Zah 1) (eC (.int 3))) (eC (.int 3))) (eC (.int 1)))) (Zam (Zcl (eOp Zbx (Zhe (Zah 0) Zbf (Zbc (Zah 4))) (Zhe (Zah 0) (Zbc (eOp Zbx (Zah 4) (eC (.int 1)))) Zbf)))
 Zav) Zav)
 (Zam (Zcl (eOp Zbx (eOp Zbx (Zhe (Zah 0) Zbf (Zbc (Zah 4))) (Zah 3)) (Zhe (Zah 0) (Zbc (eOp Zbx (Zah 4) (eC (.int 1)))) Zbf)))
 Zav)))))))
noncomputable def Zd4 : FF := Zcr 2 5 Zd3
noncomputable def Zb1 : SF :=
 (Zam (Zba 2 (eSM Zcs (Zah 0) (Zac (eC (.str "\n")) Zan)))
 (Zam (Zba 3 (eOp Zdd (eOp ixD (Zah 1) (eC (.int 0))) (eCB Zdw (Zac (Zah 2) Zan))))
 (Zam (Zba 4 (Zc8 (Zac (eC (.str "")) (Zac (eC (.str "00")) (Zac (eC (.str "9")) (Zac (eC (.str "1 1")) (Zac (eC (.str "2 1")) (Zac (eC (.str "-0")) (Zac (eC (.str "+1")) (Zac (eC (.str "1 ")) (Zac (eC (.str " 1")) (Zac (eC (.str "1  2")) Zan))))))))))))
 (Zam (Zba 4 (eOp Zbx (Zah 4) (Zc8 (Zac (eC (.str "all")) (Zac (eC (.str "- 1")) (Zac (eC (.str "--1")) (Zac (eC (.str "01")) (Zac (eC (.str "1 0")) (Zac (eC (.str "0 0")) (Zac (eC (.str "10")) (Zac (eC (.str "-9")) Zan)))))))))))
 (Zam (sIf (tOf (eOp eqD (eOp Zdd (eOp ixD (Zah 1) (eC (.int 1))) (eC (.int 6))) (eC (.int 0)))) (Zam (Zba 2 (eOp Zbx (eOp Zbx (eSl (Zah 2) Zbf (Zbc (Zah 3))) (Zc8 (Zac (eOp ixD (Zah 4) (eOp Zdd (eOp ixD (Zah 1) (eC (.int 2))) (eC (.int 18)))) Zan))) (eSl (Zah 2) (Zbc (Zah 3)) Zbf)))
 Zav) (Zam (sIf (tOf (eOp eqD (eOp Zdd (eOp ixD (Zah 1) (eC (.int 1))) (eC (.int 6))) (eC (.int 1)))) (Zam (Zba 2 (eOp Zbx (eOp Zbx (eSl (Zah 2) Zbf (Zbc (Zah 3))) (Zc8 (Zac (eOp ixD (Zah 4) (eOp Zdd (eOp ixD (Zah 1) (eC (.int 2))) (eC (.int 18)))) Zan))) (eSl (Zah 2) (Zbc (eOp Zbx (Zah 3) (eC (.int 1)))) Zbf)))
 Zav) (Zam (sIf (tOf (eOp eqD (eOp Zdd (eOp ixD (Zah 1) (eC (.int 1))) (eC (.int 6))) (eC (.int 2)))) (Zam (Zba 2 (eOp Zbx (eSl (Zah 2) Zbf (Zbc (eOp Zbx (Zah 3) (eC (.int 1))))) (eSl (Zah 2) (Zbc (Zah 3)) Zbf)))
 Zav) (Zam (sIf (tOf (eOp eqD (eOp Zdd (eOp ixD (Zah 1) (eC (.int 1))) (eC (.int 6))) (eC (.int 3)))) (Zam (Zba 2 (eOp Zbx (eSl (Zah 2) Zbf (Zbc (Zah 3))) (eSl (Zah 2) (Zbc (eOp Zbx (Zah 3) (eC (.int 1)))) Zbf)))
 Zav) (Zam (sIf (tOf (eOp eqD (eOp Zdd (eOp ixD (Zah 1) (eC (.int 1))) (eC (.int 6))) (eC (.int 4)))) (Zam (Zba 2 (eOp Zbx (eOp Zbx (eSl (Zah 2) Zbf (Zbc (eUn Zh7 (eC (.int 1))))) (eOp Zib (Zc8 (Zac (eC (.str "0")) Zan)) (eOp Zdd (eOp ixD (Zah 1) (eC (.int 2))) (eC (.int 30))))) (Zc8 (Zac (eOp ixD (Zah 2) (eUn Zh7 (eC (.int 1)))) Zan))))
 Zav) (Zam (Zba 5 (Zc8 (Zac (eC (.str "-")) (Zac (eC (.str "")) (Zac (eC (.str "all  some")) (Zac (eC (.str "some all ")) (Zac (eC (.str "All")) (Zac (eC (.str "all,some")) (Zac (eSM Zlc (eC (.str " ")) (Zac (eOp Zib (Zc8 (Zac (eC (.str "all")) Zan)) (eC (.int 9))) Zan)) (Zac (eC (.str "1")) (Zac (eC (.str "- all")) Zan)))))))))))
 (Zam (Zwf (eOp ixD (Zah 5) (eOp Zdd (eOp ixD (Zah 1) (eC (.int 2))) (eC (.int 9)))) (gSb (Zah 2) (eC (.int 0)) Zvn))
 Zav)))
 Zav))
 Zav))
 Zav))
 Zav))
 (Zam (Zcl (eSM Zlc (eC (.str "\n")) (Zac (Zah 2) Zan)))
 Zav))))))
noncomputable def Zbn : FF := Zcr 2 6 Zb1
noncomputable def Zdj : SF :=
 (Zam (Zba 1 (Za2 1 Ze7 (Zac (Zah 0) Zan)))
 (Zam (Zba 2 (Za2 1 Ze1 (Zac (Zah 0) Zan)))
 (Zam (sIf (Zfr (Zg4 (eCB Zot (Zac (eOp ixD (Zah 2) (eC (.int 0))) (Zac (eC (.ty "bool")) Zan)))) (Zfr (tNo (Zg4 (eCB Zot (Zac (eOp ixD (Zah 2) (eC (.int 0))) (Zac (eC (.ty "int")) Zan))))) (tOf (eOp neD (Zah 2) (Zah 1))))) (Zam (Zcl (eC (.bl false)))
 Zav) Zav)
 (Zam (Zcl (eOrr (eOp ltD (eOp ixD (Zah 1) (eC (.int 0))) (eC (.int 0))) (Za2 1 Zeg (Zac (Zah 0) Zan))))
 Zav))))
noncomputable def Zce : FF := Zcr 1 3 Zdj
noncomputable def Zoy : SF :=
 (Zam (Zba 1 (eCB Zoa (Zac (eSl (Zah 0) Zbf (Zbc (eC (.int 16)))) Zan)))
 (Zam (sIf (tOf (eOp eqD (Zah 1) (Zc8 Zan))) (Zam (Zba 1 (Zc8 (Zac (eC (.int 8)) Zan)))
 Zav) Zav)
 (Zam (Zh3 (Zlx (Zac (Zah 1) Zan)) (gTp 2 (gCn (gNm 3) (gCn (gNm 4) gNl))) (Zam (Zba 2 (Za2 1 Ze6 (Zac (Za2 2 Zdm (Zac (eSl (Zah 0) (Zbc (eOp Zhk (Zah 3) (eC (.int 2)))) Zbf) (Zac (eC (.int 8)) Zan))) Zan)))
 (Zam (Zba 5 (eSl (Za2 2 Zbi (Zac (Zah 4) (Zac (eC (.int 30)) Zan))) (Zbc (eC (.int 24))) Zbf))
 (Zam (Zba 6 (eSl (Za2 2 Zbi (Zac (Zah 4) (Zac (eC (.int 40)) Zan))) (Zbc (eC (.int 30))) Zbf))
 (Zam (Zba 7 (Za2 2 Zbn (Zac (Za2 2 Zbn (Zac (Zah 2) (Zac (Zah 6) Zan))) (Zac (eSl (Zah 6) (Zbc (eC (.int 4))) Zbf) Zan))))
 (Zam (Zh3 (iSq (Zc8 (Zac (Za2 2 Zd4 (Zac (Zah 2) (Zac (Zah 5) Zan))) (Zac (Za2 2 Zbn (Zac (Zah 2) (Zac (eSl (Zah 5) (Zbc (eC (.int 1))) Zbf) Zan))) (Zac (Zah 7) (Zac (Za2 2 Zd4 (Zac (Zah 7) (Zac (Zah 5) Zan))) Zan)))))) (gNm 8) (Zam (sIf (tNo (Zg4 (Za2 1 Zce (Zac (Zah 8) Zan)))) (Zam (Zcl (eC (.bl false)))
 Zav) Zav)
 Zav))
 (Zam (sIf (Zfr (tNo (Zg4 (Za2 1 Zce (Zac (Zhe (Zah 2) Zbf (Zbc (eUn Zh7 (eC (.int 1))))) Zan)))) (tNo (Zg4 (Za2 1 Zce (Zac (Zah 2) Zan))))) (Zam (Zcl (eC (.bl false)))
 Zav) Zav)
 Zav)))))))
 (Zam (Zh3 (iSq (Zc8 (Zac (eC (.str "")) (Zac (eC (.str "\n")) (Zac (eC (.str "-")) (Zac (eC (.str "-\n")) (Zac (eC (.str "all")) (Zac (eC (.str "-\n0\n")) (Zac (eC (.str "-\n1\n")) (Zac (eOp Zbx (eC (.str "some\n")) (eOp Zmo (eC (.str "1\n")) (eC (.int 21)))) (Zac (eOp Zbx (eOp Zbx (eC (.str "all\n")) (eOp Zmo (eC (.str "9")) (eC (.int 4400)))) (eC (.str "\n"))) Zan))))))))))) (gNm 2) (Zam (sIf (tNo (Zg4 (Za2 1 Zce (Zac (Zah 2) Zan)))) (Zam (Zcl (eC (.bl false)))
 Zav) Zav)
 Zav))
 (Zam (Zcl (eC (.bl true)))
 Zav)))))
noncomputable def Znk : FF := Zcr 1 9 Zoy
end K08
set_option maxHeartbeats 4000000
namespace K08
open PySem L2 DL LH
noncomputable def opn (bs : List Bool) (l : Int) : Bool := decide ((bs.length : Int) < Zdf l)
noncomputable def rig (bs : List Bool) (l : Int) : Bool := match bs[(Zdf l - 1).toNat]? with
 | some b => b == decide (0 < l)
 | none => false
noncomputable def kept (bs : List Bool) (ls : List Int) : Bool := ls.any (rig bs)
noncomputable def rest (bs : List Bool) (ls : List Int) : List Int := ls.filter (opn bs)
structure DR (rss : List (List Int)) (bs : List Bool) (kvs : List (D × D)) : Prop where
 key : ∀ p ∈ kvs, ∃ ls ∈ rss, kept bs ls = false ∧ p.1 = Zgt (rest bs ls)
 all : ∀ ls ∈ rss, kept bs ls = false -> (Zq8 kvs (rest bs ls)).isSome = true
 len : kvs.length ≤ rss.length
 val : ∀ p ∈ kvs, ∃ (i : Nat) (ls : List Int), rss[i]? = some ls ∧ kept bs ls = false ∧ p = (Zgt (rest bs ls), .int i)
structure Fz (H H' : HD) : Prop where
 old : ∀ (m : Nat) (o : DO), H[m]? = some o -> H'[m]? = some o ∨ ∃ kvs, o = .dic kvs false ∧ H'[m]? = some (.dic kvs true)
 len : H.length ≤ H'.length
theorem Fz.refl {H : HD} : Fz H H := ⟨fun _ _ h => .inl h, Nat.le_refl _⟩
theorem Fz.trans {H H1 H2 : HD} (a : Fz H H1) (b : Fz H1 H2) : Fz H H2 := by
 refine ⟨fun m o h => ?_, Nat.le_trans a.len b.len⟩
 rcases a.old m o h with h1 | ⟨kvs, rfl, h1⟩
 ·exact b.old m o h1
 ·rcases b.old m _ h1 with h2 | ⟨k2, e, _⟩
  ·exact .inr ⟨kvs, rfl, h2⟩
  ·cases e
theorem Fz.app {H : HD} (L : HD) : Fz H (H ++ L) := ⟨fun m o q => .inl (by
 have : m < H.length := (List.getElem?_eq_some_iff.mp q).1
 rw [List.getElem?_append_left this]; exact q), by simp⟩
theorem Fz.dic {H H' : HD} (x : Fz H H') {m : Nat} {kvs : List (D × D)} {fz : Bool} (h : H[m]? = some (.dic kvs fz)) : ∃ fz', H'[m]? = some (.dic kvs fz') := by
 rcases x.old m _ h with h1 | ⟨k2, e, h1⟩
 ·exact ⟨fz, h1⟩
 ·cases e; exact ⟨true, h1⟩
theorem Fz.ext {n : Nat} {H H' : HD} (x : Fz H H') (hf : ∃ a b, H[n]? = some (.lst [.int a, .int b])) : ∃ a b, H'[n]? = some (.lst [.int a, .int b]) := by
 obtain ⟨a, b, f⟩ := hf
 rcases x.old n _ f with h | ⟨_, e, _⟩
 ·exact ⟨a, b, h⟩
 ·cases e
theorem ex {f : EF} {σ : SD} {H H1 : HD} {d : D} (h : f σ H = some (d, H1)) : Zcv f σ H = some (.nx, σ, H1) := by unfold Zcv; rw [h]; rfl
noncomputable abbrev fb : SF := (Zam (Zcv (eDM Zvx (Zah 1) (Zac (Zah 3) (Zac (Zah 2) Zan)))) Zav)
noncomputable abbrev bb : SF := (Zam (Zba 6 (eIf (Zg4 (Zah 5)) (eOp ixD (Zah 5) (eC (.int 0))) (eC (.int 0))))
 (Zam (sIf (tOf (eOp eqD (Zah 6) (eUn Zh7 (Zah 3)))) (Zam (Zcv (eDM Zvx (Zah 4) (Zac (eSl (Zah 5) (Zbc (eC (.int 1))) Zbf) (Zac (eOp Zzz (Zah 0) (Zah 5)) Zan))))
 Zav) (Zam (sIf (tOf (eOp neD (Zah 6) (Zah 3))) (Zam (Zcv (eDM Zvx (Zah 4) (Zac (Zah 5) (Zac (eOp Zzz (Zah 0) (Zah 5)) Zan))))
 Zav) Zav)
 Zav))
 Zav))
theorem un {g : D -> HD -> Option (D × HD)} {f : EF} {σ : SD} {H H1 : HD} {d : D} {r : Option (D × HD)} (h1 : f σ H = some (d, H1)) (h2 : g d H1 = r) : eUn g f σ H = r := by
 unfold eUn; rw [h1]; exact h2
noncomputable def kS (d : D) : Bool := match d with
 | .str s => s == "some"
 | _ => false
noncomputable def sideD (b : Bool) : D := if b then .str "some" else .str "all"
theorem Zpe {d : D} (h : Zeo d) : d = sideD (kS d) := by
 rcases h with rfl | rfl
 ·have : kS (.str "all") = false := by decide
  rw [this]; rfl
 ·have : kS (.str "some") = true := by decide
  rw [this]; rfl
noncomputable def W (ks : List D) (rss : List (List Int)) : Nat -> List Bool -> Bool
 | 0, bs => rss.all (kept bs)
 | j + 1, bs =>
  let who := kS (ks.getD bs.length .non)
  if W ks rss j (bs ++ [false]) == who || W ks rss j (bs ++ [true]) == who then who else !who
noncomputable def Zqm (bs : List Bool) : D := .tup (bs.map .bl)
end K08
namespace K08
open PySem L2 DL LH WP
theorem at0 (a b : D) : atI [a, b] 0 = some a := Zeh (j := 0) rfl
theorem at1 (a b : D) : atI [a, b] 1 = some b := Zeh (j := 1) rfl
theorem Fz.fm {H H' : HD} (x : Fz H H') : Fm [] H H' := ⟨fun m o _ h => x.old m o h, x.len⟩
structure Cl (ks : List D) (rss : List (List Int)) : Prop where
 hk : ∀ d ∈ ks, Zeo d
 hu : ∀ ls ∈ rss, Up ks.length 0 ls
 hl : rss.length ≤ 1000
 h8 : ks.length ≤ 8
noncomputable def Zgo (ks : List D) (rss : List (List Int)) : D := .tup [.tup ks, .tup (rss.map Zgt)]
variable {H : HD} {Q : D -> HD -> Prop}
theorem w_cl0 {ks : List D} {rss : List (List Int)} (q : Q (.tup ks) H) : wE (ixD (Zgo ks rss) (.int 0) H) Q := ⟨_, _, ixT (at0 _ _), q⟩
theorem w_cl1 {ks : List D} {rss : List (List Int)} (q : Q (.tup (rss.map Zgt)) H) : wE (ixD (Zgo ks rss) (.int 1) H) Q := ⟨_, _, ixT (at1 _ _), q⟩
theorem Zwv {bs : List Bool} {H : HD} {Q : D -> HD -> Prop} (q : Q (.int bs.length) H) : wE (Zdw [Zqm bs] H) Q := ⟨_, _, lenB bs H, q⟩
theorem Zzw {bs : List Bool} {t : Bool} {H : HD} {Q : D -> HD -> Prop} (h : bs.length ≤ 1000) (q : Q (Zqm (bs ++ [t])) H) : wE (Zbx (Zqm bs) (.tup [.bl t]) H) Q :=
 ⟨Zqm (bs ++ [t]), H, by unfold Zqm; rw [adT (by simp; omega), List.map_append]; rfl, q⟩
local macro_rules | `(tactic| fail $s:str) => do
 if s.getString == "lk" then `(tactic| first | assumption | with_reducible exact WP.last | (with_reducible refine WP.appL ?_; fail "lk"))
 else if s.getString == "go" then do
  let a0 ← `(by with_unfolding_all rfl)
  let a1 ← `(?_)
  let a2 ← `(by first | (simp; done) | (simp; omega) | omega)
  let a3 ← `(by decide)
  let a4 ← `(by with_unfolding_all first | exact (rfl : _ = true) | exact (rfl : _ = false))
  let a5 ← `(by fail "lk")
  let a6 ← `(by with_unfolding_all exact rfl)
  let t ← ([`WP.w_var].map (·, [a0, a1]) ++ [`WP.w_c, `WP.w_seq, `WP.w_kn, `WP.w_set, `WP.w_op, `WP.w_acons, `WP.w_anil, `WP.w_call, `WP.w_cb, `WP.w_tof, `WP.w_bl, `WP.w_bt, `WP.w_bf, `WP.w_bnt, `WP.w_bnf, `WP.w_ret, `WP.w_fr, `WP.w_kr, `WP.w_snil, `WP.w_expr, `WP.w_for, `WP.w_or, `WP.w_an, `WP.w_no, `WP.w_ttru, `WP.w_eif, `WP.w_eno, `WP.w_ean, `WP.w_eorr, `WP.w_un, `WP.w_ch, `WP.w_int, `WP.w_tup, `WP.w_lst, `WP.w_lm, `WP.w_tm, `WP.w_dm, `WP.w_dn, `WP.w_on, `WP.w_os, `WP.w_sl, `WP.w_rv, `WP.w_lc, `WP.w_asg, `WP.w_gnm, `WP.w_gsb, `WP.w_gcn, `WP.w_gnl].map (·, [a1]) ++ [`WP.w_n, `WP.w_gtp, `WP.w_ixT, `WP.w_isN, `WP.w_isnN, `WP.w_isBl, `WP.w_isnBl].map (·, [a0, a1]) ++ [`WP.w_sz, `WP.w_addT].map (·, [a2, a1]) ++ [`WP.w_mod].map (·, [a3, a1]) ++ [`WP.w_fdiv, `WP.w_mulL, `WP.w_mulR].map (·, [a3, a3, a1]) ++ [`WP.w_eqI', `WP.w_neI', `WP.w_eqS', `WP.w_neS'].map (·, [a4, a1]) ++ [`WP.w_lenR, `WP.w_tupR, `WP.w_itR].map (·, [a5, a1]) ++ [`WP.w_ixR].map (·, [a5, a0, a1]) ++ [`WP.w_isi'].map (·, [a0, a0, a4, a1]) ++ [`WP.w_addI, `WP.w_subI, `WP.w_lt, `WP.w_le, `WP.w_gt, `WP.w_ge, `WP.w_slhi, `WP.w_sllo, `WP.w_sllo1, `WP.w_neg, `WP.w_eqI, `WP.w_neI, `WP.w_eqS, `WP.w_neS, `WP.w_lenT, `WP.w_lenF, `WP.w_abs, `WP.w_intI, `WP.w_intB, `WP.w_max, `WP.w_min, `WP.w_truB, `WP.w_truT, `WP.w_truN, `WP.w_isq, `WP.w_itT, `WP.w_itF, `WP.w_ir1, `WP.w_ir2, `WP.w_ir3, `WP.w_idic, `WP.w_enum, `WP.w_enum1, `WP.w_zip, `WP.w_yes, `WP.w_retn, `WP.w_fn, `WP.w_agn, `WP.w_agr, `WP.w_kb, `WP.w_kc, `WP.w_agb, `WP.w_agc, `WP.w_brk, `WP.w_cnt].map (·, [a1]) ++ [`WP.w_bT, `WP.w_bF].map (·, [a6, a1]) : List (Lean.Name × List Lean.Term)).foldrM (fun p (r : Lean.TSyntax `tactic) => `(tactic| first | with_reducible refine $(Lean.Syntax.mkApp (Lean.mkIdent p.1) p.2.toArray) | $r:tactic)) (← `(tactic| fail "no"))
  return t
 else Lean.Macro.throwUnsupported
local macro_rules | `(tactic| fail $s:str) => do
 if s.getString == "go" then `(tactic| first | with_reducible refine Zwv ?_ | with_reducible refine Zzw (by omega) ?_ | with_reducible refine w_cl0 ?_ | with_reducible refine w_cl1 ?_)
 else Lean.Macro.throwUnsupported
variable {H : HD} {Q : D -> HD -> Prop}
theorem Zxv {t : TF} {f g : SF} {σ : SD} {R : FD -> SD -> HD -> Prop} (B : Bool) (h : wT (t σ H) fun b H' => H' = H ∧ b = B) (ht : B = true -> wS (f σ H) R) (hf : B = false -> wS (g σ H) R) : wS (sIf t f g σ H) R := by
 obtain ⟨b, H1, e, rfl, rfl⟩ := h
 exact w_if ⟨_, _, e, ht, hf⟩
theorem w_mix {cell k : Int} (h0 : 0 ≤ k) (h1 : k ≤ 100) (q : ∀ r H', 0 ≤ r -> r < 2147483648 -> Fm [] H H' -> Q (.int r) H') : wE (Zf6 [.int cell, .int k] H) Q := by
 refine Zda rfl ?_
 show wS (Zew [some (.int cell), some (.int k), none, none] H) _
 unfold Zew
 obtain ⟨P, hP, hP2, eP⟩ : ∃ P : Int, 0 < P ∧ P < 2147483648 ∧ atI [D.int 2147483647, .int 2147483629, .int 2147483587, .int 2147483579, .int 2147483563, .int 2147483549, .int 2147483543] (k % 7) = some (.int P) := by
  rcases (show k % 7 = 0 ∨ k % 7 = 1 ∨ k % 7 = 2 ∨ k % 7 = 3 ∨ k % 7 = 4 ∨ k % 7 = 5 ∨ k % 7 = 6 by omega) with h | h | h | h | h | h | h <;> rw [h]
  ·exact ⟨2147483647, by omega, by omega, rfl⟩
  ·exact ⟨2147483629, by omega, by omega, rfl⟩
  ·exact ⟨2147483587, by omega, by omega, rfl⟩
  ·exact ⟨2147483579, by omega, by omega, rfl⟩
  ·exact ⟨2147483563, by omega, by omega, rfl⟩
  ·exact ⟨2147483549, by omega, by omega, rfl⟩
  ·exact ⟨2147483543, by omega, by omega, rfl⟩
 (repeat fail "go")
 refine w_ixR last eP ?_
 (repeat fail "go")
 have c0 := Int.emod_nonneg cell (show (998244353 : Int) ≠ 0 by decide)
 have c1 := Int.emod_lt_of_pos cell (show (0 : Int) < 998244353 by decide)
 generalize cell % 998244353 = c at *
 refine w_mulL (by omega) (by omega) ?_
 (repeat fail "go")
 refine w_mulL (by omega) (by omega) ?_
 (repeat fail "go")
 refine w_mod hP ?_
 have a0 := Int.emod_nonneg ((c + 104729 * (k + 1)) * (k * k + 7 * k + 13)) (show P ≠ 0 by omega)
 have a1 := Int.emod_lt_of_pos ((c + 104729 * (k + 1)) * (k * k + 7 * k + 13)) hP
 generalize (c + 104729 * (k + 1)) * (k * k + 7 * k + 13) % P = a at *
 (repeat fail "go")
 refine Zva (by decide) (by decide) (by omega) ?_
 (repeat fail "go")
 have b0 := Int.emod_nonneg (a ^ (5 : Int).toNat) (show (1000000007 : Int) ≠ 0 by decide)
 have b1 := Int.emod_lt_of_pos (a ^ (5 : Int).toNat) (show (0 : Int) < 1000000007 by decide)
 generalize a ^ (5 : Int).toNat % 1000000007 = b at *
 refine w_mod hP ?_
 have d0 := Int.emod_nonneg (b * 48271 + 31 * k + 5) (show P ≠ 0 by omega)
 have d1 := Int.emod_lt_of_pos (b * 48271 + 31 * k + 5) hP
 generalize (b * 48271 + 31 * k + 5) % P = d at *
 (repeat fail "go")
 refine Zva (by decide) (by decide) (by omega) ?_
 (repeat fail "go")
 have e0 := Int.emod_nonneg (d ^ (3 : Int).toNat) (show (998244353 : Int) ≠ 0 by decide)
 have e1 := Int.emod_lt_of_pos (d ^ (3 : Int).toNat) (show (0 : Int) < 998244353 by decide)
 generalize d ^ (3 : Int).toNat % 998244353 = e at *
 exact q _ _ (by omega) (by omega) (Fm.app _)
noncomputable def Zrl (ds : List Int) : Prop := ∀ d ∈ ds, 0 ≤ d ∧ d < 2147483648
theorem Zgv {cell : Int} {many : Nat} (h1 : many ≤ 100) (q : ∀ (ds : List Int) p H', ds.length = many -> Zrl ds -> H'[p]? = some (.lst (ds.map .int)) -> H.length ≤ p -> Fm [] H H' -> Q (.ref p) H') : wE (Zbi [.int cell, .int many] H) Q := by
 refine Zda rfl ?_
 show wS (Zc4 [some (.int cell), some (.int many), none, none, none, none] H) _
 unfold Zc4
 (repeat fail "go")
 refine Zva (by decide) (by decide) (by decide) ?_
 (repeat fail "go")
 generalize decide ((10 : Int) ^ (18 : Int).toNat ≤ Zdf cell) = wide
 refine ⟨_, rfl, ⟨by omega, by omega⟩, ?_⟩
 rw [show ((many : Int)).toNat = many by omega]
 refine Zhm (fun d t σ H' => d ++ t = Zbb 0 many ∧ ∃ (ds : List Int) (L : Int) (z5 : Option D), ds.length = d.length ∧ Zrl ds ∧ H'[H.length]? = some (.lst (ds.map .int)) ∧ Fm [H.length] (H ++ [.lst []]) H' ∧ 0 ≤ L ∧ σ = [some (.int cell), some (.int many), some (.ref H.length), some (.int L), some (.bl wide), z5]) (fun _ _ _ _ _ => Zna) (fun d x t σ H1 ⟨e0, ds, L, z5, e1, e2, e3, x1, hL, e5⟩ => ?_) (fun d σ H1 ⟨e0, ds, L, z5, e1, e2, e3, x1, hL, e5⟩ => ?_) _ [] _ _ ⟨rfl, [], Zdf cell, _, rfl, (by intro d h; cases h), last, Fm.refl, (by unfold Zdf; split <;> omega), rfl⟩
 ·subst e5
  have hx : x ∈ Zbb 0 many := by rw [← e0]; simp
  simp only [Zbb, List.mem_map, List.mem_range] at hx
  obtain ⟨i, hi, rfl⟩ := hx
  have hd : d.length ≤ 100 := by
   have := congrArg List.length e0
   simp [Zbb] at this
   omega
  (repeat fail "go")
  refine Zxv (wide && decide (0 < L)) ?_ (fun h => ?_) (fun h => ?_)
  ·(repeat fail "go")
   cases wide
   ·exact ⟨(fun z => nomatch z), fun _ => ⟨rfl, rfl⟩⟩
   ·refine ⟨fun _ => ?_, (fun z => nomatch z)⟩
    (repeat fail "go")
    exact ⟨rfl, by simp⟩
  ·(repeat fail "go")
   refine ⟨isl e3, ?_⟩
   (repeat fail "go")
   refine Zkp e3 (by simp; omega) ?_
   (repeat fail "go")
   have m0 := Int.emod_nonneg L (show (10007 : Int) ≠ 0 by decide)
   have m1 := Int.emod_lt_of_pos L (show (0 : Int) < 10007 by decide)
   refine ⟨by rw [← e0]; simp, ds ++ [L % 10007], L / 10007, _, by simp [e1], ?_, ?_, x1.trans (Fm.set (by simp)), Int.ediv_nonneg hL (by decide), rfl⟩
   ·intro y hy
    rcases List.mem_append.mp hy with h | h
    ·exact e2 y h
    ·simp at h; subst h; exact ⟨m0, by omega⟩
   ·rw [List.map_append]; exact Zys e3
  ·(repeat fail "go")
   refine ⟨isl e3, ?_⟩
   (repeat fail "go")
   refine w_mix (by omega) (by omega) fun r H2 r0 r1 x2 => ?_
   (repeat fail "go")
   have e3' := x2.lst (by simp) e3
   refine Zkp e3' (by simp; omega) ?_
   (repeat fail "go")
   refine ⟨by rw [← e0]; simp, ds ++ [r], L, _, by simp [e1], ?_, ?_, (x1.trans (x2.sub (by simp))).trans (Fm.set (by simp)), hL, rfl⟩
   ·intro y hy
    rcases List.mem_append.mp hy with h | h
    ·exact e2 y h
    ·simp at h; subst h; exact ⟨r0, r1⟩
   ·rw [List.map_append]; exact Zys e3'
 ·subst e5
  have hd : d.length = many := by
   have := congrArg List.length e0
   simpa [Zbb] using this
  (repeat fail "go")
  exact q ds _ H1 (by omega) e2 e3 (Nat.le_refl _) ((Fm.app (S := []) _).new x1 (by intro m hm _; simp at hm; omega))
theorem Zcg {p : Nat} {ds : List Int} {i : Int} (g : H[p]? = some (.lst (ds.map .int))) (hd : Zrl ds) (h0 : 0 ≤ i) (h1 : i < ds.length) (q : ∀ r, 0 ≤ r -> r < 2147483648 -> Q (.int r) H) : wE (ixD (.ref p) (.int i) H) Q := by
 have lt : i.toNat < ds.length := by omega
 have hm := hd _ (List.getElem_mem lt)
 exact w_ixR g (Zhq h0 (d := .int ds[i.toNat]) (by rw [List.getElem?_map, List.getElem?_eq_getElem lt]; rfl)) (q _ hm.1 hm.2)
theorem Zst {r : Int} (h0 : 0 ≤ r) (h1 : r < 2) : ∃ k, Zeo k ∧ atI [D.str "all", .str "some"] r = some k := by
 rcases (show r = 0 ∨ r = 1 by omega) with rfl | rfl
 ·exact ⟨_, .inl rfl, rfl⟩
 ·exact ⟨_, .inr rfl, rfl⟩
theorem Zy1 {r : Int} (h0 : 0 ≤ r) (h1 : r < 2) : ∃ k, Zeo k ∧ atI [D.str "some", .str "all"] r = some k := by
 rcases (show r = 0 ∨ r = 1 by omega) with rfl | rfl
 ·exact ⟨_, .inr rfl, rfl⟩
 ·exact ⟨_, .inl rfl, rfl⟩
theorem mod2 (r : Int) : 0 ≤ r % 2 ∧ r % 2 < 2 := by omega
theorem Zvv {p : Nat} {ds : List Int} {many : Nat} (g : H[p]? = some (.lst (ds.map .int))) (hd : Zrl ds) (hl : many + 1 ≤ ds.length) (h100 : many ≤ 100) (q : ∀ ks H', (∀ d ∈ ks, Zeo d) -> ks.length = many -> Fm [] H H' -> Q (.tup ks) H') : wE (Zee [.ref p, .int many] H) Q := by
 refine Zda rfl ?_
 show wS (Zdp [some (.ref p), some (.int many), none, none, none] H) _
 unfold Zdp
 (repeat fail "go")
 have hp : p < H.length := (List.getElem?_eq_some_iff.mp g).1
 refine ⟨_, rfl, ⟨by omega, by omega⟩, ?_⟩
 rw [show ((many : Int)).toNat = many by omega]
 refine Zhm (fun d t σ H' => d ++ t = Zbb 0 many ∧ ∃ (ks : List D) (z3 z4 : Option D), ks.length = d.length ∧ (∀ d ∈ ks, Zeo d) ∧ H'[H.length]? = some (.lst ks) ∧ Fm [H.length] (H ++ [.lst []]) H' ∧ σ = [some (.ref p), some (.int many), some (.ref H.length), z3, z4]) (fun _ _ _ _ _ => Zna) (fun d x t σ H1 ⟨e0, ks, z3, z4, e1, e2, e3, x1, e5⟩ => ?_) (fun d σ H1 ⟨e0, ks, z3, z4, e1, e2, e3, x1, e5⟩ => ?_) _ [] _ _ ⟨rfl, [], _, _, rfl, (by intro d h; cases h), last, Fm.refl, rfl⟩
 ·subst e5
  have hx : x ∈ Zbb 0 many := by rw [← e0]; simp
  simp only [Zbb, List.mem_map, List.mem_range] at hx
  obtain ⟨i, hi, rfl⟩ := hx
  have hdl : d.length ≤ 100 := by
   have := congrArg List.length e0
   simp [Zbb] at this
   omega
  have gp : H1[p]? = some (.lst (ds.map .int)) := x1.lst (by simp; omega) (appL g)
  have Jn : ∀ (L : List D) {H2 : HD}, Fm [H.length] (H ++ [.lst []]) H2 -> H2[p]? = some (.lst (ds.map .int)) -> H2[H.length]? = some (.lst ks) -> Fm [H.length] (H ++ [.lst []]) (H2 ++ [.lst L]) ∧ (H2 ++ [.lst L])[p]? = some (.lst (ds.map .int)) ∧ (H2 ++ [.lst L])[H.length]? = some (.lst ks) := fun L H2 a b c => ⟨a.trans (Fm.app _), appL b, appL c⟩
  refine w_gnm (w_seq ?_)
  refine Zja (fun σ H2 => (Fm [H.length] (H ++ [.lst []]) H2 ∧ H2[p]? = some (.lst (ds.map .int)) ∧ H2[H.length]? = some (.lst ks)) ∧ ∃ k, Zeo k ∧ σ = [some (.ref p), some (.int many), some (.ref H.length), some (.int (0 + i)), some k]) ?_ ?_
  ·(repeat fail "go")
   refine Zcg (appL gp) hd (by omega) (by omega) fun r r0 r1 => ?_
   (repeat fail "go")
   obtain ⟨k, hk, ek⟩ := Zst (mod2 r).1 (mod2 r).2
   refine w_ixR last ek ?_
   exact ⟨rfl, Jn _ x1 gp e3, k, hk, rfl⟩
  rintro _ H2 ⟨⟨x2, g2, e4⟩, k, hk, rfl⟩
  refine w_seq (Zja (fun σ H2 => (Fm [H.length] (H ++ [.lst []]) H2 ∧ H2[p]? = some (.lst (ds.map .int)) ∧ H2[H.length]? = some (.lst ks)) ∧ ∃ k, Zeo k ∧ σ = [some (.ref p), some (.int many), some (.ref H.length), some (.int (0 + i)), some k]) ?_ ?_)
  ·(refine WP.w_if ?_; (repeat fail "go"))
   refine Zcg g2 hd (by omega) (by omega) fun r r0 r1 => ?_
   (repeat fail "go")
   refine ⟨fun h => ?_, fun h => ?_⟩
   ·(repeat fail "go")
    refine Zcg (appL g2) hd (by omega) (by omega) fun r' r0' r1' => ?_
    (repeat fail "go")
    obtain ⟨k2, hk2, ek2⟩ := Zy1 (mod2 (0 + (i : Int) + r')).1 (mod2 _).2
    refine w_ixR last ek2 ?_
    (repeat fail "go")
    exact ⟨rfl, Jn _ x2 g2 e4, k2, hk2, rfl⟩
   ·(repeat fail "go")
    exact ⟨rfl, ⟨x2, g2, e4⟩, k, hk, rfl⟩
  rintro _ H3 ⟨⟨x3, g3, e6⟩, k, hk, rfl⟩
  refine w_seq (Zja (fun σ H2 => (Fm [H.length] (H ++ [.lst []]) H2 ∧ H2[p]? = some (.lst (ds.map .int)) ∧ H2[H.length]? = some (.lst ks)) ∧ ∃ k, Zeo k ∧ σ = [some (.ref p), some (.int many), some (.ref H.length), some (.int (0 + i)), some k]) ?_ ?_)
  ·(refine WP.w_if ?_; (repeat fail "go"))
   refine Zcg g3 hd (by omega) (by omega) fun r r0 r1 => ?_
   (repeat fail "go")
   refine ⟨fun h => ?_, fun h => ?_⟩
   ·(repeat fail "go")
    refine Zcg (appL g3) hd (by omega) (by omega) fun r' r0' r1' => ?_
    (repeat fail "go")
    obtain ⟨k2, hk2, ek2⟩ := Zst (r := if decide (0 < r' % 3) = true then 1 else 0) (by split <;> omega) (by split <;> omega)
    refine w_ixR last ek2 ?_
    (repeat fail "go")
    exact ⟨rfl, Jn _ x3 g3 e6, k2, hk2, rfl⟩
   ·(repeat fail "go")
    exact ⟨rfl, ⟨x3, g3, e6⟩, k, hk, rfl⟩
  rintro _ H4 ⟨⟨x4, g4, e7⟩, k, hk, rfl⟩
  (repeat fail "go")
  refine ⟨isl e7, ?_⟩
  (repeat fail "go")
  refine Zkp e7 (by omega) ?_
  (repeat fail "go")
  refine ⟨by rw [← e0]; simp, ks ++ [k], _, _, by simp [e1], ?_, Zys e7, x4.trans (Fm.set (by simp)), rfl⟩
  intro y hy
  rcases List.mem_append.mp hy with h | h
  ·exact e2 y h
  ·simp at h; subst h; exact hk
 ·subst e5
  have hdl : d.length = many := by
   have := congrArg List.length e0
   simpa [Zbb] using this
  (repeat fail "go")
  exact q ks H1 e2 (by omega) ((Fm.app (S := []) _).new x1 (by intro m hm _; simp at hm; omega))
theorem Zqr {m : Int} : ∀ (ls : List Int) (last l : Int), Up m last ls -> (∀ x ∈ ls, Zdf x < Zdf l) -> last < Zdf l -> Zdf l ≤ m -> Up m last (ls ++ [l])
 | [], last, l, _, _, h1, h2 => ⟨h1, h2, trivial⟩
 | x :: r, last, l, u, h, h1, h2 => by
  obtain ⟨u1, u2, u3⟩ := u
  exact ⟨u1, u2, Zqr r (Zdf x) l u3 (fun y hy => h y (by simp [hy])) (h x (by simp)) h2⟩
theorem Zju (lo : Int) (m : Nat) : Zbb lo (m + 1) = .int lo :: Zbb (lo + 1) m := by
 unfold Zbb
 rw [List.range_succ_eq_map, List.map_cons, List.map_map]
 have e0 : D.int (lo + ((0 : Nat) : Int)) = .int lo := by simp
 rw [e0]
 refine congrArg (List.cons _) (List.map_congr_left fun a _ => ?_)
 show D.int _ = D.int _
 congr 1
 omega
theorem Zu8 {cell : Int} {M : Nat} {wide : Int} (hM : M ≤ 8) (q : ∀ ls H', Up M 0 ls -> Fm [] H H' -> Q (Zgt ls) H') : wE (Zec [.int cell, .int M, .int wide] H) Q := by
 refine Zda rfl ?_
 show wS (Zdk [some (.int cell), some (.int M), some (.int wide), none, none, none] H) _
 unfold Zdk
 (repeat fail "go")
 rw [show (M : Int) + 1 = ((M + 1 : Nat) : Int) by omega]
 refine Zgv (by omega) fun ds p H1 l1 d1 g1 n1 x1 => ?_
 (repeat fail "go")
 refine ⟨_, rfl, ⟨by omega, by omega⟩, ?_⟩
 rw [Int.toNat_natCast]
 refine Zhm (fun d t σ H' => ∃ ls : List Int, t = Zbb (d.length : Int) (M - d.length) ∧ H'[p]? = some (.lst (ds.map .int)) ∧ H'[H1.length]? = some (.lst (ls.map .int)) ∧ ls.length ≤ d.length ∧ d.length ≤ M ∧ Up M 0 ls ∧ (∀ x ∈ ls, Zdf x ≤ d.length) ∧ Fm [] H H' ∧ ∃ z, σ = [some (.int cell), some (.int M), some (.int wide), some (.ref p), some (.ref H1.length), z]) (fun _ _ _ _ _ => Zna) (fun d x t σ H2 ⟨ls, i1, i2, i3, i4, i5, i6, i7, i8, z, i9⟩ => ?_) (fun d σ H2 ⟨ls, i1, i2, i3, i4, i5, i6, i7, i8, z, i9⟩ => ?_) _ [] _ _ ⟨[], by simp, appL g1, last, by simp, by simp, trivial, by simp, x1.trans (Fm.app _), none, rfl⟩
 ·subst i9
  obtain ⟨k, hk⟩ : ∃ k, M - d.length = k + 1 := by
   cases h : M - d.length with
   | zero => rw [h] at i1; simp [Zbb] at i1
   | succ k => exact ⟨k, rfl⟩
  rw [hk, Zju] at i1
  obtain ⟨rfl, rfl⟩ := List.cons.inj i1
  have tl : Zbb ((d.length : Int) + 1) k = Zbb (((d ++ [D.int (d.length : Int)]).length : Nat) : Int) (M - (d ++ [D.int (d.length : Int)]).length) := by
   simp only [List.length_append, List.length_cons, List.length_nil]
   congr 1
   omega
  (repeat fail "go"); (refine WP.w_if ?_; (repeat fail "go"))
  refine Zcg i2 d1 (by omega) (by omega) fun r r0 r1 => ?_
  (repeat fail "go")
  refine w_mod (by omega) ?_
  (repeat fail "go")
  refine Zcg i2 d1 (by omega) (by omega) fun r' r0' r1' => ?_
  (repeat fail "go")
  refine ⟨fun h => ?_, fun h => ?_⟩
  ·(repeat fail "go")
   refine ⟨isl i3, ?_⟩
   (repeat fail "go")
   refine Zcg (appL i2) d1 (by omega) (by omega) fun r2 r20 r21 => ?_
   (repeat fail "go")
   refine w_fdiv (by omega) (by omega) ?_
   (repeat fail "go")
   have m2 : r2 / ((M : Int) + 1) % 2 = 0 ∨ r2 / ((M : Int) + 1) % 2 = 1 := by omega
   obtain ⟨l, hl, el⟩ : ∃ l : Int, Zdf l = (d.length : Int) + 1 ∧ atI [D.int ((d.length : Int) + 1), .int (0 - (d.length : Int) - 1)] (r2 / ((M : Int) + 1) % 2) = some (.int l) := by
    rcases m2 with z | z <;> rw [z]
    ·exact ⟨_, by unfold Zdf; split <;> omega, rfl⟩
    ·exact ⟨_, by unfold Zdf; split <;> omega, rfl⟩
   refine w_ixR last el ?_
   (repeat fail "go")
   refine Zkp (appL i3) (by simp; omega) ?_
   (repeat fail "go")
   have np : H1.length ≠ p := by have := (List.getElem?_eq_some_iff.mp g1).1; omega
   refine ⟨ls ++ [l], tl, setO np (appL i2), by rw [Zys (appL i3)]; simp, by simp; omega, by simp; omega, Zqr ls 0 l i6 (fun x hx => by have := i7 x hx; omega) (by omega) (by omega), fun x hx => ?_, ?_, _, rfl⟩
   ·rcases List.mem_append.mp hx with z | z
    ·have := i7 x z; simp; omega
    ·simp at z; subst z; simp; omega
   ·exact (i8.trans (Fm.app _)).new (Fm.set (S := [H1.length]) (by simp)) (fun q hq _ => by simp at hq; subst hq; exact x1.len)
  ·(repeat fail "go")
   exact ⟨ls, tl, i2, i3, by simp; omega, by simp; omega, i6, fun x hx => by have := i7 x hx; simp; omega, i8, _, rfl⟩
 ·subst i9
  (repeat fail "go")
  exact q ls H2 i6 i8
noncomputable def tS (l : List Nat) : Str := ⟨l.toArray⟩
noncomputable def tx (l : List Nat) : D := .str (tS l)
theorem Zbu (l : List Nat) : (tS l).length = l.length := by simp [tS, Str.length]
theorem Zp4 {a b : List Nat} (h : tS a = tS b) : a = b := by
 have := congrArg (fun x : Str => x.cps.toList) h
 simpa [tS] using this
theorem Zyl (a b : List Nat) : tS a ++ tS b = tS (a ++ b) := by
 show Str.mk (a.toArray ++ b.toArray) = _
 unfold tS
 rw [List.append_toArray]
theorem Zll (a b : List Nat) : (tS a == tS b) = decide (a = b) := by
 rw [Bool.eq_iff_iff, beq_iff_eq, decide_eq_true_iff]
 exact ⟨Zp4, fun h => by rw [h]⟩
theorem Zns (i j n : Nat) : Builtin.Str.strSliceIndices (some (i : Int)) (some (j : Int)) 1 n = Builtin.Str.strSliceIndices (some ((min i n : Nat) : Int)) (some ((max (min i n) (min j n) : Nat) : Int)) 1 n := by
 unfold Builtin.Str.strSliceIndices sliceRange
 simp only [show (1 : Int) > 0 by decide, if_true]
 have e1 : ¬ ((i : Int) < 0) := by omega
 have e2 : ¬ ((j : Int) < 0) := by omega
 have e3 : ¬ (((min i n : Nat) : Int) < 0) := by omega
 have e4 : ¬ (((max (min i n) (min j n) : Nat) : Int) < 0) := by omega
 simp only [if_neg e1, if_neg e2, if_neg e3, if_neg e4]
 have f1 : max 0 (min ((min i n : Nat) : Int) (n : Int)) = max 0 (min (i : Int) n) := by omega
 rw [f1]
 by_cases h : max 0 (min (i : Int) n) < max 0 (min (j : Int) n)
 ·have f2 : max 0 (min ((max (min i n) (min j n) : Nat) : Int) (n : Int)) = max 0 (min (j : Int) n) := by omega
  rw [f2]
 ·have f2 : ¬ (max 0 (min (i : Int) n) < max 0 (min ((max (min i n) (min j n) : Nat) : Int) (n : Int))) := by omega
  rw [if_neg h, if_neg f2]
noncomputable def cutL (l : List Nat) (i j : Nat) : List Nat := (l.drop i).take (j - i)
theorem Zl3 (l : List Nat) (i j : Nat) : Txt.slice (tS l) (some (i : Int)) (some (j : Int)) = tS (cutL l i j) := by
 have hl : (tS l).length = l.length := Zbu l
 have e : Txt.slice (tS l) (some (i : Int)) (some (j : Int)) = Txt.slice (tS l) (some ((min i l.length : Nat) : Int)) (some ((max (min i l.length) (min j l.length) : Nat) : Int)) := by
  unfold Txt.slice
  rw [hl, Zns]
 rw [e]
 show StrLaws.sliceText (tS l) _ _ = _
 rw [StrLaws.sliceText_plain ⟨by omega, by omega, by show ((max (min i l.length) (min j l.length) : Nat) : Int) ≤ ((tS l).cps.toList.length : Nat); simp [tS]; omega⟩]
 show Str.mk _ = Str.mk _
 congr 2
 have : (tS l).cps.toList = l := by simp [tS]
 rw [this]
 unfold cutL
 simp only [Int.toNat_natCast]
 rw [show (((max (min i l.length) (min j l.length) : Nat) : Int) - ((min i l.length : Nat) : Int)).toNat = max (min i l.length) (min j l.length) - min i l.length by omega]
 by_cases h : i < l.length
 ·rw [show min i l.length = i by omega]
  by_cases hj : j ≤ l.length
  ·rw [show min j l.length = j by omega]
   by_cases h2 : i ≤ j
   ·rw [show max i j = j by omega]
   ·rw [show max i j - i = 0 by omega, show j - i = 0 by omega]
  ·rw [show min j l.length = l.length by omega, show max i l.length = l.length by omega]
   rw [List.take_of_length_le (by simp), List.take_of_length_le (by simp; omega)]
 ·rw [List.drop_eq_nil_of_le (by omega), List.drop_eq_nil_of_le (by omega)]
  simp
theorem Zlo (l : List Nat) (j : Nat) : Txt.slice (tS l) none (some (j : Int)) = tS (l.take j) := by
 have e : Txt.slice (tS l) none (some (j : Int)) = Txt.slice (tS l) (some ((0 : Nat) : Int)) (some (j : Int)) := by
  have z : Builtin.Str.strSliceIndices none (some (j : Int)) 1 (tS l).length = Builtin.Str.strSliceIndices (some ((0 : Nat) : Int)) (some (j : Int)) 1 (tS l).length := by
   unfold Builtin.Str.strSliceIndices
   simp only [show (1 : Int) > 0 by decide, if_true]
   congr 1
  unfold Txt.slice
  rw [z]
 rw [e, Zl3]
 unfold cutL
 simp
theorem Zq2 (l : List Nat) (i : Nat) : Txt.slice (tS l) (some (i : Int)) none = tS (l.drop i) := by
 have e : Txt.slice (tS l) (some (i : Int)) none = Txt.slice (tS l) (some (i : Int)) (some (l.length : Int)) := by
  have z : Builtin.Str.strSliceIndices (some (i : Int)) none 1 (tS l).length = Builtin.Str.strSliceIndices (some (i : Int)) (some (l.length : Int)) 1 (tS l).length := by
   unfold Builtin.Str.strSliceIndices
   simp only [show (1 : Int) > 0 by decide, if_true]
   rw [Zbu]
   congr 1
   have : ¬ ((l.length : Int) < 0) := by omega
   rw [if_neg this]
   omega
  unfold Txt.slice
  rw [z]
 rw [e, Zl3]
 unfold cutL
 rw [List.take_of_length_le (by simp)]
theorem Zs1 (l : List Nat) (c : Nat) : (!(Builtin.Str.occurrences (tS l) (tS [c]) 0 (tS l).length 1).isEmpty) = decide (c ∈ l) := by
 have := StrLaws.found_one (tS l) c
 rw [show (tS l).cps.toList = l by simp [tS]] at this
 exact this
theorem Zhz {fe : EF} {fl fh : OF} {σ : SD} (h : wE (fe σ H) fun x H1 => wO (fl σ H1) fun l H2 => wO (fh σ H2) fun u H3 => wE (Zog x l u H3) Q) : wE (Zhe fe fl fh σ H) Q := by
 obtain ⟨x, H1, e1, l, H2, e2, u, H3, e3, d, H4, e4, q⟩ := h
 exact ⟨d, H4, by unfold Zhe; rw [e1]; simp only [Zb]; rw [e2]; simp only [Zb]; rw [e3]; exact e4, q⟩
theorem Zhw {l : List Nat} {j : Nat} {b : Int} (hb : b = j) (hl : l.length ≤ 100000) (q : Q (tx (l.take j)) H) : wE (Zog (tx l) none (some b) H) Q := by
 subst hb
 exact ⟨_, _, by unfold Zog tx; dsimp only; rw [if_pos (by rw [Zbu, PySem.sizeLine_eq]; omega), Zlo], q⟩
theorem Zhg {l : List Nat} {i : Nat} {a : Int} (ha : a = i) (hl : l.length ≤ 100000) (q : Q (tx (l.drop i)) H) : wE (Zog (tx l) (some a) none H) Q := by
 subst ha
 exact ⟨_, _, by unfold Zog tx; dsimp only; rw [if_pos (by rw [Zbu, PySem.sizeLine_eq]; omega), Zq2], q⟩
theorem Zx2 {l : List Nat} {i c : Nat} {a : Int} (ha : a = i) (hc : l[i]? = some c) (hl : l.length ≤ 100000) (q : Q (tx [c]) H) : wE (Zss (tx l) (.int a) H) Q := by
 subst ha
 refine ⟨_, _, ?_, q⟩
 unfold Zss tx
 dsimp only
 rw [if_pos (by rw [Zbu, PySem.sizeLine_eq]; omega), show (tS l).cps.toList = l by simp [tS], Zeh hc]
 rfl
theorem w_sin {l : List Nat} {c : Nat} (q : Q (.bl (decide (c ∈ l))) H) : wE (Zw0 (tx [c]) (tx l) H) Q :=
 ⟨_, _, by unfold Zw0 tx; dsimp only; rw [Zs1], q⟩
theorem w_sni {l : List Nat} {c : Nat} (q : Q (.bl (!decide (c ∈ l))) H) : wE (Zwp (tx [c]) (tx l) H) Q :=
 ⟨_, _, by unfold Zwp tx; dsimp only; rw [Zs1], q⟩
theorem Zrx {a b : List Nat} (q : Q (.bl (decide (a = b))) H) : wE (eqD (tx a) (tx b) H) Q := w_eqS (by rw [Zll]; exact q)
theorem Zt1 {a b : List Nat} (q : Q (.bl (!decide (a = b))) H) : wE (neD (tx a) (tx b) H) Q := w_neS (by rw [bne, Zll]; exact q)
theorem Zjm {l : List Nat} (hl : l.length ≤ 100000) (q : Q (.int l.length) H) : wE (Zdw [tx l] H) Q :=
 ⟨_, _, by unfold Zdw tx; dsimp only; rw [if_pos (by rw [Zbu, PySem.sizeLine_eq]; omega), Zbu], q⟩
theorem Zd2 {a b : List Nat} (hl : a.length + b.length ≤ 100000) (q : Q (tx (a ++ b)) H) : wE (Zbx (tx a) (tx b) H) Q :=
 ⟨_, _, by unfold Zbx tx; dsimp only; rw [if_pos (by rw [Zbu, Zbu, PySem.sizeLine_eq]; omega), Zyl], q⟩
theorem Zt7 (l : List Nat) (n : Nat) : ∃ m : List Nat, (List.replicate n (tS l).cps).foldl (· ++ ·) #[] = m.toArray ∧ m.length = l.length * n ∧ ∀ c ∈ m, c ∈ l := by
 have : ∀ (n : Nat) (a : List Nat), ∃ m : List Nat, (List.replicate n (tS l).cps).foldl (· ++ ·) a.toArray = (a ++ m).toArray ∧ m.length = l.length * n ∧ ∀ c ∈ m, c ∈ l := by
  intro n
  induction n with
  | zero => rintro a; exact ⟨[], by simp, by simp, by simp⟩
  | succ n ih =>
   intro a
   rw [List.replicate_succ, List.foldl_cons]
   have e : a.toArray ++ (tS l).cps = (a ++ l).toArray := by
    show a.toArray ++ l.toArray = _
    rw [List.append_toArray]
   rw [e]
   obtain ⟨m, h1, h2, h3⟩ := ih (a ++ l)
   refine ⟨l ++ m, by rw [h1, List.append_assoc], by rw [List.length_append, h2, Nat.mul_succ, Nat.add_comm], fun c hc => ?_⟩
   rcases List.mem_append.mp hc with z | z
   ·exact z
   ·exact h3 c z
 obtain ⟨m, h⟩ := this n []
 exact ⟨m, by simpa using h.1, h.2⟩
theorem Zsy {l : List Nat} {n : Nat} (h1 : 1 < n) (h0 : 0 < l.length) (h2 : l.length * n ≤ 100000) (q : ∀ m : List Nat, m.length = l.length * n -> (∀ c ∈ m, c ∈ l) -> Q (tx m) H) : wE (Zmo (tx l) (.int n) H) Q := by
 obtain ⟨m, e, e2, e3⟩ := Zt7 l n
 refine ⟨tx m, _, ?_, q m e2 e3⟩
 unfold Zmo tx
 dsimp only
 rw [if_pos ⟨by omega, by rw [Zbu]; exact h0, by rw [Zbu, Int.toNat_natCast]; exact h2⟩, Int.toNat_natCast, e]
 rfl
noncomputable def spl (c : Nat) : List Nat -> List (List Nat)
 | [] => [[]]
 | x :: r => if x = c then [] :: spl c r else match spl c r with
  | w :: ws => (x :: w) :: ws
  | [] => [[x]]
theorem Zfe (c : Nat) : ∀ l, ∃ w ws, spl c l = w :: ws
 | [] => ⟨[], [], rfl⟩
 | x :: r => by
  obtain ⟨w, ws, e⟩ := Zfe c r
  unfold spl
  rw [e]
  split <;> exact ⟨_, _, rfl⟩
theorem Ztp {c : Nat} : ∀ {w : List Nat}, c ∉ w -> spl c w = [w]
 | [], _ => rfl
 | x :: r, h => by
  have h1 : ¬ x = c := fun z => h (by simp [z])
  unfold spl
  rw [if_neg h1, Ztp (w := r) fun z => h (by simp [z])]
theorem Zti (l : List Nat) (c i : Nat) : Builtin.Str.subAt (tS l) (tS [c]) i = decide (l[i]? = some c) := by
 unfold Builtin.Str.subAt
 show (l.toArray.extract i (i + 1) == [c].toArray) = _
 rw [Bool.eq_iff_iff, beq_iff_eq, decide_eq_true_iff]
 have e : (l.toArray.extract i (i + 1)).toList = (l.drop i).take 1 := by simp
 constructor
 ·intro h
  have h2 := congrArg Array.toList h
  rw [e] at h2
  have h3 : ((l.drop i).take 1)[0]? = some c := by rw [h2]; rfl
  simpa using h3
 ·intro h
  apply Array.toList_inj.mp
  rw [e]
  have hi : i < l.length := (List.getElem?_eq_some_iff.mp h).1
  rw [List.drop_eq_getElem_cons hi]
  have : l[i] = c := (List.getElem?_eq_some_iff.mp h).2
  simp [this]
theorem Zo3 (l : List Nat) (c : Nat) : ∀ (m a : Nat) (st : Array Nat × Nat), a + m ≤ l.length + 1 -> st.1.size ≤ a -> st.2 ≤ a →
  (forIn (List.range' a m) st (StrLaws.occBody (tS l) (tS [c]) l.length (l.length + 1))).run.fst.toList = st.1.toList ++ (List.range' a m).filter fun i => decide (l[i]? = some c)
 | 0, a, st, _, _, _ => by simp
 | m + 1, a, st, h1, h2, h3 => by
  rw [List.range'_succ, List.forIn_cons]
  unfold StrLaws.occBody
  rw [Zti]
  have tl : (tS [c]).length = 1 := rfl
  by_cases h : l[a]? = some c
  ·have hi : a < l.length := (List.getElem?_eq_some_iff.mp h).1
   rw [if_pos ⟨⟨⟨by omega, h3⟩, by rw [tl]; omega⟩, by rw [decide_eq_true_iff]; exact h⟩]
   have := Zo3 l c m (a + 1) (st.1.push a, a + 1) (by omega) (by simp; omega) (Nat.le_refl _)
   rw [List.filter_cons_of_pos (by simpa using h)]
   refine Eq.trans this ?_
   simp
  ·rw [if_neg (fun z => h (by simpa using z.2))]
   have := Zo3 l c m (a + 1) st (by omega) (by omega) (by omega)
   rw [List.filter_cons_of_neg (by simpa using h)]
   exact this
theorem Ztw (l : List Nat) (c : Nat) : Builtin.Str.occurrences (tS l) (tS [c]) 0 l.length (l.length + 1) = (List.range' 0 l.length).filter fun i => decide (l[i]? = some c) := by
 rw [StrLaws.occ_eq]
 have := Zo3 l c (l.length + 1 - 0) 0 (#[], 0) (by omega) (by simp) (Nat.le_refl _)
 refine Eq.trans this ?_
 rw [Nat.sub_zero, List.range'_concat, List.filter_append]
 simp
theorem Zig (l : List Nat) (i j : Nat) : Builtin.Str.strSub (tS l) i j = tS ((l.drop i).take (j - i)) := by
 unfold Builtin.Str.strSub tS
 congr 1
 apply Array.toList_inj.mp
 simp
theorem Zmi (l : List Nat) (c : Nat) : ∀ (m a : Nat), a + m = l.length -> StrLaws.partsFrom (tS l) 1 a ((List.range' a m).filter fun i => decide (l[i]? = some c)) = (spl c (l.drop a)).map tS
 | 0, a, h => by
  rw [List.drop_eq_nil_of_le (by omega)]
  show [Builtin.Str.strSub (tS l) a (tS l).length] = _
  rw [Zig, List.drop_eq_nil_of_le (by omega)]
  simp [spl]
 | m + 1, a, h => by
  have ha : a < l.length := by omega
  have ih := Zmi l c m (a + 1) (by omega)
  rw [List.range'_succ, List.drop_eq_getElem_cons ha]
  by_cases hc : l[a]? = some c
  ·have e : l[a] = c := (List.getElem?_eq_some_iff.mp hc).2
   rw [List.filter_cons_of_pos (by simpa using hc), spl, if_pos e]
   show Builtin.Str.strSub (tS l) a a :: _ = _
   rw [Zig, Nat.sub_self, List.take_zero, List.map_cons, ih]
  ·have e : ¬ l[a] = c := fun z => hc (List.getElem?_eq_some_iff.mpr ⟨ha, z⟩)
   rw [List.filter_cons_of_neg (by simpa using hc), spl, if_neg e]
   obtain ⟨w, ws, e2⟩ := Zfe c (l.drop (a + 1))
   rw [e2] at ih ⊢
   rw [List.map_cons] at ih ⊢
   have key : ∀ k, a + 1 ≤ k -> Builtin.Str.strSub (tS l) a k = tS (l[a] :: ((l.drop (a + 1)).take (k - (a + 1)))) := fun k hk => by
    rw [Zig, List.drop_eq_getElem_cons ha, show k - a = (k - (a + 1)) + 1 by omega, List.take_succ_cons]
   cases hf : (List.range' (a + 1) m).filter fun i => decide (l[i]? = some c) with
   | nil =>
    rw [hf] at ih
    have i1 : [Builtin.Str.strSub (tS l) (a + 1) (tS l).length] = tS w :: ws.map tS := ih
    rw [Zig] at i1
    obtain ⟨i2, i3⟩ := List.cons.inj i1
    have i2 := Zp4 i2
    show [Builtin.Str.strSub (tS l) a (tS l).length] = _
    rw [key _ (by rw [Zbu]; omega), i2, ← i3]
   | cons k r =>
    rw [hf] at ih
    have i1 : Builtin.Str.strSub (tS l) (a + 1) k :: StrLaws.partsFrom (tS l) 1 (k + 1) r = tS w :: ws.map tS := ih
    rw [Zig] at i1
    obtain ⟨i2, i3⟩ := List.cons.inj i1
    have i2 := Zp4 i2
    have hk : a + 1 ≤ k := by
     have : k ∈ (List.range' (a + 1) m).filter fun i => decide (l[i]? = some c) := by rw [hf]; exact List.mem_cons_self ..
     exact (List.mem_range'_1.mp (List.mem_filter.mp this).1).1
    show Builtin.Str.strSub (tS l) a k :: StrLaws.partsFrom (tS l) 1 (k + 1) r = _
    rw [key _ hk, i2, i3]
theorem Zqi {c : Nat} (hc : c < 256) (l : List Nat) : Zf8 (tS l) (tS [c]) = (spl c l).map tS := by
 unfold Zf8
 have k1 : Builtin.Str.strKind (tS [c]) = 1 := by
  unfold Builtin.Str.strKind
  rw [if_pos (by simp [tS, hc])]
 have k2 : ¬ Builtin.Str.strKind (tS l) < 1 := by
  unfold Builtin.Str.strKind
  split
  ·decide
  ·split <;> decide
 rw [k1, decide_eq_false k2, Bool.or_false, Zbu, Zbu]
 by_cases h0 : l.length < 1
 ·have : l = [] := List.length_eq_zero_iff.mp (by omega)
  subst this
  rfl
 ·rw [if_neg (by simpa using h0), Ztw]
  have pg := Zmi l c l.length 0 (by omega)
  rw [List.drop_zero] at pg
  split
  ·rename_i he
   have he := List.isEmpty_iff.mp he
   rw [he] at pg
   rw [← pg]
   show [tS l] = [Builtin.Str.strSub (tS l) 0 (tS l).length]
   rw [Zig, Zbu]
   simp
  ·rw [StrLaws.partsBetween_eq]
   exact pg
noncomputable def jnL (g : List Nat) : List (List Nat) -> List Nat
 | [] => []
 | w :: r => w ++ (r.map (g ++ ·)).flatten
theorem Znr (g : List Nat) : ∀ (r : List (List Nat)) (a : List Nat), (r.map tS).foldl (fun acc p => acc ++ (tS g).cps ++ p.cps) a.toArray = (a ++ (r.map (g ++ ·)).flatten).toArray
 | [], a => by simp
 | w :: r, a => by
  rw [List.map_cons, List.foldl_cons]
  have : a.toArray ++ (tS g).cps ++ (tS w).cps = (a ++ g ++ w).toArray := by simp [tS]
  rw [this, Znr g r]
  simp
theorem Zvc (g : List Nat) (ws : List (List Nat)) : Zkz (tS g) (ws.map tS) = tS (jnL g ws) := by
 have gl : ∀ w r, Builtin.Str.glued (tS g) (tS w :: r.map tS) = tS (jnL g (w :: r)) := fun w r => by
  unfold Builtin.Str.glued
  show Str.mk ((r.map tS).foldl _ w.toArray) = _
  rw [Znr]
  rfl
 cases ws with
 | nil =>
  show Builtin.Str.glued (tS g) [] = _
  unfold Builtin.Str.glued
  rfl
 | cons w r =>
  cases r with
  | nil =>
   show tS w = tS (w ++ [])
   rw [List.append_nil]
  | cons w2 r => exact gl w (w2 :: r)
theorem Ziv (g : List Nat) : ∀ ws : List (List Nat), (jnL g ws).length ≤ (ws.map List.length).sum + ws.length * g.length
 | [] => by simp [jnL]
 | w :: r => by
  unfold jnL
  rw [List.length_append, List.length_flatten, List.map_map, List.map_cons, List.sum_cons, List.length_cons]
  have : ∀ r : List (List Nat), (r.map (List.length ∘ fun x => g ++ x)).sum = (r.map List.length).sum + r.length * g.length := by
   intro r
   induction r with
   | nil => simp
   | cons x t ih =>
    rw [List.map_cons, List.sum_cons, ih, List.map_cons, List.sum_cons, List.length_cons, Nat.succ_mul]
    simp only [Function.comp, List.length_append]
    omega
  rw [this, Nat.succ_mul]
  omega
theorem Zlw (g : List Nat) : ∀ (ws : List (List Nat)) (n : Nat), (ws.map tS).foldl (fun a x => a + x.length + (tS g).length) n = n + (ws.map List.length).sum + ws.length * g.length
 | [], n => by simp
 | w :: r, n => by
  rw [List.map_cons, List.foldl_cons, Zlw g r, Zbu, Zbu, List.map_cons, List.sum_cons, List.length_cons, Nat.succ_mul]
  omega
theorem Zo1 : ∀ ws : List (List Nat), Zks (ws.map tx) = some (ws.map tS)
 | [] => rfl
 | w :: r => by
  rw [List.map_cons]
  show (Zks (r.map tx)).map (tS w :: ·) = _
  rw [Zo1 r]
  rfl
theorem Zlj {g : List Nat} {d : D} {ws : List (List Nat)} (hs : Zg8 d H = some (ws.map tx)) (hl : (ws.map List.length).sum + ws.length * g.length ≤ 100000) (q : Q (tx (jnL g ws)) H) : wE (Zlc (tx g) [d] H) Q := by
 refine ⟨_, _, ?_, q⟩
 show (Zg8 d H).bind _ = _
 rw [hs]
 simp only [Zb]
 rw [Zo1]
 simp only [Zb]
 rw [Zvc]
 refine if_pos ⟨?_, ?_⟩
 ·unfold Builtin.Str.tooLong
  rw [List.foldl_toArray, Zlw, sizeLine_eq]
  simp only [decide_eq_false_iff_not]
  omega
 ·have := Ziv g ws
  rw [Zbu, sizeLine_eq]; omega
theorem Zfh {c : Nat} {l : List Nat} (hc : c < 256) (hl : l.length ≤ 100000) (hp : (spl c l).length ≤ 100000) (q : Q (.ref H.length) (H ++ [.lst ((spl c l).map tx)])) : wE (Zcs (tx l) [tx [c]] H) Q := by
 refine ⟨_, _, ?_, q⟩
 show (if ((tS [c]).length == 0) = false ∧ (tS l).length ≤ sizeLine then mkL ((Zf8 (tS l) (tS [c])).map .str) H else none) = _
 rw [if_pos ⟨rfl, by rw [Zbu, sizeLine_eq]; omega⟩, Zqi hc, List.map_map]
 unfold mkL
 rw [if_pos (by rw [List.length_map, sizeLine_eq]; omega)]
 rfl
theorem Zef (c : Nat) : ∀ l, (spl c l).length ≤ l.length + 1
 | [] => by simp [spl]
 | x :: r => by
  have ih := Zef c r
  obtain ⟨w, ws, e⟩ := Zfe c r
  unfold spl
  rw [e] at ih ⊢
  split
  ·simp at ih ⊢; omega
  ·simp at ih ⊢; omega
theorem Zji {p : Nat} {xs : List D} {k : Nat} (g : H[p]? = some (.lst xs)) (q : Q (.ref H.length) (H ++ [.lst (xs.drop k)])) : wE (slD (.ref p) (some (k : Int)) none H) Q :=
 ⟨_, _, by rw [← Zqc]; simp only [slD, g], q⟩
theorem Zrl.drop {ds : List Int} (h : Zrl ds) (k : Nat) : Zrl (ds.drop k) := fun d hd => h d (List.mem_of_mem_drop hd)
theorem Zfp (ls : List Int) : Fines (ls.map .int) (ls.map .int) 0 := by
 induction ls with
 | nil => exact .nil
 | cons l r ih => exact .cons (.int l) ih
theorem Zo0 {sd : D} {most : Nat} (at' : ∀ (H1 : HD) (k : Int) (Q : D -> HD -> Prop), Fm [] H H1 -> 0 ≤ k -> k ≤ 1000 -> (∀ c, Q (.int c) H1) -> wE (Ze5 [sd, .int k] H1) Q) (hm : 2 ≤ most ∧ most ≤ 8) (q : ∀ ks rss H', Cl ks rss -> ks.length ≤ most -> rss.length ≤ 20 -> Fm [] H H' -> Q (Zgo ks rss) H') : wE (Zdm [sd, .int most] H) Q := by
 refine Zda rfl ?_
 show wS (Zcd [some sd, some (.int most), none, none, none, none, none] H) _
 unfold Zcd
 (repeat fail "go")
 refine at' _ _ _ .refl (by omega) (by omega) fun c => ?_
 (repeat fail "go")
 refine Zgv (many := 14) (by omega) fun ds pd H1 l1 d1 g1 n1 x1 => ?_
 (repeat fail "go")
 refine Zcg g1 d1 (by omega) (by omega) fun a a0 a1 => ?_
 (repeat fail "go")
 refine w_mod (by omega) ?_
 (repeat fail "go")
 refine Zcg g1 d1 (by omega) (by omega) fun a' a0' a1' => ?_
 (repeat fail "go")
 refine Zcg (appL g1) d1 (by omega) (by omega) fun b b0 b1 => ?_
 (repeat fail "go")
 have m3 : b % 3 = 0 ∨ b % 3 = 1 ∨ b % 3 = 2 := by omega
 obtain ⟨N, hN, eN⟩ : ∃ N : Nat, N ≤ most ∧ atI [D.int (a % ((most : Int) + 1)), .int ((most : Int) - a' % 3), .int (most : Int)] (b % 3) = some (.int N) := by
  have e1 := Int.emod_nonneg a (show (most : Int) + 1 ≠ 0 by omega)
  have e2 := Int.emod_lt_of_pos a (show 0 < (most : Int) + 1 by omega)
  rcases m3 with z | z | z <;> rw [z]
  ·refine ⟨(a % ((most : Int) + 1)).toNat, by omega, ?_⟩
   rw [Int.toNat_of_nonneg e1]; rfl
  ·refine ⟨((most : Int) - a' % 3).toNat, by omega, ?_⟩
   rw [Int.toNat_of_nonneg (by omega)]; rfl
  ·exact ⟨most, Nat.le_refl _, rfl⟩
 refine w_ixR last eN ?_
 (repeat fail "go")
 refine Zji (k := 2) (appL g1) ?_
 (repeat fail "go")
 rw [show (if (N : Int) > 0 then (N : Int) else 0) = (N : Int) by split <;> omega]
 rw [← List.map_drop]
 refine Zvv (many := N) last (d1.drop 2) (by simp; omega) (by omega) fun ks H2 hk lk x2 => ?_
 have X2 : Fm [] H H2 := ((x1.trans (Fm.app _)).trans (Fm.app _)).trans x2
 have g2 := x2.lst (by simp) (appL (u := DO.lst ((ds.drop 2).map D.int)) (appL (u := DO.lst [D.int (a % ((most : Int) + 1)), .int ((most : Int) - a' % 3), .int (most : Int)]) g1))
 (repeat fail "go")
 refine Zcg g2 d1 (by omega) (by omega) fun u0 u1 u2 => ?_
 (repeat fail "go")
 refine Zcg g2 d1 (by omega) (by omega) fun v0 v1 v2 => ?_
 (repeat fail "go")
 refine Zcg g2 d1 (by omega) (by omega) fun y0 y1 y2 => ?_
 (repeat fail "go")
 refine Zcg (appL g2) d1 (by omega) (by omega) fun e e0 e1 => ?_
 (repeat fail "go")
 have m3' : e % 3 = 0 ∨ e % 3 = 1 ∨ e % 3 = 2 := by omega
 obtain ⟨Z, hZ, eZ⟩ : ∃ Z : Nat, Z ≤ 20 ∧ atI [D.int (u0 % 5), .int (v0 % 11), .int (5 + y0 % 16)] (e % 3) = some (.int Z) := by
  rcases m3' with z | z | z <;> rw [z]
  ·refine ⟨(u0 % 5).toNat, by omega, ?_⟩
   rw [Int.toNat_of_nonneg (by omega)]; rfl
  ·refine ⟨(v0 % 11).toNat, by omega, ?_⟩
   rw [Int.toNat_of_nonneg (by omega)]; rfl
  ·refine ⟨(5 + y0 % 16).toNat, by omega, ?_⟩
   rw [Int.toNat_of_nonneg (by omega)]; rfl
 refine w_ixR last eZ ?_
 (repeat fail "go")
 refine ⟨_, rfl, ⟨by omega, by omega⟩, ?_⟩
 rw [Int.toNat_natCast]
 have Y : Fm [] H (H2 ++ [DO.lst [D.int (u0 % 5), .int (v0 % 11), .int (5 + y0 % 16)]]) := X2.trans (Fm.app _)
 refine Znu (fun d t o H' => ∃ rss : List (List Int), o = rss.map Zgt ∧ rss.length = d.length ∧ d.length + t.length = Z ∧ (∀ ls ∈ rss, Up N 0 ls) ∧ (∀ x ∈ t, ∃ i : Nat, x = .int i ∧ i ≤ 100) ∧ True ∧ H'[pd]? = some (.lst (ds.map .int)) ∧ Fm [] H H') (fun _ _ _ _ _ => Zna) (fun d x t o H3 ⟨rss, i1, i2, i3, i4, i5, i6, i7, i8⟩ => ?_) _ [] [] _ ⟨[], rfl, rfl, by simp [Zbb], by simp, fun x hx => ?_, trivial, appL g2, Y⟩ (fun d o H3 ⟨rss, i1, i2, i3, i4, i5, i6, i7, i8⟩ => ?_)
 ·obtain ⟨i, rfl, hi⟩ := i5 x (by simp)
  (repeat fail "go")
  refine at' _ _ _ i8 (by omega) (by omega) fun cell => ?_
  (repeat fail "go")
  rw [lk]
  refine Zu8 (by omega) fun ls H4 u x4 => ?_
  refine ⟨rss ++ [ls], by rw [i1]; simp, by simp [i2], by simp at i3 ⊢; omega, fun y hy => ?_, fun y hy => i5 y (by simp [hy]), trivial, x4.lst (by simp) i7, i8.trans x4⟩
  rcases List.mem_append.mp hy with z | z
  ·exact i4 y z
  ·simp at z; subst z; exact u
 ·simp only [Zbb, List.mem_map, List.mem_range] at hx
  obtain ⟨k, hk, rfl⟩ := hx
  exact ⟨k, by simp, by omega⟩
 rw [List.nil_append] at i1
 simp only [List.length_nil, Nat.add_zero] at i3
 subst i1
 refine ⟨by simp; omega, ?_⟩
 show wS (Zam _ _ [some sd, some (.int most), some (.ref pd), some (.int N), some (.tup ks), some (.int Z), some (.ref H3.length)] (H3 ++ [.lst (rss.map Zgt)])) _
 refine w_seq (Zja (fun σ H' => ∃ (rs : List (List Int)) (pr : Nat), H'[pr]? = some (.lst (rs.map Zgt)) ∧ rs.length ≤ 20 ∧ (∀ ls ∈ rs, Up N 0 ls) ∧ Fm [] H H' ∧ σ = [some sd, some (.int most), some (.ref pd), some (.int N), some (.tup ks), some (.int Z), some (.ref pr)]) ?_ ?_)
 ·(refine WP.w_if ?_; (repeat fail "go"))
  refine Zcg (appL i7) d1 (by omega) (by omega) fun r r0 r1 => ?_
  (repeat fail "go")
  refine ⟨fun h => ?_, fun h => ?_⟩
  ·(repeat fail "go")
   refine Zfv (fun d => match d with | .tup xs => !xs.isEmpty | _ => true) (fun H' => H' = H3 ++ [.lst (rss.map Zgt)]) (fun _ j => by rw [j]; exact Zni last) _ (fun x hx H4 j => ?_) _ rfl fun H4 j => ?_
   ·obtain ⟨ls, hls, rfl⟩ := List.mem_map.mp hx
    subst j
    (repeat fail "go")
    refine Zua (Fine.tup (Zfp ls)) (Fine.tup (h := 0) Fines.nil) (by omega) (by omega) ?_
    refine ⟨_, rfl, ?_, rfl⟩
    cases ls <;> simp [PyData.eqv, PyData.eqvAll, Zgt]
   ·subst j
    have ef : (rss.map Zgt).filter (fun d => match d with | .tup xs => !xs.isEmpty | _ => true) = (rss.filter fun ls => !ls.isEmpty).map Zgt := by
     rw [List.filter_map]
     congr 1
     exact List.filter_congr fun ls _ => by cases ls <;> rfl
    rw [ef]
    have lf := List.length_filter_le (fun ls : List Int => !ls.isEmpty) rss
    refine ⟨by simp; omega, ?_⟩
    (repeat fail "go")
    exact ⟨rfl, _, _, last, by omega, fun ls h => i4 ls (List.mem_filter.mp h).1, (i8.trans (Fm.app _)).trans (Fm.app _), rfl⟩
  ·(repeat fail "go")
   exact ⟨rfl, rss, _, last, by omega, i4, i8.trans (Fm.app _), rfl⟩
 rintro _ H4 ⟨rs, pr, g4, l4, u4, X4, rfl⟩
 (repeat fail "go")
 refine q ks rs H4 ⟨hk, fun ls h => by rw [lk]; exact u4 ls h, by omega, by omega⟩ (by omega) l4 X4
noncomputable def kw (d : D) : List Nat := if kS d then [115, 111, 109, 101] else [97, 108, 108]
theorem Zvd {d : D} (h : Zeo d) : d = tx (kw d) := by
 rw [Zpe h]
 cases kS d with
 | true =>
  show D.str "some" = D.str _
  congr 1
 | false =>
  show D.str "all" = D.str _
  congr 1
theorem Zlh {ks : List D} (h : ∀ d ∈ ks, Zeo d) : ks = (ks.map kw).map tx := by
 rw [List.map_map]
 conv => lhs; rw [← List.map_id ks]
 exact List.map_congr_left fun d hd => Zvd (h d hd)
noncomputable def lw (i : Int) : List Nat := if i < 0 then [45, 48 + i.natAbs] else [48 + i.natAbs]
theorem Zxo : ∀ k : Fin 19, (Str.ofString (toString ((k.val : Int) - 9))) = tS (lw ((k.val : Int) - 9)) := by decide
theorem Zyw {i : Int} (h0 : -9 ≤ i) (h1 : i ≤ 9) (q : Q (tx (lw i)) H) : wE (Zwr [.int i] H) Q := by
 refine ⟨_, _, ?_, q⟩
 show (if -1000000000 ≤ i ∧ i ≤ 1000000000 then some (D.str (Str.ofString (toString i)), H) else none) = _
 rw [if_pos (by omega)]
 have := Zxo ⟨(i + 9).toNat, by omega⟩
 simp only [show (((i + 9).toNat : Nat) : Int) - 9 = i by omega] at this
 rw [this]
 rfl
noncomputable def rln (ls : List Int) : List Nat := if ls = [] then [48] else jnL [32] (ls.map lw)
noncomputable def kln (ks : List D) : List Nat := if ks = [] then [45] else jnL [32] (ks.map kw)
noncomputable def cln (ks : List D) (rss : List (List Int)) : List (List Nat) := kln ks :: rss.map rln
noncomputable def ctx (ks : List D) (rss : List (List Int)) : List Nat := ((cln ks rss).map (· ++ [10])).flatten
theorem Ztr (i : Int) : (lw i).length ≤ 2 := by unfold lw; split <;> simp
theorem Zta (d : D) : (kw d).length ≤ 4 := by unfold kw; split <;> simp
theorem Zmd {α : Type} (f : α -> Nat) (n : Nat) : ∀ (l : List α), (∀ x ∈ l, f x ≤ n) -> (l.map f).sum ≤ l.length * n
 | [], _ => by simp
 | x :: r, h => by
  have := Zmd f n r fun y hy => h y (by simp [hy])
  have := h x (by simp)
  rw [List.map_cons, List.sum_cons, List.length_cons, Nat.succ_mul]
  omega
theorem Ztj {m : Int} (hm : m ≤ 8) : ∀ (ls : List Int) (last : Int), 0 ≤ last -> Up m last ls -> (ls.length : Int) + last ≤ m ∨ ls = []
 | [], _, _, _ => .inr rfl
 | l :: r, last, h0, u => by
  obtain ⟨u1, u2, u3⟩ := u
  rcases Ztj hm r (Zdf l) (by omega) u3 with z | z
  ·left; simp; omega
  ·subst z; left; simp; omega
theorem Zqh {m : Int} : ∀ (ls : List Int) (last : Int), 0 ≤ last -> Up m last ls -> ∀ x ∈ ls, last < Zdf x ∧ Zdf x ≤ m
 | [], _, _, _, x, hx => by simp at hx
 | l :: r, last, h0, u, x, hx => by
  obtain ⟨u1, u2, u3⟩ := u
  rcases List.mem_cons.mp hx with rfl | hx
  ·exact ⟨u1, u2⟩
  ·have := Zqh r (Zdf l) (by omega) u3 x hx
   exact ⟨by omega, this.2⟩
theorem Zg0 (x : Int) : Zdf x = x.natAbs := by unfold Zdf; split <;> omega
theorem Zhu {m : Int} (hm : m ≤ 8) {ls : List Int} (u : Up m 0 ls) : ls.length ≤ 8 := by
 rcases Ztj hm ls 0 (by omega) u with z | z
 ·omega
 ·subst z; simp
theorem Zin {ws : List (List Nat)} {n : Nat} (h : ∀ w ∈ ws, w.length ≤ n) (hl : ws.length * n + ws.length ≤ 100000) : (ws.map List.length).sum + ws.length * [32].length ≤ 100000 := by
 have := Zmd List.length n ws h
 simp
 omega
theorem Znn {g : D -> List D -> HD -> Option (D × HD)} {fo : EF} {f : AF} {σ : SD} (h : wE (fo σ H) fun o H1 => Zs7 o = true ∧ wA (f σ H1) fun ds H2 => wE (g o ds H2) Q) : wE (eSM g fo f σ H) Q := by
 obtain ⟨o, H1, e1, i, ds, H2, e2, d, H3, e3, q⟩ := h
 exact ⟨d, H3, by unfold eSM; rw [e1]; simp only [Zb]; rw [if_pos i, e2]; exact e3, q⟩
theorem s_sp : (D.str " ") = tx [32] := rfl
theorem Zwj : (D.str "\n") = tx [10] := rfl
theorem s_mi : (D.str "-") = tx [45] := rfl
theorem s_ze : (D.str "0") = tx [48] := rfl
theorem Zi9 {m : Int} (hm : m ≤ 8) {ls : List Int} (u : Up m 0 ls) : (rln ls).length ≤ 24 := by
 have hl := Zhu hm u
 unfold rln
 split
 ·simp
 ·have h1 := Ziv [32] (ls.map lw)
  have h2 := Zmd List.length 2 (ls.map lw) fun w hw => by
   obtain ⟨i, _, rfl⟩ := List.mem_map.mp hw
   exact Ztr i
  simp only [List.length_map, List.length_cons, List.length_nil] at h1 h2
  omega
theorem Zlb {ks : List D} (h : ks.length ≤ 8) : (kln ks).length ≤ 40 := by
 unfold kln
 split
 ·simp
 ·have h1 := Ziv [32] (ks.map kw)
  have h2 := Zmd List.length 4 (ks.map kw) fun w hw => by
   obtain ⟨i, _, rfl⟩ := List.mem_map.mp hw
   exact Zta i
  simp only [List.length_map, List.length_cons, List.length_nil] at h1 h2
  omega
theorem Zek {a b : Nat} {xs ys : List D} (ga : H[a]? = some (.lst xs)) (gb : H[b]? = some (.lst ys)) (hl : xs.length + ys.length ≤ 1000000) (q : Q (.ref H.length) (H ++ [.lst (xs ++ ys)])) : wE (Zbx (.ref a) (.ref b) H) Q := by
 refine ⟨_, _, ?_, q⟩
 simp only [Zbx, ga, gb]
 unfold mkL
 rw [if_pos (by rw [List.length_append, sizeLine_eq]; omega)]
theorem Zt8 {ks : List D} {rss : List (List Int)} (c : Cl ks rss) : ∀ w ∈ cln ks rss, w.length ≤ 40 := by
 intro w hw
 have h8 := c.h8
 rcases List.mem_cons.mp hw with rfl | hw
 ·exact Zlb c.h8
 ·obtain ⟨ls, hls, rfl⟩ := List.mem_map.mp hw
  have := Zi9 (by omega) (c.hu ls hls)
  omega
theorem Zkg : ∀ (rs : List (List Nat)) (a : List Nat), rs.foldl (fun acc r => acc ++ 10 :: r) a ++ [10] = a ++ [10] ++ (rs.map (· ++ [10])).flatten
 | [], a => by simp
 | r :: t, a => by
  rw [List.foldl_cons, Zkg t]
  simp
theorem Zr6 (ks : List D) (rss : List (List Int)) : (rss.map rln).foldl (fun acc r => acc ++ 10 :: r) (kln ks) ++ [10] = ctx ks rss := by
 rw [Zkg]
 rfl
noncomputable def Asx (l : List Nat) : Prop := ∀ c ∈ l, c < 128
theorem Zpz {l : List Nat} (h : Asx l) : Fine (tx l) (.str (tS l)) 0 := by
 refine Fine.str ?_
 unfold PyData.strOk
 rw [← Array.all_toList, List.all_eq_true]
 intro c hc
 have := h c (by simpa [tS] using hc)
 exact decide_eq_true (by omega)
theorem Zet (ws : List (List Nat)) (h : ∀ n ∈ ws, Asx n) : Fines (ws.map tx) (ws.map fun n => .str (tS n)) 0 := by
 induction ws with
 | nil => exact .nil
 | cons n r ih => exact .cons (Zpz (h n (by simp))) (ih fun m hm => h m (by simp [hm]))
theorem Zph : ∀ (a b : List (List Nat)), PyData.eqvAll (a.map fun n => .str (tS n)) (b.map fun n => .str (tS n)) = decide (a = b)
 | [], [] => by simp [PyData.eqvAll]
 | [], y :: b => by simp [PyData.eqvAll]
 | x :: a, [] => by simp [PyData.eqvAll]
 | x :: a, y :: b => by
  rw [List.map_cons, List.map_cons, PyData.eqvAll, Zph a b]
  have : PyData.eqv (.str (tS x)) (.str (tS y)) = decide (x = y) := by
   rw [show PyData.eqv (.str (tS x)) (.str (tS y)) = (tS x == tS y) by simp [PyData.eqv], Zll]
  rw [this]
  by_cases h1 : x = y
  ·subst h1; simp
  ·simp [h1]
theorem Ztg {p q : Nat} {a b : List (List Nat)} (g : H[p]? = some (.lst (a.map tx))) (g2 : H[q]? = some (.lst (b.map tx))) (ha : ∀ n ∈ a, Asx n) (hb : ∀ n ∈ b, Asx n) (z : Q (.bl (decide (a = b))) H) : wE (eqD (.ref p) (.ref q) H) Q := by
 refine ⟨_, _, Zi7 ((Zet a ha).dat (by decide) g) ((Zet b hb).dat (by decide) g2), ?_⟩
 rw [PyData.eqv, Zph]
 exact z
theorem Zw1 {i : Int} (h : i.natAbs ≤ 9) : Asx (lw i) := by
 intro c hc
 unfold lw at hc
 split at hc <;> simp at hc <;> omega
theorem Zte (d : D) : Asx (kw d) := by
 intro c hc
 unfold kw at hc
 split at hc <;> simp at hc <;> omega
theorem rfine (ls : List Int) : Fine (Zgt ls) (.tuple (ls.map .int)) 1 := Fine.tup (Zfp ls)
theorem Zzs (rss : List (List Int)) : Fines (rss.map Zgt) (rss.map fun ls => .tuple (ls.map .int)) 1 := by
 induction rss with
 | nil => exact .nil
 | cons l r ih => exact .cons (rfine l) ih
theorem Zxr {i : Int} (h0 : i ≠ 0) : (if decide (0 < i) = true then ([] : List Nat) else [45]) ++ [48 + i.natAbs] = lw i := by
 unfold lw
 by_cases h : i < 0
 ·rw [if_neg (by simp; omega), if_pos h]; rfl
 ·rw [if_pos (by simp; omega), if_neg h]; rfl
theorem Znb {m : Int} {ls : List Int} (hm : m ≤ 8) (u : Up m 0 ls) {pw : Nat} {σ4 : Option D} {a b c : Option D} (gw : H[pw]? = some (.lst [])) {R : FD -> SD -> HD -> Prop}
  (q : ∀ z H', H'[pw]? = some (.lst ((ls.map lw).map tx)) -> Fm [pw] H H' -> R .nx [a, b, c, some (.ref pw), z] H') :
  wS (Zf0 [] (gNm 4) (Zam (Zcv (eLM Zbo (Zah 3) (Zac (eOp Zbx (eOp ixD (Zc8 (Zac (eC (.str "-")) (Zac (eC (.str "")) Zan))) (eCB Znm (Zac (eOp gtD (Zah 4) (eC (.int 0))) Zan))) (eCB Zwr (Zac (eCB Znl (Zac (Zah 4) Zan)) Zan))) Zan)))
 Zav) (ls.map .int) [a, b, c, some (.ref pw), σ4] H) R := by
 refine Zhm (fun d t σ H' => ∃ (done : List Int) (z : Option D), d = done.map .int ∧ (∃ rest : List Int, t = rest.map .int ∧ done ++ rest = ls) ∧ H'[pw]? = some (.lst ((done.map lw).map tx)) ∧ Fm [pw] H H' ∧ σ = [a, b, c, some (.ref pw), z]) (fun _ _ _ _ _ => Zna) (fun d x t σ H' z => ?_) (fun d σ H' z => ?_) (ls.map .int) [] _ _ ⟨[], σ4, rfl, ⟨ls, rfl, rfl⟩, gw, .refl, rfl⟩
 ·obtain ⟨done, z, rfl, ⟨rest, e1, e2⟩, g, x1, rfl⟩ := z
  cases rest with
  | nil => cases e1
  | cons i rest =>
   rw [List.map_cons] at e1
   obtain ⟨rfl, rfl⟩ := List.cons.inj e1
   have hi := Zqh ls 0 (by omega) u i (by rw [← e2]; simp)
   rw [Zg0] at hi
   have hl := Zhu hm u
   have hdl : done.length ≤ 8 := by rw [← e2] at hl; simp at hl; omega
   (repeat fail "go")
   refine ⟨isl g, ?_⟩
   (repeat fail "go")
   refine w_ixR last (i := (if decide (0 < i) = true then 1 else 0)) (d := tx (if decide (0 < i) = true then [] else [45])) ?_ ?_
   ·split
    ·exact Zeh (j := 1) rfl
    ·exact Zeh (j := 0) rfl
   (repeat fail "go")
   rw [Zg0]
   refine Zyw (by omega) (by omega) ?_
   have el : lw (i.natAbs : Int) = [48 + i.natAbs] := by unfold lw; rw [if_neg (by omega)]; simp
   rw [el]
   refine Zd2 (by split <;> simp) ?_
   rw [Zxr (by omega)]
   (repeat fail "go")
   refine Zkp (appL g) (by simp; omega) ?_
   (repeat fail "go")
   have hp : pw < H'.length := (List.getElem?_eq_some_iff.mp g).1
   refine ⟨done ++ [i], _, by simp, ⟨rest, rfl, by simp [e2]⟩, ?_, ?_, rfl⟩
   ·rw [Zys (appL g)]; simp
   ·exact (x1.trans (.app _)).trans (.set (by simp))
 ·obtain ⟨done, z, rfl, ⟨rest, e1, e2⟩, g, x1, rfl⟩ := z
  have : rest = [] := by cases rest with | nil => rfl | cons _ _ => cases e1
  subst this
  rw [List.append_nil] at e2
  subst e2
  exact q z H' g x1
theorem Zk2 {ks : List D} {x : PyData} {xs : List PyData} {h : Nat} (f : Fines ks xs h) (hh : h < 30) (q : Q (.bl ks.isEmpty) H) : wE (eqD (.tup ks) (.tup []) H) Q := by
 refine Zx9 (Fine.tup f) (Fine.tup (h := 0) Fines.nil) (by omega) (by omega) ?_
 have e : PyData.eqv (.tuple xs) (.tuple []) = ks.isEmpty := by
  have := f.len
  cases xs with
  | nil =>
   cases ks with
   | nil => simp [PyData.eqv, PyData.eqvAll]
   | cons _ _ => simp at this
  | cons y ys =>
   cases ks with
   | nil => simp at this
   | cons _ _ => simp [PyData.eqv, PyData.eqvAll]
 rw [e]
 exact q
theorem Zpn {ks : List D} {rss : List (List Int)} (c : Cl ks rss) (hr : rss.length ≤ 100) (q : ∀ H', Fm [] H H' -> Q (tx (ctx ks rss)) H') : wE (Ze6 [Zgo ks rss] H) Q := by
 have h8 := c.h8
 refine Zda rfl ?_
 show wS (Zd7 [some (Zgo ks rss), none, none, none, none] H) _
 unfold Zd7
 refine w_seq (w_set ?_)
 refine Znn ?_
 (repeat fail "go")
 refine ⟨rfl, ?_⟩
 (repeat fail "go")
 rw [s_sp]
 refine Zlj (ws := ks.map kw) (by show some ks = _; rw [← Zlh c.hk]) (Zin (n := 4) (fun w hw => ?_) (by simp; omega)) ?_
 ·obtain ⟨i, _, rfl⟩ := List.mem_map.mp hw
  exact Zta i
 (repeat fail "go")
 refine Zja (fun σ H' => H' = H ∧ σ = [some (Zgo ks rss), some (tx (kln ks)), none, none, none]) ?_ fun σ H' z => ?_
 ·refine w_if ?_
  (repeat fail "go")
  have fk := Zet (ks.map kw) fun n hn => by obtain ⟨d, _, rfl⟩ := List.mem_map.mp hn; exact Zte d
  rw [← Zlh c.hk] at fk
  refine Zk2 (x := .none) fk (by omega) ?_
  refine w_bl ?_
  cases ks with
  | nil =>
   refine w_bt ?_
   (repeat fail "go")
   exact ⟨rfl, rfl, rfl⟩
  | cons k r =>
   refine w_bf ?_
   (repeat fail "go")
   refine ⟨rfl, rfl, ?_⟩
   unfold kln
   rw [if_neg (by simp)]
   rfl
 obtain ⟨rfl, rfl⟩ := z
 (repeat fail "go")
 refine Zhm (fun d t σ H1 => ∃ (done : List (List Int)) (z2 z3 z4 : Option D), d = done.map Zgt ∧ (∃ rest : List (List Int), t = rest.map Zgt ∧ done ++ rest = rss) ∧ Fm [] H' H1 ∧ σ = [some (Zgo ks rss), some (tx ((done.map rln).foldl (fun acc r => acc ++ 10 :: r) (kln ks))), z2, z3, z4]) (fun _ _ _ _ _ => Zna) (fun d x t σ H1 z => ?_) (fun d σ H1 z => ?_) (rss.map Zgt) [] _ _ ⟨[], _, _, _, rfl, ⟨rss, rfl, rfl⟩, .refl, rfl⟩
 ·obtain ⟨done, z2, z3, z4, rfl, ⟨rest, e1, e2⟩, x1, rfl⟩ := z
  cases rest with
  | nil => cases e1
  | cons ls rest =>
   rw [List.map_cons] at e1
   obtain ⟨rfl, rfl⟩ := List.cons.inj e1
   have hu := c.hu ls (by rw [← e2]; simp)
   have hl := Zhu (by omega) hu
   have hrl := Zi9 (by omega) hu
   have hacc : ((done.map rln).foldl (fun acc r => acc ++ 10 :: r) (kln ks)).length ≤ 5000 := by
    have h1 : ∀ (rs : List (List Nat)) (a : List Nat), (∀ r ∈ rs, r.length ≤ 24) -> (rs.foldl (fun acc r => acc ++ 10 :: r) a).length ≤ a.length + rs.length * 25 := by
     intro rs
     induction rs with
     | nil => intro a _; simp
     | cons r t ih =>
      intro a hh
      have := ih (a ++ 10 :: r) fun y hy => hh y (by simp [hy])
      have := hh r (by simp)
      rw [List.foldl_cons, List.length_cons, Nat.succ_mul]
      simp at *
      omega
    have h2 := h1 (done.map rln) (kln ks) fun r hr' => by
     obtain ⟨l, hl', rfl⟩ := List.mem_map.mp hr'
     exact Zi9 (by omega) (c.hu l (by rw [← e2]; simp [hl']))
    have h3 := Zlb h8
    have h4 : done.length ≤ 100 := by rw [← e2] at hr; simp at hr; omega
    rw [List.length_map] at h2
    omega
   (repeat fail "go")
   refine w_itT ?_
   refine Znb (m := ks.length) (by omega) hu last fun z5 H2 g2 x2 => ?_
   have X2 : Fm [] H' H2 := x1.new ((Fm.app (S := [H1.length]) [DO.lst []]).trans x2) fun m hm _ => by
    simp at hm; subst hm; exact x1.len
   refine w_kn (w_seq (Zja (fun σ H3 => ∃ p, H3[p]? = some (.lst ((if ls = [] then [[48]] else ls.map lw).map tx)) ∧ Fm [] H2 H3 ∧ σ = [some (Zgo ks rss), some (tx ((done.map rln).foldl (fun acc r => acc ++ 10 :: r) (kln ks))), some (Zgt ls), some (.ref p), z5]) ?_ fun σ H3 z => ?_))
   ·refine w_if ?_
    (repeat fail "go")
    refine Zk2 (x := .none) (Zfp ls) (by omega) ?_
    refine w_bl ?_
    cases ls with
    | nil =>
     refine w_bt ?_
     (repeat fail "go")
     exact ⟨rfl, _, last, .app _, rfl⟩
    | cons l r =>
     refine w_bf ?_
     (repeat fail "go")
     exact ⟨rfl, _, by rw [if_neg (by simp)]; exact g2, .refl, rfl⟩
   obtain ⟨p, g3, x3, rfl⟩ := z
   (repeat fail "go")
   rw [Zwj]
   refine Zd2 (by show _ + 1 ≤ 100000; omega) ?_
   refine Znn ?_
   (repeat fail "go")
   refine ⟨rfl, ?_⟩
   (repeat fail "go")
   refine Zlj (ws := if ls = [] then [[48]] else ls.map lw) (by simp [Zg8, g3]) ?_ ?_
   ·split
    ·simp
    ·refine Zin (n := 2) (fun w hw => ?_) (by simp; omega)
     obtain ⟨i, _, rfl⟩ := List.mem_map.mp hw
     exact Ztr i
   have er : jnL [32] (if ls = [] then [[48]] else ls.map lw) = rln ls := by
    unfold rln
    split
    ·rfl
    ·rfl
   rw [er]
   refine Zd2 (by rw [List.length_append]; show _ + 1 + _ ≤ 100000; omega) ?_
   (repeat fail "go")
   refine ⟨done ++ [ls], some (Zgt ls), some (.ref p), z5, by simp, ⟨rest, rfl, by simp [e2]⟩, X2.trans x3, ?_⟩
   have ef : ((done ++ [ls]).map rln).foldl (fun acc r => acc ++ 10 :: r) (kln ks) = (done.map rln).foldl (fun acc r => acc ++ 10 :: r) (kln ks) ++ [10] ++ rln ls := by
    rw [List.map_append, List.foldl_append]
    simp
   rw [ef]
   rfl
 ·obtain ⟨done, z2, z3, z4, rfl, ⟨rest, e1, e2⟩, x1, rfl⟩ := z
  have : rest = [] := by cases rest with | nil => rfl | cons _ _ => cases e1
  subst this
  rw [List.append_nil] at e2
  subst e2
  have hz := Zr6 ks done
  (repeat fail "go")
  rw [Zwj]
  refine Zd2 ?_ ?_
  ·have h1 : ∀ (rs : List (List Nat)) (a : List Nat), (∀ r ∈ rs, r.length ≤ 24) -> (rs.foldl (fun acc r => acc ++ 10 :: r) a).length ≤ a.length + rs.length * 25 := by
    intro rs
    induction rs with
    | nil => intro a _; simp
    | cons r t ih =>
     intro a hh
     have := ih (a ++ 10 :: r) fun y hy => hh y (by simp [hy])
     have := hh r (by simp)
     rw [List.foldl_cons, List.length_cons, Nat.succ_mul]
     simp at *
     omega
   have h2 := h1 (done.map rln) (kln ks) fun r hr' => by
    obtain ⟨l, hl', rfl⟩ := List.mem_map.mp hr'
    exact Zi9 (by omega) (c.hu l hl')
   have h3 := Zlb h8
   rw [List.length_map] at h2
   show _ + 1 ≤ 100000
   omega
  rw [hz]
  (repeat fail "go")
  exact q H1 x1
theorem w_itx {σ : SD} {f : EF} {I : List D -> Zfq -> HD -> Prop} (h : wE (f σ H) fun d H1 => ∃ x : Str, d = .str x ∧ x.cps.all (· < 128) = true ∧ I (signs x) [] H1) : wI (iTxt f σ H) I := by
 obtain ⟨d, H1, e, x, rfl, e2, q⟩ := h
 exact ⟨_, _, H1, by unfold iTxt; rw [e]; simp only [Zb]; rw [if_pos e2], q⟩
theorem s_fig : k_FIGURES = tx [48, 49, 50, 51, 52, 53, 54, 55, 56, 57] := rfl
theorem Zoe {p : Nat} {bs : List Bool} (g : H[p]? = some (.lst (bs.map .bl))) (q : Q (.bl (bs.all id)) H) : wE (Zvr [.ref p] H) Q := by
 exact ⟨_, _, Zw3 g, q⟩
theorem Zq3 {l : List Nat} {c : Nat} (q : Q (.bl (decide (l[0]? = some c))) H) : wE (Ziw (tx l) [tx [c]] H) Q := by
 refine ⟨_, _, ?_, q⟩
 show some (D.bl (decide (0 + (tS [c]).length ≤ (tS l).length) && Builtin.Str.subAt (tS l) (tS [c]) 0), H) = _
 rw [Zti, Zbu, Zbu]
 congr 3
 cases l with
 | nil => simp
 | cons x r => simp
theorem Zuk {i : Int} (q : Q (.bl true) H) : wE (Zdi [.int i] H) Q := by
 refine Zda rfl ?_
 show wS (Zcy [some (.int i)] H) _
 unfold Zcy
 (repeat fail "go")
 exact q
theorem Zup (xs : List D) (x : D) : Zhr (xs ++ [x]) none (some (-1)) = xs := by
 unfold Zhr HT.sIx
 simp
 rw [show (-1 + ((xs.length : Int) + 1)).toNat = xs.length by omega]
 simp
theorem Zor {p : Nat} {xs : List D} {x : D} (g : H[p]? = some (.lst (xs ++ [x]))) (q : Q (.ref H.length) (H ++ [.lst xs])) : wE (slD (.ref p) none (some (-1)) H) Q :=
 ⟨_, _, by simp only [slD, g]; rw [Zup], q⟩
theorem Ztk {p : Nat} {xs : List D} {P : Bool -> Prop} (g : H[p]? = some (.lst xs)) (h : P (!xs.isEmpty)) : ∃ c, Zlz (.ref p) H = some c ∧ P c := ⟨_, by simp [Zlz, g], h⟩
noncomputable def rcA : SF := Zba 1 (eSM Zcs (Zah 0) (Zac (eC (.str "\n")) Zan))
noncomputable def rcB : SF := Zba 2 (eSl (Zah 1) Zbf (Zbc (eUn Zh7 (eC (.int 1)))))
noncomputable def rcC : SF := Zba 3 (eIf (Zg4 (Zah 2)) (Za2 1 Zby (Zac (eSM Zcs (eOp ixD (Zah 2) (eC (.int 0))) (Zac (eC (.str " ")) Zan)) Zan)) (eC .non))
noncomputable def rcD : SF := sIf (tOf (eOp isD (Zah 3) (eC .non))) (Zam Zqv Zav) Zav
noncomputable def rcE : SF := Zba 4 (Zc8 Zan)
noncomputable def rcI : ItF := Zfj (Zac (eSl (Zah 2) (Zbc (eC (.int 1))) Zbf) Zan)
noncomputable def rcG : GF := gTp 2 (gCn (gNm 5) (gCn (gNm 6) gNl))
noncomputable def rcR : SF := Zba 7 (Za2 2 Zb6 (Zac (eCB Zdw (Zac (Zah 3) Zan)) (Zac (eSM Zcs (Zah 6) (Zac (eC (.str " ")) Zan)) Zan)))
noncomputable def rcT : TF := Zfr (tOf (eOp isD (Zah 7) (eC .non))) (tOf (eOp gtD (Zah 5) (eC k_MOST_ROWS)))
noncomputable def rcS : SF := Zam rcR (Zam (sIf rcT (Zam Zqv Zav) Zav) (Zam (Zcv (eLM Zbo (Zah 4) (Zac (Zah 7) Zan))) Zav))
noncomputable def rcY : YFs := Zk1 rcR (yIf rcT (Zfc (Zah 5)) yNo)
noncomputable def rcU : TF := tOf (eOp neD (eOp ixD (Zah 1) (eUn Zh7 (eC (.int 1)))) (eC (.str "")))
noncomputable def rcZ : SF := Zam (sIf rcU (Zam Zqv Zav) Zav) (Zam (Zcl (Zgl (Zac (Zah 3) (Zac (eCB Zcu (Zac (Zah 4) Zan)) Zan)))) Zav)
noncomputable def rcYD : YFs := yIf (tOf (eOp isD (Zah 3) (eC .non))) (Zfc (eC (.int 0))) yNo
noncomputable def rcYU : YFs := yIf rcU (Zfc (eCB Zdw (Zac (Zah 2) Zan))) yNo
theorem Zx7 : Zbj = Zam rcA (Zam rcB (Zam rcC (Zam rcD (Zam rcE (Zam (Zh3 rcI rcG rcS) rcZ))))) := rfl
theorem rc_y : Zbl = Zk1 rcA (Zk1 rcB (Zk1 rcC (yEi rcD rcYD (Zk1 rcE (yEi (Zh3 rcI rcG rcS) (Zwi rcI rcG rcS rcY) rcYU))))) := rfl
section
variable {ks : List D} {rss : List (List Int)} {k : SD -> HD -> Prop} {R : FD -> SD -> HD -> Prop}
theorem Zxc : D.str " " = tx [32] := rfl
theorem s_e : D.str "" = tx [] := rfl
theorem w_rcA {T : List Nat} (hl : T.length ≤ 100000) (hp : (spl 10 T).length ≤ 100000) (q : k [some (tx T), some (.ref H.length), none, none, none, none, none, none] (H ++ [.lst ((spl 10 T).map tx)])) : wS (rcA [some (tx T), none, none, none, none, none, none, none] H) (Zgm k R) := by
 unfold rcA
 refine w_set ?_
 refine Znn ?_
 (repeat fail "go")
 refine ⟨rfl, ?_⟩
 (repeat fail "go")
 rw [Zwj]
 refine Zfh (by decide) hl hp ?_
 exact q
theorem Zzp {T : D} {p : Nat} {xs : List D} {x : D} (g : H[p]? = some (.lst (xs ++ [x]))) (q : k [some T, some (.ref p), some (.ref H.length), none, none, none, none, none] (H ++ [.lst xs])) : wS (rcB [some T, some (.ref p), none, none, none, none, none, none] H) (Zgm k R) := by
 unfold rcB
 (repeat fail "go")
 refine Zor g ?_
 exact q
theorem Zvf {T A B : D} (q : k [some T, some A, some B, some (.tup ks), none, none, none, none] H) : wS (rcD [some T, some A, some B, some (.tup ks), none, none, none, none] H) (Zgm k R) := by
 unfold rcD
 refine w_if ?_
 (repeat fail "go")
 exact q
theorem Zu9 {T A B : D} (q : k [some T, some A, some B, some (.tup ks), some (.ref H.length), none, none, none] (H ++ [.lst []])) : wS (rcE [some T, some A, some B, some (.tup ks), none, none, none, none] H) (Zgm k R) := by
 unfold rcE
 (repeat fail "go")
 exact q
noncomputable def RcI (H0 : HD) (T : D) (p1 p2 p3 p4 : Nat) (ks : List D) (L : List D) (rs : List (List Int)) (σ : SD) (H : HD) : Prop :=
 (∃ z5 z6 z7, σ = [some T, some (.ref p1), some (.ref p2), some (.tup ks), some (.ref p4), z5, z6, z7]) ∧ H[p3]? = some (.lst L) ∧ H[p4]? = some (.lst (rs.map Zgt)) ∧ Fm [p4] H0 H
theorem cut1 (xs : List D) (x : D) : Zhr (x :: xs) (some 1) none = xs := by
 unfold Zhr HT.sIx
 simp
theorem Zv5 {p : Nat} {xs : List D} {x : D} (g : H[p]? = some (.lst (x :: xs))) (q : Q (.ref H.length) (H ++ [.lst xs])) : wE (slD (.ref p) (some 1) none H) Q :=
 ⟨_, _, by simp only [slD, g]; rw [cut1], q⟩
theorem Zg2 (xs : List D) (x : D) : atI (xs ++ [x]) (-1) = some x := by
 have e : atI (xs ++ [x]) (-1) = (ixN (xs ++ [x]).length (-1)).bind fun j => (xs ++ [x])[j]? := rfl
 have e2 : ixN (xs ++ [x]).length (-1) = some xs.length := by
  unfold ixN
  rw [if_neg (by omega), if_pos (by simp; omega)]
  simp
  omega
 rw [e, e2]
 simp
end
noncomputable def dig (c : Nat) : Bool := decide (48 ≤ c ∧ c ≤ 57)
theorem Zh0 {c : Nat} : dig c = true ↔ 48 ≤ c ∧ c ≤ 57 := by unfold dig; rw [decide_eq_true_iff]
noncomputable def num (l : List Nat) : Nat := NumText.digitsVal l
noncomputable def Zi4 (l : List Nat) : Option Nat := if l.length = 0 ∨ 4 < l.length ∨ l.all dig = false then none else if l.head? = some 48 ∧ l ≠ [48] then none else some (num l)
noncomputable def Zfg : Option Int -> D
 | some i => .int i
 | none => .non
theorem Zsd (c : Nat) : decide (c ∈ [48, 49, 50, 51, 52, 53, 54, 55, 56, 57]) = dig c := by
 rw [Bool.eq_iff_iff, decide_eq_true_iff, Zh0]
 simp only [List.mem_cons, List.not_mem_nil, or_false]
 omega
theorem Zmh {l : List Nat} (h : ∀ c ∈ l, dig c = true) (h0 : l ≠ []) (hl : l.length ≤ 600) (q : Q (.int (num l : Nat)) H) : wE (Ziy [tx l] H) Q := by
 refine ⟨_, _, ?_, q⟩
 have e : PySem.intText? (tS l) = some ((num l : Nat) : Int) := by
  have hz : (tS l).cps.toList = l := by simp [tS]
  have := PySem.intText_digits (x := tS l) (fun c hc => by rw [hz] at hc; exact Zh0.mp (h c hc)) (by rw [hz]; exact h0) (by rw [Zbu]; omega)
  rw [hz] at this
  exact this
 unfold Ziy tx
 dsimp only
 rw [if_pos (by rw [Zbu]; omega), e]
 rfl
theorem Ztd {l : List Nat} (ha : Asx l) (hl : l.length ≤ 100000) (q : ∀ H', Fm [] H H' -> Q (Zfg ((Zi4 l).map fun n : Nat => (n : Int))) H') : wE (Zcp [tx l] H) Q := by
 have no : ∀ H', Fm [] H H' -> Zi4 l = none -> Q .non H' := fun H' x e => by have := q H' x; rw [e] at this; exact this
 refine Zda rfl ?_
 show wS (Zco [some (tx l)] H) _
 unfold Zco k_MOST_FIGURES
 rw [s_fig]
 refine w_seq (w_if ?_)
 (repeat fail "go")
 refine Zjm hl ?_
 (repeat fail "go")
 refine ⟨fun h0 => ?_, fun h0 => ?_⟩
 ·(repeat fail "go")
  have : l.length = 0 := by have := eq_of_beq h0; omega
  exact no _ .refl (by unfold Zi4; rw [if_pos (.inl this)])
 have h0 : l.length ≠ 0 := fun z => by rw [z] at h0; revert h0; decide
 (repeat fail "go")
 refine Zjm hl ?_
 (repeat fail "go")
 refine ⟨fun h4 => ?_, fun h4 => ?_⟩
 ·(repeat fail "go")
  have : 4 < l.length := by have := of_decide_eq_true h4; omega
  exact no _ .refl (by unfold Zi4; rw [if_pos (.inr (.inl this))])
 have h4 : l.length ≤ 4 := by have := of_decide_eq_false h4; omega
 (repeat fail "go")
 refine w_itx (w_var rfl ⟨tS l, rfl, ?_, ?_⟩)
 ·rw [← Array.all_toList, List.all_eq_true]
  intro c hc
  have := ha c (by simpa [tS] using hc)
  exact decide_eq_true (by omega)
 refine Zmg (fun d => match d with | .str x => .bl (dig (x.cps.toList.getD 0 0)) | d => d) (fun H' => H' = H) (fun _ _ => Zna) _ (fun x hx H1 j => ?_) _ rfl fun H1 j => ?_
 ·obtain ⟨c, hc, rfl⟩ := List.mem_map.mp hx
  subst j
  (repeat fail "go")
  refine w_sin (c := c) ?_
  rw [Zsd]
  exact ⟨rfl, rfl⟩
 subst j
 have es : (signs (tS l)).map (fun d => match d with | .str x => D.bl (dig (x.cps.toList.getD 0 0)) | d => d) = (l.map dig).map .bl := by
  unfold signs
  rw [show (tS l).cps.toList = l by simp [tS], List.map_map, List.map_map]
  rfl
 rw [es]
 refine ⟨by simp; omega, ?_⟩
 (repeat fail "go")
 refine Zoe last ?_
 (repeat fail "go")
 have fm : Fm [] H1 (H1 ++ [DO.lst ((l.map dig).map .bl)]) := Fm.app _
 have ea : (l.map dig).all id = l.all dig := by rw [List.all_map]; rfl
 rw [ea]
 cases hall : l.all dig with
 | false =>
  (repeat fail "go")
  exact no _ fm (by unfold Zi4; rw [if_pos (.inr (.inr hall))])
 | true =>
  (repeat fail "go")
  have h := List.all_eq_true.mp hall
  cases l with
  | nil => exact absurd rfl h0
  | cons c r =>
   have nn : ¬ ((c :: r).length = 0 ∨ 4 < (c :: r).length ∨ (c :: r).all dig = false) := by
    rw [hall]; simp at h4 ⊢; omega
   refine w_if ?_
   (repeat fail "go")
   refine Zx2 (i := 0) (c := c) rfl rfl (by omega) ?_
   rw [s_ze]
   refine w_c (Zrx ?_)
   refine w_bl ?_
   refine ⟨fun hc => ?_, fun hc => ?_⟩
   ·have hc : c = 48 := by have := of_decide_eq_true hc; simpa using this
    (repeat fail "go")
    refine Zt1 ?_
    refine w_bl ?_
    refine ⟨fun hr => ?_, fun hr => ?_⟩
    ·(repeat fail "go")
     have hr : c :: r ≠ [48] := by intro z; rw [z] at hr; revert hr; decide
     exact no _ fm (by unfold Zi4; rw [if_neg nn, if_pos ⟨by simp [hc], hr⟩])
    ·have hr : c :: r = [48] := by
      rw [Bool.not_eq_false', decide_eq_true_iff] at hr; exact hr
     (repeat fail "go")
     refine Zmh h (by simp) (by omega) ?_
     (repeat fail "go")
     have e : Zi4 (c :: r) = some (num (c :: r)) := by unfold Zi4; rw [if_neg nn, if_neg (fun z => z.2 hr)]
     have := q _ fm
     rw [e] at this
     exact this
   ·have hc : c ≠ 48 := by have := of_decide_eq_false hc; simpa using this
    (repeat fail "go")
    refine Zmh h (by simp) (by omega) ?_
    (repeat fail "go")
    have e : Zi4 (c :: r) = some (num (c :: r)) := by unfold Zi4; rw [if_neg nn, if_neg (fun z => hc (by simpa using z.1))]
    have := q _ fm
    rw [e] at this
    exact this
noncomputable def rl (x : List Nat) : Option Int := if x[0]? = some 45 then (Zi4 (x.drop 1)).map (fun n : Nat => -(n : Int)) else (Zi4 x).map (fun n : Nat => (n : Int))
theorem w_rl {x : List Nat} (ha : Asx x) (hl : x.length ≤ 100000) (q : ∀ H', Fm [] H H' -> Q (Zfg (rl x)) H') : wE (Zc3 [tx x] H) Q := by
 refine Zda rfl ?_
 show wS (Zcb [some (tx x), none] H) _
 unfold Zcb
 rw [s_mi]
 refine w_seq (w_if ?_)
 (repeat fail "go")
 refine Znn ?_
 (repeat fail "go")
 refine ⟨rfl, ?_⟩
 (repeat fail "go")
 refine Zq3 ?_
 (repeat fail "go")
 by_cases h : x[0]? = some 45
 ·rw [decide_eq_true h]
  (repeat fail "go")
  refine Zhz ?_
  (repeat fail "go")
  refine Zhg (i := 1) rfl hl ?_
  (repeat fail "go")
  refine Ztd (fun c hc => ha c (List.mem_of_mem_drop hc)) (by simp; omega) fun H1 x1 => ?_
  have q1 := q H1 x1
  unfold rl at q1
  rw [if_pos h] at q1
  revert q1
  cases Zi4 (x.drop 1) with
  | none => intro q1; (repeat fail "go"); exact q1
  | some n => intro q1; simp only [Option.map_some, Zfg] at q1 ⊢; (repeat fail "go"); exact q1
 ·rw [decide_eq_false h]
  (repeat fail "go")
  refine Ztd ha hl fun H1 x1 => ?_
  (repeat fail "go")
  have q1 := q H1 x1
  unfold rl at q1
  rw [if_neg h] at q1
  exact q1
noncomputable def upB (m : Int) : Int -> List (Option Int) -> Bool
 | _, [] => true
 | _, none :: _ => false
 | last, some i :: r => decide (last < Zdf i) && (decide (Zdf i ≤ m) && upB m (Zdf i) r)
theorem w_whN (q : Q (.bl false) H) : wE (Zdi [.non] H) Q := by
 refine Zda rfl ?_
 show wS (Zcy [some .non] H) _
 unfold Zcy
 (repeat fail "go")
 exact q
theorem Zme {m : Int} {Z : Option D} {R : FD -> SD -> HD -> Prop} (h1 : R (.rt (.bl false)) [] H -> True) : ∀ (os : List (Option Int)) (last : Int) (z : Option D), (upB m last os = false -> ∀ σ, R (.rt (.bl false)) σ H) -> (upB m last os = true -> ∀ σ, R .nx σ H) →
  wS (Zf0 [] (gNm 3) (Zam (sIf (Zfr (tNo (Zg4 (Za2 1 Zdi (Zac (Zah 3) Zan)))) (Zfr (tOf (eOp leD (eCB Znl (Zac (Zah 3) Zan)) (Zah 2))) (tOf (eOp gtD (eCB Znl (Zac (Zah 3) Zan)) (Zah 0))))) (Zam (Zcl (eC (.bl false))) Zav) Zav) (Zam (Zba 2 (eCB Znl (Zac (Zah 3) Zan))) Zav)) (os.map Zfg) [some (.int m), Z, some (.int last), z] H) R
 | [], last, z, n, y => Zih Zna (y rfl _)
 | none :: r, last, z, n, y => by
  refine Zff Zna ?_
  (repeat fail "go")
  refine w_if ?_
  (repeat fail "go")
  refine w_whN ?_
  (repeat fail "go")
  exact n rfl _
 | some i :: r, last, z, n, y => by
  show wS (Zf0 [] _ _ (D.int i :: r.map Zfg) _ H) R
  refine Zff Zna ?_
  (repeat fail "go")
  refine w_if ?_
  (repeat fail "go")
  refine Zuk ?_
  (repeat fail "go")
  refine ⟨fun h => ?_, fun h => ?_⟩
  ·(repeat fail "go")
   have := of_decide_eq_true h
   exact n (by unfold upB; rw [decide_eq_false (show ¬ last < Zdf i by omega)]; rfl) _
  have h := of_decide_eq_false h
  (repeat fail "go")
  refine ⟨fun h2 => ?_, fun h2 => ?_⟩
  ·(repeat fail "go")
   have := of_decide_eq_true h2
   exact n (by unfold upB; rw [decide_eq_true (show last < Zdf i by omega), decide_eq_false (show ¬ Zdf i ≤ m by omega)]; rfl) _
  have h2 := of_decide_eq_false h2
  have e : upB m last (some i :: r) = upB m (Zdf i) r := by
   conv => lhs; unfold upB
   rw [decide_eq_true (show last < Zdf i by omega), decide_eq_true (show Zdf i ≤ m by omega)]
   rfl
  (repeat fail "go")
  exact Zme (fun _ => trivial) r (Zdf i) _ (by rw [← e]; exact n) (by rw [← e]; exact y)
theorem Zra {m : Int} {os : List (Option Int)} (q : Q (.bl (upB m 0 os)) H) : wE (Zgz [.int m, .tup (os.map Zfg)] H) Q := by
 refine Zda rfl ?_
 show wS (Zfw [some (.int m), some (.tup (os.map Zfg)), none, none] H) _
 unfold Zfw
 refine w_seq (w_if ?_)
 (repeat fail "go")
 refine Zme (fun _ => trivial) os 0 none (fun e σ => ?_) (fun e σ => ?_)
 ·rw [e] at q
  (repeat fail "go")
  exact q
 ·rw [e] at q
  (repeat fail "go")
  exact q
noncomputable def Zu5 (m last : Int) (x : List Nat) : Option Int := match rl x with
 | some i => if last < Zdf i ∧ Zdf i ≤ m then some i else none
 | none => none
noncomputable def rdW (m : Int) : Int -> List (List Nat) -> Option (List Int)
 | _, [] => some []
 | last, x :: r => match Zu5 m last x with
  | none => none
  | some i => (rdW m (Zdf i) r).map (i :: ·)
theorem Ztt {m : Int} : ∀ (ws : List (List Nat)) (last : Int), upB m last (ws.map rl) = (rdW m last ws).isSome ∧ ∀ is, rdW m last ws = some is -> ws.map rl = is.map some
 | [], last => ⟨rfl, fun is e => by cases e; rfl⟩
 | x :: r, last => by
  rw [List.map_cons]
  unfold rdW Zu5
  cases e : rl x with
  | none => exact ⟨rfl, fun is e => by cases e⟩
  | some i =>
   dsimp only
   obtain ⟨ih1, ih2⟩ := Ztt (m := m) r (Zdf i)
   by_cases h : last < Zdf i ∧ Zdf i ≤ m
   ·rw [if_pos h]
    dsimp only
    refine ⟨?_, fun is e2 => ?_⟩
    ·unfold upB
     rw [decide_eq_true h.1, decide_eq_true h.2, ih1]
     cases rdW m (Zdf i) r <;> rfl
    ·obtain ⟨js, e3, rfl⟩ := Zm e2
     rw [ih2 js e3]
     rfl
   ·rw [if_neg h]
    refine ⟨?_, fun is e => by cases e⟩
    unfold upB
    by_cases h1 : last < Zdf i
    ·rw [decide_eq_true h1, decide_eq_false (fun z => h ⟨h1, z⟩)]; rfl
    ·rw [decide_eq_false h1]; rfl
noncomputable def rdR (m : Int) (ws : List (List Nat)) : Option (List Int) := if ws = [[48]] then some [] else rdW m 0 ws
noncomputable def rowO : Option (List Int) -> D
 | some ls => Zgt ls
 | none => .non
theorem asx1 {c : Nat} (h : c < 128) : ∀ n ∈ [[c]], Asx n := fun n hn => by simp at hn; subst hn; intro x hx; simp at hx; omega
theorem Zzt {m : Int} {ws : List (List Nat)} {p : Nat} (hn : ws ≠ []) (hl : ws.length ≤ 100000) (as : ∀ w ∈ ws, Asx w ∧ w.length ≤ 100000) (g : H[p]? = some (.lst (ws.map tx))) (q : ∀ H', Fm [] H H' -> Q (rowO (rdR m ws)) H') : wE (Zb6 [.int m, .ref p] H) Q := by
 refine Zda rfl ?_
 show wS (Zd0 [some (.int m), some (.ref p), none] H) _
 unfold Zd0
 rw [s_ze]
 refine w_seq (w_if ?_)
 (repeat fail "go")
 refine Ztg (a := ws) (b := [[48]]) (appL g) last (fun w hw => (as w hw).1) (asx1 (by decide)) ?_
 refine w_bl ?_
 by_cases e0 : ws = [[48]]
 ·rw [decide_eq_true e0]
  (repeat fail "go")
  have := q _ (Fm.app [DO.lst [tx [48]]])
  unfold rdR at this
  rw [if_pos e0] at this
  exact this
 rw [decide_eq_false e0]
 refine w_bf ?_
 (repeat fail "go")
 refine Zmg (fun d => match d with | .str x => Zfg (rl x.cps.toList) | d => d) (fun H' => Fm [] (H ++ [DO.lst [tx [48]]]) H') (fun H' j => Zni (j.lst (by simp) (appL g))) _ (fun d hd H' j => ?_) _ .refl fun H' j => ?_
 ·obtain ⟨w, hw, rfl⟩ := List.mem_map.mp hd
  (repeat fail "go")
  refine w_rl (as w hw).1 (as w hw).2 fun H2 x2 => ⟨?_, j.trans x2⟩
  show _ = Zfg (rl (tS w).cps.toList)
  rw [show (tS w).cps.toList = w by simp [tS]]
 ·have em : (ws.map tx).map (fun d => match d with | .str x => Zfg (rl x.cps.toList) | d => d) = (ws.map rl).map Zfg := by
   rw [List.map_map, List.map_map]
   refine List.map_congr_left fun w _ => ?_
   show Zfg (rl (tS w).cps.toList) = Zfg (rl w)
   rw [show (tS w).cps.toList = w by simp [tS]]
  rw [em]
  refine w_sz (by simp; omega) ?_
  obtain ⟨u1, u2⟩ := Ztt (m := m) ws 0
  have Q1 := q (H' ++ [DO.lst ((ws.map rl).map Zfg)]) (((Fm.app _).trans j).trans (.app _))
  unfold rdR at Q1
  rw [if_neg e0] at Q1
  (repeat fail "go")
  rw [show (!((ws.map rl).map Zfg).isEmpty) = true by cases ws with | nil => exact absurd rfl hn | cons _ _ => rfl]
  (repeat fail "go")
  refine Zra ?_
  rw [u1]
  revert Q1
  cases e : rdW m 0 ws with
  | none =>
   intro Q1
   (repeat fail "go")
   exact Q1
  | some is =>
   intro Q1
   (repeat fail "go")
   rw [u2 is e, List.map_map] at Q1 ⊢
   exact Q1
noncomputable def Zp7 : List Nat := [97, 108, 108]
noncomputable def Zi0 : List Nat := [115, 111, 109, 101]
noncomputable def okW (w : List Nat) : Bool := decide (w = Zp7) || decide (w = Zi0)
noncomputable def rdK (ws : List (List Nat)) : Option (List (List Nat)) := if ws = [[45]] then some [] else if ws.length ≤ 8 ∧ ws.all okW = true then some ws else none
noncomputable def kinO : Option (List (List Nat)) -> D
 | some ws => .tup (ws.map tx)
 | none => .non
theorem asx2 : ∀ n ∈ [Zp7, Zi0], Asx n := fun n hn => by simp at hn; rcases hn with rfl | rfl <;> (intro c hc; simp [Zp7, Zi0] at hc; omega)
theorem Zn5 (w : List Nat) : (([Zp7, Zi0].map fun n => PyData.str (tS n)).any fun z => PyData.eqv z (.str (tS w))) = okW w := by
 have e : ∀ a : List Nat, PyData.eqv (.str (tS a)) (.str (tS w)) = decide (w = a) := fun a => by
  rw [show PyData.eqv (.str (tS a)) (.str (tS w)) = (tS a == tS w) by simp [PyData.eqv], Zll]
  exact decide_eq_decide.mpr eq_comm
 show (PyData.eqv (.str (tS Zp7)) (.str (tS w)) || (PyData.eqv (.str (tS Zi0)) (.str (tS w)) || false)) = _
 rw [e, e, Bool.or_false]
 rfl
theorem Zm8 {ws : List (List Nat)} (hl : ws.length ≤ 100000) (as : ∀ w ∈ ws, Asx w) (q : ∀ H', Fm [] H H' -> Q (.bl (decide (ws.length ≤ 8 ∧ ws.all okW = true))) H') : wE (Ze3 [.tup (ws.map tx)] H) Q := by
 refine Zda rfl ?_
 show wS (Zd5 [some (.tup (ws.map tx))] H) _
 unfold Zd5 k_MOST_NAMES
 rw [show k_KINDS = .tup ([Zp7, Zi0].map tx) from rfl]
 refine w_seq (w_if ?_)
 (repeat fail "go")
 rw [List.length_map]
 by_cases h8 : ws.length ≤ 8
 ·rw [decide_eq_false (by omega)]
  (repeat fail "go")
  refine Zmg (fun d => match d with | .str x => .bl (okW x.cps.toList) | d => d) (fun H' => H' = H) (fun _ _ => Zna) _ (fun d hd H' e => ?_) H rfl fun H' e => ?_
  ·subst e
   obtain ⟨w, hw, rfl⟩ := List.mem_map.mp hd
   (repeat fail "go")
   refine w_inT (Zpz (as w hw)) (Zet [Zp7, Zi0] asx2) (by omega) (by omega) ⟨?_, rfl⟩
   rw [Zn5]
   show D.bl (okW w) = D.bl (okW (tS w).cps.toList)
   rw [show (tS w).cps.toList = w by simp [tS]]
  ·subst e
   have em : (ws.map tx).map (fun d => match d with | .str x => D.bl (okW x.cps.toList) | d => d) = (ws.map okW).map .bl := by
    rw [List.map_map, List.map_map]
    refine List.map_congr_left fun w _ => ?_
    show D.bl (okW (tS w).cps.toList) = D.bl (okW w)
    rw [show (tS w).cps.toList = w by simp [tS]]
   rw [em]
   refine w_sz (by simp; omega) ?_
   (repeat fail "go")
   refine Zoe last ?_
   (repeat fail "go")
   rw [List.all_map]
   have := q _ (Fm.app (H := H') [DO.lst ((ws.map okW).map .bl)])
   rw [show decide (ws.length ≤ 8 ∧ ws.all okW = true) = ws.all (id ∘ okW) by
    show _ = ws.all okW
    cases ws.all okW <;> simp [h8]] at this
   exact this
 ·rw [decide_eq_true (by omega)]
  (repeat fail "go")
  have := q H .refl
  rw [decide_eq_false (fun z => h8 z.1)] at this
  exact this
theorem Zr9 {ws : List (List Nat)} {p : Nat} (hn : ws ≠ []) (hl : ws.length ≤ 100000) (as : ∀ w ∈ ws, Asx w) (g : H[p]? = some (.lst (ws.map tx))) (q : ∀ H', Fm [] H H' -> Q (kinO (rdK ws)) H') : wE (Zby [.ref p] H) Q := by
 refine Zda rfl ?_
 show wS (Zc6 [some (.ref p), none] H) _
 unfold Zc6
 rw [s_mi]
 refine w_seq (w_if ?_)
 (repeat fail "go")
 refine Ztg (a := ws) (b := [[45]]) (appL g) last as (asx1 (by decide)) ?_
 refine w_bl ?_
 by_cases e0 : ws = [[45]]
 ·rw [decide_eq_true e0]
  (repeat fail "go")
  have := q _ (Fm.app [DO.lst [tx [45]]])
  unfold rdK at this
  rw [if_pos e0] at this
  exact this
 rw [decide_eq_false e0]
 refine w_bf ?_
 (repeat fail "go")
 rw [show (!(ws.map tx).isEmpty) = true by cases ws with | nil => exact absurd rfl hn | cons _ _ => rfl]
 (repeat fail "go")
 refine Zm8 hl as fun H1 x1 => ?_
 have := q _ ((Fm.app _).trans x1)
 unfold rdK at this
 rw [if_neg e0] at this
 by_cases h : ws.length ≤ 8 ∧ ws.all okW = true
 ·rw [if_pos h] at this
  rw [decide_eq_true h]
  (repeat fail "go")
  exact this
 ·rw [if_neg h] at this
  rw [decide_eq_false h]
  (repeat fail "go")
  exact this
theorem Zsw {c : Nat} : ∀ l : List Nat, jnL [c] (spl c l) = l
 | [] => rfl
 | x :: r => by
  have ih := Zsw (c := c) r
  obtain ⟨w, ws, e⟩ := Zfe c r
  unfold spl
  rw [e] at ih ⊢
  have ih' : w ++ (ws.map ([c] ++ ·)).flatten = r := ih
  by_cases h : x = c
  ·rw [if_pos h]
   show [] ++ (List.map (fun y => [c] ++ y) (w :: ws)).flatten = _
   rw [List.map_cons, List.flatten_cons, List.nil_append, List.append_assoc, ih', h]
   rfl
  ·rw [if_neg h]
   show x :: (w ++ (ws.map ([c] ++ ·)).flatten) = _
   rw [ih']
theorem Zir {c : Nat} {l w : List Nat} (hc : c ∉ w) : spl c l = [w] ↔ l = w := by
 constructor
 ·intro h
  have := Zsw (c := c) l
  rw [h] at this
  rw [← this]
  unfold jnL
  simp
 ·intro h
  rw [h]
  exact Ztp hc
theorem Zer {c : Nat} : ∀ (l : List Nat), Asx l -> ∀ w ∈ spl c l, Asx w ∧ w.length ≤ l.length
 | [], h, w, hw => by simp [spl] at hw; subst hw; exact ⟨h, by simp⟩
 | x :: r, h, w, hw => by
  have hr : Asx r := fun y hy => h y (by simp [hy])
  have ih := Zer (c := c) r hr
  obtain ⟨v, ws, e⟩ := Zfe c r
  unfold spl at hw
  rw [e] at hw ih
  by_cases hx : x = c
  ·rw [if_pos hx] at hw
   rcases List.mem_cons.mp hw with rfl | hw
   ·exact ⟨fun y hy => by simp at hy, by simp⟩
   ·obtain ⟨a, b⟩ := ih w hw; exact ⟨a, by simp; omega⟩
  ·rw [if_neg hx] at hw
   rcases List.mem_cons.mp hw with rfl | hw
   ·obtain ⟨a, b⟩ := ih v (by simp)
    exact ⟨fun y hy => by rcases List.mem_cons.mp hy with rfl | hy; exact h _ (by simp); exact a y hy, by simp; omega⟩
   ·obtain ⟨a, b⟩ := ih w (by simp [hw]); exact ⟨a, by simp; omega⟩
theorem Zv1 : D.str " " = tx [32] := rfl
theorem Zzf {p q : Nat} {a b : List (List Nat)} (g : H[p]? = some (.lst (a.map tx))) (g2 : H[q]? = some (.lst (b.map tx))) (ha : ∀ n ∈ a, Asx n) (hb : ∀ n ∈ b, Asx n) (z : Q (.bl (!decide (a = b))) H) : wE (neD (.ref p) (.ref q) H) Q := by
 refine ⟨_, _, Zoh ((Zet a ha).dat (by decide) g) ((Zet b hb).dat (by decide) g2), ?_⟩
 rw [PyData.eqv, Zph]
 exact z
theorem Zyx : D.str "all" = tx Zp7 := rfl
theorem Zxq : D.str "some" = tx Zi0 := rfl
theorem Zmn {l : List Nat} (ha : Asx l) (hl : l.length ≤ 90000) (q : ∀ H', Fm [] H H' -> Q (kinO (rdK (spl 32 l))) H') : wE (Zcc [tx l] H) Q := by
 have wl := Zef (c := 32) l
 have as := Zer (c := 32) l ha
 refine Zda rfl ?_
 show wS (Zbv [some (tx l), none] H) _
 unfold Zbv
 rw [s_mi, Zyx, Zxq]
 refine w_seq (w_if ?_)
 (repeat fail "go")
 refine Zrx ?_
 refine w_bl ?_
 by_cases e0 : l = [45]
 ·rw [decide_eq_true e0]
  (repeat fail "go")
  have := q H .refl
  unfold rdK at this
  rw [if_pos ((Zir (by simp)).mpr e0)] at this
  exact this
 rw [decide_eq_false e0]
 have e1 : ¬ spl 32 l = [[45]] := fun z => e0 ((Zir (by simp)).mp z)
 refine w_bf ?_
 (repeat fail "go")
 refine Znn ?_
 (repeat fail "go")
 refine ⟨rfl, ?_⟩
 (repeat fail "go")
 rw [Zv1]
 refine Zfh (by decide) (by omega) (by omega) ?_
 refine w_kn (w_seq (w_if ?_))
 (repeat fail "go")
 rw [List.length_map]
 have Q1 : ∀ H', Fm [] H H' -> Q (kinO (if (spl 32 l).length ≤ 8 ∧ (spl 32 l).all okW = true then some (spl 32 l) else none)) H' := fun H' x => by
  have := q H' x
  unfold rdK at this
  rw [if_neg e1] at this
  exact this
 by_cases h8 : (spl 32 l).length ≤ 8
 ·rw [decide_eq_false (by omega)]
  (repeat fail "go")
  refine Zfv (fun d => match d with | .str x => !okW x.cps.toList | _ => true) (fun H' => Fm [] (H ++ [DO.lst ((spl 32 l).map tx)]) H') (fun H' j => Zni (j.lst (by simp) last)) _ (fun d hd H' j => ?_) _ .refl fun H' j => ?_
  ·obtain ⟨w, hw, rfl⟩ := List.mem_map.mp hd
   (repeat fail "go")
   refine w_niL (Zpz (as w hw).1) (Zet [Zp7, Zi0] asx2) (by omega) (by omega) last ?_
   rw [Zn5]
   (repeat fail "go")
   refine ⟨?_, j.trans (.app _)⟩
   show (!okW w) = !okW (tS w).cps.toList
   rw [show (tS w).cps.toList = w by simp [tS]]
  ·have em : ((spl 32 l).map tx).filter (fun d => match d with | .str x => !okW x.cps.toList | _ => true) = ((spl 32 l).filter fun w => !okW w).map tx := by
    rw [List.filter_map]
    congr 1
   rw [em]
   have fl := List.length_filter_le (fun w => !okW w) (spl 32 l)
   refine w_sz (by simp; omega) ?_
   (repeat fail "go")
   refine Zzf (a := (spl 32 l).filter fun w => !okW w) (b := []) (appL last) last (fun w hw => (as w (List.mem_filter.mp hw).1).1) (by simp) ?_
   refine w_bl ?_
   have gp := j.lst (by simp) (last (H := H) (o := DO.lst ((spl 32 l).map tx)))
   have X : Fm [] H (H' ++ [DO.lst (((spl 32 l).filter fun w => !okW w).map tx)] ++ [DO.lst []]) := (((Fm.app _).trans j).trans (.app _)).trans (.app _)
   have Q2 := Q1 _ X
   by_cases ok : (spl 32 l).all okW = true
   ·have ef : ((spl 32 l).filter fun w => !okW w) = [] := by
     rw [List.filter_eq_nil_iff]
     intro w hw
     rw [List.all_eq_true.mp ok w hw]
     decide
    rw [decide_eq_true ef]
    rw [if_pos ⟨h8, ok⟩] at Q2
    (repeat fail "go")
    exact Q2
   ·have ef : ¬ ((spl 32 l).filter fun w => !okW w) = [] := by
     intro z
     rw [List.filter_eq_nil_iff] at z
     apply ok
     rw [List.all_eq_true]
     intro w hw
     have := z w hw
     simpa using this
    rw [decide_eq_false ef]
    rw [if_neg (fun z => ok z.2)] at Q2
    (repeat fail "go")
    exact Q2
 ·rw [decide_eq_true (by omega)]
  (repeat fail "go")
  have := Q1 _ (Fm.app [DO.lst ((spl 32 l).map tx)])
  rw [if_neg (fun z => h8 z.1)] at this
  exact this
theorem Zne {l : List Nat} {n : Nat} (h : Zi4 l = some n) (h1 : 1 ≤ n) (h8 : n ≤ 8) : ∃ c, l = [c] ∧ c = 48 + n := by
 unfold Zi4 at h
 split at h
 ·cases h
 rename_i nn
 split at h
 ·cases h
 rename_i nz
 cases h
 have al : l.all dig = true := by
  cases e : l.all dig with
  | true => rfl
  | false => exact absurd (.inr (.inr e)) nn
 have hd := List.all_eq_true.mp al
 have len : l.length ≤ 4 := by
  by_cases z : l.length ≤ 4
  ·exact z
  ·exact absurd (.inr (.inl (by omega))) nn
 cases l with
 | nil => exact absurd (.inl rfl) nn
 | cons a r =>
  have ha := Zh0.mp (hd a (by simp))
  cases r with
  | nil =>
   refine ⟨a, rfl, ?_⟩
   have e : num [a] = 0 * 10 + (a - 48) := rfl
   omega
  | cons b r =>
   have hb := Zh0.mp (hd b (by simp))
   have a0 : a ≠ 48 := fun z => nz ⟨by simp [z], by simp⟩
   exfalso
   cases r with
   | nil =>
    have e : num [a, b] = (0 * 10 + (a - 48)) * 10 + (b - 48) := rfl
    omega
   | cons c r =>
    cases r with
    | nil =>
     have e : num [a, b, c] = ((0 * 10 + (a - 48)) * 10 + (b - 48)) * 10 + (c - 48) := rfl
     omega
    | cons d r =>
     cases r with
     | nil =>
      have e : num [a, b, c, d] = (((0 * 10 + (a - 48)) * 10 + (b - 48)) * 10 + (c - 48)) * 10 + (d - 48) := rfl
      omega
     | cons _ _ => simp at len
theorem Zq0 {c : Nat} (h : 49 ≤ c) (h2 : c ≤ 57) : Zi4 [c] = some (c - 48) := by
 unfold Zi4
 have t : [c].all dig = true := by simp [dig]; omega
 have e : num [c] = 0 * 10 + (c - 48) := rfl
 rw [if_neg (by rw [t]; simp), if_neg (fun z => z.2 (by have := z.1; simp at this; rw [this])), e]
 congr 1
 omega
noncomputable def hdB (x : List Nat) : Bool := decide (x.take 1 = [45])
theorem Zpk (x : List Nat) : hdB x = true ↔ x[0]? = some 45 := by
 unfold hdB
 rw [decide_eq_true_iff]
 cases x <;> simp
noncomputable def fgs (x : List Nat) : List Nat := x.drop (if hdB x then 1 else 0)
noncomputable def sgI (x : List Nat) (n : Nat) : Int := if hdB x then -(n : Int) else n
theorem Zx3 (x : List Nat) : rl x = (Zi4 (fgs x)).map (sgI x) := by
 unfold rl fgs
 by_cases h : x[0]? = some 45
 ·have e := (Zpk x).mpr h
  rw [if_pos h, e, if_pos rfl]
  congr 1
  funext n
  unfold sgI
  rw [e, if_pos rfl]
 ·have e : hdB x = false := by
   cases z : hdB x with
   | true => exact absurd ((Zpk x).mp z) h
   | false => rfl
  rw [if_neg h, e]
  congr 1
  funext n
  unfold sgI
  rw [e]
  rfl
theorem Zlq (x : List Nat) (n : Nat) : Zdf (sgI x n) = n := by
 rw [Zg0]
 unfold sgI
 split <;> omega
theorem Zqp {m last : Int} {x : List Nat} (h0 : 0 ≤ last) (hm : m ≤ 8) (h : ∀ c : Nat, fgs x = [c] -> ¬ (49 ≤ c ∧ (c : Int) - 48 ≤ m ∧ last < (c : Int) - 48)) : Zu5 m last x = none := by
 unfold Zu5
 rw [Zx3]
 cases e : Zi4 (fgs x) with
 | none => rfl
 | some n =>
  show (if last < Zdf (sgI x n) ∧ Zdf (sgI x n) ≤ m then some (sgI x n) else none) = none
  rw [Zlq]
  refine if_neg fun z => ?_
  obtain ⟨c, e1, e2⟩ := Zne e (by omega) (by omega)
  exact h c e1 ⟨by omega, by omega, by omega⟩
theorem Zvi {m last : Int} {x : List Nat} {c : Nat} (hm : m ≤ 8) (h : fgs x = [c]) (h1 : 49 ≤ c) (h2 : (c : Int) - 48 ≤ m) (h3 : last < (c : Int) - 48) : Zu5 m last x = some (sgI x (c - 48)) := by
 unfold Zu5
 rw [Zx3, h, Zq0 h1 (by omega)]
 show (if last < Zdf (sgI x (c - 48)) ∧ Zdf (sgI x (c - 48)) ≤ m then some (sgI x (c - 48)) else none) = _
 rw [Zlq, if_pos ⟨by omega, by omega⟩]
noncomputable def f18 : List Nat := [49, 50, 51, 52, 53, 54, 55, 56]
theorem Zy2 {m c : Nat} (hm : m ≤ 8) : c ∈ f18.take m ↔ 49 ≤ c ∧ c < 49 + m := by
 obtain rfl | rfl | rfl | rfl | rfl | rfl | rfl | rfl | rfl : m = 0 ∨ m = 1 ∨ m = 2 ∨ m = 3 ∨ m = 4 ∨ m = 5 ∨ m = 6 ∨ m = 7 ∨ m = 8 := by omega
 all_goals (simp [f18]; try omega)
noncomputable def lrB : SF := Zam (Zba 5 (eOp eqD (Zhe (Zah 4) Zbf (Zbc (eC (.int 1)))) (eC (tx [45]))))
 (Zam (Zba 6 (Zhe (Zah 4) (Zbc (eCB Znm (Zac (Zah 5) Zan))) Zbf))
 (Zam (sIf (Zfr (tOf (eOp neD (eCB Zdw (Zac (Zah 6) Zan)) (eC (.int 1)))) (Zfr (tOf (eOp Zwp (Zah 6) (Zhe (eC (tx f18)) Zbf (Zbc (Zah 1))))) (tOf (eOp leD (eCB Ziy (Zac (Zah 6) Zan)) (Zah 3))))) (Zam (Zcl (eC .non)) Zav) Zav)
 (Zam (Zba 3 (eCB Ziy (Zac (Zah 6) Zan)))
 (Zam (Zcv (eLM Zbo (Zah 2) (Zac (eOp ixD (Zc8 (Zac (Zah 3) (Zac (eUn Zh7 (Zah 3)) Zan))) (eCB Znm (Zac (Zah 5) Zan))) Zan))) Zav))))
theorem Zkj {m : Nat} {L : D} {p2 pw : Nat} {W : List D} {H0 : HD} {R : FD -> SD -> HD -> Prop} (hm : m ≤ 8) (hp : pw ≠ p2) : ∀ (ws : List (List Nat)) (done : List Int) (last : Int) (z4 z5 z6 : Option D) (H : HD), (∀ w ∈ ws, Asx w ∧ w.length ≤ 100000) -> done.length + ws.length ≤ 200000 -> 0 ≤ last -> H[p2]? = some (.lst (done.map .int)) -> H[pw]? = some (.lst W) -> Fm [p2] H0 H →
  (rdW m last ws = none -> ∀ σ H', Fm [p2] H0 H' -> R (.rt .non) σ H') →
  (∀ is, rdW m last ws = some is -> ∀ a3 a4 a5 a6 H', Fm [p2] H0 H' -> H'[p2]? = some (.lst ((done ++ is).map .int)) -> R .nx [some L, some (.int m), some (.ref p2), a3, a4, a5, a6] H') →
  wS (Zf0 [(pw, .lst W)] (gNm 4) lrB (ws.map tx) [some L, some (.int m), some (.ref p2), some (.int last), z4, z5, z6] H) R
 | [], done, last, z4, z5, z6, H, as, hl, h0, g2, gw, x, n, y => Zih (Zni gw) (y [] rfl _ _ _ _ H x (by rw [List.append_nil]; exact g2))
 | w :: r, done, last, z4, z5, z6, H, as, hl, h0, g2, gw, x, n, y => by
  obtain ⟨aw, lw'⟩ := as w (by simp)
  have no : Zu5 m last w = none -> ∀ σ H', Fm [p2] H0 H' -> R (.rt .non) σ H' := fun e => n (by unfold rdW; rw [e])
  rw [List.map_cons]
  refine Zff (Zni gw) ?_
  refine w_gnm ?_
  unfold lrB
  refine w_seq (w_set (w_op ?_))
  refine Zhz ?_
  (repeat fail "go")
  refine Zhw (j := 1) rfl lw' ?_
  (repeat fail "go")
  refine Zrx ?_
  refine w_kn (w_seq (w_set (Zhz ?_)))
  (repeat fail "go")
  refine Zhg (i := if hdB w then 1 else 0) (by unfold hdB; split <;> rfl) lw' ?_
  have fa : Asx (fgs w) := fun c hc => aw c (List.mem_of_mem_drop hc)
  have fl : (fgs w).length ≤ 100000 := by unfold fgs; simp; omega
  show Zgm _ _ .nx [some L, some (.int m), some (.ref p2), some (.int last), some (tx w), some (.bl (hdB w)), some (tx (fgs w))] H
  refine w_kn (w_seq (w_if ?_))
  (repeat fail "go")
  refine Zjm fl ?_
  (repeat fail "go")
  refine ⟨fun h1 => ?_, fun h1 => ?_⟩
  ·(repeat fail "go")
   refine no (Zqp h0 (by omega) fun c ec => ?_) _ _ x
   rw [ec] at h1
   revert h1
   simp
  have l1 : (fgs w).length = 1 := by
   have : ((fgs w).length : Int) = 1 := by simpa using h1
   omega
  obtain ⟨c, ec⟩ : ∃ c, fgs w = [c] := List.length_eq_one_iff.mp l1
  rw [ec]
  (repeat fail "go")
  refine Zhz ?_
  (repeat fail "go")
  refine Zhw (j := m) rfl (by simp [f18]) ?_
  refine w_sni ?_
  (repeat fail "go")
  refine ⟨fun h2 => ?_, fun h2 => ?_⟩
  ·(repeat fail "go")
   refine no (Zqp h0 (by omega) fun c' ec' => ?_) _ _ x
   rw [ec] at ec'
   cases ec'
   have h2 : c ∉ f18.take m := by simpa using h2
   rw [Zy2 hm] at h2
   omega
  have h2 : c ∈ f18.take m := by simpa using h2
  rw [Zy2 hm] at h2
  have hdg : ∀ z ∈ [c], dig z = true := fun z hz => by simp at hz; subst hz; rw [Zh0]; omega
  have en : num [c] = c - 48 := by have e : num [c] = 0 * 10 + (c - 48) := rfl; omega
  (repeat fail "go")
  refine Zmh hdg (by simp) (by simp) ?_
  rw [en]
  (repeat fail "go")
  refine ⟨fun h3 => ?_, fun h3 => ?_⟩
  ·(repeat fail "go")
   have h3 := of_decide_eq_true h3
   refine no (Zqp h0 (by omega) fun c' ec' => ?_) _ _ x
   rw [ec] at ec'
   cases ec'
   omega
  have h3 := of_decide_eq_false h3
  have ey := Zvi (m := m) (last := last) (x := w) (c := c) (by omega) ec (by omega) (by omega) (by omega)
  (repeat fail "go")
  refine Zmh hdg (by simp) (by simp) ?_
  rw [en]
  (repeat fail "go")
  refine ⟨by simp [Zh5, g2], ?_⟩
  (repeat fail "go")
  have ei : atI [D.int ((c - 48 : Nat) : Int), .int (-((c - 48 : Nat) : Int))] (if hdB w = true then 1 else 0) = some (.int (sgI w (c - 48))) := by
   unfold sgI
   cases hdB w <;> rfl
  refine w_ixR WP.last ei ?_
  (repeat fail "go")
  have g2' : (H ++ [DO.lst [D.int ((c - 48 : Nat) : Int), .int (-((c - 48 : Nat) : Int))]])[p2]? = some (.lst (done.map .int)) := appL g2
  refine Zkp g2' (by simp at hl ⊢; omega) ?_
  (repeat fail "go")
  have p2l : p2 < (H ++ [DO.lst [D.int ((c - 48 : Nat) : Int), .int (-((c - 48 : Nat) : Int))]]).length := (List.getElem?_eq_some_iff.mp g2').1
  refine Zkj hm hp r (done ++ [sgI w (c - 48)]) ((c - 48 : Nat) : Int) _ _ _ _ (fun v hv => as v (by simp [hv])) (by simp at hl ⊢; omega) (by omega) ?_ ?_ ((x.trans (.app _)).trans (.set (by simp))) (fun e => ?_) (fun is e a3 a4 a5 a6 H' x' g' => ?_)
  ·rw [List.getElem?_set_self p2l, List.map_append]
   rfl
  ·rw [List.getElem?_set_ne (Ne.symm hp)]
   exact appL gw
  ·refine n ?_
   unfold rdW
   rw [ey]
   show ((rdW m (Zdf (sgI w (c - 48))) r).map _) = none
   rw [Zlq, e]
   rfl
  ·refine y (sgI w (c - 48) :: is) ?_ _ _ _ _ H' x' (by rw [List.append_cons]; exact g')
   unfold rdW
   rw [ey]
   show ((rdW m (Zdf (sgI w (c - 48))) r).map _) = _
   rw [Zlq, e]
   rfl
theorem Zrp {m : Nat} {l : List Nat} (hm : m ≤ 8) (ha : Asx l) (hl : l.length ≤ 90000) (q : ∀ H', Fm [] H H' -> Q (rowO (rdR m (spl 32 l))) H') : wE (Zca [tx l, .int m] H) Q := by
 have wl := Zef (c := 32) l
 have as := Zer (c := 32) l ha
 refine Zda rfl ?_
 show wS (Zb9 [some (tx l), some (.int m), none, none, none, none, none] H) _
 unfold Zb9
 rw [s_mi, s_ze]
 refine w_seq (w_if ?_)
 (repeat fail "go")
 refine Zrx ?_
 refine w_bl ?_
 by_cases e0 : l = [48]
 ·rw [decide_eq_true e0]
  (repeat fail "go")
  have := q H .refl
  unfold rdR at this
  rw [if_pos ((Zir (by simp)).mpr e0)] at this
  exact this
 rw [decide_eq_false e0]
 have e1 : ¬ spl 32 l = [[48]] := fun z => e0 ((Zir (by simp)).mp z)
 refine w_bf ?_
 (repeat fail "go")
 refine Znn ?_
 (repeat fail "go")
 refine ⟨rfl, ?_⟩
 (repeat fail "go")
 rw [Zv1]
 refine Zfh (by decide) (by omega) (by omega) ?_
 refine w_itR last ?_
 have Q1 : ∀ H', Fm [] H H' -> Q (rowO (rdW m 0 (spl 32 l))) H' := fun H' x => by
  have := q H' x
  unfold rdR at this
  rw [if_neg e1] at this
  exact this
 have hne : (H ++ [DO.lst []]).length ≠ H.length := by simp
 refine Zkj (p2 := H.length) (H0 := H ++ [DO.lst []] ++ [DO.lst ((spl 32 l).map tx)]) hm hne (spl 32 l) [] 0 none none none _ (fun w hw => ⟨(as w hw).1, by have := (as w hw).2; omega⟩) (by simp; omega) (by omega) (appL last) last .refl (fun e σ H' x => ?_) (fun is e a3 a4 a5 a6 H' x g => ?_)
 ·(repeat fail "go")
  have := Q1 H' (Fm.new (T := [H.length]) ((Fm.app _).trans (.app _)) x fun m hm _ => by simp at hm; omega)
  rw [e] at this
  exact this
 ·(repeat fail "go")
  have := Q1 H' (Fm.new (T := [H.length]) ((Fm.app _).trans (.app _)) x fun m hm _ => by simp at hm; omega)
  rw [e] at this
  exact this
noncomputable def Zcj (m : Int) : Nat -> List (List Nat) -> Nat ⊕ List (List Int)
 | _, [] => .inr []
 | k, l :: r => match rdR m (spl 32 l) with
  | none => .inl k
  | some row => if 20 < k then .inl k else match Zcj m (k + 1) r with
   | .inl j => .inl j
   | .inr rs => .inr (row :: rs)
noncomputable def Zkb (E : List (List Nat)) (z : List Nat) : Int × Option (List (List Nat) × List (List Int)) := match E with
 | [] => (0, none)
 | k :: r => match rdK (spl 32 k) with
  | none => (0, none)
  | some ks => match Zcj ks.length 1 r with
   | .inl j => (j, none)
   | .inr rs => if z = [] then (-1, some (ks, rs)) else (((k :: r).length : Int), none)
structure Lin (l : List Nat) : Prop where
 a : Asx l
 n : l.length ≤ 90000
section
variable {ks : List D} {k : SD -> HD -> Prop} {R : FD -> SD -> HD -> Prop}
theorem Zo6 {T : D} {A B E : Option D} {Z7 : Option D} {i : Int} {l : List Nat} (hL : Lin l) (q : ∀ H', Fm [] H H' -> k [some T, A, B, some (.tup ks), E, some (.int i), some (tx l), some (rowO (rdR ks.length (spl 32 l)))] H') :
  wS (rcR [some T, A, B, some (.tup ks), E, some (.int i), some (tx l), Z7] H) (Zgm k R) := by
 have wl := Zef (c := 32) l
 have as := Zer (c := 32) l hL.a
 have hn := hL.n
 unfold rcR
 refine w_set (w_call ?_)
 (repeat fail "go")
 refine Znn ?_
 (repeat fail "go")
 refine ⟨rfl, ?_⟩
 (repeat fail "go")
 rw [Zxc]
 refine Zfh (by decide) (by omega) (by omega) ?_
 (repeat fail "go")
 refine Zzt (by obtain ⟨w, ws, e⟩ := Zfe 32 l; rw [e]; simp) (by omega) (fun w hw => ⟨(as w hw).1, by have := (as w hw).2; omega⟩) last fun H1 x1 => ?_
 exact q _ ((Fm.app _).trans x1)
theorem Zli {H0 : HD} {T : D} {p1 p2 p3 p4 : Nat} {L : List D} {rs : List (List Int)} {ls : List Int} {l : List Nat} {σ : SD} (hp : p3 ≠ p4) (hL : Lin l) (e : rdR ks.length (spl 32 l) = some ls) (hl : ¬ 20 < rs.length + 1) (j : RcI H0 T p1 p2 p3 p4 ks L rs σ H)
  (q : ∀ σ' H', RcI H0 T p1 p2 p3 p4 ks L (rs ++ [ls]) σ' H' -> k σ' H') : wG (rcG (.tup [.int (rs.length + 1), tx l]) σ H) fun σ1 H1 => wS (rcS σ1 H1) (again k R) := by
 obtain ⟨⟨z5, z6, z7, rfl⟩, g3, g4, x⟩ := j
 unfold rcG rcS
 refine w_gtp rfl (w_gcn (w_gnm (w_gcn (w_gnm (w_gnl ?_)))))
 refine w_seq ?_
 refine Zo6 (T := T) hL fun H1 x1 => ?_
 rw [e]
 unfold rcT k_MOST_ROWS
 show wS (Zam _ _ [some T, some (.ref p1), some (.ref p2), some (.tup ks), some (.ref p4), some (.int (rs.length + 1)), some (tx l), some (.tup (ls.map .int))] H1) _
 refine w_seq (w_if ?_)
 (repeat fail "go")
 rw [decide_eq_false (by omega)]
 (repeat fail "go")
 have g4' := x1.lst (by simp) g4
 refine ⟨by simp [Zh5, g4'], ?_⟩
 (repeat fail "go")
 refine Zkp g4' (by simp; omega) ?_
 (repeat fail "go")
 refine q _ _ ⟨⟨_, _, _, rfl⟩, ?_, ?_, (x.trans (x1.sub (by simp))).trans (.set (by simp))⟩
 ·rw [List.getElem?_set_ne (Ne.symm hp)]
  exact x1.lst (by simp) g3
 ·have : p4 < H1.length := (List.getElem?_eq_some_iff.mp g4').1
  rw [List.getElem?_set_self this, List.map_append]
  rfl
theorem Zl5 {H0 : HD} {T : D} {p1 p2 p3 p4 : Nat} {L : List D} (hp : p3 ≠ p4) : ∀ (t : List (List Nat)) (rs new : List (List Int)) (σ : SD) (H : HD), (∀ l ∈ t, Lin l) -> Zcj ks.length (rs.length + 1) t = .inr new -> RcI H0 T p1 p2 p3 p4 ks L rs σ H →
  (∀ σ' H', RcI H0 T p1 p2 p3 p4 ks L (rs ++ new) σ' H' -> R .nx σ' H') -> wS (Zf0 [(p3, .lst L)] rcG rcS (Zd8 (rs.length + 1) (t.map tx)) σ H) R
 | [], rs, new, σ, H, u, e, j, q => by
  cases e
  exact Zih (Zni j.2.1) (q σ H (by rw [List.append_nil]; exact j))
 | l :: t, rs, new, σ, H, u, e, j, q => by
  refine Zff (Zni j.2.1) ?_
  unfold Zcj at e
  split at e
  ·cases e
  rename_i row er
  split at e
  ·cases e
  rename_i hk
  split at e
  ·cases e
  rename_i rs' e2
  cases e
  refine Zli hp (u l (by simp)) er hk j fun σ' H' j' => ?_
  have := Zl5 hp t (rs ++ [row]) rs' σ' H' (fun x hx => u x (by simp [hx])) (by simpa using e2) j' (by simpa using q)
  rwa [List.length_append, List.length_singleton, Int.natCast_add] at this
theorem Zpd {H0 : HD} {T : D} {p1 p2 p3 p4 : Nat} {L : List D} {P : Int -> HD -> Prop} (hp : p3 ≠ p4) : ∀ (t : List (List Nat)) (rs : List (List Int)) (j : Nat) (σ : SD) (H : HD), (∀ l ∈ t, Lin l) -> rs.length + t.length ≤ 200000 -> Zcj ks.length (rs.length + 1) t = .inl j -> (∀ H', Fm [p4] H0 H' -> P j H') -> RcI H0 T p1 p2 p3 p4 ks L rs σ H →
  wX (Zf0 [(p3, .lst L)] rcG rcS (Zd8 (rs.length + 1) (t.map tx)) σ H) (Zf2 [(p3, .lst L)] rcG rcS rcY (Zd8 (rs.length + 1) (t.map tx)) σ H) P
 | [], rs, j, σ, H, u, hl, e, q, i => by cases e
 | l :: t, rs, j, σ, H, u, hl, e, q, i => by
  simp only [List.length_cons] at hl
  unfold Zcj at e
  split at e
  ·rename_i er
   cases e
   refine Znq (Zni i.2.1) ?_
   obtain ⟨⟨z5, z6, z7, rfl⟩, g3, g4, x⟩ := i
   unfold rcG rcS rcY
   refine w_gtp rfl (w_gcn (w_gnm (w_gcn (w_gnm (w_gnl ?_)))))
   refine Zdc ?_
   refine Zo6 (T := T) (u l (by simp)) fun H1 x1 => ?_
   rw [er]
   unfold rcT k_MOST_ROWS
   show wX (Zam _ _ [some T, some (.ref p1), some (.ref p2), some (.tup ks), some (.ref p4), some (.int (rs.length + 1)), some (tx l), some .non] H1) (yIf _ _ _ [some T, some (.ref p1), some (.ref p2), some (.tup ks), some (.ref p4), some (.int (rs.length + 1)), some (tx l), some .non] H1) _
   refine Zod (Zrf ?_)
   refine w_or (w_tof ?_)
   (repeat fail "go")
   refine Zg7 ?_
   (repeat fail "go")
   exact ⟨by omega, q _ (x.trans (x1.sub (by simp)))⟩
  rename_i row er
  split at e
  ·rename_i hk
   cases e
   refine Znq (Zni i.2.1) ?_
   obtain ⟨⟨z5, z6, z7, rfl⟩, g3, g4, x⟩ := i
   unfold rcG rcS rcY
   refine w_gtp rfl (w_gcn (w_gnm (w_gcn (w_gnm (w_gnl ?_)))))
   refine Zdc ?_
   refine Zo6 (T := T) (u l (by simp)) fun H1 x1 => ?_
   rw [er]
   unfold rcT k_MOST_ROWS
   show wX (Zam _ _ [some T, some (.ref p1), some (.ref p2), some (.tup ks), some (.ref p4), some (.int (rs.length + 1)), some (tx l), some (.tup (row.map .int))] H1) (yIf _ _ _ [some T, some (.ref p1), some (.ref p2), some (.tup ks), some (.ref p4), some (.int (rs.length + 1)), some (tx l), some (.tup (row.map .int))] H1) _
   refine Zod (Zrf ?_)
   (repeat fail "go")
   rw [decide_eq_true (by omega)]
   refine w_bt ?_
   refine Zg7 ?_
   (repeat fail "go")
   exact ⟨by omega, q _ (x.trans (x1.sub (by simp)))⟩
  rename_i hk
  split at e
  ·rename_i j' e2
   cases e
   refine Zv7 (Zni i.2.1) ?_
   refine Zli hp (u l (by simp)) er hk i fun σ' H' i' => ?_
   have := Zpd hp t (rs ++ [row]) j σ' H' (fun x hx => u x (by simp [hx])) (by simp; omega) (by simpa using e2) q i'
   rwa [List.length_append, List.length_singleton, Int.natCast_add] at this
  ·cases e
end
noncomputable def Zjy (c : List (List Nat) × List (List Int)) : D := .tup [.tup (c.1.map tx), .tup (c.2.map Zgt)]
theorem Zt4 (T : List Nat) : ∃ E z, spl 10 T = E ++ [z] := by
 obtain ⟨w, ws, e⟩ := Zfe 10 T
 exact ⟨(spl 10 T).dropLast, (spl 10 T).getLast (by rw [e]; simp), (List.dropLast_concat_getLast _).symm⟩
structure Txt0 (T : List Nat) (E : List (List Nat)) (z : List Nat) : Prop where
 e : spl 10 T = E ++ [z]
 a : Asx T
 n : T.length ≤ 90000
theorem Txt0.lin {T : List Nat} {E : List (List Nat)} {z : List Nat} (t : Txt0 T E z) : (∀ l ∈ E, Lin l) ∧ Lin z ∧ E.length ≤ 90000 := by
 have as := Zer (c := 10) T t.a
 have len := Zef 10 T
 have n := t.n
 rw [t.e] at as len
 refine ⟨fun l hl => ⟨(as l (by simp [hl])).1, by have := (as l (by simp [hl])).2; omega⟩, ⟨(as z (by simp)).1, by have := (as z (by simp)).2; omega⟩, ?_⟩
 simp at len
 omega
section
variable {k : SD -> HD -> Prop} {R : FD -> SD -> HD -> Prop}
theorem Zya {T A : D} {p : Nat} (g : H[p]? = some (.lst [])) (q : k [some T, some A, some (.ref p), some .non, none, none, none, none] H) : wS (rcC [some T, some A, some (.ref p), none, none, none, none, none] H) (Zgm k R) := by
 unfold rcC
 refine w_set (w_eif (w_ttru (w_var rfl ?_)))
 refine Ztk g ?_
 refine w_bf ?_
 (repeat fail "go")
 exact q
theorem Zlm {T A : D} {p : Nat} {r : List D} {l : List Nat} (hL : Lin l) (g : H[p]? = some (.lst (tx l :: r))) (q : ∀ H', Fm [] H H' -> k [some T, some A, some (.ref p), some (kinO (rdK (spl 32 l))), none, none, none, none] H') : wS (rcC [some T, some A, some (.ref p), none, none, none, none, none] H) (Zgm k R) := by
 have wl := Zef 32 l
 have as := Zer (c := 32) l hL.a
 have hn := hL.n
 unfold rcC
 refine w_set (w_eif (w_ttru (w_var rfl ?_)))
 refine Ztk g ?_
 refine w_bt ?_
 refine w_call ?_
 (repeat fail "go")
 refine Znn ?_
 (repeat fail "go")
 refine w_ixR g (Zeh (j := 0) rfl) ?_
 refine ⟨rfl, ?_⟩
 (repeat fail "go")
 rw [Zxc]
 refine Zfh (by decide) (by omega) (by omega) ?_
 (repeat fail "go")
 refine Zr9 (by obtain ⟨w, ws, e⟩ := Zfe 32 l; rw [e]; simp) (by omega) (fun w hw => (as w hw).1) last fun H1 x1 => ?_
 exact q _ ((Fm.app _).trans x1)
end
theorem Zz7 {T A B : D} {P : Int -> HD -> Prop} (q : P 0 H) : wX (rcD [some T, some A, some B, some .non, none, none, none, none] H) (rcYD [some T, some A, some B, some .non, none, none, none, none] H) P := by
 unfold rcD rcYD
 refine Zrf ?_
 refine w_tof ?_
 (repeat fail "go")
 refine Zg7 ?_
 (repeat fail "go")
 exact ⟨by decide, q⟩
theorem Zxw {T C : D} {p1 p2 : Nat} {E4 z5 z6 z7 : Option D} {xs : List D} {z : List Nat} {S : Bool -> HD -> Prop} (g : H[p1]? = some (.lst (xs ++ [tx z]))) (q : S (!decide (z = [])) H) : wT (rcU [some T, some (.ref p1), some (.ref p2), some C, E4, z5, z6, z7] H) S := by
 unfold rcU
 rw [s_e]
 (repeat fail "go")
 refine w_ixR g (Zg2 _ _) ?_
 (repeat fail "go")
 refine Zt1 ?_
 exact w_bl q
theorem Zqt {l z : List Nat} {r : List (List Nat)} (ek : rdK (spl 32 l) = none) : Zkb (l :: r) z = (0, none) := by
 unfold Zkb
 dsimp only
 rw [ek]
theorem Zml {T : List Nat} {E : List (List Nat)} {z : List Nat} (t : Txt0 T E z) :
  (∀ c Q, Zkb E z = (-1, some c) -> (∀ H', Fm [] H H' -> Q (Zjy c) H') -> wE (Zbz [tx T] H) Q) ∧
  (∀ j P, Zkb E z = (j, none) -> (∀ H', Fm [] H H' -> P j H') -> wXD (Zbz [tx T] H) (Zch [tx T] H) P) := by
 obtain ⟨lE, lz, hE⟩ := t.lin
 have hT := t.n
 have sl := Zef 10 T
 have A : ∀ {k : SD -> HD -> Prop} {R : FD -> SD -> HD -> Prop}, k [some (tx T), some (.ref H.length), none, none, none, none, none, none] (H ++ [.lst (E.map tx ++ [tx z])]) -> wS (rcA [some (tx T), none, none, none, none, none, none, none] H) (Zgm k R) := fun q => by
  refine w_rcA (by omega) (by omega) ?_
  rw [t.e, List.map_append]
  exact q
 cases E with
 | nil =>
  refine ⟨fun c Q e => (by cases e), fun j P e q => ?_⟩
  cases e
  refine Zly rfl ?_
  show wX (Zbj [some (tx T), none, none, none, none, none, none, none] H) (Zbl [some (tx T), none, none, none, none, none, none, none] H) _
  rw [Zx7, rc_y]
  refine Zdc (A ?_)
  refine Zdc (Zzp last ?_)
  refine Zdc (Zya last ?_)
  refine Zoq (Zz7 ?_)
  exact q _ ((Fm.app _).trans (.app _))
 | cons l r =>
  have B0 : ∀ {k : SD -> HD -> Prop} {R : FD -> SD -> HD -> Prop}, k [some (tx T), some (.ref H.length), some (.ref (H ++ [DO.lst ((l :: r).map tx ++ [tx z])]).length), none, none, none, none, none] (H ++ [.lst ((l :: r).map tx ++ [tx z])] ++ [.lst ((l :: r).map tx)]) -> wS (rcB [some (tx T), some (.ref H.length), none, none, none, none, none, none] (H ++ [.lst ((l :: r).map tx ++ [tx z])])) (Zgm k R) := fun q => Zzp last q
  have X0 : Fm [] H (H ++ [.lst ((l :: r).map tx ++ [tx z])] ++ [.lst ((l :: r).map tx)]) := (Fm.app _).trans (.app _)
  cases ek : rdK (spl 32 l) with
  | none =>
   have ea := Zqt (r := r) (z := z) ek
   refine ⟨fun c Q e => (by rw [ea] at e; cases e), fun j P e q => ?_⟩
   rw [ea] at e
   cases e
   refine Zly rfl ?_
   show wX (Zbj [some (tx T), none, none, none, none, none, none, none] H) (Zbl [some (tx T), none, none, none, none, none, none, none] H) _
   rw [Zx7, rc_y]
   refine Zdc (A ?_)
   refine Zdc (B0 ?_)
   refine Zdc (Zlm (lE l (by simp)) last fun H1 x1 => ?_)
   rw [ek]
   refine Zoq (Zz7 ?_)
   exact q _ (X0.trans x1)
  | some kw =>
   have ea : Zkb (l :: r) z = match Zcj kw.length 1 r with
     | .inl j => ((j : Int), none)
     | .inr rs => if z = [] then (-1, some (kw, rs)) else (((l :: r).length : Int), none) := by
    unfold Zkb
    dsimp only
    rw [ek]
    all_goals (dsimp only; cases Zcj kw.length 1 r <;> rfl)
   have kl : ((kw.map tx).length : Int) = kw.length := by simp
   have hr : r.length ≤ 90000 := by simp at hE; omega
   have lr : ∀ x ∈ r, Lin x := fun x hx => lE x (by simp [hx])
   have st : ∀ (H1 : HD), Fm [] (H ++ [.lst ((l :: r).map tx ++ [tx z])] ++ [.lst ((l :: r).map tx)]) H1 →
     (H1)[H.length]? = some (.lst ((l :: r).map tx ++ [tx z])) ∧ H1[(H ++ [DO.lst ((l :: r).map tx ++ [tx z])]).length]? = some (.lst ((l :: r).map tx)) ∧ H.length + 1 < H1.length ∧ ∀ H2, Fm [H1.length] (H1 ++ [DO.lst []] ++ [DO.lst (r.map tx)]) H2 -> Fm [] H H2 := fun H1 x1 => by
    have ln := x1.len
    simp at ln
    refine ⟨x1.lst (by simp) (appL last), x1.lst (by simp) last, by omega, fun H2 x2 => ?_⟩
    refine Fm.new (T := [H1.length]) ((X0.trans x1).trans ((Fm.app _).trans (.app _))) x2 fun m hm _ => ?_
    simp at hm
    omega
   cases er : Zcj kw.length 1 r with
   | inl j0 =>
    rw [er] at ea
    refine ⟨fun c Q e => (by rw [ea] at e; cases e), fun j P e q => ?_⟩
    rw [ea] at e
    cases e
    refine Zly rfl ?_
    show wX (Zbj [some (tx T), none, none, none, none, none, none, none] H) (Zbl [some (tx T), none, none, none, none, none, none, none] H) _
    rw [Zx7, rc_y]
    refine Zdc (A ?_)
    refine Zdc (B0 ?_)
    refine Zdc (Zlm (lE l (by simp)) last fun H1 x1 => ?_)
    obtain ⟨gA, gB, hlt, X2⟩ := st H1 x1
    rw [ek]
    show wX (Zam rcD _ [some (tx T), _, _, some (.tup (kw.map tx)), none, none, none, none] H1) (yEi rcD _ _ [some (tx T), _, _, some (.tup (kw.map tx)), none, none, none, none] H1) _
    refine Zpq (Zvf ?_)
    refine Zdc (Zu9 ?_)
    refine Zoq (Zyb ?_)
    unfold rcI
    refine Zi2 ?_
    (repeat fail "go")
    refine Zv5 (appL gB) ?_
    (repeat fail "go")
    refine ⟨_, _, rfl, last, ?_⟩
    have L := Zpd (ks := kw.map tx) (P := P) (H0 := H1 ++ [DO.lst []] ++ [.lst (r.map tx)]) (T := tx T) (p1 := H.length) (p2 := (H ++ [DO.lst ((l :: r).map tx ++ [tx z])]).length) (p3 := (H1 ++ [DO.lst []]).length) (p4 := H1.length) (L := r.map tx) (by simp) r [] j0 _ _ lr (by simp; omega) (by rw [kl]; exact er) (fun H' x => q _ (X2 H' x)) ⟨⟨none, none, none, rfl⟩, last, appL last, .refl⟩
    simpa using L
   | inr rs =>
    rw [er] at ea
    have LL : ∀ (H1 : HD) (R : FD -> SD -> HD -> Prop), (∀ σ' H', RcI (H1 ++ [DO.lst []] ++ [DO.lst (r.map tx)]) (tx T) H.length (H ++ [DO.lst ((l :: r).map tx ++ [tx z])]).length (H1 ++ [DO.lst []]).length H1.length (kw.map tx) (r.map tx) rs σ' H' -> R .nx σ' H') →
      wS (Zf0 [((H1 ++ [DO.lst []]).length, .lst (r.map tx))] rcG rcS (Zd8 1 (r.map tx)) [some (tx T), some (.ref H.length), some (.ref (H ++ [DO.lst ((l :: r).map tx ++ [tx z])]).length), some (.tup (kw.map tx)), some (.ref H1.length), none, none, none] (H1 ++ [DO.lst []] ++ [DO.lst (r.map tx)])) R := fun H1 R hq => by
     have := Zl5 (ks := kw.map tx) (R := R) (H0 := H1 ++ [DO.lst []] ++ [.lst (r.map tx)]) (T := tx T) (p1 := H.length) (p2 := (H ++ [DO.lst ((l :: r).map tx ++ [tx z])]).length) (p3 := (H1 ++ [DO.lst []]).length) (p4 := H1.length) (L := r.map tx) (by simp) r [] rs _ _ lr (by rw [kl]; exact er) ⟨⟨none, none, none, rfl⟩, last, appL last, .refl⟩ (by simpa using hq)
     simpa using this
    by_cases hz : z = []
    ·rw [show (match (Sum.inr rs : Nat ⊕ List (List Int)) with | .inl j => ((j : Int), none) | .inr rs => if z = [] then (-1, some (kw, rs)) else (((l :: r).length : Int), none)) = (-1, some (kw, rs)) from if_pos hz] at ea
     refine ⟨fun c Q e q => ?_, fun j P e => by rw [ea] at e; cases e⟩
     rw [ea] at e
     cases e
     refine Zda rfl ?_
     show wS (Zbj [some (tx T), none, none, none, none, none, none, none] H) _
     rw [Zx7]
     refine w_seq (A ?_)
     refine w_seq (B0 ?_)
     refine w_seq (Zlm (lE l (by simp)) last fun H1 x1 => ?_)
     obtain ⟨gA, gB, hlt, X2⟩ := st H1 x1
     rw [ek]
     show wS (Zam rcD _ [some (tx T), _, _, some (.tup (kw.map tx)), none, none, none, none] H1) _
     refine w_seq (Zvf ?_)
     refine w_seq (Zu9 ?_)
     refine w_seq (w_for ?_)
     unfold rcI
     refine Zi2 ?_
     (repeat fail "go")
     refine Zv5 (appL gB) ?_
     (repeat fail "go")
     refine ⟨_, _, rfl, last, ?_⟩
     refine LL H1 _ fun σ' H' j => ?_
     obtain ⟨⟨z5, z6, z7, rfl⟩, g3, g4, x⟩ := j
     refine w_kn ?_
     unfold rcZ
     refine w_seq (w_if (Zxw (x.lst (by simp; omega) (appL (appL gA))) ?_))
     rw [decide_eq_true hz]
     (repeat fail "go")
     exact q _ (X2 H' x)
    ·rw [show (match (Sum.inr rs : Nat ⊕ List (List Int)) with | .inl j => ((j : Int), none) | .inr rs => if z = [] then (-1, some (kw, rs)) else (((l :: r).length : Int), none)) = (((l :: r).length : Int), none) from if_neg hz] at ea
     refine ⟨fun c Q e => (by rw [ea] at e; cases e), fun j P e q => ?_⟩
     rw [ea] at e
     cases e
     refine Zly rfl ?_
     show wX (Zbj [some (tx T), none, none, none, none, none, none, none] H) (Zbl [some (tx T), none, none, none, none, none, none, none] H) _
     rw [Zx7, rc_y]
     refine Zdc (A ?_)
     refine Zdc (B0 ?_)
     refine Zdc (Zlm (lE l (by simp)) last fun H1 x1 => ?_)
     obtain ⟨gA, gB, hlt, X2⟩ := st H1 x1
     rw [ek]
     show wX (Zam rcD _ [some (tx T), _, _, some (.tup (kw.map tx)), none, none, none, none] H1) (yEi rcD _ _ [some (tx T), _, _, some (.tup (kw.map tx)), none, none, none, none] H1) _
     refine Zpq (Zvf ?_)
     refine Zdc (Zu9 ?_)
     refine Zpq (w_for ?_)
     unfold rcI
     refine Zi2 ?_
     (repeat fail "go")
     refine Zv5 (appL gB) ?_
     (repeat fail "go")
     refine ⟨_, _, rfl, last, ?_⟩
     refine LL H1 _ fun σ' H' j => ?_
     obtain ⟨⟨z5, z6, z7, rfl⟩, g3, g4, x⟩ := j
     refine w_kn ?_
     unfold rcZ rcYU
     have gl := x.lst (by simp; omega) (appL (u := DO.lst (r.map tx)) (appL (u := DO.lst []) gB))
     refine Zod (Zrf (Zxw (x.lst (by simp; omega) (appL (appL gA))) ?_))
     rw [decide_eq_false hz]
     refine w_bt ?_
     refine Zg7 ?_
     (repeat fail "go")
     rw [List.length_map]
     exact ⟨by simp at hE ⊢; omega, q _ (X2 H' x)⟩
noncomputable def ansD (a : Int × Option (List (List Nat) × List (List Int))) : D := .tup [.int a.1, match a.2 with | some c => Zjy c | none => .non]
noncomputable def lrS : SF := Zam (Zba 5 (Za2 2 Zca (Zac (eOp ixD (Zah 1) (Zah 4)) (Zac (eCB Zdw (Zac (Zah 2) Zan)) Zan))))
 (Zam (sIf (Zfr (tOf (eOp isD (Zah 5) (eC .non))) (tOf (eOp gtD (Zah 4) (eC (.int 20))))) (Zam (Zcl (Zgl (Zac (Zah 4) (Zac (eC .non) Zan)))) Zav) Zav)
 (Zam (Zcv (eLM Zbo (Zah 3) (Zac (Zah 5) Zan))) Zav))
theorem Zn6 {T : D} {p1 p3 m : Nat} {ks : List D} {LL : List (List Nat)} {H0 : HD} {R : FD -> SD -> HD -> Prop} (hm : ks.length = m) (h8 : m ≤ 8) (hp : p1 ≠ p3) (hLL : ∀ l ∈ LL, Lin l) : ∀ (t : List (List Nat)) (rs : List (List Int)) (z4 z5 : Option D) (H : HD), (∀ i : Nat, i < t.length -> LL[rs.length + 1 + i]? = t[i]?) -> rs.length + t.length ≤ 200000 →
  H[p1]? = some (.lst (LL.map tx)) -> H[p3]? = some (.lst (rs.map Zgt)) -> Fm [p3] H0 H →
  (∀ j, Zcj m (rs.length + 1) t = .inl j -> ∀ σ H', Fm [p3] H0 H' -> R (.rt (.tup [.int j, .non])) σ H') →
  (∀ new, Zcj m (rs.length + 1) t = .inr new -> ∀ a4 a5 H', Fm [p3] H0 H' -> H'[p3]? = some (.lst ((rs ++ new).map Zgt)) -> R .nx [some T, some (.ref p1), some (.tup ks), some (.ref p3), a4, a5] H') →
  wS (Zf0 [] (gNm 4) lrS (Zbb (rs.length + 1) t.length) [some T, some (.ref p1), some (.tup ks), some (.ref p3), z4, z5] H) R
 | [], rs, z4, z5, H, hi, hl, g1, g3, x, n, y => Zih Zna (y [] rfl _ _ H x (by rw [List.append_nil]; exact g3))
 | l :: t, rs, z4, z5, H, hi, hl, g1, g3, x, n, y => by
  have h0 := hi 0 (by simp)
  rw [Nat.add_zero] at h0
  have h0 : LL[rs.length + 1]? = some l := h0
  have hL := hLL l (List.mem_of_getElem? h0)
  have er : Zbb (rs.length + 1 : Int) (l :: t).length = .int ((rs.length + 1 : Nat) : Int) :: Zbb (rs.length + 1 + 1 : Int) t.length := by
   unfold Zbb
   rw [List.length_cons, List.range_succ_eq_map, List.map_cons, List.map_map]
   refine congr (congrArg List.cons (by simp)) (List.map_congr_left fun i _ => ?_)
   show D.int _ = D.int _
   refine congrArg D.int ?_
   simp
   omega
  rw [er]
  refine Zff Zna ?_
  unfold lrS
  (repeat fail "go")
  refine w_ixR g1 (Zeh (j := rs.length + 1) (by rw [List.getElem?_map, h0]; rfl)) ?_
  (repeat fail "go")
  rw [hm]
  refine Zrp h8 hL.a hL.n fun H1 x1 => ?_
  have g1' := x1.lst (by simp) g1
  have g3' := x1.lst (by simp) g3
  have x' : Fm [p3] H0 H1 := x.trans (x1.sub (by simp))
  cases e : rdR m (spl 32 l) with
  | none =>
   show Zgm _ _ .nx [some T, some (.ref p1), some (.tup ks), some (.ref p3), some (.int ((rs.length + 1 : Nat) : Int)), some .non] H1
   refine w_kn (w_seq (w_if ?_))
   refine w_or (w_tof ?_)
   (repeat fail "go")
   exact n (rs.length + 1) (by unfold Zcj; rw [e]) _ _ x'
  | some row =>
   show Zgm _ _ .nx [some T, some (.ref p1), some (.tup ks), some (.ref p3), some (.int ((rs.length + 1 : Nat) : Int)), some (.tup (row.map .int))] H1
   refine w_kn (w_seq (w_if ?_))
   (repeat fail "go")
   by_cases h20 : 20 < rs.length + 1
   ·rw [decide_eq_true (by omega)]
    (repeat fail "go")
    exact n (rs.length + 1) (by unfold Zcj; rw [e]; dsimp only; rw [if_pos h20]) _ _ x'
   ·rw [decide_eq_false (by omega)]
    (repeat fail "go")
    refine ⟨by simp [Zh5, g3'], ?_⟩
    (repeat fail "go")
    refine Zkp g3' (by simp at hl ⊢; omega) ?_
    (repeat fail "go")
    have lt : p3 < H1.length := (List.getElem?_eq_some_iff.mp g3').1
    have e1 : ∀ b, Zcj m (rs.length + 1 + 1) t = b -> Zcj m (rs.length + 1) (l :: t) = match b with | .inl j => .inl j | .inr q => .inr (row :: q) := fun b hb => by
     conv => lhs; unfold Zcj
     rw [e]
     dsimp only
     rw [if_neg h20, hb]
     all_goals (cases b <;> rfl)
    have IH := Zn6 (T := T) (R := R) hm h8 hp hLL t (rs ++ [row]) (some (.int ((rs.length + 1 : Nat) : Int))) (some (.tup (row.map .int))) (H1.set p3 (.lst (rs.map Zgt ++ [.tup (row.map .int)]))) (fun i hi' => ?_) (by simp at hl ⊢; omega) (by rw [List.getElem?_set_ne (Ne.symm hp)]; exact g1') (by rw [List.getElem?_set_self lt, List.map_append]; rfl) (x'.trans (.set (by simp))) (fun j hj => ?_) (fun new hn a4 a5 H' x2 g2 => ?_)
    ·have e2 : (((rs ++ [row]).length : Nat) : Int) + 1 = rs.length + 1 + 1 := by simp
     rw [e2] at IH
     exact IH
    ·have := hi (i + 1) (by simp; omega)
     rw [List.getElem?_cons_succ] at this
     rw [← this]
     congr 1
     simp
     omega
    ·refine n j ?_
     rw [e1 _ (by simpa using hj)]
    ·refine y (row :: new) ?_ a4 a5 H' x2 (by rw [List.append_cons]; exact g2)
     rw [e1 _ (by simpa using hn)]
theorem Zqu {ws kw : List (List Nat)} (e : rdK ws = some kw) : kw.length ≤ 8 ∧ ∀ w ∈ kw, w ∈ ws := by
 unfold rdK at e
 split at e
 ·cases e; simp
 ·split at e
  ·rename_i h; cases e; exact ⟨h.1, fun w hw => hw⟩
  ·cases e
theorem Zo9 {l z : List Nat} {r kw : List (List Nat)} (ek : rdK (spl 32 l) = some kw) : Zkb (l :: r) z = match Zcj kw.length 1 r with
  | .inl j => ((j : Int), none)
  | .inr rs => if z = [] then (-1, some (kw, rs)) else (((l :: r).length : Int), none) := by
 unfold Zkb
 dsimp only
 rw [ek]
 all_goals (dsimp only; cases Zcj kw.length 1 r <;> rfl)
theorem Zo2 {T : List Nat} {E : List (List Nat)} {z : List Nat} (t : Txt0 T E z) (q : ∀ H', Fm [] H H' -> Q (ansD (Zkb E z)) H') : wE (Ze7 [tx T] H) Q := by
 obtain ⟨lE, lz, hE⟩ := t.lin
 have hT := t.n
 have sl := Zef 10 T
 have lA : ∀ l ∈ E ++ [z], Lin l := fun l hl => by
  rcases List.mem_append.mp hl with h | h
  ·exact lE l h
  ·simp at h; subst h; exact lz
 refine Zda rfl ?_
 show wS (Zdx [some (tx T), none, none, none, none, none] H) _
 unfold Zdx
 rw [Zwj, s_e]
 refine w_seq (w_set ?_)
 refine Znn ?_
 (repeat fail "go")
 refine ⟨rfl, ?_⟩
 (repeat fail "go")
 refine Zfh (by decide) (by omega) (by omega) ?_
 rw [t.e]
 have hz : ∀ E' : List (List Nat), ∃ l, (E' ++ [z])[0]? = some l ∧ l ∈ E' ++ [z] := fun E' => by
  cases E' with
  | nil => exact ⟨z, rfl, by simp⟩
  | cons a b => exact ⟨a, rfl, by simp⟩
 obtain ⟨l0, e0, m0⟩ := hz E
 have L0 := lA l0 m0
 refine w_kn (w_seq (w_set (w_call ?_)))
 (repeat fail "go")
 refine w_ixR last (Zeh (j := 0) (by rw [List.getElem?_map, e0]; rfl)) ?_
 (repeat fail "go")
 refine Zmn L0.a L0.n fun H1 x1 => ?_
 have g1 := x1.lst (by simp) (last (H := H) (o := DO.lst ((E ++ [z]).map tx)))
 have X1 : Fm [] H H1 := (Fm.app _).trans x1
 have hln := X1.len
 have ln1 : H.length < H1.length := by have := x1.len; simp at this; omega
 cases ek : rdK (spl 32 l0) with
 | none =>
  show Zgm _ _ .nx [some (tx T), some (.ref H.length), some .non, none, none, none] H1
  refine w_kn (w_seq (w_if ?_))
  refine w_or (w_tof ?_)
  (repeat fail "go")
  have := q _ X1
  have ea : Zkb E z = (0, none) := by
   cases E with
   | nil => rfl
   | cons a b => cases e0; exact Zqt ek
  rw [ea] at this
  exact this
 | some kw =>
  show Zgm _ _ .nx [some (tx T), some (.ref H.length), some (.tup (kw.map tx)), none, none, none] H1
  refine w_kn (w_seq (w_if ?_))
  (repeat fail "go")
  cases E with
  | nil =>
   refine w_bT rfl ?_
   (repeat fail "go")
   exact q _ X1
  | cons l r =>
   cases e0
   refine w_bF (by simp; omega) ?_
   (repeat fail "go")
   have k8 : kw.length ≤ 8 := (Zqu ek).1
   have ea := Zo9 (r := r) (z := z) ek
   rw [List.length_cons] at hE
   refine ⟨1, ((r.length + 1 : Nat) : Int), by simp, ⟨by omega, by omega⟩, ⟨by omega, by omega⟩, ?_⟩
   have er : Zbb 1 (((r.length + 1 : Nat) : Int) - 1).toNat = Zbb ((([] : List (List Int)).length : Int) + 1) r.length := by
    rw [show (((r.length + 1 : Nat) : Int) - 1).toNat = r.length by omega]
    rfl
   rw [er]
   have lnm : H1.length ≠ H.length := by omega
   have XX : ∀ H', Fm [H1.length] (H1 ++ [DO.lst []]) H' -> Fm [] H H' := fun H' x => Fm.new (T := [H1.length]) (X1.trans (.app _)) x fun m hm _ => by simp at hm; omega
   refine Zn6 (T := tx T) (p1 := H.length) (p3 := H1.length) (m := kw.length) (ks := kw.map tx) (LL := l0 :: r ++ [z]) (H0 := H1 ++ [DO.lst []]) (by simp) k8 (Ne.symm lnm) lA r [] none none _ (fun i hi => ?_) (by simp; omega) (appL g1) last .refl (fun j ej σ H' x => ?_) (fun new en a4 a5 H' x g => ?_)
   ·show (l0 :: (r ++ [z]))[0 + 1 + i]? = _
    rw [show 0 + 1 + i = i + 1 by omega, List.getElem?_cons_succ, List.getElem?_append_left hi]
   ·have := q _ (XX H' x)
    rw [ea, show Zcj kw.length 1 r = _ from ej] at this
    (repeat fail "go")
    exact this
   ·have q1 := q _ (XX H' x)
    rw [ea, show Zcj kw.length 1 r = _ from en] at q1
    have gp := x.lst (by simp; omega) (appL (u := DO.lst []) g1)
    refine w_kn (w_seq (w_if ?_))
    (repeat fail "go")
    refine w_ixR gp (by rw [List.map_append]; exact Zg2 _ _) ?_
    (repeat fail "go")
    refine Zt1 ?_
    refine w_bl ?_
    by_cases hz : z = []
    ·rw [decide_eq_true hz]
     rw [show (match (Sum.inr new : Nat ⊕ List (List Int)) with | .inl j => ((j : Int), none) | .inr rs => if z = [] then (-1, some (kw, rs)) else (((l0 :: r).length : Int), none)) = (-1, some (kw, new)) from if_pos hz] at q1
     (repeat fail "go")
     exact q1
    ·rw [decide_eq_false hz]
     rw [show (match (Sum.inr new : Nat ⊕ List (List Int)) with | .inl j => ((j : Int), none) | .inr rs => if z = [] then (-1, some (kw, rs)) else (((l0 :: r).length : Int), none)) = (((l0 :: r).length : Int), none) from if_neg hz] at q1
     (repeat fail "go")
     rw [show (((l0 :: r ++ [z]).map tx).length : Int) - 1 = ((l0 :: r).length : Int) by simp]
     exact q1
theorem Zsi {n k : Nat} {F : FF} {Y : YFF} {fa : AF} {g : SF} {f0 : EF} {d0 : D} {σ : SD} {R : Int -> HD -> Prop} (h0 : f0 σ H = some (d0, H)) (h : wA (fa σ H) fun ds H1 => ds.length = n ∧ wXD (F ds H1) (Y ds H1) R) :
  wX (Zam (Zba k (Zgl (Zac f0 (Zac (Za2 n F fa) Zan)))) g σ H) (Zi3 n Y fa σ H) R := by
 obtain ⟨ds, H1, e, hl, e1, q⟩ := h
 refine ⟨Zrj ?_, ?_⟩
 ·have ec : Za2 n F fa σ H = none := by unfold Za2; rw [e]; simp only [Zb]; rw [if_pos hl, e1]
  have ea : Zac (Za2 n F fa) Zan σ H = none := by unfold Zac; rw [ec]; rfl
  have eb : Zac f0 (Zac (Za2 n F fa) Zan) σ H = none := by
   show (f0 σ H).bind (fun p => (Zac (Za2 n F fa) Zan σ p.2).map fun q => (p.1 :: q.1, q.2)) = none
   rw [h0]
   simp only [Zb]
   rw [ea]
   rfl
  unfold Zba Zgl
  rw [eb]
  rfl
 ·unfold Zi3; rw [e]; simp only [Zb]; rw [if_pos hl]; exact q
theorem Zpr (E : List (List Nat)) (z : List Nat) : (∃ c, Zkb E z = (-1, some c)) ∨ ∃ j : Nat, Zkb E z = ((j : Int), none) := by
 unfold Zkb
 split
 ·exact .inr ⟨0, rfl⟩
 ·split
  ·exact .inr ⟨0, rfl⟩
  ·split
   ·exact .inr ⟨_, rfl⟩
   ·split
    ·exact .inl ⟨_, rfl⟩
    ·exact .inr ⟨_, rfl⟩
theorem Zuh {E : List (List Nat)} {z : List Nat} {c : List (List Nat) × List (List Int)} (hE : ∀ l ∈ E, Asx l) (e : Zkb E z = (-1, some c)) : ∀ w ∈ c.1, Asx w := by
 unfold Zkb at e
 split at e
 ·cases e
 ·split at e
  ·cases e
  ·rename_i l r0 o0 ks ek
   split at e
   ·cases e
   ·split at e
    ·cases e
     intro w hw
     exact (Zer _ (hE l (by simp)) w ((Zqu ek).2 w hw)).1
    ·cases e
theorem Zz2 {T : List Nat} {E : List (List Nat)} {z : List Nat} (t : Txt0 T E z) (q : ∀ H', Fm [] H H' -> Q (ansD (Zkb E z)) H') : wE (Ze1 [tx T] H) Q := by
 obtain ⟨h1, h2⟩ := Zml (H := H) t
 refine Zda rfl ?_
 show wS (Zdz [some (tx T), none, none] H) _
 unfold Zdz
 refine w_seq ?_
 (repeat fail "go")
 rcases Zpr E z with ⟨c, e⟩ | ⟨j, e⟩
 ·rw [e] at q
  refine Zxt ?_
  refine w_seq (w_set (w_tup ?_))
  (repeat fail "go")
  refine h1 c _ e fun H1 x1 => ?_
  (repeat fail "go")
  exact q _ x1
 ·rw [e] at q
  refine Ztc (Zsi (d0 := .int (-1)) rfl ?_)
  (repeat fail "go")
  refine ⟨rfl, h2 j _ e fun H1 x1 => ?_⟩
  (repeat fail "go")
  exact q _ x1
theorem Zs5 : Fines [D.bl true, .bl false] [PyData.bool true, .bool false] 0 := .cons (.bl true) (.cons (.bl false) .nil)
theorem Zwe {T : List Nat} {E : List (List Nat)} {z : List Nat} {j : Nat} (t : Txt0 T E z) (e : Zkb E z = ((j : Int), none)) (q : ∀ H', Fm [] H H' -> Q (.bl true) H') : wE (Zeg [tx T] H) Q := by
 refine Zda rfl ?_
 show wS (Zdn [some (tx T), none, none] H) _
 unfold Zdn
 refine w_seq ?_
 (repeat fail "go")
 obtain ⟨h1, h2⟩ := Zml (H := H ++ [DO.lst []]) t
 refine Ztc (Zr3 ?_)
 (repeat fail "go")
 refine ⟨rfl, h2 j _ e fun H1 x1 => ?_⟩
 (repeat fail "go")
 refine ⟨_, _, Zi7 (Zs5.dat (by decide) (appL last)) (Zs5.dat (by decide) last), ?_⟩
 (repeat fail "go")
 exact q _ ((((Fm.app _).trans x1).trans (.app _)).trans (.app _))
theorem fineT {c : List (List Nat) × List (List Int)} (h : ∀ w ∈ c.1, Asx w) : ∃ x, Fine (Zjy c) x 3 := ⟨_, Fine.tup (.cons ((Fine.tup (Zet c.1 h)).le (by omega)) (.cons (Fine.tup (Zzs c.2)) .nil))⟩
theorem Zf7 {T : List Nat} (a : Asx T) (n : T.length ≤ 90000) (q : ∀ H', Fm [] H H' -> Q (.bl true) H') : wE (Zce [tx T] H) Q := by
 obtain ⟨E, z, eE⟩ := Zt4 T
 have t : Txt0 T E z := ⟨eE, a, n⟩
 refine Zda rfl ?_
 show wS (Zdj [some (tx T), none, none] H) _
 unfold Zdj
 (repeat fail "go")
 refine Zo2 t fun H1 x1 => ?_
 (repeat fail "go")
 refine Zz2 t fun H2 x2 => ?_
 rcases Zpr E z with ⟨c, e⟩ | ⟨j, e⟩
 ·obtain ⟨x, f⟩ := fineT (Zuh (fun l hl => (t.lin.1 l hl).a) e)
  rw [e]
  show Zgm _ _ .nx [some (tx T), some (.tup [.int (-1), Zjy c]), some (.tup [.int (-1), Zjy c])] H2
  refine w_kn (w_seq (w_if ?_))
  (repeat fail "go")
  refine Zl8 (Fine.tup (.cons ((Fine.int (-1)).le (by omega)) (.cons f .nil))) (by omega) ?_
  (repeat fail "go")
  exact q _ (x1.trans x2)
 ·rw [e]
  show Zgm _ _ .nx [some (tx T), some (.tup [.int j, .non]), some (.tup [.int j, .non])] H2
  refine w_kn (w_seq (w_if ?_))
  (repeat fail "go")
  refine Zl8 (Fine.tup (.cons (Fine.int j) (.cons (Fine.non) .nil))) (by omega) ?_
  (repeat fail "go")
  refine Zwe t e fun H3 x3 => ?_
  (repeat fail "go")
  exact q _ ((x1.trans x2).trans x3)
noncomputable def sg1 : List Nat := [48, 49, 50, 51, 52, 53, 54, 55, 56, 45, 32, 97, 108, 115, 111, 109, 101, 10, 10]
noncomputable def sg2 : List Nat := [32, 33, 34, 35, 36, 38, 39, 40, 41, 42, 43, 44, 45, 46, 47, 48, 49, 50, 51, 52, 53, 54, 55, 56, 57, 58, 59, 60, 61, 62, 63, 64, 65, 66, 67, 68, 69, 70, 71, 72, 73, 74, 75, 76, 77, 78, 79, 80, 81, 82, 83, 84, 85, 86, 87, 88, 89, 90, 91, 92, 93, 94, 95, 96, 97, 98, 99, 100, 101, 102, 103, 104, 105, 106, 107, 108, 109, 110, 111, 112, 113, 114, 115, 116, 117, 118, 119, 120, 121, 122, 123, 124, 125, 126]
noncomputable def sg3 : List Nat := [10, 9]
theorem e_sg1 : D.str "012345678- alsome\n\n" = tx sg1 := rfl
theorem e_sg2 : D.str " !\"#$&'()*+,-./0123456789:;<=>?@ABCDEFGHIJKLMNOPQRSTUVWXYZ[\\]^_`abcdefghijklmnopqrstuvwxyz{|}~" = tx sg2 := rfl
theorem e_sg3 : D.str "\n\t" = tx sg3 := rfl
theorem a_sg1 : Asx sg1 := by unfold Asx; decide
theorem a_sg2 : Asx sg2 := by unfold Asx; decide
theorem a_sg3 : Asx sg3 := by unfold Asx; decide
theorem Zdl {a b : List Nat} (h : Asx a) (h2 : Asx b) : Asx (a ++ b) := fun c hc => (List.mem_append.mp hc).elim (h c) (h2 c)
theorem Zg5 {a : List Nat} (h : Asx a) (k : Nat) : Asx (a.take k) := fun c hc => h c (List.mem_of_mem_take hc)
theorem Ziq {a : List Nat} (h : Asx a) (k : Nat) : Asx (a.drop k) := fun c hc => h c (List.mem_of_mem_drop hc)
theorem Zfl {c : Nat} (h : c < 128) : Asx [c] := fun x hx => by simp at hx; omega
theorem Zye {l : List Nat} {a : Int} (ha : Asx l) (h0 : 0 ≤ a) (h1 : a < l.length) (hl : l.length ≤ 100000) (q : ∀ c, c < 128 -> Q (tx [c]) H) : wE (Zss (tx l) (.int a) H) Q := by
 have lt : a.toNat < l.length := by omega
 exact Zx2 (i := a.toNat) (c := l[a.toNat]) (by omega) (List.getElem?_eq_getElem lt) hl (q _ (ha _ (List.getElem_mem lt)))
theorem Zs8 {T : List Nat} {p : Nat} {ds : List Int} (a : Asx T) (n : T.length ≤ 80000) (g : H[p]? = some (.lst (ds.map .int))) (hd : Zrl ds) (hl : 4 ≤ ds.length) (q : ∀ T', Asx T' -> T'.length ≤ T.length + 1 -> Q (tx T') H) : wE (Zd4 [tx T, .ref p] H) Q := by
 refine Zda rfl ?_
 show wS (Zd3 [some (tx T), some (.ref p), none, none, none] H) _
 unfold Zd3
 rw [e_sg1, e_sg2, e_sg3]
 have one : ∀ S : List Nat, Asx S -> 0 < S.length -> S.length ≤ 1000 -> wS (Zam (Zba 3 (eOp Zss (Zah 2) (eOp Zdd (eOp ixD (Zah 1) (eC (.int 1))) (eCB Zdw (Zac (Zah 2) Zan)))))
   (Zam (Zba 4 (eOp Zdd (eOp ixD (Zah 1) (eC (.int 2))) (eOp Zbx (eCB Zdw (Zac (Zah 0) Zan)) (eC (.int 1)))))
   (Zam (sIf (tOf (eOp eqD (eOp Zdd (eOp ixD (Zah 1) (eC (.int 3))) (eC (.int 3))) (eC (.int 0)))) (Zam (Zcl (eOp Zbx (eOp Zbx (Zhe (Zah 0) Zbf (Zbc (Zah 4))) (Zah 3)) (Zhe (Zah 0) (Zbc (Zah 4)) Zbf))) Zav) Zav)
   (Zam (sIf (tOf (eOp eqD (eOp Zdd (eOp ixD (Zah 1) (eC (.int 3))) (eC (.int 3))) (eC (.int 1)))) (Zam (Zcl (eOp Zbx (Zhe (Zah 0) Zbf (Zbc (Zah 4))) (Zhe (Zah 0) (Zbc (eOp Zbx (Zah 4) (eC (.int 1)))) Zbf))) Zav) Zav)
   (Zam (Zcl (eOp Zbx (eOp Zbx (Zhe (Zah 0) Zbf (Zbc (Zah 4))) (Zah 3)) (Zhe (Zah 0) (Zbc (eOp Zbx (Zah 4) (eC (.int 1)))) Zbf))) Zav)))) [some (tx T), some (.ref p), some (tx S), none, none] H) (fin Q) := by
  intro S aS pS lS
  (repeat fail "go")
  refine Zcg g hd (by omega) (by omega) fun r r0 r1 => ?_
  (repeat fail "go")
  refine Zjm (by omega) ?_
  refine w_mod (by omega) ?_
  refine Zye aS (Int.emod_nonneg _ (by omega)) (Int.emod_lt_of_pos _ (by omega)) (by omega) fun c hc => ?_
  (repeat fail "go")
  refine Zcg g hd (by omega) (by omega) fun r2 r20 r21 => ?_
  (repeat fail "go")
  refine Zjm (by omega) ?_
  (repeat fail "go")
  refine w_mod (by omega) ?_
  have b0 := Int.emod_nonneg r2 (show ((T.length : Int) + 1) ≠ 0 by omega)
  have b1 := Int.emod_lt_of_pos r2 (show 0 < ((T.length : Int) + 1) by omega)
  obtain ⟨at_, eat⟩ : ∃ at_ : Nat, r2 % ((T.length : Int) + 1) = at_ := ⟨(r2 % ((T.length : Int) + 1)).toNat, by omega⟩
  rw [eat] at b0 b1 ⊢
  have t1 : (T.take at_).length ≤ T.length := by simp; omega
  have t2 : (T.drop at_).length + at_ = T.length := by simp; omega
  have t3 : (T.take at_).length = at_ := by simp; omega
  have t4 : (T.drop (at_ + 1)).length ≤ T.length - at_ := by simp; omega
  (repeat fail "go")
  refine w_if ?_
  (repeat fail "go")
  refine Zcg g hd (by omega) (by omega) fun r3 r30 r31 => ?_
  (repeat fail "go")
  refine ⟨fun _ => ?_, fun _ => ?_⟩
  ·(repeat fail "go")
   refine Zhz ?_
   (repeat fail "go")
   refine Zhw (j := at_) rfl (by omega) ?_
   (repeat fail "go")
   refine Zd2 (by simp; omega) ?_
   refine Zhz ?_
   (repeat fail "go")
   refine Zhg (i := at_) rfl (by omega) ?_
   refine Zd2 (by simp; omega) ?_
   (repeat fail "go")
   exact q _ (Zdl (Zdl (Zg5 a _) (Zfl hc)) (Ziq a _)) (by simp; omega)
  (repeat fail "go")
  refine w_if ?_
  (repeat fail "go")
  refine Zcg g hd (by omega) (by omega) fun r4 r40 r41 => ?_
  (repeat fail "go")
  refine ⟨fun _ => ?_, fun _ => ?_⟩
  ·(repeat fail "go")
   refine Zhz ?_
   (repeat fail "go")
   refine Zhw (j := at_) rfl (by omega) ?_
   refine Zhz ?_
   (repeat fail "go")
   refine Zhg (i := at_ + 1) rfl (by omega) ?_
   refine Zd2 (by simp; omega) ?_
   (repeat fail "go")
   exact q _ (Zdl (Zg5 a _) (Ziq a _)) (by simp; omega)
  (repeat fail "go")
  refine Zhz ?_
  (repeat fail "go")
  refine Zhw (j := at_) rfl (by omega) ?_
  (repeat fail "go")
  refine Zd2 (by simp; omega) ?_
  refine Zhz ?_
  (repeat fail "go")
  refine Zhg (i := at_ + 1) rfl (by omega) ?_
  refine Zd2 (by simp; omega) ?_
  (repeat fail "go")
  exact q _ (Zdl (Zdl (Zg5 a _) (Zfl hc)) (Ziq a _)) (by simp; omega)
 refine w_seq (w_set (w_c ?_))
 refine w_kn (w_seq (w_if ?_))
 (repeat fail "go")
 refine Zcg g hd (by omega) (by omega) fun r0 r00 r01 => ?_
 (repeat fail "go")
 refine ⟨fun _ => ?_, fun _ => ?_⟩
 ·refine w_seq (w_set (w_c (w_kn (w_seq (w_set (w_op ?_))))))
  (repeat fail "go")
  refine Zd2 (by decide) ?_
  refine w_kn (w_snil (w_kn ?_))
  exact one (sg2 ++ sg3) (Zdl a_sg2 a_sg3) (by decide) (by decide)
 ·refine w_snil (w_kn ?_)
  exact one sg1 a_sg1 (by decide) (by decide)
noncomputable def Zhy : List (List Nat) := [[], [48, 48], [57], [49, 32, 49], [50, 32, 49], [45, 48], [43, 49], [49, 32], [32, 49], [49, 32, 32, 50]]
noncomputable def Zhf : List (List Nat) := [[97, 108, 108], [45, 32, 49], [45, 45, 49], [48, 49], [49, 32, 48], [48, 32, 48], [49, 48], [45, 57]]
theorem e_b1 : [D.str "", D.str "00", D.str "9", D.str "1 1", D.str "2 1", D.str "-0", D.str "+1", D.str "1 ", D.str " 1", D.str "1  2"] = Zhy.map tx := rfl
theorem e_b2 : [D.str "all", D.str "- 1", D.str "--1", D.str "01", D.str "1 0", D.str "0 0", D.str "10", D.str "-9"] = Zhf.map tx := rfl
theorem a_b : ∀ w ∈ Zhy ++ Zhf, Asx w ∧ w.length ≤ 4 := by unfold Asx Zhy Zhf; decide
noncomputable def nine : List Nat := jnL [32] (List.replicate 9 Zp7)
noncomputable def wrds : List (List Nat) := [[45], [], [97, 108, 108, 32, 32, 115, 111, 109, 101], [115, 111, 109, 101, 32, 97, 108, 108, 32], [65, 108, 108], [97, 108, 108, 44, 115, 111, 109, 101]] ++ nine :: [[49], [45, 32, 97, 108, 108]]
theorem a_w : ∀ w ∈ wrds, Asx w ∧ w.length ≤ 40 := by unfold Asx wrds nine; decide
noncomputable def jl (L : List (List Nat)) : Nat := (L.map List.length).sum + L.length
theorem Zen (a b : List (List Nat)) : jl (a ++ b) = jl a + jl b := by unfold jl; simp; omega
theorem Zpw (w : List Nat) : jl [w] = w.length + 1 := by unfold jl; simp
theorem Zxp (L : List (List Nat)) (k : Nat) : jl (L.take k) + jl (L.drop k) = jl L := by rw [← Zen, List.take_append_drop]
theorem Zx1 (L : List (List Nat)) : L.length ≤ jl L := by unfold jl; omega
theorem Zth {c : Nat} : ∀ T : List Nat, jl (spl c T) = T.length + 1
 | [] => rfl
 | x :: r => by
  have ih := Zth (c := c) r
  obtain ⟨w, ws, e⟩ := Zfe c r
  unfold spl
  rw [e] at ih ⊢
  unfold jl at ih ⊢
  split <;> simp at ih ⊢ <;> omega
theorem Zz1 (w : List Nat) (k : Nat) : jl (List.replicate k w) = k * (w.length + 1) := by
 unfold jl
 rw [List.map_replicate, List.sum_replicate_nat, List.length_replicate, Nat.mul_add, Nat.mul_one]
theorem Zom {g : Nat} (hg : g < 128) : ∀ L : List (List Nat), (∀ w ∈ L, Asx w) -> Asx (jnL [g] L)
 | [], _ => by intro c hc; simp [jnL] at hc
 | w :: r, h => by
  unfold jnL
  intro c hc
  rcases List.mem_append.mp hc with z | z
  ·exact h w (by simp) c z
  ·obtain ⟨x, hx, z⟩ := List.mem_flatten.mp z
   obtain ⟨y, hy, rfl⟩ := List.mem_map.mp hx
   rcases List.mem_append.mp z with z | z
   ·simp at z; omega
   ·exact h y (by simp [hy]) c z
theorem Zl7 {p : Nat} {xs : List D} {k : Nat} (g : H[p]? = some (.lst xs)) (q : Q (.ref H.length) (H ++ [.lst (xs.take k)])) : wE (slD (.ref p) none (some (k : Int)) H) Q :=
 ⟨_, _, by rw [← Zsr]; simp only [slD, g], q⟩
theorem Zol {p : Nat} {xs : List D} {k : Nat} (g : H[p]? = some (.lst xs)) (h1 : k ≤ 1000) (h2 : xs.length ≤ 1) (q : Q (.ref H.length) (H ++ [.lst (List.replicate k xs).flatten])) : wE (Zib (.ref p) (.int k) H) Q := by
 refine ⟨_, _, ?_, q⟩
 have b : xs.length * k ≤ 1 * 1000 := Nat.mul_le_mul h2 h1
 have sz : sizeLine = 16777216 := PySem.sizeLine_eq
 simp only [Zib, g]
 rw [if_pos ⟨by omega, by omega, by rw [Int.toNat_natCast]; omega⟩, Int.toNat_natCast]
 unfold mkL
 rw [if_pos]
 rw [List.length_flatten, List.map_replicate, List.sum_replicate_nat, Nat.mul_comm]
 omega
theorem rep1 (x : D) (k : Nat) : (List.replicate k [x]).flatten = List.replicate k x := by
 induction k with
 | zero => rfl
 | succ k ih => rw [List.replicate_succ, List.flatten_cons, ih]; rfl
theorem Zxs {p : Nat} {xs : List D} {x v : D} {S : HD -> Prop} (g : H[p]? = some (.lst (x :: xs))) (q : S (H.set p (.lst (v :: xs)))) : wH (Zvn (.ref p) (.int 0) v H) S := by
 refine ⟨_, ?_, q⟩
 have e : ixN (x :: xs).length 0 = some 0 := by
  unfold ixN
  rw [if_pos (by omega), if_pos (by simp)]
  rfl
 simp only [Zvn, g]
 rw [e]
 rfl
theorem Zp8 {p : Nat} {ws : List (List Nat)} {r : Int} (g : H[p]? = some (.lst (ws.map tx))) (h0 : 0 ≤ r) (h1 : r < ws.length) (q : ∀ w ∈ ws, Q (tx w) H) : wE (ixD (.ref p) (.int r) H) Q := by
 have lt : r.toNat < ws.length := by omega
 exact w_ixR g (Zhq h0 (d := tx ws[r.toNat]) (by rw [List.getElem?_map, List.getElem?_eq_getElem lt]; rfl)) (q _ (List.getElem_mem lt))
noncomputable def BrJ (H : HD) (T : List Nat) (p at_ pb : Nat) (σ : SD) (H' : HD) : Prop := ∃ p' L' z5, H'[p']? = some (.lst (L'.map tx)) ∧ (∀ w ∈ L', Asx w) ∧ jl L' ≤ 2 * T.length + 150 ∧ Fm [] H H' ∧ σ = [some (tx T), some (.ref p), some (.ref p'), some (.int at_), some (.ref pb), z5]
theorem Zge {T : List Nat} {p : Nat} {ds : List Int} (a : Asx T) (n : T.length ≤ 20000) (g : H[p]? = some (.lst (ds.map .int))) (hd : Zrl ds) (hl : 3 ≤ ds.length) (q : ∀ T' H', Asx T' -> T'.length ≤ 2 * T.length + 150 -> Fm [] H H' -> Q (tx T') H') : wE (Zbn [tx T, .ref p] H) Q := by
 have sl := Zef 10 T
 have js := Zth (c := 10) T
 have sa := Zer (c := 10) T a
 obtain ⟨w0, ws0, e0⟩ := Zfe 10 T
 have pos : 0 < (spl 10 T).length := by rw [e0]; simp
 refine Zda rfl ?_
 show wS (Zb1 [some (tx T), some (.ref p), none, none, none, none] H) _
 unfold Zb1
 refine w_seq (w_set ?_)
 refine Znn ?_
 (repeat fail "go")
 refine ⟨rfl, ?_⟩
 (repeat fail "go")
 rw [Zwj]
 refine Zfh (by decide) (by omega) (by omega) ?_
 generalize hLN : spl 10 T = LN at *
 refine w_kn (w_seq (w_set (w_op (w_op ?_))))
 (repeat fail "go")
 refine Zcg (appL g) hd (by omega) (by omega) fun r r0 r1 => ?_
 (repeat fail "go")
 rw [List.length_map]
 refine w_mod (by omega) ?_
 have b0 := Int.emod_nonneg r (show (LN.length : Int) ≠ 0 by omega)
 have b1 := Int.emod_lt_of_pos r (show 0 < (LN.length : Int) by omega)
 obtain ⟨at_, eat⟩ : ∃ at_ : Nat, r % (LN.length : Int) = at_ := ⟨(r % (LN.length : Int)).toNat, by omega⟩
 rw [eat] at b0 b1 ⊢
 (repeat fail "go")
 rw [e_b1, e_b2]
 refine Zek (appL last) last (by simp [Zhy, Zhf]) ?_
 rw [← List.map_append]
 generalize hH3 : H ++ [DO.lst (LN.map tx)] ++ [DO.lst (Zhy.map tx)] ++ [DO.lst (Zhf.map tx)] ++ [DO.lst ((Zhy ++ Zhf).map tx)] = H3
 have gL : H3[H.length]? = some (.lst (LN.map tx)) := by rw [← hH3]; exact appL (appL (appL last))
 have gd : H3[p]? = some (.lst (ds.map .int)) := by rw [← hH3]; exact appL (appL (appL (appL g)))
 have gB : H3[(H ++ [DO.lst (LN.map tx)] ++ [DO.lst (Zhy.map tx)] ++ [DO.lst (Zhf.map tx)]).length]? = some (.lst ((Zhy ++ Zhf).map tx)) := by rw [← hH3]; exact last
 have X3 : Fm [] H H3 := by rw [← hH3]; exact ((Fm.app _).trans (.app _)).trans ((Fm.app _).trans (.app _))
 have pl : H.length < H3.length := by rw [← hH3]; simp
 clear hH3
 generalize (H ++ [DO.lst (LN.map tx)] ++ [DO.lst (Zhy.map tx)] ++ [DO.lst (Zhf.map tx)]).length = pb at gB ⊢
 show Zgm _ _ .nx [some (tx T), some (.ref p), some (.ref H.length), some (.int at_), some (.ref pb), none] H3
 have td := Zxp LN at_
 have td1 := Zxp LN (at_ + 1)
 have jL := Zx1 LN
 have lt1 : (LN.take at_).length ≤ LN.length := by simp; omega
 have lt2 : (LN.take (at_ + 1)).length ≤ LN.length := by simp; omega
 have ld1 : (LN.drop at_).length ≤ LN.length := by simp
 have ld2 : (LN.drop (at_ + 1)).length ≤ LN.length := by simp
 have at1 : ∀ k, ∀ w ∈ LN.take k, Asx w := fun k w hw => (sa w (List.mem_of_mem_take hw)).1
 have ad1 : ∀ k, ∀ w ∈ LN.drop k, Asx w := fun k w hw => (sa w (List.mem_of_mem_drop hw)).1
 have fin1 : ∀ (H' : HD) (p' : Nat) (L' : List (List Nat)) (z5 : Option D), H'[p']? = some (.lst (L'.map tx)) -> (∀ w ∈ L', Asx w) -> jl L' ≤ 2 * T.length + 150 -> Fm [] H H' -> FD.nx = FD.nx ∧ BrJ H T p at_ pb [some (tx T), some (.ref p), some (.ref p'), some (.int at_), some (.ref pb), z5] H' := fun H' p' L' z5 h1 h2 h3 h4 => ⟨rfl, p', L', z5, h1, h2, h3, h4, rfl⟩
 refine w_kn (w_seq (Zja (BrJ H T p at_ pb) ?_ ?_))
 ·refine w_if ?_
  (repeat fail "go")
  refine Zcg gd hd (by omega) (by omega) fun c0 c00 c01 => ?_
  (repeat fail "go")
  refine ⟨fun _ => ?_, fun _ => ?_⟩
  ·refine w_seq (w_set (w_op (w_op ?_)))
   (repeat fail "go")
   refine Zl7 gL ?_
   (repeat fail "go")
   refine Zcg (appL gd) hd (by omega) (by omega) fun d0 d00 d01 => ?_
   (repeat fail "go")
   refine Zp8 (appL gB) (by omega) (by simp [Zhy, Zhf]; omega) fun w hw => ?_
   (repeat fail "go")
   refine Zek (appL last) last (by simp; omega) ?_
   (repeat fail "go")
   refine Zji (k := at_) (by fail "lk") ?_
   refine Zek (by fail "lk") last (by simp; omega) ?_
   (repeat fail "go")
   refine fin1 _ _ (LN.take at_ ++ [w] ++ LN.drop at_) _ (by rw [last]; simp [List.map_take, List.map_drop]) (fun v hv => ?_) (by rw [Zen, Zen, Zpw]; have := (a_b w hw).2; omega) (by repeat (first | exact X3 | refine Fm.trans ?_ (.app _)))
   rcases List.mem_append.mp hv with hv | hv
   ·rcases List.mem_append.mp hv with hv | hv
    ·exact at1 _ v hv
    ·simp at hv; subst hv; exact (a_b _ hw).1
   ·exact ad1 _ v hv
  refine w_seq (w_if ?_)
  (repeat fail "go")
  refine Zcg gd hd (by omega) (by omega) fun c1 c10 c11 => ?_
  (repeat fail "go")
  refine ⟨fun _ => ?_, fun _ => ?_⟩
  ·refine w_seq (w_set (w_op (w_op ?_)))
   (repeat fail "go")
   refine Zl7 gL ?_
   (repeat fail "go")
   refine Zcg (appL gd) hd (by omega) (by omega) fun d0 d00 d01 => ?_
   (repeat fail "go")
   refine Zp8 (appL gB) (by omega) (by simp [Zhy, Zhf]; omega) fun w hw => ?_
   (repeat fail "go")
   refine Zek (appL last) last (by simp; omega) ?_
   (repeat fail "go")
   rw [show (at_ : Int) + 1 = ((at_ + 1 : Nat) : Int) by omega]
   refine Zji (k := at_ + 1) (by fail "lk") ?_
   refine Zek (by fail "lk") last (by simp; omega) ?_
   (repeat fail "go")
   refine fin1 _ _ (LN.take at_ ++ [w] ++ LN.drop (at_ + 1)) _ (by rw [last]; simp [List.map_take, List.map_drop]) (fun v hv => ?_) (by rw [Zen, Zen, Zpw]; have := (a_b w hw).2; omega) (by repeat (first | exact X3 | refine Fm.trans ?_ (.app _)))
   rcases List.mem_append.mp hv with hv | hv
   ·rcases List.mem_append.mp hv with hv | hv
    ·exact at1 _ v hv
    ·simp at hv; subst hv; exact (a_b _ hw).1
   ·exact ad1 _ v hv
  refine w_seq (w_if ?_)
  (repeat fail "go")
  refine Zcg gd hd (by omega) (by omega) fun c2 c20 c21 => ?_
  (repeat fail "go")
  refine ⟨fun _ => ?_, fun _ => ?_⟩
  ·refine w_seq (w_set (w_op ?_))
   (repeat fail "go")
   rw [show (at_ : Int) + 1 = ((at_ + 1 : Nat) : Int) by omega]
   refine Zl7 gL ?_
   (repeat fail "go")
   refine Zji (k := at_) (by fail "lk") ?_
   refine Zek (by fail "lk") last (by simp; omega) ?_
   (repeat fail "go")
   refine fin1 _ _ (LN.take (at_ + 1) ++ LN.drop at_) _ (by rw [last]; simp [List.map_take, List.map_drop]) (fun v hv => ?_) (by rw [Zen]; omega) (by repeat (first | exact X3 | refine Fm.trans ?_ (.app _)))
   rcases List.mem_append.mp hv with hv | hv
   ·exact at1 _ v hv
   ·exact ad1 _ v hv
  refine w_seq (w_if ?_)
  (repeat fail "go")
  refine Zcg gd hd (by omega) (by omega) fun c3 c30 c31 => ?_
  (repeat fail "go")
  refine ⟨fun _ => ?_, fun _ => ?_⟩
  ·refine w_seq (w_set (w_op ?_))
   (repeat fail "go")
   refine Zl7 gL ?_
   (repeat fail "go")
   rw [show (at_ : Int) + 1 = ((at_ + 1 : Nat) : Int) by omega]
   refine Zji (k := at_ + 1) (by fail "lk") ?_
   refine Zek (by fail "lk") last (by simp; omega) ?_
   (repeat fail "go")
   refine fin1 _ _ (LN.take at_ ++ LN.drop (at_ + 1)) _ (by rw [last]; simp [List.map_take, List.map_drop]) (fun v hv => ?_) (by rw [Zen]; omega) (by repeat (first | exact X3 | refine Fm.trans ?_ (.app _)))
   rcases List.mem_append.mp hv with hv | hv
   ·exact at1 _ v hv
   ·exact ad1 _ v hv
  refine w_seq (w_if ?_)
  (repeat fail "go")
  refine Zcg gd hd (by omega) (by omega) fun c4 c40 c41 => ?_
  (repeat fail "go")
  refine ⟨fun _ => ?_, fun _ => ?_⟩
  ·obtain ⟨E, z, eE⟩ : ∃ E z, LN = E ++ [z] := ⟨LN.dropLast, LN.getLast (by rw [e0]; simp), (List.dropLast_concat_getLast _).symm⟩
   have gL' : H3[H.length]? = some (.lst (E.map tx ++ [tx z])) := by rw [gL, eE, List.map_append]; rfl
   have jE : jl E + jl [z] = jl LN := by rw [eE, Zen]
   have lE : E.length ≤ LN.length := by rw [eE]; simp
   refine w_seq (w_set (w_op (w_op ?_)))
   (repeat fail "go")
   refine Zor gL' ?_
   (repeat fail "go")
   refine Zcg (by fail "lk") hd (by omega) (by omega) fun d0 d00 d01 => ?_
   (repeat fail "go")
   rw [s_ze]
   obtain ⟨k, hk⟩ : ∃ k : Nat, d0 % 30 = k := ⟨(d0 % 30).toNat, by omega⟩
   have hk30 : k < 30 := by omega
   rw [hk]
   refine Zol last (by omega) (by simp) ?_
   rw [rep1]
   refine Zek (by fail "lk") last (by simp; omega) ?_
   (repeat fail "go")
   refine w_ixR (by fail "lk") (Zg2 _ _) ?_
   (repeat fail "go")
   refine Zek (by fail "lk") last (by simp; omega) ?_
   (repeat fail "go")
   refine fin1 _ _ (E ++ List.replicate k [48] ++ [z]) _ (by rw [last]; simp) (fun v hv => ?_) (by rw [Zen, Zen, Zz1]; simp; omega) (by repeat (first | exact X3 | refine Fm.trans ?_ (.app _)))
   rcases List.mem_append.mp hv with hv | hv
   ·rcases List.mem_append.mp hv with hv | hv
    ·exact (sa v (by rw [eE]; simp [hv])).1
    ·rw [(List.mem_replicate.mp hv).2]; exact Zfl (by decide)
   ·simp at hv; subst hv; exact (sa v (by rw [eE]; simp)).1
  refine w_seq (w_set (w_lst ?_))
  (repeat fail "go")
  refine Znn ?_
  (repeat fail "go")
  refine ⟨rfl, ?_⟩
  (repeat fail "go")
  refine Zol (k := 9) last (by omega) (by simp) ?_
  rw [rep1, Zyx, Zv1]
  refine w_anil ?_
  refine Zlj (ws := List.replicate 9 Zp7) (by simp [Zg8]) (by decide) ?_
  (repeat fail "go")
  refine Zcg (by fail "lk") hd (by omega) (by omega) fun d0 d00 d01 => ?_
  (repeat fail "go")
  refine Zp8 (ws := wrds) last (by omega) (by simp [wrds]; omega) fun w hw => ?_
  (repeat fail "go")
  refine Zxs (x := tx w0) (xs := ws0.map tx) (by rw [show tx w0 :: ws0.map tx = LN.map tx by rw [e0]; rfl]; fail "lk") ?_
  (repeat fail "go")
  refine fin1 _ _ (w :: ws0) _ (by rw [List.getElem?_set_self (by simp; omega)]; rfl) (fun v hv => ?_) ?_ ?_
  ·rcases List.mem_cons.mp hv with rfl | hv
   ·exact (a_w _ hw).1
   ·exact (sa v (by rw [e0]; simp [hv])).1
  ·have h1 : jl (w :: ws0) = jl [w] + jl ws0 := Zen [w] ws0
   have h2 : jl LN = jl [w0] + jl ws0 := by rw [e0]; exact Zen [w0] ws0
   rw [Zpw] at h1 h2
   have := (a_w w hw).2
   omega
  ·refine Fm.new (T := [H.length]) ?_ (.set (by simp)) fun m hm _ => by simp at hm; omega
   repeat (first | exact X3 | refine Fm.trans ?_ (.app _))
 ·rintro σ H' ⟨p', L', z5, gp, aL, jb, X, rfl⟩
  (repeat fail "go")
  refine Znn ?_
  (repeat fail "go")
  refine ⟨rfl, ?_⟩
  (repeat fail "go")
  have jn := Ziv [10] L'
  unfold jl at jb
  refine Zlj (ws := L') (by simp [Zg8, gp]) (by simp; omega) ?_
  (repeat fail "go")
  exact q _ _ (Zom (by decide) L' aL) (by simp at jn; omega) X
variable {H : HD} {Q : D -> HD -> Prop}
theorem Zq9 (ns : List Int) (lo hi : Option Int) : ∃ cs : List Int, Zhr (ns.map .int) lo hi = cs.map .int ∧ (∀ c ∈ cs, c ∈ ns) ∧ cs.length ≤ ns.length := by
 unfold Zhr
 refine ⟨(ns.drop (HT.sIx (ns.map D.int).length 0 lo)).take (HT.sIx (ns.map D.int).length (ns.map D.int).length hi - HT.sIx (ns.map D.int).length 0 lo), by rw [← List.map_drop, ← List.map_take], fun c hc => List.mem_of_mem_drop (List.mem_of_mem_take hc), by simp; omega⟩
theorem Zzk {n : Nat} {xs : List D} (g : H[n]? = some (.lst xs)) (q : Q (.ref H.length) (H ++ [.lst xs])) : wE (Zoa [.ref n] H) Q := ⟨_, _, by simp [Zoa, Zg8, g], q⟩
theorem Zuv {f : AF} {σ : SD} {I : List D -> Zfq -> HD -> Prop} (h : wA (f σ H) fun ds H1 => ∃ n xs, ds = [.ref n] ∧ H1[n]? = some (.lst xs) ∧ I (Zd8 0 xs) [(n, .lst xs)] H1) : wI (Zlx f σ H) I := by
 obtain ⟨ds, H1, e1, n, xs, rfl, g, q⟩ := h
 refine ⟨_, _, H1, ?_, q⟩
 unfold Zlx
 rw [e1]
 simp only [Zb, g]
theorem Zxz {xs : List D} {k : Nat} (q : Q (.ref H.length) (H ++ [.lst (xs.drop k)])) : wE (slD (.fl xs) (some (k : Int)) none H) Q :=
 ⟨_, _, by rw [← Zqc]; rfl, q⟩
theorem w_atR {p : Nat} {ns : List Int} {k : Int} (g : H[p]? = some (.lst (ns.map .int))) (h0 : 0 ≤ k) (h1 : k ≤ 1000) (q : ∀ c, Q (.int c) H) : wE (Ze5 [.ref p, .int k] H) Q := by
 refine Zda rfl ?_
 show wS (Zf5 [some (.ref p), some (.int k)] H) _
 unfold Zf5
 (repeat fail "go"); (refine WP.w_if ?_; (repeat fail "go"))
 refine ⟨fun h => ?_, fun h => ?_⟩
 ·have lt : k.toNat < ns.length := by have := of_decide_eq_true h; simp at this; omega
  (repeat fail "go")
  refine w_ixR g (Zhq h0 (d := .int ns[k.toNat]) (by rw [List.getElem?_map, List.getElem?_eq_getElem lt]; rfl)) ?_
  (repeat fail "go")
  exact q _
 ·(repeat fail "go")
  exact q _
theorem Zq1 (l : List Nat) (h : 1 ≤ l.length) : Txt.slice (tS l) none (some (-1)) = tS (l.take (l.length - 1)) := by
 have e : Txt.slice (tS l) none (some (-1)) = Txt.slice (tS l) none (some ((l.length - 1 : Nat) : Int)) := by
  unfold Txt.slice
  have z : Builtin.Str.strSliceIndices none (some (-1)) 1 (tS l).length = Builtin.Str.strSliceIndices none (some ((l.length - 1 : Nat) : Int)) 1 (tS l).length := by
   unfold Builtin.Str.strSliceIndices
   simp only [show (1 : Int) > 0 by decide, if_true]
   rw [Zbu]
   congr 1
   have n1 : ¬ (((l.length - 1 : Nat) : Int) < 0) := by omega
   rw [if_pos (show (-1 : Int) < 0 by decide), if_neg n1]
   omega
  rw [z]
 rw [e, Zlo]
theorem Zrz {l : List Nat} (h : 1 ≤ l.length) (hl : l.length ≤ 100000) (q : Q (tx (l.take (l.length - 1))) H) : wE (Zog (tx l) none (some (-1)) H) Q :=
 ⟨_, _, by unfold Zog tx; dsimp only; rw [if_pos (by rw [Zbu, PySem.sizeLine_eq]; omega), Zq1 l h], q⟩
noncomputable def OkT (d : D) : Prop := ∃ T, d = tx T ∧ Asx T ∧ T.length ≤ 90000
theorem Zyo {ks : List D} {rss : List (List Int)} (c : Cl ks rss) : Asx (ctx ks rss) ∧ (ctx ks rss).length ≤ 41 * (rss.length + 1) ∧ 1 ≤ (ctx ks rss).length := by
 have ha : ∀ w ∈ cln ks rss, Asx w := by
  intro w hw
  rcases List.mem_cons.mp hw with rfl | hw
  ·unfold kln
   split
   ·exact Zfl (by decide)
   ·exact Zom (by decide) _ fun v hv => by obtain ⟨i, _, rfl⟩ := List.mem_map.mp hv; exact Zte i
  ·obtain ⟨ls, hls, rfl⟩ := List.mem_map.mp hw
   unfold rln
   split
   ·exact Zfl (by decide)
   ·refine Zom (by decide) _ fun v hv => ?_
    obtain ⟨i, hi, rfl⟩ := List.mem_map.mp hv
    have := Zqh ls 0 (by omega) (c.hu ls hls) i hi
    rw [Zg0] at this
    have h8 := c.h8
    exact Zw1 (by omega)
 have h : ∀ (ws : List (List Nat)), (∀ w ∈ ws, w.length ≤ 40) -> (∀ w ∈ ws, Asx w) -> ((ws.map (· ++ [10])).flatten).length ≤ 41 * ws.length ∧ ws.length ≤ ((ws.map (· ++ [10])).flatten).length ∧ Asx ((ws.map (· ++ [10])).flatten) := by
  intro ws
  induction ws with
  | nil => rintro _ _; exact ⟨by simp, by simp, fun c hc => by simp at hc⟩
  | cons w r ih =>
   intro h h2
   obtain ⟨i1, i2, i3⟩ := ih (fun x hx => h x (by simp [hx])) (fun x hx => h2 x (by simp [hx]))
   have := h w (by simp)
   rw [List.map_cons, List.flatten_cons]
   simp only [List.length_append, List.length_cons, List.length_nil]
   exact ⟨by omega, by omega, Zdl (Zdl (h2 w (by simp)) (Zfl (by decide))) i3⟩
 obtain ⟨h1, h2, h3⟩ := h (cln ks rss) (Zt8 c) ha
 have e : (cln ks rss).length = rss.length + 1 := by unfold cln; simp
 unfold ctx
 exact ⟨h3, by omega, by omega⟩
theorem pure_law : ∀ ns : List Int, ns.length ≤ 63 -> ∃ Hd', Znk [.fl (ns.map .int)] [] = some (.bl true, Hd') := by
 intro ns hn
 suffices h : wE (Znk [.fl (ns.map .int)] []) fun d _ => d = .bl true by
  obtain ⟨d, H, e, rfl⟩ := h; exact ⟨H, e⟩
 refine Zda rfl ?_
 show wS (Zoy [some (.fl (ns.map .int)), none, none, none, none, none, none, none, none] []) _
 unfold Zoy
 (repeat fail "go")
 obtain ⟨cs, ec, _, lc⟩ := Zq9 ns none (some 16)
 refine ⟨.ref 0, [.lst (cs.map .int)], by show some (D.ref 0, [DO.lst (Zhr (ns.map D.int) none (some 16))]) = _; rw [ec], ?_⟩
 (repeat fail "go")
 refine Zzk (xs := cs.map .int) rfl ?_
 (repeat fail "go")
 refine Zja (fun σ H' => ∃ p cs, (cs : List Int).length ≤ 100 ∧ H'[p]? = some (.lst (cs.map .int)) ∧ σ = [some (.fl (ns.map .int)), some (.ref p), none, none, none, none, none, none, none]) ?_ ?_
 ·(refine WP.w_if ?_; (repeat fail "go"))
  have f1 : ∀ ls : List Int, Fines (ls.map .int) (ls.map .int) 0 := fun ls => Zfp ls
  refine ⟨_, _, Zi7 ((f1 cs).dat (by omega) (p := 1) rfl) ((f1 []).dat (by omega) (p := 2) rfl), ?_⟩
  (repeat fail "go")
  refine ⟨fun h => ?_, fun h => ?_⟩
  ·(repeat fail "go")
   exact ⟨rfl, 3, [8], by simp, rfl, rfl⟩
  ·(repeat fail "go")
   exact ⟨rfl, 1, cs, by omega, rfl, rfl⟩
 rintro σ H1 ⟨p, cs, lcs, g1, rfl⟩
 refine w_seq (Zja (fun σ H' => ∃ z2 z3 z4 z5 z6 z7 z8, σ = [some (.fl (ns.map .int)), some (.ref p), z2, z3, z4, z5, z6, z7, z8]) ?_ ?_)
 ·refine w_for ?_
  refine Zuv ?_
  (repeat fail "go")
  refine ⟨p, cs.map .int, rfl, g1, ?_⟩
  refine Zka (fun σ H' => H'[p]? = some (.lst (cs.map .int)) ∧ ∃ z2 z3 z4 z5 z6 z7 z8, σ = [some (.fl (ns.map .int)), some (.ref p), z2, z3, z4, z5, z6, z7, z8]) (fun _ _ j => Zni j.1) _ (fun x hx σ H2 ⟨g2, z2, z3, z4, z5, z6, z7, z8, e⟩ => ?_) _ _ ⟨g1, none, none, none, none, none, none, none, rfl⟩ (fun σ H2 ⟨_, j⟩ => ⟨rfl, j⟩)
  subst e
  obtain ⟨i, hi⟩ := List.mem_iff_getElem?.mp hx
  obtain ⟨y, hy, rfl⟩ := Zhj hi
  rw [List.getElem?_map] at hy
  obtain ⟨cell, hc, rfl⟩ := Zm hy
  clear hx hi hy
  refine w_gtp rfl (w_gcn (w_gnm (w_gcn (w_gnm (w_gnl ?_)))))
  (repeat fail "go")
  rw [show (0 + (i : Int)) / 2 = ((i / 2 : Nat) : Int) by omega]
  refine Zxz ?_
  (repeat fail "go")
  rw [← List.map_drop]
  refine Zo0 (most := 8) (fun H1 k' Q x h0 h1 q => w_atR (x.lst (by simp) last) h0 h1 q) (by omega) fun ks rss H3 c l3 r3 x3 => ?_
  (repeat fail "go")
  refine Zpn c (by omega) fun H4 x4 => ?_
  obtain ⟨ca, cl, c1⟩ := Zyo c
  generalize ctx ks rss = T at ca cl c1 ⊢
  have X4 : Fm [] H2 H4 := ((Fm.app _).trans x3).trans x4
  have gp4 := X4.lst (by simp) g2
  clear X4 x3 x4 g2 c
  (repeat fail "go")
  refine Zgv (many := 30) (by omega) fun ds p5 H5 l5 d5 g5 n5 x5 => ?_
  (repeat fail "go")
  refine Zji (k := 24) g5 ?_
  rw [← List.map_drop]
  (repeat fail "go")
  refine Zgv (many := 40) (by omega) fun es p6 H6 l6 d6 g6 n6 x6 => ?_
  have gp6 := x6.lst (by simp) (appL (u := DO.lst ((ds.drop 24).map .int)) (x5.lst (by simp) gp4))
  have gs6 := x6.lst (by simp) (last (H := H5) (o := DO.lst ((ds.drop 24).map .int)))
  generalize H5.length = ps at gs6 ⊢
  (repeat fail "go")
  refine Zji (k := 30) g6 ?_
  rw [← List.map_drop]
  have gm : (H6 ++ [DO.lst ((es.drop 30).map .int)])[H6.length]? = some (.lst ((es.drop 30).map .int)) := last
  have gp7 := appL (u := DO.lst ((es.drop 30).map .int)) gp6
  have gs7 := appL (u := DO.lst ((es.drop 30).map .int)) gs6
  generalize H6.length = pm at gm ⊢
  generalize H6 ++ [DO.lst ((es.drop 30).map .int)] = H7 at gm gp7 gs7 ⊢
  clear gp6 gs6 g6 x6 x5 g5 gp4
  have D5 := d5.drop 24
  have D6 := d6.drop 30
  have ln5 : (ds.drop 24).length = 6 := by simp; omega
  have ln6 : (es.drop 30).length = 10 := by simp; omega
  generalize ds.drop 24 = ss at gs7 D5 ln5 ⊢
  generalize es.drop 30 = mm at gm D6 ln6 ⊢
  refine w_kn (w_seq (w_set (w_call ?_)))
  (repeat fail "go")
  refine Zge ca (by omega) gm D6 (by omega) fun T1 H8 a1 n1 x8 => ?_
  (repeat fail "go")
  refine Zji (k := 4) (x8.lst (by simp) gm) ?_
  rw [← List.map_drop]
  (repeat fail "go")
  refine Zge a1 (by omega) last (D6.drop 4) (by simp; omega) fun T2 H9 a2 n2 x9 => ?_
  have Y9 := (x8.trans (.app _)).trans x9
  have gp9 := Y9.lst (by simp) gp7
  have gs9 := Y9.lst (by simp) gs7
  clear Y9 x8 x9 gp7 gs7 gm
  refine w_kn (w_seq (w_for ?_))
  (repeat fail "go")
  refine Zs8 ca (by omega) gs9 D5 (by omega) fun T3 a3 n3 => ?_
  (repeat fail "go")
  refine Zji (k := 1) gs9 ?_
  rw [← List.map_drop]
  (repeat fail "go")
  refine Zge ca (by omega) last (D5.drop 1) (by simp; omega) fun T4 Ha a4 n4 xa => ?_
  have Ya := (Fm.app (S := []) (H := H9) [DO.lst ((ss.drop 1).map .int)]).trans xa
  have gpa := Ya.lst (by simp) gp9
  have gsa := Ya.lst (by simp) gs9
  (repeat fail "go")
  refine Zs8 a2 (by omega) gsa D5 (by omega) fun T5 a5 n5 => ?_
  refine w_anil (w_sz (by simp) ?_)
  refine w_itR last ?_
  have okL : ∀ x ∈ [tx T3, tx T4, tx T2, tx T5], OkT x := fun x hx => by
   simp only [List.mem_cons, List.not_mem_nil, or_false] at hx
   rcases hx with rfl | rfl | rfl | rfl
   ·exact ⟨_, rfl, a3, by omega⟩
   ·exact ⟨_, rfl, a4, by omega⟩
   ·exact ⟨_, rfl, a2, by omega⟩
   ·exact ⟨_, rfl, a5, by omega⟩
  have gpb := appL (u := DO.lst [tx T3, tx T4, tx T2, tx T5]) gpa
  have glb : (Ha ++ [DO.lst [tx T3, tx T4, tx T2, tx T5]])[Ha.length]? = some (.lst [tx T3, tx T4, tx T2, tx T5]) := last
  generalize Ha.length = pl at glb ⊢
  generalize Ha ++ [DO.lst [tx T3, tx T4, tx T2, tx T5]] = Hb at gpb glb ⊢
  generalize [tx T3, tx T4, tx T2, tx T5] = XS at okL glb ⊢
  refine Zka (fun σ H' => H'[p]? = some (.lst (cs.map .int)) ∧ H'[pl]? = some (.lst XS) ∧ ∃ z8, σ = [some (.fl (ns.map .int)), some (.ref p), some (tx T), some (.int (0 + (i : Int))), some (.int cell), some (.ref ps), some (.ref pm), some (tx T2), z8]) (fun _ _ j => Zni j.2.1) _ (fun x hx σ H' ⟨j1, j2, z8, e⟩ => ?_) _ _ ⟨gpb, glb, z8, rfl⟩ (fun σ H' ⟨j1, j2, z8, e⟩ => ?_)
  ·obtain ⟨U, rfl, aU, nU⟩ := okL x hx
   subst e
   (repeat fail "go")
   refine w_if ?_
   (repeat fail "go")
   refine Zf7 aU nU fun Hc xc => ?_
   (repeat fail "go")
   exact ⟨xc.lst (by simp) j1, xc.lst (by simp) j2, _, rfl⟩
  ·subst e
   refine w_kn (w_seq (w_if ?_))
   (repeat fail "go")
   refine Zhz ?_
   (repeat fail "go")
   refine Zrz c1 (by omega) ?_
   (repeat fail "go")
   refine Zf7 (Zg5 ca _) (by simp; omega) fun Hc xc => ?_
   (repeat fail "go")
   refine Zf7 ca (by omega) fun Hd xd => ?_
   (repeat fail "go")
   exact ⟨xd.lst (by simp) (xc.lst (by simp) j1), _, _, _, _, _, _, _, rfl⟩
 ·rintro σ H2 ⟨z2, z3, z4, z5, z6, z7, z8, rfl⟩
  refine w_seq (w_for ?_)
  (repeat fail "go")
  rw [show D.str "1\n" = tx [49, 10] from rfl, show D.str "some\n" = tx [115, 111, 109, 101, 10] from rfl]
  refine Zsy (n := 21) (by decide) (by decide) (by decide) fun m1 l1 h1 => ?_
  refine Zd2 (by simp at l1 ⊢; omega) ?_
  (repeat fail "go")
  rw [show D.str "9" = tx [57] from rfl, show D.str "all\n" = tx [97, 108, 108, 10] from rfl]
  refine Zsy (n := 4400) (by decide) (by decide) (by decide) fun m2 l2 h2 => ?_
  refine Zd2 (by simp at l2 ⊢; omega) ?_
  (repeat fail "go")
  rw [Zwj]
  refine Zd2 (by simp at l2 ⊢; omega) ?_
  have b1 : Asx ([115, 111, 109, 101, 10] ++ m1) := Zdl (by unfold Asx; decide) fun c hc => by have := h1 c hc; simp at this; omega
  have b2 : Asx ([97, 108, 108, 10] ++ m2 ++ [10]) := Zdl (Zdl (by unfold Asx; decide) fun c hc => by have := h2 c hc; simp at this; omega) (Zfl (by decide))
  have b3 : ([115, 111, 109, 101, 10] ++ m1).length ≤ 90000 := by simp at l1 ⊢; omega
  have b4 : ([97, 108, 108, 10] ++ m2 ++ [10]).length ≤ 90000 := by simp at l2 ⊢; omega
  generalize [115, 111, 109, 101, 10] ++ m1 = U1 at b1 b3 ⊢
  generalize [97, 108, 108, 10] ++ m2 ++ [10] = U2 at b2 b4 ⊢
  refine w_anil (w_sz (by simp) ?_)
  refine w_itR last ?_
  have okL : ∀ x ∈ [D.str "", tx [10], .str "-", .str "-\n", .str "all", .str "-\n0\n", .str "-\n1\n", tx U1, tx U2], OkT x := fun x hx => by
   simp only [List.mem_cons, List.not_mem_nil, or_false] at hx
   rcases hx with rfl | rfl | rfl | rfl | rfl | rfl | rfl | rfl | rfl
   ·exact ⟨[], rfl, by unfold Asx; decide, by decide⟩
   ·exact ⟨[10], rfl, by unfold Asx; decide, by decide⟩
   ·exact ⟨[45], rfl, by unfold Asx; decide, by decide⟩
   ·exact ⟨[45, 10], rfl, by unfold Asx; decide, by decide⟩
   ·exact ⟨[97, 108, 108], rfl, by unfold Asx; decide, by decide⟩
   ·exact ⟨[45, 10, 48, 10], rfl, by unfold Asx; decide, by decide⟩
   ·exact ⟨[45, 10, 49, 10], rfl, by unfold Asx; decide, by decide⟩
   ·exact ⟨_, rfl, b1, b3⟩
   ·exact ⟨_, rfl, b2, b4⟩
  generalize [D.str "", tx [10], .str "-", .str "-\n", .str "all", .str "-\n0\n", .str "-\n1\n", tx U1, tx U2] = XS at okL ⊢
  refine Zka (fun σ H' => H'[H2.length]? = some (.lst XS) ∧ ∃ z2, σ = [some (.fl (ns.map .int)), some (.ref p), z2, z3, z4, z5, z6, z7, z8]) (fun _ _ j => Zni j.1) _ (fun x hx σ H' ⟨j2, z2, e⟩ => ?_) _ _ ⟨last, z2, rfl⟩ (fun σ H' ⟨j2, z2, e⟩ => ?_)
  ·obtain ⟨U, rfl, aU, nU⟩ := okL x hx
   subst e
   (repeat fail "go")
   refine w_if ?_
   (repeat fail "go")
   refine Zf7 aU nU fun Hc xc => ?_
   (repeat fail "go")
   exact ⟨xc.lst (by simp) j2, _, rfl⟩
  ·subst e
   (repeat fail "go")
   rfl
end K08
set_option maxHeartbeats 8000000
namespace K08
open PySem PySem.Spec PyProof.Rows L2 DL
noncomputable def top (i : Nat) : Stmt := PySem.Challenge.pw_allsome_k78_wrong_texts_of_claims.main.body.getD i (.Pass ⟨0, 0, 0, 0⟩)
noncomputable abbrev si_NoText : Stmt := (Zuo (top 10)).getD 0 (.Pass ⟨0, 0, 0, 0⟩)
theorem Zm6 : FnScope ["self", "line"] ["self", "line"] (Zal si_NoText) := ⟨rfl, rfl, rfl, by decide +kernel, rfl, by decide +kernel, by decide +kernel⟩
noncomputable abbrev s_is_whole : Stmt := top 4
theorem Zld : FnScope ["thing"] ["thing"] (Zal s_is_whole) := ⟨rfl, rfl, rfl, by decide +kernel, rfl, by decide +kernel, by decide +kernel⟩
noncomputable abbrev s_is_kinds : Stmt := top 5
theorem Zk6 : FnScope ["thing"] ["thing"] (Zal s_is_kinds) := ⟨rfl, rfl, rfl, by decide +kernel, rfl, by decide +kernel, by decide +kernel⟩
noncomputable abbrev s_is_row : Stmt := top 6
theorem Zf3 : FnScope ["many", "thing", "last", "literal"] ["many", "thing"] (Zal s_is_row) := ⟨rfl, rfl, rfl, by decide +kernel, rfl, by decide +kernel, by decide +kernel⟩
noncomputable abbrev s_read_number : Stmt := top 20
theorem Zh6 : FnScope ["word"] ["word"] (Zal s_read_number) := ⟨rfl, rfl, rfl, by decide +kernel, rfl, by decide +kernel, by decide +kernel⟩
noncomputable abbrev s_read_literal : Stmt := top 21
theorem Zez : FnScope ["word", "number"] ["word"] (Zal s_read_literal) := ⟨rfl, rfl, rfl, by decide +kernel, rfl, by decide +kernel, by decide +kernel⟩
noncomputable abbrev s_read_row : Stmt := top 22
theorem Zhn : FnScope ["many", "words", "row"] ["many", "words"] (Zal s_read_row) := ⟨rfl, rfl, rfl, by decide +kernel, rfl, by decide +kernel, by decide +kernel⟩
noncomputable abbrev s_read_kinds : Stmt := top 23
theorem Zf1 : FnScope ["words", "kinds"] ["words"] (Zal s_read_kinds) := ⟨rfl, rfl, rfl, by decide +kernel, rfl, by decide +kernel, by decide +kernel⟩
noncomputable abbrev s_read_claim : Stmt := top 24
theorem Zap : FnScope ["text", "lines", "ended", "kinds", "rows", "number", "line", "row"] ["text"] (Zal s_read_claim) := ⟨rfl, rfl, rfl, by decide +kernel, rfl, by decide +kernel, by decide +kernel⟩
noncomputable abbrev s_law_mix : Stmt := top 26
theorem Zeb : FnScope ["cell", "k", "prime", "one"] ["cell", "k"] (Zal s_law_mix) := ⟨rfl, rfl, rfl, by decide +kernel, rfl, by decide +kernel, by decide +kernel⟩
noncomputable abbrev s_law_digits : Stmt := top 27
theorem Zb4 : FnScope ["cell", "many", "found", "left_over", "wide", "k"] ["cell", "many"] (Zal s_law_digits) := ⟨rfl, rfl, rfl, by decide +kernel, rfl, by decide +kernel, by decide +kernel⟩
noncomputable abbrev s_law_at : Stmt := top 28
theorem Znx : FnScope ["script", "k"] ["script", "k"] (Zal s_law_at) := ⟨rfl, rfl, rfl, by decide +kernel, rfl, by decide +kernel, by decide +kernel⟩
noncomputable abbrev s_law_kinds : Stmt := top 29
theorem Zck : FnScope ["some", "many", "found", "k", "kind"] ["some", "many"] (Zal s_law_kinds) := ⟨rfl, rfl, rfl, by decide +kernel, rfl, by decide +kernel, by decide +kernel⟩
noncomputable abbrev s_law_row : Stmt := top 30
theorem Ze0 : FnScope ["cell", "many", "wide", "some", "found", "k"] ["cell", "many", "wide"] (Zal s_law_row) := ⟨rfl, rfl, rfl, by decide +kernel, rfl, by decide +kernel, by decide +kernel⟩
noncomputable abbrev s_law_claim : Stmt := top 31
theorem Zb2 : FnScope ["script", "most", "some", "many", "kinds", "size", "rows"] ["script", "most"] (Zal s_law_claim) := ⟨rfl, rfl, rfl, by decide +kernel, rfl, by decide +kernel, by decide +kernel⟩
noncomputable abbrev s_law_text : Stmt := top 32
theorem Zb0 : FnScope ["claim", "found", "row", "words", "literal"] ["claim"] (Zal s_law_text) := ⟨rfl, rfl, rfl, by decide +kernel, rfl, by decide +kernel, by decide +kernel⟩
noncomputable abbrev s_law_kinds_read : Stmt := top 33
theorem Zd9 : FnScope ["line", "words"] ["line"] (Zal s_law_kinds_read) := ⟨rfl, rfl, rfl, by decide +kernel, rfl, by decide +kernel, by decide +kernel⟩
noncomputable abbrev s_law_row_read : Stmt := top 34
theorem Zbg : FnScope ["line", "many", "found", "last", "word", "head", "figures"] ["line", "many"] (Zal s_law_row_read) := ⟨rfl, rfl, rfl, by decide +kernel, rfl, by decide +kernel, by decide +kernel⟩
noncomputable abbrev s_law_read : Stmt := top 35
theorem Zc1 : FnScope ["text", "lines", "kinds", "rows", "k", "row"] ["text"] (Zal s_law_read) := ⟨rfl, rfl, rfl, by decide +kernel, rfl, by decide +kernel, by decide +kernel⟩
noncomputable abbrev s_law_told : Stmt := top 36
theorem Zdo : FnScope ["text", "told", "e"] ["text"] (Zal s_law_told) := ⟨rfl, rfl, rfl, by decide +kernel, rfl, by decide +kernel, by decide +kernel⟩
noncomputable abbrev s_law_plain : Stmt := top 37
theorem Zdt : FnScope ["text", "kinds", "e"] ["text"] (Zal s_law_plain) := ⟨rfl, rfl, rfl, by decide +kernel, rfl, by decide +kernel, by decide +kernel⟩
noncomputable abbrev s_law_bent : Stmt := top 38
theorem Zcz : FnScope ["text", "some", "signs", "sign", "at"] ["text", "some"] (Zal s_law_bent) := ⟨rfl, rfl, rfl, by decide +kernel, rfl, by decide +kernel, by decide +kernel⟩
noncomputable abbrev s_law_bent_rows : Stmt := top 39
theorem Zaz : FnScope ["text", "some", "lines", "at", "bad", "words"] ["text", "some"] (Zal s_law_bent_rows) := ⟨rfl, rfl, rfl, by decide +kernel, rfl, by decide +kernel, by decide +kernel⟩
noncomputable abbrev s_law_right : Stmt := top 40
theorem Zeq : FnScope ["text", "due", "told"] ["text"] (Zal s_law_right) := ⟨rfl, rfl, rfl, by decide +kernel, rfl, by decide +kernel, by decide +kernel⟩
noncomputable abbrev s_law : Stmt := top 41
theorem Zey : FnScope ["script", "cells", "text", "k", "cell", "some", "more", "twice", "bent"] ["script"] (Zal s_law) := ⟨rfl, rfl, rfl, by decide +kernel, rfl, by decide +kernel, by decide +kernel⟩
structure Top (K : PySem.W.Frag) (mg : Str -> Option Value) : Prop where
 t_is_whole : Tf K mg "is_whole" s_is_whole
 t_is_kinds : Tf K mg "is_kinds" s_is_kinds
 t_is_row : Tf K mg "is_row" s_is_row
 t_read_number : Tf K mg "read_number" s_read_number
 t_read_literal : Tf K mg "read_literal" s_read_literal
 t_read_row : Tf K mg "read_row" s_read_row
 t_read_kinds : Tf K mg "read_kinds" s_read_kinds
 t_read_claim : Tf K mg "read_claim" s_read_claim
 t_law_mix : Tf K mg "_law_mix" s_law_mix
 t_law_digits : Tf K mg "_law_digits" s_law_digits
 t_law_at : Tf K mg "_law_at" s_law_at
 t_law_kinds : Tf K mg "_law_kinds" s_law_kinds
 t_law_row : Tf K mg "_law_row" s_law_row
 t_law_claim : Tf K mg "_law_claim" s_law_claim
 t_law_text : Tf K mg "_law_text" s_law_text
 t_law_kinds_read : Tf K mg "_law_kinds_read" s_law_kinds_read
 t_law_row_read : Tf K mg "_law_row_read" s_law_row_read
 t_law_read : Tf K mg "_law_read" s_law_read
 t_law_told : Tf K mg "_law_told" s_law_told
 t_law_plain : Tf K mg "_law_plain" s_law_plain
 t_law_bent : Tf K mg "_law_bent" s_law_bent
 t_law_bent_rows : Tf K mg "_law_bent_rows" s_law_bent_rows
 t_law_right : Tf K mg "_law_right" s_law_right
 t_law : Tf K mg "law" s_law
 n_ValueError : mg "ValueError" = none
 n_abs : mg "abs" = none
 n_all : mg "all" = none
 n_bool : mg "bool" = none
 n_enumerate : mg "enumerate" = none
 n_int : mg "int" = none
 n_isinstance : mg "isinstance" = none
 n_len : mg "len" = none
 n_list : mg "list" = none
 n_max : mg "max" = none
 n_range : mg "range" = none
 n_str : mg "str" = none
 n_tuple : mg "tuple" = none
 c_FIGURES : Gc K mg "FIGURES" k_FIGURES
 c_KINDS : Gc K mg "KINDS" k_KINDS
 c_MOST_FIGURES : Gc K mg "MOST_FIGURES" k_MOST_FIGURES
 c_MOST_NAMES : Gc K mg "MOST_NAMES" k_MOST_NAMES
 c_MOST_ROWS : Gc K mg "MOST_ROWS" k_MOST_ROWS
 y_NoText : ∃ C Cl fI, YCl K mg "NoText" "line" "NoText.__init__" si_NoText C Cl fI
 h_NoText_NoText : ∃ C cV, mg "NoText" = some (.ref C) ∧ mg "NoText" = some cV ∧ PySem.W.exmOne K (.ref C) cV = some true
 h_NoText_ClaimError : ∃ C cV, mg "NoText" = some (.ref C) ∧ mg "ClaimError" = some cV ∧ PySem.W.exmOne K (.ref C) cV = some true
 i_NoText : ∃ c0 c1 c2 c3 c4 c5 c6, Zxn K mg "NoText" [c0, c1, c2, c3, c4, c5, c6] ∧ mg "NoBack" = some (.ref c0) ∧ mg "NoLine" = some (.ref c1) ∧ mg "NoPick" = some (.ref c2) ∧ mg "NoRow" = some (.ref c3) ∧ mg "NoStep" = some (.ref c4) ∧ mg "NotWon" = some (.ref c5) ∧ mg "TooMany" = some (.ref c6)
section
variable {P : Program} {w : World} {K : PySem.W.Frag} {mg : Str -> Option Value} {base : Heap}
theorem Zm7 (T : Top K mg) : YRs P w K mg base "NoText" "line" 1 := by
 obtain ⟨C, Cl, fI, Y⟩ := T.y_NoText
 obtain ⟨fd, F⟩ := Y.fn
 exact ⟨C, Cl, fI, fd, ["self", "line"], Y.bound, Y.kp, Y.ini, Zyu (k := 0) (ln := "line") Y.ini Y.base F Zm6 rfl (by decide) (by decide) rfl rfl rfl (fun L cdv => ⟨_, rfl⟩), F.binds (fun _ _ _ _ _ _ us hl => by obtain ⟨_, _, rfl⟩ := us2 hl; rfl), Y.look⟩
theorem Zlf (T : Top K mg) : Fn P w K mg base 1 "is_whole" ["thing"] Zdi := by
 refine (fun h => h : _ → Fn P w K mg base 1 "is_whole" ["thing"] (Zcr 1 1 Zcy)) (Zdg (N := ["thing"]) (k := 0) T.t_is_whole Zld (fun _ _ _ _ _ _ us hl => by obtain ⟨_, rfl⟩ := us1 hl; rfl) ?_)
 intro f cdv A outer s H E hr
 unfold Zcy
 refine Zab ?_ Zaf
 refine Zas ?_
 refine Zvw ?_ ?_
 refine Zaq Zd1 ?_ T.n_isinstance Zb5 ?_
 rfl
 refine Zag ?_ ?_ ?_
 exact (Zaa (pv 0))
 refine Zag ?_ ?_ ?_
 refine Zio ?_ T.n_int Zfz
 rfl
 exact Zad
 rfl
 rfl
 refine Zny ?_
 refine Zv8 ?_
 refine Zaq Zd1 ?_ T.n_isinstance Zb5 ?_
 rfl
 refine Zag ?_ ?_ ?_
 exact (Zaa (pv 0))
 refine Zag ?_ ?_ ?_
 refine Zio ?_ T.n_bool Zpu
 rfl
 exact Zad
 rfl
 rfl
theorem Zk7 (T : Top K mg) : Fn P w K mg base 1 "is_kinds" ["thing"] Ze3 := by
 refine (fun h => h : _ → Fn P w K mg base 1 "is_kinds" ["thing"] (Zcr 1 1 Zd5)) (Zdg (N := ["thing"]) (k := 0) T.t_is_kinds Zk6 (fun _ _ _ _ _ _ us hl => by obtain ⟨_, rfl⟩ := us1 hl; rfl) ?_)
 intro f cdv A outer s H E hr
 unfold Zd5
 refine Zab ?_ ?_
 refine Za6 ?_ ?_ Zaf
 refine PWf.pt ?_
 refine Zc5 ?_ ?_
 refine Zdu ?_
 refine Za9 ?_ (fun _ => rfl)
 refine Zaq Zd1 ?_ T.n_isinstance Zb5 ?_
 rfl
 refine Zag ?_ ?_ ?_
 exact (Zaa (pv 0))
 refine Zag ?_ ?_ ?_
 refine Zio ?_ T.n_tuple Zcq
 rfl
 exact Zad
 rfl
 rfl
 refine Zcx ?_
 refine Zao Zd6 ?_ ?_ (Zau _)
 refine Zaq Za7 ?_ T.n_len Zci ?_
 rfl
 refine Zag ?_ ?_ ?_
 exact (Zaa (pv 0))
 exact Zad
 rfl
 refine Zgi ?_ T.c_MOST_NAMES
 rfl
 refine Zab ?_ Zaf
 exact Zas Zex
 refine Zab ?_ Zaf
 refine Zas ?_
 refine Zaq (Zjq (by rfl)) ?_ T.n_all Zsz ?_
 rfl
 refine Zag ?_ ?_ ?_
 refine Zmj (cn := []) ?_ (Zij (x := "kind") (cn := []) (ci := []) (by decide +kernel)) ?_ ?_ ?_
 rfl
 exact Zdv (Zaa (pv 0))
 intro _ _ _ _ _ _
 exact Zgu
 intro _ _ _ _ _ _
 refine Zev (Zxb hr.units) (Zaa (pv 0)) ?_ ?_
 refine Zgi ?_ T.c_KINDS
 rfl
 with_unfolding_all rfl
 exact Zad
 rfl
theorem Zox (T : Top K mg) (F_is_whole : Fn P w K mg base 1 "is_whole" ["thing"] Zdi) : Fn P w K mg base 2 "is_row" ["many", "thing"] Zgz := by
 refine (fun h => h : _ → Fn P w K mg base 2 "is_row" ["many", "thing"] (Zcr 2 4 Zfw)) (Zdg (N := ["many", "thing", "last", "literal"]) (k := 1) T.t_is_row Zf3 (fun _ _ _ _ _ _ us hl => by obtain ⟨_, _, rfl⟩ := us2 hl; rfl) ?_)
 intro f cdv A outer s H E hr
 unfold Zfw
 refine Zab ?_ ?_
 refine Za6 ?_ ?_ Zaf
 refine Zdu ?_
 refine Za9 ?_ (fun _ => rfl)
 refine Zaq Zd1 ?_ T.n_isinstance Zb5 ?_
 rfl
 refine Zag ?_ ?_ ?_
 exact (Zaa (pv 1))
 refine Zag ?_ ?_ ?_
 refine Zio ?_ T.n_tuple Zcq
 rfl
 exact Zad
 rfl
 rfl
 refine Zab ?_ Zaf
 exact Zas Zex
 refine Zab ?_ ?_
 refine Zak (i := 2) ?_ ?_ ?_ Zae
 exact Zf3.nd
 rfl
 first | exact Or.inl rfl | exact Or.inr rfl
 refine Zab ?_ ?_
 refine Zcw PassesOwn.never ?_ ?_ ?_ ?_
 rfl
 exact Zdv (Zaa (pv 1))
 refine Zbh (i := 3) ?_ ?_ ?_
 exact Zf3.nd
 rfl
 first | exact Or.inl rfl | exact Or.inr rfl
 refine Zab ?_ ?_
 refine Za6 ?_ ?_ Zaf
 refine PWf.pt ?_
 refine Zc5 ?_ ?_
 refine Zdu ?_
 refine Za9 ?_ (fun _ => rfl)
 refine Za8 F_is_whole (hr.mono (by decide)) ?_ ?_
 rfl
 refine Zag ?_ ?_ ?_
 exact (Zaa (pv 3))
 exact Zad
 rfl
 refine Zc5 ?_ ?_
 refine Zao Zsu ?_ (Zaa (pv 2)) (Zau _)
 refine Zaq Zeu ?_ T.n_abs Zj6 ?_
 rfl
 refine Zag ?_ ?_ ?_
 exact (Zaa (pv 3))
 exact Zad
 rfl
 refine Zcx ?_
 refine Zao Zd6 ?_ (Zaa (pv 0)) (Zau _)
 refine Zaq Zeu ?_ T.n_abs Zj6 ?_
 rfl
 refine Zag ?_ ?_ ?_
 exact (Zaa (pv 3))
 exact Zad
 rfl
 refine Zab ?_ Zaf
 exact Zas Zex
 refine Zab ?_ Zaf
 refine Zak (i := 2) ?_ ?_ ?_ ?_
 exact Zf3.nd
 rfl
 first | exact Or.inl rfl | exact Or.inr rfl
 refine Zaq Zeu ?_ T.n_abs Zj6 ?_
 rfl
 refine Zag ?_ ?_ ?_
 exact (Zaa (pv 3))
 exact Zad
 rfl
 refine Zab ?_ Zaf
 exact Zas Zex
theorem Zia (T : Top K mg) : Fn P w K mg base 1 "read_number" ["word"] Zcp := by
 refine (fun h => h : _ → Fn P w K mg base 1 "read_number" ["word"] (Zcr 1 1 Zco)) (Zdg (N := ["word"]) (k := 0) T.t_read_number Zh6 (fun _ _ _ _ _ _ us hl => by obtain ⟨_, rfl⟩ := us1 hl; rfl) ?_)
 intro f cdv A outer s H E hr
 unfold Zco
 refine Zab ?_ ?_
 refine Za6 ?_ ?_ Zaf
 refine PWf.pt ?_
 refine Zc5 ?_ ?_
 refine Zao (Zb7 hr.units) ?_ Zae (Zau _)
 refine Zaq Za7 ?_ T.n_len Zci ?_
 rfl
 refine Zag ?_ ?_ ?_
 exact (Zaa (pv 0))
 exact Zad
 rfl
 refine Zc5 ?_ ?_
 refine Zao Zd6 ?_ ?_ (Zau _)
 refine Zaq Za7 ?_ T.n_len Zci ?_
 rfl
 refine Zag ?_ ?_ ?_
 exact (Zaa (pv 0))
 exact Zad
 rfl
 refine Zgi ?_ T.c_MOST_FIGURES
 rfl
 refine Zcx ?_
 refine Zdu ?_
 refine Za9 ?_ (fun _ => rfl)
 refine Zaq (Zjq (by rfl)) ?_ T.n_all Zsz ?_
 rfl
 refine Zag ?_ ?_ ?_
 refine Zmj (cn := []) ?_ (Zij (x := "sign") (cn := []) (ci := []) (by decide +kernel)) ?_ ?_ ?_
 rfl
 exact Zt2 (Zaa (pv 0))
 intro _ _ _ _ _ _
 exact Zgu
 intro _ _ _ _ _ _
 refine Zev sinf (Zaa (pv 0)) ?_ ?_
 refine Zgi ?_ T.c_FIGURES
 rfl
 with_unfolding_all rfl
 exact Zad
 rfl
 refine Zab ?_ Zaf
 exact Zas Zbd
 refine Zab ?_ ?_
 refine Za6 ?_ ?_ Zaf
 refine PWf.pt ?_
 refine Zjf ?_ ?_
 refine Zao (Zb7 hr.units) ?_ Zai (Zau _)
 exact Zat sixf (Zaa (pv 0)) Zae (fun _ _ => rfl)
 refine Zg9 ?_
 exact Zao (Zgn hr.units) (Zaa (pv 0)) Zai (Zau _)
 refine Zab ?_ Zaf
 exact Zas Zbd
 refine Zab ?_ Zaf
 refine Zas ?_
 refine Za4 Zga ?_ T.n_int Zfz ?_
 rfl
 refine Zag ?_ ?_ ?_
 exact (Zaa (pv 0))
 exact Zad
 rfl
theorem Zhd (T : Top K mg) (F_read_number : Fn P w K mg base 1 "read_number" ["word"] Zcp) : Fn P w K mg base 2 "read_literal" ["word"] Zc3 := by
 refine (fun h => h : _ → Fn P w K mg base 2 "read_literal" ["word"] (Zcr 1 2 Zcb)) (Zdg (N := ["word", "number"]) (k := 1) T.t_read_literal Zez (fun _ _ _ _ _ _ us hl => by obtain ⟨_, rfl⟩ := us1 hl; rfl) ?_)
 intro f cdv A outer s H E hr
 unfold Zcb
 refine Zab ?_ ?_
 refine Za6 ?_ ?_ Zaf
 refine Zdu ?_
 refine Za9 ?_ (fun _ => rfl)
 refine Zc9 PySem.F.slot_str_startswith PySem.F.type_str_startswith Zms (Zaa (pv 0)) ?_
 refine Zag ?_ ?_ ?_
 exact Zai
 exact Zad
 rfl
 refine Zab ?_ Zaf
 refine Zas ?_
 refine Za8 F_read_number (hr.mono (by decide)) ?_ ?_
 rfl
 refine Zag ?_ ?_ ?_
 exact (Zaa (pv 0))
 exact Zad
 rfl
 refine Zab ?_ ?_
 refine Zak (i := 1) ?_ ?_ ?_ ?_
 exact Zez.nd
 rfl
 first | exact Or.inl rfl | exact Or.inr rfl
 refine Za8 F_read_number (hr.mono (by decide)) ?_ ?_
 rfl
 refine Zag ?_ ?_ ?_
 refine Zbp (Zaa (pv 0)) ?_ Zax
 exact Zay Zae
 exact Zad
 rfl
 refine Zab ?_ Zaf
 refine Zas ?_
 refine Zkt ?_ Zbd ?_
 exact Zao Zfd (Zaa (pv 1)) Zbd (Zau _)
 exact Zdy Zc0 (Zaa (pv 1))
theorem Zky (T : Top K mg) (F_is_row : Fn P w K mg base 2 "is_row" ["many", "thing"] Zgz) (F_read_literal : Fn P w K mg base 2 "read_literal" ["word"] Zc3) : Fn P w K mg base 3 "read_row" ["many", "words"] Zb6 := by
 refine (fun h => h : _ → Fn P w K mg base 3 "read_row" ["many", "words"] (Zcr 2 3 Zd0)) (Zdg (N := ["many", "words", "row"]) (k := 2) T.t_read_row Zhn (fun _ _ _ _ _ _ us hl => by obtain ⟨_, _, rfl⟩ := us2 hl; rfl) ?_)
 intro f cdv A outer s H E hr
 unfold Zd0
 refine Zab ?_ ?_
 refine Za6 ?_ ?_ Zaf
 refine Zao (Zb7 hr.units) (Zaa (pv 1)) ?_ (Zau _)
 refine Za1 ?_
 refine Zag ?_ ?_ ?_
 exact Zai
 exact Zad
 rfl
 refine Zab ?_ Zaf
 refine Zas ?_
 exact Zcf Zad
 refine Zab ?_ ?_
 refine Zak (i := 2) ?_ ?_ ?_ ?_
 exact Zhn.nd
 rfl
 first | exact Or.inl rfl | exact Or.inr rfl
 refine Za4 Zbs ?_ T.n_tuple Zcq ?_
 rfl
 refine Zag ?_ ?_ ?_
 refine Zmj (cn := []) ?_ (Zij (x := "word") (cn := []) (ci := []) (by decide +kernel)) ?_ ?_ ?_
 rfl
 exact Zdv (Zaa (pv 1))
 intro _ _ _ _ _ _
 exact Zgu
 intro _ _ _ _ _ _
 refine Za8 F_read_literal (hr.mono (by decide)) ?_ ?_
 rfl
 refine Zag ?_ ?_ ?_
 exact (Zaa (pv 0))
 exact Zad
 rfl
 exact Zad
 rfl
 refine Zab ?_ Zaf
 refine Zas ?_
 refine Zkt ?_ (Zaa (pv 2)) Zbd
 refine PWf.pt ?_
 refine Zjf ?_ ?_
 exact Za9 (Zaa (pv 2)) (fun _ => rfl)
 refine Zg9 ?_
 refine Za9 ?_ (fun _ => rfl)
 refine Za8 F_is_row (hr.mono (by decide)) ?_ ?_
 rfl
 refine Zag ?_ ?_ ?_
 exact (Zaa (pv 0))
 refine Zag ?_ ?_ ?_
 exact (Zaa (pv 2))
 exact Zad
 rfl
 rfl
theorem Ziz (T : Top K mg) (F_is_kinds : Fn P w K mg base 1 "is_kinds" ["thing"] Ze3) : Fn P w K mg base 2 "read_kinds" ["words"] Zby := by
 refine (fun h => h : _ → Fn P w K mg base 2 "read_kinds" ["words"] (Zcr 1 2 Zc6)) (Zdg (N := ["words", "kinds"]) (k := 1) T.t_read_kinds Zf1 (fun _ _ _ _ _ _ us hl => by obtain ⟨_, rfl⟩ := us1 hl; rfl) ?_)
 intro f cdv A outer s H E hr
 unfold Zc6
 refine Zab ?_ ?_
 refine Za6 ?_ ?_ Zaf
 refine Zao (Zb7 hr.units) (Zaa (pv 0)) ?_ (Zau _)
 refine Za1 ?_
 refine Zag ?_ ?_ ?_
 exact Zai
 exact Zad
 rfl
 refine Zab ?_ Zaf
 refine Zas ?_
 exact Zcf Zad
 refine Zab ?_ ?_
 refine Zak (i := 1) ?_ ?_ ?_ ?_
 exact Zf1.nd
 rfl
 first | exact Or.inl rfl | exact Or.inr rfl
 refine Za4 Zbs ?_ T.n_tuple Zcq ?_
 rfl
 refine Zag ?_ ?_ ?_
 exact (Zaa (pv 0))
 exact Zad
 rfl
 refine Zab ?_ Zaf
 refine Zas ?_
 refine Zkt ?_ (Zaa (pv 1)) Zbd
 refine PWf.pt ?_
 refine Zjf ?_ ?_
 exact Za9 (Zaa (pv 1)) (fun _ => rfl)
 refine Zg9 ?_
 refine Za9 ?_ (fun _ => rfl)
 refine Za8 F_is_kinds (hr.mono (by decide)) ?_ ?_
 rfl
 refine Zag ?_ ?_ ?_
 exact (Zaa (pv 1))
 exact Zad
 rfl
theorem Zjc (T : Top K mg) (F_read_row : Fn P w K mg base 3 "read_row" ["many", "words"] Zb6) (F_read_kinds : Fn P w K mg base 2 "read_kinds" ["words"] Zby) : Fn P w K mg base 4 "read_claim" ["text"] Zbz := by
 refine (fun h => h : _ → Fn P w K mg base 4 "read_claim" ["text"] (Zcr 1 8 Zbj)) (Zdg (N := ["text", "lines", "ended", "kinds", "rows", "number", "line", "row"]) (k := 3) T.t_read_claim Zap (fun _ _ _ _ _ _ us hl => by obtain ⟨_, rfl⟩ := us1 hl; rfl) ?_)
 intro f cdv A outer s H E hr
 unfold Zbj
 refine Zab ?_ ?_
 refine Zak (i := 1) ?_ ?_ ?_ ?_
 exact Zap.nd
 rfl
 first | exact Or.inl rfl | exact Or.inr rfl
 refine Zc9 PySem.F.slot_str_split PySem.F.type_str_split Zbt (Zaa (pv 0)) ?_
 refine Zag ?_ ?_ ?_
 exact Zai
 exact Zad
 rfl
 refine Zab ?_ ?_
 refine Zak (i := 2) ?_ ?_ ?_ ?_
 exact Zap.nd
 rfl
 first | exact Or.inl rfl | exact Or.inr rfl
 refine Za5 (Zaa (pv 1)) Zax ?_
 refine Zay ?_
 exact Zdy Zc0 Zae
 refine Zab ?_ ?_
 refine Zak (i := 3) ?_ ?_ ?_ ?_
 exact Zap.nd
 rfl
 first | exact Or.inl rfl | exact Or.inr rfl
 refine Zkt ?_ ?_ Zbd
 exact Za9 (Zaa (pv 2)) (fun _ => rfl)
 refine Za8 F_read_kinds (hr.mono (by decide)) ?_ ?_
 rfl
 refine Zag ?_ ?_ ?_
 refine Zc9 PySem.F.slot_str_split PySem.F.type_str_split Zbt ?_ ?_
 exact Zat ixf (Zaa (pv 2)) Zae (fun _ _ => rfl)
 refine Zag ?_ ?_ ?_
 exact Zai
 exact Zad
 rfl
 exact Zad
 rfl
 refine Zab ?_ ?_
 refine Za6 ?_ ?_ Zaf
 exact Zao Zfd (Zaa (pv 3)) Zbd (Zau _)
 exact Zab Zgh Zaf
 refine Zab ?_ ?_
 refine Zak (i := 4) ?_ ?_ ?_ ?_
 exact Zap.nd
 rfl
 first | exact Or.inl rfl | exact Or.inr rfl
 exact Za1 Zad
 refine Zab ?_ ?_
 refine Zcw PassesOwn.never ?_ ?_ ?_ ?_
 rfl
 refine Zgf ?_ T.n_enumerate ?_
 rfl
 refine Zag ?_ ?_ ?_
 refine Za5 (Zaa (pv 2)) ?_ Zax
 exact Zay Zae
 exact Zad
 rfl
 refine Zi6 ?_ ?_
 rfl
 refine Zc7 ?_ ?_
 refine Zbh (i := 5) ?_ ?_ ?_
 exact Zap.nd
 rfl
 first | exact Or.inl rfl | exact Or.inr rfl
 refine Zc7 ?_ Zgy
 refine Zbh (i := 6) ?_ ?_ ?_
 exact Zap.nd
 rfl
 first | exact Or.inl rfl | exact Or.inr rfl
 refine Zab ?_ ?_
 refine Zak (i := 7) ?_ ?_ ?_ ?_
 exact Zap.nd
 rfl
 first | exact Or.inl rfl | exact Or.inr rfl
 refine Za8 F_read_row (hr.mono (by decide)) ?_ ?_
 rfl
 refine Zag ?_ ?_ ?_
 refine Zaq Za7 ?_ T.n_len Zci ?_
 rfl
 refine Zag ?_ ?_ ?_
 exact (Zaa (pv 3))
 exact Zad
 rfl
 refine Zag ?_ ?_ ?_
 refine Zc9 PySem.F.slot_str_split PySem.F.type_str_split Zbt (Zaa (pv 6)) ?_
 refine Zag ?_ ?_ ?_
 exact Zai
 exact Zad
 rfl
 exact Zad
 rfl
 rfl
 refine Zab ?_ ?_
 refine Za6 ?_ ?_ Zaf
 refine PWf.pt ?_
 refine Zc5 ?_ ?_
 exact Zao Zfd (Zaa (pv 7)) Zbd (Zau _)
 refine Zcx ?_
 refine Zao Zd6 (Zaa (pv 5)) ?_ (Zau _)
 refine Zgi ?_ T.c_MOST_ROWS
 rfl
 exact Zab Zgh Zaf
 refine Zab ?_ Zaf
 refine Zcm ?_
 refine Ze9 PySem.F.slot_list_append PySem.F.type_list_append Zbw (Zaa (pv 4)) ?_
 refine Zag ?_ ?_ ?_
 exact (Zaa (pv 7))
 exact Zad
 rfl
 refine Zab ?_ ?_
 refine Za6 ?_ ?_ Zaf
 refine Zao (Zgn hr.units) ?_ Zai (Zau _)
 refine Zat ixf (Zaa (pv 1)) ?_ (fun _ _ => rfl)
 exact Zdy Zc0 Zae
 exact Zab Zgh Zaf
 refine Zab ?_ Zaf
 refine Zas ?_
 refine Zcf ?_
 refine Zag ?_ ?_ ?_
 exact (Zaa (pv 3))
 refine Zag ?_ ?_ ?_
 refine Za4 Zbs ?_ T.n_tuple Zcq ?_
 rfl
 refine Zag ?_ ?_ ?_
 exact (Zaa (pv 4))
 exact Zad
 rfl
 exact Zad
 rfl
 rfl
theorem Zh4 (T : Top K mg) (F_read_row : Fn P w K mg base 3 "read_row" ["many", "words"] Zb6) (F_read_kinds : Fn P w K mg base 2 "read_kinds" ["words"] Zby) (RI_NoText : YRs P w K mg base "NoText" "line" 1) : FnY P w K mg base 4 "read_claim" ["text"] "NoText" (some "line") Zch := by
 refine (fun h => h : _ → FnY P w K mg base 4 "read_claim" ["text"] "NoText" (some "line") (Zud 1 8 Zbl)) (fy_mk (N := ["text", "lines", "ended", "kinds", "rows", "number", "line", "row"]) (k := 3) T.t_read_claim Zap (fun _ _ _ _ _ _ us hl => by obtain ⟨_, rfl⟩ := us1 hl; rfl) ?_)
 intro C hE f cdv A outer s H E hr
 unfold Zbl
 refine Zf4 ?_ ?_
 refine Zak (i := 1) ?_ ?_ ?_ ?_
 exact Zap.nd
 rfl
 first | exact Or.inl rfl | exact Or.inr rfl
 refine Zc9 PySem.F.slot_str_split PySem.F.type_str_split Zbt (Zaa (pv 0)) ?_
 refine Zag ?_ ?_ ?_
 exact Zai
 exact Zad
 rfl
 refine Zf4 ?_ ?_
 refine Zak (i := 2) ?_ ?_ ?_ ?_
 exact Zap.nd
 rfl
 first | exact Or.inl rfl | exact Or.inr rfl
 refine Za5 (Zaa (pv 1)) Zax ?_
 refine Zay ?_
 exact Zdy Zc0 Zae
 refine Zf4 ?_ ?_
 refine Zak (i := 3) ?_ ?_ ?_ ?_
 exact Zap.nd
 rfl
 first | exact Or.inl rfl | exact Or.inr rfl
 refine Zkt ?_ ?_ Zbd
 exact Za9 (Zaa (pv 2)) (fun _ => rfl)
 refine Za8 F_read_kinds (hr.mono (by decide)) ?_ ?_
 rfl
 refine Zag ?_ ?_ ?_
 refine Zc9 PySem.F.slot_str_split PySem.F.type_str_split Zbt ?_ ?_
 exact Zat ixf (Zaa (pv 2)) Zae (fun _ _ => rfl)
 refine Zag ?_ ?_ ?_
 exact Zai
 exact Zad
 rfl
 exact Zad
 rfl
 refine Zs6 ?_ ?_ ?_
 refine Za6 ?_ ?_ Zaf
 exact Zao Zfd (Zaa (pv 3)) Zbd (Zau _)
 exact Zab Zgh Zaf
 refine Zoz ?_ ?_ Zvh
 exact Zao Zfd (Zaa (pv 3)) Zbd (Zau _)
 refine Zim ?_
 refine Zho (k := 1) ?_ ?_ ?_ ?_ ?_
 exact RI_NoText
 exact hE
 rfl
 exact hr.mono (by decide)
 exact Zg3 Zae Zad
 refine Zf4 ?_ ?_
 refine Zak (i := 4) ?_ ?_ ?_ ?_
 exact Zap.nd
 rfl
 first | exact Or.inl rfl | exact Or.inr rfl
 exact Za1 Zad
 refine Zs6 ?_ ?_ ?_
 refine Zcw PassesOwn.never ?_ ?_ ?_ ?_
 rfl
 refine Zgf ?_ T.n_enumerate ?_
 rfl
 refine Zag ?_ ?_ ?_
 refine Za5 (Zaa (pv 2)) ?_ Zax
 exact Zay Zae
 exact Zad
 rfl
 refine Zi6 ?_ ?_
 rfl
 refine Zc7 ?_ ?_
 refine Zbh (i := 5) ?_ ?_ ?_
 exact Zap.nd
 rfl
 first | exact Or.inl rfl | exact Or.inr rfl
 refine Zc7 ?_ Zgy
 refine Zbh (i := 6) ?_ ?_ ?_
 exact Zap.nd
 rfl
 first | exact Or.inl rfl | exact Or.inr rfl
 refine Zab ?_ ?_
 refine Zak (i := 7) ?_ ?_ ?_ ?_
 exact Zap.nd
 rfl
 first | exact Or.inl rfl | exact Or.inr rfl
 refine Za8 F_read_row (hr.mono (by decide)) ?_ ?_
 rfl
 refine Zag ?_ ?_ ?_
 refine Zaq Za7 ?_ T.n_len Zci ?_
 rfl
 refine Zag ?_ ?_ ?_
 exact (Zaa (pv 3))
 exact Zad
 rfl
 refine Zag ?_ ?_ ?_
 refine Zc9 PySem.F.slot_str_split PySem.F.type_str_split Zbt (Zaa (pv 6)) ?_
 refine Zag ?_ ?_ ?_
 exact Zai
 exact Zad
 rfl
 exact Zad
 rfl
 rfl
 refine Zab ?_ ?_
 refine Za6 ?_ ?_ Zaf
 refine PWf.pt ?_
 refine Zc5 ?_ ?_
 exact Zao Zfd (Zaa (pv 7)) Zbd (Zau _)
 refine Zcx ?_
 refine Zao Zd6 (Zaa (pv 5)) ?_ (Zau _)
 refine Zgi ?_ T.c_MOST_ROWS
 rfl
 exact Zab Zgh Zaf
 refine Zab ?_ Zaf
 refine Zcm ?_
 refine Ze9 PySem.F.slot_list_append PySem.F.type_list_append Zbw (Zaa (pv 4)) ?_
 refine Zag ?_ ?_ ?_
 exact (Zaa (pv 7))
 exact Zad
 rfl
 refine Zt0 ?_ ?_ ?_ ?_ ?_ ?_
 exact po_cx
 rfl
 refine Zgf ?_ T.n_enumerate ?_
 rfl
 refine Zag ?_ ?_ ?_
 refine Za5 (Zaa (pv 2)) ?_ Zax
 exact Zay Zae
 exact Zad
 rfl
 refine Zi6 ?_ ?_
 rfl
 refine Zc7 ?_ ?_
 refine Zbh (i := 5) ?_ ?_ ?_
 exact Zap.nd
 rfl
 first | exact Or.inl rfl | exact Or.inr rfl
 refine Zc7 ?_ Zgy
 refine Zbh (i := 6) ?_ ?_ ?_
 exact Zap.nd
 rfl
 first | exact Or.inl rfl | exact Or.inr rfl
 refine Zab ?_ ?_
 refine Zak (i := 7) ?_ ?_ ?_ ?_
 exact Zap.nd
 rfl
 first | exact Or.inl rfl | exact Or.inr rfl
 refine Za8 F_read_row (hr.mono (by decide)) ?_ ?_
 rfl
 refine Zag ?_ ?_ ?_
 refine Zaq Za7 ?_ T.n_len Zci ?_
 rfl
 refine Zag ?_ ?_ ?_
 exact (Zaa (pv 3))
 exact Zad
 rfl
 refine Zag ?_ ?_ ?_
 refine Zc9 PySem.F.slot_str_split PySem.F.type_str_split Zbt (Zaa (pv 6)) ?_
 refine Zag ?_ ?_ ?_
 exact Zai
 exact Zad
 rfl
 exact Zad
 rfl
 rfl
 refine Zab ?_ ?_
 refine Za6 ?_ ?_ Zaf
 refine PWf.pt ?_
 refine Zc5 ?_ ?_
 exact Zao Zfd (Zaa (pv 7)) Zbd (Zau _)
 refine Zcx ?_
 refine Zao Zd6 (Zaa (pv 5)) ?_ (Zau _)
 refine Zgi ?_ T.c_MOST_ROWS
 rfl
 exact Zab Zgh Zaf
 refine Zab ?_ Zaf
 refine Zcm ?_
 refine Ze9 PySem.F.slot_list_append PySem.F.type_list_append Zbw (Zaa (pv 4)) ?_
 refine Zag ?_ ?_ ?_
 exact (Zaa (pv 7))
 exact Zad
 rfl
 refine Zf4 ?_ ?_
 refine Zak (i := 7) ?_ ?_ ?_ ?_
 exact Zap.nd
 rfl
 first | exact Or.inl rfl | exact Or.inr rfl
 refine Za8 F_read_row (hr.mono (by decide)) ?_ ?_
 rfl
 refine Zag ?_ ?_ ?_
 refine Zaq Za7 ?_ T.n_len Zci ?_
 rfl
 refine Zag ?_ ?_ ?_
 exact (Zaa (pv 3))
 exact Zad
 rfl
 refine Zag ?_ ?_ ?_
 refine Zc9 PySem.F.slot_str_split PySem.F.type_str_split Zbt (Zaa (pv 6)) ?_
 refine Zag ?_ ?_ ?_
 exact Zai
 exact Zad
 rfl
 exact Zad
 rfl
 rfl
 refine Zim ?_
 refine Zoz ?_ ?_ Zvh
 refine PWf.pt ?_
 refine Zc5 ?_ ?_
 exact Zao Zfd (Zaa (pv 7)) Zbd (Zau _)
 refine Zcx ?_
 refine Zao Zd6 (Zaa (pv 5)) ?_ (Zau _)
 refine Zgi ?_ T.c_MOST_ROWS
 rfl
 refine Zim ?_
 refine Zho (k := 1) ?_ ?_ ?_ ?_ ?_
 exact RI_NoText
 exact hE
 rfl
 exact hr.mono (by decide)
 exact Zg3 (Zaa (pv 5)) Zad
 refine Zim ?_
 refine Zoz ?_ ?_ Zvh
 refine Zao (Zgn hr.units) ?_ Zai (Zau _)
 refine Zat ixf (Zaa (pv 1)) ?_ (fun _ _ => rfl)
 exact Zdy Zc0 Zae
 refine Zim ?_
 refine Zho (k := 1) ?_ ?_ ?_ ?_ ?_
 exact RI_NoText
 exact hE
 rfl
 exact hr.mono (by decide)
 refine Zg3 ?_ Zad
 refine Zaq Za7 ?_ T.n_len Zci ?_
 rfl
 refine Zag ?_ ?_ ?_
 exact (Zaa (pv 2))
 exact Zad
 rfl
theorem Znd (T : Top K mg) : Fn P w K mg base 1 "_law_mix" ["cell", "k"] Zf6 := by
 refine (fun h => h : _ → Fn P w K mg base 1 "_law_mix" ["cell", "k"] (Zcr 2 4 Zew)) (Zdg (N := ["cell", "k", "prime", "one"]) (k := 0) T.t_law_mix Zeb (fun _ _ _ _ _ _ us hl => by obtain ⟨_, _, rfl⟩ := us2 hl; rfl) ?_)
 intro f cdv A outer s H E hr
 unfold Zew
 refine Zab ?_ ?_
 refine Zak (i := 2) ?_ ?_ ?_ ?_
 exact Zeb.nd
 rfl
 first | exact Or.inl rfl | exact Or.inr rfl
 refine Zat ixf ?_ ?_ (fun _ _ => rfl)
 refine Za1 ?_
 refine Zag ?_ ?_ ?_
 exact Zae
 refine Zag ?_ ?_ ?_
 exact Zae
 refine Zag ?_ ?_ ?_
 exact Zae
 refine Zag ?_ ?_ ?_
 exact Zae
 refine Zag ?_ ?_ ?_
 exact Zae
 refine Zag ?_ ?_ ?_
 exact Zae
 refine Zag ?_ ?_ ?_
 exact Zae
 exact Zad
 rfl
 rfl
 rfl
 rfl
 rfl
 rfl
 rfl
 exact Zaj Za0 (Zaa (pv 1)) Zae
 refine Zab ?_ ?_
 refine Zak (i := 3) ?_ ?_ ?_ ?_
 exact Zeb.nd
 rfl
 first | exact Or.inl rfl | exact Or.inr rfl
 refine Zaj Za0 ?_ (Zaa (pv 2))
 refine Zaj Zel ?_ ?_
 refine Zaj Zar ?_ ?_
 exact Zaj Za0 (Zaa (pv 0)) Zae
 refine Zaj Zel Zae ?_
 exact Zaj Zar (Zaa (pv 1)) Zae
 refine Zaj Zar ?_ Zae
 refine Zaj Zar ?_ ?_
 exact Zaj Zel (Zaa (pv 1)) (Zaa (pv 1))
 exact Zaj Zel Zae (Zaa (pv 1))
 refine Zab ?_ ?_
 refine Zak (i := 3) ?_ ?_ ?_ ?_
 exact Zeb.nd
 rfl
 first | exact Or.inl rfl | exact Or.inr rfl
 refine Zaj Za0 ?_ Zae
 exact Zaj Zku (Zaa (pv 3)) Zae
 refine Zab ?_ ?_
 refine Zak (i := 3) ?_ ?_ ?_ ?_
 exact Zeb.nd
 rfl
 first | exact Or.inl rfl | exact Or.inr rfl
 refine Zaj Za0 ?_ (Zaa (pv 2))
 refine Zaj Zar ?_ Zae
 refine Zaj Zar ?_ ?_
 exact Zaj Zel (Zaa (pv 3)) Zae
 exact Zaj Zel Zae (Zaa (pv 1))
 refine Zab ?_ Zaf
 refine Zas ?_
 refine Zaj Zg1 ?_ Zae
 refine Zaj Za0 ?_ Zae
 exact Zaj Zku (Zaa (pv 3)) Zae
theorem Zi8 (T : Top K mg) (F_law_mix : Fn P w K mg base 1 "_law_mix" ["cell", "k"] Zf6) : Fn P w K mg base 2 "_law_digits" ["cell", "many"] Zbi := by
 refine (fun h => h : _ → Fn P w K mg base 2 "_law_digits" ["cell", "many"] (Zcr 2 6 Zc4)) (Zdg (N := ["cell", "many", "found", "left_over", "wide", "k"]) (k := 1) T.t_law_digits Zb4 (fun _ _ _ _ _ _ us hl => by obtain ⟨_, _, rfl⟩ := us2 hl; rfl) ?_)
 intro f cdv A outer s H E hr
 unfold Zc4
 refine Zab ?_ ?_
 refine Zak (i := 2) ?_ ?_ ?_ ?_
 exact Zb4.nd
 rfl
 first | exact Or.inl rfl | exact Or.inr rfl
 exact Za1 Zad
 refine Zab ?_ ?_
 refine Zak (i := 3) ?_ ?_ ?_ ?_
 exact Zb4.nd
 rfl
 first | exact Or.inl rfl | exact Or.inr rfl
 refine Zaq Zeu ?_ T.n_abs Zj6 ?_
 rfl
 refine Zag ?_ ?_ ?_
 exact (Zaa (pv 0))
 exact Zad
 rfl
 refine Zab ?_ ?_
 refine Zak (i := 4) ?_ ?_ ?_ ?_
 exact Zb4.nd
 rfl
 first | exact Or.inl rfl | exact Or.inr rfl
 refine Zev Zyc (Zaa (pv 3)) ?_ (Zau _)
 exact Zaj Zku Zae Zae
 refine Zab ?_ ?_
 refine Zcw PassesOwn.never ?_ ?_ ?_ ?_
 rfl
 refine Ze2 ?_ T.n_range ?_
 rfl
 refine Zag ?_ ?_ ?_
 exact (Zaa (pv 1))
 exact Zad
 rfl
 refine Zbh (i := 5) ?_ ?_ ?_
 exact Zb4.nd
 rfl
 first | exact Or.inl rfl | exact Or.inr rfl
 refine Zab ?_ Zaf
 refine Za6 ?_ ?_ ?_
 refine PWf.pt ?_
 refine Zjf ?_ ?_
 exact Za9 (Zaa (pv 4)) (fun _ => rfl)
 refine Zg9 ?_
 exact Zao Zd6 (Zaa (pv 3)) Zae (Zau _)
 refine Zab ?_ ?_
 refine Zcm ?_
 refine Ze9 PySem.F.slot_list_append PySem.F.type_list_append Zbw (Zaa (pv 2)) ?_
 refine Zag ?_ ?_ ?_
 exact Zaj Za0 (Zaa (pv 3)) Zae
 exact Zad
 rfl
 refine Zab ?_ Zaf
 refine Zak (i := 3) ?_ ?_ ?_ ?_
 exact Zb4.nd
 rfl
 first | exact Or.inl rfl | exact Or.inr rfl
 exact Zaj Zg1 (Zaa (pv 3)) Zae
 refine Zab ?_ Zaf
 refine Zcm ?_
 refine Ze9 PySem.F.slot_list_append PySem.F.type_list_append Zbw (Zaa (pv 2)) ?_
 refine Zag ?_ ?_ ?_
 refine Za8 F_law_mix (hr.mono (by decide)) ?_ ?_
 rfl
 refine Zag ?_ ?_ ?_
 exact (Zaa (pv 0))
 refine Zag ?_ ?_ ?_
 exact (Zaa (pv 5))
 exact Zad
 rfl
 rfl
 exact Zad
 rfl
 refine Zab ?_ Zaf
 exact Zas (Zaa (pv 2))
theorem Znp (T : Top K mg) : Fn P w K mg base 1 "_law_at" ["script", "k"] Ze5 := by
 refine (fun h => h : _ → Fn P w K mg base 1 "_law_at" ["script", "k"] (Zcr 2 2 Zf5)) (Zdg (N := ["script", "k"]) (k := 0) T.t_law_at Znx (fun _ _ _ _ _ _ us hl => by obtain ⟨_, _, rfl⟩ := us2 hl; rfl) ?_)
 intro f cdv A outer s H E hr
 unfold Zf5
 refine Zab ?_ ?_
 refine Za6 ?_ ?_ Zaf
 refine Zao Zql (Zaa (pv 1)) ?_ (Zau _)
 refine Zaq Za7 ?_ T.n_len Zci ?_
 rfl
 refine Zag ?_ ?_ ?_
 exact (Zaa (pv 0))
 exact Zad
 rfl
 refine Zab ?_ Zaf
 refine Zas ?_
 exact Zat ixf (Zaa (pv 0)) (Zaa (pv 1)) (fun _ _ => rfl)
 refine Zab ?_ Zaf
 refine Zas ?_
 refine Zaj Zar ?_ ?_
 refine Zaj Zar ?_ Zae
 exact Zaj Zel Zae (Zaa (pv 1))
 refine Zaq Za7 ?_ T.n_len Zci ?_
 rfl
 refine Zag ?_ ?_ ?_
 exact (Zaa (pv 0))
 exact Zad
 rfl
theorem Zkc (T : Top K mg) : Fn P w K mg base 1 "_law_kinds" ["some", "many"] Zee := by
 refine (fun h => h : _ → Fn P w K mg base 1 "_law_kinds" ["some", "many"] (Zcr 2 5 Zdp)) (Zdg (N := ["some", "many", "found", "k", "kind"]) (k := 0) T.t_law_kinds Zck (fun _ _ _ _ _ _ us hl => by obtain ⟨_, _, rfl⟩ := us2 hl; rfl) ?_)
 intro f cdv A outer s H E hr
 unfold Zdp
 refine Zab ?_ ?_
 refine Zak (i := 2) ?_ ?_ ?_ ?_
 exact Zck.nd
 rfl
 first | exact Or.inl rfl | exact Or.inr rfl
 exact Za1 Zad
 refine Zab ?_ ?_
 refine Zcw PassesOwn.never ?_ ?_ ?_ ?_
 rfl
 refine Ze2 ?_ T.n_range ?_
 rfl
 refine Zag ?_ ?_ ?_
 exact (Zaa (pv 1))
 exact Zad
 rfl
 refine Zbh (i := 3) ?_ ?_ ?_
 exact Zck.nd
 rfl
 first | exact Or.inl rfl | exact Or.inr rfl
 refine Zab ?_ ?_
 refine Zak (i := 4) ?_ ?_ ?_ ?_
 exact Zck.nd
 rfl
 first | exact Or.inl rfl | exact Or.inr rfl
 refine Zat ixf ?_ ?_ (fun _ _ => rfl)
 refine Za1 ?_
 refine Zag ?_ ?_ ?_
 exact Zai
 refine Zag ?_ ?_ ?_
 exact Zai
 exact Zad
 rfl
 rfl
 refine Zaj Za0 ?_ Zae
 refine Zat ixf (Zaa (pv 0)) ?_ (fun _ _ => rfl)
 exact Zaj Zar Zae (Zaa (pv 3))
 refine Zab ?_ ?_
 refine Za6 ?_ ?_ Zaf
 refine Zao (Zb7 hr.units) ?_ Zae (Zau _)
 refine Zaj Za0 ?_ Zae
 exact Zat ixf (Zaa (pv 0)) Zae (fun _ _ => rfl)
 refine Zab ?_ Zaf
 refine Zak (i := 4) ?_ ?_ ?_ ?_
 exact Zck.nd
 rfl
 first | exact Or.inl rfl | exact Or.inr rfl
 refine Zat ixf ?_ ?_ (fun _ _ => rfl)
 refine Za1 ?_
 refine Zag ?_ ?_ ?_
 exact Zai
 refine Zag ?_ ?_ ?_
 exact Zai
 exact Zad
 rfl
 rfl
 refine Zaj Za0 ?_ Zae
 refine Zaj Zar (Zaa (pv 3)) ?_
 exact Zat ixf (Zaa (pv 0)) Zae (fun _ _ => rfl)
 refine Zab ?_ ?_
 refine Za6 ?_ ?_ Zaf
 refine Zao (Zb7 hr.units) ?_ Zae (Zau _)
 refine Zaj Za0 ?_ Zae
 exact Zat ixf (Zaa (pv 0)) Zae (fun _ _ => rfl)
 refine Zab ?_ Zaf
 refine Zak (i := 4) ?_ ?_ ?_ ?_
 exact Zck.nd
 rfl
 first | exact Or.inl rfl | exact Or.inr rfl
 refine Zat ixf ?_ ?_ (fun _ _ => rfl)
 refine Za1 ?_
 refine Zag ?_ ?_ ?_
 exact Zai
 refine Zag ?_ ?_ ?_
 exact Zai
 exact Zad
 rfl
 rfl
 refine Za4 Zft ?_ T.n_int Zfz ?_
 rfl
 refine Zag ?_ ?_ ?_
 refine Zev Zd6 ?_ Zae (Zau _)
 refine Zaj Za0 ?_ Zae
 refine Zat ixf (Zaa (pv 0)) ?_ (fun _ _ => rfl)
 exact Zaj Zar Zae (Zaa (pv 3))
 exact Zad
 rfl
 refine Zab ?_ Zaf
 refine Zcm ?_
 refine Ze9 PySem.F.slot_list_append PySem.F.type_list_append Zbw (Zaa (pv 2)) ?_
 refine Zag ?_ ?_ ?_
 exact (Zaa (pv 4))
 exact Zad
 rfl
 refine Zab ?_ Zaf
 refine Zas ?_
 refine Za4 Zbs ?_ T.n_tuple Zcq ?_
 rfl
 refine Zag ?_ ?_ ?_
 exact (Zaa (pv 2))
 exact Zad
 rfl
theorem Zm9 (T : Top K mg) (F_law_digits : Fn P w K mg base 2 "_law_digits" ["cell", "many"] Zbi) : Fn P w K mg base 3 "_law_row" ["cell", "many", "wide"] Zec := by
 refine (fun h => h : _ → Fn P w K mg base 3 "_law_row" ["cell", "many", "wide"] (Zcr 3 6 Zdk)) (Zdg (N := ["cell", "many", "wide", "some", "found", "k"]) (k := 2) T.t_law_row Ze0 (fun _ _ _ _ _ _ us hl => by obtain ⟨_, _, _, rfl⟩ := us3 hl; rfl) ?_)
 intro f cdv A outer s H E hr
 unfold Zdk
 refine Zab ?_ ?_
 refine Zak (i := 3) ?_ ?_ ?_ ?_
 exact Ze0.nd
 rfl
 first | exact Or.inl rfl | exact Or.inr rfl
 refine Za8 F_law_digits (hr.mono (by decide)) ?_ ?_
 rfl
 refine Zag ?_ ?_ ?_
 exact (Zaa (pv 0))
 refine Zag ?_ ?_ ?_
 exact Zaj Zar (Zaa (pv 1)) Zae
 exact Zad
 rfl
 rfl
 refine Zab ?_ ?_
 refine Zak (i := 4) ?_ ?_ ?_ ?_
 exact Ze0.nd
 rfl
 first | exact Or.inl rfl | exact Or.inr rfl
 exact Za1 Zad
 refine Zab ?_ ?_
 refine Zcw PassesOwn.never ?_ ?_ ?_ ?_
 rfl
 refine Ze2 ?_ T.n_range ?_
 rfl
 refine Zag ?_ ?_ ?_
 exact (Zaa (pv 1))
 exact Zad
 rfl
 refine Zbh (i := 5) ?_ ?_ ?_
 exact Ze0.nd
 rfl
 first | exact Or.inl rfl | exact Or.inr rfl
 refine Zab ?_ Zaf
 refine Za6 ?_ ?_ Zaf
 refine Zao Zql ?_ ?_ (Zau _)
 refine Zaj Za0 ?_ ?_
 refine Zat ixf (Zaa (pv 3)) ?_ (fun _ _ => rfl)
 exact Zaj Zar Zae (Zaa (pv 5))
 exact Zaj Zar (Zaa (pv 1)) Zae
 refine Zaj Zar (Zaa (pv 2)) ?_
 refine Zaj Za0 ?_ Zae
 exact Zat ixf (Zaa (pv 3)) Zae (fun _ _ => rfl)
 refine Zab ?_ Zaf
 refine Zcm ?_
 refine Ze9 PySem.F.slot_list_append PySem.F.type_list_append Zbw (Zaa (pv 4)) ?_
 refine Zag ?_ ?_ ?_
 refine Zat ixf ?_ ?_ (fun _ _ => rfl)
 refine Za1 ?_
 refine Zag ?_ ?_ ?_
 exact Zaj Zar (Zaa (pv 5)) Zae
 refine Zag ?_ ?_ ?_
 refine Zaj Zhs ?_ Zae
 exact Zaj Zhs Zae (Zaa (pv 5))
 exact Zad
 rfl
 rfl
 refine Zaj Za0 ?_ Zae
 refine Zaj Zg1 ?_ ?_
 refine Zat ixf (Zaa (pv 3)) ?_ (fun _ _ => rfl)
 exact Zaj Zar Zae (Zaa (pv 5))
 exact Zaj Zar (Zaa (pv 1)) Zae
 exact Zad
 rfl
 refine Zab ?_ Zaf
 refine Zas ?_
 refine Za4 Zbs ?_ T.n_tuple Zcq ?_
 rfl
 refine Zag ?_ ?_ ?_
 exact (Zaa (pv 4))
 exact Zad
 rfl
theorem Zjw (T : Top K mg) (F_law_row : Fn P w K mg base 3 "_law_row" ["cell", "many", "wide"] Zec) (F_law_at : Fn P w K mg base 1 "_law_at" ["script", "k"] Ze5) (F_law_kinds : Fn P w K mg base 1 "_law_kinds" ["some", "many"] Zee) (F_law_digits : Fn P w K mg base 2 "_law_digits" ["cell", "many"] Zbi) : Fn P w K mg base 4 "_law_claim" ["script", "most"] Zdm := by
 refine (fun h => h : _ → Fn P w K mg base 4 "_law_claim" ["script", "most"] (Zcr 2 7 Zcd)) (Zdg (N := ["script", "most", "some", "many", "kinds", "size", "rows"]) (k := 3) T.t_law_claim Zb2 (fun _ _ _ _ _ _ us hl => by obtain ⟨_, _, rfl⟩ := us2 hl; rfl) ?_)
 intro f cdv A outer s H E hr
 unfold Zcd
 refine Zab ?_ ?_
 refine Zak (i := 2) ?_ ?_ ?_ ?_
 exact Zb2.nd
 rfl
 first | exact Or.inl rfl | exact Or.inr rfl
 refine Za8 F_law_digits (hr.mono (by decide)) ?_ ?_
 rfl
 refine Zag ?_ ?_ ?_
 refine Za8 F_law_at (hr.mono (by decide)) ?_ ?_
 rfl
 refine Zag ?_ ?_ ?_
 exact (Zaa (pv 0))
 refine Zag ?_ ?_ ?_
 exact Zae
 exact Zad
 rfl
 rfl
 refine Zag ?_ ?_ ?_
 exact Zae
 exact Zad
 rfl
 rfl
 refine Zab ?_ ?_
 refine Zak (i := 3) ?_ ?_ ?_ ?_
 exact Zb2.nd
 rfl
 first | exact Or.inl rfl | exact Or.inr rfl
 refine Zat ixf ?_ ?_ (fun _ _ => rfl)
 refine Za1 ?_
 refine Zag ?_ ?_ ?_
 refine Zaj Za0 ?_ ?_
 exact Zat ixf (Zaa (pv 2)) Zae (fun _ _ => rfl)
 exact Zaj Zar (Zaa (pv 1)) Zae
 refine Zag ?_ ?_ ?_
 refine Zaj Zhs (Zaa (pv 1)) ?_
 refine Zaj Za0 ?_ Zae
 exact Zat ixf (Zaa (pv 2)) Zae (fun _ _ => rfl)
 refine Zag ?_ ?_ ?_
 exact (Zaa (pv 1))
 exact Zad
 rfl
 rfl
 rfl
 refine Zaj Za0 ?_ Zae
 exact Zat ixf (Zaa (pv 2)) Zae (fun _ _ => rfl)
 refine Zab ?_ ?_
 refine Zak (i := 4) ?_ ?_ ?_ ?_
 exact Zb2.nd
 rfl
 first | exact Or.inl rfl | exact Or.inr rfl
 refine Za8 F_law_kinds (hr.mono (by decide)) ?_ ?_
 rfl
 refine Zag ?_ ?_ ?_
 refine Za5 (Zaa (pv 2)) ?_ Zax
 exact Zay Zae
 refine Zag ?_ ?_ ?_
 refine Zaq (Zqn (by rfl)) ?_ T.n_max Zxa ?_
 rfl
 refine Zag ?_ ?_ ?_
 exact Zae
 refine Zag ?_ ?_ ?_
 exact (Zaa (pv 3))
 exact Zad
 rfl
 rfl
 exact Zad
 rfl
 rfl
 refine Zab ?_ ?_
 refine Zak (i := 5) ?_ ?_ ?_ ?_
 exact Zb2.nd
 rfl
 first | exact Or.inl rfl | exact Or.inr rfl
 refine Zat ixf ?_ ?_ (fun _ _ => rfl)
 refine Za1 ?_
 refine Zag ?_ ?_ ?_
 refine Zaj Za0 ?_ Zae
 exact Zat ixf (Zaa (pv 2)) Zae (fun _ _ => rfl)
 refine Zag ?_ ?_ ?_
 refine Zaj Za0 ?_ Zae
 exact Zat ixf (Zaa (pv 2)) Zae (fun _ _ => rfl)
 refine Zag ?_ ?_ ?_
 refine Zaj Zar Zae ?_
 refine Zaj Za0 ?_ Zae
 exact Zat ixf (Zaa (pv 2)) Zae (fun _ _ => rfl)
 exact Zad
 rfl
 rfl
 rfl
 refine Zaj Za0 ?_ Zae
 exact Zat ixf (Zaa (pv 2)) Zae (fun _ _ => rfl)
 refine Zab ?_ ?_
 refine Zj9 (i := 6) (cn := ["script", "kinds"]) ?_ (Zij (x := "k") (cn := ["script", "kinds"]) (ci := [0, 4]) (by decide +kernel)) ?_ ?_ ?_ ?_ ?_ ?_
 rfl
 refine Ze2 ?_ T.n_range ?_
 rfl
 refine Zag ?_ ?_ ?_
 exact (Zaa (pv 5))
 exact Zad
 rfl
 intro _ _ _ _ _ _
 exact Zgu
 intro _ _ _ _ _ _
 refine Za8 F_law_row (hr.mono (by decide)) ?_ ?_
 rfl
 refine Zag ?_ ?_ ?_
 refine Za8 F_law_at (hr.mono (by decide)) ?_ ?_
 rfl
 refine Zag ?_ ?_ ?_
 exact (Zaa (pv 1))
 refine Zag ?_ ?_ ?_
 exact Zaj Zar Zae (Zaa (pv 0))
 exact Zad
 rfl
 rfl
 refine Zag ?_ ?_ ?_
 refine Zaq Za7 ?_ T.n_len Zci ?_
 rfl
 refine Zag ?_ ?_ ?_
 exact (Zaa (pv 2))
 exact Zad
 rfl
 refine Zag ?_ ?_ ?_
 exact Zae
 exact Zad
 rfl
 rfl
 rfl
 exact Zb2.nd
 rfl
 rfl
 refine Zab ?_ ?_
 refine Za6 ?_ ?_ Zaf
 refine Zao Zd6 ?_ Zae (Zau _)
 refine Zaj Za0 ?_ Zae
 exact Zat ixf (Zaa (pv 2)) Zae (fun _ _ => rfl)
 refine Zab ?_ Zaf
 refine Zj9 (i := 6) (cn := []) ?_ (Zij (x := "row") (cn := []) (ci := []) (by decide +kernel)) ?_ ?_ ?_ ?_ ?_ ?_
 rfl
 exact Zdv (Zaa (pv 6))
 intro _ _ _ _ _ _
 refine Zlv ?_
 refine Zao (Zgn hr.units) (Zaa (pv 0)) ?_ (Zau _)
 exact Zcf Zad
 intro _ _ _ _ _ _
 exact (Zaa (pv 0))
 exact Zb2.nd
 rfl
 rfl
 refine Zab ?_ Zaf
 refine Zas ?_
 refine Zcf ?_
 refine Zag ?_ ?_ ?_
 exact (Zaa (pv 4))
 refine Zag ?_ ?_ ?_
 refine Za4 Zbs ?_ T.n_tuple Zcq ?_
 rfl
 refine Zag ?_ ?_ ?_
 exact (Zaa (pv 6))
 exact Zad
 rfl
 exact Zad
 rfl
 rfl
theorem Zle (T : Top K mg) : Fn P w K mg base 1 "_law_text" ["claim"] Ze6 := by
 refine (fun h => h : _ → Fn P w K mg base 1 "_law_text" ["claim"] (Zcr 1 5 Zd7)) (Zdg (N := ["claim", "found", "row", "words", "literal"]) (k := 0) T.t_law_text Zb0 (fun _ _ _ _ _ _ us hl => by obtain ⟨_, rfl⟩ := us1 hl; rfl) ?_)
 intro f cdv A outer s H E hr
 unfold Zd7
 refine Zab ?_ ?_
 refine Zak (i := 1) ?_ ?_ ?_ ?_
 exact Zb0.nd
 rfl
 first | exact Or.inl rfl | exact Or.inr rfl
 refine Zc9 PySem.F.slot_str_join PySem.F.type_str_join Zha Zai ?_
 refine Zag ?_ ?_ ?_
 exact Zat ixf (Zaa (pv 0)) Zae (fun _ _ => rfl)
 exact Zad
 rfl
 refine Zab ?_ ?_
 refine Za6 ?_ ?_ Zaf
 refine Zao (Zb7 hr.units) ?_ ?_ (Zau _)
 exact Zat ixf (Zaa (pv 0)) Zae (fun _ _ => rfl)
 exact Zcf Zad
 refine Zab ?_ Zaf
 refine Zak (i := 1) ?_ ?_ ?_ Zai
 exact Zb0.nd
 rfl
 first | exact Or.inl rfl | exact Or.inr rfl
 refine Zab ?_ ?_
 refine Zcw PassesOwn.never ?_ ?_ ?_ ?_
 rfl
 refine Zdv ?_
 exact Zat ixf (Zaa (pv 0)) Zae (fun _ _ => rfl)
 refine Zbh (i := 2) ?_ ?_ ?_
 exact Zb0.nd
 rfl
 first | exact Or.inl rfl | exact Or.inr rfl
 refine Zab ?_ ?_
 refine Zak (i := 3) ?_ ?_ ?_ ?_
 exact Zb0.nd
 rfl
 first | exact Or.inl rfl | exact Or.inr rfl
 exact Za1 Zad
 refine Zab ?_ ?_
 refine Zcw PassesOwn.never ?_ ?_ ?_ ?_
 rfl
 exact Zdv (Zaa (pv 2))
 refine Zbh (i := 4) ?_ ?_ ?_
 exact Zb0.nd
 rfl
 first | exact Or.inl rfl | exact Or.inr rfl
 refine Zab ?_ Zaf
 refine Zcm ?_
 refine Ze9 PySem.F.slot_list_append PySem.F.type_list_append Zbw (Zaa (pv 3)) ?_
 refine Zag ?_ ?_ ?_
 refine Zaj Zar ?_ ?_
 refine Zat ixf ?_ ?_ (fun _ _ => rfl)
 refine Za1 ?_
 refine Zag ?_ ?_ ?_
 exact Zai
 refine Zag ?_ ?_ ?_
 exact Zai
 exact Zad
 rfl
 rfl
 refine Za4 Zft ?_ T.n_int Zfz ?_
 rfl
 refine Zag ?_ ?_ ?_
 exact Zev Zd6 (Zaa (pv 4)) Zae (Zau _)
 exact Zad
 rfl
 refine Za4 Zpg ?_ T.n_str Zzn ?_
 rfl
 refine Zag ?_ ?_ ?_
 refine Zaq Zeu ?_ T.n_abs Zj6 ?_
 rfl
 refine Zag ?_ ?_ ?_
 exact (Zaa (pv 4))
 exact Zad
 rfl
 exact Zad
 rfl
 exact Zad
 rfl
 refine Zab ?_ ?_
 refine Za6 ?_ ?_ Zaf
 refine Zao (Zb7 hr.units) (Zaa (pv 2)) ?_ (Zau _)
 exact Zcf Zad
 refine Zab ?_ Zaf
 refine Zak (i := 3) ?_ ?_ ?_ ?_
 exact Zb0.nd
 rfl
 first | exact Or.inl rfl | exact Or.inr rfl
 refine Za1 ?_
 refine Zag ?_ ?_ ?_
 exact Zai
 exact Zad
 rfl
 refine Zab ?_ Zaf
 refine Zak (i := 1) ?_ ?_ ?_ ?_
 exact Zb0.nd
 rfl
 first | exact Or.inl rfl | exact Or.inr rfl
 refine Zaj Zar ?_ ?_
 exact Zaj Zar (Zaa (pv 1)) Zai
 refine Zc9 PySem.F.slot_str_join PySem.F.type_str_join Zha Zai ?_
 refine Zag ?_ ?_ ?_
 exact (Zaa (pv 3))
 exact Zad
 rfl
 refine Zab ?_ Zaf
 refine Zas ?_
 exact Zaj Zar (Zaa (pv 1)) Zai
theorem Zgd (T : Top K mg) : Fn P w K mg base 1 "_law_kinds_read" ["line"] Zcc := by
 refine (fun h => h : _ → Fn P w K mg base 1 "_law_kinds_read" ["line"] (Zcr 1 2 Zbv)) (Zdg (N := ["line", "words"]) (k := 0) T.t_law_kinds_read Zd9 (fun _ _ _ _ _ _ us hl => by obtain ⟨_, rfl⟩ := us1 hl; rfl) ?_)
 intro f cdv A outer s H E hr
 unfold Zbv
 refine Zab ?_ ?_
 refine Za6 ?_ ?_ Zaf
 exact Zao (Zb7 hr.units) (Zaa (pv 0)) Zai (Zau _)
 refine Zab ?_ Zaf
 refine Zas ?_
 exact Zcf Zad
 refine Zab ?_ ?_
 refine Zak (i := 1) ?_ ?_ ?_ ?_
 exact Zd9.nd
 rfl
 first | exact Or.inl rfl | exact Or.inr rfl
 refine Zc9 PySem.F.slot_str_split PySem.F.type_str_split Zbt (Zaa (pv 0)) ?_
 refine Zag ?_ ?_ ?_
 exact Zai
 exact Zad
 rfl
 refine Zab ?_ ?_
 refine Za6 ?_ ?_ Zaf
 refine PWf.pt ?_
 refine Zc5 ?_ ?_
 refine Zao Zd6 ?_ Zae (Zau _)
 refine Zaq Za7 ?_ T.n_len Zci ?_
 rfl
 refine Zag ?_ ?_ ?_
 exact (Zaa (pv 1))
 exact Zad
 rfl
 refine Zcx ?_
 refine Zao (Zgn hr.units) ?_ ?_ (Zau _)
 refine Zmj (cn := []) ?_ (Zij (x := "word") (cn := []) (ci := []) (by decide +kernel)) ?_ ?_ ?_
 rfl
 exact Zdv (Zaa (pv 1))
 intro _ _ _ _ _ _
 refine Zlv ?_
 refine Zao (Zwq hr.units) (Zaa (pv 0)) ?_ ?_
 refine Za1 ?_
 refine Zag ?_ ?_ ?_
 exact Zai
 refine Zag ?_ ?_ ?_
 exact Zai
 exact Zad
 rfl
 rfl
 with_unfolding_all rfl
 intro _ _ _ _ _ _
 exact (Zaa (pv 0))
 exact Za1 Zad
 refine Zab ?_ Zaf
 exact Zas Zbd
 refine Zab ?_ Zaf
 refine Zas ?_
 refine Za4 Zbs ?_ T.n_tuple Zcq ?_
 rfl
 refine Zag ?_ ?_ ?_
 exact (Zaa (pv 1))
 exact Zad
 rfl
theorem Zht (T : Top K mg) : Fn P w K mg base 1 "_law_row_read" ["line", "many"] Zca := by
 refine (fun h => h : _ → Fn P w K mg base 1 "_law_row_read" ["line", "many"] (Zcr 2 7 Zb9)) (Zdg (N := ["line", "many", "found", "last", "word", "head", "figures"]) (k := 0) T.t_law_row_read Zbg (fun _ _ _ _ _ _ us hl => by obtain ⟨_, _, rfl⟩ := us2 hl; rfl) ?_)
 intro f cdv A outer s H E hr
 unfold Zb9
 refine Zab ?_ ?_
 refine Za6 ?_ ?_ Zaf
 exact Zao (Zb7 hr.units) (Zaa (pv 0)) Zai (Zau _)
 refine Zab ?_ Zaf
 refine Zas ?_
 exact Zcf Zad
 refine Zab ?_ ?_
 refine Zak (i := 2) ?_ ?_ ?_ ?_
 exact Zbg.nd
 rfl
 first | exact Or.inl rfl | exact Or.inr rfl
 exact Za1 Zad
 refine Zab ?_ ?_
 refine Zak (i := 3) ?_ ?_ ?_ Zae
 exact Zbg.nd
 rfl
 first | exact Or.inl rfl | exact Or.inr rfl
 refine Zab ?_ ?_
 refine Zcw PassesOwn.never ?_ ?_ ?_ ?_
 rfl
 refine Zdv ?_
 refine Zc9 PySem.F.slot_str_split PySem.F.type_str_split Zbt (Zaa (pv 0)) ?_
 refine Zag ?_ ?_ ?_
 exact Zai
 exact Zad
 rfl
 refine Zbh (i := 4) ?_ ?_ ?_
 exact Zbg.nd
 rfl
 first | exact Or.inl rfl | exact Or.inr rfl
 refine Zab ?_ ?_
 refine Zak (i := 5) ?_ ?_ ?_ ?_
 exact Zbg.nd
 rfl
 first | exact Or.inl rfl | exact Or.inr rfl
 refine Zev (Zb7 hr.units) ?_ Zai (Zau _)
 refine Zbp (Zaa (pv 4)) Zax ?_
 exact Zay Zae
 refine Zab ?_ ?_
 refine Zak (i := 6) ?_ ?_ ?_ ?_
 exact Zbg.nd
 rfl
 first | exact Or.inl rfl | exact Or.inr rfl
 refine Zbp (Zaa (pv 4)) ?_ Zax
 refine Zay ?_
 refine Za4 Zft ?_ T.n_int Zfz ?_
 rfl
 refine Zag ?_ ?_ ?_
 exact (Zaa (pv 5))
 exact Zad
 rfl
 refine Zab ?_ ?_
 refine Za6 ?_ ?_ Zaf
 refine PWf.pt ?_
 refine Zc5 ?_ ?_
 refine Zao (Zgn hr.units) ?_ Zae (Zau _)
 refine Zaq Za7 ?_ T.n_len Zci ?_
 rfl
 refine Zag ?_ ?_ ?_
 exact (Zaa (pv 6))
 exact Zad
 rfl
 refine Zc5 ?_ ?_
 refine Zao snif (Zaa (pv 6)) ?_ ?_
 refine Zbp Zai Zax ?_
 exact Zay (Zaa (pv 1))
 with_unfolding_all rfl
 refine Zcx ?_
 refine Zao Zsu ?_ (Zaa (pv 3)) (Zau _)
 refine Za4 Zga ?_ T.n_int Zfz ?_
 rfl
 refine Zag ?_ ?_ ?_
 exact (Zaa (pv 6))
 exact Zad
 rfl
 refine Zab ?_ Zaf
 exact Zas Zbd
 refine Zab ?_ ?_
 refine Zak (i := 3) ?_ ?_ ?_ ?_
 exact Zbg.nd
 rfl
 first | exact Or.inl rfl | exact Or.inr rfl
 refine Za4 Zga ?_ T.n_int Zfz ?_
 rfl
 refine Zag ?_ ?_ ?_
 exact (Zaa (pv 6))
 exact Zad
 rfl
 refine Zab ?_ Zaf
 refine Zcm ?_
 refine Ze9 PySem.F.slot_list_append PySem.F.type_list_append Zbw (Zaa (pv 2)) ?_
 refine Zag ?_ ?_ ?_
 refine Zat ixf ?_ ?_ (fun _ _ => rfl)
 refine Za1 ?_
 refine Zag ?_ ?_ ?_
 exact (Zaa (pv 3))
 refine Zag ?_ ?_ ?_
 exact Zdy Zc0 (Zaa (pv 3))
 exact Zad
 rfl
 rfl
 refine Za4 Zft ?_ T.n_int Zfz ?_
 rfl
 refine Zag ?_ ?_ ?_
 exact (Zaa (pv 5))
 exact Zad
 rfl
 exact Zad
 rfl
 refine Zab ?_ Zaf
 refine Zas ?_
 refine Za4 Zbs ?_ T.n_tuple Zcq ?_
 rfl
 refine Zag ?_ ?_ ?_
 exact (Zaa (pv 2))
 exact Zad
 rfl
theorem Zla (T : Top K mg) (F_law_row_read : Fn P w K mg base 1 "_law_row_read" ["line", "many"] Zca) (F_law_kinds_read : Fn P w K mg base 1 "_law_kinds_read" ["line"] Zcc) : Fn P w K mg base 2 "_law_read" ["text"] Ze7 := by
 refine (fun h => h : _ → Fn P w K mg base 2 "_law_read" ["text"] (Zcr 1 6 Zdx)) (Zdg (N := ["text", "lines", "kinds", "rows", "k", "row"]) (k := 1) T.t_law_read Zc1 (fun _ _ _ _ _ _ us hl => by obtain ⟨_, rfl⟩ := us1 hl; rfl) ?_)
 intro f cdv A outer s H E hr
 unfold Zdx
 refine Zab ?_ ?_
 refine Zak (i := 1) ?_ ?_ ?_ ?_
 exact Zc1.nd
 rfl
 first | exact Or.inl rfl | exact Or.inr rfl
 refine Zc9 PySem.F.slot_str_split PySem.F.type_str_split Zbt (Zaa (pv 0)) ?_
 refine Zag ?_ ?_ ?_
 exact Zai
 exact Zad
 rfl
 refine Zab ?_ ?_
 refine Zak (i := 2) ?_ ?_ ?_ ?_
 exact Zc1.nd
 rfl
 first | exact Or.inl rfl | exact Or.inr rfl
 refine Za8 F_law_kinds_read (hr.mono (by decide)) ?_ ?_
 rfl
 refine Zag ?_ ?_ ?_
 exact Zat ixf (Zaa (pv 1)) Zae (fun _ _ => rfl)
 exact Zad
 rfl
 refine Zab ?_ ?_
 refine Za6 ?_ ?_ Zaf
 refine PWf.pt ?_
 refine Zc5 ?_ ?_
 exact Zao Zfd (Zaa (pv 2)) Zbd (Zau _)
 refine Zcx ?_
 refine Zao (Zb7 hr.units) ?_ Zae (Zau _)
 refine Zaq Za7 ?_ T.n_len Zci ?_
 rfl
 refine Zag ?_ ?_ ?_
 exact (Zaa (pv 1))
 exact Zad
 rfl
 refine Zab ?_ Zaf
 refine Zas ?_
 refine Zcf ?_
 refine Zag ?_ ?_ ?_
 exact Zae
 refine Zag ?_ ?_ ?_
 exact Zbd
 exact Zad
 rfl
 rfl
 refine Zab ?_ ?_
 refine Zak (i := 3) ?_ ?_ ?_ ?_
 exact Zc1.nd
 rfl
 first | exact Or.inl rfl | exact Or.inr rfl
 exact Za1 Zad
 refine Zab ?_ ?_
 refine Zcw PassesOwn.never ?_ ?_ ?_ ?_
 rfl
 refine Zng ?_ T.n_range ?_
 rfl
 refine Zag ?_ ?_ ?_
 exact Zae
 refine Zag ?_ ?_ ?_
 refine Zaj Zhs ?_ Zae
 refine Zaq Za7 ?_ T.n_len Zci ?_
 rfl
 refine Zag ?_ ?_ ?_
 exact (Zaa (pv 1))
 exact Zad
 rfl
 exact Zad
 rfl
 rfl
 refine Zbh (i := 4) ?_ ?_ ?_
 exact Zc1.nd
 rfl
 first | exact Or.inl rfl | exact Or.inr rfl
 refine Zab ?_ ?_
 refine Zak (i := 5) ?_ ?_ ?_ ?_
 exact Zc1.nd
 rfl
 first | exact Or.inl rfl | exact Or.inr rfl
 refine Za8 F_law_row_read (hr.mono (by decide)) ?_ ?_
 rfl
 refine Zag ?_ ?_ ?_
 exact Zat ixf (Zaa (pv 1)) (Zaa (pv 4)) (fun _ _ => rfl)
 refine Zag ?_ ?_ ?_
 refine Zaq Za7 ?_ T.n_len Zci ?_
 rfl
 refine Zag ?_ ?_ ?_
 exact (Zaa (pv 2))
 exact Zad
 rfl
 exact Zad
 rfl
 rfl
 refine Zab ?_ ?_
 refine Za6 ?_ ?_ Zaf
 refine PWf.pt ?_
 refine Zc5 ?_ ?_
 exact Zao Zfd (Zaa (pv 5)) Zbd (Zau _)
 refine Zcx ?_
 exact Zao Zd6 (Zaa (pv 4)) Zae (Zau _)
 refine Zab ?_ Zaf
 refine Zas ?_
 refine Zcf ?_
 refine Zag ?_ ?_ ?_
 exact (Zaa (pv 4))
 refine Zag ?_ ?_ ?_
 exact Zbd
 exact Zad
 rfl
 rfl
 refine Zab ?_ Zaf
 refine Zcm ?_
 refine Ze9 PySem.F.slot_list_append PySem.F.type_list_append Zbw (Zaa (pv 3)) ?_
 refine Zag ?_ ?_ ?_
 exact (Zaa (pv 5))
 exact Zad
 rfl
 refine Zab ?_ ?_
 refine Za6 ?_ ?_ Zaf
 refine Zao (Zgn hr.units) ?_ Zai (Zau _)
 refine Zat ixf (Zaa (pv 1)) ?_ (fun _ _ => rfl)
 exact Zdy Zc0 Zae
 refine Zab ?_ Zaf
 refine Zas ?_
 refine Zcf ?_
 refine Zag ?_ ?_ ?_
 refine Zaj Zhs ?_ Zae
 refine Zaq Za7 ?_ T.n_len Zci ?_
 rfl
 refine Zag ?_ ?_ ?_
 exact (Zaa (pv 1))
 exact Zad
 rfl
 refine Zag ?_ ?_ ?_
 exact Zbd
 exact Zad
 rfl
 rfl
 refine Zab ?_ Zaf
 refine Zas ?_
 refine Zcf ?_
 refine Zag ?_ ?_ ?_
 exact Zdy Zc0 Zae
 refine Zag ?_ ?_ ?_
 refine Zcf ?_
 refine Zag ?_ ?_ ?_
 exact (Zaa (pv 2))
 refine Zag ?_ ?_ ?_
 refine Za4 Zbs ?_ T.n_tuple Zcq ?_
 rfl
 refine Zag ?_ ?_ ?_
 exact (Zaa (pv 3))
 exact Zad
 rfl
 exact Zad
 rfl
 rfl
 exact Zad
 rfl
 rfl
theorem Zkv (T : Top K mg) (F_read_claim : Fn P w K mg base 4 "read_claim" ["text"] Zbz) (RI_NoText : YRs P w K mg base "NoText" "line" 1) (FY_read_claim : FnY P w K mg base 4 "read_claim" ["text"] "NoText" (some "line") Zch) : Fn P w K mg base 5 "_law_told" ["text"] Ze1 := by
 refine (fun h => h : _ → Fn P w K mg base 5 "_law_told" ["text"] (Zcr 1 3 Zdz)) (Zdg (N := ["text", "told", "e"]) (k := 4) T.t_law_told Zdo (fun _ _ _ _ _ _ us hl => by obtain ⟨_, rfl⟩ := us1 hl; rfl) ?_)
 intro f cdv A outer s H E hr
 unfold Zdz
 obtain ⟨C, cV, hE, hmc, hex⟩ := T.h_NoText_NoText
 refine Zab ?_ ?_
 refine Zak (i := 1) ?_ ?_ ?_ Zbd
 exact Zdo.nd
 rfl
 first | exact Or.inl rfl | exact Or.inr rfl
 refine Zab ?_ ?_
 refine Zqz (k := 4) (iE := 2) (C := C) (cV := cV) (xn := "NoText") (av := some "line") (ps := ["text"]) (d0 := .int (-1)) (c0p := ⟨0, 0, 0, 0⟩) ?_ ?_ ?_ ?_ ?_ ?_ ?_ ?_ ?_ ?_ ?_ ?_
 refine Zrt ?_
 exact Zdy Zc0 Zae
 refine Zab ?_ Zaf
 refine Zak (i := 1) ?_ ?_ ?_ ?_
 exact Zdo.nd
 rfl
 first | exact Or.inl rfl | exact Or.inr rfl
 refine Zcf ?_
 refine Zag ?_ ?_ ?_
 exact Zdy Zc0 Zae
 refine Zag ?_ ?_ ?_
 refine Za8 F_read_claim (hr.mono (by decide)) ?_ ?_
 rfl
 refine Zag ?_ ?_ ?_
 exact (Zaa (pv 0))
 exact Zad
 rfl
 exact Zad
 rfl
 rfl
 exact FY_read_claim
 exact hE
 exact hr.mono (by decide)
 refine Zag ?_ ?_ ?_
 exact (Zaa (pv 0))
 exact Zad
 rfl
 exact hmc
 exact hex
 exact Zdo.nd
 rfl
 rfl
 intro i ex oe c1 c2
 refine Zj0 ?_ Zl9
 refine Zpp (j := 1) ?_ ?_ ?_ ?_ ?_
 exact Zdo.nd
 rfl
 decide
 first | exact Or.inl rfl | exact Or.inr rfl
 refine Zu6 ?_
 refine Zg6 ?_ ?_
 refine Zpy (iE := 2) (C := C) (xn := "NoText") (k := 1) ?_ ?_ ?_ ?_ ?_ ?_ ?_
 exact RI_NoText
 exact hE
 exact c1
 exact c2
 rfl
 rfl
 first | exact Or.inl rfl | exact Or.inr rfl
 refine Zg6 ?_ Zon
 exact Zxe Zbd
 refine Zab ?_ Zaf
 exact Zas (Zaa (pv 1))
theorem Zj5 (T : Top K mg) (F_read_claim : Fn P w K mg base 4 "read_claim" ["text"] Zbz) (RI_NoText : YRs P w K mg base "NoText" "line" 1) (FY_read_claim : FnY P w K mg base 4 "read_claim" ["text"] "NoText" (some "line") Zch) : Fn P w K mg base 5 "_law_plain" ["text"] Zeg := by
 refine (fun h => h : _ → Fn P w K mg base 5 "_law_plain" ["text"] (Zcr 1 3 Zdn)) (Zdg (N := ["text", "kinds", "e"]) (k := 4) T.t_law_plain Zdt (fun _ _ _ _ _ _ us hl => by obtain ⟨_, rfl⟩ := us1 hl; rfl) ?_)
 intro f cdv A outer s H E hr
 unfold Zdn
 obtain ⟨C, cV, hE, hmc, hex⟩ := T.h_NoText_ClaimError
 obtain ⟨i0, i1, i2, i3, i4, i5, i6, hJ, mi0, mi1, mi2, mi3, mi4, mi5, mi6⟩ := T.i_NoText
 refine Zab ?_ ?_
 refine Zak (i := 1) ?_ ?_ ?_ ?_
 exact Zdt.nd
 rfl
 first | exact Or.inl rfl | exact Or.inr rfl
 exact Za1 Zad
 refine Zab ?_ ?_
 refine Zq5 (k := 4) (iE := 2) (C := C) (cV := cV) (xn := "NoText") (av := some "line") (ps := ["text"]) ?_ ?_ ?_ ?_ ?_ ?_ ?_ ?_ ?_ ?_ ?_
 refine Zab ?_ Zaf
 refine Zcm ?_
 refine Za8 F_read_claim (hr.mono (by decide)) ?_ ?_
 rfl
 refine Zag ?_ ?_ ?_
 exact (Zaa (pv 0))
 exact Zad
 rfl
 exact FY_read_claim
 exact hE
 exact hr.mono (by decide)
 refine Zag ?_ ?_ ?_
 exact (Zaa (pv 0))
 exact Zad
 rfl
 exact hmc
 exact hex
 exact Zdt.nd
 rfl
 rfl
 intro i ex oe c1 c2
 refine Zj0 ?_ Zl9
 refine Zpp (j := 1) ?_ ?_ ?_ ?_ ?_
 exact Zdt.nd
 rfl
 decide
 first | exact Or.inl rfl | exact Or.inr rfl
 refine Zvg ?_
 refine Zg6 ?_ ?_
 refine Zqw (f := "line") (cs := [i0, i1, i2, i3, i4, i5, i6]) (iE := 2) (C := C) (xn := "NoText") (k := 1) ?_ ?_ ?_ ?_ ?_ ?_ ?_ ?_
 exact RI_NoText
 exact hE
 exact hJ
 exact c1
 exact T.n_isinstance
 exact T.n_ValueError
 rfl
 first | exact Or.inl rfl | exact Or.inr rfl
 refine Zg6 ?_ Zon
 refine Zp9 (f := "line") (cs := [i0, i1, i2, i3, i4, i5, i6]) (iE := 2) (C := C) (xn := "NoText") (k := 1) ?_ ?_ ?_ ?_ ?_ ?_ ?_ ?_ (Zhc (by rfl) (by exact mi0) (Zhc (by rfl) (by exact mi1) (Zhc (by rfl) (by exact mi2) (Zhc (by rfl) (by exact mi3) (Zhc (by rfl) (by exact mi4) (Zhc (by rfl) (by exact mi5) (Zhc (by rfl) (by exact mi6) Zvu)))))))
 exact RI_NoText
 exact hE
 exact hJ
 exact c1
 exact (by decide : 7 ≤ 1000)
 exact T.n_isinstance
 rfl
 first | exact Or.inl rfl | exact Or.inr rfl
 refine Zab ?_ Zaf
 refine Zas ?_
 refine Zev (Zb7 hr.units) (Zaa (pv 1)) ?_ (Zau _)
 refine Za1 ?_
 refine Zag ?_ ?_ ?_
 exact Zex
 refine Zag ?_ ?_ ?_
 exact Zex
 exact Zad
 rfl
 rfl
theorem Zlg (T : Top K mg) : Fn P w K mg base 1 "_law_bent" ["text", "some"] Zd4 := by
 refine (fun h => h : _ → Fn P w K mg base 1 "_law_bent" ["text", "some"] (Zcr 2 5 Zd3)) (Zdg (N := ["text", "some", "signs", "sign", "at"]) (k := 0) T.t_law_bent Zcz (fun _ _ _ _ _ _ us hl => by obtain ⟨_, _, rfl⟩ := us2 hl; rfl) ?_)
 intro f cdv A outer s H E hr
 unfold Zd3
 refine Zab ?_ ?_
 refine Zak (i := 2) ?_ ?_ ?_ Zai
 exact Zcz.nd
 rfl
 first | exact Or.inl rfl | exact Or.inr rfl
 refine Zab ?_ ?_
 refine Za6 ?_ ?_ Zaf
 refine Zao (Zb7 hr.units) ?_ Zae (Zau _)
 refine Zaj Za0 ?_ Zae
 exact Zat ixf (Zaa (pv 1)) Zae (fun _ _ => rfl)
 refine Zab ?_ ?_
 refine Zak (i := 2) ?_ ?_ ?_ Zai
 exact Zcz.nd
 rfl
 first | exact Or.inl rfl | exact Or.inr rfl
 refine Zab ?_ Zaf
 refine Zak (i := 2) ?_ ?_ ?_ ?_
 exact Zcz.nd
 rfl
 first | exact Or.inl rfl | exact Or.inr rfl
 exact Zaj Zar (Zaa (pv 2)) Zai
 refine Zab ?_ ?_
 refine Zak (i := 3) ?_ ?_ ?_ ?_
 exact Zcz.nd
 rfl
 first | exact Or.inl rfl | exact Or.inr rfl
 refine Zat sixf (Zaa (pv 2)) ?_ (fun _ _ => rfl)
 refine Zaj Za0 ?_ ?_
 exact Zat ixf (Zaa (pv 1)) Zae (fun _ _ => rfl)
 refine Zaq Za7 ?_ T.n_len Zci ?_
 rfl
 refine Zag ?_ ?_ ?_
 exact (Zaa (pv 2))
 exact Zad
 rfl
 refine Zab ?_ ?_
 refine Zak (i := 4) ?_ ?_ ?_ ?_
 exact Zcz.nd
 rfl
 first | exact Or.inl rfl | exact Or.inr rfl
 refine Zaj Za0 ?_ ?_
 exact Zat ixf (Zaa (pv 1)) Zae (fun _ _ => rfl)
 refine Zaj Zar ?_ Zae
 refine Zaq Za7 ?_ T.n_len Zci ?_
 rfl
 refine Zag ?_ ?_ ?_
 exact (Zaa (pv 0))
 exact Zad
 rfl
 refine Zab ?_ ?_
 refine Za6 ?_ ?_ Zaf
 refine Zao (Zb7 hr.units) ?_ Zae (Zau _)
 refine Zaj Za0 ?_ Zae
 exact Zat ixf (Zaa (pv 1)) Zae (fun _ _ => rfl)
 refine Zab ?_ Zaf
 refine Zas ?_
 refine Zaj Zar ?_ ?_
 refine Zaj Zar ?_ (Zaa (pv 3))
 refine Zbp (Zaa (pv 0)) Zax ?_
 exact Zay (Zaa (pv 4))
 refine Zbp (Zaa (pv 0)) ?_ Zax
 exact Zay (Zaa (pv 4))
 refine Zab ?_ ?_
 refine Za6 ?_ ?_ Zaf
 refine Zao (Zb7 hr.units) ?_ Zae (Zau _)
 refine Zaj Za0 ?_ Zae
 exact Zat ixf (Zaa (pv 1)) Zae (fun _ _ => rfl)
 refine Zab ?_ Zaf
 refine Zas ?_
 refine Zaj Zar ?_ ?_
 refine Zbp (Zaa (pv 0)) Zax ?_
 exact Zay (Zaa (pv 4))
 refine Zbp (Zaa (pv 0)) ?_ Zax
 refine Zay ?_
 exact Zaj Zar (Zaa (pv 4)) Zae
 refine Zab ?_ Zaf
 refine Zas ?_
 refine Zaj Zar ?_ ?_
 refine Zaj Zar ?_ (Zaa (pv 3))
 refine Zbp (Zaa (pv 0)) Zax ?_
 exact Zay (Zaa (pv 4))
 refine Zbp (Zaa (pv 0)) ?_ Zax
 refine Zay ?_
 exact Zaj Zar (Zaa (pv 4)) Zae
theorem Zgq (T : Top K mg) : Fn P w K mg base 1 "_law_bent_rows" ["text", "some"] Zbn := by
 refine (fun h => h : _ → Fn P w K mg base 1 "_law_bent_rows" ["text", "some"] (Zcr 2 6 Zb1)) (Zdg (N := ["text", "some", "lines", "at", "bad", "words"]) (k := 0) T.t_law_bent_rows Zaz (fun _ _ _ _ _ _ us hl => by obtain ⟨_, _, rfl⟩ := us2 hl; rfl) ?_)
 intro f cdv A outer s H E hr
 unfold Zb1
 refine Zab ?_ ?_
 refine Zak (i := 2) ?_ ?_ ?_ ?_
 exact Zaz.nd
 rfl
 first | exact Or.inl rfl | exact Or.inr rfl
 refine Zc9 PySem.F.slot_str_split PySem.F.type_str_split Zbt (Zaa (pv 0)) ?_
 refine Zag ?_ ?_ ?_
 exact Zai
 exact Zad
 rfl
 refine Zab ?_ ?_
 refine Zak (i := 3) ?_ ?_ ?_ ?_
 exact Zaz.nd
 rfl
 first | exact Or.inl rfl | exact Or.inr rfl
 refine Zaj Za0 ?_ ?_
 exact Zat ixf (Zaa (pv 1)) Zae (fun _ _ => rfl)
 refine Zaq Za7 ?_ T.n_len Zci ?_
 rfl
 refine Zag ?_ ?_ ?_
 exact (Zaa (pv 2))
 exact Zad
 rfl
 refine Zab ?_ ?_
 refine Zak (i := 4) ?_ ?_ ?_ ?_
 exact Zaz.nd
 rfl
 first | exact Or.inl rfl | exact Or.inr rfl
 refine Za1 ?_
 refine Zag ?_ ?_ ?_
 exact Zai
 refine Zag ?_ ?_ ?_
 exact Zai
 refine Zag ?_ ?_ ?_
 exact Zai
 refine Zag ?_ ?_ ?_
 exact Zai
 refine Zag ?_ ?_ ?_
 exact Zai
 refine Zag ?_ ?_ ?_
 exact Zai
 refine Zag ?_ ?_ ?_
 exact Zai
 refine Zag ?_ ?_ ?_
 exact Zai
 refine Zag ?_ ?_ ?_
 exact Zai
 refine Zag ?_ ?_ ?_
 exact Zai
 exact Zad
 rfl
 rfl
 rfl
 rfl
 rfl
 rfl
 rfl
 rfl
 rfl
 rfl
 refine Zab ?_ ?_
 refine Zak (i := 4) ?_ ?_ ?_ ?_
 exact Zaz.nd
 rfl
 first | exact Or.inl rfl | exact Or.inr rfl
 refine Zaj Zar (Zaa (pv 4)) ?_
 refine Za1 ?_
 refine Zag ?_ ?_ ?_
 exact Zai
 refine Zag ?_ ?_ ?_
 exact Zai
 refine Zag ?_ ?_ ?_
 exact Zai
 refine Zag ?_ ?_ ?_
 exact Zai
 refine Zag ?_ ?_ ?_
 exact Zai
 refine Zag ?_ ?_ ?_
 exact Zai
 refine Zag ?_ ?_ ?_
 exact Zai
 refine Zag ?_ ?_ ?_
 exact Zai
 exact Zad
 rfl
 rfl
 rfl
 rfl
 rfl
 rfl
 rfl
 rfl
 refine Zab ?_ ?_
 refine Za6 ?_ ?_ ?_
 refine Zao (Zb7 hr.units) ?_ Zae (Zau _)
 refine Zaj Za0 ?_ Zae
 exact Zat ixf (Zaa (pv 1)) Zae (fun _ _ => rfl)
 refine Zab ?_ Zaf
 refine Zak (i := 2) ?_ ?_ ?_ ?_
 exact Zaz.nd
 rfl
 first | exact Or.inl rfl | exact Or.inr rfl
 refine Zaj Zar ?_ ?_
 refine Zaj Zar ?_ ?_
 refine Za5 (Zaa (pv 2)) Zax ?_
 exact Zay (Zaa (pv 3))
 refine Za1 ?_
 refine Zag ?_ ?_ ?_
 refine Zat ixf (Zaa (pv 4)) ?_ (fun _ _ => rfl)
 refine Zaj Za0 ?_ Zae
 exact Zat ixf (Zaa (pv 1)) Zae (fun _ _ => rfl)
 exact Zad
 rfl
 refine Za5 (Zaa (pv 2)) ?_ Zax
 exact Zay (Zaa (pv 3))
 refine Zab ?_ Zaf
 refine Za6 ?_ ?_ ?_
 refine Zao (Zb7 hr.units) ?_ Zae (Zau _)
 refine Zaj Za0 ?_ Zae
 exact Zat ixf (Zaa (pv 1)) Zae (fun _ _ => rfl)
 refine Zab ?_ Zaf
 refine Zak (i := 2) ?_ ?_ ?_ ?_
 exact Zaz.nd
 rfl
 first | exact Or.inl rfl | exact Or.inr rfl
 refine Zaj Zar ?_ ?_
 refine Zaj Zar ?_ ?_
 refine Za5 (Zaa (pv 2)) Zax ?_
 exact Zay (Zaa (pv 3))
 refine Za1 ?_
 refine Zag ?_ ?_ ?_
 refine Zat ixf (Zaa (pv 4)) ?_ (fun _ _ => rfl)
 refine Zaj Za0 ?_ Zae
 exact Zat ixf (Zaa (pv 1)) Zae (fun _ _ => rfl)
 exact Zad
 rfl
 refine Za5 (Zaa (pv 2)) ?_ Zax
 refine Zay ?_
 exact Zaj Zar (Zaa (pv 3)) Zae
 refine Zab ?_ Zaf
 refine Za6 ?_ ?_ ?_
 refine Zao (Zb7 hr.units) ?_ Zae (Zau _)
 refine Zaj Za0 ?_ Zae
 exact Zat ixf (Zaa (pv 1)) Zae (fun _ _ => rfl)
 refine Zab ?_ Zaf
 refine Zak (i := 2) ?_ ?_ ?_ ?_
 exact Zaz.nd
 rfl
 first | exact Or.inl rfl | exact Or.inr rfl
 refine Zaj Zar ?_ ?_
 refine Za5 (Zaa (pv 2)) Zax ?_
 refine Zay ?_
 exact Zaj Zar (Zaa (pv 3)) Zae
 refine Za5 (Zaa (pv 2)) ?_ Zax
 exact Zay (Zaa (pv 3))
 refine Zab ?_ Zaf
 refine Za6 ?_ ?_ ?_
 refine Zao (Zb7 hr.units) ?_ Zae (Zau _)
 refine Zaj Za0 ?_ Zae
 exact Zat ixf (Zaa (pv 1)) Zae (fun _ _ => rfl)
 refine Zab ?_ Zaf
 refine Zak (i := 2) ?_ ?_ ?_ ?_
 exact Zaz.nd
 rfl
 first | exact Or.inl rfl | exact Or.inr rfl
 refine Zaj Zar ?_ ?_
 refine Za5 (Zaa (pv 2)) Zax ?_
 exact Zay (Zaa (pv 3))
 refine Za5 (Zaa (pv 2)) ?_ Zax
 refine Zay ?_
 exact Zaj Zar (Zaa (pv 3)) Zae
 refine Zab ?_ Zaf
 refine Za6 ?_ ?_ ?_
 refine Zao (Zb7 hr.units) ?_ Zae (Zau _)
 refine Zaj Za0 ?_ Zae
 exact Zat ixf (Zaa (pv 1)) Zae (fun _ _ => rfl)
 refine Zab ?_ Zaf
 refine Zak (i := 2) ?_ ?_ ?_ ?_
 exact Zaz.nd
 rfl
 first | exact Or.inl rfl | exact Or.inr rfl
 refine Zaj Zar ?_ ?_
 refine Zaj Zar ?_ ?_
 refine Za5 (Zaa (pv 2)) Zax ?_
 refine Zay ?_
 exact Zdy Zc0 Zae
 refine Zaj Zel ?_ ?_
 refine Za1 ?_
 refine Zag ?_ ?_ ?_
 exact Zai
 exact Zad
 rfl
 refine Zaj Za0 ?_ Zae
 exact Zat ixf (Zaa (pv 1)) Zae (fun _ _ => rfl)
 refine Za1 ?_
 refine Zag ?_ ?_ ?_
 refine Zat ixf (Zaa (pv 2)) ?_ (fun _ _ => rfl)
 exact Zdy Zc0 Zae
 exact Zad
 rfl
 refine Zab ?_ ?_
 refine Zak (i := 5) ?_ ?_ ?_ ?_
 exact Zaz.nd
 rfl
 first | exact Or.inl rfl | exact Or.inr rfl
 refine Za1 ?_
 refine Zag ?_ ?_ ?_
 exact Zai
 refine Zag ?_ ?_ ?_
 exact Zai
 refine Zag ?_ ?_ ?_
 exact Zai
 refine Zag ?_ ?_ ?_
 exact Zai
 refine Zag ?_ ?_ ?_
 exact Zai
 refine Zag ?_ ?_ ?_
 exact Zai
 refine Zag ?_ ?_ ?_
 refine Zc9 PySem.F.slot_str_join PySem.F.type_str_join Zha Zai ?_
 refine Zag ?_ ?_ ?_
 refine Zaj Zel ?_ Zae
 refine Za1 ?_
 refine Zag ?_ ?_ ?_
 exact Zai
 exact Zad
 rfl
 exact Zad
 rfl
 refine Zag ?_ ?_ ?_
 exact Zai
 refine Zag ?_ ?_ ?_
 exact Zai
 exact Zad
 rfl
 rfl
 rfl
 rfl
 rfl
 rfl
 rfl
 rfl
 rfl
 refine Zab ?_ Zaf
 refine Zuf ?_ ?_
 refine Zat ixf (Zaa (pv 5)) ?_ (fun _ _ => rfl)
 refine Zaj Za0 ?_ Zae
 exact Zat ixf (Zaa (pv 1)) Zae (fun _ _ => rfl)
 exact Zvt (Zaa (pv 2)) Zae setf
 refine Zab ?_ Zaf
 refine Zas ?_
 refine Zc9 PySem.F.slot_str_join PySem.F.type_str_join Zha Zai ?_
 refine Zag ?_ ?_ ?_
 exact (Zaa (pv 2))
 exact Zad
 rfl
theorem Zkr (T : Top K mg) (F_law_plain : Fn P w K mg base 5 "_law_plain" ["text"] Zeg) (F_law_told : Fn P w K mg base 5 "_law_told" ["text"] Ze1) (F_law_read : Fn P w K mg base 2 "_law_read" ["text"] Ze7) : Fn P w K mg base 6 "_law_right" ["text"] Zce := by
 refine (fun h => h : _ → Fn P w K mg base 6 "_law_right" ["text"] (Zcr 1 3 Zdj)) (Zdg (N := ["text", "due", "told"]) (k := 5) T.t_law_right Zeq (fun _ _ _ _ _ _ us hl => by obtain ⟨_, rfl⟩ := us1 hl; rfl) ?_)
 intro f cdv A outer s H E hr
 unfold Zdj
 refine Zab ?_ ?_
 refine Zak (i := 1) ?_ ?_ ?_ ?_
 exact Zeq.nd
 rfl
 first | exact Or.inl rfl | exact Or.inr rfl
 refine Za8 F_law_read (hr.mono (by decide)) ?_ ?_
 rfl
 refine Zag ?_ ?_ ?_
 exact (Zaa (pv 0))
 exact Zad
 rfl
 refine Zab ?_ ?_
 refine Zak (i := 2) ?_ ?_ ?_ ?_
 exact Zeq.nd
 rfl
 first | exact Or.inl rfl | exact Or.inr rfl
 refine Za8 F_law_told (hr.mono (by decide)) ?_ ?_
 rfl
 refine Zag ?_ ?_ ?_
 exact (Zaa (pv 0))
 exact Zad
 rfl
 refine Zab ?_ ?_
 refine Za6 ?_ ?_ Zaf
 refine PWf.pt ?_
 refine Zc5 ?_ ?_
 refine Za9 ?_ (fun _ => rfl)
 refine Zaq Zd1 ?_ T.n_isinstance Zb5 ?_
 rfl
 refine Zag ?_ ?_ ?_
 exact Zat ixf (Zaa (pv 2)) Zae (fun _ _ => rfl)
 refine Zag ?_ ?_ ?_
 refine Zio ?_ T.n_bool Zpu
 rfl
 exact Zad
 rfl
 rfl
 refine Zc5 ?_ ?_
 refine Zdu ?_
 refine Za9 ?_ (fun _ => rfl)
 refine Zaq Zd1 ?_ T.n_isinstance Zb5 ?_
 rfl
 refine Zag ?_ ?_ ?_
 exact Zat ixf (Zaa (pv 2)) Zae (fun _ _ => rfl)
 refine Zag ?_ ?_ ?_
 refine Zio ?_ T.n_int Zfz
 rfl
 exact Zad
 rfl
 rfl
 refine Zcx ?_
 exact Zao (Zgn hr.units) (Zaa (pv 2)) (Zaa (pv 1)) (Zau _)
 refine Zab ?_ Zaf
 exact Zas Zex
 refine Zab ?_ Zaf
 refine Zas ?_
 refine Zzj ?_ ?_
 refine Zev Zql ?_ Zae (Zau _)
 exact Zat ixf (Zaa (pv 1)) Zae (fun _ _ => rfl)
 refine Zny ?_
 refine Za8 F_law_plain (hr.mono (by decide)) ?_ ?_
 rfl
 refine Zag ?_ ?_ ?_
 exact (Zaa (pv 0))
 exact Zad
 rfl
theorem Zz3 (T : Top K mg) (F_law_right : Fn P w K mg base 6 "_law_right" ["text"] Zce) (F_law_bent : Fn P w K mg base 1 "_law_bent" ["text", "some"] Zd4) (F_law_bent_rows : Fn P w K mg base 1 "_law_bent_rows" ["text", "some"] Zbn) (F_law_digits : Fn P w K mg base 2 "_law_digits" ["cell", "many"] Zbi) (F_law_text : Fn P w K mg base 1 "_law_text" ["claim"] Ze6) (F_law_claim : Fn P w K mg base 4 "_law_claim" ["script", "most"] Zdm) : Fn P w K mg base 7 "law" ["script"] Znk := by
 refine (fun h => h : _ → Fn P w K mg base 7 "law" ["script"] (Zcr 1 9 Zoy)) (Zdg (N := ["script", "cells", "text", "k", "cell", "some", "more", "twice", "bent"]) (k := 6) T.t_law Zey (fun _ _ _ _ _ _ us hl => by obtain ⟨_, rfl⟩ := us1 hl; rfl) ?_)
 intro f cdv A outer s H E hr
 unfold Zoy
 refine Zab ?_ ?_
 refine Zak (i := 1) ?_ ?_ ?_ ?_
 exact Zey.nd
 rfl
 first | exact Or.inl rfl | exact Or.inr rfl
 refine Za4 Znc ?_ T.n_list Zv6 ?_
 rfl
 refine Zag ?_ ?_ ?_
 refine Za5 (Zaa (pv 0)) Zax ?_
 exact Zay Zae
 exact Zad
 rfl
 refine Zab ?_ ?_
 refine Za6 ?_ ?_ Zaf
 refine Zao (Zb7 hr.units) (Zaa (pv 1)) ?_ (Zau _)
 exact Za1 Zad
 refine Zab ?_ Zaf
 refine Zak (i := 1) ?_ ?_ ?_ ?_
 exact Zey.nd
 rfl
 first | exact Or.inl rfl | exact Or.inr rfl
 refine Za1 ?_
 refine Zag ?_ ?_ ?_
 exact Zae
 exact Zad
 rfl
 refine Zab ?_ ?_
 refine Zcw PassesOwn.never ?_ ?_ ?_ ?_
 rfl
 refine Zn8 ?_ T.n_enumerate ?_
 rfl
 refine Zag ?_ ?_ ?_
 exact (Zaa (pv 1))
 exact Zad
 rfl
 refine Zi6 ?_ ?_
 rfl
 refine Zc7 ?_ ?_
 refine Zbh (i := 3) ?_ ?_ ?_
 exact Zey.nd
 rfl
 first | exact Or.inl rfl | exact Or.inr rfl
 refine Zc7 ?_ Zgy
 refine Zbh (i := 4) ?_ ?_ ?_
 exact Zey.nd
 rfl
 first | exact Or.inl rfl | exact Or.inr rfl
 refine Zab ?_ ?_
 refine Zak (i := 2) ?_ ?_ ?_ ?_
 exact Zey.nd
 rfl
 first | exact Or.inl rfl | exact Or.inr rfl
 refine Za8 F_law_text (hr.mono (by decide)) ?_ ?_
 rfl
 refine Zag ?_ ?_ ?_
 refine Za8 F_law_claim (hr.mono (by decide)) ?_ ?_
 rfl
 refine Zag ?_ ?_ ?_
 refine Za5 (Zaa (pv 0)) ?_ Zax
 refine Zay ?_
 exact Zaj Zg1 (Zaa (pv 3)) Zae
 refine Zag ?_ ?_ ?_
 exact Zae
 exact Zad
 rfl
 rfl
 exact Zad
 rfl
 refine Zab ?_ ?_
 refine Zak (i := 5) ?_ ?_ ?_ ?_
 exact Zey.nd
 rfl
 first | exact Or.inl rfl | exact Or.inr rfl
 refine Za5 ?_ ?_ Zax
 refine Za8 F_law_digits (hr.mono (by decide)) ?_ ?_
 rfl
 refine Zag ?_ ?_ ?_
 exact (Zaa (pv 4))
 refine Zag ?_ ?_ ?_
 exact Zae
 exact Zad
 rfl
 rfl
 exact Zay Zae
 refine Zab ?_ ?_
 refine Zak (i := 6) ?_ ?_ ?_ ?_
 exact Zey.nd
 rfl
 first | exact Or.inl rfl | exact Or.inr rfl
 refine Za5 ?_ ?_ Zax
 refine Za8 F_law_digits (hr.mono (by decide)) ?_ ?_
 rfl
 refine Zag ?_ ?_ ?_
 exact (Zaa (pv 4))
 refine Zag ?_ ?_ ?_
 exact Zae
 exact Zad
 rfl
 rfl
 exact Zay Zae
 refine Zab ?_ ?_
 refine Zak (i := 7) ?_ ?_ ?_ ?_
 exact Zey.nd
 rfl
 first | exact Or.inl rfl | exact Or.inr rfl
 refine Za8 F_law_bent_rows (hr.mono (by decide)) ?_ ?_
 rfl
 refine Zag ?_ ?_ ?_
 refine Za8 F_law_bent_rows (hr.mono (by decide)) ?_ ?_
 rfl
 refine Zag ?_ ?_ ?_
 exact (Zaa (pv 2))
 refine Zag ?_ ?_ ?_
 exact (Zaa (pv 6))
 exact Zad
 rfl
 rfl
 refine Zag ?_ ?_ ?_
 refine Za5 (Zaa (pv 6)) ?_ Zax
 exact Zay Zae
 exact Zad
 rfl
 rfl
 refine Zab ?_ ?_
 refine Zcw PassesOwn.never ?_ ?_ ?_ ?_
 rfl
 refine Zdv ?_
 refine Za1 ?_
 refine Zag ?_ ?_ ?_
 refine Za8 F_law_bent (hr.mono (by decide)) ?_ ?_
 rfl
 refine Zag ?_ ?_ ?_
 exact (Zaa (pv 2))
 refine Zag ?_ ?_ ?_
 exact (Zaa (pv 5))
 exact Zad
 rfl
 rfl
 refine Zag ?_ ?_ ?_
 refine Za8 F_law_bent_rows (hr.mono (by decide)) ?_ ?_
 rfl
 refine Zag ?_ ?_ ?_
 exact (Zaa (pv 2))
 refine Zag ?_ ?_ ?_
 refine Za5 (Zaa (pv 5)) ?_ Zax
 exact Zay Zae
 exact Zad
 rfl
 rfl
 refine Zag ?_ ?_ ?_
 exact (Zaa (pv 7))
 refine Zag ?_ ?_ ?_
 refine Za8 F_law_bent (hr.mono (by decide)) ?_ ?_
 rfl
 refine Zag ?_ ?_ ?_
 exact (Zaa (pv 7))
 refine Zag ?_ ?_ ?_
 exact (Zaa (pv 5))
 exact Zad
 rfl
 rfl
 exact Zad
 rfl
 rfl
 rfl
 rfl
 refine Zbh (i := 8) ?_ ?_ ?_
 exact Zey.nd
 rfl
 first | exact Or.inl rfl | exact Or.inr rfl
 refine Zab ?_ Zaf
 refine Za6 ?_ ?_ Zaf
 refine Zdu ?_
 refine Za9 ?_ (fun _ => rfl)
 refine Za8 F_law_right (hr.mono (by decide)) ?_ ?_
 rfl
 refine Zag ?_ ?_ ?_
 exact (Zaa (pv 8))
 exact Zad
 rfl
 refine Zab ?_ Zaf
 exact Zas Zex
 refine Zab ?_ Zaf
 refine Za6 ?_ ?_ Zaf
 refine PWf.pt ?_
 refine Zc5 ?_ ?_
 refine Zdu ?_
 refine Za9 ?_ (fun _ => rfl)
 refine Za8 F_law_right (hr.mono (by decide)) ?_ ?_
 rfl
 refine Zag ?_ ?_ ?_
 refine Zbp (Zaa (pv 2)) Zax ?_
 refine Zay ?_
 exact Zdy Zc0 Zae
 exact Zad
 rfl
 refine Zcx ?_
 refine Zdu ?_
 refine Za9 ?_ (fun _ => rfl)
 refine Za8 F_law_right (hr.mono (by decide)) ?_ ?_
 rfl
 refine Zag ?_ ?_ ?_
 exact (Zaa (pv 2))
 exact Zad
 rfl
 refine Zab ?_ Zaf
 exact Zas Zex
 refine Zab ?_ ?_
 refine Zcw PassesOwn.never ?_ ?_ ?_ ?_
 rfl
 refine Zdv ?_
 refine Za1 ?_
 refine Zag ?_ ?_ ?_
 exact Zai
 refine Zag ?_ ?_ ?_
 exact Zai
 refine Zag ?_ ?_ ?_
 exact Zai
 refine Zag ?_ ?_ ?_
 exact Zai
 refine Zag ?_ ?_ ?_
 exact Zai
 refine Zag ?_ ?_ ?_
 exact Zai
 refine Zag ?_ ?_ ?_
 exact Zai
 refine Zag ?_ ?_ ?_
 refine Zaj Zar Zai ?_
 exact Zaj Zyq Zai Zae
 refine Zag ?_ ?_ ?_
 refine Zaj Zar ?_ Zai
 refine Zaj Zar Zai ?_
 exact Zaj Zyq Zai Zae
 exact Zad
 rfl
 rfl
 rfl
 rfl
 rfl
 rfl
 rfl
 rfl
 rfl
 refine Zbh (i := 2) ?_ ?_ ?_
 exact Zey.nd
 rfl
 first | exact Or.inl rfl | exact Or.inr rfl
 refine Zab ?_ Zaf
 refine Za6 ?_ ?_ Zaf
 refine Zdu ?_
 refine Za9 ?_ (fun _ => rfl)
 refine Za8 F_law_right (hr.mono (by decide)) ?_ ?_
 rfl
 refine Zag ?_ ?_ ?_
 exact (Zaa (pv 2))
 exact Zad
 rfl
 refine Zab ?_ Zaf
 exact Zas Zex
 refine Zab ?_ Zaf
 exact Zas Zex
theorem Zxy (T : Top K mg) : Fn P w K mg base 7 "law" ["script"] Znk := by
 have RI_NoText := Zm7 (P := P) (w := w) (base := base) T
 have F_is_whole := Zlf (P := P) (w := w) (base := base) T
 have F_is_kinds := Zk7 (P := P) (w := w) (base := base) T
 have F_is_row := Zox (P := P) (w := w) (base := base) T F_is_whole
 have F_read_number := Zia (P := P) (w := w) (base := base) T
 have F_read_literal := Zhd (P := P) (w := w) (base := base) T F_read_number
 have F_read_row := Zky (P := P) (w := w) (base := base) T F_is_row F_read_literal
 have F_read_kinds := Ziz (P := P) (w := w) (base := base) T F_is_kinds
 have F_read_claim := Zjc (P := P) (w := w) (base := base) T F_read_row F_read_kinds
 have FY_read_claim := Zh4 (P := P) (w := w) (base := base) T F_read_row F_read_kinds RI_NoText
 have F_law_mix := Znd (P := P) (w := w) (base := base) T
 have F_law_digits := Zi8 (P := P) (w := w) (base := base) T F_law_mix
 have F_law_at := Znp (P := P) (w := w) (base := base) T
 have F_law_kinds := Zkc (P := P) (w := w) (base := base) T
 have F_law_row := Zm9 (P := P) (w := w) (base := base) T F_law_digits
 have F_law_claim := Zjw (P := P) (w := w) (base := base) T F_law_row F_law_at F_law_kinds F_law_digits
 have F_law_text := Zle (P := P) (w := w) (base := base) T
 have F_law_kinds_read := Zgd (P := P) (w := w) (base := base) T
 have F_law_row_read := Zht (P := P) (w := w) (base := base) T
 have F_law_read := Zla (P := P) (w := w) (base := base) T F_law_row_read F_law_kinds_read
 have F_law_told := Zkv (P := P) (w := w) (base := base) T F_read_claim RI_NoText FY_read_claim
 have F_law_plain := Zj5 (P := P) (w := w) (base := base) T F_read_claim RI_NoText FY_read_claim
 have F_law_bent := Zlg (P := P) (w := w) (base := base) T
 have F_law_bent_rows := Zgq (P := P) (w := w) (base := base) T
 have F_law_right := Zkr (P := P) (w := w) (base := base) T F_law_plain F_law_told F_law_read
 have F_law := Zz3 (P := P) (w := w) (base := base) T F_law_right F_law_bent F_law_bent_rows F_law_digits F_law_text F_law_claim
 exact F_law
end
theorem walk {l : PySem.W.OpenLaw} {q : Program} {loose : List Str} {XP : (Str -> Option Value) -> Heap -> Prop} {YP : World -> Heap -> Prop} {d : DefRec} {K : Params -> PySem.W.Frag} (hn : l.most = some 63) (hdf : d.params.defaults = [])
  (hd : d.name = "law") (hY : ∀ (w : World) (h : Heap), YP w h → (K w.params).In h) (hT : ∀ (w : World) (mg : Str → Option Value) (h : Heap), (K w.params).In h → h.Ns mainGlobals mg → Top (K w.params) mg)
  (pure : ∀ ns : List Int, ns.length ≤ 63 -> ∃ Hd', Znk [.fl (ns.map .int)] [] = some (.bl true, Hd')) : PySem.W.WalkO q loose XP YP l.row.toRowW d [] (fun f vs => PySem.call f vs) := by
 refine L2.walk_ofK (n := 63) (k := 7) (x := "script") (CX := CX0) (sp := Zxl Znk) hn (by decide) hdf ⟨rfl, by decide, by decide, rfl⟩ hY (fun w mg fa h KX G hmg => ?_) (Zn7 pure) (fun _ _ _ _ z => z)
 have T := hT w mg h KX G
 obtain ⟨f, fd, F, hm⟩ := T.t_law
 have e0 : f = fa := by rw [hd] at hmg; rw [hm] at hmg; cases hmg; rfl
 subst e0
 have B := F.binds (ps := ["script"]) (fun _ _ _ _ _ _ us hl => by obtain ⟨_, rfl⟩ := us1 hl; rfl)
 refine ⟨fd, fun s u => ?_, fun base kb nb => ?_⟩
 ·obtain ⟨oc, od, kV, doc, pm, an, cdv, ct, osl, rfl, lk, hcd⟩ := F.ex
  exact .of_eq rfl
 ·obtain ⟨f', fd', G1, hb, hk, hm', oc', od', osl', lk'⟩ := (Zxy (P := l.prog) (w := w) (base := base) T).ex
  have e1 : f' = f := by rw [hm] at hm'; cases hm'; rfl
  subst e1
  have e2 : fd' = fd := by
   obtain ⟨oc, od, kV, doc, pm, an, cdv, ct, osl, e3, lk, hcd⟩ := F.ex
   rw [lk] at lk'
   have e4 := Option.some.inj lk'
   injection e4 with _ _ e5 _
   injection e5 with e6
   exact e6.symm
  subst e2
  exact G1
end K08
open PySem PySem.W PyProof.Rows L2 DL
set_option maxRecDepth 100000 in
set_option maxHeartbeats 0 in
theorem PySem.Challenge.cw_allsome_k78_wrong_texts_of_claims_holds : PySem.Challenge.rw_allsome_k78_wrong_texts_of_claims.Holds := by
 w_on; o_law; refine holds_open (q := (PySem.Challenge.vwOf PySem.Challenge.pw_allsome_k78_wrong_texts_of_claims)) (loose := []) (Xt := PySem.Challenge.xt0) (XP := XL (PySem.Challenge.vwOf PySem.Challenge.pw_allsome_k78_wrong_texts_of_claims) []) (Yf := Hook.obs PySem.Challenge.hk0) (Ya := Hook.val PySem.Challenge.hk0) (YP := InK PySem.Challenge.mk0.heap_39) (N := 5700) PySem.Challenge.left0 (Hook.of PySem.Challenge.hk0) (Hook.keeps PySem.Challenge.hk0) (fun s e => xl_of s (Bool.and_eq_true_iff.mp e).1) XL.keeps (by rfl) (by rfl) (by rfl) (fun s e => recFacts_of (Bool.and_eq_true_iff.mp e).2) (by rfl) (by assumption) (by decide +kernel) ⟨rfl, rfl, rfl, rfl, rfl, by decide +kernel⟩ ?hw ?hc
 (case hw => w_witness2)
 k_fill
 refine K08.walk (l := PySem.Challenge.rw_allsome_k78_wrong_texts_of_claims) rfl rfl rfl (fun w h Y => Y) ?T K08.pure_law
 case T =>
  intro w mg h KX G
  have t_is_whole : Tf (L2.KOf KX) mg "is_whole" K08.s_is_whole := by
   dsimp only [L2.KOf]
   refine' Zdh KX G ?a ?l ?c ?k
   (case a => k_is); (case l => k_is); (case c => k_is); (case k => k_is)
  have t_is_kinds : Tf (L2.KOf KX) mg "is_kinds" K08.s_is_kinds := by
   dsimp only [L2.KOf]
   refine' Zdh KX G ?a ?l ?c ?k
   (case a => k_is); (case l => k_is); (case c => k_is); (case k => k_is)
  have t_is_row : Tf (L2.KOf KX) mg "is_row" K08.s_is_row := by
   dsimp only [L2.KOf]
   refine' Zdh KX G ?a ?l ?c ?k
   (case a => k_is); (case l => k_is); (case c => k_is); (case k => k_is)
  have t_read_number : Tf (L2.KOf KX) mg "read_number" K08.s_read_number := by
   dsimp only [L2.KOf]
   refine' Zdh KX G ?a ?l ?c ?k
   (case a => k_is); (case l => k_is); (case c => k_is); (case k => k_is)
  have t_read_literal : Tf (L2.KOf KX) mg "read_literal" K08.s_read_literal := by
   dsimp only [L2.KOf]
   refine' Zdh KX G ?a ?l ?c ?k
   (case a => k_is); (case l => k_is); (case c => k_is); (case k => k_is)
  have t_read_row : Tf (L2.KOf KX) mg "read_row" K08.s_read_row := by
   dsimp only [L2.KOf]
   refine' Zdh KX G ?a ?l ?c ?k
   (case a => k_is); (case l => k_is); (case c => k_is); (case k => k_is)
  have t_read_kinds : Tf (L2.KOf KX) mg "read_kinds" K08.s_read_kinds := by
   dsimp only [L2.KOf]
   refine' Zdh KX G ?a ?l ?c ?k
   (case a => k_is); (case l => k_is); (case c => k_is); (case k => k_is)
  have t_read_claim : Tf (L2.KOf KX) mg "read_claim" K08.s_read_claim := by
   dsimp only [L2.KOf]
   refine' Zdh KX G ?a ?l ?c ?k
   (case a => k_is); (case l => k_is); (case c => k_is); (case k => k_is)
  have t_law_mix : Tf (L2.KOf KX) mg "_law_mix" K08.s_law_mix := by
   dsimp only [L2.KOf]
   refine' Zdh KX G ?a ?l ?c ?k
   (case a => k_is); (case l => k_is); (case c => k_is); (case k => k_is)
  have t_law_digits : Tf (L2.KOf KX) mg "_law_digits" K08.s_law_digits := by
   dsimp only [L2.KOf]
   refine' Zdh KX G ?a ?l ?c ?k
   (case a => k_is); (case l => k_is); (case c => k_is); (case k => k_is)
  have t_law_at : Tf (L2.KOf KX) mg "_law_at" K08.s_law_at := by
   dsimp only [L2.KOf]
   refine' Zdh KX G ?a ?l ?c ?k
   (case a => k_is); (case l => k_is); (case c => k_is); (case k => k_is)
  have t_law_kinds : Tf (L2.KOf KX) mg "_law_kinds" K08.s_law_kinds := by
   dsimp only [L2.KOf]
   refine' Zdh KX G ?a ?l ?c ?k
   (case a => k_is); (case l => k_is); (case c => k_is); (case k => k_is)
  have t_law_row : Tf (L2.KOf KX) mg "_law_row" K08.s_law_row := by
   dsimp only [L2.KOf]
   refine' Zdh KX G ?a ?l ?c ?k
   (case a => k_is); (case l => k_is); (case c => k_is); (case k => k_is)
  have t_law_claim : Tf (L2.KOf KX) mg "_law_claim" K08.s_law_claim := by
   dsimp only [L2.KOf]
   refine' Zdh KX G ?a ?l ?c ?k
   (case a => k_is); (case l => k_is); (case c => k_is); (case k => k_is)
  have t_law_text : Tf (L2.KOf KX) mg "_law_text" K08.s_law_text := by
   dsimp only [L2.KOf]
   refine' Zdh KX G ?a ?l ?c ?k
   (case a => k_is); (case l => k_is); (case c => k_is); (case k => k_is)
  have t_law_kinds_read : Tf (L2.KOf KX) mg "_law_kinds_read" K08.s_law_kinds_read := by
   dsimp only [L2.KOf]
   refine' Zdh KX G ?a ?l ?c ?k
   (case a => k_is); (case l => k_is); (case c => k_is); (case k => k_is)
  have t_law_row_read : Tf (L2.KOf KX) mg "_law_row_read" K08.s_law_row_read := by
   dsimp only [L2.KOf]
   refine' Zdh KX G ?a ?l ?c ?k
   (case a => k_is); (case l => k_is); (case c => k_is); (case k => k_is)
  have t_law_read : Tf (L2.KOf KX) mg "_law_read" K08.s_law_read := by
   dsimp only [L2.KOf]
   refine' Zdh KX G ?a ?l ?c ?k
   (case a => k_is); (case l => k_is); (case c => k_is); (case k => k_is)
  have t_law_told : Tf (L2.KOf KX) mg "_law_told" K08.s_law_told := by
   dsimp only [L2.KOf]
   refine' Zdh KX G ?a ?l ?c ?k
   (case a => k_is); (case l => k_is); (case c => k_is); (case k => k_is)
  have t_law_plain : Tf (L2.KOf KX) mg "_law_plain" K08.s_law_plain := by
   dsimp only [L2.KOf]
   refine' Zdh KX G ?a ?l ?c ?k
   (case a => k_is); (case l => k_is); (case c => k_is); (case k => k_is)
  have t_law_bent : Tf (L2.KOf KX) mg "_law_bent" K08.s_law_bent := by
   dsimp only [L2.KOf]
   refine' Zdh KX G ?a ?l ?c ?k
   (case a => k_is); (case l => k_is); (case c => k_is); (case k => k_is)
  have t_law_bent_rows : Tf (L2.KOf KX) mg "_law_bent_rows" K08.s_law_bent_rows := by
   dsimp only [L2.KOf]
   refine' Zdh KX G ?a ?l ?c ?k
   (case a => k_is); (case l => k_is); (case c => k_is); (case k => k_is)
  have t_law_right : Tf (L2.KOf KX) mg "_law_right" K08.s_law_right := by
   dsimp only [L2.KOf]
   refine' Zdh KX G ?a ?l ?c ?k
   (case a => k_is); (case l => k_is); (case c => k_is); (case k => k_is)
  have t_law : Tf (L2.KOf KX) mg "law" K08.s_law := by
   dsimp only [L2.KOf]
   refine' Zdh KX G ?a ?l ?c ?k
   (case a => k_is); (case l => k_is); (case c => k_is); (case k => k_is)
  have n_ValueError : mg "ValueError" = none := by
   refine' PySem.W.mg_none_of KX G ?z
   (case z => k_is)
  have n_abs : mg "abs" = none := by
   refine' PySem.W.mg_none_of KX G ?z
   (case z => k_is)
  have n_all : mg "all" = none := by
   refine' PySem.W.mg_none_of KX G ?z
   (case z => k_is)
  have n_bool : mg "bool" = none := by
   refine' PySem.W.mg_none_of KX G ?z
   (case z => k_is)
  have n_enumerate : mg "enumerate" = none := by
   refine' PySem.W.mg_none_of KX G ?z
   (case z => k_is)
  have n_int : mg "int" = none := by
   refine' PySem.W.mg_none_of KX G ?z
   (case z => k_is)
  have n_isinstance : mg "isinstance" = none := by
   refine' PySem.W.mg_none_of KX G ?z
   (case z => k_is)
  have n_len : mg "len" = none := by
   refine' PySem.W.mg_none_of KX G ?z
   (case z => k_is)
  have n_list : mg "list" = none := by
   refine' PySem.W.mg_none_of KX G ?z
   (case z => k_is)
  have n_max : mg "max" = none := by
   refine' PySem.W.mg_none_of KX G ?z
   (case z => k_is)
  have n_range : mg "range" = none := by
   refine' PySem.W.mg_none_of KX G ?z
   (case z => k_is)
  have n_str : mg "str" = none := by
   refine' PySem.W.mg_none_of KX G ?z
   (case z => k_is)
  have n_tuple : mg "tuple" = none := by
   refine' PySem.W.mg_none_of KX G ?z
   (case z => k_is)
  have c_FIGURES : Gc (L2.KOf KX) mg "FIGURES" K08.k_FIGURES := by
   dsimp only [L2.KOf]
   refine' Zwu KX G ?a
   (case a => k_is)
  have c_KINDS : Gc (L2.KOf KX) mg "KINDS" K08.k_KINDS := by
   dsimp only [L2.KOf]
   refine' Zru KX G ?a ?l
   (case a => k_is); (case l => k_is)
  have c_MOST_FIGURES : Gc (L2.KOf KX) mg "MOST_FIGURES" K08.k_MOST_FIGURES := by
   dsimp only [L2.KOf]
   refine' Zou KX G ?a
   (case a => k_is)
  have c_MOST_NAMES : Gc (L2.KOf KX) mg "MOST_NAMES" K08.k_MOST_NAMES := by
   dsimp only [L2.KOf]
   refine' Zou KX G ?a
   (case a => k_is)
  have c_MOST_ROWS : Gc (L2.KOf KX) mg "MOST_ROWS" K08.k_MOST_ROWS := by
   dsimp only [L2.KOf]
   refine' Zou KX G ?a
   (case a => k_is)
  have y_NoText : ∃ C Cl fI, YCl (L2.KOf KX) mg "NoText" "line" "NoText.__init__" K08.si_NoText C Cl fI := by
   dsimp only [L2.KOf]
   refine' ⟨_, _, _, Zx0 KX G ?za ?zb ?zc ?zd ?ze ?zf ?zg ?zh ?zi ?zj ?zl ?zm ?zn ?zo ?zp ?zq ?zr ?zs ?zt ?zu ?zv ?zw⟩
   (case za => k_is); (case zb => k_is); (case ze => k_is); (case zc => k_is); (case zd => kernel_rfl); (case zf => k_is); (case zg => k_is); (case zh => k_is); (case zi => k_is); (case zj => k_is); (case zl => k_is); (case zm => k_is); (case zn => k_is); (case zo => k_is); (case zp => k_is); (case zq => k_is); (case zr => k_is); (case zs => k_is); (case zt => k_is); (case zu => k_is); (case zv => k_is); (case zw => k_is)
  have h_NoText_NoText : ∃ C cV, mg "NoText" = some (.ref C) ∧ mg "NoText" = some cV ∧ PySem.W.exmOne (L2.KOf KX) (.ref C) cV = some true := by
   dsimp only [L2.KOf]
   refine' ⟨_, _, Zfa KX G ?za, PySem.W.mg_of KX G ?zb, ?zc⟩
   (case za => k_is); (case zb => k_is); (case zc => kernel_rfl)
  have h_NoText_ClaimError : ∃ C cV, mg "NoText" = some (.ref C) ∧ mg "ClaimError" = some cV ∧ PySem.W.exmOne (L2.KOf KX) (.ref C) cV = some true := by
   dsimp only [L2.KOf]
   refine' ⟨_, _, Zfa KX G ?za, PySem.W.mg_of KX G ?zb, ?zc⟩
   (case za => k_is); (case zb => k_is); (case zc => kernel_rfl)
  have i_NoText : ∃ c0 c1 c2 c3 c4 c5 c6, Zxn (L2.KOf KX) mg "NoText" [c0, c1, c2, c3, c4, c5, c6] ∧ mg "NoBack" = some (.ref c0) ∧ mg "NoLine" = some (.ref c1) ∧ mg "NoPick" = some (.ref c2) ∧ mg "NoRow" = some (.ref c3) ∧ mg "NoStep" = some (.ref c4) ∧ mg "NotWon" = some (.ref c5) ∧ mg "TooMany" = some (.ref c6) := by
   dsimp only [L2.KOf]
   refine' ⟨_, _, _, _, _, _, _, Zyp KX G ?za ?zr ?zs, Zfa KX G ?zc0, Zfa KX G ?zc1, Zfa KX G ?zc2, Zfa KX G ?zc3, Zfa KX G ?zc4, Zfa KX G ?zc5, Zfa KX G ?zc6⟩
   (case za => k_is)
   (case zc0 => k_is); (case zc1 => k_is); (case zc2 => k_is); (case zc3 => k_is); (case zc4 => k_is); (case zc5 => k_is); (case zc6 => k_is)
   (case zr => kernel_rfl); (case zs => kernel_rfl)
  exact ⟨t_is_whole, t_is_kinds, t_is_row, t_read_number, t_read_literal, t_read_row, t_read_kinds, t_read_claim, t_law_mix, t_law_digits, t_law_at, t_law_kinds, t_law_row, t_law_claim, t_law_text, t_law_kinds_read, t_law_row_read, t_law_read, t_law_told, t_law_plain, t_law_bent, t_law_bent_rows, t_law_right, t_law, n_ValueError, n_abs, n_all, n_bool, n_enumerate, n_int, n_isinstance, n_len, n_list, n_max, n_range, n_str, n_tuple, c_FIGURES, c_KINDS, c_MOST_FIGURES, c_MOST_NAMES, c_MOST_ROWS, y_NoText, h_NoText_NoText, h_NoText_ClaimError, i_NoText⟩
