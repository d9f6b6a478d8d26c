import PyProof.Rows.All
import Wide.All
import OpenK.AllK
import Wide.FinOn
import Lean
import PyProof.EqAt
import PyProof.EqKinds
import PyProof.TupleCall
import KE.KDictList
import KE.KDictOf
import KE.KSortKey
import KE.KTryMore
import PyProof.AttrMissHeap
import PyProof.AutoSeq1
import PyProof.ExcAttrAll.ValueError
import PyProof.FitsBits
import PyProof.MinMaxWalk
import PyProof.P3Eq
import PyProof.P3In
import PyProof.ReprLen
import PyProof.Rows.Own
import PyProof.Rows.RuleB_bool
import PyProof.Rows.TupIter
import PyProof.SeqI3
import PyProof.StrWalks
import PyProof.SumWalkG
import PyProof.WalkInts
import PySem.Challenge.RW_allsome_k50_how_early
set_option Elab.async false
set_option compiler.extract_closed false
set_option bootstrap.genMatcherCode false
set_option linter.all false
set_option maxRecDepth 100000
theorem Zo {α β : Type} {x : Option α} {f : α → Option β} {b : β} (h : x.bind f = some b) : ∃ a, x = some a ∧ f a = some b := Option.bind_eq_some_iff.1 h
theorem Zm {α β : Type} {x : Option α} {f : α → β} {b : β} (h : x.map f = some b) : ∃ a, x = some a ∧ f a = b := Option.map_eq_some_iff.1 h
theorem Zb {α β : Type} (a : α) (f : α → Option β) : (some a).bind f = f a := rfl
section
open PySem PySem.W PyProof.Rows
noncomputable def PySem.Challenge.vwOf (p : Program) : Program := { p with main := { p.main with body := [1, 2, 3, 4, 5, 6, 7, 8, 9, 10, 12, 13, 14, 15, 16, 17, 19, 20, 21, 22, 23, 25, 26, 27, 28, 29, 30, 31, 32, 33, 34, 35, 36, 37].filterMap fun i => p.main.body[i]? } }
local macro_rules | `(tactic| o_head $_) => `(tactic| exact False.elim (by assumption))
set_option maxRecDepth 100000 in
set_option maxHeartbeats 0 in
theorem PySem.Challenge.mk0 : False -> PySem.Challenge.rw_allsome_k50_how_early.Holds := by
 intro f; w_on; o_law; k_head
noncomputable def PySem.Challenge.hk0 : Hook := kHook PySem.Challenge.mk0.heap_39 [2, 3, 15, 22, 23, 24, 25, 28, 35, 37, 38, 40, 41, 42, 43, 44, 47, 54, 56, 57, 59, 60, 61, 62, 63, 66, 73, 74, 75, 78, 85, 86, 87, 90, 97, 98, 99, 102, 109, 110, 111, 114, 121, 122, 123, 126, 133, 134, 135, 138, 139, 141, 142, 144, 145, 146, 148, 149, 151, 152, 153, 155, 156, 158, 159, 160, 162, 163, 165, 166, 167, 169, 170, 172, 173, 174, 176, 177, 179, 180, 181, 183, 184, 186, 187, 188, 190, 191, 193, 194, 195, 198, 199, 200, 203, 204, 205, 207, 208, 210, 211, 212, 214, 215, 217, 218, 219, 221, 222, 224, 225, 226, 228, 229, 231, 232, 233, 235, 236, 238, 239, 240, 243, 244, 245, 248, 249, 250, 253, 254, 255, 257, 258, 260, 261, 262, 264, 265, 267, 268, 269, 272, 273, 274, 277, 278, 279, 281, 282, 284, 285, 286, 289, 290] (fun _ => by kernel_rfl)
noncomputable def PySem.Challenge.xt0 (s : Shared) : Bool := xlAt (PySem.Challenge.vwOf PySem.Challenge.pw_allsome_k50_how_early) [] s && recOk (RowW.records (OpenRow.toRowW (OpenLaw.row PySem.Challenge.rw_allsome_k50_how_early))) s
set_option maxRecDepth 100000 in
theorem PySem.Challenge.left0 : LeftO (OpenLaw.row PySem.Challenge.rw_allsome_k50_how_early).prog (PySem.Challenge.vwOf PySem.Challenge.pw_allsome_k50_how_early) [] PySem.Challenge.xt0 PySem.Challenge.hk0.obs PySem.Challenge.hk0.val 5560 := by
 intro w
 unfold PySem.Challenge.xt0
 rewrite [PySem.W.Fast.te4187177175401517315, PySem.W.Fast.te5923862056798008813, PySem.W.Fast.te2368527892694137696, PySem.W.Fast.te14314772092709078290, PySem.W.Fast.te14098129272727616745, PySem.W.Fast.te14364793385576792824]
 kernel_rfl
end
namespace L2
open PySem PySem.Spec PyProof.Rows
noncomputable abbrev Key := Sum Int Str
noncomputable def Zy5 : Key -> Value -> Bool
 | .inl k, v => Value.isInt k v
 | .inr x, v => Value.isStrOf x v
noncomputable def keyH (w : World) : Key -> Int
 | .inl k => hashInt k
 | .inr x => hashStr w x
theorem Zbm : ∀ {k : Key} {v : Value}, Zy5 k v = true -> (∃ i t, k = Sum.inl i ∧ v = Value.int i t) ∨ (∃ x t, k = Sum.inr x ∧ v = Value.str x t)
 | .inl i, v, h => by
  obtain ⟨t, e⟩ := Value.isInt_shape (k := i) (v := v) h
  exact .inl ⟨i, t, rfl, e⟩
 | .inr x, v, h => by
  obtain ⟨t, e⟩ := Value.isStrOf_shape (x := x) (v := v) h
  exact .inr ⟨x, t, rfl, e⟩
theorem Yad (a b : Int) : decide ((Sum.inl a : Key) = Sum.inl b) = (a == b) := by
 by_cases e : a = b
 ·subst e; simp
 ·have h : ¬ (Sum.inl a : Key) = Sum.inl b := fun q => e (Sum.inl.inj q)
  rw [decide_eq_false h]
  exact (beq_eq_false_iff_ne.mpr e).symm
theorem Zya (a b : Str) : decide ((Sum.inr a : Key) = Sum.inr b) = decide (a = b) := by
 by_cases e : a = b
 ·subst e; simp
 ·have h : ¬ (Sum.inr a : Key) = Sum.inr b := fun q => e (Sum.inr.inj q)
  rw [decide_eq_false h, decide_eq_false e]
theorem Zyw (a : Int) (b : Str) : decide ((Sum.inl a : Key) = Sum.inr b) = false := decide_eq_false (fun q => nomatch q)
theorem Zyo (a : Str) (b : Int) : decide ((Sum.inr a : Key) = Sum.inl b) = false := decide_eq_false (fun q => nomatch q)
noncomputable def Zl7 (prog : Program) (w : World) : PySem.KeyKind prog w Key where
 is := Zy5
 hash := keyH w
 inj := fun v a b ha hb => by
  rcases Zbm ha with ⟨i, t, rfl, rfl⟩ | ⟨x, t, rfl, rfl⟩
  ·rcases Zbm hb with ⟨j, u, rfl, e⟩ | ⟨y, u, rfl, e⟩
   ·injection e with e1 _; rw [e1]
   ·exact nomatch e
  ·rcases Zbm hb with ⟨j, u, rfl, e⟩ | ⟨y, u, rfl, e⟩
   ·exact nomatch e
   ·injection e with e1 _; rw [e1]
 byValue := fun k v h => by
  rcases Zbm h with ⟨i, t, rfl, rfl⟩ | ⟨x, t, rfl, rfl⟩ <;> rfl
 pyHash := fun hv h => by
  rcases Zbm hv with ⟨i, t, rfl, rfl⟩ | ⟨x, t, rfl, rfl⟩
  ·exact wpAny_pyHash_int h
  ·exact wpAny_pyHash_str h
 eqBool := fun hu hv h => by
  rcases Zbm hu with ⟨i, t, rfl, rfl⟩ | ⟨x, t, rfl, rfl⟩
  ·rcases Zbm hv with ⟨j, u, rfl, rfl⟩ | ⟨y, u, rfl, rfl⟩
   ·rw [Yad] at h; exact wpAny_eqBool_int h
   ·rw [Zyw] at h; exact SeqAt.EqAt.int_str i t y u _ _ _ _ h
  ·rcases Zbm hv with ⟨j, u, rfl, rfl⟩ | ⟨y, u, rfl, rfl⟩
   ·rw [Zyo] at h; exact SeqAt.EqAt.str_int x t j u _ _ _ _ h
   ·rw [Zya] at h; exact wpAny_eqBool_str h
 «strs» := fun k x t v h => by
  rcases Zbm h with ⟨i, u, rfl, e⟩ | ⟨y, u, rfl, e⟩
  ·exact nomatch e
  ·injection e with e1 _
   subst e1
   cases v <;> rfl
inductive V where
 | non | bl (b : Bool) | int (i : Int) | str (x : Str) | byt (b : Array UInt8) | flt (b : UInt64) | ref (a : Addr) | ty (n : String)
noncomputable def Zcn : V -> Value -> Prop
 | .non, u => u = Value.none
 | .bl b, u => u = Value.bool b
 | .int i, u => ∃ t, u = Value.int i t
 | .str x, u => ∃ t, u = Value.str x t
 | .byt b, u => ∃ t, u = Value.bytes b t
 | .flt b, u => ∃ t, u = Value.float b t
 | .ref a, u => u = Value.ref a
 | .ty n, u => u = Value.type n
noncomputable abbrev Zbq : List V -> List Value -> Prop := Paired Zcn
theorem Zbq.length {xs : List V} {us : List Value} (r : Zbq xs us) : xs.length = us.length := Paired.length r
theorem Zbq.get : ∀ {xs : List V} {us : List Value} {i : Nat} {x : V}, Zbq xs us -> xs[i]? = some x -> ∃ u, us[i]? = some u ∧ Zcn x u
 | _, _, _, _, .nil, e => by simp at e
 | _, _, 0, _, .cons r _, e => by simp at e; subst e; exact ⟨_, rfl, r⟩
 | _, _, i + 1, x, .cons _ t, e => by
  obtain ⟨u, h1, h2⟩ := Zbq.get (i := i) (x := x) t (by simpa using e)
  exact ⟨u, by simpa using h1, h2⟩
theorem Zbq.set {x : V} {u : Value} (r : Zcn x u) : ∀ {xs : List V} {us : List Value} (i : Nat), Zbq xs us -> Zbq (xs.set i x) (us.set i u)
 | _, _, _, .nil => .nil
 | _, _, 0, .cons _ t => .cons r t
 | _, _, i + 1, .cons q t => .cons q (Zbq.set r i t)
theorem Zbq.append : ∀ {xs ys : List V} {us ws : List Value}, Zbq xs us -> Zbq ys ws -> Zbq (xs ++ ys) (us ++ ws)
 | _, _, _, _, .nil, s => s
 | _, _, _, _, .cons r t, s => .cons r (Zbq.append t s)
theorem Zbq.take : ∀ {xs : List V} {us : List Value} (n : Nat), Zbq xs us -> Zbq (xs.take n) (us.take n)
 | _, _, 0, _ => .nil
 | _, _, _ + 1, .nil => .nil
 | _, _, n + 1, .cons r t => .cons r (Zbq.take n t)
theorem Zbq.drop : ∀ {xs : List V} {us : List Value} (n : Nat), Zbq xs us -> Zbq (xs.drop n) (us.drop n)
 | _, _, 0, r => r
 | _, _, _ + 1, .nil => .nil
 | _, _, n + 1, .cons _ t => Zbq.drop n t
noncomputable def RelO : Option V -> Option Value -> Prop
 | some v, some u => Zcn v u
 | none, none => True
 | _, _ => False
noncomputable def KV {κ : Type} : List (κ × V) -> List (κ × Value) -> Prop := Paired fun (p : κ × V) (q : κ × Value) => p.1 = q.1 ∧ Zcn p.2 q.2
noncomputable def kV : Key -> V
 | .inl i => .int i
 | .inr x => .str x
inductive HO where
 | lst (xs : List V)
 | tup (xs : List V)
 | dK (kvs : List (Key × V)) | dT (kvs : List (List Key × V))
 | set (S : Int -> Bool) (n : Nat)
 | ins (C dx : Addr) (fs : List (Str × V))
 | own (x : Addr)
 | xd (fs : List (Str × V))
 | met (f x : Addr)
 | rng (lo hi : Int)
 | frz (o : Obj) (u : HO)
 | tbl (ps : Array Value)
 | ext (φ : Heap -> Prop)
noncomputable abbrev Hp := Addr -> Option HO
noncomputable def upd (H : Hp) (a : Addr) (o : HO) : Hp := fun b => if b = a then some o else H b
theorem upd_same {H : Hp} {a : Addr} {o : HO} : upd H a o a = some o := by unfold upd; rw [if_pos rfl]
theorem Zao {H : Hp} {a b : Addr} {o : HO} (h : b ≠ a) : upd H a o b = H b := by unfold upd; rw [if_neg h]
theorem Zkh {H : Hp} {a b : Addr} {o u : HO} (h : H a = some o) (h' : H b = some u) (d : o ≠ u) : a ≠ b := by
 intro e; subst e; rw [h] at h'; exact d (Option.some.inj h')
theorem Zan {H : Hp} {a b : Addr} {o : HO} (h : H a = some o) (h' : H b = none) : a ≠ b := by
 intro e; subst e; rw [h] at h'; cases h'
noncomputable def Ziz (h : Heap) (a : Addr) (items : Array Value) : Prop := ∃ o, h.get? a = some o ∧ o.cls = .type "tuple" ∧ (∃ n, o.data = .seq items n) ∧ o.dict = none
theorem Ziz.new (h : Heap) (items : Array Value) : Ziz (h.push { cls := .type "tuple", data := .seq items }) h.objs.size items := ⟨_, Heap.get?_push_size _ rfl, rfl, ⟨_, rfl⟩, rfl⟩
theorem Ziz.tup {h : Heap} {a : Addr} {items : Array Value} (x : Ziz h a items) : IsTup h a items := let ⟨o, e, c, d, _⟩ := x; ⟨o, e, c, d⟩
section
variable (P : Program) (w : World)
noncomputable def Zc6 (H : Hp) (h : Heap) (a : Addr) : HO -> Prop
 | .lst xs => xs.length ≤ sizeLine ∧ ∃ (its : List Value) (n : Nat), Zbq xs its ∧ h.get? a = some { cls := .type "list", data := .seq its.toArray n }
 | .tup xs => xs.length ≤ sizeLine ∧ ∃ its : List Value, Zbq xs its ∧ Ziz h a its.toArray
 | .dK kvs => kvs.length ≤ sizeLine ∧ (a == sysModules) = false ∧ ∃ vs, KV kvs vs ∧ h.DictOf (Zl7 P w) a vs
 | .dT kvs => kvs.length ≤ sizeLine ∧ (a == sysModules) = false ∧ ∃ xs : List (List Key × Addr × Value),
   Paired (fun (p : List Key × V) (q : List Key × Addr × Value) => p.1 = q.1 ∧ H q.2.1 = some (.tup (p.1.map kV)) ∧ Zcn p.2 q.2.2) kvs xs ∧
   ∃ o es ep, h.get? a = some o ∧ o.ExactDict ∧ o.data = .dict es ep ∧ es.toList = xs.map (entryOfKey (tupleKind (Zl7 P w))) ∧ (xs.map (·.1)).Nodup
 | .set S n => h.SetOf (intKind P w) a S n
 | .ins C dx fs => H dx = some (.own a) ∧ fs.length ≤ 1000 ∧ dx ≠ a ∧ h.get? a = some (PySem.W.instObj C dx) ∧
   ∃ mA, h.Ns1 dx mA ∧ (∀ f, RelO (fs.lookup f) (mA f)) ∧ PySem.Within mA (fs.map (·.1))
 | .own _ => ∃ o, h.get? a = some o
 | .xd fs => ∃ mA, h.Ns1 a mA ∧ ∀ f, RelO (fs.lookup f) (mA f)
 | .rng lo hi => ∃ t u v, h.get? a = some { cls := .type "range", data := .fields #[.int lo t, .int hi u, .int 1 v] }
 | .frz o u => h.get? a = some o ∧ Zc6 H h a u
 | .tbl ps => h.get? a = some { cls := .none, data := .fields ps }
 | .met f x => h.get? a = some (PySem.W.methodObj (.ref f) (.ref x))
 | .ext φ => φ h ∧ (∃ o, h.get? a = some o) ∧ ∀ h1 h2 : Heap, φ h1 -> (∀ o, h1.get? a = some o -> h2.get? a = some o) -> φ h2
noncomputable def HOk (H : Hp) (h : Heap) : Prop := ∀ a o, H a = some o -> Zc6 P w H h a o
end
section
variable {P : Program} {w : World} {H H' : Hp} {h h' : Heap} {a : Addr} {o : HO}
theorem Zc6.lt (x : Zc6 P w H h a o) : a < h.objs.size := by
 cases o with
 | lst xs => obtain ⟨_, _, _, _, e⟩ := x; exact Heap.lt_size e
 | tup xs => obtain ⟨_, _, _, p⟩ := x; exact p.tup.lt
 | dK kvs => obtain ⟨_, _, _, _, o, _, _, e, _⟩ := x; exact Heap.lt_size e
 | dT kvs => obtain ⟨_, _, _, _, o, _, _, e, _⟩ := x; exact Heap.lt_size e
 | set S n => obtain ⟨o, _, _, _, e, _⟩ := x; exact Heap.lt_size e
 | ins C dx fs => obtain ⟨_, _, _, e, _⟩ := x; exact Heap.lt_size e
 | own y => obtain ⟨_, e⟩ := x; exact Heap.lt_size e
 | xd fs => obtain ⟨_, ⟨_, _, _, e, _⟩, _⟩ := x; exact Heap.lt_size e
 | rng lo hi => obtain ⟨_, _, _, e⟩ := x; exact Heap.lt_size e
 | frz ob u => obtain ⟨e, _⟩ := x; exact Heap.lt_size e
 | tbl ps => exact Heap.lt_size (show h.get? a = some _ from x)
 | met f y => exact Heap.lt_size (show h.get? a = some _ from x)
 | ext φ => obtain ⟨_, ⟨_, e⟩, _⟩ := x; exact Heap.lt_size e
theorem Paired.mapP {α β : Type} {F G : α -> β -> Prop} : ∀ {l₁ : List α} {l₂ : List β}, Paired F l₁ l₂ -> (∀ a b, F a b -> G a b) -> Paired G l₁ l₂
 | _, _, .nil, _ => .nil
 | _, _, .cons r t, f => .cons (f _ _ r) (Paired.mapP t f)
theorem Zc6.stay (x : Zc6 P w H h a o) (k : ∀ b u, (b = a ∨ H b = some (.own a)) -> h.get? b = some u -> h'.get? b = some u)
  (ho : ∀ b, H b = some (.own a) -> H' b = some (.own a)) (ht : ∀ b xs, H b = some (.tup xs) -> H' b = some (.tup xs)) : Zc6 P w H' h' a o := by
 induction o with
 | lst xs => obtain ⟨z, its, n, r, e⟩ := x; exact ⟨z, its, n, r, k _ _ (.inl rfl) e⟩
 | tup xs => obtain ⟨z, its, r, ob, e, c⟩ := x; exact ⟨z, its, r, ob, k _ _ (.inl rfl) e, c⟩
 | dK kvs => obtain ⟨z, y, vs, r, ob, es, ep, e, c⟩ := x; exact ⟨z, y, vs, r, ob, es, ep, k _ _ (.inl rfl) e, c⟩
 | dT kvs =>
  obtain ⟨z, y, xs, r, ob, es, ep, e, c⟩ := x
  exact ⟨z, y, xs, Paired.mapP r fun p q z => ⟨z.1, ht _ _ z.2.1, z.2.2⟩, ob, es, ep, k _ _ (.inl rfl) e, c⟩
 | set S n => obtain ⟨ob, es, ep, t, e, c⟩ := x; exact ⟨ob, es, ep, t, k _ _ (.inl rfl) e, c⟩
 | ins C dx fs =>
  obtain ⟨d, z, ne, e, mA, ⟨od, es, ep, e2, c⟩, r⟩ := x
  exact ⟨ho _ d, z, ne, k _ _ (.inl rfl) e, mA, ⟨od, es, ep, k _ _ (.inr d) e2, c⟩, r⟩
 | own y => obtain ⟨ob, e⟩ := x; exact ⟨ob, k _ _ (.inl rfl) e⟩
 | xd fs => obtain ⟨mA, ⟨od, es, ep, e, c⟩, r⟩ := x; exact ⟨mA, ⟨od, es, ep, k _ _ (.inl rfl) e, c⟩, r⟩
 | rng lo hi => obtain ⟨t, u, v, e⟩ := x; exact ⟨t, u, v, k _ _ (.inl rfl) e⟩
 | frz ob u ih => obtain ⟨e, q⟩ := x; exact ⟨k _ _ (.inl rfl) e, ih q⟩
 | tbl ps =>
  have e : h.get? a = some { cls := .none, data := .fields ps } := x
  show h'.get? a = some { cls := .none, data := .fields ps }
  exact k a _ (.inl rfl) e
 | met f y =>
  have e : h.get? a = some (PySem.W.methodObj (.ref f) (.ref y)) := x
  show h'.get? a = some (PySem.W.methodObj (.ref f) (.ref y))
  exact k a _ (.inl rfl) e
 | ext φ => obtain ⟨p, ⟨o, e⟩, st⟩ := x; exact ⟨st _ _ p fun o q => k _ _ (.inl rfl) q, ⟨o, k _ _ (.inl rfl) e⟩, st⟩
theorem HOk.lt (x : HOk P w H h) (e : H a = some o) : a < h.objs.size := (x a o e).lt
theorem HOk.fresh (x : HOk P w H h) (e : h.objs.size ≤ a) : H a = none := by
 cases q : H a with
 | none => rfl
 | some u => exact absurd (Nat.lt_of_lt_of_le (x.lt q) e) (Nat.lt_irrefl _)
theorem HOk.kept (x : HOk P w H h) (k : ∀ b u, h.get? b = some u -> h'.get? b = some u) : HOk P w H h' := fun a o e =>
 (x a o e).stay (fun b u _ q => k b u q) (fun _ q => q) fun _ _ q => q
theorem HOk.laid (x : HOk P w H h) (k : ∀ b u, h.get? b = some u -> h'.get? b = some u) (hp : h.objs.size ≤ a) (new : Zc6 P w (upd H a o) h' a o) : HOk P w (upd H a o) h' := fun b u e => by
 have hn := x.fresh hp
 by_cases hb : b = a
 ·subst hb; rw [upd_same] at e; cases e; exact new
 ·rw [Zao hb] at e
  exact (x b u e).stay (fun c v _ q => k c v q) (fun c q => by rw [Zao (Zan q hn)]; exact q) fun c xs q => by rw [Zao (Zan q hn)]; exact q
end
noncomputable def Rd (H : Hp) (a : Addr) (u : HO) : Prop := H a = some u ∨ ∃ o, H a = some (.frz o u)
theorem Rd.ok {P : Program} {w : World} {H : Hp} {h : Heap} {a : Addr} {u : HO} (r : Rd H a u) (x : HOk P w H h) : Zc6 P w H h a u := by
 rcases r with r | ⟨o, r⟩
 ·exact x a u r
 ·obtain ⟨_, q⟩ := x a _ r
  exact q
noncomputable def Mut : Option HO -> Prop
 | some (.lst _) => True
 | some (.dK _) => True
 | some (.dT _) => True
 | some (.set _ _) => True
 | some (.ins _ _ _) => True
 | some (.ext _) => True
 | _ => False
section
variable {P : Program} {w : World} {H : Hp} {h h' : Heap} {x e : Addr} {o' : HO}
theorem HOk.write (ok : HOk P w H h) (mu : Mut (H x)) (he : e = x ∨ H e = some (.own x)) (k : ∀ b u, b ≠ e -> h.get? b = some u -> h'.get? b = some u) (heo : ∃ u, h'.get? e = some u)
  (new : Zc6 P w (upd H x o') h' x o') : HOk P w (upd H x o') h' := fun b u q => by
 have nown : ∀ c y, H c = some (.own y) -> c ≠ x := fun c y r z => by subst z; rw [r] at mu; exact mu
 have ntup : ∀ c xs, H c = some (.tup xs) -> c ≠ x := fun c xs r z => by subst z; rw [r] at mu; exact mu
 by_cases hb : b = x
 ·subst hb; rw [upd_same] at q; cases q; exact new
 ·rw [Zao hb] at q
  by_cases hbe : b = e
  ·have q' : H b = some (.own x) := by
    rcases he with z | z
    ·exact absurd (hbe.trans z) hb
    ·rw [hbe]; exact z
   rw [q] at q'; cases q'
   obtain ⟨v, hv⟩ := heo
   exact ⟨v, by rw [hbe]; exact hv⟩
  ·refine (ok b u q).stay (fun c v hc r => k c v ?_ r) (fun c r => by rw [Zao (nown c b r)]; exact r) fun c xs r => by rw [Zao (ntup c xs r)]; exact r
   rcases hc with rfl | hc
   ·exact hbe
   ·rintro rfl
    rcases he with z | z
    ·exact nown c b hc z
    ·rw [hc] at z; cases z; exact hb rfl
end
structure Un (fs ex : List Addr) (H H' : Hp) (h h' : Heap) : Prop where
 keep : ∀ b o, h.get? b = some o -> H b = none -> b ∉ fs -> b ∉ ex -> h'.get? b = some o
 slot : ∀ b o, h.get? b = some o -> H b = none -> b ∈ fs -> b ∉ ex -> ∃ sl, h'.get? b = some { o with slots := sl }
 free : ∀ b o, h.get? b = some o -> H b = none -> b ∉ ex -> H' b = none
 there : ∀ b o, h.get? b = some o -> b ∉ ex -> ∃ o', h'.get? b = some o'
 tups : ∀ b xs, H b = some (.tup xs) -> H' b = some (.tup xs)
 frzs : ∀ b o u, H b = some (.frz o u) -> H' b = some (.frz o u)
 tbls : ∀ b ps, H b = some (.tbl ps) -> ∃ more, H' b = some (.tbl (ps ++ more))
section
variable {fs fs' ex ex' : List Addr} {H H1 H2 : Hp} {h h1 h2 h' : Heap} {a x e : Addr} {o : HO}
theorem Un.any (u : Un fs ex H H1 h h1) {b : Addr} {ob : Obj} (q : h.get? b = some ob) (n : H b = none) (hx : b ∉ ex) : ∃ sl, h1.get? b = some { ob with slots := sl } := by
 by_cases hb : b ∈ fs
 ·exact u.slot b ob q n hb hx
 ·exact ⟨ob.slots, u.keep b ob q n hb hx⟩
theorem Un.trans (a : Un fs ex H H1 h h1) (b : Un fs ex H1 H2 h1 h2) : Un fs ex H H2 h h2 where
 keep := fun c ob q n hc hx => b.keep c ob (a.keep c ob q n hc hx) (a.free c ob q n hx) hc hx
 slot := fun c ob q n hc hx => by
  obtain ⟨sl, e1⟩ := a.slot c ob q n hc hx
  obtain ⟨sl', e2⟩ := b.slot c _ e1 (a.free c ob q n hx) hc hx
  exact ⟨sl', e2⟩
 free := fun c ob q n hx => by
  obtain ⟨o', e1⟩ := a.there c ob q hx
  exact b.free c o' e1 (a.free c ob q n hx) hx
 there := fun c ob q hx => by
  obtain ⟨o', e1⟩ := a.there c ob q hx
  exact b.there c o' e1 hx
 tups := fun c xs q => b.tups c xs (a.tups c xs q)
 frzs := fun c ob xs q => b.frzs c ob xs (a.frzs c ob xs q)
 tbls := fun c ps q => by
  obtain ⟨m1, e1⟩ := a.tbls c ps q
  obtain ⟨m2, e2⟩ := b.tbls c _ e1
  exact ⟨m1 ++ m2, by rw [e2, Array.append_assoc]⟩
theorem Un.kept (k : ∀ b u, h.get? b = some u -> h'.get? b = some u) : Un fs ex H H h h' :=
 ⟨fun b ob q _ _ _ => k b ob q, fun b ob q _ _ _ => ⟨ob.slots, k b ob q⟩, fun _ _ _ n _ => n, fun b ob q _ => ⟨ob, k b ob q⟩, fun _ _ q => q, fun _ _ _ q => q, fun _ ps q => ⟨#[], by rw [q]; simp⟩⟩
theorem Un.refl : Un fs ex H H h h := Un.kept fun _ _ q => q
theorem Un.laid (k : ∀ b u, h.get? b = some u -> h'.get? b = some u) (hp : h.objs.size ≤ a) (hn : H a = none) : Un fs ex H (upd H a o) h h' where
 keep := fun b u q _ _ _ => k b u q
 slot := fun b u q _ _ _ => ⟨u.slots, k b u q⟩
 free := fun b u q n _ => by rw [Zao (Nat.ne_of_lt (Nat.lt_of_lt_of_le (Heap.lt_size q) hp))]; exact n
 there := fun b u q _ => ⟨u, k b u q⟩
 tups := fun b xs q => by rw [Zao (Zan q hn)]; exact q
 frzs := fun b u xs q => by rw [Zao (Zan q hn)]; exact q
 tbls := fun b ps q => ⟨#[], by rw [Zao (Zan q hn), q]; simp⟩
theorem Un.write (mu : Mut (H x)) (he : e = x ∨ H e = some (.own x)) (k : ∀ b u, b ≠ e -> h.get? b = some u -> h'.get? b = some u) (heo : ∃ u, h'.get? e = some u) : Un fs ex H (upd H x o) h h' := by
 have hx : ∀ b, H b = none -> b ≠ x := fun b n z => by subst z; rw [n] at mu; exact mu
 have hb : ∀ b, H b = none -> b ≠ e := fun b n z => by
  subst z
  rcases he with r | r
  ·exact hx b n r
  ·rw [n] at r; cases r
 have hm : ∀ b u, H b = some u -> ¬ Mut (some u) -> b ≠ x := fun b u q nm z => by subst z; rw [q] at mu; exact nm mu
 refine ⟨fun b u q n _ _ => k b u (hb b n) q, fun b u q n _ _ => ⟨u.slots, k b u (hb b n) q⟩, fun b u q n _ => by rw [Zao (hx b n)]; exact n, fun b u q _ => ?_,
  fun b xs q => by rw [Zao (hm b _ q fun z => z)]; exact q, fun b u xs q => by rw [Zao (hm b _ q fun z => z)]; exact q, fun b ps q => ⟨#[], by rw [Zao (hm b _ q fun z => z), q]; simp⟩⟩
 by_cases hbe : b = e
 ·subst hbe; exact heo
 ·exact ⟨u, k b u hbe q⟩
theorem Un.mono (u : Un fs ex H H1 h h1) (hs : ∀ b ∈ fs, b ∈ fs') (hx : ∀ b ∈ ex, b ∈ ex') : Un fs' ex' H H1 h h1 :=
 ⟨fun b ob q n hb he => u.keep b ob q n (fun z => hb (hs b z)) fun z => he (hx b z), fun _ _ q n _ he => u.any q n fun z => he (hx _ z), fun b ob q n he => u.free b ob q n fun z => he (hx b z), fun b ob q he => u.there b ob q fun z => he (hx b z), u.tups, u.frzs, u.tbls⟩
end
noncomputable def trk (h : Heap) (H : Hp) : List Addr := (List.range h.objs.size).filter fun a => (H a).isSome
noncomputable def Zs6 (h : Heap) (H : Hp) : Heap := PySem.W.hideAll h (trk h H)
theorem Zrp (h : Heap) (H : Hp) : (Zs6 h H).objs.size = h.objs.size := PySem.W.hideAll_size _ _
theorem Zsd {h : Heap} {H : Hp} {b : Addr} {o : Obj} (e : h.get? b = some o) (n : H b = none) : (Zs6 h H).get? b = some o :=
 PySem.W.hideAll_get _ e fun hm => by
  have q : (H b).isSome = true := (List.mem_filter.mp hm).2
  rw [n] at q; simp at q
theorem Zu7 {h : Heap} {H : Hp} {b : Addr} {o : Obj} (e : (Zs6 h H).get? b = some o) : h.get? b = some o ∧ H b = none := by
 have e' : h.get? b = some o := PySem.W.of_hideAll (trk h H) e
 refine ⟨e', ?_⟩
 cases q : H b with
 | none => rfl
 | some x =>
  have hm : b ∈ trk h H := List.mem_filter.mpr ⟨List.mem_range.mpr (Heap.lt_size e'), by simp [q]⟩
  have z : (Zs6 h H).get? b = none := PySem.W.hideAll_none (trk h H) hm
  rw [z] at e; cases e
structure Mod (K : PySem.W.Frag) (mg : Str -> Option Value) (base : Heap) : Prop where
 kin : K.In base
 glob : base.Ns mainGlobals mg
 blt : ∃ mb, base.Ns builtinsNs mb ∧ ∀ x : Str, x ≠ "__name__" → mb x = bootBuiltins x
 nolimit : base.NoLimit
structure Cx where
 prog : Program
 w : World
 K : PySem.W.Frag
 mg : Str -> Option Value
 base : Heap
 A : Around
 N : List Str
 s₀ : Shared
 H₀ : Hp
 env : Env
 outer : List Env
 stack : List Env
 ex : List Addr
 fn : Str -> Bool
 calm : Bool
 pn : List (Addr × Obj)
 xe : Value -> Shared -> Prop
noncomputable def frs (l : List Env) : List Addr := l.filterMap (·.frame)
noncomputable abbrev Cx.fs (X : Cx) : List Addr := frs X.outer
noncomputable def Vis (sc : Scope) (x : Str) : Prop := sc.names.lookup x = some .local ∨ sc.names.lookup x = some .cell ∨ sc.names.lookup x = some .free
noncomputable def Loc (sc : Scope) (x : Str) : Prop := sc.names.lookup x = some .local ∨ sc.names.lookup x = some .cell
noncomputable def Look (env : Env) (h : Heap) (m : Str -> Option Value) (x : Str) (u : Value) : Prop :=
 (env.kindOf x = some .local ∧ m x = some u) ∨ ((env.kindOf x = some .cell ∨ env.kindOf x = some .free) ∧ ∃ c, env.cells.lookup x = some c ∧ h.IsCell c (some u))
structure Cx.Ok (X : Cx) : Prop where
 mod : Mod X.K X.mg X.base
 kind : X.env.scope.kind = .function
 glob : X.env.globals = mainGlobals
 blt : X.env.builtins = builtinsNs
 above : X.s₀.heap.objs.size ≤ X.env.locals
 inj : ∀ x y c, X.env.cells.lookup x = some c -> X.env.cells.lookup y = some c -> x = y
 has : ∀ x, (X.env.kindOf x = some .cell ∨ X.env.kindOf x = some .free) -> ∃ c, X.env.cells.lookup x = some c
 cab : ∀ x c, X.fn x = true -> X.env.cells.lookup x = some c -> X.s₀.heap.objs.size ≤ c
 hd : X.calm = true -> X.A.handled = none
 frames : X.A.frames = some X.stack
 stk : X.stack = X.outer ∨ (X.stack = X.env :: X.outer ∧ X.env.frame = some X.env.locals)
 exf : ∀ b ∈ X.ex, b ≠ X.env.locals ∧ ∀ x c, X.env.cells.lookup x = some c -> c ≠ b
 bs : ∀ b o, X.base.get? b = some o -> X.s₀.heap.get? b = some o ∧ X.H₀ b = none
 bsz : X.base.objs.size ≤ X.s₀.heap.objs.size
 noex : ∀ b o, X.base.get? b = some o -> b ∉ X.ex
 exfs : ∀ b ∈ X.ex, b ∉ X.fs
 funs : X.s₀.heap.FunFrames X.base X.outer
 frf : ∀ b ∈ X.fs, X.H₀ b = none
structure Inv (X : Cx) (pins : List (Addr × Obj)) (σ : List (Option V)) (H : Hp) (s : Shared) : Prop where
 ok : X.Ok
 os : s.os = X.s₀.os
 bare : AllBare s.gens
 base : Un X.fs X.ex X.H₀ H X.s₀.heap s.heap
 loc : ∃ m, s.heap.Ns X.env.locals m ∧ ∀ (i : Nat) (x : Str) (v : V), X.N[i]? = some x -> σ[i]? = some (some v) -> Vis X.env.scope x -> ∃ u, Zcn v u ∧ Look X.env s.heap m x u
 cell : ∀ x c, X.env.cells.lookup x = some c -> ∃ v, s.heap.IsCell c v
 free : H X.env.locals = none
 freeC : ∀ x c, X.env.cells.lookup x = some c -> H c = none
 pin : ∀ p ∈ X.pn ++ pins, s.heap.get? p.1 = some p.2 ∧ H p.1 = none ∧ p.1 ≠ X.env.locals ∧ p.1 ∉ X.fs ∧ ∀ v, p.2.data ≠ .cell v
 hok : HOk X.prog X.w H s.heap
 len : σ.length = X.N.length
section
variable {X : Cx} {pins : List (Addr × Obj)} {σ : List (Option V)} {H H' : Hp} {s : Shared} {h' : Heap}
theorem Cx.Ok.nofr (ok : X.Ok) {b : Addr} {o : Obj} (e : X.base.get? b = some o) : b ∉ X.fs := fun hb => by
 have := (ok.funs.mem hb).1
 rw [e] at this; cases this
theorem Inv.bs (I : Inv X pins σ H s) : ∀ b o, X.base.get? b = some o -> s.heap.get? b = some o ∧ H b = none := fun b o e =>
 ⟨I.base.keep b o (I.ok.bs b o e).1 (I.ok.bs b o e).2 (I.ok.nofr e) (I.ok.noex b o e), I.base.free b o (I.ok.bs b o e).1 (I.ok.bs b o e).2 (I.ok.noex b o e)⟩
theorem Inv.bk (I : Inv X pins σ H s) : ∀ b o, X.base.get? b = some o -> s.heap.get? b = some o := fun b o e => (I.bs b o e).1
theorem Inv.mod (I : Inv X pins σ H s) : Mod X.K X.mg X.base := I.ok.mod
theorem Inv.kIn (I : Inv X pins σ H s) : X.K.In s.heap := I.ok.mod.kin.keeps I.bk
theorem Inv.lt (I : Inv X pins σ H s) : X.env.locals < s.heap.objs.size := let ⟨_, hn, _⟩ := I.loc; hn.lt
theorem Inv.sz (I : Inv X pins σ H s) : X.s₀.heap.objs.size ≤ s.heap.objs.size := Nat.le_trans I.ok.above (Nat.le_of_lt I.lt)
theorem Inv.nofs (I : Inv X pins σ H s) {a : Addr} (h : s.heap.objs.size ≤ a) : a ∉ X.fs := fun hb => by
 obtain ⟨_, o, ho, _⟩ := I.ok.funs.mem hb
 exact absurd (Nat.lt_of_lt_of_le (Heap.lt_size ho) (Nat.le_trans I.sz h)) (Nat.lt_irrefl _)
theorem Inv.cne (I : Inv X pins σ H s) : ∀ x c, X.env.cells.lookup x = some c -> c ≠ X.env.locals := fun x c e z => by
 obtain ⟨v, o, ho, hd⟩ := I.cell x c e
 obtain ⟨m, ⟨o', es, ep, ho', hd', _⟩, _⟩ := I.loc
 rw [z, ho'] at ho; cases ho; rw [hd'] at hd; cases hd
theorem Inv.funs (I : Inv X pins σ H s) : s.heap.FunFrames X.base X.outer := by
 have all : ∀ (l : List Env), (∀ b ∈ frs l, b ∈ X.fs) -> X.s₀.heap.FunFrames X.base l -> s.heap.FunFrames X.base l := by
  intro l
  induction l with
  | nil => intro _ _; trivial
  | cons env r ih =>
   intro hs hl
   obtain ⟨hk, ⟨L, o, hf, hn, ho, hd⟩, hr⟩ := hl
   have hL : L ∈ X.fs := hs L (by unfold frs; rw [List.filterMap_cons, hf]; exact List.mem_cons_self)
   obtain ⟨sl, e⟩ := I.base.slot L o ho (I.ok.frf L hL) hL fun z => I.ok.exfs L z hL
   exact ⟨hk, ⟨L, _, hf, hn, e, hd⟩, ih (fun b hb => hs b (by unfold frs; rw [List.filterMap_cons, hf]; exact List.mem_cons_of_mem _ hb)) hr⟩
 exact all X.outer (fun _ hb => hb) I.ok.funs
theorem Inv.stack (I : Inv X pins σ H s) : s.heap.FunFrames X.base X.stack := by
 rcases I.ok.stk with e | ⟨e, hf⟩
 ·rw [e]; exact I.funs
 ·rw [e]
  obtain ⟨m, hn, _⟩ := I.loc
  refine .cons (by rw [I.ok.kind]; decide) hf hn ?_ I.funs
  exact Heap.get?_none_of_le (Nat.le_trans I.ok.bsz I.ok.above)
theorem Inv.stkSub (I : Inv X pins σ H s) : ∀ b ∈ frs X.stack, b ∈ X.env.locals :: X.fs := fun b hb => by
 rcases I.ok.stk with e | ⟨e, hf⟩
 ·rw [e] at hb; exact List.mem_cons_of_mem _ hb
 ·rw [e] at hb
  unfold frs at hb
  rw [List.filterMap_cons, hf] at hb
  exact hb
theorem Inv.stkFree (I : Inv X pins σ H s) : ∀ b ∈ frs X.stack, H b = none := fun b hb => by
 rcases List.mem_cons.mp (I.stkSub b hb) with e | hb
 ·rw [e]; exact I.free
 ·obtain ⟨_, o, ho, _⟩ := I.ok.funs.mem hb
  exact I.base.free b o ho (I.ok.frf b hb) fun z => I.ok.exfs b z hb
theorem Inv.step {g' : Array GenState} {t' : Nat} {d' : Drawn} {ch : List Addr} (I : Inv X pins σ H s)
  (hch : ∀ b ∈ ch, (b ∈ X.ex ∨ X.s₀.heap.objs.size ≤ b) ∧ b ≠ X.env.locals ∧ (∀ x c, X.env.cells.lookup x = some c -> c ≠ b) ∧ ∀ p ∈ X.pn ++ pins, p.1 ≠ b)
  (keep : ∀ b o, b ≠ X.env.locals -> b ∉ X.fs -> b ∉ ch -> s.heap.get? b = some o -> H b = none -> h'.get? b = some o)
  (slot : ∀ b o, b ≠ X.env.locals -> b ∈ X.fs -> b ∉ ch -> s.heap.get? b = some o -> H b = none -> ∃ sl, h'.get? b = some { o with slots := sl }) (free : ∀ b o, b ∉ ch -> s.heap.get? b = some o -> H b = none -> H' b = none)
  (there : ∀ b o, b ∉ ch -> s.heap.get? b = some o -> ∃ o', h'.get? b = some o')
  (tups : ∀ b xs, H b = some (.tup xs) -> H' b = some (.tup xs)) (frzs : ∀ b o u, H b = some (.frz o u) -> H' b = some (.frz o u)) (tbls : ∀ b ps, H b = some (.tbl ps) -> ∃ more, H' b = some (.tbl (ps ++ more)))
  (ns : ∀ m, s.heap.Ns X.env.locals m -> h'.Ns X.env.locals m) (hok : HOk X.prog X.w H' h') (hg : AllBare g') :
  Inv X pins σ H' { s with heap := h', gens := g', drawn := d', toks := t' } := by
 have neL : ∀ b o, X.s₀.heap.get? b = some o -> b ≠ X.env.locals := fun b o e => Nat.ne_of_lt (Nat.lt_of_lt_of_le (Heap.lt_size e) I.ok.above)
 have neC : ∀ b o, X.s₀.heap.get? b = some o -> b ∉ X.ex -> b ∉ ch := fun b o e hx hb => by
  rcases (hch b hb).1 with z | z
  ·exact hx z
  ·exact absurd (Nat.lt_of_lt_of_le (Heap.lt_size e) z) (Nat.lt_irrefl _)
 have cellK : ∀ x c, X.env.cells.lookup x = some c -> ∀ v, s.heap.IsCell c v -> h'.IsCell c v := fun x c e v ⟨o, ho, hd⟩ => by
  have nch : c ∉ ch := fun z => (hch c z).2.2.1 x c e rfl
  by_cases hc : c ∈ X.fs
  ·obtain ⟨sl, q⟩ := slot c o (I.cne x c e) hc nch ho (I.freeC x c e)
   exact ⟨_, q, hd⟩
  ·exact ⟨o, keep c o (I.cne x c e) hc nch ho (I.freeC x c e), hd⟩
 refine ⟨I.ok, I.os, hg, ⟨fun b o e n hb hx => ?_, fun b o e n hb hx => ?_, fun b o e n hx => ?_, fun b o e hx => ?_, fun b xs e => tups b xs (I.base.tups b xs e), fun b o xs e => frzs b o xs (I.base.frzs b o xs e), fun b ps e => ?_⟩, ?_, fun x c e => ?_, ?_, fun x c e => ?_, fun p hp => ?_, hok, I.len⟩
 ·exact keep b o (neL b o e) hb (neC b o e hx) (I.base.keep b o e n hb hx) (I.base.free b o e n hx)
 ·obtain ⟨sl, e1⟩ := I.base.slot b o e n hb hx
  obtain ⟨sl', e2⟩ := slot b _ (neL b o e) hb (neC b o e hx) e1 (I.base.free b o e n hx)
  exact ⟨sl', e2⟩
 ·obtain ⟨o', e1⟩ := I.base.there b o e hx
  exact free b o' (neC b o e hx) e1 (I.base.free b o e n hx)
 ·obtain ⟨o', e1⟩ := I.base.there b o e hx
  exact there b o' (neC b o e hx) e1
 ·obtain ⟨m1, e1⟩ := I.base.tbls b ps e
  obtain ⟨m2, e2⟩ := tbls b _ e1
  exact ⟨m1 ++ m2, by rw [e2, Array.append_assoc]⟩
 ·obtain ⟨m, hn, hl⟩ := I.loc
  refine ⟨m, ns m hn, fun i x v e1 e2 e3 => ?_⟩
  obtain ⟨u, r, l⟩ := hl i x v e1 e2 e3
  refine ⟨u, r, ?_⟩
  rcases l with l | ⟨k, c, e, z⟩
  ·exact .inl l
  ·exact .inr ⟨k, c, e, cellK x c e _ z⟩
 ·obtain ⟨v, z⟩ := I.cell x c e
  exact ⟨v, cellK x c e v z⟩
 ·obtain ⟨m, ⟨o, _, _, ho, _⟩, _⟩ := I.loc
  exact free _ o (fun z => (hch _ z).2.1 rfl) ho I.free
 ·obtain ⟨v, o, ho, hd⟩ := I.cell x c e
  exact free c o (fun z => (hch c z).2.2.1 x c e rfl) ho (I.freeC x c e)
 ·obtain ⟨e, n, ne, nf, d⟩ := I.pin p hp
  have nch : p.1 ∉ ch := fun z => (hch p.1 z).2.2.2 p hp rfl
  exact ⟨keep p.1 p.2 ne nf nch e n, free p.1 p.2 nch e n, ne, nf, d⟩
theorem Inv.un {t' : Nat} (I : Inv X pins σ H s) (u : Un X.fs [] H H' s.heap h') (hok : HOk X.prog X.w H' h') : Inv X pins σ H' { s with heap := h', toks := t' } := by
 obtain ⟨m, ⟨o, es, ep, ho, r⟩, _⟩ := id I.loc
 obtain ⟨sl, hL⟩ := u.any ho I.free (by simp)
 exact I.step (g' := s.gens) (d' := s.drawn) (ch := []) (fun _ z => nomatch z) (fun b o _ hb _ e n => u.keep b o e n hb (by simp)) (fun b o _ hb _ e n => u.slot b o e n hb (by simp)) (fun b o _ e n => u.free b o e n (by simp)) (fun b o _ e => u.there b o e (by simp)) u.tups u.frzs u.tbls (fun m' hm => by
  obtain ⟨o', es', ep', ho', r'⟩ := hm
  rw [ho] at ho'; cases ho'
  exact ⟨_, es', ep', hL, r'⟩) hok I.bare
theorem Inv.call {g' : Array GenState} {t' : Nat} {d' : Drawn} {ch : List Addr} (I : Inv X pins σ H s) (u : Un (frs X.stack) ch H H' s.heap h') (hok : HOk X.prog X.w H' h') (hg : AllBare g')
  (hch : ∀ b ∈ ch, (b ∈ X.ex ∨ X.s₀.heap.objs.size ≤ b) ∧ b ≠ X.env.locals ∧ (∀ x c, X.env.cells.lookup x = some c -> c ≠ b) ∧ ∀ p ∈ X.pn ++ pins, p.1 ≠ b) :
  Inv X pins σ H' { s with heap := h', gens := g', drawn := d', toks := t' } := by
 obtain ⟨m, ⟨o, es, ep, ho, r⟩, _⟩ := id I.loc
 obtain ⟨sl, hL⟩ := u.any ho I.free fun z => (hch _ z).2.1 rfl
 exact I.step (ch := ch) hch (fun b o hL hb hc e n => u.keep b o e n (fun z => (List.mem_cons.mp (I.stkSub b z)).elim hL hb) hc) (fun b o _ _ hc e n => u.any e n hc) (fun b o hc e n => u.free b o e n hc) (fun b o hc e => u.there b o e hc) u.tups u.frzs u.tbls (fun m' hm => by
  obtain ⟨o', es', ep', ho', r'⟩ := hm
  rw [ho] at ho'; cases ho'
  exact ⟨_, es', ep', hL, r'⟩) hok hg
theorem Inv.turned {t' : Nat} {it : Addr} (I : Inv X pins σ H s) (k : ∀ b o, b ≠ it -> s.heap.get? b = some o -> h'.get? b = some o) (hn : H it = none) (hL : it ≠ X.env.locals)
  (h1 : it ∈ X.ex ∨ X.s₀.heap.objs.size ≤ it) (h2 : ∀ x c, X.env.cells.lookup x = some c -> c ≠ it) (h3 : ∀ p ∈ X.pn ++ pins, p.1 ≠ it) : Inv X pins σ H { s with heap := h', toks := t' } := by
 have nit : ∀ b u, H b = some u -> b ≠ it := fun b u e z => by rw [z, hn] at e; cases e
 refine I.step (g' := s.gens) (d' := s.drawn) (ch := [it]) (fun b hb => ?_) (fun b o _ _ hc e _ => k b o (fun z => hc (by simp [z])) e) (fun b o _ _ hc e _ => ⟨o.slots, k b o (fun z => hc (by simp [z])) e⟩) (fun _ _ _ _ n => n)
  (fun b o hc e => ⟨o, k b o (fun z => hc (by simp [z])) e⟩) (fun _ _ e => e) (fun _ _ _ e => e) (fun b ps e => ⟨#[], by rw [e]; simp⟩) (fun m hm => ?_) (fun b u e => ?_) I.bare
 ·have e : b = it := by simpa using hb
  subst e
  exact ⟨h1, hL, h2, h3⟩
 ·obtain ⟨o, es, ep, ho, r⟩ := hm
  exact ⟨o, es, ep, k _ o (Ne.symm hL) ho, r⟩
 ·refine (I.hok b u e).stay (fun c v hc q => k c v ?_ q) (fun _ q => q) fun _ _ q => q
  rcases hc with z | z
  ·rw [z]; exact nit b u e
  ·exact nit c _ z
theorem Inv.tok (I : Inv X pins σ H s) (t : Nat) : Inv X pins σ H { s with toks := t } := I.un (h' := s.heap) (t' := t) Un.refl I.hok
theorem Inv.kept {t' : Nat} (I : Inv X pins σ H s) (k : ∀ b u, s.heap.get? b = some u -> h'.get? b = some u) : Inv X pins σ H { s with heap := h', toks := t' } := I.un (Un.kept k) (I.hok.kept k)
theorem Inv.laid {a : Addr} {o : HO} {t' : Nat} (I : Inv X pins σ H s) (k : ∀ b u, s.heap.get? b = some u -> h'.get? b = some u) (hp : s.heap.objs.size ≤ a) (new : Zc6 X.prog X.w (upd H a o) h' a o) :
  Inv X pins σ (upd H a o) { s with heap := h', toks := t' } := I.un (Un.laid k hp (I.hok.fresh hp)) (I.hok.laid k hp new)
theorem Inv.write {x e : Addr} {o : HO} {t' : Nat} (I : Inv X pins σ H s) (mu : Mut (H x)) (he : e = x ∨ H e = some (.own x)) (k : ∀ b u, b ≠ e -> s.heap.get? b = some u -> h'.get? b = some u) (heo : ∃ u, h'.get? e = some u)
  (new : Zc6 X.prog X.w (upd H x o) h' x o) : Inv X pins σ (upd H x o) { s with heap := h', toks := t' } := I.un (Un.write mu he k heo) (I.hok.write mu he k heo new)
theorem Inv.pins_of {pins' : List (Addr × Obj)} (I : Inv X pins σ H s) (h : ∀ p ∈ pins', s.heap.get? p.1 = some p.2 ∧ H p.1 = none ∧ p.1 ≠ X.env.locals ∧ p.1 ∉ X.fs ∧ ∀ v, p.2.data ≠ .cell v) : Inv X pins' σ H s :=
 ⟨I.ok, I.os, I.bare, I.base, I.loc, I.cell, I.free, I.freeC, fun p hp => (List.mem_append.mp hp).elim (fun z => I.pin p (List.mem_append_left _ z)) (h p), I.hok, I.len⟩
theorem Zjg {N : List Str} (hN : N.Nodup) {i j : Nat} {x : Str} (a : N[i]? = some x) (b : N[j]? = some x) : i = j := by
 obtain ⟨h1, e1⟩ := List.getElem?_eq_some_iff.mp a
 obtain ⟨h2, e2⟩ := List.getElem?_eq_some_iff.mp b
 exact (List.getElem_inj hN).mp (e1.trans e2.symm)
theorem Zj6 {M : Model} {A : Around} {E : Value -> Shared -> Prop} {i : Nat} {x : Str} {v : V} {u : Value} {Q : Unit -> Shared -> Prop} (I : Inv X pins σ H s) (hN : X.N.Nodup) (hi : X.N[i]? = some x) (hx : Loc X.env.scope x) (r : Zcn v u)
  (h : ∀ s', Inv X pins (σ.set i (some v)) H s' -> (∃ a, Heap.SameBut a s.heap s'.heap ∧ (a = X.env.locals ∨ X.env.cells.lookup x = some a)) -> Q () s') (hf : X.fn x = true ∨ X.env.scope.names.lookup x = some .local := by first | exact .inl rfl | exact .inr rfl | assumption) : wpAny M A (storeName X.env x u) Q E s := by
 obtain ⟨m, hn, hl⟩ := id I.loc
 have hcls : (X.env.scope.kind == .class || (X.env.scope.kind == .module && X.env.locals != X.env.globals)) = false := by rw [I.ok.kind]; rfl
 have hiσ : i < σ.length := by rw [I.len]; exact (List.getElem?_eq_some_iff.mp hi).1
 have cne := I.cne
 have tracked : ∀ {a : Addr} {h' : Heap}, (∃ o, s.heap.get? a = some o ∧ H a = none) -> Heap.SameBut a s.heap h' -> HOk X.prog X.w H h' := fun {a h'} ha hs b ob e => by
  obtain ⟨_, _, hfree⟩ := ha
  refine (I.hok b ob e).stay (fun c w' hc q => (hs.2 c ?_).trans q) (fun _ q => q) fun _ _ q => q
  rintro rfl
  rcases hc with rfl | hc
  ·rw [hfree] at e; cases e
  ·rw [hfree] at hc; cases hc
 rcases hx with hk | hk
 ·refine wpAny_storeName_local hk hn (fun h' hn' hs => ?_) hcls
  obtain ⟨oL, _, _, hoL, _⟩ := id hn
  refine h _ ⟨I.ok, I.os, I.bare, ⟨fun b o e n hb hx => ?_, fun b o e n hb hx => ?_, I.base.free, fun b o e hx => ?_, I.base.tups, I.base.frzs, I.base.tbls⟩, ⟨_, hn', fun j y v' e1 e2 e3 => ?_⟩, fun y c e => ?_, I.free, I.freeC, fun p hp => ?_, tracked ⟨oL, hoL, I.free⟩ hs, by simpa using I.len⟩ ⟨_, hs, .inl rfl⟩
  ·exact (hs.2 b (Nat.ne_of_lt (Nat.lt_of_lt_of_le (Heap.lt_size e) I.ok.above))).trans (I.base.keep b o e n hb hx)
  ·obtain ⟨sl, e1⟩ := I.base.slot b o e n hb hx
   exact ⟨sl, (hs.2 b (Nat.ne_of_lt (Nat.lt_of_lt_of_le (Heap.lt_size e) I.ok.above))).trans e1⟩
  ·obtain ⟨o', e1⟩ := I.base.there b o e hx
   exact ⟨o', (hs.2 b (Nat.ne_of_lt (Nat.lt_of_lt_of_le (Heap.lt_size e) I.ok.above))).trans e1⟩
  ·by_cases hj : j = i
   ·subst hj
    rw [hi] at e1; cases e1
    rw [List.getElem?_set_self hiσ] at e2
    cases e2
    exact ⟨u, r, .inl ⟨hk, by simp⟩⟩
   ·rw [List.getElem?_set_ne (Ne.symm hj)] at e2
    obtain ⟨u', r', q⟩ := hl j y v' e1 e2 e3
    refine ⟨u', r', ?_⟩
    rcases q with ⟨k, e⟩ | ⟨k, c, e, z⟩
    ·refine .inl ⟨k, ?_⟩
     have : y ≠ x := fun e => hj (Zjg hN e1 (e ▸ hi))
     simp [this, e]
    ·exact .inr ⟨k, c, e, z.sameBut hs (cne y c e)⟩
  ·obtain ⟨w', z⟩ := I.cell y c e
   exact ⟨w', z.sameBut hs (cne y c e)⟩
  ·obtain ⟨e, n, ne, nf, d⟩ := I.pin p hp
   exact ⟨(hs.2 p.1 ne).trans e, n, ne, nf, d⟩
 ·have hfn : X.fn x = true := by
   rcases hf with z | z
   ·exact z
   ·rw [z] at hk; cases hk
  obtain ⟨c, hc⟩ := I.ok.has x (.inl hk)
  obtain ⟨w', z⟩ := I.cell x c hc
  refine wpAny_storeName_cell I.ok.kind hk hc z (fun h' hc' hs => ?_)
  obtain ⟨oc, hoc, hocd⟩ := id z
  refine h { s with heap := h' } ⟨I.ok, I.os, I.bare, ⟨fun b o e n hb hx => ?_, fun b o e n hb hx => ?_, I.base.free, fun b o e hx => ?_, I.base.tups, I.base.frzs, I.base.tbls⟩, ⟨m, hn.sameBut hs (Ne.symm (cne x c hc)), fun j y v' e1 e2 e3 => ?_⟩, fun y c' e => ?_, I.free, I.freeC, fun p hp => ?_, tracked ⟨oc, hoc, I.freeC x c hc⟩ hs, by simpa using I.len⟩ ⟨c, hs, .inr hc⟩
  ·exact (hs.2 b (Nat.ne_of_lt (Nat.lt_of_lt_of_le (Heap.lt_size e) (I.ok.cab x c hfn hc)))).trans (I.base.keep b o e n hb hx)
  ·obtain ⟨sl, e1⟩ := I.base.slot b o e n hb hx
   exact ⟨sl, (hs.2 b (Nat.ne_of_lt (Nat.lt_of_lt_of_le (Heap.lt_size e) (I.ok.cab x c hfn hc)))).trans e1⟩
  ·obtain ⟨o', e1⟩ := I.base.there b o e hx
   exact ⟨o', (hs.2 b (Nat.ne_of_lt (Nat.lt_of_lt_of_le (Heap.lt_size e) (I.ok.cab x c hfn hc)))).trans e1⟩
  ·by_cases hj : j = i
   ·subst hj
    rw [hi] at e1; cases e1
    rw [List.getElem?_set_self hiσ] at e2
    cases e2
    exact ⟨u, r, .inr ⟨.inl hk, c, hc, hc'⟩⟩
   ·rw [List.getElem?_set_ne (Ne.symm hj)] at e2
    obtain ⟨u', r', q⟩ := hl j y v' e1 e2 e3
    refine ⟨u', r', ?_⟩
    rcases q with q | ⟨k, c', e, z'⟩
    ·exact .inl q
    ·refine .inr ⟨k, c', e, z'.sameBut hs ?_⟩
     rintro rfl
     exact hj (Zjg hN e1 (I.ok.inj _ _ _ e hc ▸ hi))
  ·by_cases hcc : c' = c
   ·subst hcc; exact ⟨_, hc'⟩
   ·obtain ⟨w2, z2⟩ := I.cell y c' e
    exact ⟨w2, z2.sameBut hs hcc⟩
  ·obtain ⟨e, n, ne, nf, d⟩ := I.pin p hp
   refine ⟨(hs.2 p.1 ?_).trans e, n, ne, nf, d⟩
   intro q
   rw [q, hoc] at e
   have q' : oc = p.2 := Option.some.inj e
   exact d w' (by rw [← q']; exact hocd)
theorem Zgp {M : Model} {A : Around} {E : Value -> Shared -> Prop} {i : Nat} {x : Str} {v : V} {u : Value} {Q : Unit -> Shared -> Prop} (I : Inv X pins σ H s) (hN : X.N.Nodup) (hi : X.N[i]? = some x) (hx : Loc X.env.scope x) (r : Zcn v u)
  (h : ∀ s', Inv X pins (σ.set i (some v)) H s' -> Q () s') (hf : X.fn x = true ∨ X.env.scope.names.lookup x = some .local := by first | exact .inl rfl | exact .inr rfl | assumption) : wpAny M A (storeName X.env x u) Q E s :=
 Zj6 I hN hi hx r (fun s' I' _ => h s' I') hf
theorem Inv.call' {s' : Shared} {ch : List Addr} (I : Inv X pins σ H s) (ho : s'.os = s.os) (u : Un (frs X.stack) ch H H' s.heap s'.heap) (hok : HOk X.prog X.w H' s'.heap) (hg : AllBare s'.gens)
  (hch : ∀ b ∈ ch, (b ∈ X.ex ∨ X.s₀.heap.objs.size ≤ b) ∧ b ≠ X.env.locals ∧ (∀ x c, X.env.cells.lookup x = some c -> c ≠ b) ∧ ∀ p ∈ X.pn ++ pins, p.1 ≠ b) : Inv X pins σ H' s' := by
 obtain ⟨h', g', d', t', o'⟩ := s'
 have e : o' = s.os := ho
 subst e
 exact I.call (g' := g') (t' := t') (d' := d') u hok hg hch
end
noncomputable abbrev XK := Value -> Option Addr -> Hp -> Prop
noncomputable abbrev St := List (Option V)
noncomputable abbrev VK := V -> Hp -> Prop
noncomputable abbrev TE := St -> Hp -> VK -> Prop
noncomputable abbrev TT := St -> Hp -> (Bool -> Hp -> Prop) -> Prop
noncomputable abbrev TA := St -> Hp -> (List V -> Hp -> Prop) -> Prop
structure Ends where
 nx : St -> Hp -> Prop
 rt : VK
 bk : St -> Hp -> Prop := fun _ _ => False
 ct : St -> Hp -> Prop := fun _ _ => False
noncomputable abbrev TS := Ends -> St -> Hp -> Prop
noncomputable def EP (X : Cx) (pins : List (Addr × Obj)) (σ : St) (Q : VK) (u : Value) (s' : Shared) : Prop := ∃ v H', Inv X pins σ H' s' ∧ Zcn v u ∧ Q v H'
noncomputable def TP (X : Cx) (pins : List (Addr × Obj)) (σ : St) (Q : Bool -> Hp -> Prop) (b : Bool) (s' : Shared) : Prop := ∃ H', Inv X pins σ H' s' ∧ Q b H'
noncomputable def AP (X : Cx) (pins : List (Addr × Obj)) (σ : St) (Q : List V -> Hp -> Prop) (us : List Value) (s' : Shared) : Prop := ∃ vs H', Inv X pins σ H' s' ∧ Zbq vs us ∧ Q vs H'
noncomputable def SP (X : Cx) (pins : List (Addr × Obj)) (D : Ends) (f : Flow) (s' : Shared) : Prop :=
 match f with
 | .next => ∃ σ' H', Inv X pins σ' H' s' ∧ D.nx σ' H'
 | .brk => ∃ σ' H', Inv X pins σ' H' s' ∧ D.bk σ' H'
 | .cont => ∃ σ' H', Inv X pins σ' H' s' ∧ D.ct σ' H'
 | .ret u => ∃ v σ' H', Inv X pins σ' H' s' ∧ Zcn v u ∧ D.rt v H'
noncomputable def PE (X : Cx) (e : Expr) (t : TE) : Prop :=
 ∀ (pins : List (Addr × Obj)) (s : Shared) (σ : St) (H : Hp) (Q : VK), Inv X pins σ H s -> t σ H Q -> wpAny (model X.prog X.w) X.A (eval e X.env) (EP X pins σ Q) X.xe s
noncomputable def PT (X : Cx) (e : Expr) (t : TT) : Prop :=
 ∀ (pins : List (Addr × Obj)) (s : Shared) (σ : St) (H : Hp) (Q : Bool -> Hp -> Prop), Inv X pins σ H s -> t σ H Q -> wpAny (model X.prog X.w) X.A (isTrue e X.env (eval e X.env)) (TP X pins σ Q) X.xe s
noncomputable def PW (X : Cx) (e : Expr) (t : TT) : Prop :=
 ∀ (whole : Sem Value) (pins : List (Addr × Obj)) (s : Shared) (σ : St) (H : Hp) (Q : Bool -> Hp -> Prop), Inv X pins σ H s -> t σ H Q -> wpAny (model X.prog X.w) X.A (isTrue e X.env whole) (TP X pins σ Q) X.xe s
noncomputable def PA (X : Cx) (es : List Expr) (t : TA) : Prop :=
 ∀ (pos : Pos) (pins : List (Addr × Obj)) (s : Shared) (σ : St) (H : Hp) (Q : List V -> Hp -> Prop), Inv X pins σ H s -> t σ H Q -> wpAny (model X.prog X.w) X.A (spliced (backTo pos (starEach es X.env))) (AP X pins σ Q) X.xe s
noncomputable def PS (X : Cx) (st : Stmt) (t : TS) : Prop :=
 ∀ (pins : List (Addr × Obj)) (s : Shared) (σ : St) (H : Hp) (D : Ends), Inv X pins σ H s -> t D σ H -> wpAny (model X.prog X.w) X.A (exec st X.env) (SP X pins D) X.xe s
noncomputable def PSs (X : Cx) (st : List Stmt) (t : TS) : Prop :=
 ∀ (pins : List (Addr × Obj)) (s : Shared) (σ : St) (H : Hp) (D : Ends), Inv X pins σ H s -> t D σ H -> wpAny (model X.prog X.w) X.A (execs st X.env) (SP X pins D) X.xe s
theorem thn {α : Type} {t : Sem α} {Q Q' : α -> Shared -> Prop} {M : Model} {A : Around} {E : Value -> Shared -> Prop} {s : Shared} (h : wpAny M A t Q E s) (hQ : ∀ a s, Q a s -> Q' a s) : wpAny M A t Q' E s := wpAny_mono h hQ fun _ _ x => x
section
variable {X : Cx}
noncomputable def tVar (i : Nat) : TE := fun σ H Q => ∃ v, σ[i]? = some (some v) ∧ Q v H
noncomputable def tC (v : V) : TE := fun _ H Q => Q v H
theorem Zk0 {i : Nat} {x : Str} {pos : Pos} (hN : X.N[i]? = some x) (hv : Vis X.env.scope x) (hd : (x == ("__debug__" : Str)) = false := by decide) (hcd : (x == ("__classdict__" : Str)) = false := by decide) : PE X (.Name x pos) (tVar i) := by
 intro pins s σ H Q I h
 obtain ⟨v, e, h⟩ := h
 obtain ⟨m, hn, hl⟩ := I.loc
 obtain ⟨u, r, l⟩ := hl i x v hN e hv
 have fin : EP X pins σ Q u s := ⟨v, H, I, r, h⟩
 rcases l with ⟨hk, hm⟩ | ⟨hk, c, hc, hcell⟩
 ·exact wpAny_Name (wpAny_loadName_local I.ok.kind hk hn hm fin) hd
 ·rcases hk with hk | hk
  ·exact wpAny_Name (wpAny_loadName_cell I.ok.kind hk hc hcell fin) hd
  ·exact wpAny_Name (wpAny_loadName_free I.ok.kind hk hc hcell fin hcd) hd
theorem Zum {i j pos} : PE X (.Constant (.int i) j pos) (tC (.int i)) := fun _ _ _ H _ I h => wpAny_Constant_int ⟨.int i, H, I.tok _, ⟨_, rfl⟩, h⟩
theorem pe_bl {b j pos} : PE X (.Constant (.bool b) j pos) (tC (.bl b)) := fun _ _ _ H _ I h => Constant_bool ⟨.bl b, H, I, rfl, h⟩
theorem Zmj {x j pos} : PE X (.Constant (.str x) j pos) (tC (.str x)) := fun _ _ _ H _ I h => Calls.Constant_str ⟨.str x, H, I.tok _, ⟨_, rfl⟩, h⟩
noncomputable def Gl (X : Cx) (x : Str) : Prop := X.env.kindOf x = some .globalImplicit
theorem Zhs {E : Value -> Shared -> Prop} {pins : List (Addr × Obj)} {s : Shared} {σ : St} {H : Hp} {x : Str} {u : Value} {pos : Pos} {Q : Value -> Shared -> Prop} (I : Inv X pins σ H s) (hg : Gl X x) (hm : X.mg x = some u) (h : Q u s)
  (hd : (x == ("__debug__" : Str)) = false := by decide) : wpAny (model X.prog X.w) X.A (eval (.Name x pos) X.env) Q E s :=
 Calls.Name_function_global I.ok.kind hg (Calls.loadGlobal_global (by rw [I.ok.glob]; exact I.mod.glob.keeps I.bk) hm h) hd
theorem Zeu {E : Value -> Shared -> Prop} {pins : List (Addr × Obj)} {s : Shared} {σ : St} {H : Hp} {x : Str} {u : Value} {pos : Pos} {Q : Value -> Shared -> Prop} (I : Inv X pins σ H s) (hg : Gl X x) (hm : X.mg x = none) (hv : bootBuiltins x = some u) (h : Q u s)
  (hn : x ≠ "__name__" := by decide) (hd : (x == ("__debug__" : Str)) = false := by decide) : wpAny (model X.prog X.w) X.A (eval (.Name x pos) X.env) Q E s := by
 obtain ⟨mb, h1, h2⟩ := I.mod.blt
 exact Calls.Name_function_global I.ok.kind hg (Calls.loadGlobal_builtin (by rw [I.ok.glob]; exact I.mod.glob.keeps I.bk) hm (by rw [I.ok.blt]; exact h1.keeps I.bk) ((h2 x hn).trans hv) h) hd
theorem Zlh {x : Str} {v : V} {u : Value} {pos : Pos} (hg : Gl X x) (hm : X.mg x = some u) (r : Zcn v u) (hd : (x == ("__debug__" : Str)) = false := by decide) : PE X (.Name x pos) (tC v) :=
 fun _ _ _ H _ I h => Zhs I hg hm ⟨v, H, I, r, h⟩ hd
theorem Zpq {x : Str} {v : V} {u : Value} {pos : Pos} (hg : Gl X x) (hm : X.mg x = none) (hv : bootBuiltins x = some u) (r : Zcn v u) (hn : x ≠ "__name__" := by decide) (hd : (x == ("__debug__" : Str)) = false := by decide) : PE X (.Name x pos) (tC v) :=
 fun _ _ _ H _ I h => Zeu I hg hm hv ⟨v, H, I, r, h⟩ hn hd
variable {a b : Expr} {ta tb : TE} {pos : Pos}
variable {tA tB' : TT} {Zbv : List Expr}
noncomputable def tAnd (t u : TT) : TT := fun σ H Q => t σ H fun c H1 => if c = true then u σ H1 Q else Q false H1
noncomputable def tOr (t u : TT) : TT := fun σ H Q => t σ H fun c H1 => if c = true then Q true H1 else u σ H1 Q
noncomputable def tNot (t : TT) : TT := fun σ H Q => t σ H fun c H1 => Q (!c) H1
theorem Zwn (ha : PT X a tA) : PW X (.BoolOp .And [a] pos) tA := by
 intro wh pins s σ H Q I h
 refine isTrue_and (thn (ha pins s σ H Q I h) fun c s1 e => ?_)
 cases c with
 | true => exact isTrue_and_nil e
 | false => exact e
theorem Zx9 (ha : PT X a tA) : PW X (.BoolOp .Or [a] pos) tA := by
 intro wh pins s σ H Q I h
 refine isTrue_or (thn (ha pins s σ H Q I h) fun c s1 e => ?_)
 cases c with
 | false => exact isTrue_or_nil e
 | true => exact e
theorem Zx1 (ha : PT X a tA) (hb : PW X (.BoolOp .And (b :: Zbv) pos) tB') : PW X (.BoolOp .And (a :: b :: Zbv) pos) (tAnd tA tB') := by
 intro wh pins s σ H Q I h
 refine isTrue_and (thn (ha pins s σ H _ I h) fun c s1 zz => ?_)
 obtain ⟨H1, I1, q1⟩ := zz
 cases c with
 | true => exact hb wh pins s1 σ H1 Q I1 q1
 | false => exact ⟨H1, I1, q1⟩
theorem pw_or (ha : PT X a tA) (hb : PW X (.BoolOp .Or (b :: Zbv) pos) tB') : PW X (.BoolOp .Or (a :: b :: Zbv) pos) (tOr tA tB') := by
 intro wh pins s σ H Q I h
 refine isTrue_or (thn (ha pins s σ H _ I h) fun c s1 zz => ?_)
 obtain ⟨H1, I1, q1⟩ := zz
 cases c with
 | true => exact ⟨H1, I1, q1⟩
 | false => exact hb wh pins s1 σ H1 Q I1 q1
theorem Zy9 (ha : PT X a tA) : PT X (.UnaryOp .Not a pos) (tNot tA) := by
 intro pins s σ H Q I h
 exact isTrue_not (ha pins s σ H (fun c H1 => Q (!c) H1) I h)
noncomputable def tAndV (ta tb : TE) : TE := fun σ H Q => ta σ H fun x H1 => ∃ c, x = .bl c ∧ if c = true then tb σ H1 Q else Q (.bl false) H1
noncomputable def tNotV (ta : TE) : TE := fun σ H Q => ta σ H fun x H1 => ∃ c, x = .bl c ∧ Q (.bl (!c)) H1
theorem Zug {op} {t : TE} (h : PE X a t) : PE X (.BoolOp op [a] pos) t := fun pins s σ H Q I hw => BoolOp_one (h pins s σ H Q I hw)
theorem Zpf (ha : PE X a ta) (hb : PE X (.BoolOp .And (b :: Zbv) pos) tb) : PE X (.BoolOp .And (a :: b :: Zbv) pos) (tAndV ta tb) := by
 intro pins s σ H Q I h
 refine BoolOp_and (thn (ha pins s σ H _ I h) fun v s1 zz => ?_)
 obtain ⟨x, H1, I1, r1, q1⟩ := zz
 obtain ⟨c, rfl, q1⟩ := q1
 cases r1
 refine wpAny_truthy_bool ?_
 cases c with
 | true => exact hb pins s1 σ H1 Q I1 q1
 | false => exact ⟨.bl false, H1, I1, rfl, q1⟩
theorem Zuv (ha : PE X a ta) : PE X (.UnaryOp .Not a pos) (tNotV ta) := by
 intro pins s σ H Q I h
 refine UnaryOp_ (thn (ha pins s σ H _ I h) fun v s1 zz => ?_)
 obtain ⟨x, H1, I1, r1, q1⟩ := zz
 obtain ⟨c, rfl, q1⟩ := q1
 cases r1
 exact not_of (wpAny_truthy_bool ⟨.bl (!c), H1, I1, rfl, q1⟩)
noncomputable def tIf (t : TT) (ta tb : TE) : TE := fun σ H Q => t σ H fun c H1 => if c = true then ta σ H1 Q else tb σ H1 Q
theorem Zte {c : Expr} (hc : PT X c tA) (ha : PE X a ta) (hb : PE X b tb) : PE X (.IfExp c a b pos) (tIf tA ta tb) := by
 intro pins s σ H Q I h
 refine wpAny_IfExp (thn (hc pins s σ H _ I h) fun d s1 zz => ?_)
 obtain ⟨H1, I1, q1⟩ := zz
 cases d with
 | true => exact ha pins s1 σ H1 Q I1 q1
 | false => exact hb pins s1 σ H1 Q I1 q1
end
noncomputable def SqL (K : PySem.W.Frag) (H : Hp) (a : Addr) (xs : List V) : Prop :=
 Rd H a (.lst xs) ∨
  ∃ (o : Obj) (its : Array Value) (n : Nat), K.lookup a = some o ∧ o.cls = .type "list" ∧ o.dict = none ∧ o.data = .seq its n ∧ its.size ≤ sizeLine ∧ Zbq xs its.toList
noncomputable def SqT (K : PySem.W.Frag) (H : Hp) (a : Addr) (xs : List V) : Prop :=
 Rd H a (.tup xs) ∨
  ∃ (o : Obj) (its : Array Value) (n : Nat), K.lookup a = some o ∧ o.cls = .type "tuple" ∧ o.data = .seq its n ∧ its.size ≤ sizeLine ∧ Zbq xs its.toList ∧ o.dict = none
noncomputable def absV : Value -> Option V
 | .none => some .non
 | .bool b => some (.bl b)
 | .int i _ => some (.int i)
 | .str x _ => some (.str x)
 | .bytes b _ => some (.byt b)
 | .float b _ => some (.flt b)
 | .ref a => some (.ref a)
 | .type n => some (.ty n)
 | _ => none
theorem Zcn.abs {x : V} {u : Value} (r : Zcn x u) : absV u = some x := by
 cases x with
 | non => cases r; rfl
 | bl _ => cases r; rfl
 | int _ => obtain ⟨t, rfl⟩ := r; rfl
 | str _ => obtain ⟨t, rfl⟩ := r; rfl
 | byt _ => obtain ⟨t, rfl⟩ := r; rfl
 | flt _ => obtain ⟨t, rfl⟩ := r; rfl
 | ref _ => cases r; rfl
 | ty _ => cases r; rfl
theorem Zcn.inj {x y : V} {u : Value} (r : Zcn x u) (q : Zcn y u) : x = y := Option.some.inj (r.abs.symm.trans q.abs)
theorem Zbq.inj : ∀ {xs ys : List V} {us : List Value}, Zbq xs us -> Zbq ys us -> xs = ys := by
 intro xs ys us h
 induction h generalizing ys with
 | nil => intro h'; cases h'; rfl
 | cons r t ih =>
  intro h'
  cases h' with
  | cons r' t' => rw [r.inj r', ih t']
section
variable {X : Cx} {pins : List (Addr × Obj)} {σ : St} {H : Hp} {s : Shared} {a : Addr} {xs ys : List V}
theorem SqL.of {K : PySem.W.Frag} (h : H a = some (.lst xs)) : SqL K H a xs := .inl (.inl h)
theorem SqT.of {K : PySem.W.Frag} (h : H a = some (.tup xs)) : SqT K H a xs := .inl (.inl h)
theorem Inv.list (I : Inv X pins σ H s) (h : SqL X.K H a xs) : ∃ its : List Value, Zbq xs its ∧ PlainL s.heap a its.toArray ∧ xs.length ≤ sizeLine := by
 rcases h with h | ⟨o, its, n, hk, hc, hd, hs, hz, r⟩
 ·obtain ⟨z, its, n, r, e⟩ := h.ok I.hok
  exact ⟨its, r, ⟨_, n, e, rfl, rfl, rfl⟩, z⟩
 ·refine ⟨its.toList, r, ⟨o, n, I.kIn a o hk, hc, hd, by simpa using hs⟩, ?_⟩
  have e := r.length
  simp only [Array.length_toList] at e
  omega
theorem Inv.tuple (I : Inv X pins σ H s) (h : SqT X.K H a xs) : ∃ its : List Value, Zbq xs its ∧ IsTup s.heap a its.toArray ∧ xs.length ≤ sizeLine := by
 rcases h with h | ⟨o, its, n, hk, hc, hs, hz, r, _⟩
 ·obtain ⟨z, its, r, p⟩ := h.ok I.hok
  exact ⟨its, r, p.tup, z⟩
 ·refine ⟨its.toList, r, ⟨o, I.kIn a o hk, hc, n, by simpa using hs⟩, ?_⟩
  have e := r.length
  simp only [Array.length_toList] at e
  omega
theorem Inv.list_inj (I : Inv X pins σ H s) (h : SqL X.K H a xs) (h' : SqL X.K H a ys) : xs = ys := by
 obtain ⟨its, r, ⟨o, n, e, _, _, d⟩, _⟩ := I.list h
 obtain ⟨its', r', ⟨o', n', e', _, _, d'⟩, _⟩ := I.list h'
 rw [e] at e'; cases e'
 rw [d] at d'
 injection d' with d1 _
 have : its = its' := by simpa using congrArg Array.toList d1
 subst this
 exact r.inj r'
theorem Inv.tuple_inj (I : Inv X pins σ H s) (h : SqT X.K H a xs) (h' : SqT X.K H a ys) : xs = ys := by
 obtain ⟨its, r, ⟨o, e, _, n, d⟩, _⟩ := I.tuple h
 obtain ⟨its', r', ⟨o', e', _, n', d'⟩, _⟩ := I.tuple h'
 rw [e] at e'; cases e'
 rw [d] at d'
 injection d' with d1 _
 have : its = its' := by simpa using congrArg Array.toList d1
 subst this
 exact r.inj r'
end
noncomputable abbrev Cx.wish (X : Cx) (E : Value -> Shared -> Prop) : Cx := { X with xe := E }
noncomputable abbrev Cx.nox (X : Cx) : Cx := X.wish fun _ _ => False
theorem Cx.Ok.wish {X : Cx} (ok : X.Ok) (E : Value -> Shared -> Prop) : (X.wish E).Ok :=
 ⟨ok.mod, ok.kind, ok.glob, ok.blt, ok.above, ok.inj, ok.has, ok.cab, ok.hd, ok.frames, ok.stk, ok.exf, ok.bs, ok.bsz, ok.noex, ok.exfs, ok.funs, ok.frf⟩
theorem Cx.Ok.unwish {X : Cx} {E : Value -> Shared -> Prop} (ok : (X.wish E).Ok) : X.Ok :=
 ⟨ok.mod, ok.kind, ok.glob, ok.blt, ok.above, ok.inj, ok.has, ok.cab, ok.hd, ok.frames, ok.stk, ok.exf, ok.bs, ok.bsz, ok.noex, ok.exfs, ok.funs, ok.frf⟩
section
variable {X : Cx} {pins : List (Addr × Obj)} {σ : St} {H : Hp} {s : Shared} {E : Value -> Shared -> Prop}
theorem Inv.wish (I : Inv X pins σ H s) (E : Value -> Shared -> Prop) : Inv (X.wish E) pins σ H s := ⟨I.ok.wish E, I.os, I.bare, I.base, I.loc, I.cell, I.free, I.freeC, I.pin, I.hok, I.len⟩
theorem Inv.unwish (I : Inv (X.wish E) pins σ H s) : Inv X pins σ H s := ⟨I.ok.unwish, I.os, I.bare, I.base, I.loc, I.cell, I.free, I.freeC, I.pin, I.hok, I.len⟩
theorem SP.unwish {D : Ends} {f : Flow} {s' : Shared} (h : SP (X.wish E) pins D f s') : SP X pins D f s' := by
 cases f with
 | next => obtain ⟨σ', H', I, q⟩ := h; exact ⟨σ', H', I.unwish, q⟩
 | brk => obtain ⟨σ', H', I, q⟩ := h; exact ⟨σ', H', I.unwish, q⟩
 | cont => obtain ⟨σ', H', I, q⟩ := h; exact ⟨σ', H', I.unwish, q⟩
 | ret u => obtain ⟨v, σ', H', I, r, q⟩ := h; exact ⟨v, σ', H', I.unwish, r, q⟩
theorem PT.nox {e : Expr} {t : TT} (h : PT X.nox e t) : PT X e t := fun pins s σ H Q I hw =>
 wpAny_mono (h pins s σ H Q (I.wish _) hw) (fun _ _ ⟨H', I', q⟩ => ⟨H', I'.unwish, q⟩) fun _ _ z => False.elim z
theorem PSs.nox {st : List Stmt} {t : TS} (h : PSs X.nox st t) : PSs X st t := fun pins s σ H D I hw =>
 wpAny_mono (h pins s σ H D (I.wish _) hw) (fun _ _ q => q.unwish) fun _ _ z => False.elim z
end
section
variable {X : Cx} {st : Stmt} {Zbv : List Stmt} {t u : TS} {e : Expr} {te : TE} {pos : Pos}
noncomputable def tNext : TS := fun D σ H => D.nx σ H
noncomputable def tSeq (t u : TS) : TS := fun D σ H => t { D with nx := u D } σ H
theorem Zww : PSs X [] tNext := fun _ _ σ H _ I h => wpAny_execs_nil ⟨σ, H, I, h⟩
theorem Zfo (h1 : PS X st t) (h2 : PSs X Zbv u) : PSs X (st :: Zbv) (tSeq t u) := by
 intro pins s σ H D I h
 refine wpAny_execs_cons (thn (h1 pins s σ H { D with nx := u D } I h) fun f s1 q => ?_)
 cases f with
 | next =>
  obtain ⟨σ', H', I', q⟩ := q
  exact h2 pins s1 σ' H' D I' q
 | ret v => exact q
 | brk => exact q
 | cont => exact q
theorem Zwm (h1 : PS X st t) : PSs X [st] t := by
 intro pins s σ H D I h
 refine wpAny_execs_cons (thn (h1 pins s σ H D I h) fun f s1 q => ?_)
 cases f with
 | next => exact wpAny_execs_nil q
 | ret v => exact q
 | brk => exact q
 | cont => exact q
theorem Inv.quiet {pins : List (Addr × Obj)} {σ : St} {H : Hp} {s : Shared} (I : Inv X pins σ H s) : interactive X.env = false := by simp [interactive, I.ok.kind]
noncomputable def tDrop (te : TE) : TS := fun D σ H => te σ H fun _ H1 => D.nx σ H1
theorem Zvh (he : PE X e te) (hs : swapsWith e none pos.line X.env = pure false := by rfl) : PS X (.Expr e pos) (tDrop te) := by
 intro pins s σ H D I h
 exact wpAny_Expr_any (thn (he pins s σ H _ I h) fun v s1 ⟨x, H1, I1, r1, q1⟩ => ⟨σ, H1, I1, q1⟩) I.quiet hs
noncomputable def tRet (te : TE) : TS := fun D σ H => te σ H D.rt
theorem Zzt (he : PE X e te) : PS X (.Return (some e) pos) (tRet te) := by
 intro pins s σ H D I h
 exact wpAny_Return_some (thn (he pins s σ H _ I h) fun v s1 ⟨x, H1, I1, r1, q1⟩ => ⟨x, σ, H1, I1, r1, q1⟩)
noncomputable def tIfS (c : TT) (t u : TS) : TS := fun D σ H => c σ H fun b H1 => if b = true then t D σ H1 else u D σ H1
theorem Zyv {c : Expr} {a b : List Stmt} {tc : TT} (hc : PT X c tc) (ha : PSs X a t) (hb : PSs X b u) : PS X (.If c a b pos) (tIfS tc t u) := by
 intro pins s σ H D I h
 refine wpAny_If (thn (hc pins s σ H _ I h) fun d s1 zz => ?_)
 obtain ⟨H1, I1, q1⟩ := zz
 cases d with
 | true => exact ha pins s1 σ H1 D I1 q1
 | false => exact hb pins s1 σ H1 D I1 q1
end
noncomputable abbrev TG := V -> St -> Hp -> (St -> Hp -> Prop) -> Prop
noncomputable abbrev TGs := List V -> St -> Hp -> (St -> Hp -> Prop) -> Prop
noncomputable def PG (X : Cx) (target : Expr) (t : TG) : Prop :=
 ∀ (pins : List (Addr × Obj)) (s : Shared) (σ : St) (H : Hp) (v : V) (u : Value) (Q : St -> Hp -> Prop), Inv X pins σ H s -> Zcn v u -> t v σ H Q →
  wpAny (model X.prog X.w) X.A (assign target X.env u) (fun _ s' => ∃ σ' H', Inv X pins σ' H' s' ∧ Q σ' H') X.xe s
noncomputable def PGs (X : Cx) (ts : List Expr) (t : TGs) : Prop :=
 ∀ (pins : List (Addr × Obj)) (s : Shared) (σ : St) (H : Hp) (vs : List V) (us : List Value) (Q : St -> Hp -> Prop), Inv X pins σ H s -> Zbq vs us -> t vs σ H Q →
  wpAny (model X.prog X.w) X.A (assignInOrder ((assignEach ts X.env).map (·.2)) us) (fun _ s' => ∃ σ' H', Inv X pins σ' H' s' ∧ Q σ' H') X.xe s
noncomputable abbrev TSet := V -> V -> V -> Hp -> (Hp -> Prop) -> Prop
noncomputable def PSet (X : Cx) (t : TSet) : Prop :=
 ∀ (pins : List (Addr × Obj)) (s : Shared) (σ : St) (H : Hp) (o i v : V) (ov iv u : Value) (Q : Hp -> Prop), Inv X pins σ H s -> Zcn o ov -> Zcn i iv -> Zcn v u -> t o i v H Q →
  wpAny (model X.prog X.w) X.A (setItem ov iv u) (fun _ s' => ∃ H', Inv X pins σ H' s' ∧ Q H') X.xe s
noncomputable abbrev TIp := V -> V -> Hp -> VK -> Prop
noncomputable def PIp (X : Cx) (op : Operator) (t : TIp) : Prop :=
 ∀ (pins : List (Addr × Obj)) (s : Shared) (σ : St) (H : Hp) (x y : V) (v u : Value) (Q : VK), Inv X pins σ H s -> Zcn x v -> Zcn y u -> t x y H Q →
  wpAny (model X.prog X.w) X.A (inplaceOp op v u) (EP X pins σ Q) X.xe s
section
variable {X : Cx} {pos : Pos}
noncomputable def Zi8 (i : Nat) : TG := fun v σ H Q => Q (σ.set i (some v)) H
theorem Zjk {i : Nat} {x : Str} (hN : X.N.Nodup) (hi : X.N[i]? = some x) (hx : Loc X.env.scope x) (hf : X.fn x = true ∨ X.env.scope.names.lookup x = some .local := by first | exact .inl rfl | exact .inr rfl | assumption) : PG X (.Name x pos) (Zi8 i) := by
 intro pins s σ H v u Q I r h
 exact wpAny_assign_Name (Zgp I hN hi hx r (fun s' I' => ⟨_, H, I', h⟩) hf)
noncomputable def gNil : TGs := fun vs σ H Q => vs = [] ∧ Q σ H
noncomputable def Zqs (t : TG) (u : TGs) : TGs := fun vs σ H Q => ∃ v r, vs = v :: r ∧ t v σ H fun σ' H' => u r σ' H' Q
theorem Zpc : PGs X [] gNil := by
 intro pins s σ H vs us Q I r h
 obtain ⟨e, h⟩ := h
 subst e
 cases r
 exact assignInOrder_nil ⟨σ, H, I, h⟩
theorem Ziu {e : Expr} {es : List Expr} {t : TG} {u : TGs} (h1 : PG X e t) (h2 : PGs X es u)
  (hs : (assignEach (e :: es) X.env).map (·.2) = assign e X.env :: (assignEach es X.env).map (·.2) := by rfl) : PGs X (e :: es) (Zqs t u) := by
 intro pins s σ H vs us Q I r h
 obtain ⟨v, vr, e1, h⟩ := h
 subst e1
 cases r with
 | cons r rr =>
  rw [hs]
  refine assignInOrder_cons (thn (h1 pins s σ H _ _ _ I r h) fun _ s1 zz => ?_)
  obtain ⟨σ1, H1, I1, q1⟩ := zz
  exact h2 pins s1 σ1 H1 _ _ Q I1 rr q1
noncomputable def gTup (K : PySem.W.Frag) (n : Nat) (t : TGs) : TG := fun v σ H Q => ∃ a xs, v = .ref a ∧ SqT K H a xs ∧ xs.length = n ∧ t xs σ H Q
theorem Zuc {es : List Expr} {k : Nat} {t : TGs} {n : Nat} (hc : X.calm = true) (h : PGs X es t)
  (hn : (assignEach es X.env).length = n := by rfl) (hst : (assignEach es X.env).findIdx? (·.1) = none := by rfl) : PG X (.Tuple es k pos) (gTup X.K n t) := by
 intro pins s σ H v u Q I r hw
 obtain ⟨a, xs, e1, hq, hl, hw⟩ := hw
 subst e1
 cases r
 obtain ⟨its, rv, ht, hz⟩ := I.tuple hq
 refine assign_Tuple_tuple (I.ok.hd hc) ht (by simp [hn, ← hl, rv.length]) hst fun h' hx => ?_
 have I1 : Inv X pins σ H { s with heap := h' } := I.kept (t' := s.toks) fun b o e => hx b o (Nat.ne_of_lt (Heap.lt_size e)) e
 exact h pins _ σ H xs _ Q I1 (by simpa using rv) hw
noncomputable def gSub (to ti : TE) (t : TSet) : TG := fun v σ H Q => to σ H fun o H1 => ti σ H1 fun i H2 => t o i v H2 fun H3 => Q σ H3
theorem Zy8 {o i : Expr} {to ti : TE} {t : TSet} (ho : PE X o to) (hi : PE X i ti) (hs : PSet X t)
  (ha : ∀ v, assign (.Subscript o i pos) X.env v = (do
   let ov ← holding [v] (eval o X.env)
   let iv ← holding [v, ov] (eval i X.env)
   standAt pos
   holding [v, ov, iv] (setItem ov iv v)
   release [v, ov, iv] []) := by intro _; rfl) : PG X (.Subscript o i pos) (gSub to ti t) := by
 intro pins s σ H v u Q I r h
 rw [ha]
 refine wpAny_bind (wpAny_holding (thn (ho pins s σ H _ I h) fun ov s1 zz => ?_))
 obtain ⟨x, H1, I1, r1, q1⟩ := zz
 refine wpAny_bind (wpAny_holding (thn (hi pins s1 σ H1 _ I1 q1) fun iv s2 zz => ?_))
 obtain ⟨y, H2, I2, r2, q2⟩ := zz
 refine wpAny_bind (wpAny_standAt (wpAny_bind (wpAny_holding (thn (hs pins s2 σ H2 x y v ov iv u _ I2 r1 r2 r q2) fun _ s3 zz => ?_))))
 obtain ⟨H3, I3, q3⟩ := zz
 exact wpAny_release ⟨σ, H3, I3, q3⟩
noncomputable def tAsg (te : TE) (g : TG) : TS := fun D σ H => te σ H fun x H1 => g x σ H1 D.nx
theorem Zz1 {tg e : Expr} {te : TE} {g : TG} (he : PE X e te) (hg : PG X tg g) (hs : swapsWithSole [tg] e pos.line X.env = pure false := by rfl) (hw : swappedStores [tg] e X.env = pure none := by rfl)
  (h1 : (assignEach [tg] X.env).map (·.2) = [assign tg X.env] := by rfl) : PS X (.Assign [tg] e pos) (tAsg te g) := by
 intro pins s σ H D I h
 refine wpAny_Assign_stores (thn (he pins s σ H _ I h) fun v s1 ⟨x, H1, I1, r1, q1⟩ => ?_) hs hw
 rw [h1]
 exact thn (hg pins s1 σ H1 x v _ I1 r1 q1) fun _ s2 q => q
theorem Zqc {i : Nat} {x : Str} {e : Expr} {te : TE} {pos' : Pos} (hN : X.N.Nodup) (hi : X.N[i]? = some x) (hx : Loc X.env.scope x) (he : PE X e te) (hs : swapsWith e (some (.Name x pos')) pos.line X.env = pure false := by rfl) (hf : X.fn x = true ∨ X.env.scope.names.lookup x = some .local := by first | exact .inl rfl | exact .inr rfl | assumption) :
  PS X (.Assign [.Name x pos'] e pos) (tAsg te (Zi8 i)) := by
 intro pins s σ H D I h
 refine wpAny_Assign_Name (thn (he pins s σ H _ I h) fun v s1 ⟨y, H1, I1, r1, q1⟩ => ?_) hs
 exact Zgp I1 hN hi hx r1 (fun s2 I2 => ⟨_, H1, I2, q1⟩) hf
noncomputable def tAug (i : Nat) (te : TE) (ti : TIp) : TS := fun D σ H => ∃ x, σ[i]? = some (some x) ∧ te σ H fun y H1 => ti x y H1 fun z H2 => D.nx (σ.set i (some z)) H2
theorem Zyz {i : Nat} {x : Str} {e : Expr} {te : TE} {op : Operator} {ti : TIp} {pos' : Pos} (hN : X.N.Nodup) (hi : X.N[i]? = some x) (hx : Loc X.env.scope x) (he : PE X e te) (ho : PIp X op ti) (hf : X.fn x = true ∨ X.env.scope.names.lookup x = some .local := by first | exact .inl rfl | exact .inr rfl | assumption) :
  PS X (.AugAssign (.Name x pos') op e pos) (tAug i te ti) := by
 intro pins s σ H D I h
 obtain ⟨v, e1, h⟩ := h
 obtain ⟨m, hn, hl⟩ := I.loc
 have vis : Vis X.env.scope x := by rcases hx with k | k; exact .inl k; exact .inr (.inl k)
 obtain ⟨u, r, l⟩ := hl i x v hi e1 vis
 refine wpAny_AugAssign_Name ?_
 have go : wpAny (model X.prog X.w) X.A (eval e X.env) (fun w s₂ => wpAny (model X.prog X.w) X.A (inplaceOp op u w) (fun r s₃ => wpAny (model X.prog X.w) X.A (storeName X.env x r) (fun _ => SP X pins D .next) X.xe s₃) X.xe s₂) X.xe s := by
  refine thn (he pins s σ H _ I h) fun w s1 zz => ?_
  obtain ⟨y, H1, I1, r1, q1⟩ := zz
  refine thn (ho pins s1 σ H1 v y u w _ I1 r r1 q1) fun z s2 zz => ?_
  obtain ⟨zv, H2, I2, r2, q2⟩ := zz
  exact Zgp I2 hN hi hx r2 (fun s3 I3 => ⟨_, H2, I3, q2⟩) hf
 rcases l with ⟨hk, hm⟩ | ⟨hk, c, hc, hcell⟩
 ·exact wpAny_loadName_local I.ok.kind hk hn hm go
 ·rcases hk with hk | hk
  ·exact wpAny_loadName_cell I.ok.kind hk hc hcell go
  ·rcases hx with k | k
   ·have : X.env.scope.names.lookup x = some .free := hk
    rw [k] at this; cases this
   ·have : X.env.scope.names.lookup x = some .free := hk
    rw [k] at this; cases this
noncomputable def ipI (f : Int -> Int -> Int) : TIp := fun x y H Q => ∃ i j, x = .int i ∧ y = .int j ∧ Q (.int (f i j)) H
theorem Zxz : PIp X .Sub (ipI fun i j => i - j) := by
 intro pins s σ H x y v u Q I r1 r2 h
 obtain ⟨i, j, e1, e2, q⟩ := h
 subst e1; subst e2
 obtain ⟨t, rfl⟩ := r1
 obtain ⟨t', rfl⟩ := r2
 exact isub_int ⟨.int _, H, I.tok _, ⟨_, rfl⟩, q⟩
end
section
variable {X : Cx} {pos : Pos}
noncomputable def Zyl (c : TT) (tb : TS) : TS := fun D σ H => ∃ W : Nat -> St -> Hp -> Prop, (∃ m, W m σ H) ∧ ∀ m σ H, W m σ H →
 c σ H fun b H1 => if b = true then ∃ N : St -> Hp -> Prop, (∀ σ' H', N σ' H' -> ∃ m', m' < m ∧ W m' σ' H') ∧ tb { D with nx := N, ct := N, bk := D.nx } σ H1 else D.nx σ H1
theorem Zsp {c : Expr} {body : List Stmt} {tc : TT} {tb : TS} (hp : PassesOwn (model X.prog X.w) X.A X.env X.xe) (hc : PT X c tc) (hb : PSs X body tb) : PS X (.While c body [] pos) (Zyl tc tb) := by
 intro pins s σ H D I h
 obtain ⟨W, ⟨m0, w0⟩, turn⟩ := h
 refine wpAny_While (codeAny_whileLoop (fun n s' => ∃ σ' H', Inv X pins σ' H' s' ∧ W n σ' H') ?_ m0 ⟨σ, H, I, w0⟩)
 rintro n s1 ⟨σ1, H1, I1, w1⟩
 refine wpAny_passesOwn hp (thn (hc pins s1 σ1 H1 _ I1 (turn n σ1 H1 w1)) fun b s2 zz => ?_)
 obtain ⟨H2, I2, q2⟩ := zz
 cases b with
 | true =>
  obtain ⟨N, hN, q2⟩ := q2
  rw [if_pos rfl]
  refine wpAny_passesOwn hp (thn (hb pins s2 σ1 H2 _ I2 q2) fun f s3 q3 => ?_)
  cases f with
  | next =>
   obtain ⟨σ3, H3, I3, n3⟩ := q3
   obtain ⟨m', hm, w3⟩ := hN σ3 H3 n3
   exact ⟨m', hm, σ3, H3, I3, w3⟩
  | cont =>
   obtain ⟨σ3, H3, I3, n3⟩ := q3
   obtain ⟨m', hm, w3⟩ := hN σ3 H3 n3
   exact ⟨m', hm, σ3, H3, I3, w3⟩
  | brk => exact q3
  | ret v => exact q3
 | false =>
  rw [if_neg Bool.false_ne_true]
  exact wpAny_execs_nil ⟨σ1, H2, I2, q2⟩
end
structure It where
 go : Nat -> Hp -> Prop
 yld : Nat -> Hp -> V -> Hp -> Prop
 stop : Nat -> Hp -> Prop
noncomputable def Zl0 (X : Cx) (pins : List (Addr × Obj)) (H : Hp) (b : Addr) : Prop :=
 H b = none ∧ b ≠ X.env.locals ∧ b ∉ X.fs ∧ (b ∈ X.ex ∨ X.s₀.heap.objs.size ≤ b) ∧ (∀ x c, X.env.cells.lookup x = some c -> c ≠ b) ∧ ∀ p ∈ X.pn ++ pins, p.1 ≠ b
theorem Inv.fpOk {X : Cx} {pins : List (Addr × Obj)} {σ : St} {H H' : Hp} {s : Shared} {b : Addr} (I : Inv X pins σ H s) (hb : s.heap.objs.size ≤ b) (hn : H' b = none) : Zl0 X pins H' b := by
 refine ⟨hn, Nat.ne_of_gt (Nat.lt_of_lt_of_le I.lt hb), I.nofs hb, .inr (Nat.le_trans I.sz hb), fun x c e z => ?_, fun p hp z => ?_⟩
 ·obtain ⟨v, q⟩ := I.cell x c e
  exact absurd (Nat.lt_of_lt_of_le q.lt (by rw [z]; exact hb)) (Nat.lt_irrefl _)
 ·exact absurd (Nat.lt_of_lt_of_le (Heap.lt_size (I.pin p hp).1) (by rw [z]; exact hb)) (Nat.lt_irrefl _)
structure Turn (P : Program) (w : World) (K : PySem.W.Frag) (tg : Expr) (J : It) (fp : List Addr) (it : Addr) (tn : Nat -> Heap -> Prop) : Prop where
 mem : it ∈ fp
 obj : ∀ i h, tn i h -> ∀ b ∈ fp, ∃ o, h.get? b = some o ∧ ∀ v, o.data ≠ .cell v
 keep : ∀ i h h', tn i h -> (∀ b ∈ fp, ∀ o, h.get? b = some o -> h'.get? b = some o) -> tn i h'
 item : ∀ (X : Cx), X.prog = P -> X.w = w -> X.K = K -> X.calm = true -> ∀ (i : Nat) (pins : List (Addr × Obj)) (s : Shared) (σ : St) (H : Hp) (E : Value -> Shared -> Prop), Inv X pins σ H s -> (∀ b ∈ fp, Zl0 X pins H b) -> tn i s.heap -> J.go i H →
  wpAny (model P w) X.A (pyNext (.ref it)) (fun r s1 => ∃ u, r = some u ∧
   wpAny (model P w) X.A (letOwnedTupleGo tg (.ref it) u) (fun _ s2 => ∃ x H', Inv X pins σ H' s2 ∧ Zcn x u ∧ J.yld i H x H' ∧ tn (i + 1) s2.heap ∧ ∀ b ∈ fp, H' b = none) E s1) E s
 done : ∀ (X : Cx), X.prog = P -> X.w = w -> X.K = K -> X.calm = true -> ∀ (i : Nat) (pins : List (Addr × Obj)) (s : Shared) (σ : St) (H : Hp) (E : Value -> Shared -> Prop), Inv X pins σ H s -> (∀ b ∈ fp, Zl0 X pins H b) -> tn i s.heap -> J.stop i H →
  wpAny (model P w) X.A (pyNext (.ref it)) (fun r s1 => r = none ∧ Inv X pins σ H s1) E s
 self : ∀ (A : Around) (i : Nat) (s : Shared) (Q : Value -> Shared -> Prop) (E : Value -> Shared -> Prop), tn i s.heap -> Q (.ref it) s -> wpAny (model P w) A (pyIter (.ref it)) Q E s
noncomputable abbrev TI := St -> Hp -> (It -> Hp -> Prop) -> Prop
noncomputable def PIE (X : Cx) (pins : List (Addr × Obj)) (σ : St) (tg : Expr) (R : It -> Hp -> Prop) (itv : Value) (s2 : Shared) : Prop :=
 ∃ (it : Addr) (fp : List Addr) (tn : Nat -> Heap -> Prop) (J : It) (H' : Hp), itv = .ref it ∧ Inv X pins σ H' s2 ∧ Turn X.prog X.w X.K tg J fp it tn ∧ tn 0 s2.heap ∧ (∀ b ∈ fp, Zl0 X pins H' b) ∧ R J H'
noncomputable def PI (X : Cx) (tg iter : Expr) (wi : TI) : Prop :=
 ∀ (pins : List (Addr × Obj)) (s : Shared) (σ : St) (H : Hp) (R : It -> Hp -> Prop), Inv X pins σ H s -> wi σ H R →
  wpAny (model X.prog X.w) X.A (eval iter X.env) (fun v s1 => wpAny (model X.prog X.w) X.A (pyIter v) (PIE X pins σ tg R) X.xe s1) X.xe s
theorem Zou {M : Model} {A : Around} {E : Value -> Shared -> Prop} {s : Shared} {tg : Expr} {it : Addr} {u : Value} {o : Obj} {n : String} {vs : Array Value} {Q : Unit -> Shared -> Prop} (ho : s.heap.get? it = some o) (hc : o.cls = .type n) (hd : o.data = .fields vs)
  (hn : ["enumerate", "zip", "dict_itemiterator", "dict_reverseitemiterator", "odict_iterator", "itertools.zip_longest", "itertools.pairwise"].contains n = false) (hQ : Q () s) : wpAny M A (letOwnedTupleGo tg (.ref it) u) Q E s := by
 unfold letOwnedTupleGo
 cases tg <;> first
  | exact wpAny_pure hQ
  | (cases u <;> first
    | exact wpAny_pure hQ
    | (refine wpAny_bind (wpAny_load ho ?_)
       rw [hc, hd]
       show wpAny M A (if (["enumerate", "zip", "dict_itemiterator", "dict_reverseitemiterator", "odict_iterator", "itertools.zip_longest", "itertools.pairwise"].contains n && vs[0]? == some (rawInt _)) = true then _ else _) Q E s
       rw [if_neg (by intro h; rw [hn, Bool.false_and] at h; cases h)]
       exact wpAny_pure hQ))
noncomputable def Itl (K : PySem.W.Frag) (a : Addr) : It :=
 ⟨fun i H => ∃ xs x, SqL K H a xs ∧ xs[i]? = some x, fun i H x H' => H' = H ∧ ∀ xs, SqL K H a xs -> xs[i]? = some x, fun i H => ∃ xs, SqL K H a xs ∧ xs.length ≤ i⟩
noncomputable def Itt (K : PySem.W.Frag) (a : Addr) : It :=
 ⟨fun i H => ∃ xs x, SqT K H a xs ∧ xs[i]? = some x, fun i H x H' => H' = H ∧ ∀ xs, SqT K H a xs -> xs[i]? = some x, fun i H => ∃ xs, SqT K H a xs ∧ xs.length ≤ i⟩
noncomputable def Itr (lo : Int) (n : Nat) : It := ⟨fun i _ => i < n, fun i H x H' => H' = H ∧ x = .int (lo + i), fun i _ => n ≤ i⟩
theorem Zp0 {P : Program} {w : World} {K : PySem.W.Frag} {tg : Expr} (a it : Addr) : Turn P w K tg (Itl K a) [it] it (fun i h => h.IsListIter it a i) where
 mem := by simp
 obj := fun i h st b hb => by
  have e : b = it := by simpa using hb
  subst e
  obtain ⟨o, e, c, d⟩ := st
  exact ⟨o, e, fun v z => by rw [d] at z; cases z⟩
 keep := fun i h h' st k => st.at fun o e => k it (by simp) o e
 item := by
  intro X hP hw hK hc i pins s σ H E I hf st hg
  subst hP hw hK
  obtain ⟨xs, x, hq, hx⟩ := hg
  obtain ⟨its, rv, p, hz⟩ := I.list hq
  obtain ⟨u, hu, ru⟩ := rv.get hx
  obtain ⟨f0, f1, f2, f3, f4, f5⟩ := hf it (by simp)
  refine wpAny_pyNext_list_item st p.isList (x := u) (by simpa using hu) fun h' st' sb => ?_
  have I1 : Inv X pins σ H { s with heap := h' } := I.turned (t' := s.toks) (fun b o hb e => (sb.2 b hb).trans e) f0 f1 f3 f4 f5
  obtain ⟨o, e, c, d⟩ := id st'
  exact ⟨u, rfl, Zou (s := { s with heap := h' }) e c d (by decide) ⟨x, H, I1, ru, ⟨rfl, fun ys hy => by rw [I.list_inj hy hq]; exact hx⟩, st', fun b hb => (hf b hb).1⟩⟩
 done := by
  intro X hP hw hK hc i pins s σ H E I hf st hg
  subst hP hw hK
  obtain ⟨xs, hq, hx⟩ := hg
  obtain ⟨its, rv, p, hz⟩ := I.list hq
  obtain ⟨f0, f1, f2, f3, f4, f5⟩ := hf it (by simp)
  have hl := rv.length
  exact wpAny_pyNext_list_end (I.ok.hd hc) st p.isList (by simp; omega) fun h' eb => ⟨rfl, I.turned (t' := s.toks) (fun b o hb e => eb b o hb e) f0 f1 f3 f4 f5⟩
 self := fun _ _ _ _ _ st h => wpAny_pyIter_listiter st h
theorem Zn2 {P : Program} {w : World} {K : PySem.W.Frag} {tg : Expr} (a it : Addr) : Turn P w K tg (Itt K a) [it] it (fun i h => h.IsTupleIter it a i) where
 mem := by simp
 obj := fun i h st b hb => by
  have e : b = it := by simpa using hb
  subst e
  obtain ⟨o, e, c, d⟩ := st
  exact ⟨o, e, fun v z => by rw [d] at z; cases z⟩
 keep := fun i h h' st k => st.at fun o e => k it (by simp) o e
 item := by
  intro X hP hw hK hc i pins s σ H E I hf st hg
  subst hP hw hK
  obtain ⟨xs, x, hq, hx⟩ := hg
  obtain ⟨its, rv, p, hz⟩ := I.tuple hq
  obtain ⟨u, hu, ru⟩ := rv.get hx
  obtain ⟨f0, f1, f2, f3, f4, f5⟩ := hf it (by simp)
  refine wpAny_pyNext_tuple_item st (show s.heap.IsTuple a its.toArray from p) (x := u) (by simpa using hu) fun h' st' sb => ?_
  have I1 : Inv X pins σ H { s with heap := h' } := I.turned (t' := s.toks) (fun b o hb e => (sb.2 b hb).trans e) f0 f1 f3 f4 f5
  obtain ⟨o, e, c, d⟩ := id st'
  exact ⟨u, rfl, Zou (s := { s with heap := h' }) e c d (by decide) ⟨x, H, I1, ru, ⟨rfl, fun ys hy => by rw [I.tuple_inj hy hq]; exact hx⟩, st', fun b hb => (hf b hb).1⟩⟩
 done := by
  intro X hP hw hK hc i pins s σ H E I hf st hg
  subst hP hw hK
  obtain ⟨xs, hq, hx⟩ := hg
  obtain ⟨its, rv, p, hz⟩ := I.tuple hq
  obtain ⟨f0, f1, f2, f3, f4, f5⟩ := hf it (by simp)
  have hl := rv.length
  exact wpAny_pyNext_tuple_end (I.ok.hd hc) st (show s.heap.IsTuple a its.toArray from p) (by simp; omega) fun h' eb => ⟨rfl, I.turned (t' := s.toks) (fun b o hb e => eb b o hb e) f0 f1 f3 f4 f5⟩
 self := fun _ _ _ _ _ st h => wpAny_pyIter_tupleiter st h
theorem Zn5 {P : Program} {w : World} {K : PySem.W.Frag} {tg : Expr} (it : Addr) (lo : Int) (n : Nat) : Turn P w K tg (Itr lo n) [it] it (fun i h => IsRangeIter h it (lo + (i : Nat) * 1) ((n : Int) - (i : Nat)) 1) where
 mem := by simp
 obj := fun i h st b hb => by
  have e : b = it := by simpa using hb
  subst e
  exact ⟨_, st, fun v z => by
   have z' : Data.fields _ = Data.cell v := z
   cases z'⟩
 keep := fun i h h' st k => k it (by simp) _ st
 item := by
  intro X hP hw hK hc i pins s σ H E I hf st hg
  subst hP hw hK
  obtain ⟨f0, f1, f2, f3, f4, f5⟩ := hf it (by simp)
  have W := Walks.range (prog := X.prog) (w := X.w) (I.ok.hd hc) it lo 1 n
  refine W.item i s _ _ hg st fun v h' tk hv st' kk => ?_
  obtain ⟨t, rfl⟩ := hv
  have I1 : Inv X pins σ H { s with heap := h', toks := tk } := I.turned (fun b o hb e => kk b o (by simpa using hb) e) f0 f1 f3 f4 f5
  refine ⟨_, rfl, Zou (s := { s with heap := h', toks := tk }) (n := "range_iterator") st' rfl rfl (by decide) ⟨.int (lo + i), H, I1, ⟨t, ?_⟩, ⟨rfl, rfl⟩, st', fun b hb => (hf b hb).1⟩⟩
  rw [Int.mul_one]
 done := by
  intro X hP hw hK hc i pins s σ H E I hf st hg
  subst hP hw hK
  obtain ⟨f0, f1, f2, f3, f4, f5⟩ := hf it (by simp)
  exact wpAny_pyNext_range_end (I.ok.hd hc) st (by have : n ≤ i := hg; omega) fun h' eb => ⟨rfl, I.turned (t' := s.toks) (fun b o hb e => eb b o hb e) f0 f1 f3 f4 f5⟩
 self := fun _ _ _ _ _ st h => wpAny_pyIter_rangeiter st h
section
variable {X : Cx} {tg : Expr}
theorem Znf {pins : List (Addr × Obj)} {σ : St} {H : Hp} {s : Shared} {R : It -> Hp -> Prop} {E : Value -> Shared -> Prop} {lo hi : Int} {t u v : Tok} {tk : Nat} (I : Inv X pins σ H s) (h1 : -(2 ^ 62) ≤ lo) (h2 : lo < 2 ^ 62) (h3 : -(2 ^ 62) ≤ hi) (h4 : hi < 2 ^ 62)
  (q : R (Itr lo (hi - lo).toNat) H) : wpAny (model X.prog X.w) X.A (pyIter (.ref s.heap.objs.size)) (PIE X pins σ tg R) E { s with heap := s.heap.push { cls := .type "range", data := .fields #[.int lo t, .int hi u, .int 1 v] }, toks := tk } := by
 refine wpAny_pyIter_range (IsRange.new ..) (small_one h1 h2 h3 h4) ?_
 have I1 : Inv X pins σ H { s with heap := s.heap.push { cls := .type "range", data := .fields #[.int lo t, .int hi u, .int 1 v] }, toks := tk } := I.kept fun b o e => Heap.get?_push_of_some _ e
 refine ⟨(s.heap.push { cls := .type "range", data := .fields #[.int lo t, .int hi u, .int 1 v] }).objs.size, [(s.heap.push { cls := .type "range", data := .fields #[.int lo t, .int hi u, .int 1 v] }).objs.size], _, _, H, rfl,
  I1.kept (t' := tk) fun b o e => Heap.get?_push_of_some _ e, Zn5 _ lo (hi - lo).toNat, ?_, fun b hb => ?_, q⟩
 ·have e1 : lo + ((0 : Nat) : Int) * 1 = lo := by simp
  have e2 : (((hi - lo).toNat : Nat) : Int) - ((0 : Nat) : Int) = Builtin.Range.rangeSize lo hi 1 := by rw [rangeSize_one]; split <;> omega
  show IsRangeIter _ _ (lo + ((0 : Nat) : Int) * 1) ((((hi - lo).toNat : Nat) : Int) - ((0 : Nat) : Int)) 1
  rw [e1, e2]
  exact Heap.get?_push_size _ rfl
 ·have e : b = (s.heap.push { cls := .type "range", data := .fields #[.int lo t, .int hi u, .int 1 v] }).objs.size := by simpa using hb
  subst e
  exact I1.fpOk (Nat.le_refl _) (I1.hok.fresh (Nat.le_refl _))
noncomputable def iRng1 (ta : TA) : TI := fun σ H R => ta σ H fun vs H1 => ∃ j : Int, vs = [.int j] ∧ -(2 ^ 62) ≤ j ∧ j < 2 ^ 62 ∧ R (Itr 0 j.toNat) H1
noncomputable def iRng2 (ta : TA) : TI := fun σ H R => ta σ H fun vs H1 => ∃ i j : Int, vs = [.int i, .int j] ∧ (-(2 ^ 62) ≤ i ∧ i < 2 ^ 62 ∧ -(2 ^ 62) ≤ j ∧ j < 2 ^ 62) ∧ R (Itr i (j - i).toNat) H1
theorem Zo3 {a : Expr} {ta : TA} {p pos : Pos} (hg : Gl X "range") (hm : X.mg "range" = none) (ha : PA X [a] ta) (hs : starEach [a] X.env = [(false, eval a X.env)] := by rfl) : PI X tg (.Call (.Name "range" p) [a] [] pos) (iRng1 ta) := by
 intro pins s σ H R I h
 refine Call_ (Zeu I hg hm boot_range (PyProof.Rows.callWith_type1 (thn (ha pos pins s σ H _ I h) fun us s1 ⟨vs, H1, I1, r1, q1⟩ => ?_) hs rfl))
 obtain ⟨j, e, q1, q2, q⟩ := q1
 subst e
 cases r1 with
 | cons r rr =>
  cases rr
  obtain ⟨t, rfl⟩ := r
  exact call_range_1 (Znf I1 (by omega) (by omega) q1 q2 (by simpa using q))
theorem Zrq {a b : Expr} {ta : TA} {p pos : Pos} (hg : Gl X "range") (hm : X.mg "range" = none) (ha : PA X [a, b] ta) (hs : starEach [a, b] X.env = [(false, eval a X.env), (false, eval b X.env)] := by rfl) (hs2 : starEach [b] X.env = [(false, eval b X.env)] := by rfl) :
  PI X tg (.Call (.Name "range" p) [a, b] [] pos) (iRng2 ta) := by
 intro pins s σ H R I h
 refine Call_ (Zeu I hg hm boot_range (PyProof.Rows.callWith_type1 (thn (ha pos pins s σ H _ I h) fun us s1 ⟨vs, H1, I1, r1, q1⟩ => ?_) (by rw [hs, hs2]) (by rw [hs2]; rfl)))
 obtain ⟨i, j, e, ⟨q1, q2, q3, q4⟩, q⟩ := q1
 subst e
 cases r1 with
 | cons r rr =>
  cases rr with
  | cons r' rr =>
   cases rr
   obtain ⟨t, rfl⟩ := r
   obtain ⟨t', rfl⟩ := r'
   exact call_range_2 (Znf I1 q1 q2 q3 q4 q)
noncomputable def tFor (wi : TI) (g : TG) (tb : TS) : TS := fun D σ H => wi σ H fun J H1 => ∃ W : Nat -> Nat -> St -> Hp -> Prop, (∃ m, W 0 m σ H1) ∧ ∀ i m σ H, W i m σ H →
 (J.stop i H ∧ D.nx σ H) ∨ (J.go i H ∧ ∃ N : St -> Hp -> Prop, (∀ σ' H', N σ' H' -> ∃ m', m' < m ∧ W (i + 1) m' σ' H') ∧ ∀ x H', J.yld i H x H' -> g x σ H' fun σ2 H2 => tb { D with nx := N, ct := N, bk := D.nx } σ2 H2)
noncomputable def Zh9 (fp : List Addr) (h : Heap) : List (Addr × Obj) := fp.filterMap fun b => (h.get? b).map fun o => (b, o)
theorem Zdn {fp : List Addr} {h : Heap} {b : Addr} {o : Obj} (hb : b ∈ fp) (e : h.get? b = some o) : (b, o) ∈ Zh9 fp h := List.mem_filterMap.mpr ⟨b, hb, by rw [e]; rfl⟩
theorem Zpv {fp : List Addr} {h : Heap} {p : Addr × Obj} (hp : p ∈ Zh9 fp h) : p.1 ∈ fp ∧ h.get? p.1 = some p.2 := by
 obtain ⟨b, hb, e⟩ := List.mem_filterMap.mp hp
 cases q : h.get? b with
 | none => rw [q] at e; cases e
 | some o =>
  rw [q] at e
  have e' : (b, o) = p := Option.some.inj e
  subst e'
  exact ⟨hb, q⟩
theorem Inv.pinned {pins : List (Addr × Obj)} {σ : St} {H : Hp} {s : Shared} {fp : List Addr} (I : Inv X pins σ H s) (hf : ∀ b ∈ fp, Zl0 X pins H b) (ho : ∀ b ∈ fp, ∃ o, s.heap.get? b = some o ∧ ∀ v, o.data ≠ .cell v) : Inv X (pins ++ Zh9 fp s.heap) σ H s :=
 I.pins_of fun p hp => (List.mem_append.mp hp).elim (fun z => I.pin p (List.mem_append_right _ z)) fun z => by
  obtain ⟨hb, e⟩ := Zpv z
  obtain ⟨f0, f1, f2, _⟩ := hf p.1 hb
  obtain ⟨o, e', d⟩ := ho p.1 hb
  rw [e] at e'; cases e'
  exact ⟨e, f0, f1, f2, d⟩
theorem Inv.unpinned {pins pl : List (Addr × Obj)} {σ : St} {H : Hp} {s : Shared} (I : Inv X (pins ++ pl) σ H s) : Inv X pins σ H s := I.pins_of fun p hp => I.pin p (List.mem_append_right _ (List.mem_append_left _ hp))
theorem Zyy {iter : Expr} {body : List Stmt} {wi : TI} {g : TG} {tb : TS} {pos : Pos} (hp : PassesOwn (model X.prog X.w) X.A X.env X.xe) (hc : X.calm = true) (hi : PI X tg iter wi) (hg : PG X tg g) (hb : PSs X body tb)
  (hs : ∀ x, foldedSetIterable iter X.env x = pure x := by intro _; rfl) : PS X (.For tg iter body [] pos) (tFor wi g tb) := by
 intro pins s σ H D I h
 refine wpAny_For (thn (hi pins s σ H _ I h) fun v s1 h1 => thn h1 fun itv s2 h2 => ?_) hs
 obtain ⟨it, fp, tn, J, H2, e, I2, T, st2, f2, W, ⟨m0, w0⟩, turn⟩ := h2
 subst e
 -- what stays true of the iterator's objects through the loop
 have stat : ∀ {H' : Hp}, (∀ b ∈ fp, H' b = none) -> ∀ b ∈ fp, Zl0 X pins H' b := fun hn b hb => ⟨hn b hb, (f2 b hb).2⟩
 refine codeAny_forLoop_any (fun n s' => ∃ i σ' H', Inv X pins σ' H' s' ∧ tn i s'.heap ∧ (∀ b ∈ fp, H' b = none) ∧ W i n σ' H') ?_ m0 ⟨0, σ, H2, I2, st2, fun b hb => (f2 b hb).1, w0⟩
 rintro n s3 ⟨i, σ3, H3, I3, st3, fr3, w3⟩
 rcases turn i n σ3 H3 w3 with ⟨stop, qn⟩ | ⟨go, N, hN, step⟩
 ·refine wpAny_passesOwn hp (thn (T.done X rfl rfl rfl hc i pins s3 σ3 H3 X.xe I3 (stat fr3) st3 stop) fun r s4 zz => ?_)
  obtain ⟨hr, I4⟩ := zz
  subst hr
  exact wpAny_execs_nil ⟨σ3, H3, I4, qn⟩
 ·refine wpAny_passesOwn hp (thn (T.item X rfl rfl rfl hc i pins s3 σ3 H3 X.xe I3 (stat fr3) st3 go) fun r s4 zz => ?_)
  obtain ⟨u, hr, h4⟩ := zz
  subst hr
  refine wpAny_passesOwn hp (thn h4 fun _ s5 zz => ?_)
  obtain ⟨x, H5, I5, r5, y5, st5, fr5⟩ := zz
  have I5' := I5.pinned (stat fr5) (T.obj _ _ st5)
  refine wpAny_passesOwn hp (thn (hg _ s5 σ3 H5 x u _ I5' r5 (step x H5 y5)) fun _ s6 zz => ?_)
  obtain ⟨σ6, H6, I6, q6⟩ := zz
  refine wpAny_passesOwn hp (thn (hb _ s6 σ6 H6 _ I6 q6) fun f s7 q7 => ?_)
  have again : ∀ {σ7 : St} {H7 : Hp}, Inv X (pins ++ Zh9 fp s5.heap) σ7 H7 s7 -> N σ7 H7 -> ∃ m, m < n ∧ ∃ i σ' H', Inv X pins σ' H' s7 ∧ tn i s7.heap ∧ (∀ b ∈ fp, H' b = none) ∧ W i m σ' H' := fun {σ7 H7} I7 n7 => by
   obtain ⟨m', hm, w7⟩ := hN σ7 H7 n7
   refine ⟨m', hm, i + 1, σ7, H7, I7.unpinned, T.keep _ _ _ st5 fun b hb o e => (I7.pin (b, o) (List.mem_append_right _ (List.mem_append_right _ (Zdn hb e)))).1, fun b hb => ?_, w7⟩
   obtain ⟨o, e, d⟩ := T.obj _ _ st5 b hb
   exact (I7.pin (b, o) (List.mem_append_right _ (List.mem_append_right _ (Zdn hb e)))).2.1
  cases f with
  | next => obtain ⟨σ7, H7, I7, n7⟩ := q7; exact again I7 n7
  | cont => obtain ⟨σ7, H7, I7, n7⟩ := q7; exact again I7 n7
  | brk => obtain ⟨σ7, H7, I7, q7⟩ := q7; exact ⟨σ7, H7, I7.unpinned, q7⟩
  | ret v => obtain ⟨x7, σ7, H7, I7, r7, q7⟩ := q7; exact ⟨x7, σ7, H7, I7.unpinned, r7, q7⟩
end
noncomputable abbrev R2 := V -> V -> Hp -> VK -> Prop
noncomputable def OpR (X : Cx) (f : Value -> Value -> Sem Value) (r : R2) : Prop :=
 ∀ (pins : List (Addr × Obj)) (s : Shared) (σ : St) (H : Hp) (x y : V) (v u : Value) (Q : VK), Inv X pins σ H s -> Zcn x v -> Zcn y u -> r x y H Q →
  wpAny (model X.prog X.w) X.A (f v u) (EP X pins σ Q) X.xe s
noncomputable def UnR (X : Cx) (f : Value -> Sem Value) (r : V -> Hp -> VK -> Prop) : Prop :=
 ∀ (pins : List (Addr × Obj)) (s : Shared) (σ : St) (H : Hp) (x : V) (v : Value) (Q : VK), Inv X pins σ H s -> Zcn x v -> r x H Q →
  wpAny (model X.prog X.w) X.A (f v) (EP X pins σ Q) X.xe s
noncomputable def Zf7 (X : Cx) (f : Value) (r : List V -> Hp -> VK -> Prop) : Prop :=
 ∀ (pins : List (Addr × Obj)) (s : Shared) (σ : St) (H : Hp) (xs : List V) (us : List Value) (Q : VK), Inv X pins σ H s -> Zbq xs us -> r xs H Q →
  wpAny (model X.prog X.w) X.A (call f us) (EP X pins σ Q) X.xe s
noncomputable def TruR (X : Cx) (r : V -> Hp -> (Bool -> Hp -> Prop) -> Prop) : Prop :=
 ∀ (pins : List (Addr × Obj)) (s : Shared) (σ : St) (H : Hp) (x : V) (v : Value) (Q : Bool -> Hp -> Prop), Inv X pins σ H s -> Zcn x v -> r x H Q →
  wpAny (model X.prog X.w) X.A (truthy v) (TP X pins σ Q) X.xe s
noncomputable def tOp (r : R2) (ta tb : TE) : TE := fun σ H Q => ta σ H fun x H1 => tb σ H1 fun y H2 => r x y H2 Q
noncomputable def tUn (r : V -> Hp -> VK -> Prop) (ta : TE) : TE := fun σ H Q => ta σ H fun x H1 => r x H1 Q
noncomputable def rI (C : Int -> Int -> Prop) (g : Int -> Int -> V) : R2 := fun x y H Q => ∃ i j, x = .int i ∧ y = .int j ∧ C i j ∧ Q (g i j) H
noncomputable def rI0 (g : Int -> Int -> V) : R2 := fun x y H Q => ∃ i j, x = .int i ∧ y = .int j ∧ Q (g i j) H
noncomputable def rU (g : Int -> V) : V -> Hp -> VK -> Prop := fun x H Q => ∃ i, x = .int i ∧ Q (g i) H
section
variable {X : Cx} {a b c : Expr} {ta tb tc : TE} {pos : Pos}
theorem binT (ha : PE X a ta) (hb : PE X b tb) {pins : List (Addr × Obj)} {s : Shared} {σ : St} {H : Hp} {R : V -> V -> Hp -> Prop} (I : Inv X pins σ H s)
  (h : ta σ H fun x H1 => tb σ H1 fun y H2 => R x y H2) {Q : Value -> Shared -> Prop} {f : Value -> Value -> Sem Value}
  (hf : ∀ v u s2 x y H2, Inv X pins σ H2 s2 -> Zcn x v -> Zcn y u -> R x y H2 -> wpAny (model X.prog X.w) X.A (f v u) Q X.xe s2) :
  wpAny (model X.prog X.w) X.A (eval a X.env) (fun v s₁ => wpAny (model X.prog X.w) X.A (eval b X.env) (fun u s₂ => wpAny (model X.prog X.w) X.A (f v u) Q X.xe s₂) X.xe s₁) X.xe s := by
 refine thn (ha pins s σ H _ I h) fun v s1 zz => ?_
 obtain ⟨x, H1, I1, r1, q1⟩ := zz
 refine thn (hb pins s1 σ H1 _ I1 q1) fun u s2 zz => ?_
 obtain ⟨y, H2, I2, r2, q2⟩ := zz
 exact hf v u s2 x y H2 I2 r1 r2 q2
theorem pe_op {op : Operator} {r : R2} (ho : OpR X (binaryOp op) r) (ha : PE X a ta) (hb : PE X b tb) : PE X (.BinOp a op b pos) (tOp r ta tb) := by
 intro pins s σ H Q I h
 exact wpAny_BinOp (binT ha hb I h fun v u s2 x y H2 I2 rx ry q => ho pins s2 σ H2 x y v u Q I2 rx ry q)
theorem pe_un {op : UnaryOp} {r : V -> Hp -> VK -> Prop} (ho : UnR X (unaryOp op) r) (ha : PE X a ta) : PE X (.UnaryOp op a pos) (tUn r ta) := by
 intro pins s σ H Q I h
 exact UnaryOp_ (thn (ha pins s σ H _ I h) fun v s1 ⟨x, H1, I1, r1, q1⟩ => ho pins s1 σ H1 x v Q I1 r1 q1)
theorem opI {f : Value -> Value -> Sem Value} {C : Int -> Int -> Prop} {g : Int -> Int -> Int}
  (rule : ∀ (i j : Int) (t u : Tok) (s : Shared) (Q : Value -> Shared -> Prop) (E : Value -> Shared -> Prop), C i j -> Q (.int (g i j) s.toks) { s with toks := s.toks + 1 } -> wpAny (model X.prog X.w) X.A (f (.int i t) (.int j u)) Q E s) :
  OpR X f (rI C fun i j => .int (g i j)) := by
 intro pins s σ H x y v u Q I rx ry h
 obtain ⟨i, j, rfl, rfl, hc, q⟩ := h
 obtain ⟨t, rfl⟩ := rx
 obtain ⟨t', rfl⟩ := ry
 exact rule i j t t' s _ _ hc ⟨.int (g i j), H, I.tok _, ⟨_, rfl⟩, q⟩
theorem opI0 {f : Value -> Value -> Sem Value} {g : Int -> Int -> Int}
  (rule : ∀ (i j : Int) (t u : Tok) (s : Shared) (Q : Value -> Shared -> Prop) (E : Value -> Shared -> Prop), Q (.int (g i j) s.toks) { s with toks := s.toks + 1 } -> wpAny (model X.prog X.w) X.A (f (.int i t) (.int j u)) Q E s) :
  OpR X f (rI0 fun i j => .int (g i j)) := by
 intro pins s σ H x y v u Q I rx ry h
 obtain ⟨i, j, rfl, rfl, q⟩ := h
 obtain ⟨t, rfl⟩ := rx
 obtain ⟨t', rfl⟩ := ry
 exact rule i j t t' s _ _ ⟨.int (g i j), H, I.tok _, ⟨_, rfl⟩, q⟩
theorem opB0 {f : Value -> Value -> Sem Value} {g : Int -> Int -> Bool}
  (rule : ∀ (i j : Int) (t u : Tok) (s : Shared) (Q : Value -> Shared -> Prop) (E : Value -> Shared -> Prop), Q (.bool (g i j)) s -> wpAny (model X.prog X.w) X.A (f (.int i t) (.int j u)) Q E s) :
  OpR X f (rI0 fun i j => .bl (g i j)) := by
 intro pins s σ H x y v u Q I rx ry h
 obtain ⟨i, j, rfl, rfl, q⟩ := h
 obtain ⟨t, rfl⟩ := rx
 obtain ⟨t', rfl⟩ := ry
 exact rule i j t t' s _ _ ⟨.bl (g i j), H, I, rfl, q⟩
noncomputable def Zwl (i j : Int) : Prop := 0 < j ∧ j < 1073741824
noncomputable def Zxm (i j : Int) : Prop := 0 ≤ j ∧ j ≤ 1000000 ∧ i.natAbs < 2 ^ 64
noncomputable def Zon (i j : Int) : Prop := (-(2 ^ 64) < i ∧ i < 2 ^ 64) ∨ (-(2 ^ 64) < j ∧ j < 2 ^ 64)
theorem Zon.ok {i j : Int} (h : Zon i j) : IntMulOk i j := by
 rcases h with ⟨h1, h2⟩ | ⟨h1, h2⟩
 ·exact .of_left (intBits_le_64 h1 h2)
 ·exact .of_right (intBits_le_64 h1 h2)
theorem Zy6 : OpR X (binaryOp .Add) (rI0 fun i j => .int (i + j)) := opI0 fun _ _ _ _ _ _ _ q => add_int q
theorem Zyt : OpR X (binaryOp .Sub) (rI0 fun i j => .int (i - j)) := opI0 fun _ _ _ _ _ _ _ q => sub_int q
theorem Yab : OpR X (binaryOp .Mult) (rI Zon fun i j => .int (i * j)) := opI fun _ _ _ _ _ _ _ hc q => mul_int q hc.ok
theorem Zvk : OpR X (binaryOp .FloorDiv) (rI Zwl fun i j => .int (i / j)) := opI fun i j _ _ _ _ _ hc q => by
 have h1 : (0 : Int) < j := hc.1
 have h2 : j < 1073741824 := hc.2
 exact floordiv_int (by omega) (by rw [Int.fdiv_eq_ediv_of_nonneg i (by omega)]; exact q) (.inl (PyProof.noPylong_small (by omega)))
theorem Zxy : OpR X (binaryOp .Mod) (rI (fun _ j => 0 < j) fun i j => .int (i % j)) := opI fun i j _ _ _ _ _ hc q => by
 have h1 : (0 : Int) < j := hc
 exact mod_int' (by omega) (by rw [Int.fmod_eq_emod_of_nonneg i (by omega)]; exact q)
theorem Zy4 : OpR X (binaryOp .Pow) (rI Zxm fun i j => .int (i ^ j.toNat)) := opI fun _ _ _ _ _ _ _ hc q => pow_int_small hc.1 hc.2.1 hc.2.2 q
theorem unI {f : Value -> Sem Value} {g : Int -> Int}
  (rule : ∀ (i : Int) (t : Tok) (s : Shared) (Q : Value -> Shared -> Prop) (E : Value -> Shared -> Prop), Q (.int (g i) s.toks) { s with toks := s.toks + 1 } -> wpAny (model X.prog X.w) X.A (f (.int i t)) Q E s) :
  UnR X f (rU fun i => .int (g i)) := by
 intro pins s σ H x v Q I rx h
 obtain ⟨i, rfl, q⟩ := h
 obtain ⟨t, rfl⟩ := rx
 exact rule i t s _ _ ⟨.int (g i), H, I.tok _, ⟨_, rfl⟩, q⟩
theorem Zxv : UnR X (unaryOp .USub) (rU fun i => .int (-i)) := unI fun _ _ _ _ _ q => neg_int q
end
section
variable {X : Cx} {a b c : Expr} {ta tb tc : TE} {pos : Pos}
theorem op_lt : OpR X (compareOp .Lt) (rI0 fun i j => .bl (decide (i < j))) := opB0 fun _ _ _ _ _ _ _ q => lt_int q
theorem op_le : OpR X (compareOp .LtE) (rI0 fun i j => .bl (decide (i ≤ j))) := opB0 fun _ _ _ _ _ _ _ q => le_int q
theorem op_gt : OpR X (compareOp .Gt) (rI0 fun i j => .bl (decide (j < i))) := opB0 fun _ _ _ _ _ _ _ q => gt_int q
theorem op_ge : OpR X (compareOp .GtE) (rI0 fun i j => .bl (decide (j ≤ i))) := opB0 fun _ _ _ _ _ _ _ q => ge_int q
theorem Zbc (b : Expr) {op : CmpOp} (h : op ≠ .In := by decide) (h2 : op ≠ .NotIn := by decide) : behindInMarks op b = false := by
 have e1 : (op == CmpOp.In) = false := by cases op <;> first | rfl | exact absurd rfl h
 have e2 : (op == CmpOp.NotIn) = false := by cases op <;> first | rfl | exact absurd rfl h2
 cases b <;> simp [behindInMarks, e1, e2]
theorem Zvb {op : CmpOp} {r : R2} (ho : OpR X (compareOp op) r) (ha : PE X a ta) (hb : PE X b tb) (hm : behindInMarks op b = false) : PE X (.Compare a [op] [b] pos) (tOp r ta tb) := by
 intro pins s σ H Q I h
 exact wpAny_Compare1 (binT ha hb I h fun v u s2 x y H2 I2 rx ry q => ho pins s2 σ H2 x y v u Q I2 rx ry q) hm
noncomputable def Zy0 (t : TE) : TT := fun σ H Q => t σ H fun x H' => ∃ k, x = .bl k ∧ Q k H'
theorem Zxc {op : CmpOp} {r : R2} (ho : OpR X (compareOp op) r) (ha : PE X a ta) (hb : PE X b tb) (hm : behindInMarks op b = false) : PT X (.Compare a [op] [b] pos) (Zy0 (tOp r ta tb)) := by
 intro pins s σ H Q I h
 refine wpAny_isTrue_Compare1 (thn (ha pins s σ H _ I h) fun v s1 ⟨x, H1, I1, r1, q1⟩ => thn (hb pins s1 σ H1 _ I1 q1) fun u s2 ⟨y, H2, I2, r2, q2⟩ =>
  thn (ho pins s2 σ H2 x y v u _ I2 r1 r2 q2) fun c s3 ⟨z, H3, I3, r3, k, e, q3⟩ => ?_) hm
 subst e
 cases r3
 exact wpAny_truthy_bool ⟨H3, I3, q3⟩
noncomputable def Zua (r r' : R2) (ta tb tc : TE) : TE := fun σ H Q => ta σ H fun x H1 => tb σ H1 fun y H2 => r x y H2 fun z H3 => ∃ k, z = .bl k ∧
 (if k = true then tc σ H3 fun w' H4 => r' y w' H4 Q else Q (.bl false) H3)
theorem Zr4 {op op' : CmpOp} {r r' : R2} (ho : OpR X (compareOp op) r) (ho' : OpR X (compareOp op') r') (ha : PE X a ta) (hb : PE X b tb) (hc : PE X c tc)
  (hm : lastMarks [op, op'] [b, c] = false := by with_unfolding_all rfl) : PT X (.Compare a [op, op'] [b, c] pos) (Zy0 (Zua r r' ta tb tc)) := by
 intro pins s σ H Q I h
 refine isTrue_chain (thn (ha pins s σ H _ I h) fun v s1 ⟨x, H1, I1, r1, q1⟩ => test_link (thn (hb pins s1 σ H1 _ I1 q1) fun u s2 ⟨y, H2, I2, r2, q2⟩ =>
  thn (ho pins s2 σ H2 x y v u _ I2 r1 r2 q2) fun d s3 ⟨z, H3, I3, r3, k, e, q3⟩ => ?_)) hm
 subst e
 cases r3
 refine wpAny_truthy_bool ?_
 cases k with
 | false =>
  obtain ⟨k', e', q'⟩ := q3
  cases e'
  exact ite_ff ⟨H3, I3, q'⟩
 | true =>
  refine ite_tt (test_last (thn (hc pins s3 σ H3 _ I3 q3) fun w' s4 ⟨z', H4, I4, r4, q4⟩ => thn (ho' pins s4 σ H4 y z' u w' _ I4 r2 r4 q4) fun d' s5 zz => ?_))
  obtain ⟨z2, H5, I5, r5, k2, e2, q5⟩ := zz
  subst e2
  cases r5
  exact wpAny_truthy_bool ⟨H5, I5, q5⟩
noncomputable def TruV (K : PySem.W.Frag) (x : V) (H : Hp) (k : Bool) : Prop :=
 match x with
 | .non => k = false
 | .bl b => k = b
 | .int i => k = (i != 0)
 | .str y => y.length ≤ sizeLine ∧ k = ((y.length : Int) != 0)
 | .byt y => y.size ≤ sizeLine ∧ k = ((y.size : Int) != 0)
 | .ref p => (∃ xs, SqL K H p xs ∧ k = !xs.isEmpty) ∨ (∃ xs, SqT K H p xs ∧ k = !xs.isEmpty) ∨ ∃ kvs, H p = some (.dK kvs) ∧ k = !kvs.isEmpty
 | _ => False
theorem Znr {κ : Type} {kvs : List (κ × V)} {vs : List (κ × Value)} (r : KV kvs vs) : (!vs.isEmpty) = !kvs.isEmpty := by
 cases r <;> rfl
theorem Zin {xs : List V} {its : List Value} (r : Zbq xs its) : (!its.toArray.isEmpty) = !xs.isEmpty := by
 cases r <;> simp
theorem Zio : (sizeLine : Nat) < 2 ^ 63 := by rw [sizeLine_eq]; decide
theorem Zzx : TruR X (fun x H Q => ∃ k, TruV X.K x H k ∧ Q k H) := by
 intro pins s σ H x v Q I rx h
 obtain ⟨k, e, q⟩ := h
 have hl := Zio
 have hs : sizeLine = 16777216 := sizeLine_eq
 cases x with
 | non =>
  cases rx
  have e' : k = false := e
  subst e'
  exact truthy_none ⟨H, I, q⟩
 | bl b =>
  cases rx
  have e' : k = b := e
  subst e'
  exact wpAny_truthy_bool ⟨H, I, q⟩
 | int i =>
  obtain ⟨t, rfl⟩ := rx
  have e' : k = (i != 0) := e
  subst e'
  exact PySem.P.truthy_int ⟨H, I, q⟩
 | str y =>
  obtain ⟨t, rfl⟩ := rx
  obtain ⟨hy, e'⟩ : y.length ≤ sizeLine ∧ k = ((y.length : Int) != 0) := e
  subst e'
  exact PySem.P.truthy_str (by omega) ⟨H, I.tok _, q⟩
 | byt y =>
  obtain ⟨t, rfl⟩ := rx
  obtain ⟨hy, e'⟩ : y.size ≤ sizeLine ∧ k = ((y.size : Int) != 0) := e
  subst e'
  exact PySem.W.truthy_bytes (by omega) ⟨H, I.tok _, q⟩
 | ref p =>
  cases rx
  have e' : (∃ xs, SqL X.K H p xs ∧ k = !xs.isEmpty) ∨ (∃ xs, SqT X.K H p xs ∧ k = !xs.isEmpty) ∨ ∃ kvs, H p = some (.dK kvs) ∧ k = !kvs.isEmpty := e
  rcases e' with ⟨xs, hx, e'⟩ | ⟨xs, hx, e'⟩ | ⟨kvs, hx, e'⟩
  ·subst e'
   obtain ⟨its, r, pl, hz⟩ := I.list hx
   have hlen := r.length
   exact wpAny_truthy_list pl.isList (by simp only [List.size_toArray]; omega) ⟨H, I.tok _, by rw [Zin r]; exact q⟩
  ·subst e'
   obtain ⟨its, r, pl, hz⟩ := I.tuple hx
   have hlen := r.length
   exact truthy_tuple pl (by simp only [List.size_toArray]; omega) ⟨H, I.tok _, by rw [Zin r]; exact q⟩
  ·subst e'
   obtain ⟨hz, hS, vs, r, m⟩ : kvs.length ≤ sizeLine ∧ (p == sysModules) = false ∧ ∃ vs, KV kvs vs ∧ s.heap.DictOf (Zl7 X.prog X.w) p vs := I.hok p _ hx
   have hlen : kvs.length = vs.length := Paired.length r
   exact wpAny_truthy_dict hS m (by omega) ⟨H, I.tok _, by rw [Znr r]; exact q⟩
 | _ => exact (show False from e).elim
theorem Ztw (ha : PE X a ta) (he : ∀ whole, isTrue a X.env whole = (do let v ← whole; standAt a.pos; holding [v] (truthy v))) :
  PT X a (fun σ H Q => ta σ H fun x H' => ∃ k, TruV X.K x H' k ∧ Q k H') := by
 intro pins s σ H Q I h
 exact isTrue_plain (thn (ha pins s σ H _ I h) fun v s1 ⟨x, H1, I1, r1, q1⟩ => Zzx pins s1 σ H1 x v Q I1 r1 q1) (he _)
theorem Znw : OpR X (binaryOp .Add) (fun x y H Q => ∃ i j, x = .str i ∧ y = .str j ∧ i.length + j.length ≤ sizeLine ∧ Q (.str (i ++ j)) H) := by
 intro pins s σ H x y v u Q I rx ry h
 obtain ⟨i, j, rfl, rfl, hz, q⟩ := h
 obtain ⟨t, rfl⟩ := rx
 obtain ⟨t', rfl⟩ := ry
 exact add_str (fun t' tk => ⟨.str (i ++ j), H, I.tok _, ⟨_, rfl⟩, q⟩) hz
theorem Zf6 {x : V} {us : List Value} (r : Zbq [x] us) : ∃ u, us = [u] ∧ Zcn x u := by
 cases r with
 | cons r1 r2 => cases r2; exact ⟨_, rfl, r1⟩
theorem Znx {x y : V} {us : List Value} (r : Zbq [x, y] us) : ∃ u w', us = [u, w'] ∧ Zcn x u ∧ Zcn y w' := by
 cases r with
 | cons r1 r2 =>
  cases r2 with
  | cons r3 r4 => cases r4; exact ⟨_, _, rfl, r1, r3⟩
theorem Zsc : Zf7 X (.builtin "abs") (fun xs H Q => ∃ i, xs = [.int i] ∧ Q (.int (if i < 0 then -i else i)) H) := by
 intro pins s σ H xs us Q I r h
 obtain ⟨i, rfl, q⟩ := h
 obtain ⟨u, rfl, t, rfl⟩ := Zf6 r
 exact call_abs_int fun u tk => ⟨.int (if i < 0 then -i else i), H, I.tok _, ⟨_, rfl⟩, q⟩
theorem Zqu (hc : X.calm = true) : Zf7 X (.builtin "max") (fun xs H Q => ∃ i j, xs = [.int i, .int j] ∧ Q (.int (if j > i then j else i)) H) := by
 intro pins s σ H xs us Q I r h
 obtain ⟨i, j, rfl, q⟩ := h
 obtain ⟨u, w', rfl, ⟨t, rfl⟩, ⟨t', rfl⟩⟩ := Znx r
 refine max_two_ints (I.ok.hd hc) fun h' tk k => ⟨_, H, I.kept k, ?_, q⟩
 by_cases hj : j > i
 ·rw [if_pos hj, if_pos hj]; exact ⟨_, rfl⟩
 ·rw [if_neg hj, if_neg hj]; exact ⟨_, rfl⟩
theorem Zrg (hc : X.calm = true) : Zf7 X (.builtin "min") (fun xs H Q => ∃ i j, xs = [.int i, .int j] ∧ Q (.int (if j < i then j else i)) H) := by
 intro pins s σ H xs us Q I r h
 obtain ⟨i, j, rfl, q⟩ := h
 obtain ⟨u, w', rfl, ⟨t, rfl⟩, ⟨t', rfl⟩⟩ := Znx r
 refine min_two_ints (I.ok.hd hc) fun h' tk k => ⟨_, H, I.kept k, ?_, q⟩
 by_cases hj : j < i
 ·rw [if_pos hj, if_pos hj]; exact ⟨_, rfl⟩
 ·rw [if_neg hj, if_neg hj]; exact ⟨_, rfl⟩
theorem Zg6 : Zf7 X (.type "int") (fun xs H Q => (∃ i, xs = [.int i] ∧ Q (.int i) H) ∨ ∃ k, xs = [.bl k] ∧ Q (.int (if k then 1 else 0)) H) := by
 intro pins s σ H xs us Q I r h
 rcases h with ⟨i, rfl, q⟩ | ⟨k, rfl, q⟩
 ·obtain ⟨u, rfl, t, rfl⟩ := Zf6 r
  exact call_int_int ⟨.int i, H, I, ⟨_, rfl⟩, q⟩
 ·obtain ⟨u, rfl, r1⟩ := Zf6 r
  cases r1
  exact call_int_bool ⟨.int (if k then 1 else 0), H, I.tok _, ⟨_, rfl⟩, q⟩
end
section
variable {prog : Program} {w : World} {A : Around} {E : Value -> Shared -> Prop} {s : Shared} {K : PySem.W.Frag} {x dx C f : Addr} {mA : Str -> Option Value} {name : Str} {v : Value}
end
section
variable {P : Program} {w : World} {H H' : Hp} {h h' : Heap} {a C dx : Addr} {fs fs' : List (Str × V)}
end
section
variable {X : Cx} {pins : List (Addr × Obj)} {σ : St} {H : Hp} {s : Shared} {a C dx : Addr} {fs : List (Str × V)} {f : Str} {v : V} {A : Around} {E : Value -> Shared -> Prop}
end
section
variable {X : Cx} {o e value : Expr} {f : Str} {pos pos' tpos : Pos} {ta tv : TE}
end
section
variable {X : Cx} {pins : List (Addr × Obj)} {σ : St} {H : Hp} {s : Shared} {A : Around} {E : Value -> Shared -> Prop} {Q : Value -> Shared -> Prop} {c : Value} {b : Bool}
end
structure Room (k : Nat) (A : Around) : Prop where
 hd : A.handled = none
 dp : A.depth + 3 * k + 5 < recursionLimit
 un : A.units + 16 * k + 200 < cLine
 gd : A.guards = some []
theorem Room.mono {j k : Nat} {A : Around} (r : Room k A) (h : j ≤ k) : Room j A := ⟨r.hd, by have := r.dp; omega, by have := r.un; omega, r.gd⟩
theorem Room.deeper {k : Nat} {A : Around} (r : Room (k + 1) A) (env : Env) : Room k (A.deeper env) :=
 ⟨r.hd, by have := r.dp; show A.depth + 1 + 3 * k + 5 < _; omega, by have := r.un; show A.units + 3 + 16 * k + 200 < _; omega, r.gd⟩
theorem Room.depth {k : Nat} {A : Around} (r : Room k A) : A.depth < recursionLimit := by have := r.dp; omega
theorem Room.units {k : Nat} {A : Around} (r : Room k A) : A.units + 64 < cLine := by have := r.un; omega
noncomputable def tNil : TA := fun _ H Q => Q [] H
noncomputable def tCons (ta : TE) (tr : TA) : TA := fun σ H Q => ta σ H fun x H1 => tr σ H1 fun xs H2 => Q (x :: xs) H2
section
variable {X : Cx} {e : Expr} {es : List Expr} {te : TE} {t : TA} {pos : Pos}
theorem Zgf : PA X [] tNil := fun _ _ _ _ H Q I h => Calls.spliced_nil ⟨[], H, I, .nil, h⟩
theorem Zc7 (ha : PE X e te) (hr : PA X es t) (hs : starEach (e :: es) X.env = (false, eval e X.env) :: starEach es X.env := by rfl) : PA X (e :: es) (tCons te t) := by
 intro pos pins s σ H Q I h
 rw [hs]
 show wpAny _ _ (spliced ((false, eval e X.env) :: backTo pos (starEach es X.env))) _ _ s
 refine Calls.spliced_cons (thn (ha pins s σ H _ I h) fun u s1 zz => ?_)
 obtain ⟨x, H1, I1, r1, q1⟩ := zz
 exact thn (hr pos pins s1 σ H1 _ I1 q1) fun us s2 ⟨xs, H2, I2, r2, q2⟩ => ⟨x :: xs, H2, I2, .cons r1 r2, q2⟩
noncomputable def tTup (t : TA) : TE := fun σ H Q => t σ H fun xs H1 => xs.length ≤ sizeLine ∧ ∀ p, H1 p = none -> Q (.ref p) (upd H1 p (.tup xs))
noncomputable def tLst (t : TA) : TE := fun σ H Q => t σ H fun xs H1 => xs.length ≤ sizeLine ∧ ∀ p, H1 p = none -> Q (.ref p) (upd H1 p (.lst xs))
theorem Zue {x1} (h : PA X es t) : PE X (.Tuple es x1 pos) (tTup t) := by
 intro pins s σ H Q I hq
 refine wpAny_Tuple_spliced (thn (h pos pins s σ H _ I hq) fun us s1 ⟨xs, H1, I1, r, z, q⟩ => ⟨by rw [← r.length]; exact z, ?_⟩)
 have hf : H1 s1.heap.objs.size = none := I1.hok.fresh (Nat.le_refl _)
 refine ⟨.ref s1.heap.objs.size, upd H1 s1.heap.objs.size (.tup xs), I1.laid (t' := s1.toks) (fun b u e => Heap.get?_push_of_some _ e) (Nat.le_refl _) ?_, rfl, q _ hf⟩
 exact ⟨z, us, r, ⟨_, Heap.get?_push_size _ rfl, rfl, ⟨_, rfl⟩, rfl⟩⟩
theorem Zud (h : PA X es t) : PE X (.List es pos) (tLst t) := by
 intro pins s σ H Q I hq
 refine wpAny_List_spliced (thn (h pos pins s σ H _ I hq) fun us s1 ⟨xs, H1, I1, r, z, q⟩ => ⟨by rw [← r.length]; exact z, ?_⟩)
 have hf : H1 s1.heap.objs.size = none := I1.hok.fresh (Nat.le_refl _)
 refine ⟨.ref s1.heap.objs.size, upd H1 s1.heap.objs.size (.lst xs), I1.laid (t' := s1.toks) (fun b u e => Heap.get?_push_of_some _ e) (Nat.le_refl _) ?_, rfl, q _ hf⟩
 exact ⟨z, us, 0, r, Heap.get?_push_size _ rfl⟩
end
noncomputable abbrev Sp := List V -> Hp -> VK -> XK -> Prop
noncomputable abbrev CXT := List Env -> Hp -> Shared -> XK -> Value -> Shared -> Prop
structure Env0 (P : Program) (w : World) (K : PySem.W.Frag) (mg : Str -> Option Value) (base : Heap) (A : Around) (outer : List Env) (s : Shared) (H : Hp) : Prop where
 frames : A.frames = some outer
 mod : Mod K mg base
 bs : ∀ b o, base.get? b = some o -> s.heap.get? b = some o ∧ H b = none
 bsz : base.objs.size ≤ s.heap.objs.size
 funs : s.heap.FunFrames base outer
 frf : ∀ b ∈ frs outer, H b = none
 hok : HOk P w H s.heap
 bare : AllBare s.gens
noncomputable def CE (outer : List Env) (P : Program) (w : World) (H : Hp) (s : Shared) (Q : VK) (u : Value) (s' : Shared) : Prop :=
 ∃ v H', s'.os = s.os ∧ AllBare s'.gens ∧ Un (frs outer) [] H H' s.heap s'.heap ∧ HOk P w H' s'.heap ∧ Zcn v u ∧ Q v H'
noncomputable def CR (CX : CXT) (outer : List Env) (P : Program) (w : World) (H : Hp) (s : Shared) (Q : VK) (E : XK) (r : Result) (s' : Shared) : Prop :=
 match r with
 | .ok (.ret u) => CE outer P w H s Q u s'
 | .ok _ => False
 | .error e => CX outer H s E e s'
structure FnOk (P : Program) (w : World) (K : PySem.W.Frag) (mg : Str -> Option Value) (base : Heap) (CX : CXT) (k : Nat) (f : Addr) (fd : FuncData) (ps : List Str) (sp : Sp) : Prop where
 len : ∀ vs H Q E, sp vs H Q E -> vs.length = ps.length
 run : ∀ (A : Around) (outer : List Env) (s : Shared) (H : Hp) (args : Args) (us : List Value) (vs : List V) (Q : VK) (E : XK), Room k A -> Env0 P w K mg base A outer s H -> BindsTo s fd args (ps.zip us) -> Zbq vs us -> sp vs H Q E →
  codeAny (model P w) A (.call (.ref f) args) (CR CX outer P w H s Q E) s
section
variable {X : Cx} {pins : List (Addr × Obj)} {σ : St} {H : Hp} {s s' : Shared}
theorem Inv.env0 (I : Inv X pins σ H s) : Env0 X.prog X.w X.K X.mg X.base X.A X.stack s H :=
 ⟨I.ok.frames, I.ok.mod, I.bs, Nat.le_trans I.ok.bsz I.sz, I.stack, I.stkFree, I.hok, I.bare⟩
theorem Inv.after {Q : VK} {u : Value} (I : Inv X pins σ H s) (h : CE X.stack X.prog X.w H s Q u s') : EP X pins σ Q u s' := by
 obtain ⟨v, H', os, bare, un, hok, r, q⟩ := h
 obtain ⟨hh, g, d, t, os'⟩ := s'
 obtain rfl : os' = s.os := os
 exact ⟨v, H', I.call (h' := hh) (g' := g) (d' := d) (t' := t) (ch := []) un hok bare (fun b z => absurd z (by simp)), r, q⟩
end
noncomputable def tCall (sp : Sp) (dvs : List V) (E : XK) (t : TA) : TE := fun σ H Q => t σ H fun vs H1 => sp (vs ++ dvs) H1 Q E
noncomputable def Zis (K : PySem.W.Frag) (fd : FuncData) (ps : List Str) (ds : List Value) : Prop :=
 ∀ (s : Shared) (us : List Value), K.In s.heap -> (us ++ ds).length = ps.length -> BindsTo s fd ⟨us, []⟩ (ps.zip (us ++ ds))
theorem Zis.all {K : PySem.W.Frag} {fd : FuncData} {ps : List Str} (h : ∀ us : List Value, us.length = ps.length -> bindArgs fd ⟨us, []⟩ = pure (ps.zip us)) : Zis K fd ps [] := fun s us _ hl => by
 rw [List.append_nil] at hl ⊢
 exact .of_eq (h us hl)
noncomputable def Zp9 (CX : CXT) (X : Cx) (E : XK) : Prop := ∀ (pins : List (Addr × Obj)) (σ : St) (H : Hp) (s : Shared) (e : Value) (s' : Shared), Inv X pins σ H s -> CX X.stack H s E e s' -> X.xe e s'
section
variable {X : Cx} {CX : CXT} {k : Nat} {f C : Addr} {fd : FuncData} {ps : List Str} {sp : Sp} {dvs : List V} {ds : List Value} {E : XK} {x m : Str} {p pos apos : Pos} {e o : Expr} {es : List Expr} {ta : TE} {t : TA}
theorem Zxo {pins : List (Addr × Obj)} {σ : St} {H : Hp} {s : Shared} {Q : VK} {us : List Value} {vs : List V} (F : FnOk X.prog X.w X.K X.mg X.base CX k f fd ps sp) (hr : Room k X.A) (hb : Zis X.K fd ps ds) (hd : Zbq dvs ds) (hx : Zp9 CX X E)
  (I : Inv X pins σ H s) (r : Zbq vs us) (h : sp (vs ++ dvs) H Q E) : wpAny (model X.prog X.w) X.A (call (.ref f) us) (EP X pins σ Q) X.xe s := by
 have r2 : Zbq (vs ++ dvs) (us ++ ds) := r.append hd
 have hl : (us ++ ds).length = ps.length := by rw [← r2.length]; exact F.len _ _ _ _ h
 refine wpAny_call (codeAny_mono (F.run X.A X.stack s H ⟨us, []⟩ (us ++ ds) (vs ++ dvs) Q E hr I.env0 (hb s us I.kIn hl) r2 h) fun r s' hq => ?_)
 cases r with
 | error e => exact hx pins σ H s e s' I hq
 | ok fl =>
  cases fl with
  | ret u => exact I.after hq
  | next => exact False.elim hq
  | brk => exact False.elim hq
  | cont => exact False.elim hq
theorem Zw5 (F : FnOk X.prog X.w X.K X.mg X.base CX k f fd ps sp) (hr : Room k X.A) (hg : Gl X x) (hm : X.mg x = some (.ref f)) (hk : PySem.W.keepIn X.K (.ref f) = true) (hb : Zis X.K fd ps ds) (hd : Zbq dvs ds) (hx : Zp9 CX X E)
  (ha : PA X (e :: es) t) (hdb : (x == ("__debug__" : Str)) = false := by decide) (he : starEach (e :: es) X.env = (false, eval e X.env) :: starEach es X.env := by rfl) (hpl : (backTo pos (starEach es X.env)).any (·.1) = false := by rfl) :
  PE X (.Call (.Name x p) (e :: es) [] pos) (tCall sp dvs E t) := by
 intro pins s σ H Q I h
 refine wpAny_Call_Name_kw (Zhs I hg hm ?_ hdb)
 refine PySem.W.callWith_K (h₀ := X.base) I.ok.mod.kin hk (thn (ha pos pins s σ H _ I h) fun us s1 ⟨vs, H1, I1, r, q⟩ => ⟨I1.kIn, ?_⟩) he hpl
 exact Zxo F hr hb hd hx I1 r q
end
section
variable {X : Cx} {CX : CXT} {k : Nat} {f C : Addr} {fd : FuncData} {ps ks : List Str} {sp : Sp} {E : XK} {x m : Str} {p pos apos kpos : Pos} {e o : Expr} {es : List Expr} {kws : List Keyword} {te ta : TE} {t tk : TA} {nm : Option Str}
variable {g : List Value -> List Value -> List Value} {gV : List V -> List V -> List V}
end
structure FnScope (N P : List Str) (sc : Scope) : Prop where
 kind : sc.kind = .function
 co : sc.isCoroutine = false
 gen : sc.isGenerator = false
 nd : N.Nodup
 pre : N.take P.length = P
 par : ∀ x ∈ P, sc.names.lookup x = some .local ∨ sc.names.lookup x = some .cell
 nofree : ∀ y ∈ sc.names, y.2 ≠ .free
theorem Zjx {kindOf : Str -> Option NameKind} {x : Str} : ∀ {binds : List (Str × Value)} {m : Str -> Option Value}, (∀ v, (x, v) ∉ binds) -> bindL kindOf binds m x = m x
 | [], _, _ => rfl
 | (n, v) :: r, m, h => by
  unfold bindL
  rw [Zjx fun w hw => h w (List.mem_cons_of_mem _ hw)]
  split
  ·have : x ≠ n := by rintro rfl; exact h v List.mem_cons_self
   simp [this]
  ·rfl
theorem Zkm {kindOf : Str -> Option NameKind} {x : Str} : ∀ {binds : List (Str × Value)} {m : Str -> Option Value}, (∀ v, (x, v) ∉ binds) -> bindC kindOf binds m x = m x
 | [], _, _ => rfl
 | (n, v) :: r, m, h => by
  unfold bindC
  rw [Zkm fun w hw => h w (List.mem_cons_of_mem _ hw)]
  split
  ·rfl
  ·have : x ≠ n := by rintro rfl; exact h v List.mem_cons_self
   simp [this]
theorem Zj3 {kindOf : Str -> Option NameKind} {x : Str} {v : Value} : ∀ {P : List Str} {vs : List Value} {i : Nat} {m : Str -> Option Value}, P.Nodup -> P[i]? = some x -> vs[i]? = some v -> kindOf x = some .local →
  bindL kindOf (P.zip vs) m x = some v
 | [], _, _, _, _, h, _, _ => by simp at h
 | _ :: _, [], _, _, _, _, h, _ => by simp at h
 | p :: P, w :: vs, 0, m, nd, h1, h2, hk => by
  simp at h1 h2; subst h1; subst h2
  show bindL kindOf ((p, w) :: P.zip vs) m p = _
  unfold bindL
  rw [Zjx fun v hv => (List.nodup_cons.mp nd).1 (List.of_mem_zip hv).1, if_pos hk]
  simp
 | p :: P, w :: vs, i + 1, m, nd, h1, h2, hk => by
  show bindL kindOf ((p, w) :: P.zip vs) m x = _
  unfold bindL
  exact Zj3 (i := i) (List.nodup_cons.mp nd).2 (by simpa using h1) (by simpa using h2) hk
theorem Zk1 {kindOf : Str -> Option NameKind} {x : Str} {v : Value} : ∀ {P : List Str} {vs : List Value} {i : Nat} {m : Str -> Option Value}, P.Nodup -> P[i]? = some x -> vs[i]? = some v -> kindOf x ≠ some .local →
  bindC kindOf (P.zip vs) m x = some v
 | [], _, _, _, _, h, _, _ => by simp at h
 | _ :: _, [], _, _, _, _, h, _ => by simp at h
 | p :: P, w :: vs, 0, m, nd, h1, h2, hk => by
  simp at h1 h2; subst h1; subst h2
  show bindC kindOf ((p, w) :: P.zip vs) m p = _
  unfold bindC
  rw [Zkm fun v hv => (List.nodup_cons.mp nd).1 (List.of_mem_zip hv).1, if_neg hk]
  simp
 | p :: P, w :: vs, i + 1, m, nd, h1, h2, hk => by
  show bindC kindOf ((p, w) :: P.zip vs) m x = _
  unfold bindC
  exact Zk1 (i := i) (List.nodup_cons.mp nd).2 (by simpa using h1) (by simpa using h2) hk
noncomputable def start (N : List Str) (vs : List V) : St := vs.map some ++ List.replicate (N.length - vs.length) none
noncomputable def Zfj (CX : CXT) (P : Program) (w : World) (K : PySem.W.Frag) (mg : Str -> Option Value) (base : Heap) (N : List Str) (qual : Str) (scope : Scope) (f : Addr) (cd : Value) (A : Around) (outer : List Env) (s : Shared) (H : Hp) (E : XK) : Cx where
 prog := P
 w := w
 K := K
 mg := mg
 base := base
 A := A.deeper (envOfC qual scope s.heap.objs.size f cd)
 N := N
 s₀ := s
 H₀ := H
 env := envOfC qual scope s.heap.objs.size f cd
 outer := outer
 stack := envOfC qual scope s.heap.objs.size f cd :: outer
 ex := []
 calm := true
 fn := fun _ => true
 pn := []
 xe := fun e s' => wpAny (model P w) (A.deeper (envOfC qual scope s.heap.objs.size f cd)) (leaving (envOfC qual scope s.heap.objs.size f cd) e) (fun _ s'' => CX outer H s E e s'') (fun e' s'' => CX outer H s E e' s'') s'
theorem Zgm {sc : Scope} {n : Nat} {x : Str} (h : sc.names.lookup x = some .cell) : ∃ c, (cellsFrom n sc.names []).lookup x = some c := by
 have q := PySem.W.cellsFrom_some sc.names n [] (.inl h)
 exact Option.isSome_iff_exists.mp q
theorem Zp6 {CX : CXT} {P : Program} {w : World} {K : PySem.W.Frag} {mg : Str -> Option Value} {base : Heap} {N ps : List Str} {qual : Str} {scope : Scope} {f : Addr} {cd : Value} {A : Around} {outer : List Env} {s s1 : Shared} {H : Hp} {E : XK} {us : List Value} {vs : List V}
  (S : FnScope N ps scope) (hd : A.handled = none) (e0 : Env0 P w K mg base A outer s H) (hl : vs.length = ps.length) (r : Zbq vs us)
  (x : InCallC s s.heap.objs.size (bindL (envOfC qual scope s.heap.objs.size f cd).kindOf (ps.zip us) fun _ => none) (cellsFrom (s.heap.objs.size + 1) scope.names []) (bindC (envOfC qual scope s.heap.objs.size f cd).kindOf (ps.zip us) fun _ => none) s1) :
  Inv (Zfj CX P w K mg base N qual scope f cd A outer s H E) [] (start N vs) H s1 := by
 have hpl : ps.length ≤ N.length := by have := congrArg List.length S.pre; rw [List.length_take] at this; omega
 obtain ⟨h1, tk, rfl, hk⟩ := x.done
 have noA : ∀ b : Addr, b ∉ (Zfj CX P w K mg base N qual scope f cd A outer s H E).ex := fun b z => absurd (show b ∈ ([] : List Addr) from z) (by simp)
 refine ⟨⟨e0.mod, S.kind, rfl, rfl, Nat.le_refl _, fun y z c h1 h2 => ?_, fun y hy => ?_, fun y c _ h => ?_, fun _ => hd, Around.frames_deeper e0.frames, .inr ⟨rfl, rfl⟩, fun b z => absurd z (noA b), e0.bs, e0.bsz, fun b _ _ => noA b, fun b z => absurd z (noA b), e0.funs, e0.frf⟩,
  rfl, e0.bare, Un.kept hk, ⟨_, x.toInCall.ns, fun i y v h1 h2 h3 => ?_⟩, fun y c h => ⟨_, x.cell y c h⟩, e0.hok.fresh (Nat.le_refl _), fun y c h => ?_, fun p hp => absurd (show p ∈ ([] : List (Addr × Obj)) from hp) (by simp), e0.hok.kept hk, ?_⟩
 ·exact name_of_addr x.apart (PySem.mem_of_lookup h1) (PySem.mem_of_lookup h2)
 ·have hy : scope.names.lookup y = some .cell ∨ scope.names.lookup y = some .free := hy
  rcases hy with hy | hy
  ·exact Zgm hy
  ·exact absurd rfl (S.nofree _ (PySem.mem_of_lookup hy))
 ·exact Nat.le_of_lt (x.above y c (PySem.mem_of_lookup h))
 ·have hi : i < vs.length := by
   unfold start at h2
   by_cases hi : i < vs.length
   ·exact hi
   ·rw [List.getElem?_append_right (by simpa using hi)] at h2
    rw [List.getElem?_replicate] at h2
    split at h2 <;> cases h2
  have ha : vs[i]? = some v := by
   unfold start at h2
   rw [List.getElem?_append_left (by simpa using hi), List.getElem?_map] at h2
   cases e : vs[i]? with
   | none => rw [e] at h2; cases h2
   | some a => rw [e] at h2; cases h2; rfl
  obtain ⟨u, hu, rv⟩ := r.get ha
  have hp : ps[i]? = some y := by
   rw [← S.pre, List.getElem?_take_of_lt (by omega)]; exact h1
  have ndP : ps.Nodup := by rw [← S.pre]; exact S.nd.sublist (List.take_sublist _ _)
  refine ⟨u, rv, ?_⟩
  rcases S.par y (List.mem_of_getElem? hp) with k | k
  ·exact .inl ⟨k, Zj3 ndP hp hu k⟩
  ·obtain ⟨c, e⟩ := Zgm (n := s.heap.objs.size + 1) k
   refine .inr ⟨.inl k, c, e, ?_⟩
   have q := x.cell y c e
   rw [Zk1 ndP hp hu (by show scope.names.lookup y ≠ _; rw [k]; decide)] at q
   exact q
 ·exact e0.hok.fresh (Nat.le_of_lt (x.above y c (PySem.mem_of_lookup h)))
 ·unfold start
  show _ = N.length
  rw [List.length_append, List.length_map, List.length_replicate]
  omega
theorem Zz7 {CX : CXT} {P : Program} {w : World} {K : PySem.W.Frag} {mg : Str -> Option Value} {base : Heap} {k : Nat} {f : Addr} {name qual : Str} {params : Arguments} {body : List Stmt} {scope : Scope} {dV kV doc pm cdv ct oc : Value} {an od : Option Addr}
  {osl : Array (Option Value)} {N ps : List Str} {sp : Sp} (lk : K.lookup f = some ⟨oc, od, .func (PySem.W.fnOf name qual params body scope dV kV doc pm an cdv ct), osl⟩) (hcd : PySem.W.codeIn K cdv qual = true) (S : FnScope N ps scope)
  (len : ∀ vs H Q E, sp vs H Q E -> vs.length = ps.length)
  (hbody : ∀ (A : Around) (outer : List Env) (s : Shared) (H : Hp) (vs : List V) (Q : VK) (E : XK), Room k (A.deeper (envOfC qual scope s.heap.objs.size f cdv)) -> sp vs H Q E →
   ∃ t, PSs (Zfj CX P w K mg base N qual scope f cdv A outer s H E) body t ∧ t { nx := fun _ H' => Q .non H', rt := Q } (start N vs) H) :
  FnOk P w K mg base CX (k + 1) f (PySem.W.fnOf name qual params body scope dV kV doc pm an cdv ct) ps sp := by
 refine ⟨len, fun A outer s H args us vs Q E hr e0 hb r hsp => ?_⟩
 have hl := len _ _ _ _ hsp
 have KX : K.In s.heap := e0.mod.kin.keeps fun b o e => (e0.bs b o e).1
 have lim : s.heap.NoLimit := e0.mod.nolimit.keeps fun b o e => (e0.bs b o e).1
 have hkind : ∀ y ∈ ps.zip us, scope.names.lookup y.1 = some .local ∨ (scope.names.lookup y.1 = some .cell ∧ ((cellsFrom (s.heap.objs.size + 1) scope.names []).lookup y.1).isSome = true) := fun ⟨n, v⟩ hy => by
  rcases S.par n (List.of_mem_zip hy).1 with q | q
  ·exact .inl q
  ·exact .inr ⟨q, PySem.W.cellsFrom_some _ _ _ (.inl q)⟩
 refine codeAny_call_function hr.depth (KX _ _ lk) rfl S.co S.gen rfl (PySem.W.codeRec_of KX hcd) (hb _ _ _ _ ?_)
 refine wpAny_newFunctionEnv_cells S.kind hkind fun env he s1 x => ?_
 subst he
 refine ⟨lim.keeps x.toInCall.keep, codeAny_func ?_⟩
 obtain ⟨t, ht, hq⟩ := hbody A outer s H vs Q E (hr.deeper _) hsp
 have I : Inv (Zfj CX P w K mg base N qual scope f cdv A outer s H E) [] (start N vs) H s1 := Zp6 S hr.hd e0 hl r x
 refine wpAny_mono (ht [] s1 (start N vs) H _ I hq) (fun fl s' hs => ?_) fun e s' hs => hs
 have fin : ∀ {σ' : St} {H' : Hp} {v : V} {u : Value}, Inv (Zfj CX P w K mg base N qual scope f cdv A outer s H E) [] σ' H' s' -> Zcn v u -> Q v H' -> CE outer P w H s Q u s' :=
  fun {σ' H' v u} J rv q => ⟨v, H', J.os, J.bare, J.base, J.hok, rv, q⟩
 cases fl with
 | ret u =>
  obtain ⟨v, σ', H', J, rv, q⟩ := hs
  exact fin J rv q
 | next =>
  obtain ⟨σ', H', J, q⟩ := hs
  exact fin (v := V.non) (u := Value.none) J rfl q
 | brk =>
  obtain ⟨_, _, _, q⟩ := hs
  exact False.elim q
 | cont =>
  obtain ⟨_, _, _, q⟩ := hs
  exact False.elim q
section
variable {X : Cx} {x : Str} {p pos : Pos} {e : Expr} {es : List Expr} {t : TA} {id T : String} {r : List V -> Hp -> VK -> Prop}
noncomputable def tCB (r : List V -> Hp -> VK -> Prop) (t : TA) : TE := fun σ H Q => t σ H fun vs H1 => r vs H1 Q
theorem Zgt (hc : Zf7 X (.builtin id) r) (hg : Gl X x) (hm : X.mg x = none) (hv : bootBuiltins x = some (.builtin id)) (ha : PA X (e :: es) t) (hn : x ≠ "__name__" := by decide) (hdb : (x == ("__debug__" : Str)) = false := by decide)
  (he : starEach (e :: es) X.env = (false, eval e X.env) :: starEach es X.env := by rfl) (hpl : (backTo pos (starEach es X.env)).any (·.1) = false := by rfl) : PE X (.Call (.Name x p) (e :: es) [] pos) (tCB r t) := by
 intro pins s σ H Q I h
 refine wpAny_Call_Name_kw (Zeu I hg hm hv ?_ hn hdb)
 exact PyProof.Rows.callWith_builtin1 (thn (ha pos pins s σ H _ I h) fun us s1 ⟨vs, H1, I1, r1, q1⟩ => hc pins s1 σ H1 vs us Q I1 r1 q1) he hpl
theorem Zgw (hc : Zf7 X (.type T) r) (hg : Gl X x) (hm : X.mg x = none) (hv : bootBuiltins x = some (.type T)) (ha : PA X (e :: es) t) (hn : x ≠ "__name__" := by decide) (hdb : (x == ("__debug__" : Str)) = false := by decide)
  (he : starEach (e :: es) X.env = (false, eval e X.env) :: starEach es X.env := by rfl) (hpl : (backTo pos (starEach es X.env)).any (·.1) = false := by rfl) : PE X (.Call (.Name x p) (e :: es) [] pos) (tCB r t) := by
 intro pins s σ H Q I h
 refine wpAny_Call_Name_kw (Zeu I hg hm hv ?_ hn hdb)
 exact PyProof.Rows.callWith_type1 (thn (ha pos pins s σ H _ I h) fun us s1 ⟨vs, H1, I1, r1, q1⟩ => hc pins s1 σ H1 vs us Q I1 r1 q1) he hpl
end
end L2
namespace HT
open PySem PyProof.Rows
section
open PySem.SeqAt
open PySem.AutoSeq1 (wpAny_loadPart')
open PySem.MeetsSeq PySem.MeetsSeq2 PySem.MeetsSeq3
end
section
variable {prog : Program} {w : World} {A : Around} {E : Value -> Shared -> Prop} {s : Shared}
theorem cat_tup {t b : Addr} {vs ws : List Value} {Q : Value -> Shared -> Prop} (ht : IsTup s.heap t vs.toArray) (hb : IsTup s.heap b ws.toArray) (hv : vs ≠ [])
  (h1 : ws = [] → Q (.ref t) s) (h2 : ws ≠ [] → Q (.ref s.heap.objs.size) { s with heap := s.heap.push { cls := .type "tuple", data := .seq (vs ++ ws).toArray } })
  (hsz : vs.length + ws.length ≤ sizeLine) : wpAny (model prog w) A (binaryOp .Add (.ref t) (.ref b)) Q E s := by
 obtain ⟨⟨cls, dd, data, sl⟩, ho, hc, n, hd⟩ := id ht
 obtain ⟨⟨cls2, dd2, data2, sl2⟩, ho2, hc2, n2, hd2⟩ := id hb
 simp only at hc hd hc2 hd2
 subst hc hd hc2 hd2
 have e : vs.toArray ++ ws.toArray = (vs ++ ws).toArray := by simp
 by_cases hw : ws = []
 ·exact concat_meets ⟨_, ho, rfl⟩ ⟨_, ho2, rfl⟩ noFill_tuple_add seq_tuple_add PySem.F.slot_tuple_add PySem.F.entry_tuple_add (PySem.F.args_tuple_add_2 _ _)
   (tuple_addW1 t b vs.toArray ws.toArray n n2 dd dd2 sl sl2 (by simpa using hv) (by simp [hw])) ⟨ho, ho2, h1 hw⟩
 ·refine concat_meets ⟨_, ho, rfl⟩ ⟨_, ho2, rfl⟩ noFill_tuple_add seq_tuple_add PySem.F.slot_tuple_add PySem.F.entry_tuple_add (PySem.F.args_tuple_add_2 _ _)
   (tuple_addW2 t b vs.toArray ws.toArray n n2 dd dd2 sl sl2 (by simpa using hv) (by simpa using hw) (by rw [List.size_toArray, List.size_toArray]; exact hsz)) ⟨ho, ho2, ?_⟩
  rw [e]
  exact h2 hw
noncomputable def sIx (n d : Nat) : Option Int -> Nat
 | none => d
 | some v => if v < 0 then (v + (n : Int)).toNat else min v.toNat n
theorem Zx5 (n d : Nat) (hd : d ≤ n) (o : Option Int) : sIx n d o ≤ n := by
 cases o with
 | none => exact hd
 | some v =>
  show (if v < 0 then (v + (n : Int)).toNat else min v.toNat n) ≤ n
  by_cases hv : v < 0
  ·rw [if_pos hv]; omega
  ·rw [if_neg hv]; exact Nat.min_le_right _ _
theorem Zo7 (v : Int) (n d : Nat) : (if v < 0 then max (v + (n : Int)) 0 else min v (n : Int)) = ((sIx n d (some v) : Nat) : Int) := by
 show (if v < 0 then max (v + (n : Int)) 0 else min v (n : Int)) = (((if v < 0 then (v + (n : Int)).toNat else min v.toNat n) : Nat) : Int)
 by_cases hv : v < 0
 ·simp only [if_pos hv]; omega
 ·simp only [if_neg hv]; omega
theorem Zn8 (lo hi : Option Int) (n : Nat) : Builtin.Slice.sliceAdjust lo hi 1 (n : Int) = (((sIx n 0 lo : Nat) : Int), ((sIx n n hi : Nat) : Int)) := by
 have h1 : ¬ ((1 : Int) < 0) := by omega
 unfold Builtin.Slice.sliceAdjust
 simp only [h1, if_false]
 refine Prod.ext ?_ ?_
 ·cases lo with
  | none => rfl
  | some v => exact Zo7 v n 0
 ·cases hi with
  | none => rfl
  | some v => exact Zo7 v n n
theorem Znq (i j : Nat) : Builtin.Slice.slicePlaces (i : Int) (j : Int) 1 = j - i := by
 unfold Builtin.Slice.slicePlaces
 have h1 : (1 : Int) > 0 := by omega
 simp only [h1, if_true, Int.ediv_one]
 split <;> omega
theorem Zip {v : Value} {o : Option Int} {Q : Option Int -> Shared -> Prop} (p : IsPart v o) (h : Q o s) : wpAny (model prog w) A (Builtin.Slice.slicePartIndex v) Q E s := by
 cases p with
 | none => exact slicePart_none h
 | int i t => exact slicePart_int h
theorem sliceApplied_gen {sl : Addr} {vl vu : Value} {lo hi : Option Int} {n : Nat} {Q : Int × Int × Nat -> Shared -> Prop} (hs : s.heap.IsSliceOf sl vl vu .none) (pl : IsPart vl lo) (pu : IsPart vu hi)
  (h : Q (((sIx n 0 lo : Nat) : Int), 1, sIx n n hi - sIx n 0 lo) s) : wpAny (model prog w) A (Builtin.Slice.sliceApplied (.ref sl) (pure (n : Int))) Q E s := by
 obtain ⟨os, hos, hcs, hds⟩ := id hs
 unfold Builtin.Slice.sliceApplied Builtin.Slice.sliceFields
 refine wpAny_bind (wpAny_bind (wpAny_field hos hds (x := vl) rfl (wpAny_bind (wpAny_field hos hds (x := vu) rfl (wpAny_bind (wpAny_field hos hds (x := .none) rfl (wpAny_pure ?_)))))))
 refine wpAny_bind (slicePart_none ?_)
 show wpAny _ _ (if ((1 : Int) == 0) = true then _ else _) _ _ s
 rw [if_neg (by decide)]
 refine wpAny_bind (Zip pl (wpAny_bind (Zip pu (wpAny_bind (wpAny_pure ?_)))))
 show wpAny _ _ (match Builtin.Slice.sliceAdjust lo hi 1 (n : Int) with | (lo, hi) => pure (lo, (1 : Int), Builtin.Slice.slicePlaces lo hi 1)) _ _ s
 rw [Zn8 lo hi n]
 show wpAny _ _ (pure (((sIx n 0 lo : Nat) : Int), (1 : Int), Builtin.Slice.slicePlaces ((sIx n 0 lo : Nat) : Int) ((sIx n n hi : Nat) : Int) 1)) _ _ s
 rw [Znq]
 exact wpAny_pure h
theorem Zr6 (xs : Array Value) (i k : Nat) : ((List.range k).filterMap fun (m : Nat) => xs[((i : Int) + (m : Int) * 1).toNat]?).toArray = ((xs.toList.drop i).take k).toArray := by
 have e : (fun (m : Nat) => xs[((i : Int) + (m : Int) * 1).toNat]?) = fun m => xs[i + m]? := by
  funext m
  have : ((i : Int) + (m : Int) * 1).toNat = i + m := by omega
  rw [this]
 rw [e]
 have := pick_run xs i k
 rw [List.filterMap_map] at this
 have e2 : ((fun x => xs[x]?) ∘ fun x => i + x) = fun m => xs[i + m]? := rfl
 rw [e2] at this
 rw [this]
theorem getItem_tuple_cut {t sl : Addr} {items : Array Value} {vl vu : Value} {lo hi : Option Int} {Q : Value -> Shared -> Prop} (ht : IsTup s.heap t items) (hs : s.heap.IsSliceOf sl vl vu .none) (pl : IsPart vl lo) (pu : IsPart vu hi)
  (hw : ¬ (sIx items.size 0 lo = 0 ∧ sIx items.size items.size hi = items.size))
  (h : Q (.ref s.heap.objs.size) { s with heap := s.heap.push { cls := .type "tuple", data := .seq ((items.toList.drop (sIx items.size 0 lo)).take (sIx items.size items.size hi - sIx items.size 0 lo)).toArray } })
  (hsz : items.size ≤ sizeLine) : wpAny (model prog w) A (getItem (.ref t) (.ref sl)) Q E s := by
 have htake : sizeOk (.seq ((items.toList.drop (sIx items.size 0 lo)).take (sIx items.size items.size hi - sIx items.size 0 lo)).toArray) := by
  show ((items.toList.drop (sIx items.size 0 lo)).take (sIx items.size items.size hi - sIx items.size 0 lo)).toArray.size ≤ sizeLine
  rw [List.size_toArray, List.length_take, List.length_drop, Array.length_toList]
  omega
 have hj : sIx items.size items.size hi ≤ items.size := Zx5 _ _ (Nat.le_refl _) hi
 obtain ⟨os, hos, hcs, hds⟩ := id hs
 have hTs : s.TypeIs (.ref sl) "slice" := ⟨os, hos, hcs⟩
 unfold getItem
 try with_reducible refine wpAny_holding ?_
 first | refine wpAny_bind (wpAny_pure ?_) | skip
 refine wpAny_bind (wpAny_sequenceKey ht.typeIs (by decide) ?_)
 refine wpAny_bind (wpAny_callSpecial?_slot (name := Str.ofString "__getitem__") ht.typeIs PyProof.Rows.slot_tuple_getitem
  (wpAny_call_entry PyProof.Rows.slot_tuple_getitem ht.typeIs entry_tuple_getitem ?_ (args_tuple_getitem _ _)))
 show wpAny _ _ (Builtin.Tuple.tupleItemsOf (.ref t) >>= _) _ _ s
 refine wpAny_bind (tupleItemsOf_ ht ?_)
 refine wpAny_bind (wpAny_typeOf hTs ?_)
 rw [if_pos (by decide)]
 refine wpAny_bind (sliceApplied_gen hs pl pu ?_)
 have hno : ¬ ((((sIx items.size 0 lo : Nat) : Int) == 0 && (1 : Int) == 1 && (sIx items.size items.size hi - sIx items.size 0 lo) == items.size) = true) := by
  intro q
  rw [Bool.and_eq_true, Bool.and_eq_true] at q
  have q1 : ((sIx items.size 0 lo : Nat) : Int) = 0 := eq_of_beq q.1.1
  have q2 : sIx items.size items.size hi - sIx items.size 0 lo = items.size := eq_of_beq q.2
  exact hw ⟨by omega, by omega⟩
 show wpAny _ _ (if (((sIx items.size 0 lo : Nat) : Int) == 0 && (1 : Int) == 1 && (sIx items.size items.size hi - sIx items.size 0 lo) == items.size) = true then _ else _) _ _ s
 rw [if_neg hno, Zr6]
 first
  | exact wpAny_bind (m := Builtin.Tuple.tupleExact _) (wpAny_newObj_type (wpAny_pure ⟨_, rfl, wpAny_pure h⟩) htake)
  | exact wpAny_bind (m := Builtin.Tuple.tupleExact _) (wpAny_newObj_type (wpAny_bind (wpAny_pure (wpAny_pure ⟨_, rfl, wpAny_pure h⟩))) htake)
  | exact wpAny_bind (wpAny_bind (m := Builtin.Tuple.tupleExact _) (wpAny_newObj_type (wpAny_pure (wpAny_pure ⟨_, rfl, wpAny_pure h⟩)) htake))
  | exact wpAny_bind (wpAny_bind (m := Builtin.Tuple.tupleExact _) (wpAny_newObj_type (wpAny_pure ⟨_, rfl, wpAny_pure h⟩) htake))
end
end HT
namespace L2
open PySem PySem.Spec PyProof.Rows
noncomputable abbrev TO := St -> Hp -> (Option Int -> Hp -> Prop) -> Prop
noncomputable def PO (X : Cx) (e : Option Expr) (t : TO) : Prop :=
 ∀ (pins : List (Addr × Obj)) (s : Shared) (σ : St) (H : Hp) (Q : Option Int -> Hp -> Prop), Inv X pins σ H s -> t σ H Q →
  wpAny (model X.prog X.w) X.A (evalPart e X.env) (fun u s' => ∃ o H', Inv X pins σ H' s' ∧ IsPart u o ∧ Q o H') X.xe s
noncomputable def Zvw : TO := fun _ H Q => Q none H
noncomputable def tPart (t : TE) : TO := fun σ H Q => t σ H fun x H1 => ∃ i, x = .int i ∧ Q (some i) H1
theorem Zga {ns : List Int} : ∀ {us : List Value}, Zbq (ns.map V.int) us -> IntsAre us ns := by
 induction ns with
 | nil => intro us r; rw [List.map_nil] at r; cases r; exact .nil
 | cons n ns ih =>
  intro us r
  rw [List.map_cons] at r
  cases r with
  | cons r1 r2 =>
   obtain ⟨t, e⟩ := r1
   subst e
   exact .cons n t (ih r2)
section
variable {X : Cx} {e : Expr} {te : TE} {lo hi : Option Expr} {tl th : TO} {pos p2 : Pos}
theorem Zwg : PO X none Zvw := by
 intro pins s σ H Q I h
 rw [evalPart_none]
 exact wpAny_pure ⟨none, H, I, .none, h⟩
theorem Zwb (h : PE X e te) : PO X (some e) (tPart te) := by
 intro pins s σ H Q I hw
 rw [evalPart_some]
 refine thn (h pins s σ H _ I hw) fun u s1 zz => ?_
 obtain ⟨x, H1, I1, r1, q1⟩ := zz
 obtain ⟨i, rfl, q⟩ := q1
 obtain ⟨t, rfl⟩ := r1
 exact ⟨some i, H1, I1, .int i t, q⟩
noncomputable def SlR (X : Cx) (r : V -> Option Int -> Option Int -> Hp -> VK -> Prop) : Prop :=
 ∀ (pins : List (Addr × Obj)) (s : Shared) (σ : St) (H : Hp) (x : V) (v vl vu : Value) (lo hi : Option Int) (sl : Addr) (Q : VK), Inv X pins σ H s -> Zcn x v -> s.heap.IsSliceOf sl vl vu .none -> IsPart vl lo -> IsPart vu hi -> r x lo hi H Q →
  ∃ T id, typeLookup (.type T) "__getitem__" = pure (some (.builtin id)) ∧ s.TypeIs v T ∧ wpAny (model X.prog X.w) X.A (getItem v (.ref sl)) (EP X pins σ Q) X.xe s
noncomputable def tSl (r : V -> Option Int -> Option Int -> Hp -> VK -> Prop) (te : TE) (tl th : TO) : TE := fun σ H Q => te σ H fun x H1 => tl σ H1 fun l H2 => th σ H2 fun u H3 => r x l u H3 Q
theorem Zr3 {r : V -> Option Int -> Option Int -> Hp -> VK -> Prop} (hr : SlR X r) (he : PE X e te) (hl : PO X lo tl) (hu : PO X hi th) : PE X (.Subscript e (.Slice lo hi none p2) pos) (tSl r te tl th) := by
 intro pins s σ H Q I h
 refine Subscript_ (thn (he pins s σ H _ I h) fun v s1 zz => ?_)
 obtain ⟨x, H1, I1, r1, q1⟩ := zz
 refine wpAny_Slice (thn (hl pins s1 σ H1 _ I1 q1) fun vl s2 ⟨l, H2, I2, pl, q2⟩ => thn (hu pins s2 σ H2 _ I2 q2) fun vu s3 zz => ?_)
 obtain ⟨u, H3, I3, pu, q3⟩ := zz
 rw [evalPart_none]
 refine wpAny_pure ?_
 have I4 : Inv X pins σ H3 { s3 with heap := s3.heap.push { cls := .type "slice", data := .fields #[vl, vu, .none] } } := I3.kept (t' := s3.toks) fun b ob q => Heap.get?_push_of_some _ q
 obtain ⟨T, id, hT, ht, hg⟩ := hr pins { s3 with heap := s3.heap.push { cls := .type "slice", data := .fields #[vl, vu, .none] } } σ H3 x v vl vu l u s3.heap.objs.size Q I4 r1 (Heap.IsSliceOf.new ..) pl pu q3
 show wpAny (model X.prog X.w) X.A (subscriptTail e (.Slice lo hi none p2) v (.ref s3.heap.objs.size)) (EP X pins σ Q) X.xe { s3 with heap := s3.heap.push { cls := .type "slice", data := .fields #[vl, vu, .none] } }
 exact tail_any (ops := [.ref s3.heap.objs.size, v]) ht hT hg (by with_unfolding_all rfl)
noncomputable def Zt3 (xs : List V) (lo hi : Option Int) : List V := (xs.drop (HT.sIx xs.length 0 lo)).take (HT.sIx xs.length xs.length hi - HT.sIx xs.length 0 lo)
theorem Zer (xs : List V) (lo hi : Option Int) : (Zt3 xs lo hi).length ≤ xs.length := by
 unfold Zt3
 rw [List.length_take, List.length_drop]
 omega
noncomputable def rSlT (K : PySem.W.Frag) : V -> Option Int -> Option Int -> Hp -> VK -> Prop := fun x lo hi H Q => ∃ a xs, x = .ref a ∧ SqT K H a xs ∧
 ¬ (HT.sIx xs.length 0 lo = 0 ∧ HT.sIx xs.length xs.length hi = xs.length) ∧ ∀ p, H p = none -> Q (.ref p) (upd H p (.tup (Zt3 xs lo hi)))
theorem Yac : SlR X (rSlT X.K) := by
 intro pins s σ H x v vl vu lo hi sl Q I rx hs pl pu h
 obtain ⟨a, xs, rfl, hx, hw, q⟩ := h
 cases rx
 obtain ⟨its, r, ht, hz⟩ := I.tuple hx
 have hlen : its.toArray.size = xs.length := by rw [List.size_toArray]; exact r.length.symm
 refine ⟨"tuple", _, PyProof.Rows.slot_tuple_getitem.lookup, ht.typeIs, ?_⟩
 refine HT.getItem_tuple_cut ht hs pl pu (by rw [hlen]; exact hw) ?_ (by rw [hlen]; exact hz)
 rw [hlen]
 refine ⟨.ref s.heap.objs.size, _, I.laid (t' := s.toks) (o := .tup (Zt3 xs lo hi)) (fun b ob q => Heap.get?_push_of_some _ q) (Nat.le_refl _) ?_, rfl, q _ (I.hok.fresh (Nat.le_refl _))⟩
 exact ⟨Nat.le_trans (Zer xs lo hi) hz, _, (r.drop (HT.sIx xs.length 0 lo)).take (HT.sIx xs.length xs.length hi - HT.sIx xs.length 0 lo), Ziz.new _ _⟩
noncomputable def rCatT (K : PySem.W.Frag) : R2 := fun x y H Q => ∃ a b xs ys, x = .ref a ∧ y = .ref b ∧ SqT K H a xs ∧ SqT K H b ys ∧ xs ≠ [] ∧ xs.length + ys.length ≤ sizeLine ∧
 (ys = [] -> Q (.ref a) H) ∧ (ys ≠ [] -> ∀ p, H p = none -> Q (.ref p) (upd H p (.tup (xs ++ ys))))
theorem Zbq.nil_iff {xs : List V} {us : List Value} (r : Zbq xs us) : us = [] ↔ xs = [] := by
 cases r with
 | nil => simp
 | cons _ _ => simp
theorem Zov : OpR X (binaryOp .Add) (rCatT X.K) := by
 intro pins s σ H x y v u Q I rx ry h
 obtain ⟨a, b, xs, ys, rfl, rfl, ha, hb, hx, hz, q1, q2⟩ := h
 cases rx
 cases ry
 obtain ⟨its, r1, p1, _⟩ := I.tuple ha
 obtain ⟨its2, r2, p2, _⟩ := I.tuple hb
 refine HT.cat_tup p1 p2 (fun z => hx (r1.nil_iff.mp z)) (fun z => ⟨.ref a, H, I, rfl, q1 (r2.nil_iff.mp z)⟩) (fun z => ?_) (by rw [← r1.length, ← r2.length]; exact hz)
 refine ⟨.ref s.heap.objs.size, _, I.laid (t' := s.toks) (o := .tup (xs ++ ys)) (fun b ob q => Heap.get?_push_of_some _ q) (Nat.le_refl _) ?_, rfl, q2 (fun w => z (r2.nil_iff.mpr w)) _ (I.hok.fresh (Nat.le_refl _))⟩
 exact ⟨by rw [List.length_append]; exact hz, _, r1.append r2, Ziz.new _ _⟩
end
noncomputable def ixN (n : Nat) (i : Int) : Option Nat := if 0 ≤ i then (if i < n then some i.toNat else none) else if -(n : Int) ≤ i then some (i + n).toNat else none
noncomputable def atI {α : Type} (xs : List α) (i : Int) : Option α := (ixN xs.length i).bind fun j => xs[j]?
theorem Zqd {n : Nat} {i : Int} {j : Nat} (h : ixN n i = some j) : seqIndex? i n = some j ∧ j < n ∧ -(n : Int) ≤ i ∧ i < n := by
 unfold ixN at h
 by_cases h0 : 0 ≤ i
 ·rw [if_pos h0] at h
  by_cases h1 : i < n
  ·rw [if_pos h1] at h
   have e : i.toNat = j := Option.some.inj h
   exact ⟨by rw [seqIndex_of h0 h1, e], by omega, by omega, h1⟩
  ·rw [if_neg h1] at h; cases h
 ·rw [if_neg h0] at h
  by_cases h1 : -(n : Int) ≤ i
  ·rw [if_pos h1] at h
   have e : (i + n).toNat = j := Option.some.inj h
   exact ⟨by rw [seqIndex_neg (by omega) h1, e], by omega, h1, by omega⟩
  ·rw [if_neg h1] at h; cases h
theorem Zra {α : Type} {xs : List α} {i : Int} {v : α} (h : atI xs i = some v) : ∃ j, seqIndex? i xs.length = some j ∧ xs[j]? = some v ∧ j < xs.length ∧ -(xs.length : Int) ≤ i ∧ i < xs.length := by
 unfold atI at h
 cases e : ixN xs.length i with
 | none => rw [e] at h; cases h
 | some j =>
  rw [e] at h
  obtain ⟨h1, h2, h3, h4⟩ := Zqd e
  exact ⟨j, h1, h, h2, h3, h4⟩
theorem Zb5 {α : Type} {xs : List α} {j : Nat} {v : α} (h : xs[j]? = some v) : atI xs (j : Int) = some v := by
 have hj : j < xs.length := (List.getElem?_eq_some_iff.mp h).1
 have e : ixN xs.length (j : Int) = some j := by
  unfold ixN
  rw [if_pos (by omega), if_pos (by omega)]; simp
 unfold atI; rw [e]; exact h
noncomputable def Zp3 (b : Expr) : Prop := ∀ o i, subscripted b false o i = operate [o, i] (getItem o i)
noncomputable def IxR (X : Cx) (r : R2) : Prop :=
 ∀ (value slice : Expr) (pins : List (Addr × Obj)) (s : Shared) (σ : St) (H : Hp) (x y : V) (v u : Value) (Q : VK), Inv X pins σ H s -> Zcn x v -> Zcn y u -> r x y H Q →
  subscripted slice false v u = operate [v, u] (getItem v u) -> wpAny (model X.prog X.w) X.A (subscriptTail value slice v u) (EP X pins σ Q) X.xe s
noncomputable def MtR (X : Cx) (id : String) (r : V -> List V -> Hp -> VK -> Prop) : Prop :=
 ∀ (pins : List (Addr × Obj)) (s : Shared) (σ : St) (H : Hp) (x : V) (xs : List V) (v : Value) (us : List Value) (Q : VK), Inv X pins σ H s -> Zcn x v -> Zbq xs us -> r x xs H Q →
  wpAny (model X.prog X.w) X.A (call (.builtin id) (v :: us)) (EP X pins σ Q) X.xe s
section
variable {X : Cx} {a b : Expr} {ta tb : TE} {pos : Pos}
theorem Zzk {r : R2} (hr : IxR X r) (ha : PE X a ta) (hb : PE X b tb) (hs : Zp3 b) : PE X (.Subscript a b pos) (tOp r ta tb) := by
 intro pins s σ H Q I h
 exact Subscript_ (binT ha hb I h fun v u s2 x y H2 I2 rx ry q => hr a b pins s2 σ H2 x y v u Q I2 rx ry q (hs _ _))
noncomputable def rIxL (K : PySem.W.Frag) : R2 := fun x y H Q => ∃ p xs i v, x = .ref p ∧ y = .int i ∧ SqL K H p xs ∧ atI xs i = some v ∧ Q v H
noncomputable def rIxT (K : PySem.W.Frag) : R2 := fun x y H Q => ∃ p xs i v, x = .ref p ∧ y = .int i ∧ SqT K H p xs ∧ atI xs i = some v ∧ Q v H
theorem Zpi : IxR X (rIxL X.K) := by
 intro value slice pins s σ H x y v u Q I rx ry h hs
 obtain ⟨p, xs, i, z, rfl, rfl, hq, he, q⟩ := h
 cases rx
 obtain ⟨t, rfl⟩ := ry
 obtain ⟨its, r, pl, hz⟩ := I.list hq
 obtain ⟨j, h1, h2, h3, h4, h5⟩ := Zra he
 obtain ⟨w, ew, rw'⟩ := r.get h2
 have hl := r.length
 have hn := Zio
 have fin : EP X pins σ Q w s := ⟨z, H, I, rw', q⟩
 by_cases h0 : 0 ≤ i
 ·have hj : i.toNat = j := by
   rw [seqIndex_of h0 h5] at h1
   exact Option.some.inj h1
  exact item_listR pl.isList h0 (by omega) (by rw [hj]; simpa using ew) fin hs
 ·have hj : (i + (its.toArray.size : Int)).toNat = j := by
   rw [seqIndex_neg (by omega) h4] at h1
   rw [List.size_toArray, ← hl]
   exact Option.some.inj h1
  exact subscriptTail_builtinR (x := w) pl.isList.typeIs slot_list_getitem.lookup
   (wpAny_getItem_list_neg (Q := fun r s' => r = w ∧ EP X pins σ Q r s') pl.isList (by omega) (by rw [List.size_toArray] <;> omega) (by omega) (by rw [hj]; simpa using ew) ⟨rfl, fin⟩) hs
theorem Zxp : IxR X (rIxT X.K) := by
 intro value slice pins s σ H x y v u Q I rx ry h hs
 obtain ⟨p, xs, i, z, rfl, rfl, hq, he, q⟩ := h
 cases rx
 obtain ⟨t, rfl⟩ := ry
 obtain ⟨its, r, pl, hz⟩ := I.tuple hq
 obtain ⟨j, h1, h2, h3, h4, h5⟩ := Zra he
 obtain ⟨w, ew, rw'⟩ := r.get h2
 have hl := r.length
 have hn := Zio
 have fin : EP X pins σ Q w s := ⟨z, H, I, rw', q⟩
 exact subscriptTail_builtinR (x := w) pl.typeIs slot_tuple_getitem.lookup
  (getItem_tuple (j := j) (Q := fun r s' => r = w ∧ EP X pins σ Q r s') pl (by omega) (by omega) (by rw [List.size_toArray, ← hl]; exact h1) (by simpa using ew) ⟨rfl, fin⟩) hs
theorem Zn4 (its : List Value) (n j : Nat) (u : Value) : Obj.mapSeq (·.setIfInBounds j u) { cls := .type "list", data := .seq its.toArray n } = { cls := .type "list", data := .seq (its.set j u).toArray n } := by
 simp [Obj.mapSeq]
theorem Inv.lst {pins : List (Addr × Obj)} {σ : St} {H : Hp} {s : Shared} {p : Addr} {xs : List V} (I : Inv X pins σ H s) (h : H p = some (.lst xs)) :
  ∃ (its : List Value) (n : Nat), Zbq xs its ∧ s.heap.get? p = some { cls := .type "list", data := .seq its.toArray n } ∧ xs.length ≤ sizeLine := by
 obtain ⟨z, its, n, r, e⟩ := I.hok p _ h
 exact ⟨its, n, r, e, z⟩
theorem Inv.lstUpd {pins : List (Addr × Obj)} {σ : St} {H : Hp} {s : Shared} {p : Addr} {xs ys : List V} {its its' : List Value} {n n' : Nat} {f : Obj -> Obj} (I : Inv X pins σ H s) (h : H p = some (.lst xs))
  (ho : s.heap.get? p = some { cls := .type "list", data := .seq its.toArray n }) (hf : f { cls := .type "list", data := .seq its.toArray n } = { cls := .type "list", data := .seq its'.toArray n' }) (r : Zbq ys its') (hz : ys.length ≤ sizeLine) (t : Nat) :
  Inv X pins σ (upd H p (.lst ys)) { s with heap := s.heap.update p f, toks := t } := by
 have e : (s.heap.update p f).get? p = some { cls := .type "list", data := .seq its'.toArray n' } := by
  rw [Heap.get?_update_self f ho (by rw [hf] <;> rfl), hf]
 refine I.write (x := p) (e := p) (by rw [h]; trivial) (.inl rfl) (fun b u hb q => (Heap.get?_update_other _ _ (Ne.symm hb)).trans q) ⟨_, e⟩ ?_
 exact ⟨hz, its', n', r, e⟩
noncomputable def rSetL : V -> V -> V -> Hp -> (Hp -> Prop) -> Prop := fun o i v H Q => ∃ p xs k j, o = .ref p ∧ i = .int k ∧ H p = some (.lst xs) ∧ ixN xs.length k = some j ∧ Q (upd H p (.lst (xs.set j v)))
theorem Zs3 : PSet X rSetL := by
 intro pins s σ H o i v ov iv u Q I ro ri rv h
 obtain ⟨p, xs, k, j, rfl, rfl, hp, hj, q⟩ := h
 cases ro
 obtain ⟨t, rfl⟩ := ri
 obtain ⟨its, n, r, ho, hz⟩ := I.lst hp
 obtain ⟨h1, h2, h3, h4⟩ := Zqd hj
 have hl := r.length
 have hn := Zio
 have I' : Inv X pins σ (upd H p (.lst (xs.set j v))) { s with heap := s.heap.update p (Obj.mapSeq (·.setIfInBounds j u)) } :=
  I.lstUpd hp ho (Zn4 its n j u) (r.set rv j) (by rw [List.length_set]; exact hz) s.toks
 by_cases h0 : 0 ≤ k
 ·have hk : k.toNat = j := by
   rw [seqIndex_of h0 h4] at h1
   exact Option.some.inj h1
  exact PySem.W.ki_setAt ho h0 (by omega) (by rw [List.size_toArray, ← hl]; exact h4) (by rw [hk]; exact ⟨_, I', q⟩)
 ·have hk : (k + (its.toArray.size : Int)).toNat = j := by
   rw [seqIndex_neg (by omega) h3] at h1
   rw [List.size_toArray, ← hl]
   exact Option.some.inj h1
  exact PySem.W.ki_setBack ho (by omega) (by rw [List.size_toArray, ← hl]; exact h3) (by omega) (by rw [hk]; exact ⟨_, I', q⟩)
theorem Zkw (lo hi : Option Int) (n : Nat) : (sliceBounds lo hi none n).1 = ((HT.sIx n 0 lo : Nat) : Int) ∧ (sliceBounds lo hi none n).2.1 = ((HT.sIx n n hi : Nat) : Int) ∧ (sliceBounds lo hi none n).2.2 = 1 := by
 refine ⟨?_, ?_, rfl⟩
 ·cases lo with
  | none => simp [sliceBounds, HT.sIx]
  | some i =>
   simp only [sliceBounds, HT.sIx, Option.getD_none, show (1 : Int) > 0 by decide, if_true]
   by_cases h : i < 0
   ·simp only [h, if_true] <;> omega
   ·simp only [h, if_false] <;> omega
 ·cases hi with
  | none => simp [sliceBounds, HT.sIx]
  | some i =>
   simp only [sliceBounds, HT.sIx, Option.getD_none, show (1 : Int) > 0 by decide, if_true]
   by_cases h : i < 0
   ·simp only [h, if_true] <;> omega
   ·simp only [h, if_false] <;> omega
theorem Zi4 (its : List Value) (lo hi : Option Int) : slicePick its.toArray lo hi none = ((its.drop (HT.sIx its.length 0 lo)).take (HT.sIx its.length its.length hi - HT.sIx its.length 0 lo)).toArray := by
 obtain ⟨h1, h2, h3⟩ := Zkw lo hi its.toArray.size
 unfold slicePick
 rw [h1, h2, h3]
 simp only [sliceRange_one, pick_run, List.size_toArray] <;> rfl
noncomputable def rSlL (K : PySem.W.Frag) : V -> Option Int -> Option Int -> Hp -> VK -> Prop := fun x lo hi H Q => ∃ a xs, x = .ref a ∧ SqL K H a xs ∧ ∀ p, H p = none -> Q (.ref p) (upd H p (.lst (Zt3 xs lo hi)))
theorem Zvp : SlR X (rSlL X.K) := by
 intro pins s σ H x v vl vu lo hi sl Q I rx hs pl pu h
 obtain ⟨a, xs, rfl, hx, q⟩ := h
 cases rx
 obtain ⟨its, r, ht, hz⟩ := I.list hx
 have hlen := r.length
 refine ⟨"list", _, slot_list_getitem.lookup, ht.isList.typeIs, ?_⟩
 refine wpAny_getItem_list_slice ht.isList hs pl pu .none (by simp) ?_ (by rw [List.size_toArray] <;> omega)
 rw [Zi4, ← hlen]
 refine ⟨.ref s.heap.objs.size, _, I.laid (t' := s.toks) (o := .lst (Zt3 xs lo hi)) (fun b ob q => Heap.get?_push_of_some _ q) (Nat.le_refl _) ?_, rfl, q _ (I.hok.fresh (Nat.le_refl _))⟩
 exact ⟨Nat.le_trans (Zer xs lo hi) hz, _, 0, (r.drop (HT.sIx xs.length 0 lo)).take (HT.sIx xs.length xs.length hi - HT.sIx xs.length 0 lo), Heap.get?_push_size _ rfl⟩
theorem Zkc : Zf7 X (.builtin "len") (fun xs H Q => ∃ p ys, xs = [.ref p] ∧ (SqL X.K H p ys ∨ SqT X.K H p ys) ∧ Q (.int ys.length) H) := by
 intro pins s σ H xs us Q I r h
 obtain ⟨p, ys, rfl, hq, q⟩ := h
 obtain ⟨u, rfl, rx⟩ := Zf6 r
 cases rx
 have hn := Zio
 rcases hq with hq | hq
 ·obtain ⟨its, r', pl, hz⟩ := I.list hq
  have hlen := r'.length
  exact Calls.call_len_list pl.isList (by simp only [List.size_toArray] <;> omega) ⟨.int ys.length, H, I.tok _, ⟨s.toks + 1, by rw [List.size_toArray, hlen]⟩, q⟩
 ·obtain ⟨its, r', pl, hz⟩ := I.tuple hq
  have hlen := r'.length
  exact len_tuple pl (by simp only [List.size_toArray] <;> omega) ⟨.int ys.length, H, I.tok _, ⟨s.toks + 1, by rw [List.size_toArray, hlen]⟩, q⟩
theorem Zk4 : Zf7 X (.builtin "len") (fun xs H Q => ∃ z, xs = [.str z] ∧ z.length ≤ sizeLine ∧ Q (.int z.length) H) := by
 intro pins s σ H xs us Q I r h
 obtain ⟨z, rfl, hz, q⟩ := h
 obtain ⟨u, rfl, t, rfl⟩ := Zf6 r
 have hn := Zio
 exact len_str (by omega) ⟨.int z.length, H, I.tok _, ⟨_, rfl⟩, q⟩
theorem Zjp : Zf7 X (.type "tuple") (fun xs H Q => ∃ p ys, xs = [.ref p] ∧ ((SqL X.K H p ys ∧ ∀ l, H l = none → Q (.ref l) (upd H l (.tup ys))) ∨ (SqT X.K H p ys ∧ Q (.ref p) H))) := by
 intro pins s σ H xs us Q I r h
 obtain ⟨p, ys, rfl, h⟩ := h
 obtain ⟨u, rfl, rx⟩ := Zf6 r
 cases rx
 rcases h with ⟨hq, q⟩ | ⟨hq, q⟩
 ·obtain ⟨its, r', pl, hz⟩ := I.list hq
  have hlen := r'.length
  refine call_tuple_list pl.isList (fun h' kp => ?_) (by simp only [List.size_toArray] <;> omega)
  have I1 : Inv X pins σ H { s with heap := h' } := I.kept (t' := s.toks) kp
  have I2 : Inv X pins σ (upd H h'.objs.size (.tup ys)) { s with heap := h'.push { cls := .type "tuple", data := .seq its.toArray } } :=
   I1.laid (t' := s.toks) (fun b o e => Heap.get?_push_of_some _ e) (Nat.le_refl _) (show Zc6 X.prog X.w _ _ _ (.tup ys) from ⟨hz, its, r', Ziz.new _ _⟩)
  exact ⟨.ref h'.objs.size, _, I2, rfl, q _ (I1.hok.fresh (Nat.le_refl _))⟩
 ·obtain ⟨its, r', pl, hz⟩ := I.tuple hq
  exact call_tuple_same pl ⟨.ref p, H, I, rfl, q⟩
noncomputable def tyV (K : PySem.W.Frag) (T : String) (x : V) (H : Hp) : Prop := match x with
 | .str _ => T = "str"
 | .int _ => T = "int"
 | .ref p => (T = "list" ∧ ∃ xs, SqL K H p xs) ∨ (T = "tuple" ∧ ∃ o, K.lookup p = some o ∧ o.cls = .type "tuple" ∧ o.dict = none) ∨
   (T = "dict" ∧ ((∃ kvs, H p = some (.dK kvs)) ∨ ∃ kvs, H p = some (.dT kvs))) ∨ (T = "set" ∧ ∃ S n, H p = some (.set S n))
 | _ => False
theorem Zzb {pins : List (Addr × Obj)} {σ : St} {H : Hp} {s : Shared} {T : String} {x : V} {v : Value} (I : Inv X pins σ H s) (r : Zcn x v) (ty : tyV X.K T x H) :
  s.TypeIs v T ∧ ∀ a, v = .ref a -> ∃ ob, s.heap.get? a = some ob ∧ ob.dict = none := by
 cases x with
 | str z =>
  obtain ⟨t, rfl⟩ := r
  cases (show T = "str" from ty)
  exact ⟨typeIs_str s z t, fun _ e => nomatch e⟩
 | int i =>
  obtain ⟨t, rfl⟩ := r
  cases (show T = "int" from ty)
  exact ⟨typeIs_int s i t, fun _ e => nomatch e⟩
 | ref p =>
  cases r
  rcases ty with ⟨rfl, xs, hq⟩ | ⟨rfl, o, hk, hc, hd⟩ | ⟨rfl, hk⟩ | ⟨rfl, S, n, hk⟩
  ·obtain ⟨its, _, pl, _⟩ := I.list hq
   refine ⟨pl.isList.typeIs, fun a e => ?_⟩
   cases e
   obtain ⟨o, n, e, c, hd, _⟩ := pl
   exact ⟨o, e, hd⟩
  ·refine ⟨⟨o, I.kIn p o hk, hc⟩, fun a e => ?_⟩
   cases e
   exact ⟨o, I.kIn _ o hk, hd⟩
  ·have z : ∃ o, s.heap.get? p = some o ∧ o.ExactDict := by
    rcases hk with ⟨kvs, hk⟩ | ⟨kvs, hk⟩
    ·obtain ⟨_, _, _, _, o, _, _, e, ex, _⟩ := I.hok p _ hk
     exact ⟨o, e, ex⟩
    ·obtain ⟨_, _, _, _, o, _, _, e, ex, _⟩ := I.hok p _ hk
     exact ⟨o, e, ex⟩
   obtain ⟨o, e, ex⟩ := z
   refine ⟨⟨o, e, ex.1⟩, fun a e2 => ?_⟩
   cases e2
   exact ⟨o, e, ex.2.1⟩
  ·obtain ⟨o, _, _, _, e, ex, _⟩ := I.hok p _ hk
   refine ⟨⟨o, e, ex.1⟩, fun a e2 => ?_⟩
   cases e2
   exact ⟨o, e, ex.2.1⟩
 | _ => exact False.elim ty
noncomputable def tBM (K : PySem.W.Frag) (T : String) (r : V -> List V -> Hp -> VK -> Prop) (to : TE) (t : TA) : TE := fun σ H Q => to σ H fun x H1 => tyV K T x H1 ∧ t σ H1 fun xs H2 => r x xs H2 Q
variable {o e : Expr} {es : List Expr} {to : TE} {t : TA} {name : Str} {apos cpos : Pos} {T id : String} {r : V -> List V -> Hp -> VK -> Prop}
theorem pe_bm (pa : PlainAttrs T) (slot : Slot T name id) (hty : typeOf (.builtin id) = pure (.type "method_descriptor")) (hm : MtR X id r) (ho : PE X o to) (ha : PA X (e :: es) t)
  (hbase : attributeBase o name X.env (eval o X.env) = eval o X.env := by rfl)
  (hfew : ((backTo cpos (starEach (e :: es) X.env)).all (fun x => !x.1) && (backToKw cpos (keywordEach [] X.env)).all (fun x => x.1.isSome)
   && decide ((e :: es).length + ([] : List Keyword).length + (if ([] : List Keyword).isEmpty then 0 else 1) < 30)) = true := by rfl)
  (hline : (apos.endLine == cpos.line) = true := by rfl) (hs : starEach (e :: es) X.env = (false, eval e X.env) :: starEach es X.env := by rfl) (hplain : (backTo cpos (starEach es X.env)).any (·.1) = false := by rfl) :
  PE X (.Call (.Attribute o name apos) (e :: es) [] cpos) (tBM X.K T r to t) := by
 intro pins s σ H Q I h
 refine wpAny_Call_method_late hbase hfew hline rfl (thn (ho pins s σ H _ I h) fun v s1 zz => ?_)
 obtain ⟨x, H1, I1, r1, ty, q1⟩ := zz
 obtain ⟨h1, h2⟩ := Zzb I1 r1 ty
 refine ⟨T, id, pa, slot, hty, h1, h2, ?_⟩
 have hA := ha cpos pins s1 σ H1 _ I1 q1
 rw [hs] at hA ⊢
 refine Calls.callWith_builtin (by show (false || (backTo cpos (starEach es X.env)).any (·.1)) = false; rw [hplain] <;> rfl) (Calls.evalArgs_plain ?_)
 exact thn hA fun us s2 ⟨vs, H2, I2, r2, q2⟩ => hm pins s2 σ H2 x vs v us Q I2 r1 r2 q2
end
noncomputable def MtM (X : Cx) (id : String) (r : V -> List V -> Hp -> VK -> Prop) : Prop :=
 ∀ (pins : List (Addr × Obj)) (s : Shared) (σ : St) (H : Hp) (x : V) (xs : List V) (v : Value) (us : List Value) (Q : VK), Inv X pins σ H s -> Zcn x v -> Zbq xs us -> r x xs H Q →
  wpAny (model X.prog X.w) X.A (call (.builtin id) (v :: us)) (EP X pins σ Q) X.xe s
theorem Zbq.one : ∀ {x : V} {us : List Value}, Zbq [x] us -> ∃ u, us = [u] ∧ Zcn x u := by
 intro x us h
 cases h with
 | cons r t => cases t; exact ⟨_, rfl, r⟩
theorem Zbq.eraseIdx : ∀ {xs : List V} {us : List Value} (i : Nat), Zbq xs us -> Zbq (xs.eraseIdx i) (us.eraseIdx i)
 | _, _, _, .nil => .nil
 | _, _, 0, .cons _ t => t
 | _, _, i + 1, .cons r t => .cons r (Zbq.eraseIdx i t)
theorem Zbq.rep {xs : List V} {us : List Value} (h : Zbq xs us) : ∀ k : Nat, Zbq (List.replicate k xs).flatten (List.replicate k us).flatten
 | 0 => .nil
 | k + 1 => by
  rw [List.replicate_succ, List.replicate_succ, List.flatten_cons, List.flatten_cons]
  exact Zbq.append h (Zbq.rep h k)
theorem Zkv {α : Type} : ∀ (l : List α) (i : Nat), (l.eraseIdx i).length ≤ l.length
 | [], _ => Nat.le_refl _
 | _ :: _, 0 => Nat.le_succ _
 | _ :: r, i + 1 => Nat.succ_le_succ (Zkv r i)
theorem Zho (its : List Value) : ∀ (k : Nat) (acc : List Value),
  List.foldl (fun x1 x2 => x1 ++ x2) acc.toArray (List.replicate k its.toArray) = (acc ++ (List.replicate k its).flatten).toArray
 | 0, acc => by simp
 | k + 1, acc => by
  have e : acc.toArray ++ its.toArray = (acc ++ its).toArray := by simp
  have e2 : (acc ++ its) ++ (List.replicate k its).flatten = acc ++ (List.replicate (k + 1) its).flatten := by
   rw [List.replicate_succ, List.flatten_cons, List.append_assoc]
  rw [← e2, ← Zho its k (acc ++ its), ← e, List.replicate_succ, List.foldl_cons]
section
variable {X : Cx} {pins : List (Addr × Obj)} {σ : St} {H : Hp} {s : Shared} {l b : Addr} {xs ys zs : List V}
theorem Inv.lset {its its' : List Value} {n : Nat} {f : Array Value -> Array Value} {t' : Nat} (I : Inv X pins σ H s) (hH : H l = some (.lst xs))
  (e : s.heap.get? l = some { cls := .type "list", data := .seq its.toArray n }) (hf : f its.toArray = its'.toArray) (hv : Zbq ys its') (hz : ys.length ≤ sizeLine) :
  Inv X pins σ (upd H l (.lst ys)) { s with heap := s.heap.update l (Obj.mapSeq f), toks := t' } := by
 have q := PySem.IsL.update e f
 rw [hf] at q
 refine I.write (x := l) (e := l) (by rw [hH]; exact trivial) (.inl rfl) (fun b' u hb hu => (Heap.get?_update_other s.heap (Obj.mapSeq f) (Ne.symm hb)).trans hu) ⟨_, q⟩ ?_
 exact ⟨hz, its', _, hv, q⟩
theorem Inv.lnew {its : List Value} {t' : Nat} (I : Inv X pins σ H s) (hv : Zbq ys its) (hz : ys.length ≤ sizeLine) :
  Inv X pins σ (upd H s.heap.objs.size (.lst ys)) { s with heap := s.heap.push { cls := .type "list", data := .seq its.toArray }, toks := t' } :=
 I.laid (fun _ _ q => Heap.get?_push_of_some _ q) (Nat.le_refl _) ⟨hz, its, 0, hv, Heap.get?_push_size _ rfl⟩
theorem Inv.fresh (I : Inv X pins σ H s) : H s.heap.objs.size = none := I.hok.fresh (Nat.le_refl _)
theorem Inv.lstM (I : Inv X pins σ H s) (hH : H l = some (.lst xs)) : xs.length ≤ sizeLine ∧ ∃ (its : List Value) (n : Nat), Zbq xs its ∧ xs.length = its.length ∧ s.heap.get? l = some { cls := .type "list", data := .seq its.toArray n } := by
 obtain ⟨z, its, n, r, e⟩ := I.hok l _ hH
 exact ⟨z, its, n, r, r.length, e⟩
theorem Zs4 {n : Nat} (h : n ≤ sizeLine) : Builtin.List.listTooLong n = false := by
 unfold Builtin.List.listTooLong
 exact decide_eq_false (by omega)
end
section
variable {X : Cx}
noncomputable def Zvc : V -> List V -> Hp -> VK -> Prop := fun x vs H Q => ∃ l xs y, x = .ref l ∧ vs = [y] ∧ H l = some (.lst xs) ∧ xs.length < sizeLine ∧ Q .non (upd H l (.lst (xs ++ [y])))
theorem Zhj : MtM X "list.append" Zvc := by
 intro pins s σ H x vs v us Q I rx rv h
 obtain ⟨l, xs, y, rfl, rfl, hH, hz, q⟩ := h
 cases rx
 obtain ⟨u, rfl, ru⟩ := rv.one
 obtain ⟨z, its, n, r, hl, e⟩ := I.lstM hH
 refine call_meets F.slot_list_append ⟨_, e, rfl⟩ F.entry_list_append (F.args_list_append_2 _ _) (PySem.list_append l its.toArray n u (by rw [List.size_toArray]; omega)) ⟨e, ?_⟩
 refine ⟨.non, _, I.lset (its' := its ++ [u]) hH e (by simp) (r.append (.cons ru .nil)) ?_, rfl, q⟩
 rw [List.length_append, List.length_singleton]
 omega
noncomputable def Zxt : V -> List V -> Hp -> VK -> Prop := fun x vs H Q => ∃ l xs i k y, x = .ref l ∧ vs = [.int i] ∧ H l = some (.lst xs) ∧ -(2 ^ 63) ≤ i ∧ i < 2 ^ 63 ∧ seqIndex? i xs.length = some k ∧ xs[k]? = some y ∧ Q y (upd H l (.lst (xs.eraseIdx k)))
theorem Zs5 : MtM X "list.pop" Zxt := by
 intro pins s σ H x vs v us Q I rx rv h
 obtain ⟨l, xs, i, k, y, rfl, rfl, hH, h1, h2, hk, hy, q⟩ := h
 cases rx
 obtain ⟨u, rfl, ru⟩ := rv.one
 obtain ⟨t, rfl⟩ := ru
 obtain ⟨z, its, n, r, hl, e⟩ := I.lstM hH
 obtain ⟨w, hw, rw'⟩ := r.get hy
 refine call_meets F.slot_list_pop ⟨_, e, rfl⟩ F.entry_list_pop (F.args_list_pop_2 _ _)
  (MeetsSeq.list_pop_at l its.toArray n i t k w (fitsIndex_both h1 h2) (by rw [List.size_toArray, ← hl]; exact hk) (by rw [← Array.getElem?_toList]; exact hw) (by rw [List.size_toArray]; omega)) ⟨e, ?_⟩
 refine ⟨y, _, I.lset (its' := its.eraseIdx k) hH e ?_ (r.eraseIdx k) ?_, rw', q⟩
 ·show its.toArray.eraseIdxIfInBounds k = (its.eraseIdx k).toArray
  rw [List.eraseIdxIfInBounds_toArray]
 ·have := Zkv xs k
  omega
noncomputable def rCat : R2 := fun x y H Q => ∃ l b xs zs, x = .ref l ∧ y = .ref b ∧ H l = some (.lst xs) ∧ H b = some (.lst zs) ∧ xs.length + zs.length ≤ sizeLine ∧ ∀ p, H p = none -> Q (.ref p) (upd H p (.lst (xs ++ zs)))
theorem Zz0 : OpR X (binaryOp .Add) rCat := by
 intro pins s σ H x y v u Q I rx ry h
 obtain ⟨l, b, xs, zs, rfl, rfl, hH, hB, hz, q⟩ := h
 cases rx
 cases ry
 obtain ⟨z, its, n, r, hl, e⟩ := I.lstM hH
 obtain ⟨z2, its2, n2, r2, hl2, e2⟩ := I.lstM hB
 refine PySem.P.add_list e e2 ?_ (by rw [List.size_toArray, List.size_toArray]; omega)
 have ea : its.toArray ++ its2.toArray = (its ++ its2).toArray := by simp
 rw [ea]
 exact ⟨.ref _, _, I.lnew (t' := s.toks) (r.append r2) (by rw [List.length_append]; omega), rfl, q _ I.fresh⟩
noncomputable def rRep : R2 := fun x y H Q => ∃ l k xs, x = .ref l ∧ y = .int k ∧ H l = some (.lst xs) ∧ -(2 ^ 63) ≤ k ∧ k < 2 ^ 63 ∧ xs.length * k.toNat ≤ sizeLine ∧
 ∀ p, H p = none -> Q (.ref p) (upd H p (.lst (List.replicate k.toNat xs).flatten))
theorem Zl2 {α : Type} (xs : List α) (k : Nat) : (List.replicate k xs).flatten.length = k * xs.length := by
 induction k with
 | zero => simp
 | succ k ih => rw [List.replicate_succ, List.flatten_cons, List.length_append, ih, Nat.succ_mul, Nat.add_comm]
theorem Zyn : OpR X (binaryOp .Mult) rRep := by
 intro pins s σ H x y v u Q I rx ry h
 obtain ⟨l, k, xs, rfl, rfl, hH, h1, h2, hz, q⟩ := h
 cases rx
 obtain ⟨t, rfl⟩ := ry
 obtain ⟨z, its, n, r, hl, e⟩ := I.lstM hH
 have hlen : its.toArray.size * k.toNat ≤ sizeLine := by rw [List.size_toArray, ← hl]; exact hz
 have hcap : ¬ its.toArray.size * k.toNat > (2 ^ 63 - 1) / 8 := by
  have : (sizeLine : Nat) ≤ (2 ^ 63 - 1) / 8 := by decide
  omega
 have hfit : ¬ (!Builtin.List.listFitsIndex k) = true := by
  rw [fitsIndex_both h1 h2]
  exact Bool.false_ne_true
 have hlong : ¬ Builtin.List.listTooLong (its.toArray.size * k.toNat) = true := by
  rw [Zs4 hlen]
  exact Bool.false_ne_true
 have hnew : List.foldl (fun x1 x2 => x1 ++ x2) #[] (List.replicate (if its.toArray.isEmpty = true then 0 else k.toNat) its.toArray) = (List.replicate k.toNat its).flatten.toArray := by
  have f0 : ∀ m : Nat, List.foldl (fun x1 x2 => x1 ++ x2) #[] (List.replicate m its.toArray) = (List.replicate m its).flatten.toArray := fun m => by
   have := Zho its m []
   rw [List.nil_append] at this
   exact this
  rw [f0]
  cases its with
  | nil => simp
  | cons a r' => rw [if_neg (by simp)]
 refine wpAny_binaryOp_repeat_ref (T := "list") (U := "int") (by decide) ⟨_, e, rfl⟩ (fun s' => typeIs_int s' k t) noFill_list_mul F.fills_int_mul F.slot_int_rmul repeat_list F.slot_int_index.lookup
  (call_meets F.slot_int_rmul (typeIs_int s k t) F.entry_int_rmul (F.args_int_rmul_2 _ _) (int___rmul___int_list k t l its.toArray n)
   ⟨e, rfl, ⟨_, e, rfl⟩, call_meets F.slot_list_mul ⟨_, e, rfl⟩ F.entry_list_mul (F.args_list_mul_2 _ _) (AutoListH.list___mul___list_int_3 l its.toArray n k t hfit hcap hlong) ⟨e, ?_⟩⟩)
 rw [hnew]
 exact ⟨.ref _, _, I.lnew (t' := s.toks) (r.rep k.toNat) (by rw [Zl2, Nat.mul_comm]; exact hz), rfl, q _ I.fresh⟩
end
section
variable {prog : Program} {w : World} {A : Around} {E : Value -> Shared -> Prop} {s : Shared}
set_option maxRecDepth 100000 in
end
section
variable {X : Cx}
end
end L2
namespace Att
open PySem PySem.W PySem.Calls PyProof.Rows
theorem Zg2 {P : Params} {h : Heap} : ∀ (ns : List Int) (vs : List Value), WellAll P h vs (ns.map WData.int) -> IntsAre vs ns := by
 intro ns
 induction ns with
 | nil =>
  intro vs w
  rw [List.map_nil] at w
  cases w
  exact .nil
 | cons n ns ih =>
  intro vs w
  rw [List.map_cons] at w
  cases w with
  | cons a b =>
   cases a
   exact .cons _ _ (ih _ b)
theorem Zop {l : OpenLaw} {n : Nat} (hn : l.most = some n) {P : Params} {h : Heap} {args : List WData} {vals : List Value}
  (hpre : l.row.toRowW.claim.pre args = true) (hwl : WellAll P h vals args) :
  ∃ a vs ns, vals = [Value.ref a] ∧ args = [WData.list (ns.map WData.int)] ∧ h.get? a = some { cls := .type "list", data := .seq vs.toArray } ∧ IntsAre vs ns ∧ ns.length ≤ n := by
 have hsh : WShape.hasAll [] args [.list .int] = true := (pre_splitW hpre).1
 have hc : l.pre.holds [] { args := args } = true := (pre_splitW hpre).2
 obtain ⟨d, r, rfl, h1, h2⟩ := hasAllW_cons hsh
 obtain rfl := hasAllW_nil h2
 obtain ⟨xs, rfl, h3⟩ := hasW_list h1
 obtain ⟨ns, rfl⟩ := items_int h3
 have hlen : ns.length ≤ n := by
  unfold OpenLaw.pre at hc
  have h4 : (WTm.not (.lt (.lit (.int (n : Int))) (.len (.arg 0)))).holds [] { args := [.list (ns.map .int)] } = true := by
   have h4 := (holds_andW hc).1
   rw [hn] at h4
   exact h4
  have h5 := condW_of h4 (w_not (w_lt w_lit (w_len_list (w_arg rfl))))
  rw [List.length_map] at h5
  refine Nat.le_of_not_lt fun q => ?_
  have q' : (n : Int) < ((ns.length : Nat) : Int) := by omega
  first
   | (rw [decide_eq_true q'] at h5; exact absurd h5 (by decide))
   | (simp at h5; omega)
 cases hwl with
 | cons w1 w2 =>
  cases w2
  cases w1 with
  | list ho hall => exact ⟨_, _, ns, rfl, rfl, ho, Zg2 ns _ hall, hlen⟩
theorem Zrf (l : OpenLaw) (args : List WData) : l.row.toRowW.claim.post args (.bool true) args = true :=
 postW_of (r := l.row.toRowW) (X := (true == true))
  (show WShape.has [] (.bool true) .bool = true by first | rfl | decide | simp [WShape.has, WShape.arms, WShape.armsAll])
  (show (WTm.eq .res (.lit (.bool true))).value [] { args := args, res := some (.bool true), after := args } = some (.bool (true == true)) from w_eq_bool (w_res rfl) w_lit) rfl
theorem attach_call {l : OpenLaw} {n : Nat} {q : Program} {loose : List Str} {XP : (Str -> Option Value) -> Heap -> Prop} {YP : World -> Heap -> Prop} {d : DefRec}
  (hn : l.most = some n) (hdf : d.params.defaults = [])
  (call : ∀ (w : World) (s₀ s₁ : Shared) (mg mb : Str -> Option Value) (fa : Addr) (o : Obj) (pm cd doc : Value) (a : Addr) (vs : List Value) (ns : List Int),
   Ground q loose [] XP w s₀ mg mb s₁.heap -> YP w s₁.heap →
   s₁.heap.get? fa = some o -> o.data = .func (docDef d.name d.params d.body d.scope pm cd doc) -> s₁.heap.CodeRec cd d.name -> mg d.name = some (.ref fa) →
   s₁.heap.get? a = some { cls := .type "list", data := .seq vs.toArray } → IntsAre vs ns → ns.length ≤ n → s₁.gens = #[] →
   codeAny (model l.prog w) callerA (.call (.ref fa) ⟨[.ref a], []⟩) (fun r s' => r = .ok (.ret (.bool true)) ∧ OldK s₁.heap s'.heap ∧ s'.os = s₁.os ∧ AllBare s'.gens) s₁) :
  WalkO q loose XP YP l.row.toRowW d [] (fun f vs => PySem.call f vs) := by
 intro w s₀ s₁ mg mb G Y fa o pm cd doc dV kV ho hd hcd hD hmg hg args vals as hpre hlay hrd hwl hlo
 obtain rfl : dV = .none := Dflts.none hD hdf
 obtain rfl : kV = .none := Dflts.noKw hD
 obtain ⟨a, vs, ns, rfl, rfl, hobj, hints, hlen⟩ := Zop hn hpre hwl
 refine enter_call (codeAny_mono (call w s₀ s₁ mg mb fa o pm cd doc a vs ns G Y ho (fd_plain hd) hcd hmg hobj hints hlen hg) fun r s' hq => ?_)
 obtain ⟨rfl, h2, h3, h4⟩ := hq
 exact ⟨.inl ⟨.bool true, .bool true, [], rfl, fun _ => rfl, .bool true, Zrf l _, fun _ => ⟨List.Pairwise.nil, fun _ hm => (nomatch hm)⟩⟩, h2, h3, h4⟩
section
variable {prog : Program} {w : World} {A : Around} {E : Value -> Shared -> Prop} {s : Shared} {K : Frag}
end
end Att
namespace L2
open PySem PySem.Spec PyProof.Rows
theorem Zj8 : ∀ {vs : List Value} {ns : List Int}, IntsAre vs ns -> Zbq (ns.map V.int) vs
 | _, _, .nil => .nil
 | _, _, .cons n t h => .cons ⟨t, rfl⟩ (Zj8 h)
noncomputable def Zxw (H : Hp) : Prop := ∀ b, H b = none ∨ ∃ o xs, H b = some (.frz o (.lst xs))
theorem Zsm {P : Program} {w : World} {K : PySem.W.Frag} {mg mb : Str -> Option Value} {CX : CXT} {k : Nat} {fa a : Addr} {fd : FuncData} {x : Str} {sp : Sp} {s₁ : Shared} {vs : List Value} {ns : List Int}
  (KX : K.In s₁.heap) (hns : s₁.heap.Ns mainGlobals mg) (hb : s₁.heap.Ns builtinsNs mb) (hbb : ∀ x : Str, x ≠ "__name__" → mb x = bootBuiltins x) (hlim : s₁.heap.NoLimit) (hg : s₁.gens = #[])
  (ha : s₁.heap.get? a = some { cls := .type "list", data := .seq vs.toArray }) (hi : IntsAre vs ns) (hl : ns.length ≤ sizeLine) (hr : Room k callerA)
  (F : ∀ base : Heap, K.In base -> base.Ns mainGlobals mg -> FnOk P w K mg base CX k fa fd [x] sp) (hbind : ∀ (s : Shared) (u : Value), BindsTo s fd ⟨[u], []⟩ [(x, u)])
  (hsp : ∀ H : Hp, Zxw H -> SqL K H a (ns.map V.int) -> sp [.ref a] H (fun v _ => v = .bl true) fun _ _ _ => False)
  (hCX : ∀ H e s', CX [] H s₁ (fun _ _ _ => False) e s' -> False) :
  codeAny (model P w) callerA (.call (.ref fa) ⟨[.ref a], []⟩) (fun r s' => r = .ok (.ret (.bool true)) ∧ OldK s₁.heap s'.heap ∧ s'.os = s₁.os ∧ AllBare s'.gens) s₁ := by
 have rv := Zj8 hi
 have lenV := hi.length
 -- from an abstract heap in which nothing but the script may be tracked
 have core : ∀ H : Hp, Zxw H -> SqL K H a (ns.map V.int) -> HOk P w H s₁.heap -> (∀ b, H b ≠ none -> b = a) -> (H a ≠ none -> K.lookup a = none) →
   codeAny (model P w) callerA (.call (.ref fa) ⟨[.ref a], []⟩) (fun r s' => r = .ok (.ret (.bool true)) ∧ OldK s₁.heap s'.heap ∧ s'.os = s₁.os ∧ AllBare s'.gens) s₁ := by
  intro H hO hS hok hA hK
  have base_of : ∀ {b : Addr} {o : Obj}, s₁.heap.get? b = some o -> H b = none -> (Zs6 s₁.heap H).get? b = some o := fun e n => Zsd e n
  have noA : ∀ {b : Addr} {o : Obj} {es : Array DictEntry} {ep : Nat}, s₁.heap.get? b = some o -> o.data = .dict es ep -> H b = none := fun {b o es ep} e d => by
   cases q : H b with
   | none => rfl
   | some u =>
    have e' : b = a := hA b (by rw [q]; simp)
    subst e'
    rw [ha] at e; cases e
    have d' : Data.seq vs.toArray _ = Data.dict es ep := d
    cases d'
  have nsK : ∀ {b : Addr} {m : Str -> Option Value}, s₁.heap.Ns b m -> (Zs6 s₁.heap H).Ns b m := fun {b m} ⟨o, es, ep, e, d, r⟩ => ⟨o, es, ep, base_of e (noA e d), d, r⟩
  have hKb : K.In (Zs6 s₁.heap H) := fun b o e => base_of (KX b o e) (by
   cases q : H b with
   | none => rfl
   | some u =>
    have e' : b = a := hA b (by rw [q]; simp)
    subst e'
    rw [hK (by rw [q]; simp)] at e; cases e)
  have hM : Mod K mg (Zs6 s₁.heap H) := ⟨hKb, nsK hns, ⟨mb, nsK hb, hbb⟩, let ⟨mc, h1, h2⟩ := hlim; ⟨mc, nsK h1, h2⟩⟩
  have e0 : Env0 P w K mg (Zs6 s₁.heap H) callerA [] s₁ H := ⟨rfl, hM, fun b o e => Zu7 e, Nat.le_of_eq (Zrp _ _), trivial, fun b hb => absurd (show b ∈ ([] : List Addr) from hb) (by simp), hok, .of_eq hg⟩
  refine codeAny_mono ((F _ hKb (nsK hns)).run callerA [] s₁ H ⟨[.ref a], []⟩ [.ref a] [.ref a] _ _ hr e0 (hbind s₁ (.ref a)) (.cons rfl .nil) (hsp H hO hS)) fun r s' h => ?_
  cases r with
  | error e => exact (hCX H e s' h).elim
  | ok fl =>
   cases fl with
   | next => exact False.elim h
   | brk => exact False.elim h
   | cont => exact False.elim h
   | ret u =>
    obtain ⟨v, H', os, bare, un, hok', r', q⟩ := h
    have q' : v = .bl true := q
    subst q'
    obtain rfl : u = Value.bool true := r'
    refine ⟨rfl, OldK.of_keep fun b o e => ?_, os, bare⟩
    cases q : H b with
    | none => exact un.keep b o e q (by intro z; exact absurd (show b ∈ ([] : List Addr) from z) (by simp)) (by simp)
    | some u =>
     rcases hO b with z | ⟨ob, xs, z⟩
     ·rw [q] at z; cases z
     ·have z2 := un.frzs b ob _ z
      obtain ⟨e1, _⟩ := hok b _ z
      obtain ⟨e2, _⟩ := hok' b _ z2
      rw [e] at e1; cases e1
      exact e2
 cases hk : K.lookup a with
 | some o =>
  -- the script is one of the module's own objects
  have e := KX a o hk
  rw [ha] at e
  cases e
  refine core (fun _ => none) (fun _ => .inl rfl) (.inr ⟨_, vs.toArray, _, hk, rfl, rfl, rfl, by rw [List.size_toArray, lenV]; exact hl, by simpa using rv⟩) (fun b u z => by have z' : (none : Option HO) = some u := z; cases z') (fun b z => absurd rfl z) fun z => absurd rfl z
 | none =>
  refine core (fun b => if b = a then some (.frz { cls := .type "list", data := .seq vs.toArray } (.lst (ns.map V.int))) else none) (fun b => ?_) (.inl (.inr ⟨{ cls := .type "list", data := .seq vs.toArray }, if_pos rfl⟩)) (fun b u z => ?_) (fun b z => ?_) fun _ => hk
  ·by_cases hb : b = a
   ·exact .inr ⟨_, _, if_pos hb⟩
   ·exact .inl (if_neg hb)
  ·by_cases hb : b = a
   ·have z' := (if_pos hb).symm.trans z
    cases z'
    subst hb
    exact ⟨ha, by rw [List.length_map]; exact hl, vs, _, rv, ha⟩
   ·have z' := (if_neg hb).symm.trans z
    cases z'
  ·by_cases hb : b = a
   ·exact hb
   ·exact absurd (if_neg hb) z
noncomputable abbrev KOf {K : PySem.W.Frag} {h : Heap} (_ : K.In h) : PySem.W.Frag := K
theorem Zwr {l : PySem.W.OpenLaw} {n k : Nat} {q : Program} {loose : List Str} {XP : (Str -> Option Value) -> Heap -> Prop} {YP : World -> Heap -> Prop} {d : DefRec} {K : Params -> PySem.W.Frag} {CX : World -> CXT} {sp : World -> Sp} {x : Str}
  (hn : l.most = some n) (hn2 : n ≤ sizeLine) (hdf : d.params.defaults = []) (hr : Room k callerA)
  (hY : ∀ (w : World) (h : Heap), YP w h -> (K w.params).In h)
  (F : ∀ (w : World) (mg : Str -> Option Value) (fa : Addr) (h : Heap), (K w.params).In h -> h.Ns mainGlobals mg -> mg d.name = some (.ref fa) →
   ∃ fd : FuncData, (∀ (s : Shared) (u : Value), BindsTo s fd ⟨[u], []⟩ [(x, u)]) ∧
    ∀ base : Heap, (K w.params).In base -> base.Ns mainGlobals mg -> FnOk l.prog w (K w.params) mg base (CX w) k fa fd [x] (sp w))
  (hsp : ∀ (w : World) (H : Hp) (a : Addr) (ns : List Int), ns.length ≤ n -> Zxw H -> SqL (K w.params) H a (ns.map V.int) -> sp w [.ref a] H (fun v _ => v = .bl true) fun _ _ _ => False)
  (hCX : ∀ (w : World) (H : Hp) (s : Shared) (e : Value) (s' : Shared), CX w [] H s (fun _ _ _ => False) e s' -> False) :
  PySem.W.WalkO q loose XP YP l.row.toRowW d [] (fun f vs => PySem.call f vs) := by
 refine Att.attach_call hn hdf fun w s₀ s₁ mg mb fa o pm cd doc a vs ns G Y ho hd hcd hmg hobj hints hlen hg => ?_
 have KX := hY w _ Y
 obtain ⟨fd, hb, hF⟩ := F w mg fa _ KX G.T.g hmg
 exact Zsm KX G.T.g G.T.b G.T.builtins G.T.nolimit hg hobj hints (Nat.le_trans hlen hn2) hr hF hb (fun H hO hS => hsp w H a ns hlen hO hS) fun H e s' => hCX w H s₁ e s'
theorem walk_ofK {l : PySem.W.OpenLaw} {n k : Nat} {q : Program} {loose : List Str} {XP : (Str -> Option Value) -> Heap -> Prop} {YP : World -> Heap -> Prop} {d : DefRec} {K : Params -> PySem.W.Frag} {CX : CXT} {sp : PySem.W.Frag -> Sp} {x : Str}
  (hn : l.most = some n) (hn2 : n ≤ sizeLine) (hdf : d.params.defaults = []) (hr : Room k callerA)
  (hY : ∀ (w : World) (h : Heap), YP w h -> (K w.params).In h)
  (F : ∀ (w : World) (mg : Str -> Option Value) (fa : Addr) (h : Heap), (K w.params).In h -> h.Ns mainGlobals mg -> mg d.name = some (.ref fa) →
   ∃ fd : FuncData, (∀ (s : Shared) (u : Value), BindsTo s fd ⟨[u], []⟩ [(x, u)]) ∧
    ∀ base : Heap, (K w.params).In base -> base.Ns mainGlobals mg -> FnOk l.prog w (K w.params) mg base CX k fa fd [x] (sp (K w.params)))
  (hsp : ∀ (K : PySem.W.Frag) (H : Hp) (a : Addr) (ns : List Int), ns.length ≤ n -> Zxw H -> SqL K H a (ns.map V.int) -> sp K [.ref a] H (fun v _ => v = .bl true) fun _ _ _ => False)
  (hCX : ∀ (H : Hp) (s : Shared) (e : Value) (s' : Shared), CX [] H s (fun _ _ _ => False) e s' -> False) :
  PySem.W.WalkO q loose XP YP l.row.toRowW d [] (fun f vs => PySem.call f vs) :=
 Zwr (K := K) (CX := fun _ => CX) (sp := fun w => sp (K w.params)) hn hn2 hdf hr hY F (fun w H a ns h1 h2 h3 => hsp (K w.params) H a ns h1 h2 h3) fun _ H s e s' => hCX H s e s'
noncomputable def Ze1 (s : Stmt) : Arguments := match s with
 | .FunctionDef _ a _ _ _ _ _ _ _ _ => a
 | _ => { posonlyargs := [], args := [], vararg := none, kwonlyargs := [], kw_defaults := [], kwarg := none, defaults := [] }
noncomputable def Zcj (s : Stmt) : List Stmt := match s with
 | .FunctionDef _ _ b _ _ _ _ _ _ _ => b
 | _ => []
noncomputable def Zak (s : Stmt) : Scope := match s with
 | .FunctionDef _ _ _ _ _ _ sc _ _ _ => sc
 | _ => { kind := .function, names := [], isGenerator := false, isCoroutine := false }
noncomputable abbrev CX0 : CXT := fun _ _ _ _ _ _ => False
noncomputable abbrev E0 : XK := fun _ _ _ => False
theorem pass0 {X : Cx} : Zp9 CX0 X E0 := fun _ _ _ _ _ _ _ h => h.elim
structure Fun (K : PySem.W.Frag) (x qual : Str) (st : Stmt) (f : Addr) (fd : FuncData) : Prop where
 ex : ∃ (oc : Value) (od : Option Addr) (kV doc pm : Value) (an : Option Addr) (cdv ct : Value) (osl : Array (Option Value)),
  fd = PySem.W.fnOf x qual (Ze1 st) (Zcj st) (Zak st) .none kV doc pm an cdv ct ∧ K.lookup f = some ⟨oc, od, .func fd, osl⟩ ∧ PySem.W.codeIn K cdv qual = true
 kp : PySem.W.keepIn K (.ref f) = true
section
variable {P : Program} {w : World} {K : PySem.W.Frag} {mg : Str -> Option Value} {base : Heap}
theorem Fun.ok {x qual : Str} {st : Stmt} {f : Addr} {fd : FuncData} {N ps : List Str} {k : Nat} {sp : Sp} (F : Fun K x qual st f fd) (S : FnScope N ps (Zak st)) (len : ∀ vs H Q E, sp vs H Q E -> vs.length = ps.length)
  (hbody : ∀ (cdv : Value) (A : Around) (outer : List Env) (s : Shared) (H : Hp) (vs : List V) (Q : VK) (E : XK), Room k (A.deeper (envOfC qual (Zak st) s.heap.objs.size f cdv)) -> sp vs H Q E →
   ∃ t, PSs (Zfj CX0 P w K mg base N qual (Zak st) f cdv A outer s H E).nox (Zcj st) t ∧ t { nx := fun _ H' => Q .non H', rt := Q } (start N vs) H) : FnOk P w K mg base CX0 (k + 1) f fd ps sp := by
 obtain ⟨oc, od, kV, doc, pm, an, cdv, ct, osl, rfl, lk, hcd⟩ := F.ex
 refine Zz7 lk hcd S len fun A outer s H vs Q E hr hsp => ?_
 obtain ⟨t, h, q⟩ := hbody cdv A outer s H vs Q E hr hsp
 exact ⟨t, h.nox, q⟩
theorem Fun.binds {x qual : Str} {st : Stmt} {f : Addr} {fd : FuncData} {ps : List Str} (F : Fun K x qual st f fd)
  (h : ∀ (kV doc pm : Value) (an : Option Addr) (cdv ct : Value) (us : List Value), us.length = ps.length -> bindArgs (PySem.W.fnOf x qual (Ze1 st) (Zcj st) (Zak st) .none kV doc pm an cdv ct) ⟨us, []⟩ = pure (ps.zip us)) : Zis K fd ps [] := by
 obtain ⟨oc, od, kV, doc, pm, an, cdv, ct, osl, rfl, lk, hcd⟩ := F.ex
 exact .all (h kV doc pm an cdv ct)
theorem Zz8 {x qual : Str} {st : Stmt} {f : Addr} {oc : Value} {od an : Option Addr} {osl : Array (Option Value)} {kV doc pm cdv ct : Value} (l : K.lookup f = some ⟨oc, od, .func (PySem.W.fnOf x qual (Ze1 st) (Zcj st) (Zak st) .none kV doc pm an cdv ct), osl⟩)
  (c : PySem.W.codeIn K cdv qual = true) (k : PySem.W.keepIn K (.ref f) = true) : Fun K x qual st f (PySem.W.fnOf x qual (Ze1 st) (Zcj st) (Zak st) .none kV doc pm an cdv ct) := ⟨⟨oc, od, kV, doc, pm, an, cdv, ct, osl, rfl, l, c⟩, k⟩
end
section
variable {X : Cx}
theorem pv (i : Nat) {x : Str} {pos : Pos} (hN : X.N[i]? = some x := by rfl) (hv : Vis X.env.scope x := by first | exact Or.inl rfl | exact Or.inr (Or.inl rfl) | exact Or.inr (Or.inr rfl)) (hd : (x == ("__debug__" : Str)) = false := by decide)
  (hcd : (x == ("__classdict__" : Str)) = false := by decide) : PE X (.Name x pos) (tVar i) := Zk0 hN hv hd hcd
end
end L2
set_option maxHeartbeats 4000000
set_option autoImplicit false
namespace DL
open PySem PySem.Spec PyProof.Rows L2
noncomputable def Zld : Value -> Option Int
 | .int i _ => some i
 | .bool b => some (if b then 1 else 0)
 | _ => none
noncomputable def Zhc (k : Int) (v : Value) : Bool := Zld v == some k
theorem Zes {k : Int} {v : Value} (h : Zhc k v = true) : (∃ t, v = .int k t) ∨ ∃ b, v = .bool b ∧ k = (if b then 1 else 0) := by
 have h : Zld v = some k := eq_of_beq h
 cases v with
 | int i t => exact .inl ⟨t, by cases h; rfl⟩
 | bool b => exact .inr ⟨b, rfl, (Option.some.inj h).symm⟩
 | _ => cases h
section
variable {prog : Program} {w : World} {A : Around} {E : Value -> Shared -> Prop} {s : Shared}
theorem Zln {b : Bool} {Q : Int -> Shared -> Prop} (h : Q (hashInt (if b then 1 else 0)) { s with toks := s.toks + 1 }) : wpAny (model prog w) A (pyHash (.bool b)) Q E s := by
 have hr := rawHash_range (if b then 1 else 0)
 have tb : s.TypeIs (.bool b) "bool" := rfl
 unfold pyHash
 have hv : [Value.bool b].any Value.onHeap = false := rfl
 refine wpAny_bind ?_
 rw [cRoomFor, if_neg (by rw [hv]; exact Bool.false_ne_true)]; refine wpAny_pure ?_
 refine wpAny_bind (wpAny_specialOf tb F.slot_bool_hash.lookup ?_)
 show wpAny _ _ (if (some (Value.builtin "int.__hash__") == some Value.none) = true then _ else _) Q E s
 rw [if_neg (by rw [beq_builtin_none]; exact Bool.false_ne_true)]
 refine wpAny_bind (wpAny_specialOf tb F.slot_bool_hash.lookup ?_)
 show wpAny _ _ (callSpecialIfBoundUnlessNone? (.bool b) "__hash__" _ >>= _) Q E s
 refine wpAny_bind (wpAny_callSpecialIfBoundUnlessNone?_slot tb F.slot_bool_hash
  (wpAny_call_entry F.slot_bool_hash tb entry_int_hash
   (show wpAny _ _ (do ret (← mkInt (rawHash (if b then 1 else 0)))) _ _ s from wpAny_ret_mkInt ?_) (args_int_hash _)))
 show wpAny _ _ (if (decide (-(2 : Int) ^ 63 ≤ rawHash (if b then 1 else 0)) && decide (rawHash (if b then 1 else 0) < 2 ^ 63)) = true then _ else _) Q E _
 rw [if_pos (by rw [decide_eq_true hr.1, decide_eq_true hr.2]; rfl)]
 exact wpAny_pure h
end
noncomputable def Zbn (prog : Program) (w : World) : KeyKind prog w Int where
 is := Zhc
 hash := hashInt
 inj := fun v a b ha hb => by
  unfold Zhc at ha hb
  have := (eq_of_beq ha).symm.trans (eq_of_beq hb)
  exact Option.some.inj this
 byValue := fun k v h => by rcases Zes h with ⟨t, rfl⟩ | ⟨b, rfl, _⟩ <;> rfl
 pyHash := fun hv h => by
  rcases Zes hv with ⟨t, rfl⟩ | ⟨b, rfl, rfl⟩
  ·exact wpAny_pyHash_int h
  ·exact Zln h
 eqBool := fun {A E s a b u v Q} hu hv h => by
  rcases Zes hu with ⟨t, rfl⟩ | ⟨c, rfl, rfl⟩ <;> rcases Zes hv with ⟨t', rfl⟩ | ⟨c', rfl, rfl⟩
  ·exact wpAny_eqBool_int h
  ·exact PySem.SeqAt.EqAt.int_bool _ _ _ prog w E Q h
  ·exact PySem.SeqAt.EqAt.bool_int _ _ _ prog w E Q h
  ·refine PySem.SeqAt.EqAt.bool_bool _ _ prog w E Q ?_
   have e : (c == c') = decide ((if c then (1 : Int) else 0) = (if c' then 1 else 0)) := by cases c <;> cases c' <;> rfl
   rw [e]; exact h
 «strs» := fun k x t v h => by simp [Zhc, Zld] at h
inductive D where
 | non | bl (b : Bool) | int (i : Int) | str (x : Str) | ty (n : String) | tup (xs : List D) | fl (xs : List D) | ref (n : Nat)
inductive DO where
 | lst (xs : List D) | dic (kvs : List (D × D)) (fz : Bool) | dci (kvs : List (Int × D))
noncomputable abbrev HD := List DO
noncomputable abbrev SD := List (Option D)
noncomputable def FzL (K : PySem.W.Frag) (H : Hp) (a : Addr) (xs : List V) : Prop :=
 (∃ o, H a = some (.frz o (.lst xs))) ∨
  ∃ (o : Obj) (its : Array Value) (n : Nat), K.lookup a = some o ∧ o.cls = .type "list" ∧ o.dict = none ∧ o.data = .seq its n ∧ its.size ≤ sizeLine ∧ Zbq xs its.toList
theorem FzL.sq {K : PySem.W.Frag} {H : Hp} {a : Addr} {xs : List V} (h : FzL K H a xs) : SqL K H a xs := by
 rcases h with h | h
 ·exact .inl (.inr h)
 ·exact .inr h
mutual
noncomputable def Rep (K : PySem.W.Frag) (H : Hp) (ι : List Addr) : D -> V -> Prop
 | .non, v => v = .non
 | .bl b, v => v = .bl b
 | .int i, v => v = .int i
 | .str x, v => v = .str x
 | .ty n, v => v = .ty n
 | .tup ds, v => ∃ a vs, v = .ref a ∧ SqT K H a vs ∧ Zjs K H ι ds vs
 | .fl ds, v => ∃ a vs, v = .ref a ∧ FzL K H a vs ∧ Zjs K H ι ds vs
 | .ref n, v => ∃ a, v = .ref a ∧ ι[n]? = some a
noncomputable def Zjs (K : PySem.W.Frag) (H : Hp) (ι : List Addr) : List D -> List V -> Prop
 | [], vs => vs = []
 | d :: ds, vs => ∃ v r, vs = v :: r ∧ Rep K H ι d v ∧ Zjs K H ι ds r
end
section
variable {α β : Type} {F G : α -> β -> Prop}
theorem Prd.len : ∀ {xs : List α} {us : List β}, Paired F xs us -> xs.length = us.length
 | _, _, .nil => rfl
 | _, _, .cons _ t => by simp [Prd.len t]
theorem Prd.get : ∀ {xs : List α} {us : List β} {i : Nat} {x : α}, Paired F xs us -> xs[i]? = some x -> ∃ u, us[i]? = some u ∧ F x u
 | _, _, _, _, .nil, e => by simp at e
 | _, _, 0, _, .cons r _, e => by simp at e; subst e; exact ⟨_, rfl, r⟩
 | _, _, i + 1, x, .cons _ t, e => by
  obtain ⟨u, h1, h2⟩ := Prd.get (i := i) (x := x) t (by simpa using e)
  exact ⟨u, by simpa using h1, h2⟩
theorem Prd.set {x : α} {u : β} (r : F x u) : ∀ {xs : List α} {us : List β} (i : Nat), Paired F xs us -> Paired F (xs.set i x) (us.set i u)
 | _, _, _, .nil => .nil
 | _, _, 0, .cons _ t => .cons r t
 | _, _, i + 1, .cons q t => .cons q (Prd.set r i t)
theorem Prd.append : ∀ {xs ys : List α} {us ws : List β}, Paired F xs us -> Paired F ys ws -> Paired F (xs ++ ys) (us ++ ws)
 | _, _, _, _, .nil, s => s
 | _, _, _, _, .cons r t, s => .cons r (Prd.append t s)
theorem Prd.take : ∀ {xs : List α} {us : List β} (n : Nat), Paired F xs us -> Paired F (xs.take n) (us.take n)
 | _, _, 0, _ => .nil
 | _, _, _ + 1, .nil => .nil
 | _, _, n + 1, .cons r t => .cons r (Prd.take n t)
theorem Prd.drop : ∀ {xs : List α} {us : List β} (n : Nat), Paired F xs us -> Paired F (xs.drop n) (us.drop n)
 | _, _, 0, r => r
 | _, _, _ + 1, .nil => .nil
 | _, _, n + 1, .cons _ t => Prd.drop n t
theorem Prd.eraseIdx : ∀ {xs : List α} {us : List β} (i : Nat), Paired F xs us -> Paired F (xs.eraseIdx i) (us.eraseIdx i)
 | _, _, _, .nil => .nil
 | _, _, 0, .cons _ t => t
 | _, _, i + 1, .cons r t => .cons r (Prd.eraseIdx i t)
theorem Prd.rep {xs : List α} {us : List β} (h : Paired F xs us) : ∀ k : Nat, Paired F (List.replicate k xs).flatten (List.replicate k us).flatten
 | 0 => .nil
 | k + 1 => by
  rw [List.replicate_succ, List.flatten_cons, List.replicate_succ, List.flatten_cons]
  exact Prd.append h (Prd.rep h k)
theorem Prd.imp : ∀ {xs : List α} {us : List β}, Paired F xs us -> (∀ a b, a ∈ xs -> F a b -> G a b) -> Paired G xs us
 | _, _, .nil, _ => .nil
 | _, _, .cons r t, f => .cons (f _ _ (by simp) r) (Prd.imp t fun a b h => f a b (by simp [h]))
end
section
variable {K : PySem.W.Frag} {H H' : Hp} {ι ι' : List Addr}
theorem Zd7 : ∀ {ds : List D} {vs : List V}, Zjs K H ι ds vs ↔ Paired (Rep K H ι) ds vs
 | [], vs => by
  constructor
  ·intro h; rw [Zjs] at h; subst h; exact .nil
  ·intro h; cases h; rw [Zjs]
 | d :: ds, vs => by
  constructor
  ·intro h; rw [Zjs] at h
   obtain ⟨v, r, rfl, h1, h2⟩ := h
   exact .cons h1 (Zd7.mp h2)
  ·intro h
   cases h with
   | cons h1 h2 => rw [Zjs]; exact ⟨_, _, rfl, h1, Zd7.mpr h2⟩
@[simp] theorem rep_non {v : V} : Rep K H ι .non v ↔ v = .non := by rw [Rep]
@[simp] theorem rep_bl {b : Bool} {v : V} : Rep K H ι (.bl b) v ↔ v = .bl b := by rw [Rep]
@[simp] theorem rep_int {i : Int} {v : V} : Rep K H ι (.int i) v ↔ v = .int i := by rw [Rep]
@[simp] theorem rep_str {x : Str} {v : V} : Rep K H ι (.str x) v ↔ v = .str x := by rw [Rep]
@[simp] theorem rep_ty {n : String} {v : V} : Rep K H ι (.ty n) v ↔ v = .ty n := by rw [Rep]
theorem Zbj {ds : List D} {v : V} : Rep K H ι (.tup ds) v ↔ ∃ a vs, v = .ref a ∧ SqT K H a vs ∧ Paired (Rep K H ι) ds vs := by
 rw [Rep]
 constructor
 ·rintro ⟨a, vs, h1, h2, h3⟩; exact ⟨a, vs, h1, h2, Zd7.mp h3⟩
 ·rintro ⟨a, vs, h1, h2, h3⟩; exact ⟨a, vs, h1, h2, Zd7.mpr h3⟩
theorem Zgd {ds : List D} {v : V} : Rep K H ι (.fl ds) v ↔ ∃ a vs, v = .ref a ∧ FzL K H a vs ∧ Paired (Rep K H ι) ds vs := by
 rw [Rep]
 constructor
 ·rintro ⟨a, vs, h1, h2, h3⟩; exact ⟨a, vs, h1, h2, Zd7.mp h3⟩
 ·rintro ⟨a, vs, h1, h2, h3⟩; exact ⟨a, vs, h1, h2, Zd7.mpr h3⟩
theorem Za3 {n : Nat} {v : V} : Rep K H ι (.ref n) v ↔ ∃ a, v = .ref a ∧ ι[n]? = some a := by rw [Rep]
structure Lw (K : PySem.W.Frag) (H : Hp) (ι : List Addr) (H' : Hp) (ι' : List Addr) : Prop where
 tup : ∀ a xs, SqT K H a xs -> SqT K H' a xs
 fz : ∀ a xs, FzL K H a xs -> FzL K H' a xs
 pre : ∃ t, ι' = ι ++ t
 fr : ∀ a o u, H a = some (.frz o u) -> H' a = some (.frz o u)
structure Le (K : PySem.W.Frag) (H : Hp) (ι : List Addr) (H' : Hp) (ι' : List Addr) : Prop extends Lw K H ι H' ι' where
 frame : ∀ a o, H a = some o -> a ∉ ι -> H' a = some o ∧ a ∉ ι'
theorem Le.refl : Le K H ι H ι := ⟨⟨fun _ _ h => h, fun _ _ h => h, ⟨[], by simp⟩, fun _ _ _ h => h⟩, fun _ _ h n => ⟨h, n⟩⟩
theorem Le.trans {H1 H2 : Hp} {ι1 ι2 : List Addr} (a : Le K H ι H1 ι1) (b : Le K H1 ι1 H2 ι2) : Le K H ι H2 ι2 := by
 refine ⟨⟨fun x xs h => b.tup x xs (a.tup x xs h), fun x xs h => b.fz x xs (a.fz x xs h), ?_, fun x o u h => b.fr x o u (a.fr x o u h)⟩, fun x o h n => ?_⟩
 ·obtain ⟨t, e⟩ := a.pre
  obtain ⟨u, e'⟩ := b.pre
  exact ⟨t ++ u, by rw [e', e, List.append_assoc]⟩
 ·obtain ⟨h1, n1⟩ := a.frame x o h n
  exact b.frame x o h1 n1
theorem Lw.get (l : Lw K H ι H' ι') {n : Nat} {a : Addr} (h : ι[n]? = some a) : ι'[n]? = some a := by
 obtain ⟨t, e⟩ := l.pre
 rw [e, List.getElem?_append_left (by exact (List.getElem?_eq_some_iff.mp h).1), h]
mutual
theorem Rep.monoW (l : Lw K H ι H' ι') : ∀ {d : D} {v : V}, Rep K H ι d v -> Rep K H' ι' d v
 | .non, v, h => by rw [Rep] at h ⊢; exact h
 | .bl _, v, h => by rw [Rep] at h ⊢; exact h
 | .int _, v, h => by rw [Rep] at h ⊢; exact h
 | .str _, v, h => by rw [Rep] at h ⊢; exact h
 | .ty _, v, h => by rw [Rep] at h ⊢; exact h
 | .tup ds, v, h => by
  rw [Rep] at h ⊢
  obtain ⟨a, vs, h1, h2, h3⟩ := h
  exact ⟨a, vs, h1, l.tup a vs h2, Zjs.monoW l h3⟩
 | .fl ds, v, h => by
  rw [Rep] at h ⊢
  obtain ⟨a, vs, h1, h2, h3⟩ := h
  exact ⟨a, vs, h1, l.fz a vs h2, Zjs.monoW l h3⟩
 | .ref n, v, h => by
  rw [Rep] at h ⊢
  obtain ⟨a, h1, h2⟩ := h
  exact ⟨a, h1, l.get h2⟩
theorem Zjs.monoW (l : Lw K H ι H' ι') : ∀ {ds : List D} {vs : List V}, Zjs K H ι ds vs -> Zjs K H' ι' ds vs
 | [], vs, h => by rw [Zjs] at h ⊢; exact h
 | d :: ds, vs, h => by
  rw [Zjs] at h ⊢
  obtain ⟨v, r, h1, h2, h3⟩ := h
  exact ⟨v, r, h1, Rep.monoW l h2, Zjs.monoW l h3⟩
end
theorem Rep.mono (l : Le K H ι H' ι') {d : D} {v : V} (h : Rep K H ι d v) : Rep K H' ι' d v := Rep.monoW l.toLw h
theorem Prd.monoW (l : Lw K H ι H' ι') {ds : List D} {vs : List V} (h : Paired (Rep K H ι) ds vs) : Paired (Rep K H' ι') ds vs := Zd7.mp (Zjs.monoW l (Zd7.mpr h))
theorem Prd.mono (l : Le K H ι H' ι') {ds : List D} {vs : List V} (h : Paired (Rep K H ι) ds vs) : Paired (Rep K H' ι') ds vs := Prd.monoW l.toLw h
noncomputable def nkOf : D -> Option Int
 | .int i => some i
 | .bl b => some (if b then 1 else 0)
 | _ => none
noncomputable def Zja : List D -> Option (List Int)
 | [] => some []
 | d :: r => (nkOf d).bind fun k => (Zja r).map fun ks => k :: ks
noncomputable def nk : D -> Option (List Int)
 | .tup ds => Zja ds
 | _ => none
noncomputable def kHash (ks : List Int) : Int := reduceHash (Builtin.Tuple.tupleHashOf (ks.map hashInt))
noncomputable def Zc1 (a : Addr) (xs : List (List Int × Addr × Value)) (h : Heap) : Prop :=
 ∃ o es ep, h.get? a = some o ∧ o.ExactDict ∧ o.data = .dict es ep ∧ es.toList = xs.map (fun x => (⟨kHash x.1, .ref x.2.1, x.2.2⟩ : DictEntry)) ∧ (xs.map (·.1)).Nodup
theorem Zc1.keep {a : Addr} {xs : List (List Int × Addr × Value)} {h1 h2 : Heap} (d : Zc1 a xs h1) (k : ∀ o, h1.get? a = some o -> h2.get? a = some o) : Zc1 a xs h2 := by
 obtain ⟨o, es, ep, e, r⟩ := d
 exact ⟨o, es, ep, k o e, r⟩
noncomputable def Zoj (K : PySem.W.Frag) (H : Hp) (ι : List Addr) (p : D × D) (x : List Int × Addr × Value) : Prop := nk p.1 = some x.1 ∧ Rep K H ι p.1 (.ref x.2.1) ∧ ∃ v, Zcn v x.2.2 ∧ Rep K H ι p.2 v
noncomputable def Zh8 (a : Addr) (xs : List (Int × Value)) (h : Heap) : Prop := ∀ (p : Program) (w : World), h.DictOf (Zbn p w) a xs
theorem Zh8.keep {a : Addr} {xs : List (Int × Value)} {h1 h2 : Heap} (d : Zh8 a xs h1) (k : ∀ o, h1.get? a = some o -> h2.get? a = some o) : Zh8 a xs h2 := fun p w => by
 obtain ⟨o, es, ep, e, r⟩ := d p w
 exact ⟨o, es, ep, k o e, r⟩
noncomputable def Znk (K : PySem.W.Frag) (H : Hp) (ι : List Addr) (p : Int × D) (x : Int × Value) : Prop := p.1 = x.1 ∧ ∃ v, Zcn v x.2 ∧ Rep K H ι p.2 v
noncomputable def Zom (K : PySem.W.Frag) (H : Hp) (ι : List Addr) (a : Addr) : DO -> Prop
 | .lst ds => ∃ vs, H a = some (.lst vs) ∧ Paired (Rep K H ι) ds vs
 | .dic kvs fz => (a == sysModules) = false ∧ kvs.length ≤ sizeLine ∧ ∃ xs, (if fz = true then ∃ o, H a = some (.frz o (.ext (Zc1 a xs))) else H a = some (.ext (Zc1 a xs))) ∧ Paired (Zoj K H ι) kvs xs
 | .dci kvs => (a == sysModules) = false ∧ kvs.length ≤ sizeLine ∧ ∃ xs, H a = some (.ext (Zh8 a xs)) ∧ Paired (Znk K H ι) kvs xs
structure HRep (K : PySem.W.Frag) (H : Hp) (ι : List Addr) (Hd : HD) : Prop where
 len : ι.length = Hd.length
 nd : ι.Nodup
 obj : ∀ (n : Nat) (a : Addr) (o : DO), ι[n]? = some a -> Hd[n]? = some o -> Zom K H ι a o
theorem Zom.there {a : Addr} {o : DO} (h : Zom K H ι a o) : H a ≠ none := by
 cases o with
 | lst ds => obtain ⟨vs, e, _⟩ := h; rw [e]; simp
 | dic kv fz =>
  obtain ⟨_, _, xs, e, _⟩ := h
  cases fz with
  | true => rw [if_pos rfl] at e; obtain ⟨ob, e⟩ := e; rw [e]; simp
  | false => rw [if_neg (by simp)] at e; rw [e]; simp
 | dci kv => obtain ⟨_, _, xs, e, _⟩ := h; rw [e]; simp
theorem Zom.step {a : Addr} {o : DO} (h : Zom K H ι a o) (l : Lw K H ι H' ι') (e : H' a = H a) : Zom K H' ι' a o := by
 cases o with
 | lst ds => obtain ⟨vs, q, r⟩ := h; exact ⟨vs, by rw [e, q], Prd.monoW l r⟩
 | dic kv fz => obtain ⟨h1, h2, xs, q, r⟩ := h; exact ⟨h1, h2, xs, by rw [e]; exact q, Prd.imp r fun p x _ z => ⟨z.1, Rep.monoW l z.2.1, let ⟨v, z1, z2⟩ := z.2.2; ⟨v, z1, Rep.monoW l z2⟩⟩⟩
 | dci kv => obtain ⟨h1, h2, xs, q, r⟩ := h; exact ⟨h1, h2, xs, by rw [e]; exact q, Prd.imp r fun p x _ z => ⟨z.1, let ⟨v, z1, z2⟩ := z.2; ⟨v, z1, Rep.monoW l z2⟩⟩⟩
theorem HRep.has {Hd : HD} (h : HRep K H ι Hd) {a : Addr} (hm : a ∈ ι) : ∃ (n : Nat) (o : DO), ι[n]? = some a ∧ Hd[n]? = some o ∧ Zom K H ι a o := by
 obtain ⟨n, hn⟩ := List.mem_iff_getElem?.mp hm
 have hl : n < Hd.length := by rw [← h.len]; exact (List.getElem?_eq_some_iff.mp hn).1
 exact ⟨n, Hd[n], hn, by simp [hl], h.obj n a Hd[n] hn (by simp [hl])⟩
theorem HRep.fresh {Hd : HD} (h : HRep K H ι Hd) {p : Addr} (hp : H p = none) : p ∉ ι := fun hm => by
 obtain ⟨_, _, _, _, o⟩ := h.has hm
 exact o.there hp
theorem HRep.keep {Hd : HD} (h : HRep K H ι Hd) (l : Lw K H ι H' ι) (e : ∀ a ∈ ι, H' a = H a) : HRep K H' ι Hd :=
 ⟨h.len, h.nd, fun n a o h1 h2 => (h.obj n a o h1 h2).step l (e a (List.mem_of_getElem? h1))⟩
theorem Lw.fresh {p : Addr} (hp : H p = none) (o : HO) : Lw K H ι (upd H p o) ι where
 tup := fun a xs h => by
  rcases h with (h | ⟨ob, h⟩) | h
  ·exact .inl (.inl (by rw [Zao (Zan h hp)]; exact h))
  ·exact .inl (.inr ⟨ob, by rw [Zao (Zan h hp)]; exact h⟩)
  ·exact .inr h
 fz := fun a xs h => by
  rcases h with ⟨ob, h⟩ | h
  ·exact .inl ⟨ob, by rw [Zao (Zan h hp)]; exact h⟩
  ·exact .inr h
 pre := ⟨[], by simp⟩
 fr := fun a ob u h => by rw [Zao (Zan h hp)]; exact h
theorem Le.fresh {p : Addr} (hp : H p = none) (o : HO) : Le K H ι (upd H p o) ι := ⟨Lw.fresh hp o, fun a ob h n => ⟨by rw [Zao (Zan h hp)]; exact h, n⟩⟩
theorem Le.fresh1 {p : Addr} (hp : H p = none) (o : HO) : Le K H ι (upd H p o) (ι ++ [p]) where
 tup := (Le.fresh (ι := ι) hp o).tup
 fz := (Le.fresh (ι := ι) hp o).fz
 pre := ⟨[p], rfl⟩
 fr := (Le.fresh (K := K) (ι := ι) hp o).fr
 frame := fun a ob h n => ⟨by rw [Zao (Zan h hp)]; exact h, by
  have := Zan h hp
  simp [n, this]⟩
theorem HRep.tup {Hd : HD} (h : HRep K H ι Hd) {p : Addr} (hp : H p = none) (o : HO) : HRep K (upd H p o) ι Hd :=
 h.keep (Lw.fresh hp o) fun a ha => Zao fun z => by subst z; exact h.fresh hp ha
theorem HRep.new {Hd : HD} (h : HRep K H ι Hd) {p : Addr} (hp : H p = none) {u : HO} {o : DO} (ho : Zom K (upd H p u) (ι ++ [p]) p o) : HRep K (upd H p u) (ι ++ [p]) (Hd ++ [o]) := by
 have hf := h.fresh hp
 refine ⟨by simp [h.len], by simp only [List.nodup_append, h.nd, true_and]; exact ⟨by simp, fun a ha b hb e => hf (by simp at hb; rw [← hb, ← e]; exact ha)⟩, fun n a ob h1 h2 => ?_⟩
 by_cases hn : n < ι.length
 ·rw [List.getElem?_append_left hn] at h1
  rw [List.getElem?_append_left (by rw [← h.len]; exact hn)] at h2
  have ha : a ∈ ι := List.mem_of_getElem? h1
  exact (h.obj n a ob h1 h2).step (Le.fresh1 hp u).toLw (Zao fun z => by subst z; exact hf ha)
 ·rw [List.getElem?_append_right (by omega)] at h1
  rw [List.getElem?_append_right (by rw [← h.len]; omega)] at h2
  rw [← h.len] at h2
  have : n - ι.length = 0 := by
   have := (List.getElem?_eq_some_iff.mp h1).1
   simp at this; omega
  rw [this] at h1 h2
  simp at h1 h2
  subst h1; subst h2
  exact ho
noncomputable def Zzq : HO -> Prop
 | .lst _ => True
 | .ext _ => True
 | _ => False
theorem Le.upd {a : Addr} (ha : a ∈ ι) {o : HO} (e : H a = some o) (lo : Zzq o) (u : HO) : Le K H ι (upd H a u) ι where
 tup := fun b xs h => by
  rcases h with (h | ⟨ob, h⟩) | h
  ·refine .inl (.inl ?_)
   rw [Zao (Zkh h e (by rintro rfl; exact lo))]; exact h
  ·refine .inl (.inr ⟨ob, ?_⟩)
   rw [Zao (Zkh h e (by rintro rfl; exact lo))]; exact h
  ·exact .inr h
 fz := fun b xs h => by
  rcases h with ⟨ob, h⟩ | h
  ·refine .inl ⟨ob, ?_⟩
   rw [Zao (Zkh h e (by rintro rfl; exact lo))]; exact h
  ·exact .inr h
 pre := ⟨[], by simp⟩
 fr := fun b ob w h => by rw [Zao (Zkh h e (by rintro rfl; exact lo))]; exact h
 frame := fun b ob h n => ⟨by rw [Zao (by rintro rfl; exact n ha)]; exact h, n⟩
theorem HRep.upd {Hd : HD} (h : HRep K H ι Hd) {n : Nat} {a : Addr} (hn : ι[n]? = some a) {o u : HO} (e : H a = some o) (lo : Zzq o) {ob : DO} (ho : Zom K (upd H a u) ι a ob) : HRep K (upd H a u) ι (Hd.set n ob) := by
 refine ⟨by simp [h.len], h.nd, fun m b oc h1 h2 => ?_⟩
 by_cases hm : n = m
 ·subst hm
  rw [hn] at h1; cases h1
  rw [List.getElem?_set] at h2
  rw [if_pos rfl] at h2
  split at h2
  ·cases h2; exact ho
  ·cases h2
 ·rw [List.getElem?_set_ne hm] at h2
  have hb : b ≠ a := fun z => by
   subst z
   have l1 := (List.getElem?_eq_some_iff.mp hn).1
   exact hm ((List.getElem?_inj l1 h.nd).mp (hn.trans h1.symm))
  exact (h.obj m b oc h1 h2).step (Le.upd (List.mem_of_getElem? hn) e lo u).toLw (Zao hb)
theorem HRep.add {Hd : HD} (h : HRep K H ι Hd) {p : Addr} (hp : p ∉ ι) {o : DO} (ho : Zom K H (ι ++ [p]) p o) : HRep K H (ι ++ [p]) (Hd ++ [o]) := by
 refine ⟨by simp [h.len], by simp only [List.nodup_append, h.nd, true_and]; exact ⟨by simp, fun a ha b hb e => hp (by simp at hb; rw [← hb, ← e]; exact ha)⟩, fun n a ob h1 h2 => ?_⟩
 by_cases hn : n < ι.length
 ·rw [List.getElem?_append_left hn] at h1
  rw [List.getElem?_append_left (by rw [← h.len]; exact hn)] at h2
  exact (h.obj n a ob h1 h2).step ⟨fun _ _ z => z, fun _ _ z => z, ⟨[p], rfl⟩, fun _ _ _ z => z⟩ rfl
 ·rw [List.getElem?_append_right (by omega)] at h1
  rw [List.getElem?_append_right (by rw [← h.len]; omega)] at h2
  rw [← h.len] at h2
  have : n - ι.length = 0 := by
   have := (List.getElem?_eq_some_iff.mp h1).1
   simp at this; omega
  rw [this] at h1 h2
  simp at h1 h2
  subst h1; subst h2
  exact ho
theorem Lw.side {p : Addr} {ys : List V} (hp : H p = some (.lst ys)) (u : HO) : Lw K H ι (L2.upd H p u) ι where
 tup := fun a xs h => by
  rcases h with (h | ⟨ob, h⟩) | h
  ·refine .inl (.inl ?_)
   rw [Zao (Zkh h hp (by intro z; cases z))]; exact h
  ·refine .inl (.inr ⟨ob, ?_⟩)
   rw [Zao (Zkh h hp (by intro z; cases z))]; exact h
  ·exact .inr h
 fz := fun a xs h => by
  rcases h with ⟨ob, h⟩ | h
  ·refine .inl ⟨ob, ?_⟩
   rw [Zao (Zkh h hp (by intro z; cases z))]; exact h
  ·exact .inr h
 pre := ⟨[], by simp⟩
 fr := fun a ob w h => by rw [Zao (Zkh h hp (by intro z; cases z))]; exact h
theorem Lw.trans {H1 H2 : Hp} {ι1 ι2 : List Addr} (a : Lw K H ι H1 ι1) (b : Lw K H1 ι1 H2 ι2) : Lw K H ι H2 ι2 := by
 refine ⟨fun x xs h => b.tup x xs (a.tup x xs h), fun x xs h => b.fz x xs (a.fz x xs h), ?_, fun x o u h => b.fr x o u (a.fr x o u h)⟩
 obtain ⟨t, e⟩ := a.pre
 obtain ⟨u, e'⟩ := b.pre
 exact ⟨t ++ u, by rw [e', e, List.append_assoc]⟩
theorem Le.side {H1 : Hp} {ι1 : List Addr} {p : Addr} {ys : List V} (l : Le K H ι H1 ι1) (h0 : H p = none) (h1 : H1 p = some (.lst ys)) (u : HO) : Le K H ι (L2.upd H1 p u) ι1 :=
 ⟨l.toLw.trans (Lw.side h1 u), fun a o h n => by
  obtain ⟨q, m⟩ := l.frame a o h n
  exact ⟨by rw [Zao (Zan h h0)]; exact q, m⟩⟩
structure SRep (K : PySem.W.Frag) (H : Hp) (ι : List Addr) (σ : L2.St) (σd : SD) : Prop where
 len : σ.length = σd.length
 var : ∀ (i : Nat) (d : D), σd[i]? = some (some d) -> ∃ v, σ[i]? = some (some v) ∧ Rep K H ι d v
theorem SRep.mono {σ : L2.St} {σd : SD} (s : SRep K H ι σ σd) (l : Le K H ι H' ι') : SRep K H' ι' σ σd :=
 ⟨s.len, fun i d h => let ⟨v, h1, h2⟩ := s.var i d h; ⟨v, h1, h2.mono l⟩⟩
theorem SRep.set {σ : L2.St} {σd : SD} {d : D} {v : V} (s : SRep K H ι σ σd) (r : Rep K H ι d v) (i : Nat) : SRep K H ι (σ.set i (some v)) (σd.set i (some d)) := by
 refine ⟨by simp [s.len], fun j e h => ?_⟩
 by_cases hj : i = j
 ·subst hj
  rw [List.getElem?_set] at h ⊢
  rw [if_pos rfl] at h ⊢
  split at h
  ·rename_i hl
   rw [if_pos (by rw [s.len]; exact hl)]
   cases h
   exact ⟨v, rfl, r⟩
  ·cases h
 ·rw [List.getElem?_set_ne hj] at h ⊢
  exact s.var j e h
end
noncomputable def Zm6 : Expr -> Bool
 | .Starred _ _ => false
 | _ => true
theorem Zbe {e : Expr} {es : List Expr} {env : Env} (h : Zm6 e = true) : starEach (e :: es) env = (false, eval e env) :: starEach es env := by
 cases e <;> first | rfl | cases h
theorem Zc0 {pos : Pos} {env : Env} : ∀ {es : List Expr}, es.all Zm6 = true -> (backTo pos (starEach es env)).any (·.1) = false
 | [], _ => rfl
 | e :: es, h => by
  rw [List.all_cons, Bool.and_eq_true] at h
  rw [Zbe h.1]
  show (false || (backTo pos (starEach es env)).any (·.1)) = false
  rw [Zc0 h.2]
  rfl
theorem Zmv {pos : Pos} {env : Env} {es : List Expr} (h : es.all Zm6 = true) (hl : es.length < 30) : ((backTo pos (starEach es env)).all (fun x => !x.1) && (backToKw pos (keywordEach [] env)).all (fun x => x.1.isSome)
   && decide (es.length + ([] : List Keyword).length + (if ([] : List Keyword).isEmpty then 0 else 1) < 30)) = true := by
 have h1 := Zc0 (pos := pos) (env := env) h
 have h2 : (backTo pos (starEach es env)).all (fun x => !x.1) = true := by
  rw [List.all_eq_true]
  intro x hx
  rw [List.any_eq_false] at h1
  have := h1 x hx
  simpa using this
 have h3 : decide (es.length + ([] : List Keyword).length + (if ([] : List Keyword).isEmpty then 0 else 1) < 30) = true := by
  rw [decide_eq_true_eq]
  simpa using hl
 rw [h2, h3]
 rfl
noncomputable abbrev EF := SD -> HD -> Option (D × HD)
noncomputable abbrev TF := SD -> HD -> Option (Bool × HD)
noncomputable abbrev AF := SD -> HD -> Option (List D × HD)
inductive FD where
 | nx | bk | ct | rt (d : D)
noncomputable abbrev SF := SD -> HD -> Option (FD × SD × HD)
noncomputable abbrev GF := D -> SD -> HD -> Option (SD × HD)
noncomputable abbrev FF := List D -> HD -> Option (D × HD)
noncomputable abbrev F2 := D -> D -> HD -> Option (D × HD)
noncomputable def QE (K : PySem.W.Frag) (H : Hp) (ι : List Addr) (d : D) (Hd' : HD) (Q : VK) : Prop := ∀ v H' ι', Le K H ι H' ι' -> HRep K H' ι' Hd' -> Rep K H' ι' d v -> Q v H'
noncomputable def rdE (K : PySem.W.Frag) (f : EF) : TE := fun σ H Q => ∃ ι σd Hd d Hd', SRep K H ι σ σd ∧ HRep K H ι Hd ∧ f σd Hd = some (d, Hd') ∧ QE K H ι d Hd' Q
noncomputable def rdT (K : PySem.W.Frag) (f : TF) : TT := fun σ H Q => ∃ ι σd Hd b Hd', SRep K H ι σ σd ∧ HRep K H ι Hd ∧ f σd Hd = some (b, Hd') ∧ ∀ H' ι', Le K H ι H' ι' -> HRep K H' ι' Hd' -> Q b H'
noncomputable def rdA (K : PySem.W.Frag) (f : AF) : TA := fun σ H Q => ∃ ι σd Hd ds Hd', SRep K H ι σ σd ∧ HRep K H ι Hd ∧ f σd Hd = some (ds, Hd') ∧ ∀ vs H' ι', Le K H ι H' ι' -> HRep K H' ι' Hd' -> Paired (Rep K H' ι') ds vs -> Q vs H'
noncomputable def QS (K : PySem.W.Frag) (H : Hp) (ι : List Addr) (fl : FD) (σd' : SD) (Hd' : HD) (E : Ends) : Prop := ∀ σ' H' ι', Le K H ι H' ι' -> HRep K H' ι' Hd' -> SRep K H' ι' σ' σd' →
 match fl with
 | .nx => E.nx σ' H'
 | .bk => E.bk σ' H'
 | .ct => E.ct σ' H'
 | .rt d => ∀ v, Rep K H' ι' d v -> E.rt v H'
noncomputable def rdS (K : PySem.W.Frag) (f : SF) : TS := fun E σ H => ∃ ι σd Hd fl σd' Hd', SRep K H ι σ σd ∧ HRep K H ι Hd ∧ f σd Hd = some (fl, σd', Hd') ∧ QS K H ι fl σd' Hd' E
noncomputable def rdG (K : PySem.W.Frag) (g : GF) : TG := fun v σ H Q => ∃ ι σd Hd d σd' Hd', SRep K H ι σ σd ∧ HRep K H ι Hd ∧ Rep K H ι d v ∧ g d σd Hd = some (σd', Hd') ∧
 ∀ σ' H' ι', Le K H ι H' ι' -> HRep K H' ι' Hd' -> SRep K H' ι' σ' σd' -> Q σ' H'
noncomputable def rd2 (K : PySem.W.Frag) (g : F2) : R2 := fun x y H Q => ∃ ι dx dy Hd d Hd', HRep K H ι Hd ∧ Rep K H ι dx x ∧ Rep K H ι dy y ∧ g dx dy Hd = some (d, Hd') ∧ QE K H ι d Hd' Q
noncomputable def rd1 (K : PySem.W.Frag) (g : D -> HD -> Option (D × HD)) : V -> Hp -> VK -> Prop := fun x H Q => ∃ ι dx Hd d Hd', HRep K H ι Hd ∧ Rep K H ι dx x ∧ g dx Hd = some (d, Hd') ∧ QE K H ι d Hd' Q
noncomputable def rdC (K : PySem.W.Frag) (g : FF) : List V -> Hp -> VK -> Prop := fun vs H Q => ∃ ι ds Hd d Hd', HRep K H ι Hd ∧ Paired (Rep K H ι) ds vs ∧ g ds Hd = some (d, Hd') ∧ QE K H ι d Hd' Q
noncomputable def rdM (K : PySem.W.Frag) (g : D -> List D -> HD -> Option (D × HD)) : V -> List V -> Hp -> VK -> Prop := fun v vs H Q => ∃ ι x ds Hd d Hd', HRep K H ι Hd ∧ Rep K H ι x v ∧ Paired (Rep K H ι) ds vs ∧ g x ds Hd = some (d, Hd') ∧ QE K H ι d Hd' Q
noncomputable def PEf (X : Cx) (e : Expr) (f : EF) : Prop := PE X e (rdE X.K f)
noncomputable def PTf (X : Cx) (e : Expr) (f : TF) : Prop := PT X e (rdT X.K f)
noncomputable def PWf (X : Cx) (e : Expr) (f : TF) : Prop := PW X e (rdT X.K f)
noncomputable def PAf (X : Cx) (es : List Expr) (f : AF) : Prop := PA X es (rdA X.K f)
noncomputable def PSf (X : Cx) (st : Stmt) (f : SF) : Prop := PS X st (rdS X.K f)
noncomputable def Zrv (X : Cx) (st : List Stmt) (f : SF) : Prop := PSs X st (rdS X.K f)
noncomputable def PGf (X : Cx) (tg : Expr) (g : GF) : Prop := PG X tg (rdG X.K g)
noncomputable def OpF (X : Cx) (f : Value -> Value -> Sem Value) (g : F2) : Prop := OpR X f (rd2 X.K g)
noncomputable def UnF (X : Cx) (f : Value -> Sem Value) (g : D -> HD -> Option (D × HD)) : Prop := UnR X f (rd1 X.K g)
noncomputable def Zgl (X : Cx) (f : Value) (g : FF) : Prop := Zf7 X f (rdC X.K g)
noncomputable def IxF (X : Cx) (g : F2) : Prop := IxR X (rd2 X.K g)
noncomputable def MtF (X : Cx) (id : String) (g : D -> List D -> HD -> Option (D × HD)) : Prop := MtR X id (rdM X.K g)
section
variable {X : Cx} {e a b c : Expr} {es : List Expr} {pos : Pos} {st : Stmt} {sts : List Stmt}
theorem PEi {t t' : TE} (h : PE X e t) (i : ∀ σ H Q, t' σ H Q -> t σ H Q) : PE X e t' := fun pins s σ H Q I q => h pins s σ H Q I (i σ H Q q)
theorem PTi {t t' : TT} (h : PT X e t) (i : ∀ σ H Q, t' σ H Q -> t σ H Q) : PT X e t' := fun pins s σ H Q I q => h pins s σ H Q I (i σ H Q q)
theorem PWi {t t' : TT} (h : PW X e t) (i : ∀ σ H Q, t' σ H Q -> t σ H Q) : PW X e t' := fun wh pins s σ H Q I q => h wh pins s σ H Q I (i σ H Q q)
theorem PAi {t t' : TA} (h : PA X es t) (i : ∀ σ H Q, t' σ H Q -> t σ H Q) : PA X es t' := fun ps pins s σ H Q I q => h ps pins s σ H Q I (i σ H Q q)
theorem PSi {t t' : TS} (h : PS X st t) (i : ∀ E σ H, t' E σ H -> t E σ H) : PS X st t' := fun pins s σ H E I q => h pins s σ H E I (i E σ H q)
theorem Zxh {t t' : TS} (h : PSs X sts t) (i : ∀ E σ H, t' E σ H -> t E σ H) : PSs X sts t' := fun pins s σ H E I q => h pins s σ H E I (i E σ H q)
theorem PGi {t t' : TG} (h : PG X e t) (i : ∀ v σ H Q, t' v σ H Q -> t v σ H Q) : PG X e t' := fun pins s σ H v u Q I r q => h pins s σ H v u Q I r (i v σ H Q q)
theorem OpRi {f : Value -> Value -> Sem Value} {t t' : R2} (h : OpR X f t) (i : ∀ x y H Q, t' x y H Q -> t x y H Q) : OpR X f t' := fun pins s σ H x y v u Q I r1 r2 q => h pins s σ H x y v u Q I r1 r2 (i x y H Q q)
noncomputable def Zad (i : Nat) : EF := fun σ H => (σ[i]?).join.map fun d => (d, H)
noncomputable def eC (d : D) : EF := fun _ H => some (d, H)
theorem Zab {i : Nat} {x : Str} (h : PE X (.Name x pos) (tVar i)) : PEf X (.Name x pos) (Zad i) := by
 refine PEi h fun σ H Q zz => ?_
 obtain ⟨ι, σd, Hd, d, Hd', s, hr, e, q⟩ := zz
 unfold Zad at e
 cases hx : σd[i]? with
 | none => rw [hx] at e; cases e
 | some o =>
  cases o with
  | none => rw [hx] at e; cases e
  | some d0 =>
   rw [hx] at e
   have e' : (d0, Hd) = (d, Hd') := Option.some.inj e
   obtain ⟨rfl, rfl⟩ := Prod.mk.inj e'
   obtain ⟨v, h1, h2⟩ := s.var i d0 hx
   exact ⟨v, h1, q v H ι Le.refl hr h2⟩
theorem Zo1 {v : V} {d : D} (h : PE X e (tC v)) (r : ∀ H ι, Rep X.K H ι d v) : PEf X e (eC d) := by
 refine PEi h fun σ H Q zz => ?_
 obtain ⟨ι, σd, Hd, d', Hd', s, hr, e, q⟩ := zz
 cases e
 exact q v H ι Le.refl hr (r H ι)
theorem Zaf {i j} : PEf X (.Constant (.int i) j pos) (eC (.int i)) := Zo1 Zum fun _ _ => by simp
theorem Zef {b j} : PEf X (.Constant (.bool b) j pos) (eC (.bl b)) := Zo1 pe_bl fun _ _ => by simp
theorem Zcy {x j} : PEf X (.Constant (.str x) j pos) (eC (.str x)) := Zo1 Zmj fun _ _ => by simp
theorem Zt9 {x : Str} {n : String} (hg : Gl X x) (hm : X.mg x = none) (hv : bootBuiltins x = some (.type n)) (hn : x ≠ "__name__" := by decide) (hd : (x == ("__debug__" : Str)) = false := by decide) : PEf X (.Name x pos) (eC (.ty n)) :=
 Zo1 (Zpq (v := .ty n) hg hm hv rfl hn hd) fun _ _ => by simp
noncomputable def eOp (g : F2) (fa fb : EF) : EF := fun σ H => (fa σ H).bind fun p => (fb σ p.2).bind fun q => g p.1 q.1 q.2
theorem Zsr {fa fb : EF} {g : F2} {σ : L2.St} {H : Hp} {Q : VK} {K : PySem.W.Frag} (h : rdE K (eOp g fa fb) σ H Q) : tOp (rd2 K g) (rdE K fa) (rdE K fb) σ H Q := by
 obtain ⟨ι, σd, Hd, d, Hd', s, hr, e, q⟩ := h
 obtain ⟨⟨x, H1⟩, e1, e⟩ := Zo e
 obtain ⟨⟨y, H2⟩, e2, e⟩ := Zo e
 exact ⟨ι, σd, Hd, x, H1, s, hr, e1, fun v1 H1' ι1 l1 h1 r1 => ⟨ι1, σd, H1, y, H2, s.mono l1, h1, e2, fun v2 H2' ι2 l2 h2 r2 =>
  ⟨ι2, x, y, H2, d, Hd', h2, r1.mono l2, r2, e, fun v H' ι' l h r => q v H' ι' ((l1.trans l2).trans l) h r⟩⟩⟩
theorem Zam {op : Operator} {g : F2} {fa fb : EF} (ho : OpF X (binaryOp op) g) (ha : PEf X a fa) (hb : PEf X b fb) : PEf X (.BinOp a op b pos) (eOp g fa fb) :=
 PEi (pe_op ho ha hb) fun _ _ _ h => Zsr h
theorem Zg1 {op : CmpOp} {g : F2} {fa fb : EF} (ho : OpF X (compareOp op) g) (ha : PEf X a fa) (hb : PEf X b fb) (hm : behindInMarks op b = false) : PEf X (.Compare a [op] [b] pos) (eOp g fa fb) :=
 PEi (Zvb ho ha hb hm) fun _ _ _ h => Zsr h
theorem Zau {g : F2} {fa fb : EF} (ho : IxF X g) (ha : PEf X a fa) (hb : PEf X b fb) (hs : Zp3 b) : PEf X (.Subscript a b pos) (eOp g fa fb) :=
 PEi (Zzk ho ha hb hs) fun _ _ _ h => Zsr h
noncomputable def eUn (g : D -> HD -> Option (D × HD)) (fa : EF) : EF := fun σ H => (fa σ H).bind fun p => g p.1 p.2
theorem Zic {op : UnaryOp} {g : D -> HD -> Option (D × HD)} {fa : EF} (ho : UnF X (unaryOp op) g) (ha : PEf X a fa) : PEf X (.UnaryOp op a pos) (eUn g fa) := by
 refine PEi (pe_un ho ha) fun σ H Q zz => ?_
 obtain ⟨ι, σd, Hd, d, Hd', s, hr, e, q⟩ := zz
 obtain ⟨⟨x, H1⟩, e1, e⟩ := Zo e
 exact ⟨ι, σd, Hd, x, H1, s, hr, e1, fun v1 H1' ι1 l1 h1 r1 => ⟨ι1, x, H1, d, Hd', h1, r1, e, fun v H' ι' l h r => q v H' ι' (l1.trans l) h r⟩⟩
noncomputable def blD : D -> Option Bool
 | .bl b => some b
 | _ => none
noncomputable def tOf (f : EF) : TF := fun σ H => (f σ H).bind fun p => (blD p.1).map fun b => (b, p.2)
theorem Zhi {K : PySem.W.Frag} {H : Hp} {ι : List Addr} {d : D} {b : Bool} {v : V} (e : blD d = some b) (r : Rep K H ι d v) : v = .bl b := by
 cases d <;> simp [blD] at e
 subst e
 simpa using r
theorem Za5 {op : CmpOp} {g : F2} {fa fb : EF} (ho : OpF X (compareOp op) g) (ha : PEf X a fa) (hb : PEf X b fb) (hm : behindInMarks op b = false) : PTf X (.Compare a [op] [b] pos) (tOf (eOp g fa fb)) := by
 refine PTi (Zxc ho ha hb hm) fun σ H Q zz => ?_
 obtain ⟨ι, σd, Hd, bb, Hd', s, hr, e, q⟩ := zz
 obtain ⟨⟨x, H1⟩, e1, e⟩ := Zo e
 obtain ⟨b', eb, e⟩ := Zm e
 cases e
 exact Zsr ⟨ι, σd, Hd, x, H1, s, hr, e1, fun v H' ι' l h r => ⟨bb, Zhi eb r, q H' ι' l h⟩⟩
noncomputable def Zpr : D -> HD -> Option Bool
 | .non, _ => some false
 | .bl b, _ => some b
 | .int i, _ => some (i != 0)
 | .tup xs, _ => some (!xs.isEmpty)
 | .fl xs, _ => some (!xs.isEmpty)
 | .str x, _ => if x.length ≤ sizeLine then some ((x.length : Int) != 0) else none
 | .ref n, H => match H[n]? with
  | some (.lst xs) => some (!xs.isEmpty)
  | _ => none
 | _, _ => none
theorem Zgz {α β : Type} {F : α -> β -> Prop} {xs : List α} {us : List β} (r : Paired F xs us) : (!us.isEmpty) = !xs.isEmpty := by cases r <;> rfl
theorem Zvi {K : PySem.W.Frag} {H : Hp} {ι : List Addr} {Hd : HD} {d : D} {k : Bool} {v : V} (hr : HRep K H ι Hd) (r : Rep K H ι d v) (e : Zpr d Hd = some k) : TruV K v H k := by
 cases d with
 | non => simp at r; subst r; simp [Zpr] at e; subst e; exact rfl
 | bl b => simp at r; subst r; simp [Zpr] at e; subst e; exact rfl
 | int i => simp at r; subst r; simp [Zpr] at e; subst e; exact rfl
 | ty n => simp [Zpr] at e
 | str x =>
  simp at r; subst r
  simp only [Zpr] at e
  split at e
  ·rename_i hl
   cases e
   exact ⟨hl, rfl⟩
  ·cases e
 | tup xs =>
  obtain ⟨ad, vs, rfl, h, p⟩ := Zbj.mp r
  cases (show some (!xs.isEmpty) = some k from e)
  exact .inr (.inl ⟨vs, h, by rw [Zgz p]⟩)
 | fl xs =>
  obtain ⟨ad, vs, rfl, h, p⟩ := Zgd.mp r
  cases (show some (!xs.isEmpty) = some k from e)
  exact .inl ⟨vs, h.sq, by rw [Zgz p]⟩
 | ref n =>
  obtain ⟨ad, rfl, h⟩ := Za3.mp r
  simp only [Zpr] at e
  split at e
  ·rename_i xs ho
   cases e
   obtain ⟨vs, h1, p⟩ := hr.obj n ad _ h ho
   exact .inl ⟨vs, SqL.of h1, by rw [Zgz p]⟩
  ·cases e
noncomputable def Zol (f : EF) : TF := fun σ H => (f σ H).bind fun p => (Zpr p.1 p.2).map fun b => (b, p.2)
theorem Zgv {fa : EF} (ha : PEf X a fa) (he : ∀ whole, isTrue a X.env whole = (do let v ← whole; standAt a.pos; holding [v] (truthy v))) : PTf X a (Zol fa) := by
 refine PTi (Ztw ha he) fun σ H Q zz => ?_
 obtain ⟨ι, σd, Hd, bb, Hd', s, hr, e, q⟩ := zz
 obtain ⟨⟨x, H1⟩, e1, e⟩ := Zo e
 obtain ⟨b', eb, e⟩ := Zm e
 cases e
 exact ⟨ι, σd, Hd, x, H1, s, hr, e1, fun v H' ι' l h r => ⟨bb, Zvi h r eb, q H' ι' l h⟩⟩
noncomputable def tNo (t : TF) : TF := fun σ H => (t σ H).map fun p => (!p.1, p.2)
noncomputable def tAn (t u : TF) : TF := fun σ H => (t σ H).bind fun p => if p.1 = true then u σ p.2 else some (false, p.2)
noncomputable def Zrx (t u : TF) : TF := fun σ H => (t σ H).bind fun p => if p.1 = true then some (true, p.2) else u σ p.2
theorem Zo5 {t : TF} (h : PTf X a t) : PTf X (.UnaryOp .Not a pos) (tNo t) := by
 refine PTi (Zy9 h) fun σ H Q zz => ?_
 obtain ⟨ι, σd, Hd, bb, Hd', s, hr, e, q⟩ := zz
 obtain ⟨⟨x, H1⟩, e1, e⟩ := Zm e
 cases e
 exact ⟨ι, σd, Hd, x, H1, s, hr, e1, fun H' ι' l h => q H' ι' l h⟩
theorem Zgq {t : TF} (h : PTf X a t) : PWf X (.BoolOp .And [a] pos) t := Zwn h
theorem Zo6 {t : TF} (h : PTf X a t) : PWf X (.BoolOp .Or [a] pos) t := Zx9 h
theorem Zi0 {t u : TF} (h : PTf X a t) (h2 : PWf X (.BoolOp .And (b :: es) pos) u) : PWf X (.BoolOp .And (a :: b :: es) pos) (tAn t u) := by
 refine PWi (Zx1 h h2) fun σ H Q zz => ?_
 obtain ⟨ι, σd, Hd, bb, Hd', s, hr, e, q⟩ := zz
 obtain ⟨⟨x, H1⟩, e1, e⟩ := Zo e
 refine ⟨ι, σd, Hd, x, H1, s, hr, e1, fun H' ι' l h => ?_⟩
 cases x with
 | true =>
  rw [if_pos rfl]
  exact ⟨ι', σd, H1, bb, Hd', s.mono l, h, by simpa using e, fun H2 ι2 l2 h2 => q H2 ι2 (l.trans l2) h2⟩
 | false =>
  rw [if_neg (by simp)]
  simp at e
  obtain ⟨rfl, rfl⟩ := e
  exact q H' ι' l h
theorem Zuu {t u : TF} (h : PTf X a t) (h2 : PWf X (.BoolOp .Or (b :: es) pos) u) : PWf X (.BoolOp .Or (a :: b :: es) pos) (Zrx t u) := by
 refine PWi (pw_or h h2) fun σ H Q zz => ?_
 obtain ⟨ι, σd, Hd, bb, Hd', s, hr, e, q⟩ := zz
 obtain ⟨⟨x, H1⟩, e1, e⟩ := Zo e
 refine ⟨ι, σd, Hd, x, H1, s, hr, e1, fun H' ι' l h => ?_⟩
 cases x with
 | true =>
  rw [if_pos rfl]
  simp at e
  obtain ⟨rfl, rfl⟩ := e
  exact q H' ι' l h
 | false =>
  rw [if_neg (by simp)]
  exact ⟨ι', σd, H1, bb, Hd', s.mono l, h, by simpa using e, fun H2 ι2 l2 h2 => q H2 ι2 (l.trans l2) h2⟩
theorem PWf.pt {t : TF} (h : PWf X a t) : PTf X a t := h _
noncomputable def eNo (f : EF) : EF := fun σ H => (f σ H).bind fun p => (blD p.1).map fun b => (.bl (!b), p.2)
noncomputable def eAn (f g : EF) : EF := fun σ H => (f σ H).bind fun p => (blD p.1).bind fun b => if b = true then g σ p.2 else some (.bl false, p.2)
noncomputable def eIf (t : TF) (f g : EF) : EF := fun σ H => (t σ H).bind fun p => if p.1 = true then f σ p.2 else g σ p.2
theorem Zvz {f : EF} (h : PEf X a f) : PEf X (.UnaryOp .Not a pos) (eNo f) := by
 refine PEi (Zuv h) fun σ H Q zz => ?_
 obtain ⟨ι, σd, Hd, d, Hd', s, hr, e, q⟩ := zz
 obtain ⟨⟨x, H1⟩, e1, e⟩ := Zo e
 obtain ⟨b', eb, e⟩ := Zm e
 cases e
 exact ⟨ι, σd, Hd, x, H1, s, hr, e1, fun v H' ι' l h r => ⟨b', Zhi eb r, q _ H' ι' l h (by simp)⟩⟩
theorem Zxf {op} {f : EF} (h : PEf X a f) : PEf X (.BoolOp op [a] pos) f := Zug h
theorem Zuy {f g : EF} (h : PEf X a f) (h2 : PEf X (.BoolOp .And (b :: es) pos) g) : PEf X (.BoolOp .And (a :: b :: es) pos) (eAn f g) := by
 refine PEi (Zpf h h2) fun σ H Q zz => ?_
 obtain ⟨ι, σd, Hd, d, Hd', s, hr, e, q⟩ := zz
 obtain ⟨⟨x, H1⟩, e1, e⟩ := Zo e
 obtain ⟨b', eb, e⟩ := Zo e
 refine ⟨ι, σd, Hd, x, H1, s, hr, e1, fun v H' ι' l h r => ⟨b', Zhi eb r, ?_⟩⟩
 cases b' with
 | true =>
  rw [if_pos rfl]
  exact ⟨ι', σd, H1, d, Hd', s.mono l, h, by simpa using e, fun v2 H2 ι2 l2 h2 r2 => q v2 H2 ι2 (l.trans l2) h2 r2⟩
 | false =>
  rw [if_neg (by simp)]
  simp at e
  obtain ⟨rfl, rfl⟩ := e
  exact q _ H' ι' l h (by simp)
theorem Zib {t : TF} {f g : EF} (hc : PTf X c t) (ha : PEf X a f) (hb : PEf X b g) : PEf X (.IfExp c a b pos) (eIf t f g) := by
 refine PEi (Zte hc ha hb) fun σ H Q zz => ?_
 obtain ⟨ι, σd, Hd, d, Hd', s, hr, e, q⟩ := zz
 obtain ⟨⟨x, H1⟩, e1, e⟩ := Zo e
 refine ⟨ι, σd, Hd, x, H1, s, hr, e1, fun H' ι' l h => ?_⟩
 cases x with
 | true =>
  rw [if_pos rfl]
  exact ⟨ι', σd, H1, d, Hd', s.mono l, h, by simpa using e, fun v2 H2 ι2 l2 h2 r2 => q v2 H2 ι2 (l.trans l2) h2 r2⟩
 | false =>
  rw [if_neg (by simp)]
  exact ⟨ι', σd, H1, d, Hd', s.mono l, h, by simpa using e, fun v2 H2 ι2 l2 h2 r2 => q v2 H2 ι2 (l.trans l2) h2 r2⟩
noncomputable def Zai : AF := fun _ H => some ([], H)
noncomputable def Zaa (f : EF) (g : AF) : AF := fun σ H => (f σ H).bind fun p => (g σ p.2).map fun q => (p.1 :: q.1, q.2)
theorem Zae : PAf X [] Zai := by
 refine PAi Zgf fun σ H Q zz => ?_
 obtain ⟨ι, σd, Hd, d, Hd', s, hr, e, q⟩ := zz
 cases e
 exact q [] H ι Le.refl hr .nil
theorem Znd {f : EF} {g : AF} (ha : PEf X e f) (hr : PAf X es g) (hs : starEach (e :: es) X.env = (false, eval e X.env) :: starEach es X.env := by exact Zbe rfl) : PAf X (e :: es) (Zaa f g) := by
 refine PAi (Zc7 ha hr hs) fun σ H Q zz => ?_
 obtain ⟨ι, σd, Hd, d, Hd', s, hr, e, q⟩ := zz
 obtain ⟨⟨x, H1⟩, e1, e⟩ := Zo e
 obtain ⟨⟨y, H2⟩, e2, e⟩ := Zm e
 cases e
 exact ⟨ι, σd, Hd, x, H1, s, hr, e1, fun v1 H1' ι1 l1 h1 r1 => ⟨ι1, σd, H1, y, H2, s.mono l1, h1, e2, fun vs H2' ι2 l2 h2 r2 => q _ H2' ι2 (l1.trans l2) h2 (.cons (r1.mono l2) r2)⟩⟩
noncomputable def mkT (xs : List D) (H : HD) : Option (D × HD) := if xs.length ≤ sizeLine then some (.tup xs, H) else none
noncomputable def mkL (xs : List D) (H : HD) : Option (D × HD) := if xs.length ≤ sizeLine then some (.ref H.length, H ++ [.lst xs]) else none
theorem Zgn {xs : List D} {H : HD} {r : D × HD} (h : mkT xs H = some r) : xs.length ≤ sizeLine ∧ r = (.tup xs, H) := by
 unfold mkT at h
 split at h
 ·rename_i hl; cases h; exact ⟨hl, rfl⟩
 ·cases h
theorem Zje {xs : List D} {H : HD} {r : D × HD} (h : mkL xs H = some r) : xs.length ≤ sizeLine ∧ r = (.ref H.length, H ++ [.lst xs]) := by
 unfold mkL at h
 split at h
 ·rename_i hl; cases h; exact ⟨hl, rfl⟩
 ·cases h
theorem Zhn {K : PySem.W.Frag} {H : Hp} {ι : List Addr} {Hd Hd' : HD} {xs : List D} {vs : List V} {d : D} {Q : VK} (hr : HRep K H ι Hd) (r : Paired (Rep K H ι) xs vs) (e : mkT xs Hd = some (d, Hd')) (q : QE K H ι d Hd' Q) :
  vs.length ≤ sizeLine ∧ ∀ p, H p = none -> Q (.ref p) (upd H p (.tup vs)) := by
 obtain ⟨hl, e⟩ := Zgn e
 cases e
 refine ⟨by rw [← Prd.len r]; exact hl, fun p hp => ?_⟩
 exact q _ _ ι (Le.fresh hp _) (hr.tup hp _) (Zbj.mpr ⟨p, vs, rfl, SqT.of upd_same, Prd.mono (Le.fresh hp _) r⟩)
theorem Zfk {K : PySem.W.Frag} {H : Hp} {ι : List Addr} {Hd Hd' : HD} {xs : List D} {vs : List V} {d : D} {Q : VK} (hr : HRep K H ι Hd) (r : Paired (Rep K H ι) xs vs) (e : mkL xs Hd = some (d, Hd')) (q : QE K H ι d Hd' Q) :
  vs.length ≤ sizeLine ∧ ∀ p, H p = none -> Q (.ref p) (upd H p (.lst vs)) := by
 obtain ⟨hl, e⟩ := Zje e
 cases e
 refine ⟨by rw [← Prd.len r]; exact hl, fun p hp => ?_⟩
 refine q _ _ (ι ++ [p]) (Le.fresh1 hp _) (hr.new hp ⟨vs, upd_same, Prd.mono (Le.fresh1 hp _) r⟩) (Za3.mpr ⟨p, rfl, ?_⟩)
 rw [← hr.len]; simp
noncomputable def Zd3 (f : AF) : EF := fun σ H => (f σ H).bind fun p => mkT p.1 p.2
noncomputable def Zb6 (f : AF) : EF := fun σ H => (f σ H).bind fun p => mkL p.1 p.2
theorem Zbr {f : AF} {x1} (h : PAf X es f) : PEf X (.Tuple es x1 pos) (Zd3 f) := by
 refine PEi (Zue h) fun σ H Q zz => ?_
 obtain ⟨ι, σd, Hd, d, Hd', s, hr, e, q⟩ := zz
 obtain ⟨⟨x, H1⟩, e1, e⟩ := Zo e
 exact ⟨ι, σd, Hd, x, H1, s, hr, e1, fun vs H' ι' l h r => Zhn h r e fun v2 H2 ι2 l2 h2 r2 => q v2 H2 ι2 (l.trans l2) h2 r2⟩
theorem Zbs {f : AF} (h : PAf X es f) : PEf X (.List es pos) (Zb6 f) := by
 refine PEi (Zud h) fun σ H Q zz => ?_
 obtain ⟨ι, σd, Hd, d, Hd', s, hr, e, q⟩ := zz
 obtain ⟨⟨x, H1⟩, e1, e⟩ := Zo e
 exact ⟨ι, σd, Hd, x, H1, s, hr, e1, fun vs H' ι' l h r => Zfk h r e fun v2 H2 ι2 l2 h2 r2 => q v2 H2 ι2 (l.trans l2) h2 r2⟩
noncomputable def eCB (g : FF) (f : AF) : EF := fun σ H => (f σ H).bind fun p => g p.1 p.2
theorem Zyi {f : AF} {g : FF} {σ : L2.St} {H : Hp} {Q : VK} {K : PySem.W.Frag} (h : rdE K (eCB g f) σ H Q) : tCB (rdC K g) (rdA K f) σ H Q := by
 obtain ⟨ι, σd, Hd, d, Hd', s, hr, e, q⟩ := h
 obtain ⟨⟨x, H1⟩, e1, e⟩ := Zo e
 exact ⟨ι, σd, Hd, x, H1, s, hr, e1, fun vs H' ι' l h r => ⟨ι', x, H1, d, Hd', h, r, e, fun v2 H2 ι2 l2 h2 r2 => q v2 H2 ι2 (l.trans l2) h2 r2⟩⟩
theorem Zat {x : Str} {id : String} {g : FF} {f : AF} {p : Pos} (hc : Zgl X (.builtin id) g) (hg : Gl X x) (hm : X.mg x = none) (hv : bootBuiltins x = some (.builtin id)) (ha : PAf X (e :: es) f) (hn : x ≠ "__name__" := by decide) (hdb : (x == ("__debug__" : Str)) = false := by decide)
  (he : starEach (e :: es) X.env = (false, eval e X.env) :: starEach es X.env := by exact Zbe rfl) (hpl : (backTo pos (starEach es X.env)).any (·.1) = false := by exact Zc0 rfl) : PEf X (.Call (.Name x p) (e :: es) [] pos) (eCB g f) :=
 PEi (Zgt hc hg hm hv ha hn hdb he hpl) fun _ _ _ h => Zyi h
theorem Za9 {x : Str} {T : String} {g : FF} {f : AF} {p : Pos} (hc : Zgl X (.type T) g) (hg : Gl X x) (hm : X.mg x = none) (hv : bootBuiltins x = some (.type T)) (ha : PAf X (e :: es) f) (hn : x ≠ "__name__" := by decide) (hdb : (x == ("__debug__" : Str)) = false := by decide)
  (he : starEach (e :: es) X.env = (false, eval e X.env) :: starEach es X.env := by exact Zbe rfl) (hpl : (backTo pos (starEach es X.env)).any (·.1) = false := by exact Zc0 rfl) : PEf X (.Call (.Name x p) (e :: es) [] pos) (eCB g f) :=
 PEi (Zgw hc hg hm hv ha hn hdb he hpl) fun _ _ _ h => Zyi h
noncomputable def spF (K : PySem.W.Frag) (n : Nat) (F : FF) : Sp := fun vs H Q _ => ∃ ι ds Hd d Hd', ds.length = n ∧ HRep K H ι Hd ∧ Paired (Rep K H ι) ds vs ∧ F ds Hd = some (d, Hd') ∧ QE K H ι d Hd' Q
noncomputable def Zaj (n : Nat) (F : FF) (f : AF) : EF := fun σ H => (f σ H).bind fun p => if p.1.length = n then F p.1 p.2 else none
theorem Ztd {k n : Nat} {f : Addr} {fd : FuncData} {ps : List Str} {x : Str} {p : Pos} {F : FF} {fa : AF} (G : FnOk X.prog X.w X.K X.mg X.base CX0 k f fd ps (spF X.K n F)) (hr : Room k X.A) (hg : Gl X x) (hm : X.mg x = some (.ref f)) (hk : PySem.W.keepIn X.K (.ref f) = true)
  (hb : Zis X.K fd ps []) (ha : PAf X (e :: es) fa) (hdb : (x == ("__debug__" : Str)) = false := by decide) (he : starEach (e :: es) X.env = (false, eval e X.env) :: starEach es X.env := by exact Zbe rfl) (hpl : (backTo pos (starEach es X.env)).any (·.1) = false := by exact Zc0 rfl) :
  PEf X (.Call (.Name x p) (e :: es) [] pos) (Zaj n F fa) := by
 refine PEi (Zw5 (E := E0) G hr hg hm hk hb .nil pass0 ha hdb he hpl) fun σ H Q zz => ?_
 obtain ⟨ι, σd, Hd, d, Hd', s, hr, e, q⟩ := zz
 obtain ⟨⟨x, H1⟩, e1, e⟩ := Zo e
 refine ⟨ι, σd, Hd, x, H1, s, hr, e1, fun vs H' ι' l h r => ?_⟩
 dsimp only at e
 split at e
 ·rename_i hl
  exact ⟨ι', x, H1, d, Hd', hl, h, by simpa using r, e, fun v2 H2 ι2 l2 h2 r2 => q v2 H2 ι2 (l.trans l2) h2 r2⟩
 ·cases e
noncomputable def Zhy : D -> HD -> Bool
 | .ref n, H => match H[n]? with
  | some (.lst _) => true
  | _ => false
 | _, _ => false
theorem Zsa {K : PySem.W.Frag} {H : Hp} {ι : List Addr} {Hd : HD} {d : D} {v : V} (hr : HRep K H ι Hd) (r : Rep K H ι d v) (e : Zhy d Hd = true) : tyV K "list" v H := by
 cases d with
 | ref n =>
  obtain ⟨ad, rfl, h⟩ := Za3.mp r
  simp only [Zhy] at e
  split at e
  ·rename_i xs ho
   obtain ⟨vs, h1, p⟩ := hr.obj n ad _ h ho
   exact .inl ⟨rfl, vs, SqL.of h1⟩
  ·cases e
 | _ => simp [Zhy] at e
noncomputable def eLM (g : D -> List D -> HD -> Option (D × HD)) (fo : EF) (f : AF) : EF := fun σ H => (fo σ H).bind fun o => if Zhy o.1 o.2 = true then (f σ o.2).bind fun p => g o.1 p.1 p.2 else none
theorem Zim {o : Expr} {name : Str} {apos cpos : Pos} {id : String} {g : D → List D → HD → Option (D × HD)} {fo : EF} {f : AF} (slot : Slot "list" name id) (hty : typeOf (.builtin id) = pure (.type "method_descriptor")) (hm : MtF X id g) (ho : PEf X o fo) (ha : PAf X (e :: es) f)
  (hbase : attributeBase o name X.env (eval o X.env) = eval o X.env := by rfl)
  (hfew : ((backTo cpos (starEach (e :: es) X.env)).all (fun x => !x.1) && (backToKw cpos (keywordEach [] X.env)).all (fun x => x.1.isSome)
   && decide ((e :: es).length + ([] : List Keyword).length + (if ([] : List Keyword).isEmpty then 0 else 1) < 30)) = true := by exact Zmv rfl (by decide))
  (hline : (apos.endLine == cpos.line) = true := by rfl) (hs : starEach (e :: es) X.env = (false, eval e X.env) :: starEach es X.env := by exact Zbe rfl) (hplain : (backTo cpos (starEach es X.env)).any (·.1) = false := by exact Zc0 rfl) :
  PEf X (.Call (.Attribute o name apos) (e :: es) [] cpos) (eLM g fo f) := by
 refine PEi (pe_bm PySem.F.plainAttrs_list slot hty hm ho ha hbase hfew hline hs hplain) fun σ H Q zz => ?_
 obtain ⟨ι, σd, Hd, d, Hd', s, hr, e, q⟩ := zz
 obtain ⟨⟨x, H1⟩, e1, e⟩ := Zo e
 dsimp only at e
 split at e
 ·rename_i hl
  obtain ⟨⟨y, H2⟩, e2, e⟩ := Zo e
  exact ⟨ι, σd, Hd, x, H1, s, hr, e1, fun v1 H1' ι1 l1 h1 r1 => ⟨Zsa h1 r1 hl, ι1, σd, H1, y, H2, s.mono l1, h1, e2, fun vs H2' ι2 l2 h2 r2 =>
   ⟨ι2, x, y, H2, d, Hd', h2, r1.mono l2, r2, e, fun v H' ι' l h r => q v H' ι' ((l1.trans l2).trans l) h r⟩⟩⟩
 ·cases e
noncomputable def Zav : SF := fun σ H => some (.nx, σ, H)
noncomputable def Zal (f g : SF) : SF := fun σ H => (f σ H).bind fun r => match r.1 with
 | .nx => g r.2.1 r.2.2
 | _ => some r
theorem Zah : Zrv X [] Zav := by
 refine Zxh Zww fun E σ H zz => ?_
 obtain ⟨ι, σd, Hd, fl, σd', Hd', s, hr, e, q⟩ := zz
 cases e
 exact q σ H ι Le.refl hr s
theorem Zac {f g : SF} (h1 : PSf X st f) (h2 : Zrv X sts g) : Zrv X (st :: sts) (Zal f g) := by
 refine Zxh (Zfo h1 h2) fun E σ H zz => ?_
 obtain ⟨ι, σd, Hd, fl, σd', Hd', s, hr, e, q⟩ := zz
 obtain ⟨⟨f1, σ1, H1⟩, e1, e⟩ := Zo e
 refine ⟨ι, σd, Hd, f1, σ1, H1, s, hr, e1, fun σ' H' ι' l h ss => ?_⟩
 cases f1 with
 | nx => exact ⟨ι', σ1, H1, fl, σd', Hd', ss, h, e, fun σ2 H2 ι2 l2 h2 s2 => q σ2 H2 ι2 (l.trans l2) h2 s2⟩
 | bk => cases e; exact q σ' H' ι' l h ss
 | ct => cases e; exact q σ' H' ι' l h ss
 | rt d => cases e; exact q σ' H' ι' l h ss
noncomputable def Zcc (f : EF) : SF := fun σ H => (f σ H).map fun p => (.rt p.1, σ, p.2)
theorem Zaw {f : EF} (he : PEf X e f) : PSf X (.Return (some e) pos) (Zcc f) := by
 refine PSi (Zzt he) fun E σ H zz => ?_
 obtain ⟨ι, σd, Hd, fl, σd', Hd', s, hr, e, q⟩ := zz
 obtain ⟨⟨x, H1⟩, e1, e⟩ := Zm e
 cases e
 exact ⟨ι, σd, Hd, x, H1, s, hr, e1, fun v H' ι' l h r => q σ H' ι' l h (s.mono l) v r⟩
noncomputable def Zc8 (f : EF) : SF := fun σ H => (f σ H).map fun p => (.nx, σ, p.2)
theorem Zd6 {f : EF} (he : PEf X e f) (hs : swapsWith e none pos.line X.env = pure false := by rfl) : PSf X (.Expr e pos) (Zc8 f) := by
 refine PSi (Zvh he hs) fun E σ H zz => ?_
 obtain ⟨ι, σd, Hd, fl, σd', Hd', s, hr, e, q⟩ := zz
 obtain ⟨⟨x, H1⟩, e1, e⟩ := Zm e
 cases e
 exact ⟨ι, σd, Hd, x, H1, s, hr, e1, fun v H' ι' l h r => q σ H' ι' l h (s.mono l)⟩
noncomputable def sIf (t : TF) (f g : SF) : SF := fun σ H => (t σ H).bind fun p => if p.1 = true then f σ p.2 else g σ p.2
theorem Zcg {t : TF} {f g : SF} {as bs : List Stmt} (hc : PTf X c t) (ha : Zrv X as f) (hb : Zrv X bs g) : PSf X (.If c as bs pos) (sIf t f g) := by
 refine PSi (Zyv hc ha hb) fun E σ H zz => ?_
 obtain ⟨ι, σd, Hd, fl, σd', Hd', s, hr, e, q⟩ := zz
 obtain ⟨⟨x, H1⟩, e1, e⟩ := Zo e
 refine ⟨ι, σd, Hd, x, H1, s, hr, e1, fun H' ι' l h => ?_⟩
 cases x with
 | true =>
  rw [if_pos rfl]
  exact ⟨ι', σd, H1, fl, σd', Hd', s.mono l, h, by simpa using e, fun σ2 H2 ι2 l2 h2 s2 => q σ2 H2 ι2 (l.trans l2) h2 s2⟩
 | false =>
  rw [if_neg (by simp)]
  exact ⟨ι', σd, H1, fl, σd', Hd', s.mono l, h, by simpa using e, fun σ2 H2 ι2 l2 h2 s2 => q σ2 H2 ι2 (l.trans l2) h2 s2⟩
noncomputable def Za0 (i : Nat) (f : EF) : SF := fun σ H => (f σ H).map fun p => (.nx, σ.set i (some p.1), p.2)
theorem Zar {i : Nat} {x : Str} {f : EF} {pos' : Pos} (hN : X.N.Nodup) (hi : X.N[i]? = some x) (hx : Loc X.env.scope x) (he : PEf X e f) (hs : swapsWith e (some (.Name x pos')) pos.line X.env = pure false := by rfl) (hf : X.fn x = true ∨ X.env.scope.names.lookup x = some .local := by first | exact .inl rfl | exact .inr rfl | assumption) :
  PSf X (.Assign [.Name x pos'] e pos) (Za0 i f) := by
 refine PSi (Zqc hN hi hx he hs hf) fun E σ H zz => ?_
 obtain ⟨ι, σd, Hd, fl, σd', Hd', s, hr, e, q⟩ := zz
 obtain ⟨⟨x, H1⟩, e1, e⟩ := Zm e
 cases e
 exact ⟨ι, σd, Hd, x, H1, s, hr, e1, fun v H' ι' l h r => q _ H' ι' l h ((s.mono l).set r i)⟩
noncomputable def gNm (i : Nat) : GF := fun d σ H => some (σ.set i (some d), H)
theorem Zbo {i : Nat} {x : Str} (hN : X.N.Nodup) (hi : X.N[i]? = some x) (hx : Loc X.env.scope x) (hf : X.fn x = true ∨ X.env.scope.names.lookup x = some .local := by first | exact .inl rfl | exact .inr rfl | assumption) : PGf X (.Name x pos) (gNm i) := by
 refine PGi (Zjk hN hi hx hf) fun v σ H Q zz => ?_
 obtain ⟨ι, σd, Hd, d, σd', Hd', s, hr, r, e, q⟩ := zz
 cases e
 exact q _ H ι Le.refl hr (s.set r i)
noncomputable abbrev Zxg := D -> D -> D -> HD -> Option HD
noncomputable def rdSet (K : PySem.W.Frag) (g : Zxg) : TSet := fun o i v H Q => ∃ ι od id vd Hd Hd', HRep K H ι Hd ∧ Rep K H ι od o ∧ Rep K H ι id i ∧ Rep K H ι vd v ∧ g od id vd Hd = some Hd' ∧ ∀ H' ι', Le K H ι H' ι' -> HRep K H' ι' Hd' -> Q H'
noncomputable def Zwu (X : Cx) (g : Zxg) : Prop := PSet X (rdSet X.K g)
noncomputable def gSb (fo fi : EF) (g : Zxg) : GF := fun d σ H => (fo σ H).bind fun o => (fi σ o.2).bind fun i => (g o.1 i.1 d i.2).map fun H' => (σ, H')
theorem Ziw {o i : Expr} {fo fi : EF} {g : Zxg} (ho : PEf X o fo) (hi : PEf X i fi) (hs : Zwu X g)
  (ha : ∀ v, assign (.Subscript o i pos) X.env v = (do
   let ov ← holding [v] (eval o X.env)
   let iv ← holding [v, ov] (eval i X.env)
   standAt pos
   holding [v, ov, iv] (setItem ov iv v)
   release [v, ov, iv] []) := by intro _; rfl) : PGf X (.Subscript o i pos) (gSb fo fi g) := by
 refine PGi (Zy8 ho hi hs ha) fun v σ H Q zz => ?_
 obtain ⟨ι, σd, Hd, d, σd', Hd', s, hr, r, e, q⟩ := zz
 obtain ⟨⟨x, H1⟩, e1, e⟩ := Zo e
 obtain ⟨⟨y, H2⟩, e2, e⟩ := Zo e
 obtain ⟨H3, e3, e⟩ := Zm e
 obtain ⟨rfl, rfl⟩ := Prod.mk.inj e
 exact ⟨ι, σd, Hd, x, H1, s, hr, e1, fun v1 H1' ι1 l1 h1 r1 => ⟨ι1, σd, H1, y, H2, s.mono l1, h1, e2, fun v2 H2' ι2 l2 h2 r2 =>
  ⟨ι2, x, y, d, H2, H3, h2, r1.mono l2, r2, r.mono (l1.trans l2), e3, fun H' ι' l h => q σ H' ι' ((l1.trans l2).trans l) h (s.mono ((l1.trans l2).trans l))⟩⟩⟩
noncomputable abbrev GFs := List D -> SD -> HD -> Option (SD × HD)
noncomputable def rdGs (K : PySem.W.Frag) (g : GFs) : TGs := fun vs σ H Q => ∃ ι σd Hd ds σd' Hd', SRep K H ι σ σd ∧ HRep K H ι Hd ∧ Paired (Rep K H ι) ds vs ∧ g ds σd Hd = some (σd', Hd') ∧
 ∀ σ' H' ι', Le K H ι H' ι' -> HRep K H' ι' Hd' -> SRep K H' ι' σ' σd' -> Q σ' H'
noncomputable def PGsf (X : Cx) (ts : List Expr) (g : GFs) : Prop := PGs X ts (rdGs X.K g)
noncomputable def gNl : GFs := fun ds σ H => match ds with
 | [] => some (σ, H)
 | _ => none
noncomputable def gCn (g : GF) (h : GFs) : GFs := fun ds σ H => match ds with
 | d :: r => (g d σ H).bind fun p => h r p.1 p.2
 | [] => none
theorem PGsi {ts : List Expr} {t t' : TGs} (h : PGs X ts t) (i : ∀ v σ H Q, t' v σ H Q -> t v σ H Q) : PGs X ts t' := fun pins s σ H v u Q I r q => h pins s σ H v u Q I r (i v σ H Q q)
theorem Zmu : PGsf X [] gNl := by
 refine PGsi Zpc fun vs σ H Q zz => ?_
 obtain ⟨ι, σd, Hd, ds, σd', Hd', s, hr, r, e, q⟩ := zz
 cases r with
 | nil => cases e; exact ⟨rfl, q σ H ι Le.refl hr s⟩
 | cons _ _ => cases e
theorem Zfq {g : GF} {h : GFs} (h1 : PGf X e g) (h2 : PGsf X es h) (hs : (assignEach (e :: es) X.env).map (·.2) = assign e X.env :: (assignEach es X.env).map (·.2) := by rfl) : PGsf X (e :: es) (gCn g h) := by
 refine PGsi (Ziu h1 h2 hs) fun vs σ H Q zz => ?_
 obtain ⟨ι, σd, Hd, ds, σd', Hd', s, hr, r, e, q⟩ := zz
 cases r with
 | nil => cases e
 | cons r rr =>
  obtain ⟨⟨σ1, H1⟩, e1, e⟩ := Zo e
  exact ⟨_, _, rfl, ι, σd, Hd, _, σ1, H1, s, hr, r, e1, fun σ' H' ι' l h ss => ⟨ι', σ1, H1, _, σd', Hd', ss, h, Prd.mono l rr, e, fun σ2 H2 ι2 l2 h2 s2 => q σ2 H2 ι2 (l.trans l2) h2 s2⟩⟩
noncomputable def gTp (n : Nat) (g : GFs) : GF := fun d σ H => match d with
 | .tup ds => if ds.length = n then g ds σ H else none
 | _ => none
theorem Zot {k n : Nat} {g : GFs} (hc : X.calm = true) (h : PGsf X es g) (hn : (assignEach es X.env).length = n := by rfl) (hst : (assignEach es X.env).findIdx? (·.1) = none := by rfl) : PGf X (.Tuple es k pos) (gTp n g) := by
 refine PGi (Zuc hc h hn hst) fun v σ H Q zz => ?_
 obtain ⟨ι, σd, Hd, d, σd', Hd', s, hr, r, e, q⟩ := zz
 cases d with
 | tup ds =>
  obtain ⟨a, vs, rfl, h1, p⟩ := Zbj.mp r
  simp only [gTp] at e
  split at e
  ·rename_i hl
   exact ⟨a, vs, rfl, h1, by rw [← Prd.len p]; exact hl, ι, σd, Hd, ds, σd', Hd', s, hr, p, e, q⟩
  ·cases e
 | _ => simp [gTp] at e
noncomputable def Zoh (f : EF) (g : GF) : SF := fun σ H => (f σ H).bind fun p => (g p.1 σ p.2).map fun q => (.nx, q.1, q.2)
theorem Zjf {tg : Expr} {f : EF} {g : GF} (he : PEf X e f) (hg : PGf X tg g) (hs : swapsWithSole [tg] e pos.line X.env = pure false := by rfl) (hw : swappedStores [tg] e X.env = pure none := by rfl)
  (h1 : (assignEach [tg] X.env).map (·.2) = [assign tg X.env] := by rfl) : PSf X (.Assign [tg] e pos) (Zoh f g) := by
 refine PSi (Zz1 he hg hs hw h1) fun E σ H zz => ?_
 obtain ⟨ι, σd, Hd, fl, σd', Hd', s, hr, e, q⟩ := zz
 obtain ⟨⟨x, H1⟩, e1, e⟩ := Zo e
 obtain ⟨⟨σ2, H2⟩, e2, e⟩ := Zm e
 cases e
 exact ⟨ι, σd, Hd, x, H1, s, hr, e1, fun v H' ι' l h r => ⟨ι', σd, H1, x, σ2, H2, s.mono l, h, r, e2, fun σ3 H3 ι3 l3 h3 s3 => q σ3 H3 ι3 (l.trans l3) h3 s3⟩⟩
noncomputable abbrev Zge := List (Nat × DO)
noncomputable def Zcp (own : Zge) (H : HD) : Prop := ∀ p ∈ own, H[p.1]? = some p.2
noncomputable abbrev ItF := SD -> HD -> Option ((List D × Zge) × HD)
structure ItRep (K : PySem.W.Frag) (J : It) (xs : List D) (own : Zge) (H0 : Hp) (ι0 : List Addr) : Prop where
 go : ∀ i H ι Hd, Le K H0 ι0 H ι -> HRep K H ι Hd -> Zcp own Hd -> i < xs.length -> J.go i H
 yld : ∀ i H ι Hd d x H', Le K H0 ι0 H ι -> HRep K H ι Hd -> Zcp own Hd -> xs[i]? = some d -> J.yld i H x H' -> ∃ ι', Le K H ι H' ι' ∧ HRep K H' ι' Hd ∧ Rep K H' ι' d x
 stop : ∀ i H ι Hd, Le K H0 ι0 H ι -> HRep K H ι Hd -> Zcp own Hd -> xs.length ≤ i -> J.stop i H
noncomputable def rdI (K : PySem.W.Frag) (f : ItF) : TI := fun σ H R => ∃ ι σd Hd xs own Hd', SRep K H ι σ σd ∧ HRep K H ι Hd ∧ f σd Hd = some ((xs, own), Hd') ∧ ∀ J H' ι', Le K H ι H' ι' -> HRep K H' ι' Hd' -> ItRep K J xs own H' ι' -> R J H'
noncomputable def PIf (X : Cx) (tg iter : Expr) (f : ItF) : Prop := PI X tg iter (rdI X.K f)
theorem PIi {tg iter : Expr} {t t' : TI} (h : PI X tg iter t) (i : ∀ σ H R, t' σ H R -> t σ H R) : PI X tg iter t' := fun pins s σ H R I q => h pins s σ H R I (i σ H R q)
open Classical in
noncomputable def Zdg (own : Zge) (g : GF) (body : SF) : List D -> SF
 | [], σ, H => if Zcp own H then some (.nx, σ, H) else none
 | x :: r, σ, H => if Zcp own H then (g x σ H).bind fun p => (body p.1 p.2).bind fun q => match q.1 with
   | .nx => Zdg own g body r q.2.1 q.2.2
   | .ct => Zdg own g body r q.2.1 q.2.2
   | .bk => some (.nx, q.2.1, q.2.2)
   | .rt d => some (.rt d, q.2.1, q.2.2)
  else none
noncomputable def Zea (it : ItF) (g : GF) (body : SF) : SF := fun σ H => (it σ H).bind fun p => Zdg p.1.2 g body p.1.1 σ p.2
theorem Zcu {tg iter : Expr} {body : List Stmt} {f : ItF} {g : GF} {b : SF} (hp : PassesOwn (model X.prog X.w) X.A X.env X.xe) (hc : X.calm = true) (hi : PIf X tg iter f) (hg : PGf X tg g) (hb : Zrv X body b)
  (hs : ∀ x, foldedSetIterable iter X.env x = pure x := by intro _; rfl) : PSf X (.For tg iter body [] pos) (Zea f g b) := by
 refine PSi (Zyy hp hc hi hg hb hs) fun E σ H zz => ?_
 obtain ⟨ι, σd, Hd, fl, σf, Hf, s, hr, e, q⟩ := zz
 obtain ⟨⟨⟨xs, own⟩, H1⟩, e1, e⟩ := Zo e
 refine ⟨ι, σd, Hd, xs, own, H1, s, hr, e1, fun J H0 ι0 l0 h0 it => ?_⟩
 refine ⟨fun i m σ H => m = xs.length - i ∧ i ≤ xs.length ∧ ∃ ι σd Hd, Le X.K H0 ι0 H ι ∧ SRep X.K H ι σ σd ∧ HRep X.K H ι Hd ∧ Zdg own g b (xs.drop i) σd Hd = some (fl, σf, Hf),
  ⟨xs.length, by simp, Nat.zero_le _, ι0, σd, H1, Le.refl, s.mono l0, h0, by simpa using e⟩, ?_⟩
 rintro i m σ2 H2 ⟨rfl, hi, ι2, σd2, Hd2, l2, s2, h2, e2⟩
 by_cases hlt : i < xs.length
 ·have ed : xs.drop i = xs[i] :: xs.drop (i + 1) := List.drop_eq_getElem_cons hlt
  rw [ed, Zdg] at e2
  split at e2
  ·rename_i ok
   obtain ⟨⟨σ3, H3⟩, e3, e2⟩ := Zo e2
   obtain ⟨⟨f4, σ4, H4⟩, e4, e2⟩ := Zo e2
   refine .inr ⟨it.go i H2 ι2 Hd2 l2 h2 ok hlt, fun σ' H' => (xs.length - (i + 1) = xs.length - (i + 1) ∧ i + 1 ≤ xs.length ∧ ∃ ι σd Hd, Le X.K H0 ι0 H' ι ∧ SRep X.K H' ι σ' σd ∧ HRep X.K H' ι Hd ∧ Zdg own g b (xs.drop (i + 1)) σd Hd = some (fl, σf, Hf)),
    fun σ' H' p => ⟨_, by omega, p⟩, fun x H' y => ?_⟩
   obtain ⟨ι3, l3, h3, r3⟩ := it.yld i H2 ι2 Hd2 xs[i] x H' l2 h2 ok (by simp [hlt]) y
   refine ⟨ι3, σd2, Hd2, xs[i], σ3, H3, s2.mono l3, h3, r3, e3, fun σ5 H5 ι5 l5 h5 s5 => ?_⟩
   refine ⟨ι5, σ3, H3, f4, σ4, H4, s5, h5, e4, fun σ6 H6 ι6 l6 h6 s6 => ?_⟩
   have L : Le X.K H0 ι0 H6 ι6 := ((l2.trans l3).trans l5).trans l6
   cases f4 with
   | nx => exact ⟨rfl, hlt, ι6, σ4, H4, L, s6, h6, e2⟩
   | ct => exact ⟨rfl, hlt, ι6, σ4, H4, L, s6, h6, e2⟩
   | bk => cases e2; exact q σ6 H6 ι6 (l0.trans L) h6 s6
   | rt d => cases e2; exact q σ6 H6 ι6 (l0.trans L) h6 s6
  ·cases e2
 ·have hi' : i = xs.length := by omega
  rw [List.drop_eq_nil_of_le (by omega), Zdg] at e2
  split at e2
  ·rename_i ok
   have e3 : (FD.nx, σd2, Hd2) = (fl, σf, Hf) := Option.some.inj e2
   obtain ⟨rfl, e4⟩ := Prod.mk.inj e3
   obtain ⟨rfl, rfl⟩ := Prod.mk.inj e4
   exact .inl ⟨it.stop i H2 ι2 _ l2 h2 ok (by omega), q σ2 H2 ι2 (l0.trans l2) h2 s2⟩
  ·cases e2
end
noncomputable def Zb7 (n N : Nat) (b : SF) : FF := fun ds H => if ds.length = n then (b (ds.map some ++ List.replicate (N - ds.length) none) H).bind fun r => match r.1 with
  | .rt d => some (d, r.2.2)
  | .nx => some (.non, r.2.2)
  | _ => none
 else none
section
variable {P : Program} {w : World} {K : PySem.W.Frag} {mg : Str -> Option Value} {base : Heap}
theorem fn_f {x qual : Str} {st : Stmt} {f : Addr} {fd : FuncData} {N ps : List Str} {k : Nat} {b : SF} (F : Fun K x qual st f fd) (S : FnScope N ps (Zak st))
  (hb : ∀ (cdv : Value) (A : Around) (outer : List Env) (s : Shared) (H : Hp) (E : XK), Room k (A.deeper (envOfC qual (Zak st) s.heap.objs.size f cdv)) →
   Zrv (Zfj CX0 P w K mg base N qual (Zak st) f cdv A outer s H E).nox (Zcj st) b) : FnOk P w K mg base CX0 (k + 1) f fd ps (spF K ps.length (Zb7 ps.length N.length b)) := by
 refine F.ok S (fun vs H Q E h => ?_) (fun cdv A outer s H vs Q E hr h => ?_)
 ·obtain ⟨ι, ds, Hd, d, Hd', hl, _, r, _⟩ := h
  rw [← Prd.len r]; exact hl
 ·obtain ⟨ι, ds, Hd, d, Hd', hl, hh, r, e, q⟩ := h
  refine ⟨_, hb cdv A outer s H E hr, ?_⟩
  unfold Zb7 at e
  rw [if_pos hl] at e
  obtain ⟨⟨fl, σ1, H1⟩, e1, e⟩ := Zo e
  refine ⟨ι, _, Hd, fl, σ1, H1, ?_, hh, e1, fun σ' H' ι' l h ss => ?_⟩
  ·refine ⟨by simp [L2.start, Prd.len r], fun i d0 h0 => ?_⟩
   unfold L2.start
   by_cases hi : i < ds.length
   ·rw [List.getElem?_append_left (by simpa using hi), List.getElem?_map] at h0
    cases ed : ds[i]? with
    | none => rw [ed] at h0; cases h0
    | some d1 =>
     rw [ed] at h0
     cases h0
     obtain ⟨v, hv, rv⟩ := Prd.get r ed
     refine ⟨v, ?_, rv⟩
     rw [List.getElem?_append_left (by rw [List.length_map, ← Prd.len r]; exact hi), List.getElem?_map, hv]
     rfl
   ·rw [List.getElem?_append_right (by simpa using hi), List.getElem?_replicate] at h0
    split at h0 <;> cases h0
  ·cases fl with
   | rt d1 => cases e; exact fun v rv => q v H' ι' l h rv
   | nx => cases e; exact q .non H' ι' l h (by simp)
   | bk => cases e
   | ct => cases e
end
noncomputable def Zgk (env : Env) : List (Str × NameKind) -> List (Str × Addr) -> List (Str × Addr)
 | [], cs => cs
 | (n, k) :: r, cs => Zgk env r (if k = .free then (match env.cells.lookup n with | some a => (n, a) :: cs | none => cs) else cs)
theorem Zf3 (env : Env) (scope : Scope) (h : ∀ y ∈ scope.names, y.2 = .free -> (env.cells.lookup y.1).isSome = true) : closureFor scope env = pure (Zgk env scope.names []) := by
 have key : ∀ (ns : List (Str × NameKind)) (cs : List (Str × Addr)), (∀ y ∈ ns, y.2 = .free -> (env.cells.lookup y.1).isSome = true) →
   (forIn ns cs fun (x : Str × NameKind) cs => match x with
    | (name, kind) => if (kind == .free) = true then (do let a ← cellOf env name; pure (ForInStep.yield ((name, a) :: cs))) else pure (ForInStep.yield cs) : Sem (List (Str × Addr))) = pure (Zgk env ns cs) := by
  intro ns
  induction ns with
  | nil => intro cs _; rfl
  | cons x r ih =>
   intro cs hh
   obtain ⟨n, k⟩ := x
   have hr := ih
   rw [List.forIn_cons]
   by_cases hk : k = .free
   ·subst hk
    have q := hh (n, .free) (by simp) rfl
    cases e : env.cells.lookup n with
    | none => rw [e] at q; cases q
    | some a =>
     have e2 : cellOf env n = pure a := by unfold cellOf; rw [e]
     simp only [beq_self_eq_true, if_true, e2, pure_bind, Zgk, e]
     exact ih _ fun y hy => hh y (List.mem_cons_of_mem _ hy)
   ·have hb : (k == NameKind.free) = false := by simpa using hk
    simp only [hb, Bool.false_eq_true, if_false, pure_bind, Zgk, hk]
    exact ih _ fun y hy => hh y (List.mem_cons_of_mem _ hy)
 have e : closureFor scope env = ((forIn scope.names [] fun (x : Str × NameKind) cs => match x with
    | (name, kind) => if (kind == .free) = true then (do let a ← cellOf env name; pure (ForInStep.yield ((name, a) :: cs))) else pure (ForInStep.yield cs) : Sem (List (Str × Addr))) >>= pure) := rfl
 rw [e, bind_pure]
 exact key scope.names [] h
theorem Zfx (env : Env) : ∀ (ns : List (Str × NameKind)) (cs : List (Str × Addr)), (∀ x c, cs.lookup x = some c -> env.cells.lookup x = some c) -> ∀ x c, (Zgk env ns cs).lookup x = some c -> env.cells.lookup x = some c
 | [], cs, h => h
 | (n, k) :: r, cs, h => by
  unfold Zgk
  refine Zfx env r _ ?_
  split
  ·cases e : env.cells.lookup n with
   | none => exact h
   | some a =>
    intro x c q
    dsimp only at q
    rw [List.lookup_cons] at q
    split at q
    ·rename_i hb
     have hb' : x = n := by simpa using hb
     subst hb'; cases q; exact e
    ·exact h x c q
  ·exact h
theorem Ziv (env : Env) : ∀ (ns : List (Str × NameKind)) (cs : List (Str × Addr)) (x : Str), ((cs.lookup x).isSome = true ∨ ((x, NameKind.free) ∈ ns ∧ (env.cells.lookup x).isSome = true)) -> ((Zgk env ns cs).lookup x).isSome = true
 | [], cs, x, h => by
  rcases h with h | ⟨h, _⟩
  ·exact h
  ·simp at h
 | (n, k) :: r, cs, x, h => by
  unfold Zgk
  refine Ziv env r _ x ?_
  by_cases hk : k = .free
  ·rw [if_pos hk]
   cases e : env.cells.lookup n with
   | none =>
    rcases h with h | ⟨h, h2⟩
    ·exact .inl h
    ·rcases List.mem_cons.mp h with h | h
     ·cases h; rw [e] at h2; cases h2
     ·exact .inr ⟨h, h2⟩
   | some a =>
    dsimp only
    rw [List.lookup_cons]
    by_cases hx : x = n
    ·subst hx; simp
    ·have : (x == n) = false := by simpa using hx
     rw [this]
     rcases h with h | ⟨h, h2⟩
     ·exact .inl h
     ·rcases List.mem_cons.mp h with h | h
      ·cases h; exact absurd rfl hx
      ·exact .inr ⟨h, h2⟩
  ·rw [if_neg hk]
   rcases h with h | ⟨h, h2⟩
   ·exact .inl h
   ·rcases List.mem_cons.mp h with h | h
    ·cases h; exact absurd rfl hk
    ·exact .inr ⟨h, h2⟩
theorem Zfb {env : Env} : ∀ {names : List (Str × NameKind)} {x : Str}, names.lookup x = some .free →
  ((names.map fun (n, k) => if (k == NameKind.free && env.scope.kind == .function && env.kindOf n == some .cell) then (n, NameKind.cell) else (n, k)).lookup x = some .cell ∨
   (names.map fun (n, k) => if (k == NameKind.free && env.scope.kind == .function && env.kindOf n == some .cell) then (n, NameKind.cell) else (n, k)).lookup x = some .free)
 | [], _, h => by simp at h
 | (n, k) :: r, x, h => by
  have ih := @Zfb env r x
  show List.lookup x ((if (k == NameKind.free && env.scope.kind == .function && env.kindOf n == some .cell) = true then (n, NameKind.cell) else (n, k)) :: _) = _ ∨ List.lookup x ((if (k == NameKind.free && env.scope.kind == .function && env.kindOf n == some .cell) = true then (n, NameKind.cell) else (n, k)) :: _) = _
  cases hx : x == n with
  | true =>
   simp only [List.lookup_cons, hx] at h
   cases h
   by_cases hc : (NameKind.free == NameKind.free && env.scope.kind == .function && env.kindOf n == some .cell) = true
   ·rw [if_pos hc]; simp only [List.lookup_cons, hx]; simp
   ·rw [if_neg hc]; simp only [List.lookup_cons, hx]; simp
  | false =>
   simp only [List.lookup_cons, hx] at h
   by_cases hc : (k == NameKind.free && env.scope.kind == .function && env.kindOf n == some .cell) = true
   ·rw [if_pos hc]; simp only [List.lookup_cons, hx]; exact ih h
   ·rw [if_neg hc]; simp only [List.lookup_cons, hx]; exact ih h
theorem Ze3 {env : Env} : ∀ {names : List (Str × NameKind)} {x : Str}, (∀ y ∈ names, y.2 ≠ .cell) →
  ((names.map fun (n, k) => if (k == NameKind.free && env.scope.kind == .function && env.kindOf n == some .cell) then (n, NameKind.cell) else (n, k)).lookup x = some .cell ∨
   (names.map fun (n, k) => if (k == NameKind.free && env.scope.kind == .function && env.kindOf n == some .cell) then (n, NameKind.cell) else (n, k)).lookup x = some .free) -> (x, NameKind.free) ∈ names
 | [], _, _, h => by simp at h
 | (n, k) :: r, x, hn, h => by
  have ih := @Ze3 env r x (fun y hy => hn y (List.mem_cons_of_mem _ hy))
  have h : List.lookup x ((if (k == NameKind.free && env.scope.kind == .function && env.kindOf n == some .cell) = true then (n, NameKind.cell) else (n, k)) :: _) = _ ∨ List.lookup x ((if (k == NameKind.free && env.scope.kind == .function && env.kindOf n == some .cell) = true then (n, NameKind.cell) else (n, k)) :: _) = _ := h
  cases hx : x == n with
  | true =>
   have hx' : x = n := by simpa using hx
   subst hx'
   by_cases hc : (k == NameKind.free && env.scope.kind == .function && env.kindOf x == some .cell) = true
   ·have hk : k = .free := by
     rw [Bool.and_eq_true, Bool.and_eq_true] at hc
     simpa using hc.1.1
    subst hk; simp
   ·rw [if_neg hc] at h
    simp only [List.lookup_cons, hx] at h
    rcases h with h | h
    ·cases h; exact absurd rfl (hn (x, .cell) (by simp))
    ·cases h; simp
  | false =>
   refine List.mem_cons_of_mem _ (ih ?_)
   by_cases hc : (k == NameKind.free && env.scope.kind == .function && env.kindOf n == some .cell) = true
   ·rw [if_pos hc] at h; simp only [List.lookup_cons, hx] at h; exact h
   ·rw [if_neg hc] at h; simp only [List.lookup_cons, hx] at h; exact h
noncomputable def blk (X : Cx) (scope : Scope) (N : List Str) (cl : List (Str × Addr)) (C : Addr) (s : Shared) (H : Hp) (fp : List Addr) (pn : List (Addr × Obj)) : Cx where
 prog := X.prog
 w := X.w
 K := X.K
 mg := X.mg
 base := X.base
 A := X.A
 N := N
 s₀ := s
 H₀ := H
 env := compEnvC scope cl C X.env
 outer := X.stack
 stack := X.stack
 ex := fp
 fn := fun _ => false
 calm := X.calm
 pn := pn
 xe := fun _ _ => False
structure BlkOk (X : Cx) (scope : Scope) (x : Str) (cn : List Str) (ci : List Nat) : Prop where
 kind : scope.kind = .function
 nocell : ∀ y ∈ scope.names, y.2 ≠ .cell
 names : ∀ y ∈ scope.names, y.2 = .local -> scope.names.lookup y.1 = some .local
 tgt : scope.names.lookup x = some .local
 free : ∀ y ∈ scope.names, y.2 = .free -> (X.env.cells.lookup y.1).isSome = true
 nd : (x :: cn).Nodup
 len : ci.length = cn.length
 cap : ∀ (j : Nat) (y : Str), cn[j]? = some y -> ∃ i, ci[j]? = some i ∧ X.N[i]? = some y ∧ scope.names.lookup y = some .free ∧ (X.env.kindOf y = some .cell ∨ X.env.kindOf y = some .free)
noncomputable def Zhx (ci : List Nat) (σ : L2.St) : L2.St := ci.map fun i => (σ[i]?).join
section
variable {X : Cx} {pins : List (Addr × Obj)} {σ : L2.St} {H : Hp} {s : Shared} {scope : Scope} {x : Str} {cn : List Str} {ci : List Nat} {fp : List Addr}
theorem Zw1 {h₁ : Heap} {tk : Nat} {o₁ : Obj} (I : Inv X pins σ H s) (B : BlkOk X scope x cn ci) (hf : ∀ b ∈ fp, Zl0 X pins H b) (hlt : ∀ b ∈ fp, b < s.heap.objs.size)
  (hns : h₁.Ns s.heap.objs.size (fun _ => none)) (hsb : Heap.SameBut s.heap.objs.size (s.heap.push o₁) h₁) :
  Inv (blk X scope (x :: cn) (Zgk X.env scope.names []) s.heap.objs.size s H fp (X.pn ++ pins)) [] (none :: Zhx ci σ) H { s with heap := h₁, toks := tk } := by
 have old : ∀ b o, s.heap.get? b = some o -> h₁.get? b = some o := fun b o e => hsb.extBut b o (Nat.ne_of_lt (Heap.lt_size e)) (Heap.get?_push_of_some _ e)
 have sub := Zfx X.env scope.names [] (by intro x c h; simp at h)
 have has : ∀ y, (y, NameKind.free) ∈ scope.names -> ∃ c, (Zgk X.env scope.names []).lookup y = some c := fun y hy =>
  Option.isSome_iff_exists.mp (Ziv X.env scope.names [] y (.inr ⟨hy, B.free _ hy rfl⟩))
 refine ⟨⟨I.ok.mod, B.kind, I.ok.glob, I.ok.blt, Nat.le_refl _, fun y z c h1 h2 => I.ok.inj y z c (sub y c h1) (sub z c h2), fun y hy => has y (Ze3 B.nocell hy), fun y c hy => absurd hy (by show ¬ (false = true); simp), I.ok.hd, I.ok.frames, .inl rfl,
   fun b hb => ⟨Nat.ne_of_lt (hlt b hb), fun y c e => (hf b hb).2.2.2.2.1 y c (sub y c e)⟩, I.bs, Nat.le_trans I.ok.bsz I.sz, fun b o e hb => ?_, fun b hb z => ?_, I.stack, I.stkFree⟩,
  rfl, I.bare, Un.kept old, ⟨_, hns, fun i y v h1 h2 h3 => ?_⟩, fun y c e => ?_, I.hok.fresh (Nat.le_refl _), fun y c e => I.freeC y c (sub y c e), fun p hp => ?_, I.hok.kept old, ?_⟩
 ·rcases (hf b hb).2.2.2.1 with z | z
  ·exact I.ok.noex b o e z
  ·exact absurd (Nat.lt_of_lt_of_le (Heap.lt_size e) (Nat.le_trans I.ok.bsz z)) (Nat.lt_irrefl _)
 ·exact (List.mem_cons.mp (I.stkSub b z)).elim (hf b hb).2.1 (hf b hb).2.2.1
 ·cases i with
  | zero => simp at h2
  | succ j =>
   have h1' : cn[j]? = some y := by simpa [blk] using h1
   have h2' : (Zhx ci σ)[j]? = some (some v) := by simpa using h2
   obtain ⟨i, e1, e2, e3, e4⟩ := B.cap j y h1'
   have e5 : σ[i]? = some (some v) := by
    unfold Zhx at h2'
    rw [List.getElem?_map, e1] at h2'
    simp at h2'
    cases e : σ[i]? with
    | none => rw [e] at h2'; cases h2'
    | some o => rw [e] at h2'; simp at h2'; rw [h2']
   obtain ⟨m, hn, hl⟩ := I.loc
   have hv : Vis X.env.scope y := by
    rcases e4 with e4 | e4
    ·exact .inr (.inl e4)
    ·exact .inr (.inr e4)
   obtain ⟨u, r, l⟩ := hl i y v e2 e5 hv
   refine ⟨u, r, .inr ⟨Zfb e3, ?_⟩⟩
   obtain ⟨c, ec⟩ := has y (PySem.mem_of_lookup e3)
   refine ⟨c, ec, ?_⟩
   rcases l with ⟨l, _⟩ | ⟨_, c', ec', hc⟩
   ·rcases e4 with e4 | e4 <;> rw [e4] at l <;> cases l
   ·rw [sub y c ec] at ec'
    cases ec'
    obtain ⟨ob, q1, q2⟩ := hc
    exact ⟨ob, old _ _ q1, q2⟩
 ·obtain ⟨v, ob, q1, q2⟩ := I.cell y c (sub y c e)
  exact ⟨v, ob, old _ _ q1, q2⟩
 ·have hp' : p ∈ X.pn ++ pins := by simpa [blk] using hp
  obtain ⟨q1, q2, q3, q4, q5⟩ := I.pin p hp'
  refine ⟨old _ _ q1, q2, Nat.ne_of_lt (Heap.lt_size q1), fun z => ?_, q5⟩
  exact (List.mem_cons.mp (I.stkSub p.1 z)).elim q3 q4
 ·simp [blk, Zhx, B.len]
noncomputable def PTs (X : Cx) (ifs : List Expr) (t : TT) : Prop :=
 ∀ (pins : List (Addr × Obj)) (s : Shared) (σ : L2.St) (H : Hp) (Q : Bool -> Hp -> Prop), Inv X pins σ H s -> t σ H Q →
  wpAny (model X.prog X.w) X.A (forIn ifs true fun c r => if r = true then do let ok ← isTrue c X.env (eval c X.env); pure (ForInStep.yield ok) else pure (ForInStep.yield r)) (TP X pins σ Q) X.xe s
theorem Zwd : PTs X [] (fun _ H Q => Q true H) := fun _ _ _ H _ I h => wpAny_tests_nil ⟨H, I, h⟩
theorem Zvx {c : Expr} {t : TT} (h : PT X c t) : PTs X [c] t := fun pins s σ H Q I q => wpAny_tests_one (h pins s σ H Q I q)
noncomputable def LcW (J : It) (ci : List Nat) (tt : TT) (te : TE) (σ : L2.St) (Q : VK) (H1 : Hp) : Prop := ∀ p, H1 p = none -> ∃ W : Nat -> Nat -> List V -> Hp -> Prop, (∃ m, W 0 m [] (upd H1 p (.lst []))) ∧ ∀ i m ys H, W i m ys H →
 H p = some (.lst ys) ∧ ((J.stop i H ∧ Q (.ref p) H) ∨ (J.go i H ∧ ∀ v H', J.yld i H v H' -> tt (some v :: Zhx ci σ) H' fun b H2 =>
  if b = true then te (some v :: Zhx ci σ) H2 fun y H3 => H3 p = some (.lst ys) ∧ ys.length < sizeLine ∧ ∃ m', m' < m ∧ W (i + 1) m' (ys ++ [y]) (upd H3 p (.lst (ys ++ [y])))
  else ∃ m', m' < m ∧ W (i + 1) m' ys H2))
structure Gone (X : Cx) (pins : List (Addr × Obj)) (H : Hp) (s : Shared) (C : Addr) : Prop where
 ns : ∃ m, s.heap.Ns C m
 free : H C = none
 nl : C ≠ X.env.locals
 up : X.s₀.heap.objs.size ≤ C
 nc : ∀ x c, X.env.cells.lookup x = some c -> c ≠ C
 np : ∀ p ∈ X.pn ++ pins, p.1 ≠ C
theorem Gone.go {σ : L2.St} {h' : Heap} {C : Addr} (g : Gone X pins H s C) (I : Inv X pins σ H s) (hs : Heap.SameBut C s.heap h') : Inv X pins σ H { s with heap := h' } :=
 I.turned (t' := s.toks) (fun b o hb e => hs.extBut b o hb e) g.free g.nl (.inr g.up) g.nc g.np
theorem Zmt {elt iter : Expr} {px pos : Pos} {ifs : List Expr} {tt : TT} {te : TE} {Q : VK} {E : Value -> Shared -> Prop} {RR : Value -> Addr -> Result -> Shared -> Prop} {it : Addr} {tn : Nat -> Heap -> Prop} {J : It}
  (I : Inv X pins σ H s) (hc : X.calm = true) (B : BlkOk X scope x cn ci) (T : Turn X.prog X.w X.K (.Name x px) J fp it tn) (st : tn 0 s.heap) (hf : ∀ b ∈ fp, Zl0 X pins H b)
  (ht : ∀ cl C s H fp pn, PTs (blk X scope (x :: cn) cl C s H fp pn) ifs tt) (he : ∀ cl C s H fp pn, PE (blk X scope (x :: cn) cl C s H fp pn) elt te)
  (hw : LcW J ci tt te σ Q H) (hRR : ∀ p C H' s', Inv X pins σ H' s' -> Gone X pins H' s' C -> Q (.ref p) H' -> RR (.ref p) C (.ok .next) s') :
  wpAny (model X.prog X.w) X.A (newList []) (fun acc s₃ => wpAny (model X.prog X.w) X.A (newFunctionEnv scope X.env.globals (Zgk X.env scope.names []) [] X.env.qual none .none (some X.env)) (fun cenv s₄ =>
   codeAny (model X.prog X.w) X.A (.compStart (.ListComp elt [⟨.Name x px, iter, ifs, 0⟩] scope pos) 0 (.ref it) acc { cenv with scope := relabel scope X.env }) (RR acc cenv.locals) s₄) E s₃) E s := by
 have hp0 : H s.heap.objs.size = none := I.hok.fresh (Nat.le_refl _)
 obtain ⟨W, ⟨m0, w0⟩, turn⟩ := hw _ hp0
 refine wpAny_newObj_type (wpAny_newFunctionEnv B.nocell (by intro y hy; simp at hy) (fun h₁ hns₁ hsb₁ => ?_) B.kind)
 dsimp only at hns₁ hsb₁ ⊢
 have I3 : Inv X pins σ (upd H s.heap.objs.size (.lst [])) { s with heap := s.heap.push { cls := .type "list", dict := none, data := .seq ([] : List Value).toArray } } :=
  I.laid (t' := s.toks) (fun b u e => Heap.get?_push_of_some _ e) (Nat.le_refl _) ⟨Nat.zero_le _, [], 0, .nil, Heap.get?_push_size _ rfl⟩
 generalize hH3 : s.heap.push { cls := .type "list", dict := none, data := .seq ([] : List Value).toArray } = hp3 at hns₁ hsb₁ I3 ⊢
 have flt : ∀ b ∈ fp, b < s.heap.objs.size := fun b hb => by
  obtain ⟨o, e, _⟩ := T.obj 0 _ st b hb
  exact Heap.lt_size e
 have sz3 : hp3.objs.size = s.heap.objs.size + 1 := by rw [← hH3, Heap.size_push]
 have f3 : ∀ b ∈ fp, Zl0 X pins (upd H s.heap.objs.size (.lst [])) b := fun b hb => ⟨by rw [Zao (Nat.ne_of_lt (flt b hb))]; exact (hf b hb).1, (hf b hb).2⟩
 have old3 : ∀ b o, s.heap.get? b = some o -> hp3.get? b = some o := fun b o e => by rw [← hH3]; exact Heap.get?_push_of_some _ e
 have I4 := Zw1 (s := { s with heap := hp3 }) (tk := s.toks + ([] : List (Str × Value)).length) I3 B f3 (fun b hb => by show b < hp3.objs.size; rw [sz3]; exact Nat.lt_succ_of_lt (flt b hb)) (by simpa using hns₁) hsb₁
 have old4 : ∀ b o, hp3.get? b = some o -> h₁.get? b = some o := fun b o e => hsb₁.extBut b o (Nat.ne_of_lt (Heap.lt_size e)) (Heap.get?_push_of_some _ e)
 generalize hX' : blk X scope (x :: cn) (Zgk X.env scope.names []) hp3.objs.size { s with heap := hp3 } (upd H s.heap.objs.size (.lst [])) fp (X.pn ++ pins) = X' at I4
 have ePr : X'.prog = X.prog := by rw [← hX']; rfl
 have eW : X'.w = X.w := by rw [← hX']; rfl
 have eK : X'.K = X.K := by rw [← hX']; rfl
 have eA : X'.A = X.A := by rw [← hX']; rfl
 have eEnv : X'.env = compEnvC scope (Zgk X.env scope.names []) hp3.objs.size X.env := by rw [← hX']; rfl
 have eEx : X'.ex = fp := by rw [← hX']; rfl
 have ht' : PTs X' ifs tt := by rw [← hX']; exact ht _ _ _ _ _ _
 have he' : PE X' elt te := by rw [← hX']; exact he _ _ _ _ _ _
 have eXe : X'.xe = fun _ _ => False := by rw [← hX']; rfl
 have hg' : PG X' (.Name x px) (Zi8 0) := by
  rw [← hX']
  exact Zjk (X := blk X scope (x :: cn) _ _ _ _ _ _) B.nd rfl (.inl (lookup_relabel_local B.tgt)) (.inr (lookup_relabel_local B.tgt))
 -- the iterator's objects, seen from the block
 have stat : ∀ {H' : Hp}, (∀ b ∈ fp, H' b = none) -> ∀ b ∈ fp, Zl0 X' [] H' b := fun {H'} hn b hb => by
  rw [← hX']
  refine ⟨hn b hb, (by show b ≠ hp3.objs.size; rw [sz3]; exact Nat.ne_of_lt (Nat.lt_succ_of_lt (flt b hb))), fun z => (List.mem_cons.mp (I3.stkSub b z)).elim (hf b hb).2.1 (hf b hb).2.2.1, .inl hb, fun y c e => ?_, fun p hp => ?_⟩
  ·exact (hf b hb).2.2.2.2.1 y c (Zfx X.env scope.names [] (by intro x c h; simp at h) y c e)
  ·exact (hf b hb).2.2.2.2.2 p (by simpa [blk] using hp)
 have back : ∀ {σ' : L2.St} {H' : Hp} {s' : Shared}, Inv X' [] σ' H' s' -> Inv X pins σ H' s' ∧ Gone X pins H' s' hp3.objs.size := fun {σ' H' s'} I5 => by
  have u : Un (frs X.stack) fp (upd H s.heap.objs.size (.lst [])) H' hp3 s'.heap := by
   have := I5.base
   rw [← hX'] at this
   exact this
  have hok : HOk X.prog X.w H' s'.heap := by have := I5.hok; rw [ePr, eW] at this; exact this
  have ho : s'.os = s.os := by have := I5.os; rw [← hX'] at this; exact this
  refine ⟨I3.call' ho u hok I5.bare fun b hb => ⟨(hf b hb).2.2.2.1, (hf b hb).2.1, (hf b hb).2.2.2.2.1, (hf b hb).2.2.2.2.2⟩, ?_, ?_, ?_, ?_, fun y c e z => ?_, fun p hp z => ?_⟩
  ·obtain ⟨m, hn, _⟩ := I5.loc
   rw [eEnv] at hn
   exact ⟨m, hn⟩
  ·have := I5.free
   rw [eEnv] at this
   exact this
  ·exact Nat.ne_of_gt (I3.lt)
  ·exact I3.sz
  ·obtain ⟨v, q⟩ := I3.cell y c e
   exact absurd (Nat.lt_of_lt_of_le q.lt (by rw [z]; exact Nat.le_refl _)) (Nat.lt_irrefl _)
  ·have := Heap.lt_size (I3.pin p hp).1
   rw [z] at this
   exact Nat.lt_irrefl _ this
 have loop : codeAny (model X.prog X.w) X.A (.compLoop (.ListComp elt [⟨.Name x px, iter, ifs, 0⟩] scope pos) 0 (.ref it) (.ref s.heap.objs.size) (compEnvC scope (Zgk X.env scope.names []) hp3.objs.size X.env))
   (RR (.ref s.heap.objs.size) hp3.objs.size) { s with heap := h₁, toks := s.toks + ([] : List (Str × Value)).length } := by
  refine codeAny_loop rfl (fun n s' => ∃ i o ys H', Inv X' [] (o :: Zhx ci σ) H' s' ∧ tn i s'.heap ∧ (∀ b ∈ fp, H' b = none) ∧ W i n ys H') (fun n s' hI => ?_) m0
   ⟨0, none, [], _, I4, T.keep _ _ _ st (fun b hb o e => old4 b o (old3 b o e)), fun b hb => (f3 b hb).1, w0⟩
  obtain ⟨i, o, ys, H', I5, st5, fr5, w5⟩ := hI
  show wpAny _ X.A ((compTurn (.ListComp elt [⟨.Name x px, iter, ifs, 0⟩] scope pos) 0 (.ref it) (.ref s.heap.objs.size) (compEnvC scope (Zgk X.env scope.names []) hp3.objs.size X.env)).onRaise (fun x => do noteFrame x (compEnvC scope (Zgk X.env scope.names []) hp3.objs.size X.env); theTreesLotGoes x)) _ _ s'
  refine wpAny_noted ?_
  rw [compTurn_list, ← eEnv, ← ePr, ← eW, ← eA]
  refine wpAny_mono (E := fun _ _ => False) ?_ (fun _ _ q => q) (fun _ _ z => z.elim)
  obtain ⟨hpl, wt⟩ := turn i n ys H' w5
  refine wpAny_bind (wpAny_standAt (wpAny_bind ?_))
  rcases wt with ⟨stop, q⟩ | ⟨go, step⟩
  ·have z := T.done X' ePr eW eK (by rw [← hX']; exact hc) i [] s' _ H' (fun _ _ => False) I5 (stat fr5) st5 stop
   rw [← ePr, ← eW] at z
   refine thn z fun r s6 zz => ?_
   obtain ⟨hr, I6⟩ := zz
   subst hr
   obtain ⟨J1, g1⟩ := back I6
   exact wpAny_pure (hRR _ _ H' s6 J1 g1 q)
  ·have z := T.item X' ePr eW eK (by rw [← hX']; exact hc) i [] s' _ H' (fun _ _ => False) I5 (stat fr5) st5 go
   rw [← ePr, ← eW] at z
   refine thn z fun r s6 zz => ?_
   obtain ⟨u, hr, h6⟩ := zz
   subst hr
   refine wpAny_bind (thn h6 fun _ s7 zz => ?_)
   obtain ⟨v, H7, I7, r7, y7, st7, fr7⟩ := zz
   have I7' := I7.pinned (stat fr7) (T.obj _ _ st7)
   rw [← eXe]
   refine wpAny_bind (thn (hg' _ s7 _ H7 v u _ I7' r7 (show Zi8 0 v (o :: Zhx ci σ) H7 (fun σ8 H8 => σ8 = some v :: Zhx ci σ ∧ H8 = H7) from ⟨rfl, rfl⟩)) fun _ s8 zz => ?_)
   obtain ⟨σ8, H8, I8, e8, e8'⟩ := zz
   subst e8 e8'
   refine wpAny_bind (thn (ht' _ s8 _ _ _ I8 (step v _ y7)) fun b s9 zz => ?_)
   obtain ⟨H9, I9, q9⟩ := zz
   have tnK : ∀ {σ' : L2.St} {H' : Hp} {s' : Shared}, Inv X' (([] : List (Addr × Obj)) ++ Zh9 fp s7.heap) σ' H' s' -> tn (i + 1) s'.heap ∧ ∀ b ∈ fp, H' b = none := fun {σ' H' s'} I' =>
    ⟨T.keep _ _ _ st7 fun b hb o e => (I'.pin (b, o) (List.mem_append_right _ (List.mem_append_right _ (Zdn hb e)))).1, fun b hb => by
     obtain ⟨ob, e, d⟩ := T.obj _ _ st7 b hb
     exact (I'.pin (b, ob) (List.mem_append_right _ (List.mem_append_right _ (Zdn hb e)))).2.1⟩
   cases b with
   | false =>
    obtain ⟨m', hm, w9⟩ := q9
    obtain ⟨t9, f9⟩ := tnK I9
    exact wpAny_pure ⟨rfl, m', hm, i + 1, _, ys, H9, I9.unpinned, t9, f9, w9⟩
   | true =>
    refine wpAny_bind (wpAny_bind (thn (he' _ s9 _ _ _ I9 q9) fun yv s10 zz => ?_))
    obtain ⟨y, H10, I10, r10, hp10, hz10, m', hm, w10⟩ := zz
    refine wpAny_bind (thn (Zhj (X := X') _ s10 _ H10 (.ref s.heap.objs.size) [y] (.ref s.heap.objs.size) [yv] (fun _ H11 => H11 = upd H10 s.heap.objs.size (.lst (ys ++ [y]))) I10 rfl (.cons r10 .nil) ⟨_, ys, y, rfl, rfl, hp10, hz10, rfl⟩) fun _ s11 zz => ?_)
    obtain ⟨_, H11, I11, _, e11⟩ := zz
    subst e11
    obtain ⟨t11, f11⟩ := tnK I11
    exact wpAny_pure (wpAny_pure ⟨rfl, m', hm, i + 1, _, ys ++ [y], _, I11.unpinned, t11, f11, w10⟩)
 exact codeAny_compStart_list loop (T.self _ 0 _ _ _ (T.keep _ _ _ st (fun b hb o e => old4 b o (old3 b o e))) loop)
noncomputable def tLC (wi : TI) (ci : List Nat) (tt : TT) (te : TE) : TE := fun σ H Q => wi σ H fun J H1 => LcW J ci tt te σ Q H1
theorem pe_lc {elt iter : Expr} {px pos : Pos} {ifs : List Expr} {wi : TI} {tt : TT} {te : TE} (hc : X.calm = true) (B : BlkOk X scope x cn ci) (hi : PI X (.Name x px) iter wi)
  (ht : ∀ cl C s H fp pn, PTs (blk X scope (x :: cn) cl C s H fp pn) ifs tt) (he : ∀ cl C s H fp pn, PE (blk X scope (x :: cn) cl C s H fp pn) elt te)
  (hs : ∀ x, foldedSetIterable iter X.env x = pure x := by rintro _; rfl) : PE X (.ListComp elt [⟨.Name x px, iter, ifs, 0⟩] scope pos) (tLC wi ci tt te) := by
 intro pins s σ H Q I h
 rw [eval_ListComp]
 refine wpAny_comprehension_free (use := none) rfl hs (Zf3 X.env scope B.free) B.kind B.names ?_
 refine thn (hi pins s σ H _ I h) fun v s1 h1 => thn h1 fun itv s2 h2 => ?_
 obtain ⟨it, fp, tn, J, H2, e, I2, T, st2, f2, w2⟩ := h2
 subst e
 refine Zmt (RR := fun acc C => compPost (model X.prog X.w) X.A X.xe none (EP X pins σ Q) acc C) I2 hc B T st2 f2 ht he w2 fun p C H' s' I' g q => ?_
 obtain ⟨m, hn⟩ := g.ns
 exact ⟨m, hn, fun h' hs' => ⟨.ref p, H', g.go I' hs', rfl, q⟩⟩
theorem Zr8 {elt iter : Expr} {px py pos spos : Pos} {ifs : List Expr} {wi : TI} {tt : TT} {te : TE} {i : Nat} {y : Str} (hc : X.calm = true) (B : BlkOk X scope x cn ci) (hi : PI X (.Name x px) iter wi)
  (ht : ∀ cl C s H fp pn, PTs (blk X scope (x :: cn) cl C s H fp pn) ifs tt) (he : ∀ cl C s H fp pn, PE (blk X scope (x :: cn) cl C s H fp pn) elt te)
  (hN : X.N.Nodup) (hiN : X.N[i]? = some y) (hy : X.env.scope.names.lookup y = some .local)
  (hsw : swapsWith (.ListComp elt [⟨.Name x px, iter, ifs, 0⟩] scope pos) (some (.Name y py)) spos.line X.env = pure true := by rfl)
  (hs : ∀ x, foldedSetIterable iter X.env x = pure x := by rintro _; rfl) : PS X (.Assign [.Name y py] (.ListComp elt [⟨.Name x px, iter, ifs, 0⟩] scope pos) spos) (tAsg (tLC wi ci tt te) (Zi8 i)) := by
 intro pins s σ H E I h
 rw [exec_Assign_Name_used _ _ _ _ hsw]
 refine wpAny_bind (wpAny_standAt (wpAny_bind ?_))
 show wpAny _ X.A (do let _ ← comprehension (.ListComp elt [⟨.Name x px, iter, ifs, 0⟩] scope pos) scope X.env _ (newList []) false (eval iter X.env) (some (assign (.Name y py) X.env))) _ _ s
 refine wpAny_bind (wpAny_mono (wpAny_comprehension_free (use := some (assign (.Name y py) X.env)) (Q := fun _ s' => SP X pins E .next s') rfl hs (Zf3 X.env scope B.free) B.kind B.names ?_) (fun _ s' hq => wpAny_pure (wpAny_pure hq)) fun _ _ e => e)
 refine thn (hi pins s σ H _ I h) fun v s1 h1 => thn h1 fun itv s2 h2 => ?_
 obtain ⟨it, fp, tn, J, H2, e, I2, T, st2, f2, w2⟩ := h2
 subst e
 refine Zmt (RR := fun acc C => compPost (model X.prog X.w) X.A X.xe (some (assign (.Name y py) X.env)) (fun _ s' => SP X pins E .next s') acc C) I2 hc B T st2 f2 ht he w2 fun p C H' s' I' g q => ?_
 show wpAny _ X.A (assign (.Name y py) X.env (.ref p)) _ _ _
 have hk : X.env.kindOf y = some .local := hy
 refine wpAny_assign_Name (Zj6 I' hN hiN (.inl hy) (v := .ref p) (u := .ref p) rfl (fun s'' I'' ch => ?_) (.inr hy))
 obtain ⟨m, hn⟩ := g.ns
 obtain ⟨a, hsb, ha⟩ := ch
 have haC : C ≠ a := by
  rcases ha with ha | ha
  ·rw [ha]; exact g.nl
  ·exact Ne.symm (g.nc y a ha)
 have hn2 : s''.heap.Ns C m := hn.sameBut hsb haC
 exact ⟨m, hn2, fun h' hs' => ⟨_, H', Gone.go ⟨⟨m, hn2⟩, g.free, g.nl, g.up, g.nc, g.np⟩ I'' hs', q⟩⟩
end
noncomputable def Zlb (ci : List Nat) (σd : SD) : SD := ci.map fun i => (σd[i]?).join
open Classical in
noncomputable def Zco (own : Zge) (c0 : SD) (tt : TF) (te : EF) : List D -> HD -> Option (List D × HD)
 | [], H => if Zcp own H then some ([], H) else none
 | x :: r, H => if Zcp own H then (tt (some x :: c0) H).bind fun t => if t.1 = true then (te (some x :: c0) t.2).bind fun e => (Zco own c0 tt te r e.2).map fun q => (e.1 :: q.1, q.2) else Zco own c0 tt te r t.2 else none
noncomputable def eLC (it : ItF) (ci : List Nat) (tt : TF) (te : EF) : EF := fun σ H => (it σ H).bind fun p => (Zco p.1.2 (Zlb ci σ) tt te p.1.1 p.2).bind fun q => mkL q.1 q.2
noncomputable def Zel : TF := fun _ H => some (true, H)
noncomputable def Zyr (X : Cx) (ifs : List Expr) (t : TF) : Prop := PTs X ifs (rdT X.K t)
section
variable {X : Cx} {scope : Scope} {x : Str} {cn : List Str} {ci : List Nat}
theorem Zca : Zyr X [] Zel := by
 rintro pins s σ H Q I ⟨ι, σd, Hd, b, Hd', sr, hr, e, q⟩
 cases e
 exact Zwd pins s σ H Q I (q H ι Le.refl hr)
theorem Ztk {c : Expr} {t : TF} (h : PTf X c t) : Zyr X [c] t := Zvx h
theorem SRep.cap {K : PySem.W.Frag} {H : Hp} {ι : List Addr} {σ : L2.St} {σd : SD} {d : D} {v : V} (s : SRep K H ι σ σd) (r : Rep K H ι d v) : SRep K H ι (some v :: Zhx ci σ) (some d :: Zlb ci σd) := by
 refine ⟨by simp [Zhx, Zlb], fun i e h => ?_⟩
 cases i with
 | zero => simp at h; subst h; exact ⟨v, rfl, r⟩
 | succ j =>
  simp only [List.getElem?_cons_succ, Zhx, Zlb, List.getElem?_map] at h ⊢
  cases ej : ci[j]? with
  | none => rw [ej] at h; simp at h
  | some i =>
   rw [ej] at h
   simp only [Option.map_some, Option.some.injEq] at h ⊢
   cases es : σd[i]? with
   | none => rw [es] at h; simp at h
   | some o =>
    rw [es] at h
    simp at h
    subst h
    obtain ⟨u, h1, h2⟩ := s.var i e es
    exact ⟨u, by rw [h1]; rfl, h2⟩
theorem Zzu {K : PySem.W.Frag} {it : ItF} {tt : TF} {te : EF} {σ : L2.St} {H : Hp} {Q : VK} (h : rdE K (eLC it ci tt te) σ H Q) : tLC (rdI K it) ci (rdT K tt) (rdE K te) σ H Q := by
 obtain ⟨ι, σd, Hd, d, Hd', s, hr, e, q⟩ := h
 obtain ⟨⟨⟨xs, own⟩, H1⟩, e1, e⟩ := Zo e
 obtain ⟨⟨ds, H2⟩, e2, e⟩ := Zo e
 obtain ⟨hz, e⟩ := Zje e
 cases e
 dsimp only at e2 hz
 refine ⟨ι, σd, Hd, xs, own, H1, s, hr, e1, fun J H0 ι0 l0 h0 itr p hp => ?_⟩
 have s0 := s.mono l0
 refine ⟨fun i m ys H => m = xs.length - i ∧ i ≤ xs.length ∧ H p = some (.lst ys) ∧ ∃ ι Hd done Zbv, Le K H0 ι0 H ι ∧ p ∉ ι ∧ HRep K H ι Hd ∧ Paired (Rep K H ι) done ys ∧ Zco own (Zlb ci σd) tt te (xs.drop i) Hd = some (Zbv, H2) ∧ ds = done ++ Zbv,
  ⟨xs.length, by simp, Nat.zero_le _, upd_same, ι0, H1, [], ds, Le.fresh hp _, h0.fresh hp, h0.tup hp _, .nil, by simpa using e2, by simp⟩, ?_⟩
 rintro i m ys H5 ⟨rfl, hi, hpl, ι5, Hd5, done, Zbv, l5, np5, h5, pd5, e5, eds⟩
 refine ⟨hpl, ?_⟩
 by_cases hlt : i < xs.length
 ·have ed : xs.drop i = xs[i] :: xs.drop (i + 1) := List.drop_eq_getElem_cons hlt
  rw [ed, Zco] at e5
  split at e5
  ·rename_i ok
   obtain ⟨⟨b6, H6⟩, e6, e5⟩ := Zo e5
   refine .inr ⟨itr.go i H5 ι5 Hd5 l5 h5 ok hlt, fun v H' y => ?_⟩
   obtain ⟨ι6, l6, h6, r6⟩ := itr.yld i H5 ι5 Hd5 xs[i] v H' l5 h5 ok (by simp [hlt]) y
   obtain ⟨hp6, np6⟩ := l6.frame p _ hpl np5
   have s6 := SRep.cap (ci := ci) (s0.mono (l5.trans l6)) r6
   refine ⟨ι6, _, Hd5, b6, H6, s6, h6, e6, fun H7 ι7 l7 h7 => ?_⟩
   obtain ⟨hp7, np7⟩ := l7.frame p _ hp6 np6
   have L7 := (l5.trans l6).trans l7
   cases b6 with
   | true =>
    rw [if_pos rfl]
    dsimp only at e5
    rw [if_pos rfl] at e5
    obtain ⟨⟨d8, H8⟩, e8, e5⟩ := Zo e5
    obtain ⟨⟨r9, H9⟩, e9, e5⟩ := Zm e5
    cases e5
    refine ⟨ι7, _, H6, d8, H8, s6.mono l7, h7, e8, fun v8 H8' ι8 l8 h8 rr8 => ?_⟩
    obtain ⟨hp8, np8⟩ := l8.frame p _ hp7 np7
    have ly : ys.length < sizeLine := by
     rw [← Prd.len pd5]
     rw [eds] at hz
     simp at hz
     omega
    have w8 : Lw K H8' ι8 (upd H8' p (.lst (ys ++ [v8]))) ι8 := Lw.side hp8 _
    refine ⟨hp8, ly, xs.length - (i + 1), by omega, rfl, hlt, upd_same, ι8, H8, done ++ [d8], r9, (L7.trans l8).side hp hp8 _, np8, h8.keep w8 (fun a ha => Zao fun z => by subst z; exact np8 ha), ?_, e9, by rw [eds]; simp⟩
    exact Prd.append (Prd.monoW w8 (Prd.mono ((l6.trans l7).trans l8) pd5)) (.cons (Rep.monoW w8 rr8) .nil)
   | false =>
    rw [if_neg (by simp)]
    dsimp only at e5
    rw [if_neg (by simp)] at e5
    exact ⟨xs.length - (i + 1), by omega, rfl, hlt, hp7, ι7, H6, done, Zbv, L7, np7, h7, Prd.mono (l6.trans l7) pd5, e5, eds⟩
  ·cases e5
 ·rw [List.drop_eq_nil_of_le (by omega), Zco] at e5
  split at e5
  ·rename_i ok
   have e6 : (([] : List D), Hd5) = (Zbv, H2) := Option.some.inj e5
   obtain ⟨rfl, rfl⟩ := Prod.mk.inj e6
   refine .inl ⟨itr.stop i H5 ι5 _ l5 h5 ok (by omega), ?_⟩
   have w5 : Lw K H5 ι5 H5 (ι5 ++ [p]) := ⟨fun _ _ z => z, fun _ _ z => z, ⟨[p], rfl⟩, fun _ _ _ z => z⟩
   have L := l0.trans l5
   simp at eds
   subst eds
   refine q _ H5 (ι5 ++ [p]) ⟨L.toLw.trans w5, fun a o ha na => ?_⟩ (h5.add np5 ⟨ys, hpl, Prd.monoW w5 pd5⟩) (Za3.mpr ⟨p, rfl, by rw [← h5.len]; simp⟩)
   obtain ⟨q1, q2⟩ := L.frame a o ha na
   refine ⟨q1, ?_⟩
   have : a ≠ p := fun z => by
    subst z
    have := (l0.frame a o ha na).1
    rw [hp] at this; cases this
   simp [q2, this]
  ·cases e5
theorem Ziq {elt iter : Expr} {px pos : Pos} {ifs : List Expr} {it : ItF} {tt : TF} {te : EF} (hc : X.calm = true) (B : BlkOk X scope x cn ci) (hi : PIf X (.Name x px) iter it)
  (ht : ∀ cl C s H fp pn, Zyr (blk X scope (x :: cn) cl C s H fp pn) ifs tt) (he : ∀ cl C s H fp pn, PEf (blk X scope (x :: cn) cl C s H fp pn) elt te)
  (hs : ∀ x, foldedSetIterable iter X.env x = pure x := by rintro _; rfl) : PEf X (.ListComp elt [⟨.Name x px, iter, ifs, 0⟩] scope pos) (eLC it ci tt te) :=
 PEi (pe_lc (tt := rdT X.K tt) (te := rdE X.K te) hc B hi ht he hs) fun _ _ _ h => Zzu h
theorem Zeb {elt iter : Expr} {px py pos spos : Pos} {ifs : List Expr} {it : ItF} {tt : TF} {te : EF} {i : Nat} {y : Str} (hc : X.calm = true) (B : BlkOk X scope x cn ci) (hi : PIf X (.Name x px) iter it)
  (ht : ∀ cl C s H fp pn, Zyr (blk X scope (x :: cn) cl C s H fp pn) ifs tt) (he : ∀ cl C s H fp pn, PEf (blk X scope (x :: cn) cl C s H fp pn) elt te)
  (hN : X.N.Nodup) (hiN : X.N[i]? = some y) (hy : X.env.scope.names.lookup y = some .local)
  (hsw : swapsWith (.ListComp elt [⟨.Name x px, iter, ifs, 0⟩] scope pos) (some (.Name y py)) spos.line X.env = pure true := by rfl)
  (hs : ∀ x, foldedSetIterable iter X.env x = pure x := by rintro _; rfl) : PSf X (.Assign [.Name y py] (.ListComp elt [⟨.Name x px, iter, ifs, 0⟩] scope pos) spos) (Za0 i (eLC it ci tt te)) := by
 refine PSi (Zr8 (tt := rdT X.K tt) (te := rdE X.K te) hc B hi ht he hN hiN hy hsw hs) fun E σ H zz => ?_
 obtain ⟨ι, σd, Hd, fl, σd', Hd', s, hr, e, q⟩ := zz
 obtain ⟨⟨x, H1⟩, e1, e⟩ := Zm e
 cases e
 exact Zzu ⟨ι, σd, Hd, x, H1, s, hr, e1, fun v H' ι' l h r => q _ H' ι' l h ((s.mono l).set r i)⟩
end
theorem Zwq : fillsNumberSlot (.type "tuple") "mul" = pure false :=
 PySem.fillsNumberSlot_seq (id := "tuple.__mul__") (r := some (.builtin "tuple.__rmul__")) F.slot_tuple_mul.lookup (by decide +kernel) F.slot_tuple_rmul.lookup (by decide +kernel)
theorem repT : seqRepeat? (.type "tuple") = pure (some (.builtin "tuple.__mul__")) := by
 unfold seqRepeat?
 rw [PySem.seqSlot_of (T := "tuple") (name := "__mul__") (id := "tuple.__mul__") F.slot_tuple_mul.lookup (by decide +kernel), PySem.seqSlot_of (T := "tuple") (name := "__rmul__") (id := "tuple.__rmul__") F.slot_tuple_rmul.lookup (by decide +kernel)]
 rfl
section
variable {dd : Option Addr} {sl : Array (Option Value)}
theorem rmulT (a : Int) (t : Tok) (l : Addr) (items : Array Value) (n : Nat) :
  Meets (Builtin.«int.__rmul__» ⟨[.int a t, .ref l], []⟩) (fun _ R s => s.heap.get? l = some { cls := .type "tuple", dict := dd, data := .seq items n, slots := sl } ∧ R (.ok (.ret Value.notImplemented)) s) :=
 .of_wp fun prog w A R s h => by obtain ⟨hp, g, d, tk, os⟩ := s; obtain ⟨hl, h⟩ := h; wp_walk; exact ⟨_, rfl, h⟩
theorem Zo8 (l : Addr) (items : Array Value) (n : Nat) (x : Int) (u : Tok) (h1 : (decide (x < -(2 ^ 63)) || decide (x ≥ 2 ^ 63)) = false) (h2 : (items.isEmpty || x == 1) = true) :
  Meets (Builtin.«tuple.__mul__» ⟨[.ref l, .int x u], []⟩) (fun _ R s => s.heap.get? l = some { cls := .type "tuple", dict := dd, data := .seq items n, slots := sl } ∧ R (.ok (.ret (.ref l))) s) :=
 .of_wp fun prog w A R s h => by
  obtain ⟨hp, g, d, tk, os⟩ := s; obtain ⟨hl, h⟩ := h
  have f1 := AutoSeq1.idx_int
  wp_walk
  simp only [h1, Bool.false_eq_true, if_false]
  wp_walk using wpAny_loadPart' hl
  simp only [h2, if_true]
  wp_walk using wpAny_loadPart' hl
  exact ⟨_, rfl, h⟩
theorem Zro (l : Addr) (items : Array Value) (n : Nat) (x : Int) (u : Tok) (h1 : (decide (x < -(2 ^ 63)) || decide (x ≥ 2 ^ 63)) = false) (h2 : (items.isEmpty || x == 1) = false) (h3 : (decide (x ≤ 0) || items.isEmpty) = true) :
  Meets (Builtin.«tuple.__mul__» ⟨[.ref l, .int x u], []⟩) (fun _ R s => s.heap.get? l = some { cls := .type "tuple", dict := dd, data := .seq items n, slots := sl } ∧ R (.ok (.ret (.ref s.heap.objs.size))) { s with heap := s.heap.push { cls := Value.type "tuple", data := Data.seq #[] } }) :=
 .of_wp fun prog w A R s h => by
  obtain ⟨hp, g, d, tk, os⟩ := s; obtain ⟨hl, h⟩ := h
  have f1 := AutoSeq1.idx_int
  wp_walk
  simp only [h1, Bool.false_eq_true, if_false]
  wp_walk using wpAny_loadPart' hl
  try simp only [h2, h3, Bool.false_eq_true, if_false, if_true]
  try (wp_walk using wpAny_loadPart' hl)
  exact ⟨_, rfl, h⟩
theorem Ztt (l : Addr) (items : Array Value) (n : Nat) (x : Int) (u : Tok) (h1 : (decide (x < -(2 ^ 63)) || decide (x ≥ 2 ^ 63)) = false) (h2 : (items.isEmpty || x == 1) = false) (h3 : (decide (x ≤ 0) || items.isEmpty) = false) (h4 : ¬ (items.size * x : Int) > (2 ^ 63 - 1) / 8) (h5 : Builtin.Tuple.tupleTooMany (items.size * x) = false)
  (hs : (List.foldl (fun x1 x2 => x1 ++ x2) #[] (List.replicate x.toNat items)).size ≤ sizeLine) :
  Meets (Builtin.«tuple.__mul__» ⟨[.ref l, .int x u], []⟩) (fun _ R s => s.heap.get? l = some { cls := .type "tuple", dict := dd, data := .seq items n, slots := sl } ∧ R (.ok (.ret (.ref s.heap.objs.size))) { s with heap := s.heap.push { cls := Value.type "tuple", data := Data.seq (List.foldl (fun x1 x2 => x1 ++ x2) #[] (List.replicate x.toNat items)) } }) :=
 .of_wp fun prog w A R s h => by
  obtain ⟨hp, g, d, tk, os⟩ := s; obtain ⟨hl, h⟩ := h
  have f1 := AutoSeq1.idx_int
  wp_walk
  simp only [h1, Bool.false_eq_true, if_false]
  wp_walk using wpAny_loadPart' hl
  simp only [h2, h3, h5, Bool.false_eq_true, if_false, if_neg h4]
  wp_walk using wpAny_loadPart' hl
  exact ⟨_, rfl, h⟩
end
theorem Zik (its : List Value) (m : Nat) : List.foldl (fun x1 x2 => x1 ++ x2) #[] (List.replicate m its.toArray) = (List.replicate m its).flatten.toArray := by
 have := Zho its m []
 rw [List.nil_append] at this
 exact this
section
variable {prog : Program} {w : World} {A : Around} {E : Value -> Shared -> Prop} {s : Shared}
theorem Zvt {l : Addr} {its : List Value} {k : Int} {t : Tok} {Q : Value -> Shared -> Prop} (p : IsTup s.heap l its.toArray) (h1 : -(2 ^ 63) ≤ k) (h2 : k < 2 ^ 63) (hz : its.length * k.toNat ≤ sizeLine)
  (qs : (its = [] ∨ k = 1) → Q (.ref l) s) (qn : its ≠ [] → k ≠ 1 → Q (.ref s.heap.objs.size) { s with heap := s.heap.push { cls := .type "tuple", data := .seq (List.replicate k.toNat its).flatten.toArray } }) :
  wpAny (model prog w) A (binaryOp .Mult (.ref l) (.int k t)) Q E s := by
 obtain ⟨o, e, hc, n, hd⟩ := p
 obtain ⟨c, dd, da, sl⟩ := o
 have hc' : c = .type "tuple" := hc
 have hd' : da = .seq its.toArray n := hd
 subst hc' hd'
 have b1 : (decide (k < -(2 ^ 63)) || decide (k ≥ 2 ^ 63)) = false := by simp; omega
 refine wpAny_binaryOp_repeat_ref (T := "tuple") (U := "int") (by decide) ⟨_, e, rfl⟩ (fun s' => typeIs_int s' k t) Zwq F.fills_int_mul F.slot_int_rmul repT F.slot_int_index.lookup
  (call_meets F.slot_int_rmul (typeIs_int s k t) F.entry_int_rmul (F.args_int_rmul_2 _ _) (rmulT k t l its.toArray n) ⟨e, rfl, ⟨_, e, rfl⟩, ?_⟩)
 by_cases hs : its = [] ∨ k = 1
 ·exact call_meets F.slot_tuple_mul ⟨_, e, rfl⟩ F.entry_tuple_mul (F.args_tuple_mul_2 _ _) (Zo8 l its.toArray n k t b1 (by rcases hs with h | h <;> simp [h])) ⟨e, qs hs⟩
 ·have hne : its ≠ [] := fun h => hs (.inl h)
  have hk : k ≠ 1 := fun h => hs (.inr h)
  have b2 : (its.toArray.isEmpty || k == 1) = false := by cases its <;> simp_all
  have new := qn hne hk
  by_cases h0 : k ≤ 0
  ·have z : k.toNat = 0 := by omega
   rw [z] at new
   exact call_meets F.slot_tuple_mul ⟨_, e, rfl⟩ F.entry_tuple_mul (F.args_tuple_mul_2 _ _) (Zro l its.toArray n k t b1 b2 (by simp [h0])) ⟨e, new⟩
  ·have sz : sizeLine = 16777216 := PySem.sizeLine_eq
   have hm : (its.toArray.size : Int) * k ≤ 16777216 := by
    have e1 : k = (k.toNat : Int) := by omega
    rw [List.size_toArray, e1, ← Int.natCast_mul]
    omega
   have b3 : (decide (k ≤ 0) || its.toArray.isEmpty) = false := by cases its <;> simp_all
   refine call_meets F.slot_tuple_mul ⟨_, e, rfl⟩ F.entry_tuple_mul (F.args_tuple_mul_2 _ _) (Ztt l its.toArray n k t b1 b2 b3 (by omega) (by simp only [Builtin.Tuple.tupleTooMany, decide_eq_false_iff_not, sz]; omega) ?_) ⟨e, ?_⟩
   ·rw [Zik, List.size_toArray, Zl2, Nat.mul_comm]; exact hz
   ·rw [Zik]; exact new
end
variable {X : Cx}
noncomputable def rRepT (K : PySem.W.Frag) : R2 := fun x y H Q => ∃ l k xs, x = .ref l ∧ y = .int k ∧ SqT K H l xs ∧ -(2 ^ 63) ≤ k ∧ k < 2 ^ 63 ∧ xs.length * k.toNat ≤ sizeLine ∧ ((xs = [] ∨ k = 1) -> Q (.ref l) H) ∧
 (xs ≠ [] -> k ≠ 1 -> ∀ p, H p = none -> Q (.ref p) (upd H p (.tup (List.replicate k.toNat xs).flatten)))
theorem Zvv : OpR X (binaryOp .Mult) (rRepT X.K) := by
 intro pins s σ H x y v u Q I rx ry h
 obtain ⟨l, k, xs, rfl, rfl, ha, h1, h2, hz, q1, q2⟩ := h
 cases rx
 obtain ⟨t, rfl⟩ := ry
 obtain ⟨its, r1, p1, _⟩ := I.tuple ha
 refine Zvt p1 h1 h2 (by rw [← r1.length]; exact hz) (fun z => ⟨.ref l, H, I, rfl, q1 (z.imp r1.nil_iff.mp id)⟩) (fun z zk => ?_)
 refine ⟨.ref s.heap.objs.size, _, I.laid (t' := s.toks) (o := .tup (List.replicate k.toNat xs).flatten) (fun b ob q => Heap.get?_push_of_some _ q) (Nat.le_refl _) ?_, rfl, q2 (fun w => z (r1.nil_iff.mpr w)) zk _ (I.hok.fresh (Nat.le_refl _))⟩
 exact ⟨by rw [Zl2, Nat.mul_comm]; exact hz, _, r1.rep k.toNat, Ziz.new _ _⟩
section
variable {X : Cx}
noncomputable def iiD (C : Int -> Int -> Prop) [∀ i j, Decidable (C i j)] (g : Int -> Int -> D) : F2 := fun x y H => match x, y with
 | .int i, .int j => if C i j then some (g i j, H) else none
 | _, _ => none
theorem Zm8 {f : Value -> Value -> Sem Value} {C : Int -> Int -> Prop} [∀ i j, Decidable (C i j)] {g : Int -> Int -> Int} (h : OpR X f (rI C fun i j => .int (g i j))) : OpF X f (iiD C fun i j => .int (g i j)) := by
 refine OpRi h fun x y H Q zz => ?_
 obtain ⟨ι, dx, dy, Hd, d, Hd', hr, r1, r2, e, q⟩ := zz
 cases dx <;> cases dy <;> simp only [iiD] at e <;> try cases e
 rename_i i j
 split at e
 ·rename_i hc
  cases e
  simp at r1 r2
  exact ⟨i, j, r1, r2, hc, q _ H ι Le.refl hr (by simp)⟩
 ·cases e
noncomputable def CT (_ _ : Int) : Prop := True
instance : ∀ i j, Decidable (CT i j) := fun _ _ => instDecidableTrue
theorem Zza {f : Value -> Value -> Sem Value} {g : Int -> Int -> V} (h : OpR X f (rI0 g)) : OpR X f (rI CT g) := OpRi h fun x y H Q ⟨i, j, e1, e2, _, q⟩ => ⟨i, j, e1, e2, q⟩
theorem Zng {f : Value -> Value -> Sem Value} {g : Int -> Int -> Bool} (h : OpR X f (rI0 fun i j => .bl (g i j))) : OpF X f (iiD CT fun i j => .bl (g i j)) := by
 refine OpRi h fun x y H Q zz => ?_
 obtain ⟨ι, dx, dy, Hd, d, Hd', hr, r1, r2, e, q⟩ := zz
 cases dx <;> cases dy <;> simp only [iiD] at e <;> try cases e
 rename_i i j
 simp at r1 r2
 exact ⟨i, j, r1, r2, q _ H ι Le.refl hr (by simp)⟩
instance (i j : Int) : Decidable (Zwl i j) := by unfold Zwl; exact inferInstance
instance (i j : Int) : Decidable (Zon i j) := by unfold Zon; exact inferInstance
instance (i j : Int) : Decidable (Zxm i j) := by unfold Zxm; exact inferInstance
noncomputable def Zoi (_ j : Int) : Prop := 0 < j
instance (i j : Int) : Decidable (Zoi i j) := by unfold Zoi; exact inferInstance
noncomputable def Ze0 : F2 := iiD CT fun i j => .int (i - j)
noncomputable def Zfy : F2 := iiD Zwl fun i j => .int (i / j)
noncomputable def Zf0 : F2 := iiD Zoi fun i j => .int (i % j)
noncomputable def Zl9 : F2 := iiD Zxm fun i j => .int (i ^ j.toNat)
noncomputable def ltD : F2 := iiD CT fun i j => .bl (decide (i < j))
noncomputable def leD : F2 := iiD CT fun i j => .bl (decide (i ≤ j))
noncomputable def gtD : F2 := iiD CT fun i j => .bl (decide (j < i))
noncomputable def geD : F2 := iiD CT fun i j => .bl (decide (j ≤ i))
theorem Zbu : OpF X (binaryOp .Sub) Ze0 := Zm8 (Zza Zyt)
theorem Zgs : OpF X (binaryOp .FloorDiv) Zfy := Zm8 Zvk
theorem Zfg : OpF X (binaryOp .Mod) Zf0 := Zm8 (C := Zoi) Zxy
theorem Zl8 : OpF X (binaryOp .Pow) Zl9 := Zm8 Zy4
theorem Zrn : OpF X (compareOp .Lt) ltD := Zng op_lt
theorem Zmq : OpF X (compareOp .LtE) leD := Zng op_le
theorem Zii : OpF X (compareOp .Gt) gtD := Zng op_gt
theorem Zzv : OpF X (compareOp .GtE) geD := Zng op_ge
noncomputable def Zh2 : D -> HD -> Option (D × HD) := fun x H => match x with
 | .int i => some (.int (-i), H)
 | _ => none
theorem Zf5 : UnF X (unaryOp .USub) Zh2 := by
 rintro pins s σ H x v Q I rx ⟨ι, dx, Hd, d, Hd', hr, r1, e, q⟩
 cases dx <;> simp only [Zh2] at e <;> try cases e
 simp at r1
 exact Zxv pins s σ H x v Q I rx ⟨_, r1, q _ H ι Le.refl hr (by simp)⟩
theorem Ztz {prog : Program} {w : World} {A : Around} {E : Value -> Shared -> Prop} {s : Shared} {t b : Addr} {ws : List Value} {Q : Value -> Shared -> Prop} (ht : IsTup s.heap t #[]) (hb : IsTup s.heap b ws.toArray)
  (h1 : Q (.ref b) s) : wpAny (model prog w) A (binaryOp .Add (.ref t) (.ref b)) Q E s := by
 obtain ⟨⟨cls, dd, data, sl⟩, ho, hc, n, hd⟩ := id ht
 obtain ⟨⟨cls2, dd2, data2, sl2⟩, ho2, hc2, n2, hd2⟩ := id hb
 simp only at hc hd hc2 hd2
 subst hc hd hc2 hd2
 exact concat_meets ⟨_, ho, rfl⟩ ⟨_, ho2, rfl⟩ noFill_tuple_add seq_tuple_add PySem.F.slot_tuple_add PySem.F.entry_tuple_add (PySem.F.args_tuple_add_2 _ _)
   (tuple_addW0 t b #[] ws.toArray n n2 dd dd2 sl sl2 (by simp)) ⟨ho, ho2, h1⟩
noncomputable def Zbd : F2 := fun x y H => match x, y with
 | .int i, .int j => some (.int (i + j), H)
 | .str a, .str b => if a.length + b.length ≤ sizeLine then some (.str (a ++ b), H) else none
 | .tup a, .tup b => mkT (a ++ b) H
 | .ref n, .ref m => match H[n]?, H[m]? with
  | some (.lst a), some (.lst b) => mkL (a ++ b) H
  | _, _ => none
 | _, _ => none
theorem Za6 : OpF X (binaryOp .Add) Zbd := by
 rintro pins s σ H x y v u Q I rx ry ⟨ι, dx, dy, Hd, d, Hd', hr, r1, r2, e, q⟩
 cases dx <;> cases dy <;> simp only [Zbd] at e <;> try cases e
 ·simp at r1 r2
  exact Zy6 pins s σ H x y v u Q I rx ry ⟨_, _, r1, r2, q _ H ι Le.refl hr (by simp)⟩
 ·simp at r1 r2
  split at e
  ·rename_i hl
   cases e
   exact Znw pins s σ H x y v u Q I rx ry ⟨_, _, r1, r2, hl, q _ H ι Le.refl hr (by simp)⟩
  ·cases e
 ·rename_i as bs
  obtain ⟨a, vs, rfl, h1, p1⟩ := Zbj.mp r1
  obtain ⟨b, ws, rfl, h2, p2⟩ := Zbj.mp r2
  cases p1 with
  | nil =>
   obtain ⟨hl, e⟩ := Zgn e
   simp only [List.nil_append, Prod.mk.injEq] at e
   obtain ⟨rfl, rfl⟩ := e
   cases rx
   cases ry
   obtain ⟨its, q1, t1, _⟩ := I.tuple h1
   obtain ⟨its2, q2, t2, _⟩ := I.tuple h2
   cases q1
   exact Ztz t1 t2 ⟨.ref b, H, I, rfl, q _ H ι Le.refl hr r2⟩
  | cons p p' =>
   have P := Prd.append (.cons p p') p2
   obtain ⟨hl, e'⟩ := Zgn e
   cases p2 with
   | nil =>
    simp only [List.append_nil, Prod.mk.injEq] at e'
    obtain ⟨rfl, rfl⟩ := e'
    refine Zov pins s σ H _ _ v u Q I rx ry ⟨a, b, _, _, rfl, rfl, h1, h2, by simp, ?_, fun _ => q _ H ι Le.refl hr r1, fun z => absurd rfl z⟩
    have := Prd.len P
    simp only [List.append_nil] at this hl
    simp only [List.length_nil]
    omega
   | cons p3 p4 =>
    obtain ⟨k1, k2⟩ := Zhn hr P e q
    refine Zov pins s σ H _ _ v u Q I rx ry ⟨a, b, _, _, rfl, rfl, h1, h2, by simp, ?_, fun z => absurd z (by simp), fun _ => k2⟩
    rw [← List.length_append]; exact k1
 ·rename_i n m
  obtain ⟨a, rfl, ha⟩ := Za3.mp r1
  obtain ⟨b, rfl, hb⟩ := Za3.mp r2
  split at e
  ·rename_i as bs e1 e2
   obtain ⟨vs, h1, p1⟩ := hr.obj n a _ ha e1
   obtain ⟨ws, h2, p2⟩ := hr.obj m b _ hb e2
   obtain ⟨k1, k2⟩ := Zfk hr (Prd.append p1 p2) e q
   exact Zz0 pins s σ H _ _ v u Q I rx ry ⟨a, b, vs, ws, rfl, rfl, h1, h2, by rw [← List.length_append]; exact k1, k2⟩
  ·cases e
noncomputable def Zf2 : F2 := fun x y H => match x, y with
 | .int i, .int j => if Zon i j then some (.int (i * j), H) else none
 | .ref n, .int k => match H[n]? with
  | some (.lst a) => if -(2 ^ 63) ≤ k ∧ k < 2 ^ 63 ∧ a.length * k.toNat ≤ sizeLine then mkL (List.replicate k.toNat a).flatten H else none
  | _ => none
 | .tup a, .int k => if -(2 ^ 63) ≤ k ∧ k < 2 ^ 63 ∧ a.length * k.toNat ≤ sizeLine then mkT (List.replicate k.toNat a).flatten H else none
 | _, _ => none
theorem Zfd : OpF X (binaryOp .Mult) Zf2 := by
 rintro pins s σ H x y v u Q I rx ry ⟨ι, dx, dy, Hd, d, Hd', hr, r1, r2, e, q⟩
 cases dx <;> cases dy <;> simp only [Zf2] at e <;> try cases e
 ·simp at r1 r2
  split at e
  ·rename_i hc
   cases e
   exact Yab pins s σ H x y v u Q I rx ry ⟨_, _, r1, r2, hc, q _ H ι Le.refl hr (by simp)⟩
  ·cases e
 ·rename_i as k
  obtain ⟨a, vs, rfl, h1, p1⟩ := Zbj.mp r1
  simp at r2
  split at e
  ·rename_i hc
   have hlen := Prd.len p1
   obtain ⟨k1, k2⟩ := Zhn hr (Prd.rep p1 k.toNat) e q
   refine Zvv pins s σ H _ _ v u Q I rx ry ⟨a, k, vs, rfl, r2, h1, hc.1, hc.2.1, by rw [← hlen]; exact hc.2.2, fun z => ?_, fun _ _ => k2⟩
   obtain ⟨_, e'⟩ := Zgn e
   have hf : (List.replicate k.toNat as).flatten = as := by
    rcases z with z | z
    ·have : as = [] := List.eq_nil_of_length_eq_zero (by rw [hlen, z]; rfl)
     subst this
     simp
    ·subst z
     simp
   rw [hf] at e'
   cases e'
   exact q _ H ι Le.refl hr r1
  ·cases e
 ·rename_i n k
  obtain ⟨a, rfl, ha⟩ := Za3.mp r1
  simp at r2
  split at e
  ·rename_i as e1
   obtain ⟨vs, h1, p1⟩ := hr.obj n a _ ha e1
   split at e
   ·rename_i hc
    obtain ⟨k1, k2⟩ := Zfk hr (Prd.rep p1 _) e q
    exact Zyn pins s σ H _ _ v u Q I rx ry ⟨a, k, vs, rfl, r2, h1, hc.1, hc.2.1, by rw [← Prd.len p1]; exact hc.2.2, k2⟩
   ·cases e
  ·cases e
noncomputable def Zey : D -> HD -> Option (List D)
 | .tup xs, _ => some xs
 | .fl xs, _ => some xs
 | .ref n, H => match H[n]? with
  | some (.lst xs) => some xs
  | _ => none
 | _, _ => none
theorem Zk9 {K : PySem.W.Frag} {H : Hp} {ι : List Addr} {Hd : HD} {d : D} {xs : List D} {v : V} (hr : HRep K H ι Hd) (r : Rep K H ι d v) (e : Zey d Hd = some xs) : ∃ p vs, v = .ref p ∧ (SqL K H p vs ∨ SqT K H p vs) ∧ Paired (Rep K H ι) xs vs := by
 cases d with
 | tup ys => cases e; obtain ⟨a, vs, rfl, h, p⟩ := Zbj.mp r; exact ⟨a, vs, rfl, .inr h, p⟩
 | fl ys => cases e; obtain ⟨a, vs, rfl, h, p⟩ := Zgd.mp r; exact ⟨a, vs, rfl, .inl h.sq, p⟩
 | ref n =>
  obtain ⟨a, rfl, ha⟩ := Za3.mp r
  simp only [Zey] at e
  split at e
  ·rename_i ys e1
   cases e
   obtain ⟨vs, h1, p1⟩ := hr.obj n a _ ha e1
   exact ⟨a, vs, rfl, .inl (SqL.of h1), p1⟩
  ·cases e
 | _ => simp [Zey] at e
theorem Zvm {α β : Type} {F : α -> β -> Prop} {xs : List α} {us : List β} {i : Int} {x : α} (r : Paired F xs us) (h : atI xs i = some x) : ∃ u, atI us i = some u ∧ F x u := by
 unfold atI at h ⊢
 rw [← Prd.len r]
 obtain ⟨j, h1, h2⟩ := Zo h
 obtain ⟨u, h3, h4⟩ := Prd.get r h2
 exact ⟨u, by rw [h1]; exact h3, h4⟩
noncomputable def ixD : F2 := fun x y H => match y with
 | .int i => (Zey x H).bind fun xs => (atI xs i).map fun d => (d, H)
 | _ => none
theorem ixf : IxF X ixD := by
 rintro va sl pins s σ H x y v u Q I rx ry ⟨ι, dx, dy, Hd, d, Hd', hr, r1, r2, e, q⟩ hs
 cases dy <;> simp only [ixD] at e <;> try cases e
 rename_i i
 simp at r2
 obtain ⟨xs, e1, e⟩ := Zo e
 obtain ⟨d', e2, e⟩ := Zm e
 obtain ⟨rfl, rfl⟩ := Prod.mk.inj e
 obtain ⟨p, vs, rfl, h, P⟩ := Zk9 hr r1 e1
 obtain ⟨z, hz, rz⟩ := Zvm P e2
 rcases h with h | h
 ·exact Zpi va sl pins s σ H _ _ v u Q I rx ry ⟨p, vs, i, z, rfl, r2, h, hz, q _ H ι Le.refl hr rz⟩ hs
 ·exact Zxp va sl pins s σ H _ _ v u Q I rx ry ⟨p, vs, i, z, rfl, r2, h, hz, q _ H ι Le.refl hr rz⟩ hs
noncomputable def Zt8 : Zxg := fun o i v H => match o, i with
 | .ref n, .int k => match H[n]? with
  | some (.lst xs) => (ixN xs.length k).map fun j => H.set n (.lst (xs.set j v))
  | _ => none
 | _, _ => none
theorem setf : Zwu X Zt8 := by
 rintro pins s σ H o i v ov iv u Q I ro ri rv ⟨ι, od, id, vd, Hd, Hd', hr, r1, r2, r3, e, q⟩
 cases od <;> cases id <;> simp only [Zt8] at e <;> try cases e
 rename_i n k
 obtain ⟨a, rfl, ha⟩ := Za3.mp r1
 simp at r2
 split at e
 ·rename_i xs e1
  obtain ⟨j, e2, e⟩ := Zm e
  subst e
  obtain ⟨vs, h1, P⟩ := hr.obj n a _ ha e1
  refine Zs3 pins s σ H _ _ v ov iv u Q I ro ri rv ⟨a, vs, k, j, rfl, r2, h1, by rw [← Prd.len P]; exact e2, ?_⟩
  have L : Le X.K H ι (upd H a (.lst (vs.set j v))) ι := Le.upd (List.mem_of_getElem? ha) h1 trivial _
  exact q _ ι L (hr.upd ha h1 trivial ⟨_, upd_same, Prd.set (r3.mono L) j (Prd.mono L P)⟩)
 ·cases e
noncomputable def Zgr (xs : List D) (lo hi : Option Int) : List D := (xs.drop (HT.sIx xs.length 0 lo)).take (HT.sIx xs.length xs.length hi - HT.sIx xs.length 0 lo)
theorem Zjo {K : PySem.W.Frag} {H : Hp} {ι : List Addr} {xs : List D} {vs : List V} (P : Paired (Rep K H ι) xs vs) (lo hi : Option Int) : Paired (Rep K H ι) (Zgr xs lo hi) (Zt3 vs lo hi) := by
 unfold Zgr Zt3
 rw [← Prd.len P]
 exact Prd.take _ (Prd.drop _ P)
noncomputable abbrev OF := SD -> HD -> Option (Option Int × HD)
noncomputable def rdO (K : PySem.W.Frag) (f : OF) : TO := fun σ H Q => ∃ ι σd Hd o Hd', SRep K H ι σ σd ∧ HRep K H ι Hd ∧ f σd Hd = some (o, Hd') ∧ ∀ H' ι', Le K H ι H' ι' -> HRep K H' ι' Hd' -> Q o H'
noncomputable def POf (X : Cx) (e : Option Expr) (f : OF) : Prop := PO X e (rdO X.K f)
noncomputable def Zex : OF := fun _ H => some (none, H)
noncomputable def Zd9 (f : EF) : OF := fun σ H => (f σ H).bind fun p => match p.1 with
 | .int i => some (some i, p.2)
 | _ => none
theorem Zeq : POf X none Zex := by
 rintro pins s σ H Q I ⟨ι, σd, Hd, o, Hd', sr, hr, e, q⟩
 cases e
 exact Zwg pins s σ H Q I (q H ι Le.refl hr)
theorem Zdf {e : Expr} {f : EF} (h : PEf X e f) : POf X (some e) (Zd9 f) := by
 rintro pins s σ H Q I ⟨ι, σd, Hd, o, Hd', sr, hr, e, q⟩
 obtain ⟨⟨d, H1⟩, e1, e⟩ := Zo e
 cases d <;> try cases e
 rename_i i
 exact Zwb h pins s σ H Q I ⟨ι, σd, Hd, _, _, sr, hr, e1, fun v H' ι' l h r => ⟨i, by simpa using r, q H' ι' l h⟩⟩
noncomputable def slD (x : D) (lo hi : Option Int) (H : HD) : Option (D × HD) := match x with
 | .tup xs => some (.tup (Zgr xs lo hi), H)
 | .fl xs => some (.ref H.length, H ++ [.lst (Zgr xs lo hi)])
 | .ref n => match H[n]? with
  | some (.lst xs) => some (.ref H.length, H ++ [.lst (Zgr xs lo hi)])
  | _ => none
 | _ => none
theorem Zfh {prog : Program} {w : World} {A : Around} {E : Value -> Shared -> Prop} {s : Shared} {t sl : Addr} {items : Array Value} {vl vu : Value} {lo hi : Option Int} {Q : Value -> Shared -> Prop} (ht : IsTup s.heap t items) (hs : s.heap.IsSliceOf sl vl vu .none) (pl : IsPart vl lo) (pu : IsPart vu hi)
  (hw : HT.sIx items.size 0 lo = 0 ∧ HT.sIx items.size items.size hi = items.size) (h : Q (.ref t) s) : wpAny (model prog w) A (getItem (.ref t) (.ref sl)) Q E s := by
 obtain ⟨os, hos, hcs, hds⟩ := id hs
 have hTs : s.TypeIs (.ref sl) "slice" := ⟨os, hos, hcs⟩
 obtain ⟨ot, hot, hct, nt, hdt⟩ := id ht
 unfold getItem
 try with_reducible refine wpAny_holding ?_
 first | refine wpAny_bind (wpAny_pure ?_) | skip
 refine wpAny_bind (wpAny_sequenceKey ht.typeIs (by decide) ?_)
 refine wpAny_bind (wpAny_callSpecial?_slot (name := Str.ofString "__getitem__") ht.typeIs PyProof.Rows.slot_tuple_getitem
  (wpAny_call_entry PyProof.Rows.slot_tuple_getitem ht.typeIs entry_tuple_getitem ?_ (args_tuple_getitem _ _)))
 show wpAny _ _ (Builtin.Tuple.tupleItemsOf (.ref t) >>= _) _ _ s
 refine wpAny_bind (tupleItemsOf_ ht ?_)
 refine wpAny_bind (wpAny_typeOf hTs ?_)
 rw [if_pos (by decide)]
 refine wpAny_bind (HT.sliceApplied_gen hs pl pu ?_)
 show wpAny _ _ (if (((HT.sIx items.size 0 lo : Nat) : Int) == 0 && (1 : Int) == 1 && (HT.sIx items.size items.size hi - HT.sIx items.size 0 lo) == items.size) = true then _ else _) _ _ s
 rw [if_pos (by rw [hw.1, hw.2]; simp)]
 show wpAny _ _ (Builtin.Tuple.tupleIsExact (Value.ref t) >>= _) _ _ s
 unfold Builtin.Tuple.tupleIsExact
 refine wpAny_bind (wpAny_bind (wpAny_typeOf ht.typeIs (wpAny_pure ?_)))
 rw [if_pos (by decide)]
 exact wpAny_bind (wpAny_rule (wpAny_pure ⟨_, rfl, wpAny_pure h⟩))
theorem Zob {xs : List D} {lo hi : Option Int} (h : HT.sIx xs.length 0 lo = 0 ∧ HT.sIx xs.length xs.length hi = xs.length) : Zgr xs lo hi = xs := by
 unfold Zgr
 rw [h.1, h.2]; simp
noncomputable def rdSl (K : PySem.W.Frag) : V -> Option Int -> Option Int -> Hp -> VK -> Prop := fun x lo hi H Q => ∃ ι dx Hd d Hd', HRep K H ι Hd ∧ Rep K H ι dx x ∧ slD dx lo hi Hd = some (d, Hd') ∧ QE K H ι d Hd' Q
theorem slf : SlR X (rdSl X.K) := by
 rintro pins s σ H x v vl vu lo hi sl Q I rx hs pl pu ⟨ι, dx, Hd, d, Hd', hr, r, e, q⟩
 have lists : ∀ {a : Addr} {xs : List D} {vs : List V}, x = .ref a -> SqL X.K H a vs -> Paired (Rep X.K H ι) xs vs -> (D.ref Hd.length, Hd ++ [DO.lst (Zgr xs lo hi)]) = (d, Hd') →
   ∃ T id, typeLookup (.type T) "__getitem__" = pure (some (.builtin id)) ∧ s.TypeIs v T ∧ wpAny (model X.prog X.w) X.A (getItem v (.ref sl)) (EP X pins σ Q) X.xe s := fun {a xs vs} ex h P e => by
  obtain ⟨_, _, _, hz⟩ := I.list h
  have hz2 : (Zgr xs lo hi).length ≤ sizeLine := by
   rw [Prd.len (Zjo P lo hi)]
   exact Nat.le_trans (Zer vs lo hi) hz
  obtain ⟨k1, k2⟩ := Zfk hr (Zjo P lo hi) (show mkL (Zgr xs lo hi) Hd = some (d, Hd') by unfold mkL; rw [if_pos hz2, e]) q
  exact Zvp pins s σ H x v vl vu lo hi sl Q I rx hs pl pu ⟨a, vs, ex, h, k2⟩
 cases dx with
 | tup xs =>
  obtain ⟨a, vs, rfl, h, P⟩ := Zbj.mp r
  simp only [slD, Option.some.injEq] at e
  obtain ⟨its, rv, ht, hz⟩ := I.tuple h
  have hlen : its.toArray.size = vs.length := by rw [List.size_toArray]; exact rv.length.symm
  by_cases hw : HT.sIx vs.length 0 lo = 0 ∧ HT.sIx vs.length vs.length hi = vs.length
  ·cases rx
   refine ⟨"tuple", _, PyProof.Rows.slot_tuple_getitem.lookup, ht.typeIs, Zfh ht hs pl pu (by rw [hlen]; exact hw) ?_⟩
   rw [Zob (by rw [Prd.len P]; exact hw)] at e
   obtain ⟨rfl, rfl⟩ := Prod.mk.inj e
   exact ⟨.ref a, H, I, rfl, q _ H ι Le.refl hr r⟩
  ·have hz2 : (Zgr xs lo hi).length ≤ sizeLine := by
    rw [Prd.len (Zjo P lo hi)]
    exact Nat.le_trans (Zer vs lo hi) hz
   obtain ⟨k1, k2⟩ := Zhn hr (Zjo P lo hi) (show mkT (Zgr xs lo hi) Hd = some (d, Hd') by unfold mkT; rw [if_pos hz2, e]) q
   exact Yac pins s σ H _ v vl vu lo hi sl Q I rx hs pl pu ⟨a, vs, rfl, h, hw, k2⟩
 | fl xs =>
  obtain ⟨a, vs, rfl, h, P⟩ := Zgd.mp r
  simp only [slD, Option.some.injEq] at e
  exact lists rfl h.sq P e
 | ref n =>
  obtain ⟨a, rfl, ha⟩ := Za3.mp r
  simp only [slD] at e
  split at e
  ·rename_i xs e1
   obtain ⟨vs, h1, P⟩ := hr.obj n a _ ha e1
   exact lists rfl (SqL.of h1) P (Option.some.inj e)
  ·cases e
 | _ => simp [slD] at e
noncomputable def eSl (fe : EF) (fl fh : OF) : EF := fun σ H => (fe σ H).bind fun p => (fl σ p.2).bind fun l => (fh σ l.2).bind fun h => slD p.1 l.1 h.1 h.2
theorem Zc4 {e : Expr} {lo hi : Option Expr} {fe : EF} {fl fh : OF} {pos p2 : Pos} (he : PEf X e fe) (hl : POf X lo fl) (hu : POf X hi fh) : PEf X (.Subscript e (.Slice lo hi none p2) pos) (eSl fe fl fh) := by
 refine PEi (Zr3 slf he hl hu) fun σ H Q zz => ?_
 obtain ⟨ι, σd, Hd, d, Hd', s, hr, e, q⟩ := zz
 obtain ⟨⟨x, H1⟩, e1, e⟩ := Zo e
 obtain ⟨⟨y, H2⟩, e2, e⟩ := Zo e
 obtain ⟨⟨z, H3⟩, e3, e⟩ := Zo e
 exact ⟨ι, σd, Hd, x, H1, s, hr, e1, fun v1 H1' ι1 l1 h1 r1 => ⟨ι1, σd, H1, y, H2, s.mono l1, h1, e2, fun H2' ι2 l2 h2 => ⟨ι2, σd, H2, z, H3, s.mono (l1.trans l2), h2, e3, fun H3' ι3 l3 h3 =>
  ⟨ι3, x, H3, d, Hd', h3, r1.mono (l2.trans l3), e, fun v H' ι' l h r => q v H' ι' (((l1.trans l2).trans l3).trans l) h r⟩⟩⟩⟩
noncomputable def Zdb : FF := fun ds H => match ds with
 | [.str x] => if x.length ≤ sizeLine then some (.int x.length, H) else none
 | [d] => (Zey d H).map fun xs => (.int xs.length, H)
 | _ => none
theorem Zjq {K : PySem.W.Frag} {H : Hp} {ι : List Addr} {d : D} {vs : List V} (P : Paired (Rep K H ι) [d] vs) : ∃ v, vs = [v] ∧ Rep K H ι d v := by
 cases P with
 | cons r t => cases t; exact ⟨_, rfl, r⟩
theorem Zuz {K : PySem.W.Frag} {H : Hp} {ι : List Addr} {d d' : D} {vs : List V} (P : Paired (Rep K H ι) [d, d'] vs) : ∃ v v', vs = [v, v'] ∧ Rep K H ι d v ∧ Rep K H ι d' v' := by
 cases P with
 | cons r t => obtain ⟨v, rfl, r'⟩ := Zjq t; exact ⟨_, _, rfl, r, r'⟩
theorem Zbl : Zgl X (.builtin "len") Zdb := by
 rintro pins s σ H xs us Q I rv ⟨ι, ds, Hd, d, Hd', hr, P, e, q⟩
 unfold Zdb at e
 split at e
 ·obtain ⟨v, rfl, r⟩ := Zjq P
  simp at r
  subst r
  split at e
  ·rename_i hl
   cases e
   exact Zk4 pins s σ H _ us Q I rv ⟨_, rfl, hl, q _ H ι Le.refl hr (by simp)⟩
  ·cases e
 ·obtain ⟨v, rfl, r⟩ := Zjq P
  obtain ⟨ys, e1, e⟩ := Zm e
  obtain ⟨rfl, rfl⟩ := Prod.mk.inj e
  obtain ⟨p, vs, rfl, h, P2⟩ := Zk9 hr r e1
  exact Zkc pins s σ H _ us Q I rv ⟨p, vs, rfl, h, q _ H ι Le.refl hr (by simp [Prd.len P2])⟩
 ·cases e
noncomputable def Zna : FF := fun ds H => match ds with
 | [.int i] => some (.int (if i < 0 then -i else i), H)
 | _ => none
theorem Zfv : Zgl X (.builtin "abs") Zna := by
 rintro pins s σ H xs us Q I rv ⟨ι, ds, Hd, d, Hd', hr, P, e, q⟩
 unfold Zna at e
 split at e
 ·obtain ⟨v, rfl, r⟩ := Zjq P
  simp at r
  subst r
  cases e
  exact Zsc pins s σ H _ us Q I rv ⟨_, rfl, q _ H ι Le.refl hr (by simp)⟩
 ·cases e
noncomputable def maxD : FF := fun ds H => match ds with
 | [.int i, .int j] => some (.int (if j > i then j else i), H)
 | _ => none
noncomputable def Zok : FF := fun ds H => match ds with
 | [.int i, .int j] => some (.int (if j < i then j else i), H)
 | _ => none
theorem Zpw (hc : X.calm = true) : Zgl X (.builtin "max") maxD := by
 rintro pins s σ H xs us Q I rv ⟨ι, ds, Hd, d, Hd', hr, P, e, q⟩
 unfold maxD at e
 split at e
 ·obtain ⟨v, v', rfl, r, r'⟩ := Zuz P
  simp at r r'
  subst r r'
  cases e
  exact Zqu hc pins s σ H _ us Q I rv ⟨_, _, rfl, q _ H ι Le.refl hr (by simp)⟩
 ·cases e
theorem Zhp (hc : X.calm = true) : Zgl X (.builtin "min") Zok := by
 rintro pins s σ H xs us Q I rv ⟨ι, ds, Hd, d, Hd', hr, P, e, q⟩
 unfold Zok at e
 split at e
 ·obtain ⟨v, v', rfl, r, r'⟩ := Zuz P
  simp at r r'
  subst r r'
  cases e
  exact Zrg hc pins s σ H _ us Q I rv ⟨_, _, rfl, q _ H ι Le.refl hr (by simp)⟩
 ·cases e
noncomputable def Zrz : FF := fun ds H => match ds with
 | [.int i] => some (.int i, H)
 | [.bl b] => some (.int (if b then 1 else 0), H)
 | _ => none
theorem Zhw : Zgl X (.type "int") Zrz := by
 rintro pins s σ H xs us Q I rv ⟨ι, ds, Hd, d, Hd', hr, P, e, q⟩
 unfold Zrz at e
 split at e
 ·obtain ⟨v, rfl, r⟩ := Zjq P
  simp at r
  subst r
  cases e
  exact Zg6 pins s σ H _ us Q I rv (.inl ⟨_, rfl, q _ H ι Le.refl hr (by simp)⟩)
 ·obtain ⟨v, rfl, r⟩ := Zjq P
  simp at r
  subst r
  cases e
  exact Zg6 pins s σ H _ us Q I rv (.inr ⟨_, rfl, q _ H ι Le.refl hr (by simp)⟩)
 ·cases e
theorem Zsb {pins : List (Addr × Obj)} {s : Shared} {σ : L2.St} {H : Hp} {p : Addr} {vs : List V} (I : Inv X pins σ H s) (h : SqL X.K H p vs ∨ SqT X.K H p vs) : vs.length ≤ sizeLine := by
 rcases h with h | h
 ·obtain ⟨_, _, _, z⟩ := I.list h; exact z
 ·obtain ⟨_, _, _, z⟩ := I.tuple h; exact z
noncomputable def Zby : FF := fun ds H => match ds with
 | [d] => (Zey d H).map fun xs => (.tup xs, H)
 | _ => none
theorem Zbp : Zgl X (.type "tuple") Zby := by
 rintro pins s σ H xs us Q I rv ⟨ι, ds, Hd, d, Hd', hr, P, e, q⟩
 unfold Zby at e
 split at e
 ·rename_i d0
  obtain ⟨v, rfl, r⟩ := Zjq P
  obtain ⟨ys, e1, e⟩ := Zm e
  obtain ⟨p, vs, rfl, h, P2⟩ := Zk9 hr r e1
  obtain ⟨k1, k2⟩ := Zhn hr P2 (show mkT ys Hd = some (d, Hd') by unfold mkT; rw [if_pos (by rw [Prd.len P2]; exact Zsb I h), e]) q
  refine Zjp pins s σ H _ us Q I rv ⟨p, vs, rfl, ?_⟩
  rcases h with h | h
  ·exact .inl ⟨h, k2⟩
  ·obtain ⟨rfl, rfl⟩ := Prod.mk.inj e
   exact .inr ⟨h, q _ H ι Le.refl hr (Zbj.mpr ⟨p, vs, rfl, h, P2⟩)⟩
 ·cases e
noncomputable def Zb3 (x : D) (ds : List D) (H : HD) : Option (D × HD) := match x, ds with
 | .ref n, [d] => match H[n]? with
  | some (.lst xs) => if xs.length < sizeLine then some (.non, H.set n (.lst (xs ++ [d]))) else none
  | _ => none
 | _, _ => none
theorem Ze8 : MtF X "list.append" Zb3 := by
 rintro pins s σ H x xs v us Q I rx rv ⟨ι, dx, ds, Hd, d, Hd', hr, r1, P, e, q⟩
 unfold Zb3 at e
 split at e
 ·rename_i n d1
  obtain ⟨a, rfl, ha⟩ := Za3.mp r1
  obtain ⟨z, rfl, rz⟩ := Zjq P
  split at e
  ·rename_i ys e1
   split at e
   ·rename_i hl
    cases e
    obtain ⟨vs, h1, P1⟩ := hr.obj n a _ ha e1
    refine Zhj pins s σ H _ _ v us Q I rx rv ⟨a, vs, z, rfl, rfl, h1, by rw [← Prd.len P1]; exact hl, ?_⟩
    have L : Le X.K H ι (upd H a (.lst (vs ++ [z]))) ι := Le.upd (List.mem_of_getElem? ha) h1 trivial _
    exact q _ _ ι L (hr.upd ha h1 trivial ⟨_, upd_same, Prd.append (Prd.mono L P1) (.cons (rz.mono L) .nil)⟩) (by simp)
   ·cases e
  ·cases e
 ·cases e
noncomputable def Zxl (x : D) (ds : List D) (H : HD) : Option (D × HD) := match x, ds with
 | .ref n, [.int i] => match H[n]? with
  | some (.lst xs) => if -(2 ^ 63) ≤ i ∧ i < 2 ^ 63 then (seqIndex? i xs.length).bind fun k => (xs[k]?).map fun d => (d, H.set n (.lst (xs.eraseIdx k))) else none
  | _ => none
 | _, _ => none
theorem Zxd : MtF X "list.pop" Zxl := by
 rintro pins s σ H x xs v us Q I rx rv ⟨ι, dx, ds, Hd, d, Hd', hr, r1, P, e, q⟩
 unfold Zxl at e
 split at e
 ·rename_i n i
  obtain ⟨a, rfl, ha⟩ := Za3.mp r1
  obtain ⟨z, rfl, rz⟩ := Zjq P
  simp at rz
  subst rz
  split at e
  ·rename_i ys e1
   split at e
   ·rename_i hl
    obtain ⟨k, e2, e⟩ := Zo e
    obtain ⟨d1, e3, e⟩ := Zm e
    obtain ⟨rfl, rfl⟩ := Prod.mk.inj e
    obtain ⟨vs, h1, P1⟩ := hr.obj n a _ ha e1
    obtain ⟨u, hu, ru⟩ := Prd.get P1 e3
    refine Zs5 pins s σ H _ _ v us Q I rx rv ⟨a, vs, i, k, u, rfl, rfl, h1, hl.1, hl.2, by rw [← Prd.len P1]; exact e2, hu, ?_⟩
    have L : Le X.K H ι (upd H a (.lst (vs.eraseIdx k))) ι := Le.upd (List.mem_of_getElem? ha) h1 trivial _
    exact q _ _ ι L (hr.upd ha h1 trivial ⟨_, upd_same, Prd.eraseIdx k (Prd.mono L P1)⟩) (ru.mono L)
   ·cases e
  ·cases e
 ·cases e
end
mutual
noncomputable def toP (H : HD) : Nat -> D -> Option PyData
 | _, .non => some .none
 | _, .bl b => some (.bool b)
 | _, .int i => some (.int i)
 | _, .str x => some (.str x)
 | _, .ty _ => none
 | n, .tup xs => (Zh7 H n xs).map .tuple
 | n, .fl xs => (Zh7 H n xs).map .list
 | 0, .ref _ => none
 | n + 1, .ref k => match H[k]? with
  | some (.lst xs) => (Zh7 H n xs).map .list
  | _ => none
termination_by n d => (n, sizeOf d)
noncomputable def Zh7 (H : HD) : Nat -> List D -> Option (List PyData)
 | _, [] => some []
 | n, d :: ds => (toP H n d).bind fun x => (Zh7 H n ds).map fun r => x :: r
termination_by n ds => (n, sizeOf ds)
end
section
variable {X : Cx} {pins : List (Addr × Obj)} {σ : L2.St} {H : Hp} {s : Shared} {ι : List Addr} {Hd : HD}
mutual
theorem Zde (I : Inv X pins σ H s) (hr : HRep X.K H ι Hd) : ∀ (n : Nat) (d : D) {x : PyData} {v : V} {u : Value}, toP Hd n d = some x -> Rep X.K H ι d v -> Zcn v u -> ∃ as, Reads s.heap u x as
 | n, .non, x, v, u, e, r, q => by
  rw [toP] at e; cases e; simp at r; subst r; cases q; exact ⟨_, .none⟩
 | n, .bl b, x, v, u, e, r, q => by
  rw [toP] at e; cases e; simp at r; subst r; cases q; exact ⟨_, .bool b⟩
 | n, .int i, x, v, u, e, r, q => by
  rw [toP] at e; cases e; simp at r; subst r; obtain ⟨t, rfl⟩ := q; exact ⟨_, .int i t⟩
 | n, .str z, x, v, u, e, r, q => by
  rw [toP] at e; cases e; simp at r; subst r; obtain ⟨t, rfl⟩ := q; exact ⟨_, .str z t⟩
 | n, .ty _, x, v, u, e, r, q => by rw [toP] at e; cases e
 | n, .tup xs, x, v, u, e, r, q => by
  rw [toP] at e
  obtain ⟨ps, e1, rfl⟩ := Zm e
  obtain ⟨a, vs, rfl, h, P⟩ := Zbj.mp r
  cases q
  obtain ⟨its, rv, ⟨o, ho, hc, m, hd⟩, hz⟩ := I.tuple h
  obtain ⟨as, ra⟩ := Zep I hr n xs e1 P rv
  exact ⟨_, .tuple ho hc hd (by simpa using ra)⟩
 | n, .fl xs, x, v, u, e, r, q => by
  rw [toP] at e
  obtain ⟨ps, e1, rfl⟩ := Zm e
  obtain ⟨a, vs, rfl, h, P⟩ := Zgd.mp r
  cases q
  obtain ⟨its, rv, pl, hz⟩ := I.list h.sq
  obtain ⟨o, ho, hc, m, hd⟩ := pl.isList
  obtain ⟨as, ra⟩ := Zep I hr n xs e1 P rv
  exact ⟨_, .list ho hc hd (by simpa using ra)⟩
 | 0, .ref k, x, v, u, e, r, q => by rw [toP] at e; cases e
 | n + 1, .ref k, x, v, u, e, r, q => by
  rw [toP] at e
  split at e
  ·rename_i xs eo
   obtain ⟨ps, e1, rfl⟩ := Zm e
   obtain ⟨a, rfl, ha⟩ := Za3.mp r
   cases q
   obtain ⟨vs, h1, P⟩ := hr.obj k a _ ha eo
   obtain ⟨its, rv, pl, hz⟩ := I.list (SqL.of h1)
   obtain ⟨o, ho, hc, m, hd⟩ := pl.isList
   obtain ⟨as, ra⟩ := Zep I hr n xs e1 P rv
   exact ⟨_, .list ho hc hd (by simpa using ra)⟩
  ·cases e
termination_by n d => (n, sizeOf d)
theorem Zep (I : Inv X pins σ H s) (hr : HRep X.K H ι Hd) : ∀ (n : Nat) (ds : List D) {xs : List PyData} {vs : List V} {us : List Value}, Zh7 Hd n ds = some xs -> Paired (Rep X.K H ι) ds vs -> Zbq vs us -> ∃ as, ReadsAll s.heap us xs as
 | n, [], xs, vs, us, e, P, q => by
  rw [Zh7] at e; cases e; cases P; cases q; exact ⟨_, .nil⟩
 | n, d :: ds, xs, vs, us, e, P, q => by
  rw [Zh7] at e
  obtain ⟨x, e1, e⟩ := Zo e
  obtain ⟨r, e2, rfl⟩ := Zm e
  cases P with
  | cons p P =>
   cases q with
   | cons q Q =>
    obtain ⟨as, ra⟩ := Zde I hr n d e1 p q
    obtain ⟨bs, rb⟩ := Zep I hr n ds e2 P Q
    exact ⟨_, .cons ra rb⟩
termination_by n ds => (n, sizeOf ds)
end
noncomputable def okP (x : PyData) : Bool := x.canLay0 && decide (x.depth ≤ 30)
noncomputable def dat (d : D) (H : HD) : Option PyData := (toP H 30 d).bind fun x => if okP x = true then some x else none
theorem Zd4 {d : D} {x : PyData} (e : dat d Hd = some x) : toP Hd 30 d = some x ∧ x.canLay0 = true ∧ x.depth ≤ 30 := by
 obtain ⟨y, e1, e⟩ := Zo e
 split at e
 ·rename_i h
  cases e
  rw [okP, Bool.and_eq_true, decide_eq_true_eq] at h
  exact ⟨e1, h⟩
 ·cases e
noncomputable def Zmh : D -> D -> Option (Str × Str)
 | .str a, .str b => some (a, b)
 | _, _ => none
theorem Zki {x y : D} {a b : Str} (h : Zmh x y = some (a, b)) : x = .str a ∧ y = .str b := by
 unfold Zmh at h
 split at h
 ·cases h; exact ⟨rfl, rfl⟩
 ·cases h
noncomputable def eqD : F2 := fun x y H => match Zmh x y with
 | some (a, b) => some (.bl (a == b), H)
 | none => (dat x H).bind fun p => (dat y H).map fun q => (.bl (PyData.eqv p q), H)
noncomputable def neD : F2 := fun x y H => match Zmh x y with
 | some (a, b) => some (.bl (a != b), H)
 | none => (dat x H).bind fun p => (dat y H).map fun q => (.bl (!PyData.eqv p q), H)
theorem Zed (hu : X.A.units + 64 < cLine) : OpF X (compareOp .Eq) eqD := by
 rintro pins s σ H x y v u Q I rx ry ⟨ι, dx, dy, Hd, d, Hd', hr, r1, r2, e, q⟩
 unfold eqD at e
 split at e
 ·rename_i a b es
  obtain ⟨rfl, rfl⟩ := Zki es
  obtain ⟨rfl, rfl⟩ := Prod.mk.inj (Option.some.inj e)
  simp at r1 r2
  subst r1 r2
  obtain ⟨t1, rfl⟩ := rx
  obtain ⟨t2, rfl⟩ := ry
  exact PyProof.Rows.eq_str ⟨.bl _, H, I, rfl, q _ H ι Le.refl hr (by simp)⟩
 ·obtain ⟨p, e1, e⟩ := Zo e
  obtain ⟨p2, e2, e⟩ := Zm e
  obtain ⟨rfl, rfl⟩ := Prod.mk.inj e
  obtain ⟨t1, c1, d1⟩ := Zd4 e1
  obtain ⟨t2, c2, d2⟩ := Zd4 e2
  obtain ⟨as, ra⟩ := Zde I hr _ _ t1 r1 rx
  obtain ⟨bs, rb⟩ := Zde I hr _ _ t2 r2 ry
  exact SeqAt.compareEq_reads ra rb c1 c2 (by omega) ⟨.bl _, H, I, rfl, q _ H ι Le.refl hr (by simp)⟩
theorem Zhe (hu : X.A.units + 64 < cLine) : OpF X (compareOp .NotEq) neD := by
 rintro pins s σ H x y v u Q I rx ry ⟨ι, dx, dy, Hd, d, Hd', hr, r1, r2, e, q⟩
 unfold neD at e
 split at e
 ·rename_i a b es
  obtain ⟨rfl, rfl⟩ := Zki es
  obtain ⟨rfl, rfl⟩ := Prod.mk.inj (Option.some.inj e)
  simp at r1 r2
  subst r1 r2
  obtain ⟨t1, rfl⟩ := rx
  obtain ⟨t2, rfl⟩ := ry
  exact PyProof.Rows.ne_str ⟨.bl _, H, I, rfl, q _ H ι Le.refl hr (by simp)⟩
 ·obtain ⟨p, e1, e⟩ := Zo e
  obtain ⟨p2, e2, e⟩ := Zm e
  obtain ⟨rfl, rfl⟩ := Prod.mk.inj e
  obtain ⟨t1, c1, d1⟩ := Zd4 e1
  obtain ⟨t2, c2, d2⟩ := Zd4 e2
  obtain ⟨as, ra⟩ := Zde I hr _ _ t1 r1 rx
  obtain ⟨bs, rb⟩ := Zde I hr _ _ t2 r2 ry
  exact SeqAt.compareNe_reads ra rb c1 c2 (by omega) ⟨.bl _, H, I, rfl, q _ H ι Le.refl hr (by simp)⟩
noncomputable def Zia : PyData -> Option (List PyData)
 | .list xs => some xs
 | .tuple xs => some xs
 | _ => none
noncomputable def inD : F2 := fun x y H => (dat x H).bind fun p => (dat y H).bind fun q => (Zia q).map fun xs => (.bl (xs.any fun z => PyData.eqv z p), H)
noncomputable def niD : F2 := fun x y H => (dat x H).bind fun p => (dat y H).bind fun q => (Zia q).map fun xs => (.bl (!xs.any fun z => PyData.eqv z p), H)
theorem Zo2 (hu : X.A.units + 64 < cLine) : OpF X (compareOp .In) inD := by
 rintro pins s σ H x y v u Q I rx ry ⟨ι, dx, dy, Hd, d, Hd', hr, r1, r2, e, q⟩
 obtain ⟨p, e1, e⟩ := Zo e
 obtain ⟨p2, e2, e⟩ := Zo e
 obtain ⟨xs, e3, e⟩ := Zm e
 obtain ⟨rfl, rfl⟩ := Prod.mk.inj e
 obtain ⟨t1, c1, d1⟩ := Zd4 e1
 obtain ⟨t2, c2, d2⟩ := Zd4 e2
 obtain ⟨as, ra⟩ := Zde I hr _ _ t1 r1 rx
 obtain ⟨bs, rb⟩ := Zde I hr _ _ t2 r2 ry
 have fin : EP X pins σ Q (.bool (xs.any fun z => PyData.eqv z p)) s := ⟨.bl _, H, I, rfl, q _ H ι Le.refl hr (by simp)⟩
 cases p2 with
 | list ys =>
  cases e3
  simp only [PyData.canLay0] at c2
  simp only [PyData.depth] at d2
  exact SeqAt.in_list_reads rb ra c2 c1 (by omega) fin
 | tuple ys =>
  cases e3
  simp only [PyData.canLay0] at c2
  simp only [PyData.depth] at d2
  exact SeqAt.in_tuple_reads rb ra c2 c1 (by omega) fin
 | _ => simp [Zia] at e3
theorem Zyg (hu : X.A.units + 64 < cLine) : OpF X (compareOp .NotIn) niD := by
 rintro pins s σ H x y v u Q I rx ry ⟨ι, dx, dy, Hd, d, Hd', hr, r1, r2, e, q⟩
 obtain ⟨p, e1, e⟩ := Zo e
 obtain ⟨p2, e2, e⟩ := Zo e
 obtain ⟨xs, e3, e⟩ := Zm e
 obtain ⟨rfl, rfl⟩ := Prod.mk.inj e
 obtain ⟨t1, c1, d1⟩ := Zd4 e1
 obtain ⟨t2, c2, d2⟩ := Zd4 e2
 obtain ⟨as, ra⟩ := Zde I hr _ _ t1 r1 rx
 obtain ⟨bs, rb⟩ := Zde I hr _ _ t2 r2 ry
 have fin : EP X pins σ Q (.bool (!xs.any fun z => PyData.eqv z p)) s := ⟨.bl _, H, I, rfl, q _ H ι Le.refl hr (by simp)⟩
 cases p2 with
 | list ys =>
  cases e3
  simp only [PyData.canLay0] at c2
  simp only [PyData.depth] at d2
  exact SeqAt.notIn_list_reads rb ra c2 c1 (by omega) fin
 | tuple ys =>
  cases e3
  simp only [PyData.canLay0] at c2
  simp only [PyData.depth] at d2
  exact SeqAt.notIn_tuple_reads rb ra c2 c1 (by omega) fin
 | _ => simp [Zia] at e3
noncomputable def tyD : D -> HD -> Option String
 | .non, _ => some "NoneType"
 | .bl _, _ => some "bool"
 | .int _, _ => some "int"
 | .str _, _ => some "str"
 | .tup _, _ => some "tuple"
 | .fl _, _ => some "list"
 | .ref n, H => match H[n]? with
  | some (.lst _) => some "list"
  | _ => none
 | _, _ => none
noncomputable def Zqj (c : String) : Bool := c == "bool" || c == "int" || c == "str" || c == "tuple" || c == "list"
noncomputable def Zu8 : FF := fun ds H => match ds with
 | [x, .ty c] => if Zqj c = true then (tyD x H).map fun t => (.bl (t == c || (t == "bool" && c == "int")), H) else none
 | _ => none
noncomputable def tys : List String := ["NoneType", "bool", "int", "str", "tuple", "list"]
theorem Zu4 {d : D} {t : String} (e : tyD d Hd = some t) : t ∈ tys := by
 cases d with
 | ref n =>
  simp only [tyD] at e
  split at e
  ·cases e; decide
  ·cases e
 | ty n => simp [tyD] at e
 | _ => simp only [tyD] at e; cases e; decide
theorem Zy7 (K : PySem.W.Frag) {t c : String} (ht : t ∈ tys) (hc : Zqj c = true) : PySem.W.kitOne K (.type t) (.type c) = some (t == c || (t == "bool" && c == "int")) := by
 have hc' : c = "bool" ∨ c = "int" ∨ c = "str" ∨ c = "tuple" ∨ c = "list" := by
  simpa [Zqj, or_assoc] using hc
 simp only [tys, List.mem_cons, List.not_mem_nil, or_false] at ht
 rcases ht with rfl | rfl | rfl | rfl | rfl | rfl <;> rcases hc' with rfl | rfl | rfl | rfl | rfl <;> first | rfl | (with_unfolding_all rfl) | kernel_rfl
theorem Zkz : Zgl X (.builtin "isinstance") Zu8 := by
 rintro pins s σ H xs us Q I rv ⟨ι, ds, Hd, d, Hd', hr, P, e, q⟩
 unfold Zu8 at e
 split at e
 ·rename_i x c
  split at e
  ·rename_i hc
   obtain ⟨t, e1, e⟩ := Zm e
   obtain ⟨rfl, rfl⟩ := Prod.mk.inj e
   obtain ⟨v, v', rfl, r, r'⟩ := Zuz P
   obtain ⟨u, u', rfl, ru, ru'⟩ := Znx rv
   simp at r'
   subst r'
   cases ru'
   have k := Zy7 X.K (Zu4 e1) hc
   have fin : ∀ tk, EP X pins σ Q (.bool (t == c || (t == "bool" && c == "int"))) { s with toks := tk } := fun tk => ⟨.bl _, H, I.tok tk, rfl, q _ H ι Le.refl hr (by simp)⟩
   cases x with
   | non => simp at r; subst r; cases ru; cases e1; exact PySem.W.kia_one PySem.W.kitx_none I.kIn True.intro k (fun z => nomatch z) fin
   | bl y => simp at r; subst r; cases ru; cases e1; exact PySem.W.kia_one PySem.W.kitx_bool I.kIn True.intro k (fun z => nomatch z) fin
   | int y => simp at r; subst r; obtain ⟨t, rfl⟩ := ru; cases e1; exact PySem.W.kia_one PySem.W.kitx_int I.kIn True.intro k (fun z => nomatch z) fin
   | str y => simp at r; subst r; obtain ⟨t, rfl⟩ := ru; cases e1; exact PySem.W.kia_one PySem.W.kitx_str I.kIn True.intro k (fun z => nomatch z) fin
   | ty _ => simp [tyD] at e1
   | tup ys =>
    obtain ⟨a, vs, rfl, h, _⟩ := Zbj.mp r
    cases ru; cases e1
    obtain ⟨its, _, ⟨o, ho, hcl, _⟩, _⟩ := I.tuple h
    exact PySem.W.kia_one PySem.W.kitx_tuple I.kIn ⟨o, ho, hcl⟩ k (fun z => nomatch z) fin
   | fl ys =>
    obtain ⟨a, vs, rfl, h, _⟩ := Zgd.mp r
    cases ru; cases e1
    obtain ⟨its, _, pl, _⟩ := I.list h.sq
    obtain ⟨o, ho, hcl, _⟩ := pl.isList
    exact PySem.W.kia_one PySem.W.kitx_list I.kIn ⟨o, ho, hcl⟩ k (fun z => nomatch z) fin
   | ref n =>
    obtain ⟨a, rfl, ha⟩ := Za3.mp r
    cases ru
    simp only [tyD] at e1
    split at e1
    ·rename_i ys eo
     cases e1
     obtain ⟨vs, h1, _⟩ := hr.obj n a _ ha eo
     obtain ⟨its, _, pl, _⟩ := I.list (SqL.of h1)
     obtain ⟨o, ho, hcl, _⟩ := pl.isList
     exact PySem.W.kia_one PySem.W.kitx_list I.kIn ⟨o, ho, hcl⟩ k (fun z => nomatch z) fin
    ·cases e1
  ·cases e
 ·cases e
noncomputable def Zws : D -> Bool
 | .tup _ => true
 | _ => false
noncomputable def Zez : List D -> Option (List Int)
 | [] => some []
 | .int i :: r => (Zez r).map fun s => i :: s
 | _ => none
noncomputable def Ze4 (ns : List Int) : List Int := ns.mergeSort (fun a b => decide (a ≤ b))
theorem Zeg (ns : List Int) : (Ze4 ns).Perm ns := List.mergeSort_perm ns _
theorem Zs0 (ns : List Int) : (Ze4 ns).Pairwise (· ≤ ·) := by
 have h := List.pairwise_mergeSort (le := fun a b : Int => decide (a ≤ b)) (by intro a b c h1 h2; simp at *; omega) (by intro a b; simp; omega) ns
 exact h.imp (by intro a b h; simpa using h)
theorem Zhu : ∀ {xs ys : List Int}, xs.Perm ys -> xs.Pairwise (· ≤ ·) -> ys.Pairwise (· ≤ ·) -> xs = ys
 | [], ys, p, _, _ => by simpa using p.symm
 | x :: xs, [], p, _, _ => by simpa using p
 | x :: xs, y :: ys, p, h1, h2 => by
  rw [List.pairwise_cons] at h1 h2
  have a1 : y ∈ x :: xs := p.symm.subset (by simp)
  have a2 : x ∈ y :: ys := p.subset (by simp)
  have e : x = y := by
   rcases List.mem_cons.mp a1 with z | z
   ·exact z.symm
   ·rcases List.mem_cons.mp a2 with w | w
    ·exact w
    ·have := h1.1 y z
     have := h2.1 x w
     omega
  subst e
  rw [Zhu (List.Perm.cons_inv p) h1.2 h2.2]
noncomputable def Zf9 : FF := fun ds H => match ds with
 | [d] => (Zey d H).bind fun xs => (Zez xs).bind fun ns => if ns.length < 64 ∧ Zws d = false then some (.ref H.length, H ++ [.lst ((Ze4 ns).map .int)]) else none
 | _ => none
theorem Zdy {K : PySem.W.Frag} : ∀ {xs : List D} {ns : List Int} {vs : List V}, Zez xs = some ns -> Paired (Rep K H ι) xs vs -> vs = ns.map V.int
 | [], ns, vs, e, P => by cases P; cases e; rfl
 | .int i :: r, ns, vs, e, P => by
  simp only [Zez] at e
  obtain ⟨s, e1, rfl⟩ := Zm e
  cases P with
  | cons p P =>
   simp at p
   subst p
   rw [Zdy e1 P]
   rfl
 | .non :: _, _, _, e, _ => by simp [Zez] at e
 | .bl _ :: _, _, _, e, _ => by simp [Zez] at e
 | .str _ :: _, _, _, e, _ => by simp [Zez] at e
 | .ty _ :: _, _, _, e, _ => by simp [Zez] at e
 | .tup _ :: _, _, _, e, _ => by simp [Zez] at e
 | .fl _ :: _, _, _, e, _ => by simp [Zez] at e
 | .ref _ :: _, _, _, e, _ => by simp [Zez] at e
theorem Zkq : ∀ {ns : List Int} {us : List Value}, IntsAre us ns -> Zbq (ns.map V.int) us := by
 intro ns us h
 induction h with
 | nil => exact .nil
 | cons n t _ ih => exact .cons ⟨t, rfl⟩ ih
theorem Zkx {K : PySem.W.Frag} (ns : List Int) : Paired (Rep K H ι) (ns.map D.int) (ns.map V.int) := by
 induction ns with
 | nil => exact .nil
 | cons n r ih => exact .cons (by simp) ih
theorem Zka : Zgl X (.builtin "sorted") Zf9 := by
 rintro pins s σ H xs us Q I rv ⟨ι, ds, Hd, d, Hd', hr, P, e, q⟩
 unfold Zf9 at e
 split at e
 ·rename_i d0
  obtain ⟨v, rfl, r⟩ := Zjq P
  obtain ⟨ys, e1, e⟩ := Zo e
  obtain ⟨ns, e2, e⟩ := Zo e
  split at e
  ·rename_i hc
   obtain ⟨p, vs, rfl, h, P2⟩ := Zk9 hr r e1
   have hL : SqL X.K H p vs := by
    cases d0 with
    | tup _ => exact absurd hc.2 (by simp [Zws])
    | fl zs =>
     obtain ⟨a, ws, e3, h3, P3⟩ := Zgd.mp r
     cases e3
     cases e1
     have : vs = ws := (Zdy e2 P2).trans (Zdy e2 P3).symm
     rw [this]; exact h3.sq
    | ref n =>
     obtain ⟨a, e3, h3⟩ := Za3.mp r
     cases e3
     simp only [Zey] at e1
     split at e1
     ·rename_i zs eo
      cases e1
      obtain ⟨ws, h4, P4⟩ := hr.obj n _ _ h3 eo
      have : vs = ws := (Zdy e2 P2).trans (Zdy e2 P4).symm
      rw [this]; exact SqL.of h4
     ·cases e1
    | _ => simp [Zey] at e1
   obtain ⟨u, rfl, ru⟩ := Zf6 rv
   cases ru
   have ev := Zdy e2 P2
   subst ev
   obtain ⟨its, ri, pl, hz⟩ := I.list hL
   have il : its.length = ns.length := by rw [← ri.length, List.length_map]
   refine sorted_ints pl.isList (Zga ri) (by omega) fun out ns' a1 a2 a3 => ?_
   have en : ns' = Ze4 ns := Zhu (a2.trans (Zeg ns).symm) a3 (Zs0 ns)
   subst en
   obtain ⟨k, hk⟩ := sortedAll_at s.heap its out
   have hp0 : H (s.heap.objs.size + 1) = none := I.hok.fresh (Nat.le_succ _)
   have hl : ((Ze4 ns).map V.int).length ≤ sizeLine := by
    rw [List.length_map, (Zeg ns).length_eq]
    have : sizeLine = 16777216 := sizeLine_eq
    omega
   refine ⟨.ref (s.heap.objs.size + 1), _, I.laid (t' := s.toks) (o := .lst ((Ze4 ns).map V.int)) (fun b ob eb => sortedAll_old eb) (Nat.le_succ _) ⟨hl, out.toList, k, Zkq a1, by simpa using hk⟩, rfl, ?_⟩
   have hz2 : ((Ze4 ns).map D.int).length ≤ sizeLine := by simpa using hl
   exact (Zfk hr (Zkx (Ze4 ns)) (show mkL ((Ze4 ns).map D.int) Hd = some (d, Hd') by unfold mkL; rw [if_pos hz2, e]) q).2 _ hp0
  ·cases e
 ·cases e
end
section
variable {X : Cx} {tg : Expr}
noncomputable def Zfa : D -> HD -> Option (List D × Zge)
 | .tup xs, _ => some (xs, [])
 | .fl xs, _ => some (xs, [])
 | .ref n, H => match H[n]? with
  | some (.lst xs) => some (xs, [(n, .lst xs)])
  | _ => none
 | _, _ => none
noncomputable def Zcf (i : Int) : Prop := -(2 ^ 62) ≤ i ∧ i < 2 ^ 62
instance (i : Int) : Decidable (Zcf i) := by unfold Zcf; exact inferInstance
noncomputable def Za2 (lo : Int) (n : Nat) : List D := (List.range n).map fun k : Nat => .int (lo + (k : Int))
theorem Znu {lo : Int} {n i : Nat} {d : D} (h : (Za2 lo n)[i]? = some d) : i < n ∧ d = .int (lo + i) := by
 unfold Za2 at h
 rw [List.getElem?_map] at h
 obtain ⟨k, h1, rfl⟩ := Zm h
 rw [List.getElem?_eq_some_iff] at h1
 obtain ⟨hl, h1⟩ := h1
 simp at h1 hl
 subst h1
 exact ⟨hl, rfl⟩
theorem Zjt {K : PySem.W.Frag} {H0 : Hp} {ι0 : List Addr} (lo : Int) (n : Nat) : ItRep K (Itr lo n) (Za2 lo n) [] H0 ι0 := by
 refine ⟨fun i H2 ι2 Hd2 l2 h2 _ hi => (show i < n by simpa [Za2] using hi), fun i H2 ι2 Hd2 d x H3 l2 h2 _ hd y => ?_, fun i H2 ι2 Hd2 l2 h2 _ hi => (show n ≤ i by simpa [Za2] using hi)⟩
 obtain ⟨rfl, rfl⟩ := y
 obtain ⟨_, rfl⟩ := Znu hd
 exact ⟨ι2, Le.refl, h2, by simp⟩
noncomputable def iR1 (f : AF) : ItF := fun σ H => (f σ H).bind fun p => match p.1 with
 | [.int j] => if Zcf j then some ((Za2 0 j.toNat, []), p.2) else none
 | _ => none
noncomputable def iR2 (f : AF) : ItF := fun σ H => (f σ H).bind fun p => match p.1 with
 | [.int i, .int j] => if Zcf i ∧ Zcf j then some ((Za2 i (j - i).toNat, []), p.2) else none
 | _ => none
theorem Zdk {a : Expr} {f : AF} {p pos : Pos} (hg : Gl X "range") (hm : X.mg "range" = none) (ha : PAf X [a] f) (hs : starEach [a] X.env = [(false, eval a X.env)] := by rfl) : PIf X tg (.Call (.Name "range" p) [a] [] pos) (iR1 f) := by
 refine PIi (Zo3 hg hm ha hs) fun σ H R zz => ?_
 obtain ⟨ι, σd, Hd, xs, own, Hd', s, hr, e, q⟩ := zz
 obtain ⟨⟨ds, H1⟩, e1, e⟩ := Zo e
 dsimp only at e
 split at e
 ·rename_i j
  split at e
  ·rename_i hj
   cases e
   refine ⟨ι, σd, Hd, _, _, s, hr, e1, fun vs H' ι' l h P => ?_⟩
   obtain ⟨v, rfl, r⟩ := Zjq P
   simp at r
   subst r
   exact ⟨j, rfl, hj.1, hj.2, q _ H' ι' l h (Zjt 0 _)⟩
  ·cases e
 ·cases e
theorem Ze7 {a b : Expr} {f : AF} {p pos : Pos} (hg : Gl X "range") (hm : X.mg "range" = none) (ha : PAf X [a, b] f) (hs : starEach [a, b] X.env = [(false, eval a X.env), (false, eval b X.env)] := by rfl) (hs2 : starEach [b] X.env = [(false, eval b X.env)] := by rfl) :
  PIf X tg (.Call (.Name "range" p) [a, b] [] pos) (iR2 f) := by
 refine PIi (Zrq hg hm ha hs hs2) fun σ H R zz => ?_
 obtain ⟨ι, σd, Hd, xs, own, Hd', s, hr, e, q⟩ := zz
 obtain ⟨⟨ds, H1⟩, e1, e⟩ := Zo e
 dsimp only at e
 split at e
 ·rename_i i j
  split at e
  ·rename_i hj
   cases e
   refine ⟨ι, σd, Hd, _, _, s, hr, e1, fun vs H' ι' l h P => ?_⟩
   obtain ⟨v, v', rfl, r, r'⟩ := Zuz P
   simp at r r'
   subst r r'
   exact ⟨i, j, rfl, ⟨hj.1.1, hj.1.2, hj.2.1, hj.2.2⟩, q _ H' ι' l h (Zjt _ _)⟩
  ·cases e
 ·cases e
end
open Builtin.SmallTypes (nextOf)
section
variable {prog : Program} {w : World} {A : Around} {E : Value -> Shared -> Prop} {s : Shared}
theorem Zml {j t : Addr} {i : Nat} {its : Array Value} {x : Value} {Q : Value -> Shared -> Prop} (hj : s.heap.IsTupleIter j t i) (ht : s.heap.IsTuple t its) (hx : its[i]? = some x)
  (hQ : ∀ h', h'.IsTupleIter j t (i + 1) -> Heap.SameBut j s.heap h' -> Q x { s with heap := h' }) : wpAny (model prog w) A (nextOf (.ref j)) Q E s := by
 obtain ⟨oj, ho, hcj, hdj⟩ := id hj
 obtain ⟨ot, hot, _, nt, hdt⟩ := ht
 unfold nextOf
 refine wpAny_bind (wpAny_callSpecial?_slot (name := Str.ofString "__next__") hj.typeIs F.slot_tuple_iterator_next (wpAny_call_entry F.slot_tuple_iterator_next hj.typeIs F.entry_tuple_iterator_next ?_ (F.args_tuple_iterator_next_1 _)))
 show wpAny _ _ (field (.ref j) 0 >>= _) _ _ s
 refine wpAny_bind (wpAny_field ho hdj (x := .ref t) rfl ?_)
 show wpAny _ _ (if (Value.ref t == Value.none) = true then _ else _) _ _ s
 rw [if_neg (show ¬ ((Value.ref t == Value.none) = true) by intro z; cases z)]
 show wpAny _ _ (field (.ref j) 1 >>= _) _ _ s
 refine wpAny_bind (wpAny_field ho hdj (x := .int i 0) rfl ?_)
 show wpAny _ _ (seqItems? (.ref t) >>= _) _ _ s
 refine wpAny_bind (wpAny_seqItems hot hdt ?_)
 simp only [Int.toNat_natCast, hx]
 refine wpAny_bind (wpAny_setField ho hdj (by simp) (wpAny_pure ⟨x, rfl, wpAny_pure (hQ _ ⟨_, Heap.get?_update_self _ ho (Obj.isFreed_of_fields (Obj.data_mapFields hdj _)), (Obj.cls_mapFields ..).trans hcj, ?_⟩ (Heap.SameBut.update ..))⟩))
 rw [Obj.data_mapFields hdj]; simp [rawInt]
theorem Zow {j t : Addr} {i : Nat} {its : Array Value} {Q : Value -> Shared -> Prop} (hh : A.handled = none) (hj : s.heap.IsTupleIter j t i) (ht : s.heap.IsTuple t its) (hx : its[i]? = none)
  (hE : ∀ h' e, Heap.ExtBut j s.heap h' → (∃ o, h'.get? e = some o ∧ o.cls = .type "StopIteration") → E (.ref e) { s with heap := h' }) : wpAny (model prog w) A (nextOf (.ref j)) Q E s := by
 obtain ⟨oj, ho, hcj, hdj⟩ := id hj
 obtain ⟨ot, hot, _, nt, hdt⟩ := ht
 unfold nextOf
 refine wpAny_bind (wpAny_callSpecial?_slot (name := Str.ofString "__next__") hj.typeIs F.slot_tuple_iterator_next (wpAny_call_entry F.slot_tuple_iterator_next hj.typeIs F.entry_tuple_iterator_next ?_ (F.args_tuple_iterator_next_1 _)))
 show wpAny _ _ (field (.ref j) 0 >>= _) _ _ s
 refine wpAny_bind (wpAny_field ho hdj (x := .ref t) rfl ?_)
 show wpAny _ _ (if (Value.ref t == Value.none) = true then _ else _) _ _ s
 rw [if_neg (show ¬ ((Value.ref t == Value.none) = true) by intro z; cases z)]
 show wpAny _ _ (field (.ref j) 1 >>= _) _ _ s
 refine wpAny_bind (wpAny_field ho hdj (x := .int i 0) rfl ?_)
 show wpAny _ _ (seqItems? (.ref t) >>= _) _ _ s
 refine wpAny_bind (wpAny_seqItems hot hdt ?_)
 simp only [Int.toNat_natCast, hx]
 refine wpAny_bind (wpAny_rule (wpAny_bind (wpAny_setField ho hdj (by simp) ?_)))
 show wpAny _ _ (newExc (.type "StopIteration") [] >>= _) _ _ _
 refine wpAny_bind ?_
 simp only [newExc, newTuple]
 refine wpAny_bind (wpAny_newObj_type ?_ (by size_fits))
 refine wpAny_bind (m := firstArgMember _ _) (wpAny_of_eq (a := Value.none) (by first | rfl | (simp only [firstArgMember]; rfl)) (wpAny_newObj_type ?_ (by size_fits)))
 simp only [raiseNew]
 refine wpAny_bind (wpAny_handled ?_)
 first | rw [show A.in1.handled = none from hh] | rw [hh]
 exact wpAny_bind (wpAny_pure (wpAny_throw (hE _ _ (((Heap.SameBut.update ..).extBut.push _).push _) ⟨_, Heap.get?_push_size _ rfl, rfl⟩)))
theorem Zqy {e j t : Addr} {i : Nat} {c : Int} {its : Array Value} {x old : Value} {Q : Option Value -> Shared -> Prop} (he : IsEnum s.heap e j c old) (hj : s.heap.IsTupleIter j t i) (ht : s.heap.IsTuple t its) (hx : its[i]? = some x) (hne : e ≠ j)
  (hQ : ∀ h' tk, IsEnumOut h' e j (c + 1) x s.heap.objs.size → h'.IsTupleIter j t (i + 1) → h'.get? s.heap.objs.size = some { cls := .type "tuple", data := .seq #[.int c tk, x] } → h'.objs.size = s.heap.objs.size + 1 →
   (∀ b o, b ≠ e -> b ≠ j -> s.heap.get? b = some o -> h'.get? b = some o) -> Q (some (.ref s.heap.objs.size)) { s with heap := h', toks := s.toks + 1 }) :
  wpAny (model prog w) A (pyNext (.ref e)) Q E s := by
 have hT : s.TypeIs (.ref e) "enumerate" := ⟨_, he, rfl⟩
 unfold pyNext
 refine wpAny_bind (wpAny_attempt (wpAny_callSpecial?_slot (name := Str.ofString "__next__") hT F.slot_enumerate_next (wpAny_call_entry F.slot_enumerate_next hT F.entry_enumerate_next ?_ (F.args_enumerate_next_1 _))))
 obtain ⟨hp, g, d, tk, os⟩ := s
 show wpAny _ _ (field (.ref e) 2 >>= _) _ _ _
 refine wpAny_bind (wpAny_field he rfl (x := .ref j) rfl (wpAny_bind (Zml hj ht hx fun h1 j1 s1 => ?_)))
 replace s1 : Heap.SameBut j hp h1 := s1
 have e1 : IsEnum h1 e j c old := (s1.2 e hne).trans he
 show wpAny _ _ (field (.ref e) 3 >>= _) _ _ ⟨h1, g, d, tk, os⟩
 refine wpAny_bind (wpAny_field e1 rfl (x := rawInt c) rfl ?_)
 show wpAny _ _ (field (.ref e) 4 >>= _) _ _ ⟨h1, g, d, tk, os⟩
 refine wpAny_bind (wpAny_field e1 rfl (x := .none) rfl ?_)
 show wpAny _ _ (mkInt c >>= _) _ _ ⟨h1, g, d, tk, os⟩
 refine wpAny_bind (wpAny_mkInt ?_)
 show wpAny _ _ (setField (.ref e) 3 (rawInt (c + 1)) >>= _) _ _ ⟨h1, g, d, tk + 1, os⟩
 refine wpAny_bind (wpAny_setField_rec e1 (by simp) fun h2 e2 s2 => ?_)
 replace s2 : Heap.SameBut e h1 h2 := s2
 replace e2 : IsEnum h2 e j (c + 1) old := e2
 show wpAny _ _ (setField (.ref e) 4 .none >>= _) _ _ ⟨h2, g, d, tk + 1, os⟩
 refine wpAny_bind (wpAny_setField_rec e2 (by simp) fun h3 e3 s3 => ?_)
 replace s3 : Heap.SameBut e h2 h3 := s3
 replace e3 : IsEnum h3 e j (c + 1) old := e3
 show wpAny _ _ (newTuple [.int c tk, x] >>= _) _ _ ⟨h3, g, d, tk + 1, os⟩
 refine wpAny_bind (wpAny_newTuple ?_)
 have e4 : IsEnum (h3.push { cls := .type "tuple", data := .seq #[.int c tk, x] }) e j (c + 1) old := Heap.get?_push_of_some _ e3
 generalize q4 : h3.push { cls := .type "tuple", data := .seq #[.int c tk, x] } = h4 at e4
 have zz : h3.objs.size = hp.objs.size := by rw [s3.1, s2.1, s1.1]
 have lt : e < hp.objs.size := Heap.lt_size he
 have t4 : h4.get? hp.objs.size = some { cls := .type "tuple", data := .seq #[.int c tk, x] } := by rw [← q4, ← zz]; exact Heap.get?_push_size _ rfl
 have z4 : h4.objs.size = hp.objs.size + 1 := by rw [← q4, Heap.size_push, zz]
 have k4 : ∀ b o, b ≠ e -> b ≠ j -> hp.get? b = some o -> h4.get? b = some o := fun b o n1 n2 q => by
  rw [← q4]; exact Heap.get?_push_of_some _ (s3.extBut b o n1 (s2.extBut b o n1 (s1.extBut b o n2 q)))
 have j4 : h4.IsTupleIter j t (i + 1) := by
  obtain ⟨o, ho, r⟩ := id j1
  exact ⟨o, by rw [← q4]; exact Heap.get?_push_of_some _ (s3.extBut j o (Ne.symm hne) (s2.extBut j o (Ne.symm hne) ho)), r⟩
 show wpAny _ _ (Builtin.SmallTypes.ownedTupleIsFree (.ref e) >>= _) _ _ ⟨h4, g, d, tk + 1, os⟩
 rw [zz]
 clear q4 e3 s3 e2 s2 e1 s1 j1 zz h3 h2 h1
 refine wpAny_bind ?_
 unfold Builtin.SmallTypes.ownedTupleIsFree
 refine wpAny_bind (wpAny_field e4 rfl (x := .none) rfl (wpAny_pure ?_))
 simp only [if_true]
 refine wpAny_bind (wpAny_rule (wpAny_bind (wpAny_field e4 rfl (x := old) rfl (wpAny_bind (wpAny_setField_rec e4 (by simp) fun h5 e5 s5 => ?_)))))
 replace s5 : Heap.SameBut e h4 h5 := s5
 replace e5 : IsEnum h5 e j (c + 1) x := e5
 show wpAny _ _ (Builtin.SmallTypes.ownedTupleHandOut (.ref e) (.ref hp.objs.size) >>= _) _ _ ⟨h5, g, d, tk + 1, os⟩
 refine wpAny_bind ?_
 unfold Builtin.SmallTypes.ownedTupleHandOut
 refine wpAny_bind (wpAny_setField_rec e5 (by simp) fun h6 e6 s6 => ?_)
 replace s6 : Heap.SameBut e h5 h6 := s6
 replace e6 : IsEnumOut h6 e j (c + 1) x hp.objs.size := e6
 refine wpAny_setField_rec e6 (by simp) fun h7 e7 s7 => ?_
 replace s7 : Heap.SameBut e h6 h7 := s7
 replace e7 : IsEnumOut h7 e j (c + 1) x hp.objs.size := e7
 have up : ∀ b o, b ≠ e -> h4.get? b = some o -> h7.get? b = some o := fun b o n q => s7.extBut b o n (s6.extBut b o n (s5.extBut b o n q))
 refine wpAny_bind (wpAny_letGo (wpAny_pure ⟨_, rfl, wpAny_pure (hQ h7 tk e7 ?_ (up _ _ (Nat.ne_of_gt lt) t4) (by rw [s7.1, s6.1, s5.1, z4]) fun b o n1 n2 q => up b o n1 (k4 b o n1 n2 q))⟩))
 obtain ⟨o, ho, r⟩ := id j4
 exact ⟨o, up j o (Ne.symm hne) ho, r⟩
theorem Zri {e j t : Addr} {i : Nat} {c : Int} {its : Array Value} {old : Value} {Q : Option Value -> Shared -> Prop} (hh : A.handled = none) (he : IsEnum s.heap e j c old) (hj : s.heap.IsTupleIter j t i) (ht : s.heap.IsTuple t its) (hx : its[i]? = none)
  (hQ : ∀ h', Heap.ExtBut j s.heap h' -> Q none { s with heap := h' }) : wpAny (model prog w) A (pyNext (.ref e)) Q E s := by
 have hT : s.TypeIs (.ref e) "enumerate" := ⟨_, he, rfl⟩
 unfold pyNext
 refine wpAny_bind (wpAny_attempt (wpAny_callSpecial?_slot (name := Str.ofString "__next__") hT F.slot_enumerate_next (wpAny_call_entry F.slot_enumerate_next hT F.entry_enumerate_next ?_ (F.args_enumerate_next_1 _))))
 show wpAny _ _ (field (.ref e) 2 >>= _) _ _ _
 refine wpAny_bind (wpAny_field he rfl (x := .ref j) rfl (wpAny_bind (Zow hh hj ht hx fun h' z he' zz => ?_)))
 obtain ⟨o, ho, hc⟩ := zz
 exact wpAny_bind (wpAny_isInstance (T := "StopIteration") (b := true) ⟨o, ho, hc⟩ isSubtype_stop (wpAny_pure (hQ _ he')))
open AutoSeq1 (wpAny_loadPart') in
theorem Zq8 (t : Addr) (its : Array Value) (n : Nat) (dct : Option Addr) (sl : Array (Option Value)) :
  Meets (Builtin.«enumerate.__new__» ⟨[.type "enumerate", .ref t], []⟩) (fun _ R s => s.heap.get? t = some { cls := .type "tuple", dict := dct, data := .seq its n, slots := sl } ∧
   R (.ok (.ret (.ref (s.heap.push { cls := .type "tuple_iterator", data := .fields #[.ref t, .int 0 0] }).objs.size)))
    { s with heap := (s.heap.push { cls := .type "tuple_iterator", data := .fields #[.ref t, .int 0 0] }).push { cls := .type "enumerate", data := .fields #[.none, .bool false, .ref s.heap.objs.size, rawInt 0, .none, .none] } }) :=
 .of_wp fun prog w A R s h => by
  obtain ⟨hp, g, d, tk, os⟩ := s; obtain ⟨hl, h⟩ := h
  have hsub := sub_enumerate
  have hL : Heap.IsTuple (Shared.heap ⟨hp, g, d, tk, os⟩) t its := ⟨_, hl, rfl, n, rfl⟩
  wp_walk using wpAny_loadPart' hl
  refine wpAny_stack_any fun st => wpAny_pure ?_
  split
  ·rename_i k _ _ _ _ _
   cases (k == Value.type "enumerate") <;> (wp_walk using wpAny_loadPart' hl, wpAny_pyIter_tuple hL; exact ⟨_, rfl, h⟩)
  ·wp_walk using wpAny_loadPart' hl, wpAny_pyIter_tuple hL
   exact ⟨_, rfl, h⟩
theorem Zn3 {t : Addr} {its : Array Value} {Q : Value -> Shared -> Prop} (hL : s.heap.IsTuple t its)
  (h : ∀ h', IsEnum h' (s.heap.objs.size + 1) s.heap.objs.size 0 .none -> h'.IsTupleIter s.heap.objs.size t 0 -> h'.objs.size = s.heap.objs.size + 2 →
   (∀ b o, s.heap.get? b = some o -> h'.get? b = some o) -> Q (.ref (s.heap.objs.size + 1)) { s with heap := h' }) :
  wpAny (model prog w) A (call (.type "enumerate") [.ref t]) Q E s := by
 obtain ⟨⟨k, dct, dt, sl⟩, hl, hc, n, hd⟩ := hL
 replace hc : k = .type "tuple" := hc
 replace hd : dt = .seq its n := hd
 subst hc hd
 refine callType_new F.called_enumerate (by decide) (F.typeCall_enumerate_1 _) (F.newCall_enumerate_1 _) (fun obj => F.args_object_init_2 obj _) F.entry_enumerate_new (Zq8 t its n dct sl) ⟨hl, ?_⟩
 have hz : (s.heap.push { cls := .type "tuple_iterator", data := .fields #[.ref t, .int 0 0] }).objs.size = s.heap.objs.size + 1 := Heap.size_push ..
 show _ ∧ _
 rw [hz]
 have he : IsEnum ((s.heap.push { cls := .type "tuple_iterator", data := .fields #[.ref t, .int 0 0] }).push { cls := .type "enumerate", data := .fields #[.none, .bool false, .ref s.heap.objs.size, rawInt 0, .none, .none] }) (s.heap.objs.size + 1) s.heap.objs.size 0 .none := by
  have q := Heap.get?_push_size (s.heap.push { cls := .type "tuple_iterator", data := .fields #[.ref t, .int 0 0] }) (o := { cls := .type "enumerate", data := .fields #[.none, .bool false, .ref s.heap.objs.size, rawInt 0, .none, .none] }) rfl
  rw [hz] at q; exact q
 exact ⟨⟨_, he, rfl⟩, h _ he ⟨_, Heap.get?_push_of_some _ (Heap.get?_push_size _ rfl), rfl, rfl⟩ (by rw [Heap.size_push, hz]) fun b o x => Heap.get?_push_of_some _ (Heap.get?_push_of_some _ x)⟩
end
noncomputable def Zxj (K : PySem.W.Frag) (c : Int) (a : Addr) : It :=
 ⟨fun i H => ∃ xs x, SqT K H a xs ∧ xs[i]? = some x, fun i H v H' => ∃ p x, H p = none ∧ v = .ref p ∧ H' = upd H p (.tup [.int (c + i), x]) ∧ ∀ xs, SqT K H a xs -> xs[i]? = some x, fun i H => ∃ xs, SqT K H a xs ∧ xs.length ≤ i⟩
theorem Zir {P : Program} {w : World} {K : PySem.W.Frag} {es : List Expr} {k : Nat} {pos : Pos} (a e j : Addr) (c : Int) (hne : e ≠ j) : Turn P w K (.Tuple es k pos) (Zxj K c a) [e, j] e (fun i h => ∃ old, IsEnum h e j (c + i) old ∧ h.IsTupleIter j a i) where
 mem := by simp
 obj := fun i h st b hb => by
  obtain ⟨old, he, o, ho, hc, hd⟩ := st
  rcases List.mem_cons.mp hb with rfl | hb
  ·exact ⟨_, he, fun v z => by cases z⟩
  ·have : b = j := by simpa using hb
   subst this
   exact ⟨o, ho, fun v z => by rw [hd] at z; cases z⟩
 keep := fun i h h' st kk => by
  obtain ⟨old, he, o, ho, r⟩ := st
  exact ⟨old, kk e (by simp) _ he, o, kk j (by simp) o ho, r⟩
 item := by
  intro X hP hw hK hc i pins s σ H E I hf st hg
  subst hP hw hK
  obtain ⟨xs, x, hq, hx⟩ := hg
  obtain ⟨old, he, hj⟩ := st
  obtain ⟨its, rv, p, hz⟩ := I.tuple hq
  obtain ⟨u, hu, ru⟩ := rv.get hx
  have fe := hf e (by simp)
  have fj := hf j (by simp)
  refine Zqy he hj (show s.heap.IsTuple a its.toArray from p) (x := u) (by simpa using hu) hne fun h' tk eo j' t' z' kk => ?_
  refine ⟨_, rfl, wpAny_letOwnedTupleGo_enum (s := { s with heap := h', toks := s.toks + 1 }) eo fun h2 e2 s2 => ?_⟩
  replace s2 : Heap.SameBut e h' h2 := s2
  have le : e < s.heap.objs.size := Heap.lt_size he
  have ne2 : s.heap.objs.size ≠ e := Nat.ne_of_gt le
  -- the iterator's two records have turned, the pair is new
  have t2 : h2.get? s.heap.objs.size = some { cls := .type "tuple", data := .seq #[.int (c + i) tk, u] } := s2.extBut _ _ ne2 t'
  have hp0 : H s.heap.objs.size = none := I.hok.fresh (Nat.le_refl _)
  have up : ∀ b o, b ∉ [e, j] -> s.heap.get? b = some o -> h2.get? b = some o := fun b o hb q =>
   s2.extBut b o (fun z => hb (by simp [z])) (kk b o (fun z => hb (by simp [z])) (fun z => hb (by simp [z])) q)
  have I2 : Inv X pins σ (upd H s.heap.objs.size (.tup [.int (c + i), x])) { s with heap := h2, toks := s.toks + 1 } := by
   refine I.step (g' := s.gens) (d' := s.drawn) (t' := s.toks + 1) (ch := [e, j]) (fun b hb => ?_) (fun b o _ _ hb q n => up b o hb q) (fun b o _ _ hb q n => ⟨o.slots, up b o hb q⟩) (fun b o _ q n => ?_) (fun b o hb q => ⟨o, up b o hb q⟩) (fun b ys q => ?_) (fun b o y q => ?_) (fun b ps q => ⟨#[], ?_⟩) (fun m hm => ?_) (fun b o q => ?_) I.bare
   ·have := hf b hb; exact ⟨this.2.2.2.1, this.2.1, this.2.2.2.2.1, this.2.2.2.2.2⟩
   ·rw [Zao (Nat.ne_of_lt (Heap.lt_size q))]; exact n
   ·rw [Zao (Zan q hp0)]; exact q
   ·rw [Zao (Zan q hp0)]; exact q
   ·rw [Zao (Zan q hp0), q]; simp
   ·obtain ⟨o, es', ep, ho, r⟩ := hm
    exact ⟨o, es', ep, s2.extBut _ o (Ne.symm fe.2.1) (kk _ o (Ne.symm fe.2.1) (Ne.symm fj.2.1) ho), r⟩
   ·by_cases hb : b = s.heap.objs.size
    ·subst hb
     rw [upd_same] at q
     cases q
     exact ⟨(by show 2 ≤ sizeLine; decide), [.int (c + i) tk, u], .cons ⟨tk, rfl⟩ (.cons ru .nil), _, t2, rfl, ⟨_, rfl⟩, rfl⟩
    ·rw [Zao hb] at q
     refine (I.hok b o q).stay (fun d v hd z => up d v (fun hm => ?_) z) (fun d z => by rw [Zao (Zan z hp0)]; exact z) fun d ys z => by rw [Zao (Zan z hp0)]; exact z
     have : H d ≠ none := by
      rcases hd with rfl | hd
      ·rw [q]; simp
      ·rw [hd]; simp
     exact this (hf d hm).1
  refine ⟨.ref s.heap.objs.size, _, I2, rfl, ⟨_, x, hp0, rfl, rfl, fun ys hy => by rw [I.tuple_inj hy hq]; exact hx⟩, ?_, fun b hb => ?_⟩
  ·obtain ⟨o, ho, r⟩ := id j'
   have ec : c + ((i + 1 : Nat) : Int) = c + (i : Int) + 1 := by push_cast; omega
   exact ⟨u, by rw [ec]; exact e2, o, s2.extBut j o (Ne.symm hne) ho, r⟩
  ·have hb2 : b ≠ s.heap.objs.size := by
    rcases List.mem_cons.mp hb with rfl | hb
    ·exact Nat.ne_of_lt le
    ·have : b = j := by simpa using hb
     subst this
     obtain ⟨o, ho, _⟩ := id hj
     exact Nat.ne_of_lt (Heap.lt_size ho)
   rw [Zao hb2]; exact (hf b hb).1
 done := by
  intro X hP hw hK hc i pins s σ H E I hf st hg
  subst hP hw hK
  obtain ⟨xs, hq, hx⟩ := hg
  obtain ⟨old, he, hj⟩ := st
  obtain ⟨its, rv, p, hz⟩ := I.tuple hq
  obtain ⟨f0, f1, f2, f3, f4, f5⟩ := hf j (by simp)
  have hl := rv.length
  exact Zri (I.ok.hd hc) he hj (show s.heap.IsTuple a its.toArray from p) (by simp; omega) fun h' eb => ⟨rfl, I.turned (t' := s.toks) (fun b o hb q => eb b o hb q) f0 f1 f3 f4 f5⟩
 self := fun _ _ _ _ _ st h => by
  obtain ⟨old, he, _⟩ := st
  exact wpAny_pyIter_enum he h
section
variable {X : Cx}
noncomputable def Zdz (c : Int) : List D -> List D
 | [] => []
 | x :: r => .tup [.int c, x] :: Zdz (c + 1) r
theorem Ze2 : ∀ (xs : List D) (c : Int), (Zdz c xs).length = xs.length
 | [], _ => rfl
 | x :: r, c => by simp [Zdz, Ze2 r]
theorem Zhf : ∀ {xs : List D} {c : Int} {i : Nat} {d : D}, (Zdz c xs)[i]? = some d -> ∃ x, xs[i]? = some x ∧ d = .tup [.int (c + i), x]
 | [], c, i, d, h => by simp [Zdz] at h
 | x :: r, c, 0, d, h => by simp [Zdz] at h; exact ⟨x, rfl, by rw [← h]; simp⟩
 | x :: r, c, i + 1, d, h => by
  simp only [Zdz, List.getElem?_cons_succ] at h
  obtain ⟨y, h1, h2⟩ := Zhf h
  refine ⟨y, by simpa using h1, ?_⟩
  rw [h2]
  have : c + 1 + (i : Int) = c + ((i + 1 : Nat) : Int) := by push_cast; omega
  rw [this]
theorem Zmz {K : PySem.W.Frag} {H0 : Hp} {ι0 : List Addr} {a : Addr} {c : Int} {xs : List D} {vs : List V} (hS : SqT K H0 a vs) (P : Paired (Rep K H0 ι0) xs vs)
  (inj : ∀ (i : Nat) (H : Hp) (x : V), (∀ ys, SqT K H a ys -> ys[i]? = some x) -> SqT K H a vs -> vs[i]? = some x) : ItRep K (Zxj K c a) (Zdz c xs) [] H0 ι0 := by
 refine ⟨fun i H2 ι2 Hd2 l2 h2 _ hi => ?_, fun i H2 ι2 Hd2 d v H3 l2 h2 _ hd y => ?_, fun i H2 ι2 Hd2 l2 h2 _ hi => ⟨vs, l2.tup a vs hS, by rw [← Prd.len P, ← Ze2 xs c]; exact hi⟩⟩
 ·exact ⟨vs, vs[i]'(by rw [← Prd.len P, ← Ze2 xs c]; exact hi), l2.tup a vs hS, by simp⟩
 ·obtain ⟨p, x, hp, rfl, rfl, y⟩ := y
  obtain ⟨x', hx', rfl⟩ := Zhf hd
  obtain ⟨u, hu, ru⟩ := Prd.get P hx'
  have := y vs (l2.tup a vs hS)
  rw [hu] at this
  cases this
  refine ⟨ι2, Le.fresh hp _, h2.tup hp _, Zbj.mpr ⟨p, _, rfl, SqT.of upd_same, .cons (by simp) (.cons ((ru.mono l2).mono (Le.fresh hp _)) .nil)⟩⟩
noncomputable def Zth (f : AF) : ItF := fun σ H => (f σ H).bind fun p => match p.1 with
 | [.tup xs] => some ((Zdz 0 xs, []), p.2)
 | _ => none
theorem Zsi {es : List Expr} {k : Nat} {tp p pos : Pos} {a : Expr} {f : AF} (hg : Gl X "enumerate") (hm : X.mg "enumerate" = none) (ha : PAf X [a] f) (hs : starEach [a] X.env = [(false, eval a X.env)] := by rfl) : PIf X (.Tuple es k tp) (.Call (.Name "enumerate" p) [a] [] pos) (Zth f) := by
 rintro pins s σ H R I ⟨ι, σd, Hd, xs, own, Hd', sr, hr, e, q⟩
 obtain ⟨⟨ds, H1⟩, e1, e⟩ := Zo e
 dsimp only at e
 split at e
 ·rename_i ys
  cases e
  refine Call_ (Zeu I hg hm boot_enumerate (PyProof.Rows.callWith_type1 (thn (ha pos pins s σ H (fun vs H' => ∃ a ws, vs = [.ref a] ∧ SqT X.K H' a ws ∧ ∀ (J : It) (H2 : Hp), H2 = H' -> J = Zxj X.K 0 a -> R J H2) I ⟨ι, σd, Hd, _, _, sr, hr, e1, fun vs H' ι' l h P => ?_⟩) fun us s1 ⟨vs, H2, I2, r2, q2⟩ => ?_) hs rfl))
  ·obtain ⟨v, rfl, r⟩ := Zjq P
   obtain ⟨ad, ws, rfl, hS, P2⟩ := Zbj.mp r
   refine ⟨ad, ws, rfl, hS, fun J H2 e2 e3 => ?_⟩
   subst e2 e3
   exact q _ _ ι' l h (Zmz hS P2 fun i H x y h => y ws h)
  ·obtain ⟨ad, ws, rfl, hS, q2⟩ := q2
   obtain ⟨u, rfl, ru⟩ := Zf6 r2
   cases ru
   obtain ⟨its, rv, p, hz⟩ := I2.tuple hS
   refine Zn3 (show s1.heap.IsTuple ad its.toArray from p) fun h' he hj z' kk => ?_
   have I3 : Inv X pins σ H2 { s1 with heap := h' } := I2.kept (t' := s1.toks) kk
   refine wpAny_pyIter_enum (s := { s1 with heap := h' }) he ?_
   have ne : s1.heap.objs.size + 1 ≠ s1.heap.objs.size := Nat.succ_ne_self _
   refine ⟨s1.heap.objs.size + 1, [s1.heap.objs.size + 1, s1.heap.objs.size], _, Zxj X.K 0 ad, H2, rfl, I3, Zir ad _ _ 0 ne, ⟨.none, by simpa using he, hj⟩, fun b hb => ?_, q2 _ _ rfl rfl⟩
   have : s1.heap.objs.size ≤ b := by
    rcases List.mem_cons.mp hb with rfl | hb
    ·exact Nat.le_succ _
    ·have : b = s1.heap.objs.size := by simpa using hb
     rw [this]; exact Nat.le_refl _
   have fp := I2.fpOk (b := b) (H' := H2) this (I2.hok.fresh this)
   exact fp
 ·cases e
end
section
variable {X : Cx}
end
section
variable {X : Cx}
noncomputable def tRng2 (ta : TA) : TE := fun σ H Q => ta σ H fun vs H1 => ∃ i j : Int, vs = [.int i, .int j] ∧ ∀ p, H1 p = none -> Q (.ref p) (upd H1 p (.rng i j))
theorem Zu0 {a b : Expr} {ta : TA} {p pos : Pos} (hg : Gl X "range") (hm : X.mg "range" = none) (ha : PA X [a, b] ta) (hs : starEach [a, b] X.env = [(false, eval a X.env), (false, eval b X.env)] := by rfl) (hs2 : starEach [b] X.env = [(false, eval b X.env)] := by rfl) :
  PE X (.Call (.Name "range" p) [a, b] [] pos) (tRng2 ta) := by
 intro pins s σ H Q I h
 refine Call_ (Zeu I hg hm boot_range (PyProof.Rows.callWith_type1 (thn (ha pos pins s σ H _ I h) fun us s1 ⟨vs, H1, I1, r1, q1⟩ => ?_) (by rw [hs, hs2]) (by rw [hs2]; rfl)))
 obtain ⟨i, j, rfl, q⟩ := q1
 obtain ⟨u1, u2, rfl, ru1, ru2⟩ := Znx r1
 obtain ⟨t1, rfl⟩ := ru1
 obtain ⟨t2, rfl⟩ := ru2
 refine call_range_2 ?_
 exact ⟨.ref s1.heap.objs.size, _, I1.laid (t' := s1.toks + 1) (o := .rng i j) (fun b o e => Heap.get?_push_of_some _ e) (Nat.le_refl _) ⟨_, _, _, Heap.get?_push_size _ rfl⟩, rfl, q _ (I1.hok.fresh (Nat.le_refl _))⟩
theorem Zup {α β : Type} {F : α -> β -> Prop} : ∀ {xs : List α} {us : List β}, xs.length = us.length -> (∀ (i : Nat) x u, xs[i]? = some x -> us[i]? = some u -> F x u) -> Paired F xs us
 | [], [], _, _ => .nil
 | [], _ :: _, h, _ => by simp at h
 | _ :: _, [], h, _ => by simp at h
 | x :: xs, u :: us, h, f => .cons (f 0 x u rfl rfl) (Zup (by simpa using h) fun i y v h1 h2 => f (i + 1) y v (by simpa using h1) (by simpa using h2))
noncomputable def Zj4 (lo : Int) (n : Nat) : List V := (List.range n).map fun k : Nat => .int (lo + (k : Int))
theorem Zjh (hc : X.calm = true) : Zf7 X (.type "list") (fun xs H Q => ∃ p i j, xs = [.ref p] ∧ H p = some (.rng i j) ∧ Zcf i ∧ Zcf j ∧ (j - i).toNat ≤ 1000000 ∧ ∀ l, H l = none → Q (.ref l) (upd H l (.lst (Zj4 i (j - i).toNat)))) := by
 intro pins s σ H xs us Q I r h
 obtain ⟨p, i, j, rfl, hH, hi, hj, hn, q⟩ := h
 obtain ⟨u, rfl, rx⟩ := Zf6 r
 cases rx
 obtain ⟨t, u, v, hr⟩ := (show Zc6 X.prog X.w H s.heap p (.rng i j) from I.hok p _ hH)
 have e : Builtin.Range.rangeSize i j 1 = ((j - i).toNat : Nat) := by rw [rangeSize_one]; split <;> omega
 refine call_list_range (I.ok.hd hc) hr (small_one hi.1 hi.2 hj.1 hj.2) e (by omega) fun h' tk acc' c' kp hS hacc => ?_
 have sz : sizeLine = 16777216 := sizeLine_eq
 have vals : Zbq (Zj4 i (j - i).toNat) acc'.toList := by
  refine Zup (by simp [Zj4, hacc.1]) fun k x u h1 h2 => ?_
  unfold Zj4 at h1
  rw [List.getElem?_map] at h1
  obtain ⟨k', h3, rfl⟩ := Zm h1
  rw [List.getElem?_eq_some_iff] at h3
  obtain ⟨_, h3⟩ := h3
  simp at h3
  subst h3
  obtain ⟨t, e⟩ := hacc.2 k u (by simpa using h2)
  exact ⟨t, by rw [e, Int.mul_one]⟩
 exact ⟨.ref s.heap.objs.size, _, I.laid (t' := tk) (o := .lst (Zj4 i (j - i).toNat)) kp (Nat.le_refl _) ⟨by simp [Zj4]; omega, acc'.toList, c', vals, by simpa using hS⟩, rfl, q _ (I.hok.fresh (Nat.le_refl _))⟩
noncomputable def Zz6 (f : AF) : EF := fun σ H => (f σ H).bind fun p => match p.1 with
 | [.int i, .int j] => if Zcf i ∧ Zcf j ∧ (j - i).toNat ≤ 1000000 then some (.ref p.2.length, p.2 ++ [.lst (Za2 i (j - i).toNat)]) else none
 | _ => none
theorem Zoa {a b : Expr} {f : AF} {p p2 pos pos2 : Pos} (hc : X.calm = true) (hg : Gl X "list") (hm : X.mg "list" = none) (hg2 : Gl X "range") (hm2 : X.mg "range" = none) (ha : PAf X [a, b] f)
  (hs : starEach [a, b] X.env = [(false, eval a X.env), (false, eval b X.env)] := by rfl) (hs2 : starEach [b] X.env = [(false, eval b X.env)] := by rfl)
  (he : starEach [Expr.Call (.Name "range" p2) [a, b] [] pos2] X.env = (false, eval (Expr.Call (.Name "range" p2) [a, b] [] pos2) X.env) :: starEach [] X.env := by rfl)
  (hpl : (backTo pos (starEach [] X.env)).any (·.1) = false := by rfl) : PEf X (.Call (.Name "list" p) [.Call (.Name "range" p2) [a, b] [] pos2] [] pos) (Zz6 f) := by
 refine PEi (Zgw (Zjh hc) hg hm (by decide +kernel) (Zc7 (Zu0 hg2 hm2 ha hs hs2) Zgf he) (by decide) (by decide) he hpl) fun σ H Q zz => ?_
 obtain ⟨ι, σd, Hd, d, Hd', s, hr, e, q⟩ := zz
 obtain ⟨⟨ds, H1⟩, e1, e⟩ := Zo e
 dsimp only at e
 split at e
 ·rename_i i j
  split at e
  ·rename_i hk
   cases e
   refine ⟨ι, σd, Hd, _, _, s, hr, e1, fun vs H' ι' l h P => ?_⟩
   obtain ⟨v, v', rfl, r, r'⟩ := Zuz P
   simp at r r'
   subst r r'
   refine ⟨i, j, rfl, fun r hr' => ⟨r, i, j, rfl, upd_same, hk.1, hk.2.1, hk.2.2, fun lx hl => ?_⟩⟩
   have h2 := h.tup hr' (.rng i j)
   have sz : sizeLine = 16777216 := sizeLine_eq
   have P2 : Paired (Rep X.K (upd H' r (.rng i j)) ι') (Za2 i (j - i).toNat) (Zj4 i (j - i).toNat) := by
    unfold Za2 Zj4
    generalize (List.range (j - i).toNat) = ks
    induction ks with
    | nil => exact .nil
    | cons k ks ih => exact .cons (by simp) ih
   refine (Zfk h2 P2 (show mkL (Za2 i (j - i).toNat) H1 = some _ by unfold mkL; rw [if_pos (by simp [Za2]; omega)]) fun v2 H2 ι2 l2 h2 r2 => q v2 H2 ι2 ((l.trans (Le.fresh hr' _)).trans l2) h2 r2).2 _ hl
  ·cases e
 ·cases e
end
structure Fn (P : Program) (w : World) (K : PySem.W.Frag) (mg : Str -> Option Value) (base : Heap) (k : Nat) (x : Str) (ps : List Str) (F : FF) : Prop where
 ex : ∃ f fd, FnOk P w K mg base CX0 k f fd ps (spF K ps.length F) ∧ Zis K fd ps [] ∧ PySem.W.keepIn K (.ref f) = true ∧ mg x = some (.ref f) ∧ ∃ (oc : Value) (od : Option Addr) (osl : Array (Option Value)), K.lookup f = some ⟨oc, od, .func fd, osl⟩
theorem Zax {X : Cx} {k n : Nat} {ps : List Str} {x : Str} {p pos : Pos} {F : FF} {fa : AF} {e : Expr} {es : List Expr} (G : Fn X.prog X.w X.K X.mg X.base k x ps F) (hr : Room k X.A) (hg : Gl X x)
  (ha : PAf X (e :: es) fa) (hdb : (x == ("__debug__" : Str)) = false := by decide) (he : starEach (e :: es) X.env = (false, eval e X.env) :: starEach es X.env := by exact Zbe rfl) (hpl : (backTo pos (starEach es X.env)).any (·.1) = false := by exact Zc0 rfl) (hn : ps.length = n := by rfl) :
  PEf X (.Call (.Name x p) (e :: es) [] pos) (Zaj n F fa) := by
 subst hn
 obtain ⟨f, fd, G1, hb, hk, hm, _⟩ := G.ex
 exact Ztd G1 hr hg hm hk hb ha hdb he hpl
noncomputable def Tf (K : PySem.W.Frag) (mg : Str -> Option Value) (x : Str) (st : Stmt) : Prop := ∃ f fd, Fun K x x st f fd ∧ mg x = some (.ref f)
theorem us0 {us : List Value} (h : us.length = 0) : us = [] := List.length_eq_zero_iff.mp h
theorem us1 {us : List Value} (h : us.length = 1) : ∃ a, us = [a] := by
 obtain ⟨a, r⟩ := List.exists_cons_of_length_eq_add_one h
 obtain ⟨t, rfl⟩ := r
 rw [us0 (us := t) (by simpa using h)]
 exact ⟨a, rfl⟩
theorem us2 {us : List Value} (h : us.length = 2) : ∃ a b, us = [a, b] := by
 obtain ⟨a, t, rfl⟩ := List.exists_cons_of_length_eq_add_one h
 obtain ⟨b, rfl⟩ := us1 (us := t) (by simpa using h)
 exact ⟨a, b, rfl⟩
theorem us3 {us : List Value} (h : us.length = 3) : ∃ a b c, us = [a, b, c] := by
 obtain ⟨a, t, rfl⟩ := List.exists_cons_of_length_eq_add_one h
 obtain ⟨b, c, rfl⟩ := us2 (us := t) (by simpa using h)
 exact ⟨a, b, c, rfl⟩
theorem Zdi {K : PySem.W.Frag} {h : Heap} {mg : Str -> Option Value} {x : Str} {st : Stmt} {f : Addr} {oc : Value} {od an : Option Addr} {osl : Array (Option Value)} {kV doc pm cdv ct : Value} (X : K.In h) (G : h.Ns mainGlobals mg)
  (a : PySem.W.nsIn K mainGlobals x = some (some (.ref f))) (l : K.lookup f = some ⟨oc, od, .func (PySem.W.fnOf x x (Ze1 st) (Zcj st) (Zak st) .none kV doc pm an cdv ct), osl⟩)
  (c : PySem.W.codeIn K cdv x = true) (k : PySem.W.keepIn K (.ref f) = true) : Tf K mg x st := ⟨f, _, Zz8 l c k, PySem.W.mg_of X G a⟩
theorem Zc5 {P : Program} {w : World} {K : PySem.W.Frag} {mg : Str -> Option Value} {base : Heap} {x : Str} {st : Stmt} {N ps : List Str} {k : Nat} {b : SF} (T : Tf K mg x st) (S : FnScope N ps (Zak st))
  (hbd : ∀ (kV doc pm : Value) (an : Option Addr) (cdv ct : Value) (us : List Value), us.length = ps.length -> bindArgs (PySem.W.fnOf x x (Ze1 st) (Zcj st) (Zak st) .none kV doc pm an cdv ct) ⟨us, []⟩ = pure (ps.zip us))
  (hb : ∀ (f : Addr) (cdv : Value) (A : Around) (outer : List Env) (s : Shared) (H : Hp) (E : XK), Room k (A.deeper (envOfC x (Zak st) s.heap.objs.size f cdv)) →
   Zrv (Zfj CX0 P w K mg base N x (Zak st) f cdv A outer s H E).nox (Zcj st) b) : Fn P w K mg base (k + 1) x ps (Zb7 ps.length N.length b) := by
 obtain ⟨f, fd, F, hm⟩ := T
 refine ⟨f, fd, fn_f F S fun cdv A outer s H E hr => hb f cdv A outer s H E hr, F.binds hbd, F.kp, hm, ?_⟩
 obtain ⟨oc, od, kV, doc, pm, an, cdv, ct, osl, rfl, lk, hcd⟩ := F.ex
 exact ⟨oc, od, osl, lk⟩
noncomputable def blkB (sc scope : Scope) (N : List Str) (x : Str) (cn : List Str) (ci : List Nat) : Bool :=
 (scope.kind == .function) && scope.names.all (fun y => y.2 != .cell) && scope.names.all (fun y => y.2 != .local || scope.names.lookup y.1 == some .local) && (scope.names.lookup x == some .local) &&
 scope.names.all (fun y => y.2 != .free || sc.names.lookup y.1 == some .cell) && decide (x :: cn).Nodup && (ci.length == cn.length) &&
 (cn.zip ci).all (fun p => N[p.2]? == some p.1 && scope.names.lookup p.1 == some .free && sc.names.lookup p.1 == some .cell)
theorem Zew {P : Program} {w : World} {K : PySem.W.Frag} {mg : Str -> Option Value} {base : Heap} {N : List Str} {qual : Str} {sc scope : Scope} {f : Addr} {cdv : Value} {A : Around} {outer : List Env} {s : Shared} {H : Hp} {E : XK} {x : Str} {cn : List Str} {ci : List Nat}
  (h : blkB sc scope N x cn ci = true) : BlkOk (Zfj CX0 P w K mg base N qual sc f cdv A outer s H E).nox scope x cn ci := by
 unfold blkB at h
 simp only [Bool.and_eq_true, List.all_eq_true, Bool.or_eq_true, bne_iff_ne, ne_eq, beq_iff_eq, decide_eq_true_eq] at h
 obtain ⟨⟨⟨⟨⟨⟨⟨h1, h2⟩, h3⟩, h4⟩, h5⟩, h6⟩, h7⟩, h8⟩ := h
 refine ⟨h1, fun y hy => h2 y hy, fun y hy hl => (h3 y hy).resolve_left fun z => z hl, h4, fun y hy hf => ?_, h6, h7, fun j y hj => ?_⟩
 ·have := (h5 y hy).resolve_left fun z => z hf
  obtain ⟨c, hc⟩ := Zgm (n := s.heap.objs.size + 1) this
  exact Option.isSome_iff_exists.mpr ⟨c, hc⟩
 ·have hl : j < ci.length := by rw [h7]; exact (List.getElem?_eq_some_iff.mp hj).1
  have hm : (y, ci[j]) ∈ cn.zip ci := by
   refine List.mem_iff_getElem?.mpr ⟨j, ?_⟩
   rw [List.getElem?_zip_eq_some]
   exact ⟨hj, by simp [hl]⟩
  obtain ⟨⟨k1, k2⟩, k3⟩ := h8 _ hm
  exact ⟨ci[j], by simp [hl], k1, k2, .inl k3⟩
theorem Zd2 : bootBuiltins "len" = some (.builtin "len") := by decide +kernel
theorem Zj7 : bootBuiltins "abs" = some (.builtin "abs") := by decide +kernel
theorem Zpe : bootBuiltins "min" = some (.builtin "min") := by decide +kernel
theorem Zzp : bootBuiltins "max" = some (.builtin "max") := by decide +kernel
theorem Zkg : bootBuiltins "sorted" = some (.builtin "sorted") := by decide +kernel
theorem Zfs : bootBuiltins "isinstance" = some (.builtin "isinstance") := by decide +kernel
theorem Zmk : bootBuiltins "int" = some (.type "int") := by decide +kernel
theorem Zdh : bootBuiltins "tuple" = some (.type "tuple") := by decide +kernel
theorem Zwk : bootBuiltins "bool" = some (.type "bool") := by decide +kernel
section
variable {X : Cx} {tg : Expr}
theorem Zw8 {K : PySem.W.Frag} {H0 : Hp} {ι0 : List Addr} {a : Addr} {xs : List D} {vs : List V} (hS : SqT K H0 a vs) (P : Paired (Rep K H0 ι0) xs vs) : ItRep K (Itt K a) xs [] H0 ι0 := by
 refine ⟨fun i H2 ι2 Hd2 l2 h2 _ hi => ?_, fun i H2 ι2 Hd2 d x H3 l2 h2 _ hd y => ?_, fun i H2 ι2 Hd2 l2 h2 _ hi => ⟨vs, l2.tup a vs hS, by rw [← Prd.len P]; exact hi⟩⟩
 ·exact ⟨vs, vs[i]'(by rw [← Prd.len P]; exact hi), l2.tup a vs hS, by simp⟩
 ·obtain ⟨rfl, y⟩ := y
  obtain ⟨u, hu, ru⟩ := Prd.get P hd
  have := y vs (l2.tup a vs hS)
  rw [hu] at this
  cases this
  exact ⟨ι2, Le.refl, h2, ru.mono l2⟩
theorem Zzn {K : PySem.W.Frag} {H0 : Hp} {ι0 : List Addr} {a : Addr} {xs : List D} {vs : List V} (hS : FzL K H0 a vs) (P : Paired (Rep K H0 ι0) xs vs) : ItRep K (Itl K a) xs [] H0 ι0 := by
 refine ⟨fun i H2 ι2 Hd2 l2 h2 _ hi => ?_, fun i H2 ι2 Hd2 d x H3 l2 h2 _ hd y => ?_, fun i H2 ι2 Hd2 l2 h2 _ hi => ⟨vs, (l2.fz a vs hS).sq, by rw [← Prd.len P]; exact hi⟩⟩
 ·exact ⟨vs, vs[i]'(by rw [← Prd.len P]; exact hi), (l2.fz a vs hS).sq, by simp⟩
 ·obtain ⟨rfl, y⟩ := y
  obtain ⟨u, hu, ru⟩ := Prd.get P hd
  have := y vs (l2.fz a vs hS).sq
  rw [hu] at this
  cases this
  exact ⟨ι2, Le.refl, h2, ru.mono l2⟩
theorem Zwc {K : PySem.W.Frag} {H0 : Hp} {ι0 : List Addr} {a : Addr} {n : Nat} {xs : List D} (ha : ι0[n]? = some a) : ItRep K (Itl K a) xs [(n, .lst xs)] H0 ι0 := by
 have now : ∀ {H2 : Hp} {ι2 : List Addr} {Hd2 : HD}, Le K H0 ι0 H2 ι2 -> HRep K H2 ι2 Hd2 -> Zcp [(n, DO.lst xs)] Hd2 -> ∃ ws, H2 a = some (.lst ws) ∧ Paired (Rep K H2 ι2) xs ws := fun {H2 ι2 Hd2} l2 h2 ok =>
  h2.obj n a _ (l2.get ha) (ok (n, .lst xs) (by simp))
 refine ⟨fun i H2 ι2 Hd2 l2 h2 ok hi => ?_, fun i H2 ι2 Hd2 d x H3 l2 h2 ok hd y => ?_, fun i H2 ι2 Hd2 l2 h2 ok hi => ?_⟩
 ·obtain ⟨ws, h3, P3⟩ := now l2 h2 ok
  exact ⟨ws, ws[i]'(by rw [← Prd.len P3]; exact hi), SqL.of h3, by simp⟩
 ·obtain ⟨ws, h3, P3⟩ := now l2 h2 ok
  obtain ⟨rfl, y⟩ := y
  obtain ⟨u, hu, ru⟩ := Prd.get P3 hd
  have := y ws (SqL.of h3)
  rw [hu] at this
  cases this
  exact ⟨ι2, Le.refl, h2, ru⟩
 ·obtain ⟨ws, h3, P3⟩ := now l2 h2 ok
  exact ⟨ws, SqL.of h3, by rw [← Prd.len P3]; exact hi⟩
noncomputable def iSq (f : EF) : ItF := fun σ H => (f σ H).bind fun p => (Zfa p.1 p.2).map fun r => (r, p.2)
theorem Zdw {l : Expr} {f : EF} (hl : PEf X l f) : PIf X tg l (iSq f) := by
 rintro pins s σ H R I ⟨ι, σd, Hd, xs, own, Hd', sr, hr, e, q⟩
 obtain ⟨⟨d, H1⟩, e1, e⟩ := Zo e
 obtain ⟨⟨ys, ow⟩, e2, e⟩ := Zm e
 obtain ⟨e3, rfl⟩ := Prod.mk.inj e
 obtain ⟨rfl, rfl⟩ := Prod.mk.inj e3
 refine thn (hl pins s σ H (fun v H1 => ∃ a, v = .ref a ∧ (((∃ xs, SqL X.K H1 a xs) ∧ R (Itl X.K a) H1) ∨ ((∃ xs, SqT X.K H1 a xs) ∧ R (Itt X.K a) H1))) I ⟨ι, σd, Hd, _, _, sr, hr, e1, fun v H' ι' l h r => ?_⟩) fun v s1 ⟨x, H2, I2, r2, q2⟩ => ?_
 ·cases d with
  | tup zs =>
   cases e2
   obtain ⟨a, vs, rfl, hS, P⟩ := Zbj.mp r
   exact ⟨a, rfl, .inr ⟨⟨vs, hS⟩, q _ H' ι' l h (Zw8 hS P)⟩⟩
  | fl zs =>
   cases e2
   obtain ⟨a, vs, rfl, hS, P⟩ := Zgd.mp r
   exact ⟨a, rfl, .inl ⟨⟨vs, hS.sq⟩, q _ H' ι' l h (Zzn hS P)⟩⟩
  | ref n =>
   simp only [Zfa] at e2
   split at e2
   ·rename_i zs eo
    obtain ⟨e5, e6⟩ := Prod.mk.inj (Option.some.inj e2)
    subst e5 e6
    obtain ⟨a, rfl, ha⟩ := Za3.mp r
    obtain ⟨vs, h1, P⟩ := h.obj n a _ ha eo
    exact ⟨a, rfl, .inl ⟨⟨vs, SqL.of h1⟩, q _ H' ι' l h (Zwc ha)⟩⟩
   ·cases e2
  | _ => simp [Zfa] at e2
 ·obtain ⟨a, rfl, q2⟩ := q2
  cases r2
  have fp : ∀ b ∈ [s1.heap.objs.size], Zl0 X pins H2 b := fun b hb => by
   have e : b = s1.heap.objs.size := by simpa using hb
   subst e
   exact I2.fpOk (Nat.le_refl _) (I2.hok.fresh (Nat.le_refl _))
  rcases q2 with ⟨⟨xs, hq⟩, q2⟩ | ⟨⟨xs, hq⟩, q2⟩
  ·obtain ⟨its, rv, p, hz⟩ := I2.list hq
   exact wpAny_pyIter_list p.isList ⟨s1.heap.objs.size, [s1.heap.objs.size], _, _, H2, rfl, I2.kept (t' := s1.toks) fun b o e => Heap.get?_push_of_some _ e, Zp0 a _, ⟨_, Heap.get?_push_size _ rfl, rfl, rfl⟩, fp, q2⟩
  ·obtain ⟨its, rv, p, hz⟩ := I2.tuple hq
   exact wpAny_pyIter_tuple (show s1.heap.IsTuple a its.toArray from p) ⟨s1.heap.objs.size, [s1.heap.objs.size], _, _, H2, rfl, I2.kept (t' := s1.toks) fun b o e => Heap.get?_push_of_some _ e, Zn2 a _, ⟨_, Heap.get?_push_size _ rfl, rfl, rfl⟩, fp, q2⟩
end
theorem Zag {X : Cx} {e : Expr} {es : List Expr} {f : EF} {g : AF} (ha : PEf X e f) (hr : PAf X es g) (hs : Zm6 e = true) : PAf X (e :: es) (Zaa f g) := Znd ha hr (Zbe hs)
noncomputable def Zxq (F : FF) (K : PySem.W.Frag) : Sp := spF K 1 F
theorem Zrm {F : FF} (h : ∀ ns : List Int, ns.length ≤ 63 -> ∃ Hd', F [.fl (ns.map .int)] [] = some (.bl true, Hd')) :
  ∀ (K : PySem.W.Frag) (H : Hp) (a : Addr) (ns : List Int), ns.length ≤ 63 -> Zxw H -> SqL K H a (ns.map V.int) -> Zxq F K [.ref a] H (fun v _ => v = .bl true) fun _ _ _ => False := by
 intro K H a ns hl hO hS
 obtain ⟨Hd', e⟩ := h ns hl
 have fz : FzL K H a (ns.map V.int) := by
  rcases hS with (h | h) | h
  ·rcases hO a with z | ⟨o, xs, z⟩
   ·rw [h] at z; cases z
   ·rw [h] at z; cases z
  ·exact .inl h
  ·exact .inr h
 have P : Paired (Rep K H []) (ns.map D.int) (ns.map V.int) := by
  generalize ns = ks
  induction ks with
  | nil => exact .nil
  | cons k ks ih => exact .cons (by simp) ih
 refine ⟨[], [.fl (ns.map .int)], [], .bl true, Hd', rfl, ⟨rfl, List.nodup_nil, fun n a o h1 h2 => by simp at h1⟩, .cons (Zgd.mpr ⟨a, _, rfl, fz, P⟩) .nil, e, fun v H' ι' l h r => by simpa using r⟩
variable {X : Cx}
end DL
namespace HT
open PySem PySem.Spec PyProof.Rows
section
variable {prog : Program} {w : World} {A : Around} {E : Value -> Shared -> Prop} {s : Shared}
end
end HT
namespace DL
open PySem PySem.Spec PyProof.Rows L2
variable {X : Cx}
section
variable {a b c : Expr} {pos : Pos}
noncomputable def eCh (g g' : F2) (fa fb fc : EF) : EF := fun σ H => (fa σ H).bind fun p => (fb σ p.2).bind fun q => (g p.1 q.1 q.2).bind fun z => (blD z.1).bind fun k => if k = true then (fc σ z.2).bind fun w => g' q.1 w.1 w.2 else some (.bl false, z.2)
theorem Zs8 {fa fb fc : EF} {g g' : F2} {σ : L2.St} {H : Hp} {Q : VK} {K : PySem.W.Frag} (h : rdE K (eCh g g' fa fb fc) σ H Q) : Zua (rd2 K g) (rd2 K g') (rdE K fa) (rdE K fb) (rdE K fc) σ H Q := by
 obtain ⟨ι, σd, Hd, d, Hd', s, hr, e, q⟩ := h
 obtain ⟨⟨x, H1⟩, e1, e⟩ := Zo e
 obtain ⟨⟨y, H2⟩, e2, e⟩ := Zo e
 obtain ⟨⟨z, H3⟩, e3, e⟩ := Zo e
 obtain ⟨k, e4, e⟩ := Zo e
 refine ⟨ι, σd, Hd, x, H1, s, hr, e1, fun v1 H1' ι1 l1 h1 r1 => ⟨ι1, σd, H1, y, H2, s.mono l1, h1, e2, fun v2 H2' ι2 l2 h2 r2 => ⟨ι2, x, y, H2, z, H3, h2, r1.mono l2, r2, e3, fun v3 H3' ι3 l3 h3 r3 => ⟨k, Zhi e4 r3, ?_⟩⟩⟩⟩
 cases k with
 | true =>
  rw [if_pos rfl] at e ⊢
  obtain ⟨⟨u, H4⟩, e5, e⟩ := Zo e
  exact ⟨ι3, σd, H3, u, H4, s.mono ((l1.trans l2).trans l3), h3, e5, fun v4 H4' ι4 l4 h4 r4 => ⟨ι4, y, u, H4, d, Hd', h4, r2.mono (l3.trans l4), r4, e, fun v H' ι' l h r => q v H' ι' ((((l1.trans l2).trans l3).trans l4).trans l) h r⟩⟩
 | false =>
  rw [if_neg (by simp)] at e ⊢
  obtain ⟨rfl, rfl⟩ := Prod.mk.inj (Option.some.inj e)
  exact q _ H3' ι3 ((l1.trans l2).trans l3) h3 (by simp)
theorem Zk3 {op op' : CmpOp} {g g' : F2} {fa fb fc : EF} (ho : OpF X (compareOp op) g) (ho' : OpF X (compareOp op') g') (ha : PEf X a fa) (hb : PEf X b fb) (hc : PEf X c fc)
  (hm : lastMarks [op, op'] [b, c] = false) : PTf X (.Compare a [op, op'] [b, c] pos) (tOf (eCh g g' fa fb fc)) := by
 refine PTi (Zr4 ho ho' ha hb hc hm) fun σ H Q zz => ?_
 obtain ⟨ι, σd, Hd, bb, Hd', s, hr, e, q⟩ := zz
 obtain ⟨⟨x, H1⟩, e1, e⟩ := Zo e
 obtain ⟨b', eb, e⟩ := Zm e
 cases e
 exact Zs8 ⟨ι, σd, Hd, x, H1, s, hr, e1, fun v H' ι' l h r => ⟨bb, Zhi eb r, q H' ι' l h⟩⟩
end
noncomputable def Gc (K : PySem.W.Frag) (mg : Str -> Option Value) (x : Str) (d : D) : Prop := ∃ u v, mg x = some u ∧ Zcn v u ∧ ∀ H ι, Rep K H ι d v
theorem Zx3 {x : Str} {d : D} {pos : Pos} (hg : Gl X x) (h : Gc X.K X.mg x d) (hd : (x == ("__debug__" : Str)) = false := by decide) : PEf X (.Name x pos) (eC d) := by
 obtain ⟨u, v, hm, r, rp⟩ := h
 exact Zo1 (Zlh (v := v) hg hm r hd) rp
variable {X : Cx}
noncomputable def Zbb (kvs : List (D × D)) (k : List Int) : Option D := (kvs.find? fun p => nk p.1 == some k).map (·.2)
noncomputable def Zlc (kvs : List (D × D)) (kd : D) (k : List Int) (vd : D) : List (D × D) :=
 if (Zbb kvs k).isSome then kvs.map (fun p => if nk p.1 = some k then (p.1, vd) else p) else kvs ++ [(kd, vd)]
section
variable {K : PySem.W.Frag} {H : Hp} {ι : List Addr}
theorem Zhg {kvs : List (D × D)} {xs : List (List Int × Addr × Value)} (h : Paired (Zoj K H ι) kvs xs) (k : List Int) :
  (Zbb kvs k = none ∧ atKey xs k = none) ∨ ∃ vd b u v, Zbb kvs k = some vd ∧ atKey xs k = some (b, u) ∧ Zcn v u ∧ Rep K H ι vd v := by
 unfold Zbb atKey
 induction h with
 | nil => exact .inl ⟨rfl, rfl⟩
 | @cons p x ps ys r t ih =>
  obtain ⟨r1, r2, v, r3, r4⟩ := r
  by_cases hk : x.1 = k
  ·have e1 : (nk p.1 == some k) = true := by rw [r1, hk]; simp
   refine .inr ⟨p.2, x.2.1, x.2.2, v, ?_, ?_, r3, r4⟩
   ·rw [List.find?_cons]; simp only [e1]; rfl
   ·rw [List.find?_cons]; simp only [hk, decide_true]; rfl
  ·have e1 : ¬ (nk p.1 == some k) = true := by rw [r1]; simpa using hk
   have e1' : (nk p.1 == some k) = false := by simpa using e1
   have e2' : decide (x.1 = k) = false := decide_eq_false hk
   rw [List.find?_cons, List.find?_cons]
   simp only [e1', e2']
   exact ih
theorem Zst {kvs : List (D × D)} {xs : List (List Int × Addr × Value)} {kd vd : D} {k : List Int} {b : Addr} {u : Value} {v : V} (h : Paired (Zoj K H ι) kvs xs) (h1 : nk kd = some k) (h2 : Rep K H ι kd (.ref b)) (rv : Zcn v u) (r : Rep K H ι vd v) :
  Paired (Zoj K H ι) (Zlc kvs kd k vd) (storedH xs k b u) := by
 have all : ∀ {ls : List (D × D)} {ys : List (List Int × Addr × Value)}, Paired (Zoj K H ι) ls ys -> Paired (Zoj K H ι) (ls.map (fun p => if nk p.1 = some k then (p.1, vd) else p)) (ys.map (putAt k u)) := by
  intro ls ys q
  induction q with
  | nil => exact .nil
  | @cons p x ps zs r' t ih =>
   refine .cons ?_ ih
   obtain ⟨r1, r2, r3⟩ := r'
   unfold putAt
   by_cases hk : x.1 = k
   ·have e : nk p.1 = some k := by rw [r1, hk]
    show Zoj K H ι (if nk p.1 = some k then (p.1, vd) else p) (if x.1 = k then (x.1, x.2.1, u) else x)
    rw [if_pos hk, if_pos e]
    exact ⟨r1, r2, v, rv, r⟩
   ·have e : ¬ nk p.1 = some k := by rw [r1]; simpa using hk
    show Zoj K H ι (if nk p.1 = some k then (p.1, vd) else p) (if x.1 = k then (x.1, x.2.1, u) else x)
    rw [if_neg hk, if_neg e]
    exact ⟨r1, r2, r3⟩
 unfold Zlc storedH
 rcases Zhg h k with ⟨e1, e2⟩ | ⟨_, _, _, _, e1, e2, _⟩
 ·rw [e1, e2]
  exact Prd.append h (.cons ⟨h1, h2, v, rv, r⟩ .nil)
 ·rw [e1, e2]
  exact all h
theorem Ztx (kvs : List (D × D)) (kd : D) (k : List Int) (vd : D) : (Zlc kvs kd k vd).length ≤ kvs.length + 1 := by
 unfold Zlc; split <;> simp
end
section
variable {pins : List (Addr × Obj)} {σ : L2.St} {H : Hp} {s : Shared} {ι : List Addr} {Hd : HD}
theorem Zzm {d : D} {v : V} {u : Value} {k : Int} {K : PySem.W.Frag} (e : nkOf d = some k) (r : Rep K H ι d v) (q : Zcn v u) : Zhc k u = true := by
 cases d with
 | bl b => cases e; simp at r; subst r; cases q; simp [Zhc, Zld]
 | int i => cases e; simp at r; subst r; obtain ⟨t, rfl⟩ := q; simp [Zhc, Zld]
 | _ => cases e
theorem Zko {P : Program} {w : World} {K : PySem.W.Frag} : ∀ {ds : List D} {vs : List V} {us : List Value} {ks : List Int}, Zja ds = some ks -> Paired (Rep K H ι) ds vs -> Zbq vs us -> ItemsAre (Zbn P w) ks us
 | [], vs, us, ks, e, p, q => by cases e; cases p; cases q; exact .nil
 | d :: ds, vs, us, ks, e, p, q => by
  cases p with
  | cons p1 p2 =>
   cases q with
   | cons q1 q2 =>
    simp only [Zja] at e
    obtain ⟨k, e1, e⟩ := Zo e
    obtain ⟨r, e2, rfl⟩ := Zm e
    exact .cons (Zzm e1 p1 q1) (Zko e2 p2 q2)
theorem Zj5 (I : Inv X pins σ H s) {d : D} {k : List Int} {b : Addr} (e : nk d = some k) (r : Rep X.K H ι d (.ref b)) : (tupleKind (Zbn X.prog X.w)).is s.heap k b := by
 cases d <;> simp only [nk] at e <;> try cases e
 rename_i ds
 obtain ⟨a, vs, ea, h, P⟩ := Zbj.mp r
 cases ea
 obtain ⟨its, rv, ht, hz⟩ := I.tuple h
 obtain ⟨o, h1, h2, n, h3⟩ := ht
 exact ⟨o, its.toArray, n, h1, h2, h3, by simpa using Zko e P rv⟩
theorem Zgy (I : Inv X pins σ H s) {a : Addr} {kvs : List (D × D)} {fz : Bool} (h : Zom X.K H ι a (.dic kvs fz)) : (a == sysModules) = false ∧ kvs.length ≤ sizeLine ∧ ∃ xs, (if fz = true then ∃ o, H a = some (.frz o (.ext (Zc1 a xs))) else H a = some (.ext (Zc1 a xs))) ∧ Paired (Zoj X.K H ι) kvs xs ∧ s.heap.DictOfH (tupleKind (Zbn X.prog X.w)) a xs := by
 obtain ⟨h1, h2, xs, e, p⟩ := h
 have rd : Rd H a (.ext (Zc1 a xs)) := by
  cases fz with
  | true => rw [if_pos rfl] at e; exact .inr e
  | false => rw [if_neg (by simp)] at e; exact .inl e
 obtain ⟨⟨o, es, ep, g1, g2, g3, g4, g5⟩, _⟩ := (show Zc6 X.prog X.w H s.heap a (.ext (Zc1 a xs)) from rd.ok I.hok)
 refine ⟨h1, h2, xs, e, p, o, es, ep, g1, g2, g3, g4, ?_, g5⟩
 have all : ∀ {l : List (D × D)} {m : List (List Int × Addr × Value)}, Paired (Zoj X.K H ι) l m -> ∀ x ∈ m, (tupleKind (Zbn X.prog X.w)).is s.heap x.1 x.2.1 := by
  intro l m q
  induction q with
  | nil => intro x hx; exact nomatch hx
  | @cons p x ps qs hq t ih =>
   intro y hy
   rcases List.mem_cons.mp hy with e | hy
   ·subst e
    exact Zj5 I hq.1 hq.2.1
   ·exact ih y hy
 exact all p
end
noncomputable def Zry (x : D) (H : HD) : Option (List (D × D)) := match x with
 | .ref n => match H[n]? with
  | some (.dic kvs _) => some kvs
  | _ => none
 | _ => none
theorem Zhl {x : D} {Hd : HD} {kvs : List (D × D)} (e : Zry x Hd = some kvs) : ∃ n fz, x = .ref n ∧ Hd[n]? = some (.dic kvs fz) := by
 cases x <;> simp only [Zry] at e <;> try cases e
 rename_i n
 split at e
 ·rename_i fz h; cases e; exact ⟨n, fz, rfl, h⟩
 ·cases e
noncomputable def Zd0 : F2 := fun x y H => (Zry x H).bind fun kvs => (nk y).bind fun k => (Zbb kvs k).map fun v => (v, H)
theorem Znb {K : PySem.W.Frag} {H : Hp} {ι : List Addr} {d : D} {k : List Int} {v : V} (e : nk d = some k) (r : Rep K H ι d v) : ∃ b, v = .ref b := by
 cases d <;> simp only [nk] at e <;> try cases e
 obtain ⟨a, vs, rfl, _⟩ := Zbj.mp r
 exact ⟨a, rfl⟩
theorem Zn9 (hu : X.A.units + 64 < cLine) : IxF X Zd0 := by
 rintro va sl pins s σ H x y v u Q I rx ry ⟨ι, dx, dy, Hd, d, Hd', hr, r1, r2, e, q⟩ hs
 obtain ⟨kvs, e1, e⟩ := Zo e
 obtain ⟨k, e2, e⟩ := Zo e
 obtain ⟨vd, e3, e⟩ := Zm e
 obtain ⟨rfl, rfl⟩ := Prod.mk.inj e
 obtain ⟨n, fz, rfl, hn⟩ := Zhl e1
 obtain ⟨a, rfl, ha⟩ := Za3.mp r1
 obtain ⟨b, rfl⟩ := Znb e2 r2
 cases rx
 cases ry
 obtain ⟨h1, h2, xs, h3, P, dd⟩ := Zgy I (hr.obj n a _ ha hn)
 have key := Zj5 I e2 r2
 rcases Zhg P k with ⟨z, _⟩ | ⟨vd', b', u', v', z1, z2, z3, z4⟩
 ·rw [z] at e3; cases e3
 ·rw [z1] at e3; cases e3
  have ty : s.TypeIs (.ref a) "dict" := dd.typeIs
  refine tail_any (ops := [.ref a, .ref b]) ty PySem.F.slot_dict_getitem.lookup (wpAny_getItem_heap (knd := tupleKind (Zbn X.prog X.w)) (tupleKind_room_in1 (by omega)) key dd z2 ?_) hs
  exact ⟨v', H, I.tok _, z3, q _ H ι Le.refl hr z4⟩
noncomputable def dinD : F2 := fun x y H => (Zry y H).bind fun kvs => (nk x).map fun k => (.bl (Zbb kvs k).isSome, H)
theorem dinf (hu : X.A.units + 64 < cLine) : OpF X (compareOp .In) dinD := by
 rintro pins s σ H x y v u Q I rx ry ⟨ι, dx, dy, Hd, d, Hd', hr, r1, r2, e, q⟩
 obtain ⟨kvs, e1, e⟩ := Zo e
 obtain ⟨k, e2, e⟩ := Zm e
 obtain ⟨rfl, rfl⟩ := Prod.mk.inj e
 obtain ⟨n, fz, rfl, hn⟩ := Zhl e1
 obtain ⟨a, rfl, ha⟩ := Za3.mp r2
 obtain ⟨b, rfl⟩ := Znb e2 r1
 cases rx
 cases ry
 obtain ⟨h1, h2, xs, h3, P, dd⟩ := Zgy I (hr.obj n a _ ha hn)
 refine wpAny_in_heap (knd := tupleKind (Zbn X.prog X.w)) (tupleKind_room_in1 (by omega)) (Zj5 I e2 r1) h1 dd ?_
 have e3 : (atKey xs k).isSome = (Zbb kvs k).isSome := by
  rcases Zhg P k with ⟨z1, z2⟩ | ⟨_, _, _, _, z1, z2, _⟩ <;> rw [z1, z2] <;> rfl
 rw [e3]
 exact ⟨.bl _, H, I.tok _, rfl, q _ H ι Le.refl hr (by simp)⟩
noncomputable def eDN : EF := fun _ H => some (.ref H.length, H ++ [.dic [] false])
theorem Zji {pos : Pos} : PEf X (.Dict [] [] pos) eDN := by
 rintro pins s σ H Q I ⟨ι, σd, Hd, d, Hd', sr, hr, e, q⟩
 cases e
 have hb : sysModules < s.heap.objs.size := Nat.lt_trans (by decide) (show mainGlobals < s.heap.objs.size from (I.mod.glob.keeps I.bk).lt)
 have hp := I.hok.fresh (Nat.le_refl s.heap.objs.size)
 have ok : Zc6 X.prog X.w (upd H s.heap.objs.size (.ext (Zc1 s.heap.objs.size []))) (s.heap.push { cls := .type "dict", data := .dict #[] }) s.heap.objs.size (.ext (Zc1 s.heap.objs.size [])) :=
  ⟨⟨_, #[], 0, Heap.get?_push_size _ rfl, ⟨rfl, rfl, rfl⟩, rfl, rfl, List.nodup_nil⟩, ⟨_, Heap.get?_push_size _ rfl⟩, fun h1 h2 d k => Zc1.keep d k⟩
 refine wpAny_Dict_empty ⟨.ref s.heap.objs.size, _, I.laid (a := s.heap.objs.size) (o := .ext (Zc1 s.heap.objs.size [])) (t' := s.toks) (fun _ _ q => Heap.get?_push_of_some _ q) (Nat.le_refl _) ok, rfl, ?_⟩
 have hl : ι.length = Hd.length := hr.len
 refine q _ _ (ι ++ [s.heap.objs.size]) (Le.fresh1 hp _) (hr.new hp ⟨beq_eq_false_iff_ne.mpr (Ne.symm (Nat.ne_of_lt hb)), Nat.zero_le _, [], by rw [if_neg (by simp)]; exact upd_same, .nil⟩) (Za3.mpr ⟨_, rfl, by rw [← hl]; simp⟩)
noncomputable def Zlj : Zxg := fun o i v H => match o with
 | .ref n => match H[n]? with
  | some (.dic kvs false) => (nk i).bind fun k => if kvs.length < sizeLine then some (H.set n (.dic (Zlc kvs i k v) false)) else none
  | _ => none
 | _ => none
theorem Zk8 {pins : List (Addr × Obj)} {σ : L2.St} {H : Hp} {s : Shared} {a : Addr} {xs xs' : List (List Int × Addr × Value)} {h' : Heap} {t' : Nat} (I : Inv X pins σ H s) (h3 : H a = some (.ext (Zc1 a xs))) (dd : h'.DictOfH (tupleKind (Zbn X.prog X.w)) a xs') (hs : Heap.SameBut a s.heap h') :
  Inv X pins σ (upd H a (.ext (Zc1 a xs'))) { s with heap := h', toks := t' } := by
 obtain ⟨o, es, ep, g1, g2, g3, g4, _, g5⟩ := dd
 have ok : Zc6 X.prog X.w (upd H a (.ext (Zc1 a xs'))) h' a (.ext (Zc1 a xs')) := ⟨⟨o, es, ep, g1, g2, g3, g4, g5⟩, ⟨o, g1⟩, fun h1 h2 d k => Zc1.keep d k⟩
 exact I.write (x := a) (e := a) (by rw [h3]; exact True.intro) (.inl rfl) (fun b q hb z => (hs.2 b hb).trans z) ⟨o, g1⟩ ok
theorem Zpj {H : Hp} {ι : List Addr} {Hd : HD} {n : Nat} {a : Addr} {kvs : List (D × D)} {xs : List (List Int × Addr × Value)} {kd vd : D} {k : List Int} {b : Addr} {u : Value} {v : V} (hr : HRep X.K H ι Hd) (ha : ι[n]? = some a) (h1 : (a == sysModules) = false) (hl : kvs.length < sizeLine) (h3 : H a = some (.ext (Zc1 a xs))) (P : Paired (Zoj X.K H ι) kvs xs) (e2 : nk kd = some k) (r2 : Rep X.K H ι kd (.ref b)) (rv : Zcn v u) (r3 : Rep X.K H ι vd v) :
  Le X.K H ι (upd H a (.ext (Zc1 a (storedH xs k b u)))) ι ∧ HRep X.K (upd H a (.ext (Zc1 a (storedH xs k b u)))) ι (Hd.set n (.dic (Zlc kvs kd k vd) false)) := by
 have L : Le X.K H ι (upd H a (.ext (Zc1 a (storedH xs k b u)))) ι := Le.upd (List.mem_of_getElem? ha) h3 trivial _
 refine ⟨L, hr.upd ha h3 trivial ⟨h1, ?_, _, by rw [if_neg (by simp)]; exact upd_same, ?_⟩⟩
 ·have := Ztx kvs kd k vd; omega
 ·refine Zst (Prd.imp P fun p x _ z => ⟨z.1, z.2.1.mono L, let ⟨v, z1, z2⟩ := z.2.2; ⟨v, z1, z2.mono L⟩⟩) e2 (r2.mono L) rv (r3.mono L)
theorem Zyb (hu : X.A.units + 64 < cLine) : Zwu X Zlj := by
 rintro pins s σ H o i v ov iv u Q I ro ri rv ⟨ι, od, id, vd, Hd, Hd', hr, r1, r2, r3, e, q⟩
 cases od <;> simp only [Zlj] at e <;> try cases e
 rename_i n
 split at e
 ·rename_i kvs hn
  obtain ⟨k, e2, e⟩ := Zo e
  split at e
  ·rename_i hl
   cases e
   obtain ⟨a, rfl, ha⟩ := Za3.mp r1
   obtain ⟨b, rfl⟩ := Znb e2 r2
   cases ro
   cases ri
   obtain ⟨h1, h2, xs, h3, P, dd⟩ := Zgy I (hr.obj n a _ ha hn)
   rw [if_neg (by simp)] at h3
   have hz : xs.length ≤ sizeLine := by rw [← Prd.len P]; exact h2
   refine wpAny_setItem_heap (knd := tupleKind (Zbn X.prog X.w)) (hsz := hz) (tupleKind_room_in1 (by omega)) (Zj5 I e2 r2) dd fun h' dd' hs => ?_
   obtain ⟨L, hr'⟩ := Zpj hr ha h1 hl h3 P e2 r2 rv r3
   exact ⟨_, Zk8 I h3 dd' hs, q _ ι L hr'⟩
  ·cases e
 ·cases e
section
variable {prog : Program} {w : World} {kd : HeapKind prog w (List Int)} {A : Around} {E : Value -> Shared -> Prop} {s : Shared}
theorem Zlt {d b : Addr} {xs : List (List Int × Addr × Value)} {k : List Int} {v : Value} {Q : Value -> Shared -> Prop} (rm : kd.room A) (key : kd.is s.heap k b) (dm : s.heap.DictOfH kd d xs) (sz : xs.length ≤ sizeLine)
  (old : ∀ p, atKey xs k = some p -> Q p.2 { s with toks := s.toks + kd.draws k })
  (new : atKey xs k = none -> ∀ h2, h2.DictOfH kd d (storedH xs k b v) -> Heap.SameBut d s.heap h2 -> Q v { s with heap := h2, toks := s.toks + kd.draws k }) :
  wpAny (model prog w) A (dictSetDefault d (.ref b) v) Q E s := by
 obtain ⟨ob, es, ep, g1, g2, g3, g4, g5, g6⟩ := dm
 unfold dictSetDefault
 refine wpAny_holding (wpAny_bind (kd.pyHash rm key (wpAny_bind (wpAny_dictFind_heap (s := { s with toks := s.toks + kd.draws k }) rm key g1 g3 g4 g5 g6 (fun no => ?_) (fun j p hj => ?_)))))
 ·have em := atKey_none_of_get no
  have sm : ∀ f, Heap.SameBut d s.heap (s.heap.update d f) := fun f => Heap.SameBut.update ..
  have len := size_of_entries g4
  refine wpAny_bind (wpAny_rule (wpAny_bind (wpAny_updateDictKeys (s := { s with toks := s.toks + kd.draws k }) (hz := by omega) g1 g3 (wpAny_pure (new em _ ?_ (sm _))))))
  refine ⟨_, _, ep + 1, Heap.get?_update_self _ g1 (Obj.isFreed_of_dict (Obj.data_mapDictKeys g3 _)), g2.mapDictKeys _, Obj.data_mapDictKeys g3 _, ?_⟩
  rw [storedH_new em]
  refine ⟨by simp [g4, entryOfKey], fun x hx => ?_, ?_⟩
  ·have one : kd.is s.heap x.1 x.2.1 := by
    rcases List.mem_append.mp hx with hx | hx
    ·exact g5 x hx
    ·rw [List.mem_singleton.mp hx]; exact key
   exact kd.keeps one g1 g3 (sm _)
  ·have nm := not_mem_keys_of_get no
   rw [List.map_append, List.nodup_append]
   refine ⟨g6, by simp, fun x hx y hy e => nm ?_⟩
   have yk : y = k := by simpa using hy
   rw [← yk, ← e]
   exact hx
 ·have ae := entry_at g4 j
  rw [hj] at ae
  refine wpAny_bind (wpAny_dictEntries (s := { s with toks := s.toks + kd.draws k }) g1 g3 ?_)
  rw [ae]
  exact wpAny_bind (wpAny_rule (wpAny_pure (old p (atKey_of_get g6 hj))))
end
noncomputable def Zh0 (x : D) (ds : List D) (H : HD) : Option (D × HD) := match x, ds with
 | .ref n, [y, v] => match H[n]? with
  | some (.dic kvs false) => (nk y).bind fun k => if kvs.length < sizeLine then match Zbb kvs k with
   | some z => some (z, H)
   | none => some (v, H.set n (.dic (Zlc kvs y k v) false))
   else none
  | _ => none
 | _, _ => none
theorem Zva (hu : X.A.units + 64 < cLine) : MtF X "dict.setdefault" Zh0 := by
 rintro pins s σ H x xs v us Q I rx rv ⟨ι, dx, ds, Hd, d, Hd', hr, r1, P1, e, q⟩
 unfold Zh0 at e
 split at e
 ·rename_i n y vd
  split at e
  ·rename_i kvs hn
   obtain ⟨k, e2, e⟩ := Zo e
   split at e
   ·rename_i hl
    obtain ⟨a, rfl, ha⟩ := Za3.mp r1
    obtain ⟨v1, v2, rfl, ry, rd⟩ := Zuz P1
    obtain ⟨b, rfl⟩ := Znb e2 ry
    cases rx
    cases rv with
    | cons q1 rv =>
     cases rv with
     | cons q2 rv =>
      cases rv
      cases q1
      rename_i u2
      obtain ⟨h1, h2, ys, h3, P, dd⟩ := Zgy I (hr.obj n a _ ha hn)
      rw [if_neg (by simp)] at h3
      have hz : ys.length ≤ sizeLine := by rw [← Prd.len P]; exact h2
      have ty : s.TypeIs (.ref a) "dict" := dd.typeIs
      have body : wpAny (model X.prog X.w) X.A.in1 (Builtin.«dict.setdefault» ⟨[.ref a, .ref b, u2], []⟩) (fun fin s' => ∃ r, fin = .done (.ret r) ∧ EP X pins σ Q r s') X.xe s := by
       unfold Builtin.«dict.setdefault» Builtin.Dict.keyAndDefault
       refine wpAny_bind (wpAny_bind (wpAny_notOrdered_dict ty (wpAny_pure ?_)))
       show wpAny _ _ (if (a == sysModules) = true then _ else (dictSetDefault a (.ref b) u2 >>= _)) _ _ s
       rw [if_neg (by rw [h1]; decide)]
       refine wpAny_bind (Zlt (kd := tupleKind (Zbn X.prog X.w)) (show (tupleKind (Zbn X.prog X.w)).room X.A.in1 from (by show X.A.units + 1 < cLine; omega)) (Zj5 I e2 ry) dd hz (fun p hp => ?_) (fun hp h2' dd' hs => ?_))
       ·rcases Zhg P k with ⟨_, z⟩ | ⟨vd', b', u', v', z1, z2, z3, z4⟩
        ·rw [z] at hp; cases hp
        ·rw [z2] at hp; cases hp
         rw [z1] at e; cases e
         exact wpAny_pure ⟨_, rfl, v', H, I.tok _, z3, q _ H ι Le.refl hr z4⟩
       ·rcases Zhg P k with ⟨z, _⟩ | ⟨vd', b', u', v', z1, z2, z3, z4⟩
        ·rw [z] at e; cases e
         obtain ⟨L, hr'⟩ := Zpj hr ha h1 hl h3 P e2 ry q2 rd
         exact wpAny_pure ⟨_, rfl, v2, _, Zk8 I h3 dd' hs, q2, q _ _ ι L hr' (rd.mono L)⟩
        ·rw [z2] at hp; cases hp
      exact wpAny_call_entry PySem.F.slot_dict_setdefault ty PySem.F.entry_dict_setdefault body (PySem.F.args_dict_setdefault_3 _ _ _)
   ·cases e
  ·cases e
 ·cases e
noncomputable def Zlp : D -> HD -> Bool
 | .ref n, H => match H[n]? with
  | some (.dic _ _) => true
  | _ => false
 | _, _ => false
noncomputable def eDM (g : D -> List D -> HD -> Option (D × HD)) (fo : EF) (f : AF) : EF := fun σ H => (fo σ H).bind fun o => if Zlp o.1 o.2 = true then (f σ o.2).bind fun p => g o.1 p.1 p.2 else none
theorem Ztb {pins : List (Addr × Obj)} {σ : L2.St} {H : Hp} {s : Shared} {ι : List Addr} {Hd : HD} {x : D} {v : V} {u : Value} (I : Inv X pins σ H s) (hr : HRep X.K H ι Hd) (r : Rep X.K H ι x v) (rv : Zcn v u) (e : Zlp x Hd = true) :
  s.TypeIs u "dict" ∧ ∀ b, u = .ref b → ∃ ob, s.heap.get? b = some ob ∧ ob.dict = none := by
 cases x <;> simp only [Zlp] at e <;> try cases e
 rename_i n
 split at e
 ·rename_i kvs fz hn
  obtain ⟨a, rfl, ha⟩ := Za3.mp r
  cases rv
  obtain ⟨_, _, xs, _, _, dd⟩ := Zgy I (hr.obj n a _ ha hn)
  refine ⟨dd.typeIs, fun b eb => ?_⟩
  cases eb
  obtain ⟨ob, _, _, g1, g2, _⟩ := dd
  exact ⟨ob, g1, g2.2.1⟩
 ·cases e
theorem Zp2 {e o : Expr} {es : List Expr} {name : Str} {apos cpos : Pos} {id : String} {g : D → List D → HD → Option (D × HD)} {fo : EF} {f : AF} (slot : Slot "dict" name id) (hty : typeOf (.builtin id) = pure (.type "method_descriptor")) (hm : MtF X id g) (ho : PEf X o fo) (ha : PAf X (e :: es) f)
  (hbase : attributeBase o name X.env (eval o X.env) = eval o X.env := by rfl)
  (hfew : ((backTo cpos (starEach (e :: es) X.env)).all (fun x => !x.1) && (backToKw cpos (keywordEach [] X.env)).all (fun x => x.1.isSome)
   && decide ((e :: es).length + ([] : List Keyword).length + (if ([] : List Keyword).isEmpty then 0 else 1) < 30)) = true := by exact Zmv rfl (by decide))
  (hline : (apos.endLine == cpos.line) = true := by rfl) (hs : starEach (e :: es) X.env = (false, eval e X.env) :: starEach es X.env := by exact Zbe rfl) (hplain : (backTo cpos (starEach es X.env)).any (·.1) = false := by exact Zc0 rfl) :
  PEf X (.Call (.Attribute o name apos) (e :: es) [] cpos) (eDM g fo f) := by
 rintro pins s σ H Q I ⟨ι, σd, Hd, d, Hd', sr, hr, e0, q⟩
 obtain ⟨⟨x, H1⟩, e1, e0⟩ := Zo e0
 dsimp only at e0
 split at e0
 ·rename_i hl
  obtain ⟨⟨y, H2⟩, e2, e0⟩ := Zo e0
  let P1 : VK := fun v1 H1' => ∃ ι1, Le X.K H ι H1' ι1 ∧ HRep X.K H1' ι1 H1 ∧ Rep X.K H1' ι1 x v1
  refine wpAny_Call_method_late hbase hfew hline rfl (thn (ho pins s σ H P1 I ⟨ι, σd, Hd, x, H1, sr, hr, e1, fun v1 H1' ι1 l1 h1 r1 => ⟨ι1, l1, h1, r1⟩⟩) fun v s1 zz => ?_)
  obtain ⟨xv, H1', I1, rx, ι1, l1, h1, r1⟩ := zz
  obtain ⟨t1, t2⟩ := Ztb I1 h1 r1 rx hl
  refine ⟨"dict", id, PySem.F.plainAttrs_dict, slot, hty, t1, t2, ?_⟩
  let P2 : List V -> Hp -> Prop := fun vs H2' => ∃ ι2, Le X.K H ι H2' ι2 ∧ HRep X.K H2' ι2 H2 ∧ Rep X.K H2' ι2 x xv ∧ Paired (Rep X.K H2' ι2) y vs
  have hA := ha cpos pins s1 σ H1' P2 I1 ⟨ι1, σd, H1, y, H2, sr.mono l1, h1, e2, fun vs H2' ι2 l2 h2 r2 => ⟨ι2, l1.trans l2, h2, r1.mono l2, r2⟩⟩
  rw [hs] at hA ⊢
  refine Calls.callWith_builtin (by show (false || (backTo cpos (starEach es X.env)).any (·.1)) = false; rw [hplain] <;> rfl) (Calls.evalArgs_plain ?_)
  exact thn hA fun us s2 ⟨vs, H2', I2, r2, ι2, l2, h2, rx2, rp⟩ => hm pins s2 σ H2' xv vs v us Q I2 rx r2 ⟨ι2, x, y, H2, d, Hd', h2, rx2, rp, e0, fun v H' ι' l h r => q v H' ι' (l2.trans l) h r⟩
 ·cases e0
noncomputable def Znn : FF := fun ds H => match ds with
 | [x] => (Zry x H).map fun kvs => (.int kvs.length, H)
 | _ => none
theorem Zoc : Zgl X (.builtin "len") Znn := by
 rintro pins s σ H xs us Q I rv ⟨ι, ds, Hd, d, Hd', hr, P, e, q⟩
 unfold Znn at e
 split at e
 ·rename_i x
  obtain ⟨kvs, e1, e⟩ := Zm e
  obtain ⟨rfl, rfl⟩ := Prod.mk.inj e
  obtain ⟨n, fz, rfl, hn⟩ := Zhl e1
  obtain ⟨v, rfl, r⟩ := Zjq P
  obtain ⟨a, rfl, ha⟩ := Za3.mp r
  cases rv with
  | cons q1 rv =>
   cases rv
   cases q1
   obtain ⟨h1, h2, ys, _, PK, dd⟩ := Zgy I (hr.obj n a _ ha hn)
   have ty : s.TypeIs (.ref a) "dict" := dd.typeIs
   obtain ⟨ob, es, ep, g1, g2, g3, g4, _⟩ := dd
   have sz : es.size = kvs.length := by
    have a1 := size_of_entries g4
    have a2 := Prd.len PK
    omega
   have l63 : (kvs.length : Int) < 2 ^ 63 := by rw [PySem.sizeLine_eq] at h2; omega
   have ask : ∀ A' E', wpAny (model X.prog X.w) A' (Builtin.«dict.__len__» ⟨[.ref a], []⟩) (fun fin s' => ∃ r, fin = .done (.ret r) ∧ r = .int kvs.length s.toks ∧ s' = { s with toks := s.toks + 1 }) E' s := by
    intro A' E'
    show wpAny _ _ (dictSize a >>= _) _ _ s
    unfold dictSize
    refine wpAny_bind (wpAny_bind (wpAny_dictEntries g1 g3 (wpAny_pure (wpAny_bind (wpAny_pendingCount_other h1 (wpAny_ret_mkInt ?_))))))
    rw [Nat.add_zero, sz]
    exact ⟨rfl, rfl⟩
   refine Calls.call_function_entry kind_len plain_len entry_len (args_len1 _) ?_
   unfold Builtin.«len»
   refine wpAny_bind (m := oneArg "len" _) (wpAny_pure (wpAny_bind (m := callSpecial? (.ref a) (Str.ofString "__len__")) (wpAny_callSpecial?_slot (name := Str.ofString "__len__") ty PySem.F.slot_dict_len
    (wpAny_call_entry PySem.F.slot_dict_len ty PySem.F.entry_dict_len (thn (ask _ _) fun fin s' ⟨r, f1, f2, f3⟩ => ⟨r, f1, ?_⟩) (PySem.F.args_dict_len_1 _)))))
   subst f2 f3
   refine wpAny_bind (wpAny_holding (wpAny_pure (wpAny_bind (wpAny_letGo ?_))))
   show wpAny _ _ (if ((kvs.length : Nat) : Int) < 0 then _ else if ((kvs.length : Nat) : Int) ≥ 2 ^ 63 then _ else _) _ _ _
   rw [if_neg (by omega), if_neg (by omega)]
   exact wpAny_bind (wpAny_mkInt (wpAny_pure ⟨_, rfl, .int kvs.length, H, I.tok _, ⟨_, rfl⟩, q _ H ι Le.refl hr (by simp)⟩))
 ·cases e
section
variable {prog : Program} {w : World} {A : Around} {E : Value -> Shared -> Prop} {s : Shared}
theorem Zsw {d : Addr} {ob : Obj} {es : Array DictEntry} {ep : Nat} {Q : Value -> Shared -> Prop} (h0 : (d == sysModules) = false) (g1 : s.heap.get? d = some ob) (g2 : ob.ExactDict) (g3 : ob.data = .dict es ep)
  (q : Q (.ref s.heap.objs.size) { s with heap := s.heap.push { cls := .type "dict_keyiterator", data := .fields #[.ref d, .int 0 0, .int es.size 0, .int ep 0] } }) : wpAny (model prog w) A (pyIter (.ref d)) Q E s := by
 have ty : s.TypeIs (.ref d) "dict" := ⟨ob, g1, g2.1⟩
 refine wpAny_pyIter_slot ty F.slot_dict_iter (wpAny_call_entry F.slot_dict_iter ty F.entry_dict_iter ?_ (F.args_dict_iter_1 _))
 unfold Builtin.«dict.__iter__» Builtin.Dict.dictSlotNone
 refine wpAny_bind (wpAny_bind (wpAny_notOrdered_dict ty (wpAny_pure ?_)))
 show wpAny _ _ (Builtin.Dict.showsAll d >>= _) _ _ s
 unfold Builtin.Dict.showsAll
 rw [if_neg (by rw [h0]; decide)]
 refine wpAny_bind (wpAny_pure (wpAny_bind (wpAny_dictEntries g1 g3 (wpAny_bind (wpAny_dictEpoch g1 g3 (wpAny_bind (wpAny_newObj_type (wpAny_pure ?_))))))))
 exact ⟨_, rfl, "dict_keyiterator", _, ⟨_, Heap.get?_push_size _ rfl, rfl⟩, F.slot_dict_keyiterator_next.lookup, by simpa [rawInt] using q⟩
theorem Zv2 {d it : Addr} {ob : Obj} {es : Array DictEntry} {i ep : Nat} {Q : Option Value -> Shared -> Prop} (hit : s.heap.IsKeyIter it d i es.size ep) (g1 : s.heap.get? d = some ob) (g3 : ob.data = .dict es ep) (lt : i < es.size)
  (q : ∀ h2, h2.IsKeyIter it d (i + 1) es.size ep -> Heap.SameBut it s.heap h2 -> Q (some es[i].key) { s with heap := h2 }) : wpAny (model prog w) A (pyNext (.ref it)) Q E s := by
 have ty := hit.typeIs
 obtain ⟨oi, i1, i2, i3⟩ := id hit
 have own : Builtin.Dict_items.ownsTuple "dict_keyiterator" = false := by decide
 unfold pyNext
 refine wpAny_bind (wpAny_attempt (wpAny_callSpecial?_slot (name := Str.ofString "__next__") ty F.slot_dict_keyiterator_next (wpAny_call_entry F.slot_dict_keyiterator_next ty F.entry_dict_keyiterator_next ?_ (F.args_dict_keyiterator_next_1 _))))
 refine wpAny_bind (wpAny_pure (wpAny_bind (wpAny_bind ?_)))
 refine wpAny_bind (wpAny_typeNameOfWhole_keyiter ty (wpAny_pure (wpAny_bind (wpAny_fieldsOf i1 i3 ?_))))
 simp only [own, Bool.false_eq_true, if_false]
 show wpAny _ _ (if (Value.ref d == Value.none) = true then _ else _) _ _ s
 have nn : ¬ ((Value.ref d == Value.none) = true) := Bool.false_ne_true
 rw [if_neg nn]
 refine wpAny_bind (wpAny_pure (wpAny_bind (wpAny_dictEntries g1 g3 ?_)))
 rw [if_neg (by simp)]
 refine wpAny_bind (wpAny_pure (wpAny_bind (wpAny_dictEpoch g1 g3 ?_)))
 rw [if_neg (by simp)]
 refine wpAny_pure ?_
 have neg : ¬ ((i : Int) < 0) := by omega
 simp only [neg, if_false, Int.toNat_natCast, Array.getElem?_eq_getElem lt]
 refine wpAny_bind (wpAny_bind (wpAny_typeNameOfWhole_keyiter ty (wpAny_pure (wpAny_bind (wpAny_isOneOf_keyiter ty ?_)))))
 show wpAny _ _ (setField (.ref it) 1 (rawInt ((i : Int) + 1)) >>= _) _ _ s
 let h2 := s.heap.update it (Obj.mapFields (·.setIfInBounds 1 (rawInt ((i : Int) + 1))))
 have it2 : h2.IsKeyIter it d (i + 1) es.size ep :=
  ⟨_, Heap.get?_update_self _ i1 (Obj.isFreed_of_fields (Obj.data_mapFields i3 _)), (Obj.cls_mapFields ..).trans i2, by rw [Obj.data_mapFields i3]; simp [rawInt]⟩
 refine wpAny_bind (wpAny_setField i1 i3 (by simp) (wpAny_bind (wpAny_holding (wpAny_bind (wpAny_isOneOf_keyiter (s := { s with heap := h2 }) it2.typeIs ?_)))))
 show wpAny _ _ (pure es[i].key) _ _ _
 exact wpAny_pure (wpAny_pure ⟨_, rfl, wpAny_pure (q h2 it2 (Heap.SameBut.update ..))⟩)
theorem Zsh {d it : Addr} {ob : Obj} {es : Array DictEntry} {i ep : Nat} {Q : Option Value -> Shared -> Prop} (hh : A.handled = none) (hit : s.heap.IsKeyIter it d i es.size ep) (g1 : s.heap.get? d = some ob) (g3 : ob.data = .dict es ep) (ge : es.size ≤ i)
  (q : ∀ h2, Heap.ExtBut it s.heap h2 -> Q none { s with heap := h2 }) : wpAny (model prog w) A (pyNext (.ref it)) Q E s := by
 have ty := hit.typeIs
 obtain ⟨oi, i1, i2, i3⟩ := id hit
 have own : Builtin.Dict_items.ownsTuple "dict_keyiterator" = false := by decide
 unfold pyNext
 refine wpAny_bind (wpAny_attempt (wpAny_callSpecial?_slot (name := Str.ofString "__next__") ty F.slot_dict_keyiterator_next (wpAny_call_entry F.slot_dict_keyiterator_next ty F.entry_dict_keyiterator_next ?_ (F.args_dict_keyiterator_next_1 _))))
 refine wpAny_bind (wpAny_pure (wpAny_bind (wpAny_bind ?_)))
 refine wpAny_bind (wpAny_typeNameOfWhole_keyiter ty (wpAny_pure (wpAny_bind (wpAny_fieldsOf i1 i3 ?_))))
 simp only [own, Bool.false_eq_true, if_false]
 show wpAny _ _ (if (Value.ref d == Value.none) = true then _ else _) _ _ s
 have nn : ¬ ((Value.ref d == Value.none) = true) := Bool.false_ne_true
 rw [if_neg nn]
 refine wpAny_bind (wpAny_pure (wpAny_bind (wpAny_dictEntries g1 g3 ?_)))
 rw [if_neg (by simp)]
 refine wpAny_bind (wpAny_pure (wpAny_bind (wpAny_dictEpoch g1 g3 ?_)))
 rw [if_neg (by simp)]
 refine wpAny_pure ?_
 have neg : ¬ ((i : Int) < 0) := by omega
 simp only [neg, if_false, Int.toNat_natCast, Array.getElem?_eq_none ge]
 refine wpAny_bind (wpAny_bind (wpAny_typeNameOfWhole_keyiter ty (wpAny_pure ?_)))
 show wpAny _ _ (setField (.ref it) 0 .none >>= _) _ _ s
 refine wpAny_bind (wpAny_setField i1 i3 (by simp) ?_)
 show wpAny _ _ (newExc (.type "StopIteration") [] >>= _) _ _ _
 simp only [newExc, newTuple]
 refine wpAny_bind (wpAny_bind (wpAny_newObj_type (wpAny_bind (m := firstArgMember _ _) (wpAny_of_eq (a := Value.none) (by first | rfl | (simp only [firstArgMember]; rfl)) (wpAny_newObj_type ?_ (by size_fits)))) (by size_fits)))
 simp only [raiseNew]
 refine wpAny_bind (wpAny_handled ?_)
 have hh1 : A.in1.handled = none := hh
 rw [hh1]
 refine wpAny_bind (wpAny_pure (wpAny_throw ?_))
 refine wpAny_bind (wpAny_isInstance (T := "StopIteration") (b := true) (by exact ⟨_, Heap.get?_push_size _ rfl, rfl⟩) isSubtype_stop ?_)
 exact wpAny_pure (q _ (((Heap.SameBut.update ..).extBut.push _).push _))
end
noncomputable def Itd (a : Addr) (ob : Obj) (u : HO) (ks : List Addr) : It :=
 ⟨fun i H => H a = some (.frz ob u) ∧ i < ks.length, fun i H x H' => H' = H ∧ ∃ b, ks[i]? = some b ∧ x = .ref b, fun i H => H a = some (.frz ob u) ∧ ks.length ≤ i⟩
theorem Zr0 {P : Program} {w : World} {K : PySem.W.Frag} {tg : Expr} (a it : Addr) {ob : Obj} {u : HO} {es : Array DictEntry} {ep : Nat} {ks : List Addr} (g3 : ob.data = .dict es ep) (hk : es.toList.map (·.key) = ks.map Value.ref) :
  Turn P w K tg (Itd a ob u ks) [it] it (fun i h => h.IsKeyIter it a i es.size ep) where
 mem := by simp
 obj := fun i h st b hb => by
  have e : b = it := by simpa using hb
  subst e
  obtain ⟨o, e, c, d⟩ := st
  exact ⟨o, e, fun v z => by rw [d] at z; cases z⟩
 keep := fun i h h' st k => st.at fun o e => k it (by simp) o e
 item := by
  intro X hP hw hK hc i pins s σ H E I hf st hg
  subst hP hw hK
  obtain ⟨hq, hx⟩ := hg
  obtain ⟨g1, _⟩ := (show Zc6 X.prog X.w H s.heap a (.frz ob u) from I.hok a _ hq)
  obtain ⟨f0, f1, f2, f3, f4, f5⟩ := hf it (by simp)
  have hl : es.size = ks.length := by
   have := congrArg List.length hk
   simpa using this
  have lt : i < es.size := by omega
  have key : es[i].key = Value.ref ks[i] := by
   have e1 : (es.toList.map (·.key))[i]? = some es[i].key := by simp [lt]
   rw [hk, List.getElem?_map, List.getElem?_eq_getElem hx] at e1
   exact (Option.some.inj e1).symm
  refine Zv2 st g1 g3 lt fun h' st' sb => ?_
  have I1 : Inv X pins σ H { s with heap := h' } := I.turned (t' := s.toks) (fun b o hb e => (sb.2 b hb).trans e) f0 f1 f3 f4 f5
  obtain ⟨o, e, c, d⟩ := id st'
  exact ⟨_, rfl, Zou (s := { s with heap := h' }) e c d (by decide) ⟨.ref ks[i], H, I1, key, ⟨rfl, ks[i], List.getElem?_eq_getElem hx, rfl⟩, st', fun b hb => (hf b hb).1⟩⟩
 done := by
  intro X hP hw hK hc i pins s σ H E I hf st hg
  subst hP hw hK
  obtain ⟨hq, hx⟩ := hg
  obtain ⟨g1, _⟩ := (show Zc6 X.prog X.w H s.heap a (.frz ob u) from I.hok a _ hq)
  obtain ⟨f0, f1, f2, f3, f4, f5⟩ := hf it (by simp)
  have hl : es.size = ks.length := by
   have := congrArg List.length hk
   simpa using this
  exact Zsh (I.ok.hd hc) st g1 g3 (by omega) fun h' eb => ⟨rfl, I.turned (t' := s.toks) (fun b o hb e => eb b o hb e) f0 f1 f3 f4 f5⟩
 self := fun _ _ _ _ _ st h => wpAny_pyIter_keyiter st h
variable {X : Cx} {tg : Expr}
noncomputable def iDic (f : EF) : ItF := fun σ H => (f σ H).bind fun p => match p.1 with
 | .ref n => match p.2[n]? with
  | some (.dic kvs _) => some ((kvs.map (·.1), [(n, .dic kvs true)]), p.2.set n (.dic kvs true))
  | _ => none
 | _ => none
theorem Zox {K : PySem.W.Frag} {H : Hp} {ι : List Addr} {kvs : List (D × D)} {xs : List (List Int × Addr × Value)} (h : Paired (Zoj K H ι) kvs xs) : Paired (Rep K H ι) (kvs.map (·.1)) (xs.map fun x => V.ref x.2.1) := by
 induction h with
 | nil => exact .nil
 | cons r t ih => exact .cons r.2.1 ih
theorem Zwo {l : Expr} {f : EF} (hl : PEf X l f) : PIf X tg l (iDic f) := by
 rintro pins s σ H R I ⟨ι, σd, Hd, xs, own, Hd', sr, hr, e, q⟩
 obtain ⟨⟨x, H1⟩, e1, e⟩ := Zo e
 obtain ⟨n, rfl⟩ : ∃ n, x = .ref n := by cases x <;> first | exact ⟨_, rfl⟩ | cases e
 let P1 : VK := fun v1 H1' => ∃ ι1, Le X.K H ι H1' ι1 ∧ HRep X.K H1' ι1 H1 ∧ Rep X.K H1' ι1 (.ref n) v1
 refine thn (hl pins s σ H P1 I ⟨ι, σd, Hd, .ref n, H1, sr, hr, e1, fun v1 H1' ι1 l1 h1 r1 => ⟨ι1, l1, h1, r1⟩⟩) fun v s1 zz => ?_
 obtain ⟨xv, H1', I1, rx, ι1, l1, h1, r1⟩ := zz
 simp only at e
 split at e
 ·rename_i kvs fz hn
  cases e
  obtain ⟨a, rfl, ha⟩ := Za3.mp r1
  cases rx
  obtain ⟨z1, z2, ys, z3, PK, dd⟩ := Zgy I1 (h1.obj n a _ ha hn)
  obtain ⟨ob, es, ep, g1, g2, g3, g4, g5, g6⟩ := dd
  refine Zsw z1 g1 g2 g3 ?_
  let u : HO := .ext (Zc1 a ys)
  let H2 : Hp := upd H1' a (.frz ob u)
  have keys : es.toList.map (·.key) = (ys.map fun x => x.2.1).map Value.ref := by rw [g4, List.map_map, List.map_map]; rfl
  have da : Zc1 a ys s1.heap := ⟨ob, es, ep, g1, g2, g3, g4, g6⟩
  have okN : ∀ Hx, Zc6 X.prog X.w Hx s1.heap a (.frz ob u) := fun Hx => ⟨g1, da, ⟨ob, g1⟩, fun h1 h2 d k => Zc1.keep d k⟩
  have froz : Inv X pins σ H2 s1 ∧ Le X.K H1' ι1 H2 ι1 := by
   cases fz with
   | false =>
    rw [if_neg (by simp)] at z3
    exact ⟨I1.write (t' := s1.toks) (h' := s1.heap) (x := a) (e := a) (by rw [z3]; exact True.intro) (.inl rfl) (fun b q hb z => z) ⟨ob, g1⟩ (okN _), Le.upd (List.mem_of_getElem? ha) z3 trivial _⟩
   | true =>
    rw [if_pos rfl] at z3
    obtain ⟨o2, z3⟩ := z3
    obtain ⟨g1', _⟩ := (show Zc6 X.prog X.w H1' s1.heap a (.frz o2 (.ext (Zc1 a ys))) from I1.hok a _ z3)
    have eo : o2 = ob := Option.some.inj (g1'.symm.trans g1)
    have eH : H2 = H1' := by
     funext b
     by_cases hb : b = a
     ·subst hb; show upd H1' b (.frz ob u) b = H1' b; rw [upd_same, z3, eo]
     ·exact Zao hb
    rw [eH]
    exact ⟨I1, Le.refl⟩
  obtain ⟨I2, L2'⟩ := froz
  have hr2 : HRep X.K H2 ι1 (H1.set n (.dic kvs true)) := by
   refine ⟨by simp [h1.len], h1.nd, fun m b oc m1 m2 => ?_⟩
   by_cases hm : n = m
   ·subst hm
    rw [ha] at m1; cases m1
    rw [List.getElem?_set] at m2
    rw [if_pos rfl] at m2
    split at m2
    ·cases m2
     exact ⟨z1, z2, ys, by rw [if_pos rfl]; exact ⟨ob, upd_same⟩, Prd.imp PK fun p x _ z => ⟨z.1, z.2.1.mono L2', let ⟨v, w1, w2⟩ := z.2.2; ⟨v, w1, w2.mono L2'⟩⟩⟩
    ·cases m2
   ·rw [List.getElem?_set_ne hm] at m2
    have hb : b ≠ a := fun z => by
     subst z
     exact hm ((List.getElem?_inj (List.getElem?_eq_some_iff.mp ha).1 h1.nd).mp (ha.trans m1.symm))
    exact (h1.obj m b oc m1 m2).step L2'.toLw (Zao hb)
  have I3 : Inv X pins σ H2 { s1 with heap := s1.heap.push { cls := .type "dict_keyiterator", data := .fields #[.ref a, .int 0 0, .int es.size 0, .int ep 0] } } := I2.kept (t' := s1.toks) fun b o e => Heap.get?_push_of_some _ e
  refine ⟨s1.heap.objs.size, [s1.heap.objs.size], _, Itd a ob u (ys.map fun x => x.2.1), H2, rfl, I3, Zr0 a _ g3 keys, ⟨_, Heap.get?_push_size _ rfl, rfl, rfl⟩, fun b hb => ?_, ?_⟩
  ·have e : b = s1.heap.objs.size := by simpa using hb
   subst e
   exact I2.fpOk (Nat.le_refl _) (I2.hok.fresh (Nat.le_refl _))
  ·have fa : H2 a = some (.frz ob u) := upd_same
   have pk := Zox PK
   refine q _ H2 ι1 (l1.trans L2') hr2 ⟨fun i H3 ι3 Hd3 l3 h3 _ hi => ⟨l3.fr _ _ _ fa, ?_⟩, fun i H3 ι3 Hd3 d x H4 l3 h3 _ hd y => ?_, fun i H3 ι3 Hd3 l3 h3 _ hi => ⟨l3.fr _ _ _ fa, ?_⟩⟩
   ·have := Prd.len PK; simp only [List.length_map] at hi ⊢; omega
   ·obtain ⟨rfl, b, hb, rfl⟩ := y
    obtain ⟨v, hv, rv⟩ := Prd.get pk hd
    have ev : v = .ref b := by
     rw [List.getElem?_map] at hv hb
     cases hy : ys[i]? with
     | none => rw [hy] at hv; cases hv
     | some yv => rw [hy] at hv hb; cases hv; cases hb; rfl
    subst ev
    exact ⟨ι3, Le.refl, h3, (rv.mono L2').mono l3⟩
   ·have := Prd.len PK; simp only [List.length_map] at hi ⊢; omega
 ·cases e
noncomputable def Zw7 (n N : Nat) (b : FF -> SF) : Nat -> FF
 | 0 => Zb7 n N fun _ _ => none
 | j + 1 => Zb7 n N (b (Zw7 n N b j))
theorem Zuw {P : Program} {w : World} {K : PySem.W.Frag} {mg : Str -> Option Value} {base : Heap} {x : Str} {st : Stmt} {N ps : List Str} {k : Nat} {b : FF -> SF} (T : Tf K mg x st) (S : FnScope N ps (Zak st))
  (hbd : ∀ (kV doc pm : Value) (an : Option Addr) (cdv ct : Value) (us : List Value), us.length = ps.length -> bindArgs (PySem.W.fnOf x x (Ze1 st) (Zcj st) (Zak st) .none kV doc pm an cdv ct) ⟨us, []⟩ = pure (ps.zip us))
  (hb : ∀ (F : FF) (j : Nat), Fn P w K mg base (k + 1 + j) x ps F -> ∀ (f : Addr) (cdv : Value) (A : Around) (outer : List Env) (s : Shared) (H : Hp) (E : XK), Room (k + 1 + j) (A.deeper (envOfC x (Zak st) s.heap.objs.size f cdv)) →
   Zrv (Zfj CX0 P w K mg base N x (Zak st) f cdv A outer s H E).nox (Zcj st) (b F)) : ∀ j, Fn P w K mg base (k + 1 + j) x ps (Zw7 ps.length N.length b j)
 | 0 => Zc5 (k := k) T S hbd fun f cdv A outer s H E _ => by
  rintro pins s' σ H' E' I ⟨ι, σd, Hd, fl, σd', Hd', _, _, e, _⟩
  cases e
 | j + 1 => Zc5 (k := k + 1 + j) T S hbd fun f cdv A outer s H E hr => hb _ j (Zuw T S hbd hb j) f cdv A outer s H E hr
theorem Zoq {K : PySem.W.Frag} {h : Heap} {mg : Str -> Option Value} {x : Str} {b1 b2 : Bool} {p : Addr} {n : Nat} {osl : Array (Option Value)} (X : K.In h) (G : h.Ns mainGlobals mg) (a : PySem.W.nsIn K mainGlobals x = some (some (.ref p)))
  (l : K.lookup p = some ⟨.type "tuple", none, .seq #[.bool b1, .bool b2] n, osl⟩) : Gc K mg x (.tup [.bl b1, .bl b2]) := by
 refine ⟨_, .ref p, PySem.W.mg_of X G a, rfl, fun H ι => Zbj.mpr ⟨p, [.bl b1, .bl b2], rfl, .inr ⟨_, _, _, l, rfl, rfl, ?_, ?_, rfl⟩, ?_⟩⟩
 ·show 2 ≤ sizeLine
  rw [PySem.sizeLine_eq]; omega
 ·exact .cons rfl (.cons rfl .nil)
 ·exact .cons (by simp) (.cons (by simp) .nil)
section
variable {prog : Program} {w : World} {A : Around} {E : Value -> Shared -> Prop} {s : Shared}
theorem Zwv {T newId : String} {self a : Value} {kw : List (Str × Value)} (hl : typeLookup (.type T) "__init__" = pure (some (.builtin "object.__init__")))
  (hm : Bind.madeBy (.type T) = pure (some newId)) (hne : (some newId != some "object.__new__") = true) :
  Meets (Builtin.«object.__init__» ⟨[self, a], kw⟩) (fun _ R s => s.TypeIs self T ∧ R (.ok (.ret .none)) s) := by
 refine Meets.of_wp fun prog w A R s zz => ?_
 obtain ⟨hT, hq⟩ := zz
 repeat (any_goals (first | assumption | wp_step))
 exact ⟨_, rfl, hq⟩
theorem tc_kw (a v : Value) : checkTypeCall "enumerate" ⟨[a], [("start", v)]⟩ = pure () := by kernel_rfl
theorem nc_kw (a v : Value) : checkBuiltinCall "enumerate.__new__" ⟨[.type "enumerate", a], [("start", v)]⟩ = pure () := by kernel_rfl
open AutoSeq1 (wpAny_loadPart') in
theorem Zq3 (t : Addr) (its : Array Value) (n : Nat) (dct : Option Addr) (sl : Array (Option Value)) (tk0 : Tok) :
  Meets (Builtin.«enumerate.__new__» ⟨[.type "enumerate", .ref t], [("start", .int 1 tk0)]⟩) (fun _ R s => s.heap.get? t = some { cls := .type "tuple", dict := dct, data := .seq its n, slots := sl } ∧
   R (.ok (.ret (.ref (s.heap.push { cls := .type "tuple_iterator", data := .fields #[.ref t, .int 0 0] }).objs.size)))
    { s with heap := (s.heap.push { cls := .type "tuple_iterator", data := .fields #[.ref t, .int 0 0] }).push { cls := .type "enumerate", data := .fields #[.none, .bool false, .ref s.heap.objs.size, rawInt 1, .none, .none] } }) :=
 .of_wp fun prog w A R s h => by
  obtain ⟨hp, g, d, tk, os⟩ := s; obtain ⟨hl, h⟩ := h
  have hsub := sub_enumerate
  have hL : Heap.IsTuple (Shared.heap ⟨hp, g, d, tk, os⟩) t its := ⟨_, hl, rfl, n, rfl⟩
  wp_walk using wpAny_loadPart' hl
  refine wpAny_stack_any fun st => wpAny_pure ?_
  split
  ·rename_i k _ _ _ _ _
   cases (k == Value.type "enumerate") <;> (wp_walk using wpAny_loadPart' hl, wpAny_pyIter_tuple hL; exact ⟨_, rfl, h⟩)
  ·wp_walk using wpAny_loadPart' hl, wpAny_pyIter_tuple hL
   exact ⟨_, rfl, h⟩
end
section
variable {prog : Program} {w : World} {A : Around} {E : Value -> Shared -> Prop} {s : Shared}
theorem Zvf {args : List Value} {kw : List (Str × Value)} {newId : String} {Bn : Builtin} {T : String} {S : PySem.Spec} {Q : Value → Shared → Prop} (ft : TypeCalled T newId "object.__init__") (hne : (some newId != some "object.__new__") = true)
  (hct : checkTypeCall T ⟨args, kw⟩ = pure ()) (hcn : checkBuiltinCall newId ⟨.type T :: args, kw⟩ = pure ()) (entryN : entryFor table newId = some Bn) (g : Meets (Bn ⟨.type T :: args, kw⟩) S)
  (hok : ∀ obj, argsOk "object.__init__" ⟨obj :: args, kw⟩) (gi : ∀ obj, Meets (Builtin.«object.__init__» ⟨obj :: args, kw⟩) (fun _ R s => s.TypeIs obj T ∧ R (.ok (.ret .none)) s))
  (h : S A.in1 (wants (fun obj s₁ => s₁.TypeIs obj T ∧ Q obj s₁) E) s) : wpAny (model prog w) A (call (.type T) args kw) Q E s := by
 obtain ⟨c, tl, hmro⟩ := ft.mro
 have hmade := ft.made
 have hsub := ft.sub
 have n1 := ft.notType
 have n2 := ft.canCreate
 refine wpAny_call (codeAny_of_tree (show wpAny _ _ (callAny (.type T) _) _ _ _ from wpAny_pure ⟨Code.quiet_builtin _ (by decide +kernel), codeAny_builtin F.entry_type_call ?_⟩))
 rw [Around.under_plain (weight_type_call_type T args kw) (units_type_call_type T args kw)]
 repeat (any_goals (first | assumption | wp_step))
 refine codeAny_mono (codeAny_call_builtin ft.plain entryN (wpAny_of_eq hcn (g prog w A.in1 _ s h))) fun r s₁ hr => ?_
 cases r with
 | error e => exact hr
 | ok fl =>
  cases fl with
  | ret obj =>
   obtain ⟨hT, hq⟩ : s₁.TypeIs obj T ∧ Q obj s₁ := hr
   have hli := ft.init.lookup
   have hbi := ft.init.bind obj
   repeat (any_goals (first | assumption | wp_step))
   refine codeAny_mono (codeAny_call_builtin ft.init.plain F.entry_object_init (ft.init.check _ _ _ _ _ _ _ _ hT (hok obj) (gi obj prog w A.in1 (wants (fun r s₂ => r = .none ∧ Q obj s₂) E) s₁ ⟨hT, rfl, hq⟩))) fun r₂ s₂ hr₂ => ?_
   cases r₂ with
   | error e => exact hr₂
   | ok fl₂ =>
    cases fl₂ with
    | ret r =>
     obtain ⟨rfl, hq2⟩ := hr₂
     repeat (any_goals (first | assumption | wp_step))
    | _ => exact hr₂.elim
  | _ => exact hr.elim
theorem Zh5 {M : Model} {pos : Pos} {T : String} {args : List (Bool × Sem Value)} {kws : List (Option Str × Sem Value)} {Q : Value -> Shared -> Prop} (h1 : args.any (·.1) = false) (h2 : kws.any (·.1.isNone) = false)
  (h : wpAny M A (evalArgs (.type T) true args kws) (fun a s₁ => wpAny M A (call (.type T) a.pos a.kw) Q E s₁) E s) : wpAny M A (callWith pos (.type T) [] args kws) Q E s := by
 unfold callWith
 refine wpAny_bind (wpAny_holding (thn h fun a s₁ q => wpAny_bind (wpAny_standAt ?_)))
 simp only [h1, h2, Bool.or_false]
 exact wpAny_bind (wpAny_pure (wpAny_bind (thn q fun r s₂ q2 => wpAny_bind (wpAny_holding (wpAny_point (wpAny_pure q2))))))
theorem Zre (a b v : Value) : argsOk "object.__init__" ⟨[a, b], [("start", v)]⟩ := by
 unfold argsOk
 first | decide +kernel | kernel_rfl | (intro _; kernel_rfl)
theorem Zn1 {t : Addr} {its : Array Value} {tk : Tok} {Q : Value -> Shared -> Prop} (hL : s.heap.IsTuple t its)
  (h : ∀ h', IsEnum h' (s.heap.objs.size + 1) s.heap.objs.size 1 .none -> h'.IsTupleIter s.heap.objs.size t 0 -> h'.objs.size = s.heap.objs.size + 2 →
   (∀ b o, s.heap.get? b = some o -> h'.get? b = some o) -> Q (.ref (s.heap.objs.size + 1)) { s with heap := h' }) :
  wpAny (model prog w) A (call (.type "enumerate") [.ref t] [("start", .int 1 tk)]) Q E s := by
 obtain ⟨⟨k, dct, dt, sl⟩, hl, hc, n, hd⟩ := hL
 replace hc : k = .type "tuple" := hc
 replace hd : dt = .seq its n := hd
 subst hc hd
 refine Zvf F.called_enumerate (by decide) (tc_kw _ _) (nc_kw _ _) F.entry_enumerate_new (Zq3 t its n dct sl tk) (fun obj => Zre _ _ _) (fun obj => Zwv F.called_enumerate.init.lookup F.called_enumerate.made (by decide)) ⟨hl, ?_⟩
 have hz : (s.heap.push { cls := .type "tuple_iterator", data := .fields #[.ref t, .int 0 0] }).objs.size = s.heap.objs.size + 1 := Heap.size_push ..
 show _ ∧ _
 rw [hz]
 have he : IsEnum ((s.heap.push { cls := .type "tuple_iterator", data := .fields #[.ref t, .int 0 0] }).push { cls := .type "enumerate", data := .fields #[.none, .bool false, .ref s.heap.objs.size, rawInt 1, .none, .none] }) (s.heap.objs.size + 1) s.heap.objs.size 1 .none := by
  have q := Heap.get?_push_size (s.heap.push { cls := .type "tuple_iterator", data := .fields #[.ref t, .int 0 0] }) (o := { cls := .type "enumerate", data := .fields #[.none, .bool false, .ref s.heap.objs.size, rawInt 1, .none, .none] }) rfl
  rw [hz] at q; exact q
 exact ⟨⟨_, he, rfl⟩, h _ he ⟨_, Heap.get?_push_of_some _ (Heap.get?_push_size _ rfl), rfl, rfl⟩ (by rw [Heap.size_push, hz]) fun b o x => Heap.get?_push_of_some _ (Heap.get?_push_of_some _ x)⟩
end
variable {X : Cx}
noncomputable def Zmx (f : AF) : ItF := fun σ H => (f σ H).bind fun p => match p.1 with
 | [.tup xs] => some ((Zdz 1 xs, []), p.2)
 | _ => none
theorem Zp8 {es : List Expr} {k : Nat} {tp p pos kp cp : Pos} {cj : Nat} {a : Expr} {f : AF} (hg : Gl X "enumerate") (hm : X.mg "enumerate" = none) (ha : PAf X [a] f) (hs : starEach [a] X.env = [(false, eval a X.env)] := by rfl) :
  PIf X (.Tuple es k tp) (.Call (.Name "enumerate" p) [a] [⟨some "start", .Constant (.int 1) cj cp, kp⟩] pos) (Zmx f) := by
 rintro pins s σ H R I ⟨ι, σd, Hd, xs, own, Hd', sr, hr, e, q⟩
 obtain ⟨⟨ds, H1⟩, e1, e⟩ := Zo e
 dsimp only at e
 split at e
 ·rename_i ys
  cases e
  show wpAny _ _ (do callWith pos (← eval (.Name "enumerate" p) X.env) [] (backTo pos (starEach [a] X.env)) (backToKw pos (keywordEach [⟨some "start", .Constant (.int 1) cj cp, kp⟩] X.env))) _ _ _
  let P1 : List V -> Hp -> Prop := fun vs H' => ∃ ad ws, vs = [.ref ad] ∧ SqT X.K H' ad ws ∧ ∀ (J : It) (H2 : Hp), H2 = H' -> J = Zxj X.K 1 ad -> R J H2
  refine wpAny_bind (Zeu I hg hm boot_enumerate (Zh5 (by rw [hs]; rfl) rfl ?_))
  have hA := ha pos pins s σ H P1 I ⟨ι, σd, Hd, _, _, sr, hr, e1, fun vs H' ι' l h P => by
   obtain ⟨v, rfl, r⟩ := Zjq P
   obtain ⟨ad, ws, rfl, hS, P2⟩ := Zbj.mp r
   refine ⟨ad, ws, rfl, hS, fun J H2 e2 e3 => ?_⟩
   subst e2 e3
   exact q _ _ ι' l h (Zmz hS P2 fun i H x y h => y ws h)⟩
  rw [hs] at hA ⊢
  refine evalArgs_kwB rfl (thn hA fun us s1 zz => ?_)
  obtain ⟨vs, H2, I2, r2, ad, ws, e2, hS, q2⟩ := zz
  subst e2
  obtain ⟨u, rfl, ru⟩ := Zf6 r2
  cases ru
  refine kws_cons (thn (Zum pins s1 σ H2 (fun x H' => x = .int 1 ∧ H' = H2) I2 ⟨rfl, rfl⟩) fun v s2 ⟨x, H3, I3, rx, ex, eH⟩ => kws_nil ?_)
  subst ex eH
  obtain ⟨t, rfl⟩ := rx
  obtain ⟨its, rv, p, hz⟩ := I3.tuple hS
  show wpAny _ _ (call (.type "enumerate") [.ref ad] [("start", .int 1 t)]) _ _ _
  refine Zn1 (show s2.heap.IsTuple ad its.toArray from p) fun h' he hj z' kk => ?_
  have I4 : Inv X pins σ H3 { s2 with heap := h' } := I3.kept (t' := s2.toks) kk
  refine wpAny_pyIter_enum (s := { s2 with heap := h' }) he ?_
  have ne : s2.heap.objs.size + 1 ≠ s2.heap.objs.size := Nat.succ_ne_self _
  refine ⟨s2.heap.objs.size + 1, [s2.heap.objs.size + 1, s2.heap.objs.size], _, Zxj X.K 1 ad, H3, rfl, I4, Zir ad _ _ 1 ne, ⟨.none, by simpa using he, hj⟩, fun b hb => ?_, q2 _ _ rfl rfl⟩
  have : s2.heap.objs.size ≤ b := by
   rcases List.mem_cons.mp hb with rfl | hb
   ·exact Nat.le_succ _
   ·have : b = s2.heap.objs.size := by simpa using hb
    rw [this]; exact Nat.le_refl _
  exact I3.fpOk (b := b) (H' := H3) this (I3.hok.fresh this)
 ·cases e
noncomputable def Itv (K : PySem.W.Frag) (a : Addr) (n : Nat) : It :=
 ⟨fun i H => i < n ∧ ∃ xs, SqL K H a xs ∧ xs.length = n, fun i H x H' => H' = H ∧ ∀ xs, SqL K H a xs -> xs[n - 1 - i]? = some x, fun i _ => n ≤ i⟩
theorem Zsl {P : Program} {w : World} {K : PySem.W.Frag} {tg : Expr} (a it : Addr) (n : Nat) : Turn P w K tg (Itv K a n) [it] it (fun i h => i ≤ n ∧ h.IsRevIter it a ((n : Int) - 1 - (i : Int))) where
 mem := by simp
 obj := fun i h st b hb => by
  have e : b = it := by simpa using hb
  subst e
  obtain ⟨_, o, e, c, d⟩ := st
  exact ⟨o, e, fun v z => by rw [d] at z; cases z⟩
 keep := fun i h h' st k => ⟨st.1, st.2.at fun o e => k it (by simp) o e⟩
 item := by
  intro X hP hw hK hc i pins s σ H E I hf st hg
  subst hP hw hK
  obtain ⟨hi, xs, hq, hx⟩ := hg
  obtain ⟨its, rv, p, hz⟩ := I.list hq
  obtain ⟨f0, f1, f2, f3, f4, f5⟩ := hf it (by simp)
  have lt : n - 1 - i < xs.length := by omega
  obtain ⟨u, hu, ru⟩ := rv.get (List.getElem?_eq_getElem lt)
  have e0 : (n : Int) - 1 - (i : Int) = ((n - 1 - i : Nat) : Int) := by omega
  have st2 := st.2
  rw [e0] at st2
  refine wpAny_pyNext_rev_item st2 p.isList (x := u) (by simpa using hu) fun h' st' sb => ?_
  have I1 : Inv X pins σ H { s with heap := h' } := I.turned (t' := s.toks) (fun b o hb e => (sb.2 b hb).trans e) f0 f1 f3 f4 f5
  obtain ⟨o, e, c, d⟩ := id st'
  have e1 : ((n - 1 - i : Nat) : Int) - 1 = (n : Int) - 1 - ((i + 1 : Nat) : Int) := by omega
  rw [e1] at st'
  exact ⟨u, rfl, Zou (s := { s with heap := h' }) e c d (by decide) ⟨xs[n - 1 - i], H, I1, ru, ⟨rfl, fun ys hy => by rw [I.list_inj hy hq]; exact List.getElem?_eq_getElem lt⟩, ⟨by omega, st'⟩, fun b hb => (hf b hb).1⟩⟩
 done := by
  intro X hP hw hK hc i pins s σ H E I hf st hg
  subst hP hw hK
  obtain ⟨f0, f1, f2, f3, f4, f5⟩ := hf it (by simp)
  have hn : n ≤ i := hg
  have e0 : (n : Int) - 1 - (i : Int) = -1 := by have := st.1; omega
  have st2 := st.2
  rw [e0] at st2
  exact wpAny_pyNext_rev_end (I.ok.hd hc) st2 fun h' eb => ⟨rfl, I.turned (t' := s.toks) (fun b o hb e => eb b o hb e) f0 f1 f3 f4 f5⟩
 self := fun _ _ _ _ _ st h => wpAny_pyIter_revIter st.2 h
variable {X : Cx} {tg : Expr}
noncomputable def Zxk (f : AF) : ItF := fun σ H => (f σ H).bind fun p => match p.1 with
 | [.ref n] => match p.2[n]? with
  | some (.lst xs) => some ((xs.reverse, [(n, .lst xs)]), p.2)
  | _ => none
 | _ => none
theorem Zj9 {a : Expr} {f : AF} {p pos : Pos} (hg : Gl X "reversed") (hm : X.mg "reversed" = none) (ha : PAf X [a] f) (hs : starEach [a] X.env = [(false, eval a X.env)] := by rfl) : PIf X tg (.Call (.Name "reversed" p) [a] [] pos) (Zxk f) := by
 rintro pins s σ H R I ⟨ι, σd, Hd, xs, own, Hd', sr, hr, e, q⟩
 obtain ⟨⟨ds, H1⟩, e1, e⟩ := Zo e
 dsimp only at e
 split at e
 ·rename_i n
  split at e
  ·rename_i zs eo
   cases e
   let P1 : List V -> Hp -> Prop := fun vs H' => ∃ ι', Le X.K H ι H' ι' ∧ HRep X.K H' ι' Hd' ∧ Paired (Rep X.K H' ι') [.ref n] vs
   refine Call_ (Zeu I hg hm boot_reversed (PyProof.Rows.callWith_type1 (thn (ha pos pins s σ H P1 I ⟨ι, σd, Hd, _, _, sr, hr, e1, fun vs H' ι' l h P => ⟨ι', l, h, P⟩⟩) fun us s1 ⟨vs, H2, I2, r2, ι2, l2, h2, P⟩ => ?_) hs rfl))
   obtain ⟨v, rfl, r⟩ := Zjq P
   obtain ⟨ad, rfl, had⟩ := Za3.mp r
   obtain ⟨u, rfl, ru⟩ := Zf6 r2
   cases ru
   obtain ⟨ws, hw, PW⟩ := h2.obj n ad _ had eo
   obtain ⟨its, rv, pl, hz⟩ := I2.list (SqL.of hw)
   have hl : its.toArray.size = zs.length := by rw [List.size_toArray, ← rv.length, Prd.len PW]
   refine call_reversed_list pl.isList ?_
   have it0 : ({ s1 with heap := s1.heap.push (revObj ad ((its.toArray.size : Int) - 1)) } : Shared).heap.IsRevIter s1.heap.objs.size ad ((zs.length : Int) - 1 - ((0 : Nat) : Int)) := ⟨_, Heap.get?_push_size _ rfl, rfl, by rw [hl]; simp [revObj]⟩
   have I3 : Inv X pins σ H2 { s1 with heap := s1.heap.push (revObj ad ((its.toArray.size : Int) - 1)) } := I2.kept (t' := s1.toks) fun b o e => Heap.get?_push_of_some _ e
   refine wpAny_pyIter_revIter it0 ⟨s1.heap.objs.size, [s1.heap.objs.size], _, Itv X.K ad zs.length, H2, rfl, I3, Zsl ad _ _, ⟨Nat.zero_le _, it0⟩, fun b hb => ?_, ?_⟩
   ·have e : b = s1.heap.objs.size := by simpa using hb
    subst e
    exact I2.fpOk (Nat.le_refl _) (I2.hok.fresh (Nat.le_refl _))
   ·have now : ∀ {H3 : Hp} {ι3 : List Addr} {Hd3 : HD}, Le X.K H2 ι2 H3 ι3 -> HRep X.K H3 ι3 Hd3 -> Zcp [(n, DO.lst zs)] Hd3 -> ∃ ws, H3 ad = some (.lst ws) ∧ Paired (Rep X.K H3 ι3) zs ws := fun {H3 ι3 Hd3} l3 h3 ok => by
     have := ok (n, .lst zs) (by simp)
     exact h3.obj n ad _ (l3.get had) this
    refine q _ H2 ι2 l2 h2 ⟨fun i H3 ι3 Hd3 l3 h3 ok hi => ?_, fun i H3 ι3 Hd3 d x H4 l3 h3 ok hd y => ?_, fun i H3 ι3 Hd3 l3 h3 ok hi => (show zs.length ≤ i by simpa using hi)⟩
    ·obtain ⟨ws, w1, w2⟩ := now l3 h3 ok
     exact ⟨by simpa using hi, ws, SqL.of w1, (Prd.len w2).symm⟩
    ·obtain ⟨ws, w1, w2⟩ := now l3 h3 ok
     obtain ⟨rfl, y⟩ := y
     have hi : i < zs.length := by
      have := (List.getElem?_eq_some_iff.mp hd).1
      simpa using this
     rw [List.getElem?_reverse hi] at hd
     obtain ⟨u, hu, ru⟩ := Prd.get w2 hd
     have := y ws (SqL.of w1)
     rw [hu] at this
     cases this
     exact ⟨ι3, Le.refl, h3, ru⟩
  ·cases e
 ·cases e
noncomputable def sWh (t : TF) (b : SF) : Nat -> SF
 | 0 => fun _ _ => none
 | n + 1 => fun σ H => (t σ H).bind fun p => if p.1 = true then (b σ p.2).bind fun q => match q.1 with
   | .nx => sWh t b n q.2.1 q.2.2
   | .ct => sWh t b n q.2.1 q.2.2
   | .bk => some (.nx, q.2.1, q.2.2)
   | .rt d => some (.rt d, q.2.1, q.2.2)
  else some (.nx, σ, p.2)
section
variable {X : Cx} {c : Expr} {pos : Pos}
theorem Zpn {body : List Stmt} {t : TF} {b : SF} {n : Nat} (hp : PassesOwn (model X.prog X.w) X.A X.env X.xe) (hc : PTf X c t) (hb : Zrv X body b) : PSf X (.While c body [] pos) (sWh t b n) := by
 refine PSi (Zsp hp hc hb) fun E σ H zz => ?_
 obtain ⟨ι, σd, Hd, fl, σf, Hf, s, hr, e, q⟩ := zz
 refine ⟨fun m σ' H' => ∃ ι' σd' Hd', Le X.K H ι H' ι' ∧ SRep X.K H' ι' σ' σd' ∧ HRep X.K H' ι' Hd' ∧ sWh t b m σd' Hd' = some (fl, σf, Hf), ⟨n, ι, σd, Hd, Le.refl, s, hr, e⟩, ?_⟩
 rintro m σ1 H1 ⟨ι1, σd1, Hd1, l1, s1, h1, e1⟩
 cases m with
 | zero => cases e1
 | succ m =>
  rw [sWh] at e1
  obtain ⟨⟨x, H2⟩, e2, e1⟩ := Zo e1
  refine ⟨ι1, σd1, Hd1, x, H2, s1, h1, e2, fun H3 ι3 l3 h3 => ?_⟩
  cases x with
  | true =>
   rw [if_pos rfl]
   dsimp only at e1
   rw [if_pos rfl] at e1
   obtain ⟨⟨f4, σ4, H4⟩, e4, e1⟩ := Zo e1
   refine ⟨fun σ' H' => ∃ ι' σd' Hd', Le X.K H ι H' ι' ∧ SRep X.K H' ι' σ' σd' ∧ HRep X.K H' ι' Hd' ∧ sWh t b m σd' Hd' = some (fl, σf, Hf), fun σ' H' p => ⟨m, Nat.lt_succ_self m, p⟩, ?_⟩
   refine ⟨ι3, σd1, H2, f4, σ4, H4, s1.mono l3, h3, e4, fun σ6 H6 ι6 l6 h6 s6 => ?_⟩
   have L : Le X.K H ι H6 ι6 := (l1.trans l3).trans l6
   cases f4 with
   | nx => exact ⟨ι6, σ4, H4, L, s6, h6, e1⟩
   | ct => exact ⟨ι6, σ4, H4, L, s6, h6, e1⟩
   | bk => cases e1; exact q σ6 H6 ι6 L h6 s6
   | rt d => cases e1; exact q σ6 H6 ι6 L h6 s6
  | false =>
   rw [if_neg (by simp)]
   dsimp only at e1
   rw [if_neg (by simp)] at e1
   cases e1
   exact q σ1 H3 ι3 (l1.trans l3) h3 (s1.mono l3)
end
section
variable {X : Cx} {e : Expr} {es : List Expr} {pos : Pos}
end
noncomputable def Zmr (h : Heap) (L : Addr) : List (Addr × Obj) := (List.range h.objs.size).filterMap fun a => if a = L then none else (h.get? a).map fun o => (a, o)
theorem Zru {h : Heap} {L b : Addr} {o : Obj} (hb : b ≠ L) (e : h.get? b = some o) : (b, o) ∈ Zmr h L := by
 refine List.mem_filterMap.mpr ⟨b, List.mem_range.mpr (Heap.lt_size e), ?_⟩
 rw [if_neg hb, e]; rfl
theorem Zhh {h : Heap} {L : Addr} {p : Addr × Obj} (hp : p ∈ Zmr h L) : h.get? p.1 = some p.2 ∧ p.1 ≠ L := by
 obtain ⟨a, _, e⟩ := List.mem_filterMap.mp hp
 split at e
 ·cases e
 ·rename_i ne
  obtain ⟨o, e1, rfl⟩ := Zm e
  exact ⟨e1, ne⟩
theorem Zlf (b : Addr) : ({} : Heap).get? b = none := by
 cases e : ({} : Heap).get? b with
 | none => rfl
 | some o => exact absurd (Heap.lt_size e) (Nat.not_lt_zero _)
noncomputable def Zff (i : Int) : Int := if i < 0 then -i else i
section
variable {prog : Program} {w : World} {A : Around} {E : Value -> Shared -> Prop} {s : Shared}
theorem Zr9 {l L : Addr} {vs : List Value} {ns : List Int} {m : Str -> Option Value} {Q : Value -> Shared -> Prop} (hn : s.heap.Ns L m) (hI : IntsAre vs ns) (h64 : vs.length < 64)
  (hcol : ∀ R : List Value → Shared → Prop, R vs { s with heap := (s.heap.push (seqObj "list" #[] 0)).update s.heap.objs.size (Obj.mapSeq (· ++ vs.toArray)) } → wpAny (model prog w) A.in1 (collect (.ref l)) R E s)
  (h : ∀ h' tk out c, h'.Ns L m → (∀ b o, b ≠ L → s.heap.get? b = some o → h'.get? b = some o) → h'.get? (s.heap.objs.size + 1) = some (seqObj "list" out c) → KskOut false (ns.map Zff) vs out.toList → Q (.ref (s.heap.objs.size + 1)) { s with heap := h', toks := tk }) :
  wpAny (model prog w) A (call (.builtin "sorted") [.ref l] [(Str.ofString "key", .builtin "abs")]) Q E s := by
 have sl : vs.length ≤ sizeLine := by rw [sizeLine_eq]; omega
 have le : ns.length = vs.length := hI.length.symm
 have lt := hn.lt
 let h1 : Heap := (s.heap.push (seqObj "list" #[] 0)).update s.heap.objs.size (Obj.mapSeq (· ++ vs.toArray))
 have z1 : h1.objs.size = s.heap.objs.size + 1 := (Heap.size_update ..).trans (size_push' ..)
 have at2 : (h1.push (seqObj "list" vs.toArray 0)).get? (s.heap.objs.size + 1) = some (seqObj "list" vs.toArray 0) := by rw [← z1]; exact Heap.get?_push_size _ rfl
 have kp : ∀ b o, s.heap.get? b = some o → (h1.push (seqObj "list" vs.toArray 0)).get? b = some o := fun b o q => by
  have hb : b < s.heap.objs.size := Heap.lt_size q
  refine Heap.get?_push_of_some _ ?_
  show Heap.get? (Heap.update _ _ _) b = some o
  rw [Heap.get?_update_ne _ _ _ _ (Nat.ne_of_lt hb)]
  exact Heap.get?_push_of_some _ q
 have F0 : Fr {} L s.heap m := ⟨hn, fun b o e => absurd ((Zlf b).symm.trans e) (by simp), Nat.zero_le _⟩
 have N0 : News {} L s.heap (Zmr s.heap L) := fun p hp => ⟨(Zhh hp).1, (Zhh hp).2, Zlf _⟩
 refine call_function_entry_kw kind_sorted plain_sorted entry_sorted (ksk_s1 _ _) ?_
 unfold Builtin.«sorted»
 refine wpAny_bind (m := checkCount "sorted" 1 1 _) (wpAny_pure (wpAny_bind (hcol _ (wpAny_bind (wpAny_newList ?_ sl)))))
 show wpAny _ _ _ _ _ { s with heap := h1.push (seqObj "list" vs.toArray 0) }
 rw [show ((s.heap.push (seqObj "list" #[] 0)).update s.heap.objs.size (Obj.mapSeq (· ++ vs.toArray))).objs.size = s.heap.objs.size + 1 from z1]
 refine wpAny_bind (wpAny_holding (wpAny_call_entry_kw slot_list_sort ⟨_, at2, rfl⟩ entry_list_sort ?body (ksk_l1 _ _)))
 case body =>
  show wpAny (model prog w) A.in1.in1 (Builtin.«list.sort» ⟨[.ref (s.heap.objs.size + 1)], [(Str.ofString "key", .builtin "abs")]⟩) _ _ _
  rw [ksk_t4]
  refine ksk_sort (s := { s with heap := h1.push (seqObj "list" vs.toArray 0) }) (kz := ns.map Zff) (news := Zmr s.heap L) (F0.kept kp) (N0.grown kp) at2 (Nat.ne_of_gt (Nat.lt_succ_of_lt lt)) (Zlf _) (fun p hp => Nat.ne_of_lt (Nat.lt_succ_of_lt (Heap.lt_size (Zhh hp).1)))
   (by rw [List.length_map]; exact le) h64 (fun i v k hv hk hh tk own F N => ?_) fun h' tk out c F' N' K' => ⟨_, rfl, ?_⟩
  ·obtain ⟨n, t, rfl, e⟩ := hI.at i v hv
   rw [List.getElem?_map, e] at hk
   cases hk
   exact call_abs_int fun u tk' => KskEnd.intro F N fun p hp => hp
  ·refine wpAny_pure ⟨_, rfl, h h' tk out c F'.ns (fun b o hb e => ?_) ?_ K'⟩
   ·exact (N' _ (List.mem_cons_of_mem _ (Zru hb e))).1
   ·exact (N' _ (List.mem_cons_self ..)).1
theorem Zlr {l : Addr} {vs : List Value} {R : List Value -> Shared -> Prop} (ht : IsTup s.heap l vs.toArray) (hz : vs.length ≤ sizeLine)
  (h : R vs { s with heap := (s.heap.push (seqObj "list" #[] 0)).update s.heap.objs.size (Obj.mapSeq (· ++ vs.toArray)) }) : wpAny (model prog w) A (collect (.ref l)) R E s := by
 obtain ⟨o, ho, hc, n, hd⟩ := ht
 have ho2 : (s.heap.push (seqObj "list" #[] 0)).get? l = some o := Heap.get?_push_of_some _ ho
 have hN : (s.heap.push (seqObj "list" #[] 0)).get? s.heap.objs.size = some (seqObj "list" #[] 0) := Heap.get?_push_size _ rfl
 unfold collect
 refine wpAny_bind (wpAny_runValue (codeAny_builtin entry_proto_collect' (show wpAny _ _ (do again (.builtin "list.__iadd__" ⟨[← newList [], .ref l], []⟩)) _ _ s from wpAny_bind (wpAny_newList (wpAny_pure ⟨Code.quiet_builtin _ (by decide +kernel), codeAny_builtin entry_list_iadd' ?_⟩)))))
 show wpAny _ _ (Builtin.List.listExtendWith (.ref s.heap.objs.size) (.ref l) (.ref s.heap.objs.size)) _ _ { s with heap := _ }
 unfold Builtin.List.listExtendWith
 refine wpAny_bind (wpAny_typeOf (T := "tuple") ⟨o, ho2, hc⟩ ?_)
 rw [if_pos (by simp)]
 refine wpAny_bind (listItems_at ho2 hd (wpAny_bind (listItems_at (xs := #[]) (n := 0) hN rfl ?_)))
 rw [if_neg (by simp)]
 refine wpAny_bind (listUpdate_at (xs := #[]) (n := 0) hN rfl (wpAny_pure ?_) (Nat.zero_le _) (by show ((#[] : Array Value) ++ vs.toArray).size ≤ sizeLine + 1; rw [Array.size_append, List.size_toArray]; exact Nat.le_trans (by simp) (Nat.le_succ_of_le hz)))
 refine wpAny_bind (wpAny_load (get?_update_seq hN _) ?_)
 show wpAny _ _ (pure (((#[] : Array Value) ++ vs.toArray).toList)) R E _
 rw [Array.empty_append, List.toList_toArray]
 exact wpAny_pure h
end
theorem Zwe {vs : List Value} {ns : List Int} (h : IntsAre vs ns) : ∀ p ∈ (ns.map Zff).zip vs, ∃ n t, p = (Zff n, .int n t) := by
 induction h with
 | nil => intro p hp; simp at hp
 | cons n t _ ih =>
  intro p hp
  rw [List.map_cons, List.zip_cons_cons] at hp
  rcases List.mem_cons.mp hp with rfl | hp
  ·exact ⟨n, t, rfl⟩
  ·exact ih p hp
noncomputable def Zxi (p : Int × Value) : Int := match p.2 with
 | .int n _ => n
 | _ => 0
theorem Zv8 {vs : List Value} {ns : List Int} (h : IntsAre vs ns) : ((ns.map Zff).zip vs).map Zxi = ns := by
 induction h with
 | nil => rfl
 | cons n t _ ih => rw [List.map_cons, List.zip_cons_cons, List.map_cons, ih]; rfl
theorem Zmw : ∀ ps : List (Int × Value), (∀ p ∈ ps, ∃ n t, p = (Zff n, .int n t)) -> IntsAre (ps.map Prod.snd) (ps.map Zxi) ∧ (ps.map Zxi).map Zff = ps.map Prod.fst
 | [], _ => ⟨.nil, rfl⟩
 | p :: ps, h => by
  obtain ⟨n, t, rfl⟩ := h p (by simp)
  obtain ⟨a, b⟩ := Zmw ps fun q hq => h q (by simp [hq])
  exact ⟨.cons n t a, by rw [List.map_cons, List.map_cons, List.map_cons, b]; rfl⟩
noncomputable def Ze5 (ns : List Int) : List Int := ns.mergeSort fun a b => decide (Zff a ≤ Zff b)
theorem Zbk (ns : List Int) : (Ze5 ns).Perm ns := List.mergeSort_perm ..
theorem Zfr (ns : List Int) : (Ze5 ns).Pairwise fun a b => Zff a ≤ Zff b := by
 have h := List.pairwise_mergeSort (le := fun a b : Int => decide (Zff a ≤ Zff b)) (by intro a b c h1 h2; simp at *; omega) (by intro a b; simp; omega) ns
 exact h.imp (by intro a b h; simpa using h)
theorem Zxb {x y : List Int} (h : x.map Zff = y.map Zff) (hi : ∀ a ∈ x, ∀ b ∈ y, Zff a = Zff b -> a = b) : x = y := by
 induction x generalizing y with
 | nil => cases y with
  | nil => rfl
  | cons _ _ => cases h
 | cons a x ih => cases y with
  | nil => cases h
  | cons b y =>
   rw [List.map_cons, List.map_cons] at h
   obtain ⟨h1, h2⟩ := List.cons.inj h
   rw [hi a (by simp) b (by simp) h1, ih h2 fun c hc d hd => hi c (by simp [hc]) d (by simp [hd])]
theorem Zg7 {ns : List Int} (h : (ns.map Zff).Nodup) : ∀ a ∈ ns, ∀ b ∈ ns, Zff a = Zff b -> a = b := by
 induction ns with
 | nil => intro a ha; cases ha
 | cons n r ih =>
  rw [List.map_cons, List.nodup_cons] at h
  intro a ha b hb e
  rcases List.mem_cons.mp ha with h1 | h1 <;> rcases List.mem_cons.mp hb with h2 | h2
  ·rw [h1, h2]
  ·exact absurd (List.mem_map.mpr ⟨b, h2, by rw [← e, h1]⟩) h.1
  ·exact absurd (List.mem_map.mpr ⟨a, h1, by rw [e, h2]⟩) h.1
  ·exact ih h.2 a h1 b h2 e
theorem Zz3 {vs out : List Value} {ns : List Int} (h : IntsAre vs ns) (hn : (ns.map Zff).Nodup) (k : KskOut false (ns.map Zff) vs out) : IntsAre out (Ze5 ns) := by
 obtain ⟨ps, hp, rfl, hw⟩ := k
 obtain ⟨a, b⟩ := Zmw ps fun p hp' => Zwe h p (hp.mem_iff.mp hp')
 have c : (ps.map Zxi).Perm ns := by rw [← Zv8 h]; exact hp.map Zxi
 have d : ps.map Zxi = Ze5 ns := by
  refine Zxb (Zhu ((c.map Zff).trans ((Zbk ns).map Zff).symm) ?_ ?_) fun x hx y hy e => Zg7 hn x (c.mem_iff.mp hx) y ((Zbk ns).mem_iff.mp hy) e
  ·rw [b, List.pairwise_map]; simpa using hw
  ·rw [List.pairwise_map]; exact Zfr ns
 rw [← d]; exact a
theorem Zqb {X : Cx} {pins : List (Addr × Obj)} {σ : L2.St} {H : Hp} {s : Shared} {h' : Heap} {a : Addr} {o : HO} {t' : Nat} (I : Inv X pins σ H s) (k : ∀ b u, b ≠ X.env.locals -> s.heap.get? b = some u -> h'.get? b = some u)
  (ns : ∀ m, s.heap.Ns X.env.locals m -> h'.Ns X.env.locals m) (hp : s.heap.objs.size ≤ a) (new : Zc6 X.prog X.w (upd H a o) h' a o) : Inv X pins σ (upd H a o) { s with heap := h', toks := t' } := by
 have hn := I.hok.fresh hp
 have there : ∀ b u, s.heap.get? b = some u -> ∃ o', h'.get? b = some o' := fun b u e => by
  by_cases hb : b = X.env.locals
  ·subst hb
   obtain ⟨m, hm, _⟩ := I.loc
   obtain ⟨o, _, _, ho, _⟩ := ns m hm
   exact ⟨o, ho⟩
  ·exact ⟨u, k b u hb e⟩
 refine I.step (g' := s.gens) (d' := s.drawn) (ch := []) (fun _ z => nomatch z) (fun b u hb _ _ e _ => k b u hb e) (fun b u hb _ _ e _ => ⟨u.slots, k b u hb e⟩) (fun b u _ e n => ?_) (fun b u _ e => there b u e) (fun b xs q => ?_) (fun b u xs q => ?_) (fun b ps q => ⟨#[], ?_⟩) ns (fun b u e => ?_) I.bare
 ·rw [Zao (Nat.ne_of_lt (Nat.lt_of_lt_of_le (Heap.lt_size e) hp))]; exact n
 ·rw [Zao (Zan q hn)]; exact q
 ·rw [Zao (Zan q hn)]; exact q
 ·rw [Zao (Zan q hn), q]; simp
 ·by_cases hb : b = a
  ·subst hb; rw [upd_same] at e; cases e; exact new
  ·rw [Zao hb] at e
   have nL : ∀ c, (c = b ∨ H c = some (.own b)) -> c ≠ X.env.locals := fun c hc z => by
    subst z
    have := I.free
    rcases hc with rfl | hc
    ·rw [this] at e; cases e
    ·rw [this] at hc; cases hc
   exact (I.hok b u e).stay (fun c v hc q => k c v (nL c hc) q) (fun c q => by rw [Zao (Zan q hn)]; exact q) fun c xs q => by rw [Zao (Zan q hn)]; exact q
noncomputable def Zij : FF := fun ds H => match ds with
 | [d] => (Zey d H).bind fun xs => (Zez xs).bind fun ns => if ns.length < 64 ∧ (ns.map Zff).Nodup then some (.ref H.length, H ++ [.lst ((Ze5 ns).map .int)]) else none
 | _ => none
theorem Zk2 {X : Cx} {a : Expr} {f : AF} {p p2 kp pos : Pos} (hg : Gl X "sorted") (hm : X.mg "sorted" = none) (hg2 : Gl X "abs") (hm2 : X.mg "abs" = none) (ha : PAf X [a] f) (hs : starEach [a] X.env = [(false, eval a X.env)] := by rfl) :
  PEf X (.Call (.Name "sorted" p) [a] [⟨some "key", .Name "abs" p2, kp⟩] pos) (eCB Zij f) := by
 rintro pins s σ H Q I ⟨ι, σd, Hd, d, Hd', sr, hr, e, q⟩
 obtain ⟨⟨ds, H1⟩, e1, e⟩ := Zo e
 dsimp only at e
 unfold Zij at e
 split at e
 ·rename_i d0
  obtain ⟨ys, e2, e⟩ := Zo e
  obtain ⟨ns, e3, e⟩ := Zo e
  split at e
  ·rename_i hc
   show wpAny _ _ (do callWith pos (← eval (.Name "sorted" p) X.env) [] (backTo pos (starEach [a] X.env)) (backToKw pos (keywordEach [⟨some "key", .Name "abs" p2, kp⟩] X.env))) _ _ _
   refine wpAny_bind (Zeu I hg hm Zkg (callWith_builtin_kwB (by rw [hs]; rfl) rfl ?_))
   have hA := ha pos pins s σ H (fun vs H' => ∃ ι', Le X.K H ι H' ι' ∧ HRep X.K H' ι' H1 ∧ Paired (Rep X.K H' ι') [d0] vs) I ⟨ι, σd, Hd, _, _, sr, hr, e1, fun vs H' ι' l h P => ⟨ι', l, h, P⟩⟩
   rw [hs] at hA ⊢
   refine evalArgs_kwB rfl (thn hA fun us s1 ⟨vs, H2, I2, r2, ι2, l2, h2, P2⟩ => kws_cons (Zeu I2 hg2 hm2 Zj7 (kws_nil ?_)))
   obtain ⟨v, rfl, r⟩ := Zjq P2
   obtain ⟨u, rfl, ru⟩ := Zf6 r2
   obtain ⟨ad, ws, rfl, hq, P3⟩ := Zk9 h2 r e2
   cases ru
   have ev := Zdy e3 P3
   subst ev
   show wpAny _ _ (call (.builtin "sorted") [.ref ad] [(Str.ofString "key", .builtin "abs")]) _ _ _
   obtain ⟨m, hn, _⟩ := I2.loc
   have Zjr : ∃ its : List Value, Zbq (ns.map V.int) its ∧ (∀ R : List Value → Shared → Prop, R its { s1 with heap := (s1.heap.push (seqObj "list" #[] 0)).update s1.heap.objs.size (Obj.mapSeq (· ++ its.toArray)) } → wpAny (model X.prog X.w) X.A.in1 (collect (.ref ad)) R X.xe s1) := by
    rcases hq with hq | hq
    ·obtain ⟨its, ri, pl, hz⟩ := I2.list hq
     exact ⟨its, ri, fun R hR => collect_list pl.isList hR (by rw [← ri.length]; exact hz)⟩
    ·obtain ⟨its, ri, pl, hz⟩ := I2.tuple hq
     exact ⟨its, ri, fun R hR => Zlr pl (by rw [← ri.length]; exact hz) hR⟩
   obtain ⟨its, ri, hcol⟩ := Zjr
   have il : its.length = ns.length := by rw [← ri.length, List.length_map]
   refine Zr9 hn (Zga ri) (by omega) hcol fun h' tk out c hn' kk hat K' => ?_
   have hO := Zz3 (Zga ri) hc.2 K'
   have hl : ((Ze5 ns).map V.int).length ≤ sizeLine := by
    rw [List.length_map, (Zbk ns).length_eq]
    have : sizeLine = 16777216 := sizeLine_eq
    omega
   have hp0 : H2 (s1.heap.objs.size + 1) = none := I2.hok.fresh (Nat.le_succ _)
   refine ⟨.ref (s1.heap.objs.size + 1), _, Zqb (o := .lst ((Ze5 ns).map V.int)) I2 kk (fun m' hm' => by rw [hm'.eq_nsMap, ← hn.eq_nsMap]; exact hn') (Nat.le_succ _) ⟨hl, out.toList, c, Zkq hO, by simpa using hat⟩, rfl, ?_⟩
   have hz2 : ((Ze5 ns).map D.int).length ≤ sizeLine := by simpa using hl
   exact (Zfk h2 (Zkx (Ze5 ns)) (show mkL ((Ze5 ns).map D.int) H1 = some (d, Hd') by unfold mkL; rw [if_pos hz2, e]) (fun v H' ι' l h r => q v H' ι' (l2.trans l) h r)).2 _ hp0
  ·cases e
 ·cases e
open Builtin.SmallTypes (nextOf)
noncomputable def SqI (b : Bool) (h : Heap) (i l : Addr) (n : Nat) : Prop := ∃ o, h.get? i = some o ∧ o.cls = .type (if b then "list_iterator" else "tuple_iterator") ∧ o.data = .fields #[.ref l, .int n 0]
noncomputable def SqX (b : Bool) (h : Heap) (l : Addr) (xs : Array Value) : Prop := ∃ o, h.get? l = some o ∧ o.cls = .type (if b then "list" else "tuple") ∧ ∃ n, o.data = .seq xs n
section
variable {prog : Program} {w : World} {A : Around} {E : Value -> Shared -> Prop} {s : Shared}
theorem Zwz {b : Bool} {i l : Addr} {n : Nat} {xs : Array Value} {x : Value} {Q : Value -> Shared -> Prop} (hi : SqI b s.heap i l n) (hl : SqX b s.heap l xs) (hx : xs[n]? = some x)
  (hQ : ∀ h', SqI b h' i l (n + 1) -> Heap.SameBut i s.heap h' -> Q x { s with heap := h' }) : wpAny (model prog w) A (nextOf (.ref i)) Q E s := by
 cases b
 ·exact Zml hi hl hx hQ
 ·exact wpAny_nextOf_list_item hi hl hx hQ
theorem Zzc {b : Bool} {i l : Addr} {n : Nat} {xs : Array Value} {Q : Value -> Shared -> Prop} (hh : A.handled = none) (hi : SqI b s.heap i l n) (hl : SqX b s.heap l xs) (hx : xs[n]? = none)
  (hE : ∀ h' e, Heap.ExtBut i s.heap h' → (∃ o, h'.get? e = some o ∧ o.cls = .type "StopIteration") → E (.ref e) { s with heap := h' }) : wpAny (model prog w) A (nextOf (.ref i)) Q E s := by
 cases b
 ·exact Zow hh hi hl hx hE
 ·exact wpAny_nextOf_list_end hh hi hl hx hE
variable {z TI TO i1 i2 l1 l2 : Addr} {k1 k2 : Nat} {xs ys : Array Value} {b1 b2 : Bool}
end
section
variable {X : Cx} {pins : List (Addr × Obj)} {σ : L2.St} {H : Hp} {s : Shared} {b : Bool} {l : Addr} {xs ys : List V}
end
section
variable {X : Cx}
end
section
variable {X : Cx} {e : Expr} {pos : Pos}
noncomputable def sErr : SF := fun _ _ => none
theorem Zv3 {st : Stmt} : PSf X st sErr := by
 rintro pins s σ H E I ⟨ι, σd, Hd, fl, σd', Hd', _, _, e, _⟩
 cases e
noncomputable def Zoy : D -> Option Int
 | .int i => some i
 | _ => none
noncomputable def sAug (g : Int -> Int -> Int) (i : Nat) (f : EF) : SF := fun σ H => ((σ[i]?).join.bind Zoy).bind fun a => (f σ H).bind fun p => (Zoy p.1).map fun b => (.nx, σ.set i (some (.int (g a b))), p.2)
theorem Zil {d : D} {i : Int} (h : Zoy d = some i) : d = .int i := by
 cases d <;> simp [Zoy] at h
 rw [h]
theorem Zwt {i : Nat} {x : Str} {f : EF} {op : Operator} {g : Int -> Int -> Int} {pos' : Pos} (ho : PIp X op (ipI g)) (hN : X.N.Nodup) (hi : X.N[i]? = some x) (hx : Loc X.env.scope x) (he : PEf X e f)
  (hf : X.fn x = true ∨ X.env.scope.names.lookup x = some .local := by first | exact .inl rfl | exact .inr rfl | assumption) : PSf X (.AugAssign (.Name x pos') op e pos) (sAug g i f) := by
 refine PSi (Zyz hN hi hx he ho hf) fun E σ H zz => ?_
 obtain ⟨ι, σd, Hd, fl, σd', Hd', s, hr, e, q⟩ := zz
 obtain ⟨a, e0, e⟩ := Zo e
 obtain ⟨d, e1, e2⟩ := Zo e0
 have := Zil e2
 subst this
 obtain ⟨⟨y, H1⟩, e3, e⟩ := Zo e
 obtain ⟨b, e4, e⟩ := Zm e
 have := Zil e4
 dsimp only at this e
 subst this
 cases e
 have hv : σd[i]? = some (some (.int a)) := by
  cases hx : σd[i]? with
  | none => rw [hx] at e1; cases e1
  | some o => rw [hx] at e1; exact congrArg some e1
 obtain ⟨v, h1, h2⟩ := s.var i _ hv
 simp at h2
 subst h2
 refine ⟨_, h1, ι, σd, Hd, _, _, s, hr, e3, fun v H' ι' l h r => ?_⟩
 simp at r
 subst r
 refine ⟨a, b, rfl, rfl, q _ H' ι' l h ((s.mono l).set (by simp) i)⟩
end
section
open PySem.SeqAt
open PySem.AutoSeq1 (wpAny_loadPart')
open PySem.MeetsSeq PySem.MeetsSeq2 PySem.MeetsSeq3
end
section
variable {prog : Program} {w : World} {A : Around} {R : Result -> Shared -> Prop} {J S : Addr} {fp wr : List Addr} {n : Nat} {P : Nat -> Value -> Prop} {St : Nat -> Heap -> Prop} {Gd : Heap -> Prop} {bt : Nat -> Nat -> Bool}
end
noncomputable def Zg9 (x : D) (ds : List D) (H : HD) : Option (D × HD) := match x, ds with
 | .ref n, [.int i, d] => match H[n]? with
  | some (.lst xs) => if 0 ≤ i ∧ i ≤ xs.length ∧ xs.length < sizeLine then some (.non, H.set n (.lst (xs.take i.toNat ++ [d] ++ xs.drop i.toNat))) else none
  | _ => none
 | _, _ => none
theorem Zm0 {α β : Type} {F : α -> β -> Prop} : ∀ {xs : List α} {us : List β} (k : Nat), Paired F xs us -> Paired F (xs.take k) (us.take k)
 | [], _, k, .nil => by simpa using Paired.nil
 | _ :: _, _, 0, .cons _ _ => .nil
 | _ :: _, _, k + 1, .cons a b => .cons a (Zm0 k b)
theorem Znh {α β : Type} {F : α -> β -> Prop} : ∀ {xs : List α} {us : List β} (k : Nat), Paired F xs us -> Paired F (xs.drop k) (us.drop k)
 | [], _, k, .nil => by simpa using Paired.nil
 | _ :: _, _, 0, h => h
 | _ :: _, _, k + 1, .cons a b => Znh k b
section
variable {X : Cx}
theorem Znm : MtF X "list.insert" Zg9 := by
 rintro pins s σ H x xs v us Q I rx rv ⟨ι, dx, ds, Hd, d, Hd', hr, r1, P, e, q⟩
 unfold Zg9 at e
 split at e
 ·rename_i n i d1
  obtain ⟨a, rfl, ha⟩ := Za3.mp r1
  split at e
  ·rename_i ys e1
   split at e
   ·rename_i hl
    obtain ⟨h0, h1, h2⟩ := hl
    cases e
    obtain ⟨vs, hv, P1⟩ := hr.obj n a _ ha e1
    cases P with
    | cons p1 P =>
     cases P with
     | cons p2 P =>
      cases P
      simp at p1
      subst p1
      cases rv with
      | cons q1 rv =>
       cases rv with
       | cons q2 rv =>
        cases rv
        obtain ⟨t, rfl⟩ := q1
        cases rx
        rename_i y u
        obtain ⟨z, its, m, r, hl, eo⟩ := I.lstM hv
        have hlen : its.length = ys.length := by rw [← hl, ← Prd.len P1]
        have ef : Builtin.List.listFitsIndex i = true := by
         have sz : sizeLine = 16777216 := PySem.sizeLine_eq
         simp only [Builtin.List.listFitsIndex, Bool.and_eq_true, decide_eq_true_eq]
         omega
        refine call_meets PySem.F.slot_list_insert ⟨_, eo, rfl⟩ PySem.F.entry_list_insert (PySem.F.args_list_insert_3 _ _ _) (PySem.AutoSeq1.list_insert_list_int_val_1 a its.toArray m i t u (by rw [ef]; simp) (by rw [List.size_toArray]; omega)) ⟨eo, ?_⟩
        have L : Le X.K H ι (upd H a (.lst (vs.take i.toNat ++ [y] ++ vs.drop i.toNat))) ι := Le.upd (List.mem_of_getElem? ha) hv trivial _
        refine ⟨.non, _, I.lset (ys := vs.take i.toNat ++ [y] ++ vs.drop i.toNat) (its' := its.take i.toNat ++ [u] ++ its.drop i.toNat) hv eo ?_ (((r.take i.toNat).append (.cons q2 .nil)).append (r.drop i.toNat)) ?_, rfl, q _ _ ι L (hr.upd ha hv trivial ⟨_, upd_same, Prd.mono L (Prd.append (Prd.append (Zm0 _ P1) (.cons p2 .nil)) (Znh _ P1))⟩) (by simp)⟩
        ·have k : (if i < 0 then (i + (its.toArray.size : Int)).toNat else min i.toNat its.toArray.size) = i.toNat := by
          rw [if_neg (by omega), List.size_toArray]; omega
         show (its.toArray.extract 0 (if i < 0 then (i + (its.toArray.size : Int)).toNat else min i.toNat its.toArray.size)).push u ++ its.toArray.extract (if i < 0 then (i + (its.toArray.size : Int)).toNat else min i.toNat its.toArray.size) = _
         rw [k]
         apply Array.toList_inj.mp
         simp [List.extract_eq_take_drop]
         rw [List.take_of_length_le (by simp)]
        ·have := Prd.len P1
         simp; omega
   ·cases e
  ·cases e
 ·cases e
end
theorem Zp1 : typeLookup (.type "list") "keys" = pure none := am_miss_of_fast (by kernel_rfl)
theorem Zu2 {prog : Program} {w : World} {A : Around} {E : Value → Shared → Prop} {s : Shared} {l : Addr} {ob : Obj} {xs : Array Value} {k : Nat} {Q : Option Value → Shared → Prop} (g1 : s.heap.get? l = some ob) (g2 : ob.cls = .type "list") (g3 : ob.data = .seq xs k) (g4 : ob.dict = none) (hh : A.handled = none)
  (q : ∀ h' tk, (∀ b o, s.heap.get? b = some o → h'.get? b = some o) → Q none { s with heap := h', toks := tk }) : wpAny (model prog w) A (getAttr? (.ref l) "keys") Q E s := by
 obtain ⟨c, dd, dt, sl⟩ := ob
 simp only at g2 g3 g4
 subst g2 g3 g4
 obtain ⟨hp, g, d, tk, os⟩ := s
 have ty : ∀ t, (⟨hp, g, d, t, os⟩ : Shared).TypeIs (.ref l) "list" := fun _ => ⟨_, g1, rfl⟩
 have f1 := sub_AttributeError
 have f2 := F.slot_list_getattribute.lookup
 have f3 := F.slot_list_getattribute.bind (.ref l)
 have f4 := am_list_getattr_none
 unfold getAttr? getAttrBy? getAttrBy
 repeat (any_goals (first | assumption | exact ty _ | ((with_reducible show wpAny _ _ (call (Value.builtin "list.__getattribute__") _ _) _ _ _); refine call_meets F.slot_list_getattribute (ty _) am_entry_list_getattribute (F.args_list_getattribute_2 _ _) (meets_getattribute_miss_list l xs k sl "keys" _ Zp1 (by decide) (by decide)) ⟨g1, hh, fun h1 t1 e x1 => ?_⟩) | wp_step))
 obtain ⟨t2, u2, e2⟩ := x1.there
 show wpAny _ _ (getattributeRaised _ _ _ _ none false false) _ _ _
 unfold getattributeRaised
 repeat (any_goals (first | assumption | wp_step))
 exact q _ _ x1.keeps
theorem Zfz : plainId "dict.update.loop" = true := by decide +kernel
theorem Zk7 : entryFor table "dict.update.loop" = some Builtin.«dict.update.loop» := entryFor_of_tree (by kernel_rfl)
theorem Zno {prog : Program} {w : World} {A : Around} {E : Value -> Shared -> Prop} {s : Shared} {t : Addr} {xs : Array Value} {Q : List Value -> Shared -> Prop} (h : IsTup s.heap t xs) (q : Q xs.toList s) : wpAny (model prog w) A (Builtin.Dict.pairItems (.ref t)) Q E s := by
 obtain ⟨o, g1, g2, n, g3⟩ := id h
 unfold Builtin.Dict.pairItems
 refine wpAny_bind (wpAny_typeOf h.typeIs ?_)
 rw [if_pos (by decide)]
 refine wpAny_bind (wpAny_seqItems g1 g3 (wpAny_pure ?_))
 exact q
section
variable {prog : Program} {w : World} {A : Around} {R : Result -> Shared -> Prop} {J d : Addr} {fp wr : List Addr} {n : Nat} {P : Nat -> Value -> Prop} {St : Nat -> Heap -> Prop} {Gd : Nat -> Heap -> Prop}
theorem Zmi (W : Walks prog w A.in1 J fp wr n P St) (hg : ∀ i h h', Gd i h -> (∀ b o, b ∉ wr -> h.get? b = some o -> h'.get? b = some o) -> Gd i h')
  (st : ∀ i v (s : Shared), i < n -> P i v -> Gd i s.heap -> ∃ t k u, v = .ref t ∧ IsTup s.heap t #[k, u] ∧ ∀ (Q : Unit -> Shared -> Prop) (E : Value -> Shared -> Prop), (∀ h' tk, Gd (i + 1) h' -> (∀ b ∈ fp, ∀ o, s.heap.get? b = some o -> h'.get? b = some o) -> Q () { s with heap := h', toks := tk }) -> wpAny (model prog w) A.in1 (dictSet d k u) Q E s) :
  ∀ (m i : Nat) (s : Shared) (z : Int) (tz : Tok), i + m = n -> St i s.heap -> Gd i s.heap -> (∀ h' tk, Gd n h' -> R (.ok (.ret .none)) { s with heap := h', toks := tk }) →
  codeAny (model prog w) A (.builtin "dict.update.loop" ⟨[.ref d, .ref J, .int z tz, .none], []⟩) R s
 | 0, i, s, z, tz, hm, hs, gd, q => by
  refine codeAny_builtin Zk7 ?_; rw [Around.under_plainId Zfz _]
  have hi : i = n := by omega
  subst hi
  show wpAny _ A.in1 (pyNext (Value.ref J) >>= _) _ _ s
  refine wpAny_bind (W.done s _ _ hs fun h1 t1 k1 => ?_)
  refine wpAny_bind (wpAny_pure ?_)
  exact wpAny_pure (q h1 t1 (hg _ _ _ gd k1))
 | m + 1, i, s, z, tz, hm, hs, gd, q => by
  refine codeAny_builtin Zk7 ?_; rw [Around.under_plainId Zfz _]
  show wpAny _ A.in1 (pyNext (Value.ref J) >>= _) _ _ s
  refine wpAny_bind (W.item i s _ _ (by omega) hs fun v h1 t1 hv hs1 k1 => ?_)
  have g1 := hg _ _ _ gd k1
  obtain ⟨t, k, u, rfl, ht, go⟩ := st i v { s with heap := h1, toks := t1 } (by omega) hv g1
  refine wpAny_bind (wpAny_holding ?_)
  refine wpAny_bind (wpAny_tryCatch (Zno ht ?_))
  refine wpAny_holding (go _ _ fun h2 t2 g2 k2 => ?_)
  exact wpAny_pure ⟨plainId_quiet Zfz _, Zmi W hg st m (i + 1) _ _ _ (by omega) (W.frame _ _ _ hs1 k2) g2 fun h3 t3 g3 => q h3 t3 g3⟩
end
theorem Znv {prog : Program} {w : World} {A : Around} {E : Value → Shared → Prop} {s : Shared} {l : Addr} {ob : Obj} {xs : Array Value} {kk : Nat} {Q : Value → Shared → Prop} (g1 : s.heap.get? l = some ob) (g2 : ob.cls = .type "list") (g3 : ob.data = .seq xs kk) (g4 : ob.dict = none) (hh : A.handled = none) {Gd : Nat → Heap → Prop}
  (g0 : ∀ h', (∀ b o, (s.heap.push { cls := .type "dict", data := .dict #[] }).get? b = some o → h'.get? b = some o) → Gd 0 h')
  (hg : ∀ i h h', Gd i h -> (∀ b o, b < s.heap.objs.size + 1 -> h.get? b = some o -> h'.get? b = some o) -> Gd i h')
  (st : ∀ i v (z : Shared), xs[i]? = some v -> Gd i z.heap -> ∃ t k u, v = .ref t ∧ IsTup z.heap t #[k, u] ∧ ∀ (Q : Unit -> Shared -> Prop) (E : Value -> Shared -> Prop), (∀ h' tk, Gd (i + 1) h' -> (∀ b o, b ≠ s.heap.objs.size -> z.heap.get? b = some o -> h'.get? b = some o) -> Q () { z with heap := h', toks := tk }) -> wpAny (model prog w) A.in1.in1 (dictSet s.heap.objs.size k u) Q E z)
  (q : ∀ h' tk, Gd xs.size h' → Q (.ref s.heap.objs.size) { s with heap := h', toks := tk }) : wpAny (model prog w) A (call (.type "dict") [.ref l]) Q E s := by
 refine callType_codes (Q₁ := fun a z => a = .ref s.heap.objs.size ∧ z = { s with heap := s.heap.push { cls := .type "dict", data := .dict #[] } }) F.kt_called_dict (F.kt_typeCall_dict_1 _) F.entry_dict_init (kt_code_dict_new _ ⟨rfl, rfl⟩) ?_
 rintro a z ⟨rfl, rfl⟩
 have hlt : l < s.heap.objs.size := Heap.lt_size g1
 have ty : ({ s with heap := s.heap.push { cls := .type "dict", data := .dict #[] } } : Shared).TypeIs (.ref s.heap.objs.size) "dict" := ⟨_, Heap.get?_push_size _ rfl, rfl⟩
 have ty2 : ({ s with heap := s.heap.push { cls := .type "dict", data := .dict #[] } } : Shared).TypeIs (.ref l) "list" := ⟨_, Heap.get?_push_of_some _ g1, g2⟩
 refine ⟨ty, F.args_dict_init_2 _ _, ?_⟩
 unfold Builtin.«dict.__init__» Builtin.Dict.selfAndRest; refine wpAny_bind (wpAny_bind (wpAny_notOrdered_dict ty ?_))
 show wpAny _ _ (pure (s.heap.objs.size, [Value.ref l])) _ _ { s with heap := s.heap.push { cls := .type "dict", data := .dict #[] } }
 refine wpAny_pure ?_; show wpAny _ _ (Builtin.Dict.updateFrom "dict.__init__" s.heap.objs.size (Value.ref l) [] .none) _ _ _
 unfold Builtin.Dict.updateFrom
 refine wpAny_bind (wpAny_typeOf ty2 ?_)
 rw [if_pos (by decide)]
 refine wpAny_bind (Zu2 (A := A.in1.in1) (Heap.get?_push_of_some _ g1) g2 g3 g4 (show A.in1.in1.handled = none from hh) fun h1 t1 k1 => ?_)
 have l1 : h1.IsList l xs := ⟨ob, k1 _ _ (Heap.get?_push_of_some _ g1), g2, kk, g3⟩
 have sz : s.heap.objs.size + 1 ≤ h1.objs.size := by
  have e0 : (s.heap.push { cls := .type "dict", data := .dict #[] }).get? s.heap.objs.size = some { cls := .type "dict", data := .dict #[] } := Heap.get?_push_size _ rfl
  exact Heap.lt_size (k1 _ _ e0)
 simp only [Option.isNone_none, if_true]
 refine wpAny_bind (wpAny_rule ?_)
 refine wpAny_bind (wpAny_pyIter_list (s := { s with heap := h1, toks := t1 }) l1 ?_)
 refine wpAny_pure ⟨plainId_quiet Zfz _, Zmi (A := A.in1) (Gd := Gd) (Walks.list (A := A.in1.in1) (show A.in1.in1.handled = none from hh) h1.objs.size l (Nat.ne_of_lt (Nat.lt_of_lt_of_le hlt (Nat.le_trans (Nat.le_succ _) sz))) xs) ?_ ?_ xs.size 0 _ _ _ (by omega) ⟨⟨_, Heap.get?_push_size _ rfl, rfl, rfl⟩, l1.at fun o z => Heap.get?_push_of_some _ z⟩ (hg _ _ _ (g0 h1 k1) fun b o _ e => Heap.get?_push_of_some _ e) fun h3 t3 g3 => ⟨rfl, q h3 t3 g3⟩⟩
 ·intro i h h' gd k
  refine hg i h h' gd fun b o hb e => k b o ?_ e
  intro hm
  have : b = h1.objs.size := by simpa using hm
  subst this
  exact absurd (Nat.lt_of_lt_of_le hb sz) (Nat.lt_irrefl _)
 ·intro i v z hi hv gd
  obtain ⟨t, k, u, e, ht, go⟩ := st i v z hv gd
  refine ⟨t, k, u, e, ht, fun Q E qq => go Q E fun h2 t2 g2 k2 => qq h2 t2 g2 fun b hb o e => k2 b o ?_ e⟩
  intro e1
  subst e1
  simp only [List.mem_cons, List.not_mem_nil, or_false] at hb
  rcases hb with hb | hb
  ·exact absurd (Nat.lt_of_lt_of_le (Nat.lt_succ_self _) sz) (by rw [← hb]; exact Nat.lt_irrefl _)
  ·exact absurd hlt (by rw [← hb]; exact Nat.lt_irrefl _)
structure BlkOk2 (X : Cx) (scope : Scope) (x y : Str) (cn : List Str) (ci : List Nat) : Prop where
 kind : scope.kind = .function
 nocell : ∀ y ∈ scope.names, y.2 ≠ .cell
 names : ∀ y ∈ scope.names, y.2 = .local -> scope.names.lookup y.1 = some .local
 tgt : scope.names.lookup x = some .local
 tgt2 : scope.names.lookup y = some .local
 free : ∀ y ∈ scope.names, y.2 = .free -> (X.env.cells.lookup y.1).isSome = true
 nd : (x :: y :: cn).Nodup
 len : ci.length = cn.length
 cap : ∀ (j : Nat) (y : Str), cn[j]? = some y -> ∃ i, ci[j]? = some i ∧ X.N[i]? = some y ∧ scope.names.lookup y = some .free ∧ (X.env.kindOf y = some .cell ∨ X.env.kindOf y = some .free)
section
variable {X : Cx} {pins : List (Addr × Obj)} {σ : L2.St} {H : Hp} {s : Shared} {scope : Scope} {x y0 : Str} {cn : List Str} {ci : List Nat} {fp : List Addr}
theorem Zs2 {h₁ : Heap} {tk : Nat} {o₁ : Obj} (I : Inv X pins σ H s) (B : BlkOk2 X scope x y0 cn ci) (hf : ∀ b ∈ fp, Zl0 X pins H b) (hlt : ∀ b ∈ fp, b < s.heap.objs.size)
  (hns : h₁.Ns s.heap.objs.size (fun _ => none)) (hsb : Heap.SameBut s.heap.objs.size (s.heap.push o₁) h₁) :
  Inv (blk X scope (x :: y0 :: cn) (Zgk X.env scope.names []) s.heap.objs.size s H fp (X.pn ++ pins)) [] (none :: none :: Zhx ci σ) H { s with heap := h₁, toks := tk } := by
 have old : ∀ b o, s.heap.get? b = some o -> h₁.get? b = some o := fun b o e => hsb.extBut b o (Nat.ne_of_lt (Heap.lt_size e)) (Heap.get?_push_of_some _ e)
 have sub := Zfx X.env scope.names [] (by intro x c h; simp at h)
 have has : ∀ y, (y, NameKind.free) ∈ scope.names -> ∃ c, (Zgk X.env scope.names []).lookup y = some c := fun y hy =>
  Option.isSome_iff_exists.mp (Ziv X.env scope.names [] y (.inr ⟨hy, B.free _ hy rfl⟩))
 refine ⟨⟨I.ok.mod, B.kind, I.ok.glob, I.ok.blt, Nat.le_refl _, fun y z c h1 h2 => I.ok.inj y z c (sub y c h1) (sub z c h2), fun y hy => has y (Ze3 B.nocell hy), fun y c hy => absurd hy (by show ¬ (false = true); simp), I.ok.hd, I.ok.frames, .inl rfl,
   fun b hb => ⟨Nat.ne_of_lt (hlt b hb), fun y c e => (hf b hb).2.2.2.2.1 y c (sub y c e)⟩, I.bs, Nat.le_trans I.ok.bsz I.sz, fun b o e hb => ?_, fun b hb z => ?_, I.stack, I.stkFree⟩,
  rfl, I.bare, Un.kept old, ⟨_, hns, fun i y v h1 h2 h3 => ?_⟩, fun y c e => ?_, I.hok.fresh (Nat.le_refl _), fun y c e => I.freeC y c (sub y c e), fun p hp => ?_, I.hok.kept old, ?_⟩
 ·rcases (hf b hb).2.2.2.1 with z | z
  ·exact I.ok.noex b o e z
  ·exact absurd (Nat.lt_of_lt_of_le (Heap.lt_size e) (Nat.le_trans I.ok.bsz z)) (Nat.lt_irrefl _)
 ·exact (List.mem_cons.mp (I.stkSub b z)).elim (hf b hb).2.1 (hf b hb).2.2.1
 ·match i, h1, h2 with
  | 0, h1, h2 => simp at h2
  | 1, h1, h2 => simp at h2
  | j + 2, h1, h2 =>
   have h1' : cn[j]? = some y := by simpa [blk] using h1
   have h2' : (Zhx ci σ)[j]? = some (some v) := by simpa using h2
   obtain ⟨i, e1, e2, e3, e4⟩ := B.cap j y h1'
   have e5 : σ[i]? = some (some v) := by
    unfold Zhx at h2'
    rw [List.getElem?_map, e1] at h2'
    simp at h2'
    cases e : σ[i]? with
    | none => rw [e] at h2'; cases h2'
    | some o => rw [e] at h2'; simp at h2'; rw [h2']
   obtain ⟨m, hn, hl⟩ := I.loc
   have hv : Vis X.env.scope y := by
    rcases e4 with e4 | e4
    ·exact .inr (.inl e4)
    ·exact .inr (.inr e4)
   obtain ⟨u, r, l⟩ := hl i y v e2 e5 hv
   refine ⟨u, r, .inr ⟨Zfb e3, ?_⟩⟩
   obtain ⟨c, ec⟩ := has y (PySem.mem_of_lookup e3)
   refine ⟨c, ec, ?_⟩
   rcases l with ⟨l, _⟩ | ⟨_, c', ec', hc⟩
   ·rcases e4 with e4 | e4 <;> rw [e4] at l <;> cases l
   ·rw [sub y c ec] at ec'
    cases ec'
    obtain ⟨ob, q1, q2⟩ := hc
    exact ⟨ob, old _ _ q1, q2⟩
 ·obtain ⟨v, ob, q1, q2⟩ := I.cell y c (sub y c e)
  exact ⟨v, ob, old _ _ q1, q2⟩
 ·have hp' : p ∈ X.pn ++ pins := by simpa [blk] using hp
  obtain ⟨q1, q2, q3, q4, q5⟩ := I.pin p hp'
  refine ⟨old _ _ q1, q2, Nat.ne_of_lt (Heap.lt_size q1), fun z => ?_, q5⟩
  exact (List.mem_cons.mp (I.stkSub p.1 z)).elim q3 q4
 ·simp [blk, Zhx, B.len]
noncomputable def LcW2 (K : PySem.W.Frag) (J : It) (ci : List Nat) (tt : TT) (te : TE) (σ : L2.St) (Q : VK) (H1 : Hp) : Prop := ∀ p, H1 p = none -> ∃ W : Nat -> Nat -> List V -> Hp -> Prop, (∃ m, W 0 m [] (upd H1 p (.lst []))) ∧ ∀ i m ys H, W i m ys H →
 H p = some (.lst ys) ∧ ((J.stop i H ∧ Q (.ref p) H) ∨ (J.go i H ∧ ∀ v H', J.yld i H v H' -> ∃ a v1 v2, v = .ref a ∧ SqT K H' a [v1, v2] ∧ tt (some v1 :: some v2 :: Zhx ci σ) H' fun b H2 =>
  if b = true then te (some v1 :: some v2 :: Zhx ci σ) H2 fun y H3 => H3 p = some (.lst ys) ∧ ys.length < sizeLine ∧ ∃ m', m' < m ∧ W (i + 1) m' (ys ++ [y]) (upd H3 p (.lst (ys ++ [y])))
  else ∃ m', m' < m ∧ W (i + 1) m' ys H2))
theorem Zqx {elt iter : Expr} {px py pt pos : Pos} {kt : Nat} {ifs : List Expr} {tt : TT} {te : TE} {Q : VK} {E : Value -> Shared -> Prop} {RR : Value -> Addr -> Result -> Shared -> Prop} {it : Addr} {tn : Nat -> Heap -> Prop} {J : It}
  (I : Inv X pins σ H s) (hc : X.calm = true) (B : BlkOk2 X scope x y0 cn ci) (T : Turn X.prog X.w X.K (.Tuple [.Name x px, .Name y0 py] kt pt) J fp it tn) (st : tn 0 s.heap) (hf : ∀ b ∈ fp, Zl0 X pins H b)
  (ht : ∀ cl C s H fp pn, PTs (blk X scope (x :: y0 :: cn) cl C s H fp pn) ifs tt) (he : ∀ cl C s H fp pn, PE (blk X scope (x :: y0 :: cn) cl C s H fp pn) elt te)
  (hw : LcW2 X.K J ci tt te σ Q H) (hRR : ∀ p C H' s', Inv X pins σ H' s' -> Gone X pins H' s' C -> Q (.ref p) H' -> RR (.ref p) C (.ok .next) s') :
  wpAny (model X.prog X.w) X.A (newList []) (fun acc s₃ => wpAny (model X.prog X.w) X.A (newFunctionEnv scope X.env.globals (Zgk X.env scope.names []) [] X.env.qual none .none (some X.env)) (fun cenv s₄ =>
   codeAny (model X.prog X.w) X.A (.compStart (.ListComp elt [⟨.Tuple [.Name x px, .Name y0 py] kt pt, iter, ifs, 0⟩] scope pos) 0 (.ref it) acc { cenv with scope := relabel scope X.env }) (RR acc cenv.locals) s₄) E s₃) E s := by
 have hp0 : H s.heap.objs.size = none := I.hok.fresh (Nat.le_refl _)
 obtain ⟨W, ⟨m0, w0⟩, turn⟩ := hw _ hp0
 refine wpAny_newObj_type (wpAny_newFunctionEnv B.nocell (by intro y hy; simp at hy) (fun h₁ hns₁ hsb₁ => ?_) B.kind)
 dsimp only at hns₁ hsb₁ ⊢
 have I3 : Inv X pins σ (upd H s.heap.objs.size (.lst [])) { s with heap := s.heap.push { cls := .type "list", dict := none, data := .seq ([] : List Value).toArray } } :=
  I.laid (t' := s.toks) (fun b u e => Heap.get?_push_of_some _ e) (Nat.le_refl _) ⟨Nat.zero_le _, [], 0, .nil, Heap.get?_push_size _ rfl⟩
 generalize hH3 : s.heap.push { cls := .type "list", dict := none, data := .seq ([] : List Value).toArray } = hp3 at hns₁ hsb₁ I3 ⊢
 have flt : ∀ b ∈ fp, b < s.heap.objs.size := fun b hb => by
  obtain ⟨o, e, _⟩ := T.obj 0 _ st b hb
  exact Heap.lt_size e
 have sz3 : hp3.objs.size = s.heap.objs.size + 1 := by rw [← hH3, Heap.size_push]
 have f3 : ∀ b ∈ fp, Zl0 X pins (upd H s.heap.objs.size (.lst [])) b := fun b hb => ⟨by rw [Zao (Nat.ne_of_lt (flt b hb))]; exact (hf b hb).1, (hf b hb).2⟩
 have old3 : ∀ b o, s.heap.get? b = some o -> hp3.get? b = some o := fun b o e => by rw [← hH3]; exact Heap.get?_push_of_some _ e
 have I4 := Zs2 (s := { s with heap := hp3 }) (tk := s.toks + ([] : List (Str × Value)).length) I3 B f3 (fun b hb => by show b < hp3.objs.size; rw [sz3]; exact Nat.lt_succ_of_lt (flt b hb)) (by simpa using hns₁) hsb₁
 have old4 : ∀ b o, hp3.get? b = some o -> h₁.get? b = some o := fun b o e => hsb₁.extBut b o (Nat.ne_of_lt (Heap.lt_size e)) (Heap.get?_push_of_some _ e)
 generalize hX' : blk X scope (x :: y0 :: cn) (Zgk X.env scope.names []) hp3.objs.size { s with heap := hp3 } (upd H s.heap.objs.size (.lst [])) fp (X.pn ++ pins) = X' at I4
 have ePr : X'.prog = X.prog := by rw [← hX']; rfl
 have eW : X'.w = X.w := by rw [← hX']; rfl
 have eK : X'.K = X.K := by rw [← hX']; rfl
 have eA : X'.A = X.A := by rw [← hX']; rfl
 have eEnv : X'.env = compEnvC scope (Zgk X.env scope.names []) hp3.objs.size X.env := by rw [← hX']; rfl
 have eEx : X'.ex = fp := by rw [← hX']; rfl
 have ht' : PTs X' ifs tt := by rw [← hX']; exact ht _ _ _ _ _ _
 have he' : PE X' elt te := by rw [← hX']; exact he _ _ _ _ _ _
 have eXe : X'.xe = fun _ _ => False := by rw [← hX']; rfl
 have hg' : PG X' (.Tuple [.Name x px, .Name y0 py] kt pt) (gTup X.K 2 (Zqs (Zi8 0) (Zqs (Zi8 1) gNil))) := by
  rw [← hX']
  exact Zuc (X := blk X scope (x :: y0 :: cn) _ _ _ _ _ _) hc (Ziu (Zjk (X := blk X scope (x :: y0 :: cn) _ _ _ _ _ _) B.nd rfl (.inl (lookup_relabel_local B.tgt)) (.inr (lookup_relabel_local B.tgt))) (Ziu (Zjk (X := blk X scope (x :: y0 :: cn) _ _ _ _ _ _) B.nd rfl (.inl (lookup_relabel_local B.tgt2)) (.inr (lookup_relabel_local B.tgt2))) Zpc))
 -- the iterator's objects, seen from the block
 have stat : ∀ {H' : Hp}, (∀ b ∈ fp, H' b = none) -> ∀ b ∈ fp, Zl0 X' [] H' b := fun {H'} hn b hb => by
  rw [← hX']
  refine ⟨hn b hb, (by show b ≠ hp3.objs.size; rw [sz3]; exact Nat.ne_of_lt (Nat.lt_succ_of_lt (flt b hb))), fun z => (List.mem_cons.mp (I3.stkSub b z)).elim (hf b hb).2.1 (hf b hb).2.2.1, .inl hb, fun y c e => ?_, fun p hp => ?_⟩
  ·exact (hf b hb).2.2.2.2.1 y c (Zfx X.env scope.names [] (by intro x c h; simp at h) y c e)
  ·exact (hf b hb).2.2.2.2.2 p (by simpa [blk] using hp)
 have back : ∀ {σ' : L2.St} {H' : Hp} {s' : Shared}, Inv X' [] σ' H' s' -> Inv X pins σ H' s' ∧ Gone X pins H' s' hp3.objs.size := fun {σ' H' s'} I5 => by
  have u : Un (frs X.stack) fp (upd H s.heap.objs.size (.lst [])) H' hp3 s'.heap := by
   have := I5.base
   rw [← hX'] at this
   exact this
  have hok : HOk X.prog X.w H' s'.heap := by have := I5.hok; rw [ePr, eW] at this; exact this
  have ho : s'.os = s.os := by have := I5.os; rw [← hX'] at this; exact this
  refine ⟨I3.call' ho u hok I5.bare fun b hb => ⟨(hf b hb).2.2.2.1, (hf b hb).2.1, (hf b hb).2.2.2.2.1, (hf b hb).2.2.2.2.2⟩, ?_, ?_, ?_, ?_, fun y c e z => ?_, fun p hp z => ?_⟩
  ·obtain ⟨m, hn, _⟩ := I5.loc
   rw [eEnv] at hn
   exact ⟨m, hn⟩
  ·have := I5.free
   rw [eEnv] at this
   exact this
  ·exact Nat.ne_of_gt (I3.lt)
  ·exact I3.sz
  ·obtain ⟨v, q⟩ := I3.cell y c e
   exact absurd (Nat.lt_of_lt_of_le q.lt (by rw [z]; exact Nat.le_refl _)) (Nat.lt_irrefl _)
  ·have := Heap.lt_size (I3.pin p hp).1
   rw [z] at this
   exact Nat.lt_irrefl _ this
 have loop : codeAny (model X.prog X.w) X.A (.compLoop (.ListComp elt [⟨.Tuple [.Name x px, .Name y0 py] kt pt, iter, ifs, 0⟩] scope pos) 0 (.ref it) (.ref s.heap.objs.size) (compEnvC scope (Zgk X.env scope.names []) hp3.objs.size X.env))
   (RR (.ref s.heap.objs.size) hp3.objs.size) { s with heap := h₁, toks := s.toks + ([] : List (Str × Value)).length } := by
  refine codeAny_loop rfl (fun n s' => ∃ i o o2 ys H', Inv X' [] (o :: o2 :: Zhx ci σ) H' s' ∧ tn i s'.heap ∧ (∀ b ∈ fp, H' b = none) ∧ W i n ys H') (fun n s' hI => ?_) m0
   ⟨0, none, none, [], _, I4, T.keep _ _ _ st (fun b hb o e => old4 b o (old3 b o e)), fun b hb => (f3 b hb).1, w0⟩
  obtain ⟨i, o, o2, ys, H', I5, st5, fr5, w5⟩ := hI
  show wpAny _ X.A ((compTurn (.ListComp elt [⟨.Tuple [.Name x px, .Name y0 py] kt pt, iter, ifs, 0⟩] scope pos) 0 (.ref it) (.ref s.heap.objs.size) (compEnvC scope (Zgk X.env scope.names []) hp3.objs.size X.env)).onRaise (fun x => do noteFrame x (compEnvC scope (Zgk X.env scope.names []) hp3.objs.size X.env); theTreesLotGoes x)) _ _ s'
  refine wpAny_noted ?_
  rw [compTurn_list, ← eEnv, ← ePr, ← eW, ← eA]
  refine wpAny_mono (E := fun _ _ => False) ?_ (fun _ _ q => q) (fun _ _ z => z.elim)
  obtain ⟨hpl, wt⟩ := turn i n ys H' w5
  refine wpAny_bind (wpAny_standAt (wpAny_bind ?_))
  rcases wt with ⟨stop, q⟩ | ⟨go, step⟩
  ·have z := T.done X' ePr eW eK (by rw [← hX']; exact hc) i [] s' _ H' (fun _ _ => False) I5 (stat fr5) st5 stop
   rw [← ePr, ← eW] at z
   refine thn z fun r s6 zz => ?_
   obtain ⟨hr, I6⟩ := zz
   subst hr
   obtain ⟨J1, g1⟩ := back I6
   exact wpAny_pure (hRR _ _ H' s6 J1 g1 q)
  ·have z := T.item X' ePr eW eK (by rw [← hX']; exact hc) i [] s' _ H' (fun _ _ => False) I5 (stat fr5) st5 go
   rw [← ePr, ← eW] at z
   refine thn z fun r s6 zz => ?_
   obtain ⟨u, hr, h6⟩ := zz
   subst hr
   refine wpAny_bind (thn h6 fun _ s7 zz => ?_)
   obtain ⟨v, H7, I7, r7, y7, st7, fr7⟩ := zz
   have I7' := I7.pinned (stat fr7) (T.obj _ _ st7)
   rw [← eXe]
   obtain ⟨a7, v1, v2, ev, sq, step7⟩ := step v _ y7
   refine wpAny_bind (thn (hg' _ s7 _ H7 v u _ I7' r7 (show gTup X.K 2 (Zqs (Zi8 0) (Zqs (Zi8 1) gNil)) v (o :: o2 :: Zhx ci σ) H7 (fun σ8 H8 => σ8 = some v1 :: some v2 :: Zhx ci σ ∧ H8 = H7) from ⟨a7, [v1, v2], ev, sq, rfl, ⟨v1, [v2], rfl, v2, [], rfl, rfl, rfl, rfl⟩⟩)) fun _ s8 zz => ?_)
   obtain ⟨σ8, H8, I8, e8, e8'⟩ := zz
   subst e8 e8'
   refine wpAny_bind (thn (ht' _ s8 _ _ _ I8 step7) fun b s9 zz => ?_)
   obtain ⟨H9, I9, q9⟩ := zz
   have tnK : ∀ {σ' : L2.St} {H' : Hp} {s' : Shared}, Inv X' (([] : List (Addr × Obj)) ++ Zh9 fp s7.heap) σ' H' s' -> tn (i + 1) s'.heap ∧ ∀ b ∈ fp, H' b = none := fun {σ' H' s'} I' =>
    ⟨T.keep _ _ _ st7 fun b hb o e => (I'.pin (b, o) (List.mem_append_right _ (List.mem_append_right _ (Zdn hb e)))).1, fun b hb => by
     obtain ⟨ob, e, d⟩ := T.obj _ _ st7 b hb
     exact (I'.pin (b, ob) (List.mem_append_right _ (List.mem_append_right _ (Zdn hb e)))).2.1⟩
   cases b with
   | false =>
    obtain ⟨m', hm, w9⟩ := q9
    obtain ⟨t9, f9⟩ := tnK I9
    exact wpAny_pure ⟨rfl, m', hm, i + 1, _, _, ys, H9, I9.unpinned, t9, f9, w9⟩
   | true =>
    refine wpAny_bind (wpAny_bind (thn (he' _ s9 _ _ _ I9 q9) fun yv s10 zz => ?_))
    obtain ⟨y, H10, I10, r10, hp10, hz10, m', hm, w10⟩ := zz
    refine wpAny_bind (thn (Zhj (X := X') _ s10 _ H10 (.ref s.heap.objs.size) [y] (.ref s.heap.objs.size) [yv] (fun _ H11 => H11 = upd H10 s.heap.objs.size (.lst (ys ++ [y]))) I10 rfl (.cons r10 .nil) ⟨_, ys, y, rfl, rfl, hp10, hz10, rfl⟩) fun _ s11 zz => ?_)
    obtain ⟨_, H11, I11, _, e11⟩ := zz
    subst e11
    obtain ⟨t11, f11⟩ := tnK I11
    exact wpAny_pure (wpAny_pure ⟨rfl, m', hm, i + 1, _, _, ys ++ [y], _, I11.unpinned, t11, f11, w10⟩)
 exact codeAny_compStart_list loop (T.self _ 0 _ _ _ (T.keep _ _ _ st (fun b hb o e => old4 b o (old3 b o e))) loop)
noncomputable def tLC2 (K : PySem.W.Frag) (wi : TI) (ci : List Nat) (tt : TT) (te : TE) : TE := fun σ H Q => wi σ H fun J H1 => LcW2 K J ci tt te σ Q H1
theorem Zyu {elt iter : Expr} {px py pt pos : Pos} {kt : Nat} {ifs : List Expr} {wi : TI} {tt : TT} {te : TE} (hc : X.calm = true) (B : BlkOk2 X scope x y0 cn ci) (hi : PI X (.Tuple [.Name x px, .Name y0 py] kt pt) iter wi)
  (ht : ∀ cl C s H fp pn, PTs (blk X scope (x :: y0 :: cn) cl C s H fp pn) ifs tt) (he : ∀ cl C s H fp pn, PE (blk X scope (x :: y0 :: cn) cl C s H fp pn) elt te)
  (hs : ∀ x, foldedSetIterable iter X.env x = pure x := by rintro _; rfl) : PE X (.ListComp elt [⟨.Tuple [.Name x px, .Name y0 py] kt pt, iter, ifs, 0⟩] scope pos) (tLC2 X.K wi ci tt te) := by
 intro pins s σ H Q I h
 rw [eval_ListComp]
 refine wpAny_comprehension_free (use := none) rfl hs (Zf3 X.env scope B.free) B.kind B.names ?_
 refine thn (hi pins s σ H _ I h) fun v s1 h1 => thn h1 fun itv s2 h2 => ?_
 obtain ⟨it, fp, tn, J, H2, e, I2, T, st2, f2, w2⟩ := h2
 subst e
 refine Zqx (RR := fun acc C => compPost (model X.prog X.w) X.A X.xe none (EP X pins σ Q) acc C) I2 hc B T st2 f2 ht he w2 fun p C H' s' I' g q => ?_
 obtain ⟨m, hn⟩ := g.ns
 exact ⟨m, hn, fun h' hs' => ⟨.ref p, H', g.go I' hs', rfl, q⟩⟩
end
noncomputable def Zy2 (sc scope : Scope) (N : List Str) (x y : Str) (cn : List Str) (ci : List Nat) : Bool :=
 (scope.kind == .function) && scope.names.all (fun y => y.2 != .cell) && scope.names.all (fun y => y.2 != .local || scope.names.lookup y.1 == some .local) && (scope.names.lookup x == some .local) && (scope.names.lookup y == some .local) &&
 scope.names.all (fun y => y.2 != .free || sc.names.lookup y.1 == some .cell) && decide (x :: y :: cn).Nodup && (ci.length == cn.length) &&
 (cn.zip ci).all (fun p => N[p.2]? == some p.1 && scope.names.lookup p.1 == some .free && sc.names.lookup p.1 == some .cell)
theorem Zxa {P : Program} {w : World} {K : PySem.W.Frag} {mg : Str -> Option Value} {base : Heap} {N : List Str} {qual : Str} {sc scope : Scope} {f : Addr} {cdv : Value} {A : Around} {outer : List Env} {s : Shared} {H : Hp} {E : XK} {x y0 : Str} {cn : List Str} {ci : List Nat}
  (h : Zy2 sc scope N x y0 cn ci = true) : BlkOk2 (Zfj CX0 P w K mg base N qual sc f cdv A outer s H E).nox scope x y0 cn ci := by
 unfold Zy2 at h
 simp only [Bool.and_eq_true, List.all_eq_true, Bool.or_eq_true, bne_iff_ne, ne_eq, beq_iff_eq, decide_eq_true_eq] at h
 obtain ⟨⟨⟨⟨⟨⟨⟨⟨h1, h2⟩, h3⟩, h4⟩, h4b⟩, h5⟩, h6⟩, h7⟩, h8⟩ := h
 refine ⟨h1, fun y hy => h2 y hy, fun y hy hl => (h3 y hy).resolve_left fun z => z hl, h4, h4b, fun y hy hf => ?_, h6, h7, fun j y hj => ?_⟩
 ·have := (h5 y hy).resolve_left fun z => z hf
  obtain ⟨c, hc⟩ := Zgm (n := s.heap.objs.size + 1) this
  exact Option.isSome_iff_exists.mpr ⟨c, hc⟩
 ·have hl : j < ci.length := by rw [h7]; exact (List.getElem?_eq_some_iff.mp hj).1
  have hm : (y, ci[j]) ∈ cn.zip ci := by
   refine List.mem_iff_getElem?.mpr ⟨j, ?_⟩
   rw [List.getElem?_zip_eq_some]
   exact ⟨hj, by simp [hl]⟩
  obtain ⟨⟨k1, k2⟩, k3⟩ := h8 _ hm
  exact ⟨ci[j], by simp [hl], k1, k2, .inl k3⟩
open Builtin.SmallTypes (nextOf)
section
variable {prog : Program} {w : World} {A : Around} {E : Value -> Shared -> Prop} {s : Shared}
theorem Zrb {j t : Addr} {i : Nat} {its : Array Value} {x : Value} {Q : Value -> Shared -> Prop} (hj : s.heap.IsListIter j t i) (ht : s.heap.IsList t its) (hx : its[i]? = some x)
  (hQ : ∀ h', h'.IsListIter j t (i + 1) -> Heap.SameBut j s.heap h' -> Q x { s with heap := h' }) : wpAny (model prog w) A (nextOf (.ref j)) Q E s :=
 Zwz (b := true) hj ht hx hQ
theorem Ztf {j t : Addr} {i : Nat} {its : Array Value} {Q : Value -> Shared -> Prop} (hh : A.handled = none) (hj : s.heap.IsListIter j t i) (ht : s.heap.IsList t its) (hx : its[i]? = none)
  (hE : ∀ h' e, Heap.ExtBut j s.heap h' → (∃ o, h'.get? e = some o ∧ o.cls = .type "StopIteration") → E (.ref e) { s with heap := h' }) : wpAny (model prog w) A (nextOf (.ref j)) Q E s :=
 Zzc (b := true) hh hj ht hx hE
theorem Zn0 {e j t : Addr} {i : Nat} {c : Int} {its : Array Value} {x old : Value} {Q : Option Value -> Shared -> Prop} (he : IsEnum s.heap e j c old) (hj : s.heap.IsListIter j t i) (ht : s.heap.IsList t its) (hx : its[i]? = some x) (hne : e ≠ j)
  (hQ : ∀ h' tk, IsEnumOut h' e j (c + 1) x s.heap.objs.size → h'.IsListIter j t (i + 1) → h'.get? s.heap.objs.size = some { cls := .type "tuple", data := .seq #[.int c tk, x] } → h'.objs.size = s.heap.objs.size + 1 →
   (∀ b o, b ≠ e -> b ≠ j -> s.heap.get? b = some o -> h'.get? b = some o) -> Q (some (.ref s.heap.objs.size)) { s with heap := h', toks := s.toks + 1 }) :
  wpAny (model prog w) A (pyNext (.ref e)) Q E s := by
 have hT : s.TypeIs (.ref e) "enumerate" := ⟨_, he, rfl⟩
 unfold pyNext
 refine wpAny_bind (wpAny_attempt (wpAny_callSpecial?_slot (name := Str.ofString "__next__") hT F.slot_enumerate_next (wpAny_call_entry F.slot_enumerate_next hT F.entry_enumerate_next ?_ (F.args_enumerate_next_1 _))))
 obtain ⟨hp, g, d, tk, os⟩ := s
 show wpAny _ _ (field (.ref e) 2 >>= _) _ _ _
 refine wpAny_bind (wpAny_field he rfl (x := .ref j) rfl (wpAny_bind (Zrb hj ht hx fun h1 j1 s1 => ?_)))
 replace s1 : Heap.SameBut j hp h1 := s1
 have e1 : IsEnum h1 e j c old := (s1.2 e hne).trans he
 show wpAny _ _ (field (.ref e) 3 >>= _) _ _ ⟨h1, g, d, tk, os⟩
 refine wpAny_bind (wpAny_field e1 rfl (x := rawInt c) rfl ?_)
 show wpAny _ _ (field (.ref e) 4 >>= _) _ _ ⟨h1, g, d, tk, os⟩
 refine wpAny_bind (wpAny_field e1 rfl (x := .none) rfl ?_)
 show wpAny _ _ (mkInt c >>= _) _ _ ⟨h1, g, d, tk, os⟩
 refine wpAny_bind (wpAny_mkInt ?_)
 show wpAny _ _ (setField (.ref e) 3 (rawInt (c + 1)) >>= _) _ _ ⟨h1, g, d, tk + 1, os⟩
 refine wpAny_bind (wpAny_setField_rec e1 (by simp) fun h2 e2 s2 => ?_)
 replace s2 : Heap.SameBut e h1 h2 := s2
 replace e2 : IsEnum h2 e j (c + 1) old := e2
 show wpAny _ _ (setField (.ref e) 4 .none >>= _) _ _ ⟨h2, g, d, tk + 1, os⟩
 refine wpAny_bind (wpAny_setField_rec e2 (by simp) fun h3 e3 s3 => ?_)
 replace s3 : Heap.SameBut e h2 h3 := s3
 replace e3 : IsEnum h3 e j (c + 1) old := e3
 show wpAny _ _ (newTuple [.int c tk, x] >>= _) _ _ ⟨h3, g, d, tk + 1, os⟩
 refine wpAny_bind (wpAny_newTuple ?_)
 have e4 : IsEnum (h3.push { cls := .type "tuple", data := .seq #[.int c tk, x] }) e j (c + 1) old := Heap.get?_push_of_some _ e3
 generalize q4 : h3.push { cls := .type "tuple", data := .seq #[.int c tk, x] } = h4 at e4
 have zz : h3.objs.size = hp.objs.size := by rw [s3.1, s2.1, s1.1]
 have lt : e < hp.objs.size := Heap.lt_size he
 have t4 : h4.get? hp.objs.size = some { cls := .type "tuple", data := .seq #[.int c tk, x] } := by rw [← q4, ← zz]; exact Heap.get?_push_size _ rfl
 have z4 : h4.objs.size = hp.objs.size + 1 := by rw [← q4, Heap.size_push, zz]
 have k4 : ∀ b o, b ≠ e -> b ≠ j -> hp.get? b = some o -> h4.get? b = some o := fun b o n1 n2 q => by
  rw [← q4]; exact Heap.get?_push_of_some _ (s3.extBut b o n1 (s2.extBut b o n1 (s1.extBut b o n2 q)))
 have j4 : h4.IsListIter j t (i + 1) := by
  obtain ⟨o, ho, r⟩ := id j1
  exact ⟨o, by rw [← q4]; exact Heap.get?_push_of_some _ (s3.extBut j o (Ne.symm hne) (s2.extBut j o (Ne.symm hne) ho)), r⟩
 show wpAny _ _ (Builtin.SmallTypes.ownedTupleIsFree (.ref e) >>= _) _ _ ⟨h4, g, d, tk + 1, os⟩
 rw [zz]
 clear q4 e3 s3 e2 s2 e1 s1 j1 zz h3 h2 h1
 refine wpAny_bind ?_
 unfold Builtin.SmallTypes.ownedTupleIsFree
 refine wpAny_bind (wpAny_field e4 rfl (x := .none) rfl (wpAny_pure ?_))
 simp only [if_true]
 refine wpAny_bind (wpAny_rule (wpAny_bind (wpAny_field e4 rfl (x := old) rfl (wpAny_bind (wpAny_setField_rec e4 (by simp) fun h5 e5 s5 => ?_)))))
 replace s5 : Heap.SameBut e h4 h5 := s5
 replace e5 : IsEnum h5 e j (c + 1) x := e5
 show wpAny _ _ (Builtin.SmallTypes.ownedTupleHandOut (.ref e) (.ref hp.objs.size) >>= _) _ _ ⟨h5, g, d, tk + 1, os⟩
 refine wpAny_bind ?_
 unfold Builtin.SmallTypes.ownedTupleHandOut
 refine wpAny_bind (wpAny_setField_rec e5 (by simp) fun h6 e6 s6 => ?_)
 replace s6 : Heap.SameBut e h5 h6 := s6
 replace e6 : IsEnumOut h6 e j (c + 1) x hp.objs.size := e6
 refine wpAny_setField_rec e6 (by simp) fun h7 e7 s7 => ?_
 replace s7 : Heap.SameBut e h6 h7 := s7
 replace e7 : IsEnumOut h7 e j (c + 1) x hp.objs.size := e7
 have up : ∀ b o, b ≠ e -> h4.get? b = some o -> h7.get? b = some o := fun b o n q => s7.extBut b o n (s6.extBut b o n (s5.extBut b o n q))
 refine wpAny_bind (wpAny_letGo (wpAny_pure ⟨_, rfl, wpAny_pure (hQ h7 tk e7 ?_ (up _ _ (Nat.ne_of_gt lt) t4) (by rw [s7.1, s6.1, s5.1, z4]) fun b o n1 n2 q => up b o n1 (k4 b o n1 n2 q))⟩))
 obtain ⟨o, ho, r⟩ := id j4
 exact ⟨o, up j o (Ne.symm hne) ho, r⟩
theorem Zod {e j t : Addr} {i : Nat} {c : Int} {its : Array Value} {old : Value} {Q : Option Value -> Shared -> Prop} (hh : A.handled = none) (he : IsEnum s.heap e j c old) (hj : s.heap.IsListIter j t i) (ht : s.heap.IsList t its) (hx : its[i]? = none)
  (hQ : ∀ h', Heap.ExtBut j s.heap h' -> Q none { s with heap := h' }) : wpAny (model prog w) A (pyNext (.ref e)) Q E s := by
 have hT : s.TypeIs (.ref e) "enumerate" := ⟨_, he, rfl⟩
 unfold pyNext
 refine wpAny_bind (wpAny_attempt (wpAny_callSpecial?_slot (name := Str.ofString "__next__") hT F.slot_enumerate_next (wpAny_call_entry F.slot_enumerate_next hT F.entry_enumerate_next ?_ (F.args_enumerate_next_1 _))))
 show wpAny _ _ (field (.ref e) 2 >>= _) _ _ _
 refine wpAny_bind (wpAny_field he rfl (x := .ref j) rfl (wpAny_bind (Ztf hh hj ht hx fun h' z he' zz => ?_)))
 obtain ⟨o, ho, hc⟩ := zz
 exact wpAny_bind (wpAny_isInstance (T := "StopIteration") (b := true) ⟨o, ho, hc⟩ isSubtype_stop (wpAny_pure (hQ _ he')))
open AutoSeq1 (wpAny_loadPart') in
theorem Zoo (t : Addr) (its : Array Value) (n : Nat) (dct : Option Addr) (sl : Array (Option Value)) :
  Meets (Builtin.«enumerate.__new__» ⟨[.type "enumerate", .ref t], []⟩) (fun _ R s => s.heap.get? t = some { cls := .type "list", dict := dct, data := .seq its n, slots := sl } ∧
   R (.ok (.ret (.ref (s.heap.push { cls := .type "list_iterator", data := .fields #[.ref t, .int 0 0] }).objs.size)))
    { s with heap := (s.heap.push { cls := .type "list_iterator", data := .fields #[.ref t, .int 0 0] }).push { cls := .type "enumerate", data := .fields #[.none, .bool false, .ref s.heap.objs.size, rawInt 0, .none, .none] } }) :=
 .of_wp fun prog w A R s h => by
  obtain ⟨hp, g, d, tk, os⟩ := s; obtain ⟨hl, h⟩ := h
  have hsub := sub_enumerate
  have hL : Heap.IsList (Shared.heap ⟨hp, g, d, tk, os⟩) t its := ⟨_, hl, rfl, n, rfl⟩
  wp_walk using wpAny_loadPart' hl
  refine wpAny_stack_any fun st => wpAny_pure ?_
  split
  ·rename_i k _ _ _ _ _
   cases (k == Value.type "enumerate") <;> (wp_walk using wpAny_loadPart' hl, wpAny_pyIter_list hL; exact ⟨_, rfl, h⟩)
  ·wp_walk using wpAny_loadPart' hl, wpAny_pyIter_list hL
   exact ⟨_, rfl, h⟩
theorem Zoe {t : Addr} {its : Array Value} {Q : Value -> Shared -> Prop} (hL : s.heap.IsList t its)
  (h : ∀ h', IsEnum h' (s.heap.objs.size + 1) s.heap.objs.size 0 .none -> h'.IsListIter s.heap.objs.size t 0 -> h'.objs.size = s.heap.objs.size + 2 →
   (∀ b o, s.heap.get? b = some o -> h'.get? b = some o) -> Q (.ref (s.heap.objs.size + 1)) { s with heap := h' }) :
  wpAny (model prog w) A (call (.type "enumerate") [.ref t]) Q E s := by
 obtain ⟨⟨k, dct, dt, sl⟩, hl, hc, n, hd⟩ := hL
 replace hc : k = .type "list" := hc
 replace hd : dt = .seq its n := hd
 subst hc hd
 refine callType_new F.called_enumerate (by decide) (F.typeCall_enumerate_1 _) (F.newCall_enumerate_1 _) (fun obj => F.args_object_init_2 obj _) F.entry_enumerate_new (Zoo t its n dct sl) ⟨hl, ?_⟩
 have hz : (s.heap.push { cls := .type "list_iterator", data := .fields #[.ref t, .int 0 0] }).objs.size = s.heap.objs.size + 1 := Heap.size_push ..
 show _ ∧ _
 rw [hz]
 have he : IsEnum ((s.heap.push { cls := .type "list_iterator", data := .fields #[.ref t, .int 0 0] }).push { cls := .type "enumerate", data := .fields #[.none, .bool false, .ref s.heap.objs.size, rawInt 0, .none, .none] }) (s.heap.objs.size + 1) s.heap.objs.size 0 .none := by
  have q := Heap.get?_push_size (s.heap.push { cls := .type "list_iterator", data := .fields #[.ref t, .int 0 0] }) (o := { cls := .type "enumerate", data := .fields #[.none, .bool false, .ref s.heap.objs.size, rawInt 0, .none, .none] }) rfl
  rw [hz] at q; exact q
 exact ⟨⟨_, he, rfl⟩, h _ he ⟨_, Heap.get?_push_of_some _ (Heap.get?_push_size _ rfl), rfl, rfl⟩ (by rw [Heap.size_push, hz]) fun b o x => Heap.get?_push_of_some _ (Heap.get?_push_of_some _ x)⟩
end
noncomputable def IteL (c : Int) (a : Addr) : It :=
 ⟨fun i H => ∃ xs x, H a = some (.lst xs) ∧ xs[i]? = some x, fun i H v H' => ∃ p x, H p = none ∧ v = .ref p ∧ H' = upd H p (.tup [.int (c + i), x]) ∧ ∀ xs, H a = some (.lst xs) -> xs[i]? = some x, fun i H => ∃ xs, H a = some (.lst xs) ∧ xs.length ≤ i⟩
theorem Znl {P : Program} {w : World} {K : PySem.W.Frag} {es : List Expr} {k : Nat} {pos : Pos} (a e j : Addr) (c : Int) (hne : e ≠ j) : Turn P w K (.Tuple es k pos) (IteL c a) [e, j] e (fun i h => ∃ old, IsEnum h e j (c + i) old ∧ h.IsListIter j a i) where
 mem := by simp
 obj := fun i h st b hb => by
  obtain ⟨old, he, o, ho, hc, hd⟩ := st
  rcases List.mem_cons.mp hb with rfl | hb
  ·exact ⟨_, he, fun v z => by cases z⟩
  ·have : b = j := by simpa using hb
   subst this
   exact ⟨o, ho, fun v z => by rw [hd] at z; cases z⟩
 keep := fun i h h' st kk => by
  obtain ⟨old, he, o, ho, r⟩ := st
  exact ⟨old, kk e (by simp) _ he, o, kk j (by simp) o ho, r⟩
 item := by
  intro X hP hw hK hc i pins s σ H E I hf st hg
  subst hP hw hK
  obtain ⟨xs, x, hq, hx⟩ := hg
  obtain ⟨old, he, hj⟩ := st
  obtain ⟨its, rv, p, hz⟩ := I.list (SqL.of hq)
  obtain ⟨u, hu, ru⟩ := rv.get hx
  have fe := hf e (by simp)
  have fj := hf j (by simp)
  refine Zn0 he hj p.isList (x := u) (by simpa using hu) hne fun h' tk eo j' t' z' kk => ?_
  refine ⟨_, rfl, wpAny_letOwnedTupleGo_enum (s := { s with heap := h', toks := s.toks + 1 }) eo fun h2 e2 s2 => ?_⟩
  replace s2 : Heap.SameBut e h' h2 := s2
  have le : e < s.heap.objs.size := Heap.lt_size he
  have ne2 : s.heap.objs.size ≠ e := Nat.ne_of_gt le
  -- the iterator's two records have turned, the pair is new
  have t2 : h2.get? s.heap.objs.size = some { cls := .type "tuple", data := .seq #[.int (c + i) tk, u] } := s2.extBut _ _ ne2 t'
  have hp0 : H s.heap.objs.size = none := I.hok.fresh (Nat.le_refl _)
  have up : ∀ b o, b ∉ [e, j] -> s.heap.get? b = some o -> h2.get? b = some o := fun b o hb q =>
   s2.extBut b o (fun z => hb (by simp [z])) (kk b o (fun z => hb (by simp [z])) (fun z => hb (by simp [z])) q)
  have I2 : Inv X pins σ (upd H s.heap.objs.size (.tup [.int (c + i), x])) { s with heap := h2, toks := s.toks + 1 } := by
   refine I.step (g' := s.gens) (d' := s.drawn) (t' := s.toks + 1) (ch := [e, j]) (fun b hb => ?_) (fun b o _ _ hb q n => up b o hb q) (fun b o _ _ hb q n => ⟨o.slots, up b o hb q⟩) (fun b o _ q n => ?_) (fun b o hb q => ⟨o, up b o hb q⟩) (fun b ys q => ?_) (fun b o y q => ?_) (fun b ps q => ⟨#[], ?_⟩) (fun m hm => ?_) (fun b o q => ?_) I.bare
   ·have := hf b hb; exact ⟨this.2.2.2.1, this.2.1, this.2.2.2.2.1, this.2.2.2.2.2⟩
   ·rw [Zao (Nat.ne_of_lt (Heap.lt_size q))]; exact n
   ·rw [Zao (Zan q hp0)]; exact q
   ·rw [Zao (Zan q hp0)]; exact q
   ·rw [Zao (Zan q hp0), q]; simp
   ·obtain ⟨o, es', ep, ho, r⟩ := hm
    exact ⟨o, es', ep, s2.extBut _ o (Ne.symm fe.2.1) (kk _ o (Ne.symm fe.2.1) (Ne.symm fj.2.1) ho), r⟩
   ·by_cases hb : b = s.heap.objs.size
    ·subst hb
     rw [upd_same] at q
     cases q
     exact ⟨(by show 2 ≤ sizeLine; decide), [.int (c + i) tk, u], .cons ⟨tk, rfl⟩ (.cons ru .nil), _, t2, rfl, ⟨_, rfl⟩, rfl⟩
    ·rw [Zao hb] at q
     refine (I.hok b o q).stay (fun d v hd z => up d v (fun hm => ?_) z) (fun d z => by rw [Zao (Zan z hp0)]; exact z) fun d ys z => by rw [Zao (Zan z hp0)]; exact z
     have : H d ≠ none := by
      rcases hd with rfl | hd
      ·rw [q]; simp
      ·rw [hd]; simp
     exact this (hf d hm).1
  refine ⟨.ref s.heap.objs.size, _, I2, rfl, ⟨_, x, hp0, rfl, rfl, fun ys hy => by rw [hq] at hy; cases hy; exact hx⟩, ?_, fun b hb => ?_⟩
  ·obtain ⟨o, ho, r⟩ := id j'
   have ec : c + ((i + 1 : Nat) : Int) = c + (i : Int) + 1 := by push_cast; omega
   exact ⟨u, by rw [ec]; exact e2, o, s2.extBut j o (Ne.symm hne) ho, r⟩
  ·have hb2 : b ≠ s.heap.objs.size := by
    rcases List.mem_cons.mp hb with rfl | hb
    ·exact Nat.ne_of_lt le
    ·have : b = j := by simpa using hb
     subst this
     obtain ⟨o, ho, _⟩ := id hj
     exact Nat.ne_of_lt (Heap.lt_size ho)
   rw [Zao hb2]; exact (hf b hb).1
 done := by
  intro X hP hw hK hc i pins s σ H E I hf st hg
  subst hP hw hK
  obtain ⟨xs, hq, hx⟩ := hg
  obtain ⟨old, he, hj⟩ := st
  obtain ⟨its, rv, p, hz⟩ := I.list (SqL.of hq)
  obtain ⟨f0, f1, f2, f3, f4, f5⟩ := hf j (by simp)
  have hl := rv.length
  exact Zod (I.ok.hd hc) he hj p.isList (by simp; omega) fun h' eb => ⟨rfl, I.turned (t' := s.toks) (fun b o hb q => eb b o hb q) f0 f1 f3 f4 f5⟩
 self := fun _ _ _ _ _ st h => by
  obtain ⟨old, he, _⟩ := st
  exact wpAny_pyIter_enum he h
noncomputable def two2 : D -> Option (D × D)
 | .tup [a, b] => some (a, b)
 | _ => none
theorem Zpy {x a b : D} (h : two2 x = some (a, b)) : x = .tup [a, b] := by
 unfold two2 at h
 split at h
 ·cases h; rfl
 ·cases h
open Classical in
noncomputable def Zei (own : Zge) (c0 : SD) (tt : TF) (te : EF) : List D -> HD -> Option (List D × HD)
 | [], H => if Zcp own H then some ([], H) else none
 | x :: r, H => (two2 x).bind fun ab => if Zcp own H then (tt (some ab.1 :: some ab.2 :: c0) H).bind fun t => if t.1 = true then (te (some ab.1 :: some ab.2 :: c0) t.2).bind fun e => (Zei own c0 tt te r e.2).map fun q => (e.1 :: q.1, q.2) else Zei own c0 tt te r t.2 else none
noncomputable def Zx0 (it : ItF) (ci : List Nat) (tt : TF) (te : EF) : EF := fun σ H => (it σ H).bind fun p => (Zei p.1.2 (Zlb ci σ) tt te p.1.1 p.2).bind fun q => mkL q.1 q.2
theorem Znt {own : Zge} {c0 : SD} {tt : TF} {te : EF} {x : D} {r : List D} {H : HD} {z : List D × HD} (h : Zei own c0 tt te (x :: r) H = some z) : ∃ a b, x = .tup [a, b] ∧ Zcp own H ∧ ((tt (some a :: some b :: c0) H).bind fun t => if t.1 = true then (te (some a :: some b :: c0) t.2).bind fun e => (Zei own c0 tt te r e.2).map fun q => (e.1 :: q.1, q.2) else Zei own c0 tt te r t.2) = some z := by
 rw [Zei] at h
 obtain ⟨⟨a, b⟩, e, h⟩ := Zo h
 split at h
 ·rename_i ok
  exact ⟨a, b, Zpy e, ok, h⟩
 ·cases h
section
variable {X : Cx} {scope : Scope} {x y0 : Str} {cn : List Str} {ci : List Nat}
theorem Zzi {α β : Type} {F : α -> β -> Prop} {a b : α} {us : List β} (h : Paired F [a, b] us) : ∃ u v, us = [u, v] ∧ F a u ∧ F b v := by
 cases h with
 | cons p P => cases P with
  | cons q P => cases P; exact ⟨_, _, rfl, p, q⟩
theorem SRep.cap2 {K : PySem.W.Frag} {H : Hp} {ι : List Addr} {σ : L2.St} {σd : SD} {d e : D} {v u : V} (s : SRep K H ι σ σd) (r : Rep K H ι d v) (r2 : Rep K H ι e u) : SRep K H ι (some v :: some u :: Zhx ci σ) (some d :: some e :: Zlb ci σd) := by
 have c := SRep.cap (ci := ci) s r2
 refine ⟨by simpa using c.len, fun i z h => ?_⟩
 cases i with
 | zero => simp at h; subst h; exact ⟨v, rfl, r⟩
 | succ j =>
  rw [List.getElem?_cons_succ] at h ⊢
  exact c.var j z h
theorem Zzy {K : PySem.W.Frag} {it : ItF} {tt : TF} {te : EF} {σ : L2.St} {H : Hp} {Q : VK} (h : rdE K (Zx0 it ci tt te) σ H Q) : tLC2 K (rdI K it) ci (rdT K tt) (rdE K te) σ H Q := by
 obtain ⟨ι, σd, Hd, d, Hd', s, hr, e, q⟩ := h
 obtain ⟨⟨⟨xs, own⟩, H1⟩, e1, e⟩ := Zo e
 obtain ⟨⟨ds, H2⟩, e2, e⟩ := Zo e
 obtain ⟨hz, e⟩ := Zje e
 cases e
 dsimp only at e2 hz
 refine ⟨ι, σd, Hd, xs, own, H1, s, hr, e1, fun J H0 ι0 l0 h0 itr p hp => ?_⟩
 have s0 := s.mono l0
 refine ⟨fun i m ys H => m = xs.length - i ∧ i ≤ xs.length ∧ H p = some (.lst ys) ∧ ∃ ι Hd done Zbv, Le K H0 ι0 H ι ∧ p ∉ ι ∧ HRep K H ι Hd ∧ Paired (Rep K H ι) done ys ∧ Zei own (Zlb ci σd) tt te (xs.drop i) Hd = some (Zbv, H2) ∧ ds = done ++ Zbv,
  ⟨xs.length, by simp, Nat.zero_le _, upd_same, ι0, H1, [], ds, Le.fresh hp _, h0.fresh hp, h0.tup hp _, .nil, by simpa using e2, by simp⟩, ?_⟩
 rintro i m ys H5 ⟨rfl, hi, hpl, ι5, Hd5, done, Zbv, l5, np5, h5, pd5, e5, eds⟩
 refine ⟨hpl, ?_⟩
 by_cases hlt : i < xs.length
 ·have ed : xs.drop i = xs[i] :: xs.drop (i + 1) := List.drop_eq_getElem_cons hlt
  rw [ed] at e5
  obtain ⟨a1, a2, ex, ok, e5⟩ := Znt e5
  obtain ⟨⟨b6, H6⟩, e6, e5⟩ := Zo e5
  refine .inr ⟨itr.go i H5 ι5 Hd5 l5 h5 ok hlt, fun v H' y => ?_⟩
  obtain ⟨ι6, l6, h6, r6⟩ := itr.yld i H5 ι5 Hd5 xs[i] v H' l5 h5 ok (by simp [hlt]) y
  obtain ⟨hp6, np6⟩ := l6.frame p _ hpl np5
  rw [ex] at r6
  obtain ⟨a6, ws6, ev6, sq6, P6⟩ := Zbj.mp r6
  obtain ⟨u1, u2, rfl, p1, p2⟩ := Zzi P6
  have s6 := SRep.cap2 (ci := ci) (s0.mono (l5.trans l6)) p1 p2
  refine ⟨a6, u1, u2, ev6, sq6, ι6, _, Hd5, b6, H6, s6, h6, e6, fun H7 ι7 l7 h7 => ?_⟩
  obtain ⟨hp7, np7⟩ := l7.frame p _ hp6 np6
  have L7 := (l5.trans l6).trans l7
  cases b6 with
  | true =>
   rw [if_pos rfl]
   dsimp only at e5
   rw [if_pos rfl] at e5
   obtain ⟨⟨d8, H8⟩, e8, e5⟩ := Zo e5
   obtain ⟨⟨r9, H9⟩, e9, e5⟩ := Zm e5
   cases e5
   refine ⟨ι7, _, H6, d8, H8, s6.mono l7, h7, e8, fun v8 H8' ι8 l8 h8 rr8 => ?_⟩
   obtain ⟨hp8, np8⟩ := l8.frame p _ hp7 np7
   have ly : ys.length < sizeLine := by
    rw [← Prd.len pd5]
    rw [eds] at hz
    simp at hz
    omega
   have w8 : Lw K H8' ι8 (upd H8' p (.lst (ys ++ [v8]))) ι8 := Lw.side hp8 _
   refine ⟨hp8, ly, xs.length - (i + 1), by omega, rfl, hlt, upd_same, ι8, H8, done ++ [d8], r9, (L7.trans l8).side hp hp8 _, np8, h8.keep w8 (fun a ha => Zao fun z => by subst z; exact np8 ha), ?_, e9, by rw [eds]; simp⟩
   exact Prd.append (Prd.monoW w8 (Prd.mono ((l6.trans l7).trans l8) pd5)) (.cons (Rep.monoW w8 rr8) .nil)
  | false =>
   rw [if_neg (by simp)]
   dsimp only at e5
   rw [if_neg (by simp)] at e5
   exact ⟨xs.length - (i + 1), by omega, rfl, hlt, hp7, ι7, H6, done, Zbv, L7, np7, h7, Prd.mono (l6.trans l7) pd5, e5, eds⟩
 ·rw [List.drop_eq_nil_of_le (by omega), Zei] at e5
  split at e5
  ·rename_i ok
   have e6 : (([] : List D), Hd5) = (Zbv, H2) := Option.some.inj e5
   obtain ⟨rfl, rfl⟩ := Prod.mk.inj e6
   refine .inl ⟨itr.stop i H5 ι5 _ l5 h5 ok (by omega), ?_⟩
   have w5 : Lw K H5 ι5 H5 (ι5 ++ [p]) := ⟨fun _ _ z => z, fun _ _ z => z, ⟨[p], rfl⟩, fun _ _ _ z => z⟩
   have L := l0.trans l5
   simp at eds
   subst eds
   refine q _ H5 (ι5 ++ [p]) ⟨L.toLw.trans w5, fun a o ha na => ?_⟩ (h5.add np5 ⟨ys, hpl, Prd.monoW w5 pd5⟩) (Za3.mpr ⟨p, rfl, by rw [← h5.len]; simp⟩)
   obtain ⟨q1, q2⟩ := L.frame a o ha na
   refine ⟨q1, ?_⟩
   have : a ≠ p := fun z => by
    subst z
    have := (l0.frame a o ha na).1
    rw [hp] at this; cases this
   simp [q2, this]
  ·cases e5
theorem Zve {elt iter : Expr} {px py pt pos : Pos} {kt : Nat} {ifs : List Expr} {it : ItF} {tt : TF} {te : EF} (hc : X.calm = true) (B : BlkOk2 X scope x y0 cn ci) (hi : PIf X (.Tuple [.Name x px, .Name y0 py] kt pt) iter it)
  (ht : ∀ cl C s H fp pn, Zyr (blk X scope (x :: y0 :: cn) cl C s H fp pn) ifs tt) (he : ∀ cl C s H fp pn, PEf (blk X scope (x :: y0 :: cn) cl C s H fp pn) elt te)
  (hs : ∀ x, foldedSetIterable iter X.env x = pure x := by rintro _; rfl) : PEf X (.ListComp elt [⟨.Tuple [.Name x px, .Name y0 py] kt pt, iter, ifs, 0⟩] scope pos) (Zx0 it ci tt te) :=
 PEi (Zyu (tt := rdT X.K tt) (te := rdE X.K te) hc B hi ht he hs) fun _ _ _ h => Zzy h
noncomputable def Znc (f : AF) : ItF := fun σ H => (f σ H).bind fun p => match p.1 with
 | [.ref n] => match p.2[n]? with
  | some (.lst xs) => some ((Zdz 0 xs, [(n, .lst xs)]), p.2)
  | _ => none
 | _ => none
theorem Zq9 {K : PySem.W.Frag} {H0 : Hp} {ι0 : List Addr} {a : Addr} {n : Nat} {c : Int} {xs : List D} (ha : ι0[n]? = some a) : ItRep K (IteL c a) (Zdz c xs) [(n, .lst xs)] H0 ι0 := by
 have now : ∀ {H2 : Hp} {ι2 : List Addr} {Hd2 : HD}, Le K H0 ι0 H2 ι2 -> HRep K H2 ι2 Hd2 -> Zcp [(n, DO.lst xs)] Hd2 -> ∃ ws, H2 a = some (.lst ws) ∧ Paired (Rep K H2 ι2) xs ws := fun {H2 ι2 Hd2} l2 h2 ok =>
  h2.obj n a _ (l2.get ha) (ok (n, .lst xs) (by simp))
 refine ⟨fun i H2 ι2 Hd2 l2 h2 ok hi => ?_, fun i H2 ι2 Hd2 d v H3 l2 h2 ok hd y => ?_, fun i H2 ι2 Hd2 l2 h2 ok hi => ?_⟩
 ·obtain ⟨ws, h3, P3⟩ := now l2 h2 ok
  exact ⟨ws, ws[i]'(by rw [← Prd.len P3, ← Ze2 xs c]; exact hi), h3, by simp⟩
 ·obtain ⟨ws, h3, P3⟩ := now l2 h2 ok
  obtain ⟨p, x, hp, rfl, rfl, y⟩ := y
  obtain ⟨x', hx', rfl⟩ := Zhf hd
  obtain ⟨u, hu, ru⟩ := Prd.get P3 hx'
  have := y ws h3
  rw [hu] at this
  cases this
  exact ⟨ι2, Le.fresh hp _, h2.tup hp _, Zbj.mpr ⟨p, _, rfl, SqT.of upd_same, .cons (by simp) (.cons (ru.mono (Le.fresh hp _)) .nil)⟩⟩
 ·obtain ⟨ws, h3, P3⟩ := now l2 h2 ok
  exact ⟨ws, h3, by rw [← Prd.len P3, ← Ze2 xs c]; exact hi⟩
theorem Zpk {es : List Expr} {k : Nat} {tp p pos : Pos} {a : Expr} {f : AF} (hg : Gl X "enumerate") (hm : X.mg "enumerate" = none) (ha : PAf X [a] f) (hs : starEach [a] X.env = [(false, eval a X.env)] := by rfl) : PIf X (.Tuple es k tp) (.Call (.Name "enumerate" p) [a] [] pos) (Znc f) := by
 rintro pins s σ H R I ⟨ι, σd, Hd, xs, own, Hd', sr, hr, e, q⟩
 obtain ⟨⟨ds, H1⟩, e1, e⟩ := Zo e
 dsimp only at e
 split at e
 ·rename_i n
  split at e
  ·rename_i ys eo
   cases e
   refine Call_ (Zeu I hg hm boot_enumerate (PyProof.Rows.callWith_type1 (thn (ha pos pins s σ H (fun vs H' => ∃ a ws, vs = [.ref a] ∧ H' a = some (.lst ws) ∧ ∀ (J : It) (H2 : Hp), H2 = H' -> J = IteL 0 a -> R J H2) I ⟨ι, σd, Hd, _, _, sr, hr, e1, fun vs H' ι' l h P => ?_⟩) fun us s1 ⟨vs, H2, I2, r2, q2⟩ => ?_) hs rfl))
   ·obtain ⟨v, rfl, r⟩ := Zjq P
    obtain ⟨ad, rfl, had⟩ := Za3.mp r
    obtain ⟨ws, hS, P2⟩ := h.obj n ad _ had eo
    refine ⟨ad, ws, rfl, hS, fun J H2 e2 e3 => ?_⟩
    subst e2 e3
    exact q _ _ ι' l h (Zq9 had)
   ·obtain ⟨ad, ws, rfl, hS, q2⟩ := q2
    obtain ⟨u, rfl, ru⟩ := Zf6 r2
    cases ru
    obtain ⟨its, rv, p, hz⟩ := I2.list (SqL.of hS)
    refine Zoe p.isList fun h' he hj z' kk => ?_
    have I3 : Inv X pins σ H2 { s1 with heap := h' } := I2.kept (t' := s1.toks) kk
    refine wpAny_pyIter_enum (s := { s1 with heap := h' }) he ?_
    have ne : s1.heap.objs.size + 1 ≠ s1.heap.objs.size := Nat.succ_ne_self _
    refine ⟨s1.heap.objs.size + 1, [s1.heap.objs.size + 1, s1.heap.objs.size], _, IteL 0 ad, H2, rfl, I3, Znl ad _ _ 0 ne, ⟨.none, by simpa using he, hj⟩, fun b hb => ?_, q2 _ _ rfl rfl⟩
    have : s1.heap.objs.size ≤ b := by
     rcases List.mem_cons.mp hb with rfl | hb
     ·exact Nat.le_succ _
     ·have : b = s1.heap.objs.size := by simpa using hb
      rw [this]; exact Nat.le_refl _
    exact I2.fpOk (b := b) (H' := H2) this (I2.hok.fresh this)
  ·cases e
 ·cases e
end
noncomputable def ikv : List D -> Option (List (Int × D))
 | [] => some []
 | .tup [.int k, v] :: r => (ikv r).map fun q => (k, v) :: q
 | _ :: _ => none
noncomputable def Zvr (kvs : List (Int × D)) (k : Int) (v : D) : List (Int × D) := if kvs.any (fun p => p.1 = k) = true then kvs.map (fun p => if p.1 = k then (p.1, v) else p) else kvs ++ [(k, v)]
noncomputable def Zha (kvs : List (Int × D)) : List (Int × D) := kvs.foldl (fun acc p => Zvr acc p.1 p.2) []
noncomputable def Zjm (kvs : List (Int × D)) (k : Int) : Option D := (kvs.find? fun p => p.1 = k).map (·.2)
noncomputable def Zj0 : FF := fun ds H => match ds with
 | [.ref n] => match H[n]? with
  | some (.lst xs) => (ikv xs).bind fun kvs => if kvs.length < sizeLine then some (.ref H.length, H ++ [.dci (Zha kvs)]) else none
  | _ => none
 | _ => none
noncomputable def dciD (x : D) (H : HD) : Option (List (Int × D)) := match x with
 | .ref n => match H[n]? with
  | some (.dci kvs) => some kvs
  | _ => none
 | _ => none
noncomputable def Zs9 : F2 := fun x y H => (dciD x H).bind fun kvs => match y with
 | .int k => (Zjm kvs k).map fun v => (v, H)
 | _ => none
theorem Zo0 {x : D} {Hd : HD} {kvs : List (Int × D)} (e : dciD x Hd = some kvs) : ∃ n, x = .ref n ∧ Hd[n]? = some (.dci kvs) := by
 cases x <;> simp only [dciD] at e <;> try cases e
 rename_i n
 split at e
 ·rename_i h; cases e; exact ⟨n, rfl, h⟩
 ·cases e
section
variable {K : PySem.W.Frag} {H : Hp} {ι : List Addr}
theorem Zsg {kvs : List (Int × D)} {xs : List (Int × Value)} (h : Paired (Znk K H ι) kvs xs) (k : Int) : kvs.any (fun p => p.1 = k) = xs.any (fun p => p.1 = k) := by
 induction h with
 | nil => rfl
 | cons a b ih => rw [List.any_cons, List.any_cons, ih, a.1]
theorem Zr5 {kvs : List (Int × D)} {xs : List (Int × Value)} {k : Int} {d : D} {v : V} {u : Value} (h : Paired (Znk K H ι) kvs xs) (r : Zcn v u) (q : Rep K H ι d v) : Paired (Znk K H ι) (kvs.map (fun p => if p.1 = k then (p.1, d) else p)) (xs.map (fun p => if p.1 = k then (p.1, u) else p)) := by
 induction h with
 | nil => exact .nil
 | cons a b ih =>
  refine .cons ?_ ih
  dsimp only
  rw [a.1]
  split
  ·exact ⟨rfl, v, r, q⟩
  ·exact a
theorem Zr1 {kvs : List (Int × D)} {xs : List (Int × Value)} {k : Int} {d : D} {v : V} {u : Value} (h : Paired (Znk K H ι) kvs xs) (r : Zcn v u) (q : Rep K H ι d v) : Paired (Znk K H ι) (Zvr kvs k d) (stored xs k u) := by
 unfold Zvr stored
 rw [Zsg h k]
 split
 ·exact Zr5 h r q
 ·exact Prd.append h (.cons ⟨rfl, v, r, q⟩ .nil)
theorem Zq2 {kvs : List (Int × D)} {xs : List (Int × Value)} (h : Paired (Znk K H ι) kvs xs) (k : Int) : (Zjm kvs k = none ∧ valueAt xs k = none) ∨ ∃ d v u, Zjm kvs k = some d ∧ valueAt xs k = some u ∧ Zcn v u ∧ Rep K H ι d v := by
 unfold Zjm valueAt
 induction h with
 | nil => exact .inl ⟨rfl, rfl⟩
 | cons a b ih =>
  rename_i p x ps xs'
  by_cases e : p.1 = k
  ·have e2 : x.1 = k := by rw [← a.1]; exact e
   obtain ⟨_, v, r, q⟩ := a
   exact .inr ⟨p.2, v, x.2, by rw [List.find?_cons_of_pos (by simpa using e)]; rfl, by rw [List.find?_cons_of_pos (by simpa using e2)]; rfl, r, q⟩
  ·have e2 : ¬ x.1 = k := by rw [← a.1]; exact e
   rw [List.find?_cons_of_neg (by simpa using e), List.find?_cons_of_neg (by simpa using e2)]
   exact ih
theorem Zns (xs : List (Int × Value)) (k : Int) (u : Value) : (stored xs k u).length ≤ xs.length + 1 := by unfold stored; split <;> simp
end
theorem Zts {p p2 : Program} {w w2 : World} {es : List DictEntry} {xs : List (Int × Value)} (e : Pairs (Zbn p w) es xs) : Pairs (Zbn p2 w2) es xs := by
 induction e with
 | nil => exact .nil
 | cons a b c ih => exact .cons a b ih
theorem Znp {h : Heap} {a : Addr} {xs : List (Int × Value)} {p : Program} {w : World} (d : h.DictOf (Zbn p w) a xs) : Zh8 a xs h := fun p2 w2 => by
 obtain ⟨o, es, ep, e1, e2, e3, e4, e5, e6⟩ := d
 refine ⟨o, es, ep, e1, e2, e3, e4, ?_, e6⟩
 exact Zts e5
noncomputable def Zfi (ps : List (Int × Value)) (i : Nat) : List (Int × Value) := (ps.take i).foldl (fun acc p => stored acc p.1 p.2) []
theorem Zie {ps : List (Int × Value)} {i : Nat} {p : Int × Value} (h : ps[i]? = some p) : Zfi ps (i + 1) = stored (Zfi ps i) p.1 p.2 := by
 unfold Zfi
 rw [List.take_add_one, h]
 simp
theorem Zfn (ps : List (Int × Value)) : ∀ i, (Zfi ps i).length ≤ i
 | 0 => by simp [Zfi]
 | i + 1 => by
  cases h : ps[i]? with
  | none =>
   have e : Zfi ps (i + 1) = Zfi ps i := by unfold Zfi; rw [List.take_add_one, h]; simp
   rw [e]; exact Nat.le_succ_of_le (Zfn ps i)
  | some p => rw [Zie h]; exact Nat.le_trans (Zns _ _ _) (Nat.succ_le_succ (Zfn ps i))
theorem Zq4 {K : PySem.W.Frag} {H : Hp} {ι : List Addr} {kvs : List (Int × D)} {ps : List (Int × Value)} (h : Paired (Znk K H ι) kvs ps) : Paired (Znk K H ι) (Zha kvs) (Zfi ps ps.length) := by
 unfold Zha Zfi
 rw [List.take_length]
 have gen : ∀ (a : List (Int × D)) (b : List (Int × Value)), Paired (Znk K H ι) a b -> Paired (Znk K H ι) (kvs.foldl (fun acc p => Zvr acc p.1 p.2) a) (ps.foldl (fun acc p => stored acc p.1 p.2) b) := by
  induction h with
  | nil => intro a b h; exact h
  | cons p q ih =>
   intro a b h
   rw [List.foldl_cons, List.foldl_cons]
   obtain ⟨e, v, r, z⟩ := p
   refine ih _ _ ?_
   rw [e]
   exact Zr1 h r z
 exact gen [] [] .nil
section
variable {X : Cx} {pins : List (Addr × Obj)} {σ : L2.St} {H : Hp} {s : Shared} {ι : List Addr}
theorem Zsk {α β : Type} {F : α -> β -> Prop} {a : α} {r : List α} {l : List β} (h : Paired F (a :: r) l) : ∃ b t, l = b :: t ∧ F a b ∧ Paired F r t := by
 cases h with
 | cons p P => exact ⟨_, _, rfl, p, P⟩
theorem Zqo {x : V} {r : List V} {l : List Value} (h : Zbq (x :: r) l) : ∃ b t, l = b :: t ∧ Zcn x b ∧ Zbq r t := by
 cases h with
 | cons p P => exact ⟨_, _, rfl, p, P⟩
theorem Ztq (I : Inv X pins σ H s) {xs : List D} : ∀ {kvs : List (Int × D)} {vs : List V} {us : List Value}, ikv xs = some kvs -> Paired (Rep X.K H ι) xs vs -> Zbq vs us -> ∃ ps : List (Int × Value), ps.length = us.length ∧ Paired (Znk X.K H ι) kvs ps ∧ ∀ (i : Nat) (v : Value), us[i]? = some v -> ∃ t tok k u, v = .ref t ∧ IsTup s.heap t #[.int k tok, u] ∧ ps[i]? = some (k, u) := by
 induction xs with
 | nil =>
  intro kvs vs us e P0 W0
  cases P0
  cases W0
  cases e
  exact ⟨[], rfl, .nil, fun i v h => by simp at h⟩
 | cons d r ih =>
  intro kvs vs us e P0 W0
  obtain ⟨y, vs, rfl, p, P⟩ := Zsk P0
  obtain ⟨u0, us, rfl, q, W⟩ := Zqo W0
  unfold ikv at e
  split at e
  ·rename_i h; cases h
  ·rename_i k vd r' he
   obtain ⟨rfl, rfl⟩ := List.cons.inj he
   obtain ⟨ks, e1, rfl⟩ := Zm e
   obtain ⟨ps, l, P2, hx⟩ := ih e1 P W
   obtain ⟨t, ws, rfl, sq, P3⟩ := Zbj.mp p
   obtain ⟨v1, v2, rfl, p1, p2⟩ := Zuz P3
   simp at p1
   subst p1
   cases q
   obtain ⟨its, rv, ht, hz⟩ := I.tuple sq
   cases rv with
   | cons q1 rv =>
    cases rv with
    | cons q2 rv =>
     cases rv
     obtain ⟨tok, rfl⟩ := q1
     rename_i u
     refine ⟨(k, u) :: ps, by simp [l], .cons ⟨rfl, v2, q2, p2⟩ P2, fun i v h => ?_⟩
     cases i with
     | zero => simp at h; subst h; exact ⟨t, tok, k, u, rfl, ht, rfl⟩
     | succ i => simp at h; obtain ⟨a, b, c, d, h1, h2, h3⟩ := hx i v h; exact ⟨a, b, c, d, h1, h2, by simpa using h3⟩
  ·cases e
end
section
variable {X : Cx}
theorem Zl3 (hc : X.calm = true) : Zgl X (.type "dict") Zj0 := by
 rintro pins s σ H xs us Q I rv ⟨ι, ds, Hd, d, Hd', hr, P, e, q⟩
 unfold Zj0 at e
 split at e
 ·rename_i n
  split at e
  ·rename_i ys eo
   obtain ⟨kvs, e1, e⟩ := Zo e
   split at e
   ·rename_i hlen
    obtain ⟨rfl, rfl⟩ := Prod.mk.inj (Option.some.inj e)
    obtain ⟨v, rfl, r⟩ := Zjq P
    obtain ⟨a, rfl, ha⟩ := Za3.mp r
    obtain ⟨vs, h1, P2⟩ := hr.obj n a _ ha eo
    obtain ⟨u, rfl, ru⟩ := rv.one
    cases ru
    obtain ⟨z, its, m, rl, hl, eo2⟩ := I.lstM h1
    obtain ⟨ps, lp, PP, hps⟩ := Ztq I e1 P2 rl
    have lk : ps.length = kvs.length := (Prd.len PP).symm
    have hb : sysModules < s.heap.objs.size := Nat.lt_trans (by decide) (show mainGlobals < s.heap.objs.size from (I.mod.glob.keeps I.bk).lt)
    have hp := I.hok.fresh (Nat.le_refl s.heap.objs.size)
    refine Znv (Gd := fun i h => (∀ b o, s.heap.get? b = some o -> h.get? b = some o) ∧ h.DictOf (Zbn X.prog X.w) s.heap.objs.size (Zfi ps i)) eo2 rfl rfl rfl (I.ok.hd hc) ?_ ?_ ?_ ?_
    ·intro h' k
     refine ⟨fun b o e => k b o (Heap.get?_push_of_some _ e), ?_⟩
     obtain ⟨o, es, ep, e2, r2⟩ := Heap.DictOf.new (knd := Zbn X.prog X.w) s.heap
     exact ⟨o, es, ep, k _ _ e2, r2⟩
    ·rintro i h h' ⟨g1, g2⟩ k
     refine ⟨fun b o e => k b o (Nat.lt_succ_of_lt (Heap.lt_size e)) (g1 b o e), ?_⟩
     obtain ⟨o, es, ep, e2, r2⟩ := g2
     exact ⟨o, es, ep, k _ _ (Nat.lt_succ_self _) e2, r2⟩
    ·rintro i v zz hv ⟨g1, g2⟩
     obtain ⟨t, tok, k, u, rfl, ht, hp2⟩ := hps i v (by simpa using hv)
     have hi : i < ps.length := (List.getElem?_eq_some_iff.mp hp2).1
     refine ⟨t, .int k tok, u, rfl, ?_, fun Q E qq => ?_⟩
     ·obtain ⟨o, e2, r2⟩ := ht
      exact ⟨o, g1 _ _ e2, r2⟩
     ·refine wpAny_dictSet_pairs (knd := Zbn X.prog X.w) (k := k) (by show Zhc k (.int k tok) = true; simp [Zhc, Zld]) g2 (fun h' d' sb => ?_) (by have := Zfn ps i; omega)
      refine qq h' _ ⟨fun b o e => sb.extBut b o (Nat.ne_of_lt (Heap.lt_size e)) (g1 b o e), ?_⟩ fun b o hb e => sb.extBut b o hb e
      rw [Zie hp2]; exact d'
    ·rintro h' tk ⟨g1, g2⟩
     have ez : its.toArray.size = ps.length := by simp [lp]
     rw [ez] at g2
     have d3 := Znp g2
     have ok : Zc6 X.prog X.w (upd H s.heap.objs.size (.ext (Zh8 s.heap.objs.size (Zfi ps ps.length)))) h' s.heap.objs.size (.ext (Zh8 s.heap.objs.size (Zfi ps ps.length))) := by
      obtain ⟨o, es, ep, e2, r2⟩ := id g2
      exact ⟨d3, ⟨o, e2⟩, fun h1 h2 d k => Zh8.keep d k⟩
     refine ⟨.ref s.heap.objs.size, _, I.laid (a := s.heap.objs.size) (o := .ext (Zh8 s.heap.objs.size (Zfi ps ps.length))) (t' := tk) g1 (Nat.le_refl _) ok, rfl, ?_⟩
     have hl2 : ι.length = Hd.length := hr.len
     have L := Le.fresh1 (K := X.K) (ι := ι) hp (.ext (Zh8 s.heap.objs.size (Zfi ps ps.length)))
     have PA := Zq4 PP
     refine q _ _ (ι ++ [s.heap.objs.size]) L (hr.new hp ⟨beq_eq_false_iff_ne.mpr (Ne.symm (Nat.ne_of_lt hb)), ?_, _, upd_same, Prd.imp PA fun p x _ z => ⟨z.1, let ⟨v, z1, z2⟩ := z.2; ⟨v, z1, z2.mono L⟩⟩⟩) (Za3.mpr ⟨_, rfl, by rw [← hl2]; simp⟩)
     have := Zfn ps ps.length
     rw [Prd.len PA]; omega
   ·cases e
  ·cases e
 ·cases e
theorem Zzd {pins : List (Addr × Obj)} {σ : L2.St} {H : Hp} {s : Shared} {ι : List Addr} (I : Inv X pins σ H s) {a : Addr} {kvs : List (Int × D)} (h : Zom X.K H ι a (.dci kvs)) : (a == sysModules) = false ∧ ∃ xs, Paired (Znk X.K H ι) kvs xs ∧ s.heap.DictOf (Zbn X.prog X.w) a xs := by
 obtain ⟨h1, h2, xs, h3, P⟩ := h
 exact ⟨h1, xs, P, (I.hok a _ h3).1 X.prog X.w⟩
theorem igetf : IxF X Zs9 := by
 rintro va sl pins s σ H x y v u Q I rx ry ⟨ι, dx, dy, Hd, d, Hd', hr, r1, r2, e, q⟩ hs
 obtain ⟨kvs, e1, e⟩ := Zo e
 split at e
 ·rename_i k _
  obtain ⟨vd, e3, e⟩ := Zm e
  obtain ⟨rfl, rfl⟩ := Prod.mk.inj e
  obtain ⟨n, rfl, hn⟩ := Zo0 e1
  obtain ⟨a, rfl, ha⟩ := Za3.mp r1
  simp at r2
  subst r2
  obtain ⟨tok, rfl⟩ := ry
  cases rx
  obtain ⟨h1, xs, P, dd⟩ := Zzd I (hr.obj n a _ ha hn)
  rcases Zq2 P _ with ⟨z, _⟩ | ⟨d', v', u', z1, z2, z3, z4⟩
  ·rw [z] at e3; cases e3
  ·rw [z1] at e3; cases e3
   refine tail_any (ops := [.ref a, .int k tok]) dd.typeIs PySem.F.slot_dict_getitem.lookup (wpAny_getItem_of (knd := Zbn X.prog X.w) (k := k) (by show Zhc k (.int k tok) = true; simp [Zhc, Zld]) dd.mapOf z2 ?_) hs
   exact ⟨v', H, I.tok _, z3, q _ H ι Le.refl hr z4⟩
 ·cases e
theorem Zv7 : bootBuiltins "dict" = some (.type "dict") := by decide +kernel
end
section
variable {X : Cx}
end
section
variable {X : Cx}
end
end DL
namespace DL
open PySem PySem.Spec PyProof.Rows L2 PySem.W
section
variable {prog : Program} {w : World} {A : Around} {E : Value -> Shared -> Prop} {s : Shared}
end
section
variable {X : Cx}
end
end DL
namespace DL
open PySem PySem.Spec PyProof.Rows L2
section
variable {X : Cx}
end
end DL
namespace L2
open PySem PySem.Spec PyProof.Rows
theorem Zc6.here {P : Program} {w : World} {H : Hp} {h : Heap} {a : Addr} {o : HO} (x : Zc6 P w H h a o) : ∃ ob, h.get? a = some ob := by
 cases o with
 | lst xs => obtain ⟨_, its, n, _, e⟩ := x; exact ⟨_, e⟩
 | tup xs => obtain ⟨_, its, _, ob, e, _⟩ := x; exact ⟨_, e⟩
 | dK kvs => obtain ⟨_, _, vs, _, ob, es, ep, e, _⟩ := x; exact ⟨_, e⟩
 | dT kvs => obtain ⟨_, _, xs, _, ob, es, ep, e, _⟩ := x; exact ⟨_, e⟩
 | set S n => obtain ⟨ob, es, ep, t, e, _⟩ := x; exact ⟨_, e⟩
 | ins C dx fs => obtain ⟨_, _, _, e, _⟩ := x; exact ⟨_, e⟩
 | own y => obtain ⟨ob, e⟩ := x; exact ⟨_, e⟩
 | xd fs => obtain ⟨mA, ⟨od, es, ep, e, _⟩, _⟩ := x; exact ⟨_, e⟩
 | rng lo hi => obtain ⟨t, u, v, e⟩ := x; exact ⟨_, e⟩
 | frz ob u => obtain ⟨e, _⟩ := x; exact ⟨_, e⟩
 | tbl ps => exact ⟨_, x⟩
 | met f y => exact ⟨_, x⟩
 | ext φ => obtain ⟨_, e, _⟩ := x; exact e
end L2
namespace DL
open PySem PySem.Spec PyProof.Rows L2 PySem.W
structure Fly (l : List Env) (H H1 : Hp) (h0 h1 : Heap) (a : Addr) (C : Value) : Prop where
 new : h0.get? a = none
 fly : ∃ (B : Heap) (a0 : Value), Heap.FlyingW B l a C a0 h1 ∧ (∀ b o, h0.get? b = some o -> b ∉ frs l -> ∃ o', B.get? b = some o' ∧ (H b = none -> o' = o)) ∧ ∀ b ho, H1 b = some ho -> ∃ o, h1.get? b = some o ∧ B.get? b = some o
noncomputable def CXe (P : Program) (w : World) : CXT := fun outer H s E e s' => ∃ (a : Addr) (C : Value) (H1 : Hp), e = .ref a ∧ E C none H1 ∧ s'.os = s.os ∧ AllBare s'.gens ∧ Un (frs outer) [] H H1 s.heap s'.heap ∧ HOk P w H1 s'.heap ∧ Fly outer H H1 s.heap s'.heap a C
structure ExcT (K : PySem.W.Frag) (mg : Str -> Option Value) (x : Str) (C : Addr) : Prop where
 bound : mg x = some (.ref C)
 kp : PySem.W.keepIn K (.ref C) = true
 inK : ∃ (bm : List Value) (B newId initId : String), PySem.W.excIn K C bm newId = true ∧ ExcBaseFacts B newId initId bm
theorem Zzl {K : PySem.W.Frag} {h : Heap} {mg : Str -> Option Value} {x : Str} {C : Addr} {bmB : List Value} {newId : String} (X : K.In h) (e : mg x = some (.ref C)) (q : PySem.W.excIn K C bmB newId = true) : OwnCls x C bmB newId mg h := by
 have z := q
 unfold PySem.W.excIn at z
 split at z <;> try cases z
 rename_i d1 c1 l1 look
 split at z <;> try cases z
 rename_i D tl s0 s1 s2 s3 nid s5 e1 e2
 rw [Bool.and_eq_true, Bool.and_eq_true, Bool.and_eq_true, Bool.and_eq_true, Bool.and_eq_true] at z
 obtain ⟨⟨⟨⟨⟨a1, a2⟩, a3⟩, a4⟩, a5⟩, a6⟩ := z
 have a1 : D = C := beq_iff_eq.mp a1
 have a2 : nid = newId := beq_iff_eq.mp a2
 have a6 := beq_iff_eq.mp a6
 subst a1 a2
 have here := X _ _ look
 have a7 : l1 = #[s0, s1, s2, s3, some (.builtin nid), s5] := by rw [← e2]
 have a8 : c1.hasDel = false := by simpa using a3
 subst a7
 refine ⟨e, tl, c1.ns, c1.name, c1.qualname, c1.bases, c1.hasDict, c1.slotNames, c1.subclasses, c1.abstract, c1.collection, d1, s0, s1, s2, s3, s5, _, ?_, .of_isNs (isNs_of_in X a5), nsMap_none_of_in X a5 a6, tail_of_in X a4⟩
 rw [here]
 unfold excClassObj
 rw [← e1, ← a8]
theorem Zqa {P : Program} {w : World} {l : List Env} {H H1 : Hp} {h0 h1 h2 B : Heap} (u : Un (frs l) [] H H1 h0 h1) (ok : HOk P w H1 h1) (bo : ∀ b o, h0.get? b = some o -> b ∉ frs l -> ∃ o', B.get? b = some o' ∧ (H b = none -> o' = o)) (bt : ∀ b ho, H1 b = some ho -> ∃ o, h1.get? b = some o ∧ B.get? b = some o)
  (st : B.StaysIn h2) (up : h1.UpToSlots h2) (ff : h1.FunFrames B l) : Un (frs l) [] H H1 h0 h2 ∧ HOk P w H1 h2 := by
 have fram : ∀ b o, b ∈ frs l -> h1.get? b = some o -> ∃ sl, h2.get? b = some { o with slots := sl } := fun b o z eb => by
  obtain ⟨_, o', g1, g3⟩ := ff.mem z
  rw [eb] at g1
  cases g1
  exact up b o eb g3
 refine ⟨⟨fun b o e n nb _ => ?_, fun b o e n hb hx => ?_, u.free, fun b o e hx => ?_, u.tups, u.frzs, u.tbls⟩, fun b ho e => ?_⟩
 ·obtain ⟨o', g, z⟩ := bo b o e nb
  rw [z n] at g
  exact st b o g
 ·obtain ⟨sl, g⟩ := u.slot b o e n hb hx
  obtain ⟨sl', g'⟩ := fram b _ hb g
  exact ⟨sl', g'⟩
 ·by_cases z : b ∈ frs l
  ·obtain ⟨o1, g⟩ := u.there b o e hx
   obtain ⟨sl, g'⟩ := fram b o1 z g
   exact ⟨_, g'⟩
  ·obtain ⟨o', g, _⟩ := bo b o e z
   exact ⟨o', st b o' g⟩
 ·refine (ok b ho e).stay (fun c v hc g => ?_) (fun _ z => z) (fun _ _ z => z)
  have tk : ∃ hc, H1 c = some hc := by
   rcases hc with rfl | hc
   ·exact ⟨_, e⟩
   ·exact ⟨_, hc⟩
  obtain ⟨hc', tk⟩ := tk
  obtain ⟨o, g1, g2⟩ := bt c hc' tk
  rw [g] at g1
  cases g1
  exact st c v g2
section
variable {P : Program} {w : World} {K : PySem.W.Frag} {mg : Str -> Option Value} {base : Heap} {N : List Str} {qual : Str} {scope : Scope} {f : Addr} {cd : Value} {A : Around} {outer : List Env} {s s1 : Shared} {H H1 : Hp} {E : XK} {pins : List (Addr × Obj)} {σ : L2.St}
theorem Zpb {h' : Heap} {e C : Addr} {vs : List Value} (I : Inv (Zfj (CXe P w) P w K mg base N qual scope f cd A outer s H E) pins σ H1 s1) (hx : Heap.MadeExcOf s1.heap h' e (.ref C) vs) (q : E (.ref C) none H1) :
  (Zfj (CXe P w) P w K mg base N qual scope f cd A outer s H E).xe (.ref e) { s1 with heap := h' } := by
 have hS := I.stack
 have hF : s1.heap.FunFrames (hideAll s1.heap (frs (Zfj (CXe P w) P w K mg base N qual scope f cd A outer s H E).stack)) (Zfj (CXe P w) P w K mg base N qual scope f cd A outer s H E).stack := funFrames_hide hS fun env he b hb => List.mem_filterMap.mpr ⟨env, he, hb⟩
 have fr := I.ok.frames
 refine wpAny_leaves_madeW (base := hideAll s1.heap (frs (Zfj (CXe P w) P w K mg base N qual scope f cd A outer s H E).stack)) fr rfl (fun b o z => of_hideAll _ z) hF hx fun h2 t f1 f2 f3 f4 => ?_
 have nf : ∀ b ho, H1 b = some ho -> b ∉ frs (Zfj (CXe P w) P w K mg base N qual scope f cd A outer s H E).stack := fun b ho eb z => by rw [I.stkFree b z] at eb; cases eb
 have kp : ∀ b o, s1.heap.get? b = some o -> b ∉ frs (Zfj (CXe P w) P w K mg base N qual scope f cd A outer s H E).stack -> h2.get? b = some o := fun b o eb z => f1.1 b o (hideAll_get _ eb z)
 have old : ∀ b o, s.heap.get? b = some o -> b ∉ frs outer -> b ∉ frs (Zfj (CXe P w) P w K mg base N qual scope f cd A outer s H E).stack := fun b o eb z y => by
  rcases List.mem_cons.mp (I.stkSub b y) with rfl | y
  ·exact absurd (Nat.lt_of_lt_of_le (Heap.lt_size eb) I.ok.above) (Nat.lt_irrefl _)
  ·exact z y
 have fram : ∀ b o, b ∈ frs (Zfj (CXe P w) P w K mg base N qual scope f cd A outer s H E).stack -> s1.heap.get? b = some o -> ∃ sl, h2.get? b = some { o with slots := sl } := fun b o z eb => by
  obtain ⟨_, o', h1, h3⟩ := hS.mem z
  rw [eb] at h1
  cases h1
  exact f4 b o (hx.keeps b o eb) h3
 refine ⟨e, .ref C, H1, rfl, q, I.os, I.bare, ⟨fun b o eb n nb _ => kp b o (I.base.keep b o eb n nb (by rintro z; cases z)) (old b o eb nb), fun b o eb n hb _ => ?_, fun b o eb n _ => I.base.free b o eb n (by intro z; cases z), fun b o eb _ => ?_, I.base.tups, I.base.frzs, I.base.tbls⟩, fun b ho eb => ?_, ⟨?_, _, _, f1, fun b o eb nb => ?_, fun b ho eb => ?_⟩⟩
 ·obtain ⟨sl, g⟩ := I.base.slot b o eb n hb (by intro z; cases z)
  obtain ⟨sl', g'⟩ := fram b _ (List.mem_cons_of_mem _ hb) g
  exact ⟨sl', g'⟩
 ·obtain ⟨o1, g⟩ := I.base.there b o eb (by intro z; cases z)
  by_cases z : b ∈ frs (Zfj (CXe P w) P w K mg base N qual scope f cd A outer s H E).stack
  ·obtain ⟨sl, g'⟩ := fram b o1 z g
   exact ⟨_, g'⟩
  ·exact ⟨o1, kp b o1 g z⟩
 ·exact (I.hok b ho eb).stay (fun c u hc g => kp c u g (by
   rcases hc with rfl | hc
   ·exact nf _ _ eb
   ·exact nf _ _ hc)) (fun _ z => z) (fun _ _ z => z)
 ·cases z : s.heap.get? e with
  | none => rfl
  | some o =>
   obtain ⟨o1, g⟩ := I.base.there e o z (by intro y; cases y)
   rw [hx.new] at g; cases g
 ·obtain ⟨o1, g⟩ := I.base.there b o eb (by intro z; cases z)
  refine ⟨o1, hideAll_get _ g (old b o eb nb), fun n => ?_⟩
  have k1 := I.base.keep b o eb n nb (by intro z; cases z)
  exact Option.some.inj (g.symm.trans k1)
 ·obtain ⟨o, g⟩ := (I.hok b ho eb).here
  exact ⟨o, kp b o g (nf b ho eb), hideAll_get _ g (nf b ho eb)⟩
theorem Zqg {s' : Shared} {H0 : Hp} {a C : Addr} (I : Inv (Zfj (CXe P w) P w K mg base N qual scope f cd A outer s H E) pins σ H0 s1) (os : s'.os = s1.os) (bare : AllBare s'.gens) (un : Un (frs (Zfj (CXe P w) P w K mg base N qual scope f cd A outer s H E).stack) [] H0 H1 s1.heap s'.heap) (hok : HOk P w H1 s'.heap)
  (fl : Fly (Zfj (CXe P w) P w K mg base N qual scope f cd A outer s H E).stack H0 H1 s1.heap s'.heap a (.ref C)) (q : E (.ref C) none H1) : (Zfj (CXe P w) P w K mg base N qual scope f cd A outer s H E).xe (.ref a) s' := by
 obtain ⟨B, a0, fly, bo, bt⟩ := fl.fly
 have fr := I.ok.frames
 refine wpAny_leaves_onW fr rfl fly fun h2 f1 up => ?_
 obtain ⟨un2, ok2⟩ := Zqa un hok bo bt f1.1 up fly.2.2.1
 have old : ∀ b o, s.heap.get? b = some o -> b ∉ frs outer -> b ∉ frs (Zfj (CXe P w) P w K mg base N qual scope f cd A outer s H E).stack := fun b o eb z y => by
  rcases List.mem_cons.mp (I.stkSub b y) with rfl | y
  ·exact absurd (Nat.lt_of_lt_of_le (Heap.lt_size eb) I.ok.above) (Nat.lt_irrefl _)
  ·exact z y
 have u : Un (frs (Zfj (CXe P w) P w K mg base N qual scope f cd A outer s H E).stack) [] H H1 s.heap h2 := (I.base.mono (fun b hb => List.mem_cons_of_mem _ hb) (fun b hb => hb)).trans un2
 refine ⟨a, .ref C, H1, rfl, q, os.trans I.os, bare, ⟨fun b o eb n nb hx => u.keep b o eb n (old b o eb nb) hx, fun b o eb n hb hx => u.slot b o eb n (List.mem_cons_of_mem _ hb) hx, u.free, u.there, u.tups, u.frzs, u.tbls⟩, ok2, ⟨?_, B, a0, f1, fun b o eb nb => ?_, fun b ho eb => ?_⟩⟩
 ·cases z : s.heap.get? a with
  | none => rfl
  | some o =>
   obtain ⟨o1, g⟩ := I.base.there a o z (by intro y; cases y)
   rw [fl.new] at g; cases g
 ·obtain ⟨o1, g⟩ := I.base.there b o eb (by intro z; cases z)
  obtain ⟨o', g', z⟩ := bo b o1 g (old b o eb nb)
  refine ⟨o', g', fun n => ?_⟩
  rw [z (I.base.free b o eb n (by intro z; cases z))]
  have k1 := I.base.keep b o eb n nb (by intro z; cases z)
  exact Option.some.inj (g.symm.trans k1)
 ·obtain ⟨o, g, g'⟩ := bt b ho eb
  exact ⟨o, f1.1 b o g', g'⟩
end
noncomputable abbrev XFs := SD -> HD -> Option HD
noncomputable abbrev XFF := List D -> HD -> Option HD
noncomputable def Zzr (X : Cx) (C : Addr) (H1 : Hp) (e : Value) (s' : Shared) : Prop := ∃ pins σ1 a, e = .ref a ∧ ((∃ s1 h' vs, Inv X pins σ1 H1 s1 ∧ Heap.MadeExcOf s1.heap h' a (.ref C) vs ∧ s' = { s1 with heap := h' }) ∨
 ∃ s1 H0, Inv X pins σ1 H0 s1 ∧ s'.os = s1.os ∧ AllBare s'.gens ∧ Un (frs X.stack) [] H0 H1 s1.heap s'.heap ∧ HOk X.prog X.w H1 s'.heap ∧ Fly X.stack H0 H1 s1.heap s'.heap a (.ref C))
noncomputable def rdX (X : Cx) (C : Addr) (b : XFs) : TS := fun _ σ H => ∃ ι σd Hd Hd', SRep X.K H ι σ σd ∧ HRep X.K H ι Hd ∧ b σd Hd = some Hd' ∧
 ∀ H1 ι' e s', Le X.K H ι H1 ι' -> HRep X.K H1 ι' Hd' -> Zzr X C H1 e s' -> X.xe e s'
noncomputable def PXf (X : Cx) (C : Addr) (sts : List Stmt) (b : XFs) : Prop := PSs X sts (rdX X C b)
noncomputable def xSeq (f : SF) (b : XFs) : XFs := fun σ H => (f σ H).bind fun r => match r.1 with
 | .nx => b r.2.1 r.2.2
 | _ => none
noncomputable def xIf (t : TF) (b : XFs) : XFs := fun σ H => (t σ H).bind fun r => if r.1 then b σ r.2 else none
noncomputable def Zkk (f : EF) : XFs := fun σ H => (f σ H).map fun r => r.2
noncomputable def Zy1 (n N : Nat) (b : XFs) : XFF := fun ds H => if ds.length = n then b (ds.map some ++ List.replicate (N - ds.length) none) H else none
section
variable {X : Cx} {C : Addr} {st : Stmt} {sts : List Stmt} {e c : Expr} {pos np cpos : Pos} {x : Str}
theorem Zqh : PSs X sts fun _ _ _ => False := fun _ _ _ _ _ _ h => h.elim
theorem Zwi {f : SF} {b : XFs} (h1 : PSf X st f) (h2 : PXf X C sts b) : PXf X C (st :: sts) (xSeq f b) := by
 refine Zxh (Zfo h1 h2) fun E σ H zz => ?_
 obtain ⟨ι, σd, Hd, Hd', s, hr, e, q⟩ := zz
 obtain ⟨⟨f1, σ1, H1⟩, e1, e⟩ := Zo e
 refine ⟨ι, σd, Hd, f1, σ1, H1, s, hr, e1, fun σ' H' ι' l h ss => ?_⟩
 cases f1 with
 | nx => exact ⟨ι', σ1, H1, Hd', ss, h, e, fun H2 ι2 ex s2 l2 => q H2 ι2 ex s2 (l.trans l2)⟩
 | bk => cases e
 | ct => cases e
 | rt d => cases e
theorem px_if {t : TF} {as : List Stmt} {b : XFs} (hc : PTf X c t) (ha : PXf X C as b) : PXf X C (.If c as [] pos :: sts) (xIf t b) := by
 refine Zxh (Zfo (Zyv hc ha (Zqh (sts := []))) (Zqh (sts := sts))) fun E σ H zz => ?_
 obtain ⟨ι, σd, Hd, Hd', s, hr, e, q⟩ := zz
 obtain ⟨⟨z, H1⟩, e1, e⟩ := Zo e
 refine ⟨ι, σd, Hd, z, H1, s, hr, e1, fun H' ι' l h => ?_⟩
 cases z with
 | true =>
  rw [if_pos rfl]
  exact ⟨ι', σd, H1, Hd', s.mono l, h, by simpa using e, fun H2 ι2 ex s2 l2 => q H2 ι2 ex s2 (l.trans l2)⟩
 | false => simp at e
theorem Zse {fe : EF} (hc : X.calm = true) (T : ExcT X.K X.mg x C) (hg : Gl X x) (hf : PAf X [e] (Zaa fe Zai)) (hdb : (x == ("__debug__" : Str)) = false := by decide) (he : starEach [e] X.env = (false, eval e X.env) :: starEach [] X.env := by exact Zbe rfl) :
  PS X (.Raise (some (.Call (.Name x np) [e] [] cpos)) none pos) (rdX X C (Zkk fe)) := by
 rintro pins s σ H D I ⟨ι, σd, Hd, Hd', ss, hr, eq, q⟩
 obtain ⟨⟨d, H1⟩, e1, e2⟩ := Zm eq
 have e2 : H1 = Hd' := e2
 subst e2
 obtain ⟨bm0, B, newId, initId, k1, FB⟩ := T.inK
 obtain ⟨tl, N, nm, qn, bs, hdct, sn, sub, ab, col, dd, k0, k1', k2, k3, k5, mN, hC, hN, hni, TL⟩ := (Zzl I.ok.mod.kin T.bound k1).obj
 have pl : (backTo cpos (starEach [e] X.env)).any (·.1) = false := by rw [he]; rfl
 refine wpAny_Raise_call_subT (C := C) (nm := nm) (q := qn) (N := N) (bs := bs) (bm := tl) (hdct := hdct) (sn := sn) (sub := sub) (ab := ab) (col := col) (dd := dd) (k0 := k0) (k1 := k1') (k2 := k2) (k3 := k3) (k5 := k5) FB (mN := mN) (TL.hasType FB.hasBase) (I.ok.hd hc) pl hni (Zhs I hg T.bound ⟨rfl, ?_⟩ hdb)
 have ea : Zaa fe Zai σd Hd = some ([d], H1) := by unfold Zaa; rw [e1]; rfl
 have a1 := hf cpos pins s σ H (fun vs H' => vs.length = 1 ∧ ∃ ι', Le X.K H ι H' ι' ∧ HRep X.K H' ι' H1) I ⟨ι, σd, Hd, [d], H1, ss, hr, ea, fun vs H' ι' l h P => ⟨(Prd.len P).symm, ι', l, h⟩⟩
 rw [he] at a1 ⊢
 refine Calls.evalArgs_plain (wpAny_mono a1 (fun us s2 ⟨vs, H2, I2, r2, ⟨hl, ι', l, h⟩⟩ => ⟨rfl, ?_, I2.bk _ _ hC, hN.keeps I2.bk, TL.keeps I2.bk, fun h' ex hm => ?_⟩) fun _ _ y => y)
 ·rw [← r2.length, hl, PySem.sizeLine_eq]; omega
 ·exact q H2 ι' (.ref ex) _ l h ⟨pins, σ, ex, rfl, .inl ⟨s2, h', us, I2, hm, rfl⟩⟩
theorem Zto {fe : EF} (hc : X.calm = true) (T : ExcT X.K X.mg x C) (hg : Gl X x) (hf : PAf X [e] (Zaa fe Zai)) (hdb : (x == ("__debug__" : Str)) = false := by decide) (he : starEach [e] X.env = (false, eval e X.env) :: starEach [] X.env := by exact Zbe rfl) :
  PXf X C (.Raise (some (.Call (.Name x np) [e] [] cpos)) none pos :: sts) (Zkk fe) := by
 refine Zxh (Zfo (Zse hc T hg hf hdb he) (Zqh (sts := sts))) fun E σ H h => ?_
 exact h
noncomputable def spX (K : PySem.W.Frag) (C : Addr) (n : Nat) (F : XFF) : Sp := fun vs H _ E => ∃ ι ds Hd Hd', ds.length = n ∧ HRep K H ι Hd ∧ Paired (Rep K H ι) ds vs ∧ F ds Hd = some Hd' ∧ ∀ H1 ι', Le K H ι H1 ι' -> HRep K H1 ι' Hd' -> E (.ref C) none H1
end
section
variable {X : Cx} {C f : Addr} {k n : Nat} {fd : FuncData} {ps : List Str} {XF : XFF} {fa : AF} {x : Str} {a : Expr} {as : List Expr} {sts : List Stmt} {p cp ep : Pos}
end
section
variable {P : Program} {w : World} {K : PySem.W.Frag} {mg : Str -> Option Value} {base : Heap}
theorem Zti {N : List Str} {qual : Str} {scope : Scope} {f : Addr} {cd : Value} {A : Around} {outer : List Env} {s s' : Shared} {H H1 : Hp} {E : XK} {C : Addr} {e : Value} (z : Zzr (Zfj (CXe P w) P w K mg base N qual scope f cd A outer s H E) C H1 e s') (q : E (.ref C) none H1) :
  (Zfj (CXe P w) P w K mg base N qual scope f cd A outer s H E).xe e s' := by
 obtain ⟨pins, σ1, a, rfl, z⟩ := z
 rcases z with ⟨s1, h', vs, I, hm, rfl⟩ | ⟨s1, H0, I, os, bare, un, hok, fl⟩
 ·exact Zpb I hm q
 ·exact Zqg I os bare un hok fl q
theorem fx_f {x qual : Str} {st : Stmt} {f C : Addr} {fd : FuncData} {N ps : List Str} {k : Nat} {b : XFs} (F : Fun K x qual st f fd) (S : FnScope N ps (Zak st))
  (hb : ∀ (cdv : Value) (A : Around) (outer : List Env) (s : Shared) (H : Hp) (E : XK), Room k (A.deeper (envOfC qual (Zak st) s.heap.objs.size f cdv)) →
   PXf (Zfj (CXe P w) P w K mg base N qual (Zak st) f cdv A outer s H E) C (Zcj st) b) : FnOk P w K mg base (CXe P w) (k + 1) f fd ps (spX K C ps.length (Zy1 ps.length N.length b)) := by
 obtain ⟨oc, od, kV, doc, pm, an, cdv, ct, osl, rfl, lk, hcd⟩ := F.ex
 refine Zz7 lk hcd S (fun vs H Q E ⟨ι, ds, Hd, Hd', hl, _, r, _⟩ => by rw [← Prd.len r]; exact hl) fun A outer s H vs Q E hr zz => ?_
 obtain ⟨ι, ds, Hd, Hd', hl, hh, r, e, q⟩ := zz
 refine ⟨_, hb cdv A outer s H E ?_, ?_⟩
 ·exact hr
 unfold Zy1 at e
 rw [if_pos hl] at e
 refine ⟨ι, _, Hd, Hd', ?_, hh, e, fun H1 ι' ex s' l h z => Zti z (q H1 ι' l h)⟩
 refine ⟨by simp [L2.start, Prd.len r], fun i d0 h0 => ?_⟩
 unfold L2.start
 by_cases hi : i < ds.length
 ·rw [List.getElem?_append_left (by simpa using hi), List.getElem?_map] at h0
  cases ed : ds[i]? with
  | none => rw [ed] at h0; cases h0
  | some d1 =>
   rw [ed] at h0
   cases h0
   obtain ⟨v, hv, rv⟩ := Prd.get r ed
   refine ⟨v, ?_, rv⟩
   rw [List.getElem?_append_left (by rw [List.length_map, ← Prd.len r]; exact hi), List.getElem?_map, hv]
   rfl
 ·rw [List.getElem?_append_right (by simpa using hi), List.getElem?_replicate] at h0
  split at h0 <;> cases h0
end
end DL
namespace L2
open PySem PySem.Spec PyProof.Rows
theorem Zw9 {X : Cx} {pins : List (Addr × Obj)} {σ : St} {H : Hp} {s : Shared} {M : Model} {A : Around} {E : Value -> Shared -> Prop} {i : Nat} {x : Str} {pos : Pos} {Q : Unit -> Shared -> Prop} (I : Inv X pins σ H s) (hN : X.N.Nodup) (hi : X.N[i]? = some x) (hl : X.env.kindOf x = some .local)
  (h : ∀ s', Inv X pins (σ.set i none) H s' -> Q () s') : wpAny M A (do bindName X.env x .none; unbindBehindTheSuite X.env x pos) Q E s := by
 obtain ⟨m, hn, hv⟩ := id I.loc
 refine wpAny_nameGoes_keeps hl hn (by rw [I.ok.kind]; rfl) fun h' v hn' hs => h _ ?_
 have old : ∀ b o, X.s₀.heap.get? b = some o -> b ≠ X.env.locals := fun b o e => Nat.ne_of_lt (Nat.lt_of_lt_of_le (Heap.lt_size e) I.ok.above)
 have tr : ∀ b ho, H b = some ho -> b ≠ X.env.locals := fun b ho e z => by rw [z, I.free] at e; cases e
 refine ⟨I.ok, I.os, I.bare, ⟨fun b o e n hb hx => (hs.2 b (old b o e)).trans (I.base.keep b o e n hb hx), fun b o e n hb hx => ?_, I.base.free, fun b o e hx => ?_, I.base.tups, I.base.frzs, I.base.tbls⟩, ⟨_, hn', fun j y w e1 e2 e3 => ?_⟩, fun y c e => ?_, I.free, I.freeC, fun p hp => ?_, fun b ho e => ?_, by simpa using I.len⟩
 ·obtain ⟨sl, g⟩ := I.base.slot b o e n hb hx
  exact ⟨sl, (hs.2 b (old b o e)).trans g⟩
 ·obtain ⟨o', g⟩ := I.base.there b o e hx
  exact ⟨o', (hs.2 b (old b o e)).trans g⟩
 ·by_cases hj : j = i
  ·subst hj
   rw [List.getElem?_set] at e2
   split at e2
   ·split at e2 <;> cases e2
   ·rename_i z; exact absurd rfl z
  ·rw [List.getElem?_set_ne (Ne.symm hj)] at e2
   obtain ⟨u, r, q⟩ := hv j y w e1 e2 e3
   refine ⟨u, r, ?_⟩
   rcases q with ⟨k, z⟩ | ⟨k, c, z, g⟩
   ·have ne : y ≠ x := fun z => hj (Zjg hN e1 (z ▸ hi))
    exact .inl ⟨k, (if_neg ne).trans z⟩
   ·exact .inr ⟨k, c, z, g.sameBut hs (I.cne y c z)⟩
 ·obtain ⟨w, g⟩ := I.cell y c e
  exact ⟨w, g.sameBut hs (I.cne y c e)⟩
 ·obtain ⟨e, n, ne, nf, d⟩ := I.pin p hp
  exact ⟨(hs.2 p.1 ne).trans e, n, ne, nf, d⟩
 ·refine (I.hok b ho e).stay (fun c u hc g => (hs.2 c ?_).trans g) (fun _ z => z) (fun _ _ z => z)
  rcases hc with rfl | hc
  ·exact tr _ _ e
  ·exact tr _ _ hc
end L2
namespace DL
open PySem PySem.Spec PyProof.Rows L2 PySem.W
noncomputable abbrev Xh (X : Cx) (ex : Addr) (oe : Obj) : Cx := { X with A := X.A.mark (some (.ref ex)), calm := false, pn := (ex, oe) :: X.pn, xe := fun _ _ => False }
theorem Inv.marked {X : Cx} {pins : List (Addr × Obj)} {σ : L2.St} {H : Hp} {s : Shared} {ex : Addr} {oe : Obj} (I : Inv X pins σ H s) (g : s.heap.get? ex = some oe) (n : H ex = none) (ne : ex ≠ X.env.locals) (nf : ex ∉ X.fs) (nc : ∀ v, oe.data ≠ .cell v) : Inv (Xh X ex oe) pins σ H s := by
 obtain ⟨o1, o2, o3, o4, o5, o6, o7, o8, o9, o10, o11, o12, o13, o14, o15, o16, o17, o18⟩ := I.ok
 refine ⟨⟨o1, o2, o3, o4, o5, o6, o7, o8, (fun z => by cases z), o10, o11, o12, o13, o14, o15, o16, o17, o18⟩, I.os, I.bare, I.base, I.loc, I.cell, I.free, I.freeC, fun p hp => ?_, I.hok, I.len⟩
 rcases List.mem_cons.mp (show p ∈ (ex, oe) :: (X.pn ++ pins) from hp) with rfl | hp
 ·exact ⟨g, n, ne, nf, nc⟩
 ·exact I.pin p hp
theorem Inv.unmark {X : Cx} {pins : List (Addr × Obj)} {σ : L2.St} {H : Hp} {s : Shared} {ex : Addr} {oe : Obj} (ok : X.Ok) (I : Inv (Xh X ex oe) pins σ H s) : Inv X pins σ H s :=
 ⟨ok, I.os, I.bare, I.base, I.loc, I.cell, I.free, I.freeC, fun p hp => I.pin p (List.mem_cons_of_mem _ hp), I.hok, I.len⟩
noncomputable def tTry (K : PySem.W.Frag) (n i : Nat) (fa : AF) (XF : XFF) (tS : Addr -> TS) : TS := fun D σ H => ∃ ι σd Hd ds H1 H2, SRep K H ι σ σd ∧ HRep K H ι Hd ∧ fa σd Hd = some (ds, H1) ∧ ds.length = n ∧ XF ds H1 = some H2 ∧
 ∀ ex H' ι', Le K H ι H' ι' -> HRep K H' ι' H2 -> tS ex { nx := fun σ2 H3 => D.nx (σ2.set i none) H3, rt := fun _ _ => False } (σ.set i (some (.ref ex))) H'
theorem Zzw {X : Cx} {C f : Addr} {k n i : Nat} {fd : FuncData} {ps : List Str} {XF : XFF} {fa : AF} {x xc nm : Str} {cV : Value} {b₀ : Stmt} {suite : List Stmt} {a : Expr} {as : List Expr} {tS : Addr -> TS} {p cp ep np hp pos : Pos}
  (hstk : X.stack = X.env :: X.outer) (hfr : X.env.frame = some X.env.locals)
  (G : FnOk X.prog X.w X.K X.mg X.base (CXe X.prog X.w) k f fd ps (spX X.K C n XF)) (hr : Room k X.A) (hg : Gl X x) (hm : X.mg x = some (.ref f)) (hk : PySem.W.keepIn X.K (.ref f) = true) (hb : Zis X.K fd ps [])
  (ha : PAf X.nox (a :: as) fa) (hgc : Gl X xc) (hmc : X.mg xc = some cV) (hex : exmOne X.K (.ref C) cV = some true)
  (hN : X.N.Nodup) (hi : X.N[i]? = some nm) (hloc : X.env.scope.names.lookup nm = some .local) (hkl : X.env.kindOf nm = some .local)
  (hS : ∀ (ex : Addr) (oe : Obj), oe.cls = .ref C -> (∃ vs, oe.data = .fields vs) -> PSs (Xh X ex oe) (b₀ :: suite) (tS ex))
  (hdb : (x == ("__debug__" : Str)) = false := by decide) (hdc : (xc == ("__debug__" : Str)) = false := by decide) (he : starEach (a :: as) X.env = (false, eval a X.env) :: starEach as X.env := by exact Zbe rfl) (hpl : (backTo cp (starEach as X.env)).any (·.1) = false := by exact Zc0 rfl)
  (hs : swapsWith (.Call (.Name x p) (a :: as) [] cp) none ep.line X.env = pure false := by rfl) :
  PS X (.Try [.Expr (.Call (.Name x p) (a :: as) [] cp) ep] [.ExceptHandler (some (.Name xc np)) (some nm) (b₀ :: suite) hp] [] [] pos) (tTry X.K n i fa XF tS) := by
 rintro pins s σ H D I ⟨ι, σd, Hd, ds, H1, H2, ss, hh, e1, e2, e3, q⟩
 refine wpAny_Try_except (wpAny_execs_cons (wpAny_Expr_any (wpAny_Call_Name_kw (Zhs I hg hm ?_ hdb)) I.quiet hs))
 refine PySem.W.callWith_K (h₀ := X.base) I.ok.mod.kin hk (wpAny_mono (ha cp pins s σ H (fun vs H' => ∃ ι', Le X.K H ι H' ι' ∧ HRep X.K H' ι' H1 ∧ Paired (Rep X.K H' ι') ds vs) (I.wish _) ⟨ι, σd, Hd, ds, H1, ss, hh, e1, fun vs H' ι' l h P => ⟨ι', l, h, P⟩⟩) (fun us s1 z => ?_) fun _ _ z => z.elim) he hpl
 obtain ⟨vs, H1v, I1, r1, ι1, l1, h1, P1⟩ := z
 have I1 : Inv X pins σ H1v s1 := I1.unwish
 refine ⟨I1.kIn, ?_⟩
 have sp : spX X.K C n XF vs H1v (fun _ _ => False) fun Cv _ H' => Cv = .ref C ∧ ∃ ι', Le X.K H ι H' ι' ∧ HRep X.K H' ι' H2 := ⟨ι1, ds, H1, H2, e2, h1, P1, e3, fun H' ι' l h => ⟨rfl, ι', l1.trans l, h⟩⟩
 have hl : us.length = ps.length := by rw [← r1.length]; exact G.len _ _ _ _ sp
 have hb1 := hb s1 us I1.kIn (by rw [List.append_nil]; exact hl)
 rw [List.append_nil] at hb1
 refine wpAny_call (codeAny_mono (G.run X.A X.stack s1 H1v ⟨us, []⟩ us vs _ _ hr I1.env0 hb1 r1 sp) fun r s' hq => ?_)
 cases r with
 | ok fl =>
  cases fl with
  | ret u => obtain ⟨v, H', _, _, _, _, _, z⟩ := hq; exact z.elim
  | next => exact False.elim hq
  | brk => exact False.elim hq
  | cont => exact False.elim hq
 | error e =>
  obtain ⟨ex, Cv, H2v, rfl, ⟨rfl, ι2, l2, h2⟩, os, bare, un, hok, fl⟩ := hq
  obtain ⟨B, a0, fly, bo, bt⟩ := fl.fly
  rw [hstk] at fly
  have new : s1.heap.get? ex = none := fl.new
  have frA : X.A.frames = some (X.env :: X.outer) := by rw [← hstk]; exact I1.ok.frames
  refine wpAny_looks_onW frA hfr fly fun h4 held4 up4 => ?_
  refine wpAny_landsW held4 fun h5 fly5 up5 => ?_
  have ff : s'.heap.FunFrames B X.stack := by rw [hstk]; exact fly.2.2.1
  obtain ⟨un5, ok5⟩ := Zqa un hok bo bt fly5.1 (up4.trans up5) ff
  have I5 : Inv X pins σ H2v { s' with heap := h5 } := I1.call' (s' := { s' with heap := h5 }) (ch := []) os un5 ok5 bare (fun b z => absurd z (by simp))
  have exH : H2v ex = none := by
   cases z : H2v ex with
   | none => rfl
   | some ho =>
    obtain ⟨o, _, g⟩ := bt ex ho z
    rw [fly.2.1] at g; cases g
  have ne : ex ≠ X.env.locals := fun z => by
   obtain ⟨m, ⟨o, _, _, g, _⟩, _⟩ := I1.loc
   rw [← z, new] at g; cases g
  have nf : ex ∉ X.fs := fun z => by
   obtain ⟨_, o, g, _⟩ := I1.funs.mem z
   rw [new] at g; cases g
  obtain ⟨ob, wb, gob, cob, dob, _⟩ := fly5.first
  have I5m : Inv (Xh X ex ob) pins σ H2v { s' with heap := h5 } := Inv.marked I5 gob exH ne nf fun v z => by rw [dob] at z; cases z
  refine wpAny_handleBy_cons (codeAny_handlers_test (Zhs (X := Xh X ex ob) I5m hgc hmc ?_ hdc)) (by intro z; cases z)
  have LT : Looks (model X.prog X.w) h5 (typeOf (.ref ex)) (.ref C) := by rw [← cob]; exact (Looks.ld gob).andThen .now
  refine (exm_one (M := model X.prog X.w) I5.kIn LT hex).here ?_
  refine codeAny_handlers_suite_as ?_
  refine lands_againW fly5 fun h6 fly6 up6 => ?_
  obtain ⟨un6, ok6⟩ := Zqa un hok bo bt fly6.1 ((up4.trans up5).trans up6) ff
  have I6 : Inv X pins σ H2v { s' with heap := h6 } := I1.call' (s' := { s' with heap := h6 }) (ch := []) os un6 ok6 bare (fun b z => absurd z (by simp))
  obtain ⟨oe, ws, goe, coe, doe, _⟩ := fly6.first
  have I6m : Inv (Xh X ex oe) pins σ H2v { s' with heap := h6 } := Inv.marked I6 goe exH ne nf fun v z => by rw [doe] at z; cases z
  refine Zgp (X := Xh X ex oe) I6m hN hi (.inl hloc) (v := .ref ex) rfl (fun s7 I7 => ?_) (.inr hloc)
  have st := hS ex oe coe ⟨ws, doe⟩ pins s7 (σ.set i (some (.ref ex))) H2v _ I7 (q ex H2v ι2 l2 h2)
  refine wpAny_mono st (fun f s8 z => ?_) fun _ _ z => z.elim
  cases f with
  | next =>
   obtain ⟨σ8, H8, I8, z⟩ := z
   exact Zw9 (Inv.unmark I1.ok I8) hN hi hkl fun s9 I9 => ⟨_, _, I9, z⟩
  | ret u => obtain ⟨v, σ8, H8, I8, r, z⟩ := z; exact z.elim
  | brk => obtain ⟨σ8, H8, I8, z⟩ := z; exact z.elim
  | cont => obtain ⟨σ8, H8, I8, z⟩ := z; exact z.elim
structure ExcL (K : PySem.W.Frag) (C : Addr) : Prop where
 ga : findIn K (.ref C) "__getattribute__" = some (some (.builtin "BaseException.__getattribute__"))
 gr : findIn K (.ref C) "__getattr__" = some none
 cl : findIn K (.ref C) "__class__" = some (some (.builtin "object.__class__"))
 gt : specialIn K (.builtin "object.__class__") "__get__" = some (some (.builtin "getset_descriptor.__get__"))
 tk : takesIn K (.builtin "object.__class__") = some true
 mr : mroIn K C (.type "object") = some true
 sb : subIn K (.ref C) (.type "BaseException") = some true
 cs : (clsIn K C).isSome = true
section
variable {prog : Program} {w : World} {A : Around} {E : Value -> Shared -> Prop} {s : Shared} {K : PySem.W.Frag} {x C : Addr} {ox : Obj}
structure ExcO (h : Heap) (x : Addr) (ox : Obj) (C : Addr) : Prop where
 at_ : h.get? x = some ox
 cls : ox.cls = .ref C
theorem ExcO.type {M : Model} {h : Heap} (I : ExcO h x ox C) : Looks M h (typeOf (.ref x)) (.ref C) := by rw [← I.cls]; exact (Looks.ld I.at_).andThen .now
theorem Zsy {M : Model} {h : Heap} (L : ExcL K C) (X : K.In h) : Looks M h (Builtin.ObjectAttr.find (.ref x) (.ref C) "__class__") (.bind (.builtin "getset_descriptor.__get__") (.builtin "object.__class__")) := by
 have a1 := looks_findIn (M := M) X L.cl
 have a2 := looks_specialIn (M := M) X L.gt
 have a3 := looks_takesIn (M := M) X L.tk
 unfold Builtin.ObjectAttr.find
 refine a1.andThen ?_
 refine Looks.andThen (t := Builtin.ObjectAttr.getOf (some (.builtin "object.__class__"))) a2 ?_
 refine Looks.andThen (t := Builtin.ObjectAttr.dataDescriptor? (some (.builtin "object.__class__")) (some (.builtin "getset_descriptor.__get__"))) (a := some (.builtin "getset_descriptor.__get__", .builtin "object.__class__")) ?_ (Looks.tag .now)
 unfold Builtin.ObjectAttr.dataDescriptor?
 exact a3.andThen .now
theorem Zu6 {R : Result → Shared → Prop} {tp : Value} (X : K.In s.heap) (I : ExcO s.heap x ox C) (hm : mroIn K C (.type "object") = some true) (z : R (.ok (.ret (.ref C))) s) : codeAny (model prog w) A (.call (.builtin "getset_descriptor.__get__") ⟨[.builtin "object.__class__", .ref x, tp], []⟩) R s := by
 obtain ⟨h1, g1, d1, t1, o1⟩ := s
 have a0 := I.type (M := model prog w)
 have a1 := looks_mroIn (M := model prog w) X hm
 refine codeAny_call_builtin KF.slot_gs.plain KF.entry_gs ?_
 refine KF.slot_gs.check _ _ _ _ _ _ _ _ KF.type_class (KF.args_gs _ _ _) ?_
 (unfold Builtin.«getset_descriptor.__get__» Builtin.Getset_descriptor.descrGet; rw [dga_obj]; refine wpAny_bind (wpAny_pure ?_); unfold Builtin.Getset_descriptor.descrGetter Builtin.Getset_descriptor.descrCheckInstance Builtin.Getset_descriptor.descrNameAndClass isInstance; simp only [KF.owner_class]; repeat lk)
 have e1 := KF.entry_class
 refine ⟨Code.quiet_builtin _ (by decide +kernel), codeAny_builtin e1 ?_⟩
 (unfold Builtin.«object.__class__» shownTypeOf; repeat lk); exact z
theorem Zqi {Q : Option Value → Shared → Prop} (L : ExcL K C) (X : K.In s.heap) (I : ExcO s.heap x ox C) (q : Q (some (.ref C)) { s with toks := s.toks + 1 }) : wpAny (model prog w) A (getAttr? (.ref x) "__class__") Q E s := by
 obtain ⟨hh, g, d, t, os⟩ := s
 have L0 := I.type (M := model prog w)
 have L1 := looks_findIn (M := model prog w) X L.ga
 have L2 := looks_findIn (M := model prog w) X L.gr
 have LF := Zsy (x := x) (M := model prog w) L X
 have LS := looks_subIn (M := model prog w) X L.sb
 unfold getAttr? getAttrBy? getAttrBy
 refine wpAny_bind (wpAny_mkText (wpAny_bind (wpAny_attempt (wpAny_holding (wpAny_bind (L0.at (wpAny_bind (L1.at ?_))))))))
 show wpAny _ _ (if (onTheHeap (Value.ref C) && (Value.builtin "BaseException.__getattribute__" == Value.builtin "object.__getattribute__")) = true then _ else _) _ _ _
 have n2 : (Value.builtin "BaseException.__getattribute__" == Value.builtin "object.__getattribute__") = false := by decide +kernel
 rw [if_neg (by rw [n2, Bool.and_false]; exact Bool.false_ne_true)]
 unfold getAttrByItsOwn hookBefore
 rw [if_pos (by rfl)]
 refine wpAny_bind (L2.at (wpAny_bind (wpAny_attempt (wpAny_holding ?_))))
 unfold callGetattribute
 rw [if_neg (by exact Bool.false_ne_true)]
 unfold boundAndCalled
 have LI : Looks (model prog w) hh (isInstance (.ref x) (.type "BaseException")) true := L0.andThen LS
 rw [PySem.F.attr_ValueError.ga.bind (.ref x)]
 refine wpAny_bind (wpAny_pure ?_)
 show wpAny _ _ (call (.builtin "BaseException.__getattribute__") [.ref x, .str (Str.ofString "__class__") t]) _ _ _
 refine wpAny_call (codeAny_call_builtin PySem.F.attr_ValueError.ga.plain PySem.F.entry_bexc_ga ?_)
 have b1 : builtinKind "BaseException.__getattribute__" = some .slot := by decide +kernel
 have b2 : splitId "BaseException.__getattribute__" = some ("BaseException", "__getattribute__") := by decide +kernel
 have b3 := PySem.F.args_bexc_ga (.ref x) (.str (Str.ofString "__class__") t)
 simp only [checkBuiltinCall, b1, b2]
 refine wpAny_bind (LI.at ?_)
 repeat (first | (with_reducible refine L0.at ?_) | (with_reducible refine LF.at ?_) | wp_step)
 exact Zu6 (ox := ox) X I L.mr (wpAny_pure (handed_on rfl (wpAny_pure q)))
theorem Zp7 (L : ExcL K C) : ∃ c dd cd sl, K.lookup C = some ⟨c, dd, .cls cd, sl⟩ := by
 have z := L.cs
 unfold clsIn at z
 split at z
 ·rename_i e; exact ⟨_, _, _, _, e⟩
 ·cases z
theorem Zmy (L : ExcL K C) : KitX K (.ref x) (.ref C) (fun h => ExcO h x ox C) where
 ty := fun _ _ _ I => I.type
 it := fun M h X _ => by
  obtain ⟨c, dd, cd, sl, e⟩ := Zp7 L
  intro A1 Q1 E1 s1 kp z
  show wpAny M A1 (isType (.ref C)) Q1 E1 s1
  unfold isType loadHead
  refine wpAny_bind (wpAny_loadPart (kp C _ (X C _ e)) ?_)
  exact wpAny_pure z
 ne := fun h tp dd its n sl X g => by
  obtain ⟨c, d1, cd, s1, e⟩ := Zp7 L
  cases z : (Value.ref C == Value.ref tp) with
  | false => rfl
  | true =>
   have y : C = tp := Value.ref.inj (beq_iff_eq.mp z)
   subst y
   have y := X C _ e
   rw [g] at y
   cases y
 ca := fun X I z => Zqi L X I z
end
theorem Zx2 {x : V} {r : List V} {l : List Value} (h : Zbq (x :: r) l) : ∃ b t, l = b :: t ∧ Zcn x b ∧ Zbq r t := by
 cases h with
 | cons p P => exact ⟨_, _, rfl, p, P⟩
noncomputable def eFS (f : EF) (c : Str) : EF := fun σ H => (f σ H).bind fun r => match r.1 with
 | .str x => if x.length ≤ 1000 ∧ c.length ≤ 1000 then some (.str (x ++ c), r.2) else none
 | _ => none
section
variable {X : Cx}
theorem Zzj {a : Expr} {f : EF} {c : Str} {j : Nat} {p1 p2 pos : Pos} (ha : PEf X a f) : PEf X (.JoinedStr [.FormattedValue a (-1) none p1, .Constant (.str c) j p2] pos) (eFS f c) := by
 rintro pins s σ H Q I ⟨ι, σd, Hd, d, Hd', ss, hr, e, q⟩
 obtain ⟨⟨d1, H1⟩, e1, e⟩ := Zo e
 have hx : ∃ x, d1 = .str x ∧ x.length ≤ 1000 ∧ c.length ≤ 1000 ∧ d = .str (x ++ c) ∧ Hd' = H1 := by
  dsimp only at e
  split at e
  ·rename_i x
   split at e
   ·rename_i hz; cases e; exact ⟨x, rfl, hz.1, hz.2, rfl, rfl⟩
   ·cases e
  ·cases e
 obtain ⟨x, rfl, z1, z2, rfl, rfl⟩ := hx
 refine JoinedStr_many (joinParts_cons (FormattedValue_plain (thn (ha pins s σ H (fun v H' => ∃ ι', v = .str x ∧ Le X.K H ι H' ι' ∧ HRep X.K H' ι' Hd') I ⟨ι, σd, Hd, _, Hd', ss, hr, e1, fun v H' ι' l h r => ⟨ι', by simpa using r, l, h⟩⟩) fun u s1 z => ?_)))
 obtain ⟨v, H', I1, r1, ι', rfl, l, h⟩ := z
 obtain ⟨t, rfl⟩ := r1
 have z0 : Str.empty ++ x = x := by
  show Str.mk (#[] ++ x.cps) = x
  rw [Array.empty_append]
 refine formatField_str (fun t' tk => ?_) (by rw [PySem.sizeLine_eq]; omega)
 show (Str.empty ++ x).length ≤ sizeLine ∧ _
 rw [z0]
 refine ⟨by rw [PySem.sizeLine_eq]; omega, joinParts_cons (thn (Zmj (X := X) pins _ σ H' (fun v H2 => v = .str c ∧ H2 = H') (I1.tok tk) ⟨rfl, rfl⟩) fun u2 s2 z => ?_)⟩
 obtain ⟨v2, H2, I2, r2, rfl, rfl⟩ := z
 obtain ⟨t2, rfl⟩ := r2
 have zl : (x ++ c).length ≤ sizeLine := by
  have e3 : (x ++ c).length = x.length + c.length := by
   show (x.cps ++ c.cps).size = _
   rw [Array.size_append]; rfl
  rw [e3, PySem.sizeLine_eq]; omega
 exact ⟨zl, joinParts_nil ⟨.str (x ++ c), H2, I2.tok _, ⟨_, rfl⟩, q _ H2 ι' l h (by simp)⟩ zl⟩
theorem Zpp : ∀ {cs : List Addr} {its : List Value}, Zbq (cs.map .ref) its -> its = cs.map .ref := by
 intro cs
 induction cs with
 | nil => intro its rv; cases rv; rfl
 | cons a r ih =>
  intro its rv
  obtain ⟨b, t, rfl, p1, p2⟩ := Zx2 rv
  have p1 : b = Value.ref a := p1
  rw [p1, ih p2]; rfl
theorem Zqv {ex C : Addr} {oe : Obj} {c : V} {cV : Value} {b : Bool} (L : ExcL X.K C) (hc : oe.cls = .ref C) (hu : ∀ u, Zcn c u -> u = cV) (e : kitOne X.K (.ref C) cV = some b) :
  Zf7 (Xh X ex oe) (.builtin "isinstance") (fun xs H Q => xs = [.ref ex, c] ∧ Q (.bl b) H) := by
 rintro pins s σ H xs us Q I r ⟨rfl, q⟩
 obtain ⟨u1, u2, rfl, r1, r2⟩ := Znx r
 have e1 : u1 = .ref ex := r1
 subst e1
 obtain rfl := hu u2 r2
 have pn := I.pin (ex, oe) (List.mem_append_left _ (List.mem_cons_self ..))
 exact kia_one (Zmy (ox := oe) (x := ex) L) I.kIn ⟨pn.1, hc⟩ e (by rintro z; cases z) fun tk => ⟨.bl b, H, I.tok tk, rfl, q⟩
theorem Zwy {ex C : Addr} {oe : Obj} {cs : List Addr} {b : Bool} (L : ExcL X.K C) (hc : oe.cls = .ref C) (e : kitAny X.K (.ref C) (cs.map .ref) = some b) :
  Zf7 (Xh X ex oe) (.builtin "isinstance") (fun xs H Q => ∃ p, xs = [.ref ex, .ref p] ∧ H p = some (.tup (cs.map .ref)) ∧ Q (.bl b) H) := by
 rintro pins s σ H xs us Q I r ⟨p, rfl, hp, q⟩
 obtain ⟨u1, u2, rfl, r1, r2⟩ := Znx r
 have e1 : u1 = .ref ex := r1
 have e2 : u2 = .ref p := r2
 subst e1 e2
 have pn := I.pin (ex, oe) (List.mem_append_left _ (List.mem_cons_self ..))
 obtain ⟨_, its, rv, o, g, c1, ⟨n, d1⟩, _⟩ := I.hok p _ hp
 have ei := Zpp rv
 subst ei
 obtain ⟨oc, od, odd, os⟩ := o
 have c1 : oc = .type "tuple" := c1
 have d1 : odd = .seq (cs.map Value.ref).toArray n := d1
 subst c1 d1
 exact kia_tup (Zmy (ox := oe) (x := ex) L) I.kIn ⟨pn.1, hc⟩ g e (by rintro z; cases z) fun tk => ⟨.bl b, H, I.tok tk, rfl, q⟩
noncomputable def Zrt (cs : List Addr) : TA := fun _ H Q => Q (cs.map .ref) H
theorem Zu9 : PA X [] (Zrt []) := Zgf
theorem Zhk {x : Str} {c : Addr} {cs : List Addr} {es : List Expr} {p : Pos} (hg : Gl X x) (hm : X.mg x = some (.ref c)) (h : PA X es (Zrt cs)) (hd : (x == ("__debug__" : Str)) = false := by decide) (hs : starEach (.Name x p :: es) X.env = (false, eval (.Name x p) X.env) :: starEach es X.env := by rfl) : PA X (.Name x p :: es) (Zrt (c :: cs)) :=
 Zc7 (Zlh (v := .ref c) hg hm rfl hd) h hs
noncomputable def Zpl (iE iO iW : Nat) (w1 : Str) (ex : Addr) : TS := fun D σ H => σ[iE]? = some (some (.ref ex)) ∧ iO < σ.length ∧ iE ≠ iO ∧
 ∀ p1 u1 p2 u2, H p1 = none -> L2.upd H p1 u1 p2 = none -> D.nx ((σ.set iO (some (.bl false))).set iW (some (.str w1))) (L2.upd (L2.upd H p1 u1) p2 u2)
theorem Zty {ex C : Addr} {oe : Obj} {en on wn xn : Str} {iE iO iW : Nat} {w0 w1 : Str} {es : List Expr} {cs : List Addr} {j0 j1 x1 : Nat} {p1 p2 p3 p4 p5 p6 p7 p8 p9 p10 p11 q1 q2 q3 q4 q5 q6 q7 q8 q9 q10 q11 q12 q13 q14 : Pos}
  (L : ExcL X.K C) (hc : oe.cls = .ref C) (hN : X.N.Nodup) (hiE : X.N[iE]? = some en) (hiO : X.N[iO]? = some on) (hiW : X.N[iW]? = some wn) (vE : Vis X.env.scope en) (vO : Vis X.env.scope on) (lO : Loc X.env.scope on) (lW : Loc X.env.scope wn)
  (sO : X.env.scope.names.lookup on = some .local) (sW : X.env.scope.names.lookup wn = some .local)
  (gI : Gl X "isinstance") (mI : X.mg "isinstance" = none) (gN : Gl X "int") (mN : X.mg "int" = none) (gV : Gl X "ValueError") (mV : X.mg "ValueError" = none) (gX : Gl X xn) (mX : X.mg xn = some (.ref C))
  (hcl : PA (Xh X ex oe) es (Zrt cs)) (kA : kitAny X.K (.ref C) (cs.map .ref) = some false) (kV : kitOne X.K (.ref C) (.type "ValueError") = some true) (hz : cs.length ≤ 1000)
  (dE : (en == ("__debug__" : Str)) = false) (dE2 : (en == ("__classdict__" : Str)) = false) (dO : (on == ("__debug__" : Str)) = false) (dO2 : (on == ("__classdict__" : Str)) = false) (dX : (xn == ("__debug__" : Str)) = false) :
  PSs (Xh X ex oe) [.Assign [.Name on p1] (.Call (.Name "isinstance" p2) [.Name en p3, .Tuple es x1 p4] [] p5) p6,
   .Assign [.Name wn p7] (.Subscript (.List [.Constant (.str w0) j0 p8, .Constant (.str w1) j1 p9] p10) (.Call (.Name "int" p11) [.BoolOp .And [.Call (.Name "isinstance" q1) [.Name en q2, .Name xn q3] [] q4, .Call (.Name "isinstance" q5) [.Name en q6, .Name "ValueError" q7] [] q8, .UnaryOp .Not (.Name on q9) q10] q11] [] q12) q13) q14] (Zpl iE iO iW w1 ex) := by
 have kX : kitOne X.K (.ref C) (.ref C) = some true := by unfold kitOne; rw [if_pos (by simp)]
 have bV : bootBuiltins "ValueError" = some (.type "ValueError") := by decide +kernel
 have e1 : PE (Xh X ex oe) (.Call (.Name "isinstance" p2) [.Name en p3, .Tuple es x1 p4] [] p5) _ := Zgt (Zwy (cs := cs) L hc kA) gI mI boot_isinstance (Zc7 (Zk0 hiE vE dE dE2) (Zc7 (Zue hcl) Zgf rfl) rfl)
 have e2 : PE (Xh X ex oe) (.Call (.Name "isinstance" q1) [.Name en q2, .Name xn q3] [] q4) _ := Zgt (Zqv (c := .ref C) (cV := .ref C) L hc (fun u r => r) kX) gI mI boot_isinstance (Zc7 (Zk0 hiE vE dE dE2) (Zc7 (Zlh (v := .ref C) gX mX rfl dX) Zgf rfl) rfl)
 have e3 : PE (Xh X ex oe) (.Call (.Name "isinstance" q5) [.Name en q6, .Name "ValueError" q7] [] q8) _ := Zgt (Zqv (c := .ty "ValueError") (cV := .type "ValueError") L hc (fun u r => r) kV) gI mI boot_isinstance (Zc7 (Zk0 hiE vE dE dE2) (Zc7 (Zpq (v := .ty "ValueError") gV mV bV rfl) Zgf rfl) rfl)
 have e4 : PE (Xh X ex oe) (.UnaryOp .Not (.Name on q9) q10) _ := Zuv (Zk0 hiO vO dO dO2)
 have e5 : PE (Xh X ex oe) (.Call (.Name "int" p11) [.BoolOp .And [.Call (.Name "isinstance" q1) [.Name en q2, .Name xn q3] [] q4, .Call (.Name "isinstance" q5) [.Name en q6, .Name "ValueError" q7] [] q8, .UnaryOp .Not (.Name on q9) q10] q11] [] q12) _ := Zgw Zg6 gN mN boot_int (Zc7 (Zpf e2 (Zpf e3 (Zug e4))) Zgf rfl)
 have e6 : PE (Xh X ex oe) (.List [.Constant (.str w0) j0 p8, .Constant (.str w1) j1 p9] p10) _ := Zud (Zc7 Zmj (Zc7 Zmj Zgf rfl) rfl)
 have e7 := Zzk (pos := q13) (Zpi (X := Xh X ex oe)) e6 e5 (by intro o i; rfl)
 have S1 := Zqc (X := Xh X ex oe) (pos := p6) (pos' := p1) hN hiO lO e1 rfl (.inr sO)
 have S2 := Zqc (X := Xh X ex oe) (pos := q14) (pos' := p7) hN hiW lW e7 rfl (.inr sW)
 refine Zxh (Zfo S1 (Zwm S2)) fun D σ H z => ?_
 obtain ⟨hE, hlen, hne, q⟩ := z
 have hE2 : (σ.set iO (some (.bl false)))[iE]? = some (some (.ref ex)) := by rw [List.getElem?_set_ne (Ne.symm hne)]; exact hE
 have hO2 : (σ.set iO (some (.bl false)))[iO]? = some (some (.bl false)) := List.getElem?_set_self hlen
 refine ⟨.ref ex, hE, ?_, fun p hp => ⟨p, rfl, L2.upd_same, ?_⟩⟩
 ·rw [List.length_map, PySem.sizeLine_eq]; omega
 refine ⟨by show 2 ≤ sizeLine; rw [PySem.sizeLine_eq]; omega, fun p2 hp2 => ⟨.ref ex, hE2, rfl, true, rfl, ?_⟩⟩
 rw [if_pos rfl]
 refine ⟨.ref ex, hE2, rfl, true, rfl, ?_⟩
 rw [if_pos rfl]
 refine ⟨.bl false, hO2, false, rfl, ?_⟩
 refine .inr ⟨true, rfl, ?_⟩
 exact ⟨p2, [.str w0, .str w1], 1, .str w1, rfl, rfl, SqL.of L2.upd_same, rfl, q p _ p2 _ hp hp2⟩
noncomputable def Zz9 (n iE iO iW : Nat) (w1 : Str) (XF : XFF) (fa : AF) : SF := fun σ H => (fa σ H).bind fun p => if p.1.length = n ∧ iO < σ.length ∧ iE ≠ iO ∧ iE < σ.length ∧ iE ≠ iW then
  (XF p.1 p.2).map fun H2 => (.nx, ((σ.set iO (some (.bl false))).set iW (some (.str w1))).set iE none, H2) else none
theorem Zxn {K : PySem.W.Frag} {n iE iO iW : Nat} {w1 : Str} {XF : XFF} {fa : AF} {E : Ends} {σ : L2.St} {H : Hp} (z : rdS K (Zz9 n iE iO iW w1 XF fa) E σ H) : tTry K n iE fa XF (Zpl iE iO iW w1) E σ H := by
 obtain ⟨ι, σd, Hd, fl, σd', Hd', ss, hr, e, q⟩ := z
 obtain ⟨⟨ds, H1⟩, e1, e⟩ := Zo e
 dsimp only at e
 split at e
 ·rename_i c
  obtain ⟨H2, e2, e3⟩ := Zm e
  cases e3
  have le := ss.len
  refine ⟨ι, σd, Hd, ds, H1, _, ss, hr, e1, c.1, e2, fun ex H' ι' l h => ?_⟩
  refine ⟨List.getElem?_set_self (by omega), by rw [List.length_set]; omega, c.2.2.1, fun p1 u1 p2 u2 g1 g2 => ?_⟩
  have l2 : Le K H ι (L2.upd (L2.upd H' p1 u1) p2 u2) ι' := (l.trans (Le.fresh g1 _)).trans (Le.fresh g2 _)
  refine q _ _ ι' l2 ((h.tup g1 _).tup g2 _) ?_
  refine ⟨by simp [le], fun i d hd => ?_⟩
  by_cases hi : i = iE
  ·subst hi
   rw [List.getElem?_set] at hd
   split at hd
   ·split at hd <;> cases hd
   ·rename_i z; exact absurd rfl z
  ·rw [List.getElem?_set_ne (Ne.symm hi)] at hd ⊢
   by_cases hw : i = iW
   ·subst hw
    by_cases hl : i < σd.length
    ·rw [List.getElem?_set_self (by simpa using hl)] at hd
     cases hd
     exact ⟨.str w1, List.getElem?_set_self (by simp; omega), by simp⟩
    ·rw [List.getElem?_eq_none (by simp; omega)] at hd; cases hd
   ·rw [List.getElem?_set_ne (Ne.symm hw)] at hd ⊢
    by_cases ho : i = iO
    ·subst ho
     rw [List.getElem?_set_self (by omega)] at hd
     cases hd
     exact ⟨.bl false, List.getElem?_set_self (by simp; omega), by simp⟩
    ·rw [List.getElem?_set_ne (Ne.symm ho)] at hd ⊢
     rw [List.getElem?_set_ne (Ne.symm hi)]
     obtain ⟨v, h1, h2⟩ := ss.var i d hd
     exact ⟨v, h1, h2.mono l2⟩
 ·cases e
end
section
variable {X : Cx}
theorem Zzh {st : Stmt} {t : TS} (h : PS X.nox st t) : PS X st t := by
 intro pins s σ H D I q
 refine wpAny_mono (h pins s σ H D (I.wish _) q) (fun f s1 z => ?_) fun _ _ z => z.elim
 cases f with
 | next => obtain ⟨σ1, H1, I1, z⟩ := z; exact ⟨σ1, H1, I1.unwish, z⟩
 | brk => obtain ⟨σ1, H1, I1, z⟩ := z; exact ⟨σ1, H1, I1.unwish, z⟩
 | cont => obtain ⟨σ1, H1, I1, z⟩ := z; exact ⟨σ1, H1, I1.unwish, z⟩
 | ret u => obtain ⟨v, σ1, H1, I1, r, z⟩ := z; exact ⟨v, σ1, H1, I1.unwish, r, z⟩
theorem Zy3 {es : List Expr} {t : TA} (h : PA X.nox es t) : PA X es t := by
 intro pos pins s σ H Q I q
 refine wpAny_mono (h pos pins s σ H Q (I.wish _) q) (fun us s1 z => ?_) fun _ _ z => z.elim
 obtain ⟨vs, H1, I1, r, z⟩ := z
 exact ⟨vs, H1, I1.unwish, r, z⟩
theorem Zsq {C : Addr} {st : Stmt} {sts : List Stmt} {f : SF} {b : XFs} (h1 : PSf X.nox st f) (h2 : PXf X C sts b) : PXf X C (st :: sts) (xSeq f b) := Zwi (Zzh h1) h2
theorem Zyc {C : Addr} {c : Expr} {as sts : List Stmt} {pos : Pos} {t : TF} {b : XFs} (hc : PTf X.nox c t) (ha : PXf X C as b) : PXf X C (.If c as [] pos :: sts) (xIf t b) := px_if (PT.nox hc) ha
theorem Zp5 {C : Addr} {sts : List Stmt} {e : Expr} {pos np cpos : Pos} {x : Str} {fe : EF} (hc : X.calm = true) (T : ExcT X.K X.mg x C) (hg : Gl X x) (hf : PAf X.nox [e] (Zaa fe Zai)) (hdb : (x == ("__debug__" : Str)) = false := by decide) (he : starEach [e] X.env = (false, eval e X.env) :: starEach [] X.env := by exact Zbe rfl) :
  PXf X C (.Raise (some (.Call (.Name x np) [e] [] cpos)) none pos :: sts) (Zkk fe) := Zto hc T hg (Zy3 hf) hdb he
end
structure FnX (P : Program) (w : World) (K : PySem.W.Frag) (mg : Str -> Option Value) (base : Heap) (k : Nat) (x : Str) (ps : List Str) (xn : Str) (F : XFF) : Prop where
 ex : ∃ f fd, (∀ C, ExcT K mg xn C -> FnOk P w K mg base (CXe P w) k f fd ps (spX K C ps.length F)) ∧ Zis K fd ps [] ∧ PySem.W.keepIn K (.ref f) = true ∧ mg x = some (.ref f)
theorem fx_mk {P : Program} {w : World} {K : PySem.W.Frag} {mg : Str -> Option Value} {base : Heap} {x xn : Str} {st : Stmt} {N ps : List Str} {k : Nat} {b : XFs} (T : Tf K mg x st) (S : FnScope N ps (Zak st))
  (hbd : ∀ (kV doc pm : Value) (an : Option Addr) (cdv ct : Value) (us : List Value), us.length = ps.length -> bindArgs (PySem.W.fnOf x x (Ze1 st) (Zcj st) (Zak st) .none kV doc pm an cdv ct) ⟨us, []⟩ = pure (ps.zip us))
  (hb : ∀ C, ExcT K mg xn C -> ∀ (f : Addr) (cdv : Value) (A : Around) (outer : List Env) (s : Shared) (H : Hp) (E : XK), Room k (A.deeper (envOfC x (Zak st) s.heap.objs.size f cdv)) →
   PXf (Zfj (CXe P w) P w K mg base N x (Zak st) f cdv A outer s H E) C (Zcj st) b) : FnX P w K mg base (k + 1) x ps xn (Zy1 ps.length N.length b) := by
 obtain ⟨f, fd, F, hm⟩ := T
 exact ⟨f, fd, fun C E => fx_f F S fun cdv A outer s H E1 hr => hb C E f cdv A outer s H E1 hr, F.binds hbd, F.kp, hm⟩
structure Refu (K : PySem.W.Frag) (mg : Str -> Option Value) (xn xc : Str) (C : Addr) (cV : Value) (cs : List Addr) : Prop where
 exc : ExcT K mg xn C
 look : ExcL K C
 cls : mg xc = some cV
 one : exmOne K (.ref C) cV = some true
 any : kitAny K (.ref C) (cs.map .ref) = some false
 val : kitOne K (.ref C) (.type "ValueError") = some true
theorem Zg8 {K : PySem.W.Frag} {hp : Heap} {mg : Str -> Option Value} {n : Str} {c : Addr} (X : K.In hp) (G : hp.Ns mainGlobals mg) (e : nsIn K mainGlobals n = some (some (.ref c))) : mg n = some (.ref c) := PySem.W.mg_of X G e
theorem Zwp {K : PySem.W.Frag} {hp : Heap} {mg : Str -> Option Value} {xn xc : Str} {C : Addr} {cV : Value} {cs : List Addr} {cd : ClassData} (X : K.In hp) (G : hp.Ns mainGlobals mg) (a : nsIn K mainGlobals xn = some (some (.ref C))) (b : nsIn K mainGlobals xc = some (some cV)) (f : keepIn K (.ref C) = true)
  (g : findIn K (.ref C) "__getattribute__" = some (some (.builtin "BaseException.__getattribute__"))) (h : findIn K (.ref C) "__getattr__" = some none) (i : findIn K (.ref C) "__class__" = some (some (.builtin "object.__class__"))) (j : specialIn K (.builtin "object.__class__") "__get__" = some (some (.builtin "getset_descriptor.__get__")))
  (l : takesIn K (.builtin "object.__class__") = some true) (m : mroIn K C (.type "object") = some true) (n : subIn K (.ref C) (.type "BaseException") = some true) (o : clsIn K C = some cd) (p : excIn K C [.type "ValueError", .type "Exception", .type "BaseException", .type "object"] "ValueError.__new__" = true)
  (q : exmOne K (.ref C) cV = some true) (r : kitAny K (.ref C) (cs.map .ref) = some false) (s : kitOne K (.ref C) (.type "ValueError") = some true) : Refu K mg xn xc C cV cs :=
 ⟨⟨PySem.W.mg_of X G a, f, _, _, _, _, p, PySem.F.excBase_ValueError⟩, ⟨g, h, i, j, l, m, n, by rw [o]; rfl⟩, PySem.W.mg_of X G b, q, r, s⟩
section
variable {X : Cx}
theorem Zvd {C : Addr} {cV : Value} {cs : List Addr} {k iE iO iW : Nat} {ps : List Str} {XF : XFF} {fa : AF} {x xn xc en on wn : Str} {a : Expr} {as es : List Expr} {w0 w1 : Str} {j0 j1 x1 : Nat} {p cp ep np hp pos p1 p2 p3 p4 p5 p6 p7 p8 p9 p10 p11 q1 q2 q3 q4 q5 q6 q7 q8 q9 q10 q11 q12 q13 q14 : Pos}
  (R : Refu X.K X.mg xn xc C cV cs) (F : FnX X.prog X.w X.K X.mg X.base k x ps xn XF) (hr : Room k X.A) (ha : PAf X.nox (a :: as) fa) (hcl : ∀ ex oe, PA (Xh X ex oe) es (Zrt cs)) (hz : cs.length ≤ 1000)
  (mI : X.mg "isinstance" = none) (mN : X.mg "int" = none) (mV : X.mg "ValueError" = none)
  (hN : X.N.Nodup) (hiE : X.N[iE]? = some en) (hiO : X.N[iO]? = some on) (hiW : X.N[iW]? = some wn) (sE : X.env.scope.names.lookup en = some .local) (sO : X.env.scope.names.lookup on = some .local) (sW : X.env.scope.names.lookup wn = some .local)
  (hstk : X.stack = X.env :: X.outer := by rfl) (hfr : X.env.frame = some X.env.locals := by rfl) (hg : Gl X x := by rfl) (hgc : Gl X xc := by rfl) (gX : Gl X xn := by rfl) (gI : Gl X "isinstance" := by rfl) (gN : Gl X "int" := by rfl) (gV : Gl X "ValueError" := by rfl)
  (hdb : (x == ("__debug__" : Str)) = false := by decide) (hdc : (xc == ("__debug__" : Str)) = false := by decide) (dE : (en == ("__debug__" : Str)) = false := by decide) (dE2 : (en == ("__classdict__" : Str)) = false := by decide) (dO : (on == ("__debug__" : Str)) = false := by decide) (dO2 : (on == ("__classdict__" : Str)) = false := by decide) (dX : (xn == ("__debug__" : Str)) = false := by decide)
  (he : starEach (a :: as) X.env = (false, eval a X.env) :: starEach as X.env := by exact Zbe rfl) (hpl : (backTo cp (starEach as X.env)).any (·.1) = false := by exact Zc0 rfl) :
  PSf X (.Try [.Expr (.Call (.Name x p) (a :: as) [] cp) ep] [.ExceptHandler (some (.Name xc np)) (some en)
   [.Assign [.Name on p1] (.Call (.Name "isinstance" p2) [.Name en p3, .Tuple es x1 p4] [] p5) p6,
   .Assign [.Name wn p7] (.Subscript (.List [.Constant (.str w0) j0 p8, .Constant (.str w1) j1 p9] p10) (.Call (.Name "int" p11) [.BoolOp .And [.Call (.Name "isinstance" q1) [.Name en q2, .Name xn q3] [] q4, .Call (.Name "isinstance" q5) [.Name en q6, .Name "ValueError" q7] [] q8, .UnaryOp .Not (.Name on q9) q10] q11] [] q12) q13) q14] hp] [] [] pos) (Zz9 ps.length iE iO iW w1 XF fa) := by
 obtain ⟨f, fd, G, hb, hk, hm⟩ := F.ex
 refine PSi (Zzw (tS := Zpl iE iO iW w1) hstk hfr (G C R.exc) hr hg hm hk hb ha hgc R.cls R.one hN hiE sE sE (fun ex oe c1 c2 => ?_) hdb hdc he hpl) fun E σ H z => Zxn z
 exact Zty R.look c1 hN hiE hiO hiW (.inl sE) (.inl sO) (.inl sO) (.inl sW) sO sW gI mI gN mN gV mV gX R.exc.bound (hcl ex oe) R.any R.val hz dE dE2 dO dO2 dX
end
end DL
namespace DL
open PySem PySem.Spec PyProof.Rows L2
section
variable {X : Cx}
end
section
variable {X : Cx}
end
section
variable {X : Cx}
end
section
variable {X : Cx} {tg : Expr}
end
section
variable {X : Cx}
end
end DL
namespace DL
open PySem L2
theorem Zdp {n : Nat} (h : n ≤ 1000000) : n ≤ sizeLine := by rw [PySem.sizeLine_eq]; omega
theorem Zgx {xs : List D} {i : Int} {d : D} (h0 : 0 ≤ i) (h : xs[i.toNat]? = some d) : atI xs i = some d := by
 have : i = (i.toNat : Int) := by omega
 rw [this]; exact Zb5 h
structure Ext (n : Nat) (H H' : HD) : Prop where
 feed : ∃ a b, H'[n]? = some (.lst [.int a, .int b])
 old : ∀ m o, m ≠ n -> H[m]? = some o -> H'[m]? = some o
 len : H.length ≤ H'.length
theorem Ext.trans {n : Nat} {H H1 H2 : HD} (a : Ext n H H1) (b : Ext n H1 H2) : Ext n H H2 := ⟨b.feed, fun m o h q => b.old m o h (a.old m o h q), Nat.le_trans a.len b.len⟩
theorem Ext.refl {n : Nat} {H : HD} (h : ∃ a b, H[n]? = some (.lst [.int a, .int b])) : Ext n H H := ⟨h, fun _ _ _ q => q, Nat.le_refl _⟩
theorem Ext.app {n : Nat} {H : HD} (h : ∃ a b, H[n]? = some (.lst [.int a, .int b])) (o : DO) : Ext n H (H ++ [o]) := by
 obtain ⟨a, b, e⟩ := h
 refine ⟨⟨a, b, ?_⟩, fun m u _ q => ?_, by simp⟩
 ·rw [List.getElem?_append_left (List.getElem?_eq_some_iff.mp e).1]; exact e
 ·rw [List.getElem?_append_left (List.getElem?_eq_some_iff.mp q).1]; exact q
end DL
namespace LH
open PySem L2 DL
noncomputable def Zct : SF :=
 (Zal (sIf (tOf (eOp gtD (eOp ixD (Zad 0) (eC (.int 0))) (eC (.int 0)))) (Zal (Za0 2 (eOp Zf0 (eOp ixD (Zad 0) (eC (.int 0))) (Zad 1)))
 (Zal (Zoh (eOp Zfy (eOp ixD (Zad 0) (eC (.int 0))) (Zad 1)) (gSb (Zad 0) (eC (.int 0)) Zt8))
 (Zal (Zcc (Zad 2))
 Zav))) Zav)
 (Zal (Zoh (eOp Zf0 (eOp Zbd (eOp Zf2 (eOp ixD (Zad 0) (eC (.int 1))) (eC (.int 69621))) (eC (.int 12345))) (eC (.int 2147483647))) (gSb (Zad 0) (eC (.int 1)) Zt8))
 (Zal (Zcc (eOp Zf0 (eOp Zfy (eOp ixD (Zad 0) (eC (.int 1))) (eC (.int 8191))) (Zad 1)))
 Zav)))
noncomputable def m_law_take : FF := Zb7 2 3 Zct
theorem Zc9 {n : Nat} {k : Int} {H : HD} (hf : ∃ a b, H[n]? = some (.lst [.int a, .int b])) (h0 : 0 < k) (h1 : k < 1073741824) :
  ∃ r H', 0 ≤ r ∧ r < k ∧ m_law_take [.ref n, .int k] H = some (.int r, H') ∧ Ext n H H' ∧ H'.length = H.length := by
 obtain ⟨a, b, e⟩ := hf
 have hl : n < H.length := (List.getElem?_eq_some_iff.mp e).1
 have i0 : ∀ x y : D, atI [x, y] 0 = some x := fun x y => Zb5 (j := 0) rfl
 have i1 : ∀ x y : D, atI [x, y] 1 = some y := fun x y => Zb5 (j := 1) rfl
 have j0 : ixN 2 0 = some 0 := rfl
 have j1 : ixN 2 1 = some 1 := rfl
 by_cases ha : 0 < a
 ·refine ⟨a % k, H.set n (.lst [.int (a / k), .int b]), Int.emod_nonneg _ (by omega), Int.emod_lt_of_pos _ h0, ?_, ⟨⟨a / k, b, by simp [hl]⟩, fun m o hm q => ?_, by simp⟩, by simp⟩
  ·have c1 : Zoi a k := h0
   have c2 : Zwl a k := ⟨h0, h1⟩
   simp [m_law_take, Zct, Zb7, Zal, sIf, tOf, eOp, ixD, Zad, eC, Zey, e, gtD, iiD, CT, blD, Za0, Zf0, Zoh, Zfy, gSb, Zt8, Zcc, i0, ha, c1, c2, j0]
  ·rw [List.getElem?_set_ne (Ne.symm hm)]; exact q
 ·refine ⟨((b * 69621 + 12345) % 2147483647) / 8191 % k, H.set n (.lst [.int a, .int ((b * 69621 + 12345) % 2147483647)]), Int.emod_nonneg _ (by omega), Int.emod_lt_of_pos _ h0, ?_, ⟨⟨a, (b * 69621 + 12345) % 2147483647, by simp [hl]⟩, fun m o hm q => ?_, by simp⟩, by simp⟩
  ·have hs : ∀ o : DO, (H.set n o)[n]? = some o := fun o => by simp [hl]
   have c1 : ∀ z, Zoi z k := fun _ => h0
   have c2 : ∀ z, Zwl z 8191 := fun _ => ⟨by decide, by decide⟩
   have c3 : ∀ z, Zoi z 2147483647 := fun _ => by show (0 : Int) < 2147483647; decide
   have c4 : ∀ z, Zon z 69621 := fun _ => .inr ⟨by decide, by decide⟩
   simp [m_law_take, Zct, Zb7, Zal, sIf, tOf, eOp, ixD, Zad, eC, Zey, e, gtD, iiD, CT, blD, Za0, Zf0, Zoh, Zfy, gSb, Zt8, Zcc, i0, i1, ha, c1, c2, c3, c4, j1, Zav, Zf2, Zbd, hs]
  ·rw [List.getElem?_set_ne (Ne.symm hm)]; exact q
noncomputable def Zdj : SF :=
 (Zal (Zcc (eOp ixD (Zad 1) (Zaj 2 m_law_take (Zaa (Zad 0) (Zaa (eCB Zdb (Zaa (Zad 1) Zai)) Zai)))))
 Zav)
noncomputable def Zas : FF := Zb7 2 2 Zdj
noncomputable def Zv0 (n : Nat) (s : D) (xs : List D) (H : HD) : Prop := s = .tup xs ∨ ∃ m, s = .ref m ∧ m ≠ n ∧ H[m]? = some (.lst xs)
theorem Zv0.seq {n : Nat} {s : D} {xs : List D} {H : HD} (h : Zv0 n s xs H) : Zey s H = some xs := by
 rcases h with rfl | ⟨m, rfl, _, e⟩
 ·rfl
 ·simp [Zey, e]
theorem Zv0.ext {n : Nat} {s : D} {xs : List D} {H H' : HD} (h : Zv0 n s xs H) (e : Ext n H H') : Zv0 n s xs H' := by
 rcases h with rfl | ⟨m, rfl, hm, q⟩
 ·exact .inl rfl
 ·exact .inr ⟨m, rfl, hm, e.old m _ hm q⟩
theorem Zye {n : Nat} {s : D} {xs : List D} {H : HD} (h : Zv0 n s xs H) : Zdb [s] H = some (.int xs.length, H) := by
 rcases h with rfl | ⟨m, rfl, _, e⟩
 ·simp [Zdb, Zey]
 ·simp [Zdb, Zey, e]
theorem Zg5 {n : Nat} {s : D} {xs : List D} {H : HD} (hf : ∃ a b, H[n]? = some (.lst [.int a, .int b])) (hs : Zv0 n s xs H) (h0 : 0 < xs.length) (h1 : xs.length < 1073741824) :
  ∃ x H', x ∈ xs ∧ Zas [.ref n, s] H = some (x, H') ∧ Ext n H H' ∧ H'.length = H.length := by
 obtain ⟨r, H', r0, r1, e, x, hl⟩ := Zc9 (k := xs.length) hf (by omega) (by omega)
 have hr : r.toNat < xs.length := by omega
 refine ⟨xs[r.toNat], H', List.getElem_mem hr, ?_, x, hl⟩
 have ha : atI xs r = some xs[r.toNat] := Zgx r0 (by simp [hr])
 have hq := (hs.ext x).seq
 simp [Zas, Zdj, Zb7, Zal, Zcc, eOp, ixD, Zad, Zaj, Zaa, Zai, eCB, Zye hs, e, hq, ha]
noncomputable def Zdq : SF :=
 (Zal (Za0 2 (Zb6 (Zaa (eC (.int 1)) (Zaa (eC (.int 2)) (Zaa (eC (.int 2)) (Zaa (eC (.int 3)) (Zaa (eC (.int 3)) (Zaa (eC (.int 4)) (Zaa (eC (.int 2)) (Zaa (eC (.int 3)) (Zaa (eC (.int 1)) (Zaa (eOp Zbd (eC (.int 5)) (Zaj 2 m_law_take (Zaa (Zad 0) (Zaa (eC (.int 4)) Zai)))) (Zaa (eC (.int 2)) (Zaa (eOp Zf2 (eC (.int 2)) (eCB Zrz (Zaa (eOp gtD (Zaj 2 m_law_take (Zaa (Zad 0) (Zaa (eC (.int 6)) Zai))) (eC (.int 0))) Zai))) Zai))))))))))))))
 (Zal (Za0 3 (eCB Zok (Zaa (Zad 1) (Zaa (Zaj 2 Zas (Zaa (Zad 0) (Zaa (Zad 2) Zai))) Zai))))
 (Zal (Za0 4 (Zz6 (Zaa (eC (.int 1)) (Zaa (eOp Zbd (Zad 1) (eC (.int 1))) Zai))))
 (Zal (Za0 5 (Zb6 Zai))
 (Zal (Zea (iR1 (Zaa (Zad 3) Zai)) (gNm 6) (Zal (Zc8 (eLM Zb3 (Zad 5) (Zaa (eLM Zxl (Zad 4) (Zaa (Zaj 2 m_law_take (Zaa (Zad 0) (Zaa (eCB Zdb (Zaa (Zad 4) Zai)) Zai))) Zai)) Zai)))
 Zav))
 (Zal (Zcc (eCB Zby (Zaa (eLC (iSq (eCB Zf9 (Zaa (Zad 5) Zai))) [0] Zel (eOp ixD (Zb6 (Zaa (Zad 0) (Zaa (eUn Zh2 (Zad 0)) Zai))) (Zaj 2 m_law_take (Zaa (Zad 1) (Zaa (eC (.int 2)) Zai))))) Zai)))
 Zav))))))
noncomputable def m_law_row : FF := Zb7 2 7 Zdq
noncomputable abbrev Zm5 : SF := (Zal (Zc8 (eLM Zb3 (Zad 5) (Zaa (eLM Zxl (Zad 4) (Zaa (Zaj 2 m_law_take (Zaa (Zad 0) (Zaa (eCB Zdb (Zaa (Zad 4) Zai)) Zai))) Zai)) Zai))) Zav)
theorem Zqf {i : Int} {n : Nat} (h0 : 0 ≤ i) (h1 : i < n) : seqIndex? i n = some i.toNat := by
 unfold seqIndex?
 have h2 : ¬ i < 0 := by omega
 simp [h2, h0, h1]
structure ExtS (S : List Nat) (H H' : HD) : Prop where
 old : ∀ m o, m ∉ S -> H[m]? = some o -> H'[m]? = some o
 len : H.length ≤ H'.length
theorem ExtS.trans {S : List Nat} {H H1 H2 : HD} (a : ExtS S H H1) (b : ExtS S H1 H2) : ExtS S H H2 := ⟨fun m o h q => b.old m o h (a.old m o h q), Nat.le_trans a.len b.len⟩
theorem ExtS.refl {S : List Nat} {H : HD} : ExtS S H H := ⟨fun _ _ _ q => q, Nat.le_refl _⟩
theorem _root_.DL.Ext.toS {n : Nat} {S : List Nat} {H H' : HD} (e : Ext n H H') (h : n ∈ S) : ExtS S H H' := ⟨fun m o hm q => e.old m o (fun z => hm (z ▸ h)) q, e.len⟩
theorem ExtS.set {S : List Nat} {H : HD} {p : Nat} {o : DO} (h : p ∈ S) : ExtS S H (H.set p o) := ⟨fun m u hm q => by rw [List.getElem?_set_ne (fun z => hm (by rw [← z]; exact h))]; exact q, by simp⟩
theorem Zkl {α β : Type} (f : α -> β) : ∀ (xs : List α) (k : Nat), (xs.map f).eraseIdx k = (xs.eraseIdx k).map f
 | [], _ => rfl
 | _ :: _, 0 => rfl
 | x :: xs, k + 1 => by simp [Zkl f xs k]
theorem Zta {n p q : Nat} {a1 a2 a3 z : Option D} {ps qs : List Int} {H : HD} (hp : p ≠ n) (hq : q ≠ n) (hpq : p ≠ q) (h0 : 0 < ps.length) (h1 : ps.length ≤ 100) (h2 : qs.length ≤ 100)
  (hf : ∃ a b, H[n]? = some (.lst [.int a, .int b])) (ep : H[p]? = some (.lst (ps.map .int))) (eq : H[q]? = some (.lst (qs.map .int))) :
  ∃ (k : Nat) (H' : HD) (hk : k < ps.length), Zm5 [some (.ref n), a1, a2, a3, some (.ref p), some (.ref q), z] H = some (.nx, [some (.ref n), a1, a2, a3, some (.ref p), some (.ref q), z], H') ∧
   (∃ a b, H'[n]? = some (.lst [.int a, .int b])) ∧ H'[p]? = some (.lst ((ps.eraseIdx k).map .int)) ∧ H'[q]? = some (.lst ((qs ++ [ps[k]]).map .int)) ∧ ExtS [n, p, q] H H' := by
 obtain ⟨r, H1, r0, r1, e, x, hl⟩ := Zc9 (k := ps.length) hf (by omega) (by omega)
 have hr : r.toNat < ps.length := by omega
 have ep1 := x.old p _ hp ep
 have eq1 := x.old q _ hq eq
 have lp : p < H1.length := (List.getElem?_eq_some_iff.mp ep1).1
 have lq : q < H1.length := (List.getElem?_eq_some_iff.mp eq1).1
 have hs : ps.length ≤ sizeLine := Zdp (by omega)
 have hq2 : qs.length < sizeLine := by have : sizeLine = 16777216 := PySem.sizeLine_eq; omega
 have sp : (H1.set p (.lst ((ps.map D.int).eraseIdx r.toNat)))[q]? = some (.lst (qs.map .int)) := by rw [List.getElem?_set_ne hpq]; exact eq1
 refine ⟨r.toNat, (H1.set p (.lst ((ps.map D.int).eraseIdx r.toNat))).set q (.lst (qs.map .int ++ [.int ps[r.toNat]])), hr, ?_, ?_, ?_, ?_, ?_⟩
 ·have s1 : seqIndex? r ps.length = some r.toNat := Zqf r0 r1
  have b1 : -(2 ^ 63 : Int) ≤ r ∧ r < 2 ^ 63 := ⟨by omega, by omega⟩
  have g1 : (ps.map D.int)[r.toNat]? = some (.int ps[r.toNat]) := by simp [hr]
  have b2 : -9223372036854775808 ≤ r ∧ r < 9223372036854775808 := ⟨by omega, by omega⟩
  simp [Zm5, Zal, Zc8, eLM, Zad, Zhy, eq, ep, Zaa, Zai, Zaj, eCB, Zdb, Zey, e, Zxl, ep1, s1, b2, g1, Zb3, sp, hq2, Zav, hr]
 ·obtain ⟨a, b, f1⟩ := x.feed
  exact ⟨a, b, by rw [List.getElem?_set_ne hq, List.getElem?_set_ne hp]; exact f1⟩
 ·rw [List.getElem?_set_ne (Ne.symm hpq)]
  simp [lp, Zkl]
 ·simp [lq]
 ·exact (x.toS (by simp)).trans ((ExtS.set (by simp)).trans (ExtS.set (by simp)))
theorem Zif : ∀ (l : List Int) (j : Nat) (h : j < l.length), (l[j] :: l.eraseIdx j).Perm l
 | x :: xs, 0, h => List.Perm.refl _
 | x :: xs, j + 1, h => by
  rw [List.eraseIdx_cons_succ, List.getElem_cons_succ]
  exact (List.Perm.swap _ _ _).trans (List.Perm.cons x (Zif xs j (by simpa using h)))
theorem Zmc {M : Int} {n p q : Nat} {a1 a2 a3 : Option D} (hp : p ≠ n) (hq : q ≠ n) (hpq : p ≠ q) : ∀ (ks : List D) (ps qs : List Int) (H : HD) (z : Option D), ks.length ≤ ps.length -> ps.length ≤ 100 -> qs.length + ks.length ≤ 100 -> (∀ i ∈ ps, 1 ≤ i ∧ i ≤ M) -> (∀ i ∈ qs, 1 ≤ i ∧ i ≤ M) -> (qs ++ ps).Nodup →
  (∃ a b, H[n]? = some (.lst [.int a, .int b])) -> H[p]? = some (.lst (ps.map .int)) -> H[q]? = some (.lst (qs.map .int)) →
  ∃ (qs' : List Int) (z' : Option D) (H' : HD), Zdg [] (gNm 6) Zm5 ks [some (.ref n), a1, a2, a3, some (.ref p), some (.ref q), z] H = some (.nx, [some (.ref n), a1, a2, a3, some (.ref p), some (.ref q), z'], H') ∧
   (∃ a b, H'[n]? = some (.lst [.int a, .int b])) ∧ H'[q]? = some (.lst (qs'.map .int)) ∧ (∀ i ∈ qs', 1 ≤ i ∧ i ≤ M) ∧ qs'.length = qs.length + ks.length ∧ ExtS [n, p, q] H H' ∧ qs'.Nodup
 | [], ps, qs, H, z, _, _, _, _, hqs, hnd, hf, ep, eq => by
  refine ⟨qs, z, H, ?_, hf, eq, hqs, by simp, ExtS.refl, (List.nodup_append.mp hnd).1⟩
  rw [Zdg, if_pos (by intro x hx; simp at hx)]
 | k :: ks, ps, qs, H, z, h0, h1, h2, hps, hqs, hnd, hf, ep, eq => by
  obtain ⟨j, H1, hj, e1, hf1, ep1, eq1, x1⟩ := Zta (a1 := a1) (a2 := a2) (a3 := a3) (z := some k) hp hq hpq (by simp at h0; omega) h1 (by simp at h2; omega) hf ep eq
  obtain ⟨qs', z', H2, e2, hf2, eq2, hq2, hl2, x2, nd2⟩ := Zmc (M := M) hp hq hpq ks (ps.eraseIdx j) (qs ++ [ps[j]]) H1 (some k) (by rw [List.length_eraseIdx_of_lt hj]; simp at h0; omega) (by rw [List.length_eraseIdx_of_lt hj]; omega) (by simp at h2 ⊢; omega)
   (fun i hi => hps i (List.mem_of_mem_eraseIdx hi)) (fun i hi => by
    rcases List.mem_append.mp hi with z | z
    ·exact hqs i z
    ·simp at z; subst z; exact hps _ (List.getElem_mem hj)) (by
    have pm : ((qs ++ [ps[j]]) ++ ps.eraseIdx j).Perm (qs ++ ps) := by
     rw [List.append_assoc]
     exact List.Perm.append_left qs (Zif ps j hj)
    exact pm.nodup_iff.mpr hnd) hf1 ep1 eq1
  refine ⟨qs', z', H2, ?_, hf2, eq2, hq2, by simp at hl2 ⊢; omega, x1.trans x2, nd2⟩
  rw [Zdg, if_pos (by intro x hx; simp at hx)]
  simp only [gNm, List.set, Zb]
  rw [e1]
  simp only [Zb]
  exact e2
theorem Zk6 {ns : List Int} {i : Int} (h : i ∈ Ze4 ns) : i ∈ ns := (Zeg ns).mem_iff.mp h
noncomputable abbrev Zkp : EF := (eOp ixD (Zb6 (Zaa (Zad 0) (Zaa (eUn Zh2 (Zad 0)) Zai))) (Zaj 2 m_law_take (Zaa (Zad 1) (Zaa (eC (.int 2)) Zai))))
noncomputable def Zbg (l : Int) : Int := if l < 0 then -l else l
noncomputable def Up (m : Int) : Int -> List Int -> Prop
 | _, [] => True
 | last, l :: r => last < Zbg l ∧ Zbg l ≤ m ∧ Up m (Zbg l) r
theorem Zxe {m : Int} : ∀ (ls : List Int) (last : Int), (ls.map Zbg).Pairwise (· < ·) -> (∀ x ∈ ls.map Zbg, last < x ∧ x ≤ m) -> Up m last ls
 | [], _, _, _ => trivial
 | l :: r, last, p, h => by
  rw [List.map_cons, List.pairwise_cons] at p
  have h1 := h (Zbg l) (by simp)
  exact ⟨h1.1, h1.2, Zxe r (Zbg l) p.2 fun x hx => ⟨p.1 x hx, (h x (by rw [List.map_cons]; exact List.mem_cons_of_mem _ hx)).2⟩⟩
theorem Ztn {ns : List Int} (h : ns.Nodup) : (Ze4 ns).Pairwise (· < ·) := by
 have h1 : (Ze4 ns).Pairwise (fun a b => decide (a ≤ b) = true) := List.pairwise_mergeSort (by intro a b c; simp; omega) (by intro a b; simp; omega) ns
 have h2 : (Ze4 ns).Nodup := (Zeg ns).nodup_iff.mpr h
 refine (List.Pairwise.and h1 h2).imp ?_
 rintro a b ⟨x, y⟩
 have := of_decide_eq_true x
 omega
theorem Zkd {n r : Nat} {all : List D} (hrn : r ≠ n) : ∀ (ks : List Int) (H : HD), (∀ i ∈ ks, 1 ≤ i ∧ i ≤ 10) -> (∃ a b, H[n]? = some (.lst [.int a, .int b])) -> H[r]? = some (.lst all) →
  ∃ (ls : List Int) (H' : HD), Zco [(r, .lst all)] [some (.ref n)] Zel Zkp (ks.map .int) H = some (ls.map .int, H') ∧ (∀ l ∈ ls, l ≠ 0 ∧ -10 ≤ l ∧ l ≤ 10) ∧ ls.length = ks.length ∧ Ext n H H' ∧ H'[r]? = some (.lst all) ∧ ls.map Zbg = ks
 | [], H, _, hf, hr => by
  refine ⟨[], H, ?_, by simp, rfl, Ext.refl hf, hr, rfl⟩
  rw [List.map_nil, Zco, if_pos (by intro x hx; simp at hx; subst hx; exact hr)]
 | k :: ks, H, hk, hf, hr => by
  have x0 : Ext n H (H ++ [.lst [.int k, .int (-k)]]) := Ext.app hf _
  obtain ⟨j, H1, j0, j1, e1, x1, l1⟩ := Zc9 (n := n) (k := 2) x0.feed (by omega) (by omega)
  have hl : H.length ≠ n := by
   obtain ⟨a, b, e⟩ := hf
   exact Nat.ne_of_gt (List.getElem?_eq_some_iff.mp e).1
  have new : H1[H.length]? = some (.lst [.int k, .int (-k)]) := x1.old _ _ hl (by simp)
  have hr1 := x1.old r _ hrn (x0.old r _ hrn hr)
  obtain ⟨ls, H2, e2, b2, l2, x2, hr2, ab2⟩ := Zkd hrn ks H1 (fun i hi => hk i (by simp [hi])) x1.feed hr1
  have hk0 := hk k (by simp)
  have z2 : (2 : Nat) ≤ sizeLine := Zdp (by omega)
  have hj : j = 0 ∨ j = 1 := by omega
  refine ⟨(if j = 0 then k else -k) :: ls, H2, ?_, ?_, by simp [l2], (x0.trans x1).trans x2, hr2, by rw [List.map_cons, ab2]; congr 1; unfold Zbg; split <;> split <;> omega⟩
  ·rw [List.map_cons, Zco, if_pos (by intro x hx; simp at hx; subst hx; exact hr)]
   have ee : Zkp [some (.int k), some (.ref n)] H = some (.int (if j = 0 then k else -k), H1) := by
    rcases hj with rfl | rfl
    ·simp [Zkp, eOp, Zb6, Zaa, Zai, Zad, eUn, Zh2, mkL, z2, Zaj, eC, e1, ixD, Zey, new, atI, ixN]
    ·simp [Zkp, eOp, Zb6, Zaa, Zai, Zad, eUn, Zh2, mkL, z2, Zaj, eC, e1, ixD, Zey, new, atI, ixN]
   simp only [Zel, Zb, if_true, ee, e2, Option.map_some, List.map_cons]
  ·intro l hl
   rcases List.mem_cons.mp hl with rfl | hl
   ·split <;> omega
   ·exact b2 l hl
theorem Zqk (ns : List Int) : Zez (ns.map .int) = some ns := by
 induction ns with
 | nil => rfl
 | cons n r ih => simp [Zez, ih]
theorem Zaq {f g : SF} {σ σ1 : SD} {H H1 : HD} (h : f σ H = some (.nx, σ1, H1)) : Zal f g σ H = g σ1 H1 := by
 unfold Zal
 rw [h]
 rfl
theorem Zdx {f g : SF} {σ σ1 : SD} {H H1 : HD} {d : D} (h : f σ H = some (.rt d, σ1, H1)) : Zal f g σ H = some (.rt d, σ1, H1) := by
 unfold Zal
 rw [h]
 rfl
theorem Zdd {i : Nat} {f : EF} {σ : SD} {H H1 : HD} {d : D} (h : f σ H = some (d, H1)) : Za0 i f σ H = some (.nx, σ.set i (some d), H1) := by
 unfold Za0
 rw [h]
 rfl
theorem Zlm (lo : Int) (k : Nat) : Za2 lo k = ((List.range k).map fun j : Nat => lo + (j : Int)).map D.int := by
 unfold Za2
 rw [List.map_map]
 rfl
theorem Zlx (k : Nat) : ((List.range k).map fun j : Nat => (1 : Int) + (j : Int)).Nodup := by
 unfold List.Nodup
 rw [List.pairwise_map]
 refine (List.nodup_range (n := k)).imp ?_
 intro a b h
 omega
theorem Zpo {n : Nat} {m : Int} {H : HD} (hf : ∃ a b, H[n]? = some (.lst [.int a, .int b])) (h0 : 0 ≤ m) (h1 : m ≤ 9) :
  ∃ (ls : List Int) (H' : HD), m_law_row [.ref n, .int m] H = some (.tup (ls.map .int), H') ∧ (∀ l ∈ ls, l ≠ 0 ∧ -10 ≤ l ∧ l ≤ 10) ∧ ls.length ≤ 9 ∧ Ext n H H' ∧ Up m 0 ls := by
 have hn : n < H.length := by obtain ⟨a, b, e⟩ := hf; exact (List.getElem?_eq_some_iff.mp e).1
 have sz : sizeLine = 16777216 := PySem.sizeLine_eq
 -- the sizes
 obtain ⟨r4, H1, a0, a1, e1, x1, l1⟩ := Zc9 (n := n) (k := 4) hf (by omega) (by omega)
 obtain ⟨r6, H2, b0, b1, e2, x2, l2⟩ := Zc9 (n := n) (k := 6) x1.feed (by omega) (by omega)
 let sizes : List Int := [1, 2, 2, 3, 3, 4, 2, 3, 1, 5 + r4, 2, 2 * (if 0 < r6 then 1 else 0)]
 have x3 : Ext n H2 (H2 ++ [.lst (sizes.map .int)]) := Ext.app x2.feed _
 have c2 : ∀ z, Zon 2 z := fun _ => .inl ⟨by decide, by decide⟩
 have s1 : Za0 2 (Zb6 (Zaa (eC (.int 1)) (Zaa (eC (.int 2)) (Zaa (eC (.int 2)) (Zaa (eC (.int 3)) (Zaa (eC (.int 3)) (Zaa (eC (.int 4)) (Zaa (eC (.int 2)) (Zaa (eC (.int 3)) (Zaa (eC (.int 1)) (Zaa (eOp Zbd (eC (.int 5)) (Zaj 2 m_law_take (Zaa (Zad 0) (Zaa (eC (.int 4)) Zai)))) (Zaa (eC (.int 2)) (Zaa (eOp Zf2 (eC (.int 2)) (eCB Zrz (Zaa (eOp gtD (Zaj 2 m_law_take (Zaa (Zad 0) (Zaa (eC (.int 6)) Zai))) (eC (.int 0))) Zai))) Zai))))))))))))) [some (.ref n), some (.int m), none, none, none, none, none] H
   = some (.nx, [some (.ref n), some (.int m), some (.ref H2.length), none, none, none, none], H2 ++ [.lst (sizes.map .int)]) := by
  have z12 : (12 : Nat) ≤ sizeLine := by omega
  simp [Za0, Zb6, Zaa, Zai, eC, eOp, Zbd, Zaj, Zad, e1, Zf2, c2, eCB, Zrz, gtD, iiD, CT, e2, mkL, z12, sizes]
 -- one of them
 have hl2 : H2.length ≠ n := by omega
 obtain ⟨xv, H4, xm, e4, x4, l4⟩ := Zg5 (n := n) (s := .ref H2.length) (xs := sizes.map .int) x3.feed (.inr ⟨_, rfl, hl2, by simp⟩) (by simp [sizes]) (by simp [sizes])
 obtain ⟨x, xs', rfl⟩ : ∃ x : Int, (0 ≤ x ∧ x ≤ 8) ∧ xv = .int x := by
  rw [List.mem_map] at xm
  obtain ⟨y, hy, rfl⟩ := xm
  refine ⟨y, ?_, rfl⟩
  simp only [sizes, List.mem_cons, List.not_mem_nil, or_false] at hy
  rcases hy with h | h | h | h | h | h | h | h | h | h | h | h <;> first | omega | (split at h <;> omega)
 let size : Int := if x < m then x else m
 have hsz : 0 ≤ size ∧ size ≤ m := by show 0 ≤ (if x < m then x else m) ∧ (if x < m then x else m) ≤ m; split <;> omega
 have s2 : Za0 3 (eCB Zok (Zaa (Zad 1) (Zaa (Zaj 2 Zas (Zaa (Zad 0) (Zaa (Zad 2) Zai))) Zai))) [some (.ref n), some (.int m), some (.ref H2.length), none, none, none, none] (H2 ++ [.lst (sizes.map .int)])
   = some (.nx, [some (.ref n), some (.int m), some (.ref H2.length), some (.int size), none, none, none], H4) := by
  simp [Za0, eCB, Zok, Zaa, Zai, Zad, Zaj, e4, size]
 -- the names, none found
 let ps : List Int := (List.range m.toNat).map fun j : Nat => 1 + (j : Int)
 have s3 : Za0 4 (Zz6 (Zaa (eC (.int 1)) (Zaa (eOp Zbd (Zad 1) (eC (.int 1))) Zai))) [some (.ref n), some (.int m), some (.ref H2.length), some (.int size), none, none, none] H4
   = some (.nx, [some (.ref n), some (.int m), some (.ref H2.length), some (.int size), some (.ref H4.length), none, none], H4 ++ [.lst (ps.map .int)]) := by
  have k1 : Zcf 1 := ⟨by decide, by decide⟩
  have k2 : Zcf (m + 1) := ⟨by omega, by omega⟩
  have k3 : (m + 1 - 1).toNat ≤ 1000000 := by omega
  have k4 : m + 1 - 1 = m := by omega
  have k5 : m.toNat ≤ 1000000 := by omega
  simp [Za0, Zz6, Zaa, Zai, eC, eOp, Zbd, Zad, k1, k2, k4, k5]
  exact ⟨by omega, Zlm 1 m.toNat⟩
 have z0 : (0 : Nat) ≤ sizeLine := Nat.zero_le _
 have s4 : Za0 5 (Zb6 Zai) [some (.ref n), some (.int m), some (.ref H2.length), some (.int size), some (.ref H4.length), none, none] (H4 ++ [.lst (ps.map .int)])
   = some (.nx, [some (.ref n), some (.int m), some (.ref H2.length), some (.int size), some (.ref H4.length), some (.ref (H4.length + 1)), none], H4 ++ [.lst (ps.map .int)] ++ [.lst []]) := by
  simp [Za0, Zb6, Zai, mkL]
 have x5 : Ext n H4 (H4 ++ [.lst (ps.map .int)]) := Ext.app x4.feed _
 have x6 : Ext n (H4 ++ [.lst (ps.map .int)]) (H4 ++ [.lst (ps.map .int)] ++ [.lst []]) := Ext.app x5.feed _
 have hn4 : n < H4.length := by obtain ⟨a, b, e⟩ := x4.feed; exact (List.getElem?_eq_some_iff.mp e).1
 obtain ⟨qs, z', H7, e7, f7, q7, b7, l7, x7, nd7⟩ := Zmc (M := m) (n := n) (p := H4.length) (q := H4.length + 1) (a1 := some (.int m)) (a2 := some (.ref H2.length)) (a3 := some (.int size)) (by omega) (by omega) (by omega) (Za2 0 size.toNat) ps [] (H4 ++ [.lst (ps.map .int)] ++ [.lst []]) none
  (by simp [Za2, ps]; omega) (by simp [ps]; omega) (by simp [Za2]; omega) (fun i hi => by simp only [ps, List.mem_map, List.mem_range] at hi; obtain ⟨j, hj, rfl⟩ := hi; omega) (by simp) (by
   rw [List.nil_append]
   exact Zlx m.toNat) x6.feed (by simp) (by simp)
 have s5 : Zea (iR1 (Zaa (Zad 3) Zai)) (gNm 6) Zm5 [some (.ref n), some (.int m), some (.ref H2.length), some (.int size), some (.ref H4.length), some (.ref (H4.length + 1)), none] (H4 ++ [.lst (ps.map .int)] ++ [.lst []])
   = some (.nx, [some (.ref n), some (.int m), some (.ref H2.length), some (.int size), some (.ref H4.length), some (.ref (H4.length + 1)), z'], H7) := by
  have k1 : Zcf size := ⟨by omega, by omega⟩
  simp only [Zea, iR1, Zaa, Zai, Zad, List.getElem?_cons_succ, List.getElem?_cons_zero, Option.join_some, Option.map_some, Zb, k1, if_true]
  exact e7
 -- the signs
 have hn7 : n < H7.length := by obtain ⟨a, b, e⟩ := f7; exact (List.getElem?_eq_some_iff.mp e).1
 have x8 : Ext n H7 (H7 ++ [.lst ((Ze4 qs).map .int)]) := Ext.app f7 _
 obtain ⟨ls, H9, e9, b9, l9, x9, r9, ab9⟩ := Zkd (n := n) (r := H7.length) (all := (Ze4 qs).map .int) (by omega) (Ze4 qs) (H7 ++ [.lst ((Ze4 qs).map .int)]) (fun i hi => by have := b7 i (Zk6 hi); omega) x8.feed (by simp)
 have lqs : qs.length ≤ 9 := by simp [Za2] at l7; omega
 have lls : ls.length ≤ 9 := by rw [l9, (Zeg qs).length_eq]; exact lqs
 have x10 : Ext n H9 (H9 ++ [.lst (ls.map .int)]) := Ext.app x9.feed _
 refine ⟨ls, H9 ++ [.lst (ls.map .int)], ?_, b9, lls, ?_, Zxe ls 0 (by rw [ab9]; exact Ztn nd7) (fun x hx => by rw [ab9] at hx; have := b7 x (Zk6 hx); omega)⟩
 ·have s6 : Zcc (eCB Zby (Zaa (eLC (iSq (eCB Zf9 (Zaa (Zad 5) Zai))) [0] Zel Zkp) Zai)) [some (.ref n), some (.int m), some (.ref H2.length), some (.int size), some (.ref H4.length), some (.ref (H4.length + 1)), z'] H7
    = some (.rt (.tup (ls.map .int)), [some (.ref n), some (.int m), some (.ref H2.length), some (.int size), some (.ref H4.length), some (.ref (H4.length + 1)), z'], H9 ++ [.lst (ls.map .int)]) := by
   have z9 : ls.length ≤ sizeLine := by omega
   have q64 : qs.length < 64 := by omega
   simp [Zcc, eCB, Zby, Zaa, Zai, eLC, iSq, Zf9, Zad, Zey, q7, Zqk, q64, Zws, Zfa, Zlb, e9, mkL, z9]
  unfold m_law_row Zb7
  rw [if_pos (show ([D.ref n, D.int m] : List D).length = 2 from rfl)]
  show (Zdq [some (.ref n), some (.int m), none, none, none, none, none] H).bind _ = _
  unfold Zdq
  rw [Zaq s1, Zaq s2, Zaq s3, Zaq s4, Zaq s5, Zdx s6]
  rfl
 ·have y1 : Ext n H (H4 ++ [.lst (ps.map .int)] ++ [.lst []]) := ((((x1.trans x2).trans x3).trans x4).trans x5).trans x6
  refine ⟨x10.feed, fun k o hk q => ?_, ?_⟩
  ·have w1 := y1.old k o hk q
   have kl : k < H.length := (List.getElem?_eq_some_iff.mp q).1
   have : H.length ≤ H4.length := ((((x1.trans x2).trans x3).trans x4)).len
   have w2 := x7.old k o (by simp; omega) w1
   exact (x8.trans x9 |>.trans x10).old k o hk w2
  ·exact Nat.le_trans y1.len (Nat.le_trans x7.len (x8.trans x9 |>.trans x10).len)
noncomputable def Zce : SF :=
 (Zal (Za0 3 (Zaj 2 Zas (Zaa (Zad 0) (Zaa (Zb6 (Zaa (Zad 1) (Zaa (eOp Ze0 (Zad 1) (eC (.int 1))) (Zaa (Zad 1) (Zaa (eOp Ze0 (Zad 1) (eC (.int 2))) (Zaa (Zad 1) (Zaa (Zaj 2 m_law_take (Zaa (Zad 0) (Zaa (eOp Zbd (Zad 1) (eC (.int 1))) Zai))) Zai))))))) Zai))))
 (Zal (Za0 4 (Zaj 2 m_law_take (Zaa (Zad 0) (Zaa (eC (.int 4)) Zai))))
 (Zal (Za0 5 (eLC (iR1 (Zaa (Zad 3) Zai)) [0] Zel (Zaj 2 Zas (Zaa (Zad 1) (Zaa (Zb6 (Zaa (eC (.str "all")) (Zaa (eC (.str "some")) Zai))) Zai)))))
 (Zal (sIf (tOf (eOp eqD (Zad 4) (eC (.int 0)))) (Zal (Za0 5 (eLC (iR1 (Zaa (Zad 3) Zai)) [] Zel (eOp ixD (Zb6 (Zaa (eC (.str "some")) (Zaa (eC (.str "all")) Zai))) (eOp Zf0 (Zad 0) (eC (.int 2))))))
 Zav) Zav)
 (Zal (Za0 6 (Zaj 2 Zas (Zaa (Zad 0) (Zaa (Zb6 (Zaa (Zad 3) (Zaa (eOp Zbd (Zad 3) (eOp Zfy (Zad 3) (eC (.int 2)))) (Zaa (eOp Zf2 (eC (.int 2)) (Zad 3)) (Zaa (eOp Zbd (eOp Zfy (Zad 3) (eC (.int 2))) (eC (.int 1))) (Zaa (Zaj 2 m_law_take (Zaa (Zad 0) (Zaa (eOp Zbd (Zad 2) (eC (.int 1))) Zai))) (Zaa (eC (.int 2)) Zai))))))) Zai))))
 (Zal (Za0 7 (eLC (iR1 (Zaa (eCB Zok (Zaa (Zad 2) (Zaa (Zad 6) Zai))) Zai)) [0, 3] Zel (Zaj 2 m_law_row (Zaa (Zad 1) (Zaa (Zad 2) Zai)))))
 (Zal (sIf (tAn (tOf (eOp neD (Zad 7) (Zb6 Zai))) (tOf (eOp eqD (Zaj 2 m_law_take (Zaa (Zad 0) (Zaa (eC (.int 6)) Zai))) (eC (.int 0))))) (Zal (Zc8 (eLM Zb3 (Zad 7) (Zaa (Zaj 2 Zas (Zaa (Zad 0) (Zaa (Zad 7) Zai))) Zai)))
 Zav) Zav)
 (Zal (Zcc (Zd3 (Zaa (eCB Zby (Zaa (Zad 5) Zai)) (Zaa (eCB Zby (Zaa (eSl (Zad 7) Zex (Zd9 (Zad 2))) Zai)) Zai))))
 Zav))))))))
noncomputable def Zcw : FF := Zb7 3 8 Zce
noncomputable def Zd1 (d : D) : Prop := d = .str "all" ∨ d = .str "some"
noncomputable def Zss (d : D) : Prop := ∃ ls : List Int, d = .tup (ls.map .int) ∧ (∀ l ∈ ls, l ≠ 0 ∧ -10 ≤ l ∧ l ≤ 10) ∧ ls.length ≤ 9
theorem Zqp {own : Zge} {c0 : SD} {te : EF} {x d : D} {r : List D} {H H1 : HD} (ok : Zcp own H) (h : te (some x :: c0) H = some (d, H1)) :
  Zco own c0 Zel te (x :: r) H = (Zco own c0 Zel te r H1).map fun q => (d :: q.1, q.2) := by
 rw [Zco, if_pos ok]
 simp [Zel, h]
theorem Zt6 {own : Zge} {c0 : SD} {te : EF} {H : HD} (ok : Zcp own H) : Zco own c0 Zel te [] H = some ([], H) := by rw [Zco, if_pos ok]
theorem Zdc {H : HD} : Zcp [] H := by intro x hx; simp at hx
theorem Zlk (H : HD) (n : Nat) (i : Int) : toP H n (.int i) = some (.int i) := by cases n <;> rw [toP]
theorem Zrs (H : HD) (n : Nat) (b : Bool) : toP H n (.bl b) = some (.bool b) := by cases n <;> rw [toP]
theorem Zor (H : HD) (i : Int) : dat (.int i) H = some (.int i) := by
 simp [dat, Zlk, okP, PyData.canLay0, PyData.depth]
theorem Zt1 (H : HD) (b : Bool) : dat (.bl b) H = some (.bool b) := by
 simp [dat, Zrs, okP, PyData.canLay0, PyData.depth]
theorem Zgg (i j : Int) (H : HD) : eqD (.int i) (.int j) H = some (.bl (i == j), H) := by
 simp [eqD, Zmh, Zor, PyData.eqv]
theorem Zyk (i j : Int) (H : HD) : neD (.int i) (.int j) H = some (.bl (!(i == j)), H) := by
 simp [neD, Zmh, Zor, PyData.eqv]
theorem eq_bl (i j : Bool) (H : HD) : eqD (.bl i) (.bl j) H = some (.bl (i == j), H) := by
 simp [eqD, Zmh, Zt1, PyData.eqv]
theorem Zj1 (H : HD) (n : Nat) : ∀ ls : List Int, Zh7 H n (ls.map .int) = some (ls.map .int)
 | [] => by rw [List.map_nil, Zh7]; rfl
 | l :: ls => by rw [List.map_cons, Zh7, Zlk, Zj1 H n ls]; rfl
theorem Zms : ∀ ls : List Int, PyData.canLayAll0 (ls.map .int) = true ∧ PyData.depthAll (ls.map .int) = 0
 | [] => ⟨rfl, rfl⟩
 | l :: ls => by
  obtain ⟨h1, h2⟩ := Zms ls
  exact ⟨by rw [List.map_cons, PyData.canLayAll0, h1]; rfl, by rw [List.map_cons, PyData.depthAll, h2]; rfl⟩
theorem Zkt (H : HD) (n : Nat) : ∀ xs : List D, (∀ d ∈ xs, Zss d) -> ∃ ps, Zh7 H n xs = some ps ∧ ps.length = xs.length ∧ PyData.canLayAll0 ps = true ∧ PyData.depthAll ps ≤ 1
 | [], _ => ⟨[], by rw [Zh7], rfl, rfl, by decide⟩
 | x :: xs, h => by
  obtain ⟨ps, e, l, c, d⟩ := Zkt H n xs fun d hd => h d (by simp [hd])
  obtain ⟨ls, rfl, _, _⟩ := h x (by simp)
  obtain ⟨c1, d1⟩ := Zms ls
  refine ⟨.tuple (ls.map .int) :: ps, ?_, by simp [l], ?_, ?_⟩
  ·rw [Zh7, e]
   have : toP H n (.tup (ls.map .int)) = some (.tuple (ls.map .int)) := by cases n <;> (rw [toP, Zj1]; rfl)
   rw [this]; rfl
  ·rw [PyData.canLayAll0, PyData.canLay0, c1, c]; rfl
  ·rw [PyData.depthAll, PyData.depth, d1]; omega
theorem Zsv {H : HD} {k : Nat} {xs : List D} (e : H[k]? = some (.lst xs)) (h : ∀ d ∈ xs, Zss d) : ∃ ps, dat (.ref k) H = some (.list ps) ∧ ps.length = xs.length := by
 obtain ⟨ps, e1, l, c, d⟩ := Zkt H 29 xs h
 refine ⟨ps, ?_, l⟩
 have : toP H 30 (.ref k) = some (.list ps) := by rw [toP, e]; simp only [e1]; rfl
 have d2 : PyData.depthAll ps + 1 ≤ 30 := by omega
 simp [dat, this, okP, PyData.canLay0, PyData.depth, c, d2]
theorem Zxx {H : HD} {k j : Nat} {xs : List D} (e : H[k]? = some (.lst xs)) (e2 : H[j]? = some (.lst [])) (h : ∀ d ∈ xs, Zss d) : neD (.ref k) (.ref j) H = some (.bl (!xs.isEmpty), H) := by
 obtain ⟨ps, e1, l⟩ := Zsv e h
 have e3 : dat (.ref j) H = some (.list []) := by
  have : toP H 30 (.ref j) = some (.list []) := by rw [toP, e2]; simp [Zh7]
  simp [dat, this, okP, PyData.canLay0, PyData.canLayAll0, PyData.depth, PyData.depthAll]
 have e4 : PyData.eqv (.list ps) (.list []) = xs.isEmpty := by
  cases ps with
  | nil => cases xs with
   | nil => rfl
   | cons _ _ => simp at l
  | cons p ps => cases xs with
   | nil => simp at l
   | cons _ _ => simp [PyData.eqv, PyData.eqvAll]
 simp [neD, Zmh, e1, e3, e4]
theorem Zfm {n : Nat} {c0 : SD} {te : EF} {Ok Good : D -> Prop} (step : ∀ (x : D) (H : HD), Ok x -> (∃ a b, H[n]? = some (.lst [.int a, .int b])) -> ∃ d H', te (some x :: c0) H = some (d, H') ∧ Good d ∧ Ext n H H') :
  ∀ (xs : List D) (H : HD), (∀ x ∈ xs, Ok x) -> (∃ a b, H[n]? = some (.lst [.int a, .int b])) -> ∃ ds H', Zco [] c0 Zel te xs H = some (ds, H') ∧ (∀ d ∈ ds, Good d) ∧ ds.length = xs.length ∧ Ext n H H'
 | [], H, _, hf => ⟨[], H, Zt6 Zdc, by simp, rfl, Ext.refl hf⟩
 | x :: xs, H, ho, hf => by
  obtain ⟨d, H1, e1, g1, x1⟩ := step x H (ho x (by simp)) hf
  obtain ⟨ds, H2, e2, g2, l2, x2⟩ := Zfm step xs H1 (fun z hz => ho z (by simp [hz])) x1.feed
  refine ⟨d :: ds, H2, ?_, ?_, by simp [l2], x1.trans x2⟩
  ·rw [Zqp Zdc e1, e2]; rfl
  ·intro z hz
   rcases List.mem_cons.mp hz with rfl | hz
   ·exact g1
   ·exact g2 z hz
noncomputable def IsI (d : D) : Prop := ∃ i : Int, d = .int i
theorem Zi1 (lo : Int) (k : Nat) : ∀ x ∈ Za2 lo k, IsI x := by
 intro x hx
 simp only [Za2, List.mem_map] at hx
 obtain ⟨j, _, rfl⟩ := hx
 exact ⟨_, rfl⟩
theorem Zej (lo : Int) (k : Nat) : (Za2 lo k).length = k := by simp [Za2]
theorem Zqr {f : EF} {σ : SD} {H H1 : HD} {j : Int} (h : f σ H = some (.int j, H1)) (s : Zcf j) : iR1 (Zaa f Zai) σ H = some ((Za2 0 j.toNat, []), H1) := by
 simp [iR1, Zaa, Zai, h, s]
theorem flt {n : Nat} {H : HD} (hf : ∃ a b, H[n]? = some (.lst [.int a, .int b])) : n < H.length := by obtain ⟨a, b, e⟩ := hf; exact (List.getElem?_eq_some_iff.mp e).1
theorem Zpm {n : Nat} {c0 : SD} {i : Nat} {fk : EF} {k r : Int} {H H' : HD} (h1 : c0[i]? = some (some (.ref n))) (h2 : fk c0 H = some (.int k, H)) (e : m_law_take [.ref n, .int k] H = some (.int r, H')) :
  Zaj 2 m_law_take (Zaa (Zad i) (Zaa fk Zai)) c0 H = some (.int r, H') := by
 simp [Zaj, Zaa, Zai, Zad, h1, h2, e]
noncomputable def Zhr (m : Int) (d : D) : Prop := ∃ ls : List Int, d = .tup (ls.map .int) ∧ (∀ l ∈ ls, l ≠ 0 ∧ -10 ≤ l ∧ l ≤ 10) ∧ ls.length ≤ 9 ∧ Up m 0 ls
theorem Zhr.row {m : Int} {d : D} (h : Zhr m d) : Zss d := by
 obtain ⟨ls, a, b, c, _⟩ := h
 exact ⟨ls, a, b, c⟩
theorem Zpz {n : Nat} {H : HD} {most rows : Int} (hf : ∃ a b, H[n]? = some (.lst [.int a, .int b])) (hm : 2 ≤ most ∧ most ≤ 8) (hrw : 0 ≤ rows ∧ rows ≤ 40) :
  ∃ (ks rs : List D) (H' : HD), Zcw [.ref n, .int most, .int rows] H = some (.tup [.tup ks, .tup rs], H') ∧ (∀ d ∈ ks, Zd1 d) ∧ (ks.length : Int) ≤ most ∧ (∀ d ∈ rs, Zhr ks.length d) ∧ (rs.length : Int) ≤ rows ∧ Ext n H H' := by
 have sz : sizeLine = 16777216 := PySem.sizeLine_eq
 have hn := flt hf
 -- many
 obtain ⟨t1, H1, a0, a1, e1, x1, l1⟩ := Zc9 (n := n) (k := most + 1) hf (by omega) (by omega)
 let L1 : List Int := [most, most - 1, most, most - 2, most, t1]
 have x2 : Ext n H1 (H1 ++ [.lst (L1.map .int)]) := Ext.app x1.feed _
 obtain ⟨mv, H2, m1, e2, x3, l2⟩ := Zg5 (n := n) (s := .ref H1.length) (xs := L1.map .int) x2.feed (.inr ⟨_, rfl, by omega, by simp⟩) (by simp [L1]) (by simp [L1])
 obtain ⟨many, hmany, rfl⟩ : ∃ x : Int, (0 ≤ x ∧ x ≤ most) ∧ mv = .int x := by
  rw [List.mem_map] at m1
  obtain ⟨y, hy, rfl⟩ := m1
  refine ⟨y, ?_, rfl⟩
  simp only [L1, List.mem_cons, List.not_mem_nil, or_false] at hy
  rcases hy with h | h | h | h | h | h <;> omega
 have X2 : Ext n H H2 := (x1.trans x2).trans x3
 have s1 : ∀ z3 z4 z5 z6 z7, Za0 3 (Zaj 2 Zas (Zaa (Zad 0) (Zaa (Zb6 (Zaa (Zad 1) (Zaa (eOp Ze0 (Zad 1) (eC (.int 1))) (Zaa (Zad 1) (Zaa (eOp Ze0 (Zad 1) (eC (.int 2))) (Zaa (Zad 1) (Zaa (Zaj 2 m_law_take (Zaa (Zad 0) (Zaa (eOp Zbd (Zad 1) (eC (.int 1))) Zai))) Zai))))))) Zai))) [some (.ref n), some (.int most), some (.int rows), z3, z4, z5, z6, z7] H
   = some (.nx, [some (.ref n), some (.int most), some (.int rows), some (.int many), z4, z5, z6, z7], H2) := by
  intro z3 z4 z5 z6 z7
  have z : (6 : Nat) ≤ sizeLine := by omega
  simp [Za0, Zaj, Zaa, Zai, Zad, Zb6, eOp, Ze0, iiD, CT, eC, Zbd, e1, mkL, z]
  simp [L1] at e2
  simp [e2]
 -- way
 obtain ⟨way, H3, w0, w1, e3, x4, l3⟩ := Zc9 (n := n) (k := 4) X2.feed (by omega) (by omega)
 have X3 := X2.trans x4
 have s2 : ∀ z4 z5 z6 z7, Za0 4 (Zaj 2 m_law_take (Zaa (Zad 0) (Zaa (eC (.int 4)) Zai))) [some (.ref n), some (.int most), some (.int rows), some (.int many), z4, z5, z6, z7] H2
   = some (.nx, [some (.ref n), some (.int most), some (.int rows), some (.int many), some (.int way), z5, z6, z7], H3) := by
  intro z4 z5 z6 z7
  simp [Za0, Zaj, Zaa, Zai, Zad, eC, e3]
 have sm : Zcf many := ⟨by omega, by omega⟩
 -- kinds
 obtain ⟨ks, H4, e4, g4, l4, x5⟩ := Zfm (n := n) (c0 := [some (.ref n)]) (te := Zaj 2 Zas (Zaa (Zad 1) (Zaa (Zb6 (Zaa (eC (.str "all")) (Zaa (eC (.str "some")) Zai))) Zai))) (Ok := IsI) (Good := Zd1) (fun x H _ hf => by
   have y1 : Ext n H (H ++ [.lst [.str "all", .str "some"]]) := Ext.app hf _
   obtain ⟨d, H', dm, e, y2, _⟩ := Zg5 (n := n) (s := .ref H.length) (xs := [.str "all", .str "some"]) y1.feed (.inr ⟨_, rfl, Nat.ne_of_gt (flt hf), by simp⟩) (by simp) (by simp)
   refine ⟨d, H', ?_, by simpa [Zd1] using dm, y1.trans y2⟩
   have z : (2 : Nat) ≤ sizeLine := by omega
   simp [Zaj, Zaa, Zai, Zad, Zb6, eC, mkL, z, e]) (Za2 0 many.toNat) H3 (Zi1 _ _) X3.feed
 have X4 := X3.trans x5
 rw [Zej] at l4
 have lk : ks.length ≤ sizeLine := by omega
 have x6 : Ext n H4 (H4 ++ [.lst ks]) := Ext.app X4.feed _
 have X5 := X4.trans x6
 have s3 : ∀ z5 z6 z7, Za0 5 (eLC (iR1 (Zaa (Zad 3) Zai)) [0] Zel (Zaj 2 Zas (Zaa (Zad 1) (Zaa (Zb6 (Zaa (eC (.str "all")) (Zaa (eC (.str "some")) Zai))) Zai)))) [some (.ref n), some (.int most), some (.int rows), some (.int many), some (.int way), z5, z6, z7] H3
   = some (.nx, [some (.ref n), some (.int most), some (.int rows), some (.int many), some (.int way), some (.ref H4.length), z6, z7], H4 ++ [.lst ks]) := by
  intro z5 z6 z7
  refine Zdd (d := .ref H4.length) ?_
  unfold eLC
  rw [Zqr (j := many) (H1 := H3) (by simp [Zad]) sm]
  simp only [Zb, Zlb, List.map_cons, List.map_nil, List.getElem?_cons_zero, Option.join_some]
  rw [e4]
  simp [mkL, lk]
 -- kinds by turns
 obtain ⟨ks2, H6, k6, e6, g6, l6, X6, q6, ge6⟩ : ∃ (ks2 : List D) (H6 : HD) (k6 : Nat), (∀ z6 z7, sIf (tOf (eOp eqD (Zad 4) (eC (.int 0)))) (Zal (Za0 5 (eLC (iR1 (Zaa (Zad 3) Zai)) [] Zel (eOp ixD (Zb6 (Zaa (eC (.str "some")) (Zaa (eC (.str "all")) Zai))) (eOp Zf0 (Zad 0) (eC (.int 2)))))) Zav) Zav [some (.ref n), some (.int most), some (.int rows), some (.int many), some (.int way), some (.ref H4.length), z6, z7] (H4 ++ [.lst ks])
   = some (.nx, [some (.ref n), some (.int most), some (.int rows), some (.int many), some (.int way), some (.ref k6), z6, z7], H6)) ∧ (∀ d ∈ ks2, Zd1 d) ∧ ks2.length = many.toNat ∧ Ext n H H6 ∧ H6[k6]? = some (.lst ks2) ∧ H.length ≤ k6 := by
  by_cases hw : way = 0
  ·obtain ⟨ds, H5, e5, g5, l5, y5⟩ := Zfm (n := n) (c0 := []) (te := eOp ixD (Zb6 (Zaa (eC (.str "some")) (Zaa (eC (.str "all")) Zai))) (eOp Zf0 (Zad 0) (eC (.int 2)))) (Ok := IsI) (Good := Zd1) (fun x H hx hf => by
     obtain ⟨i, rfl⟩ := hx
     have z : (2 : Nat) ≤ sizeLine := by omega
     have c : Zoi i 2 := by show (0 : Int) < 2; decide
     have hi : i % 2 = 0 ∨ i % 2 = 1 := by omega
     rcases hi with hi | hi
     ·exact ⟨.str "some", H ++ [.lst [.str "some", .str "all"]], by simp [eOp, Zb6, Zaa, Zai, eC, mkL, z, Zad, Zf0, iiD, c, ixD, Zey, hi, atI, ixN], .inr rfl, Ext.app hf _⟩
     ·exact ⟨.str "all", H ++ [.lst [.str "some", .str "all"]], by simp [eOp, Zb6, Zaa, Zai, eC, mkL, z, Zad, Zf0, iiD, c, ixD, Zey, hi, atI, ixN], .inl rfl, Ext.app hf _⟩) (Za2 0 many.toNat) (H4 ++ [.lst ks]) (Zi1 _ _) X5.feed
   rw [Zej] at l5
   have ld : ds.length ≤ sizeLine := by omega
   have y6 : Ext n H5 (H5 ++ [.lst ds]) := Ext.app y5.feed _
   refine ⟨ds, H5 ++ [.lst ds], H5.length, fun z6 z7 => ?_, g5, l5, (X5.trans y5).trans y6, by simp, Nat.le_trans X5.len y5.len⟩
   have t : tOf (eOp eqD (Zad 4) (eC (.int 0))) [some (.ref n), some (.int most), some (.int rows), some (.int many), some (.int way), some (.ref H4.length), z6, z7] (H4 ++ [.lst ks]) = some (true, H4 ++ [.lst ks]) := by
    simp [tOf, eOp, Zad, eC, Zgg, blD, hw]
   unfold sIf
   rw [t]
   simp only [Zb, if_true]
   rw [Zaq (Zdd (d := .ref H5.length) (H1 := H5 ++ [.lst ds]) ?_)]
   ·rfl
   ·unfold eLC
    rw [Zqr (j := many) (H1 := H4 ++ [.lst ks]) (by simp [Zad]) sm]
    simp only [Zb, Zlb, List.map_nil]
    rw [e5]
    simp [mkL, ld]
  ·refine ⟨ks, H4 ++ [.lst ks], H4.length, fun z6 z7 => ?_, g4, l4, X5, by simp, X4.len⟩
   have t : tOf (eOp eqD (Zad 4) (eC (.int 0))) [some (.ref n), some (.int most), some (.int rows), some (.int many), some (.int way), some (.ref H4.length), z6, z7] (H4 ++ [.lst ks]) = some (false, H4 ++ [.lst ks]) := by
    simp [tOf, eOp, Zad, eC, Zgg, blD, hw]
   unfold sIf
   rw [t]
   rfl
 have lt6 : k6 < H6.length := (List.getElem?_eq_some_iff.mp q6).1
 have k6n : k6 ≠ n := by omega
 -- how many rows
 obtain ⟨t5, H7, f0, f1, e7, x7, l7⟩ := Zc9 (n := n) (k := rows + 1) X6.feed (by omega) (by omega)
 let L2 : List Int := [many, many + many / 2, 2 * many, many / 2 + 1, t5, 2]
 have x8 : Ext n H7 (H7 ++ [.lst (L2.map .int)]) := Ext.app x7.feed _
 obtain ⟨sv, H8, m8, e8, x9, l8⟩ := Zg5 (n := n) (s := .ref H7.length) (xs := L2.map .int) x8.feed (.inr ⟨_, rfl, by omega, by simp⟩) (by simp [L2]) (by simp [L2])
 obtain ⟨size, hsize, rfl⟩ : ∃ x : Int, (0 ≤ x) ∧ sv = .int x := by
  rw [List.mem_map] at m8
  obtain ⟨y, hy, rfl⟩ := m8
  refine ⟨y, ?_, rfl⟩
  simp only [L2, List.mem_cons, List.not_mem_nil, or_false] at hy
  rcases hy with h | h | h | h | h | h <;> omega
 have y68 : Ext n H6 H8 := (x7.trans x8).trans x9
 have X8 : Ext n H H8 := X6.trans y68
 have s5 : ∀ z6 z7, Za0 6 (Zaj 2 Zas (Zaa (Zad 0) (Zaa (Zb6 (Zaa (Zad 3) (Zaa (eOp Zbd (Zad 3) (eOp Zfy (Zad 3) (eC (.int 2)))) (Zaa (eOp Zf2 (eC (.int 2)) (Zad 3)) (Zaa (eOp Zbd (eOp Zfy (Zad 3) (eC (.int 2))) (eC (.int 1))) (Zaa (Zaj 2 m_law_take (Zaa (Zad 0) (Zaa (eOp Zbd (Zad 2) (eC (.int 1))) Zai))) (Zaa (eC (.int 2)) Zai))))))) Zai))) [some (.ref n), some (.int most), some (.int rows), some (.int many), some (.int way), some (.ref k6), z6, z7] H6
   = some (.nx, [some (.ref n), some (.int most), some (.int rows), some (.int many), some (.int way), some (.ref k6), some (.int size), z7], H8) := by
  intro z6 z7
  have z : (6 : Nat) ≤ sizeLine := by omega
  have c1 : Zwl many 2 := ⟨by decide, by decide⟩
  have c2 : ∀ z, Zon 2 z := fun _ => .inl ⟨by decide, by decide⟩
  simp [Za0, Zaj, Zaa, Zai, Zad, Zb6, eOp, Zfy, Zf2, c1, c2, iiD, CT, eC, Zbd, e7, mkL, z]
  simp [L2] at e8
  simp [e8]
 -- the rows
 let cnt : Int := if size < rows then size else rows
 have hc : 0 ≤ cnt ∧ cnt ≤ rows := by show 0 ≤ (if size < rows then size else rows) ∧ (if size < rows then size else rows) ≤ rows; split <;> omega
 have sc : Zcf cnt := ⟨by omega, by omega⟩
 obtain ⟨fs, H9, e9, g9, l9, y89⟩ := Zfm (n := n) (c0 := [some (.ref n), some (.int many)]) (te := Zaj 2 m_law_row (Zaa (Zad 1) (Zaa (Zad 2) Zai))) (Ok := IsI) (Good := Zhr many) (fun x H _ hf => by
   obtain ⟨ls, H', e, b, l, y, up⟩ := Zpo (n := n) (m := many) hf hmany.1 (by omega)
   exact ⟨.tup (ls.map .int), H', by simp [Zaj, Zaa, Zai, Zad, e], ⟨ls, rfl, b, l, up⟩, y⟩) (Za2 0 cnt.toNat) H8 (Zi1 _ _) X8.feed
 rw [Zej] at l9
 have X9 : Ext n H H9 := X8.trans y89
 have lf : fs.length ≤ sizeLine := by omega
 have y9 : Ext n H9 (H9 ++ [.lst fs]) := Ext.app X9.feed _
 have s6 : ∀ z7, Za0 7 (eLC (iR1 (Zaa (eCB Zok (Zaa (Zad 2) (Zaa (Zad 6) Zai))) Zai)) [0, 3] Zel (Zaj 2 m_law_row (Zaa (Zad 1) (Zaa (Zad 2) Zai)))) [some (.ref n), some (.int most), some (.int rows), some (.int many), some (.int way), some (.ref k6), some (.int size), z7] H8
   = some (.nx, [some (.ref n), some (.int most), some (.int rows), some (.int many), some (.int way), some (.ref k6), some (.int size), some (.ref H9.length)], H9 ++ [.lst fs]) := by
  intro z7
  refine Zdd (d := .ref H9.length) ?_
  unfold eLC
  rw [Zqr (j := cnt) (H1 := H8) (by simp [eCB, Zaa, Zai, Zad, Zok, cnt]) sc]
  simp only [Zb, Zlb, List.map_cons, List.map_nil, List.getElem?_cons_zero, List.getElem?_cons_succ, Option.join_some]
  rw [e9]
  simp [mkL, lf]
 have q9 : (H9 ++ [.lst fs])[H9.length]? = some (.lst fs) := by simp
 have k9 : H9[k6]? = some (.lst ks2) := (y68.trans y89).old k6 _ k6n q6
 have X10 : Ext n H (H9 ++ [.lst fs]) := X9.trans y9
 have le9 : H.length ≤ H9.length := X9.len
 have n9 : H9.length ≠ n := by omega
 have k69 : k6 ≠ H9.length := Nat.ne_of_lt (List.getElem?_eq_some_iff.mp k9).1
 have s7 : ∃ (fs2 : List D) (H12 : HD), sIf (tAn (tOf (eOp neD (Zad 7) (Zb6 Zai))) (tOf (eOp eqD (Zaj 2 m_law_take (Zaa (Zad 0) (Zaa (eC (.int 6)) Zai))) (eC (.int 0))))) (Zal (Zc8 (eLM Zb3 (Zad 7) (Zaa (Zaj 2 Zas (Zaa (Zad 0) (Zaa (Zad 7) Zai))) Zai))) Zav) Zav [some (.ref n), some (.int most), some (.int rows), some (.int many), some (.int way), some (.ref k6), some (.int size), some (.ref H9.length)] (H9 ++ [.lst fs])
   = some (.nx, [some (.ref n), some (.int most), some (.int rows), some (.int many), some (.int way), some (.ref k6), some (.int size), some (.ref H9.length)], H12) ∧ H12[H9.length]? = some (.lst fs2) ∧ (∀ d ∈ fs2, Zhr many d) ∧ Ext n H H12 ∧ H12[k6]? = some (.lst ks2) ∧ fs2.length ≤ 100 := by
  have z0 : (0 : Nat) ≤ sizeLine := Nat.zero_le _
  have y10 : Ext n (H9 ++ [.lst fs]) (H9 ++ [.lst fs] ++ [.lst []]) := Ext.app X10.feed _
  have q10 : (H9 ++ [DO.lst fs] ++ [.lst []])[H9.length]? = some (.lst fs) := y10.old _ _ n9 q9
  have q11 : (H9 ++ [DO.lst fs] ++ [.lst []])[H9.length + 1]? = some (.lst []) := by simp
  have kk := (y9.trans y10).old k6 _ k6n k9
  have nn := Zxx q10 q11 (fun d hd => (g9 d hd).row)
  have t1 : tOf (eOp neD (Zad 7) (Zb6 Zai)) [some (.ref n), some (.int most), some (.int rows), some (.int many), some (.int way), some (.ref k6), some (.int size), some (.ref H9.length)] (H9 ++ [.lst fs]) = some (!fs.isEmpty, H9 ++ [.lst fs] ++ [.lst []]) := by
   simp only [List.append_assoc, List.cons_append, List.nil_append] at nn ⊢
   simp [tOf, eOp, Zad, Zb6, Zai, mkL, nn, blD]
  by_cases hne : fs = []
  ·subst hne
   refine ⟨[], H9 ++ [.lst []] ++ [.lst []], ?_, q10, g9, X10.trans y10, kk, by simp⟩
   unfold sIf tAn
   rw [t1]
   rfl
  ·have ht : (!fs.isEmpty) = true := by cases fs <;> simp_all
   obtain ⟨r, H11, r0, r1, e11, y11, _⟩ := Zc9 (n := n) (k := 6) y10.feed (by omega) (by omega)
   have t2 : tOf (eOp eqD (Zaj 2 m_law_take (Zaa (Zad 0) (Zaa (eC (.int 6)) Zai))) (eC (.int 0))) [some (.ref n), some (.int most), some (.int rows), some (.int many), some (.int way), some (.ref k6), some (.int size), some (.ref H9.length)] (H9 ++ [.lst fs] ++ [.lst []]) = some (r == 0, H11) := by
    unfold tOf eOp
    rw [Zpm (n := n) (k := 6) (r := r) (H' := H11) (by simp) (by simp [eC]) e11]
    simp [eC, Zgg, blD]
   have Z := (y9.trans y10).trans y11
   have q12 := y11.old _ _ n9 q10
   have kk2 := y11.old _ _ k6n kk
   by_cases hr0 : r = 0
   ·have hpos : 0 < fs.length := List.length_pos_iff.mpr hne
    obtain ⟨d, H13, dm, e13, y13, _⟩ := Zg5 (n := n) (s := .ref H9.length) (xs := fs) y11.feed (.inr ⟨_, rfl, n9, q12⟩) hpos (by omega)
    have q13 := y13.old _ _ n9 q12
    have kk3 := y13.old _ _ k6n kk2
    have lt13 : H9.length < H13.length := (List.getElem?_eq_some_iff.mp q13).1
    have W : Ext n H H13 := (X9.trans Z).trans y13
    refine ⟨fs ++ [d], H13.set H9.length (.lst (fs ++ [d])), ?_, by simp [lt13], ?_, ?_, ?_, ?_⟩
    ·unfold sIf tAn
     rw [t1]
     simp only [Zb, ht, if_true, t2]
     have hs : fs.length < sizeLine := by omega
     simp [hr0, Zal, Zc8, eLM, Zad, Zhy, q12, Zaa, Zai, Zaj, e13, Zb3, q13, hs, Zav]
    ·intro z hz
     rcases List.mem_append.mp hz with hz | hz
     ·exact g9 z hz
     ·simp at hz; subst hz; exact g9 _ dm
    ·refine ⟨?_, fun m o hm q => ?_, by simpa using W.len⟩
     ·obtain ⟨a, b, f⟩ := W.feed
      exact ⟨a, b, by rw [List.getElem?_set_ne n9]; exact f⟩
     ·have : m < H.length := (List.getElem?_eq_some_iff.mp q).1
      rw [List.getElem?_set_ne (by omega)]; exact W.old m o hm q
    ·rw [List.getElem?_set_ne (Ne.symm k69)]; exact kk3
    ·simp; omega
   ·refine ⟨fs, H11, ?_, q12, g9, X9.trans Z, kk2, by omega⟩
    unfold sIf tAn
    rw [t1]
    simp only [Zb, ht, if_true, t2]
    simp [hr0, Zav]
 obtain ⟨fs2, H12, e12, q12, g12, X12, kk, lf2⟩ := s7
 refine ⟨ks2, Zgr fs2 none (some rows), H12 ++ [.lst (Zgr fs2 none (some rows))], ?_, g6, by omega, ?_, ?_, X12.trans (Ext.app X12.feed _)⟩
 ·have n12 : H12.length ≠ k6 := Nat.ne_of_gt (List.getElem?_eq_some_iff.mp kk).1
  have z2 : (2 : Nat) ≤ sizeLine := by omega
  have ret : Zcc (Zd3 (Zaa (eCB Zby (Zaa (Zad 5) Zai)) (Zaa (eCB Zby (Zaa (eSl (Zad 7) Zex (Zd9 (Zad 2))) Zai)) Zai))) [some (.ref n), some (.int most), some (.int rows), some (.int many), some (.int way), some (.ref k6), some (.int size), some (.ref H9.length)] H12
    = some (.rt (.tup [.tup ks2, .tup (Zgr fs2 none (some rows))]), [some (.ref n), some (.int most), some (.int rows), some (.int many), some (.int way), some (.ref k6), some (.int size), some (.ref H9.length)], H12 ++ [.lst (Zgr fs2 none (some rows))]) := by
   simp [Zcc, Zd3, Zaa, Zai, eCB, Zby, Zad, Zey, kk, eSl, Zex, Zd9, slD, q12, mkT, z2]
  show ((Zce [some (.ref n), some (.int most), some (.int rows), none, none, none, none, none] H).bind _) = _
  unfold Zce
  rw [Zaq (s1 _ _ _ _ _), Zaq (s2 _ _ _ _), Zaq (s3 _ _ _), Zaq (e6 _ _), Zaq (s5 _ _), Zaq (s6 _), Zaq e12, Zdx ret]
  rfl
 ·intro d hd
  have hm : (ks2.length : Int) = many := by omega
  rw [hm]
  exact g12 d (List.mem_of_mem_drop (List.mem_of_mem_take hd))
 ·unfold Zgr
  have : HT.sIx fs2.length 0 none = 0 := rfl
  have h2 : HT.sIx fs2.length fs2.length (some rows) = min rows.toNat fs2.length := by
   show (if rows < 0 then _ else _) = _
   rw [if_neg (by omega)]
  rw [this, h2]
  simp only [List.length_take, List.length_drop]
  omega
theorem Zl1 (H : HD) (n : Nat) (x : Str) : toP H n (.str x) = some (.str x) := by cases n <;> rw [toP]
theorem Znj {x : Str} (h : (x.cps.toList.all fun c => decide (c < 0x110000)) = true) : PyData.strOk x = true := by
 unfold PyData.strOk
 rw [← Array.all_toList]
 exact h
theorem Zt5 (xs : List D) (k : Nat) : Zgr xs (some (k : Int)) none = xs.drop k := by
 unfold Zgr
 have h1 : HT.sIx xs.length 0 (some (k : Int)) = min k xs.length := by
  show (if (k : Int) < 0 then ((k : Int) + (xs.length : Int)).toNat else min (k : Int).toNat xs.length) = min k xs.length
  rw [if_neg (by omega), Int.toNat_natCast]
 have h2 : HT.sIx xs.length xs.length none = xs.length := rfl
 rw [h1, h2]
 by_cases h : k ≤ xs.length
 ·rw [Nat.min_eq_left h]
  exact List.take_of_length_le (by simp)
 ·rw [Nat.min_eq_right (by omega), List.drop_of_length_le (Nat.le_refl _), List.drop_of_length_le (by omega)]
  simp
theorem Zql (xs : List D) (k : Nat) : Zgr xs none (some (k : Int)) = xs.take k := by
 unfold Zgr
 have h1 : HT.sIx xs.length 0 none = 0 := rfl
 have h2 : HT.sIx xs.length xs.length (some (k : Int)) = min k xs.length := by
  show (if (k : Int) < 0 then ((k : Int) + (xs.length : Int)).toNat else min (k : Int).toNat xs.length) = min k xs.length
  rw [if_neg (by omega), Int.toNat_natCast]
 rw [h1, h2]
 simp
theorem ac {f : EF} {g : AF} {σ : SD} {H H1 H2 : HD} {d : D} {ds : List D} (h1 : f σ H = some (d, H1)) (h2 : g σ H1 = some (ds, H2)) : Zaa f g σ H = some (d :: ds, H2) := by
 unfold Zaa; rw [h1]; simp only [Zb]; rw [h2]; rfl
theorem an {σ : SD} {H : HD} : Zai σ H = some ([], H) := rfl
theorem cb {g : FF} {f : AF} {σ : SD} {H H1 : HD} {ds : List D} {r : Option (D × HD)} (h1 : f σ H = some (ds, H1)) (h2 : g ds H1 = r) : eCB g f σ H = r := by
 unfold eCB; rw [h1]; exact h2
theorem tu {n : Nat} {xs : List D} {H : HD} (h : H[n]? = some (.lst xs)) : Zby [.ref n] H = some (.tup xs, H) := by
 simp [Zby, Zey, h]
theorem tp {f : AF} {σ : SD} {H H1 : HD} {ds : List D} (h1 : f σ H = some (ds, H1)) (h2 : ds.length ≤ 1000000) : Zd3 f σ H = some (.tup ds, H1) := by
 unfold Zd3; rw [h1]; exact if_pos (Zdp h2)
theorem ls {f : AF} {σ : SD} {H H1 : HD} {ds : List D} (h1 : f σ H = some (ds, H1)) (h2 : ds.length ≤ 1000000) : Zb6 f σ H = some (.ref H1.length, H1 ++ [.lst ds]) := by
 unfold Zb6; rw [h1]; exact if_pos (Zdp h2)
theorem ca {n : Nat} {F : FF} {f : AF} {σ : SD} {H H1 : HD} {ds : List D} {r : Option (D × HD)} (h1 : f σ H = some (ds, H1)) (hl : ds.length = n) (h2 : F ds H1 = r) : Zaj n F f σ H = r := by
 unfold Zaj; rw [h1]; simp only [Zb]; rw [if_pos hl]; exact h2
theorem rt {f : EF} {σ : SD} {H H1 : HD} {d : D} (h : f σ H = some (d, H1)) : Zcc f σ H = some (.rt d, σ, H1) := by
 unfold Zcc; rw [h]; rfl
theorem op {g : F2} {fa fb : EF} {σ : SD} {H H1 H2 : HD} {d1 d2 : D} {r : Option (D × HD)} (h1 : fa σ H = some (d1, H1)) (h2 : fb σ H1 = some (d2, H2)) (h3 : g d1 d2 H2 = r) : eOp g fa fb σ H = r := by
 unfold eOp; rw [h1]; simp only [Zb]; rw [h2]; exact h3
theorem Zh4 {t : TF} {f g : SF} {σ : SD} {H H1 : HD} {b : Bool} (h : t σ H = some (b, H1)) : sIf t f g σ H = if b = true then f σ H1 else g σ H1 := by
 unfold sIf; rw [h]; rfl
theorem tof {f : EF} {σ : SD} {H H1 : HD} {b : Bool} (h : f σ H = some (.bl b, H1)) : tOf f σ H = some (b, H1) := by
 unfold tOf; rw [h]; rfl
theorem lenT (xs : List D) (H : HD) : Zdb [.tup xs] H = some (.int xs.length, H) := by simp [Zdb, Zey]
theorem lenB (bs : List Bool) (H : HD) : Zdb [.tup (bs.map .bl)] H = some (.int bs.length, H) := by simp [Zdb, Zey]
theorem ixT {xs : List D} {i : Int} {d : D} {H : HD} (h : atI xs i = some d) : ixD (.tup xs) (.int i) H = some (d, H) := by simp [ixD, Zey, h]
theorem skip {t : TF} {f g : SF} {σ : SD} {H H1 : HD} (h : t σ H = some (false, H1)) : Zal (sIf t f Zav) g σ H = g σ H1 := by
 refine Zaq ?_
 rw [Zh4 h]
 rfl
theorem hit {t : TF} {f f2 g : SF} {σ σ1 : SD} {H H1 H2 : HD} {d : D} (h : t σ H = some (true, H1)) (h2 : f σ H1 = some (.rt d, σ1, H2)) : Zal (sIf t (Zal f Zav) f2) g σ H = some (.rt d, σ1, H2) := by
 refine Zdx ?_
 rw [Zh4 h]
 exact Zdx h2
theorem vr {i : Nat} {σ : SD} {H : HD} {d : D} (h : σ[i]? = some (some d)) : Zad i σ H = some (d, H) := by simp [Zad, h]
theorem sl {fe : EF} {fl fh : OF} {σ : SD} {H H1 H2 H3 : HD} {d : D} {l h : Option Int} {r : Option (D × HD)} (h1 : fe σ H = some (d, H1)) (h2 : fl σ H1 = some (l, H2)) (h3 : fh σ H2 = some (h, H3)) (h4 : slD d l h H3 = r) : eSl fe fl fh σ H = r := by
 unfold eSl; rw [h1]; simp only [Zb]; rw [h2]; simp only [Zb]; rw [h3]; exact h4
theorem os {f : EF} {σ : SD} {H H1 : HD} {i : Int} (h : f σ H = some (.int i, H1)) : Zd9 f σ H = some (some i, H1) := by
 unfold Zd9; rw [h]; rfl
theorem on {σ : SD} {H : HD} : Zex σ H = some (none, H) := rfl
theorem slhi {xs : List D} {k : Nat} {H : HD} : slD (.tup xs) none (some (k : Int)) H = some (.tup (xs.take k), H) := by
 rw [← Zql]; rfl
theorem sllo {xs : List D} {k : Nat} {H : HD} : slD (.tup xs) (some (k : Int)) none H = some (.tup (xs.drop k), H) := by
 rw [← Zt5]; rfl
theorem adT {xs ys : List D} {H : HD} (h : xs.length + ys.length ≤ 1000000) : Zbd (.tup xs) (.tup ys) H = some (.tup (xs ++ ys), H) :=
 if_pos (Zdp (by rw [List.length_append]; exact h))
theorem adI (i j : Int) (H : HD) : Zbd (.int i) (.int j) H = some (.int (i + j), H) := rfl
theorem suI (i j : Int) (H : HD) : Ze0 (.int i) (.int j) H = some (.int (i - j), H) := by simp [Ze0, iiD, CT]
theorem ExtS.app {S : List Nat} {H : HD} (L : HD) : ExtS S H (H ++ L) := ⟨fun m o _ q => by
 have : m < H.length := (List.getElem?_eq_some_iff.mp q).1
 rw [List.getElem?_append_left this]; exact q, by simp⟩
noncomputable def Za4 (ls : List Int) : D := .tup (ls.map .int)
noncomputable def Zcq : SF :=
 (Zal (Za0 2 (eC (.int 0)))
 (Zal (sIf (tOf (eOp ltD (Zad 1) (eCB Zdb (Zaa (Zad 0) Zai)))) (Zal (Za0 2 (eOp ixD (Zad 0) (Zad 1)))
 Zav) Zav)
 (Zal (Za0 3 (eC (.int 0)))
 (Zal (sIf (tOf (eOp geD (Zad 2) (eOp Zl9 (eC (.int 10)) (eC (.int 18))))) (Zal (Za0 3 (eOp Ze0 (Zad 2) (eOp Zl9 (eC (.int 10)) (eC (.int 18)))))
 Zav) Zav)
 (Zal (Za0 4 (eOp Zf0 (eOp Zbd (eOp Zbd (eOp Zf2 (eOp Zf0 (Zad 2) (eC (.int 2147483647))) (eC (.int 48271))) (eOp Zf2 (eC (.int 7919)) (Zad 1))) (eC (.int 5))) (eC (.int 2147483629))))
 (Zal (Zcc (Zb6 (Zaa (Zad 3) (Zaa (eOp Zbd (eOp Zf0 (eOp Zl9 (Zad 4) (eC (.int 5))) (eC (.int 2147483587))) (eC (.int 1))) Zai))))
 Zav))))))
noncomputable def Zdl : FF := Zb7 2 5 Zcq
theorem Zw3 (ns : List Int) (at_ : Int) (h0 : 0 ≤ at_) (h1 : at_ < 1000) (H : HD) : ∃ a b, Zdl [.fl (ns.map .int), .int at_] H = some (.ref H.length, H ++ [.lst [.int a, .int b]]) := by
 have z2 : (2 : Nat) ≤ sizeLine := Zdp (by omega)
 have c0 : Zxm 10 18 := ⟨by decide, by decide, by decide⟩
 have c1 : ∀ z k, 0 < k -> Zoi z k := fun _ _ h => h
 have c2 : ∀ z, Zon z 48271 := fun _ => .inr ⟨by decide, by decide⟩
 have c3 : ∀ z, Zon 7919 z := fun _ => .inl ⟨by decide, by decide⟩
 have p18 : ((10 : Int) ^ (18 : Int).toNat) = 1000000000000000000 := by decide
 have run : ∀ v : Int, ∃ a b, (Zal (Za0 3 (eC (.int 0)))
 (Zal (sIf (tOf (eOp geD (Zad 2) (eOp Zl9 (eC (.int 10)) (eC (.int 18))))) (Zal (Za0 3 (eOp Ze0 (Zad 2) (eOp Zl9 (eC (.int 10)) (eC (.int 18)))))
 Zav) Zav)
 (Zal (Za0 4 (eOp Zf0 (eOp Zbd (eOp Zbd (eOp Zf2 (eOp Zf0 (Zad 2) (eC (.int 2147483647))) (eC (.int 48271))) (eOp Zf2 (eC (.int 7919)) (Zad 1))) (eC (.int 5))) (eC (.int 2147483629))))
 (Zal (Zcc (Zb6 (Zaa (Zad 3) (Zaa (eOp Zbd (eOp Zf0 (eOp Zl9 (Zad 4) (eC (.int 5))) (eC (.int 2147483587))) (eC (.int 1))) Zai))))
 Zav)))) [some (.fl (ns.map .int)), some (.int at_), some (.int v), none, none] H = some (.rt (.ref H.length), [some (.fl (ns.map .int)), some (.int at_), some (.int v), some (.int a), some (.int b)], H ++ [.lst [.int a, .int (b ^ 5 % 2147483587 + 1)]]) := by
  intro v
  let a : Int := if (1000000000000000000 : Int) ≤ v then v - 1000000000000000000 else 0
  let b : Int := (v % 2147483647 * 48271 + 7919 * at_ + 5) % 2147483629
  refine ⟨a, b, ?_⟩
  have hb : 0 ≤ b ∧ b < 2147483629 := ⟨Int.emod_nonneg _ (by decide), Int.emod_lt_of_pos _ (by decide)⟩
  have c4 : Zxm b 5 := ⟨by decide, by decide, by omega⟩
  have s1 : Za0 3 (eC (.int 0)) [some (.fl (ns.map .int)), some (.int at_), some (.int v), none, none] H = some (.nx, [some (.fl (ns.map .int)), some (.int at_), some (.int v), some (.int 0), none], H) := rfl
  have s2 : sIf (tOf (eOp geD (Zad 2) (eOp Zl9 (eC (.int 10)) (eC (.int 18))))) (Zal (Za0 3 (eOp Ze0 (Zad 2) (eOp Zl9 (eC (.int 10)) (eC (.int 18))))) Zav) Zav [some (.fl (ns.map .int)), some (.int at_), some (.int v), some (.int 0), none] H = some (.nx, [some (.fl (ns.map .int)), some (.int at_), some (.int v), some (.int a), none], H) := by
   by_cases hv : (1000000000000000000 : Int) ≤ v
   ·simp [sIf, tOf, eOp, geD, Zad, Zl9, eC, iiD, CT, c0, blD, hv, Zal, Za0, Ze0, Zav, a]
   ·simp [sIf, tOf, eOp, geD, Zad, Zl9, eC, iiD, CT, c0, blD, hv, Zav, a]
  have s3 : Za0 4 (eOp Zf0 (eOp Zbd (eOp Zbd (eOp Zf2 (eOp Zf0 (Zad 2) (eC (.int 2147483647))) (eC (.int 48271))) (eOp Zf2 (eC (.int 7919)) (Zad 1))) (eC (.int 5))) (eC (.int 2147483629))) [some (.fl (ns.map .int)), some (.int at_), some (.int v), some (.int a), none] H = some (.nx, [some (.fl (ns.map .int)), some (.int at_), some (.int v), some (.int a), some (.int b)], H) := by
   have d1 : Zoi v 2147483647 := c1 _ _ (by decide)
   have d2 : Zoi (v % 2147483647 * 48271 + 7919 * at_ + 5) 2147483629 := c1 _ _ (by decide)
   simp [Za0, eOp, Zf0, Zad, eC, iiD, d1, Zf2, c2, c3, Zbd, d2, b]
  rw [Zaq s1, Zaq s2, Zaq s3]
  have d3 : Zoi (b ^ 5) 2147483587 := c1 _ _ (by decide)
  refine Zdx ?_
  simp [Zcc, Zb6, Zaa, Zai, Zad, eOp, Zl9, eC, iiD, c4, Zf0, d3, Zbd, mkL, z2]
 show ∃ a b, ((Zcq [some (.fl (ns.map .int)), some (.int at_), none, none, none] H).bind _) = _
 unfold Zcq
 have s1 : Za0 2 (eC (.int 0)) [some (.fl (ns.map .int)), some (.int at_), none, none, none] H = some (.nx, [some (.fl (ns.map .int)), some (.int at_), some (.int 0), none, none], H) := rfl
 have s2 : ∃ v : Int, sIf (tOf (eOp ltD (Zad 1) (eCB Zdb (Zaa (Zad 0) Zai)))) (Zal (Za0 2 (eOp ixD (Zad 0) (Zad 1))) Zav) Zav [some (.fl (ns.map .int)), some (.int at_), some (.int 0), none, none] H = some (.nx, [some (.fl (ns.map .int)), some (.int at_), some (.int v), none, none], H) := by
  by_cases hl : at_ < (ns.length : Int)
  ·have hn : at_.toNat < ns.length := by omega
   refine ⟨ns[at_.toNat], ?_⟩
   have e : atI (ns.map D.int) at_ = some (D.int ns[at_.toNat]) := Zgx h0 (by rw [List.getElem?_map, List.getElem?_eq_getElem hn]; rfl)
   simp [sIf, tOf, eOp, ltD, Zad, eCB, Zaa, Zai, Zdb, Zey, iiD, CT, blD, hl, Zal, Za0, ixD, e, Zav]
  ·refine ⟨0, ?_⟩
   simp [sIf, tOf, eOp, ltD, Zad, eCB, Zaa, Zai, Zdb, Zey, iiD, CT, blD, hl, Zav]
 obtain ⟨v, s2⟩ := s2
 obtain ⟨a, b, e⟩ := run v
 refine ⟨a, b ^ 5 % 2147483587 + 1, ?_⟩
 rw [Zaq s1, Zaq s2, e]
 rfl
theorem orF {t u : TF} {σ : SD} {H H1 : HD} (h : t σ H = some (false, H1)) : Zrx t u σ H = u σ H1 := by unfold Zrx; rw [h]; rfl
theorem orT {t u : TF} {σ : SD} {H H1 : HD} (h : t σ H = some (true, H1)) : Zrx t u σ H = some (true, H1) := by unfold Zrx; rw [h]; rfl
theorem anF {t u : TF} {σ : SD} {H H1 : HD} (h : t σ H = some (false, H1)) : tAn t u σ H = some (false, H1) := by unfold tAn; rw [h]; rfl
theorem anT {t u : TF} {σ : SD} {H H1 : HD} (h : t σ H = some (true, H1)) : tAn t u σ H = u σ H1 := by unfold tAn; rw [h]; rfl
theorem Zig (H : HD) (n : Nat) : ∀ bs : List Bool, Zh7 H n (bs.map .bl) = some (bs.map .bool)
 | [] => by rw [List.map_nil, Zh7]; rfl
 | b :: bs => by rw [List.map_cons, Zh7, Zrs, Zig H n bs]; rfl
theorem Zjv : ∀ bs : List Bool, PyData.canLayAll0 (bs.map .bool) = true ∧ PyData.depthAll (bs.map .bool) = 0
 | [] => ⟨rfl, rfl⟩
 | b :: bs => by
  obtain ⟨h1, h2⟩ := Zjv bs
  refine ⟨?_, ?_⟩
  ·simp [PyData.canLayAll0, PyData.canLay0, h1]
  ·simp [PyData.depthAll, PyData.depth, h2]
theorem Zt2 : ∀ bs : List Bool, (!(bs.map PyData.bool).any fun z => PyData.eqv z (.bool false)) = bs.all id
 | [] => rfl
 | b :: r => by
  have ih := Zt2 r
  rw [List.map_cons, List.any_cons, Bool.not_or, ih, List.all_cons]
  cases b <;> simp [PyData.eqv]
theorem Ztu {H : HD} {p : Nat} {bs : List Bool} (h : H[p]? = some (.lst (bs.map .bl))) : niD (.bl false) (.ref p) H = some (.bl (bs.all id), H) := by
 have e1 : dat (.bl false) H = some (.bool false) := Zt1 H false
 have e2 : dat (.ref p) H = some (.list (bs.map .bool)) := by
  unfold dat
  rw [toP]
  simp only [h, Zig, Option.map_some, Zb]
  rw [if_pos]
  obtain ⟨h1, h2⟩ := Zjv bs
  simp [okP, PyData.canLay0, PyData.depth, h1, h2]
 unfold niD
 rw [e1]
 simp only [Zb]
 rw [e2]
 simp only [Zb, Zia, Option.map_some]
 rw [Zt2 bs]
theorem Zps {c0 : SD} {te : EF} {H : HD} {f : D -> Bool} : ∀ ds : List D, (∀ d ∈ ds, te (some d :: c0) H = some (.bl (f d), H)) -> Zco [] c0 Zel te ds H = some ((ds.map f).map .bl, H)
 | [], _ => Zt6 Zdc
 | d :: ds, h => by
  rw [Zqp Zdc (h d (by simp)), Zps ds fun x hx => h x (by simp [hx])]
  rfl
theorem Zz4 {it : ItF} {ci : List Nat} {c0 : SD} {te : EF} {σ : SD} {H : HD} {f : D -> Bool} {ds : List D} (hi : it σ H = some ((ds, []), H)) (hc : Zlb ci σ = c0) (h : ∀ d ∈ ds, te (some d :: c0) H = some (.bl (f d), H)) (hl : ds.length ≤ 1000) : eLC it ci Zel te σ H = some (.ref H.length, H ++ [.lst ((ds.map f).map .bl)]) := by
 unfold eLC
 rw [hi]
 simp only [Zb]
 rw [hc, Zps ds h]
 have z : ((ds.map f).map D.bl).length ≤ sizeLine := Zdp (by simp; omega)
 exact if_pos z
end LH
namespace WP
open PySem L2 DL LH
noncomputable def wE (r : Option (D × HD)) (Q : D -> HD -> Prop) : Prop := ∃ d H, r = some (d, H) ∧ Q d H
noncomputable def wT (r : Option (Bool × HD)) (Q : Bool -> HD -> Prop) : Prop := ∃ d H, r = some (d, H) ∧ Q d H
noncomputable def wA (r : Option (List D × HD)) (Q : List D -> HD -> Prop) : Prop := ∃ d H, r = some (d, H) ∧ Q d H
noncomputable def wO (r : Option (Option Int × HD)) (Q : Option Int -> HD -> Prop) : Prop := ∃ d H, r = some (d, H) ∧ Q d H
noncomputable def wI (r : Option ((List D × Zge) × HD)) (Q : List D -> Zge -> HD -> Prop) : Prop := ∃ d o H, r = some ((d, o), H) ∧ Q d o H
noncomputable def wG (r : Option (SD × HD)) (Q : SD -> HD -> Prop) : Prop := ∃ d H, r = some (d, H) ∧ Q d H
noncomputable def wS (r : Option (FD × SD × HD)) (Q : FD -> SD -> HD -> Prop) : Prop := ∃ x d H, r = some (x, d, H) ∧ Q x d H
noncomputable def wN (n : Nat) (F : FF) (ds : List D) (H : HD) (Q : D -> HD -> Prop) : Prop := ds.length = n ∧ wE (F ds H) Q
noncomputable def br (b : Bool) (P Q : Prop) : Prop := (b = true -> P) ∧ (b = false -> Q)
noncomputable def kont (k : SD -> HD -> Prop) (Q : FD -> SD -> HD -> Prop) : FD -> SD -> HD -> Prop
 | .nx, σ, H => k σ H
 | r, σ, H => Q r σ H
noncomputable def fin (Q : D -> HD -> Prop) : FD -> SD -> HD -> Prop
 | .rt d, _, H => Q d H
 | .nx, _, H => Q .non H
 | _, _, _ => False
section
variable {σ : SD} {H : HD} {Q : D -> HD -> Prop}
theorem wE_of {r : Option (D × HD)} {d : D} {H : HD} (e : r = some (d, H)) (q : Q d H) : wE r Q := ⟨d, H, e, q⟩
theorem w_var {i : Nat} {d : D} (h : (σ[i]?).join = some d) (q : Q d H) : wE (Zad i σ H) Q := ⟨d, H, by unfold Zad; rw [h]; rfl, q⟩
theorem w_c {d : D} (q : Q d H) : wE (eC d σ H) Q := ⟨d, H, rfl, q⟩
theorem w_op {g : F2} {fa fb : EF} (h : wE (fa σ H) fun x H1 => wE (fb σ H1) fun y H2 => wE (g x y H2) Q) : wE (eOp g fa fb σ H) Q := by
 obtain ⟨x, H1, e1, y, H2, e2, d, H3, e3, q⟩ := h
 exact ⟨d, H3, op e1 e2 e3, q⟩
theorem w_un {g : D -> HD -> Option (D × HD)} {fa : EF} (h : wE (fa σ H) fun x H1 => wE (g x H1) Q) : wE (eUn g fa σ H) Q := by
 obtain ⟨x, H1, e1, d, H3, e3, q⟩ := h
 exact ⟨d, H3, by unfold eUn; rw [e1]; exact e3, q⟩
theorem w_ch {g g' : F2} {fa fb fc : EF} (h : wE (fa σ H) fun x H1 => wE (fb σ H1) fun y H2 => wE (g x y H2) fun z H3 => ∃ k, z = .bl k ∧ br k (wE (fc σ H3) fun w H4 => wE (g' y w H4) Q) (Q (.bl false) H3)) : wE (eCh g g' fa fb fc σ H) Q := by
 obtain ⟨x, H1, e1, y, H2, e2, z, H3, e3, k, rfl, b1, b2⟩ := h
 unfold eCh
 rw [e1]; simp only [Zb]; rw [e2]; simp only [Zb]; rw [e3]; simp only [Zb, blD]
 cases k with
 | true =>
  obtain ⟨w, H4, e4, d, H5, e5, q⟩ := b1 rfl
  exact ⟨d, H5, by rw [if_pos rfl, e4]; exact e5, q⟩
 | false => exact ⟨.bl false, H3, by rw [if_neg (by simp)], b2 rfl⟩
theorem w_tof {f : EF} {Q : Bool -> HD -> Prop} (h : wE (f σ H) fun d H1 => ∃ b, d = .bl b ∧ Q b H1) : wT (tOf f σ H) Q := by
 obtain ⟨d, H1, e, b, rfl, q⟩ := h
 exact ⟨b, H1, tof e, q⟩
theorem w_bl {b : Bool} {P : Bool -> Prop} (h : P b) : ∃ c, D.bl b = .bl c ∧ P c := ⟨b, rfl, h⟩
theorem w_ttru {f : EF} {Q : Bool -> HD -> Prop} (h : wE (f σ H) fun d H1 => ∃ b, Zpr d H1 = some b ∧ Q b H1) : wT (Zol f σ H) Q := by
 obtain ⟨d, H1, e, b, e2, q⟩ := h
 exact ⟨b, H1, by unfold Zol; rw [e]; simp only [Zb]; rw [e2]; rfl, q⟩
theorem w_no {t : TF} {Q : Bool -> HD -> Prop} (h : wT (t σ H) fun b H1 => Q (!b) H1) : wT (tNo t σ H) Q := by
 obtain ⟨b, H1, e, q⟩ := h
 exact ⟨!b, H1, by unfold tNo; rw [e]; rfl, q⟩
theorem w_an {t u : TF} {Q : Bool -> HD -> Prop} (h : wT (t σ H) fun b H1 => br b (wT (u σ H1) Q) (Q false H1)) : wT (tAn t u σ H) Q := by
 obtain ⟨b, H1, e, q1, q2⟩ := h
 cases b with
 | true => obtain ⟨c, H2, e2, q⟩ := q1 rfl; exact ⟨c, H2, (anT e).trans e2, q⟩
 | false => exact ⟨false, H1, anF e, q2 rfl⟩
theorem w_or {t u : TF} {Q : Bool -> HD -> Prop} (h : wT (t σ H) fun b H1 => br b (Q true H1) (wT (u σ H1) Q)) : wT (Zrx t u σ H) Q := by
 obtain ⟨b, H1, e, q1, q2⟩ := h
 cases b with
 | true => exact ⟨true, H1, orT e, q1 rfl⟩
 | false => obtain ⟨c, H2, e2, q⟩ := q2 rfl; exact ⟨c, H2, (orF e).trans e2, q⟩
theorem w_eno {f : EF} (h : wE (f σ H) fun d H1 => ∃ b, d = .bl b ∧ Q (.bl (!b)) H1) : wE (eNo f σ H) Q := by
 obtain ⟨d, H1, e, b, rfl, q⟩ := h
 exact ⟨.bl (!b), H1, by unfold eNo; rw [e]; rfl, q⟩
theorem w_ean {f g : EF} (h : wE (f σ H) fun d H1 => ∃ b, d = .bl b ∧ br b (wE (g σ H1) Q) (Q (.bl false) H1)) : wE (eAn f g σ H) Q := by
 obtain ⟨d, H1, e, b, rfl, q1, q2⟩ := h
 unfold eAn
 rw [e]; simp only [Zb, blD]
 cases b with
 | true => rw [if_pos rfl]; exact q1 rfl
 | false => rw [if_neg (by simp)]; exact ⟨_, _, rfl, q2 rfl⟩
theorem w_eif {t : TF} {f g : EF} (h : wT (t σ H) fun b H1 => br b (wE (f σ H1) Q) (wE (g σ H1) Q)) : wE (eIf t f g σ H) Q := by
 obtain ⟨b, H1, e, q1, q2⟩ := h
 unfold eIf
 rw [e]; simp only [Zb]
 cases b with
 | true => rw [if_pos rfl]; exact q1 rfl
 | false => rw [if_neg (by simp)]; exact q2 rfl
theorem w_anil {Q : List D -> HD -> Prop} (q : Q [] H) : wA (Zai σ H) Q := ⟨[], H, rfl, q⟩
theorem w_acons {f : EF} {g : AF} {Q : List D -> HD -> Prop} (h : wE (f σ H) fun d H1 => wA (g σ H1) fun ds H2 => Q (d :: ds) H2) : wA (Zaa f g σ H) Q := by
 obtain ⟨d, H1, e1, ds, H2, e2, q⟩ := h
 exact ⟨d :: ds, H2, ac e1 e2, q⟩
theorem w_cb {g : FF} {f : AF} (h : wA (f σ H) fun ds H1 => wE (g ds H1) Q) : wE (eCB g f σ H) Q := by
 obtain ⟨ds, H1, e1, d, H2, e2, q⟩ := h
 exact ⟨d, H2, cb e1 e2, q⟩
theorem w_call {n : Nat} {F : FF} {f : AF} (h : wA (f σ H) fun ds H1 => wN n F ds H1 Q) : wE (Zaj n F f σ H) Q := by
 obtain ⟨ds, H1, e1, hl, d, H2, e2, q⟩ := h
 exact ⟨d, H2, ca e1 hl e2, q⟩
theorem w_n {n : Nat} {F : FF} {ds : List D} (hl : ds.length = n) (h : wE (F ds H) Q) : wN n F ds H Q := ⟨hl, h⟩
theorem w_tup {f : AF} (h : wA (f σ H) fun ds H1 => ds.length ≤ 1000000 ∧ Q (.tup ds) H1) : wE (Zd3 f σ H) Q := by
 obtain ⟨ds, H1, e1, hl, q⟩ := h
 exact ⟨_, H1, tp e1 hl, q⟩
theorem w_lst {f : AF} (h : wA (f σ H) fun ds H1 => ds.length ≤ 1000000 ∧ Q (.ref H1.length) (H1 ++ [.lst ds])) : wE (Zb6 f σ H) Q := by
 obtain ⟨ds, H1, e1, hl, q⟩ := h
 exact ⟨_, _, ls e1 hl, q⟩
theorem w_lm {g : D -> List D -> HD -> Option (D × HD)} {fo : EF} {f : AF} (h : wE (fo σ H) fun o H1 => Zhy o H1 = true ∧ wA (f σ H1) fun ds H2 => wE (g o ds H2) Q) : wE (eLM g fo f σ H) Q := by
 obtain ⟨o, H1, e1, i, ds, H2, e2, d, H3, e3, q⟩ := h
 exact ⟨d, H3, by unfold eLM; rw [e1]; simp only [Zb]; rw [if_pos i, e2]; exact e3, q⟩
theorem w_on {Q : Option Int -> HD -> Prop} (q : Q none H) : wO (Zex σ H) Q := ⟨none, H, rfl, q⟩
theorem w_os {f : EF} {Q : Option Int -> HD -> Prop} (h : wE (f σ H) fun d H1 => ∃ i, d = .int i ∧ Q (some i) H1) : wO (Zd9 f σ H) Q := by
 obtain ⟨d, H1, e, i, rfl, q⟩ := h
 exact ⟨some i, H1, os e, q⟩
theorem w_int {i : Int} {P : Int -> Prop} (h : P i) : ∃ c, D.int i = .int c ∧ P c := ⟨i, rfl, h⟩
theorem w_sl {fe : EF} {fl fh : OF} (h : wE (fe σ H) fun x H1 => wO (fl σ H1) fun l H2 => wO (fh σ H2) fun u H3 => wE (slD x l u H3) Q) : wE (eSl fe fl fh σ H) Q := by
 obtain ⟨x, H1, e1, l, H2, e2, u, H3, e3, d, H4, e4, q⟩ := h
 exact ⟨d, H4, sl e1 e2 e3 e4, q⟩
variable {R : FD -> SD -> HD -> Prop}
theorem w_snil (q : R .nx σ H) : wS (Zav σ H) R := ⟨_, _, _, rfl, q⟩
theorem w_seq {f g : SF} (h : wS (f σ H) (kont (fun σ1 H1 => wS (g σ1 H1) R) R)) : wS (Zal f g σ H) R := by
 obtain ⟨x, σ1, H1, e, k⟩ := h
 unfold Zal
 rw [e]; simp only [Zb]
 cases x with
 | nx => exact k
 | bk => exact ⟨_, _, _, rfl, k⟩
 | ct => exact ⟨_, _, _, rfl, k⟩
 | rt d => exact ⟨_, _, _, rfl, k⟩
theorem w_kn {k : SD -> HD -> Prop} (h : k σ H) : kont k R .nx σ H := h
theorem w_kr {k : SD -> HD -> Prop} {d : D} (h : R (.rt d) σ H) : kont k R (.rt d) σ H := h
theorem Zyh {r : Option (FD × SD × HD)} {k : SD -> HD -> Prop} (J : SD -> HD -> Prop) (h : wS r fun x σ H => x = .nx ∧ J σ H) (q : ∀ σ H, J σ H -> k σ H) : wS r (kont k R) := by
 obtain ⟨x, s, H, e, rfl, j⟩ := h
 exact ⟨_, s, H, e, q s H j⟩
theorem w_fr {d : D} (h : Q d H) : fin Q (.rt d) σ H := h
theorem w_ret {f : EF} (h : wE (f σ H) fun d H1 => R (.rt d) σ H1) : wS (Zcc f σ H) R := by
 obtain ⟨d, H1, e, q⟩ := h; exact ⟨_, _, _, rt e, q⟩
theorem w_expr {f : EF} (h : wE (f σ H) fun d H1 => R .nx σ H1) : wS (Zc8 f σ H) R := by
 obtain ⟨d, H1, e, q⟩ := h; exact ⟨_, _, _, by unfold Zc8; rw [e]; rfl, q⟩
theorem w_if {t : TF} {f g : SF} (h : wT (t σ H) fun b H1 => br b (wS (f σ H1) R) (wS (g σ H1) R)) : wS (sIf t f g σ H) R := by
 obtain ⟨b, H1, e, q1, q2⟩ := h
 rw [Zh4 e]
 cases b with
 | true => rw [if_pos rfl]; exact q1 rfl
 | false => rw [if_neg (by simp)]; exact q2 rfl
theorem w_set {i : Nat} {f : EF} (h : wE (f σ H) fun d H1 => R .nx (σ.set i (some d)) H1) : wS (Za0 i f σ H) R := by
 obtain ⟨d, H1, e, q⟩ := h; exact ⟨_, _, _, by unfold Za0; rw [e]; rfl, q⟩
theorem w_gnm {i : Nat} {d : D} {Q : SD -> HD -> Prop} (h : Q (σ.set i (some d)) H) : wG (gNm i d σ H) Q := ⟨_, _, rfl, h⟩
theorem w_for {it : ItF} {g : GF} {b : SF} (h : wI (it σ H) fun xs own H1 => wS (Zdg own g b xs σ H1) R) : wS (Zea it g b σ H) R := by
 obtain ⟨xs, own, H1, e, q⟩ := h
 unfold Zea; rw [e]; exact q
theorem Zi5 {n N : Nat} {b : SF} {ds : List D} (hl : ds.length = n) (h : wS (b (ds.map some ++ List.replicate (N - ds.length) none) H) (fin Q)) : wE (Zb7 n N b ds H) Q := by
 obtain ⟨x, s, H1, e, q⟩ := h
 unfold Zb7
 rw [if_pos hl, e]
 simp only [Zb]
 cases x with
 | nx => exact ⟨_, _, rfl, q⟩
 | rt d => exact ⟨_, _, rfl, q⟩
 | bk => exact q.elim
 | ct => exact q.elim
theorem w_lc {it : ItF} {ci : List Nat} {tt : TF} {te : EF} (h : wI (it σ H) fun xs own H1 => wA (Zco own (Zlb ci σ) tt te xs H1) fun ds H2 => ds.length ≤ 1000000 ∧ Q (.ref H2.length) (H2 ++ [.lst ds])) : wE (eLC it ci tt te σ H) Q := by
 obtain ⟨xs, own, H1, e, ds, H2, e2, hl, q⟩ := h
 exact ⟨_, _, by unfold eLC; rw [e]; simp only [Zb]; rw [e2]; exact if_pos (Zdp hl), q⟩
theorem w_bt {P S : Prop} (h : P) : br true P S := ⟨fun _ => h, nofun⟩
theorem w_bf {P S : Prop} (h : S) : br false P S := ⟨nofun, fun _ => h⟩
theorem w_bnf {P S : Prop} (h : S) : br (!true) P S := ⟨nofun, fun _ => h⟩
theorem w_bT {b : Bool} {P S : Prop} (e : b = true) (h : P) : br b P S := by subst e; exact w_bt h
theorem w_bF {b : Bool} {P S : Prop} (e : b = false) (h : S) : br b P S := by subst e; exact w_bf h
theorem w_sz {ds : List D} {P : Prop} (h : ds.length ≤ 1000000) (q : P) : ds.length ≤ 1000000 ∧ P := ⟨h, q⟩
theorem w_addI {i j : Int} (q : Q (.int (i + j)) H) : wE (Zbd (.int i) (.int j) H) Q := ⟨_, _, rfl, q⟩
theorem w_addT {a b : List D} (h : a.length + b.length ≤ 1000000) (q : Q (.tup (a ++ b)) H) : wE (Zbd (.tup a) (.tup b) H) Q := ⟨_, _, adT h, q⟩
theorem w_subI {i j : Int} (q : Q (.int (i - j)) H) : wE (Ze0 (.int i) (.int j) H) Q := ⟨_, _, suI i j H, q⟩
theorem w_lt {i j : Int} (q : Q (.bl (decide (i < j))) H) : wE (ltD (.int i) (.int j) H) Q := ⟨_, _, by simp [ltD, iiD, CT], q⟩
theorem w_le {i j : Int} (q : Q (.bl (decide (i ≤ j))) H) : wE (leD (.int i) (.int j) H) Q := ⟨_, _, by simp [leD, iiD, CT], q⟩
theorem w_gt {i j : Int} (q : Q (.bl (decide (j < i))) H) : wE (gtD (.int i) (.int j) H) Q := ⟨_, _, by simp [gtD, iiD, CT], q⟩
theorem w_mulL {i j : Int} (h1 : -(2 ^ 64) < i) (h2 : i < 2 ^ 64) (q : Q (.int (i * j)) H) : wE (Zf2 (.int i) (.int j) H) Q := ⟨_, _, by have c : Zon i j := .inl ⟨h1, h2⟩; simp [Zf2, c], q⟩
theorem w_neg {i : Int} (q : Q (.int (-i)) H) : wE (Zh2 (.int i) H) Q := ⟨_, _, rfl, q⟩
theorem w_eqI {i j : Int} (q : Q (.bl (i == j)) H) : wE (eqD (.int i) (.int j) H) Q := ⟨_, _, Zgg _ _ _, q⟩
theorem w_neS {a b : Str} (q : Q (.bl (a != b)) H) : wE (neD (.str a) (.str b) H) Q := ⟨_, _, rfl, q⟩
theorem w_lenT {xs : List D} (q : Q (.int xs.length) H) : wE (Zdb [.tup xs] H) Q := ⟨_, _, lenT xs H, q⟩
theorem w_lenF {xs : List D} (q : Q (.int xs.length) H) : wE (Zdb [.fl xs] H) Q := ⟨_, _, by simp [Zdb, Zey], q⟩
theorem w_abs {i : Int} (q : Q (.int (Zbg i)) H) : wE (Zna [.int i] H) Q := ⟨_, _, rfl, q⟩
theorem w_ixT {xs : List D} {i : Int} {d : D} (h : atI xs i = some d) (q : Q d H) : wE (ixD (.tup xs) (.int i) H) Q := ⟨_, _, ixT h, q⟩
theorem w_ixR {n : Nat} {xs : List D} {i : Int} {d : D} (g : H[n]? = some (.lst xs)) (h : atI xs i = some d) (q : Q d H) : wE (ixD (.ref n) (.int i) H) Q := ⟨_, _, by simp [ixD, Zey, g, h], q⟩
theorem w_intB {b : Bool} (q : Q (.int (if b then 1 else 0)) H) : wE (Zrz [.bl b] H) Q := ⟨_, _, rfl, q⟩
theorem w_max {i j : Int} (q : Q (.int (if j > i then j else i)) H) : wE (maxD [.int i, .int j] H) Q := ⟨_, _, rfl, q⟩
theorem w_min {i j : Int} (q : Q (.int (if j < i then j else i)) H) : wE (Zok [.int i, .int j] H) Q := ⟨_, _, rfl, q⟩
theorem w_tupR {n : Nat} {xs : List D} (h : H[n]? = some (.lst xs)) (q : Q (.tup xs) H) : wE (Zby [.ref n] H) Q := ⟨_, _, tu h, q⟩
theorem w_app {n : Nat} {xs : List D} {d : D} (h : H[n]? = some (.lst xs)) (hl : xs.length < 1000000) (q : Q .non (H.set n (.lst (xs ++ [d])))) : wE (Zb3 (.ref n) [d] H) Q :=
 ⟨_, _, by simp [Zb3, h, Nat.lt_of_lt_of_le hl (Zdp (Nat.le_refl _))], q⟩
theorem w_isi {d : D} {c t : String} (ha : Zqj c = true) (h : tyD d H = some t) (q : Q (.bl (t == c || (t == "bool" && c == "int"))) H) : wE (Zu8 [d, .ty c] H) Q := ⟨_, _, by simp [Zu8, ha, h], q⟩
theorem Zyp {n : Nat} {kvs : List (D × D)} {fz : Bool} {k : D} {ks : List Int} {v : D} (h : H[n]? = some (.dic kvs fz)) (hk : nk k = some ks) (hv : Zbb kvs ks = some v) (q : Q v H) : wE (Zd0 (.ref n) k H) Q := ⟨_, _, by simp [Zd0, Zry, h, hk, hv], q⟩
theorem w_truB {b : Bool} {P : Bool -> Prop} (h : P b) : ∃ c, Zpr (.bl b) H = some c ∧ P c := ⟨b, rfl, h⟩
theorem w_isi' {d : D} {c t : String} {r : Bool} (ha : Zqj c = true) (h : tyD d H = some t) (hr : (t == c || (t == "bool" && c == "int")) = r) (q : Q (.bl r) H) : wE (Zu8 [d, .ty c] H) Q := w_isi ha h (by rw [hr]; exact q)
theorem w_neS' {a b : Str} {r : Bool} (hr : (a == b) = r) (q : Q (.bl (!r)) H) : wE (neD (.str a) (.str b) H) Q := w_neS (by rw [bne, hr]; exact q)
theorem w_slhi {xs : List D} {k : Nat} (q : Q (.tup (xs.take k)) H) : wE (slD (.tup xs) none (some (k : Int)) H) Q := ⟨_, _, slhi, q⟩
theorem w_sllo1 {xs : List D} {k : Nat} (q : Q (.tup (xs.drop (k + 1))) H) : wE (slD (.tup xs) (some ((k : Int) + 1)) none H) Q := ⟨_, _, sllo (k := k + 1), q⟩
variable {I : List D -> Zge -> HD -> Prop}
theorem w_isq {f : EF} (h : wE (f σ H) fun d H1 => ∃ xs own, Zfa d H1 = some (xs, own) ∧ I xs own H1) : wI (iSq f σ H) I := by
 obtain ⟨d, H1, e, xs, own, e2, q⟩ := h
 exact ⟨xs, own, H1, by unfold iSq; rw [e]; simp only [Zb]; rw [e2]; rfl, q⟩
theorem w_itT {xs : List D} {P : List D -> Zge -> Prop} (h : P xs []) : ∃ ys own, Zfa (.tup xs) H = some (ys, own) ∧ P ys own := ⟨_, _, rfl, h⟩
theorem w_itR {n : Nat} {xs : List D} {P : List D -> Zge -> Prop} (g : H[n]? = some (.lst xs)) (h : P xs [(n, .lst xs)]) : ∃ ys own, Zfa (.ref n) H = some (ys, own) ∧ P ys own := ⟨_, _, by simp [Zfa, g], h⟩
theorem w_ir2 {f : AF} (h : wA (f σ H) fun ds H1 => ∃ i j, ds = [.int i, .int j] ∧ Zcf i ∧ Zcf j ∧ I (Za2 i (j - i).toNat) [] H1) : wI (iR2 f σ H) I := by
 obtain ⟨ds, H1, e, i, j, rfl, s1, s2, q⟩ := h
 exact ⟨_, _, H1, by unfold iR2; rw [e]; exact if_pos ⟨s1, s2⟩, q⟩
theorem Zui {own : Zge} {g : GF} {b : SF} (h : Zcp own H) (q : R .nx σ H) : wS (Zdg own g b [] σ H) R := ⟨_, _, _, by rw [Zdg, if_pos h], q⟩
noncomputable def again (k : SD -> HD -> Prop) (R : FD -> SD -> HD -> Prop) : FD -> SD -> HD -> Prop
 | .nx, σ, H => k σ H
 | .ct, σ, H => k σ H
 | .bk, σ, H => R .nx σ H
 | .rt d, σ, H => R (.rt d) σ H
theorem Zqt {own : Zge} {g : GF} {b : SF} {x : D} {r : List D} (h : Zcp own H) (q : wG (g x σ H) fun σ1 H1 => wS (b σ1 H1) (again (fun σ2 H2 => wS (Zdg own g b r σ2 H2) R) R)) : wS (Zdg own g b (x :: r) σ H) R := by
 obtain ⟨σ1, H1, e1, y, σ2, H2, e2, q⟩ := q
 rw [Zdg, if_pos h, e1]
 simp only [Zb]
 rw [e2]
 cases y with
 | nx => exact q
 | ct => exact q
 | bk => exact ⟨_, _, _, rfl, q⟩
 | rt d => exact ⟨_, _, _, rfl, q⟩
theorem w_agn {k : SD -> HD -> Prop} (h : k σ H) : again k R .nx σ H := h
theorem Zp4 {own : Zge} {g : GF} {b : SF} (Inv : List D -> List D -> SD -> HD -> Prop) (ho : ∀ d t σ H, Inv d t σ H -> Zcp own H)
  (st : ∀ d x t σ H, Inv d (x :: t) σ H -> wG (g x σ H) fun σ1 H1 => wS (b σ1 H1) (again (fun σ2 H2 => Inv (d ++ [x]) t σ2 H2) R))
  (q : ∀ d σ H, Inv d [] σ H -> R .nx σ H) : ∀ (t d : List D) (σ : SD) (H : HD), Inv d t σ H -> wS (Zdg own g b t σ H) R
 | [], d, σ, H, i => Zui (ho _ _ _ _ i) (q d σ H i)
 | x :: t, d, σ, H, i => by
  refine Zqt (ho _ _ _ _ i) ?_
  obtain ⟨σ1, H1, e1, y, σ2, H2, e2, k⟩ := st d x t σ H i
  refine ⟨σ1, H1, e1, y, σ2, H2, e2, ?_⟩
  cases y with
  | nx => exact Zp4 Inv ho st q t _ σ2 H2 k
  | ct => exact Zp4 Inv ho st q t _ σ2 H2 k
  | bk => exact k
  | rt d => exact k
theorem Zmm {own : Zge} {g : GF} {b : SF} (Inv : SD -> HD -> Prop) (ho : ∀ σ H, Inv σ H -> Zcp own H) : ∀ (xs : List D) (st : ∀ x ∈ xs, ∀ σ H, Inv σ H -> wG (g x σ H) fun σ1 H1 => wS (b σ1 H1) (again Inv R)) (σ : SD) (H : HD), Inv σ H -> (∀ σ H, Inv σ H -> R .nx σ H) -> wS (Zdg own g b xs σ H) R
 | [], st, σ, H, i, q => Zui (ho _ _ i) (q σ H i)
 | x :: t, st, σ, H, i, q => by
  refine Zqt (ho _ _ i) ?_
  obtain ⟨σ1, H1, e1, y, σ2, H2, e2, k⟩ := st x (by simp) σ H i
  refine ⟨σ1, H1, e1, y, σ2, H2, e2, ?_⟩
  cases y with
  | nx => exact Zmm Inv ho t (fun z hz => st z (by simp [hz])) σ2 H2 k q
  | ct => exact Zmm Inv ho t (fun z hz => st z (by simp [hz])) σ2 H2 k q
  | bk => exact k
  | rt d => exact k
theorem w_wh {t : TF} {b : SF} {n : Nat} (h : wT (t σ H) fun x H1 => br x (wS (b σ H1) (again (fun σ2 H2 => wS (sWh t b n σ2 H2) R) R)) (R .nx σ H1)) : wS (sWh t b (n + 1) σ H) R := by
 obtain ⟨x, H1, e, q1, q2⟩ := h
 rw [sWh]
 dsimp only
 rw [e]
 simp only [Zb]
 cases x with
 | true =>
  rw [if_pos rfl]
  obtain ⟨y, σ2, H2, e2, q⟩ := q1 rfl
  rw [e2]
  cases y with
  | nx => exact q
  | ct => exact q
  | bk => exact ⟨_, _, _, rfl, q⟩
  | rt d => exact ⟨_, _, _, rfl, q⟩
 | false => rw [if_neg (by simp)]; exact ⟨_, _, _, rfl, q2 rfl⟩
theorem Zl5 {t : TF} {b : SF} (Inv : Nat -> SD -> HD -> Prop) (st : ∀ m σ H, Inv m σ H -> wT (t σ H) fun x H1 => br x (∃ m', m = m' + 1 ∧ wS (b σ H1) (again (Inv m') R)) (R .nx σ H1)) : ∀ (n m : Nat) (σ : SD) (H : HD), m < n -> Inv m σ H -> wS (sWh t b n σ H) R
 | 0, m, σ, H, h, i => by omega
 | n + 1, m, σ, H, h, i => by
  refine w_wh ?_
  obtain ⟨x, H1, e, q1, q2⟩ := st m σ H i
  refine ⟨x, H1, e, fun hx => ?_, q2⟩
  obtain ⟨m', rfl, y, σ2, H2, e2, q⟩ := q1 hx
  refine ⟨y, σ2, H2, e2, ?_⟩
  cases y with
  | nx => exact Zl5 Inv st n m' σ2 H2 (by omega) q
  | ct => exact Zl5 Inv st n m' σ2 H2 (by omega) q
  | bk => exact q
  | rt d => exact q
theorem Zph {own : Zge} {c0 : SD} {tt : TF} {te : EF} {Q : List D -> HD -> Prop} (h : Zcp own H) (q : Q [] H) : wA (Zco own c0 tt te [] H) Q := ⟨_, _, by rw [Zco, if_pos h], q⟩
theorem Zlo {own : Zge} {c0 : SD} {tt : TF} {te : EF} {x : D} {r : List D} {Q : List D -> HD -> Prop} (h : Zcp own H)
  (q : wT (tt (some x :: c0) H) fun b H1 => br b (wE (te (some x :: c0) H1) fun e H2 => wA (Zco own c0 tt te r H2) fun es H3 => Q (e :: es) H3) (wA (Zco own c0 tt te r H1) Q)) : wA (Zco own c0 tt te (x :: r) H) Q := by
 obtain ⟨b, H1, e1, q1, q2⟩ := q
 rw [Zco, if_pos h, e1]
 simp only [Zb]
 cases b with
 | true =>
  obtain ⟨e, H2, e2, es, H3, e3, q⟩ := q1 rfl
  exact ⟨e :: es, H3, by rw [if_pos rfl, e2]; simp only [Zb]; rw [e3]; rfl, q⟩
 | false => rw [if_neg (by simp)]; exact q2 rfl
theorem w_yes {Q : Bool -> HD -> Prop} (q : Q true H) : wT (Zel σ H) Q := ⟨_, _, rfl, q⟩
theorem Zrk {own : Zge} {c0 : SD} {tt : TF} {te : EF} (Inv : List D -> List D -> List D -> HD -> Prop) (ho : ∀ d t o H, Inv d t o H -> Zcp own H)
  (st : ∀ d x t o H, Inv d (x :: t) o H -> wT (tt (some x :: c0) H) fun b H1 => br b (wE (te (some x :: c0) H1) fun e H2 => Inv (d ++ [x]) t (o ++ [e]) H2) (Inv (d ++ [x]) t o H1))
  {Q : List D -> HD -> Prop} : ∀ (t d o : List D) (H : HD), Inv d t o H -> (∀ d o' H', Inv d [] (o ++ o') H' -> Q o' H') -> wA (Zco own c0 tt te t H) Q
 | [], d, o, H, i, q => Zph (ho _ _ _ _ i) (q d [] H (by rw [List.append_nil]; exact i))
 | x :: t, d, o, H, i, q => by
  refine Zlo (ho _ _ _ _ i) ?_
  obtain ⟨b, H1, e1, q1, q2⟩ := st d x t o H i
  refine ⟨b, H1, e1, fun h => ?_, fun h => ?_⟩
  ·obtain ⟨e, H2, e2, k⟩ := q1 h
   refine ⟨e, H2, e2, ?_⟩
   refine Zrk Inv ho st t _ _ H2 k fun d' o' H' i' => q d' (e :: o') H' ?_
   rw [List.append_assoc] at i'; exact i'
  ·exact Zrk Inv ho st t _ _ H1 (q2 h) fun d' o' H' i' => q d' o' H' i'
theorem Zhq {own : Zge} {c0 : SD} {tt : TF} (f : D -> Bool) (J : HD -> Prop) (ho : ∀ H, J H -> Zcp own H) {Q : List D -> HD -> Prop} : ∀ (xs : List D) (st : ∀ x ∈ xs, ∀ H, J H -> wT (tt (some x :: c0) H) fun b H1 => b = f x ∧ J H1) (H : HD), J H -> (∀ H', J H' -> Q (xs.filter f) H') -> wA (Zco own c0 tt (Zad 0) xs H) Q
 | [], st, H, j, q => Zph (ho H j) (q H j)
 | x :: xs, st, H, j, q => by
  refine Zlo (ho H j) ?_
  obtain ⟨b, H1, e, rfl, j1⟩ := st x (by simp) H j
  refine ⟨_, H1, e, fun h => ?_, fun h => ?_⟩
  ·refine ⟨x, H1, rfl, ?_⟩
   refine Zhq f J ho xs (fun y hy => st y (by simp [hy])) H1 j1 fun H' j' => ?_
   have := q H' j'
   rwa [List.filter_cons_of_pos h] at this
  ·refine Zhq f J ho xs (fun y hy => st y (by simp [hy])) H1 j1 fun H' j' => ?_
   have := q H' j'
   rwa [List.filter_cons_of_neg (by rw [h]; simp)] at this
theorem Zkj {own : Zge} {c0 : SD} {te : EF} (g : D -> D) (J : HD -> Prop) (ho : ∀ H, J H -> Zcp own H) {Q : List D -> HD -> Prop} : ∀ (xs : List D) (st : ∀ x ∈ xs, ∀ H, J H -> wE (te (some x :: c0) H) fun d H1 => d = g x ∧ J H1) (H : HD), J H -> (∀ H', J H' -> Q (xs.map g) H') -> wA (Zco own c0 Zel te xs H) Q
 | [], st, H, j, q => Zph (ho H j) (q H j)
 | x :: xs, st, H, j, q => by
  refine Zlo (ho H j) (w_yes (w_bt ?_))
  obtain ⟨b, H1, e, rfl, j1⟩ := st x (by simp) H j
  exact ⟨_, H1, e, Zkj g J ho xs (fun y hy => st y (by simp [hy])) H1 j1 q⟩
end
structure Fm (S : List Nat) (H H' : HD) : Prop where
 old : ∀ (m : Nat) (o : DO), m ∉ S -> H[m]? = some o -> H'[m]? = some o ∨ ∃ kvs, o = .dic kvs false ∧ H'[m]? = some (.dic kvs true)
 len : H.length ≤ H'.length
theorem Fm.refl {S : List Nat} {H : HD} : Fm S H H := ⟨fun _ _ _ h => .inl h, Nat.le_refl _⟩
theorem Fm.trans {S : List Nat} {H H1 H2 : HD} (a : Fm S H H1) (b : Fm S H1 H2) : Fm S H H2 := by
 refine ⟨fun m o hm h => ?_, Nat.le_trans a.len b.len⟩
 rcases a.old m o hm h with h1 | ⟨kvs, rfl, h1⟩
 ·exact b.old m o hm h1
 ·rcases b.old m _ hm h1 with h2 | ⟨k2, e, _⟩
  ·exact .inr ⟨kvs, rfl, h2⟩
  ·cases e
theorem Fm.app {S : List Nat} {H : HD} (L : HD) : Fm S H (H ++ L) := ⟨fun m o _ q => .inl (by
 have : m < H.length := (List.getElem?_eq_some_iff.mp q).1
 rw [List.getElem?_append_left this]; exact q), by simp⟩
theorem Fm.set {S : List Nat} {H : HD} {p : Nat} {o : DO} (h : p ∈ S) : Fm S H (H.set p o) := ⟨fun m u hm q => .inl (by rw [List.getElem?_set_ne (fun z => hm (by rw [← z]; exact h))]; exact q), by simp⟩
theorem Fm.new {S T : List Nat} {H H1 H' : HD} (a : Fm S H H1) (b : Fm T H1 H') (h : ∀ m ∈ T, m ∉ S -> H.length ≤ m) : Fm S H H' := by
 refine ⟨fun m o hm q => ?_, Nat.le_trans a.len b.len⟩
 have lt : m < H.length := (List.getElem?_eq_some_iff.mp q).1
 have ht : m ∉ T := fun z => by have := h m z hm; omega
 rcases a.old m o hm q with h1 | ⟨kvs, rfl, h1⟩
 ·exact b.old m o ht h1
 ·rcases b.old m _ ht h1 with h2 | ⟨k2, e, _⟩
  ·exact .inr ⟨kvs, rfl, h2⟩
  ·cases e
theorem Fm.lst {S : List Nat} {H H' : HD} (x : Fm S H H') {m : Nat} {xs : List D} (hm : m ∉ S) (h : H[m]? = some (.lst xs)) : H'[m]? = some (.lst xs) := by
 rcases x.old m _ hm h with h1 | ⟨k2, e, _⟩
 ·exact h1
 ·cases e
theorem _root_.DL.Ext.fm {n : Nat} {H H' : HD} (x : Ext n H H') : Fm [n] H H' := ⟨fun m o hm q => .inl (x.old m o (by simpa using hm) q), x.len⟩
theorem _root_.LH.ExtS.fm {S : List Nat} {H H' : HD} (x : ExtS S H H') : Fm S H H' := ⟨fun m o hm q => .inl (x.old m o hm q), x.len⟩
theorem isl {H : HD} {n : Nat} {xs : List D} (h : H[n]? = some (.lst xs)) : Zhy (.ref n) H = true := by simp [Zhy, h]
theorem own1 {H : HD} {n : Nat} {o : DO} (h : H[n]? = some o) : Zcp [(n, o)] H := by intro p hp; simp at hp; subst hp; exact h
theorem Zt7 {H : HD} : Zcp [] H := by intro p hp; cases hp
theorem last {H : HD} {o : DO} : (H ++ [o])[H.length]? = some o := by simp
theorem appL {H : HD} {n : Nat} {o u : DO} (h : H[n]? = some o) : (H ++ [u])[n]? = some o := by
 rw [List.getElem?_append_left (List.getElem?_eq_some_iff.mp h).1]; exact h
theorem setO {H : HD} {n m : Nat} {o u : DO} (hn : n ≠ m) (h : H[m]? = some o) : (H.set n u)[m]? = some o := by rw [List.getElem?_set_ne hn]; exact h
theorem setS {H : HD} {n : Nat} {o u : DO} (h : H[n]? = some u) : (H.set n o)[n]? = some o := List.getElem?_set_self (List.getElem?_eq_some_iff.mp h).1
structure Fine (d : D) (x : PyData) (h : Nat) : Prop where
 to : ∀ H n, toP H n d = some x
 lay : x.canLay0 = true
 dep : x.depth ≤ h
theorem Fine.int (i : Int) : Fine (.int i) (.int i) 0 := ⟨fun H n => Zlk H n i, rfl, Nat.le_refl _⟩
theorem Fine.bl (b : Bool) : Fine (.bl b) (.bool b) 0 := ⟨fun H n => Zrs H n b, rfl, Nat.le_refl _⟩
structure Fines (ds : List D) (xs : List PyData) (h : Nat) : Prop where
 to : ∀ H n, Zh7 H n ds = some xs
 lay : PyData.canLayAll0 xs = true
 dep : PyData.depthAll xs ≤ h
 len : xs.length = ds.length
theorem Fines.nil {h : Nat} : Fines [] [] h := ⟨fun H n => by rw [Zh7], rfl, Nat.zero_le _, rfl⟩
theorem Fines.cons {d : D} {x : PyData} {ds : List D} {xs : List PyData} {h : Nat} (a : Fine d x h) (b : Fines ds xs h) : Fines (d :: ds) (x :: xs) h :=
 ⟨fun H n => by rw [Zh7, a.to, b.to]; rfl, by simp [PyData.canLayAll0, a.lay, b.lay], by simp only [PyData.depthAll]; exact Nat.max_le.mpr ⟨a.dep, b.dep⟩, by simp [b.len]⟩
theorem Fine.dat {d : D} {x : PyData} {h : Nat} (f : Fine d x h) (l : h ≤ 30) (H : HD) : DL.dat d H = some x := by
 unfold DL.dat
 rw [f.to]
 have : x.depth ≤ 30 := Nat.le_trans f.dep l
 simp [okP, f.lay, this]
theorem Fines.dat {ds : List D} {xs : List PyData} {h : Nat} (f : Fines ds xs h) (l : h < 30) {H : HD} {p : Nat} (g : H[p]? = some (.lst ds)) : DL.dat (.ref p) H = some (.list xs) := by
 unfold DL.dat
 rw [toP]
 simp only [g]
 rw [f.to]
 have : (PyData.list xs).depth ≤ 30 := Nat.le_trans (Nat.succ_le_succ f.dep) l
 have h2 : (PyData.list xs).canLay0 = true := f.lay
 simp [okP, h2, this]
theorem Zvy {a b : D} {x y : PyData} {H : HD} (h1 : dat a H = some x) (h2 : dat b H = some y) : neD a b H = some (.bl (!PyData.eqv x y), H) := by
 unfold neD
 cases e : Zmh a b with
 | none => rw [h1, h2]; rfl
 | some p =>
  obtain ⟨s, t⟩ := p
  unfold Zmh at e
  split at e
  ·cases e
   unfold dat at h1 h2
   rw [Zl1] at h1 h2
   simp only [Zb] at h1 h2
   split at h1
   ·split at h2
    ·cases h1; cases h2; simp [PyData.eqv]; rfl
    ·cases h2
   ·cases h1
  ·cases e
variable {H : HD} {Q : D -> HD -> Prop}
theorem w_neF {a b : D} {x y : PyData} {h k : Nat} (f : Fine a x h) (g : Fine b y k) (hh : h ≤ 30) (hk : k ≤ 30) (q : Q (.bl (!PyData.eqv x y)) H) : wE (neD a b H) Q := ⟨_, _, Zvy (f.dat hh H) (g.dat hk H), q⟩
theorem w_inL {a : D} {x : PyData} {h k p : Nat} {ds : List D} {xs : List PyData} (f : Fine a x h) (g : Fines ds xs k) (hh : h ≤ 30) (hk : k < 30) (hp : H[p]? = some (.lst ds)) (q : Q (.bl (xs.any fun z => PyData.eqv z x)) H) : wE (inD a (.ref p) H) Q :=
 ⟨_, _, by unfold inD; rw [f.dat hh, Zb, g.dat hk hp]; rfl, q⟩
theorem w_neI {i j : Int} (q : Q (.bl (!(i == j))) H) : wE (neD (.int i) (.int j) H) Q := w_neF (.int i) (.int j) (by omega) (by omega) (by simpa [PyData.eqv] using q)
end WP
set_option maxHeartbeats 8000000
namespace K08
open PySem L2 DL
noncomputable def k_TRUTHS : D := (.tup [(.bl false), (.bl true)])
noncomputable def Zb2 : SF :=
 (Zal (Za0 1 eDN)
 (Zal (Zea (Zth (Zaa (Zad 0) Zai)) (gTp 2 (gCn (gNm 2) (gCn (gNm 3) gNl))) (Zal (Zc8 (eDM Zh0 (Zad 1) (Zaa (Zad 3) (Zaa (Zad 2) Zai))))
 Zav))
 (Zal (Zcc (Zad 1))
 Zav)))
noncomputable def Zbw : FF := Zb7 1 4 Zb2
noncomputable def Zcm : SF :=
 (Zal (Za0 3 (eIf (Zol (Zad 2)) (Zad 1) (eUn Zh2 (Zad 1))))
 (Zal (Za0 4 eDN)
 (Zal (Zea (iDic (Zad 0)) (gNm 5) (Zal (Za0 6 (eIf (Zol (Zad 5)) (eOp ixD (Zad 5) (eC (.int 0))) (eC (.int 0))))
 (Zal (sIf (tOf (eOp eqD (Zad 6) (eUn Zh2 (Zad 3)))) (Zal (Zc8 (eDM Zh0 (Zad 4) (Zaa (eSl (Zad 5) (Zd9 (eC (.int 1))) Zex) (Zaa (eOp Zd0 (Zad 0) (Zad 5)) Zai))))
 Zav) (Zal (sIf (tOf (eOp neD (Zad 6) (Zad 3))) (Zal (Zc8 (eDM Zh0 (Zad 4) (Zaa (Zad 5) (Zaa (eOp Zd0 (Zad 0) (Zad 5)) Zai))))
 Zav) Zav)
 Zav))
 Zav)))
 (Zal (Zcc (Zad 4))
 Zav))))
noncomputable def Zaz : FF := Zb7 3 7 Zcm
noncomputable def Zbi : SF :=
 (Zal (Za0 2 (Zaj 1 Zbw (Zaa (Zad 0) Zai)))
 (Zal (Zea (Zmx (Zaa (Zad 1) Zai)) (gTp 2 (gCn (gNm 3) (gCn (gNm 4) gNl))) (Zal (Za0 2 (Zaj 3 Zaz (Zaa (Zad 2) (Zaa (Zad 3) (Zaa (Zad 4) Zai)))))
 Zav))
 (Zal (Zcc (Zad 2))
 Zav)))
noncomputable def Zbf : FF := Zb7 2 5 Zbi
noncomputable def Zc3 : SF :=
 (Zal (Zcc (eIf (tOf (eOp eqD (Zad 0) (eC (.str "some")))) (eC (.str "all")) (eC (.str "some"))))
 Zav)
noncomputable def Zb0 : FF := Zb7 1 1 Zc3
noncomputable def Zay (F : FF) : SF :=
 (Zal (sIf (tOf (eOp dinD (Zd3 Zai) (Zad 1))) (Zal (Zcc (eC (.str "all")))
 Zav) Zav)
 (Zal (sIf (tOf (eOp eqD (eCB Znn (Zaa (Zad 1) Zai)) (eC (.int 0)))) (Zal (Zcc (eC (.str "some")))
 Zav) Zav)
 (Zal (Za0 3 (eOp ixD (Zad 0) (Zad 2)))
 (Zal (Zea (iSq (eC k_TRUTHS)) (gNm 4) (Zal (sIf (tOf (eOp eqD (Zaj 3 F (Zaa (Zad 0) (Zaa (Zaj 3 Zaz (Zaa (Zad 1) (Zaa (eOp Zbd (Zad 2) (eC (.int 1))) (Zaa (Zad 4) Zai)))) (Zaa (eOp Zbd (Zad 2) (eC (.int 1))) Zai)))) (Zad 3))) (Zal (Zcc (Zad 3))
 Zav) Zav)
 Zav))
 (Zal (Zcc (Zaj 1 Zb0 (Zaa (Zad 3) Zai)))
 Zav)))))
noncomputable def Zbt : FF := Zw7 3 5 Zay 10
noncomputable def Zft : SF :=
 (Zal (Zcc (Zaj 3 Zbt (Zaa (eOp ixD (Zad 0) (eC (.int 0))) (Zaa (Zaj 2 Zbf (Zaa (eOp ixD (Zad 0) (eC (.int 1))) (Zaa (Zad 1) Zai))) (Zaa (eCB Zdb (Zaa (Zad 1) Zai)) Zai)))))
 Zav)
noncomputable def Zcz : FF := Zb7 2 2 Zft
noncomputable def Zc2 : SF :=
 (Zal (sIf (tOf (eOp eqD (Zad 0) (Zad 1))) (Zal (Zcc (Zad 2))
 Zav) Zav)
 (Zal (Zcc (eIf (tOf (eCh leD ltD (Zad 2) (Zad 0) (Zad 1))) (eOp Zbd (Zad 0) (eC (.int 1))) (Zad 0)))
 Zav))
noncomputable def Zd5 : FF := Zb7 3 3 Zc2
noncomputable def Zb1 : SF :=
 (Zal (Za0 3 (Zaj 3 Zd5 (Zaa (eCB Zna (Zaa (Zad 0) Zai)) (Zaa (Zad 1) (Zaa (Zad 2) Zai)))))
 (Zal (Zcc (eIf (tOf (eOp gtD (Zad 0) (eC (.int 0)))) (Zad 3) (eUn Zh2 (Zad 3))))
 Zav))
noncomputable def Zci : FF := Zb7 3 4 Zb1
noncomputable def Zdr : SF :=
 (Zal (Zcc (eCB Zby (Zaa (eCB Zij (Zaa (eLC (iSq (Zad 0)) [1, 2] Zel (Zaj 3 Zci (Zaa (Zad 0) (Zaa (Zad 1) (Zaa (Zad 2) Zai))))) Zai)) Zai)))
 Zav)
noncomputable def Zeo : FF := Zb7 3 3 Zdr
noncomputable def Zg4 : SF :=
 (Zal (Za0 3 (eOp ixD (Zad 0) (eC (.int 0))))
 (Zal (Za0 4 (eOp Zbd (eOp Zbd (eOp Zbd (eSl (Zad 3) Zex (Zd9 (eOp Ze0 (Zad 2) (eC (.int 1))))) (Zd3 (Zaa (eOp ixD (Zad 3) (eOp Ze0 (Zad 1) (eC (.int 1)))) Zai))) (eSl (Zad 3) (Zd9 (eOp Ze0 (Zad 2) (eC (.int 1)))) (Zd9 (eOp Ze0 (Zad 1) (eC (.int 1)))))) (eSl (Zad 3) (Zd9 (Zad 1)) Zex)))
 (Zal (Zcc (Zd3 (Zaa (Zad 4) (Zaa (eCB Zby (Zaa (eLC (iSq (eOp ixD (Zad 0) (eC (.int 1)))) [1, 2] Zel (Zaj 3 Zeo (Zaa (Zad 0) (Zaa (Zad 1) (Zaa (Zad 2) Zai))))) Zai)) Zai))))
 Zav)))
noncomputable def Zi7 : FF := Zb7 3 5 Zg4
noncomputable def Zec : SF :=
 (Zal (Za0 2 (eOp ixD (eOp ixD (Zad 0) (eC (.int 0))) (eOp Ze0 (Zad 1) (eC (.int 1)))))
 (Zal (sIf (tOf (eOp neD (Zaj 2 Zcz (Zaa (Zad 0) (Zaa (Zd3 Zai) Zai))) (Zad 2))) (Zal sErr
 Zav) Zav)
 (Zal (Za0 3 (Zad 1))
 (Zal (sWh (tAn (tOf (eOp gtD (Zad 3) (eC (.int 1)))) (tOf (eOp eqD (Zaj 2 Zcz (Zaa (Zaj 3 Zi7 (Zaa (Zad 0) (Zaa (Zad 1) (Zaa (eOp Ze0 (Zad 3) (eC (.int 1))) Zai)))) (Zaa (Zd3 Zai) Zai))) (Zad 2)))) (Zal (sAug (fun i j => i - j) 3 (eC (.int 1)))
 Zav) 1000)
 (Zal (Zcc (Zad 3))
 Zav)))))
noncomputable def Zek : FF := Zb7 2 4 Zec
noncomputable def Zds : XFs :=
 (xSeq (Za0 2 (eOp ixD (eOp ixD (Zad 0) (eC (.int 0))) (eOp Ze0 (Zad 1) (eC (.int 1)))))
 (xIf (tOf (eOp neD (Zaj 2 Zcz (Zaa (Zad 0) (Zaa (Zd3 Zai) Zai))) (Zad 2))) (Zkk (eFS (Zad 2) " does not win this claim"))))
noncomputable def Ze6 : XFF := Zy1 2 4 Zds
noncomputable def Zcq : SF :=
 (Zal (Za0 2 (eC (.int 0)))
 (Zal (sIf (tOf (eOp ltD (Zad 1) (eCB Zdb (Zaa (Zad 0) Zai)))) (Zal (Za0 2 (eOp ixD (Zad 0) (Zad 1)))
 Zav) Zav)
 (Zal (Za0 3 (eC (.int 0)))
 (Zal (sIf (tOf (eOp geD (Zad 2) (eOp Zl9 (eC (.int 10)) (eC (.int 18))))) (Zal (Za0 3 (eOp Ze0 (Zad 2) (eOp Zl9 (eC (.int 10)) (eC (.int 18)))))
 Zav) Zav)
 (Zal (Za0 4 (eOp Zf0 (eOp Zbd (eOp Zbd (eOp Zf2 (eOp Zf0 (Zad 2) (eC (.int 2147483647))) (eC (.int 48271))) (eOp Zf2 (eC (.int 7919)) (Zad 1))) (eC (.int 5))) (eC (.int 2147483629))))
 (Zal (Zcc (Zb6 (Zaa (Zad 3) (Zaa (eOp Zbd (eOp Zf0 (eOp Zl9 (Zad 4) (eC (.int 5))) (eC (.int 2147483587))) (eC (.int 1))) Zai))))
 Zav))))))
noncomputable def Zdl : FF := Zb7 2 5 Zcq
noncomputable def Zct : SF :=
 (Zal (sIf (tOf (eOp gtD (eOp ixD (Zad 0) (eC (.int 0))) (eC (.int 0)))) (Zal (Za0 2 (eOp Zf0 (eOp ixD (Zad 0) (eC (.int 0))) (Zad 1)))
 (Zal (Zoh (eOp Zfy (eOp ixD (Zad 0) (eC (.int 0))) (Zad 1)) (gSb (Zad 0) (eC (.int 0)) Zt8))
 (Zal (Zcc (Zad 2))
 Zav))) Zav)
 (Zal (Zoh (eOp Zf0 (eOp Zbd (eOp Zf2 (eOp ixD (Zad 0) (eC (.int 1))) (eC (.int 69621))) (eC (.int 12345))) (eC (.int 2147483647))) (gSb (Zad 0) (eC (.int 1)) Zt8))
 (Zal (Zcc (eOp Zf0 (eOp Zfy (eOp ixD (Zad 0) (eC (.int 1))) (eC (.int 8191))) (Zad 1)))
 Zav)))
noncomputable def m_law_take : FF := Zb7 2 3 Zct
noncomputable def Zdj : SF :=
 (Zal (Zcc (eOp ixD (Zad 1) (Zaj 2 m_law_take (Zaa (Zad 0) (Zaa (eCB Zdb (Zaa (Zad 1) Zai)) Zai)))))
 Zav)
noncomputable def Zas : FF := Zb7 2 2 Zdj
noncomputable def Zdv : SF :=
 (Zal (Zcc (eAn (eCB Zu8 (Zaa (Zad 0) (Zaa (eC (.ty "int")) Zai))) (eNo (eCB Zu8 (Zaa (Zad 0) (Zaa (eC (.ty "bool")) Zai))))))
 Zav)
noncomputable def Zdu : FF := Zb7 1 1 Zdv
noncomputable def Zdq : SF :=
 (Zal (Za0 2 (Zb6 (Zaa (eC (.int 1)) (Zaa (eC (.int 2)) (Zaa (eC (.int 2)) (Zaa (eC (.int 3)) (Zaa (eC (.int 3)) (Zaa (eC (.int 4)) (Zaa (eC (.int 2)) (Zaa (eC (.int 3)) (Zaa (eC (.int 1)) (Zaa (eOp Zbd (eC (.int 5)) (Zaj 2 m_law_take (Zaa (Zad 0) (Zaa (eC (.int 4)) Zai)))) (Zaa (eC (.int 2)) (Zaa (eOp Zf2 (eC (.int 2)) (eCB Zrz (Zaa (eOp gtD (Zaj 2 m_law_take (Zaa (Zad 0) (Zaa (eC (.int 6)) Zai))) (eC (.int 0))) Zai))) Zai))))))))))))))
 (Zal (Za0 3 (eCB Zok (Zaa (Zad 1) (Zaa (Zaj 2 Zas (Zaa (Zad 0) (Zaa (Zad 2) Zai))) Zai))))
 (Zal (Za0 4 (Zz6 (Zaa (eC (.int 1)) (Zaa (eOp Zbd (Zad 1) (eC (.int 1))) Zai))))
 (Zal (Za0 5 (Zb6 Zai))
 (Zal (Zea (iR1 (Zaa (Zad 3) Zai)) (gNm 6) (Zal (Zc8 (eLM Zb3 (Zad 5) (Zaa (eLM Zxl (Zad 4) (Zaa (Zaj 2 m_law_take (Zaa (Zad 0) (Zaa (eCB Zdb (Zaa (Zad 4) Zai)) Zai))) Zai)) Zai)))
 Zav))
 (Zal (Zcc (eCB Zby (Zaa (eLC (iSq (eCB Zf9 (Zaa (Zad 5) Zai))) [0] Zel (eOp ixD (Zb6 (Zaa (Zad 0) (Zaa (eUn Zh2 (Zad 0)) Zai))) (Zaj 2 m_law_take (Zaa (Zad 1) (Zaa (eC (.int 2)) Zai))))) Zai)))
 Zav))))))
noncomputable def m_law_row : FF := Zb7 2 7 Zdq
noncomputable def Zcs : SF :=
 (Zal (Za0 2 (eOp Zbd (eC (.int 1)) (Zaj 2 m_law_take (Zaa (Zad 0) (Zaa (eC (.int 25)) Zai)))))
 (Zal (sIf (tOf (eOp eqD (Zaj 2 m_law_take (Zaa (Zad 0) (Zaa (eC (.int 2)) Zai))) (eC (.int 0)))) (Zal (Zcc (Zd3 (Zaa (eOp ixD (Zad 1) (eC (.int 0))) (Zaa (eOp Zbd (eOp Zf2 (eSl (eOp ixD (Zad 1) (eC (.int 1))) Zex (Zd9 (eC (.int 1)))) (Zad 2)) (eOp ixD (Zad 1) (eC (.int 1)))) Zai))))
 Zav) Zav)
 (Zal (Zcc (Zd3 (Zaa (eOp ixD (Zad 1) (eC (.int 0))) (Zaa (eOp Zbd (eCB Zby (Zaa (eLC (iR1 (Zaa (Zad 2) Zai)) [0, 1] Zel (Zaj 2 m_law_row (Zaa (Zad 1) (Zaa (eCB Zdb (Zaa (eOp ixD (Zad 2) (eC (.int 0))) Zai)) Zai)))) Zai)) (eOp ixD (Zad 1) (eC (.int 1)))) Zai))))
 Zav)))
noncomputable def Zee : FF := Zb7 2 3 Zcs
noncomputable def Zce : SF :=
 (Zal (Za0 3 (Zaj 2 Zas (Zaa (Zad 0) (Zaa (Zb6 (Zaa (Zad 1) (Zaa (eOp Ze0 (Zad 1) (eC (.int 1))) (Zaa (Zad 1) (Zaa (eOp Ze0 (Zad 1) (eC (.int 2))) (Zaa (Zad 1) (Zaa (Zaj 2 m_law_take (Zaa (Zad 0) (Zaa (eOp Zbd (Zad 1) (eC (.int 1))) Zai))) Zai))))))) Zai))))
 (Zal (Za0 4 (Zaj 2 m_law_take (Zaa (Zad 0) (Zaa (eC (.int 4)) Zai))))
 (Zal (Za0 5 (eLC (iR1 (Zaa (Zad 3) Zai)) [0] Zel (Zaj 2 Zas (Zaa (Zad 1) (Zaa (Zb6 (Zaa (eC (.str "all")) (Zaa (eC (.str "some")) Zai))) Zai)))))
 (Zal (sIf (tOf (eOp eqD (Zad 4) (eC (.int 0)))) (Zal (Za0 5 (eLC (iR1 (Zaa (Zad 3) Zai)) [] Zel (eOp ixD (Zb6 (Zaa (eC (.str "some")) (Zaa (eC (.str "all")) Zai))) (eOp Zf0 (Zad 0) (eC (.int 2))))))
 Zav) Zav)
 (Zal (Za0 6 (Zaj 2 Zas (Zaa (Zad 0) (Zaa (Zb6 (Zaa (Zad 3) (Zaa (eOp Zbd (Zad 3) (eOp Zfy (Zad 3) (eC (.int 2)))) (Zaa (eOp Zf2 (eC (.int 2)) (Zad 3)) (Zaa (eOp Zbd (eOp Zfy (Zad 3) (eC (.int 2))) (eC (.int 1))) (Zaa (Zaj 2 m_law_take (Zaa (Zad 0) (Zaa (eOp Zbd (Zad 2) (eC (.int 1))) Zai))) (Zaa (eC (.int 2)) Zai))))))) Zai))))
 (Zal (Za0 7 (eLC (iR1 (Zaa (eCB Zok (Zaa (Zad 2) (Zaa (Zad 6) Zai))) Zai)) [0, 3] Zel (Zaj 2 m_law_row (Zaa (Zad 1) (Zaa (Zad 2) Zai)))))
 (Zal (sIf (tAn (tOf (eOp neD (Zad 7) (Zb6 Zai))) (tOf (eOp eqD (Zaj 2 m_law_take (Zaa (Zad 0) (Zaa (eC (.int 6)) Zai))) (eC (.int 0))))) (Zal (Zc8 (eLM Zb3 (Zad 7) (Zaa (Zaj 2 Zas (Zaa (Zad 0) (Zaa (Zad 7) Zai))) Zai)))
 Zav) Zav)
 (Zal (Zcc (Zd3 (Zaa (eCB Zby (Zaa (Zad 5) Zai)) (Zaa (eCB Zby (Zaa (eSl (Zad 7) Zex (Zd9 (Zad 2))) Zai)) Zai))))
 Zav))))))))
noncomputable def Zcw : FF := Zb7 3 8 Zce
noncomputable def Zeh : SF :=
 (Zal (Zea (iSq (Zad 0)) (gNm 2) (Zal (sIf (tAn (tOf (eOp leD (eCB Zna (Zaa (Zad 2) Zai)) (eCB Zdb (Zaa (Zad 1) Zai)))) (tOf (eOp eqD (eOp ixD (Zad 1) (eOp Ze0 (eCB Zna (Zaa (Zad 2) Zai)) (eC (.int 1)))) (eOp gtD (Zad 2) (eC (.int 0)))))) (Zal (Zcc (eC (.bl true)))
 Zav) Zav)
 Zav))
 (Zal (Zcc (eC (.bl false)))
 Zav))
noncomputable def Zdm : FF := Zb7 2 3 Zeh
noncomputable def Zen : SF :=
 (Zal (Za0 1 (Zb6 (Zaa (Zb6 (Zaa (Zd3 Zai) Zai)) Zai)))
 (Zal (Zea (iR1 (Zaa (Zad 0) Zai)) (gNm 2) (Zal (Za0 5 (Zb6 Zai))
 (Zal (Zea (iSq (eOp ixD (Zad 1) (eUn Zh2 (eC (.int 1))))) (gNm 6) (Zal (Za0 5 (eOp Zbd (Zad 5) (Zb6 (Zaa (eOp Zbd (Zad 6) (Zd3 (Zaa (eC (.bl false)) Zai))) (Zaa (eOp Zbd (Zad 6) (Zd3 (Zaa (eC (.bl true)) Zai))) Zai)))))
 Zav))
 (Zal (Zc8 (eLM Zb3 (Zad 1) (Zaa (Zad 5) Zai)))
 Zav))))
 (Zal (Za0 3 (Zb6 Zai))
 (Zal (Zea (Zxk (Zaa (Zad 1) Zai)) (gNm 4) (Zal (Za0 3 (eOp Zbd (Zad 3) (Zad 4)))
 Zav))
 (Zal (Zcc (Zad 3))
 Zav)))))
noncomputable def Zbz : FF := Zb7 1 7 Zen
noncomputable def Zb4 : SF :=
 (Zal (Za0 1 eDN)
 (Zal (Zea (iSq (Zaj 1 Zbz (Zaa (eCB Zdb (Zaa (eOp ixD (Zad 0) (eC (.int 0))) Zai)) Zai))) (gNm 2) (Zal (sIf (tOf (eOp eqD (eCB Zdb (Zaa (Zad 2) Zai)) (eCB Zdb (Zaa (eOp ixD (Zad 0) (eC (.int 0))) Zai)))) (Zal (Zoh (eOp ixD (Zb6 (Zaa (eC (.str "all")) (Zaa (eC (.str "some")) Zai))) (eCB Zrz (Zaa (eOp niD (eC (.bl false)) (eLC (iSq (eOp ixD (Zad 0) (eC (.int 1)))) [2] Zel (Zaj 2 Zdm (Zaa (Zad 0) (Zaa (Zad 1) Zai))))) Zai))) (gSb (Zad 1) (Zad 2) Zlj))
 Zav) (Zal (Za0 3 (eOp ixD (eOp ixD (Zad 0) (eC (.int 0))) (eCB Zdb (Zaa (Zad 2) Zai))))
 (Zal (Za0 4 (Zb6 (Zaa (eOp Zd0 (Zad 1) (eOp Zbd (Zad 2) (Zd3 (Zaa (eC (.bl false)) Zai)))) (Zaa (eOp Zd0 (Zad 1) (eOp Zbd (Zad 2) (Zd3 (Zaa (eC (.bl true)) Zai)))) Zai))))
 (Zal (Zoh (eIf (tOf (eOp inD (Zad 3) (Zad 4))) (Zad 3) (eOp ixD (Zad 4) (eC (.int 0)))) (gSb (Zad 1) (Zad 2) Zlj))
 Zav))))
 Zav))
 (Zal (Zcc (Zad 1))
 Zav)))
noncomputable def Za8 : FF := Zb7 1 5 Zb4
noncomputable def Zdt : SF :=
 (Zal (Za0 3 (eLC (iR2 (Zaa (eC (.int 1)) (Zaa (eOp Zbd (eCB Zdb (Zaa (eOp ixD (Zad 0) (eC (.int 0))) Zai)) (eC (.int 1))) Zai))) [1] (tOf (eOp neD (Zad 0) (Zad 1))) (Zad 0)))
 (Zal (Zc8 (eLM Zg9 (Zad 3) (Zaa (eOp Ze0 (Zad 2) (eC (.int 1))) (Zaa (Zad 1) Zai))))
 (Zal (Za0 4 (eCB Zj0 (Zaa (Zx0 (Znc (Zaa (Zad 3) Zai)) [] Zel (Zd3 (Zaa (Zad 1) (Zaa (eOp Zbd (Zad 0) (eC (.int 1))) Zai)))) Zai)))
 (Zal (Za0 5 (Zb6 Zai))
 (Zal (Zea (iSq (eOp ixD (Zad 0) (eC (.int 1)))) (gNm 6) (Zal (Za0 7 (eLC (iSq (Zad 6)) [4] Zel (eOp Zf2 (eOp Zs9 (Zad 1) (eCB Zna (Zaa (Zad 0) Zai))) (eOp ixD (Zb6 (Zaa (eC (.int 1)) (Zaa (eUn Zh2 (eC (.int 1))) Zai))) (eCB Zrz (Zaa (eOp ltD (Zad 0) (eC (.int 0))) Zai))))))
 (Zal (Zc8 (eLM Zb3 (Zad 5) (Zaa (eCB Zby (Zaa (eCB Zij (Zaa (Zad 7) Zai)) Zai)) Zai)))
 Zav)))
 (Zal (Zcc (Zd3 (Zaa (eCB Zby (Zaa (eLC (iSq (Zad 3)) [0] Zel (eOp ixD (eOp ixD (Zad 1) (eC (.int 0))) (eOp Ze0 (Zad 0) (eC (.int 1))))) Zai)) (Zaa (eCB Zby (Zaa (Zad 5) Zai)) Zai))))
 Zav))))))
noncomputable def Zcr : FF := Zb7 3 8 Zdt
noncomputable def Zck : SF :=
 (Zal (Za0 2 (eC (.str "told")))
 (Zal (Zz9 2 3 4 2 "won" Ze6 (Zaa (Zad 0) (Zaa (Zad 1) Zai)))
 (Zal (Zcc (Zad 2))
 Zav)))
noncomputable def Zcl : FF := Zb7 2 5 Zck
noncomputable def Zqe : SF :=
 (Zal (Zea (iR2 (Zaa (eC (.int 0)) (Zaa (eCB maxD (Zaa (eC (.int 1)) (Zaa (eCB Zok (Zaa (eC (.int 3)) (Zaa (eCB Zdb (Zaa (Zad 0) Zai)) Zai))) Zai))) Zai))) (gNm 1) (Zal (Za0 2 (Zaj 2 Zdl (Zaa (Zad 0) (Zaa (Zad 1) Zai))))
 (Zal (Za0 3 (Zaj 3 Zcw (Zaa (Zad 2) (Zaa (eOp Ze0 (eC (.int 6)) (Zad 1)) (Zaa (eC (.int 10)) Zai)))))
 (Zal (sIf (tAn (tOf (eOp gtD (Zad 1) (eC (.int 0)))) (tOf (eOp eqD (Zaj 2 m_law_take (Zaa (Zad 2) (Zaa (eC (.int 4)) Zai))) (eC (.int 0))))) (Zal (Za0 3 (Zaj 2 Zee (Zaa (Zad 2) (Zaa (Zad 3) Zai))))
 Zav) Zav)
 (Zal (Za0 4 (eOp Zd0 (Zaj 1 Za8 (Zaa (Zad 3) Zai)) (Zd3 Zai)))
 (Zal (Zea (iR2 (Zaa (eC (.int 1)) (Zaa (eOp Zbd (eCB Zdb (Zaa (eOp ixD (Zad 3) (eC (.int 0))) Zai)) (eC (.int 1))) Zai))) (gNm 5) (Zal (sIf (tOf (eOp neD (eOp ixD (eOp ixD (Zad 3) (eC (.int 0))) (eOp Ze0 (Zad 5) (eC (.int 1)))) (Zad 4))) (Zal (sIf (tOf (eOp neD (Zaj 2 Zcl (Zaa (Zad 3) (Zaa (Zad 5) Zai))) (eC (.str "won")))) (Zal (Zcc (eC (.bl false)))
 Zav) Zav)
 Zav) (Zal (Za0 6 (eLC (iR2 (Zaa (eC (.int 1)) (Zaa (eOp Zbd (Zad 5) (eC (.int 1))) Zai))) [3, 4, 5] Zel (eOp eqD (eOp Zd0 (Zaj 1 Za8 (Zaa (Zaj 3 Zcr (Zaa (Zad 1) (Zaa (Zad 3) (Zaa (Zad 0) Zai)))) Zai)) (Zd3 Zai)) (Zad 2))))
 (Zal (Za0 7 (Zaj 2 Zek (Zaa (Zad 3) (Zaa (Zad 5) Zai))))
 (Zal (sIf (Zrx (tNo (Zol (Zaj 1 Zdu (Zaa (Zad 7) Zai)))) (tNo (tOf (eCh leD leD (eC (.int 1)) (Zad 7) (Zad 5))))) (Zal (Zcc (eC (.bl false)))
 Zav) Zav)
 (Zal (sIf (Zrx (tOf (eOp inD (eC (.bl true)) (eSl (Zad 6) Zex (Zd9 (eOp Ze0 (Zad 7) (eC (.int 1))))))) (tOf (eOp inD (eC (.bl false)) (eSl (Zad 6) (Zd9 (eOp Ze0 (Zad 7) (eC (.int 1)))) Zex)))) (Zal (Zcc (eC (.bl false)))
 Zav) Zav)
 Zav)))))
 Zav))
 Zav))))))
 (Zal (Zcc (eC (.bl true)))
 Zav))
noncomputable def Zny : FF := Zb7 1 8 Zqe
end K08
set_option maxHeartbeats 4000000
namespace K08
open PySem L2 DL LH
noncomputable def opn (bs : List Bool) (l : Int) : Bool := decide ((bs.length : Int) < Zbg l)
noncomputable def rig (bs : List Bool) (l : Int) : Bool := match bs[(Zbg l - 1).toNat]? with
 | some b => b == decide (0 < l)
 | none => false
noncomputable def kept (bs : List Bool) (ls : List Int) : Bool := ls.any (rig bs)
noncomputable def Zbv (bs : List Bool) (ls : List Int) : List Int := ls.filter (opn bs)
noncomputable def Ze9 (b : Int) : List Int -> List Int
 | [] => []
 | l :: r => if Zbg l = b + 1 then r else l :: r
noncomputable def Zjr (b : Int) (t : Bool) : List Int -> Bool
 | [] => false
 | l :: _ => decide (Zbg l = b + 1) && (t == decide (0 < l))
theorem Zfe {m : Int} (bs : List Bool) : ∀ (ls : List Int) (last : Int), Up m last ls -> (bs.length : Int) ≤ last -> Zbv bs ls = ls ∧ kept bs ls = false
 | [], _, _, _ => ⟨rfl, rfl⟩
 | l :: r, last, u, h => by
  obtain ⟨h1, h2, h3⟩ := u
  obtain ⟨a, b⟩ := Zfe bs r (Zbg l) h3 (by omega)
  have o : opn bs l = true := decide_eq_true (by omega)
  have g : rig bs l = false := by
   unfold rig
   rw [List.getElem?_eq_none (by omega)]
  refine ⟨?_, ?_⟩
  ·unfold Zbv; rw [List.filter_cons_of_pos o]; exact congrArg _ a
  ·unfold kept; rw [List.any_cons, g]; exact b
theorem Zwx {bs : List Bool} {t : Bool} {l : Int} (h : Zbg l ≤ bs.length) (h0 : 0 < Zbg l) : rig (bs ++ [t]) l = rig bs l := by
 unfold rig
 rw [List.getElem?_append_left (by omega)]
theorem Zf4 {m : Int} (bs : List Bool) (t : Bool) : ∀ (ls : List Int) (last : Int), 0 ≤ last -> Up m last ls -> Zbv (bs ++ [t]) ls = Ze9 bs.length (Zbv bs ls) ∧ kept (bs ++ [t]) ls = (kept bs ls || Zjr bs.length t (Zbv bs ls))
 | [], _, _, _ => ⟨rfl, rfl⟩
 | l :: r, last, h0, u => by
  obtain ⟨h1, h2, h3⟩ := u
  have la : (((bs ++ [t]).length : Nat) : Int) = bs.length + 1 := by simp
  by_cases c1 : Zbg l ≤ bs.length
  ·obtain ⟨a, b⟩ := Zf4 bs t r (Zbg l) (by omega) h3
   have o1 : opn bs l = false := decide_eq_false (by omega)
   have o2 : opn (bs ++ [t]) l = false := decide_eq_false (by rw [la]; omega)
   have e : Zbv bs (l :: r) = Zbv bs r := by unfold Zbv; rw [List.filter_cons_of_neg (by rw [o1]; simp)]
   have e' : Zbv (bs ++ [t]) (l :: r) = Zbv (bs ++ [t]) r := by unfold Zbv; rw [List.filter_cons_of_neg (by rw [o2]; simp)]
   rw [e, e']
   refine ⟨a, ?_⟩
   have k : ∀ cs, kept cs (l :: r) = (rig cs l || kept cs r) := fun cs => by unfold kept; rw [List.any_cons]
   rw [k, k, Zwx c1 (by omega), b, Bool.or_assoc]
  ·have o1 : opn bs l = true := decide_eq_true (by omega)
   obtain ⟨a1, a2⟩ := Zfe bs r (Zbg l) h3 (by omega)
   have e : Zbv bs (l :: r) = l :: r := by unfold Zbv; rw [List.filter_cons_of_pos o1]; exact congrArg _ a1
   have g1 : rig bs l = false := by unfold rig; rw [List.getElem?_eq_none (by omega)]
   have k : ∀ cs, kept cs (l :: r) = (rig cs l || kept cs r) := fun cs => by unfold kept; rw [List.any_cons]
   by_cases c2 : Zbg l = bs.length + 1
   ·obtain ⟨b1, b2⟩ := Zfe (bs ++ [t]) r (Zbg l) h3 (by rw [la]; omega)
    have o2 : opn (bs ++ [t]) l = false := decide_eq_false (by rw [la]; omega)
    have e' : Zbv (bs ++ [t]) (l :: r) = r := by unfold Zbv; rw [List.filter_cons_of_neg (by rw [o2]; simp)]; exact b1
    have g2 : rig (bs ++ [t]) l = (t == decide (0 < l)) := by
     unfold rig
     have : (Zbg l - 1).toNat = bs.length := by omega
     rw [this]; simp
    rw [e, e', k, k, g1, g2, a2, b2]
    refine ⟨by simp [Ze9, c2], by simp [Zjr, c2]⟩
   ·obtain ⟨b1, b2⟩ := Zfe (bs ++ [t]) (l :: r) (Zbg l - 1) ⟨by omega, h2, h3⟩ (by rw [la]; omega)
    rw [e, b1, k bs, g1, a2, b2]
    refine ⟨by simp [Ze9, c2], by simp [Zjr, c2]⟩
theorem Zmp : ∀ ls : List Int, Zja (ls.map .int) = some ls
 | [] => rfl
 | l :: r => by simp [Zja, nkOf, Zmp r]
theorem Zfl (ls : List Int) : nk (Za4 ls) = some ls := Zmp ls
theorem Zsu {kvs : List (D × D)} {kd vd : D} {k k' : List Int} (h : nk kd = some k) (h0 : Zbb kvs k = none) : (Zbb (Zlc kvs kd k vd) k').isSome = ((Zbb kvs k').isSome || decide (k' = k)) := by
 have e : Zlc kvs kd k vd = kvs ++ [(kd, vd)] := by unfold Zlc; rw [h0]; rfl
 rw [e]
 unfold Zbb
 rw [List.find?_append]
 cases q : kvs.find? (fun p => nk p.1 == some k') with
 | some p => simp
 | none =>
  by_cases c : k' = k
  ·subst c; simp [h]
  ·have : (nk kd == some k') = false := by rw [h]; simp; exact fun z => c z.symm
   simp [List.find?_cons, this, c]
structure DR (rss : List (List Int)) (bs : List Bool) (kvs : List (D × D)) : Prop where
 key : ∀ p ∈ kvs, ∃ ls ∈ rss, kept bs ls = false ∧ p.1 = Za4 (Zbv bs ls)
 all : ∀ ls ∈ rss, kept bs ls = false -> (Zbb kvs (Zbv bs ls)).isSome = true
 len : kvs.length ≤ rss.length
 val : ∀ p ∈ kvs, ∃ (i : Nat) (ls : List Int), rss[i]? = some ls ∧ kept bs ls = false ∧ p = (Za4 (Zbv bs ls), .int i)
structure Fz (H H' : HD) : Prop where
 old : ∀ (m : Nat) (o : DO), H[m]? = some o -> H'[m]? = some o ∨ ∃ kvs, o = .dic kvs false ∧ H'[m]? = some (.dic kvs true)
 len : H.length ≤ H'.length
theorem Fz.refl {H : HD} : Fz H H := ⟨fun _ _ h => .inl h, Nat.le_refl _⟩
theorem Fz.trans {H H1 H2 : HD} (a : Fz H H1) (b : Fz H1 H2) : Fz H H2 := by
 refine ⟨fun m o h => ?_, Nat.le_trans a.len b.len⟩
 rcases a.old m o h with h1 | ⟨kvs, rfl, h1⟩
 ·exact b.old m o h1
 ·rcases b.old m _ h1 with h2 | ⟨k2, e, _⟩
  ·exact .inr ⟨kvs, rfl, h2⟩
  ·cases e
theorem Fz.app {H : HD} (L : HD) : Fz H (H ++ L) := ⟨fun m o q => .inl (by
 have : m < H.length := (List.getElem?_eq_some_iff.mp q).1
 rw [List.getElem?_append_left this]; exact q), by simp⟩
theorem Fz.dic {H H' : HD} (x : Fz H H') {m : Nat} {kvs : List (D × D)} {fz : Bool} (h : H[m]? = some (.dic kvs fz)) : ∃ fz', H'[m]? = some (.dic kvs fz') := by
 rcases x.old m _ h with h1 | ⟨k2, e, h1⟩
 ·exact ⟨fz, h1⟩
 ·cases e; exact ⟨true, h1⟩
theorem dm {g : D -> List D -> HD -> Option (D × HD)} {fo : EF} {f : AF} {σ : SD} {H H1 H2 : HD} {o : D} {ds : List D} {r : Option (D × HD)} (h1 : fo σ H = some (o, H1)) (hd : Zlp o H1 = true) (h2 : f σ H1 = some (ds, H2)) (h3 : g o ds H2 = r) : eDM g fo f σ H = r := by
 unfold eDM; rw [h1]; simp only [Zb]; rw [if_pos hd, h2]; exact h3
theorem ex {f : EF} {σ : SD} {H H1 : HD} {d : D} (h : f σ H = some (d, H1)) : Zc8 f σ H = some (.nx, σ, H1) := by unfold Zc8; rw [h]; rfl
noncomputable def Zgc (acc : List (D × D)) (k : List Int) (v : D) : List (D × D) := if (Zbb acc k).isSome = true then acc else acc ++ [(Za4 k, v)]
theorem Zlz {q : Nat} {acc : List (D × D)} {k : List Int} {v : D} {H : HD} (h : H[q]? = some (.dic acc false)) (hl : acc.length ≤ 100000) : ∃ z, Zh0 (.ref q) [Za4 k, v] H = some (z, H.set q (.dic (Zgc acc k v) false)) := by
 have sz : acc.length < sizeLine := by rw [PySem.sizeLine_eq]; omega
 unfold Zh0
 simp only [h, Zfl, Zb, if_pos sz]
 cases e : Zbb acc k with
 | some z =>
  refine ⟨z, ?_⟩
  have : Zgc acc k v = acc := by unfold Zgc; rw [e]; rfl
  rw [this]
  obtain ⟨h1, h2⟩ := List.getElem?_eq_some_iff.mp h
  rw [← h2, List.set_getElem_self h1]
 | none =>
  refine ⟨v, ?_⟩
  have e1 : Zlc acc (Za4 k) k v = acc ++ [(Za4 k, v)] := by unfold Zlc; rw [e]; rfl
  have e2 : Zgc acc k v = acc ++ [(Za4 k, v)] := by unfold Zgc; rw [e]; rfl
  rw [e1, e2]
theorem Zgo {acc : List (D × D)} {k k' : List Int} {v : D} : (Zbb (Zgc acc k v) k').isSome = ((Zbb acc k').isSome || decide (k' = k)) := by
 unfold Zgc
 cases e : Zbb acc k with
 | some z =>
  rw [if_pos (by simp)]
  by_cases c : k' = k
  ·subst c; rw [e]; rfl
  ·simp [c]
 | none =>
  have := Zsu (kvs := acc) (kd := Za4 k) (vd := v) (k := k) (k' := k') (Zfl k) e
  have e1 : Zlc acc (Za4 k) k v = acc ++ [(Za4 k, v)] := by unfold Zlc; rw [e]; rfl
  rw [e1] at this
  rw [if_neg (by simp)]; exact this
theorem Zpx (acc : List (D × D)) (k : List Int) (v : D) : (Zgc acc k v).length ≤ acc.length + 1 := by unfold Zgc; split <;> simp
theorem Zrd {acc : List (D × D)} {k : List Int} {v : D} {p : D × D} (h : p ∈ Zgc acc k v) : p ∈ acc ∨ p.1 = Za4 k := by
 unfold Zgc at h
 split at h
 ·exact .inl h
 ·rcases List.mem_append.mp h with h | h
  ·exact .inl h
  ·simp at h; subst h; exact .inr rfl
theorem Zne {acc : List (D × D)} {k : List Int} {v : D} {p : D × D} (h : p ∈ Zgc acc k v) : p ∈ acc ∨ p = (Za4 k, v) := by
 unfold Zgc at h
 split at h
 ·exact .inl h
 ·rcases List.mem_append.mp h with h | h
  ·exact .inl h
  ·simp at h; subst h; exact .inr rfl
noncomputable abbrev fb : SF := (Zal (Zc8 (eDM Zh0 (Zad 1) (Zaa (Zad 3) (Zaa (Zad 2) Zai)))) Zav)
theorem Zih {q : Nat} {r : D} : ∀ (rss : List (List Int)) (c : Int) (acc : List (D × D)) (H : HD) (z2 z3 : Option D), H[q]? = some (.dic acc false) -> acc.length + rss.length ≤ 100000 →
  ∃ (acc' : List (D × D)) (z2' z3' : Option D), Zdg [] (gTp 2 (gCn (gNm 2) (gCn (gNm 3) gNl))) fb (Zdz c (rss.map Za4)) [some r, some (.ref q), z2, z3] H = some (.nx, [some r, some (.ref q), z2', z3'], H.set q (.dic acc' false)) ∧
   (∀ p ∈ acc', p ∈ acc ∨ ∃ ls ∈ rss, p.1 = Za4 ls) ∧ (∀ k, (Zbb acc k).isSome = true -> (Zbb acc' k).isSome = true) ∧ (∀ ls ∈ rss, (Zbb acc' ls).isSome = true) ∧ acc'.length ≤ acc.length + rss.length ∧ (∀ p ∈ acc', p ∈ acc ∨ ∃ (i : Nat) (ls : List Int), rss[i]? = some ls ∧ p = (Za4 ls, .int (c + i)))
 | [], c, acc, H, z2, z3, hq, _ => by
  obtain ⟨h1, h2⟩ := List.getElem?_eq_some_iff.mp hq
  refine ⟨acc, z2, z3, ?_, fun p hp => .inl hp, fun _ h => h, by simp, by simp, fun p hp => .inl hp⟩
  rw [List.map_nil, Zdz, Zdg, if_pos Zdc, ← h2, List.set_getElem_self h1]
 | ls :: rss, c, acc, H, z2, z3, hq, hl => by
  rw [List.map_cons, Zdz, Zdg, if_pos Zdc]
  simp only [gTp, List.length_cons, List.length_nil, gCn, gNm, gNl, List.set, Zb, if_true, Nat.zero_add, Nat.reduceAdd]
  obtain ⟨z, es⟩ := Zlz (k := ls) (v := .int c) hq (by omega)
  have lt := (List.getElem?_eq_some_iff.mp hq).1
  have st : fb [some r, some (.ref q), some (.int c), some (Za4 ls)] H = some (.nx, [some r, some (.ref q), some (.int c), some (Za4 ls)], H.set q (.dic (Zgc acc ls (.int c)) false)) :=
   (Zaq (ex (dm (vr rfl) (by simp [Zlp, hq]) (ac (vr rfl) (ac (vr rfl) an)) es))).trans rfl
  rw [st]
  simp only [Zb]
  have al := Zpx acc ls (.int c)
  obtain ⟨acc', z2', z3', e, a1, a2, a3, a4, a5⟩ := Zih (q := q) (r := r) rss (c + 1) (Zgc acc ls (.int c)) (H.set q (.dic (Zgc acc ls (.int c)) false)) (some (.int c)) (some (Za4 ls)) (by rw [List.getElem?_set_self lt]) (by simp at hl ⊢; omega)
  refine ⟨acc', z2', z3', by rw [e, List.set_set], fun p hp => ?_, fun k hk => a2 k (by rw [Zgo, hk]; rfl), fun l hl' => ?_, by omega, fun p hp => ?_⟩
  ·rcases a1 p hp with h | ⟨l, h1, h2⟩
   ·rcases Zrd h with h | h
    ·exact .inl h
    ·exact .inr ⟨ls, by simp, h⟩
   ·exact .inr ⟨l, by simp [h1], h2⟩
  ·rcases List.mem_cons.mp hl' with rfl | hl'
   ·exact a2 _ (by rw [Zgo]; simp)
   ·exact a3 l hl'
  ·rcases a5 p hp with h | ⟨i, l, h1, h2⟩
   ·rcases Zne h with h | h
    ·exact .inl h
    ·exact .inr ⟨0, ls, rfl, by rw [h]; simp⟩
   ·exact .inr ⟨i + 1, l, by simpa using h1, by rw [h2]; simp; omega⟩
theorem Ztg {rss : List (List Int)} {m : Int} (hu : ∀ ls ∈ rss, Up m 0 ls) (hl : rss.length ≤ 1000) (H : HD) :
  ∃ (kvs : List (D × D)) (H' : HD) (q : Nat), Zbw [.tup (rss.map Za4)] H = some (.ref q, H') ∧ H'[q]? = some (.dic kvs false) ∧ DR rss [] kvs ∧ Fz H H' := by
 have s1 : Za0 1 eDN [some (.tup (rss.map Za4)), none, none, none] H = some (.nx, [some (.tup (rss.map Za4)), some (.ref H.length), none, none], H ++ [.dic [] false]) := rfl
 obtain ⟨kvs, z2, z3, e, a1, a2, a3, a4, a5⟩ := Zih (q := H.length) (r := .tup (rss.map Za4)) rss 0 [] (H ++ [.dic [] false]) none none (by simp) (by simp; omega)
 have e1 : Zea (Zth (Zaa (Zad 0) Zai)) (gTp 2 (gCn (gNm 2) (gCn (gNm 3) gNl))) fb [some (.tup (rss.map Za4)), some (.ref H.length), none, none] (H ++ [.dic [] false]) = some (.nx, [some (.tup (rss.map Za4)), some (.ref H.length), z2, z3], (H ++ [DO.dic [] false]).set H.length (DO.dic kvs false)) := by
  unfold Zea Zth
  rw [ac (vr rfl) an]
  exact e
 have es : (H ++ [DO.dic [] false]).set H.length (.dic kvs false) = H ++ [.dic kvs false] := by simp
 rw [es] at e1
 refine ⟨kvs, H ++ [.dic kvs false], H.length, ?_, by simp, ⟨fun p hp => ?_, fun ls hls _ => ?_, by simpa using a4, fun p hp => ?_⟩, Fz.app _⟩
 ·show ((Zb2 [some (.tup (rss.map Za4)), none, none, none] H).bind _) = _
  unfold Zb2
  rw [Zaq s1, Zaq e1]
  rfl
 ·rcases a1 p hp with h | ⟨ls, h1, h2⟩
  ·simp at h
  ·obtain ⟨o1, o2⟩ := Zfe [] ls 0 (hu ls h1) (by simp)
   exact ⟨ls, h1, o2, by rw [o1]; exact h2⟩
 ·obtain ⟨o1, o2⟩ := Zfe [] ls 0 (hu ls hls) (by simp)
  rw [o1]; exact a3 ls hls
 ·rcases a5 p hp with h | ⟨i, ls, h1, h2⟩
  ·simp at h
  ·obtain ⟨o1, o2⟩ := Zfe [] ls 0 (hu ls (List.mem_of_getElem? h1)) (by simp)
   exact ⟨i, ls, h1, o2, by rw [o1, h2]; simp⟩
noncomputable def hd0 : List Int -> Int
 | [] => 0
 | l :: _ => l
theorem act {b : Int} {t : Bool} {ls : List Int} (hb : 0 ≤ b) :
  (hd0 ls = -(if t = true then b + 1 else -(b + 1)) -> Zjr b t ls = false ∧ Ze9 b ls = ls.drop 1) ∧
  (hd0 ls ≠ -(if t = true then b + 1 else -(b + 1)) -> hd0 ls ≠ (if t = true then b + 1 else -(b + 1)) -> Zjr b t ls = false ∧ Ze9 b ls = ls) ∧
  (hd0 ls ≠ -(if t = true then b + 1 else -(b + 1)) -> hd0 ls = (if t = true then b + 1 else -(b + 1)) -> Zjr b t ls = true) := by
 cases ls with
 | nil =>
  refine ⟨fun h => ?_, fun _ _ => ⟨rfl, rfl⟩, fun _ h => ?_⟩
  ·simp only [hd0] at h; split at h <;> omega
  ·simp only [hd0] at h; split at h <;> omega
 | cons l r =>
  simp only [hd0, Zjr, Ze9, List.drop_one, List.tail_cons]
  cases t with
  | true =>
   simp only [if_true]
   refine ⟨fun h => ?_, fun h1 h2 => ?_, fun h1 h2 => ?_⟩
   ·have e : Zbg l = b + 1 := by unfold Zbg; split <;> omega
    have g : decide (0 < l) = false := decide_eq_false (by omega)
    rw [g, if_pos e]; simp
   ·have e : Zbg l ≠ b + 1 := by unfold Zbg; split <;> omega
    rw [if_neg e, decide_eq_false e]; simp
   ·have e : Zbg l = b + 1 := by unfold Zbg; split <;> omega
    have g : decide (0 < l) = true := decide_eq_true (by omega)
    rw [g, decide_eq_true e]; rfl
  | false =>
   simp only [Bool.false_eq_true, if_false]
   refine ⟨fun h => ?_, fun h1 h2 => ?_, fun h1 h2 => ?_⟩
   ·have e : Zbg l = b + 1 := by unfold Zbg; split <;> omega
    have g : decide (0 < l) = true := decide_eq_true (by omega)
    rw [g, if_pos e]; simp
   ·have e : Zbg l ≠ b + 1 := by unfold Zbg; split <;> omega
    rw [if_neg e, decide_eq_false e]; simp
   ·have e : Zbg l = b + 1 := by unfold Zbg; split <;> omega
    have g : decide (0 < l) = false := decide_eq_false (by omega)
    rw [g, decide_eq_true e]; rfl
noncomputable abbrev bb : SF := (Zal (Za0 6 (eIf (Zol (Zad 5)) (eOp ixD (Zad 5) (eC (.int 0))) (eC (.int 0))))
 (Zal (sIf (tOf (eOp eqD (Zad 6) (eUn Zh2 (Zad 3)))) (Zal (Zc8 (eDM Zh0 (Zad 4) (Zaa (eSl (Zad 5) (Zd9 (eC (.int 1))) Zex) (Zaa (eOp Zd0 (Zad 0) (Zad 5)) Zai))))
 Zav) (Zal (sIf (tOf (eOp neD (Zad 6) (Zad 3))) (Zal (Zc8 (eDM Zh0 (Zad 4) (Zaa (Zad 5) (Zaa (eOp Zd0 (Zad 0) (Zad 5)) Zai))))
 Zav) Zav)
 Zav))
 Zav))
theorem un {g : D -> HD -> Option (D × HD)} {f : EF} {σ : SD} {H H1 : HD} {d : D} {r : Option (D × HD)} (h1 : f σ H = some (d, H1)) (h2 : g d H1 = r) : eUn g f σ H = r := by
 unfold eUn; rw [h1]; exact h2
theorem bb_ok {p q : Nat} {kvs acc : List (D × D)} {b : Int} {t : Bool} {a1 a2 z6 : Option D} {ls : List Int} {H : HD} (hb : 0 ≤ b) (hp : H[p]? = some (.dic kvs true)) (hq : H[q]? = some (.dic acc false)) (hl : acc.length ≤ 100000) (hk : (Zbb kvs ls).isSome = true) :
  ∃ (v : D) (z6' : Option D), Zbb kvs ls = some v ∧ bb [some (.ref p), a1, a2, some (.int (if t = true then b + 1 else -(b + 1))), some (.ref q), some (Za4 ls), z6] H = some (.nx, [some (.ref p), a1, a2, some (.int (if t = true then b + 1 else -(b + 1))), some (.ref q), some (Za4 ls), z6'], H.set q (.dic (if Zjr b t ls = true then acc else Zgc acc (Ze9 b ls) v) false)) := by
 let R : Int := if t = true then b + 1 else -(b + 1)
 obtain ⟨v, ev⟩ := Option.isSome_iff_exists.mp hk
 have self : H.set q (.dic acc false) = H := by
  obtain ⟨h1, h2⟩ := List.getElem?_eq_some_iff.mp hq
  rw [← h2, List.set_getElem_self h1]
 have s1 : Za0 6 (eIf (Zol (Zad 5)) (eOp ixD (Zad 5) (eC (.int 0))) (eC (.int 0))) [some (.ref p), a1, a2, some (.int R), some (.ref q), some (Za4 ls), z6] H = some (.nx, [some (.ref p), a1, a2, some (.int R), some (.ref q), some (Za4 ls), some (.int (hd0 ls))], H) := by
  refine Zdd (d := .int (hd0 ls)) ?_
  have tv : Zol (Zad 5) [some (.ref p), a1, a2, some (.int R), some (.ref q), some (Za4 ls), z6] H = some (!ls.isEmpty, H) := by
   unfold Zol; rw [vr (d := Za4 ls) rfl]; simp [Za4, Zpr]
  unfold eIf
  rw [tv]
  cases ls with
  | nil => rfl
  | cons l r =>
   have : atI ((l :: r).map D.int) 0 = some (.int l) := Zb5 (j := 0) rfl
   show eOp ixD (Zad 5) (eC (.int 0)) [some (.ref p), a1, a2, some (.int R), some (.ref q), some (Za4 (l :: r)), z6] H = some (.int l, H)
   exact op (vr rfl) rfl (ixT this)
 let σ : SD := [some (.ref p), a1, a2, some (.int R), some (.ref q), some (Za4 ls), some (.int (hd0 ls))]
 have dg : eOp Zd0 (Zad 0) (Zad 5) σ H = some (v, H) := by
  refine op (vr rfl) (vr rfl) ?_
  simp [Zd0, Zry, hp, Zfl, ev]
 have t1 : tOf (eOp eqD (Zad 6) (eUn Zh2 (Zad 3))) σ H = some (hd0 ls == -R, H) := tof (op (vr rfl) (un (vr rfl) rfl) (Zgg _ _ _))
 have t2 : tOf (eOp neD (Zad 6) (Zad 3)) σ H = some (!(hd0 ls == R), H) := tof (op (vr rfl) (vr rfl) (Zyk _ _ _))
 have id1 : Zlp (.ref q) H = true := by simp [Zlp, hq]
 obtain ⟨A1, A2, A3⟩ := act (b := b) (t := t) (ls := ls) hb
 refine ⟨v, some (.int (hd0 ls)), ev, ?_⟩
 show bb [some (.ref p), a1, a2, some (.int R), some (.ref q), some (Za4 ls), z6] H = some (.nx, σ, _)
 unfold bb
 rw [Zaq s1]
 by_cases c1 : hd0 ls = -R
 ·obtain ⟨h1, h2⟩ := A1 c1
  have sd : slD (Za4 ls) (some 1) none H = some (Za4 (ls.drop 1), H) := by
   have := sllo (xs := ls.map D.int) (k := 1) (H := H)
   rw [← List.map_drop] at this
   exact this
  obtain ⟨z, es⟩ := Zlz (k := ls.drop 1) (v := v) hq hl
  rw [h1, if_neg (by simp), h2]
  refine (Zaq (σ1 := σ) (H1 := H.set q (.dic (Zgc acc (ls.drop 1) v) false)) ?_).trans rfl
  rw [Zh4 t1, if_pos (by simpa using c1)]
  exact (Zaq (ex (dm (vr rfl) id1 (ac (sl (vr rfl) (os rfl) on sd) (ac dg an)) es))).trans rfl
 ·by_cases c2 : hd0 ls = R
  ·rw [A3 c1 c2, if_pos rfl, self]
   refine (Zaq (σ1 := σ) (H1 := H) ?_).trans rfl
   rw [Zh4 t1, if_neg (by simpa using c1)]
   refine (Zaq (σ1 := σ) (H1 := H) ?_).trans rfl
   rw [Zh4 t2, if_neg (by simpa using c2)]
   rfl
  ·obtain ⟨h1, h2⟩ := A2 c1 c2
   obtain ⟨z, es⟩ := Zlz (k := ls) (v := v) hq hl
   rw [h1, if_neg (by simp), h2]
   refine (Zaq (σ1 := σ) (H1 := H.set q (.dic (Zgc acc ls v) false)) ?_).trans rfl
   rw [Zh4 t1, if_neg (by simpa using c1)]
   refine (Zaq (σ1 := σ) (H1 := H.set q (.dic (Zgc acc ls v) false)) ?_).trans rfl
   rw [Zh4 t2, if_pos (by simpa using c2)]
   exact (Zaq (ex (dm (vr rfl) id1 (ac (vr rfl) (ac dg an)) es))).trans rfl
theorem Zrr {p q : Nat} {kvs : List (D × D)} {b : Int} {t : Bool} {a1 a2 : Option D} (hb : 0 ≤ b) (hpq : p ≠ q) : ∀ (qs : List (List Int)) (acc : List (D × D)) (H : HD) (z5 z6 : Option D), H[p]? = some (.dic kvs true) -> H[q]? = some (.dic acc false) -> acc.length + qs.length ≤ 100000 -> (∀ ls ∈ qs, (Zbb kvs ls).isSome = true) →
  ∃ (acc' : List (D × D)) (z5' z6' : Option D), Zdg [(p, .dic kvs true)] (gNm 5) bb (qs.map Za4) [some (.ref p), a1, a2, some (.int (if t = true then b + 1 else -(b + 1))), some (.ref q), z5, z6] H = some (.nx, [some (.ref p), a1, a2, some (.int (if t = true then b + 1 else -(b + 1))), some (.ref q), z5', z6'], H.set q (.dic acc' false)) ∧
   (∀ x ∈ acc', x ∈ acc ∨ ∃ ls ∈ qs, Zjr b t ls = false ∧ x.1 = Za4 (Ze9 b ls)) ∧ (∀ k, (Zbb acc k).isSome = true -> (Zbb acc' k).isSome = true) ∧ (∀ ls ∈ qs, Zjr b t ls = false -> (Zbb acc' (Ze9 b ls)).isSome = true) ∧ acc'.length ≤ acc.length + qs.length ∧ (∀ x ∈ acc', x ∈ acc ∨ ∃ ls ∈ qs, Zjr b t ls = false ∧ x.1 = Za4 (Ze9 b ls) ∧ Zbb kvs ls = some x.2)
 | [], acc, H, z5, z6, hp, hq, _, _ => by
  obtain ⟨h1, h2⟩ := List.getElem?_eq_some_iff.mp hq
  refine ⟨acc, z5, z6, ?_, fun p hp => .inl hp, fun _ h => h, by simp, by simp, fun p hp => .inl hp⟩
  rw [List.map_nil, Zdg, if_pos (by intro x hx; simp at hx; subst hx; exact hp), ← h2, List.set_getElem_self h1]
 | ls :: qs, acc, H, z5, z6, hp, hq, hl, hk => by
  have lt := (List.getElem?_eq_some_iff.mp hq).1
  rw [List.map_cons, Zdg, if_pos (by intro x hx; simp at hx; subst hx; exact hp)]
  simp only [gNm, List.set, Zb]
  obtain ⟨v, z6', ev, e1⟩ := bb_ok (t := t) (a1 := a1) (a2 := a2) (z6 := z6) (ls := ls) hb hp hq (by omega) (hk ls (by simp))
  rw [e1]
  simp only [Zb]
  let acc1 := if Zjr b t ls = true then acc else Zgc acc (Ze9 b ls) v
  have al : acc1.length ≤ acc.length + 1 := by
   show (if Zjr b t ls = true then acc else Zgc acc (Ze9 b ls) v).length ≤ _
   split
   ·omega
   ·exact Zpx _ _ _
  obtain ⟨acc', z5', z6'', e, a1', a2', a3', a4', a5'⟩ := Zrr (p := p) (q := q) (kvs := kvs) (t := t) (a1 := a1) (a2 := a2) hb hpq qs acc1 (H.set q (.dic acc1 false)) (some (Za4 ls)) z6' (by rw [List.getElem?_set_ne (Ne.symm hpq)]; exact hp) (by rw [List.getElem?_set_self lt]) (by simp at hl ⊢; omega) (fun l hl => hk l (by simp [hl]))
  have mono : ∀ k, (Zbb acc k).isSome = true -> (Zbb acc1 k).isSome = true := fun k hk => by
   show (Zbb (if Zjr b t ls = true then acc else Zgc acc (Ze9 b ls) v) k).isSome = true
   split
   ·exact hk
   ·rw [Zgo, hk]; rfl
  have lenF : acc'.length ≤ acc.length + (ls :: qs).length := by
   have e8 : (ls :: qs).length = qs.length + 1 := rfl
   have e9 : acc'.length ≤ acc1.length + qs.length := a4'
   omega
  refine ⟨acc', z5', z6'', by rw [e, List.set_set], fun x hx => ?_, fun k hk => a2' k (mono k hk), fun l hl' hh => ?_, lenF, fun x hx => ?_⟩
  ·rcases a1' x hx with h | ⟨l, h1, h2⟩
   ·cases hc : Zjr b t ls with
    | true =>
     have : acc1 = acc := if_pos hc
     rw [this] at h; exact .inl h
    | false =>
     have : acc1 = Zgc acc (Ze9 b ls) v := if_neg (by rw [hc]; simp)
     rw [this] at h
     rcases Zrd h with h | h
     ·exact .inl h
     ·exact .inr ⟨ls, by simp, hc, h⟩
   ·exact .inr ⟨l, by simp [h1], h2⟩
  ·rcases List.mem_cons.mp hl' with rfl | hl'
   ·refine a2' _ ?_
    have : acc1 = Zgc acc (Ze9 b l) v := if_neg (by rw [hh]; simp)
    rw [this, Zgo]; simp
   ·exact a3' l hl' hh
  ·rcases a5' x hx with h | ⟨l, h1, h2⟩
   ·cases hc : Zjr b t ls with
    | true =>
     have : acc1 = acc := if_pos hc
     rw [this] at h; exact .inl h
    | false =>
     have : acc1 = Zgc acc (Ze9 b ls) v := if_neg (by rw [hc]; simp)
     rw [this] at h
     rcases Zne h with h | h
     ·exact .inl h
     ·exact .inr ⟨ls, by simp, hc, by rw [h], by rw [h]; exact ev⟩
   ·exact .inr ⟨l, by simp [h1], h2⟩
theorem Zjy {kvs : List (D × D)} {k : List Int} (h : (Zbb kvs k).isSome = true) : ∃ p ∈ kvs, nk p.1 = some k := by
 unfold Zbb at h
 rw [Option.isSome_map] at h
 obtain ⟨p, e⟩ := Option.isSome_iff_exists.mp h
 exact ⟨p, List.mem_of_find?_eq_some e, by have := List.find?_some e; simpa using this⟩
theorem Zoz {kvs : List (D × D)} {k : List Int} {p : D × D} (hp : p ∈ kvs) (h : nk p.1 = some k) : (Zbb kvs k).isSome = true := by
 unfold Zbb
 rw [Option.isSome_map, List.find?_isSome]
 exact ⟨p, hp, by simp [h]⟩
theorem Ztj {kvs : List (D × D)} {k : List Int} {v : D} (h : Zbb kvs k = some v) : ∃ p ∈ kvs, nk p.1 = some k ∧ p.2 = v := by
 unfold Zbb at h
 obtain ⟨p, e, rfl⟩ := Zm h
 exact ⟨p, List.mem_of_find?_eq_some e, by have := List.find?_some e; simpa using this, rfl⟩
theorem Zq5 {rss : List (List Int)} {bs : List Bool} : ∀ {kvs : List (D × D)}, (∀ p ∈ kvs, ∃ ls ∈ rss, kept bs ls = false ∧ p.1 = Za4 (Zbv bs ls)) -> ∃ qs : List (List Int), kvs.map (·.1) = qs.map Za4 ∧ ∀ q ∈ qs, ∃ ls ∈ rss, kept bs ls = false ∧ q = Zbv bs ls
 | [], _ => ⟨[], rfl, by simp⟩
 | p :: kvs, h => by
  obtain ⟨ls, h1, h2, h3⟩ := h p (by simp)
  obtain ⟨qs, e, g⟩ := Zq5 (kvs := kvs) fun x hx => h x (by simp [hx])
  refine ⟨Zbv bs ls :: qs, by rw [List.map_cons, List.map_cons, e, h3], fun q hq => ?_⟩
  rcases List.mem_cons.mp hq with rfl | hq
  ·exact ⟨ls, h1, h2, rfl⟩
  ·exact g q hq
theorem Zu1 {a b : List Int} (h : Za4 a = Za4 b) : a = b := by
 have := Zfl a
 rw [h, Zfl] at this
 exact (Option.some.inj this).symm
theorem Zju {rss : List (List Int)} {m : Int} {bs : List Bool} {t : Bool} {kvs : List (D × D)} {fz : Bool} {p : Nat} {H : HD} (hu : ∀ ls ∈ rss, Up m 0 ls) (hl : rss.length ≤ 1000) (hp : H[p]? = some (.dic kvs fz)) (dr : DR rss bs kvs) :
  ∃ (kvs' : List (D × D)) (H' : HD) (q : Nat), Zaz [.ref p, .int ((bs.length : Int) + 1), .bl t] H = some (.ref q, H') ∧ H'[q]? = some (.dic kvs' false) ∧ DR rss (bs ++ [t]) kvs' ∧ Fz H H' := by
 obtain ⟨qs, eq, gq⟩ := Zq5 dr.key
 let b : Int := bs.length
 have hb : 0 ≤ b := by show (0 : Int) ≤ bs.length; omega
 let R : Int := if t = true then b + 1 else -(b + 1)
 have ltp := (List.getElem?_eq_some_iff.mp hp).1
 have s1 : Za0 3 (eIf (Zol (Zad 2)) (Zad 1) (eUn Zh2 (Zad 1))) [some (.ref p), some (.int (b + 1)), some (.bl t), none, none, none, none] H = some (.nx, [some (.ref p), some (.int (b + 1)), some (.bl t), some (.int R), none, none, none], H) := by
  refine Zdd (d := .int R) ?_
  cases t <;> rfl
 have s2 : Za0 4 eDN [some (.ref p), some (.int (b + 1)), some (.bl t), some (.int R), none, none, none] H = some (.nx, [some (.ref p), some (.int (b + 1)), some (.bl t), some (.int R), some (.ref H.length), none, none], H ++ [.dic [] false]) := rfl
 let H1 : HD := (H ++ [DO.dic [] false]).set p (DO.dic kvs true)
 have hp0 : (H ++ [DO.dic [] false])[p]? = some (.dic kvs fz) := by rw [List.getElem?_append_left ltp]; exact hp
 have hp1 : H1[p]? = some (.dic kvs true) := by rw [List.getElem?_set_self (by simp; omega)]
 have hq1 : H1[H.length]? = some (.dic [] false) := by rw [List.getElem?_set_ne (by omega)]; simp
 have lq : qs.length = kvs.length := by have := congrArg List.length eq; simpa using this.symm
 have kk : ∀ ls ∈ qs, (Zbb kvs ls).isSome = true := fun ls hls => by
  have : Za4 ls ∈ kvs.map (·.1) := by rw [eq]; exact List.mem_map_of_mem hls
  obtain ⟨x, hx, ex⟩ := List.mem_map.mp this
  exact Zoz hx (by rw [ex, Zfl])
 have dl := dr.len
 obtain ⟨acc, z5, z6, e, a1, a2, a3, a4, a5⟩ := Zrr (p := p) (q := H.length) (kvs := kvs) (b := b) (t := t) (a1 := some (.int (b + 1))) (a2 := some (.bl t)) hb (by omega) qs [] H1 none none hp1 hq1 (by simp; omega) kk
 have e1 : Zea (iDic (Zad 0)) (gNm 5) bb [some (.ref p), some (.int (b + 1)), some (.bl t), some (.int R), some (.ref H.length), none, none] (H ++ [.dic [] false]) = some (.nx, [some (.ref p), some (.int (b + 1)), some (.bl t), some (.int R), some (.ref H.length), z5, z6], H1.set H.length (.dic acc false)) := by
  unfold Zea iDic
  rw [vr (d := .ref p) rfl]
  simp only [Zb, hp0]
  rw [eq]
  exact e
 have lt1 : H.length < H1.length := (List.getElem?_eq_some_iff.mp hq1).1
 refine ⟨acc, H1.set H.length (.dic acc false), H.length, ?_, by rw [List.getElem?_set_self lt1], ⟨fun x hx => ?_, fun ls hls hk => ?_, ?_, fun x hx => ?_⟩, ⟨fun mm o ho => ?_, by simp [H1]⟩⟩
 ·show ((Zcm [some (.ref p), some (.int (b + 1)), some (.bl t), none, none, none, none] H).bind _) = _
  unfold Zcm
  rw [Zaq s1, Zaq s2, Zaq e1]
  rfl
 ·rcases a1 x hx with h | ⟨q, h1, h2, h3⟩
  ·simp at h
  ·obtain ⟨ls, g1, g2, rfl⟩ := gq q h1
   obtain ⟨n1, n2⟩ := Zf4 bs t ls 0 (Int.le_refl _) (hu ls g1)
   refine ⟨ls, g1, ?_, by rw [n1]; exact h3⟩
   rw [n2, g2]; exact h2
 ·obtain ⟨n1, n2⟩ := Zf4 bs t ls 0 (Int.le_refl _) (hu ls hls)
  rw [n2, Bool.or_eq_false_iff] at hk
  obtain ⟨x, hx, ex⟩ := Zjy (dr.all ls hls hk.1)
  have hm : x.1 ∈ qs.map Za4 := by rw [← eq]; exact List.mem_map_of_mem hx
  obtain ⟨q, hq, eqq⟩ := List.mem_map.mp hm
  have : q = Zbv bs ls := by rw [← eqq, Zfl] at ex; exact Option.some.inj ex
  subst this
  rw [n1]
  exact a3 _ hq hk.2
 ·simp at a4; omega
 ·rcases a5 x hx with h | ⟨q, h1, h2, h3, h4⟩
  ·simp at h
  ·obtain ⟨y, y1, y2, y3⟩ := Ztj h4
   obtain ⟨i, ls, g1, g2, rfl⟩ := dr.val y y1
   have : q = Zbv bs ls := by rw [Zfl] at y2; exact (Option.some.inj y2).symm
   subst this
   obtain ⟨n1, n2⟩ := Zf4 bs t ls 0 (Int.le_refl _) (hu ls (List.mem_of_getElem? g1))
   exact ⟨i, ls, g1, by rw [n2, g2]; exact h2, Prod.ext (by rw [n1]; exact h3) y3.symm⟩
 ·have lm : mm < H.length := (List.getElem?_eq_some_iff.mp ho).1
  rw [List.getElem?_set_ne (by omega)]
  by_cases c : p = mm
  ·subst c
   rw [hp] at ho
   cases ho
   cases fz with
   | true => exact .inl hp1
   | false => exact .inr ⟨kvs, rfl, hp1⟩
  ·refine .inl ?_
   show ((H ++ [DO.dic [] false]).set p (.dic kvs true))[mm]? = some o
   rw [List.getElem?_set_ne c, List.getElem?_append_left lm]; exact ho
theorem Zky {rss : List (List Int)} {m : Int} {r pl : D} (hu : ∀ ls ∈ rss, Up m 0 ls) (hl : rss.length ≤ 1000) : ∀ (ts bs : List Bool) (kvs : List (D × D)) (p : Nat) (fz : Bool) (H : HD) (z3 z4 : Option D), H[p]? = some (.dic kvs fz) -> DR rss bs kvs →
  ∃ (kvs' : List (D × D)) (H' : HD) (q : Nat) (fz' : Bool) (z3' z4' : Option D), Zdg [] (gTp 2 (gCn (gNm 3) (gCn (gNm 4) gNl))) (Zal (Za0 2 (Zaj 3 Zaz (Zaa (Zad 2) (Zaa (Zad 3) (Zaa (Zad 4) Zai))))) Zav) (Zdz ((bs.length : Int) + 1) (ts.map .bl)) [some r, some pl, some (.ref p), z3, z4] H = some (.nx, [some r, some pl, some (.ref q), z3', z4'], H') ∧ H'[q]? = some (.dic kvs' fz') ∧ DR rss (bs ++ ts) kvs' ∧ Fz H H'
 | [], bs, kvs, p, fz, H, z3, z4, hp, dr => ⟨kvs, H, p, fz, z3, z4, by rw [List.map_nil, Zdz, Zdg, if_pos Zdc], hp, by rw [List.append_nil]; exact dr, Fz.refl⟩
 | t :: ts, bs, kvs, p, fz, H, z3, z4, hp, dr => by
  rw [List.map_cons, Zdz, Zdg, if_pos Zdc]
  simp only [gTp, List.length_cons, List.length_nil, gCn, gNm, gNl, List.set, Zb, if_true, Nat.zero_add, Nat.reduceAdd]
  obtain ⟨k1, H1, q1, e1, g1, d1, x1⟩ := Zju (t := t) hu hl hp dr
  have st : (Zal (Za0 2 (Zaj 3 Zaz (Zaa (Zad 2) (Zaa (Zad 3) (Zaa (Zad 4) Zai))))) Zav) [some r, some pl, some (.ref p), some (.int ((bs.length : Int) + 1)), some (.bl t)] H = some (.nx, [some r, some pl, some (.ref q1), some (.int ((bs.length : Int) + 1)), some (.bl t)], H1) :=
   (Zaq (Zdd (ca (ac (vr rfl) (ac (vr rfl) (ac (vr rfl) an))) rfl e1))).trans rfl
  rw [st]
  simp only [Zb]
  obtain ⟨k2, H2, q2, fz2, z3', z4', e2, g2, d2, x2⟩ := Zky (r := r) (pl := pl) hu hl ts (bs ++ [t]) k1 q1 false H1 (some (.int ((bs.length : Int) + 1))) (some (.bl t)) g1 d1
  have ec : (((bs ++ [t]).length : Nat) : Int) + 1 = (bs.length : Int) + 1 + 1 := by simp
  rw [ec] at e2
  refine ⟨k2, H2, q2, fz2, z3', z4', e2, g2, ?_, x1.trans x2⟩
  rw [List.append_assoc] at d2
  exact d2
theorem Zhz {rss : List (List Int)} {m : Int} {bs : List Bool} (hu : ∀ ls ∈ rss, Up m 0 ls) (hl : rss.length ≤ 1000) (H : HD) :
  ∃ (kvs : List (D × D)) (H' : HD) (q : Nat) (fz : Bool), Zbf [.tup (rss.map Za4), .tup (bs.map .bl)] H = some (.ref q, H') ∧ H'[q]? = some (.dic kvs fz) ∧ DR rss bs kvs ∧ Fz H H' := by
 obtain ⟨k1, H1, q1, e1, g1, d1, x1⟩ := Ztg hu hl H
 have s1 : Za0 2 (Zaj 1 Zbw (Zaa (Zad 0) Zai)) [some (.tup (rss.map Za4)), some (.tup (bs.map .bl)), none, none, none] H = some (.nx, [some (.tup (rss.map Za4)), some (.tup (bs.map .bl)), some (.ref q1), none, none], H1) := Zdd (ca (ac (vr rfl) an) rfl e1)
 obtain ⟨k2, H2, q2, fz2, z3', z4', e2, g2, d2, x2⟩ := Zky (r := .tup (rss.map Za4)) (pl := .tup (bs.map .bl)) hu hl bs [] k1 q1 false H1 none none g1 d1
 have e3 : Zea (Zmx (Zaa (Zad 1) Zai)) (gTp 2 (gCn (gNm 3) (gCn (gNm 4) gNl))) (Zal (Za0 2 (Zaj 3 Zaz (Zaa (Zad 2) (Zaa (Zad 3) (Zaa (Zad 4) Zai))))) Zav) [some (.tup (rss.map Za4)), some (.tup (bs.map .bl)), some (.ref q1), none, none] H1 = some (.nx, [some (.tup (rss.map Za4)), some (.tup (bs.map .bl)), some (.ref q2), z3', z4'], H2) := by
  unfold Zea Zmx
  rw [ac (vr rfl) an]
  exact e2
 refine ⟨k2, H2, q2, fz2, ?_, g2, d2, x1.trans x2⟩
 show ((Zbi [some (.tup (rss.map Za4)), some (.tup (bs.map .bl)), none, none, none] H).bind _) = _
 unfold Zbi
 rw [Zaq s1, Zaq e3]
 rfl
noncomputable def kS (d : D) : Bool := match d with
 | .str s => s == "some"
 | _ => false
noncomputable def Zap (b : Bool) : D := if b then .str "some" else .str "all"
theorem Zhb {d : D} (h : Zd1 d) : d = Zap (kS d) := by
 rcases h with rfl | rfl
 ·have : kS (.str "all") = false := by decide
  rw [this]; rfl
 ·have : kS (.str "some") = true := by decide
  rw [this]; rfl
noncomputable def W (ks : List D) (rss : List (List Int)) : Nat -> List Bool -> Bool
 | 0, bs => rss.all (kept bs)
 | j + 1, bs =>
  let who := kS (ks.getD bs.length .non)
  if W ks rss j (bs ++ [false]) == who || W ks rss j (bs ++ [true]) == who then who else !who
theorem Zla {bs : List Bool} {t : Bool} {ls : List Int} {m : Int} (hu : Up m 0 ls) (h : kept bs ls = true) : kept (bs ++ [t]) ls = true := by
 rw [(Zf4 bs t ls 0 (Int.le_refl _) hu).2, h]; rfl
theorem Zqq {ks : List D} {rss : List (List Int)} {m : Int} (hu : ∀ ls ∈ rss, Up m 0 ls) : ∀ (j : Nat) (bs : List Bool), (∀ ls ∈ rss, kept bs ls = true) -> W ks rss j bs = true
 | 0, bs, h => by unfold W; rw [List.all_eq_true]; exact h
 | j + 1, bs, h => by
  have a := Zqq (ks := ks) hu j (bs ++ [false]) fun ls hl => Zla (hu ls hl) (h ls hl)
  have b := Zqq (ks := ks) hu j (bs ++ [true]) fun ls hl => Zla (hu ls hl) (h ls hl)
  unfold W
  rw [a, b]
  cases kS (ks.getD bs.length .non) <;> rfl
theorem Zj2 {bs : List Bool} {t : Bool} {ls : List Int} {m : Int} (hu : Up m 0 ls) (h : kept bs ls = false ∧ Zbv bs ls = []) : kept (bs ++ [t]) ls = false ∧ Zbv (bs ++ [t]) ls = [] := by
 obtain ⟨n1, n2⟩ := Zf4 bs t ls 0 (Int.le_refl _) hu
 rw [n1, n2, h.1, h.2]; exact ⟨rfl, rfl⟩
theorem Zvl {ks : List D} {rss : List (List Int)} {m : Int} {ls : List Int} (hl : ls ∈ rss) (hu : Up m 0 ls) : ∀ (j : Nat) (bs : List Bool), kept bs ls = false ∧ Zbv bs ls = [] -> W ks rss j bs = false
 | 0, bs, h => by
  unfold W
  cases e : rss.all (kept bs) with
  | false => rfl
  | true => rw [List.all_eq_true.mp e ls hl] at h; cases h.1
 | j + 1, bs, h => by
  have a := Zvl (ks := ks) hl hu j (bs ++ [false]) (Zj2 hu h)
  have b := Zvl (ks := ks) hl hu j (bs ++ [true]) (Zj2 hu h)
  unfold W
  rw [a, b]
  cases kS (ks.getD bs.length .non) <;> rfl
theorem Zub {m : Int} (bs : List Bool) (h : m ≤ bs.length) : ∀ (ls : List Int) (last : Int), Up m last ls -> Zbv bs ls = []
 | [], _, _ => rfl
 | l :: r, last, u => by
  have o : opn bs l = false := decide_eq_false (by have := u.2.1; omega)
  unfold Zbv
  rw [List.filter_cons_of_neg (by rw [o]; simp)]
  exact Zub bs h r (Zbg l) u.2.2
theorem Ztr (b : Bool) (H : HD) : Zb0 [Zap b] H = some (Zap (!b), H) := by
 cases b
 ·have : ((("all" : Str)) == ("some" : Str)) = false := by decide
  simp [Zb0, Zc3, Zb7, Zap, Zal, Zcc, eIf, tOf, eOp, eqD, Zmh, Zad, eC, blD, this]
 ·simp [Zb0, Zc3, Zb7, Zap, Zal, Zcc, eIf, tOf, eOp, eqD, Zmh, Zad, eC, blD]
theorem Zos (a b : Bool) (H : HD) : eqD (Zap a) (Zap b) H = some (.bl (a == b), H) := by
 have e1 : ((("all" : Str)) == ("some" : Str)) = false := by decide
 have e2 : ((("some" : Str)) == ("all" : Str)) = false := by decide
 cases a <;> cases b <;> simp [eqD, Zmh, Zap, e1, e2]
noncomputable def Za1 (bs : List Bool) : D := .tup (bs.map .bl)
noncomputable abbrev wb (F : FF) : SF := (Zal (sIf (tOf (eOp eqD (Zaj 3 F (Zaa (Zad 0) (Zaa (Zaj 3 Zaz (Zaa (Zad 1) (Zaa (eOp Zbd (Zad 2) (eC (.int 1))) (Zaa (Zad 4) Zai)))) (Zaa (eOp Zbd (Zad 2) (eC (.int 1))) Zai)))) (Zad 3))) (Zal (Zcc (Zad 3))
 Zav) Zav)
 Zav)
theorem Zrc {ks : List D} {rss : List (List Int)} (hk : ∀ d ∈ ks, Zd1 d) (hu : ∀ ls ∈ rss, Up ks.length 0 ls) (hl : rss.length ≤ 1000) : ∀ (j f : Nat) (bs : List Bool) (kvs : List (D × D)) (p : Nat) (fz : Bool) (H : HD), j < f -> bs.length + j = ks.length -> H[p]? = some (.dic kvs fz) -> DR rss bs kvs →
  ∃ H', Zw7 3 5 Zay f [.tup ks, .ref p, .int bs.length] H = some (Zap (W ks rss j bs), H') ∧ Fz H H'
 | j, 0, bs, kvs, p, fz, H, hf, _, _, _ => by omega
 | j, f + 1, bs, kvs, p, fz, H, hf, hj, hp, dr => by
  show ∃ H', ((Zay (Zw7 3 5 Zay f) [some (.tup ks), some (.ref p), some (.int bs.length), none, none] H).bind _) = _ ∧ _
  generalize hF : Zw7 3 5 Zay f = F
  let σ0 : SD := [some (.tup ks), some (.ref p), some (.int bs.length), none, none]
  have t1 : tOf (eOp dinD (Zd3 Zai) (Zad 1)) σ0 H = some ((Zbb kvs []).isSome, H) := by
   refine tof (op (tp (ds := []) an (by simp)) (vr rfl) ?_)
   simp [dinD, Zry, hp, nk, Zja]
  have t2 : tOf (eOp eqD (eCB Znn (Zaa (Zad 1) Zai)) (eC (.int 0))) σ0 H = some ((kvs.length : Int) == 0, H) := by
   refine tof (op (cb (ac (vr rfl) an) (r := some (.int kvs.length, H)) ?_) rfl (Zgg _ _ _))
   simp [Znn, Zry, hp]
  cases c1 : (Zbb kvs []).isSome with
  | true =>
   rw [c1] at t1
   obtain ⟨x, hx, ex⟩ := Zjy c1
   obtain ⟨ls, g1, g2, g3⟩ := dr.key x hx
   have r0 : Zbv bs ls = [] := by rw [g3, Zfl] at ex; exact Option.some.inj ex
   refine ⟨H, ?_, Fz.refl⟩
   unfold Zay
   rw [hit (σ1 := σ0) t1 (rt rfl), Zvl g1 (hu ls g1) j bs ⟨g2, r0⟩]
   rfl
  | false =>
   rw [c1] at t1
   by_cases c2 : kvs = []
   ·subst c2
    have al : ∀ ls ∈ rss, kept bs ls = true := fun ls h => by
     cases e : kept bs ls with
     | true => rfl
     | false => have := dr.all ls h e; simp [Zbb] at this
    refine ⟨H, ?_, Fz.refl⟩
    unfold Zay
    rw [skip t1, hit (σ1 := σ0) t2 (rt rfl), Zqq hu j bs al]
    rfl
   ·have t2' : tOf (eOp eqD (eCB Znn (Zaa (Zad 1) Zai)) (eC (.int 0))) σ0 H = some (false, H) := by
     rw [t2]
     have : ((kvs.length : Int) == 0) = false := by
      have := List.length_pos_iff.mpr c2
      simp; exact c2
     rw [this]
    -- a name is left
    match j, hj, hf with
    | 0, hj, hf =>
     exfalso
     obtain ⟨x, kr, e⟩ := List.exists_cons_of_ne_nil c2
     obtain ⟨ls, g1, g2, g3⟩ := dr.key x (by rw [e]; simp)
     have r0 := Zub bs (m := ks.length) (by omega) ls 0 (hu ls g1)
     have := dr.all ls g1 g2
     rw [r0, c1] at this; cases this
    | j + 1, hj, hf =>
     have lt : bs.length < ks.length := by omega
     let who : Bool := kS (ks.getD bs.length .non)
     have gw : ks[bs.length]? = some (Zap who) := by
      have e0 : ks.getD bs.length .non = ks[bs.length] := by simp [List.getD, lt]
      have := Zhb (hk ks[bs.length] (List.getElem_mem lt))
      rw [List.getElem?_eq_getElem lt, this]
      show some (Zap (kS ks[bs.length])) = some (Zap (kS (ks.getD bs.length .non)))
      rw [e0]
     have s3 : Za0 3 (eOp ixD (Zad 0) (Zad 2)) σ0 H = some (.nx, [some (.tup ks), some (.ref p), some (.int bs.length), some (Zap who), none], H) := Zdd (op (vr rfl) (vr rfl) (ixT (Zb5 gw)))
     -- one pick
     have one : ∀ (t : Bool) (z4 : Option D) (H0 : HD) (fz0 : Bool), H0[p]? = some (.dic kvs fz0) -> ∃ H1, tOf (eOp eqD (Zaj 3 F (Zaa (Zad 0) (Zaa (Zaj 3 Zaz (Zaa (Zad 1) (Zaa (eOp Zbd (Zad 2) (eC (.int 1))) (Zaa (Zad 4) Zai)))) (Zaa (eOp Zbd (Zad 2) (eC (.int 1))) Zai)))) (Zad 3)) [some (.tup ks), some (.ref p), some (.int bs.length), some (Zap who), some (.bl t)] H0 = some (W ks rss j (bs ++ [t]) == who, H1) ∧ Fz H0 H1 := by
      intro t z4 H0 fz0 h0
      obtain ⟨k1, H1, q1, e1, g1, d1, x1⟩ := Zju (t := t) hu hl h0 dr
      obtain ⟨H2, e2, x2⟩ := Zrc hk hu hl j f (bs ++ [t]) k1 q1 false H1 (by omega) (by simp; omega) g1 d1
      have el : (((bs ++ [t]).length : Nat) : Int) = (bs.length : Int) + 1 := by simp
      rw [el, hF] at e2
      refine ⟨H2, tof (op (ca (ac (vr rfl) (ac (ca (ac (vr rfl) (ac (op (vr rfl) rfl (adI _ _ _)) (ac (vr rfl) an))) rfl e1) (ac (op (vr rfl) rfl (adI _ _ _)) an))) rfl e2) (vr rfl) (Zos _ _ _)), x1.trans x2⟩
     obtain ⟨H1, o1, x1⟩ := one false none H fz hp
     obtain ⟨fz1, h1⟩ := x1.dic hp
     obtain ⟨H2, o2, x2⟩ := one true none H1 fz1 h1
     have Wd : W ks rss (j + 1) bs = (if W ks rss j (bs ++ [false]) == who || W ks rss j (bs ++ [true]) == who then who else !who) := by
      conv => lhs; unfold W
     have it : ∀ Hx, iSq (eC k_TRUTHS) [some (.tup ks), some (.ref p), some (.int bs.length), some (Zap who), none] Hx = some (([.bl false, .bl true], []), Hx) := fun _ => rfl
     have st : ∀ (t b : Bool) (Ha Hb : HD), tOf (eOp eqD (Zaj 3 F (Zaa (Zad 0) (Zaa (Zaj 3 Zaz (Zaa (Zad 1) (Zaa (eOp Zbd (Zad 2) (eC (.int 1))) (Zaa (Zad 4) Zai)))) (Zaa (eOp Zbd (Zad 2) (eC (.int 1))) Zai)))) (Zad 3)) [some (.tup ks), some (.ref p), some (.int bs.length), some (Zap who), some (.bl t)] Ha = some (b, Hb) →
       wb F [some (.tup ks), some (.ref p), some (.int bs.length), some (Zap who), some (.bl t)] Ha = some (if b = true then .rt (Zap who) else .nx, [some (.tup ks), some (.ref p), some (.int bs.length), some (Zap who), some (.bl t)], Hb) := by
      intro t b Ha Hb h
      cases b with
      | true => exact hit h (rt (vr rfl))
      | false => exact (skip h).trans rfl
     unfold Zay
     rw [skip t1, skip t2', Zaq s3]
     cases w1 : (W ks rss j (bs ++ [false]) == who) with
     | true =>
      rw [w1] at o1
      refine ⟨H1, ?_, x1⟩
      have lp : Zea (iSq (eC k_TRUTHS)) (gNm 4) (wb F) [some (.tup ks), some (.ref p), some (.int bs.length), some (Zap who), none] H = some (.rt (Zap who), [some (.tup ks), some (.ref p), some (.int bs.length), some (Zap who), some (.bl false)], H1) := by
       unfold Zea
       rw [it]
       simp only [Zb]
       rw [Zdg, if_pos Zdc]
       simp only [gNm, List.set, Zb]
       rw [st _ _ _ _ o1]
       rfl
      rw [Zdx lp, Wd, w1]
      rfl
     | false =>
      rw [w1] at o1
      have lp : Zea (iSq (eC k_TRUTHS)) (gNm 4) (wb F) [some (.tup ks), some (.ref p), some (.int bs.length), some (Zap who), none] H = some (if (W ks rss j (bs ++ [true]) == who) = true then .rt (Zap who) else .nx, [some (.tup ks), some (.ref p), some (.int bs.length), some (Zap who), some (.bl true)], H2) := by
       unfold Zea
       rw [it]
       simp only [Zb]
       rw [Zdg, if_pos Zdc]
       simp only [gNm, List.set, Zb]
       rw [st _ _ _ _ o1]
       simp only [Zb, Bool.false_eq_true, if_false]
       rw [Zdg, if_pos Zdc]
       simp only [gNm, List.set, Zb]
       rw [st _ _ _ _ o2]
       cases (W ks rss j (bs ++ [true]) == who) with
       | true => rfl
       | false =>
        simp only [Zb, Bool.false_eq_true, if_false]
        rw [Zdg, if_pos Zdc]
      refine ⟨H2, ?_, x1.trans x2⟩
      cases w2 : (W ks rss j (bs ++ [true]) == who) with
      | true =>
       rw [w2, if_pos rfl] at lp
       rw [Zdx lp, Wd, w1, w2]
       rfl
      | false =>
       rw [w2, if_neg (by simp)] at lp
       have eo : Zaj 1 Zb0 (Zaa (Zad 3) Zai) [some (.tup ks), some (.ref p), some (.int bs.length), some (Zap who), some (.bl true)] H2 = some (Zap (!who), H2) := ca (ac (vr rfl) an) rfl (Ztr who H2)
       rw [Zaq lp, Zdx (rt eo), Wd, w1, w2]
       rfl
theorem Zo4 {ks : List D} {rss : List (List Int)} {bs : List Bool} {j : Nat} (hk : ∀ d ∈ ks, Zd1 d) (hu : ∀ ls ∈ rss, Up ks.length 0 ls) (hl : rss.length ≤ 1000) (h8 : ks.length ≤ 8) (hj : bs.length + j = ks.length) (H : HD) :
  ∃ H', Zcz [.tup [.tup ks, .tup (rss.map Za4)], .tup (bs.map .bl)] H = some (Zap (W ks rss j bs), H') ∧ Fz H H' := by
 obtain ⟨kvs, H1, q, fz, e1, g1, d1, x1⟩ := Zhz (bs := bs) hu hl H
 obtain ⟨H2, e2, x2⟩ := Zrc hk hu hl j 10 bs kvs q fz H1 (by omega) hj g1 d1
 refine ⟨H2, ?_, x1.trans x2⟩
 have at0 : atI [D.tup ks, D.tup (rss.map Za4)] 0 = some (.tup ks) := Zb5 (j := 0) rfl
 have at1 : atI [D.tup ks, D.tup (rss.map Za4)] 1 = some (.tup (rss.map Za4)) := Zb5 (j := 1) rfl
 show ((Zft [some (.tup [.tup ks, .tup (rss.map Za4)]), some (.tup (bs.map .bl))] H).bind _) = _
 unfold Zft
 have e2' : Zbt [.tup ks, .ref q, .int bs.length] H1 = some (Zap (W ks rss j bs), H2) := e2
 have ec : Zaj 3 Zbt (Zaa (eOp ixD (Zad 0) (eC (.int 0))) (Zaa (Zaj 2 Zbf (Zaa (eOp ixD (Zad 0) (eC (.int 1))) (Zaa (Zad 1) Zai))) (Zaa (eCB Zdb (Zaa (Zad 1) Zai)) Zai))) [some (.tup [.tup ks, .tup (rss.map Za4)]), some (.tup (bs.map .bl))] H = some (Zap (W ks rss j bs), H2) :=
  ca (ac (op (vr rfl) rfl (ixT at0)) (ac (ca (ac (op (vr rfl) rfl (ixT at1)) (ac (vr rfl) an)) rfl e1) (ac (cb (ac (vr rfl) an) (lenB bs _)) an))) rfl e2'
 rw [Zdx (rt ec)]
 rfl
theorem at0 (a b : D) : atI [a, b] 0 = some a := Zb5 (j := 0) rfl
theorem at1 (a b : D) : atI [a, b] 1 = some b := Zb5 (j := 1) rfl
theorem Zvg : m_law_take = LH.m_law_take := rfl
theorem Zx6 : m_law_row = LH.m_law_row := rfl
theorem Zv4 {n : Nat} {ks rs : List D} {H : HD} (hf : ∃ a b, H[n]? = some (.lst [.int a, .int b])) (hk : ks.length ≤ 8) (hr : ∀ d ∈ rs, Zhr ks.length d) (lr : rs.length ≤ 40) :
  ∃ (rs' : List D) (H' : HD), Zee [.ref n, .tup [.tup ks, .tup rs]] H = some (.tup [.tup ks, .tup rs'], H') ∧ (∀ d ∈ rs', Zhr ks.length d) ∧ rs'.length ≤ 80 ∧ Ext n H H' := by
 have sz : sizeLine = 16777216 := PySem.sizeLine_eq
 have z2 : (2 : Nat) ≤ sizeLine := by omega
 obtain ⟨t, H1, t0, t1, e1, x1, l1⟩ := Zc9 (n := n) (k := 25) hf (by omega) (by omega)
 obtain ⟨u, H2, u0, u1, e2, x2, l2⟩ := Zc9 (n := n) (k := 2) x1.feed (by omega) (by omega)
 rw [← Zvg] at e1 e2
 have s1 : Za0 2 (eOp Zbd (eC (.int 1)) (Zaj 2 m_law_take (Zaa (Zad 0) (Zaa (eC (.int 25)) Zai)))) [some (.ref n), some (.tup [.tup ks, .tup rs]), none] H = some (.nx, [some (.ref n), some (.tup [.tup ks, .tup rs]), some (.int (1 + t))], H1) := by
  simp [Za0, eOp, Zbd, eC, Zaj, Zaa, Zai, Zad, e1]
 have tt : tOf (eOp eqD (Zaj 2 m_law_take (Zaa (Zad 0) (Zaa (eC (.int 2)) Zai))) (eC (.int 0))) [some (.ref n), some (.tup [.tup ks, .tup rs]), some (.int (1 + t))] H1 = some (u == 0, H2) := by
  simp [tOf, eOp, Zaj, Zaa, Zai, Zad, eC, e2, Zgg, blD]
 by_cases hu : u = 0
 ·have c1 : Zgr rs none (some 1) = rs.take 1 := Zql rs 1
  let fs := (List.replicate (1 + t).toNat (rs.take 1)).flatten
  have lf : fs.length ≤ 25 := by
   have : fs.length = (1 + t).toNat * (rs.take 1).length := by simp [fs]
   have l1 : (rs.take 1).length ≤ 1 := by simp; omega
   have := Nat.mul_le_mul (Nat.le_refl (1 + t).toNat) l1
   omega
  have gf : ∀ d ∈ fs, Zhr ks.length d := by
   intro d hd
   simp only [fs, List.mem_flatten, List.mem_replicate] at hd
   obtain ⟨l, ⟨_, rfl⟩, hd⟩ := hd
   exact hr d (List.mem_of_mem_take hd)
  refine ⟨fs ++ rs, H2, ?_, ?_, by simp; omega, x1.trans x2⟩
  ·show ((Zcs [some (.ref n), some (.tup [.tup ks, .tup rs]), none] H).bind _) = _
   unfold Zcs
   rw [Zaq s1]
   have er : Zcc (Zd3 (Zaa (eOp ixD (Zad 1) (eC (.int 0))) (Zaa (eOp Zbd (eOp Zf2 (eSl (eOp ixD (Zad 1) (eC (.int 1))) Zex (Zd9 (eC (.int 1)))) (Zad 2)) (eOp ixD (Zad 1) (eC (.int 1)))) Zai))) [some (.ref n), some (.tup [.tup ks, .tup rs]), some (.int (1 + t))] H2 = some (.rt (.tup [.tup ks, .tup (fs ++ rs)]), [some (.ref n), some (.tup [.tup ks, .tup rs]), some (.int (1 + t))], H2) := by
    have cm : -(2 ^ 63) ≤ 1 + t ∧ 1 + t < 2 ^ 63 ∧ (rs.take 1).length * (1 + t).toNat ≤ sizeLine := by
     refine ⟨by omega, by omega, ?_⟩
     have l1 : (rs.take 1).length ≤ 1 := by simp; omega
     have := Nat.mul_le_mul l1 (Nat.le_refl (1 + t).toNat)
     omega
    have zf : fs.length ≤ sizeLine := by omega
    have zg : (fs ++ rs).length ≤ sizeLine := by simp; omega
    unfold Zcc Zd3 Zaa
    simp only [eOp, ixD, Zad, eC, Zey, at0, at1, eSl, Zex, Zd9, slD, c1, List.getElem?_cons_zero, List.getElem?_cons_succ, Option.join_some, Option.map_some, Zb, Zaa, Zai, Zf2, if_pos cm]
    rw [show mkT (List.replicate (1 + t).toNat (rs.take 1)).flatten H2 = some (.tup fs, H2) from if_pos zf]
    simp only [Zb, Zbd]
    rw [show mkT (fs ++ rs) H2 = some (.tup (fs ++ rs), H2) from if_pos zg]
    simp only [Zb, Option.map_some]
    rw [show mkT [D.tup ks, .tup (fs ++ rs)] H2 = some (.tup [D.tup ks, .tup (fs ++ rs)], H2) from if_pos z2]
    rfl
   rw [Zdx (σ1 := [some (.ref n), some (.tup [.tup ks, .tup rs]), some (.int (1 + t))]) (H1 := H2) (d := .tup [.tup ks, .tup (fs ++ rs)]) (by
    unfold sIf
    rw [tt]
    simp only [Zb, hu]
    rw [if_pos (by simp)]
    exact Zdx er)]
   rfl
  ·intro d hd
   rcases List.mem_append.mp hd with hd | hd
   ·exact gf d hd
   ·exact hr d hd
 ·obtain ⟨fs, H3, e3, g3, l3, x3⟩ := Zfm (n := n) (c0 := [some (.ref n), some (.tup [.tup ks, .tup rs])]) (te := Zaj 2 m_law_row (Zaa (Zad 1) (Zaa (eCB Zdb (Zaa (eOp ixD (Zad 2) (eC (.int 0))) Zai)) Zai))) (Ok := IsI) (Good := Zhr ks.length) (fun x H _ hf => by
   obtain ⟨ls, H', e, b, l, y, up⟩ := Zpo (n := n) (m := ks.length) hf (by omega) (by omega)
   rw [← Zx6] at e
   exact ⟨.tup (ls.map .int), H', by simp [Zaj, Zaa, Zai, Zad, eCB, Zdb, eOp, ixD, eC, Zey, at0, e], ⟨ls, rfl, b, l, up⟩, y⟩) (Za2 0 (1 + t).toNat) H2 (Zi1 _ _) x2.feed
  rw [Zej] at l3
  have lf : fs.length ≤ 25 := by omega
  have st : Zcf (1 + t) := ⟨by omega, by omega⟩
  have zf : fs.length ≤ sizeLine := by omega
  have zg : (fs ++ rs).length ≤ sizeLine := by simp; omega
  have gi : (H3 ++ [DO.lst fs])[H3.length]? = some (.lst fs) := by simp
  refine ⟨fs ++ rs, H3 ++ [.lst fs], ?_, ?_, by simp; omega, ((x1.trans x2).trans x3).trans (Ext.app x3.feed _)⟩
  ·show ((Zcs [some (.ref n), some (.tup [.tup ks, .tup rs]), none] H).bind _) = _
   unfold Zcs
   rw [Zaq s1]
   have el : eLC (iR1 (Zaa (Zad 2) Zai)) [0, 1] Zel (Zaj 2 m_law_row (Zaa (Zad 1) (Zaa (eCB Zdb (Zaa (eOp ixD (Zad 2) (eC (.int 0))) Zai)) Zai))) [some (.ref n), some (.tup [.tup ks, .tup rs]), some (.int (1 + t))] H2 = some (.ref H3.length, H3 ++ [.lst fs]) := by
    unfold eLC
    rw [Zqr (j := 1 + t) (H1 := H2) (by simp [Zad]) st]
    simp only [Zb, Zlb, List.map_cons, List.map_nil, List.getElem?_cons_zero, List.getElem?_cons_succ, Option.join_some]
    rw [e3]
    simp only [Zb, mkL, if_pos zf]
   have ea : eOp Zbd (eCB Zby (Zaa (eLC (iR1 (Zaa (Zad 2) Zai)) [0, 1] Zel (Zaj 2 m_law_row (Zaa (Zad 1) (Zaa (eCB Zdb (Zaa (eOp ixD (Zad 2) (eC (.int 0))) Zai)) Zai)))) Zai)) (eOp ixD (Zad 1) (eC (.int 1))) [some (.ref n), some (.tup [.tup ks, .tup rs]), some (.int (1 + t))] H2 = some (.tup (fs ++ rs), H3 ++ [.lst fs]) := by
    have ad : Zbd (.tup fs) (.tup rs) (H3 ++ [.lst fs]) = some (.tup (fs ++ rs), H3 ++ [.lst fs]) := if_pos zg
    exact op (cb (ac el an) (tu gi)) (op (by rfl) (by rfl) (ixT (at1 _ _))) ad
   rw [Zaq (σ1 := [some (.ref n), some (.tup [.tup ks, .tup rs]), some (.int (1 + t))]) (H1 := H2) (by
    unfold sIf
    rw [tt]
    simp only [Zb]
    rw [if_neg (by simp [hu])]
    rfl)]
   rw [Zdx (σ1 := [some (.ref n), some (.tup [.tup ks, .tup rs]), some (.int (1 + t))]) (H1 := H3 ++ [.lst fs]) (d := .tup [.tup ks, .tup (fs ++ rs)]) (by
    exact rt (tp (ac (op (by rfl) (by rfl) (ixT (at0 _ _))) (ac ea an)) (by simp)))]
   rfl
  ·intro d hd
   rcases List.mem_append.mp hd with hd | hd
   ·exact g3 d hd
   ·exact hr d hd
end K08
namespace K08
open PySem L2 DL LH WP
noncomputable def Zg3 (n : Nat) (H : HD) : Prop := ∃ a b, H[n]? = some (.lst [.int a, .int b])
theorem Zi6 {m : Int} : ∀ rs : List D, (∀ d ∈ rs, Zhr m d) -> ∃ rss : List (List Int), rs = rss.map Za4 ∧ ∀ ls ∈ rss, Up m 0 ls
 | [], _ => ⟨[], rfl, by simp⟩
 | d :: rs, h => by
  obtain ⟨ls, e, _, _, u⟩ := h d (by simp)
  obtain ⟨rss, e2, u2⟩ := Zi6 rs fun x hx => h x (by simp [hx])
  refine ⟨ls :: rss, by rw [e, e2]; rfl, ?_⟩
  intro l hl
  rcases List.mem_cons.mp hl with rfl | hl
  ·exact u
  ·exact u2 l hl
theorem Fz.fm {H H' : HD} (x : Fz H H') : Fm [] H H' := ⟨fun m o _ h => x.old m o h, x.len⟩
structure Cl (ks : List D) (rss : List (List Int)) : Prop where
 hk : ∀ d ∈ ks, Zd1 d
 hu : ∀ ls ∈ rss, Up ks.length 0 ls
 hl : rss.length ≤ 1000
 h8 : ks.length ≤ 8
noncomputable def Za7 (ks : List D) (rss : List (List Int)) : D := .tup [.tup ks, .tup (rss.map Za4)]
variable {H : HD} {Q : D -> HD -> Prop}
theorem w_cl0 {ks : List D} {rss : List (List Int)} (q : Q (.tup ks) H) : wE (ixD (Za7 ks rss) (.int 0) H) Q := ⟨_, _, ixT (at0 _ _), q⟩
theorem w_cl1 {ks : List D} {rss : List (List Int)} (q : Q (.tup (rss.map Za4)) H) : wE (ixD (Za7 ks rss) (.int 1) H) Q := ⟨_, _, ixT (at1 _ _), q⟩
theorem Zz5 {ns : List Int} {k : Int} (h0 : 0 ≤ k) (h1 : k < 1000) (q : ∀ n H', Zg3 n H' -> H.length ≤ n -> Fm [] H H' -> Q (.ref n) H') : wE (Zdl [.fl (ns.map .int), .int k] H) Q := by
 obtain ⟨a, b, e⟩ := Zw3 ns k h0 h1 H
 exact ⟨_, _, e, q _ _ ⟨a, b, last⟩ (Nat.le_refl _) (Fm.app _)⟩
theorem Zym {n : Nat} {k : Int} (hf : Zg3 n H) (h0 : 0 < k) (h1 : k < 1073741824) (q : ∀ r H', 0 ≤ r -> r < k -> Zg3 n H' -> Fm [n] H H' -> Q (.int r) H') : wE (m_law_take [.ref n, .int k] H) Q := by
 obtain ⟨r, H', r0, r1, e, x, _⟩ := Zc9 (n := n) (k := k) hf h0 h1
 exact ⟨_, _, e, q r H' r0 r1 x.feed x.fm⟩
theorem Zvo {n : Nat} {most rows : Int} (hf : Zg3 n H) (hm : 2 ≤ most ∧ most ≤ 8) (hr : 0 ≤ rows ∧ rows ≤ 40)
  (q : ∀ ks rss H', Cl ks rss -> (ks.length : Int) ≤ most -> (rss.length : Int) ≤ rows -> Zg3 n H' -> Fm [n] H H' -> Q (Za7 ks rss) H') : wE (Zcw [.ref n, .int most, .int rows] H) Q := by
 obtain ⟨ks, rs, H', e, hk, lk, hr', lr, x⟩ := Zpz (n := n) (H := H) (most := most) (rows := rows) hf hm hr
 obtain ⟨rss, er, hu⟩ := Zi6 rs hr'
 subst er
 rw [List.length_map] at lr
 exact ⟨_, _, e, q ks rss H' ⟨hk, hu, by omega, by omega⟩ lk lr x.feed x.fm⟩
theorem Zuh {m : Int} (hm : m ≤ 8) {ls : List Int} (h : Up m 0 ls) : Zhr m (Za4 ls) := by
 have b : ∀ (ls : List Int) (last : Int), 0 ≤ last -> Up m last ls -> (∀ l ∈ ls, l ≠ 0 ∧ -10 ≤ l ∧ l ≤ 10) ∧ (ls.length : Int) ≤ m - last ∨ (ls = []) := by
  intro ls
  induction ls with
  | nil => intro _ _ _; exact .inr rfl
  | cons l r ih =>
   intro last h0 u
   obtain ⟨u1, u2, u3⟩ := u
   have ha : l ≠ 0 ∧ -10 ≤ l ∧ l ≤ 10 := by unfold Zbg at u1 u2; split at u1 <;> omega
   rcases ih (Zbg l) (by omega) u3 with ⟨i1, i2⟩ | rfl
   ·refine .inl ⟨fun x hx => ?_, ?_⟩
    ·rcases List.mem_cons.mp hx with rfl | hx
     ·exact ha
     ·exact i1 x hx
    ·rw [List.length_cons]; omega
   ·refine .inl ⟨fun x hx => ?_, ?_⟩
    ·simp at hx; subst hx; exact ha
    ·simp; omega
 refine ⟨ls, rfl, ?_, ?_, h⟩
 ·rcases b ls 0 (Int.le_refl _) h with ⟨i1, _⟩ | rfl
  ·exact i1
  ·simp
 ·rcases b ls 0 (Int.le_refl _) h with ⟨_, i2⟩ | rfl
  ·omega
  ·simp
noncomputable def FW (ks : List D) (rss : List (List Int)) (bs : List Bool) : D := Zap (W ks rss (ks.length - bs.length) bs)
theorem Zwa {ks : List D} (hk : ∀ d ∈ ks, Zd1 d) {i : Nat} (h : i < ks.length) : ks[i]? = some (Zap (kS (ks.getD i .non))) := by
 have e0 : ks.getD i .non = ks[i] := by simp [List.getD, h]
 have := Zhb (hk ks[i] (List.getElem_mem h))
 rw [List.getElem?_eq_getElem h, e0]
 exact congrArg some this
variable {H : HD} {Q : D -> HD -> Prop}
theorem Zz2 {n : Nat} {ks : List D} {rss : List (List Int)} (hf : Zg3 n H) (c : Cl ks rss) (hl : rss.length ≤ 40)
  (q : ∀ rss' H', Cl ks rss' -> rss'.length ≤ 80 -> Zg3 n H' -> Fm [n] H H' -> Q (Za7 ks rss') H') : wE (Zee [.ref n, Za7 ks rss] H) Q := by
 have := c.h8
 obtain ⟨rs', H', e, g, l, x⟩ := Zv4 (n := n) (ks := ks) (rs := rss.map Za4) (H := H) hf c.h8 (fun d hd => by obtain ⟨ls, h, rfl⟩ := List.mem_map.mp hd; exact Zuh (by omega) (c.hu ls h)) (by simpa using hl)
 obtain ⟨rss', er, hu⟩ := Zi6 rs' g
 subst er
 rw [List.length_map] at l
 exact ⟨_, _, e, q rss' H' ⟨c.hk, hu, by omega, c.h8⟩ l x.feed x.fm⟩
variable {H : HD} {Q : D -> HD -> Prop}
theorem Zs1 {ks : List D} {rss : List (List Int)} {bs : List Bool} (c : Cl ks rss) (hb : bs.length ≤ ks.length) {H : HD} {Q : D -> HD -> Prop}
  (q : ∀ H', Fm [] H H' -> Q (FW ks rss bs) H') : wE (Zcz [Za7 ks rss, Za1 bs] H) Q := by
 obtain ⟨H1, e1, x1⟩ := Zo4 (bs := bs) (j := ks.length - bs.length) c.hk c.hu c.hl c.h8 (by omega) H
 exact ⟨_, _, e1, q H1 x1.fm⟩
local macro_rules | `(tactic| fail $s:str) => do
 if s.getString == "lk" then `(tactic| first | assumption | with_reducible exact WP.last | (with_reducible refine WP.appL ?_; fail "lk"))
 else if s.getString == "go" then do
  let a0 ← `(by with_unfolding_all rfl)
  let a1 ← `(?_)
  let a2 ← `(by first | (simp; done) | (simp; omega) | omega)
  let a3 ← `(by decide)
  let a4 ← `(by with_unfolding_all first | exact (rfl : _ = true) | exact (rfl : _ = false))
  let a5 ← `(by fail "lk")
  let a6 ← `(by with_unfolding_all exact rfl)
  let t ← ([`WP.w_var].map (·, [a0, a1]) ++ [`WP.w_c, `WP.w_seq, `WP.w_kn, `WP.w_set, `WP.w_op, `WP.w_acons, `WP.w_anil, `WP.w_call, `WP.w_cb, `WP.w_tof, `WP.w_bl, `WP.w_bt, `WP.w_bf, `WP.w_bnt, `WP.w_bnf, `WP.w_ret, `WP.w_fr, `WP.w_kr, `WP.w_snil, `WP.w_expr, `WP.w_for, `WP.w_or, `WP.w_an, `WP.w_no, `WP.w_ttru, `WP.w_eif, `WP.w_eno, `WP.w_ean, `WP.w_eorr, `WP.w_un, `WP.w_ch, `WP.w_int, `WP.w_tup, `WP.w_lst, `WP.w_lm, `WP.w_tm, `WP.w_dm, `WP.w_dn, `WP.w_on, `WP.w_os, `WP.w_sl, `WP.w_rv, `WP.w_lc, `WP.w_asg, `WP.w_gnm, `WP.w_gsb, `WP.w_gcn, `WP.w_gnl].map (·, [a1]) ++ [`WP.w_n, `WP.w_gtp, `WP.w_ixT, `WP.w_isN, `WP.w_isnN, `WP.w_isBl, `WP.w_isnBl].map (·, [a0, a1]) ++ [`WP.w_sz, `WP.w_addT].map (·, [a2, a1]) ++ [`WP.w_mod].map (·, [a3, a1]) ++ [`WP.w_fdiv, `WP.w_mulL, `WP.w_mulR].map (·, [a3, a3, a1]) ++ [`WP.w_eqI', `WP.w_neI', `WP.w_eqS', `WP.w_neS'].map (·, [a4, a1]) ++ [`WP.w_lenR, `WP.w_tupR, `WP.w_itR].map (·, [a5, a1]) ++ [`WP.w_ixR].map (·, [a5, a0, a1]) ++ [`WP.w_isi'].map (·, [a0, a0, a4, a1]) ++ [`WP.w_addI, `WP.w_subI, `WP.w_lt, `WP.w_le, `WP.w_gt, `WP.w_ge, `WP.w_slhi, `WP.w_sllo, `WP.w_sllo1, `WP.w_neg, `WP.w_eqI, `WP.w_neI, `WP.w_eqS, `WP.w_neS, `WP.w_lenT, `WP.w_lenF, `WP.w_abs, `WP.w_intI, `WP.w_intB, `WP.w_max, `WP.w_min, `WP.w_truB, `WP.w_truT, `WP.w_truN, `WP.w_isq, `WP.w_itT, `WP.w_itF, `WP.w_ir1, `WP.w_ir2, `WP.w_ir3, `WP.w_idic, `WP.w_enum, `WP.w_enum1, `WP.w_zip, `WP.w_yes, `WP.w_retn, `WP.w_fn, `WP.w_agn, `WP.w_agr, `WP.w_kb, `WP.w_kc, `WP.w_agb, `WP.w_agc, `WP.w_brk, `WP.w_cnt].map (·, [a1]) ++ [`WP.w_bT, `WP.w_bF].map (·, [a6, a1]) : List (Lean.Name × List Lean.Term)).foldrM (fun p (r : Lean.TSyntax `tactic) => `(tactic| first | with_reducible refine $(Lean.Syntax.mkApp (Lean.mkIdent p.1) p.2.toArray) | $r:tactic)) (← `(tactic| fail "no"))
  return t
 else Lean.Macro.throwUnsupported
local macro_rules | `(tactic| fail $s:str) => do
 if s.getString == "go" then `(tactic| first | with_reducible refine w_lenP ?_ | with_reducible refine w_addP (by omega) ?_ | with_reducible refine w_cl0 ?_ | with_reducible refine w_cl1 ?_)
 else Lean.Macro.throwUnsupported
variable {H : HD} {Q : D -> HD -> Prop}
theorem Zun {m : Int} : ∀ (ls : List Int) (last : Int), 0 ≤ last -> Up m last ls -> ∀ l ∈ ls, last < Zbg l ∧ Zbg l ≤ m
 | [], _, _, _, _, h => by cases h
 | l :: r, last, h0, u, x, h => by
  obtain ⟨u1, u2, u3⟩ := u
  rcases List.mem_cons.mp h with rfl | h
  ·exact ⟨u1, u2⟩
  ·have := Zun r (Zbg l) (by omega) u3 x h; omega
theorem Cl.len9 {ks : List D} {rss : List (List Int)} (c : Cl ks rss) {ls : List Int} (h : ls ∈ rss) : ls.length ≤ 9 := by
 obtain ⟨ls', e, _, l9, _⟩ := Zuh (by have := c.h8; omega) (c.hu ls h)
 have : ls = ls' := Zu1 e
 rw [this]; exact l9
open PySem L2 DL LH
theorem Zuj {m : Int} : ∀ (ls : List Int) (last : Int), 0 ≤ last -> Up m last ls -> ∀ l ∈ ls, 0 < Zbg l
 | [], _, _, _, l, h => by simp at h
 | x :: r, last, h0, u, l, h => by
  have h1 := u.1
  rcases List.mem_cons.mp h with rfl | h
  ·omega
  ·exact Zuj r (Zbg x) (by omega) u.2.2 l h
noncomputable abbrev kb : SF := (Zal (sIf (tAn (tOf (eOp leD (eCB Zna (Zaa (Zad 2) Zai)) (eCB Zdb (Zaa (Zad 1) Zai)))) (tOf (eOp eqD (eOp ixD (Zad 1) (eOp Ze0 (eCB Zna (Zaa (Zad 2) Zai)) (eC (.int 1)))) (eOp gtD (Zad 2) (eC (.int 0)))))) (Zal (Zcc (eC (.bl true)))
 Zav) Zav)
 Zav)
theorem kb_ok {bs : List Bool} {l : Int} {r : D} {H : HD} (h0 : 0 < Zbg l) : kb [some r, some (.tup (bs.map .bl)), some (.int l)] H = some (if rig bs l = true then .rt (.bl true) else .nx, [some r, some (.tup (bs.map .bl)), some (.int l)], H) := by
 let σ : SD := [some r, some (.tup (bs.map .bl)), some (.int l)]
 have ab : eCB Zna (Zaa (Zad 2) Zai) σ H = some (.int (Zbg l), H) := cb (ac (vr rfl) an) rfl
 have t1 : tOf (eOp leD (eCB Zna (Zaa (Zad 2) Zai)) (eCB Zdb (Zaa (Zad 1) Zai))) σ H = some (decide (Zbg l ≤ bs.length), H) := tof (op ab (cb (ac (vr rfl) an) (lenB bs H)) (by simp [leD, iiD, CT]))
 by_cases c : Zbg l ≤ bs.length
 ·rw [decide_eq_true c] at t1
  have lt : (Zbg l - 1).toNat < bs.length := by omega
  have a1 : atI (bs.map D.bl) (Zbg l - 1) = some (.bl bs[(Zbg l - 1).toNat]) := Zgx (by omega) (by rw [List.getElem?_map, List.getElem?_eq_getElem lt]; rfl)
  have rg : rig bs l = (bs[(Zbg l - 1).toNat] == decide (0 < l)) := by unfold rig; rw [List.getElem?_eq_getElem lt]
  have t2 : tOf (eOp eqD (eOp ixD (Zad 1) (eOp Ze0 (eCB Zna (Zaa (Zad 2) Zai)) (eC (.int 1)))) (eOp gtD (Zad 2) (eC (.int 0)))) σ H = some (rig bs l, H) := by
   rw [rg]
   exact tof (op (op (vr rfl) (op ab rfl (suI _ _ _)) (ixT a1)) (op (d1 := .int l) (H1 := H) (vr rfl) rfl (by simp [gtD, iiD, CT])) (eq_bl _ _ _))
  have tt : tAn (tOf (eOp leD (eCB Zna (Zaa (Zad 2) Zai)) (eCB Zdb (Zaa (Zad 1) Zai)))) (tOf (eOp eqD (eOp ixD (Zad 1) (eOp Ze0 (eCB Zna (Zaa (Zad 2) Zai)) (eC (.int 1)))) (eOp gtD (Zad 2) (eC (.int 0))))) σ H = some (rig bs l, H) := (anT t1).trans t2
  cases e : rig bs l with
  | true => rw [e] at tt; exact hit tt (rt rfl)
  | false => rw [e] at tt; exact (skip tt).trans rfl
 ·rw [decide_eq_false c] at t1
  have rg : rig bs l = false := by unfold rig; rw [List.getElem?_eq_none (by omega)]
  rw [rg]
  exact (skip (anF t1)).trans rfl
theorem Zrh {bs : List Bool} {r : D} {H : HD} : ∀ (ls : List Int) (z : Option D), (∀ l ∈ ls, 0 < Zbg l) -> ∃ z', Zdg [] (gNm 2) kb (ls.map .int) [some r, some (.tup (bs.map .bl)), z] H = some (if kept bs ls = true then .rt (.bl true) else .nx, [some r, some (.tup (bs.map .bl)), z'], H)
 | [], z, _ => ⟨z, by rw [List.map_nil, Zdg, if_pos Zdc]; rfl⟩
 | l :: ls, z, h => by
  rw [List.map_cons, Zdg, if_pos Zdc]
  simp only [gNm, List.set, Zb]
  rw [kb_ok (h l (by simp))]
  have k : kept bs (l :: ls) = (rig bs l || kept bs ls) := by unfold kept; rw [List.any_cons]
  cases e : rig bs l with
  | true => exact ⟨some (.int l), by rw [k, e]; rfl⟩
  | false =>
   obtain ⟨z', ih⟩ := Zrh (bs := bs) (r := r) (H := H) ls (some (.int l)) fun x hx => h x (by simp [hx])
   refine ⟨z', ?_⟩
   rw [if_neg (by simp)]
   simp only [Zb]
   rw [ih, k, e, Bool.false_or]
theorem Zwf {bs : List Bool} {ls : List Int} {H : HD} (h : ∀ l ∈ ls, 0 < Zbg l) : Zdm [Za4 ls, .tup (bs.map .bl)] H = some (.bl (kept bs ls), H) := by
 obtain ⟨z', e⟩ := Zrh (bs := bs) (r := Za4 ls) (H := H) ls none h
 have e1 : Zea (iSq (Zad 0)) (gNm 2) kb [some (Za4 ls), some (.tup (bs.map .bl)), none] H = some (if kept bs ls = true then .rt (.bl true) else .nx, [some (Za4 ls), some (.tup (bs.map .bl)), z'], H) := by
  unfold Zea iSq
  rw [vr (d := Za4 ls) rfl]
  exact e
 show ((Zeh [some (Za4 ls), some (.tup (bs.map .bl)), none] H).bind _) = _
 unfold Zeh
 cases c : kept bs ls with
 | true => rw [c, if_pos rfl] at e1; rw [Zdx e1]; rfl
 | false => rw [c, if_neg (by simp)] at e1; rw [Zaq e1]; rfl
noncomputable def two (bs : List Bool) : List (List Bool) := [bs ++ [false], bs ++ [true]]
noncomputable def lev : Nat -> List (List Bool)
 | 0 => [[]]
 | k + 1 => (lev k).flatMap two
noncomputable def Zf1 : Nat -> List (List Bool)
 | 0 => lev 0
 | k + 1 => lev (k + 1) ++ Zf1 k
theorem Zem : ∀ (k : Nat), ∀ bs ∈ lev k, bs.length = k
 | 0, bs, h => by simp [lev] at h; subst h; rfl
 | k + 1, bs, h => by
  obtain ⟨x, hx, h⟩ := List.mem_flatMap.mp h
  have := Zem k x hx
  simp only [two, List.mem_cons, List.not_mem_nil, or_false] at h
  rcases h with rfl | rfl <;> simp [this]
theorem Zfu : ∀ k : Nat, (lev k).length = 2 ^ k
 | 0 => rfl
 | k + 1 => by
  have : ∀ xs : List (List Bool), (xs.flatMap two).length = 2 * xs.length := fun xs => by
   induction xs with
   | nil => rfl
   | cons x r ih => rw [List.flatMap_cons, List.length_append, ih]; simp [two]; omega
  show ((lev k).flatMap two).length = _
  rw [this, Zfu k, Nat.pow_succ]; omega
theorem Zr7 {k : Nat} {bs : List Bool} (t : Bool) (h : bs ∈ lev k) : bs ++ [t] ∈ lev (k + 1) := by
 refine List.mem_flatMap.mpr ⟨bs, h, ?_⟩
 cases t <;> simp [two]
theorem addL {p q : Nat} {H : HD} {xs ys : List D} (h1 : H[p]? = some (.lst xs)) (h2 : H[q]? = some (.lst ys)) (hl : xs.length + ys.length ≤ 100000) : Zbd (.ref p) (.ref q) H = some (.ref H.length, H ++ [.lst (xs ++ ys)]) := by
 have z : (xs ++ ys).length ≤ sizeLine := Zdp (by simp; omega)
 simp only [Zbd, h1, h2]
 exact if_pos z
noncomputable abbrev ib : SF := (Zal (Za0 5 (eOp Zbd (Zad 5) (Zb6 (Zaa (eOp Zbd (Zad 6) (Zd3 (Zaa (eC (.bl false)) Zai))) (Zaa (eOp Zbd (Zad 6) (Zd3 (Zaa (eC (.bl true)) Zai))) Zai)))))
 Zav)
theorem Zqn {r : Nat} {L : List D} {a0 a1 a2 a3 a4 : Option D} : ∀ (bl acc : List (List Bool)) (q : Nat) (H : HD) (z6 : Option D), H[q]? = some (.lst (acc.map Za1)) -> H[r]? = some (.lst L) -> acc.length + 2 * bl.length ≤ 10000 -> (∀ b ∈ bl, b.length ≤ 100) →
  ∃ (q' : Nat) (T : HD) (z6' : Option D), Zdg [(r, .lst L)] (gNm 6) ib (bl.map Za1) [a0, a1, a2, a3, a4, some (.ref q), z6] H = some (.nx, [a0, a1, a2, a3, a4, some (.ref q'), z6'], H ++ T) ∧ (H ++ T)[q']? = some (.lst ((acc ++ bl.flatMap two).map Za1)) ∧ (q' = q ∨ H.length ≤ q')
 | [], acc, q, H, z6, hq, hr, _, _ => ⟨q, [], z6, by rw [List.map_nil, Zdg, if_pos (by intro x hx; simp at hx; subst hx; exact hr), List.append_nil], by simpa using hq, .inl rfl⟩
 | b :: bl, acc, q, H, z6, hq, hr, hl, hb => by
  rw [List.map_cons, Zdg, if_pos (by intro x hx; simp at hx; subst hx; exact hr)]
  simp only [gNm, List.set, Zb]
  let H1 : HD := H ++ [.lst ((two b).map Za1)]
  let H2 : HD := H1 ++ [.lst ((acc ++ two b).map Za1)]
  have hb1 := hb b (by simp)
  have p1 : ∀ t Hx, eOp Zbd (Zad 6) (Zd3 (Zaa (eC (.bl t)) Zai)) [a0, a1, a2, a3, a4, some (.ref q), some (Za1 b)] Hx = some (Za1 (b ++ [t]), Hx) := fun t Hx => by
   refine op (vr rfl) (tp (ds := [.bl t]) (ac rfl an) (by simp)) ?_
   have := adT (xs := b.map D.bl) (ys := [.bl t]) (H := Hx) (by simp; omega)
   rw [show Za1 (b ++ [t]) = .tup (b.map D.bl ++ [.bl t]) by simp [Za1]]
   exact this
  have q1 : H1[q]? = some (.lst (acc.map Za1)) := by rw [List.getElem?_append_left (List.getElem?_eq_some_iff.mp hq).1]; exact hq
  have n1 : H1[H.length]? = some (.lst ((two b).map Za1)) := by simp [H1]
  have ad := addL q1 n1 (by simp [two] at hl ⊢; omega)
  have st : ib [a0, a1, a2, a3, a4, some (.ref q), some (Za1 b)] H = some (.nx, [a0, a1, a2, a3, a4, some (.ref H1.length), some (Za1 b)], H2) := by
   refine (Zaq (Zdd (d := .ref H1.length) (H1 := H2) (op (vr rfl) (ls (ds := (two b).map Za1) (ac (p1 false _) (ac (p1 true _) an)) (by simp [two])) ?_))).trans rfl
   rw [ad, ← List.map_append]
  rw [st]
  simp only [Zb]
  have q2 : H2[H1.length]? = some (.lst ((acc ++ two b).map Za1)) := by simp [H2]
  have r2 : H2[r]? = some (.lst L) := by
   have lr := (List.getElem?_eq_some_iff.mp hr).1
   rw [List.getElem?_append_left (by simp [H1]; omega), List.getElem?_append_left lr]; exact hr
  obtain ⟨q', T, z6', e, g, w⟩ := Zqn (r := r) (L := L) (a0 := a0) (a1 := a1) (a2 := a2) (a3 := a3) (a4 := a4) bl (acc ++ two b) H1.length H2 (some (Za1 b)) q2 r2 (by simp [two] at hl ⊢; omega) (fun x hx => hb x (by simp [hx]))
  have eH : H2 ++ T = H ++ ([.lst ((two b).map Za1), .lst ((acc ++ two b).map Za1)] ++ T) := by simp [H2, H1]
  refine ⟨q', _, z6', by rw [e, eH], ?_, ?_⟩
  ·rw [← eH, g, List.flatMap_cons, List.append_assoc]
  ·rcases w with rfl | w
   ·exact .inr (by simp [H1])
   ·exact .inr (by simp [H2, H1] at w; omega)
open PySem L2 DL LH
noncomputable def LV (p : Nat) (H : HD) : Nat -> List D -> Prop
 | 0, refs => ∃ r, refs = [.ref r] ∧ r ≠ p ∧ H[r]? = some (.lst ((lev 0).map Za1))
 | k + 1, refs => ∃ rs r, refs = rs ++ [.ref r] ∧ LV p H k rs ∧ r ≠ p ∧ H[r]? = some (.lst ((lev (k + 1)).map Za1))
theorem LV.mono {p : Nat} {H H' : HD} (x : ExtS [p] H H') : ∀ (k : Nat) (refs : List D), LV p H k refs -> LV p H' k refs
 | 0, refs, ⟨r, e, n, h⟩ => ⟨r, e, n, x.old r _ (by simp; exact n) h⟩
 | k + 1, refs, ⟨rs, r, e, l, n, h⟩ => ⟨rs, r, e, LV.mono x k rs l, n, x.old r _ (by simp; exact n) h⟩
theorem LV.last {p : Nat} {H : HD} : ∀ (k : Nat) (refs : List D), LV p H k refs -> ∃ rs r, refs = rs ++ [.ref r] ∧ r ≠ p ∧ H[r]? = some (.lst ((lev k).map Za1))
 | 0, refs, ⟨r, e, n, h⟩ => ⟨[], r, e, n, h⟩
 | k + 1, refs, ⟨rs, r, e, _, n, h⟩ => ⟨rs, r, e, n, h⟩
theorem LV.len {p : Nat} {H : HD} : ∀ (k : Nat) (refs : List D), LV p H k refs -> refs.length = k + 1
 | 0, refs, ⟨r, e, n, h⟩ => by subst e; rfl
 | k + 1, refs, ⟨rs, r, e, l, n, h⟩ => by subst e; have := LV.len k rs l; simp [this]
theorem Zv6 (xs : List D) (v : D) : atI (xs ++ [v]) (-1) = some v := by
 unfold atI ixN
 rw [if_neg (by decide), if_pos (by simp; omega)]
 have : ((-1 : Int) + (((xs ++ [v]).length : Nat) : Int)).toNat = xs.length := by simp; omega
 rw [this]
 simp
noncomputable abbrev ob : SF := (Zal (Za0 5 (Zb6 Zai))
 (Zal (Zea (iSq (eOp ixD (Zad 1) (eUn Zh2 (eC (.int 1))))) (gNm 6) ib)
 (Zal (Zc8 (eLM Zb3 (Zad 1) (Zaa (Zad 5) Zai)))
 Zav)))
theorem ob_ok {p k : Nat} {refs : List D} {a0 a2 a3 a4 z5 z6 : Option D} {H : HD} (hp : H[p]? = some (.lst refs)) (lv : LV p H k refs) (hk : k < 8) :
  ∃ (refs' : List D) (z5' z6' : Option D) (H' : HD), ob [a0, some (.ref p), a2, a3, a4, z5, z6] H = some (.nx, [a0, some (.ref p), a2, a3, a4, z5', z6'], H') ∧ H'[p]? = some (.lst refs') ∧ LV p H' (k + 1) refs' ∧ ExtS [p] H H' := by
 have ln := LV.len k refs lv
 obtain ⟨rs, r, e, nr, hr⟩ := LV.last k refs lv
 have ltp := (List.getElem?_eq_some_iff.mp hp).1
 have ltr := (List.getElem?_eq_some_iff.mp hr).1
 let H1 : HD := H ++ [.lst []]
 have s1 : Za0 5 (Zb6 Zai) [a0, some (.ref p), a2, a3, a4, z5, z6] H = some (.nx, [a0, some (.ref p), a2, a3, a4, some (.ref H.length), z6], H1) := Zdd (ls (ds := []) an (by simp))
 have p1 : H1[p]? = some (.lst refs) := by rw [List.getElem?_append_left ltp]; exact hp
 have r1 : H1[r]? = some (.lst ((lev k).map Za1)) := by rw [List.getElem?_append_left ltr]; exact hr
 have sz := Zfu k
 have p8 : 2 ^ k ≤ 2 ^ 8 := Nat.pow_le_pow_right (by omega) (by omega)
 obtain ⟨q', T, z6', e2, g2, w2⟩ := Zqn (r := r) (L := (lev k).map Za1) (a0 := a0) (a1 := some (.ref p)) (a2 := a2) (a3 := a3) (a4 := a4) (lev k) [] H.length H1 z6 (by simp [H1]) r1 (by simp; omega) (fun b hb => by have := Zem k b hb; omega)
 have it : iSq (eOp ixD (Zad 1) (eUn Zh2 (eC (.int 1)))) [a0, some (.ref p), a2, a3, a4, some (.ref H.length), z6] H1 = some (((lev k).map Za1, [(r, .lst ((lev k).map Za1))]), H1) := by
  have i1 : eOp ixD (Zad 1) (eUn Zh2 (eC (.int 1))) [a0, some (.ref p), a2, a3, a4, some (.ref H.length), z6] H1 = some (.ref r, H1) := by
   refine op (vr rfl) (rfl : eUn Zh2 (eC (.int 1)) _ H1 = some (.int (-1), H1)) ?_
   simp only [ixD, Zey, p1, Zb]
   rw [e, Zv6]
   rfl
  unfold iSq
  rw [i1]
  simp only [Zb, Zfa, r1, Option.map_some]
 have s2 : Zea (iSq (eOp ixD (Zad 1) (eUn Zh2 (eC (.int 1))))) (gNm 6) ib [a0, some (.ref p), a2, a3, a4, some (.ref H.length), z6] H1 = some (.nx, [a0, some (.ref p), a2, a3, a4, some (.ref q'), z6'], H1 ++ T) := by
  unfold Zea
  rw [it]
  exact e2
 have p2 : (H1 ++ T)[p]? = some (.lst refs) := by rw [List.getElem?_append_left (by simp [H1]; omega)]; exact p1
 have lp2 := (List.getElem?_eq_some_iff.mp p2).1
 have hs : refs.length < sizeLine := by rw [PySem.sizeLine_eq]; omega
 have qp : q' ≠ p := by
  rcases w2 with rfl | w
  ·omega
  ·simp [H1] at w; omega
 let H3 : HD := (H1 ++ T).set p (.lst (refs ++ [.ref q']))
 have s3 : Zc8 (eLM Zb3 (Zad 1) (Zaa (Zad 5) Zai)) [a0, some (.ref p), a2, a3, a4, some (.ref q'), z6'] (H1 ++ T) = some (.nx, [a0, some (.ref p), a2, a3, a4, some (.ref q'), z6'], H3) := by
  simp [Zc8, eLM, Zad, Zhy, p2, Zaa, Zai, Zb3, hs, H3]
 have x3 : ExtS [p] H H3 := (ExtS.app [.lst []]).trans ((ExtS.app T).trans (ExtS.set (by simp)))
 refine ⟨refs ++ [.ref q'], some (.ref q'), z6', H3, ?_, by rw [List.getElem?_set_self lp2], ⟨refs, q', rfl, LV.mono x3 k refs lv, qp, ?_⟩, x3⟩
 ·unfold ob
  rw [Zaq s1, Zaq s2, Zaq s3]
  rfl
 ·rw [List.getElem?_set_ne (Ne.symm qp), g2]
  simp [lev]
theorem Zmf {p : Nat} {a0 a3 a4 : Option D} : ∀ (xs : List D) (k : Nat) (refs : List D) (H : HD) (z2 z5 z6 : Option D), H[p]? = some (.lst refs) -> LV p H k refs -> k + xs.length ≤ 8 →
  ∃ (refs' : List D) (z2' z5' z6' : Option D) (H' : HD), Zdg [] (gNm 2) ob xs [a0, some (.ref p), z2, a3, a4, z5, z6] H = some (.nx, [a0, some (.ref p), z2', a3, a4, z5', z6'], H') ∧ H'[p]? = some (.lst refs') ∧ LV p H' (k + xs.length) refs' ∧ ExtS [p] H H'
 | [], k, refs, H, z2, z5, z6, hp, lv, _ => ⟨refs, z2, z5, z6, H, by rw [Zdg, if_pos Zdc], hp, lv, ExtS.refl⟩
 | x :: xs, k, refs, H, z2, z5, z6, hp, lv, hk => by
  rw [Zdg, if_pos Zdc]
  simp only [gNm, List.set, Zb]
  obtain ⟨refs1, z5', z6', H1, e1, p1, l1, x1⟩ := ob_ok (a0 := a0) (a2 := some x) (a3 := a3) (a4 := a4) (z5 := z5) (z6 := z6) hp lv (by simp at hk; omega)
  rw [e1]
  simp only [Zb]
  obtain ⟨refs2, z2', z5'', z6'', H2, e2, p2, l2, x2⟩ := Zmf (p := p) (a0 := a0) (a3 := a3) (a4 := a4) xs (k + 1) refs1 H1 (some x) z5' z6' p1 l1 (by simp at hk ⊢; omega)
  refine ⟨refs2, z2', z5'', z6'', H2, e2, p2, ?_, x1.trans x2⟩
  have : k + 1 + xs.length = k + (x :: xs).length := by simp; omega
  rw [← this]; exact l2
theorem Zma : ∀ k : Nat, (Zf1 k).length < 2 ^ (k + 1)
 | 0 => by decide
 | k + 1 => by
  have a := Zma k
  have b := Zfu (k + 1)
  show (lev (k + 1) ++ Zf1 k).length < _
  rw [List.length_append, b, Nat.pow_succ 2 (k + 1)]; omega
noncomputable abbrev rb : SF := (Zal (Za0 3 (eOp Zbd (Zad 3) (Zad 4))) Zav)
theorem Zys {p k q r : Nat} {H : HD} {acc : List (List Bool)} {a0 a1 a2 a5 a6 : Option D} (hk : k ≤ 8) (hq : H[q]? = some (.lst (acc.map Za1))) (hr : H[r]? = some (.lst ((lev k).map Za1))) (ha : acc.length ≤ 10000) :
  rb [a0, a1, a2, some (.ref q), some (.ref r), a5, a6] H = some (.nx, [a0, a1, a2, some (.ref H.length), some (.ref r), a5, a6], H ++ [.lst ((acc ++ lev k).map Za1)]) := by
 have sz := Zfu k
 have p8 : 2 ^ k ≤ 2 ^ 8 := Nat.pow_le_pow_right (by omega) (by omega)
 have ad := addL hq hr (by simp; omega)
 rw [← List.map_append] at ad
 exact (Zaq (Zdd (op (vr rfl) (vr rfl) ad))).trans rfl
theorem Zm7 {p : Nat} {all : List D} {a0 a1 a2 a5 a6 : Option D} : ∀ (k : Nat) (refs : List D) (acc : List (List Bool)) (q : Nat) (H : HD) (z4 : Option D), k ≤ 8 -> LV p H k refs -> H[p]? = some (.lst all) -> H[q]? = some (.lst (acc.map Za1)) -> acc.length + 2 ^ (k + 1) ≤ 10000 →
  ∃ (q' : Nat) (T : HD) (z4' : Option D), Zdg [(p, .lst all)] (gNm 4) rb refs.reverse [a0, a1, a2, some (.ref q), z4, a5, a6] H = some (.nx, [a0, a1, a2, some (.ref q'), z4', a5, a6], H ++ T) ∧ (H ++ T)[q']? = some (.lst ((acc ++ Zf1 k).map Za1))
 | 0, refs, acc, q, H, z4, hk, ⟨r, e, n, hr⟩, hp, hq, ha => by
  have st := Zys (p := p) (k := 0) (a0 := a0) (a1 := a1) (a2 := a2) (a5 := a5) (a6 := a6) hk hq hr (Nat.le_trans (Nat.le_add_right _ _) ha)
  have ltp := (List.getElem?_eq_some_iff.mp hp).1
  subst e
  rw [List.reverse_cons, List.reverse_nil, List.nil_append, Zdg, if_pos (by intro x hx; simp at hx; subst hx; exact hp)]
  simp only [gNm, List.set, Zb]
  rw [st]
  simp only [Zb]
  refine ⟨H.length, [.lst ((acc ++ lev 0).map Za1)], some (.ref r), ?_, by simp [Zf1]⟩
  rw [Zdg, if_pos (by intro x hx; simp at hx; subst hx; rw [List.getElem?_append_left ltp]; exact hp)]
 | k + 1, refs, acc, q, H, z4, hk, ⟨rs, r, e, lv, n, hr⟩, hp, hq, ha => by
  have st := Zys (p := p) (k := k + 1) (a0 := a0) (a1 := a1) (a2 := a2) (a5 := a5) (a6 := a6) hk hq hr (Nat.le_trans (Nat.le_add_right _ _) ha)
  have ltp := (List.getElem?_eq_some_iff.mp hp).1
  have sz := Zfu (k + 1)
  subst e
  rw [List.reverse_append, List.reverse_cons, List.reverse_nil, List.nil_append, List.singleton_append, Zdg, if_pos (by intro x hx; simp at hx; subst hx; exact hp)]
  simp only [gNm, List.set, Zb]
  rw [st]
  simp only [Zb]
  have x1 : ExtS [p] H (H ++ [.lst ((acc ++ lev (k + 1)).map Za1)]) := ExtS.app _
  obtain ⟨q', T, z4', e2, g2⟩ := Zm7 (p := p) (all := all) (a0 := a0) (a1 := a1) (a2 := a2) (a5 := a5) (a6 := a6) k rs (acc ++ lev (k + 1)) H.length _ (some (.ref r)) (by omega) (LV.mono x1 k rs lv) (by rw [List.getElem?_append_left ltp]; exact hp) (by simp) (by rw [List.length_append, sz]; have := Nat.pow_succ 2 (k + 1); omega)
  refine ⟨q', .lst ((acc ++ lev (k + 1)).map Za1) :: T, z4', ?_, ?_⟩
  ·rw [e2, List.append_assoc]; rfl
  ·rw [List.append_assoc] at g2
   rw [← List.append_assoc] at g2
   simpa [Zf1, List.append_assoc] using g2
theorem Zxr {f : EF} {σ : SD} {H H1 : HD} {n : Nat} {xs : List D} (h : f σ H = some (.ref n, H1)) (g : H1[n]? = some (.lst xs)) : Zxk (Zaa f Zai) σ H = some ((xs.reverse, [(n, .lst xs)]), H1) := by
 unfold Zxk
 rw [show Zaa f Zai σ H = some ([.ref n], H1) from ac h an]
 simp only [Zb, g]
theorem Zv9 {n : Nat} (hn : n ≤ 8) (H : HD) : ∃ (p : Nat) (refs : List D) (z2 z5 z6 : Option D) (H' : HD), (∀ σ, σ = [some (D.int n), none, none, none, none, none, none] -> ∀ Zbv : SF, (Zal (Za0 1 (Zb6 (Zaa (Zb6 (Zaa (Zd3 Zai) Zai)) Zai))) (Zal (Zea (iR1 (Zaa (Zad 0) Zai)) (gNm 2) ob) Zbv)) σ H = Zbv [some (.int n), some (.ref p), z2, none, none, z5, z6] H') ∧ H'[p]? = some (.lst refs) ∧ LV p H' n refs ∧ ExtS [] H H' := by
 have p2 : (H ++ [.lst [.tup []]] ++ [.lst [.ref H.length]])[(H ++ [DO.lst [.tup []]]).length]? = some (.lst [.ref H.length]) := by simp
 have r2 : (H ++ [.lst [.tup []]] ++ [.lst [.ref H.length]])[H.length]? = some (.lst ((lev 0).map Za1)) := by simp [lev, Za1]
 have np : H.length ≠ (H ++ [DO.lst [.tup []]]).length := by simp
 have s1 : Za0 1 (Zb6 (Zaa (Zb6 (Zaa (Zd3 Zai) Zai)) Zai)) [some (.int n), none, none, none, none, none, none] H = some (.nx, [some (.int n), some (.ref (H ++ [DO.lst [.tup []]]).length), none, none, none, none, none], H ++ [.lst [.tup []]] ++ [.lst [.ref H.length]]) :=
  Zdd (ls (ds := [.ref H.length]) (ac (ls (ds := [.tup []]) (ac rfl an) (by simp)) an) (by simp))
 have x0 : ExtS [] H (H ++ [.lst [.tup []]] ++ [.lst [.ref H.length]]) := (ExtS.app _).trans (ExtS.app _)
 have lp : H.length ≤ (H ++ [DO.lst [.tup []]]).length := by simp
 generalize (H ++ [DO.lst [.tup []]]).length = p at *
 generalize H ++ [.lst [.tup []]] ++ [.lst [.ref H.length]] = H2 at *
 have hx : 0 + (Za2 0 n).length ≤ 8 := by rw [Zej]; omega
 obtain ⟨refs, z2, z5, z6, H3, e3, p3, l3, x3⟩ := Zmf (p := p) (a0 := some (.int n)) (a3 := none) (a4 := none) (Za2 0 n) 0 [.ref H.length] H2 none none none p2 ⟨H.length, rfl, np, r2⟩ hx
 rw [Zej, Nat.zero_add] at l3
 have sn : Zcf (n : Int) := ⟨by omega, by omega⟩
 have it := Zqr (f := Zad 0) (σ := [some (.int n), some (.ref p), none, none, none, none, none]) (H := H2) (vr rfl) sn
 have s2 : Zea (iR1 (Zaa (Zad 0) Zai)) (gNm 2) ob [some (.int n), some (.ref p), none, none, none, none, none] H2 = some (.nx, [some (.int n), some (.ref p), z2, none, none, z5, z6], H3) := by
  unfold Zea
  rw [it]
  exact e3
 refine ⟨p, refs, z2, z5, z6, H3, fun σ hs Zbv => ?_, p3, l3, ?_⟩
 ·subst hs
  rw [Zaq s1, Zaq s2]
 ·refine ⟨fun m o _ h => ?_, Nat.le_trans x0.len x3.len⟩
  have lm := (List.getElem?_eq_some_iff.mp h).1
  have mp : m ∉ [p] := by simp; omega
  exact x3.old m o mp (x0.old m o (by simp) h)
theorem Zsf {n : Nat} (hn : n ≤ 8) (H : HD) : ∃ (q : Nat) (H' : HD), Zbz [.int n] H = some (.ref q, H') ∧ H'[q]? = some (.lst ((Zf1 n).map Za1)) ∧ ExtS [] H H' := by
 obtain ⟨p, refs, z2, z5, z6, H3, e3, p3, l3, x3⟩ := Zv9 hn H
 have s3 : Za0 3 (Zb6 Zai) [some (.int n), some (.ref p), z2, none, none, z5, z6] H3 = some (.nx, [some (.int n), some (.ref p), z2, some (.ref H3.length), none, z5, z6], H3 ++ [.lst []]) := Zdd (ls (ds := []) an (by simp))
 have ltp := (List.getElem?_eq_some_iff.mp p3).1
 have p4 : (H3 ++ [.lst []])[p]? = some (.lst refs) := by rw [List.getElem?_append_left ltp]; exact p3
 have q4 : (H3 ++ [.lst []])[H3.length]? = some (.lst (([] : List (List Bool)).map Za1)) := by simp
 have l4 : LV p (H3 ++ [.lst []]) n refs := LV.mono (ExtS.app _) _ _ l3
 have x4 : ExtS [] H (H3 ++ [.lst []]) := x3.trans (ExtS.app _)
 generalize H3 ++ [.lst []] = H4 at *
 have p8 : 2 ^ (n + 1) ≤ 2 ^ 9 := Nat.pow_le_pow_right (by omega) (by omega)
 have hz : ([] : List (List Bool)).length + 2 ^ (n + 1) ≤ 10000 := by rw [List.length_nil, Nat.zero_add]; exact Nat.le_trans p8 (by decide)
 obtain ⟨q', T, z4, e5, g5⟩ := Zm7 (p := p) (all := refs) (a0 := some (.int n)) (a1 := some (.ref p)) (a2 := z2) (a5 := z5) (a6 := z6) n refs [] H3.length H4 none hn l4 p4 q4 hz
 have it := Zxr (f := Zad 1) (σ := [some (.int n), some (.ref p), z2, some (.ref H3.length), none, z5, z6]) (H := H4) (vr rfl) p4
 have s4 : Zea (Zxk (Zaa (Zad 1) Zai)) (gNm 4) rb [some (.int n), some (.ref p), z2, some (.ref H3.length), none, z5, z6] H4 = some (.nx, [some (.int n), some (.ref p), z2, some (.ref q'), z4, z5, z6], H4 ++ T) := by
  unfold Zea
  rw [it]
  exact e5
 rw [List.nil_append] at g5
 refine ⟨q', H4 ++ T, ?_, g5, x4.trans (ExtS.app _)⟩
 have e3' := e3 _ rfl (Zal (Za0 3 (Zb6 Zai)) (Zal (Zea (Zxk (Zaa (Zad 1) Zai)) (gNm 4) rb) (Zal (Zcc (Zad 3)) Zav)))
 rw [Zaq s3, Zaq s4, Zdx (rt (vr rfl))] at e3'
 have e4 : Zen ([D.int n].map some ++ List.replicate (7 - [D.int n].length) none) H = some (.rt (.ref q'), [some (.int n), some (.ref p), z2, some (.ref q'), z4, z5, z6], H4 ++ T) := e3'
 unfold Zbz Zb7
 rw [if_pos (show [D.int (n : Int)].length = 1 from rfl), e4]
 rfl
open PySem L2 DL LH
noncomputable def enc (bs : List Bool) : List Int := bs.map fun b => if b then 1 else 0
theorem Zf8 (bs : List Bool) : nk (Za1 bs) = some (enc bs) := by
 show Zja (bs.map D.bl) = _
 induction bs with
 | nil => rfl
 | cons b r ih =>
  rw [List.map_cons, Zja, ih]
  cases b <;> rfl
theorem Zle : ∀ a b : List Bool, enc a = enc b -> a = b
 | [], [], _ => rfl
 | [], _ :: _, h => by simp [enc] at h
 | _ :: _, [], h => by simp [enc] at h
 | x :: a, y :: b, h => by
  have h1 : (if x then (1 : Int) else 0) = (if y then 1 else 0) := (List.cons.inj h).1
  have h2 : enc a = enc b := (List.cons.inj h).2
  rw [Zle a b h2]
  cases x <;> cases y <;> simp at h1 <;> rfl
theorem Zhd : ∀ k : Nat, (lev k).Nodup
 | 0 => by simp [lev]
 | k + 1 => by
  have : ∀ xs : List (List Bool), xs.Nodup -> (xs.flatMap two).Nodup := fun xs => by
   induction xs with
   | nil => intro _; simp
   | cons x r ih =>
    intro h
    obtain ⟨h1, h2⟩ := List.nodup_cons.mp h
    rw [List.flatMap_cons]
    refine List.nodup_append.mpr ⟨by simp [two], ih h2, ?_⟩
    intro a ha b hb e
    subst e
    obtain ⟨y, hy, hb⟩ := List.mem_flatMap.mp hb
    simp only [two, List.mem_cons, List.not_mem_nil, or_false] at ha hb
    have : x = y := by
     rcases ha with ha | ha <;> rcases hb with hb | hb <;> rw [ha] at hb <;> exact (List.append_inj' hb rfl).1
    exact h1 (this ▸ hy)
  exact this _ (Zhd k)
theorem Zrl : ∀ (k : Nat), ∀ bs ∈ Zf1 k, bs.length ≤ k
 | 0, bs, h => by have := Zem 0 bs h; omega
 | k + 1, bs, h => by
  rcases List.mem_append.mp h with h | h
  ·have := Zem (k + 1) bs h; omega
  ·have := Zrl k bs h; omega
theorem Zid : ∀ k : Nat, (Zf1 k).Nodup
 | 0 => Zhd 0
 | k + 1 => List.nodup_append.mpr ⟨Zhd (k + 1), Zid k, fun a ha b hb e => by
   have h1 := Zem (k + 1) a ha
   have h2 := Zrl k b hb
   rw [e] at h1; omega⟩
noncomputable def kv (ks : List D) (rss : List (List Int)) (bs : List Bool) : D × D := (Za1 bs, FW ks rss bs)
theorem Zli {ks : List D} {rss : List (List Int)} {bs : List Bool} : ∀ done : List (List Bool), bs ∈ done -> Zbb (done.map (kv ks rss)) (enc bs) = some (FW ks rss bs)
 | [], h => by simp at h
 | x :: r, h => by
  unfold Zbb
  rw [List.map_cons, List.find?_cons]
  by_cases c : x = bs
  ·subst c
   have : (nk (kv ks rss x).1 == some (enc x)) = true := by simp [kv, Zf8]
   rw [this]; rfl
  ·have : (nk (kv ks rss x).1 == some (enc bs)) = false := by
    simp only [kv, Zf8]
    exact beq_eq_false_iff_ne.mpr fun z => c (Zle x bs (Option.some.inj z))
   rw [this]
   rcases List.mem_cons.mp h with h | h
   ·exact absurd h.symm c
   ·exact Zli r h
theorem Zm4 {ks : List D} {rss : List (List Int)} {bs : List Bool} : ∀ done : List (List Bool), bs ∉ done -> Zbb (done.map (kv ks rss)) (enc bs) = none
 | [], h => rfl
 | x :: r, h => by
  unfold Zbb
  rw [List.map_cons, List.find?_cons]
  have c : x ≠ bs := fun z => h (by simp [z])
  have : (nk (kv ks rss x).1 == some (enc bs)) = false := by
   simp only [kv, Zf8]
   exact beq_eq_false_iff_ne.mpr fun z => c (Zle x bs (Option.some.inj z))
  rw [this]
  exact Zm4 r fun z => h (by simp [z])
theorem Zt4 {ks : List D} {rss : List (List Int)} {bs : List Bool} {done : List (List Bool)} {p : Nat} {f : EF} {σ : SD} {H H1 : HD} (h1 : f σ H = some (FW ks rss bs, H1)) (hp : H1[p]? = some (.dic (done.map (kv ks rss)) false)) (hn : bs ∉ done) (hl : done.length ≤ 10000) (s1 : σ[1]? = some (some (.ref p))) (s2 : σ[2]? = some (some (Za1 bs))) :
  Zoh f (gSb (Zad 1) (Zad 2) Zlj) σ H = some (.nx, σ, H1.set p (.dic ((done ++ [bs]).map (kv ks rss)) false)) := by
 have sz : (done.map (kv ks rss)).length < sizeLine := by rw [PySem.sizeLine_eq, List.length_map]; omega
 have e : Zlc (done.map (kv ks rss)) (Za1 bs) (enc bs) (FW ks rss bs) = (done ++ [bs]).map (kv ks rss) := by unfold Zlc; rw [Zm4 done hn]; simp [kv]
 unfold Zoh gSb
 rw [h1]
 simp only [Zb, vr s1, vr s2]
 unfold Zlj
 simp only [hp, Zf8, Zb, if_pos sz, Option.map_some, e]
open PySem L2 DL LH
noncomputable def Zrw (b : Bool) : Str := if b then "some" else "all"
theorem Zm1 (b : Bool) : Zap b = .str (Zrw b) := by cases b <;> rfl
theorem Zur (b : Bool) : PyData.strOk (Zrw b) = true := by cases b <;> exact Znj (by decide)
theorem Zze (a b : Bool) : (Zrw a == Zrw b) = (a == b) := by
 have e1 : (("some" : Str) == ("all" : Str)) = false := by decide
 have e2 : (("all" : Str) == ("some" : Str)) = false := by decide
 cases a <;> cases b <;> simp [Zrw, e1, e2]
theorem Zzg {H : HD} {q : Nat} {a b w : Bool} (h : H[q]? = some (.lst [Zap a, Zap b])) : inD (Zap w) (.ref q) H = some (.bl (a == w || b == w), H) := by
 have e1 : dat (Zap w) H = some (.str (Zrw w)) := by
  unfold dat
  rw [Zm1, Zl1]
  simp only [Zb]
  rw [if_pos]
  simp [okP, PyData.canLay0, PyData.depth, Zur]
 have e2 : dat (.ref q) H = some (.list [.str (Zrw a), .str (Zrw b)]) := by
  unfold dat
  rw [toP]
  simp only [h, Zm1, Zh7, Zl1, Zb, Option.map_some]
  rw [if_pos]
  simp [okP, PyData.canLay0, PyData.canLayAll0, PyData.depth, PyData.depthAll, Zur]
 unfold inD
 rw [e1]
 simp only [Zb]
 rw [e2]
 simp only [Zb, Zia, Option.map_some]
 have : ∀ x y : Bool, PyData.eqv (.str (Zrw x)) (.str (Zrw y)) = (x == y) := fun x y => by
  rw [← Zze]; simp [PyData.eqv]
 simp [this]
noncomputable def Zk5 : D -> List Int
 | .tup ds => ds.filterMap fun
  | .int i => some i
  | _ => none
 | _ => []
theorem Zmd (ls : List Int) : Zk5 (Za4 ls) = ls := by
 show (ls.map D.int).filterMap _ = ls
 induction ls with
 | nil => rfl
 | cons l r ih => rw [List.map_cons, List.filterMap_cons]; simp only []; rw [ih]
noncomputable abbrev Zxu : EF := (eOp ixD (Zb6 (Zaa (eC (.str "all")) (Zaa (eC (.str "some")) Zai))) (eCB Zrz (Zaa (eOp niD (eC (.bl false)) (eLC (iSq (eOp ixD (Zad 0) (eC (.int 1)))) [2] Zel (Zaj 2 Zdm (Zaa (Zad 0) (Zaa (Zad 1) Zai))))) Zai)))
theorem Zw6 {ks : List D} {rss : List (List Int)} {bs : List Bool} {p : Nat} {z3 z4 : Option D} {H : HD} (hu : ∀ ls ∈ rss, Up ks.length 0 ls) (hl : rss.length ≤ 1000) (hb : bs.length = ks.length) :
  ∃ L : HD, Zxu [some (.tup [.tup ks, .tup (rss.map Za4)]), some (.ref p), some (Za1 bs), z3, z4] H = some (FW ks rss bs, H ++ L) := by
 have at1 : atI [D.tup ks, D.tup (rss.map Za4)] 1 = some (.tup (rss.map Za4)) := Zb5 (j := 1) rfl
 let σ : SD := [some (.tup [.tup ks, .tup (rss.map Za4)]), some (.ref p), some (Za1 bs), z3, z4]
 have e1 : Zb6 (Zaa (eC (.str "all")) (Zaa (eC (.str "some")) Zai)) σ H = some (.ref H.length, H ++ [.lst [Zap false, Zap true]]) := ls (ds := [Zap false, Zap true]) (ac rfl (ac rfl an)) (by simp)
 have g1 : (H ++ [.lst [Zap false, Zap true]])[H.length]? = some (.lst [Zap false, Zap true]) := by simp
 have l1 : (H ++ [DO.lst [Zap false, Zap true]]).length = H.length + 1 := by simp
 have hh : H ++ [.lst [Zap false, Zap true]] = H ++ [.lst [Zap false, Zap true]] := rfl
 generalize hH1 : H ++ [.lst [Zap false, Zap true]] = H1 at e1 g1 l1
 have it : iSq (eOp ixD (Zad 0) (eC (.int 1))) σ H1 = some ((rss.map Za4, []), H1) := by
  unfold iSq
  rw [op (vr rfl) rfl (ixT at1)]
  rfl
 have lc := Zz4 (it := iSq (eOp ixD (Zad 0) (eC (.int 1)))) (ci := [2]) (c0 := [some (Za1 bs)]) (te := Zaj 2 Zdm (Zaa (Zad 0) (Zaa (Zad 1) Zai))) (σ := σ) (H := H1) (f := fun d => kept bs (Zk5 d)) (ds := rss.map Za4) it rfl (fun d hd => by
  obtain ⟨ls, h1, rfl⟩ := List.mem_map.mp hd
  show _ = some (D.bl (kept bs (Zk5 (Za4 ls))), H1)
  rw [Zmd]
  exact ca (ac (vr rfl) (ac (vr rfl) an)) rfl (Zwf (Zuj ls 0 (Int.le_refl _) (hu ls h1)))) (by simpa using hl)
 have em : (rss.map Za4).map (fun d => kept bs (Zk5 d)) = rss.map (kept bs) := by
  rw [List.map_map]; exact List.map_congr_left fun ls _ => by show kept bs (Zk5 (Za4 ls)) = _; rw [Zmd]
 rw [em] at lc
 have g2 : (H1 ++ [.lst ((rss.map (kept bs)).map .bl)])[H1.length]? = some (.lst ((rss.map (kept bs)).map .bl)) := by simp
 have g3 : (H1 ++ [.lst ((rss.map (kept bs)).map .bl)])[H.length]? = some (.lst [Zap false, Zap true]) := by rw [List.getElem?_append_left (by omega)]; exact g1
 have ni := Ztu g2
 have ea : (rss.map (kept bs)).all id = W ks rss 0 bs := by unfold W; rw [List.all_map]; rfl
 rw [ea] at ni
 refine ⟨.lst [Zap false, Zap true] :: [.lst ((rss.map (kept bs)).map .bl)], ?_⟩
 have eH : H ++ .lst [Zap false, Zap true] :: [.lst ((rss.map (kept bs)).map .bl)] = H1 ++ [.lst ((rss.map (kept bs)).map .bl)] := by rw [← hH1, List.append_assoc]; rfl
 rw [eH]
 have fw : FW ks rss bs = Zap (W ks rss 0 bs) := by unfold FW; rw [hb, Nat.sub_self]
 rw [fw]
 refine op e1 (cb (ac (op rfl lc ni) an) rfl) ?_
 generalize H1 ++ [.lst ((rss.map (kept bs)).map .bl)] = H2 at *
 simp only [ixD, Zey, g3, Zb]
 cases W ks rss 0 bs <;> rfl
noncomputable abbrev G : GF := gSb (Zad 1) (Zad 2) Zlj
noncomputable abbrev midE : EF := (eIf (tOf (eOp inD (Zad 3) (Zad 4))) (Zad 3) (eOp ixD (Zad 4) (eC (.int 0))))
noncomputable abbrev wB : SF := (Zal (sIf (tOf (eOp eqD (eCB Zdb (Zaa (Zad 2) Zai)) (eCB Zdb (Zaa (eOp ixD (Zad 0) (eC (.int 0))) Zai)))) (Zal (Zoh Zxu G)
 Zav) (Zal (Za0 3 (eOp ixD (eOp ixD (Zad 0) (eC (.int 0))) (eCB Zdb (Zaa (Zad 2) Zai))))
 (Zal (Za0 4 (Zb6 (Zaa (eOp Zd0 (Zad 1) (eOp Zbd (Zad 2) (Zd3 (Zaa (eC (.bl false)) Zai)))) (Zaa (eOp Zd0 (Zad 1) (eOp Zbd (Zad 2) (Zd3 (Zaa (eC (.bl true)) Zai)))) Zai))))
 (Zal (Zoh midE G)
 Zav))))
 Zav)
theorem Zuo {ks : List D} {rss : List (List Int)} {bs : List Bool} {done : List (List Bool)} {p : Nat} {σ : SD} {H : HD} (t : Bool) (hp : H[p]? = some (.dic (done.map (kv ks rss)) false)) (hd : bs ++ [t] ∈ done) (hl : bs.length ≤ 100) (s1 : σ[1]? = some (some (.ref p))) (s2 : σ[2]? = some (some (Za1 bs))) :
  eOp Zd0 (Zad 1) (eOp Zbd (Zad 2) (Zd3 (Zaa (eC (.bl t)) Zai))) σ H = some (FW ks rss (bs ++ [t]), H) := by
 have e1 : eOp Zbd (Zad 2) (Zd3 (Zaa (eC (.bl t)) Zai)) σ H = some (Za1 (bs ++ [t]), H) := by
  refine op (vr s2) (tp (ds := [.bl t]) (ac rfl an) (by simp)) ?_
  have := adT (xs := bs.map .bl) (ys := [.bl t]) (H := H) (by simp; omega)
  refine this.trans ?_
  simp [Za1]
 refine op (vr s1) e1 ?_
 unfold Zd0
 simp only [Zry, hp, Zb, Zf8, Zli done hd, Option.map_some]
theorem Zyq {ks : List D} {rss : List (List Int)} {bs : List Bool} (h : bs.length < ks.length) : FW ks rss bs = (let who := kS (ks.getD bs.length .non); let a := W ks rss (ks.length - (bs ++ [false]).length) (bs ++ [false]); let b := W ks rss (ks.length - (bs ++ [true]).length) (bs ++ [true]); if (a == who || b == who) = true then Zap who else Zap a) := by
 have e : ks.length - bs.length = (ks.length - (bs.length + 1)) + 1 := by omega
 have l : ∀ t : Bool, (bs ++ [t]).length = bs.length + 1 := fun t => by simp
 unfold FW
 rw [e, l, l, W]
 simp only []
 generalize W ks rss (ks.length - (bs.length + 1)) (bs ++ [false]) = a
 generalize W ks rss (ks.length - (bs.length + 1)) (bs ++ [true]) = b
 generalize kS (ks.getD bs.length .non) = w
 cases a <;> cases b <;> cases w <;> rfl
open PySem L2 DL LH
theorem wB_ok {ks : List D} {rss : List (List Int)} {bs : List Bool} {done : List (List Bool)} {p : Nat} {z3 z4 : Option D} {H : HD} (hk : ∀ d ∈ ks, Zd1 d) (hu : ∀ ls ∈ rss, Up ks.length 0 ls) (hl : rss.length ≤ 1000) (h8 : ks.length ≤ 8)
  (hp : H[p]? = some (.dic (done.map (kv ks rss)) false)) (hn : bs ∉ done) (hd : done.length ≤ 10000) (hb : bs.length ≤ ks.length) (hm : bs.length < ks.length -> ∀ t, bs ++ [t] ∈ done) :
  ∃ (z3' z4' : Option D) (H' : HD), wB [some (.tup [.tup ks, .tup (rss.map Za4)]), some (.ref p), some (Za1 bs), z3, z4] H = some (.nx, [some (.tup [.tup ks, .tup (rss.map Za4)]), some (.ref p), some (Za1 bs), z3', z4'], H') ∧ H'[p]? = some (.dic ((done ++ [bs]).map (kv ks rss)) false) ∧ ExtS [p] H H' := by
 have at0 : atI [D.tup ks, D.tup (rss.map Za4)] 0 = some (.tup ks) := Zb5 (j := 0) rfl
 have ltp := (List.getElem?_eq_some_iff.mp hp).1
 have t0 : tOf (eOp eqD (eCB Zdb (Zaa (Zad 2) Zai)) (eCB Zdb (Zaa (eOp ixD (Zad 0) (eC (.int 0))) Zai))) [some (.tup [.tup ks, .tup (rss.map Za4)]), some (.ref p), some (Za1 bs), z3, z4] H = some ((bs.length : Int) == (ks.length : Int), H) :=
  tof (op (cb (ac (vr rfl) an) (lenB bs H)) (cb (ac (op (vr rfl) rfl (ixT at0)) an) (lenT ks H)) (Zgg _ _ _))
 by_cases c : bs.length = ks.length
 ·have tt : ((bs.length : Int) == (ks.length : Int)) = true := by rw [c]; simp
  rw [tt] at t0
  obtain ⟨L, e1⟩ := Zw6 (p := p) (z3 := z3) (z4 := z4) (H := H) hu hl c
  have p1 : (H ++ L)[p]? = some (.dic (done.map (kv ks rss)) false) := by rw [List.getElem?_append_left ltp]; exact hp
  have lt1 := (List.getElem?_eq_some_iff.mp p1).1
  have s := Zt4 e1 p1 hn hd rfl rfl
  refine ⟨z3, z4, (H ++ L).set p (.dic ((done ++ [bs]).map (kv ks rss)) false), ?_, List.getElem?_set_self lt1, (ExtS.app L).trans (ExtS.set (by simp))⟩
  unfold wB
  refine (Zaq ?_).trans rfl
  rw [Zh4 t0, if_pos rfl]
  exact (Zaq s).trans rfl
 ·have lt : bs.length < ks.length := by omega
  have tt : ((bs.length : Int) == (ks.length : Int)) = false := by
   refine beq_eq_false_iff_ne.mpr ?_; omega
  rw [tt] at t0
  have gw : ks[bs.length]? = some (Zap (kS (ks.getD bs.length .non))) := by
   have e0 : ks.getD bs.length .non = ks[bs.length] := by simp [List.getD, lt]
   have := Zhb (hk ks[bs.length] (List.getElem_mem lt))
   rw [List.getElem?_eq_getElem lt, this]
   show some (Zap (kS ks[bs.length])) = some (Zap (kS (ks.getD bs.length .non)))
   rw [e0]
  have mo := Zyq (ks := ks) (rss := rss) lt
  simp only [] at mo
  have fa : FW ks rss (bs ++ [false]) = Zap (W ks rss (ks.length - (bs ++ [false]).length) (bs ++ [false])) := rfl
  have fb : FW ks rss (bs ++ [true]) = Zap (W ks rss (ks.length - (bs ++ [true]).length) (bs ++ [true])) := rfl
  have s3 : Za0 3 (eOp ixD (eOp ixD (Zad 0) (eC (.int 0))) (eCB Zdb (Zaa (Zad 2) Zai))) [some (.tup [.tup ks, .tup (rss.map Za4)]), some (.ref p), some (Za1 bs), z3, z4] H = some (.nx, [some (.tup [.tup ks, .tup (rss.map Za4)]), some (.ref p), some (Za1 bs), some (Zap (kS (ks.getD bs.length .non))), z4], H) :=
   Zdd (op (op (vr rfl) rfl (ixT at0)) (cb (ac (vr rfl) an) (lenB bs H)) (ixT (Zb5 gw)))
  have s4 : ∀ z3, Za0 4 (Zb6 (Zaa (eOp Zd0 (Zad 1) (eOp Zbd (Zad 2) (Zd3 (Zaa (eC (.bl false)) Zai)))) (Zaa (eOp Zd0 (Zad 1) (eOp Zbd (Zad 2) (Zd3 (Zaa (eC (.bl true)) Zai)))) Zai))) [some (.tup [.tup ks, .tup (rss.map Za4)]), some (.ref p), some (Za1 bs), z3, z4] H = some (.nx, [some (.tup [.tup ks, .tup (rss.map Za4)]), some (.ref p), some (Za1 bs), z3, some (.ref H.length)], H ++ [.lst [FW ks rss (bs ++ [false]), FW ks rss (bs ++ [true])]]) := fun z3 =>
   Zdd (ls (ds := [FW ks rss (bs ++ [false]), FW ks rss (bs ++ [true])]) (ac (Zuo false hp (hm lt false) (by omega) rfl rfl) (ac (Zuo true hp (hm lt true) (by omega) rfl rfl) an)) (by simp))
  have q1 : (H ++ [.lst [FW ks rss (bs ++ [false]), FW ks rss (bs ++ [true])]])[H.length]? = some (.lst [FW ks rss (bs ++ [false]), FW ks rss (bs ++ [true])]) := by simp
  have p1 : (H ++ [.lst [FW ks rss (bs ++ [false]), FW ks rss (bs ++ [true])]])[p]? = some (.dic (done.map (kv ks rss)) false) := by rw [List.getElem?_append_left ltp]; exact hp
  have x1 : ExtS [p] H (H ++ [.lst [FW ks rss (bs ++ [false]), FW ks rss (bs ++ [true])]]) := ExtS.app _
  generalize H ++ [.lst [FW ks rss (bs ++ [false]), FW ks rss (bs ++ [true])]] = H1 at *
  rw [fa, fb] at q1
  generalize hA : W ks rss (ks.length - (bs ++ [false]).length) (bs ++ [false]) = A at *
  generalize hB : W ks rss (ks.length - (bs ++ [true]).length) (bs ++ [true]) = B at *
  generalize hWho : kS (ks.getD bs.length .non) = who at *
  have lt1 := (List.getElem?_eq_some_iff.mp p1).1
  have em : midE [some (.tup [.tup ks, .tup (rss.map Za4)]), some (.ref p), some (Za1 bs), some (Zap who), some (.ref H.length)] H1 = some (FW ks rss bs, H1) := by
   have ti : tOf (eOp inD (Zad 3) (Zad 4)) [some (.tup [.tup ks, .tup (rss.map Za4)]), some (.ref p), some (Za1 bs), some (Zap who), some (.ref H.length)] H1 = some (A == who || B == who, H1) := tof (op (vr rfl) (vr rfl) (Zzg q1))
   unfold midE eIf
   rw [ti, mo]
   simp only [Zb]
   cases hc : (A == who || B == who) with
   | true => rw [if_pos rfl, if_pos rfl]; exact vr rfl
   | false =>
    rw [if_neg (by simp), if_neg (by simp)]
    refine op (vr rfl) rfl ?_
    simp only [ixD, Zey, q1, Zb]
    rfl
  have s5 := Zt4 em p1 hn hd rfl rfl
  refine ⟨some (Zap who), some (.ref H.length), H1.set p (.dic ((done ++ [bs]).map (kv ks rss)) false), ?_, List.getElem?_set_self lt1, x1.trans (ExtS.set (by simp))⟩
  unfold wB
  refine (Zaq ?_).trans rfl
  rw [Zh4 t0, if_neg (by simp), Zaq s3, Zaq (s4 _)]
  exact (Zaq s5).trans rfl
theorem Zix {ks : List D} {rss : List (List Int)} {p q : Nat} {L : List D} (hk : ∀ d ∈ ks, Zd1 d) (hu : ∀ ls ∈ rss, Up ks.length 0 ls) (hl : rss.length ≤ 1000) (h8 : ks.length ≤ 8) (hpq : q ≠ p) (more : List D) :
  ∀ (blk done : List (List Bool)) (z2 z3 z4 : Option D) (H : HD), H[p]? = some (.dic (done.map (kv ks rss)) false) -> H[q]? = some (.lst L) -> (done ++ blk).Nodup -> done.length + blk.length ≤ 10000 -> (∀ b ∈ blk, b.length ≤ ks.length) -> (∀ b ∈ blk, b.length < ks.length -> ∀ t, b ++ [t] ∈ done) →
  ∃ (z2' z3' z4' : Option D) (H' : HD), Zdg [(q, .lst L)] (gNm 2) wB (blk.map Za1 ++ more) [some (.tup [.tup ks, .tup (rss.map Za4)]), some (.ref p), z2, z3, z4] H = Zdg [(q, .lst L)] (gNm 2) wB more [some (.tup [.tup ks, .tup (rss.map Za4)]), some (.ref p), z2', z3', z4'] H' ∧ H'[p]? = some (.dic ((done ++ blk).map (kv ks rss)) false) ∧ ExtS [p] H H'
 | [], done, z2, z3, z4, H, hp, hq, _, _, _, _ => ⟨z2, z3, z4, H, rfl, by rw [List.append_nil]; exact hp, ExtS.refl⟩
 | b :: blk, done, z2, z3, z4, H, hp, hq, nd, hn, hb, hm => by
  have nb : b ∉ done := fun z => by
   have := (List.nodup_append.mp nd).2.2 b z b (by simp)
   exact this rfl
  obtain ⟨z3', z4', H1, e1, p1, x1⟩ := wB_ok (z3 := z3) (z4 := z4) hk hu hl h8 hp nb (by simp at hn; omega) (hb b (by simp)) (hm b (by simp))
  have q1 := x1.old q _ (by simp; exact hpq) hq
  have ap : done ++ [b] ++ blk = done ++ b :: blk := by simp
  obtain ⟨z2'', z3'', z4'', H2, e2, p2, x2⟩ := Zix hk hu hl h8 hpq more blk (done ++ [b]) (some (Za1 b)) z3' z4' H1 p1 q1 (by rw [ap]; exact nd) (by simp at hn ⊢; omega) (fun x hx => hb x (by simp [hx])) (fun x hx h t => List.mem_append_left _ (hm x (by simp [hx]) h t))
  rw [ap] at p2
  refine ⟨z2'', z3'', z4'', H2, ?_, p2, x1.trans x2⟩
  rw [List.map_cons, List.cons_append, Zdg, if_pos (by intro x hx; simp at hx; subst hx; exact hq)]
  simp only [gNm, List.set, Zb]
  rw [e1]
  simp only [Zb]
  exact e2
theorem Zm3 {ks : List D} {rss : List (List Int)} {p q : Nat} {L : List D} (hk : ∀ d ∈ ks, Zd1 d) (hu : ∀ ls ∈ rss, Up ks.length 0 ls) (hl : rss.length ≤ 1000) (h8 : ks.length ≤ 8) (hpq : q ≠ p) :
  ∀ (k : Nat) (done : List (List Bool)) (z2 z3 z4 : Option D) (H : HD), k ≤ ks.length -> H[p]? = some (.dic (done.map (kv ks rss)) false) -> H[q]? = some (.lst L) -> (done ++ Zf1 k).Nodup -> done.length + (Zf1 k).length ≤ 10000 -> (k < ks.length -> ∀ b ∈ lev k, ∀ t, b ++ [t] ∈ done) →
  ∃ (z2' z3' z4' : Option D) (H' : HD), Zdg [(q, .lst L)] (gNm 2) wB ((Zf1 k).map Za1) [some (.tup [.tup ks, .tup (rss.map Za4)]), some (.ref p), z2, z3, z4] H = some (.nx, [some (.tup [.tup ks, .tup (rss.map Za4)]), some (.ref p), z2', z3', z4'], H') ∧ H'[p]? = some (.dic ((done ++ Zf1 k).map (kv ks rss)) false) ∧ ExtS [p] H H'
 | 0, done, z2, z3, z4, H, h0, hp, hq, nd, hn, hm => by
  obtain ⟨y2, y3, y4, H1, e1, p1, x1⟩ := Zix (L := L) hk hu hl h8 hpq [] (Zf1 0) done z2 z3 z4 H hp hq nd hn (fun b hb => by have := Zem 0 b hb; omega) (fun b hb h t => hm (by have := Zem 0 b hb; omega) b hb t)
  have q1 := x1.old q _ (by simp; exact hpq) hq
  rw [List.append_nil, Zdg, if_pos (by intro x hx; simp at hx; subst hx; exact q1)] at e1
  exact ⟨y2, y3, y4, H1, e1, p1, x1⟩
 | k + 1, done, z2, z3, z4, H, h0, hp, hq, nd, hn, hm => by
  have ea : Zf1 (k + 1) = lev (k + 1) ++ Zf1 k := rfl
  rw [ea, ← List.append_assoc] at nd
  rw [ea, List.length_append] at hn
  obtain ⟨y2, y3, y4, H1, e1, p1, x1⟩ := Zix (L := L) hk hu hl h8 hpq ((Zf1 k).map Za1) (lev (k + 1)) done z2 z3 z4 H hp hq (List.nodup_append.mp nd).1 (by omega) (fun b hb => by have := Zem (k + 1) b hb; omega) (fun b hb h t => hm (by have := Zem (k + 1) b hb; omega) b hb t)
  have q1 := x1.old q _ (by simp; exact hpq) hq
  obtain ⟨w2, w3, w4, H2, e2, p2, x2⟩ := Zm3 hk hu hl h8 hpq k (done ++ lev (k + 1)) y2 y3 y4 H1 (by omega) p1 q1 nd (by rw [List.length_append]; omega) (fun _ b hb t => List.mem_append_right _ (Zr7 t hb))
  refine ⟨w2, w3, w4, H2, ?_, ?_, x1.trans x2⟩
  ·rw [ea, List.map_append, e1, e2]
  ·rw [ea, ← List.append_assoc]; exact p2
open PySem L2 DL LH
theorem Zlw (k : Nat) : (([] : List (List Bool)) ++ Zf1 k).Nodup := by rw [List.nil_append]; exact Zid k
theorem Znz {ks : List D} {rss : List (List Int)} (hk : ∀ d ∈ ks, Zd1 d) (hu : ∀ ls ∈ rss, Up ks.length 0 ls) (hl : rss.length ≤ 1000) (h8 : ks.length ≤ 8) (H : HD) :
  ∃ (p : Nat) (H' : HD), Za8 [.tup [.tup ks, .tup (rss.map Za4)]] H = some (.ref p, H') ∧ H.length ≤ p ∧ H'[p]? = some (.dic ((Zf1 ks.length).map (kv ks rss)) false) ∧ ExtS [] H H' := by
 have at0 : atI [D.tup ks, D.tup (rss.map Za4)] 0 = some (.tup ks) := Zb5 (j := 0) rfl
 have s1 : Za0 1 eDN [some (.tup [.tup ks, .tup (rss.map Za4)]), none, none, none, none] H = some (.nx, [some (.tup [.tup ks, .tup (rss.map Za4)]), some (.ref H.length), none, none, none], H ++ [.dic [] false]) := Zdd rfl
 have g1 : (H ++ [.dic [] false])[H.length]? = some (.dic (([] : List (List Bool)).map (kv ks rss)) false) := by simp
 have x1 : ExtS [] H (H ++ [.dic [] false]) := ExtS.app _
 have l1 : (H ++ [DO.dic [] false]).length = H.length + 1 := by simp
 generalize H ++ [.dic [] false] = H1 at *
 obtain ⟨q, H2, e2, g2, x2⟩ := Zsf h8 H1
 have p2 := x2.old _ _ (by simp) g1
 have hpq : q ≠ H.length := fun z => by rw [z, p2] at g2; cases g2
 have al := Zma ks.length
 have p8 : 2 ^ (ks.length + 1) ≤ 2 ^ 9 := Nat.pow_le_pow_right (by omega) (by omega)
 have hz : ([] : List (List Bool)).length + (Zf1 ks.length).length ≤ 10000 := by
  rw [List.length_nil, Nat.zero_add]
  exact Nat.le_trans (Nat.le_of_lt al) (Nat.le_trans p8 (by decide))
 obtain ⟨z2, z3, z4, H3, e3, g3, x3⟩ := Zm3 (L := (Zf1 ks.length).map Za1) hk hu hl h8 hpq ks.length [] none none none H2 (Nat.le_refl _) p2 g2 (Zlw _) hz (fun h => absurd h (Nat.lt_irrefl _))
 rw [List.nil_append] at g3
 have it : iSq (Zaj 1 Zbz (Zaa (eCB Zdb (Zaa (eOp ixD (Zad 0) (eC (.int 0))) Zai)) Zai)) [some (.tup [.tup ks, .tup (rss.map Za4)]), some (.ref H.length), none, none, none] H1 = some (((Zf1 ks.length).map Za1, [(q, .lst ((Zf1 ks.length).map Za1))]), H2) := by
  have ec : Zaj 1 Zbz (Zaa (eCB Zdb (Zaa (eOp ixD (Zad 0) (eC (.int 0))) Zai)) Zai) [some (.tup [.tup ks, .tup (rss.map Za4)]), some (.ref H.length), none, none, none] H1 = some (.ref q, H2) := ca (ac (cb (ac (op (vr rfl) rfl (ixT at0)) an) (lenT ks H1)) an) rfl e2
  unfold iSq
  rw [ec]
  simp only [Zb, Zfa, g2, Option.map_some]
 have s2 : Zea (iSq (Zaj 1 Zbz (Zaa (eCB Zdb (Zaa (eOp ixD (Zad 0) (eC (.int 0))) Zai)) Zai))) (gNm 2) wB [some (.tup [.tup ks, .tup (rss.map Za4)]), some (.ref H.length), none, none, none] H1 = some (.nx, [some (.tup [.tup ks, .tup (rss.map Za4)]), some (.ref H.length), z2, z3, z4], H3) := by
  unfold Zea
  rw [it]
  exact e3
 refine ⟨H.length, H3, ?_, Nat.le_refl _, g3, ?_⟩
 ·have e4 : Zb4 ([D.tup [.tup ks, .tup (rss.map Za4)]].map some ++ List.replicate (5 - [D.tup [.tup ks, .tup (rss.map Za4)]].length) none) H = some (.rt (.ref H.length), [some (.tup [.tup ks, .tup (rss.map Za4)]), some (.ref H.length), z2, z3, z4], H3) := by
   show Zb4 [some (.tup [.tup ks, .tup (rss.map Za4)]), none, none, none, none] H = _
   unfold Zb4
   rw [Zaq s1]
   refine (Zaq s2).trans ?_
   exact Zdx (rt (vr rfl))
  unfold Za8 Zb7
  rw [if_pos (show [D.tup [.tup ks, .tup (rss.map Za4)]].length = 1 from rfl), e4]
  rfl
 ·refine ⟨fun m o _ h => ?_, Nat.le_trans x1.len (Nat.le_trans x2.len x3.len)⟩
  have lm := (List.getElem?_eq_some_iff.mp h).1
  exact x3.old m o (by simp; omega) (x2.old m o (by simp) (x1.old m o (by simp) h))
theorem Zsx {m : Int} : ∀ (ls : List Int) (last : Int), Up m last ls -> (ls.map Zbg).Pairwise (· < ·)
 | [], _, _ => List.Pairwise.nil
 | l :: r, last, u => by
  obtain ⟨u1, u2, u3⟩ := u
  rw [List.map_cons, List.pairwise_cons]
  refine ⟨fun x hx => ?_, Zsx r _ u3⟩
  obtain ⟨y, hy, rfl⟩ := List.mem_map.mp hx
  have g : ∀ (ls : List Int) (la : Int), Up m la ls -> ∀ y ∈ ls, la < Zbg y := by
   intro ls
   induction ls with
   | nil => intro la _ y hy; cases hy
   | cons a b ih =>
    intro la u y hy
    rcases List.mem_cons.mp hy with rfl | hy
    ·exact u.1
    ·have := ih _ u.2.2 y hy; have := u.1; omega
  exact g r _ u3 y hy
noncomputable def mvL {α : Type} (k q : Nat) (xs : List α) : List α := xs.take q ++ (xs.drop k).take 1 ++ (xs.drop q).take (k - q) ++ xs.drop (k + 1)
noncomputable def src (k q i : Nat) : Nat := if i = q then k else if q < i ∧ i ≤ k then i - 1 else i
theorem Zev {α : Type} {k q : Nat} {xs : List α} (h : q ≤ k) (hk : k < xs.length) (i : Nat) : (mvL k q xs)[i]? = xs[src k q i]? := by
 have hq : min q xs.length = q := by omega
 have h1 : min 1 (xs.length - k) = 1 := by omega
 have h2 : min (k - q) (xs.length - q) = k - q := by omega
 unfold mvL
 simp only [List.getElem?_append, List.length_append, List.length_take, List.length_drop, hq, h1, h2, List.getElem?_take, List.getElem?_drop]
 unfold src
 by_cases c1 : i < q
 ·simp only [show i < q + 1 + (k - q) by omega, show i < q + 1 by omega, c1, if_true, show ¬ i = q by omega, if_false, show ¬ (q < i ∧ i ≤ k) by omega]
 ·by_cases c2 : i = q
  ·subst c2
   simp only [show i < i + 1 + (k - i) by omega, show i < i + 1 by omega, if_true, show ¬ i < i by omega, if_false, show i - i < 1 by omega]
   congr 1; omega
  ·by_cases c3 : i ≤ k
   ·simp only [show i < q + 1 + (k - q) by omega, show ¬ i < q + 1 by omega, if_true, if_false, c2, show i - (q + 1) < k - q by omega, show q < i by omega, c3, and_self]
    congr 1; omega
   ·simp only [show ¬ i < q + 1 + (k - q) by omega, if_false, c2, show ¬ (q < i ∧ i ≤ k) by omega]
    congr 1; omega
theorem Zcd {α : Type} {k q : Nat} {xs : List α} (h : q ≤ k) (hk : k < xs.length) : (mvL k q xs).length = xs.length := by
 unfold mvL; simp; omega
theorem Zi2 {α : Type} {k : Nat} {xs : List α} (hk : k < xs.length) : mvL k k xs = xs := by
 apply List.ext_getElem?
 intro i
 rw [Zev (Nat.le_refl _) hk]
 congr 1
 unfold src; split <;> (try split) <;> omega
theorem Ztp {α : Type} {k q : Nat} {xs : List α} (h : q < k) (hk : k < xs.length) : mvL (q + 1) q (mvL k (q + 1) xs) = mvL k q xs := by
 apply List.ext_getElem?
 intro i
 rw [Zev (Nat.le_succ _) (by rw [Zcd h hk]; omega), Zev h hk, Zev (Nat.le_of_lt h) hk]
 congr 1
 unfold src
 repeat' split
 all_goals omega
theorem Zx4 {α : Type} {k q : Nat} {xs : List α} (h : q < k) (hk : k < xs.length) : mvL (q + 1) q (mvL k q xs) = mvL k (q + 1) xs := by
 apply List.ext_getElem?
 intro i
 rw [Zev (Nat.le_succ _) (by rw [Zcd (Nat.le_of_lt h) hk]; omega), Zev h hk, Zev (Nat.le_of_lt h) hk]
 congr 1
 unfold src
 repeat' split
 all_goals omega
theorem Zvu {α : Type} {q : Nat} {xs : List α} (hk : q + 1 < xs.length) : mvL (q + 1) q (mvL (q + 1) q xs) = xs := by
 rw [Zx4 (Nat.lt_succ_self _) hk, Zi2 hk]
noncomputable def nmv (k q n : Int) : Int := if n = k then q else if q ≤ n ∧ n < k then n + 1 else n
noncomputable def lmv (k q l : Int) : Int := if 0 < l then nmv k q (Zbg l) else -nmv k q (Zbg l)
theorem Zmg {l : Int} (h : 0 < l) : Zbg l = l := by unfold Zbg; split <;> omega
theorem Zmn {l : Int} (h : l ≤ 0) : Zbg l = -l := by unfold Zbg; split <;> omega
theorem Zi3 {k q n : Int} (hq : 0 < q) (hn : 0 < n) : 0 < nmv k q n := by unfold nmv; split <;> (try split) <;> omega
theorem Zjb {k q l : Int} (hq : 0 < q) (hl : 0 < Zbg l) : Zbg (lmv k q l) = nmv k q (Zbg l) := by
 have := Zi3 (k := k) hq hl
 unfold lmv
 split
 ·rw [Zmg this]
 ·rw [Zmn (by omega)]; omega
theorem Zm9 {k q l : Int} (hq : 0 < q) (hl : 0 < Zbg l) : (0 < lmv k q l) ↔ 0 < l := by
 have := Zi3 (k := k) hq hl
 unfold lmv
 split <;> omega
theorem Zwj {k q a b : Int} (h : q ≤ k) (e : nmv k q a = nmv k q b) : a = b := by
 unfold nmv at e
 repeat' split at e
 all_goals omega
theorem Zus {k q n m : Int} (h : q ≤ k) (hk : k ≤ m) (hn : n ≤ m) : nmv k q n ≤ m := by unfold nmv; split <;> (try split) <;> omega
theorem Zvs {a b c d e f l : Int} (hb : 0 < b) (hd : 0 < d) (hl : 0 < Zbg l) (h : nmv c d (nmv a b (Zbg l)) = nmv e f (Zbg l)) : lmv c d (lmv a b l) = lmv e f l := by
 have h1 := Zjb (k := a) hb hl
 have h2 := Zm9 (k := a) hb hl
 have e1 : lmv c d (lmv a b l) = if 0 < lmv a b l then nmv c d (Zbg (lmv a b l)) else -nmv c d (Zbg (lmv a b l)) := rfl
 rw [e1, h1, h]
 unfold lmv at *
 by_cases c : 0 < l
 ·rw [if_pos (h2.mpr c), if_pos c]
 ·rw [if_neg (fun z => c (h2.mp z)), if_neg c]
theorem Zsj {k q n : Int} (h : q < k) : nmv (q + 1) q (nmv k (q + 1) n) = nmv k q n := by
 unfold nmv
 repeat' split
 all_goals omega
theorem Ztc {k n : Int} : nmv k k n = n := by unfold nmv; split <;> (try split) <;> omega
noncomputable def rmv (k q : Int) (ls : List Int) : List Int := Ze5 (ls.map (lmv k q))
theorem Zqz {x y : List Int} (nd : (x.map Zbg).Nodup) (p : x.Perm y) : Ze5 x = Ze5 y := by
 have px := Zbk x
 have py := Zbk y
 have en : Zff = Zbg := rfl
 refine List.Perm.eq_of_pairwise (le := fun a b => Zff a ≤ Zff b) ?_ (Zfr x) (Zfr y) ((px.trans p).trans py.symm)
 intro a b ha hb h1 h2
 exact Zg7 (ns := x) nd a (px.mem_iff.mp ha) b (p.mem_iff.mpr (py.mem_iff.mp hb)) (Int.le_antisymm h1 h2)
theorem Ztv {m : Int} {ls : List Int} (u : Up m 0 ls) : Ze5 ls = ls := by
 have p := Zsx ls 0 u
 refine List.Perm.eq_of_pairwise (le := fun a b => Zff a ≤ Zff b) ?_ (Zfr ls) (by
  rw [List.pairwise_map] at p
  exact p.imp fun h => Int.le_of_lt h) (Zbk ls)
 intro a b ha hb h1 h2
 exact Zg7 (ns := ls) ((Zsx ls 0 u).imp fun h => by omega) a ((Zbk ls).mem_iff.mp ha) b hb (Int.le_antisymm h1 h2)
theorem Zgu {m : Int} {ls : List Int} (u : Up m 0 ls) : ∀ l ∈ ls, 0 < Zbg l ∧ Zbg l ≤ m := fun l hl => Zun ls 0 (Int.le_refl _) u l hl
theorem Zuk {α : Type} {f : Int -> α} : ∀ {xs : List Int}, xs.Nodup -> (∀ a ∈ xs, ∀ b ∈ xs, f a = f b -> a = b) -> (xs.map f).Nodup
 | [], _, _ => List.nodup_nil
 | x :: xs, nd, h => by
  rw [List.nodup_cons] at nd
  rw [List.map_cons, List.nodup_cons]
  refine ⟨fun hm => ?_, Zuk nd.2 fun a ha b hb => h a (by simp [ha]) b (by simp [hb])⟩
  obtain ⟨y, hy, e⟩ := List.mem_map.mp hm
  have := h y (by simp [hy]) x (by simp) e
  subst this
  exact nd.1 hy
theorem Zni {m k q : Int} {ls : List Int} (u : Up m 0 ls) (hq : 0 < q) (h : q ≤ k) : ((ls.map (lmv k q)).map Zbg).Nodup := by
 have nd : (ls.map Zbg).Nodup := (Zsx ls 0 u).imp fun h => by omega
 have e : (ls.map (lmv k q)).map Zbg = (ls.map Zbg).map (nmv k q) := by
  rw [List.map_map, List.map_map]
  apply List.map_congr_left
  intro l hl
  exact Zjb hq (Zgu u l hl).1
 rw [e]
 exact Zuk nd fun a _ b _ z => Zwj h z
theorem Zuf {m k q : Int} {ls : List Int} (u : Up m 0 ls) (hq : 0 < q) (h : q ≤ k) (hk : k ≤ m) : Up m 0 (rmv k q ls) := by
 have nd := Zni (k := k) u hq h
 have pm := Zbk (ls.map (lmv k q))
 refine Zxe _ _ ?_ ?_
 ·have p := Zfr (ls.map (lmv k q))
  have q1 : ((rmv k q ls).map Zbg).Nodup := (pm.map Zbg).nodup_iff.mpr nd
  rw [List.pairwise_map]
  have q2 := List.pairwise_map.mp q1
  refine (p.and q2).imp ?_
  rintro a b ⟨h1, h2⟩
  have h1' : Zbg a ≤ Zbg b := h1
  omega
 ·intro y hy
  obtain ⟨z, hz, rfl⟩ := List.mem_map.mp hy
  obtain ⟨l, hl, rfl⟩ := List.mem_map.mp (pm.mem_iff.mp hz)
  have a := Zgu u l hl
  rw [Zjb hq a.1]
  exact ⟨Zi3 hq a.1, Zus h hk a.2⟩
theorem Zvn {m a b c d e f : Int} {ls : List Int} (u : Up m 0 ls) (hb : 0 < b) (hd : 0 < d) (hab : b ≤ a) (hcd : d ≤ c) (ham : a ≤ m) (h : ∀ n, nmv c d (nmv a b n) = nmv e f n) : rmv c d (rmv a b ls) = rmv e f ls := by
 have u2 := Zuf u hb hab ham
 have e1 : (ls.map (lmv a b)).map (lmv c d) = ls.map (lmv e f) := by
  rw [List.map_map]
  apply List.map_congr_left
  intro l hl
  exact Zvs hb hd (Zgu u l hl).1 (h _)
 have p : ((rmv a b ls).map (lmv c d)).Perm (ls.map (lmv e f)) := by
  rw [← e1]
  exact (Zbk _).map _
 exact Zqz (Zni u2 hd hcd) p
theorem Zt0 {m k : Int} {ls : List Int} (u : Up m 0 ls) (hk : 0 < k) : rmv k k ls = ls := by
 have e : ls.map (lmv k k) = ls := by
  conv => rhs; rw [← List.map_id ls]
  apply List.map_congr_left
  intro l hl
  have := (Zgu u l hl).1
  unfold lmv
  rw [Ztc]
  split
  ·rw [Zmg (by assumption)]; rfl
  ·rw [Zmn (by omega)]; simp
 unfold rmv
 rw [e, Ztv u]
theorem Zul {k q : Nat} {bs : List Bool} {l : Int} (h : q ≤ k) (hk : k < bs.length) (hl : 0 < Zbg l) : rig (mvL k q bs) (lmv ((k : Int) + 1) ((q : Int) + 1) l) = rig bs l := by
 have e1 := Zjb (k := (k : Int) + 1) (q := (q : Int) + 1) (by omega) hl
 have e2 : decide (0 < lmv ((k : Int) + 1) ((q : Int) + 1) l) = decide (0 < l) := decide_eq_decide.mpr (Zm9 (by omega) hl)
 unfold rig
 rw [e1, e2, Zev h hk]
 have e3 : src k q (nmv ((k : Int) + 1) ((q : Int) + 1) (Zbg l) - 1).toNat = (Zbg l - 1).toNat := by
  unfold src nmv
  repeat' split
  all_goals omega
 rw [e3]
theorem Zux {k q : Nat} {m : Int} {bs : List Bool} {ls : List Int} (h : q ≤ k) (hk : k < bs.length) (u : Up m 0 ls) : kept (mvL k q bs) (rmv ((k : Int) + 1) ((q : Int) + 1) ls) = kept bs ls := by
 unfold kept
 rw [Bool.eq_iff_iff, List.any_eq_true, List.any_eq_true]
 constructor
 ·rintro ⟨x, hx, e⟩
  obtain ⟨l, hl, rfl⟩ := List.mem_map.mp ((Zbk _).mem_iff.mp hx)
  exact ⟨l, hl, by rw [← Zul h hk (Zgu u l hl).1]; exact e⟩
 ·rintro ⟨l, hl, e⟩
  exact ⟨_, (Zbk _).mem_iff.mpr (List.mem_map.mpr ⟨l, hl, rfl⟩), by rw [Zul h hk (Zgu u l hl).1]; exact e⟩
noncomputable def bst (s a b : Bool) : Bool := bif a == s || b == s then s else !s
theorem Zx7 (s a b : Bool) : (if a == s || b == s then s else !s) = bst s a b := by cases s <;> cases a <;> cases b <;> rfl
noncomputable def V : List Bool -> (List Bool -> Bool) -> Bool
 | [], f => f []
 | s :: ss, f => bst s (V ss fun p => f (false :: p)) (V ss fun p => f (true :: p))
theorem Zly : ∀ {ss : List Bool} {f g : List Bool -> Bool}, (∀ p, p.length = ss.length -> f p = g p) -> V ss f = V ss g
 | [], f, g, h => h [] rfl
 | s :: ss, f, g, h => by
  have a := Zly (ss := ss) (f := fun p => f (false :: p)) (g := fun p => g (false :: p)) fun p hp => h _ (by simp [hp])
  have b := Zly (ss := ss) (f := fun p => f (true :: p)) (g := fun p => g (true :: p)) fun p hp => h _ (by simp [hp])
  rw [V, V, a, b]
theorem W_V {ks : List D} {rss : List (List Int)} : ∀ (j : Nat) (bs : List Bool), bs.length + j = ks.length -> W ks rss j bs = V ((ks.drop bs.length).map kS) fun p => rss.all (kept (bs ++ p))
 | 0, bs, h => by
  rw [List.drop_of_length_le (by omega), W]
  simp [V]
 | j + 1, bs, h => by
  have lt : bs.length < ks.length := by omega
  have a := W_V (ks := ks) (rss := rss) j (bs ++ [false]) (by simp; omega)
  have b := W_V (ks := ks) (rss := rss) j (bs ++ [true]) (by simp; omega)
  have e : ks.getD bs.length .non = ks[bs.length] := by simp [List.getD, lt]
  rw [List.drop_eq_getElem_cons lt, List.map_cons, V, W, a, b, e, Zx7]
  simp only [List.length_append, List.length_cons, List.length_nil, List.append_assoc, List.cons_append, List.nil_append]
noncomputable def sw : Nat -> List Bool -> List Bool
 | 0, a :: b :: p => b :: a :: p
 | q + 1, a :: p => a :: sw q p
 | _, p => p
theorem Zyx : ∀ (q : Nat) (p : List Bool), q + 1 < p.length -> sw q p = mvL (q + 1) q p
 | 0, a :: b :: p, _ => by simp [sw, mvL]
 | 0, [], h => by simp at h
 | 0, [a], h => by simp at h
 | q + 1, [], h => by simp at h
 | q + 1, a :: p, h => by
  have ih := Zyx q p (by simpa using h)
  rw [sw, ih]
  unfold mvL
  simp
theorem bst4 : ∀ s x a b c d : Bool, bst s (bst x a c) (bst x b d) = s -> bst x (bst s a b) (bst s c d) = s := by decide
theorem bstM : ∀ s t a1 b1 a2 b2 : Bool, (a1 = s -> a2 = s) -> (b1 = s -> b2 = s) -> bst t a1 b1 = s -> bst t a2 b2 = s := by decide
theorem Zqw : ∀ (pre Zbv : List Bool) (s x : Bool) (f : List Bool -> Bool), V (pre ++ s :: x :: Zbv) (fun p => f (sw pre.length p)) = s -> V (pre ++ x :: s :: Zbv) f = s
 | [], Zbv, s, x, f, h => by
  simp only [List.nil_append, List.length_nil, V, sw] at h ⊢
  exact bst4 s x _ _ _ _ h
 | t :: pre, Zbv, s, x, f, h => by
  have a := Zqw pre Zbv s x fun p => f (false :: p)
  have b := Zqw pre Zbv s x fun p => f (true :: p)
  simp only [List.cons_append, List.length_cons, V, sw] at h ⊢
  exact bstM s t _ _ _ _ a b h
theorem Zxs {α : Type} {xs : List α} {q : Nat} (h : q + 1 < xs.length) : xs = xs.take q ++ xs[q] :: xs[q + 1] :: xs.drop (q + 2) := by
 conv => lhs; rw [← List.take_append_drop q xs]
 rw [List.drop_eq_getElem_cons (by omega), List.drop_eq_getElem_cons (by omega)]
theorem Ztm {α : Type} {xs : List α} {q : Nat} (h : q + 1 < xs.length) : mvL (q + 1) q xs = xs.take q ++ xs[q + 1] :: xs[q] :: xs.drop (q + 2) := by
 have e1 : (xs.drop (q + 1)).take 1 = [xs[q + 1]] := by rw [List.drop_eq_getElem_cons h]; rfl
 have e2 : (xs.drop q).take (q + 1 - q) = [xs[q]] := by rw [show q + 1 - q = 1 by omega, List.drop_eq_getElem_cons (show q < xs.length by omega)]; rfl
 unfold mvL
 rw [e1, e2, List.append_assoc, List.append_assoc]
 rfl
noncomputable def mvR (k q : Nat) (rss : List (List Int)) : List (List Int) := rss.map (rmv ((k : Int) + 1) ((q : Int) + 1))
theorem W_adj {ks : List D} {rss : List (List Int)} {q : Nat} (hu : ∀ ls ∈ rss, Up ks.length 0 ls) (h : q + 1 < ks.length) {s : Bool} (hs : kS (ks.getD (q + 1) .non) = s) (e : W (mvL (q + 1) q ks) (mvR (q + 1) q rss) ks.length [] = s) : W ks rss ks.length [] = s := by
 have gd : ks.getD (q + 1) .non = ks[q + 1] := by simp [List.getD, h]
 rw [gd] at hs
 rw [W_V _ _ (by rw [Zcd (Nat.le_succ _) h]; simp)] at e
 rw [W_V _ _ (by simp)]
 simp only [List.length_nil, List.drop_zero, List.nil_append] at e ⊢
 have e2 : V ((mvL (q + 1) q ks).map kS) (fun p => (mvR (q + 1) q rss).all (kept p)) = V ((mvL (q + 1) q ks).map kS) fun p => rss.all (kept (sw q p)) := by
  refine Zly fun p hp => ?_
  rw [List.length_map, Zcd (Nat.le_succ _) h] at hp
  unfold mvR
  rw [List.all_map, Bool.eq_iff_iff, List.all_eq_true, List.all_eq_true]
  have one : ∀ ls ∈ rss, kept p (rmv (((q + 1 : Nat) : Int) + 1) ((q : Int) + 1) ls) = kept (sw q p) ls := fun ls hl => by
   rw [Zyx q p (by omega), ← Zux (k := q + 1) (q := q) (bs := mvL (q + 1) q p) (by omega) (by rw [Zcd (Nat.le_succ _) (by omega)]; omega) (hu ls hl), Zvu (by omega)]
  exact ⟨fun k ls hl => by rw [← one ls hl]; exact k ls hl, fun k ls hl => by rw [Function.comp_apply, one ls hl]; exact k ls hl⟩
 rw [e2, Ztm h] at e
 rw [Zxs h]
 simp only [List.map_append, List.map_cons, hs] at e ⊢
 have lq : ((ks.take q).map kS).length = q := by simp; omega
 exact Zqw ((ks.take q).map kS) _ s _ (fun p => rss.all (kept p)) (by rw [lq]; exact e)
theorem Zyj {ks : List D} {rss : List (List Int)} {k q : Nat} (hu : ∀ ls ∈ rss, Up ks.length 0 ls) (h : q ≤ k) (hk : k < ks.length) : ∀ ls ∈ mvR k q rss, Up ks.length 0 ls := by
 intro ls hl
 obtain ⟨r, hr, rfl⟩ := List.mem_map.mp hl
 exact Zuf (hu r hr) (by omega) (by omega) (by omega)
theorem Cl.mv {ks : List D} {rss : List (List Int)} {k q : Nat} (c : Cl ks rss) (h : q ≤ k) (hk : k < ks.length) : Cl (mvL k q ks) (mvR k q rss) := by
 refine ⟨fun d hd => ?_, ?_, by unfold mvR; rw [List.length_map]; exact c.hl, by rw [Zcd h hk]; exact c.h8⟩
 ·obtain ⟨i, hi⟩ := List.getElem?_of_mem hd
  rw [Zev h hk] at hi
  exact c.hk d (List.mem_of_getElem? hi)
 ·rw [Zcd h hk]; exact Zyj c.hu h hk
theorem Zso {ks : List D} {rss : List (List Int)} {k q : Nat} (hu : ∀ ls ∈ rss, Up ks.length 0 ls) (h : q < k) (hk : k < ks.length) : mvR (q + 1) q (mvR k (q + 1) rss) = mvR k q rss := by
 unfold mvR
 rw [List.map_map]
 apply List.map_congr_left
 intro ls hl
 refine Zvn (m := ks.length) (hu ls hl) (by omega) (by omega) (by omega) (by omega) (by omega) fun n => ?_
 have := Zsj (k := (k : Int) + 1) (q := (q : Int) + 1) (n := n) (by omega)
 simpa using this
theorem Zr2 {ks : List D} {rss : List (List Int)} {k : Nat} (hu : ∀ ls ∈ rss, Up ks.length 0 ls) : mvR k k rss = rss := by
 unfold mvR
 conv => rhs; rw [← List.map_id rss]
 apply List.map_congr_left
 intro ls hl
 exact Zt0 (hu ls hl) (by omega)
theorem w_nm {n k q : Int} (q0 : Q (.int (nmv k q n)) H) : wE (Zd5 [.int n, .int k, .int q] H) Q := by
 refine Zi5 rfl ?_
 show wS (Zc2 [some (.int n), some (.int k), some (.int q)] H) _
 unfold Zc2
 unfold nmv at q0
 (repeat fail "go"); (refine WP.w_if ?_; (repeat fail "go"))
 refine ⟨fun h => ?_, fun h => ?_⟩
 ·have : n = k := by simpa using h
  (repeat fail "go")
  rw [if_pos this] at q0; exact q0
 ·have hn : ¬ n = k := by simpa using h
  rw [if_neg hn] at q0
  (repeat fail "go")
  refine ⟨fun h1 => ?_, fun h1 => ?_⟩
  ·(repeat fail "go")
   refine ⟨fun h2 => ?_, fun h2 => ?_⟩
   ·(repeat fail "go")
    rw [if_pos ⟨of_decide_eq_true h1, of_decide_eq_true h2⟩] at q0; exact q0
   ·(repeat fail "go")
    rw [if_neg (fun z => of_decide_eq_false h2 z.2)] at q0; exact q0
  ·(repeat fail "go")
   rw [if_neg (fun z => of_decide_eq_false h1 z.1)] at q0; exact q0
theorem w_lm' {l k q : Int} (q0 : Q (.int (lmv k q l)) H) : wE (Zci [.int l, .int k, .int q] H) Q := by
 refine Zi5 rfl ?_
 show wS (Zb1 [some (.int l), some (.int k), some (.int q), none] H) _
 unfold Zb1
 unfold lmv at q0
 (repeat fail "go")
 refine w_nm ?_
 (repeat fail "go")
 refine ⟨fun h => ?_, fun h => ?_⟩
 ·(repeat fail "go")
  rw [if_pos (of_decide_eq_true h)] at q0; exact q0
 ·(repeat fail "go")
  rw [if_neg (of_decide_eq_false h)] at q0; exact q0
theorem Zit (zs : List Int) : Zez (zs.map .int) = some zs := by
 induction zs with
 | nil => rfl
 | cons z r ih => simp [Zez, ih]
theorem Zq7 {p : Nat} {zs : List Int} (g : H[p]? = some (.lst (zs.map .int))) (hl : zs.length ≤ 60) (nd : (zs.map Zff).Nodup) (q : Q (.ref H.length) (H ++ [.lst ((Ze5 zs).map .int)])) : wE (Zij [.ref p] H) Q := by
 refine wE_of (d := .ref H.length) (H := H ++ [.lst ((Ze5 zs).map .int)]) ?_ q
 unfold Zij
 simp only [Zey, g, Zb, Zit]
 rw [if_pos ⟨by omega, nd⟩]
theorem w_rm {m k q : Int} {ls : List Int} (u : Up m 0 ls) (l9 : ls.length ≤ 9) (hq : 0 < q) (h : q ≤ k) (q0 : ∀ H', Fm [] H H' -> Q (Za4 (rmv k q ls)) H') : wE (Zeo [Za4 ls, .int k, .int q] H) Q := by
 refine Zi5 rfl ?_
 show wS (Zdr [some (.tup (ls.map .int)), some (.int k), some (.int q)] H) _
 unfold Zdr
 (repeat fail "go")
 refine Zkj (fun d => match d with | .int l => .int (lmv k q l) | _ => .non) (fun H' => H' = H) (fun _ _ => Zt7) _ (fun x hx H1 j => ?_) _ rfl fun H1 j => ?_
 ·obtain ⟨l, hl, rfl⟩ := List.mem_map.mp hx
  subst j
  (repeat fail "go")
  refine w_lm' ?_
  exact ⟨rfl, rfl⟩
 ·subst j
  have e1 : (ls.map D.int).map (fun d => match d with | .int l => D.int (lmv k q l) | _ => .non) = (ls.map (lmv k q)).map .int := by rw [List.map_map, List.map_map]; rfl
  rw [e1]
  (repeat fail "go")
  refine Zq7 last (by simp; omega) (Zni u hq h) ?_
  (repeat fail "go")
  exact q0 _ ((Fm.app _).trans (Fm.app _))
theorem mvD {k q : Nat} {ks : List D} (h : q ≤ k) (hk : k < ks.length) : ks.take q ++ [ks[k]] ++ (ks.drop q).take (k - q) ++ ks.drop (k + 1) = mvL k q ks := by
 unfold mvL
 have e1 : (ks.drop k).take 1 = [ks[k]] := by rw [List.drop_eq_getElem_cons hk]; rfl
 rw [e1]
theorem Zpu (n d k : Nat) : HT.sIx n d (some (k : Int)) = min k n := by
 show (if (k : Int) < 0 then ((k : Int) + (n : Int)).toNat else min (k : Int).toNat n) = min k n
 rw [if_neg (by omega), Int.toNat_natCast]
theorem Zw4 (xs : List D) {a b : Nat} (h : a ≤ b) (hb : b ≤ xs.length) : Zgr xs (some (a : Int)) (some (b : Int)) = (xs.drop a).take (b - a) := by
 unfold Zgr
 rw [Zpu, Zpu, show min a xs.length = a by omega, show min b xs.length = b by omega]
theorem w_sl2 {xs : List D} {a b : Nat} (h : a ≤ b) (hb : b ≤ xs.length) (q : Q (.tup ((xs.drop a).take (b - a))) H) : wE (slD (.tup xs) (some (a : Int)) (some (b : Int)) H) Q := ⟨_, _, by rw [← Zw4 xs h hb]; rfl, q⟩
theorem Zu5 {ks : List D} {rss : List (List Int)} {k q : Nat} (c : Cl ks rss) (h : q ≤ k) (hk : k < ks.length) (q0 : ∀ H', Fm [] H H' -> Q (Za7 (mvL k q ks) (mvR k q rss)) H') : wE (Zi7 [Za7 ks rss, .int ((k : Int) + 1), .int ((q : Int) + 1)] H) Q := by
 have h8 := c.h8
 refine Zi5 rfl ?_
 show wS (Zg4 [some (Za7 ks rss), some (.int ((k : Int) + 1)), some (.int ((q : Int) + 1)), none, none] H) _
 unfold Zg4
 (repeat fail "go")
 rw [show (q : Int) + 1 - 1 = (q : Int) by omega]
 (repeat fail "go")
 rw [show (k : Int) + 1 - 1 = (k : Int) by omega]
 refine w_ixT (Zb5 (List.getElem?_eq_getElem hk)) ?_
 (repeat fail "go")
 rw [show (q : Int) + 1 - 1 = (q : Int) by omega, show (k : Int) + 1 - 1 = (k : Int) by omega]
 refine w_sl2 h (by omega) ?_
 (repeat fail "go")
 rw [mvD h hk]
 refine Zkj (fun d => match d with | .tup ds => (match Zez ds with | some ls => Za4 (rmv ((k : Int) + 1) ((q : Int) + 1) ls) | none => .non) | _ => .non) (fun H' => Fm [] H H') (fun _ _ => Zt7) _ (fun x hx H1 j => ?_) _ Fm.refl fun H1 j => ?_
 ·obtain ⟨ls, hl, rfl⟩ := List.mem_map.mp hx
  (repeat fail "go")
  refine w_rm (c.hu ls hl) (c.len9 hl) (by omega) (by omega) fun H2 x2 => ?_
  exact ⟨by simp only [Za4, Zit], j.trans x2⟩
 ·have e1 : (rss.map Za4).map (fun d => match d with | .tup ds => (match Zez ds with | some ls => Za4 (rmv ((k : Int) + 1) ((q : Int) + 1) ls) | none => .non) | _ => .non) = (mvR k q rss).map Za4 := by
   unfold mvR
   rw [List.map_map, List.map_map]
   apply List.map_congr_left
   intro ls _
   simp only [Function.comp_apply, Za4, Zit]
  rw [e1]
  have := c.hl
  refine ⟨by unfold mvR; simp; omega, ?_⟩
  (repeat fail "go")
  exact q0 _ (j.trans (Fm.app _))
theorem w_lc2 {it : ItF} {ci : List Nat} {tt : TF} {te : EF} {σ : SD} (h : wI (it σ H) fun xs own H1 => wA (Zei own (Zlb ci σ) tt te xs H1) fun ds H2 => ds.length ≤ 1000000 ∧ Q (.ref H2.length) (H2 ++ [.lst ds])) : wE (Zx0 it ci tt te σ H) Q := by
 obtain ⟨xs, own, H1, e1, ds, H2, e2, hz, q⟩ := h
 refine ⟨_, _, ?_, q⟩
 unfold Zx0
 rw [e1]
 simp only [Zb]
 rw [e2]
 exact if_pos (Zdp hz)
theorem Zvj {f : AF} {σ : SD} {I : List D -> Zge -> HD -> Prop} (h : wA (f σ H) fun ds H1 => ∃ n xs, ds = [.ref n] ∧ H1[n]? = some (.lst xs) ∧ I (Zdz 0 xs) [(n, .lst xs)] H1) : wI (Znc f σ H) I := by
 obtain ⟨ds, H1, e1, n, xs, rfl, g, q⟩ := h
 refine ⟨_, _, H1, ?_, q⟩
 unfold Znc
 rw [e1]
 simp only [Zb, g]
noncomputable def enD (c : Int) : List Int -> List (Int × D)
 | [] => []
 | x :: r => (x, .int (c + 1)) :: enD (c + 1) r
theorem Zq6 {own : Zge} (ho : Zcp own H) : ∀ (xs : List Int) (c : Int) {R : List D -> HD -> Prop}, R ((enD c xs).map fun p => .tup [.int p.1, p.2]) H -> wA (Zei own [] Zel (Zd3 (Zaa (Zad 1) (Zaa (eOp Zbd (Zad 0) (eC (.int 1))) Zai))) (Zdz c (xs.map .int)) H) R
 | [], c, R, q => ⟨_, _, by rw [List.map_nil, Zdz, Zei, if_pos ho]; rfl, q⟩
 | x :: r, c, R, q => by
  obtain ⟨ds, H1, e, h⟩ := Zq6 ho r (c + 1) (R := fun ds H1 => R (.tup [.int x, .int (c + 1)] :: ds) H1) q
  refine ⟨_, H1, ?_, h⟩
  rw [List.map_cons, Zdz, Zei]
  simp only [two2, Zb]
  rw [if_pos ho]
  have et : Zd3 (Zaa (Zad 1) (Zaa (eOp Zbd (Zad 0) (eC (.int 1))) Zai)) [some (.int c), some (.int x)] H = some (.tup [.int x, .int (c + 1)], H) := rfl
  simp only [Zel, Zb, if_true]
  rw [et]
  simp only [Zb]
  rw [e]; rfl
theorem Zut : ∀ kvs : List (Int × D), ikv (kvs.map fun p => .tup [.int p.1, p.2]) = some kvs
 | [] => rfl
 | p :: r => by rw [List.map_cons, ikv, Zut r]; rfl
theorem Zjj : ∀ (xs : List Int) (c : Int), (enD c xs).map (·.1) = xs
 | [], _ => rfl
 | x :: r, c => by rw [enD, List.map_cons, Zjj r]
theorem Zsn (kvs : List (Int × D)) (h : (kvs.map (·.1)).Nodup) : Zha kvs = kvs := by
 have gen : ∀ (ys acc : List (Int × D)), ((acc ++ ys).map (·.1)).Nodup -> ys.foldl (fun a p => Zvr a p.1 p.2) acc = acc ++ ys := by
  intro ys
  induction ys with
  | nil => intro acc _; simp
  | cons y r ih =>
   intro acc nd
   rw [List.foldl_cons]
   have e : Zvr acc y.1 y.2 = acc ++ [y] := by
    unfold Zvr
    rw [if_neg]
    intro z
    rw [List.any_eq_true] at z
    obtain ⟨p, hp, e⟩ := z
    have e : p.1 = y.1 := by simpa using e
    rw [List.map_append, List.nodup_append] at nd
    exact nd.2.2 p.1 (List.mem_map.mpr ⟨p, hp, rfl⟩) y.1 (by simp) e
   rw [e, ih (acc ++ [y]) (by simpa using nd)]
   simp
 exact gen kvs [] (by simpa using h)
theorem Zmb : ∀ (xs : List Int) (c : Int) (p : Nat) (x : Int), xs.Nodup -> xs[p]? = some x -> Zjm (enD c xs) x = some (.int (c + p + 1))
 | [], _, _, _, _, h => by simp at h
 | y :: r, c, 0, x, _, h => by
  simp at h; subst h
  unfold Zjm
  rw [enD, List.find?_cons_of_pos (by simp)]
  simp
 | y :: r, c, p + 1, x, nd, h => by
  simp at h
  rw [List.nodup_cons] at nd
  have ne : y ≠ x := fun z => nd.1 (by rw [z]; exact List.mem_of_getElem? h)
  have ih := Zmb r (c + 1) p x nd.2 h
  unfold Zjm at *
  rw [enD, List.find?_cons_of_neg (by simpa using ne), ih]
  congr 2
  omega
theorem Zw2 {n : Nat} {kvs : List (Int × D)} (g : H[n]? = some (.lst (kvs.map fun p => .tup [.int p.1, p.2]))) (hl : kvs.length ≤ 1000) (q : Q (.ref H.length) (H ++ [.dci (Zha kvs)])) : wE (Zj0 [.ref n] H) Q := by
 refine ⟨_, _, ?_, q⟩
 have sz : sizeLine = 16777216 := PySem.sizeLine_eq
 unfold Zj0
 simp only [g, Zut, Zb]
 rw [if_pos (by omega)]
theorem Zyf {n : Nat} {kvs : List (Int × D)} {k : Int} {v : D} (g : H[n]? = some (.dci kvs)) (h : Zjm kvs k = some v) (q : Q v H) : wE (Zs9 (.ref n) (.int k) H) Q := ⟨_, _, by simp [Zs9, dciD, g, h], q⟩
noncomputable def N0 (n : Nat) : List Int := (List.range n).map fun k : Nat => (k : Int) + 1
theorem Zgb (n : Nat) : (N0 n).length = n := by simp [N0]
theorem Zv5 {n i : Nat} (h : i < n) : (N0 n)[i]? = some ((i : Int) + 1) := by simp [N0, h]
theorem Zw0 {k q i j : Nat} (h : q ≤ k) (e : src k q i = src k q j) : i = j := by
 unfold src at e
 repeat' split at e
 all_goals omega
theorem Zqm {k q i n : Nat} (h : q ≤ k) (hk : k < n) (hi : i < n) : src k q i < n := by
 unfold src
 repeat' split
 all_goals omega
theorem Zfw {n k q i : Nat} (h : q ≤ k) (hk : k < n) (hi : i < n) : (mvL k q (N0 n))[i]? = some ((src k q i : Int) + 1) := by
 rw [Zev h (by rw [Zgb]; exact hk), Zv5 (Zqm h hk hi)]
theorem Zme {n k q : Nat} (h : q ≤ k) (hk : k < n) : (mvL k q (N0 n)).Nodup := by
 have l : (mvL k q (N0 n)).length = n := by rw [Zcd h (by rw [Zgb]; exact hk), Zgb]
 refine List.pairwise_iff_getElem.mpr fun i j hi hj hij e => ?_
 have e1 : (mvL k q (N0 n))[i]? = (mvL k q (N0 n))[j]? := by rw [List.getElem?_eq_getElem hi, List.getElem?_eq_getElem hj, e]
 rw [l] at hi hj
 rw [Zfw h hk hi, Zfw h hk hj] at e1
 have e := Option.some.inj e1
 have := Zw0 (i := i) (j := j) h (by omega)
 omega
theorem N0_nd {n : Nat} : (N0 n).Nodup := by
 cases n with
 | zero => exact List.nodup_nil
 | succ n =>
  have e := Zme (n := n + 1) (k := 0) (q := 0) (Nat.le_refl _) (by omega)
  rwa [Zi2 (by rw [Zgb]; omega)] at e
theorem Zq1 : ∀ (xs : List Int) (k : Nat) (a : Int), xs.Nodup -> xs[k]? = some a -> xs.filter (fun x => !(x == a)) = xs.take k ++ xs.drop (k + 1)
 | [], _, _, _, h => by simp at h
 | x :: r, 0, a, nd, h => by
  simp at h; subst h
  rw [List.nodup_cons] at nd
  rw [List.filter_cons_of_neg (by simp)]
  simp only [List.take_zero, List.nil_append, List.drop_succ_cons, List.drop_zero]
  rw [List.filter_eq_self]
  intro y hy
  have : y ≠ x := fun z => nd.1 (z ▸ hy)
  simpa using this
 | x :: r, k + 1, a, nd, h => by
  simp at h
  rw [List.nodup_cons] at nd
  have ne : x ≠ a := fun z => nd.1 (by rw [z]; exact List.mem_of_getElem? h)
  rw [List.filter_cons_of_pos (by simpa using ne), Zq1 r k a nd.2 h]
  simp
theorem Zog {n k q : Nat} (h : q ≤ k) (hk : k < n) {a : Int} (a0 : 0 < a) (a1 : a ≤ n) : Zjm (Zha (enD 0 (mvL k q (N0 n)))) a = some (.int (nmv ((k : Int) + 1) ((q : Int) + 1) a)) := by
 have nd := Zme h hk
 rw [Zsn _ (by rw [Zjj]; exact nd)]
 have hp : (nmv ((k : Int) + 1) ((q : Int) + 1) a - 1).toNat < n := by unfold nmv; repeat' split <;> omega
 have e := Zmb (mvL k q (N0 n)) 0 (nmv ((k : Int) + 1) ((q : Int) + 1) a - 1).toNat a nd (by
  rw [Zfw h hk hp]
  congr 1
  unfold src nmv
  repeat' split
  all_goals omega)
 rw [e]
 congr 2
 unfold nmv
 repeat' split
 all_goals omega
theorem w_ins {p : Nat} {xs : List D} {i : Int} {d : D} (g : H[p]? = some (.lst xs)) (h0 : 0 ≤ i) (h1 : i ≤ xs.length) (h2 : xs.length < 1000000) (q : Q .non (H.set p (.lst (xs.take i.toNat ++ [d] ++ xs.drop i.toNat)))) : wE (Zg9 (.ref p) [.int i, d] H) Q := by
 refine ⟨_, _, ?_, q⟩
 have sz : sizeLine = 16777216 := PySem.sizeLine_eq
 unfold Zg9
 simp only [g]
 rw [if_pos ⟨h0, h1, by omega⟩]
theorem Zpg {α : Type} {k q : Nat} {bs : List α} (h : q ≤ k) (hk : k < bs.length) : (bs.take k ++ bs.drop (k + 1)).take q ++ [bs[k]] ++ (bs.take k ++ bs.drop (k + 1)).drop q = mvL k q bs := by
 unfold mvL
 have e1 : (bs.drop k).take 1 = [bs[k]] := by rw [List.drop_eq_getElem_cons hk]; rfl
 rw [e1, List.take_append_of_le_length (by simp; omega), List.drop_append_of_le_length (by simp; omega), List.take_take, Nat.min_eq_left h, List.append_assoc (List.take q bs ++ [bs[k]])]
 congr 2
 rw [List.drop_take]
theorem Zmo (n : Nat) : Za2 1 n = (N0 n).map .int := by
 unfold Za2 N0
 rw [List.map_map]
 apply List.map_congr_left
 intro j _
 show D.int (1 + (j : Int)) = D.int ((j : Int) + 1)
 congr 1; omega
noncomputable def notK (a : Int) (d : D) : Bool := match d with | .int x => !(x == a) | _ => true
theorem Zn7 {n k : Nat} (hk : k < n) : (Za2 1 n).filter (notK ((k : Int) + 1)) = ((N0 n).take k ++ (N0 n).drop (k + 1)).map .int := by
 rw [Zmo, List.filter_map, ← Zq1 (N0 n) k _ N0_nd (Zv5 hk)]
 rfl
theorem Zq0 {n k q : Nat} (h : q ≤ k) (hk : k < n) : (((N0 n).take k ++ (N0 n).drop (k + 1)).map D.int).take q ++ [.int ((k : Int) + 1)] ++ (((N0 n).take k ++ (N0 n).drop (k + 1)).map D.int).drop q = (mvL k q (N0 n)).map .int := by
 have l : k < (N0 n).length := by rw [Zgb]; exact hk
 have e : (N0 n)[k] = (k : Int) + 1 := by
  have := Zv5 hk
  rw [List.getElem?_eq_getElem l] at this
  exact Option.some.inj this
 rw [← Zpg h l, e]
 simp only [List.map_append, List.map_take, List.map_drop, List.map_cons, List.map_nil]
theorem Ztl {ks : List D} {k q : Nat} (h : q ≤ k) (hk : k < ks.length) (g : D -> D) (hg : ∀ i : Nat, g (.int ((i : Int) + 1)) = ks.getD i .non) : ((mvL k q (N0 ks.length)).map D.int).map g = mvL k q ks := by
 apply List.ext_getElem?
 intro i
 rw [List.map_map, List.getElem?_map]
 by_cases hi : i < ks.length
 ·have sl := Zqm (i := i) h hk hi
  rw [Zfw h hk hi, Zev h hk, List.getElem?_eq_getElem sl]
  show some (g (.int _)) = _
  rw [hg, List.getD_eq_getElem?_getD, List.getElem?_eq_getElem sl]; rfl
 ·rw [List.getElem?_eq_none (by rw [Zcd h (by rw [Zgb]; exact hk), Zgb]; omega), List.getElem?_eq_none (by rw [Zcd h hk]; omega)]; rfl
theorem Zu3 {k q l : Int} (h0 : 0 < Zbg l) : nmv k q (Zbg l) * (if decide (l < 0) = true then -1 else 1) = lmv k q l := by
 unfold lmv
 by_cases c : l < 0
 ·rw [if_pos (by simpa using c), if_neg (by omega)]; omega
 ·have : l ≠ 0 := by intro z; subst z; simp [Zbg] at h0
  rw [if_neg (by simpa using c), if_pos (by omega)]; omega
noncomputable def lmD (k q : Int) (d : D) : D := match d with | .int l => .int (lmv k q l) | _ => .non
theorem Zwh {ks : List D} {rss : List (List Int)} {k q : Nat} (c : Cl ks rss) (hl : rss.length ≤ 100) (h : q ≤ k) (hk : k < ks.length) (q0 : ∀ H', Fm [] H H' -> Q (Za7 (mvL k q ks) (mvR k q rss)) H') : wE (Zcr [Za7 ks rss, .int ((k : Int) + 1), .int ((q : Int) + 1)] H) Q := by
 have h8 := c.h8
 refine Zi5 rfl ?_
 show wS (Zdt [some (Za7 ks rss), some (.int ((k : Int) + 1)), some (.int ((q : Int) + 1)), none, none, none, none, none] H) _
 unfold Zdt
 (repeat fail "go")
 refine ⟨_, _, rfl, ⟨by omega, by omega⟩, ⟨by omega, by omega⟩, ?_⟩
 rw [show ((ks.length : Int) + 1 - 1).toNat = ks.length by omega]
 refine Zhq (notK ((k : Int) + 1)) (fun H' => H' = H) (fun _ _ => Zt7) _ (fun x hx H1 j => ?_) _ rfl fun H1 j => ?_
 ·rw [Zmo] at hx
  obtain ⟨l, hl, rfl⟩ := List.mem_map.mp hx
  subst j
  (repeat fail "go")
  exact ⟨rfl, rfl⟩
 ·subst j
  rw [Zn7 hk]
  have lN := Zgb ks.length
  refine ⟨by simp; omega, ?_⟩
  (repeat fail "go")
  refine ⟨isl last, ?_⟩
  (repeat fail "go")
  rw [show (q : Int) + 1 - 1 = (q : Int) by omega]
  refine w_ins last (by omega) (by simp; omega) (by simp; omega) ?_
  rw [Int.toNat_natCast, Zq0 h hk]
  have es : (H1 ++ [DO.lst (((N0 ks.length).take k ++ (N0 ks.length).drop (k + 1)).map D.int)]).set H1.length (.lst ((mvL k q (N0 ks.length)).map .int)) = H1 ++ [.lst ((mvL k q (N0 ks.length)).map .int)] := by simp
  rw [es]
  have lo : (mvL k q (N0 ks.length)).length = ks.length := by rw [Zcd h (by rw [lN]; exact hk), lN]
  (repeat fail "go")
  refine w_lc2 (Zvj ?_)
  (repeat fail "go")
  refine ⟨_, _, rfl, last, ?_⟩
  refine Zq6 (own1 last) _ 0 ?_
  have le := congrArg List.length (Zjj (mvL k q (N0 ks.length)) 0)
  rw [List.length_map, lo] at le
  refine ⟨by rw [List.length_map]; omega, ?_⟩
  (repeat fail "go")
  refine Zw2 last (by omega) ?_
  (repeat fail "go")
  have gg : ∃ p3 pd p5 H2, p3 = H1.length ∧ pd = (H1 ++ [DO.lst (List.map D.int (mvL k q (N0 ks.length)))] ++ [DO.lst (List.map (fun p => D.tup [D.int p.fst, p.snd]) (enD 0 (mvL k q (N0 ks.length))))]).length ∧ p5 = (H1 ++ [DO.lst (List.map D.int (mvL k q (N0 ks.length)))] ++ [DO.lst (List.map (fun p => D.tup [D.int p.fst, p.snd]) (enD 0 (mvL k q (N0 ks.length))))] ++ [DO.dci (Zha (enD 0 (mvL k q (N0 ks.length))))]).length ∧ H2 = H1 ++ [DO.lst (List.map D.int (mvL k q (N0 ks.length)))] ++ [DO.lst (List.map (fun p => D.tup [D.int p.fst, p.snd]) (enD 0 (mvL k q (N0 ks.length))))] ++ [DO.dci (Zha (enD 0 (mvL k q (N0 ks.length))))] ++ [DO.lst []] := ⟨_, _, _, _, rfl, rfl, rfl, rfl⟩
  obtain ⟨p3, pd, p5, H2, e3, ed, e5, e2⟩ := gg
  rw [← e3, ← ed, ← e5, ← e2]
  have g3 : H2[p3]? = some (.lst ((mvL k q (N0 ks.length)).map .int)) := by rw [e2, e3]; fail "lk"
  have gd : H2[pd]? = some (.dci (Zha (enD 0 (mvL k q (N0 ks.length))))) := by rw [e2, ed]; exact appL last
  have g5 : H2[p5]? = some (.lst ([] : List D)) := by rw [e2, e5]; exact last
  have n35 : p5 ≠ p3 := by rw [e3, e5]; simp
  have n5d : p5 ≠ pd := by rw [ed, e5]; simp
  have n5 : H1.length ≤ p5 := by rw [e5]; simp
  have x2 : Fm [] H1 H2 := by rw [e2]; exact (((Fm.app _).trans (Fm.app _)).trans (Fm.app _)).trans (Fm.app _)
  clear e3 ed e5 e2 es
  refine Zp4 (fun d t σ H' => ∃ done Zbv : List (List Int), d = done.map Za4 ∧ t = Zbv.map Za4 ∧ done ++ Zbv = rss ∧ (H'[p3]? = some (.lst ((mvL k q (N0 ks.length)).map .int)) ∧ H'[pd]? = some (.dci (Zha (enD 0 (mvL k q (N0 ks.length))))) ∧ H'[p5]? = some (.lst ((mvR k q done).map Za4)) ∧ Fm [] H1 H') ∧ ∃ a6 a7, σ = [some (Za7 ks rss), some (.int ((k : Int) + 1)), some (.int ((q : Int) + 1)), some (.ref p3), some (.ref pd), some (.ref p5), a6, a7]) (fun _ _ _ _ _ => Zt7) (fun d x t σ H3 ⟨done, Zbv, i1, i2, i3, ⟨i4, i5, i6, i7⟩, a6, a7, i8⟩ => ?_) (fun d σ H3 ⟨done, Zbv, i1, i2, i3, ⟨i4, i5, i6, i7⟩, a6, a7, i8⟩ => ?_) _ [] _ _ ⟨[], rss, rfl, rfl, rfl, ⟨g3, gd, g5, x2⟩, _, _, rfl⟩
  ·subst i8 i1
   obtain ⟨ls, rest', rfl, rfl, rfl⟩ : ∃ ls rest', Zbv = ls :: rest' ∧ x = Za4 ls ∧ t = rest'.map Za4 := by
    cases Zbv with
    | nil => cases i2
    | cons a b => obtain ⟨z1, z2⟩ := List.cons.inj i2; exact ⟨a, b, rfl, z1, z2⟩
   clear i2
   have hls : ls ∈ rss := by rw [← i3]; simp
   have u := c.hu ls hls
   have l9 := c.len9 hls
   unfold Za4
   (repeat fail "go")
   refine Zkj (lmD ((k : Int) + 1) ((q : Int) + 1)) (fun H' => H'[p3]? = some (.lst ((mvL k q (N0 ks.length)).map .int)) ∧ H'[pd]? = some (.dci (Zha (enD 0 (mvL k q (N0 ks.length))))) ∧ H'[p5]? = some (.lst ((mvR k q done).map Za4)) ∧ Fm [] H1 H') (fun _ _ => Zt7) _ (fun y hy H4 ⟨j1, j2, j3, j4⟩ => ?_) _ ⟨i4, i5, i6, i7⟩ fun H4 ⟨j1, j2, j3, j4⟩ => ?_
   ·obtain ⟨l, hl, rfl⟩ := List.mem_map.mp hy
    obtain ⟨a0, a1⟩ := Zgu u l hl
    (repeat fail "go")
    refine Zyf j2 (Zog h hk a0 a1) ?_
    (repeat fail "go")
    refine w_ixR last (d := .int (if decide (l < 0) = true then -1 else 1)) (by cases decide (l < 0) <;> rfl) ?_
    (repeat fail "go")
    have nm := Zi3 (k := (k : Int) + 1) (q := (q : Int) + 1) (by omega) a0
    have nl := Zus (k := (k : Int) + 1) (q := (q : Int) + 1) (by omega) (m := ks.length) (by omega) a1
    refine w_mulL (by omega) (by omega) ?_
    rw [Zu3 a0]
    exact ⟨rfl, appL j1, appL j2, appL j3, j4.trans (Fm.app _)⟩
   ·have e1 : (ls.map D.int).map (lmD ((k : Int) + 1) ((q : Int) + 1)) = (ls.map (lmv ((k : Int) + 1) ((q : Int) + 1))).map .int := by rw [List.map_map, List.map_map]; rfl
    rw [e1]
    refine ⟨by simp; omega, ?_⟩
    (repeat fail "go")
    refine ⟨isl (appL j3), ?_⟩
    (repeat fail "go")
    refine Zq7 last (by simp; omega) (Zni u (by omega) (by omega)) ?_
    (repeat fail "go")
    have g6 := appL (u := DO.lst ((Ze5 (ls.map (lmv ((k : Int) + 1) ((q : Int) + 1)))).map .int)) (appL (u := DO.lst ((ls.map (lmv ((k : Int) + 1) ((q : Int) + 1))).map .int)) j3)
    refine w_app g6 (by have e := congrArg List.length i3; simp [mvR] at e ⊢; omega) ?_
    (repeat fail "go")
    refine ⟨done ++ [ls], rest', by simp, rfl, by rw [← i3]; simp, ⟨setO n35 (appL (appL j1)), setO n5d (appL (appL j2)), ?_, ?_⟩, _, _, rfl⟩
    ·rw [setS g6]
     simp [mvR, rmv, Za4]
    ·exact ((j4.trans (Fm.app _)).trans (Fm.app _)).new (Fm.set (S := [p5]) (by simp)) (fun m hm _ => by simp at hm; subst hm; exact n5)
  ·subst i8 i1
   have : Zbv = [] := by cases Zbv with | nil => rfl | cons a b => cases i2
   subst this
   rw [List.append_nil] at i3
   subst i3
   (repeat fail "go")
   refine Zkj (fun d => match d with | .int x => ks.getD (x - 1).toNat .non | _ => .non) (fun H' => H' = H3) (fun H' j => by rw [j]; exact own1 i4) _ (fun y hy H4 j => ?_) _ rfl fun H4 j => ?_
   ·subst j
    obtain ⟨x, hx, rfl⟩ := List.mem_map.mp hy
    obtain ⟨i, hi⟩ := List.getElem?_of_mem hx
    have li : i < ks.length := by have := (List.getElem?_eq_some_iff.mp hi).1; omega
    rw [Zfw h hk li] at hi
    have hi := (Option.some.inj hi).symm
    subst hi
    have sl := Zqm (i := i) h hk li
    (repeat fail "go")
    rw [show (src k q i : Int) + 1 - 1 = (src k q i : Int) by omega]
    refine w_ixT (Zb5 (List.getElem?_eq_getElem sl)) ?_
    refine ⟨?_, rfl⟩
    show ks[src k q i] = ks.getD ((src k q i : Int) + 1 - 1).toNat .non
    rw [show ((src k q i : Int) + 1 - 1).toNat = src k q i by omega, List.getD_eq_getElem?_getD, List.getElem?_eq_getElem sl]; rfl
   ·subst j
    rw [Ztl h hk _ (fun i => by
     show ks.getD ((i : Int) + 1 - 1).toNat .non = _
     rw [show ((i : Int) + 1 - 1).toNat = i by omega])]
    have lk := Zcd h hk
    refine ⟨by omega, ?_⟩
    (repeat fail "go")
    exact q0 _ (i7.trans (Fm.app _))
noncomputable def Wm (ks : List D) (rss : List (List Int)) (k q : Nat) : Bool := W (mvL k q ks) (mvR k q rss) ks.length []
theorem Zv1 {ks : List D} {rss : List (List Int)} {k : Nat} (c : Cl ks rss) (hk : k < ks.length) : Wm ks rss k k = W ks rss ks.length [] := by
 unfold Wm; rw [Zi2 hk, Zr2 c.hu]
theorem Wm_up {ks : List D} {rss : List (List Int)} {k q : Nat} (c : Cl ks rss) (hk : k < ks.length) (hq : q < k) {s : Bool} (hs : kS (ks.getD k .non) = s) (e : Wm ks rss k q = s) : Wm ks rss k (q + 1) = s := by
 have c2 := c.mv (k := k) (q := q + 1) hq hk
 have ln : (mvL k (q + 1) ks).length = ks.length := Zcd hq hk
 unfold Wm at e ⊢
 have hs2 : kS ((mvL k (q + 1) ks).getD (q + 1) .non) = s := by
  rw [List.getD_eq_getElem?_getD, Zev hq hk, show src k (q + 1) (q + 1) = k by unfold src; simp, ← List.getD_eq_getElem?_getD]; exact hs
 have z := W_adj (ks := mvL k (q + 1) ks) (rss := mvR k (q + 1) rss) (q := q) c2.hu (by omega) hs2 (by rw [Ztp hq hk, Zso c.hu hq hk, ln]; exact e)
 rw [ln] at z
 exact z
theorem Zvq {ks : List D} {rss : List (List Int)} {k : Nat} (c : Cl ks rss) (hk : k < ks.length) {s : Bool} (hs : kS (ks.getD k .non) = s) : ∀ (j q : Nat), q + j ≤ k -> Wm ks rss k q = s -> Wm ks rss k (q + j) = s
 | 0, q, _, e => e
 | j + 1, q, h, e => Zvq c hk hs j (q + 1) (by omega) (Wm_up c hk (by omega) hs e) |> fun z => by rw [show q + (j + 1) = q + 1 + j by omega]; exact z
theorem Zkb {ks : List D} {rss : List (List Int)} (c : Cl ks rss) (q : ∀ p H', H'[p]? = some (.dic ((Zf1 ks.length).map (kv ks rss)) false) -> H.length ≤ p -> Fm [] H H' -> Q (.ref p) H') : wE (Za8 [Za7 ks rss] H) Q := by
 obtain ⟨p, H', e, l, g, x⟩ := Znz c.hk c.hu c.hl c.h8 H
 exact ⟨_, _, e, q p H' g l x.fm⟩
theorem Zjc {a b : Bool} (q : Q (.bl (!(a == b))) H) : wE (neD (Zap a) (Zap b) H) Q := by
 have e1 : (("some" : Str) == ("all" : Str)) = false := by decide
 have e2 : (("all" : Str) == ("some" : Str)) = false := by decide
 refine ⟨_, _, ?_, q⟩
 cases a <;> cases b <;> simp [neD, Zmh, Zap, e1, e2, bne]
theorem Zuq {a b : Bool} (q : Q (.bl (a == b)) H) : wE (eqD (Zap a) (Zap b) H) Q := ⟨_, _, Zos _ _ _, q⟩
theorem Zpd {ks : List D} {rss : List (List Int)} (c : Cl ks rss) (q : ∀ H', Fm [] H H' -> Q (Zap (W ks rss ks.length [])) H') : wE (Zcz [Za7 ks rss, .tup []] H) Q :=
 Zs1 (bs := []) c (by simp) q
theorem Zll {ks : List D} {rss : List (List Int)} {k : Nat} (c : Cl ks rss) (hk : k < ks.length) (q : Q (Zap (kS (ks.getD k .non))) H) : wE (ixD (.tup ks) (.int ((k : Int) + 1 - 1)) H) Q := by
 rw [show (k : Int) + 1 - 1 = (k : Int) by omega]
 exact w_ixT (Zb5 (Zwa c.hk hk)) q
theorem w_aug {σ : SD} {i : Nat} {f : EF} {g : Int -> Int -> Int} {a b : Int} {R : FD -> SD -> HD -> Prop} (h : (σ[i]?).join = some (.int a)) (q : wE (f σ H) fun d H1 => d = .int b ∧ R .nx (σ.set i (some (.int (g a b)))) H1) : wS (sAug g i f σ H) R := by
 obtain ⟨d, H1, e, rfl, q⟩ := q
 refine ⟨_, _, _, ?_, q⟩
 unfold sAug
 rw [h]
 simp only [Zb, Zoy]
 rw [e]
 rfl
theorem Zn6 {ks : List D} {rss : List (List Int)} {k : Nat} (c : Cl ks rss) (hk : k < ks.length) (hs : W ks rss ks.length [] = kS (ks.getD k .non))
  (q : ∀ (P : Nat) H', P ≤ k -> (∀ i, P ≤ i -> i ≤ k -> Wm ks rss k i = kS (ks.getD k .non)) -> (∀ i, i < P -> ¬ Wm ks rss k i = kS (ks.getD k .non)) -> Fm [] H H' -> Q (.int ((P : Int) + 1)) H') : wE (Zek [Za7 ks rss, .int ((k : Int) + 1)] H) Q := by
 have h8 := c.h8
 refine Zi5 rfl ?_
 show wS (Zec [some (Za7 ks rss), some (.int ((k : Int) + 1)), none, none] H) _
 unfold Zec
 (repeat fail "go")
 refine Zll c hk ?_
 generalize hS : kS (ks.getD k .non) = S at *
 (repeat fail "go"); (refine WP.w_if ?_; (repeat fail "go"))
 refine Zpd c fun H1 x1 => ?_
 rw [hs]
 (repeat fail "go")
 refine Zjc ?_
 rw [show (!(S == S)) = false by simp]
 (repeat fail "go")
 refine Zyh (fun σ H' => ∃ m : Nat, m ≤ k ∧ Wm ks rss k m = S ∧ (m = 0 ∨ ¬ Wm ks rss k (m - 1) = S) ∧ Fm [] H H' ∧ σ = [some (Za7 ks rss), some (.int ((k : Int) + 1)), some (Zap S), some (.int ((m : Int) + 1))]) ?_ ?_
 ·refine Zl5 (fun m σ H' => m ≤ k ∧ Wm ks rss k m = S ∧ Fm [] H H' ∧ σ = [some (Za7 ks rss), some (.int ((k : Int) + 1)), some (Zap S), some (.int ((m : Int) + 1))]) (fun m σ H' i => ?_) 1000 k _ _ (by omega) ⟨Nat.le_refl _, by rw [Zv1 c hk]; exact hs, x1, rfl⟩
  obtain ⟨i1, i2, i3, rfl⟩ := i
  (repeat fail "go")
  cases m with
  | zero =>
   refine w_bF (by simp) ?_
   refine w_bf ?_
   exact ⟨rfl, 0, i1, i2, .inl rfl, i3, rfl⟩
  | succ m =>
   refine w_bT (by simp; omega) ?_
   (repeat fail "go")
   rw [show ((m + 1 : Nat) : Int) + 1 - 1 = (m : Int) + 1 by omega]
   refine Zu5 c (by omega) hk fun H2 x2 => ?_
   (repeat fail "go")
   refine Zpd (c.mv (by omega) hk) fun H3 x3 => ?_
   rw [Zcd (by omega) hk]
   (repeat fail "go")
   refine Zuq ?_
   refine w_bl ?_
   have X : Fm [] H H3 := (i3.trans x2).trans x3
   refine ⟨fun h => ?_, fun h => ?_⟩
   ·refine ⟨m, rfl, ?_⟩
    refine w_seq (w_aug (b := 1) rfl ?_)
    (repeat fail "go")
    refine ⟨rfl, ?_⟩
    (repeat fail "go")
    exact ⟨by omega, by simpa [Wm] using h, X, by simp⟩
   ·exact ⟨rfl, m + 1, i1, i2, .inr (by simpa [Wm] using h), X, rfl⟩
 ·rintro _ H4 ⟨m, m1, m2, m3, X, rfl⟩
  (repeat fail "go")
  refine q m H4 m1 (fun i a b => ?_) (fun i a e => ?_) X
  ·have := Zvq c hk hS (i - m) m (by omega) m2
   rw [show m + (i - m) = i by omega] at this; exact this
  ·rcases m3 with z | z
   ·omega
   ·have := Zvq c hk hS (m - 1 - i) i (by omega) e
    rw [show i + (m - 1 - i) = m - 1 by omega] at this
    exact z this
theorem Yaa {ks : List D} {rss : List (List Int)} {k : Nat} (c : Cl ks rss) (hk : k < ks.length) (hs : ¬ W ks rss ks.length [] = kS (ks.getD k .non)) (H : HD) : ∃ H', Ze6 [Za7 ks rss, .int ((k : Int) + 1)] H = some H' ∧ Fm [] H H' := by
 have h8 := c.h8
 show ∃ H', Zds [some (Za7 ks rss), some (.int ((k : Int) + 1)), none, none] H = some H' ∧ _
 unfold Zds
 generalize hS : kS (ks.getD k .non) = S at *
 have h1 : wS (Za0 2 (eOp ixD (eOp ixD (Zad 0) (eC (.int 0))) (eOp Ze0 (Zad 1) (eC (.int 1)))) [some (Za7 ks rss), some (.int ((k : Int) + 1)), none, none] H) fun x σ H' => x = .nx ∧ σ = [some (Za7 ks rss), some (.int ((k : Int) + 1)), some (Zap S), none] ∧ H' = H := by
  refine w_set ?_
  (repeat fail "go")
  refine Zll c hk ?_
  rw [hS]
  exact ⟨rfl, rfl, rfl⟩
 obtain ⟨x, σ1, H1, e1, rfl, rfl, rfl⟩ := h1
 have h2 : wT (tOf (eOp neD (Zaj 2 Zcz (Zaa (Zad 0) (Zaa (Zd3 Zai) Zai))) (Zad 2)) [some (Za7 ks rss), some (.int ((k : Int) + 1)), some (Zap S), none] H1) fun b H' => b = true ∧ Fm [] H1 H' := by
  (repeat fail "go")
  refine Zpd c fun H2 x2 => ?_
  (repeat fail "go")
  refine Zjc ?_
  refine w_bl ?_
  exact ⟨by simpa using hs, x2⟩
 obtain ⟨b, H2, e2, rfl, x2⟩ := h2
 refine ⟨H2, ?_, x2⟩
 unfold xSeq
 rw [e1]
 simp only [Zb]
 unfold xIf
 rw [e2]
 simp only [Zb, if_true]
 unfold Zkk eFS Zad
 have l1 : ∀ b : Bool, (if b then ("some" : Str) else "all").length ≤ 1000 := by intro b; cases b <;> decide +kernel
 have l2 : (Str.ofString " does not win this claim").length ≤ 1000 := by decide +kernel
 cases S with
 | true => simp [Zap, l2]; exact l1 true
 | false => simp [Zap, l2]; exact l1 false
theorem w_ref {n iE iO iW : Nat} {w1 : Str} {XF : XFF} {fa : AF} {σ : SD} {R : FD -> SD -> HD -> Prop} (h : wA (fa σ H) fun ds H1 => (ds.length = n ∧ iO < σ.length ∧ iE ≠ iO ∧ iE < σ.length ∧ iE ≠ iW) ∧ ∃ H2, XF ds H1 = some H2 ∧ R .nx (((σ.set iO (some (.bl false))).set iW (some (.str w1))).set iE none) H2) : wS (Zz9 n iE iO iW w1 XF fa σ H) R := by
 obtain ⟨ds, H1, e1, c, H2, e2, q⟩ := h
 refine ⟨_, _, _, ?_, q⟩
 unfold Zz9
 rw [e1]
 simp only [Zb]
 rw [if_pos c, e2]
 rfl
theorem Zpa {ks : List D} {rss : List (List Int)} {k : Nat} (c : Cl ks rss) (hk : k < ks.length) (hs : ¬ W ks rss ks.length [] = kS (ks.getD k .non)) (q : ∀ H', Fm [] H H' → Q (.str "won") H') : wE (Zcl [Za7 ks rss, .int ((k : Int) + 1)] H) Q := by
 refine Zi5 rfl ?_
 show wS (Zck [some (Za7 ks rss), some (.int ((k : Int) + 1)), none, none, none] H) _
 unfold Zck
 (repeat fail "go")
 refine w_ref ?_
 (repeat fail "go")
 obtain ⟨H2, e2, x2⟩ := Yaa c hk hs H
 refine ⟨⟨rfl, by simp, by omega, by simp, by omega⟩, H2, e2, ?_⟩
 (repeat fail "go")
 exact q H2 x2
theorem Zm2 : ∀ n : Nat, [] ∈ Zf1 n
 | 0 => by simp [Zf1, lev]
 | n + 1 => List.mem_append.mpr (.inr (Zm2 n))
theorem Zo9 {p : Nat} {ks : List D} {rss : List (List Int)} {fz : Bool} (g : H[p]? = some (.dic ((Zf1 ks.length).map (kv ks rss)) fz)) (q : Q (Zap (W ks rss ks.length [])) H) : wE (Zd0 (.ref p) (.tup []) H) Q :=
 Zyp g (Zf8 []) (Zli (Zf1 ks.length) (Zm2 _)) q
theorem Zzs {p : Nat} {bs : List Bool} {b : Bool} (g : H[p]? = some (.lst (bs.map .bl))) (q : Q (.bl (bs.any (· == b))) H) : wE (inD (.bl b) (.ref p) H) Q := by
 have f : Fines (bs.map .bl) (bs.map .bool) 0 := by
  clear g q
  induction bs with
  | nil => exact .nil
  | cons x r ih => exact .cons (.bl x) ih
 refine w_inL (.bl b) f (by omega) (by omega) g ?_
 have e : (bs.map PyData.bool).any (fun z => PyData.eqv z (.bool b)) = bs.any (· == b) := by
  rw [List.any_map]
  congr 1
 rw [e]; exact q
theorem Zyd {p : Nat} {xs : List D} {k : Nat} (g : H[p]? = some (.lst xs)) (q : Q (.ref H.length) (H ++ [.lst (xs.take k)])) : wE (slD (.ref p) none (some (k : Int)) H) Q :=
 ⟨_, _, by rw [← Zql]; simp only [slD, g], q⟩
theorem Zzo {p : Nat} {xs : List D} {k : Nat} (g : H[p]? = some (.lst xs)) (q : Q (.ref H.length) (H ++ [.lst (xs.drop k)])) : wE (slD (.ref p) (some (k : Int)) none H) Q :=
 ⟨_, _, by rw [← Zt5]; simp only [slD, g], q⟩
theorem Zsz {i : Int} (q : Q (.bl true) H) : wE (Zdu [.int i] H) Q := by
 refine Zi5 rfl ?_
 show wS (Zdv [some (.int i)] H) _
 unfold Zdv
 (repeat fail "go")
 exact q
noncomputable def z50 : SF := (Zal (sIf (tOf (eOp neD (eOp ixD (eOp ixD (Zad 3) (eC (.int 0))) (eOp Ze0 (Zad 5) (eC (.int 1)))) (Zad 4))) (Zal (sIf (tOf (eOp neD (Zaj 2 Zcl (Zaa (Zad 3) (Zaa (Zad 5) Zai))) (eC (.str "won")))) (Zal (Zcc (eC (.bl false)))
 Zav) Zav)
 Zav) (Zal (Za0 6 (eLC (iR2 (Zaa (eC (.int 1)) (Zaa (eOp Zbd (Zad 5) (eC (.int 1))) Zai))) [3, 4, 5] Zel (eOp eqD (eOp Zd0 (Zaj 1 Za8 (Zaa (Zaj 3 Zcr (Zaa (Zad 1) (Zaa (Zad 3) (Zaa (Zad 0) Zai)))) Zai)) (Zd3 Zai)) (Zad 2))))
 (Zal (Za0 7 (Zaj 2 Zek (Zaa (Zad 3) (Zaa (Zad 5) Zai))))
 (Zal (sIf (Zrx (tNo (Zol (Zaj 1 Zdu (Zaa (Zad 7) Zai)))) (tNo (tOf (eCh leD leD (eC (.int 1)) (Zad 7) (Zad 5))))) (Zal (Zcc (eC (.bl false)))
 Zav) Zav)
 (Zal (sIf (Zrx (tOf (eOp inD (eC (.bl true)) (eSl (Zad 6) Zex (Zd9 (eOp Ze0 (Zad 7) (eC (.int 1))))))) (tOf (eOp inD (eC (.bl false)) (eSl (Zad 6) (Zd9 (eOp Ze0 (Zad 7) (eC (.int 1)))) Zex)))) (Zal (Zcc (eC (.bl false)))
 Zav) Zav)
 Zav)))))
 Zav)
theorem Zg0 (lo : Int) (m : Nat) : Za2 lo (m + 1) = .int lo :: Za2 (lo + 1) m := by
 unfold Za2
 rw [List.range_succ_eq_map, List.map_cons, List.map_map]
 have e0 : D.int (lo + ((0 : Nat) : Int)) = .int lo := by simp
 rw [e0]
 refine congrArg (List.cons _) (List.map_congr_left fun a _ => ?_)
 show D.int _ = D.int _
 congr 1
 omega
theorem Zx8 {ks : List D} {rss : List (List Int)} {k : Nat} {S : Bool} (c : Cl ks rss) (hl : rss.length ≤ 100) (hk : k < ks.length) {R : List D -> HD -> Prop} (q : ∀ H', Fm [] H H' -> R (((List.range (k + 1)).map fun i => Wm ks rss k i == S).map .bl) H') :
  wA (Zco [] [some (Za7 ks rss), some (Zap S), some (.int ((k : Int) + 1))] Zel (eOp eqD (eOp Zd0 (Zaj 1 Za8 (Zaa (Zaj 3 Zcr (Zaa (Zad 1) (Zaa (Zad 3) (Zaa (Zad 0) Zai)))) Zai)) (Zd3 Zai)) (Zad 2)) (Za2 1 (k + 1)) H) R := by
 have h8 := c.h8
 refine Zrk (fun d t o H' => t = Za2 ((d.length : Int) + 1) (k + 1 - d.length) ∧ d.length ≤ k + 1 ∧ o = ((List.range d.length).map fun i => Wm ks rss k i == S).map .bl ∧ Fm [] H H') (fun _ _ _ _ _ => Zt7) (fun d x t o H1 i => ?_) _ [] [] _ ⟨by simp, by simp, rfl, Fm.refl⟩ (fun d o H1 i => ?_)
 ·obtain ⟨i1, i2, i3, i4⟩ := i
  obtain ⟨j, hj⟩ : ∃ j, k + 1 - d.length = j + 1 := by
   cases h : k + 1 - d.length with
   | zero => rw [h] at i1; simp [Za2] at i1
   | succ j => exact ⟨j, rfl⟩
  rw [hj, Zg0] at i1
  obtain ⟨rfl, rfl⟩ := List.cons.inj i1
  (repeat fail "go")
  refine Zwh c hl (by omega) hk fun H2 x2 => ?_
  (repeat fail "go")
  refine Zkb (c.mv (by omega) hk) fun p H3 g3 l3 x3 => ?_
  (repeat fail "go")
  refine Zo9 g3 ?_
  (repeat fail "go")
  refine Zuq ?_
  rw [Zcd (by omega) hk]
  refine ⟨?_, by simp; omega, ?_, (i4.trans x2).trans x3⟩
  ·simp only [List.length_append, List.length_cons, List.length_nil]
   congr 1
   omega
  ·rw [i3, List.length_append, List.length_cons, List.length_nil, List.range_succ]
   simp [Wm]
 ·obtain ⟨i1, i2, i3, i4⟩ := i
  have hd : d.length = k + 1 := by
   cases h : k + 1 - d.length with
   | zero => omega
   | succ j => rw [h, Zg0] at i1; cases i1
  rw [List.nil_append] at i3
  rw [i3, hd]
  exact q H1 i4
theorem w_z50 {ks : List D} {rss : List (List Int)} {k : Nat} {a0 a1 a2 z6 z7 : Option D} {R : FD -> SD -> HD -> Prop} (c : Cl ks rss) (hl : rss.length ≤ 100) (hk : k < ks.length)
  (q : ∀ y6 y7 H', Fm [] H H' -> R .nx [a0, a1, a2, some (Za7 ks rss), some (Zap (W ks rss ks.length [])), some (.int ((k : Int) + 1)), y6, y7] H') :
  wS (z50 [a0, a1, a2, some (Za7 ks rss), some (Zap (W ks rss ks.length [])), some (.int ((k : Int) + 1)), z6, z7] H) R := by
 have h8 := c.h8
 unfold z50
 generalize hT : W ks rss ks.length [] = T at *
 (repeat fail "go"); (refine WP.w_if ?_; (repeat fail "go"))
 refine Zll c hk ?_
 (repeat fail "go")
 refine Zjc ?_
 refine w_bl ?_
 generalize hS : kS (ks.getD k .non) = S at *
 by_cases e : S = T
 ·subst e
  refine w_bF (by simp) ?_
  (repeat fail "go")
  refine ⟨_, _, rfl, ⟨by omega, by omega⟩, ⟨by omega, by omega⟩, ?_⟩
  rw [show ((k : Int) + 1 + 1 - 1).toNat = k + 1 by omega]
  show wA (Zco [] [some (Za7 ks rss), some (Zap S), some (.int ((k : Int) + 1))] Zel _ (Za2 1 (k + 1)) H) _
  refine Zx8 c hl hk fun H1 x1 => ?_
  refine ⟨by simp; omega, ?_⟩
  (repeat fail "go")
  refine Zn6 c hk (by rw [hS]; exact hT) fun P H2 hP up dn x2 => ?_
  rw [hS] at up dn
  have g2 := x2.lst (by simp) (last (H := H1) (o := .lst (((List.range (k + 1)).map fun i => Wm ks rss k i == S).map .bl)))
  (repeat fail "go"); (refine WP.w_if ?_; (repeat fail "go"))
  refine Zsz ?_
  (repeat fail "go")
  refine w_bT (by simp; omega) ?_
  (repeat fail "go")
  refine w_bF (by simp; omega) ?_
  (repeat fail "go"); (refine WP.w_if ?_; (repeat fail "go"))
  have e1 : (P : Int) + 1 - 1 = ((P : Nat) : Int) := by omega
  rw [e1]
  refine Zyd g2 ?_
  have tk : (((List.range (k + 1)).map fun i => Wm ks rss k i == S).map D.bl).take P = (((List.range (k + 1)).take P).map fun i => Wm ks rss k i == S).map .bl := by rw [← List.map_take, ← List.map_take]
  have dr : (((List.range (k + 1)).map fun i => Wm ks rss k i == S).map D.bl).drop P = (((List.range (k + 1)).drop P).map fun i => Wm ks rss k i == S).map .bl := by rw [← List.map_drop, ← List.map_drop]
  rw [tk]
  refine Zzs last ?_
  have n1 : (((List.range (k + 1)).take P).map fun i => Wm ks rss k i == S).any (· == true) = false := by
   rw [List.any_eq_false]
   intro b hb z
   obtain ⟨i, hi, rfl⟩ := List.mem_map.mp hb
   obtain ⟨j, hj, rfl⟩ := List.mem_take_iff_getElem.mp hi
   rw [List.getElem_range] at z
   exact dn j (by omega) (by simpa using z)
  rw [n1]
  (repeat fail "go")
  rw [e1]
  refine Zzo (appL g2) ?_
  rw [dr]
  refine Zzs last ?_
  have n2 : (((List.range (k + 1)).drop P).map fun i => Wm ks rss k i == S).any (· == false) = false := by
   rw [List.any_eq_false]
   intro b hb z
   obtain ⟨i, hi, rfl⟩ := List.mem_map.mp hb
   obtain ⟨j, hj, rfl⟩ := List.mem_drop_iff_getElem.mp hi
   rw [List.getElem_range] at z
   simp at hj
   have := up (P + j) (by omega) (by omega)
   rw [this] at z
   simp at z
  rw [n2]
  (repeat fail "go")
  exact q _ _ _ (((x1.trans (Fm.app _)).trans x2).trans ((Fm.app _).trans (Fm.app _)))
 ·refine w_bT (by simpa using e) ?_
  (repeat fail "go"); (refine WP.w_if ?_; (repeat fail "go"))
  refine Zpa c hk (by rw [hS]; exact fun z => e (z.symm.trans hT |>.symm ▸ rfl)) fun H1 x1 => ?_
  (repeat fail "go")
  exact q _ _ _ x1
theorem pure_law : ∀ ns : List Int, ns.length ≤ 63 -> ∃ Hd', Zny [.fl (ns.map .int)] [] = some (.bl true, Hd') := by
 intro ns hn
 suffices h : wE (Zny [.fl (ns.map .int)] []) fun d _ => d = .bl true by
  obtain ⟨d, H, e, rfl⟩ := h; exact ⟨H, e⟩
 refine Zi5 rfl ?_
 show wS (Zqe [some (.fl (ns.map .int)), none, none, none, none, none, none, none] []) _
 unfold Zqe
 (repeat fail "go")
 refine ⟨_, _, rfl, ⟨by decide, by decide⟩, ?_, ?_⟩
 ·simp only [Zcf, List.length_map]; split <;> (try split) <;> omega
 refine Zmm (fun σ _ => ∃ b1 b2 b3 b4 b5 b6 b7 : Option D, σ = [some (.fl (ns.map .int)), b1, b2, b3, b4, b5, b6, b7]) (fun _ _ _ => Zt7) _ (fun x hx σ H z => ?_) _ _ ⟨_, _, _, _, _, _, _, rfl⟩ fun σ H z => ?_
 ·obtain ⟨b1, b2, b3, b4, b5, b6, b7, e⟩ := z
  obtain ⟨i, rfl, i0, i1⟩ : ∃ i : Int, x = .int i ∧ 0 ≤ i ∧ i < 3 := by
   simp only [Za2, List.mem_map, List.mem_range] at hx
   obtain ⟨j, hj, rfl⟩ := hx
   refine ⟨_, rfl, by omega, ?_⟩
   simp only [List.length_map] at hj
   split at hj <;> (try split at hj) <;> omega
  clear hx
  subst e
  (repeat fail "go")
  refine Zz5 (by omega) (by omega) fun n H1 f1 _ x1 => ?_
  (repeat fail "go")
  refine Zvo f1 (by omega) (by omega) fun ks rss H2 c l1 l2 f2 x2 => ?_
  have h8 := c.h8
  refine w_kn (w_seq (Zyh (fun σ H' => ∃ rs, Cl ks rs ∧ rs.length ≤ 100 ∧ σ = [some (.fl (ns.map .int)), some (.int i), some (.ref n), some (Za7 ks rs), b4, b5, b6, b7]) ?_ ?_))
  ·(refine WP.w_if ?_; (repeat fail "go"))
   refine ⟨fun h => ?_, fun h => ?_⟩
   ·(repeat fail "go")
    refine Zym f2 (by omega) (by omega) fun r H3 r0 r1 f3 x3 => ?_
    (repeat fail "go")
    refine ⟨fun h => ?_, fun h => ?_⟩
    ·(repeat fail "go")
     refine Zz2 f3 c (by omega) fun rs H4 c4 l4 f4 x4 => ?_
     (repeat fail "go")
     exact ⟨rfl, rs, c4, by omega, rfl⟩
    ·(repeat fail "go")
     exact ⟨rfl, rss, c, by omega, rfl⟩
   ·(repeat fail "go")
    exact ⟨rfl, rss, c, by omega, rfl⟩
  rintro _ H3 ⟨rs, c3, l3, rfl⟩
  (repeat fail "go")
  refine Zkb c3 fun p H4 g4 _ x4 => ?_
  (repeat fail "go")
  refine Zo9 g4 ?_
  (repeat fail "go")
  refine ⟨_, _, rfl, ⟨by omega, by omega⟩, ⟨by omega, by omega⟩, ?_⟩
  rw [show ((ks.length : Int) + 1 - 1).toNat = ks.length by omega]
  refine Zmm (fun σ _ => ∃ b5 b6 b7 : Option D, σ = [some (.fl (ns.map .int)), some (.int i), some (.ref n), some (Za7 ks rs), some (Zap (W ks rs ks.length [])), b5, b6, b7]) (fun _ _ _ => Zt7) _ (fun x hx σ H z => ?_) _ _ ⟨_, _, _, rfl⟩ fun σ H z => ?_
  ·obtain ⟨b5, b6, b7, e⟩ := z
   subst e
   obtain ⟨k, rfl, hk⟩ : ∃ k : Nat, x = .int ((k : Int) + 1) ∧ k < ks.length := by
    simp only [Za2, List.mem_map, List.mem_range] at hx
    obtain ⟨j, hj, rfl⟩ := hx
    exact ⟨j, by congr 1; omega, hj⟩
   clear hx
   refine w_gnm ?_
   show wS (z50 [some (.fl (ns.map .int)), some (.int i), some (.ref n), some (Za7 ks rs), some (Zap (W ks rs ks.length [])), some (.int ((k : Int) + 1)), b6, b7] H) _
   refine w_z50 c3 l3 hk fun y6 y7 H' x' => ?_
   exact w_agn ⟨_, _, _, rfl⟩
  ·obtain ⟨b5, b6, b7, e⟩ := z
   subst e
   (repeat fail "go")
   exact ⟨_, _, _, _, _, _, _, rfl⟩
 ·obtain ⟨b1, b2, b3, b4, b5, b6, b7, e⟩ := z
  subst e
  (repeat fail "go")
  rfl
end K08
set_option maxHeartbeats 8000000
namespace K08
open PySem PySem.Spec PyProof.Rows L2 DL
noncomputable def top (i : Nat) : Stmt := PySem.Challenge.pw_allsome_k50_how_early.main.body.getD i (.Pass ⟨0, 0, 0, 0⟩)
noncomputable abbrev s_first_numbers : Stmt := top 12
theorem Zcb : FnScope ["rows", "told", "number", "row"] ["rows"] (Zak s_first_numbers) := ⟨rfl, rfl, rfl, by decide +kernel, rfl, by decide +kernel, by decide +kernel⟩
noncomputable abbrev s_rows_behind : Stmt := top 13
theorem Zb9 : FnScope ["rows", "name", "truth", "right", "told", "row", "first"] ["rows", "name", "truth"] (Zak s_rows_behind) := ⟨rfl, rfl, rfl, by decide +kernel, rfl, by decide +kernel, by decide +kernel⟩
noncomputable abbrev s_rows_behind_play : Stmt := top 14
theorem Zba : FnScope ["rows", "play", "told", "name", "truth"] ["rows", "play"] (Zak s_rows_behind_play) := ⟨rfl, rfl, rfl, by decide +kernel, rfl, by decide +kernel, by decide +kernel⟩
noncomputable abbrev s_other_side : Stmt := top 15
theorem Zjn : FnScope ["side"] ["side"] (Zak s_other_side) := ⟨rfl, rfl, rfl, by decide +kernel, rfl, by decide +kernel, by decide +kernel⟩
noncomputable abbrev s_winner_behind : Stmt := top 16
theorem Zda : FnScope ["kinds", "rows", "many", "who", "truth"] ["kinds", "rows", "many"] (Zak s_winner_behind) := ⟨rfl, rfl, rfl, by decide +kernel, rfl, by decide +kernel, by decide +kernel⟩
noncomputable abbrev s_winner : Stmt := top 17
theorem Zrj : FnScope ["claim", "play"] ["claim", "play"] (Zak s_winner) := ⟨rfl, rfl, rfl, by decide +kernel, rfl, by decide +kernel, by decide +kernel⟩
noncomputable abbrev s_name_moved : Stmt := top 19
theorem Ziy : FnScope ["name", "k", "q"] ["name", "k", "q"] (Zak s_name_moved) := ⟨rfl, rfl, rfl, by decide +kernel, rfl, by decide +kernel, by decide +kernel⟩
noncomputable abbrev s_literal_moved : Stmt := top 20
theorem Zet : FnScope ["literal", "k", "q", "name"] ["literal", "k", "q"] (Zak s_literal_moved) := ⟨rfl, rfl, rfl, by decide +kernel, rfl, by decide +kernel, by decide +kernel⟩
noncomputable abbrev s_row_moved : Stmt := top 21
theorem Zkn : FnScope ["row", "k", "q"] ["row", "k", "q"] (Zak s_row_moved) := ⟨rfl, rfl, rfl, by decide +kernel, rfl, by decide +kernel, by decide +kernel⟩
noncomputable abbrev s_moved : Stmt := top 22
theorem Zi9 : FnScope ["claim", "k", "q", "kinds", "places"] ["claim", "k", "q"] (Zak s_moved) := ⟨rfl, rfl, rfl, by decide +kernel, rfl, by decide +kernel, by decide +kernel⟩
noncomputable abbrev s_earliest : Stmt := top 23
theorem Zcx : FnScope ["claim", "k", "side", "place"] ["claim", "k"] (Zak s_earliest) := ⟨rfl, rfl, rfl, by decide +kernel, rfl, by decide +kernel, by decide +kernel⟩
noncomputable abbrev s_law_feed : Stmt := top 25
theorem Zcv : FnScope ["script", "k", "cell", "digits", "start"] ["script", "k"] (Zak s_law_feed) := ⟨rfl, rfl, rfl, by decide +kernel, rfl, by decide +kernel, by decide +kernel⟩
noncomputable abbrev s_law_take : Stmt := top 26
theorem Zht : FnScope ["feed", "many", "found"] ["feed", "many"] (Zak s_law_take) := ⟨rfl, rfl, rfl, by decide +kernel, rfl, by decide +kernel, by decide +kernel⟩
noncomputable abbrev s_law_pick : Stmt := top 27
theorem Zls : FnScope ["feed", "some"] ["feed", "some"] (Zak s_law_pick) := ⟨rfl, rfl, rfl, by decide +kernel, rfl, by decide +kernel, by decide +kernel⟩
noncomputable abbrev s_law_whole : Stmt := top 28
theorem Zke : FnScope ["found"] ["found"] (Zak s_law_whole) := ⟨rfl, rfl, rfl, by decide +kernel, rfl, by decide +kernel, by decide +kernel⟩
noncomputable abbrev s_law_row : Stmt := top 29
theorem Zdo : FnScope ["feed", "many", "sizes", "size", "names", "found", "turn"] ["feed", "many"] (Zak s_law_row) := ⟨rfl, rfl, rfl, by decide +kernel, rfl, by decide +kernel, by decide +kernel⟩
noncomputable abbrev s_law_wide : Stmt := top 30
theorem Zhm : FnScope ["feed", "claim", "many"] ["feed", "claim"] (Zak s_law_wide) := ⟨rfl, rfl, rfl, by decide +kernel, rfl, by decide +kernel, by decide +kernel⟩
noncomputable abbrev s_law_claim : Stmt := top 31
theorem Zbx : FnScope ["feed", "most", "rows", "many", "way", "kinds", "size", "found"] ["feed", "most", "rows"] (Zak s_law_claim) := ⟨rfl, rfl, rfl, by decide +kernel, rfl, by decide +kernel, by decide +kernel⟩
noncomputable abbrev s_law_kept : Stmt := top 32
theorem Zhv : FnScope ["row", "play", "literal"] ["row", "play"] (Zak s_law_kept) := ⟨rfl, rfl, rfl, by decide +kernel, rfl, by decide +kernel, by decide +kernel⟩
noncomputable abbrev s_law_plays : Stmt := top 33
theorem Zbh : FnScope ["many", "found", "turn", "plays", "some", "longer", "play"] ["many"] (Zak s_law_plays) := ⟨rfl, rfl, rfl, by decide +kernel, rfl, by decide +kernel, by decide +kernel⟩
noncomputable abbrev s_law_winners : Stmt := top 34
theorem Zb8 : FnScope ["claim", "found", "play", "side", "two"] ["claim"] (Zak s_law_winners) := ⟨rfl, rfl, rfl, by decide +kernel, rfl, by decide +kernel, by decide +kernel⟩
noncomputable abbrev s_law_moved : Stmt := top 35
theorem Zch : FnScope ["claim", "k", "q", "order", "new", "rows", "row", "some"] ["claim", "k", "q"] (Zak s_law_moved) := ⟨rfl, rfl, rfl, by decide +kernel, rfl, by decide +kernel, by decide +kernel⟩
noncomputable abbrev s_law_refused : Stmt := top 36
theorem Zd8 : FnScope ["claim", "k", "word", "e", "others"] ["claim", "k"] (Zak s_law_refused) := ⟨rfl, rfl, rfl, by decide +kernel, rfl, by decide +kernel, by decide +kernel⟩
noncomputable abbrev s_law : Stmt := top 37
theorem Zfp : FnScope ["script", "k", "feed", "claim", "side", "name", "wins", "found"] ["script"] (Zak s_law) := ⟨rfl, rfl, rfl, by decide +kernel, rfl, by decide +kernel, by decide +kernel⟩
structure Top (K : PySem.W.Frag) (mg : Str -> Option Value) : Prop where
 t_first_numbers : Tf K mg "first_numbers" s_first_numbers
 t_rows_behind : Tf K mg "rows_behind" s_rows_behind
 t_rows_behind_play : Tf K mg "rows_behind_play" s_rows_behind_play
 t_other_side : Tf K mg "other_side" s_other_side
 t_winner_behind : Tf K mg "winner_behind" s_winner_behind
 t_winner : Tf K mg "winner" s_winner
 t_name_moved : Tf K mg "name_moved" s_name_moved
 t_literal_moved : Tf K mg "literal_moved" s_literal_moved
 t_row_moved : Tf K mg "row_moved" s_row_moved
 t_moved : Tf K mg "moved" s_moved
 t_earliest : Tf K mg "earliest" s_earliest
 t_law_feed : Tf K mg "_law_feed" s_law_feed
 t_law_take : Tf K mg "_law_take" s_law_take
 t_law_pick : Tf K mg "_law_pick" s_law_pick
 t_law_whole : Tf K mg "_law_whole" s_law_whole
 t_law_row : Tf K mg "_law_row" s_law_row
 t_law_wide : Tf K mg "_law_wide" s_law_wide
 t_law_claim : Tf K mg "_law_claim" s_law_claim
 t_law_kept : Tf K mg "_law_kept" s_law_kept
 t_law_plays : Tf K mg "_law_plays" s_law_plays
 t_law_winners : Tf K mg "_law_winners" s_law_winners
 t_law_moved : Tf K mg "_law_moved" s_law_moved
 t_law_refused : Tf K mg "_law_refused" s_law_refused
 t_law : Tf K mg "law" s_law
 n_ValueError : mg "ValueError" = none
 n_abs : mg "abs" = none
 n_bool : mg "bool" = none
 n_dict : mg "dict" = none
 n_enumerate : mg "enumerate" = none
 n_int : mg "int" = none
 n_isinstance : mg "isinstance" = none
 n_len : mg "len" = none
 n_list : mg "list" = none
 n_max : mg "max" = none
 n_min : mg "min" = none
 n_range : mg "range" = none
 n_reversed : mg "reversed" = none
 n_sorted : mg "sorted" = none
 n_tuple : mg "tuple" = none
 c_TRUTHS : Gc K mg "TRUTHS" k_TRUTHS
 r_NotWon : ∃ C cV c0 c1 c2 c3 c4 c5 c6, Refu K mg "NotWon" "ClaimError" C cV [c0, c1, c2, c3, c4, c5, c6] ∧ mg "NoBack" = some (.ref c0) ∧ mg "NoLine" = some (.ref c1) ∧ mg "NoPick" = some (.ref c2) ∧ mg "NoRow" = some (.ref c3) ∧ mg "NoStep" = some (.ref c4) ∧ mg "NoText" = some (.ref c5) ∧ mg "TooMany" = some (.ref c6)
section
variable {P : Program} {w : World} {K : PySem.W.Frag} {mg : Str -> Option Value} {base : Heap}
theorem Zgh (T : Top K mg) : Fn P w K mg base 1 "first_numbers" ["rows"] Zbw := by
 refine (fun h => h : _ → Fn P w K mg base 1 "first_numbers" ["rows"] (Zb7 1 4 Zb2)) (Zc5 (N := ["rows", "told", "number", "row"]) (k := 0) T.t_first_numbers Zcb (fun _ _ _ _ _ _ us hl => by obtain ⟨_, rfl⟩ := us1 hl; rfl) ?_)
 intro f cdv A outer s H E hr
 unfold Zb2
 refine Zac ?_ ?_
 refine Zar (i := 1) ?_ ?_ ?_ Zji
 exact Zcb.nd
 rfl
 first | exact Or.inl rfl | exact Or.inr rfl
 refine Zac ?_ ?_
 refine Zcu PassesOwn.never ?_ ?_ ?_ ?_
 rfl
 refine Zsi ?_ T.n_enumerate ?_
 rfl
 refine Zag ?_ ?_ ?_
 exact (Zab (pv 0))
 exact Zae
 rfl
 refine Zot ?_ ?_
 rfl
 refine Zfq ?_ ?_
 refine Zbo (i := 2) ?_ ?_ ?_
 exact Zcb.nd
 rfl
 first | exact Or.inl rfl | exact Or.inr rfl
 refine Zfq ?_ Zmu
 refine Zbo (i := 3) ?_ ?_ ?_
 exact Zcb.nd
 rfl
 first | exact Or.inl rfl | exact Or.inr rfl
 refine Zac ?_ Zah
 refine Zd6 ?_
 refine Zp2 PySem.F.slot_dict_setdefault PySem.F.type_dict_setdefault (Zva hr.units) (Zab (pv 1)) ?_
 refine Zag ?_ ?_ ?_
 exact (Zab (pv 3))
 refine Zag ?_ ?_ ?_
 exact (Zab (pv 2))
 exact Zae
 rfl
 rfl
 refine Zac ?_ Zah
 exact Zaw (Zab (pv 1))
theorem Zh3 (T : Top K mg) : Fn P w K mg base 1 "rows_behind" ["rows", "name", "truth"] Zaz := by
 refine (fun h => h : _ → Fn P w K mg base 1 "rows_behind" ["rows", "name", "truth"] (Zb7 3 7 Zcm)) (Zc5 (N := ["rows", "name", "truth", "right", "told", "row", "first"]) (k := 0) T.t_rows_behind Zb9 (fun _ _ _ _ _ _ us hl => by obtain ⟨_, _, _, rfl⟩ := us3 hl; rfl) ?_)
 intro f cdv A outer s H E hr
 unfold Zcm
 refine Zac ?_ ?_
 refine Zar (i := 3) ?_ ?_ ?_ ?_
 exact Zb9.nd
 rfl
 first | exact Or.inl rfl | exact Or.inr rfl
 refine Zib ?_ (Zab (pv 1)) ?_
 exact Zgv (Zab (pv 2)) (fun _ => rfl)
 exact Zic Zf5 (Zab (pv 1))
 refine Zac ?_ ?_
 refine Zar (i := 4) ?_ ?_ ?_ Zji
 exact Zb9.nd
 rfl
 first | exact Or.inl rfl | exact Or.inr rfl
 refine Zac ?_ ?_
 refine Zcu PassesOwn.never ?_ ?_ ?_ ?_
 rfl
 exact Zwo (Zab (pv 0))
 refine Zbo (i := 5) ?_ ?_ ?_
 exact Zb9.nd
 rfl
 first | exact Or.inl rfl | exact Or.inr rfl
 refine Zac ?_ ?_
 refine Zar (i := 6) ?_ ?_ ?_ ?_
 exact Zb9.nd
 rfl
 first | exact Or.inl rfl | exact Or.inr rfl
 refine Zib ?_ ?_ Zaf
 exact Zgv (Zab (pv 5)) (fun _ => rfl)
 exact Zau ixf (Zab (pv 5)) Zaf (fun _ _ => rfl)
 refine Zac ?_ Zah
 refine Zcg ?_ ?_ ?_
 refine Za5 (Zed hr.units) (Zab (pv 6)) ?_ (Zbc _)
 exact Zic Zf5 (Zab (pv 3))
 refine Zac ?_ Zah
 refine Zd6 ?_
 refine Zp2 PySem.F.slot_dict_setdefault PySem.F.type_dict_setdefault (Zva hr.units) (Zab (pv 4)) ?_
 refine Zag ?_ ?_ ?_
 refine Zc4 (Zab (pv 5)) ?_ Zeq
 exact Zdf Zaf
 refine Zag ?_ ?_ ?_
 exact Zau (Zn9 hr.units) (Zab (pv 0)) (Zab (pv 5)) (fun _ _ => rfl)
 exact Zae
 rfl
 rfl
 refine Zac ?_ Zah
 refine Zcg ?_ ?_ Zah
 exact Za5 (Zhe hr.units) (Zab (pv 6)) (Zab (pv 3)) (Zbc _)
 refine Zac ?_ Zah
 refine Zd6 ?_
 refine Zp2 PySem.F.slot_dict_setdefault PySem.F.type_dict_setdefault (Zva hr.units) (Zab (pv 4)) ?_
 refine Zag ?_ ?_ ?_
 exact (Zab (pv 5))
 refine Zag ?_ ?_ ?_
 exact Zau (Zn9 hr.units) (Zab (pv 0)) (Zab (pv 5)) (fun _ _ => rfl)
 exact Zae
 rfl
 rfl
 refine Zac ?_ Zah
 exact Zaw (Zab (pv 4))
theorem Zfc (T : Top K mg) (F_rows_behind : Fn P w K mg base 1 "rows_behind" ["rows", "name", "truth"] Zaz) (F_first_numbers : Fn P w K mg base 1 "first_numbers" ["rows"] Zbw) : Fn P w K mg base 2 "rows_behind_play" ["rows", "play"] Zbf := by
 refine (fun h => h : _ → Fn P w K mg base 2 "rows_behind_play" ["rows", "play"] (Zb7 2 5 Zbi)) (Zc5 (N := ["rows", "play", "told", "name", "truth"]) (k := 1) T.t_rows_behind_play Zba (fun _ _ _ _ _ _ us hl => by obtain ⟨_, _, rfl⟩ := us2 hl; rfl) ?_)
 intro f cdv A outer s H E hr
 unfold Zbi
 refine Zac ?_ ?_
 refine Zar (i := 2) ?_ ?_ ?_ ?_
 exact Zba.nd
 rfl
 first | exact Or.inl rfl | exact Or.inr rfl
 refine Zax F_first_numbers (hr.mono (by decide)) ?_ ?_
 rfl
 refine Zag ?_ ?_ ?_
 exact (Zab (pv 0))
 exact Zae
 rfl
 refine Zac ?_ ?_
 refine Zcu PassesOwn.never ?_ ?_ ?_ ?_
 rfl
 refine Zp8 ?_ T.n_enumerate ?_
 rfl
 refine Zag ?_ ?_ ?_
 exact (Zab (pv 1))
 exact Zae
 rfl
 refine Zot ?_ ?_
 rfl
 refine Zfq ?_ ?_
 refine Zbo (i := 3) ?_ ?_ ?_
 exact Zba.nd
 rfl
 first | exact Or.inl rfl | exact Or.inr rfl
 refine Zfq ?_ Zmu
 refine Zbo (i := 4) ?_ ?_ ?_
 exact Zba.nd
 rfl
 first | exact Or.inl rfl | exact Or.inr rfl
 refine Zac ?_ Zah
 refine Zar (i := 2) ?_ ?_ ?_ ?_
 exact Zba.nd
 rfl
 first | exact Or.inl rfl | exact Or.inr rfl
 refine Zax F_rows_behind (hr.mono (by decide)) ?_ ?_
 rfl
 refine Zag ?_ ?_ ?_
 exact (Zab (pv 2))
 refine Zag ?_ ?_ ?_
 exact (Zab (pv 3))
 refine Zag ?_ ?_ ?_
 exact (Zab (pv 4))
 exact Zae
 rfl
 rfl
 rfl
 refine Zac ?_ Zah
 exact Zaw (Zab (pv 2))
theorem Zjd (T : Top K mg) : Fn P w K mg base 1 "other_side" ["side"] Zb0 := by
 refine (fun h => h : _ → Fn P w K mg base 1 "other_side" ["side"] (Zb7 1 1 Zc3)) (Zc5 (N := ["side"]) (k := 0) T.t_other_side Zjn (fun _ _ _ _ _ _ us hl => by obtain ⟨_, rfl⟩ := us1 hl; rfl) ?_)
 intro f cdv A outer s H E hr
 unfold Zc3
 refine Zac ?_ Zah
 refine Zaw ?_
 refine Zib ?_ Zcy Zcy
 exact Za5 (Zed hr.units) (Zab (pv 0)) Zcy (Zbc _)
theorem Zgi (T : Top K mg) (F_other_side : Fn P w K mg base 1 "other_side" ["side"] Zb0) (F_rows_behind : Fn P w K mg base 1 "rows_behind" ["rows", "name", "truth"] Zaz) : Fn P w K mg base 12 "winner_behind" ["kinds", "rows", "many"] Zbt := by
 refine (fun h => h : _ → Fn P w K mg base 12 "winner_behind" ["kinds", "rows", "many"] (Zw7 3 5 Zay 10)) (Zuw (N := ["kinds", "rows", "many", "who", "truth"]) (k := 1) T.t_winner_behind Zda (fun _ _ _ _ _ _ us hl => by obtain ⟨_, _, _, rfl⟩ := us3 hl; rfl) ?_ 10)
 intro F j G f cdv A outer s H E hr
 unfold Zay
 refine Zac ?_ ?_
 refine Zcg ?_ ?_ Zah
 refine Za5 (dinf hr.units) ?_ (Zab (pv 1)) ?_
 exact Zbr Zae
 with_unfolding_all rfl
 refine Zac ?_ Zah
 exact Zaw Zcy
 refine Zac ?_ ?_
 refine Zcg ?_ ?_ Zah
 refine Za5 (Zed hr.units) ?_ Zaf (Zbc _)
 refine Zat Zoc ?_ T.n_len Zd2 ?_
 rfl
 refine Zag ?_ ?_ ?_
 exact (Zab (pv 1))
 exact Zae
 rfl
 refine Zac ?_ Zah
 exact Zaw Zcy
 refine Zac ?_ ?_
 refine Zar (i := 3) ?_ ?_ ?_ ?_
 exact Zda.nd
 rfl
 first | exact Or.inl rfl | exact Or.inr rfl
 exact Zau ixf (Zab (pv 0)) (Zab (pv 2)) (fun _ _ => rfl)
 refine Zac ?_ ?_
 refine Zcu PassesOwn.never ?_ ?_ ?_ ?_
 rfl
 refine Zdw ?_
 refine Zx3 ?_ T.c_TRUTHS
 rfl
 refine Zbo (i := 4) ?_ ?_ ?_
 exact Zda.nd
 rfl
 first | exact Or.inl rfl | exact Or.inr rfl
 refine Zac ?_ Zah
 refine Zcg ?_ ?_ Zah
 refine Za5 (Zed hr.units) ?_ (Zab (pv 3)) (Zbc _)
 refine Zax G (hr.mono (Nat.le_refl _)) ?_ ?_
 rfl
 refine Zag ?_ ?_ ?_
 exact (Zab (pv 0))
 refine Zag ?_ ?_ ?_
 refine Zax F_rows_behind (hr.mono (by omega)) ?_ ?_
 rfl
 refine Zag ?_ ?_ ?_
 exact (Zab (pv 1))
 refine Zag ?_ ?_ ?_
 exact Zam Za6 (Zab (pv 2)) Zaf
 refine Zag ?_ ?_ ?_
 exact (Zab (pv 4))
 exact Zae
 rfl
 rfl
 rfl
 refine Zag ?_ ?_ ?_
 exact Zam Za6 (Zab (pv 2)) Zaf
 exact Zae
 rfl
 rfl
 rfl
 refine Zac ?_ Zah
 exact Zaw (Zab (pv 3))
 refine Zac ?_ Zah
 refine Zaw ?_
 refine Zax F_other_side (hr.mono (by omega)) ?_ ?_
 rfl
 refine Zag ?_ ?_ ?_
 exact (Zab (pv 3))
 exact Zae
 rfl
theorem Zpt (T : Top K mg) (F_winner_behind : Fn P w K mg base 12 "winner_behind" ["kinds", "rows", "many"] Zbt) (F_rows_behind_play : Fn P w K mg base 2 "rows_behind_play" ["rows", "play"] Zbf) : Fn P w K mg base 13 "winner" ["claim", "play"] Zcz := by
 refine (fun h => h : _ → Fn P w K mg base 13 "winner" ["claim", "play"] (Zb7 2 2 Zft)) (Zc5 (N := ["claim", "play"]) (k := 12) T.t_winner Zrj (fun _ _ _ _ _ _ us hl => by obtain ⟨_, _, rfl⟩ := us2 hl; rfl) ?_)
 intro f cdv A outer s H E hr
 unfold Zft
 refine Zac ?_ Zah
 refine Zaw ?_
 refine Zax F_winner_behind (hr.mono (by decide)) ?_ ?_
 rfl
 refine Zag ?_ ?_ ?_
 exact Zau ixf (Zab (pv 0)) Zaf (fun _ _ => rfl)
 refine Zag ?_ ?_ ?_
 refine Zax F_rows_behind_play (hr.mono (by decide)) ?_ ?_
 rfl
 refine Zag ?_ ?_ ?_
 exact Zau ixf (Zab (pv 0)) Zaf (fun _ _ => rfl)
 refine Zag ?_ ?_ ?_
 exact (Zab (pv 1))
 exact Zae
 rfl
 rfl
 refine Zag ?_ ?_ ?_
 refine Zat Zbl ?_ T.n_len Zd2 ?_
 rfl
 refine Zag ?_ ?_ ?_
 exact (Zab (pv 1))
 exact Zae
 rfl
 exact Zae
 rfl
 rfl
 rfl
theorem Zjl (T : Top K mg) : Fn P w K mg base 1 "name_moved" ["name", "k", "q"] Zd5 := by
 refine (fun h => h : _ → Fn P w K mg base 1 "name_moved" ["name", "k", "q"] (Zb7 3 3 Zc2)) (Zc5 (N := ["name", "k", "q"]) (k := 0) T.t_name_moved Ziy (fun _ _ _ _ _ _ us hl => by obtain ⟨_, _, _, rfl⟩ := us3 hl; rfl) ?_)
 intro f cdv A outer s H E hr
 unfold Zc2
 refine Zac ?_ ?_
 refine Zcg ?_ ?_ Zah
 exact Za5 (Zed hr.units) (Zab (pv 0)) (Zab (pv 1)) (Zbc _)
 refine Zac ?_ Zah
 exact Zaw (Zab (pv 2))
 refine Zac ?_ Zah
 refine Zaw ?_
 refine Zib ?_ ?_ (Zab (pv 0))
 refine Zk3 Zmq Zrn (Zab (pv 2)) (Zab (pv 0)) (Zab (pv 1)) ?_
 with_unfolding_all rfl
 exact Zam Za6 (Zab (pv 0)) Zaf
theorem Zgj (T : Top K mg) (F_name_moved : Fn P w K mg base 1 "name_moved" ["name", "k", "q"] Zd5) : Fn P w K mg base 2 "literal_moved" ["literal", "k", "q"] Zci := by
 refine (fun h => h : _ → Fn P w K mg base 2 "literal_moved" ["literal", "k", "q"] (Zb7 3 4 Zb1)) (Zc5 (N := ["literal", "k", "q", "name"]) (k := 1) T.t_literal_moved Zet (fun _ _ _ _ _ _ us hl => by obtain ⟨_, _, _, rfl⟩ := us3 hl; rfl) ?_)
 intro f cdv A outer s H E hr
 unfold Zb1
 refine Zac ?_ ?_
 refine Zar (i := 3) ?_ ?_ ?_ ?_
 exact Zet.nd
 rfl
 first | exact Or.inl rfl | exact Or.inr rfl
 refine Zax F_name_moved (hr.mono (by decide)) ?_ ?_
 rfl
 refine Zag ?_ ?_ ?_
 refine Zat Zfv ?_ T.n_abs Zj7 ?_
 rfl
 refine Zag ?_ ?_ ?_
 exact (Zab (pv 0))
 exact Zae
 rfl
 refine Zag ?_ ?_ ?_
 exact (Zab (pv 1))
 refine Zag ?_ ?_ ?_
 exact (Zab (pv 2))
 exact Zae
 rfl
 rfl
 rfl
 refine Zac ?_ Zah
 refine Zaw ?_
 refine Zib ?_ (Zab (pv 3)) ?_
 exact Za5 Zii (Zab (pv 0)) Zaf (Zbc _)
 exact Zic Zf5 (Zab (pv 3))
theorem Zks (T : Top K mg) (F_literal_moved : Fn P w K mg base 2 "literal_moved" ["literal", "k", "q"] Zci) : Fn P w K mg base 3 "row_moved" ["row", "k", "q"] Zeo := by
 refine (fun h => h : _ → Fn P w K mg base 3 "row_moved" ["row", "k", "q"] (Zb7 3 3 Zdr)) (Zc5 (N := ["row", "k", "q"]) (k := 2) T.t_row_moved Zkn (fun _ _ _ _ _ _ us hl => by obtain ⟨_, _, _, rfl⟩ := us3 hl; rfl) ?_)
 intro f cdv A outer s H E hr
 unfold Zdr
 refine Zac ?_ Zah
 refine Zaw ?_
 refine Za9 Zbp ?_ T.n_tuple Zdh ?_
 rfl
 refine Zag ?_ ?_ ?_
 refine Zk2 ?_ T.n_sorted ?_ T.n_abs ?_
 rfl
 rfl
 refine Zag ?_ ?_ ?_
 refine Ziq (cn := ["k", "q"]) ?_ (Zew (x := "literal") (cn := ["k", "q"]) (ci := [1, 2]) (by decide +kernel)) ?_ ?_ ?_
 rfl
 exact Zdw (Zab (pv 0))
 intro _ _ _ _ _ _
 exact Zca
 intro _ _ _ _ _ _
 refine Zax F_literal_moved (hr.mono (by decide)) ?_ ?_
 rfl
 refine Zag ?_ ?_ ?_
 exact (Zab (pv 0))
 refine Zag ?_ ?_ ?_
 exact (Zab (pv 1))
 refine Zag ?_ ?_ ?_
 exact (Zab (pv 2))
 exact Zae
 rfl
 rfl
 rfl
 exact Zae
 rfl
 exact Zae
 rfl
theorem Zs7 (T : Top K mg) (F_row_moved : Fn P w K mg base 3 "row_moved" ["row", "k", "q"] Zeo) : Fn P w K mg base 4 "moved" ["claim", "k", "q"] Zi7 := by
 refine (fun h => h : _ → Fn P w K mg base 4 "moved" ["claim", "k", "q"] (Zb7 3 5 Zg4)) (Zc5 (N := ["claim", "k", "q", "kinds", "places"]) (k := 3) T.t_moved Zi9 (fun _ _ _ _ _ _ us hl => by obtain ⟨_, _, _, rfl⟩ := us3 hl; rfl) ?_)
 intro f cdv A outer s H E hr
 unfold Zg4
 refine Zac ?_ ?_
 refine Zar (i := 3) ?_ ?_ ?_ ?_
 exact Zi9.nd
 rfl
 first | exact Or.inl rfl | exact Or.inr rfl
 exact Zau ixf (Zab (pv 0)) Zaf (fun _ _ => rfl)
 refine Zac ?_ ?_
 refine Zar (i := 4) ?_ ?_ ?_ ?_
 exact Zi9.nd
 rfl
 first | exact Or.inl rfl | exact Or.inr rfl
 refine Zam Za6 ?_ ?_
 refine Zam Za6 ?_ ?_
 refine Zam Za6 ?_ ?_
 refine Zc4 (Zab (pv 3)) Zeq ?_
 refine Zdf ?_
 exact Zam Zbu (Zab (pv 2)) Zaf
 refine Zbr ?_
 refine Zag ?_ ?_ ?_
 refine Zau ixf (Zab (pv 3)) ?_ (fun _ _ => rfl)
 exact Zam Zbu (Zab (pv 1)) Zaf
 exact Zae
 rfl
 refine Zc4 (Zab (pv 3)) ?_ ?_
 refine Zdf ?_
 exact Zam Zbu (Zab (pv 2)) Zaf
 refine Zdf ?_
 exact Zam Zbu (Zab (pv 1)) Zaf
 refine Zc4 (Zab (pv 3)) ?_ Zeq
 exact Zdf (Zab (pv 1))
 refine Zac ?_ Zah
 refine Zaw ?_
 refine Zbr ?_
 refine Zag ?_ ?_ ?_
 exact (Zab (pv 4))
 refine Zag ?_ ?_ ?_
 refine Za9 Zbp ?_ T.n_tuple Zdh ?_
 rfl
 refine Zag ?_ ?_ ?_
 refine Ziq (cn := ["k", "q"]) ?_ (Zew (x := "row") (cn := ["k", "q"]) (ci := [1, 2]) (by decide +kernel)) ?_ ?_ ?_
 rfl
 refine Zdw ?_
 exact Zau ixf (Zab (pv 0)) Zaf (fun _ _ => rfl)
 intro _ _ _ _ _ _
 exact Zca
 intro _ _ _ _ _ _
 refine Zax F_row_moved (hr.mono (by decide)) ?_ ?_
 rfl
 refine Zag ?_ ?_ ?_
 exact (Zab (pv 0))
 refine Zag ?_ ?_ ?_
 exact (Zab (pv 1))
 refine Zag ?_ ?_ ?_
 exact (Zab (pv 2))
 exact Zae
 rfl
 rfl
 rfl
 exact Zae
 rfl
 exact Zae
 rfl
 rfl
theorem Zlv (T : Top K mg) (F_winner : Fn P w K mg base 13 "winner" ["claim", "play"] Zcz) (F_moved : Fn P w K mg base 4 "moved" ["claim", "k", "q"] Zi7) : Fn P w K mg base 14 "earliest" ["claim", "k"] Zek := by
 refine (fun h => h : _ → Fn P w K mg base 14 "earliest" ["claim", "k"] (Zb7 2 4 Zec)) (Zc5 (N := ["claim", "k", "side", "place"]) (k := 13) T.t_earliest Zcx (fun _ _ _ _ _ _ us hl => by obtain ⟨_, _, rfl⟩ := us2 hl; rfl) ?_)
 intro f cdv A outer s H E hr
 unfold Zec
 refine Zac ?_ ?_
 refine Zar (i := 2) ?_ ?_ ?_ ?_
 exact Zcx.nd
 rfl
 first | exact Or.inl rfl | exact Or.inr rfl
 refine Zau ixf ?_ ?_ (fun _ _ => rfl)
 exact Zau ixf (Zab (pv 0)) Zaf (fun _ _ => rfl)
 exact Zam Zbu (Zab (pv 1)) Zaf
 refine Zac ?_ ?_
 refine Zcg ?_ ?_ Zah
 refine Za5 (Zhe hr.units) ?_ (Zab (pv 2)) (Zbc _)
 refine Zax F_winner (hr.mono (by decide)) ?_ ?_
 rfl
 refine Zag ?_ ?_ ?_
 exact (Zab (pv 0))
 refine Zag ?_ ?_ ?_
 exact Zbr Zae
 exact Zae
 rfl
 rfl
 exact Zac Zv3 Zah
 refine Zac ?_ ?_
 refine Zar (i := 3) ?_ ?_ ?_ (Zab (pv 1))
 exact Zcx.nd
 rfl
 first | exact Or.inl rfl | exact Or.inr rfl
 refine Zac ?_ ?_
 refine Zpn PassesOwn.never ?_ ?_
 refine PWf.pt ?_
 refine Zi0 ?_ ?_
 exact Za5 Zii (Zab (pv 3)) Zaf (Zbc _)
 refine Zgq ?_
 refine Za5 (Zed hr.units) ?_ (Zab (pv 2)) (Zbc _)
 refine Zax F_winner (hr.mono (by decide)) ?_ ?_
 rfl
 refine Zag ?_ ?_ ?_
 refine Zax F_moved (hr.mono (by decide)) ?_ ?_
 rfl
 refine Zag ?_ ?_ ?_
 exact (Zab (pv 0))
 refine Zag ?_ ?_ ?_
 exact (Zab (pv 1))
 refine Zag ?_ ?_ ?_
 exact Zam Zbu (Zab (pv 3)) Zaf
 exact Zae
 rfl
 rfl
 rfl
 refine Zag ?_ ?_ ?_
 exact Zbr Zae
 exact Zae
 rfl
 rfl
 refine Zac ?_ Zah
 refine Zwt (i := 3) Zxz ?_ ?_ ?_ Zaf
 exact Zcx.nd
 rfl
 first | exact Or.inl rfl | exact Or.inr rfl
 refine Zac ?_ Zah
 exact Zaw (Zab (pv 3))
theorem Zku (T : Top K mg) (F_winner : Fn P w K mg base 13 "winner" ["claim", "play"] Zcz) : FnX P w K mg base 14 "earliest" ["claim", "k"] "NotWon" Ze6 := by
 refine (fun h => h : _ → FnX P w K mg base 14 "earliest" ["claim", "k"] "NotWon" (Zy1 2 4 Zds)) (fx_mk (N := ["claim", "k", "side", "place"]) (k := 13) T.t_earliest Zcx (fun _ _ _ _ _ _ us hl => by obtain ⟨_, _, rfl⟩ := us2 hl; rfl) ?_)
 intro C hE f cdv A outer s H E hr
 unfold Zds
 refine Zsq ?_ ?_
 refine Zar (i := 2) ?_ ?_ ?_ ?_
 exact Zcx.nd
 rfl
 first | exact Or.inl rfl | exact Or.inr rfl
 refine Zau ixf ?_ ?_ (fun _ _ => rfl)
 exact Zau ixf (Zab (pv 0)) Zaf (fun _ _ => rfl)
 exact Zam Zbu (Zab (pv 1)) Zaf
 refine Zyc ?_ ?_
 refine Za5 (Zhe hr.units) ?_ (Zab (pv 2)) (Zbc _)
 refine Zax F_winner (hr.mono (by decide)) ?_ ?_
 rfl
 refine Zag ?_ ?_ ?_
 exact (Zab (pv 0))
 refine Zag ?_ ?_ ?_
 exact Zbr Zae
 exact Zae
 rfl
 rfl
 refine Zp5 (by rfl) hE (by rfl) ?_
 refine Znd ?_ Zae
 exact Zzj (Zab (pv 2))
theorem Zl4 (T : Top K mg) : Fn P w K mg base 1 "_law_feed" ["script", "k"] Zdl := by
 refine (fun h => h : _ → Fn P w K mg base 1 "_law_feed" ["script", "k"] (Zb7 2 5 Zcq)) (Zc5 (N := ["script", "k", "cell", "digits", "start"]) (k := 0) T.t_law_feed Zcv (fun _ _ _ _ _ _ us hl => by obtain ⟨_, _, rfl⟩ := us2 hl; rfl) ?_)
 intro f cdv A outer s H E hr
 unfold Zcq
 refine Zac ?_ ?_
 refine Zar (i := 2) ?_ ?_ ?_ Zaf
 exact Zcv.nd
 rfl
 first | exact Or.inl rfl | exact Or.inr rfl
 refine Zac ?_ ?_
 refine Zcg ?_ ?_ Zah
 refine Za5 Zrn (Zab (pv 1)) ?_ (Zbc _)
 refine Zat Zbl ?_ T.n_len Zd2 ?_
 rfl
 refine Zag ?_ ?_ ?_
 exact (Zab (pv 0))
 exact Zae
 rfl
 refine Zac ?_ Zah
 refine Zar (i := 2) ?_ ?_ ?_ ?_
 exact Zcv.nd
 rfl
 first | exact Or.inl rfl | exact Or.inr rfl
 exact Zau ixf (Zab (pv 0)) (Zab (pv 1)) (fun _ _ => rfl)
 refine Zac ?_ ?_
 refine Zar (i := 3) ?_ ?_ ?_ Zaf
 exact Zcv.nd
 rfl
 first | exact Or.inl rfl | exact Or.inr rfl
 refine Zac ?_ ?_
 refine Zcg ?_ ?_ Zah
 refine Za5 Zzv (Zab (pv 2)) ?_ (Zbc _)
 exact Zam Zl8 Zaf Zaf
 refine Zac ?_ Zah
 refine Zar (i := 3) ?_ ?_ ?_ ?_
 exact Zcv.nd
 rfl
 first | exact Or.inl rfl | exact Or.inr rfl
 refine Zam Zbu (Zab (pv 2)) ?_
 exact Zam Zl8 Zaf Zaf
 refine Zac ?_ ?_
 refine Zar (i := 4) ?_ ?_ ?_ ?_
 exact Zcv.nd
 rfl
 first | exact Or.inl rfl | exact Or.inr rfl
 refine Zam Zfg ?_ Zaf
 refine Zam Za6 ?_ Zaf
 refine Zam Za6 ?_ ?_
 refine Zam Zfd ?_ Zaf
 exact Zam Zfg (Zab (pv 2)) Zaf
 exact Zam Zfd Zaf (Zab (pv 1))
 refine Zac ?_ Zah
 refine Zaw ?_
 refine Zbs ?_
 refine Zag ?_ ?_ ?_
 exact (Zab (pv 3))
 refine Zag ?_ ?_ ?_
 refine Zam Za6 ?_ Zaf
 refine Zam Zfg ?_ Zaf
 exact Zam Zl8 (Zab (pv 4)) Zaf
 exact Zae
 rfl
 rfl
theorem Zlg (T : Top K mg) : Fn P w K mg base 1 "_law_take" ["feed", "many"] m_law_take := by
 refine (fun h => h : _ → Fn P w K mg base 1 "_law_take" ["feed", "many"] (Zb7 2 3 Zct)) (Zc5 (N := ["feed", "many", "found"]) (k := 0) T.t_law_take Zht (fun _ _ _ _ _ _ us hl => by obtain ⟨_, _, rfl⟩ := us2 hl; rfl) ?_)
 intro f cdv A outer s H E hr
 unfold Zct
 refine Zac ?_ ?_
 refine Zcg ?_ ?_ Zah
 refine Za5 Zii ?_ Zaf (Zbc _)
 exact Zau ixf (Zab (pv 0)) Zaf (fun _ _ => rfl)
 refine Zac ?_ ?_
 refine Zar (i := 2) ?_ ?_ ?_ ?_
 exact Zht.nd
 rfl
 first | exact Or.inl rfl | exact Or.inr rfl
 refine Zam Zfg ?_ (Zab (pv 1))
 exact Zau ixf (Zab (pv 0)) Zaf (fun _ _ => rfl)
 refine Zac ?_ ?_
 refine Zjf ?_ ?_
 refine Zam Zgs ?_ (Zab (pv 1))
 exact Zau ixf (Zab (pv 0)) Zaf (fun _ _ => rfl)
 exact Ziw (Zab (pv 0)) Zaf setf
 refine Zac ?_ Zah
 exact Zaw (Zab (pv 2))
 refine Zac ?_ ?_
 refine Zjf ?_ ?_
 refine Zam Zfg ?_ Zaf
 refine Zam Za6 ?_ Zaf
 refine Zam Zfd ?_ Zaf
 exact Zau ixf (Zab (pv 0)) Zaf (fun _ _ => rfl)
 exact Ziw (Zab (pv 0)) Zaf setf
 refine Zac ?_ Zah
 refine Zaw ?_
 refine Zam Zfg ?_ (Zab (pv 1))
 refine Zam Zgs ?_ Zaf
 exact Zau ixf (Zab (pv 0)) Zaf (fun _ _ => rfl)
theorem Zl6 (T : Top K mg) (F_law_take : Fn P w K mg base 1 "_law_take" ["feed", "many"] m_law_take) : Fn P w K mg base 2 "_law_pick" ["feed", "some"] Zas := by
 refine (fun h => h : _ → Fn P w K mg base 2 "_law_pick" ["feed", "some"] (Zb7 2 2 Zdj)) (Zc5 (N := ["feed", "some"]) (k := 1) T.t_law_pick Zls (fun _ _ _ _ _ _ us hl => by obtain ⟨_, _, rfl⟩ := us2 hl; rfl) ?_)
 intro f cdv A outer s H E hr
 unfold Zdj
 refine Zac ?_ Zah
 refine Zaw ?_
 refine Zau ixf (Zab (pv 1)) ?_ (fun _ _ => rfl)
 refine Zax F_law_take (hr.mono (by decide)) ?_ ?_
 rfl
 refine Zag ?_ ?_ ?_
 exact (Zab (pv 0))
 refine Zag ?_ ?_ ?_
 refine Zat Zbl ?_ T.n_len Zd2 ?_
 rfl
 refine Zag ?_ ?_ ?_
 exact (Zab (pv 1))
 exact Zae
 rfl
 exact Zae
 rfl
 rfl
theorem Zkr (T : Top K mg) : Fn P w K mg base 1 "_law_whole" ["found"] Zdu := by
 refine (fun h => h : _ → Fn P w K mg base 1 "_law_whole" ["found"] (Zb7 1 1 Zdv)) (Zc5 (N := ["found"]) (k := 0) T.t_law_whole Zke (fun _ _ _ _ _ _ us hl => by obtain ⟨_, rfl⟩ := us1 hl; rfl) ?_)
 intro f cdv A outer s H E hr
 unfold Zdv
 refine Zac ?_ Zah
 refine Zaw ?_
 refine Zuy ?_ ?_
 refine Zat Zkz ?_ T.n_isinstance Zfs ?_
 rfl
 refine Zag ?_ ?_ ?_
 exact (Zab (pv 0))
 refine Zag ?_ ?_ ?_
 refine Zt9 ?_ T.n_int Zmk
 rfl
 exact Zae
 rfl
 rfl
 refine Zxf ?_
 refine Zvz ?_
 refine Zat Zkz ?_ T.n_isinstance Zfs ?_
 rfl
 refine Zag ?_ ?_ ?_
 exact (Zab (pv 0))
 refine Zag ?_ ?_ ?_
 refine Zt9 ?_ T.n_bool Zwk
 rfl
 exact Zae
 rfl
 rfl
theorem Zof (T : Top K mg) (F_law_take : Fn P w K mg base 1 "_law_take" ["feed", "many"] m_law_take) (F_law_pick : Fn P w K mg base 2 "_law_pick" ["feed", "some"] Zas) : Fn P w K mg base 3 "_law_row" ["feed", "many"] m_law_row := by
 refine (fun h => h : _ → Fn P w K mg base 3 "_law_row" ["feed", "many"] (Zb7 2 7 Zdq)) (Zc5 (N := ["feed", "many", "sizes", "size", "names", "found", "turn"]) (k := 2) T.t_law_row Zdo (fun _ _ _ _ _ _ us hl => by obtain ⟨_, _, rfl⟩ := us2 hl; rfl) ?_)
 intro f cdv A outer s H E hr
 unfold Zdq
 refine Zac ?_ ?_
 refine Zar (i := 2) ?_ ?_ ?_ ?_
 exact Zdo.nd
 rfl
 first | exact Or.inl rfl | exact Or.inr rfl
 refine Zbs ?_
 refine Zag ?_ ?_ ?_
 exact Zaf
 refine Zag ?_ ?_ ?_
 exact Zaf
 refine Zag ?_ ?_ ?_
 exact Zaf
 refine Zag ?_ ?_ ?_
 exact Zaf
 refine Zag ?_ ?_ ?_
 exact Zaf
 refine Zag ?_ ?_ ?_
 exact Zaf
 refine Zag ?_ ?_ ?_
 exact Zaf
 refine Zag ?_ ?_ ?_
 exact Zaf
 refine Zag ?_ ?_ ?_
 exact Zaf
 refine Zag ?_ ?_ ?_
 refine Zam Za6 Zaf ?_
 refine Zax F_law_take (hr.mono (by decide)) ?_ ?_
 rfl
 refine Zag ?_ ?_ ?_
 exact (Zab (pv 0))
 refine Zag ?_ ?_ ?_
 exact Zaf
 exact Zae
 rfl
 rfl
 refine Zag ?_ ?_ ?_
 exact Zaf
 refine Zag ?_ ?_ ?_
 refine Zam Zfd Zaf ?_
 refine Za9 Zhw ?_ T.n_int Zmk ?_
 rfl
 refine Zag ?_ ?_ ?_
 refine Zg1 Zii ?_ Zaf (Zbc _)
 refine Zax F_law_take (hr.mono (by decide)) ?_ ?_
 rfl
 refine Zag ?_ ?_ ?_
 exact (Zab (pv 0))
 refine Zag ?_ ?_ ?_
 exact Zaf
 exact Zae
 rfl
 rfl
 exact Zae
 rfl
 exact Zae
 rfl
 rfl
 rfl
 rfl
 rfl
 rfl
 rfl
 rfl
 rfl
 rfl
 rfl
 rfl
 refine Zac ?_ ?_
 refine Zar (i := 3) ?_ ?_ ?_ ?_
 exact Zdo.nd
 rfl
 first | exact Or.inl rfl | exact Or.inr rfl
 refine Zat (Zhp (by rfl)) ?_ T.n_min Zpe ?_
 rfl
 refine Zag ?_ ?_ ?_
 exact (Zab (pv 1))
 refine Zag ?_ ?_ ?_
 refine Zax F_law_pick (hr.mono (by decide)) ?_ ?_
 rfl
 refine Zag ?_ ?_ ?_
 exact (Zab (pv 0))
 refine Zag ?_ ?_ ?_
 exact (Zab (pv 2))
 exact Zae
 rfl
 rfl
 exact Zae
 rfl
 rfl
 refine Zac ?_ ?_
 refine Zar (i := 4) ?_ ?_ ?_ ?_
 exact Zdo.nd
 rfl
 first | exact Or.inl rfl | exact Or.inr rfl
 refine Zoa ?_ ?_ T.n_list ?_ T.n_range ?_
 rfl
 rfl
 rfl
 refine Zag ?_ ?_ ?_
 exact Zaf
 refine Zag ?_ ?_ ?_
 exact Zam Za6 (Zab (pv 1)) Zaf
 exact Zae
 rfl
 rfl
 refine Zac ?_ ?_
 refine Zar (i := 5) ?_ ?_ ?_ ?_
 exact Zdo.nd
 rfl
 first | exact Or.inl rfl | exact Or.inr rfl
 exact Zbs Zae
 refine Zac ?_ ?_
 refine Zcu PassesOwn.never ?_ ?_ ?_ ?_
 rfl
 refine Zdk ?_ T.n_range ?_
 rfl
 refine Zag ?_ ?_ ?_
 exact (Zab (pv 3))
 exact Zae
 rfl
 refine Zbo (i := 6) ?_ ?_ ?_
 exact Zdo.nd
 rfl
 first | exact Or.inl rfl | exact Or.inr rfl
 refine Zac ?_ Zah
 refine Zd6 ?_
 refine Zim PySem.F.slot_list_append PySem.F.type_list_append Ze8 (Zab (pv 5)) ?_
 refine Zag ?_ ?_ ?_
 refine Zim PySem.F.slot_list_pop PySem.F.type_list_pop Zxd (Zab (pv 4)) ?_
 refine Zag ?_ ?_ ?_
 refine Zax F_law_take (hr.mono (by decide)) ?_ ?_
 rfl
 refine Zag ?_ ?_ ?_
 exact (Zab (pv 0))
 refine Zag ?_ ?_ ?_
 refine Zat Zbl ?_ T.n_len Zd2 ?_
 rfl
 refine Zag ?_ ?_ ?_
 exact (Zab (pv 4))
 exact Zae
 rfl
 exact Zae
 rfl
 rfl
 exact Zae
 rfl
 exact Zae
 rfl
 refine Zac ?_ Zah
 refine Zaw ?_
 refine Za9 Zbp ?_ T.n_tuple Zdh ?_
 rfl
 refine Zag ?_ ?_ ?_
 refine Ziq (cn := ["feed"]) ?_ (Zew (x := "name") (cn := ["feed"]) (ci := [0]) (by decide +kernel)) ?_ ?_ ?_
 rfl
 refine Zdw ?_
 refine Zat Zka ?_ T.n_sorted Zkg ?_
 rfl
 refine Zag ?_ ?_ ?_
 exact (Zab (pv 5))
 exact Zae
 rfl
 intro _ _ _ _ _ _
 exact Zca
 intro _ _ _ _ _ _
 refine Zau ixf ?_ ?_ (fun _ _ => rfl)
 refine Zbs ?_
 refine Zag ?_ ?_ ?_
 exact (Zab (pv 0))
 refine Zag ?_ ?_ ?_
 exact Zic Zf5 (Zab (pv 0))
 exact Zae
 rfl
 rfl
 refine Zax F_law_take (hr.mono (by decide)) ?_ ?_
 rfl
 refine Zag ?_ ?_ ?_
 exact (Zab (pv 1))
 refine Zag ?_ ?_ ?_
 exact Zaf
 exact Zae
 rfl
 rfl
 exact Zae
 rfl
theorem Zlu (T : Top K mg) (F_law_row : Fn P w K mg base 3 "_law_row" ["feed", "many"] m_law_row) (F_law_take : Fn P w K mg base 1 "_law_take" ["feed", "many"] m_law_take) : Fn P w K mg base 4 "_law_wide" ["feed", "claim"] Zee := by
 refine (fun h => h : _ → Fn P w K mg base 4 "_law_wide" ["feed", "claim"] (Zb7 2 3 Zcs)) (Zc5 (N := ["feed", "claim", "many"]) (k := 3) T.t_law_wide Zhm (fun _ _ _ _ _ _ us hl => by obtain ⟨_, _, rfl⟩ := us2 hl; rfl) ?_)
 intro f cdv A outer s H E hr
 unfold Zcs
 refine Zac ?_ ?_
 refine Zar (i := 2) ?_ ?_ ?_ ?_
 exact Zhm.nd
 rfl
 first | exact Or.inl rfl | exact Or.inr rfl
 refine Zam Za6 Zaf ?_
 refine Zax F_law_take (hr.mono (by decide)) ?_ ?_
 rfl
 refine Zag ?_ ?_ ?_
 exact (Zab (pv 0))
 refine Zag ?_ ?_ ?_
 exact Zaf
 exact Zae
 rfl
 rfl
 refine Zac ?_ ?_
 refine Zcg ?_ ?_ Zah
 refine Za5 (Zed hr.units) ?_ Zaf (Zbc _)
 refine Zax F_law_take (hr.mono (by decide)) ?_ ?_
 rfl
 refine Zag ?_ ?_ ?_
 exact (Zab (pv 0))
 refine Zag ?_ ?_ ?_
 exact Zaf
 exact Zae
 rfl
 rfl
 refine Zac ?_ Zah
 refine Zaw ?_
 refine Zbr ?_
 refine Zag ?_ ?_ ?_
 exact Zau ixf (Zab (pv 1)) Zaf (fun _ _ => rfl)
 refine Zag ?_ ?_ ?_
 refine Zam Za6 ?_ ?_
 refine Zam Zfd ?_ (Zab (pv 2))
 refine Zc4 ?_ Zeq ?_
 exact Zau ixf (Zab (pv 1)) Zaf (fun _ _ => rfl)
 exact Zdf Zaf
 exact Zau ixf (Zab (pv 1)) Zaf (fun _ _ => rfl)
 exact Zae
 rfl
 rfl
 refine Zac ?_ Zah
 refine Zaw ?_
 refine Zbr ?_
 refine Zag ?_ ?_ ?_
 exact Zau ixf (Zab (pv 1)) Zaf (fun _ _ => rfl)
 refine Zag ?_ ?_ ?_
 refine Zam Za6 ?_ ?_
 refine Za9 Zbp ?_ T.n_tuple Zdh ?_
 rfl
 refine Zag ?_ ?_ ?_
 refine Ziq (cn := ["feed", "claim"]) ?_ (Zew (x := "turn") (cn := ["feed", "claim"]) (ci := [0, 1]) (by decide +kernel)) ?_ ?_ ?_
 rfl
 refine Zdk ?_ T.n_range ?_
 rfl
 refine Zag ?_ ?_ ?_
 exact (Zab (pv 2))
 exact Zae
 rfl
 intro _ _ _ _ _ _
 exact Zca
 intro _ _ _ _ _ _
 refine Zax F_law_row (hr.mono (by decide)) ?_ ?_
 rfl
 refine Zag ?_ ?_ ?_
 exact (Zab (pv 1))
 refine Zag ?_ ?_ ?_
 refine Zat Zbl ?_ T.n_len Zd2 ?_
 rfl
 refine Zag ?_ ?_ ?_
 exact Zau ixf (Zab (pv 2)) Zaf (fun _ _ => rfl)
 exact Zae
 rfl
 exact Zae
 rfl
 rfl
 exact Zae
 rfl
 exact Zau ixf (Zab (pv 1)) Zaf (fun _ _ => rfl)
 exact Zae
 rfl
 rfl
theorem Zjw (T : Top K mg) (F_law_take : Fn P w K mg base 1 "_law_take" ["feed", "many"] m_law_take) (F_law_pick : Fn P w K mg base 2 "_law_pick" ["feed", "some"] Zas) (F_law_row : Fn P w K mg base 3 "_law_row" ["feed", "many"] m_law_row) : Fn P w K mg base 4 "_law_claim" ["feed", "most", "rows"] Zcw := by
 refine (fun h => h : _ → Fn P w K mg base 4 "_law_claim" ["feed", "most", "rows"] (Zb7 3 8 Zce)) (Zc5 (N := ["feed", "most", "rows", "many", "way", "kinds", "size", "found"]) (k := 3) T.t_law_claim Zbx (fun _ _ _ _ _ _ us hl => by obtain ⟨_, _, _, rfl⟩ := us3 hl; rfl) ?_)
 intro f cdv A outer s H E hr
 unfold Zce
 refine Zac ?_ ?_
 refine Zar (i := 3) ?_ ?_ ?_ ?_
 exact Zbx.nd
 rfl
 first | exact Or.inl rfl | exact Or.inr rfl
 refine Zax F_law_pick (hr.mono (by decide)) ?_ ?_
 rfl
 refine Zag ?_ ?_ ?_
 exact (Zab (pv 0))
 refine Zag ?_ ?_ ?_
 refine Zbs ?_
 refine Zag ?_ ?_ ?_
 exact (Zab (pv 1))
 refine Zag ?_ ?_ ?_
 exact Zam Zbu (Zab (pv 1)) Zaf
 refine Zag ?_ ?_ ?_
 exact (Zab (pv 1))
 refine Zag ?_ ?_ ?_
 exact Zam Zbu (Zab (pv 1)) Zaf
 refine Zag ?_ ?_ ?_
 exact (Zab (pv 1))
 refine Zag ?_ ?_ ?_
 refine Zax F_law_take (hr.mono (by decide)) ?_ ?_
 rfl
 refine Zag ?_ ?_ ?_
 exact (Zab (pv 0))
 refine Zag ?_ ?_ ?_
 exact Zam Za6 (Zab (pv 1)) Zaf
 exact Zae
 rfl
 rfl
 exact Zae
 rfl
 rfl
 rfl
 rfl
 rfl
 rfl
 exact Zae
 rfl
 rfl
 refine Zac ?_ ?_
 refine Zar (i := 4) ?_ ?_ ?_ ?_
 exact Zbx.nd
 rfl
 first | exact Or.inl rfl | exact Or.inr rfl
 refine Zax F_law_take (hr.mono (by decide)) ?_ ?_
 rfl
 refine Zag ?_ ?_ ?_
 exact (Zab (pv 0))
 refine Zag ?_ ?_ ?_
 exact Zaf
 exact Zae
 rfl
 rfl
 refine Zac ?_ ?_
 refine Zeb (i := 5) (cn := ["feed"]) ?_ (Zew (x := "k") (cn := ["feed"]) (ci := [0]) (by decide +kernel)) ?_ ?_ ?_ ?_ ?_ ?_
 rfl
 refine Zdk ?_ T.n_range ?_
 rfl
 refine Zag ?_ ?_ ?_
 exact (Zab (pv 3))
 exact Zae
 rfl
 intro _ _ _ _ _ _
 exact Zca
 intro _ _ _ _ _ _
 refine Zax F_law_pick (hr.mono (by decide)) ?_ ?_
 rfl
 refine Zag ?_ ?_ ?_
 exact (Zab (pv 1))
 refine Zag ?_ ?_ ?_
 refine Zbs ?_
 refine Zag ?_ ?_ ?_
 exact Zcy
 refine Zag ?_ ?_ ?_
 exact Zcy
 exact Zae
 rfl
 rfl
 exact Zae
 rfl
 rfl
 exact Zbx.nd
 rfl
 rfl
 refine Zac ?_ ?_
 refine Zcg ?_ ?_ Zah
 exact Za5 (Zed hr.units) (Zab (pv 4)) Zaf (Zbc _)
 refine Zac ?_ Zah
 refine Zeb (i := 5) (cn := []) ?_ (Zew (x := "k") (cn := []) (ci := []) (by decide +kernel)) ?_ ?_ ?_ ?_ ?_ ?_
 rfl
 refine Zdk ?_ T.n_range ?_
 rfl
 refine Zag ?_ ?_ ?_
 exact (Zab (pv 3))
 exact Zae
 rfl
 intro _ _ _ _ _ _
 exact Zca
 intro _ _ _ _ _ _
 refine Zau ixf ?_ ?_ (fun _ _ => rfl)
 refine Zbs ?_
 refine Zag ?_ ?_ ?_
 exact Zcy
 refine Zag ?_ ?_ ?_
 exact Zcy
 exact Zae
 rfl
 rfl
 exact Zam Zfg (Zab (pv 0)) Zaf
 exact Zbx.nd
 rfl
 rfl
 refine Zac ?_ ?_
 refine Zar (i := 6) ?_ ?_ ?_ ?_
 exact Zbx.nd
 rfl
 first | exact Or.inl rfl | exact Or.inr rfl
 refine Zax F_law_pick (hr.mono (by decide)) ?_ ?_
 rfl
 refine Zag ?_ ?_ ?_
 exact (Zab (pv 0))
 refine Zag ?_ ?_ ?_
 refine Zbs ?_
 refine Zag ?_ ?_ ?_
 exact (Zab (pv 3))
 refine Zag ?_ ?_ ?_
 refine Zam Za6 (Zab (pv 3)) ?_
 exact Zam Zgs (Zab (pv 3)) Zaf
 refine Zag ?_ ?_ ?_
 exact Zam Zfd Zaf (Zab (pv 3))
 refine Zag ?_ ?_ ?_
 refine Zam Za6 ?_ Zaf
 exact Zam Zgs (Zab (pv 3)) Zaf
 refine Zag ?_ ?_ ?_
 refine Zax F_law_take (hr.mono (by decide)) ?_ ?_
 rfl
 refine Zag ?_ ?_ ?_
 exact (Zab (pv 0))
 refine Zag ?_ ?_ ?_
 exact Zam Za6 (Zab (pv 2)) Zaf
 exact Zae
 rfl
 rfl
 refine Zag ?_ ?_ ?_
 exact Zaf
 exact Zae
 rfl
 rfl
 rfl
 rfl
 rfl
 rfl
 exact Zae
 rfl
 rfl
 refine Zac ?_ ?_
 refine Zeb (i := 7) (cn := ["feed", "many"]) ?_ (Zew (x := "k") (cn := ["feed", "many"]) (ci := [0, 3]) (by decide +kernel)) ?_ ?_ ?_ ?_ ?_ ?_
 rfl
 refine Zdk ?_ T.n_range ?_
 rfl
 refine Zag ?_ ?_ ?_
 refine Zat (Zhp (by rfl)) ?_ T.n_min Zpe ?_
 rfl
 refine Zag ?_ ?_ ?_
 exact (Zab (pv 2))
 refine Zag ?_ ?_ ?_
 exact (Zab (pv 6))
 exact Zae
 rfl
 rfl
 exact Zae
 rfl
 intro _ _ _ _ _ _
 exact Zca
 intro _ _ _ _ _ _
 refine Zax F_law_row (hr.mono (by decide)) ?_ ?_
 rfl
 refine Zag ?_ ?_ ?_
 exact (Zab (pv 1))
 refine Zag ?_ ?_ ?_
 exact (Zab (pv 2))
 exact Zae
 rfl
 rfl
 exact Zbx.nd
 rfl
 rfl
 refine Zac ?_ ?_
 refine Zcg ?_ ?_ Zah
 refine PWf.pt ?_
 refine Zi0 ?_ ?_
 refine Za5 (Zhe hr.units) (Zab (pv 7)) ?_ (Zbc _)
 exact Zbs Zae
 refine Zgq ?_
 refine Za5 (Zed hr.units) ?_ Zaf (Zbc _)
 refine Zax F_law_take (hr.mono (by decide)) ?_ ?_
 rfl
 refine Zag ?_ ?_ ?_
 exact (Zab (pv 0))
 refine Zag ?_ ?_ ?_
 exact Zaf
 exact Zae
 rfl
 rfl
 refine Zac ?_ Zah
 refine Zd6 ?_
 refine Zim PySem.F.slot_list_append PySem.F.type_list_append Ze8 (Zab (pv 7)) ?_
 refine Zag ?_ ?_ ?_
 refine Zax F_law_pick (hr.mono (by decide)) ?_ ?_
 rfl
 refine Zag ?_ ?_ ?_
 exact (Zab (pv 0))
 refine Zag ?_ ?_ ?_
 exact (Zab (pv 7))
 exact Zae
 rfl
 rfl
 exact Zae
 rfl
 refine Zac ?_ Zah
 refine Zaw ?_
 refine Zbr ?_
 refine Zag ?_ ?_ ?_
 refine Za9 Zbp ?_ T.n_tuple Zdh ?_
 rfl
 refine Zag ?_ ?_ ?_
 exact (Zab (pv 5))
 exact Zae
 rfl
 refine Zag ?_ ?_ ?_
 refine Za9 Zbp ?_ T.n_tuple Zdh ?_
 rfl
 refine Zag ?_ ?_ ?_
 refine Zc4 (Zab (pv 7)) Zeq ?_
 exact Zdf (Zab (pv 2))
 exact Zae
 rfl
 exact Zae
 rfl
 rfl
theorem Zlq (T : Top K mg) : Fn P w K mg base 1 "_law_kept" ["row", "play"] Zdm := by
 refine (fun h => h : _ → Fn P w K mg base 1 "_law_kept" ["row", "play"] (Zb7 2 3 Zeh)) (Zc5 (N := ["row", "play", "literal"]) (k := 0) T.t_law_kept Zhv (fun _ _ _ _ _ _ us hl => by obtain ⟨_, _, rfl⟩ := us2 hl; rfl) ?_)
 intro f cdv A outer s H E hr
 unfold Zeh
 refine Zac ?_ ?_
 refine Zcu PassesOwn.never ?_ ?_ ?_ ?_
 rfl
 exact Zdw (Zab (pv 0))
 refine Zbo (i := 2) ?_ ?_ ?_
 exact Zhv.nd
 rfl
 first | exact Or.inl rfl | exact Or.inr rfl
 refine Zac ?_ Zah
 refine Zcg ?_ ?_ Zah
 refine PWf.pt ?_
 refine Zi0 ?_ ?_
 refine Za5 Zmq ?_ ?_ (Zbc _)
 refine Zat Zfv ?_ T.n_abs Zj7 ?_
 rfl
 refine Zag ?_ ?_ ?_
 exact (Zab (pv 2))
 exact Zae
 rfl
 refine Zat Zbl ?_ T.n_len Zd2 ?_
 rfl
 refine Zag ?_ ?_ ?_
 exact (Zab (pv 1))
 exact Zae
 rfl
 refine Zgq ?_
 refine Za5 (Zed hr.units) ?_ ?_ (Zbc _)
 refine Zau ixf (Zab (pv 1)) ?_ (fun _ _ => rfl)
 refine Zam Zbu ?_ Zaf
 refine Zat Zfv ?_ T.n_abs Zj7 ?_
 rfl
 refine Zag ?_ ?_ ?_
 exact (Zab (pv 2))
 exact Zae
 rfl
 exact Zg1 Zii (Zab (pv 2)) Zaf (Zbc _)
 refine Zac ?_ Zah
 exact Zaw Zef
 refine Zac ?_ Zah
 exact Zaw Zef
theorem Zjz (T : Top K mg) : Fn P w K mg base 1 "_law_plays" ["many"] Zbz := by
 refine (fun h => h : _ → Fn P w K mg base 1 "_law_plays" ["many"] (Zb7 1 7 Zen)) (Zc5 (N := ["many", "found", "turn", "plays", "some", "longer", "play"]) (k := 0) T.t_law_plays Zbh (fun _ _ _ _ _ _ us hl => by obtain ⟨_, rfl⟩ := us1 hl; rfl) ?_)
 intro f cdv A outer s H E hr
 unfold Zen
 refine Zac ?_ ?_
 refine Zar (i := 1) ?_ ?_ ?_ ?_
 exact Zbh.nd
 rfl
 first | exact Or.inl rfl | exact Or.inr rfl
 refine Zbs ?_
 refine Zag ?_ ?_ ?_
 refine Zbs ?_
 refine Zag ?_ ?_ ?_
 exact Zbr Zae
 exact Zae
 rfl
 exact Zae
 rfl
 refine Zac ?_ ?_
 refine Zcu PassesOwn.never ?_ ?_ ?_ ?_
 rfl
 refine Zdk ?_ T.n_range ?_
 rfl
 refine Zag ?_ ?_ ?_
 exact (Zab (pv 0))
 exact Zae
 rfl
 refine Zbo (i := 2) ?_ ?_ ?_
 exact Zbh.nd
 rfl
 first | exact Or.inl rfl | exact Or.inr rfl
 refine Zac ?_ ?_
 refine Zar (i := 5) ?_ ?_ ?_ ?_
 exact Zbh.nd
 rfl
 first | exact Or.inl rfl | exact Or.inr rfl
 exact Zbs Zae
 refine Zac ?_ ?_
 refine Zcu PassesOwn.never ?_ ?_ ?_ ?_
 rfl
 refine Zdw ?_
 refine Zau ixf (Zab (pv 1)) ?_ (fun _ _ => rfl)
 exact Zic Zf5 Zaf
 refine Zbo (i := 6) ?_ ?_ ?_
 exact Zbh.nd
 rfl
 first | exact Or.inl rfl | exact Or.inr rfl
 refine Zac ?_ Zah
 refine Zar (i := 5) ?_ ?_ ?_ ?_
 exact Zbh.nd
 rfl
 first | exact Or.inl rfl | exact Or.inr rfl
 refine Zam Za6 (Zab (pv 5)) ?_
 refine Zbs ?_
 refine Zag ?_ ?_ ?_
 refine Zam Za6 (Zab (pv 6)) ?_
 refine Zbr ?_
 refine Zag ?_ ?_ ?_
 exact Zef
 exact Zae
 rfl
 refine Zag ?_ ?_ ?_
 refine Zam Za6 (Zab (pv 6)) ?_
 refine Zbr ?_
 refine Zag ?_ ?_ ?_
 exact Zef
 exact Zae
 rfl
 exact Zae
 rfl
 rfl
 refine Zac ?_ Zah
 refine Zd6 ?_
 refine Zim PySem.F.slot_list_append PySem.F.type_list_append Ze8 (Zab (pv 1)) ?_
 refine Zag ?_ ?_ ?_
 exact (Zab (pv 5))
 exact Zae
 rfl
 refine Zac ?_ ?_
 refine Zar (i := 3) ?_ ?_ ?_ ?_
 exact Zbh.nd
 rfl
 first | exact Or.inl rfl | exact Or.inr rfl
 exact Zbs Zae
 refine Zac ?_ ?_
 refine Zcu PassesOwn.never ?_ ?_ ?_ ?_
 rfl
 refine Zj9 ?_ T.n_reversed ?_
 rfl
 refine Zag ?_ ?_ ?_
 exact (Zab (pv 1))
 exact Zae
 rfl
 refine Zbo (i := 4) ?_ ?_ ?_
 exact Zbh.nd
 rfl
 first | exact Or.inl rfl | exact Or.inr rfl
 refine Zac ?_ Zah
 refine Zar (i := 3) ?_ ?_ ?_ ?_
 exact Zbh.nd
 rfl
 first | exact Or.inl rfl | exact Or.inr rfl
 exact Zam Za6 (Zab (pv 3)) (Zab (pv 4))
 refine Zac ?_ Zah
 exact Zaw (Zab (pv 3))
theorem Zh1 (T : Top K mg) (F_law_plays : Fn P w K mg base 1 "_law_plays" ["many"] Zbz) (F_law_kept : Fn P w K mg base 1 "_law_kept" ["row", "play"] Zdm) : Fn P w K mg base 2 "_law_winners" ["claim"] Za8 := by
 refine (fun h => h : _ → Fn P w K mg base 2 "_law_winners" ["claim"] (Zb7 1 5 Zb4)) (Zc5 (N := ["claim", "found", "play", "side", "two"]) (k := 1) T.t_law_winners Zb8 (fun _ _ _ _ _ _ us hl => by obtain ⟨_, rfl⟩ := us1 hl; rfl) ?_)
 intro f cdv A outer s H E hr
 unfold Zb4
 refine Zac ?_ ?_
 refine Zar (i := 1) ?_ ?_ ?_ Zji
 exact Zb8.nd
 rfl
 first | exact Or.inl rfl | exact Or.inr rfl
 refine Zac ?_ ?_
 refine Zcu PassesOwn.never ?_ ?_ ?_ ?_
 rfl
 refine Zdw ?_
 refine Zax F_law_plays (hr.mono (by decide)) ?_ ?_
 rfl
 refine Zag ?_ ?_ ?_
 refine Zat Zbl ?_ T.n_len Zd2 ?_
 rfl
 refine Zag ?_ ?_ ?_
 exact Zau ixf (Zab (pv 0)) Zaf (fun _ _ => rfl)
 exact Zae
 rfl
 exact Zae
 rfl
 refine Zbo (i := 2) ?_ ?_ ?_
 exact Zb8.nd
 rfl
 first | exact Or.inl rfl | exact Or.inr rfl
 refine Zac ?_ Zah
 refine Zcg ?_ ?_ ?_
 refine Za5 (Zed hr.units) ?_ ?_ (Zbc _)
 refine Zat Zbl ?_ T.n_len Zd2 ?_
 rfl
 refine Zag ?_ ?_ ?_
 exact (Zab (pv 2))
 exact Zae
 rfl
 refine Zat Zbl ?_ T.n_len Zd2 ?_
 rfl
 refine Zag ?_ ?_ ?_
 exact Zau ixf (Zab (pv 0)) Zaf (fun _ _ => rfl)
 exact Zae
 rfl
 refine Zac ?_ Zah
 refine Zjf ?_ ?_
 refine Zau ixf ?_ ?_ (fun _ _ => rfl)
 refine Zbs ?_
 refine Zag ?_ ?_ ?_
 exact Zcy
 refine Zag ?_ ?_ ?_
 exact Zcy
 exact Zae
 rfl
 rfl
 refine Za9 Zhw ?_ T.n_int Zmk ?_
 rfl
 refine Zag ?_ ?_ ?_
 refine Zg1 (Zyg hr.units) Zef ?_ ?_
 refine Ziq (cn := ["play"]) ?_ (Zew (x := "row") (cn := ["play"]) (ci := [2]) (by decide +kernel)) ?_ ?_ ?_
 rfl
 refine Zdw ?_
 exact Zau ixf (Zab (pv 0)) Zaf (fun _ _ => rfl)
 intro _ _ _ _ _ _
 exact Zca
 intro _ _ _ _ _ _
 refine Zax F_law_kept (hr.mono (by decide)) ?_ ?_
 rfl
 refine Zag ?_ ?_ ?_
 exact (Zab (pv 0))
 refine Zag ?_ ?_ ?_
 exact (Zab (pv 1))
 exact Zae
 rfl
 rfl
 with_unfolding_all rfl
 exact Zae
 rfl
 exact Ziw (Zab (pv 1)) (Zab (pv 2)) (Zyb hr.units)
 refine Zac ?_ ?_
 refine Zar (i := 3) ?_ ?_ ?_ ?_
 exact Zb8.nd
 rfl
 first | exact Or.inl rfl | exact Or.inr rfl
 refine Zau ixf ?_ ?_ (fun _ _ => rfl)
 exact Zau ixf (Zab (pv 0)) Zaf (fun _ _ => rfl)
 refine Zat Zbl ?_ T.n_len Zd2 ?_
 rfl
 refine Zag ?_ ?_ ?_
 exact (Zab (pv 2))
 exact Zae
 rfl
 refine Zac ?_ ?_
 refine Zar (i := 4) ?_ ?_ ?_ ?_
 exact Zb8.nd
 rfl
 first | exact Or.inl rfl | exact Or.inr rfl
 refine Zbs ?_
 refine Zag ?_ ?_ ?_
 refine Zau (Zn9 hr.units) (Zab (pv 1)) ?_ (fun _ _ => rfl)
 refine Zam Za6 (Zab (pv 2)) ?_
 refine Zbr ?_
 refine Zag ?_ ?_ ?_
 exact Zef
 exact Zae
 rfl
 refine Zag ?_ ?_ ?_
 refine Zau (Zn9 hr.units) (Zab (pv 1)) ?_ (fun _ _ => rfl)
 refine Zam Za6 (Zab (pv 2)) ?_
 refine Zbr ?_
 refine Zag ?_ ?_ ?_
 exact Zef
 exact Zae
 rfl
 exact Zae
 rfl
 rfl
 refine Zac ?_ Zah
 refine Zjf ?_ ?_
 refine Zib ?_ (Zab (pv 3)) ?_
 refine Za5 (Zo2 hr.units) (Zab (pv 3)) (Zab (pv 4)) ?_
 with_unfolding_all rfl
 exact Zau ixf (Zab (pv 4)) Zaf (fun _ _ => rfl)
 exact Ziw (Zab (pv 1)) (Zab (pv 2)) (Zyb hr.units)
 refine Zac ?_ Zah
 exact Zaw (Zab (pv 1))
theorem Zkf (T : Top K mg) : Fn P w K mg base 1 "_law_moved" ["claim", "k", "q"] Zcr := by
 refine (fun h => h : _ → Fn P w K mg base 1 "_law_moved" ["claim", "k", "q"] (Zb7 3 8 Zdt)) (Zc5 (N := ["claim", "k", "q", "order", "new", "rows", "row", "some"]) (k := 0) T.t_law_moved Zch (fun _ _ _ _ _ _ us hl => by obtain ⟨_, _, _, rfl⟩ := us3 hl; rfl) ?_)
 intro f cdv A outer s H E hr
 unfold Zdt
 refine Zac ?_ ?_
 refine Zeb (i := 3) (cn := ["k"]) ?_ (Zew (x := "name") (cn := ["k"]) (ci := [1]) (by decide +kernel)) ?_ ?_ ?_ ?_ ?_ ?_
 rfl
 refine Ze7 ?_ T.n_range ?_
 rfl
 refine Zag ?_ ?_ ?_
 exact Zaf
 refine Zag ?_ ?_ ?_
 refine Zam Za6 ?_ Zaf
 refine Zat Zbl ?_ T.n_len Zd2 ?_
 rfl
 refine Zag ?_ ?_ ?_
 exact Zau ixf (Zab (pv 0)) Zaf (fun _ _ => rfl)
 exact Zae
 rfl
 exact Zae
 rfl
 rfl
 intro _ _ _ _ _ _
 refine Ztk ?_
 exact Za5 (Zhe hr.units) (Zab (pv 0)) (Zab (pv 1)) (Zbc _)
 intro _ _ _ _ _ _
 exact (Zab (pv 0))
 exact Zch.nd
 rfl
 rfl
 refine Zac ?_ ?_
 refine Zd6 ?_
 refine Zim PySem.F.slot_list_insert PySem.F.type_list_insert Znm (Zab (pv 3)) ?_
 refine Zag ?_ ?_ ?_
 exact Zam Zbu (Zab (pv 2)) Zaf
 refine Zag ?_ ?_ ?_
 exact (Zab (pv 1))
 exact Zae
 rfl
 rfl
 refine Zac ?_ ?_
 refine Zar (i := 4) ?_ ?_ ?_ ?_
 exact Zch.nd
 rfl
 first | exact Or.inl rfl | exact Or.inr rfl
 refine Za9 (Zl3 (by rfl)) ?_ T.n_dict Zv7 ?_
 rfl
 refine Zag ?_ ?_ ?_
 refine Zve (cn := []) ?_ (Zxa (x := "place") (y0 := "name") (cn := []) (ci := []) (by decide +kernel)) ?_ ?_ ?_
 rfl
 refine Zpk ?_ T.n_enumerate ?_
 rfl
 refine Zag ?_ ?_ ?_
 exact (Zab (pv 3))
 exact Zae
 rfl
 intro _ _ _ _ _ _
 exact Zca
 intro _ _ _ _ _ _
 refine Zbr ?_
 refine Zag ?_ ?_ ?_
 exact (Zab (pv 1))
 refine Zag ?_ ?_ ?_
 exact Zam Za6 (Zab (pv 0)) Zaf
 exact Zae
 rfl
 rfl
 exact Zae
 rfl
 refine Zac ?_ ?_
 refine Zar (i := 5) ?_ ?_ ?_ ?_
 exact Zch.nd
 rfl
 first | exact Or.inl rfl | exact Or.inr rfl
 exact Zbs Zae
 refine Zac ?_ ?_
 refine Zcu PassesOwn.never ?_ ?_ ?_ ?_
 rfl
 refine Zdw ?_
 exact Zau ixf (Zab (pv 0)) Zaf (fun _ _ => rfl)
 refine Zbo (i := 6) ?_ ?_ ?_
 exact Zch.nd
 rfl
 first | exact Or.inl rfl | exact Or.inr rfl
 refine Zac ?_ ?_
 refine Zeb (i := 7) (cn := ["new"]) ?_ (Zew (x := "literal") (cn := ["new"]) (ci := [4]) (by decide +kernel)) ?_ ?_ ?_ ?_ ?_ ?_
 rfl
 exact Zdw (Zab (pv 6))
 intro _ _ _ _ _ _
 exact Zca
 intro _ _ _ _ _ _
 refine Zam Zfd ?_ ?_
 refine Zau igetf (Zab (pv 1)) ?_ (fun _ _ => rfl)
 refine Zat Zfv ?_ T.n_abs Zj7 ?_
 rfl
 refine Zag ?_ ?_ ?_
 exact (Zab (pv 0))
 exact Zae
 rfl
 refine Zau ixf ?_ ?_ (fun _ _ => rfl)
 refine Zbs ?_
 refine Zag ?_ ?_ ?_
 exact Zaf
 refine Zag ?_ ?_ ?_
 exact Zic Zf5 Zaf
 exact Zae
 rfl
 rfl
 refine Za9 Zhw ?_ T.n_int Zmk ?_
 rfl
 refine Zag ?_ ?_ ?_
 exact Zg1 Zrn (Zab (pv 0)) Zaf (Zbc _)
 exact Zae
 rfl
 exact Zch.nd
 rfl
 rfl
 refine Zac ?_ Zah
 refine Zd6 ?_
 refine Zim PySem.F.slot_list_append PySem.F.type_list_append Ze8 (Zab (pv 5)) ?_
 refine Zag ?_ ?_ ?_
 refine Za9 Zbp ?_ T.n_tuple Zdh ?_
 rfl
 refine Zag ?_ ?_ ?_
 refine Zk2 ?_ T.n_sorted ?_ T.n_abs ?_
 rfl
 rfl
 refine Zag ?_ ?_ ?_
 exact (Zab (pv 7))
 exact Zae
 rfl
 exact Zae
 rfl
 exact Zae
 rfl
 refine Zac ?_ Zah
 refine Zaw ?_
 refine Zbr ?_
 refine Zag ?_ ?_ ?_
 refine Za9 Zbp ?_ T.n_tuple Zdh ?_
 rfl
 refine Zag ?_ ?_ ?_
 refine Ziq (cn := ["claim"]) ?_ (Zew (x := "name") (cn := ["claim"]) (ci := [0]) (by decide +kernel)) ?_ ?_ ?_
 rfl
 exact Zdw (Zab (pv 3))
 intro _ _ _ _ _ _
 exact Zca
 intro _ _ _ _ _ _
 refine Zau ixf ?_ ?_ (fun _ _ => rfl)
 exact Zau ixf (Zab (pv 1)) Zaf (fun _ _ => rfl)
 exact Zam Zbu (Zab (pv 0)) Zaf
 exact Zae
 rfl
 refine Zag ?_ ?_ ?_
 refine Za9 Zbp ?_ T.n_tuple Zdh ?_
 rfl
 refine Zag ?_ ?_ ?_
 exact (Zab (pv 5))
 exact Zae
 rfl
 exact Zae
 rfl
 rfl
theorem Zh6 (T : Top K mg) (FX_earliest : FnX P w K mg base 14 "earliest" ["claim", "k"] "NotWon" Ze6) : Fn P w K mg base 15 "_law_refused" ["claim", "k"] Zcl := by
 refine (fun h => h : _ → Fn P w K mg base 15 "_law_refused" ["claim", "k"] (Zb7 2 5 Zck)) (Zc5 (N := ["claim", "k", "word", "e", "others"]) (k := 14) T.t_law_refused Zd8 (fun _ _ _ _ _ _ us hl => by obtain ⟨_, _, rfl⟩ := us2 hl; rfl) ?_)
 intro f cdv A outer s H E hr
 unfold Zck
 obtain ⟨C, cV, c0, c1, c2, c3, c4, c5, c6, R, m0, m1, m2, m3, m4, m5, m6⟩ := T.r_NotWon
 refine Zac ?_ ?_
 refine Zar (i := 2) ?_ ?_ ?_ Zcy
 exact Zd8.nd
 rfl
 first | exact Or.inl rfl | exact Or.inr rfl
 refine Zac ?_ ?_
 refine Zvd (k := 14) (iE := 3) (iO := 4) (iW := 2) (cs := [c0, c1, c2, c3, c4, c5, c6]) (C := C) (cV := cV) (ps := ["claim", "k"]) ?_ ?_ ?_ ?_ ?_ ?_ ?_ ?_ ?_ ?_ ?_ ?_ ?_ ?_ ?_ ?_
 exact R
 exact FX_earliest
 exact hr.mono (by decide)
 refine Zag ?_ ?_ ?_
 exact (Zab (pv 0))
 refine Zag ?_ ?_ ?_
 exact (Zab (pv 1))
 exact Zae
 rfl
 rfl
 exact fun _ _ => (Zhk (by rfl) m0 (Zhk (by rfl) m1 (Zhk (by rfl) m2 (Zhk (by rfl) m3 (Zhk (by rfl) m4 (Zhk (by rfl) m5 (Zhk (by rfl) m6 Zu9)))))))
 exact (by decide : 7 ≤ 1000)
 exact T.n_isinstance
 exact T.n_int
 exact T.n_ValueError
 exact Zd8.nd
 rfl
 rfl
 rfl
 rfl
 rfl
 rfl
 refine Zac ?_ Zah
 exact Zaw (Zab (pv 2))
theorem Zzf (T : Top K mg) (F_law_refused : Fn P w K mg base 15 "_law_refused" ["claim", "k"] Zcl) (F_law_whole : Fn P w K mg base 1 "_law_whole" ["found"] Zdu) (F_earliest : Fn P w K mg base 14 "earliest" ["claim", "k"] Zek) (F_law_winners : Fn P w K mg base 2 "_law_winners" ["claim"] Za8) (F_law_moved : Fn P w K mg base 1 "_law_moved" ["claim", "k", "q"] Zcr) (F_law_take : Fn P w K mg base 1 "_law_take" ["feed", "many"] m_law_take) (F_law_wide : Fn P w K mg base 4 "_law_wide" ["feed", "claim"] Zee) (F_law_claim : Fn P w K mg base 4 "_law_claim" ["feed", "most", "rows"] Zcw) (F_law_feed : Fn P w K mg base 1 "_law_feed" ["script", "k"] Zdl) : Fn P w K mg base 16 "law" ["script"] Zny := by
 refine (fun h => h : _ → Fn P w K mg base 16 "law" ["script"] (Zb7 1 8 Zqe)) (Zc5 (N := ["script", "k", "feed", "claim", "side", "name", "wins", "found"]) (k := 15) T.t_law Zfp (fun _ _ _ _ _ _ us hl => by obtain ⟨_, rfl⟩ := us1 hl; rfl) ?_)
 intro f cdv A outer s H E hr
 unfold Zqe
 refine Zac ?_ ?_
 refine Zcu PassesOwn.never ?_ ?_ ?_ ?_
 rfl
 refine Ze7 ?_ T.n_range ?_
 rfl
 refine Zag ?_ ?_ ?_
 exact Zaf
 refine Zag ?_ ?_ ?_
 refine Zat (Zpw (by rfl)) ?_ T.n_max Zzp ?_
 rfl
 refine Zag ?_ ?_ ?_
 exact Zaf
 refine Zag ?_ ?_ ?_
 refine Zat (Zhp (by rfl)) ?_ T.n_min Zpe ?_
 rfl
 refine Zag ?_ ?_ ?_
 exact Zaf
 refine Zag ?_ ?_ ?_
 refine Zat Zbl ?_ T.n_len Zd2 ?_
 rfl
 refine Zag ?_ ?_ ?_
 exact (Zab (pv 0))
 exact Zae
 rfl
 exact Zae
 rfl
 rfl
 exact Zae
 rfl
 rfl
 exact Zae
 rfl
 rfl
 refine Zbo (i := 1) ?_ ?_ ?_
 exact Zfp.nd
 rfl
 first | exact Or.inl rfl | exact Or.inr rfl
 refine Zac ?_ ?_
 refine Zar (i := 2) ?_ ?_ ?_ ?_
 exact Zfp.nd
 rfl
 first | exact Or.inl rfl | exact Or.inr rfl
 refine Zax F_law_feed (hr.mono (by decide)) ?_ ?_
 rfl
 refine Zag ?_ ?_ ?_
 exact (Zab (pv 0))
 refine Zag ?_ ?_ ?_
 exact (Zab (pv 1))
 exact Zae
 rfl
 rfl
 refine Zac ?_ ?_
 refine Zar (i := 3) ?_ ?_ ?_ ?_
 exact Zfp.nd
 rfl
 first | exact Or.inl rfl | exact Or.inr rfl
 refine Zax F_law_claim (hr.mono (by decide)) ?_ ?_
 rfl
 refine Zag ?_ ?_ ?_
 exact (Zab (pv 2))
 refine Zag ?_ ?_ ?_
 exact Zam Zbu Zaf (Zab (pv 1))
 refine Zag ?_ ?_ ?_
 exact Zaf
 exact Zae
 rfl
 rfl
 rfl
 refine Zac ?_ ?_
 refine Zcg ?_ ?_ Zah
 refine PWf.pt ?_
 refine Zi0 ?_ ?_
 exact Za5 Zii (Zab (pv 1)) Zaf (Zbc _)
 refine Zgq ?_
 refine Za5 (Zed hr.units) ?_ Zaf (Zbc _)
 refine Zax F_law_take (hr.mono (by decide)) ?_ ?_
 rfl
 refine Zag ?_ ?_ ?_
 exact (Zab (pv 2))
 refine Zag ?_ ?_ ?_
 exact Zaf
 exact Zae
 rfl
 rfl
 refine Zac ?_ Zah
 refine Zar (i := 3) ?_ ?_ ?_ ?_
 exact Zfp.nd
 rfl
 first | exact Or.inl rfl | exact Or.inr rfl
 refine Zax F_law_wide (hr.mono (by decide)) ?_ ?_
 rfl
 refine Zag ?_ ?_ ?_
 exact (Zab (pv 2))
 refine Zag ?_ ?_ ?_
 exact (Zab (pv 3))
 exact Zae
 rfl
 rfl
 refine Zac ?_ ?_
 refine Zar (i := 4) ?_ ?_ ?_ ?_
 exact Zfp.nd
 rfl
 first | exact Or.inl rfl | exact Or.inr rfl
 refine Zau (Zn9 hr.units) ?_ ?_ (fun _ _ => rfl)
 refine Zax F_law_winners (hr.mono (by decide)) ?_ ?_
 rfl
 refine Zag ?_ ?_ ?_
 exact (Zab (pv 3))
 exact Zae
 rfl
 exact Zbr Zae
 refine Zac ?_ Zah
 refine Zcu PassesOwn.never ?_ ?_ ?_ ?_
 rfl
 refine Ze7 ?_ T.n_range ?_
 rfl
 refine Zag ?_ ?_ ?_
 exact Zaf
 refine Zag ?_ ?_ ?_
 refine Zam Za6 ?_ Zaf
 refine Zat Zbl ?_ T.n_len Zd2 ?_
 rfl
 refine Zag ?_ ?_ ?_
 exact Zau ixf (Zab (pv 3)) Zaf (fun _ _ => rfl)
 exact Zae
 rfl
 exact Zae
 rfl
 rfl
 refine Zbo (i := 5) ?_ ?_ ?_
 exact Zfp.nd
 rfl
 first | exact Or.inl rfl | exact Or.inr rfl
 refine Zac ?_ Zah
 refine Zcg ?_ ?_ ?_
 refine Za5 (Zhe hr.units) ?_ (Zab (pv 4)) (Zbc _)
 refine Zau ixf ?_ ?_ (fun _ _ => rfl)
 exact Zau ixf (Zab (pv 3)) Zaf (fun _ _ => rfl)
 exact Zam Zbu (Zab (pv 5)) Zaf
 refine Zac ?_ Zah
 refine Zcg ?_ ?_ Zah
 refine Za5 (Zhe hr.units) ?_ Zcy (Zbc _)
 refine Zax F_law_refused (hr.mono (by decide)) ?_ ?_
 rfl
 refine Zag ?_ ?_ ?_
 exact (Zab (pv 3))
 refine Zag ?_ ?_ ?_
 exact (Zab (pv 5))
 exact Zae
 rfl
 rfl
 refine Zac ?_ Zah
 exact Zaw Zef
 refine Zac ?_ ?_
 refine Zeb (i := 6) (cn := ["claim", "side", "name"]) ?_ (Zew (x := "q") (cn := ["claim", "side", "name"]) (ci := [3, 4, 5]) (by decide +kernel)) ?_ ?_ ?_ ?_ ?_ ?_
 rfl
 refine Ze7 ?_ T.n_range ?_
 rfl
 refine Zag ?_ ?_ ?_
 exact Zaf
 refine Zag ?_ ?_ ?_
 exact Zam Za6 (Zab (pv 5)) Zaf
 exact Zae
 rfl
 rfl
 intro _ _ _ _ _ _
 exact Zca
 intro _ _ _ _ _ _
 refine Zg1 (Zed hr.units) ?_ (Zab (pv 2)) (Zbc _)
 refine Zau (Zn9 hr.units) ?_ ?_ (fun _ _ => rfl)
 refine Zax F_law_winners (hr.mono (by decide)) ?_ ?_
 rfl
 refine Zag ?_ ?_ ?_
 refine Zax F_law_moved (hr.mono (by decide)) ?_ ?_
 rfl
 refine Zag ?_ ?_ ?_
 exact (Zab (pv 1))
 refine Zag ?_ ?_ ?_
 exact (Zab (pv 3))
 refine Zag ?_ ?_ ?_
 exact (Zab (pv 0))
 exact Zae
 rfl
 rfl
 rfl
 exact Zae
 rfl
 exact Zbr Zae
 exact Zfp.nd
 rfl
 rfl
 refine Zac ?_ ?_
 refine Zar (i := 7) ?_ ?_ ?_ ?_
 exact Zfp.nd
 rfl
 first | exact Or.inl rfl | exact Or.inr rfl
 refine Zax F_earliest (hr.mono (by decide)) ?_ ?_
 rfl
 refine Zag ?_ ?_ ?_
 exact (Zab (pv 3))
 refine Zag ?_ ?_ ?_
 exact (Zab (pv 5))
 exact Zae
 rfl
 rfl
 refine Zac ?_ ?_
 refine Zcg ?_ ?_ Zah
 refine PWf.pt ?_
 refine Zuu ?_ ?_
 refine Zo5 ?_
 refine Zgv ?_ (fun _ => rfl)
 refine Zax F_law_whole (hr.mono (by decide)) ?_ ?_
 rfl
 refine Zag ?_ ?_ ?_
 exact (Zab (pv 7))
 exact Zae
 rfl
 refine Zo6 ?_
 refine Zo5 ?_
 refine Zk3 Zmq Zmq Zaf (Zab (pv 7)) (Zab (pv 5)) ?_
 with_unfolding_all rfl
 refine Zac ?_ Zah
 exact Zaw Zef
 refine Zac ?_ Zah
 refine Zcg ?_ ?_ Zah
 refine PWf.pt ?_
 refine Zuu ?_ ?_
 refine Za5 (Zo2 hr.units) Zef ?_ ?_
 refine Zc4 (Zab (pv 6)) Zeq ?_
 refine Zdf ?_
 exact Zam Zbu (Zab (pv 7)) Zaf
 with_unfolding_all rfl
 refine Zo6 ?_
 refine Za5 (Zo2 hr.units) Zef ?_ ?_
 refine Zc4 (Zab (pv 6)) ?_ Zeq
 refine Zdf ?_
 exact Zam Zbu (Zab (pv 7)) Zaf
 with_unfolding_all rfl
 refine Zac ?_ Zah
 exact Zaw Zef
 refine Zac ?_ Zah
 exact Zaw Zef
theorem Zzz (T : Top K mg) : Fn P w K mg base 16 "law" ["script"] Zny := by
 have F_first_numbers := Zgh (P := P) (w := w) (base := base) T
 have F_rows_behind := Zh3 (P := P) (w := w) (base := base) T
 have F_rows_behind_play := Zfc (P := P) (w := w) (base := base) T F_rows_behind F_first_numbers
 have F_other_side := Zjd (P := P) (w := w) (base := base) T
 have F_winner_behind := Zgi (P := P) (w := w) (base := base) T F_other_side F_rows_behind
 have F_winner := Zpt (P := P) (w := w) (base := base) T F_winner_behind F_rows_behind_play
 have F_name_moved := Zjl (P := P) (w := w) (base := base) T
 have F_literal_moved := Zgj (P := P) (w := w) (base := base) T F_name_moved
 have F_row_moved := Zks (P := P) (w := w) (base := base) T F_literal_moved
 have F_moved := Zs7 (P := P) (w := w) (base := base) T F_row_moved
 have F_earliest := Zlv (P := P) (w := w) (base := base) T F_winner F_moved
 have FX_earliest := Zku (P := P) (w := w) (base := base) T F_winner
 have F_law_feed := Zl4 (P := P) (w := w) (base := base) T
 have F_law_take := Zlg (P := P) (w := w) (base := base) T
 have F_law_pick := Zl6 (P := P) (w := w) (base := base) T F_law_take
 have F_law_whole := Zkr (P := P) (w := w) (base := base) T
 have F_law_row := Zof (P := P) (w := w) (base := base) T F_law_take F_law_pick
 have F_law_wide := Zlu (P := P) (w := w) (base := base) T F_law_row F_law_take
 have F_law_claim := Zjw (P := P) (w := w) (base := base) T F_law_take F_law_pick F_law_row
 have F_law_kept := Zlq (P := P) (w := w) (base := base) T
 have F_law_plays := Zjz (P := P) (w := w) (base := base) T
 have F_law_winners := Zh1 (P := P) (w := w) (base := base) T F_law_plays F_law_kept
 have F_law_moved := Zkf (P := P) (w := w) (base := base) T
 have F_law_refused := Zh6 (P := P) (w := w) (base := base) T FX_earliest
 have F_law := Zzf (P := P) (w := w) (base := base) T F_law_refused F_law_whole F_earliest F_law_winners F_law_moved F_law_take F_law_wide F_law_claim F_law_feed
 exact F_law
end
theorem walk {l : PySem.W.OpenLaw} {q : Program} {loose : List Str} {XP : (Str -> Option Value) -> Heap -> Prop} {YP : World -> Heap -> Prop} {d : DefRec} {K : Params -> PySem.W.Frag} (hn : l.most = some 63) (hdf : d.params.defaults = [])
  (hd : d.name = "law") (hY : ∀ (w : World) (h : Heap), YP w h → (K w.params).In h) (hT : ∀ (w : World) (mg : Str → Option Value) (h : Heap), (K w.params).In h → h.Ns mainGlobals mg → Top (K w.params) mg)
  (pure : ∀ ns : List Int, ns.length ≤ 63 -> ∃ Hd', Zny [.fl (ns.map .int)] [] = some (.bl true, Hd')) : PySem.W.WalkO q loose XP YP l.row.toRowW d [] (fun f vs => PySem.call f vs) := by
 refine L2.walk_ofK (n := 63) (k := 16) (x := "script") (CX := CX0) (sp := Zxq Zny) hn (by decide) hdf ⟨rfl, by decide, by decide, rfl⟩ hY (fun w mg fa h KX G hmg => ?_) (Zrm pure) (fun _ _ _ _ z => z)
 have T := hT w mg h KX G
 obtain ⟨f, fd, F, hm⟩ := T.t_law
 have e0 : f = fa := by rw [hd] at hmg; rw [hm] at hmg; cases hmg; rfl
 subst e0
 have B := F.binds (ps := ["script"]) (fun _ _ _ _ _ _ us hl => by obtain ⟨_, rfl⟩ := us1 hl; rfl)
 refine ⟨fd, fun s u => ?_, fun base kb nb => ?_⟩
 ·obtain ⟨oc, od, kV, doc, pm, an, cdv, ct, osl, rfl, lk, hcd⟩ := F.ex
  exact .of_eq rfl
 ·obtain ⟨f', fd', G1, hb, hk, hm', oc', od', osl', lk'⟩ := (Zzz (P := l.prog) (w := w) (base := base) T).ex
  have e1 : f' = f := by rw [hm] at hm'; cases hm'; rfl
  subst e1
  have e2 : fd' = fd := by
   obtain ⟨oc, od, kV, doc, pm, an, cdv, ct, osl, e3, lk, hcd⟩ := F.ex
   rw [lk] at lk'
   have e4 := Option.some.inj lk'
   injection e4 with _ _ e5 _
   injection e5 with e6
   exact e6.symm
  subst e2
  exact G1
end K08
open PySem PySem.W PyProof.Rows L2 DL
set_option maxRecDepth 100000 in
set_option maxHeartbeats 0 in
theorem PySem.Challenge.cw_allsome_k50_how_early_holds : PySem.Challenge.rw_allsome_k50_how_early.Holds := by
 w_on; o_law; refine holds_open (q := (PySem.Challenge.vwOf PySem.Challenge.pw_allsome_k50_how_early)) (loose := []) (Xt := PySem.Challenge.xt0) (XP := XL (PySem.Challenge.vwOf PySem.Challenge.pw_allsome_k50_how_early) []) (Yf := Hook.obs PySem.Challenge.hk0) (Ya := Hook.val PySem.Challenge.hk0) (YP := InK PySem.Challenge.mk0.heap_39) (N := 5560) PySem.Challenge.left0 (Hook.of PySem.Challenge.hk0) (Hook.keeps PySem.Challenge.hk0) (fun s e => xl_of s (Bool.and_eq_true_iff.mp e).1) XL.keeps (by rfl) (by rfl) (by rfl) (fun s e => recFacts_of (Bool.and_eq_true_iff.mp e).2) (by rfl) (by assumption) (by decide +kernel) ⟨rfl, rfl, rfl, rfl, rfl, by decide +kernel⟩ ?hw ?hc
 (case hw => w_witness2)
 k_fill
 refine K08.walk (l := PySem.Challenge.rw_allsome_k50_how_early) rfl rfl rfl (fun w h Y => Y) ?T K08.pure_law
 case T =>
  intro w mg h KX G
  have t_first_numbers : Tf (L2.KOf KX) mg "first_numbers" K08.s_first_numbers := by
   dsimp only [L2.KOf]
   refine' Zdi KX G ?a ?l ?c ?k
   (case a => k_is); (case l => k_is); (case c => k_is); (case k => k_is)
  have t_rows_behind : Tf (L2.KOf KX) mg "rows_behind" K08.s_rows_behind := by
   dsimp only [L2.KOf]
   refine' Zdi KX G ?a ?l ?c ?k
   (case a => k_is); (case l => k_is); (case c => k_is); (case k => k_is)
  have t_rows_behind_play : Tf (L2.KOf KX) mg "rows_behind_play" K08.s_rows_behind_play := by
   dsimp only [L2.KOf]
   refine' Zdi KX G ?a ?l ?c ?k
   (case a => k_is); (case l => k_is); (case c => k_is); (case k => k_is)
  have t_other_side : Tf (L2.KOf KX) mg "other_side" K08.s_other_side := by
   dsimp only [L2.KOf]
   refine' Zdi KX G ?a ?l ?c ?k
   (case a => k_is); (case l => k_is); (case c => k_is); (case k => k_is)
  have t_winner_behind : Tf (L2.KOf KX) mg "winner_behind" K08.s_winner_behind := by
   dsimp only [L2.KOf]
   refine' Zdi KX G ?a ?l ?c ?k
   (case a => k_is); (case l => k_is); (case c => k_is); (case k => k_is)
  have t_winner : Tf (L2.KOf KX) mg "winner" K08.s_winner := by
   dsimp only [L2.KOf]
   refine' Zdi KX G ?a ?l ?c ?k
   (case a => k_is); (case l => k_is); (case c => k_is); (case k => k_is)
  have t_name_moved : Tf (L2.KOf KX) mg "name_moved" K08.s_name_moved := by
   dsimp only [L2.KOf]
   refine' Zdi KX G ?a ?l ?c ?k
   (case a => k_is); (case l => k_is); (case c => k_is); (case k => k_is)
  have t_literal_moved : Tf (L2.KOf KX) mg "literal_moved" K08.s_literal_moved := by
   dsimp only [L2.KOf]
   refine' Zdi KX G ?a ?l ?c ?k
   (case a => k_is); (case l => k_is); (case c => k_is); (case k => k_is)
  have t_row_moved : Tf (L2.KOf KX) mg "row_moved" K08.s_row_moved := by
   dsimp only [L2.KOf]
   refine' Zdi KX G ?a ?l ?c ?k
   (case a => k_is); (case l => k_is); (case c => k_is); (case k => k_is)
  have t_moved : Tf (L2.KOf KX) mg "moved" K08.s_moved := by
   dsimp only [L2.KOf]
   refine' Zdi KX G ?a ?l ?c ?k
   (case a => k_is); (case l => k_is); (case c => k_is); (case k => k_is)
  have t_earliest : Tf (L2.KOf KX) mg "earliest" K08.s_earliest := by
   dsimp only [L2.KOf]
   refine' Zdi KX G ?a ?l ?c ?k
   (case a => k_is); (case l => k_is); (case c => k_is); (case k => k_is)
  have t_law_feed : Tf (L2.KOf KX) mg "_law_feed" K08.s_law_feed := by
   dsimp only [L2.KOf]
   refine' Zdi KX G ?a ?l ?c ?k
   (case a => k_is); (case l => k_is); (case c => k_is); (case k => k_is)
  have t_law_take : Tf (L2.KOf KX) mg "_law_take" K08.s_law_take := by
   dsimp only [L2.KOf]
   refine' Zdi KX G ?a ?l ?c ?k
   (case a => k_is); (case l => k_is); (case c => k_is); (case k => k_is)
  have t_law_pick : Tf (L2.KOf KX) mg "_law_pick" K08.s_law_pick := by
   dsimp only [L2.KOf]
   refine' Zdi KX G ?a ?l ?c ?k
   (case a => k_is); (case l => k_is); (case c => k_is); (case k => k_is)
  have t_law_whole : Tf (L2.KOf KX) mg "_law_whole" K08.s_law_whole := by
   dsimp only [L2.KOf]
   refine' Zdi KX G ?a ?l ?c ?k
   (case a => k_is); (case l => k_is); (case c => k_is); (case k => k_is)
  have t_law_row : Tf (L2.KOf KX) mg "_law_row" K08.s_law_row := by
   dsimp only [L2.KOf]
   refine' Zdi KX G ?a ?l ?c ?k
   (case a => k_is); (case l => k_is); (case c => k_is); (case k => k_is)
  have t_law_wide : Tf (L2.KOf KX) mg "_law_wide" K08.s_law_wide := by
   dsimp only [L2.KOf]
   refine' Zdi KX G ?a ?l ?c ?k
   (case a => k_is); (case l => k_is); (case c => k_is); (case k => k_is)
  have t_law_claim : Tf (L2.KOf KX) mg "_law_claim" K08.s_law_claim := by
   dsimp only [L2.KOf]
   refine' Zdi KX G ?a ?l ?c ?k
   (case a => k_is); (case l => k_is); (case c => k_is); (case k => k_is)
  have t_law_kept : Tf (L2.KOf KX) mg "_law_kept" K08.s_law_kept := by
   dsimp only [L2.KOf]
   refine' Zdi KX G ?a ?l ?c ?k
   (case a => k_is); (case l => k_is); (case c => k_is); (case k => k_is)
  have t_law_plays : Tf (L2.KOf KX) mg "_law_plays" K08.s_law_plays := by
   dsimp only [L2.KOf]
   refine' Zdi KX G ?a ?l ?c ?k
   (case a => k_is); (case l => k_is); (case c => k_is); (case k => k_is)
  have t_law_winners : Tf (L2.KOf KX) mg "_law_winners" K08.s_law_winners := by
   dsimp only [L2.KOf]
   refine' Zdi KX G ?a ?l ?c ?k
   (case a => k_is); (case l => k_is); (case c => k_is); (case k => k_is)
  have t_law_moved : Tf (L2.KOf KX) mg "_law_moved" K08.s_law_moved := by
   dsimp only [L2.KOf]
   refine' Zdi KX G ?a ?l ?c ?k
   (case a => k_is); (case l => k_is); (case c => k_is); (case k => k_is)
  have t_law_refused : Tf (L2.KOf KX) mg "_law_refused" K08.s_law_refused := by
   dsimp only [L2.KOf]
   refine' Zdi KX G ?a ?l ?c ?k
   (case a => k_is); (case l => k_is); (case c => k_is); (case k => k_is)
  have t_law : Tf (L2.KOf KX) mg "law" K08.s_law := by
   dsimp only [L2.KOf]
   refine' Zdi KX G ?a ?l ?c ?k
   (case a => k_is); (case l => k_is); (case c => k_is); (case k => k_is)
  have n_ValueError : mg "ValueError" = none := by
   refine' PySem.W.mg_none_of KX G ?z
   (case z => k_is)
  have n_abs : mg "abs" = none := by
   refine' PySem.W.mg_none_of KX G ?z
   (case z => k_is)
  have n_bool : mg "bool" = none := by
   refine' PySem.W.mg_none_of KX G ?z
   (case z => k_is)
  have n_dict : mg "dict" = none := by
   refine' PySem.W.mg_none_of KX G ?z
   (case z => k_is)
  have n_enumerate : mg "enumerate" = none := by
   refine' PySem.W.mg_none_of KX G ?z
   (case z => k_is)
  have n_int : mg "int" = none := by
   refine' PySem.W.mg_none_of KX G ?z
   (case z => k_is)
  have n_isinstance : mg "isinstance" = none := by
   refine' PySem.W.mg_none_of KX G ?z
   (case z => k_is)
  have n_len : mg "len" = none := by
   refine' PySem.W.mg_none_of KX G ?z
   (case z => k_is)
  have n_list : mg "list" = none := by
   refine' PySem.W.mg_none_of KX G ?z
   (case z => k_is)
  have n_max : mg "max" = none := by
   refine' PySem.W.mg_none_of KX G ?z
   (case z => k_is)
  have n_min : mg "min" = none := by
   refine' PySem.W.mg_none_of KX G ?z
   (case z => k_is)
  have n_range : mg "range" = none := by
   refine' PySem.W.mg_none_of KX G ?z
   (case z => k_is)
  have n_reversed : mg "reversed" = none := by
   refine' PySem.W.mg_none_of KX G ?z
   (case z => k_is)
  have n_sorted : mg "sorted" = none := by
   refine' PySem.W.mg_none_of KX G ?z
   (case z => k_is)
  have n_tuple : mg "tuple" = none := by
   refine' PySem.W.mg_none_of KX G ?z
   (case z => k_is)
  have c_TRUTHS : Gc (L2.KOf KX) mg "TRUTHS" K08.k_TRUTHS := by
   dsimp only [L2.KOf]
   refine' Zoq KX G ?a ?l
   (case a => k_is); (case l => k_is)
  have r_NotWon : ∃ C cV c0 c1 c2 c3 c4 c5 c6, Refu (L2.KOf KX) mg "NotWon" "ClaimError" C cV [c0, c1, c2, c3, c4, c5, c6] ∧ mg "NoBack" = some (.ref c0) ∧ mg "NoLine" = some (.ref c1) ∧ mg "NoPick" = some (.ref c2) ∧ mg "NoRow" = some (.ref c3) ∧ mg "NoStep" = some (.ref c4) ∧ mg "NoText" = some (.ref c5) ∧ mg "TooMany" = some (.ref c6) := by
   dsimp only [L2.KOf]
   refine' ⟨_, _, _, _, _, _, _, _, _, Zwp KX G ?za ?zb ?zf ?zg ?zh ?zi ?zj ?zl ?zm ?zn ?zo ?zp ?zq ?zr ?zs, Zg8 KX G ?zc0, Zg8 KX G ?zc1, Zg8 KX G ?zc2, Zg8 KX G ?zc3, Zg8 KX G ?zc4, Zg8 KX G ?zc5, Zg8 KX G ?zc6⟩
   (case za => k_is); (case zb => k_is)
   (case zc0 => k_is); (case zc1 => k_is); (case zc2 => k_is); (case zc3 => k_is); (case zc4 => k_is); (case zc5 => k_is); (case zc6 => k_is)
   (case zf => k_is); (case zg => k_is); (case zh => k_is); (case zi => k_is); (case zj => k_is); (case zl => k_is); (case zm => k_is); (case zn => k_is); (case zo => k_is)
   (case zp => kernel_rfl); (case zq => kernel_rfl); (case zr => kernel_rfl); (case zs => kernel_rfl)
  exact ⟨t_first_numbers, t_rows_behind, t_rows_behind_play, t_other_side, t_winner_behind, t_winner, t_name_moved, t_literal_moved, t_row_moved, t_moved, t_earliest, t_law_feed, t_law_take, t_law_pick, t_law_whole, t_law_row, t_law_wide, t_law_claim, t_law_kept, t_law_plays, t_law_winners, t_law_moved, t_law_refused, t_law, n_ValueError, n_abs, n_bool, n_dict, n_enumerate, n_int, n_isinstance, n_len, n_list, n_max, n_min, n_range, n_reversed, n_sorted, n_tuple, c_TRUTHS, r_NotWon⟩
