import PyProof.Rows.All
import Wide.All
import OpenK.AllK
import Wide.FinOn
import Lean
import PyProof.EqAt
import PyProof.EqKinds
import PyProof.TupleCall
import KE.KDictList
import KE.KDictOf
import KE.KIntText
import KE.KItemsList
import KE.KSortKey
import KE.KSortTup
import KE.KTryMore
import PyProof.AttrMissHeap
import PyProof.AutoSeq1
import PyProof.ExcAttrAll.ValueError
import PyProof.FitsBits
import PyProof.MeetsStr2
import PyProof.MinMaxWalk
import PyProof.P3Eq
import PyProof.P3In
import PyProof.ReprLen
import PyProof.Rows.DictRows
import PyProof.Rows.Own
import PyProof.Rows.RuleB_bool
import PyProof.Rows.TupIter
import PyProof.SeqI3
import PyProof.StrBlockG
import PyProof.StrOps2
import PyProof.StrWalks
import PyProof.SumWalkG
import PyProof.TupleOfSeq
import PyProof.WalkInts
import PySem.Challenge.RW_allsome_k68_whole_matches_by_turns
set_option Elab.async false
set_option compiler.extract_closed false
set_option bootstrap.genMatcherCode false
set_option linter.all false
set_option maxRecDepth 100000
theorem Zo {α β : Type} {x : Option α} {f : α → Option β} {b : β} (h : x.bind f = some b) : ∃ a, x = some a ∧ f a = some b := Option.bind_eq_some_iff.1 h
theorem Zm {α β : Type} {x : Option α} {f : α → β} {b : β} (h : x.map f = some b) : ∃ a, x = some a ∧ f a = b := Option.map_eq_some_iff.1 h
theorem Zb {α β : Type} (a : α) (f : α → Option β) : (some a).bind f = f a := rfl
section
open PySem PySem.W PyProof.Rows
noncomputable def PySem.Challenge.vwOf (p : Program) : Program := { p with main := { p.main with body := [1, 2, 3, 4, 5, 6, 7, 8, 9, 10, 12, 13, 14, 16, 17, 18, 19, 20, 21, 22, 24, 26, 27, 28, 29, 30, 31, 32, 33, 35, 36, 37, 38, 39, 40, 41, 42, 43, 44, 45].filterMap fun i => p.main.body[i]? } }
local macro_rules | `(tactic| o_head $_) => `(tactic| exact False.elim (by assumption))
set_option maxRecDepth 100000 in
set_option maxHeartbeats 0 in
theorem PySem.Challenge.mk0 : False -> PySem.Challenge.rw_allsome_k68_whole_matches_by_turns.Holds := by
 intro f; w_on; o_law; k_head
noncomputable def PySem.Challenge.hk0 : Hook := kHook PySem.Challenge.mk0.heap_39 [2, 3, 15, 16, 18, 19, 21, 22, 23, 25, 26, 28, 29, 30, 32, 33, 35, 36, 37, 39, 40, 42, 43, 44, 46, 47, 49, 50, 51, 53, 54, 56, 57, 58, 61, 62, 63, 66, 67, 68, 75, 76, 77, 78, 81, 88, 89, 90, 93, 100, 101, 102, 105, 107, 108, 110, 111, 112, 114, 115, 117, 118, 119, 121, 122, 124, 125, 126, 128, 129, 131, 132, 133, 135, 136, 138, 139, 140, 142, 143, 145, 146, 147, 150, 151, 159, 161, 162, 164, 165, 166, 168, 169, 171, 172, 173, 175, 176, 178, 179, 180, 182, 183, 185, 186, 187, 189, 190, 192, 193, 194, 196, 197, 199, 200, 201, 203, 204, 206, 207, 208, 210, 211, 213, 214, 215, 216, 217, 218, 219, 222, 225, 226, 227, 229, 230, 232, 233, 234, 236, 237, 239, 240, 241, 243, 244, 246, 247, 248, 250, 251, 253, 254, 255, 258, 259, 260, 262, 263, 265, 266, 267, 269, 270, 272, 273, 274, 276, 277, 279, 280, 281, 283, 284, 286, 287, 288, 290, 291, 293, 294, 302, 305, 306, 307, 310, 311, 312, 314, 315, 317, 318, 319, 321, 322, 324, 325, 326, 329, 330, 331, 334, 335, 336, 339, 340] (fun _ => by kernel_rfl)
noncomputable def PySem.Challenge.xt0 (s : Shared) : Bool := xlAt (PySem.Challenge.vwOf PySem.Challenge.pw_allsome_k68_whole_matches_by_turns) [] s && recOk (RowW.records (OpenRow.toRowW (OpenLaw.row PySem.Challenge.rw_allsome_k68_whole_matches_by_turns))) s
set_option maxRecDepth 100000 in
theorem PySem.Challenge.left0 : LeftO (OpenLaw.row PySem.Challenge.rw_allsome_k68_whole_matches_by_turns).prog (PySem.Challenge.vwOf PySem.Challenge.pw_allsome_k68_whole_matches_by_turns) [("left_claims" : Str)] PySem.Challenge.xt0 PySem.Challenge.hk0.obs PySem.Challenge.hk0.val 4406 := by
 intro w
 unfold PySem.Challenge.xt0
 rewrite [PySem.W.Fast.te4187177175401517315, PySem.W.Fast.te5923862056798008813, PySem.W.Fast.te2368527892694137696, PySem.W.Fast.te8633842077091820647, PySem.W.Fast.te9357840618998783431, PySem.W.Fast.te14364793385576792824]
 kernel_rfl
end
namespace L2
open PySem PySem.Spec PyProof.Rows
noncomputable abbrev Key := Sum Int Str
noncomputable def Zyq : Key -> Value -> Bool
 | .inl k, v => Value.isInt k v
 | .inr x, v => Value.isStrOf x v
noncomputable def keyH (w : World) : Key -> Int
 | .inl k => hashInt k
 | .inr x => hashStr w x
theorem Zb8 : ∀ {k : Key} {v : Value}, Zyq k v = true -> (∃ i t, k = Sum.inl i ∧ v = Value.int i t) ∨ (∃ x t, k = Sum.inr x ∧ v = Value.str x t)
 | .inl i, v, h => by
  obtain ⟨t, e⟩ := Value.isInt_shape (k := i) (v := v) h
  exact .inl ⟨i, t, rfl, e⟩
 | .inr x, v, h => by
  obtain ⟨t, e⟩ := Value.isStrOf_shape (x := x) (v := v) h
  exact .inr ⟨x, t, rfl, e⟩
theorem Zz5 (a b : Int) : decide ((Sum.inl a : Key) = Sum.inl b) = (a == b) := by
 by_cases e : a = b
 ·subst e; simp
 ·have h : ¬ (Sum.inl a : Key) = Sum.inl b := fun q => e (Sum.inl.inj q)
  rw [decide_eq_false h]
  exact (beq_eq_false_iff_ne.mpr e).symm
theorem Zzl (a b : Str) : decide ((Sum.inr a : Key) = Sum.inr b) = decide (a = b) := by
 by_cases e : a = b
 ·subst e; simp
 ·have h : ¬ (Sum.inr a : Key) = Sum.inr b := fun q => e (Sum.inr.inj q)
  rw [decide_eq_false h, decide_eq_false e]
theorem Zyr (a : Int) (b : Str) : decide ((Sum.inl a : Key) = Sum.inr b) = false := decide_eq_false (fun q => nomatch q)
theorem Zym (a : Str) (b : Int) : decide ((Sum.inr a : Key) = Sum.inl b) = false := decide_eq_false (fun q => nomatch q)
noncomputable def Znk (prog : Program) (w : World) : PySem.KeyKind prog w Key where
 is := Zyq
 hash := keyH w
 inj := fun v a b ha hb => by
  rcases Zb8 ha with ⟨i, t, rfl, rfl⟩ | ⟨x, t, rfl, rfl⟩
  ·rcases Zb8 hb with ⟨j, u, rfl, e⟩ | ⟨y, u, rfl, e⟩
   ·injection e with e1 _; rw [e1]
   ·exact nomatch e
  ·rcases Zb8 hb with ⟨j, u, rfl, e⟩ | ⟨y, u, rfl, e⟩
   ·exact nomatch e
   ·injection e with e1 _; rw [e1]
 byValue := fun k v h => by
  rcases Zb8 h with ⟨i, t, rfl, rfl⟩ | ⟨x, t, rfl, rfl⟩ <;> rfl
 pyHash := fun hv h => by
  rcases Zb8 hv with ⟨i, t, rfl, rfl⟩ | ⟨x, t, rfl, rfl⟩
  ·exact wpAny_pyHash_int h
  ·exact wpAny_pyHash_str h
 eqBool := fun hu hv h => by
  rcases Zb8 hu with ⟨i, t, rfl, rfl⟩ | ⟨x, t, rfl, rfl⟩
  ·rcases Zb8 hv with ⟨j, u, rfl, rfl⟩ | ⟨y, u, rfl, rfl⟩
   ·rw [Zz5] at h; exact wpAny_eqBool_int h
   ·rw [Zyr] at h; exact SeqAt.EqAt.int_str i t y u _ _ _ _ h
  ·rcases Zb8 hv with ⟨j, u, rfl, rfl⟩ | ⟨y, u, rfl, rfl⟩
   ·rw [Zym] at h; exact SeqAt.EqAt.str_int x t j u _ _ _ _ h
   ·rw [Zzl] at h; exact wpAny_eqBool_str h
 «strs» := fun k x t v h => by
  rcases Zb8 h with ⟨i, u, rfl, e⟩ | ⟨y, u, rfl, e⟩
  ·exact nomatch e
  ·injection e with e1 _
   subst e1
   cases v <;> rfl
inductive V where
 | non | bl (b : Bool) | int (i : Int) | str (x : Str) | byt (b : Array UInt8) | flt (b : UInt64) | ref (a : Addr) | ty (n : String)
noncomputable def Zdm : V -> Value -> Prop
 | .non, u => u = Value.none
 | .bl b, u => u = Value.bool b
 | .int i, u => ∃ t, u = Value.int i t
 | .str x, u => ∃ t, u = Value.str x t
 | .byt b, u => ∃ t, u = Value.bytes b t
 | .flt b, u => ∃ t, u = Value.float b t
 | .ref a, u => u = Value.ref a
 | .ty n, u => u = Value.type n
noncomputable abbrev Zca : List V -> List Value -> Prop := Paired Zdm
theorem Zca.length {xs : List V} {us : List Value} (r : Zca xs us) : xs.length = us.length := Paired.length r
theorem Zca.get : ∀ {xs : List V} {us : List Value} {i : Nat} {x : V}, Zca xs us -> xs[i]? = some x -> ∃ u, us[i]? = some u ∧ Zdm x u
 | _, _, _, _, .nil, e => by simp at e
 | _, _, 0, _, .cons r _, e => by simp at e; subst e; exact ⟨_, rfl, r⟩
 | _, _, i + 1, x, .cons _ t, e => by
  obtain ⟨u, h1, h2⟩ := Zca.get (i := i) (x := x) t (by simpa using e)
  exact ⟨u, by simpa using h1, h2⟩
theorem Zca.set {x : V} {u : Value} (r : Zdm x u) : ∀ {xs : List V} {us : List Value} (i : Nat), Zca xs us -> Zca (xs.set i x) (us.set i u)
 | _, _, _, .nil => .nil
 | _, _, 0, .cons _ t => .cons r t
 | _, _, i + 1, .cons q t => .cons q (Zca.set r i t)
theorem Zca.append : ∀ {xs ys : List V} {us ws : List Value}, Zca xs us -> Zca ys ws -> Zca (xs ++ ys) (us ++ ws)
 | _, _, _, _, .nil, s => s
 | _, _, _, _, .cons r t, s => .cons r (Zca.append t s)
theorem Zca.take : ∀ {xs : List V} {us : List Value} (n : Nat), Zca xs us -> Zca (xs.take n) (us.take n)
 | _, _, 0, _ => .nil
 | _, _, _ + 1, .nil => .nil
 | _, _, n + 1, .cons r t => .cons r (Zca.take n t)
theorem Zca.drop : ∀ {xs : List V} {us : List Value} (n : Nat), Zca xs us -> Zca (xs.drop n) (us.drop n)
 | _, _, 0, r => r
 | _, _, _ + 1, .nil => .nil
 | _, _, n + 1, .cons _ t => Zca.drop n t
noncomputable def Zsy : Option V -> Option Value -> Prop
 | some v, some u => Zdm v u
 | none, none => True
 | _, _ => False
noncomputable def KV {κ : Type} : List (κ × V) -> List (κ × Value) -> Prop := Paired fun (p : κ × V) (q : κ × Value) => p.1 = q.1 ∧ Zdm p.2 q.2
noncomputable def kV : Key -> V
 | .inl i => .int i
 | .inr x => .str x
inductive HO where
 | lst (xs : List V)
 | tup (xs : List V)
 | dK (kvs : List (Key × V)) | dT (kvs : List (List Key × V))
 | set (S : Int -> Bool) (n : Nat)
 | ins (C dx : Addr) (fs : List (Str × V))
 | own (x : Addr)
 | xd (fs : List (Str × V))
 | met (f x : Addr)
 | rng (lo hi : Int)
 | frz (o : Obj) (u : HO)
 | tbl (ps : Array Value)
 | ext (φ : Heap -> Prop)
noncomputable abbrev Hp := Addr -> Option HO
noncomputable def upd (H : Hp) (a : Addr) (o : HO) : Hp := fun b => if b = a then some o else H b
theorem Zbi {H : Hp} {a : Addr} {o : HO} : upd H a o a = some o := by unfold upd; rw [if_pos rfl]
theorem Za0 {H : Hp} {a b : Addr} {o : HO} (h : b ≠ a) : upd H a o b = H b := by unfold upd; rw [if_neg h]
theorem Zl9 {H : Hp} {a b : Addr} {o u : HO} (h : H a = some o) (h' : H b = some u) (d : o ≠ u) : a ≠ b := by
 intro e; subst e; rw [h] at h'; exact d (Option.some.inj h')
theorem Za6 {H : Hp} {a b : Addr} {o : HO} (h : H a = some o) (h' : H b = none) : a ≠ b := by
 intro e; subst e; rw [h] at h'; cases h'
noncomputable def Zkr (h : Heap) (a : Addr) (items : Array Value) : Prop := ∃ o, h.get? a = some o ∧ o.cls = .type "tuple" ∧ (∃ n, o.data = .seq items n) ∧ o.dict = none
theorem Zkr.new (h : Heap) (items : Array Value) : Zkr (h.push { cls := .type "tuple", data := .seq items }) h.objs.size items := ⟨_, Heap.get?_push_size _ rfl, rfl, ⟨_, rfl⟩, rfl⟩
theorem Zkr.tup {h : Heap} {a : Addr} {items : Array Value} (x : Zkr h a items) : IsTup h a items := let ⟨o, e, c, d, _⟩ := x; ⟨o, e, c, d⟩
section
variable (P : Program) (w : World)
noncomputable def Zeq (H : Hp) (h : Heap) (a : Addr) : HO -> Prop
 | .lst xs => xs.length ≤ sizeLine ∧ ∃ (its : List Value) (n : Nat), Zca xs its ∧ h.get? a = some { cls := .type "list", data := .seq its.toArray n }
 | .tup xs => xs.length ≤ sizeLine ∧ ∃ its : List Value, Zca xs its ∧ Zkr h a its.toArray
 | .dK kvs => kvs.length ≤ sizeLine ∧ (a == sysModules) = false ∧ ∃ vs, KV kvs vs ∧ h.DictOf (Znk P w) a vs
 | .dT kvs => kvs.length ≤ sizeLine ∧ (a == sysModules) = false ∧ ∃ xs : List (List Key × Addr × Value),
   Paired (fun (p : List Key × V) (q : List Key × Addr × Value) => p.1 = q.1 ∧ H q.2.1 = some (.tup (p.1.map kV)) ∧ Zdm p.2 q.2.2) kvs xs ∧
   ∃ o es ep, h.get? a = some o ∧ o.ExactDict ∧ o.data = .dict es ep ∧ es.toList = xs.map (entryOfKey (tupleKind (Znk P w))) ∧ (xs.map (·.1)).Nodup
 | .set S n => h.SetOf (intKind P w) a S n
 | .ins C dx fs => H dx = some (.own a) ∧ fs.length ≤ 1000 ∧ dx ≠ a ∧ h.get? a = some (PySem.W.instObj C dx) ∧
   ∃ mA, h.Ns1 dx mA ∧ (∀ f, Zsy (fs.lookup f) (mA f)) ∧ PySem.Within mA (fs.map (·.1))
 | .own _ => ∃ o, h.get? a = some o
 | .xd fs => ∃ mA, h.Ns1 a mA ∧ ∀ f, Zsy (fs.lookup f) (mA f)
 | .rng lo hi => ∃ t u v, h.get? a = some { cls := .type "range", data := .fields #[.int lo t, .int hi u, .int 1 v] }
 | .frz o u => h.get? a = some o ∧ Zeq H h a u
 | .tbl ps => h.get? a = some { cls := .none, data := .fields ps }
 | .met f x => h.get? a = some (PySem.W.methodObj (.ref f) (.ref x))
 | .ext φ => φ h ∧ (∃ o, h.get? a = some o) ∧ ∀ h1 h2 : Heap, φ h1 -> (∀ o, h1.get? a = some o -> h2.get? a = some o) -> φ h2
noncomputable def HOk (H : Hp) (h : Heap) : Prop := ∀ a o, H a = some o -> Zeq P w H h a o
end
section
variable {P : Program} {w : World} {H H' : Hp} {h h' : Heap} {a : Addr} {o : HO}
theorem Zeq.lt (x : Zeq P w H h a o) : a < h.objs.size := by
 cases o with
 | lst xs => obtain ⟨_, _, _, _, e⟩ := x; exact Heap.lt_size e
 | tup xs => obtain ⟨_, _, _, p⟩ := x; exact p.tup.lt
 | dK kvs => obtain ⟨_, _, _, _, o, _, _, e, _⟩ := x; exact Heap.lt_size e
 | dT kvs => obtain ⟨_, _, _, _, o, _, _, e, _⟩ := x; exact Heap.lt_size e
 | set S n => obtain ⟨o, _, _, _, e, _⟩ := x; exact Heap.lt_size e
 | ins C dx fs => obtain ⟨_, _, _, e, _⟩ := x; exact Heap.lt_size e
 | own y => obtain ⟨_, e⟩ := x; exact Heap.lt_size e
 | xd fs => obtain ⟨_, ⟨_, _, _, e, _⟩, _⟩ := x; exact Heap.lt_size e
 | rng lo hi => obtain ⟨_, _, _, e⟩ := x; exact Heap.lt_size e
 | frz ob u => obtain ⟨e, _⟩ := x; exact Heap.lt_size e
 | tbl ps => exact Heap.lt_size (show h.get? a = some _ from x)
 | met f y => exact Heap.lt_size (show h.get? a = some _ from x)
 | ext φ => obtain ⟨_, ⟨_, e⟩, _⟩ := x; exact Heap.lt_size e
theorem Paired.mapP {α β : Type} {F G : α -> β -> Prop} : ∀ {l₁ : List α} {l₂ : List β}, Paired F l₁ l₂ -> (∀ a b, F a b -> G a b) -> Paired G l₁ l₂
 | _, _, .nil, _ => .nil
 | _, _, .cons r t, f => .cons (f _ _ r) (Paired.mapP t f)
theorem Zeq.stay (x : Zeq P w H h a o) (k : ∀ b u, (b = a ∨ H b = some (.own a)) -> h.get? b = some u -> h'.get? b = some u)
  (ho : ∀ b, H b = some (.own a) -> H' b = some (.own a)) (ht : ∀ b xs, H b = some (.tup xs) -> H' b = some (.tup xs)) : Zeq P w H' h' a o := by
 induction o with
 | lst xs => obtain ⟨z, its, n, r, e⟩ := x; exact ⟨z, its, n, r, k _ _ (.inl rfl) e⟩
 | tup xs => obtain ⟨z, its, r, ob, e, c⟩ := x; exact ⟨z, its, r, ob, k _ _ (.inl rfl) e, c⟩
 | dK kvs => obtain ⟨z, y, vs, r, ob, es, ep, e, c⟩ := x; exact ⟨z, y, vs, r, ob, es, ep, k _ _ (.inl rfl) e, c⟩
 | dT kvs =>
  obtain ⟨z, y, xs, r, ob, es, ep, e, c⟩ := x
  exact ⟨z, y, xs, Paired.mapP r fun p q z => ⟨z.1, ht _ _ z.2.1, z.2.2⟩, ob, es, ep, k _ _ (.inl rfl) e, c⟩
 | set S n => obtain ⟨ob, es, ep, t, e, c⟩ := x; exact ⟨ob, es, ep, t, k _ _ (.inl rfl) e, c⟩
 | ins C dx fs =>
  obtain ⟨d, z, ne, e, mA, ⟨od, es, ep, e2, c⟩, r⟩ := x
  exact ⟨ho _ d, z, ne, k _ _ (.inl rfl) e, mA, ⟨od, es, ep, k _ _ (.inr d) e2, c⟩, r⟩
 | own y => obtain ⟨ob, e⟩ := x; exact ⟨ob, k _ _ (.inl rfl) e⟩
 | xd fs => obtain ⟨mA, ⟨od, es, ep, e, c⟩, r⟩ := x; exact ⟨mA, ⟨od, es, ep, k _ _ (.inl rfl) e, c⟩, r⟩
 | rng lo hi => obtain ⟨t, u, v, e⟩ := x; exact ⟨t, u, v, k _ _ (.inl rfl) e⟩
 | frz ob u ih => obtain ⟨e, q⟩ := x; exact ⟨k _ _ (.inl rfl) e, ih q⟩
 | tbl ps =>
  have e : h.get? a = some { cls := .none, data := .fields ps } := x
  show h'.get? a = some { cls := .none, data := .fields ps }
  exact k a _ (.inl rfl) e
 | met f y =>
  have e : h.get? a = some (PySem.W.methodObj (.ref f) (.ref y)) := x
  show h'.get? a = some (PySem.W.methodObj (.ref f) (.ref y))
  exact k a _ (.inl rfl) e
 | ext φ => obtain ⟨p, ⟨o, e⟩, st⟩ := x; exact ⟨st _ _ p fun o q => k _ _ (.inl rfl) q, ⟨o, k _ _ (.inl rfl) e⟩, st⟩
theorem HOk.lt (x : HOk P w H h) (e : H a = some o) : a < h.objs.size := (x a o e).lt
theorem HOk.fresh (x : HOk P w H h) (e : h.objs.size ≤ a) : H a = none := by
 cases q : H a with
 | none => rfl
 | some u => exact absurd (Nat.lt_of_lt_of_le (x.lt q) e) (Nat.lt_irrefl _)
theorem HOk.kept (x : HOk P w H h) (k : ∀ b u, h.get? b = some u -> h'.get? b = some u) : HOk P w H h' := fun a o e =>
 (x a o e).stay (fun b u _ q => k b u q) (fun _ q => q) fun _ _ q => q
theorem HOk.laid (x : HOk P w H h) (k : ∀ b u, h.get? b = some u -> h'.get? b = some u) (hp : h.objs.size ≤ a) (new : Zeq P w (upd H a o) h' a o) : HOk P w (upd H a o) h' := fun b u e => by
 have hn := x.fresh hp
 by_cases hb : b = a
 ·subst hb; rw [Zbi] at e; cases e; exact new
 ·rw [Za0 hb] at e
  exact (x b u e).stay (fun c v _ q => k c v q) (fun c q => by rw [Za0 (Za6 q hn)]; exact q) fun c xs q => by rw [Za0 (Za6 q hn)]; exact q
end
noncomputable def Rd (H : Hp) (a : Addr) (u : HO) : Prop := H a = some u ∨ ∃ o, H a = some (.frz o u)
theorem Rd.ok {P : Program} {w : World} {H : Hp} {h : Heap} {a : Addr} {u : HO} (r : Rd H a u) (x : HOk P w H h) : Zeq P w H h a u := by
 rcases r with r | ⟨o, r⟩
 ·exact x a u r
 ·obtain ⟨_, q⟩ := x a _ r
  exact q
noncomputable def Mut : Option HO -> Prop
 | some (.lst _) => True
 | some (.dK _) => True
 | some (.dT _) => True
 | some (.set _ _) => True
 | some (.ins _ _ _) => True
 | some (.ext _) => True
 | _ => False
section
variable {P : Program} {w : World} {H : Hp} {h h' : Heap} {x e : Addr} {o' : HO}
theorem HOk.write (ok : HOk P w H h) (mu : Mut (H x)) (he : e = x ∨ H e = some (.own x)) (k : ∀ b u, b ≠ e -> h.get? b = some u -> h'.get? b = some u) (heo : ∃ u, h'.get? e = some u)
  (new : Zeq P w (upd H x o') h' x o') : HOk P w (upd H x o') h' := fun b u q => by
 have nown : ∀ c y, H c = some (.own y) -> c ≠ x := fun c y r z => by subst z; rw [r] at mu; exact mu
 have ntup : ∀ c xs, H c = some (.tup xs) -> c ≠ x := fun c xs r z => by subst z; rw [r] at mu; exact mu
 by_cases hb : b = x
 ·subst hb; rw [Zbi] at q; cases q; exact new
 ·rw [Za0 hb] at q
  by_cases hbe : b = e
  ·have q' : H b = some (.own x) := by
    rcases he with z | z
    ·exact absurd (hbe.trans z) hb
    ·rw [hbe]; exact z
   rw [q] at q'; cases q'
   obtain ⟨v, hv⟩ := heo
   exact ⟨v, by rw [hbe]; exact hv⟩
  ·refine (ok b u q).stay (fun c v hc r => k c v ?_ r) (fun c r => by rw [Za0 (nown c b r)]; exact r) fun c xs r => by rw [Za0 (ntup c xs r)]; exact r
   rcases hc with rfl | hc
   ·exact hbe
   ·rintro rfl
    rcases he with z | z
    ·exact nown c b hc z
    ·rw [hc] at z; cases z; exact hb rfl
end
structure Un (fs ex : List Addr) (H H' : Hp) (h h' : Heap) : Prop where
 keep : ∀ b o, h.get? b = some o -> H b = none -> b ∉ fs -> b ∉ ex -> h'.get? b = some o
 slot : ∀ b o, h.get? b = some o -> H b = none -> b ∈ fs -> b ∉ ex -> ∃ sl, h'.get? b = some { o with slots := sl }
 free : ∀ b o, h.get? b = some o -> H b = none -> b ∉ ex -> H' b = none
 there : ∀ b o, h.get? b = some o -> b ∉ ex -> ∃ o', h'.get? b = some o'
 tups : ∀ b xs, H b = some (.tup xs) -> H' b = some (.tup xs)
 frzs : ∀ b o u, H b = some (.frz o u) -> H' b = some (.frz o u)
 tbls : ∀ b ps, H b = some (.tbl ps) -> ∃ more, H' b = some (.tbl (ps ++ more))
section
variable {fs fs' ex ex' : List Addr} {H H1 H2 : Hp} {h h1 h2 h' : Heap} {a x e : Addr} {o : HO}
theorem Un.any (u : Un fs ex H H1 h h1) {b : Addr} {ob : Obj} (q : h.get? b = some ob) (n : H b = none) (hx : b ∉ ex) : ∃ sl, h1.get? b = some { ob with slots := sl } := by
 by_cases hb : b ∈ fs
 ·exact u.slot b ob q n hb hx
 ·exact ⟨ob.slots, u.keep b ob q n hb hx⟩
theorem Un.kept (k : ∀ b u, h.get? b = some u -> h'.get? b = some u) : Un fs ex H H h h' :=
 ⟨fun b ob q _ _ _ => k b ob q, fun b ob q _ _ _ => ⟨ob.slots, k b ob q⟩, fun _ _ _ n _ => n, fun b ob q _ => ⟨ob, k b ob q⟩, fun _ _ q => q, fun _ _ _ q => q, fun _ ps q => ⟨#[], by rw [q]; simp⟩⟩
theorem Un.refl : Un fs ex H H h h := Un.kept fun _ _ q => q
theorem Un.laid (k : ∀ b u, h.get? b = some u -> h'.get? b = some u) (hp : h.objs.size ≤ a) (hn : H a = none) : Un fs ex H (upd H a o) h h' where
 keep := fun b u q _ _ _ => k b u q
 slot := fun b u q _ _ _ => ⟨u.slots, k b u q⟩
 free := fun b u q n _ => by rw [Za0 (Nat.ne_of_lt (Nat.lt_of_lt_of_le (Heap.lt_size q) hp))]; exact n
 there := fun b u q _ => ⟨u, k b u q⟩
 tups := fun b xs q => by rw [Za0 (Za6 q hn)]; exact q
 frzs := fun b u xs q => by rw [Za0 (Za6 q hn)]; exact q
 tbls := fun b ps q => ⟨#[], by rw [Za0 (Za6 q hn), q]; simp⟩
theorem Un.write (mu : Mut (H x)) (he : e = x ∨ H e = some (.own x)) (k : ∀ b u, b ≠ e -> h.get? b = some u -> h'.get? b = some u) (heo : ∃ u, h'.get? e = some u) : Un fs ex H (upd H x o) h h' := by
 have hx : ∀ b, H b = none -> b ≠ x := fun b n z => by subst z; rw [n] at mu; exact mu
 have hb : ∀ b, H b = none -> b ≠ e := fun b n z => by
  subst z
  rcases he with r | r
  ·exact hx b n r
  ·rw [n] at r; cases r
 have hm : ∀ b u, H b = some u -> ¬ Mut (some u) -> b ≠ x := fun b u q nm z => by subst z; rw [q] at mu; exact nm mu
 refine ⟨fun b u q n _ _ => k b u (hb b n) q, fun b u q n _ _ => ⟨u.slots, k b u (hb b n) q⟩, fun b u q n _ => by rw [Za0 (hx b n)]; exact n, fun b u q _ => ?_,
  fun b xs q => by rw [Za0 (hm b _ q fun z => z)]; exact q, fun b u xs q => by rw [Za0 (hm b _ q fun z => z)]; exact q, fun b ps q => ⟨#[], by rw [Za0 (hm b _ q fun z => z), q]; simp⟩⟩
 by_cases hbe : b = e
 ·subst hbe; exact heo
 ·exact ⟨u, k b u hbe q⟩
end
noncomputable def trk (h : Heap) (H : Hp) : List Addr := (List.range h.objs.size).filter fun a => (H a).isSome
noncomputable def Zty (h : Heap) (H : Hp) : Heap := PySem.W.hideAll h (trk h H)
theorem Zsi (h : Heap) (H : Hp) : (Zty h H).objs.size = h.objs.size := PySem.W.hideAll_size _ _
theorem Zsz {h : Heap} {H : Hp} {b : Addr} {o : Obj} (e : h.get? b = some o) (n : H b = none) : (Zty h H).get? b = some o :=
 PySem.W.hideAll_get _ e fun hm => by
  have q : (H b).isSome = true := (List.mem_filter.mp hm).2
  rw [n] at q; simp at q
theorem Zxd {h : Heap} {H : Hp} {b : Addr} {o : Obj} (e : (Zty h H).get? b = some o) : h.get? b = some o ∧ H b = none := by
 have e' : h.get? b = some o := PySem.W.of_hideAll (trk h H) e
 refine ⟨e', ?_⟩
 cases q : H b with
 | none => rfl
 | some x =>
  have hm : b ∈ trk h H := List.mem_filter.mpr ⟨List.mem_range.mpr (Heap.lt_size e'), by simp [q]⟩
  have z : (Zty h H).get? b = none := PySem.W.hideAll_none (trk h H) hm
  rw [z] at e; cases e
structure Mod (K : PySem.W.Frag) (mg : Str -> Option Value) (base : Heap) : Prop where
 kin : K.In base
 glob : base.Ns mainGlobals mg
 blt : ∃ mb, base.Ns builtinsNs mb ∧ ∀ x : Str, x ≠ "__name__" → mb x = bootBuiltins x
 nolimit : base.NoLimit
structure Cx where
 prog : Program
 w : World
 K : PySem.W.Frag
 mg : Str -> Option Value
 base : Heap
 A : Around
 N : List Str
 s₀ : Shared
 H₀ : Hp
 env : Env
 outer : List Env
 stack : List Env
 ex : List Addr
 fn : Str -> Bool
 calm : Bool
 pn : List (Addr × Obj)
 xe : Value -> Shared -> Prop
noncomputable def frs (l : List Env) : List Addr := l.filterMap (·.frame)
noncomputable abbrev Cx.fs (X : Cx) : List Addr := frs X.outer
noncomputable def Vis (sc : Scope) (x : Str) : Prop := sc.names.lookup x = some .local ∨ sc.names.lookup x = some .cell ∨ sc.names.lookup x = some .free
noncomputable def Loc (sc : Scope) (x : Str) : Prop := sc.names.lookup x = some .local ∨ sc.names.lookup x = some .cell
noncomputable def Look (env : Env) (h : Heap) (m : Str -> Option Value) (x : Str) (u : Value) : Prop :=
 (env.kindOf x = some .local ∧ m x = some u) ∨ ((env.kindOf x = some .cell ∨ env.kindOf x = some .free) ∧ ∃ c, env.cells.lookup x = some c ∧ h.IsCell c (some u))
structure Cx.Ok (X : Cx) : Prop where
 mod : Mod X.K X.mg X.base
 kind : X.env.scope.kind = .function
 glob : X.env.globals = mainGlobals
 blt : X.env.builtins = builtinsNs
 above : X.s₀.heap.objs.size ≤ X.env.locals
 inj : ∀ x y c, X.env.cells.lookup x = some c -> X.env.cells.lookup y = some c -> x = y
 has : ∀ x, (X.env.kindOf x = some .cell ∨ X.env.kindOf x = some .free) -> ∃ c, X.env.cells.lookup x = some c
 cab : ∀ x c, X.fn x = true -> X.env.cells.lookup x = some c -> X.s₀.heap.objs.size ≤ c
 hd : X.calm = true -> X.A.handled = none
 frames : X.A.frames = some X.stack
 stk : X.stack = X.outer ∨ (X.stack = X.env :: X.outer ∧ X.env.frame = some X.env.locals)
 exf : ∀ b ∈ X.ex, b ≠ X.env.locals ∧ ∀ x c, X.env.cells.lookup x = some c -> c ≠ b
 bs : ∀ b o, X.base.get? b = some o -> X.s₀.heap.get? b = some o ∧ X.H₀ b = none
 bsz : X.base.objs.size ≤ X.s₀.heap.objs.size
 noex : ∀ b o, X.base.get? b = some o -> b ∉ X.ex
 exfs : ∀ b ∈ X.ex, b ∉ X.fs
 funs : X.s₀.heap.FunFrames X.base X.outer
 frf : ∀ b ∈ X.fs, X.H₀ b = none
structure Inv (X : Cx) (pins : List (Addr × Obj)) (σ : List (Option V)) (H : Hp) (s : Shared) : Prop where
 ok : X.Ok
 os : s.os = X.s₀.os
 bare : AllBare s.gens
 base : Un X.fs X.ex X.H₀ H X.s₀.heap s.heap
 loc : ∃ m, s.heap.Ns X.env.locals m ∧ ∀ (i : Nat) (x : Str) (v : V), X.N[i]? = some x -> σ[i]? = some (some v) -> Vis X.env.scope x -> ∃ u, Zdm v u ∧ Look X.env s.heap m x u
 cell : ∀ x c, X.env.cells.lookup x = some c -> ∃ v, s.heap.IsCell c v
 free : H X.env.locals = none
 freeC : ∀ x c, X.env.cells.lookup x = some c -> H c = none
 pin : ∀ p ∈ X.pn ++ pins, s.heap.get? p.1 = some p.2 ∧ H p.1 = none ∧ p.1 ≠ X.env.locals ∧ p.1 ∉ X.fs ∧ ∀ v, p.2.data ≠ .cell v
 hok : HOk X.prog X.w H s.heap
 len : σ.length = X.N.length
section
variable {X : Cx} {pins : List (Addr × Obj)} {σ : List (Option V)} {H H' : Hp} {s : Shared} {h' : Heap}
theorem Cx.Ok.nofr (ok : X.Ok) {b : Addr} {o : Obj} (e : X.base.get? b = some o) : b ∉ X.fs := fun hb => by
 have := (ok.funs.mem hb).1
 rw [e] at this; cases this
theorem Inv.bs (I : Inv X pins σ H s) : ∀ b o, X.base.get? b = some o -> s.heap.get? b = some o ∧ H b = none := fun b o e =>
 ⟨I.base.keep b o (I.ok.bs b o e).1 (I.ok.bs b o e).2 (I.ok.nofr e) (I.ok.noex b o e), I.base.free b o (I.ok.bs b o e).1 (I.ok.bs b o e).2 (I.ok.noex b o e)⟩
theorem Inv.bk (I : Inv X pins σ H s) : ∀ b o, X.base.get? b = some o -> s.heap.get? b = some o := fun b o e => (I.bs b o e).1
theorem Inv.mod (I : Inv X pins σ H s) : Mod X.K X.mg X.base := I.ok.mod
theorem Inv.kIn (I : Inv X pins σ H s) : X.K.In s.heap := I.ok.mod.kin.keeps I.bk
theorem Inv.lt (I : Inv X pins σ H s) : X.env.locals < s.heap.objs.size := let ⟨_, hn, _⟩ := I.loc; hn.lt
theorem Inv.sz (I : Inv X pins σ H s) : X.s₀.heap.objs.size ≤ s.heap.objs.size := Nat.le_trans I.ok.above (Nat.le_of_lt I.lt)
theorem Inv.nofs (I : Inv X pins σ H s) {a : Addr} (h : s.heap.objs.size ≤ a) : a ∉ X.fs := fun hb => by
 obtain ⟨_, o, ho, _⟩ := I.ok.funs.mem hb
 exact absurd (Nat.lt_of_lt_of_le (Heap.lt_size ho) (Nat.le_trans I.sz h)) (Nat.lt_irrefl _)
theorem Inv.cne (I : Inv X pins σ H s) : ∀ x c, X.env.cells.lookup x = some c -> c ≠ X.env.locals := fun x c e z => by
 obtain ⟨v, o, ho, hd⟩ := I.cell x c e
 obtain ⟨m, ⟨o', es, ep, ho', hd', _⟩, _⟩ := I.loc
 rw [z, ho'] at ho; cases ho; rw [hd'] at hd; cases hd
theorem Inv.funs (I : Inv X pins σ H s) : s.heap.FunFrames X.base X.outer := by
 have all : ∀ (l : List Env), (∀ b ∈ frs l, b ∈ X.fs) -> X.s₀.heap.FunFrames X.base l -> s.heap.FunFrames X.base l := by
  intro l
  induction l with
  | nil => intro _ _; trivial
  | cons env r ih =>
   intro hs hl
   obtain ⟨hk, ⟨L, o, hf, hn, ho, hd⟩, hr⟩ := hl
   have hL : L ∈ X.fs := hs L (by unfold frs; rw [List.filterMap_cons, hf]; exact List.mem_cons_self)
   obtain ⟨sl, e⟩ := I.base.slot L o ho (I.ok.frf L hL) hL fun z => I.ok.exfs L z hL
   exact ⟨hk, ⟨L, _, hf, hn, e, hd⟩, ih (fun b hb => hs b (by unfold frs; rw [List.filterMap_cons, hf]; exact List.mem_cons_of_mem _ hb)) hr⟩
 exact all X.outer (fun _ hb => hb) I.ok.funs
theorem Inv.stack (I : Inv X pins σ H s) : s.heap.FunFrames X.base X.stack := by
 rcases I.ok.stk with e | ⟨e, hf⟩
 ·rw [e]; exact I.funs
 ·rw [e]
  obtain ⟨m, hn, _⟩ := I.loc
  refine .cons (by rw [I.ok.kind]; decide) hf hn ?_ I.funs
  exact Heap.get?_none_of_le (Nat.le_trans I.ok.bsz I.ok.above)
theorem Inv.stkSub (I : Inv X pins σ H s) : ∀ b ∈ frs X.stack, b ∈ X.env.locals :: X.fs := fun b hb => by
 rcases I.ok.stk with e | ⟨e, hf⟩
 ·rw [e] at hb; exact List.mem_cons_of_mem _ hb
 ·rw [e] at hb
  unfold frs at hb
  rw [List.filterMap_cons, hf] at hb
  exact hb
theorem Inv.stkFree (I : Inv X pins σ H s) : ∀ b ∈ frs X.stack, H b = none := fun b hb => by
 rcases List.mem_cons.mp (I.stkSub b hb) with e | hb
 ·rw [e]; exact I.free
 ·obtain ⟨_, o, ho, _⟩ := I.ok.funs.mem hb
  exact I.base.free b o ho (I.ok.frf b hb) fun z => I.ok.exfs b z hb
theorem Inv.step {g' : Array GenState} {t' : Nat} {d' : Drawn} {ch : List Addr} (I : Inv X pins σ H s)
  (hch : ∀ b ∈ ch, (b ∈ X.ex ∨ X.s₀.heap.objs.size ≤ b) ∧ b ≠ X.env.locals ∧ (∀ x c, X.env.cells.lookup x = some c -> c ≠ b) ∧ ∀ p ∈ X.pn ++ pins, p.1 ≠ b)
  (keep : ∀ b o, b ≠ X.env.locals -> b ∉ X.fs -> b ∉ ch -> s.heap.get? b = some o -> H b = none -> h'.get? b = some o)
  (slot : ∀ b o, b ≠ X.env.locals -> b ∈ X.fs -> b ∉ ch -> s.heap.get? b = some o -> H b = none -> ∃ sl, h'.get? b = some { o with slots := sl }) (free : ∀ b o, b ∉ ch -> s.heap.get? b = some o -> H b = none -> H' b = none)
  (there : ∀ b o, b ∉ ch -> s.heap.get? b = some o -> ∃ o', h'.get? b = some o')
  (tups : ∀ b xs, H b = some (.tup xs) -> H' b = some (.tup xs)) (frzs : ∀ b o u, H b = some (.frz o u) -> H' b = some (.frz o u)) (tbls : ∀ b ps, H b = some (.tbl ps) -> ∃ more, H' b = some (.tbl (ps ++ more)))
  (ns : ∀ m, s.heap.Ns X.env.locals m -> h'.Ns X.env.locals m) (hok : HOk X.prog X.w H' h') (hg : AllBare g') :
  Inv X pins σ H' { s with heap := h', gens := g', drawn := d', toks := t' } := by
 have neL : ∀ b o, X.s₀.heap.get? b = some o -> b ≠ X.env.locals := fun b o e => Nat.ne_of_lt (Nat.lt_of_lt_of_le (Heap.lt_size e) I.ok.above)
 have neC : ∀ b o, X.s₀.heap.get? b = some o -> b ∉ X.ex -> b ∉ ch := fun b o e hx hb => by
  rcases (hch b hb).1 with z | z
  ·exact hx z
  ·exact absurd (Nat.lt_of_lt_of_le (Heap.lt_size e) z) (Nat.lt_irrefl _)
 have cellK : ∀ x c, X.env.cells.lookup x = some c -> ∀ v, s.heap.IsCell c v -> h'.IsCell c v := fun x c e v ⟨o, ho, hd⟩ => by
  have nch : c ∉ ch := fun z => (hch c z).2.2.1 x c e rfl
  by_cases hc : c ∈ X.fs
  ·obtain ⟨sl, q⟩ := slot c o (I.cne x c e) hc nch ho (I.freeC x c e)
   exact ⟨_, q, hd⟩
  ·exact ⟨o, keep c o (I.cne x c e) hc nch ho (I.freeC x c e), hd⟩
 refine ⟨I.ok, I.os, hg, ⟨fun b o e n hb hx => ?_, fun b o e n hb hx => ?_, fun b o e n hx => ?_, fun b o e hx => ?_, fun b xs e => tups b xs (I.base.tups b xs e), fun b o xs e => frzs b o xs (I.base.frzs b o xs e), fun b ps e => ?_⟩, ?_, fun x c e => ?_, ?_, fun x c e => ?_, fun p hp => ?_, hok, I.len⟩
 ·exact keep b o (neL b o e) hb (neC b o e hx) (I.base.keep b o e n hb hx) (I.base.free b o e n hx)
 ·obtain ⟨sl, e1⟩ := I.base.slot b o e n hb hx
  obtain ⟨sl', e2⟩ := slot b _ (neL b o e) hb (neC b o e hx) e1 (I.base.free b o e n hx)
  exact ⟨sl', e2⟩
 ·obtain ⟨o', e1⟩ := I.base.there b o e hx
  exact free b o' (neC b o e hx) e1 (I.base.free b o e n hx)
 ·obtain ⟨o', e1⟩ := I.base.there b o e hx
  exact there b o' (neC b o e hx) e1
 ·obtain ⟨m1, e1⟩ := I.base.tbls b ps e
  obtain ⟨m2, e2⟩ := tbls b _ e1
  exact ⟨m1 ++ m2, by rw [e2, Array.append_assoc]⟩
 ·obtain ⟨m, hn, hl⟩ := I.loc
  refine ⟨m, ns m hn, fun i x v e1 e2 e3 => ?_⟩
  obtain ⟨u, r, l⟩ := hl i x v e1 e2 e3
  refine ⟨u, r, ?_⟩
  rcases l with l | ⟨k, c, e, z⟩
  ·exact .inl l
  ·exact .inr ⟨k, c, e, cellK x c e _ z⟩
 ·obtain ⟨v, z⟩ := I.cell x c e
  exact ⟨v, cellK x c e v z⟩
 ·obtain ⟨m, ⟨o, _, _, ho, _⟩, _⟩ := I.loc
  exact free _ o (fun z => (hch _ z).2.1 rfl) ho I.free
 ·obtain ⟨v, o, ho, hd⟩ := I.cell x c e
  exact free c o (fun z => (hch c z).2.2.1 x c e rfl) ho (I.freeC x c e)
 ·obtain ⟨e, n, ne, nf, d⟩ := I.pin p hp
  have nch : p.1 ∉ ch := fun z => (hch p.1 z).2.2.2 p hp rfl
  exact ⟨keep p.1 p.2 ne nf nch e n, free p.1 p.2 nch e n, ne, nf, d⟩
theorem Inv.un {t' : Nat} (I : Inv X pins σ H s) (u : Un X.fs [] H H' s.heap h') (hok : HOk X.prog X.w H' h') : Inv X pins σ H' { s with heap := h', toks := t' } := by
 obtain ⟨m, ⟨o, es, ep, ho, r⟩, _⟩ := id I.loc
 obtain ⟨sl, hL⟩ := u.any ho I.free (by simp)
 exact I.step (g' := s.gens) (d' := s.drawn) (ch := []) (fun _ z => nomatch z) (fun b o _ hb _ e n => u.keep b o e n hb (by simp)) (fun b o _ hb _ e n => u.slot b o e n hb (by simp)) (fun b o _ e n => u.free b o e n (by simp)) (fun b o _ e => u.there b o e (by simp)) u.tups u.frzs u.tbls (fun m' hm => by
  obtain ⟨o', es', ep', ho', r'⟩ := hm
  rw [ho] at ho'; cases ho'
  exact ⟨_, es', ep', hL, r'⟩) hok I.bare
theorem Inv.call {g' : Array GenState} {t' : Nat} {d' : Drawn} {ch : List Addr} (I : Inv X pins σ H s) (u : Un (frs X.stack) ch H H' s.heap h') (hok : HOk X.prog X.w H' h') (hg : AllBare g')
  (hch : ∀ b ∈ ch, (b ∈ X.ex ∨ X.s₀.heap.objs.size ≤ b) ∧ b ≠ X.env.locals ∧ (∀ x c, X.env.cells.lookup x = some c -> c ≠ b) ∧ ∀ p ∈ X.pn ++ pins, p.1 ≠ b) :
  Inv X pins σ H' { s with heap := h', gens := g', drawn := d', toks := t' } := by
 obtain ⟨m, ⟨o, es, ep, ho, r⟩, _⟩ := id I.loc
 obtain ⟨sl, hL⟩ := u.any ho I.free fun z => (hch _ z).2.1 rfl
 exact I.step (ch := ch) hch (fun b o hL hb hc e n => u.keep b o e n (fun z => (List.mem_cons.mp (I.stkSub b z)).elim hL hb) hc) (fun b o _ _ hc e n => u.any e n hc) (fun b o hc e n => u.free b o e n hc) (fun b o hc e => u.there b o e hc) u.tups u.frzs u.tbls (fun m' hm => by
  obtain ⟨o', es', ep', ho', r'⟩ := hm
  rw [ho] at ho'; cases ho'
  exact ⟨_, es', ep', hL, r'⟩) hok hg
theorem Inv.turned {t' : Nat} {it : Addr} (I : Inv X pins σ H s) (k : ∀ b o, b ≠ it -> s.heap.get? b = some o -> h'.get? b = some o) (hn : H it = none) (hL : it ≠ X.env.locals)
  (h1 : it ∈ X.ex ∨ X.s₀.heap.objs.size ≤ it) (h2 : ∀ x c, X.env.cells.lookup x = some c -> c ≠ it) (h3 : ∀ p ∈ X.pn ++ pins, p.1 ≠ it) : Inv X pins σ H { s with heap := h', toks := t' } := by
 have nit : ∀ b u, H b = some u -> b ≠ it := fun b u e z => by rw [z, hn] at e; cases e
 refine I.step (g' := s.gens) (d' := s.drawn) (ch := [it]) (fun b hb => ?_) (fun b o _ _ hc e _ => k b o (fun z => hc (by simp [z])) e) (fun b o _ _ hc e _ => ⟨o.slots, k b o (fun z => hc (by simp [z])) e⟩) (fun _ _ _ _ n => n)
  (fun b o hc e => ⟨o, k b o (fun z => hc (by simp [z])) e⟩) (fun _ _ e => e) (fun _ _ _ e => e) (fun b ps e => ⟨#[], by rw [e]; simp⟩) (fun m hm => ?_) (fun b u e => ?_) I.bare
 ·have e : b = it := by simpa using hb
  subst e
  exact ⟨h1, hL, h2, h3⟩
 ·obtain ⟨o, es, ep, ho, r⟩ := hm
  exact ⟨o, es, ep, k _ o (Ne.symm hL) ho, r⟩
 ·refine (I.hok b u e).stay (fun c v hc q => k c v ?_ q) (fun _ q => q) fun _ _ q => q
  rcases hc with z | z
  ·rw [z]; exact nit b u e
  ·exact nit c _ z
theorem Inv.tok (I : Inv X pins σ H s) (t : Nat) : Inv X pins σ H { s with toks := t } := I.un (h' := s.heap) (t' := t) Un.refl I.hok
theorem Inv.kept {t' : Nat} (I : Inv X pins σ H s) (k : ∀ b u, s.heap.get? b = some u -> h'.get? b = some u) : Inv X pins σ H { s with heap := h', toks := t' } := I.un (Un.kept k) (I.hok.kept k)
theorem Inv.laid {a : Addr} {o : HO} {t' : Nat} (I : Inv X pins σ H s) (k : ∀ b u, s.heap.get? b = some u -> h'.get? b = some u) (hp : s.heap.objs.size ≤ a) (new : Zeq X.prog X.w (upd H a o) h' a o) :
  Inv X pins σ (upd H a o) { s with heap := h', toks := t' } := I.un (Un.laid k hp (I.hok.fresh hp)) (I.hok.laid k hp new)
theorem Inv.write {x e : Addr} {o : HO} {t' : Nat} (I : Inv X pins σ H s) (mu : Mut (H x)) (he : e = x ∨ H e = some (.own x)) (k : ∀ b u, b ≠ e -> s.heap.get? b = some u -> h'.get? b = some u) (heo : ∃ u, h'.get? e = some u)
  (new : Zeq X.prog X.w (upd H x o) h' x o) : Inv X pins σ (upd H x o) { s with heap := h', toks := t' } := I.un (Un.write mu he k heo) (I.hok.write mu he k heo new)
theorem Inv.pins_of {pins' : List (Addr × Obj)} (I : Inv X pins σ H s) (h : ∀ p ∈ pins', s.heap.get? p.1 = some p.2 ∧ H p.1 = none ∧ p.1 ≠ X.env.locals ∧ p.1 ∉ X.fs ∧ ∀ v, p.2.data ≠ .cell v) : Inv X pins' σ H s :=
 ⟨I.ok, I.os, I.bare, I.base, I.loc, I.cell, I.free, I.freeC, fun p hp => (List.mem_append.mp hp).elim (fun z => I.pin p (List.mem_append_left _ z)) (h p), I.hok, I.len⟩
theorem Zob {N : List Str} (hN : N.Nodup) {i j : Nat} {x : Str} (a : N[i]? = some x) (b : N[j]? = some x) : i = j := by
 obtain ⟨h1, e1⟩ := List.getElem?_eq_some_iff.mp a
 obtain ⟨h2, e2⟩ := List.getElem?_eq_some_iff.mp b
 exact (List.getElem_inj hN).mp (e1.trans e2.symm)
theorem Zlq {M : Model} {A : Around} {E : Value -> Shared -> Prop} {i : Nat} {x : Str} {v : V} {u : Value} {Q : Unit -> Shared -> Prop} (I : Inv X pins σ H s) (hN : X.N.Nodup) (hi : X.N[i]? = some x) (hx : Loc X.env.scope x) (r : Zdm v u)
  (h : ∀ s', Inv X pins (σ.set i (some v)) H s' -> (∃ a, Heap.SameBut a s.heap s'.heap ∧ (a = X.env.locals ∨ X.env.cells.lookup x = some a)) -> Q () s') (hf : X.fn x = true ∨ X.env.scope.names.lookup x = some .local := by first | exact .inl rfl | exact .inr rfl | assumption) : wpAny M A (storeName X.env x u) Q E s := by
 obtain ⟨m, hn, hl⟩ := id I.loc
 have hcls : (X.env.scope.kind == .class || (X.env.scope.kind == .module && X.env.locals != X.env.globals)) = false := by rw [I.ok.kind]; rfl
 have hiσ : i < σ.length := by rw [I.len]; exact (List.getElem?_eq_some_iff.mp hi).1
 have cne := I.cne
 have tracked : ∀ {a : Addr} {h' : Heap}, (∃ o, s.heap.get? a = some o ∧ H a = none) -> Heap.SameBut a s.heap h' -> HOk X.prog X.w H h' := fun {a h'} ha hs b ob e => by
  obtain ⟨_, _, hfree⟩ := ha
  refine (I.hok b ob e).stay (fun c w' hc q => (hs.2 c ?_).trans q) (fun _ q => q) fun _ _ q => q
  rintro rfl
  rcases hc with rfl | hc
  ·rw [hfree] at e; cases e
  ·rw [hfree] at hc; cases hc
 rcases hx with hk | hk
 ·refine wpAny_storeName_local hk hn (fun h' hn' hs => ?_) hcls
  obtain ⟨oL, _, _, hoL, _⟩ := id hn
  refine h _ ⟨I.ok, I.os, I.bare, ⟨fun b o e n hb hx => ?_, fun b o e n hb hx => ?_, I.base.free, fun b o e hx => ?_, I.base.tups, I.base.frzs, I.base.tbls⟩, ⟨_, hn', fun j y v' e1 e2 e3 => ?_⟩, fun y c e => ?_, I.free, I.freeC, fun p hp => ?_, tracked ⟨oL, hoL, I.free⟩ hs, by simpa using I.len⟩ ⟨_, hs, .inl rfl⟩
  ·exact (hs.2 b (Nat.ne_of_lt (Nat.lt_of_lt_of_le (Heap.lt_size e) I.ok.above))).trans (I.base.keep b o e n hb hx)
  ·obtain ⟨sl, e1⟩ := I.base.slot b o e n hb hx
   exact ⟨sl, (hs.2 b (Nat.ne_of_lt (Nat.lt_of_lt_of_le (Heap.lt_size e) I.ok.above))).trans e1⟩
  ·obtain ⟨o', e1⟩ := I.base.there b o e hx
   exact ⟨o', (hs.2 b (Nat.ne_of_lt (Nat.lt_of_lt_of_le (Heap.lt_size e) I.ok.above))).trans e1⟩
  ·by_cases hj : j = i
   ·subst hj
    rw [hi] at e1; cases e1
    rw [List.getElem?_set_self hiσ] at e2
    cases e2
    exact ⟨u, r, .inl ⟨hk, by simp⟩⟩
   ·rw [List.getElem?_set_ne (Ne.symm hj)] at e2
    obtain ⟨u', r', q⟩ := hl j y v' e1 e2 e3
    refine ⟨u', r', ?_⟩
    rcases q with ⟨k, e⟩ | ⟨k, c, e, z⟩
    ·refine .inl ⟨k, ?_⟩
     have : y ≠ x := fun e => hj (Zob hN e1 (e ▸ hi))
     simp [this, e]
    ·exact .inr ⟨k, c, e, z.sameBut hs (cne y c e)⟩
  ·obtain ⟨w', z⟩ := I.cell y c e
   exact ⟨w', z.sameBut hs (cne y c e)⟩
  ·obtain ⟨e, n, ne, nf, d⟩ := I.pin p hp
   exact ⟨(hs.2 p.1 ne).trans e, n, ne, nf, d⟩
 ·have hfn : X.fn x = true := by
   rcases hf with z | z
   ·exact z
   ·rw [z] at hk; cases hk
  obtain ⟨c, hc⟩ := I.ok.has x (.inl hk)
  obtain ⟨w', z⟩ := I.cell x c hc
  refine wpAny_storeName_cell I.ok.kind hk hc z (fun h' hc' hs => ?_)
  obtain ⟨oc, hoc, hocd⟩ := id z
  refine h { s with heap := h' } ⟨I.ok, I.os, I.bare, ⟨fun b o e n hb hx => ?_, fun b o e n hb hx => ?_, I.base.free, fun b o e hx => ?_, I.base.tups, I.base.frzs, I.base.tbls⟩, ⟨m, hn.sameBut hs (Ne.symm (cne x c hc)), fun j y v' e1 e2 e3 => ?_⟩, fun y c' e => ?_, I.free, I.freeC, fun p hp => ?_, tracked ⟨oc, hoc, I.freeC x c hc⟩ hs, by simpa using I.len⟩ ⟨c, hs, .inr hc⟩
  ·exact (hs.2 b (Nat.ne_of_lt (Nat.lt_of_lt_of_le (Heap.lt_size e) (I.ok.cab x c hfn hc)))).trans (I.base.keep b o e n hb hx)
  ·obtain ⟨sl, e1⟩ := I.base.slot b o e n hb hx
   exact ⟨sl, (hs.2 b (Nat.ne_of_lt (Nat.lt_of_lt_of_le (Heap.lt_size e) (I.ok.cab x c hfn hc)))).trans e1⟩
  ·obtain ⟨o', e1⟩ := I.base.there b o e hx
   exact ⟨o', (hs.2 b (Nat.ne_of_lt (Nat.lt_of_lt_of_le (Heap.lt_size e) (I.ok.cab x c hfn hc)))).trans e1⟩
  ·by_cases hj : j = i
   ·subst hj
    rw [hi] at e1; cases e1
    rw [List.getElem?_set_self hiσ] at e2
    cases e2
    exact ⟨u, r, .inr ⟨.inl hk, c, hc, hc'⟩⟩
   ·rw [List.getElem?_set_ne (Ne.symm hj)] at e2
    obtain ⟨u', r', q⟩ := hl j y v' e1 e2 e3
    refine ⟨u', r', ?_⟩
    rcases q with q | ⟨k, c', e, z'⟩
    ·exact .inl q
    ·refine .inr ⟨k, c', e, z'.sameBut hs ?_⟩
     rintro rfl
     exact hj (Zob hN e1 (I.ok.inj _ _ _ e hc ▸ hi))
  ·by_cases hcc : c' = c
   ·subst hcc; exact ⟨_, hc'⟩
   ·obtain ⟨w2, z2⟩ := I.cell y c' e
    exact ⟨w2, z2.sameBut hs hcc⟩
  ·obtain ⟨e, n, ne, nf, d⟩ := I.pin p hp
   refine ⟨(hs.2 p.1 ?_).trans e, n, ne, nf, d⟩
   intro q
   rw [q, hoc] at e
   have q' : oc = p.2 := Option.some.inj e
   exact d w' (by rw [← q']; exact hocd)
theorem Zov {M : Model} {A : Around} {E : Value -> Shared -> Prop} {i : Nat} {x : Str} {v : V} {u : Value} {Q : Unit -> Shared -> Prop} (I : Inv X pins σ H s) (hN : X.N.Nodup) (hi : X.N[i]? = some x) (hx : Loc X.env.scope x) (r : Zdm v u)
  (h : ∀ s', Inv X pins (σ.set i (some v)) H s' -> Q () s') (hf : X.fn x = true ∨ X.env.scope.names.lookup x = some .local := by first | exact .inl rfl | exact .inr rfl | assumption) : wpAny M A (storeName X.env x u) Q E s :=
 Zlq I hN hi hx r (fun s' I' _ => h s' I') hf
theorem Inv.call' {s' : Shared} {ch : List Addr} (I : Inv X pins σ H s) (ho : s'.os = s.os) (u : Un (frs X.stack) ch H H' s.heap s'.heap) (hok : HOk X.prog X.w H' s'.heap) (hg : AllBare s'.gens)
  (hch : ∀ b ∈ ch, (b ∈ X.ex ∨ X.s₀.heap.objs.size ≤ b) ∧ b ≠ X.env.locals ∧ (∀ x c, X.env.cells.lookup x = some c -> c ≠ b) ∧ ∀ p ∈ X.pn ++ pins, p.1 ≠ b) : Inv X pins σ H' s' := by
 obtain ⟨h', g', d', t', o'⟩ := s'
 have e : o' = s.os := ho
 subst e
 exact I.call (g' := g') (t' := t') (d' := d') u hok hg hch
end
noncomputable abbrev XK := Value -> Option Addr -> Hp -> Prop
noncomputable abbrev St := List (Option V)
noncomputable abbrev VK := V -> Hp -> Prop
noncomputable abbrev TE := St -> Hp -> VK -> Prop
noncomputable abbrev TT := St -> Hp -> (Bool -> Hp -> Prop) -> Prop
noncomputable abbrev TA := St -> Hp -> (List V -> Hp -> Prop) -> Prop
structure Ends where
 nx : St -> Hp -> Prop
 rt : VK
 bk : St -> Hp -> Prop := fun _ _ => False
 ct : St -> Hp -> Prop := fun _ _ => False
noncomputable abbrev TS := Ends -> St -> Hp -> Prop
noncomputable def EP (X : Cx) (pins : List (Addr × Obj)) (σ : St) (Q : VK) (u : Value) (s' : Shared) : Prop := ∃ v H', Inv X pins σ H' s' ∧ Zdm v u ∧ Q v H'
noncomputable def TP (X : Cx) (pins : List (Addr × Obj)) (σ : St) (Q : Bool -> Hp -> Prop) (b : Bool) (s' : Shared) : Prop := ∃ H', Inv X pins σ H' s' ∧ Q b H'
noncomputable def AP (X : Cx) (pins : List (Addr × Obj)) (σ : St) (Q : List V -> Hp -> Prop) (us : List Value) (s' : Shared) : Prop := ∃ vs H', Inv X pins σ H' s' ∧ Zca vs us ∧ Q vs H'
noncomputable def SP (X : Cx) (pins : List (Addr × Obj)) (D : Ends) (f : Flow) (s' : Shared) : Prop :=
 match f with
 | .next => ∃ σ' H', Inv X pins σ' H' s' ∧ D.nx σ' H'
 | .brk => ∃ σ' H', Inv X pins σ' H' s' ∧ D.bk σ' H'
 | .cont => ∃ σ' H', Inv X pins σ' H' s' ∧ D.ct σ' H'
 | .ret u => ∃ v σ' H', Inv X pins σ' H' s' ∧ Zdm v u ∧ D.rt v H'
noncomputable def PE (X : Cx) (e : Expr) (t : TE) : Prop :=
 ∀ (pins : List (Addr × Obj)) (s : Shared) (σ : St) (H : Hp) (Q : VK), Inv X pins σ H s -> t σ H Q -> wpAny (model X.prog X.w) X.A (eval e X.env) (EP X pins σ Q) X.xe s
noncomputable def PT (X : Cx) (e : Expr) (t : TT) : Prop :=
 ∀ (pins : List (Addr × Obj)) (s : Shared) (σ : St) (H : Hp) (Q : Bool -> Hp -> Prop), Inv X pins σ H s -> t σ H Q -> wpAny (model X.prog X.w) X.A (isTrue e X.env (eval e X.env)) (TP X pins σ Q) X.xe s
noncomputable def PW (X : Cx) (e : Expr) (t : TT) : Prop :=
 ∀ (whole : Sem Value) (pins : List (Addr × Obj)) (s : Shared) (σ : St) (H : Hp) (Q : Bool -> Hp -> Prop), Inv X pins σ H s -> t σ H Q -> wpAny (model X.prog X.w) X.A (isTrue e X.env whole) (TP X pins σ Q) X.xe s
noncomputable def PA (X : Cx) (es : List Expr) (t : TA) : Prop :=
 ∀ (pos : Pos) (pins : List (Addr × Obj)) (s : Shared) (σ : St) (H : Hp) (Q : List V -> Hp -> Prop), Inv X pins σ H s -> t σ H Q -> wpAny (model X.prog X.w) X.A (spliced (backTo pos (starEach es X.env))) (AP X pins σ Q) X.xe s
noncomputable def PS (X : Cx) (st : Stmt) (t : TS) : Prop :=
 ∀ (pins : List (Addr × Obj)) (s : Shared) (σ : St) (H : Hp) (D : Ends), Inv X pins σ H s -> t D σ H -> wpAny (model X.prog X.w) X.A (exec st X.env) (SP X pins D) X.xe s
noncomputable def PSs (X : Cx) (st : List Stmt) (t : TS) : Prop :=
 ∀ (pins : List (Addr × Obj)) (s : Shared) (σ : St) (H : Hp) (D : Ends), Inv X pins σ H s -> t D σ H -> wpAny (model X.prog X.w) X.A (execs st X.env) (SP X pins D) X.xe s
theorem thn {α : Type} {t : Sem α} {Q Q' : α -> Shared -> Prop} {M : Model} {A : Around} {E : Value -> Shared -> Prop} {s : Shared} (h : wpAny M A t Q E s) (hQ : ∀ a s, Q a s -> Q' a s) : wpAny M A t Q' E s := wpAny_mono h hQ fun _ _ x => x
section
variable {X : Cx}
noncomputable def tVar (i : Nat) : TE := fun σ H Q => ∃ v, σ[i]? = some (some v) ∧ Q v H
noncomputable def tC (v : V) : TE := fun _ H Q => Q v H
theorem Zz4 {i : Nat} {x : Str} {pos : Pos} (hN : X.N[i]? = some x) (hv : Vis X.env.scope x) (hd : (x == ("__debug__" : Str)) = false := by decide) (hcd : (x == ("__classdict__" : Str)) = false := by decide) : PE X (.Name x pos) (tVar i) := by
 intro pins s σ H Q I h
 obtain ⟨v, e, h⟩ := h
 obtain ⟨m, hn, hl⟩ := I.loc
 obtain ⟨u, r, l⟩ := hl i x v hN e hv
 have fin : EP X pins σ Q u s := ⟨v, H, I, r, h⟩
 rcases l with ⟨hk, hm⟩ | ⟨hk, c, hc, hcell⟩
 ·exact wpAny_Name (wpAny_loadName_local I.ok.kind hk hn hm fin) hd
 ·rcases hk with hk | hk
  ·exact wpAny_Name (wpAny_loadName_cell I.ok.kind hk hc hcell fin) hd
  ·exact wpAny_Name (wpAny_loadName_free I.ok.kind hk hc hcell fin hcd) hd
theorem Zum {i j pos} : PE X (.Constant (.int i) j pos) (tC (.int i)) := fun _ _ _ H _ I h => wpAny_Constant_int ⟨.int i, H, I.tok _, ⟨_, rfl⟩, h⟩
theorem pe_bl {b j pos} : PE X (.Constant (.bool b) j pos) (tC (.bl b)) := fun _ _ _ H _ I h => Constant_bool ⟨.bl b, H, I, rfl, h⟩
theorem Zz9 {j pos} : PE X (.Constant .none j pos) (tC .non) := fun _ _ _ H _ I h => Constant_none ⟨.non, H, I, rfl, h⟩
theorem Zzh {x j pos} : PE X (.Constant (.str x) j pos) (tC (.str x)) := fun _ _ _ H _ I h => Calls.Constant_str ⟨.str x, H, I.tok _, ⟨_, rfl⟩, h⟩
noncomputable def Gl (X : Cx) (x : Str) : Prop := X.env.kindOf x = some .globalImplicit
theorem Zm9 {E : Value -> Shared -> Prop} {pins : List (Addr × Obj)} {s : Shared} {σ : St} {H : Hp} {x : Str} {u : Value} {pos : Pos} {Q : Value -> Shared -> Prop} (I : Inv X pins σ H s) (hg : Gl X x) (hm : X.mg x = some u) (h : Q u s)
  (hd : (x == ("__debug__" : Str)) = false := by decide) : wpAny (model X.prog X.w) X.A (eval (.Name x pos) X.env) Q E s :=
 Calls.Name_function_global I.ok.kind hg (Calls.loadGlobal_global (by rw [I.ok.glob]; exact I.mod.glob.keeps I.bk) hm h) hd
theorem Zhp {E : Value -> Shared -> Prop} {pins : List (Addr × Obj)} {s : Shared} {σ : St} {H : Hp} {x : Str} {u : Value} {pos : Pos} {Q : Value -> Shared -> Prop} (I : Inv X pins σ H s) (hg : Gl X x) (hm : X.mg x = none) (hv : bootBuiltins x = some u) (h : Q u s)
  (hn : x ≠ "__name__" := by decide) (hd : (x == ("__debug__" : Str)) = false := by decide) : wpAny (model X.prog X.w) X.A (eval (.Name x pos) X.env) Q E s := by
 obtain ⟨mb, h1, h2⟩ := I.mod.blt
 exact Calls.Name_function_global I.ok.kind hg (Calls.loadGlobal_builtin (by rw [I.ok.glob]; exact I.mod.glob.keeps I.bk) hm (by rw [I.ok.blt]; exact h1.keeps I.bk) ((h2 x hn).trans hv) h) hd
theorem Zvy {x : Str} {v : V} {u : Value} {pos : Pos} (hg : Gl X x) (hm : X.mg x = some u) (r : Zdm v u) (hd : (x == ("__debug__" : Str)) = false := by decide) : PE X (.Name x pos) (tC v) :=
 fun _ _ _ H _ I h => Zm9 I hg hm ⟨v, H, I, r, h⟩ hd
theorem Zw8 {x : Str} {v : V} {u : Value} {pos : Pos} (hg : Gl X x) (hm : X.mg x = none) (hv : bootBuiltins x = some u) (r : Zdm v u) (hn : x ≠ "__name__" := by decide) (hd : (x == ("__debug__" : Str)) = false := by decide) : PE X (.Name x pos) (tC v) :=
 fun _ _ _ H _ I h => Zhp I hg hm hv ⟨v, H, I, r, h⟩ hn hd
variable {a b : Expr} {ta tb : TE} {pos : Pos}
variable {tA tB' : TT} {rest : List Expr}
noncomputable def tAnd (t u : TT) : TT := fun σ H Q => t σ H fun c H1 => if c = true then u σ H1 Q else Q false H1
noncomputable def tOr (t u : TT) : TT := fun σ H Q => t σ H fun c H1 => if c = true then Q true H1 else u σ H1 Q
noncomputable def tNot (t : TT) : TT := fun σ H Q => t σ H fun c H1 => Q (!c) H1
theorem Zvk (ha : PT X a tA) : PW X (.BoolOp .And [a] pos) tA := by
 intro wh pins s σ H Q I h
 refine isTrue_and (thn (ha pins s σ H Q I h) fun c s1 e => ?_)
 cases c with
 | true => exact isTrue_and_nil e
 | false => exact e
theorem Zyn (ha : PT X a tA) : PW X (.BoolOp .Or [a] pos) tA := by
 intro wh pins s σ H Q I h
 refine isTrue_or (thn (ha pins s σ H Q I h) fun c s1 e => ?_)
 cases c with
 | false => exact isTrue_or_nil e
 | true => exact e
theorem Zyk (ha : PT X a tA) (hb : PW X (.BoolOp .And (b :: rest) pos) tB') : PW X (.BoolOp .And (a :: b :: rest) pos) (tAnd tA tB') := by
 intro wh pins s σ H Q I h
 refine isTrue_and (thn (ha pins s σ H _ I h) fun c s1 zz => ?_)
 obtain ⟨H1, I1, q1⟩ := zz
 cases c with
 | true => exact hb wh pins s1 σ H1 Q I1 q1
 | false => exact ⟨H1, I1, q1⟩
theorem pw_or (ha : PT X a tA) (hb : PW X (.BoolOp .Or (b :: rest) pos) tB') : PW X (.BoolOp .Or (a :: b :: rest) pos) (tOr tA tB') := by
 intro wh pins s σ H Q I h
 refine isTrue_or (thn (ha pins s σ H _ I h) fun c s1 zz => ?_)
 obtain ⟨H1, I1, q1⟩ := zz
 cases c with
 | true => exact ⟨H1, I1, q1⟩
 | false => exact hb wh pins s1 σ H1 Q I1 q1
theorem Zy9 (ha : PT X a tA) : PT X (.UnaryOp .Not a pos) (tNot tA) := by
 intro pins s σ H Q I h
 exact isTrue_not (ha pins s σ H (fun c H1 => Q (!c) H1) I h)
noncomputable def tAndV (ta tb : TE) : TE := fun σ H Q => ta σ H fun x H1 => ∃ c, x = .bl c ∧ if c = true then tb σ H1 Q else Q (.bl false) H1
noncomputable def tOrV (ta tb : TE) : TE := fun σ H Q => ta σ H fun x H1 => ∃ c, x = .bl c ∧ if c = true then Q (.bl true) H1 else tb σ H1 Q
noncomputable def tNotV (ta : TE) : TE := fun σ H Q => ta σ H fun x H1 => ∃ c, x = .bl c ∧ Q (.bl (!c)) H1
theorem Zy8 {op} {t : TE} (h : PE X a t) : PE X (.BoolOp op [a] pos) t := fun pins s σ H Q I hw => BoolOp_one (h pins s σ H Q I hw)
theorem Zx7 (ha : PE X a ta) (hb : PE X (.BoolOp .And (b :: rest) pos) tb) : PE X (.BoolOp .And (a :: b :: rest) pos) (tAndV ta tb) := by
 intro pins s σ H Q I h
 refine BoolOp_and (thn (ha pins s σ H _ I h) fun v s1 zz => ?_)
 obtain ⟨x, H1, I1, r1, q1⟩ := zz
 obtain ⟨c, rfl, q1⟩ := q1
 cases r1
 refine wpAny_truthy_bool ?_
 cases c with
 | true => exact hb pins s1 σ H1 Q I1 q1
 | false => exact ⟨.bl false, H1, I1, rfl, q1⟩
theorem pe_or (ha : PE X a ta) (hb : PE X (.BoolOp .Or (b :: rest) pos) tb) : PE X (.BoolOp .Or (a :: b :: rest) pos) (tOrV ta tb) := by
 intro pins s σ H Q I h
 refine BoolOp_or (thn (ha pins s σ H _ I h) fun v s1 zz => ?_)
 obtain ⟨x, H1, I1, r1, q1⟩ := zz
 obtain ⟨c, rfl, q1⟩ := q1
 cases r1
 refine wpAny_truthy_bool ?_
 cases c with
 | false => exact hb pins s1 σ H1 Q I1 q1
 | true => exact ⟨.bl true, H1, I1, rfl, q1⟩
theorem Zy2 (ha : PE X a ta) : PE X (.UnaryOp .Not a pos) (tNotV ta) := by
 intro pins s σ H Q I h
 refine UnaryOp_ (thn (ha pins s σ H _ I h) fun v s1 zz => ?_)
 obtain ⟨x, H1, I1, r1, q1⟩ := zz
 obtain ⟨c, rfl, q1⟩ := q1
 cases r1
 exact not_of (wpAny_truthy_bool ⟨.bl (!c), H1, I1, rfl, q1⟩)
noncomputable def tIf (t : TT) (ta tb : TE) : TE := fun σ H Q => t σ H fun c H1 => if c = true then ta σ H1 Q else tb σ H1 Q
theorem Zt2 {c : Expr} (hc : PT X c tA) (ha : PE X a ta) (hb : PE X b tb) : PE X (.IfExp c a b pos) (tIf tA ta tb) := by
 intro pins s σ H Q I h
 refine wpAny_IfExp (thn (hc pins s σ H _ I h) fun d s1 zz => ?_)
 obtain ⟨H1, I1, q1⟩ := zz
 cases d with
 | true => exact ha pins s1 σ H1 Q I1 q1
 | false => exact hb pins s1 σ H1 Q I1 q1
end
noncomputable def SqL (K : PySem.W.Frag) (H : Hp) (a : Addr) (xs : List V) : Prop :=
 Rd H a (.lst xs) ∨
  ∃ (o : Obj) (its : Array Value) (n : Nat), K.lookup a = some o ∧ o.cls = .type "list" ∧ o.dict = none ∧ o.data = .seq its n ∧ its.size ≤ sizeLine ∧ Zca xs its.toList
noncomputable def SqT (K : PySem.W.Frag) (H : Hp) (a : Addr) (xs : List V) : Prop :=
 Rd H a (.tup xs) ∨
  ∃ (o : Obj) (its : Array Value) (n : Nat), K.lookup a = some o ∧ o.cls = .type "tuple" ∧ o.data = .seq its n ∧ its.size ≤ sizeLine ∧ Zca xs its.toList ∧ o.dict = none
noncomputable def absV : Value -> Option V
 | .none => some .non
 | .bool b => some (.bl b)
 | .int i _ => some (.int i)
 | .str x _ => some (.str x)
 | .bytes b _ => some (.byt b)
 | .float b _ => some (.flt b)
 | .ref a => some (.ref a)
 | .type n => some (.ty n)
 | _ => none
theorem Zdm.abs {x : V} {u : Value} (r : Zdm x u) : absV u = some x := by
 cases x with
 | non => cases r; rfl
 | bl _ => cases r; rfl
 | int _ => obtain ⟨t, rfl⟩ := r; rfl
 | str _ => obtain ⟨t, rfl⟩ := r; rfl
 | byt _ => obtain ⟨t, rfl⟩ := r; rfl
 | flt _ => obtain ⟨t, rfl⟩ := r; rfl
 | ref _ => cases r; rfl
 | ty _ => cases r; rfl
theorem Zdm.inj {x y : V} {u : Value} (r : Zdm x u) (q : Zdm y u) : x = y := Option.some.inj (r.abs.symm.trans q.abs)
theorem Zca.inj : ∀ {xs ys : List V} {us : List Value}, Zca xs us -> Zca ys us -> xs = ys := by
 intro xs ys us h
 induction h generalizing ys with
 | nil => intro h'; cases h'; rfl
 | cons r t ih =>
  intro h'
  cases h' with
  | cons r' t' => rw [r.inj r', ih t']
section
variable {X : Cx} {pins : List (Addr × Obj)} {σ : St} {H : Hp} {s : Shared} {a : Addr} {xs ys : List V}
theorem SqL.of {K : PySem.W.Frag} (h : H a = some (.lst xs)) : SqL K H a xs := .inl (.inl h)
theorem SqT.of {K : PySem.W.Frag} (h : H a = some (.tup xs)) : SqT K H a xs := .inl (.inl h)
theorem Inv.list (I : Inv X pins σ H s) (h : SqL X.K H a xs) : ∃ its : List Value, Zca xs its ∧ PlainL s.heap a its.toArray ∧ xs.length ≤ sizeLine := by
 rcases h with h | ⟨o, its, n, hk, hc, hd, hs, hz, r⟩
 ·obtain ⟨z, its, n, r, e⟩ := h.ok I.hok
  exact ⟨its, r, ⟨_, n, e, rfl, rfl, rfl⟩, z⟩
 ·refine ⟨its.toList, r, ⟨o, n, I.kIn a o hk, hc, hd, by simpa using hs⟩, ?_⟩
  have e := r.length
  simp only [Array.length_toList] at e
  omega
theorem Inv.tuple (I : Inv X pins σ H s) (h : SqT X.K H a xs) : ∃ its : List Value, Zca xs its ∧ IsTup s.heap a its.toArray ∧ xs.length ≤ sizeLine := by
 rcases h with h | ⟨o, its, n, hk, hc, hs, hz, r, _⟩
 ·obtain ⟨z, its, r, p⟩ := h.ok I.hok
  exact ⟨its, r, p.tup, z⟩
 ·refine ⟨its.toList, r, ⟨o, I.kIn a o hk, hc, n, by simpa using hs⟩, ?_⟩
  have e := r.length
  simp only [Array.length_toList] at e
  omega
theorem Inv.list_inj (I : Inv X pins σ H s) (h : SqL X.K H a xs) (h' : SqL X.K H a ys) : xs = ys := by
 obtain ⟨its, r, ⟨o, n, e, _, _, d⟩, _⟩ := I.list h
 obtain ⟨its', r', ⟨o', n', e', _, _, d'⟩, _⟩ := I.list h'
 rw [e] at e'; cases e'
 rw [d] at d'
 injection d' with d1 _
 have : its = its' := by simpa using congrArg Array.toList d1
 subst this
 exact r.inj r'
theorem Inv.tuple_inj (I : Inv X pins σ H s) (h : SqT X.K H a xs) (h' : SqT X.K H a ys) : xs = ys := by
 obtain ⟨its, r, ⟨o, e, _, n, d⟩, _⟩ := I.tuple h
 obtain ⟨its', r', ⟨o', e', _, n', d'⟩, _⟩ := I.tuple h'
 rw [e] at e'; cases e'
 rw [d] at d'
 injection d' with d1 _
 have : its = its' := by simpa using congrArg Array.toList d1
 subst this
 exact r.inj r'
end
noncomputable abbrev Cx.wish (X : Cx) (E : Value -> Shared -> Prop) : Cx := { X with xe := E }
noncomputable abbrev Cx.nox (X : Cx) : Cx := X.wish fun _ _ => False
theorem Cx.Ok.wish {X : Cx} (ok : X.Ok) (E : Value -> Shared -> Prop) : (X.wish E).Ok :=
 ⟨ok.mod, ok.kind, ok.glob, ok.blt, ok.above, ok.inj, ok.has, ok.cab, ok.hd, ok.frames, ok.stk, ok.exf, ok.bs, ok.bsz, ok.noex, ok.exfs, ok.funs, ok.frf⟩
theorem Cx.Ok.unwish {X : Cx} {E : Value -> Shared -> Prop} (ok : (X.wish E).Ok) : X.Ok :=
 ⟨ok.mod, ok.kind, ok.glob, ok.blt, ok.above, ok.inj, ok.has, ok.cab, ok.hd, ok.frames, ok.stk, ok.exf, ok.bs, ok.bsz, ok.noex, ok.exfs, ok.funs, ok.frf⟩
section
variable {X : Cx} {pins : List (Addr × Obj)} {σ : St} {H : Hp} {s : Shared} {E : Value -> Shared -> Prop}
theorem Inv.wish (I : Inv X pins σ H s) (E : Value -> Shared -> Prop) : Inv (X.wish E) pins σ H s := ⟨I.ok.wish E, I.os, I.bare, I.base, I.loc, I.cell, I.free, I.freeC, I.pin, I.hok, I.len⟩
theorem Inv.unwish (I : Inv (X.wish E) pins σ H s) : Inv X pins σ H s := ⟨I.ok.unwish, I.os, I.bare, I.base, I.loc, I.cell, I.free, I.freeC, I.pin, I.hok, I.len⟩
theorem SP.unwish {D : Ends} {f : Flow} {s' : Shared} (h : SP (X.wish E) pins D f s') : SP X pins D f s' := by
 cases f with
 | next => obtain ⟨σ', H', I, q⟩ := h; exact ⟨σ', H', I.unwish, q⟩
 | brk => obtain ⟨σ', H', I, q⟩ := h; exact ⟨σ', H', I.unwish, q⟩
 | cont => obtain ⟨σ', H', I, q⟩ := h; exact ⟨σ', H', I.unwish, q⟩
 | ret u => obtain ⟨v, σ', H', I, r, q⟩ := h; exact ⟨v, σ', H', I.unwish, r, q⟩
theorem PSs.nox {st : List Stmt} {t : TS} (h : PSs X.nox st t) : PSs X st t := fun pins s σ H D I hw =>
 wpAny_mono (h pins s σ H D (I.wish _) hw) (fun _ _ q => q.unwish) fun _ _ z => False.elim z
end
section
variable {X : Cx} {st : Stmt} {rest : List Stmt} {t u : TS} {e : Expr} {te : TE} {pos : Pos}
noncomputable def tNext : TS := fun D σ H => D.nx σ H
noncomputable def tSeq (t u : TS) : TS := fun D σ H => t { D with nx := u D } σ H
theorem Zvd : PSs X [] tNext := fun _ _ σ H _ I h => wpAny_execs_nil ⟨σ, H, I, h⟩
theorem Zto (h1 : PS X st t) (h2 : PSs X rest u) : PSs X (st :: rest) (tSeq t u) := by
 intro pins s σ H D I h
 refine wpAny_execs_cons (thn (h1 pins s σ H { D with nx := u D } I h) fun f s1 q => ?_)
 cases f with
 | next =>
  obtain ⟨σ', H', I', q⟩ := q
  exact h2 pins s1 σ' H' D I' q
 | ret v => exact q
 | brk => exact q
 | cont => exact q
theorem Inv.quiet {pins : List (Addr × Obj)} {σ : St} {H : Hp} {s : Shared} (I : Inv X pins σ H s) : interactive X.env = false := by simp [interactive, I.ok.kind]
noncomputable def tDrop (te : TE) : TS := fun D σ H => te σ H fun _ H1 => D.nx σ H1
theorem Zwy (he : PE X e te) (hs : swapsWith e none pos.line X.env = pure false := by rfl) : PS X (.Expr e pos) (tDrop te) := by
 intro pins s σ H D I h
 exact wpAny_Expr_any (thn (he pins s σ H _ I h) fun v s1 ⟨x, H1, I1, r1, q1⟩ => ⟨σ, H1, I1, q1⟩) I.quiet hs
noncomputable def tRet (te : TE) : TS := fun D σ H => te σ H D.rt
theorem Zyu (he : PE X e te) : PS X (.Return (some e) pos) (tRet te) := by
 intro pins s σ H D I h
 exact wpAny_Return_some (thn (he pins s σ H _ I h) fun v s1 ⟨x, H1, I1, r1, q1⟩ => ⟨x, σ, H1, I1, r1, q1⟩)
noncomputable def tIfS (c : TT) (t u : TS) : TS := fun D σ H => c σ H fun b H1 => if b = true then t D σ H1 else u D σ H1
theorem ps_if {c : Expr} {a b : List Stmt} {tc : TT} (hc : PT X c tc) (ha : PSs X a t) (hb : PSs X b u) : PS X (.If c a b pos) (tIfS tc t u) := by
 intro pins s σ H D I h
 refine wpAny_If (thn (hc pins s σ H _ I h) fun d s1 zz => ?_)
 obtain ⟨H1, I1, q1⟩ := zz
 cases d with
 | true => exact ha pins s1 σ H1 D I1 q1
 | false => exact hb pins s1 σ H1 D I1 q1
end
noncomputable abbrev TG := V -> St -> Hp -> (St -> Hp -> Prop) -> Prop
noncomputable abbrev TGs := List V -> St -> Hp -> (St -> Hp -> Prop) -> Prop
noncomputable def PG (X : Cx) (target : Expr) (t : TG) : Prop :=
 ∀ (pins : List (Addr × Obj)) (s : Shared) (σ : St) (H : Hp) (v : V) (u : Value) (Q : St -> Hp -> Prop), Inv X pins σ H s -> Zdm v u -> t v σ H Q →
  wpAny (model X.prog X.w) X.A (assign target X.env u) (fun _ s' => ∃ σ' H', Inv X pins σ' H' s' ∧ Q σ' H') X.xe s
noncomputable def PGs (X : Cx) (ts : List Expr) (t : TGs) : Prop :=
 ∀ (pins : List (Addr × Obj)) (s : Shared) (σ : St) (H : Hp) (vs : List V) (us : List Value) (Q : St -> Hp -> Prop), Inv X pins σ H s -> Zca vs us -> t vs σ H Q →
  wpAny (model X.prog X.w) X.A (assignInOrder ((assignEach ts X.env).map (·.2)) us) (fun _ s' => ∃ σ' H', Inv X pins σ' H' s' ∧ Q σ' H') X.xe s
noncomputable abbrev TSet := V -> V -> V -> Hp -> (Hp -> Prop) -> Prop
noncomputable def PSet (X : Cx) (t : TSet) : Prop :=
 ∀ (pins : List (Addr × Obj)) (s : Shared) (σ : St) (H : Hp) (o i v : V) (ov iv u : Value) (Q : Hp -> Prop), Inv X pins σ H s -> Zdm o ov -> Zdm i iv -> Zdm v u -> t o i v H Q →
  wpAny (model X.prog X.w) X.A (setItem ov iv u) (fun _ s' => ∃ H', Inv X pins σ H' s' ∧ Q H') X.xe s
section
variable {X : Cx} {pos : Pos}
noncomputable def Zkx (i : Nat) : TG := fun v σ H Q => Q (σ.set i (some v)) H
theorem Zks {i : Nat} {x : Str} (hN : X.N.Nodup) (hi : X.N[i]? = some x) (hx : Loc X.env.scope x) (hf : X.fn x = true ∨ X.env.scope.names.lookup x = some .local := by first | exact .inl rfl | exact .inr rfl | assumption) : PG X (.Name x pos) (Zkx i) := by
 intro pins s σ H v u Q I r h
 exact wpAny_assign_Name (Zov I hN hi hx r (fun s' I' => ⟨_, H, I', h⟩) hf)
noncomputable def gNil : TGs := fun vs σ H Q => vs = [] ∧ Q σ H
noncomputable def Zsk (t : TG) (u : TGs) : TGs := fun vs σ H Q => ∃ v r, vs = v :: r ∧ t v σ H fun σ' H' => u r σ' H' Q
theorem Zre : PGs X [] gNil := by
 intro pins s σ H vs us Q I r h
 obtain ⟨e, h⟩ := h
 subst e
 cases r
 exact assignInOrder_nil ⟨σ, H, I, h⟩
theorem Zkh {e : Expr} {es : List Expr} {t : TG} {u : TGs} (h1 : PG X e t) (h2 : PGs X es u)
  (hs : (assignEach (e :: es) X.env).map (·.2) = assign e X.env :: (assignEach es X.env).map (·.2) := by rfl) : PGs X (e :: es) (Zsk t u) := by
 intro pins s σ H vs us Q I r h
 obtain ⟨v, vr, e1, h⟩ := h
 subst e1
 cases r with
 | cons r rr =>
  rw [hs]
  refine assignInOrder_cons (thn (h1 pins s σ H _ _ _ I r h) fun _ s1 zz => ?_)
  obtain ⟨σ1, H1, I1, q1⟩ := zz
  exact h2 pins s1 σ1 H1 _ _ Q I1 rr q1
noncomputable def gTup (K : PySem.W.Frag) (n : Nat) (t : TGs) : TG := fun v σ H Q => ∃ a xs, v = .ref a ∧ SqT K H a xs ∧ xs.length = n ∧ t xs σ H Q
theorem Zva {es : List Expr} {k : Nat} {t : TGs} {n : Nat} (hc : X.calm = true) (h : PGs X es t)
  (hn : (assignEach es X.env).length = n := by rfl) (hst : (assignEach es X.env).findIdx? (·.1) = none := by rfl) : PG X (.Tuple es k pos) (gTup X.K n t) := by
 intro pins s σ H v u Q I r hw
 obtain ⟨a, xs, e1, hq, hl, hw⟩ := hw
 subst e1
 cases r
 obtain ⟨its, rv, ht, hz⟩ := I.tuple hq
 refine assign_Tuple_tuple (I.ok.hd hc) ht (by simp [hn, ← hl, rv.length]) hst fun h' hx => ?_
 have I1 : Inv X pins σ H { s with heap := h' } := I.kept (t' := s.toks) fun b o e => hx b o (Nat.ne_of_lt (Heap.lt_size e)) e
 exact h pins _ σ H xs _ Q I1 (by simpa using rv) hw
noncomputable def gSub (to ti : TE) (t : TSet) : TG := fun v σ H Q => to σ H fun o H1 => ti σ H1 fun i H2 => t o i v H2 fun H3 => Q σ H3
theorem Zza {o i : Expr} {to ti : TE} {t : TSet} (ho : PE X o to) (hi : PE X i ti) (hs : PSet X t)
  (ha : ∀ v, assign (.Subscript o i pos) X.env v = (do
   let ov ← holding [v] (eval o X.env)
   let iv ← holding [v, ov] (eval i X.env)
   standAt pos
   holding [v, ov, iv] (setItem ov iv v)
   release [v, ov, iv] []) := by intro _; rfl) : PG X (.Subscript o i pos) (gSub to ti t) := by
 intro pins s σ H v u Q I r h
 rw [ha]
 refine wpAny_bind (wpAny_holding (thn (ho pins s σ H _ I h) fun ov s1 zz => ?_))
 obtain ⟨x, H1, I1, r1, q1⟩ := zz
 refine wpAny_bind (wpAny_holding (thn (hi pins s1 σ H1 _ I1 q1) fun iv s2 zz => ?_))
 obtain ⟨y, H2, I2, r2, q2⟩ := zz
 refine wpAny_bind (wpAny_standAt (wpAny_bind (wpAny_holding (thn (hs pins s2 σ H2 x y v ov iv u _ I2 r1 r2 r q2) fun _ s3 zz => ?_))))
 obtain ⟨H3, I3, q3⟩ := zz
 exact wpAny_release ⟨σ, H3, I3, q3⟩
noncomputable def tAsg (te : TE) (g : TG) : TS := fun D σ H => te σ H fun x H1 => g x σ H1 D.nx
theorem Zy4 {tg e : Expr} {te : TE} {g : TG} (he : PE X e te) (hg : PG X tg g) (hs : swapsWithSole [tg] e pos.line X.env = pure false := by rfl) (hw : swappedStores [tg] e X.env = pure none := by rfl)
  (h1 : (assignEach [tg] X.env).map (·.2) = [assign tg X.env] := by rfl) : PS X (.Assign [tg] e pos) (tAsg te g) := by
 intro pins s σ H D I h
 refine wpAny_Assign_stores (thn (he pins s σ H _ I h) fun v s1 ⟨x, H1, I1, r1, q1⟩ => ?_) hs hw
 rw [h1]
 exact thn (hg pins s1 σ H1 x v _ I1 r1 q1) fun _ s2 q => q
theorem Zzm {i : Nat} {x : Str} {e : Expr} {te : TE} {pos' : Pos} (hN : X.N.Nodup) (hi : X.N[i]? = some x) (hx : Loc X.env.scope x) (he : PE X e te) (hs : swapsWith e (some (.Name x pos')) pos.line X.env = pure false := by rfl) (hf : X.fn x = true ∨ X.env.scope.names.lookup x = some .local := by first | exact .inl rfl | exact .inr rfl | assumption) :
  PS X (.Assign [.Name x pos'] e pos) (tAsg te (Zkx i)) := by
 intro pins s σ H D I h
 refine wpAny_Assign_Name (thn (he pins s σ H _ I h) fun v s1 ⟨y, H1, I1, r1, q1⟩ => ?_) hs
 exact Zov I1 hN hi hx r1 (fun s2 I2 => ⟨_, H1, I2, q1⟩) hf
end
section
variable {X : Cx} {pos : Pos}
noncomputable def Zz8 (c : TT) (tb : TS) : TS := fun D σ H => ∃ W : Nat -> St -> Hp -> Prop, (∃ m, W m σ H) ∧ ∀ m σ H, W m σ H →
 c σ H fun b H1 => if b = true then ∃ N : St -> Hp -> Prop, (∀ σ' H', N σ' H' -> ∃ m', m' < m ∧ W m' σ' H') ∧ tb { D with nx := N, ct := N, bk := D.nx } σ H1 else D.nx σ H1
theorem Ztc {c : Expr} {body : List Stmt} {tc : TT} {tb : TS} (hp : PassesOwn (model X.prog X.w) X.A X.env X.xe) (hc : PT X c tc) (hb : PSs X body tb) : PS X (.While c body [] pos) (Zz8 tc tb) := by
 intro pins s σ H D I h
 obtain ⟨W, ⟨m0, w0⟩, turn⟩ := h
 refine wpAny_While (codeAny_whileLoop (fun n s' => ∃ σ' H', Inv X pins σ' H' s' ∧ W n σ' H') ?_ m0 ⟨σ, H, I, w0⟩)
 rintro n s1 ⟨σ1, H1, I1, w1⟩
 refine wpAny_passesOwn hp (thn (hc pins s1 σ1 H1 _ I1 (turn n σ1 H1 w1)) fun b s2 zz => ?_)
 obtain ⟨H2, I2, q2⟩ := zz
 cases b with
 | true =>
  obtain ⟨N, hN, q2⟩ := q2
  rw [if_pos rfl]
  refine wpAny_passesOwn hp (thn (hb pins s2 σ1 H2 _ I2 q2) fun f s3 q3 => ?_)
  cases f with
  | next =>
   obtain ⟨σ3, H3, I3, n3⟩ := q3
   obtain ⟨m', hm, w3⟩ := hN σ3 H3 n3
   exact ⟨m', hm, σ3, H3, I3, w3⟩
  | cont =>
   obtain ⟨σ3, H3, I3, n3⟩ := q3
   obtain ⟨m', hm, w3⟩ := hN σ3 H3 n3
   exact ⟨m', hm, σ3, H3, I3, w3⟩
  | brk => exact q3
  | ret v => exact q3
 | false =>
  rw [if_neg Bool.false_ne_true]
  exact wpAny_execs_nil ⟨σ1, H2, I2, q2⟩
end
structure It where
 go : Nat -> Hp -> Prop
 yld : Nat -> Hp -> V -> Hp -> Prop
 stop : Nat -> Hp -> Prop
noncomputable def Zm2 (X : Cx) (pins : List (Addr × Obj)) (H : Hp) (b : Addr) : Prop :=
 H b = none ∧ b ≠ X.env.locals ∧ b ∉ X.fs ∧ (b ∈ X.ex ∨ X.s₀.heap.objs.size ≤ b) ∧ (∀ x c, X.env.cells.lookup x = some c -> c ≠ b) ∧ ∀ p ∈ X.pn ++ pins, p.1 ≠ b
theorem Inv.fpOk {X : Cx} {pins : List (Addr × Obj)} {σ : St} {H H' : Hp} {s : Shared} {b : Addr} (I : Inv X pins σ H s) (hb : s.heap.objs.size ≤ b) (hn : H' b = none) : Zm2 X pins H' b := by
 refine ⟨hn, Nat.ne_of_gt (Nat.lt_of_lt_of_le I.lt hb), I.nofs hb, .inr (Nat.le_trans I.sz hb), fun x c e z => ?_, fun p hp z => ?_⟩
 ·obtain ⟨v, q⟩ := I.cell x c e
  exact absurd (Nat.lt_of_lt_of_le q.lt (by rw [z]; exact hb)) (Nat.lt_irrefl _)
 ·exact absurd (Nat.lt_of_lt_of_le (Heap.lt_size (I.pin p hp).1) (by rw [z]; exact hb)) (Nat.lt_irrefl _)
structure Turn (P : Program) (w : World) (K : PySem.W.Frag) (tg : Expr) (J : It) (fp : List Addr) (it : Addr) (tn : Nat -> Heap -> Prop) : Prop where
 mem : it ∈ fp
 obj : ∀ i h, tn i h -> ∀ b ∈ fp, ∃ o, h.get? b = some o ∧ ∀ v, o.data ≠ .cell v
 keep : ∀ i h h', tn i h -> (∀ b ∈ fp, ∀ o, h.get? b = some o -> h'.get? b = some o) -> tn i h'
 item : ∀ (X : Cx), X.prog = P -> X.w = w -> X.K = K -> X.calm = true -> ∀ (i : Nat) (pins : List (Addr × Obj)) (s : Shared) (σ : St) (H : Hp) (E : Value -> Shared -> Prop), Inv X pins σ H s -> (∀ b ∈ fp, Zm2 X pins H b) -> tn i s.heap -> J.go i H →
  wpAny (model P w) X.A (pyNext (.ref it)) (fun r s1 => ∃ u, r = some u ∧
   wpAny (model P w) X.A (letOwnedTupleGo tg (.ref it) u) (fun _ s2 => ∃ x H', Inv X pins σ H' s2 ∧ Zdm x u ∧ J.yld i H x H' ∧ tn (i + 1) s2.heap ∧ ∀ b ∈ fp, H' b = none) E s1) E s
 done : ∀ (X : Cx), X.prog = P -> X.w = w -> X.K = K -> X.calm = true -> ∀ (i : Nat) (pins : List (Addr × Obj)) (s : Shared) (σ : St) (H : Hp) (E : Value -> Shared -> Prop), Inv X pins σ H s -> (∀ b ∈ fp, Zm2 X pins H b) -> tn i s.heap -> J.stop i H →
  wpAny (model P w) X.A (pyNext (.ref it)) (fun r s1 => r = none ∧ Inv X pins σ H s1) E s
 self : ∀ (A : Around) (i : Nat) (s : Shared) (Q : Value -> Shared -> Prop) (E : Value -> Shared -> Prop), tn i s.heap -> Q (.ref it) s -> wpAny (model P w) A (pyIter (.ref it)) Q E s
noncomputable abbrev TI := St -> Hp -> (It -> Hp -> Prop) -> Prop
noncomputable def PIE (X : Cx) (pins : List (Addr × Obj)) (σ : St) (tg : Expr) (R : It -> Hp -> Prop) (itv : Value) (s2 : Shared) : Prop :=
 ∃ (it : Addr) (fp : List Addr) (tn : Nat -> Heap -> Prop) (J : It) (H' : Hp), itv = .ref it ∧ Inv X pins σ H' s2 ∧ Turn X.prog X.w X.K tg J fp it tn ∧ tn 0 s2.heap ∧ (∀ b ∈ fp, Zm2 X pins H' b) ∧ R J H'
noncomputable def PI (X : Cx) (tg iter : Expr) (wi : TI) : Prop :=
 ∀ (pins : List (Addr × Obj)) (s : Shared) (σ : St) (H : Hp) (R : It -> Hp -> Prop), Inv X pins σ H s -> wi σ H R →
  wpAny (model X.prog X.w) X.A (eval iter X.env) (fun v s1 => wpAny (model X.prog X.w) X.A (pyIter v) (PIE X pins σ tg R) X.xe s1) X.xe s
theorem Zqy {M : Model} {A : Around} {E : Value -> Shared -> Prop} {s : Shared} {tg : Expr} {it : Addr} {u : Value} {o : Obj} {n : String} {vs : Array Value} {Q : Unit -> Shared -> Prop} (ho : s.heap.get? it = some o) (hc : o.cls = .type n) (hd : o.data = .fields vs)
  (hn : ["enumerate", "zip", "dict_itemiterator", "dict_reverseitemiterator", "odict_iterator", "itertools.zip_longest", "itertools.pairwise"].contains n = false) (hQ : Q () s) : wpAny M A (letOwnedTupleGo tg (.ref it) u) Q E s := by
 unfold letOwnedTupleGo
 cases tg <;> first
  | exact wpAny_pure hQ
  | (cases u <;> first
    | exact wpAny_pure hQ
    | (refine wpAny_bind (wpAny_load ho ?_)
       rw [hc, hd]
       show wpAny M A (if (["enumerate", "zip", "dict_itemiterator", "dict_reverseitemiterator", "odict_iterator", "itertools.zip_longest", "itertools.pairwise"].contains n && vs[0]? == some (rawInt _)) = true then _ else _) Q E s
       rw [if_neg (by intro h; rw [hn, Bool.false_and] at h; cases h)]
       exact wpAny_pure hQ))
noncomputable def Itl (K : PySem.W.Frag) (a : Addr) : It :=
 ⟨fun i H => ∃ xs x, SqL K H a xs ∧ xs[i]? = some x, fun i H x H' => H' = H ∧ ∀ xs, SqL K H a xs -> xs[i]? = some x, fun i H => ∃ xs, SqL K H a xs ∧ xs.length ≤ i⟩
noncomputable def Itt (K : PySem.W.Frag) (a : Addr) : It :=
 ⟨fun i H => ∃ xs x, SqT K H a xs ∧ xs[i]? = some x, fun i H x H' => H' = H ∧ ∀ xs, SqT K H a xs -> xs[i]? = some x, fun i H => ∃ xs, SqT K H a xs ∧ xs.length ≤ i⟩
noncomputable def Itr (lo : Int) (n : Nat) : It := ⟨fun i _ => i < n, fun i H x H' => H' = H ∧ x = .int (lo + i), fun i _ => n ≤ i⟩
theorem Zrk {P : Program} {w : World} {K : PySem.W.Frag} {tg : Expr} (a it : Addr) : Turn P w K tg (Itl K a) [it] it (fun i h => h.IsListIter it a i) where
 mem := by simp
 obj := fun i h st b hb => by
  have e : b = it := by simpa using hb
  subst e
  obtain ⟨o, e, c, d⟩ := st
  exact ⟨o, e, fun v z => by rw [d] at z; cases z⟩
 keep := fun i h h' st k => st.at fun o e => k it (by simp) o e
 item := by
  intro X hP hw hK hc i pins s σ H E I hf st hg
  subst hP hw hK
  obtain ⟨xs, x, hq, hx⟩ := hg
  obtain ⟨its, rv, p, hz⟩ := I.list hq
  obtain ⟨u, hu, ru⟩ := rv.get hx
  obtain ⟨f0, f1, f2, f3, f4, f5⟩ := hf it (by simp)
  refine wpAny_pyNext_list_item st p.isList (x := u) (by simpa using hu) fun h' st' sb => ?_
  have I1 : Inv X pins σ H { s with heap := h' } := I.turned (t' := s.toks) (fun b o hb e => (sb.2 b hb).trans e) f0 f1 f3 f4 f5
  obtain ⟨o, e, c, d⟩ := id st'
  exact ⟨u, rfl, Zqy (s := { s with heap := h' }) e c d (by decide) ⟨x, H, I1, ru, ⟨rfl, fun ys hy => by rw [I.list_inj hy hq]; exact hx⟩, st', fun b hb => (hf b hb).1⟩⟩
 done := by
  intro X hP hw hK hc i pins s σ H E I hf st hg
  subst hP hw hK
  obtain ⟨xs, hq, hx⟩ := hg
  obtain ⟨its, rv, p, hz⟩ := I.list hq
  obtain ⟨f0, f1, f2, f3, f4, f5⟩ := hf it (by simp)
  have hl := rv.length
  exact wpAny_pyNext_list_end (I.ok.hd hc) st p.isList (by simp; omega) fun h' eb => ⟨rfl, I.turned (t' := s.toks) (fun b o hb e => eb b o hb e) f0 f1 f3 f4 f5⟩
 self := fun _ _ _ _ _ st h => wpAny_pyIter_listiter st h
theorem Zpq {P : Program} {w : World} {K : PySem.W.Frag} {tg : Expr} (a it : Addr) : Turn P w K tg (Itt K a) [it] it (fun i h => h.IsTupleIter it a i) where
 mem := by simp
 obj := fun i h st b hb => by
  have e : b = it := by simpa using hb
  subst e
  obtain ⟨o, e, c, d⟩ := st
  exact ⟨o, e, fun v z => by rw [d] at z; cases z⟩
 keep := fun i h h' st k => st.at fun o e => k it (by simp) o e
 item := by
  intro X hP hw hK hc i pins s σ H E I hf st hg
  subst hP hw hK
  obtain ⟨xs, x, hq, hx⟩ := hg
  obtain ⟨its, rv, p, hz⟩ := I.tuple hq
  obtain ⟨u, hu, ru⟩ := rv.get hx
  obtain ⟨f0, f1, f2, f3, f4, f5⟩ := hf it (by simp)
  refine wpAny_pyNext_tuple_item st (show s.heap.IsTuple a its.toArray from p) (x := u) (by simpa using hu) fun h' st' sb => ?_
  have I1 : Inv X pins σ H { s with heap := h' } := I.turned (t' := s.toks) (fun b o hb e => (sb.2 b hb).trans e) f0 f1 f3 f4 f5
  obtain ⟨o, e, c, d⟩ := id st'
  exact ⟨u, rfl, Zqy (s := { s with heap := h' }) e c d (by decide) ⟨x, H, I1, ru, ⟨rfl, fun ys hy => by rw [I.tuple_inj hy hq]; exact hx⟩, st', fun b hb => (hf b hb).1⟩⟩
 done := by
  intro X hP hw hK hc i pins s σ H E I hf st hg
  subst hP hw hK
  obtain ⟨xs, hq, hx⟩ := hg
  obtain ⟨its, rv, p, hz⟩ := I.tuple hq
  obtain ⟨f0, f1, f2, f3, f4, f5⟩ := hf it (by simp)
  have hl := rv.length
  exact wpAny_pyNext_tuple_end (I.ok.hd hc) st (show s.heap.IsTuple a its.toArray from p) (by simp; omega) fun h' eb => ⟨rfl, I.turned (t' := s.toks) (fun b o hb e => eb b o hb e) f0 f1 f3 f4 f5⟩
 self := fun _ _ _ _ _ st h => wpAny_pyIter_tupleiter st h
theorem Zpc {P : Program} {w : World} {K : PySem.W.Frag} {tg : Expr} (it : Addr) (lo : Int) (n : Nat) : Turn P w K tg (Itr lo n) [it] it (fun i h => IsRangeIter h it (lo + (i : Nat) * 1) ((n : Int) - (i : Nat)) 1) where
 mem := by simp
 obj := fun i h st b hb => by
  have e : b = it := by simpa using hb
  subst e
  exact ⟨_, st, fun v z => by
   have z' : Data.fields _ = Data.cell v := z
   cases z'⟩
 keep := fun i h h' st k => k it (by simp) _ st
 item := by
  intro X hP hw hK hc i pins s σ H E I hf st hg
  subst hP hw hK
  obtain ⟨f0, f1, f2, f3, f4, f5⟩ := hf it (by simp)
  have W := Walks.range (prog := X.prog) (w := X.w) (I.ok.hd hc) it lo 1 n
  refine W.item i s _ _ hg st fun v h' tk hv st' kk => ?_
  obtain ⟨t, rfl⟩ := hv
  have I1 : Inv X pins σ H { s with heap := h', toks := tk } := I.turned (fun b o hb e => kk b o (by simpa using hb) e) f0 f1 f3 f4 f5
  refine ⟨_, rfl, Zqy (s := { s with heap := h', toks := tk }) (n := "range_iterator") st' rfl rfl (by decide) ⟨.int (lo + i), H, I1, ⟨t, ?_⟩, ⟨rfl, rfl⟩, st', fun b hb => (hf b hb).1⟩⟩
  rw [Int.mul_one]
 done := by
  intro X hP hw hK hc i pins s σ H E I hf st hg
  subst hP hw hK
  obtain ⟨f0, f1, f2, f3, f4, f5⟩ := hf it (by simp)
  exact wpAny_pyNext_range_end (I.ok.hd hc) st (by have : n ≤ i := hg; omega) fun h' eb => ⟨rfl, I.turned (t' := s.toks) (fun b o hb e => eb b o hb e) f0 f1 f3 f4 f5⟩
 self := fun _ _ _ _ _ st h => wpAny_pyIter_rangeiter st h
section
variable {X : Cx} {tg : Expr}
theorem Ztu {pins : List (Addr × Obj)} {σ : St} {H : Hp} {s : Shared} {R : It -> Hp -> Prop} {E : Value -> Shared -> Prop} {lo hi : Int} {t u v : Tok} {tk : Nat} (I : Inv X pins σ H s) (h1 : -(2 ^ 62) ≤ lo) (h2 : lo < 2 ^ 62) (h3 : -(2 ^ 62) ≤ hi) (h4 : hi < 2 ^ 62)
  (q : R (Itr lo (hi - lo).toNat) H) : wpAny (model X.prog X.w) X.A (pyIter (.ref s.heap.objs.size)) (PIE X pins σ tg R) E { s with heap := s.heap.push { cls := .type "range", data := .fields #[.int lo t, .int hi u, .int 1 v] }, toks := tk } := by
 refine wpAny_pyIter_range (IsRange.new ..) (small_one h1 h2 h3 h4) ?_
 have I1 : Inv X pins σ H { s with heap := s.heap.push { cls := .type "range", data := .fields #[.int lo t, .int hi u, .int 1 v] }, toks := tk } := I.kept fun b o e => Heap.get?_push_of_some _ e
 refine ⟨(s.heap.push { cls := .type "range", data := .fields #[.int lo t, .int hi u, .int 1 v] }).objs.size, [(s.heap.push { cls := .type "range", data := .fields #[.int lo t, .int hi u, .int 1 v] }).objs.size], _, _, H, rfl,
  I1.kept (t' := tk) fun b o e => Heap.get?_push_of_some _ e, Zpc _ lo (hi - lo).toNat, ?_, fun b hb => ?_, q⟩
 ·have e1 : lo + ((0 : Nat) : Int) * 1 = lo := by simp
  have e2 : (((hi - lo).toNat : Nat) : Int) - ((0 : Nat) : Int) = Builtin.Range.rangeSize lo hi 1 := by rw [rangeSize_one]; split <;> omega
  show IsRangeIter _ _ (lo + ((0 : Nat) : Int) * 1) ((((hi - lo).toNat : Nat) : Int) - ((0 : Nat) : Int)) 1
  rw [e1, e2]
  exact Heap.get?_push_size _ rfl
 ·have e : b = (s.heap.push { cls := .type "range", data := .fields #[.int lo t, .int hi u, .int 1 v] }).objs.size := by simpa using hb
  subst e
  exact I1.fpOk (Nat.le_refl _) (I1.hok.fresh (Nat.le_refl _))
noncomputable def iRng1 (ta : TA) : TI := fun σ H R => ta σ H fun vs H1 => ∃ j : Int, vs = [.int j] ∧ -(2 ^ 62) ≤ j ∧ j < 2 ^ 62 ∧ R (Itr 0 j.toNat) H1
theorem Zqz {a : Expr} {ta : TA} {p pos : Pos} (hg : Gl X "range") (hm : X.mg "range" = none) (ha : PA X [a] ta) (hs : starEach [a] X.env = [(false, eval a X.env)] := by rfl) : PI X tg (.Call (.Name "range" p) [a] [] pos) (iRng1 ta) := by
 intro pins s σ H R I h
 refine Call_ (Zhp I hg hm boot_range (PyProof.Rows.callWith_type1 (thn (ha pos pins s σ H _ I h) fun us s1 ⟨vs, H1, I1, r1, q1⟩ => ?_) hs rfl))
 obtain ⟨j, e, q1, q2, q⟩ := q1
 subst e
 cases r1 with
 | cons r rr =>
  cases rr
  obtain ⟨t, rfl⟩ := r
  exact call_range_1 (Ztu I1 (by omega) (by omega) q1 q2 (by simpa using q))
noncomputable def tFor (wi : TI) (g : TG) (tb : TS) : TS := fun D σ H => wi σ H fun J H1 => ∃ W : Nat -> Nat -> St -> Hp -> Prop, (∃ m, W 0 m σ H1) ∧ ∀ i m σ H, W i m σ H →
 (J.stop i H ∧ D.nx σ H) ∨ (J.go i H ∧ ∃ N : St -> Hp -> Prop, (∀ σ' H', N σ' H' -> ∃ m', m' < m ∧ W (i + 1) m' σ' H') ∧ ∀ x H', J.yld i H x H' -> g x σ H' fun σ2 H2 => tb { D with nx := N, ct := N, bk := D.nx } σ2 H2)
noncomputable def Zjg (fp : List Addr) (h : Heap) : List (Addr × Obj) := fp.filterMap fun b => (h.get? b).map fun o => (b, o)
theorem Zee {fp : List Addr} {h : Heap} {b : Addr} {o : Obj} (hb : b ∈ fp) (e : h.get? b = some o) : (b, o) ∈ Zjg fp h := List.mem_filterMap.mpr ⟨b, hb, by rw [e]; rfl⟩
theorem Zsl {fp : List Addr} {h : Heap} {p : Addr × Obj} (hp : p ∈ Zjg fp h) : p.1 ∈ fp ∧ h.get? p.1 = some p.2 := by
 obtain ⟨b, hb, e⟩ := List.mem_filterMap.mp hp
 cases q : h.get? b with
 | none => rw [q] at e; cases e
 | some o =>
  rw [q] at e
  have e' : (b, o) = p := Option.some.inj e
  subst e'
  exact ⟨hb, q⟩
theorem Inv.pinned {pins : List (Addr × Obj)} {σ : St} {H : Hp} {s : Shared} {fp : List Addr} (I : Inv X pins σ H s) (hf : ∀ b ∈ fp, Zm2 X pins H b) (ho : ∀ b ∈ fp, ∃ o, s.heap.get? b = some o ∧ ∀ v, o.data ≠ .cell v) : Inv X (pins ++ Zjg fp s.heap) σ H s :=
 I.pins_of fun p hp => (List.mem_append.mp hp).elim (fun z => I.pin p (List.mem_append_right _ z)) fun z => by
  obtain ⟨hb, e⟩ := Zsl z
  obtain ⟨f0, f1, f2, _⟩ := hf p.1 hb
  obtain ⟨o, e', d⟩ := ho p.1 hb
  rw [e] at e'; cases e'
  exact ⟨e, f0, f1, f2, d⟩
theorem Inv.unpinned {pins pl : List (Addr × Obj)} {σ : St} {H : Hp} {s : Shared} (I : Inv X (pins ++ pl) σ H s) : Inv X pins σ H s := I.pins_of fun p hp => I.pin p (List.mem_append_right _ (List.mem_append_left _ hp))
theorem Zyb {iter : Expr} {body : List Stmt} {wi : TI} {g : TG} {tb : TS} {pos : Pos} (hp : PassesOwn (model X.prog X.w) X.A X.env X.xe) (hc : X.calm = true) (hi : PI X tg iter wi) (hg : PG X tg g) (hb : PSs X body tb)
  (hs : ∀ x, foldedSetIterable iter X.env x = pure x := by intro _; rfl) : PS X (.For tg iter body [] pos) (tFor wi g tb) := by
 intro pins s σ H D I h
 refine wpAny_For (thn (hi pins s σ H _ I h) fun v s1 h1 => thn h1 fun itv s2 h2 => ?_) hs
 obtain ⟨it, fp, tn, J, H2, e, I2, T, st2, f2, W, ⟨m0, w0⟩, turn⟩ := h2
 subst e
 -- what stays true of the iterator's objects through the loop
 have stat : ∀ {H' : Hp}, (∀ b ∈ fp, H' b = none) -> ∀ b ∈ fp, Zm2 X pins H' b := fun hn b hb => ⟨hn b hb, (f2 b hb).2⟩
 refine codeAny_forLoop_any (fun n s' => ∃ i σ' H', Inv X pins σ' H' s' ∧ tn i s'.heap ∧ (∀ b ∈ fp, H' b = none) ∧ W i n σ' H') ?_ m0 ⟨0, σ, H2, I2, st2, fun b hb => (f2 b hb).1, w0⟩
 rintro n s3 ⟨i, σ3, H3, I3, st3, fr3, w3⟩
 rcases turn i n σ3 H3 w3 with ⟨stop, qn⟩ | ⟨go, N, hN, step⟩
 ·refine wpAny_passesOwn hp (thn (T.done X rfl rfl rfl hc i pins s3 σ3 H3 X.xe I3 (stat fr3) st3 stop) fun r s4 zz => ?_)
  obtain ⟨hr, I4⟩ := zz
  subst hr
  exact wpAny_execs_nil ⟨σ3, H3, I4, qn⟩
 ·refine wpAny_passesOwn hp (thn (T.item X rfl rfl rfl hc i pins s3 σ3 H3 X.xe I3 (stat fr3) st3 go) fun r s4 zz => ?_)
  obtain ⟨u, hr, h4⟩ := zz
  subst hr
  refine wpAny_passesOwn hp (thn h4 fun _ s5 zz => ?_)
  obtain ⟨x, H5, I5, r5, y5, st5, fr5⟩ := zz
  have I5' := I5.pinned (stat fr5) (T.obj _ _ st5)
  refine wpAny_passesOwn hp (thn (hg _ s5 σ3 H5 x u _ I5' r5 (step x H5 y5)) fun _ s6 zz => ?_)
  obtain ⟨σ6, H6, I6, q6⟩ := zz
  refine wpAny_passesOwn hp (thn (hb _ s6 σ6 H6 _ I6 q6) fun f s7 q7 => ?_)
  have again : ∀ {σ7 : St} {H7 : Hp}, Inv X (pins ++ Zjg fp s5.heap) σ7 H7 s7 -> N σ7 H7 -> ∃ m, m < n ∧ ∃ i σ' H', Inv X pins σ' H' s7 ∧ tn i s7.heap ∧ (∀ b ∈ fp, H' b = none) ∧ W i m σ' H' := fun {σ7 H7} I7 n7 => by
   obtain ⟨m', hm, w7⟩ := hN σ7 H7 n7
   refine ⟨m', hm, i + 1, σ7, H7, I7.unpinned, T.keep _ _ _ st5 fun b hb o e => (I7.pin (b, o) (List.mem_append_right _ (List.mem_append_right _ (Zee hb e)))).1, fun b hb => ?_, w7⟩
   obtain ⟨o, e, d⟩ := T.obj _ _ st5 b hb
   exact (I7.pin (b, o) (List.mem_append_right _ (List.mem_append_right _ (Zee hb e)))).2.1
  cases f with
  | next => obtain ⟨σ7, H7, I7, n7⟩ := q7; exact again I7 n7
  | cont => obtain ⟨σ7, H7, I7, n7⟩ := q7; exact again I7 n7
  | brk => obtain ⟨σ7, H7, I7, q7⟩ := q7; exact ⟨σ7, H7, I7.unpinned, q7⟩
  | ret v => obtain ⟨x7, σ7, H7, I7, r7, q7⟩ := q7; exact ⟨x7, σ7, H7, I7.unpinned, r7, q7⟩
end
noncomputable abbrev R2 := V -> V -> Hp -> VK -> Prop
noncomputable def OpR (X : Cx) (f : Value -> Value -> Sem Value) (r : R2) : Prop :=
 ∀ (pins : List (Addr × Obj)) (s : Shared) (σ : St) (H : Hp) (x y : V) (v u : Value) (Q : VK), Inv X pins σ H s -> Zdm x v -> Zdm y u -> r x y H Q →
  wpAny (model X.prog X.w) X.A (f v u) (EP X pins σ Q) X.xe s
noncomputable def UnR (X : Cx) (f : Value -> Sem Value) (r : V -> Hp -> VK -> Prop) : Prop :=
 ∀ (pins : List (Addr × Obj)) (s : Shared) (σ : St) (H : Hp) (x : V) (v : Value) (Q : VK), Inv X pins σ H s -> Zdm x v -> r x H Q →
  wpAny (model X.prog X.w) X.A (f v) (EP X pins σ Q) X.xe s
noncomputable def Zh8 (X : Cx) (f : Value) (r : List V -> Hp -> VK -> Prop) : Prop :=
 ∀ (pins : List (Addr × Obj)) (s : Shared) (σ : St) (H : Hp) (xs : List V) (us : List Value) (Q : VK), Inv X pins σ H s -> Zca xs us -> r xs H Q →
  wpAny (model X.prog X.w) X.A (call f us) (EP X pins σ Q) X.xe s
noncomputable def TruR (X : Cx) (r : V -> Hp -> (Bool -> Hp -> Prop) -> Prop) : Prop :=
 ∀ (pins : List (Addr × Obj)) (s : Shared) (σ : St) (H : Hp) (x : V) (v : Value) (Q : Bool -> Hp -> Prop), Inv X pins σ H s -> Zdm x v -> r x H Q →
  wpAny (model X.prog X.w) X.A (truthy v) (TP X pins σ Q) X.xe s
noncomputable def tOp (r : R2) (ta tb : TE) : TE := fun σ H Q => ta σ H fun x H1 => tb σ H1 fun y H2 => r x y H2 Q
noncomputable def tUn (r : V -> Hp -> VK -> Prop) (ta : TE) : TE := fun σ H Q => ta σ H fun x H1 => r x H1 Q
noncomputable def rI (C : Int -> Int -> Prop) (g : Int -> Int -> V) : R2 := fun x y H Q => ∃ i j, x = .int i ∧ y = .int j ∧ C i j ∧ Q (g i j) H
noncomputable def rI0 (g : Int -> Int -> V) : R2 := fun x y H Q => ∃ i j, x = .int i ∧ y = .int j ∧ Q (g i j) H
noncomputable def rU (g : Int -> V) : V -> Hp -> VK -> Prop := fun x H Q => ∃ i, x = .int i ∧ Q (g i) H
section
variable {X : Cx} {a b c : Expr} {ta tb tc : TE} {pos : Pos}
theorem binT (ha : PE X a ta) (hb : PE X b tb) {pins : List (Addr × Obj)} {s : Shared} {σ : St} {H : Hp} {R : V -> V -> Hp -> Prop} (I : Inv X pins σ H s)
  (h : ta σ H fun x H1 => tb σ H1 fun y H2 => R x y H2) {Q : Value -> Shared -> Prop} {f : Value -> Value -> Sem Value}
  (hf : ∀ v u s2 x y H2, Inv X pins σ H2 s2 -> Zdm x v -> Zdm y u -> R x y H2 -> wpAny (model X.prog X.w) X.A (f v u) Q X.xe s2) :
  wpAny (model X.prog X.w) X.A (eval a X.env) (fun v s₁ => wpAny (model X.prog X.w) X.A (eval b X.env) (fun u s₂ => wpAny (model X.prog X.w) X.A (f v u) Q X.xe s₂) X.xe s₁) X.xe s := by
 refine thn (ha pins s σ H _ I h) fun v s1 zz => ?_
 obtain ⟨x, H1, I1, r1, q1⟩ := zz
 refine thn (hb pins s1 σ H1 _ I1 q1) fun u s2 zz => ?_
 obtain ⟨y, H2, I2, r2, q2⟩ := zz
 exact hf v u s2 x y H2 I2 r1 r2 q2
theorem pe_op {op : Operator} {r : R2} (ho : OpR X (binaryOp op) r) (ha : PE X a ta) (hb : PE X b tb) : PE X (.BinOp a op b pos) (tOp r ta tb) := by
 intro pins s σ H Q I h
 exact wpAny_BinOp (binT ha hb I h fun v u s2 x y H2 I2 rx ry q => ho pins s2 σ H2 x y v u Q I2 rx ry q)
theorem pe_un {op : UnaryOp} {r : V -> Hp -> VK -> Prop} (ho : UnR X (unaryOp op) r) (ha : PE X a ta) : PE X (.UnaryOp op a pos) (tUn r ta) := by
 intro pins s σ H Q I h
 exact UnaryOp_ (thn (ha pins s σ H _ I h) fun v s1 ⟨x, H1, I1, r1, q1⟩ => ho pins s1 σ H1 x v Q I1 r1 q1)
theorem opI {f : Value -> Value -> Sem Value} {C : Int -> Int -> Prop} {g : Int -> Int -> Int}
  (rule : ∀ (i j : Int) (t u : Tok) (s : Shared) (Q : Value -> Shared -> Prop) (E : Value -> Shared -> Prop), C i j -> Q (.int (g i j) s.toks) { s with toks := s.toks + 1 } -> wpAny (model X.prog X.w) X.A (f (.int i t) (.int j u)) Q E s) :
  OpR X f (rI C fun i j => .int (g i j)) := by
 intro pins s σ H x y v u Q I rx ry h
 obtain ⟨i, j, rfl, rfl, hc, q⟩ := h
 obtain ⟨t, rfl⟩ := rx
 obtain ⟨t', rfl⟩ := ry
 exact rule i j t t' s _ _ hc ⟨.int (g i j), H, I.tok _, ⟨_, rfl⟩, q⟩
theorem opI0 {f : Value -> Value -> Sem Value} {g : Int -> Int -> Int}
  (rule : ∀ (i j : Int) (t u : Tok) (s : Shared) (Q : Value -> Shared -> Prop) (E : Value -> Shared -> Prop), Q (.int (g i j) s.toks) { s with toks := s.toks + 1 } -> wpAny (model X.prog X.w) X.A (f (.int i t) (.int j u)) Q E s) :
  OpR X f (rI0 fun i j => .int (g i j)) := by
 intro pins s σ H x y v u Q I rx ry h
 obtain ⟨i, j, rfl, rfl, q⟩ := h
 obtain ⟨t, rfl⟩ := rx
 obtain ⟨t', rfl⟩ := ry
 exact rule i j t t' s _ _ ⟨.int (g i j), H, I.tok _, ⟨_, rfl⟩, q⟩
theorem opB0 {f : Value -> Value -> Sem Value} {g : Int -> Int -> Bool}
  (rule : ∀ (i j : Int) (t u : Tok) (s : Shared) (Q : Value -> Shared -> Prop) (E : Value -> Shared -> Prop), Q (.bool (g i j)) s -> wpAny (model X.prog X.w) X.A (f (.int i t) (.int j u)) Q E s) :
  OpR X f (rI0 fun i j => .bl (g i j)) := by
 intro pins s σ H x y v u Q I rx ry h
 obtain ⟨i, j, rfl, rfl, q⟩ := h
 obtain ⟨t, rfl⟩ := rx
 obtain ⟨t', rfl⟩ := ry
 exact rule i j t t' s _ _ ⟨.bl (g i j), H, I, rfl, q⟩
noncomputable def Zxe (i j : Int) : Prop := 0 < j ∧ j < 1073741824
noncomputable def Zxu (i j : Int) : Prop := 0 ≤ j ∧ j ≤ 1000000 ∧ i.natAbs < 2 ^ 64
noncomputable def Zr5 (i j : Int) : Prop := (-(2 ^ 64) < i ∧ i < 2 ^ 64) ∨ (-(2 ^ 64) < j ∧ j < 2 ^ 64)
theorem Zr5.ok {i j : Int} (h : Zr5 i j) : IntMulOk i j := by
 rcases h with ⟨h1, h2⟩ | ⟨h1, h2⟩
 ·exact .of_left (intBits_le_64 h1 h2)
 ·exact .of_right (intBits_le_64 h1 h2)
theorem Zx0 : OpR X (binaryOp .Add) (rI0 fun i j => .int (i + j)) := opI0 fun _ _ _ _ _ _ _ q => add_int q
theorem Zzt : OpR X (binaryOp .Sub) (rI0 fun i j => .int (i - j)) := opI0 fun _ _ _ _ _ _ _ q => sub_int q
theorem Zy1 : OpR X (binaryOp .Mult) (rI Zr5 fun i j => .int (i * j)) := opI fun _ _ _ _ _ _ _ hc q => mul_int q hc.ok
theorem Zv3 : OpR X (binaryOp .FloorDiv) (rI Zxe fun i j => .int (i / j)) := opI fun i j _ _ _ _ _ hc q => by
 have h1 : (0 : Int) < j := hc.1
 have h2 : j < 1073741824 := hc.2
 exact floordiv_int (by omega) (by rw [Int.fdiv_eq_ediv_of_nonneg i (by omega)]; exact q) (.inl (PyProof.noPylong_small (by omega)))
theorem Zyl : OpR X (binaryOp .Mod) (rI (fun _ j => 0 < j) fun i j => .int (i % j)) := opI fun i j _ _ _ _ _ hc q => by
 have h1 : (0 : Int) < j := hc
 exact mod_int' (by omega) (by rw [Int.fmod_eq_emod_of_nonneg i (by omega)]; exact q)
theorem Zz1 : OpR X (binaryOp .Pow) (rI Zxu fun i j => .int (i ^ j.toNat)) := opI fun _ _ _ _ _ _ _ hc q => pow_int_small hc.1 hc.2.1 hc.2.2 q
theorem unI {f : Value -> Sem Value} {g : Int -> Int}
  (rule : ∀ (i : Int) (t : Tok) (s : Shared) (Q : Value -> Shared -> Prop) (E : Value -> Shared -> Prop), Q (.int (g i) s.toks) { s with toks := s.toks + 1 } -> wpAny (model X.prog X.w) X.A (f (.int i t)) Q E s) :
  UnR X f (rU fun i => .int (g i)) := by
 intro pins s σ H x v Q I rx h
 obtain ⟨i, rfl, q⟩ := h
 obtain ⟨t, rfl⟩ := rx
 exact rule i t s _ _ ⟨.int (g i), H, I.tok _, ⟨_, rfl⟩, q⟩
theorem Zzz : UnR X (unaryOp .USub) (rU fun i => .int (-i)) := unI fun _ _ _ _ _ q => neg_int q
end
section
variable {X : Cx} {a b c : Expr} {ta tb tc : TE} {pos : Pos}
theorem op_lt : OpR X (compareOp .Lt) (rI0 fun i j => .bl (decide (i < j))) := opB0 fun _ _ _ _ _ _ _ q => lt_int q
theorem op_gt : OpR X (compareOp .Gt) (rI0 fun i j => .bl (decide (j < i))) := opB0 fun _ _ _ _ _ _ _ q => gt_int q
theorem op_ge : OpR X (compareOp .GtE) (rI0 fun i j => .bl (decide (j ≤ i))) := opB0 fun _ _ _ _ _ _ _ q => ge_int q
theorem Zat (b : Expr) {op : CmpOp} (h : op ≠ .In := by decide) (h2 : op ≠ .NotIn := by decide) : behindInMarks op b = false := by
 have e1 : (op == CmpOp.In) = false := by cases op <;> first | rfl | exact absurd rfl h
 have e2 : (op == CmpOp.NotIn) = false := by cases op <;> first | rfl | exact absurd rfl h2
 cases b <;> simp [behindInMarks, e1, e2]
theorem Zvu {op : CmpOp} {r : R2} (ho : OpR X (compareOp op) r) (ha : PE X a ta) (hb : PE X b tb) (hm : behindInMarks op b = false) : PE X (.Compare a [op] [b] pos) (tOp r ta tb) := by
 intro pins s σ H Q I h
 exact wpAny_Compare1 (binT ha hb I h fun v u s2 x y H2 I2 rx ry q => ho pins s2 σ H2 x y v u Q I2 rx ry q) hm
noncomputable def tTest (t : TE) : TT := fun σ H Q => t σ H fun x H' => ∃ k, x = .bl k ∧ Q k H'
theorem Zvo {op : CmpOp} {r : R2} (ho : OpR X (compareOp op) r) (ha : PE X a ta) (hb : PE X b tb) (hm : behindInMarks op b = false) : PT X (.Compare a [op] [b] pos) (tTest (tOp r ta tb)) := by
 intro pins s σ H Q I h
 refine wpAny_isTrue_Compare1 (thn (ha pins s σ H _ I h) fun v s1 ⟨x, H1, I1, r1, q1⟩ => thn (hb pins s1 σ H1 _ I1 q1) fun u s2 ⟨y, H2, I2, r2, q2⟩ =>
  thn (ho pins s2 σ H2 x y v u _ I2 r1 r2 q2) fun c s3 ⟨z, H3, I3, r3, k, e, q3⟩ => ?_) hm
 subst e
 cases r3
 exact wpAny_truthy_bool ⟨H3, I3, q3⟩
noncomputable def TruV (K : PySem.W.Frag) (x : V) (H : Hp) (k : Bool) : Prop :=
 match x with
 | .non => k = false
 | .bl b => k = b
 | .int i => k = (i != 0)
 | .str y => y.length ≤ sizeLine ∧ k = ((y.length : Int) != 0)
 | .byt y => y.size ≤ sizeLine ∧ k = ((y.size : Int) != 0)
 | .ref p => (∃ xs, SqL K H p xs ∧ k = !xs.isEmpty) ∨ (∃ xs, SqT K H p xs ∧ k = !xs.isEmpty) ∨ ∃ kvs, H p = some (.dK kvs) ∧ k = !kvs.isEmpty
 | _ => False
theorem Zp0 {κ : Type} {kvs : List (κ × V)} {vs : List (κ × Value)} (r : KV kvs vs) : (!vs.isEmpty) = !kvs.isEmpty := by
 cases r <;> rfl
theorem Zjh {xs : List V} {its : List Value} (r : Zca xs its) : (!its.toArray.isEmpty) = !xs.isEmpty := by
 cases r <;> simp
theorem Zje : (sizeLine : Nat) < 2 ^ 63 := by rw [sizeLine_eq]; decide
theorem Zxz : TruR X (fun x H Q => ∃ k, TruV X.K x H k ∧ Q k H) := by
 intro pins s σ H x v Q I rx h
 obtain ⟨k, e, q⟩ := h
 have hl := Zje
 have hs : sizeLine = 16777216 := sizeLine_eq
 cases x with
 | non =>
  cases rx
  have e' : k = false := e
  subst e'
  exact truthy_none ⟨H, I, q⟩
 | bl b =>
  cases rx
  have e' : k = b := e
  subst e'
  exact wpAny_truthy_bool ⟨H, I, q⟩
 | int i =>
  obtain ⟨t, rfl⟩ := rx
  have e' : k = (i != 0) := e
  subst e'
  exact PySem.P.truthy_int ⟨H, I, q⟩
 | str y =>
  obtain ⟨t, rfl⟩ := rx
  obtain ⟨hy, e'⟩ : y.length ≤ sizeLine ∧ k = ((y.length : Int) != 0) := e
  subst e'
  exact PySem.P.truthy_str (by omega) ⟨H, I.tok _, q⟩
 | byt y =>
  obtain ⟨t, rfl⟩ := rx
  obtain ⟨hy, e'⟩ : y.size ≤ sizeLine ∧ k = ((y.size : Int) != 0) := e
  subst e'
  exact PySem.W.truthy_bytes (by omega) ⟨H, I.tok _, q⟩
 | ref p =>
  cases rx
  have e' : (∃ xs, SqL X.K H p xs ∧ k = !xs.isEmpty) ∨ (∃ xs, SqT X.K H p xs ∧ k = !xs.isEmpty) ∨ ∃ kvs, H p = some (.dK kvs) ∧ k = !kvs.isEmpty := e
  rcases e' with ⟨xs, hx, e'⟩ | ⟨xs, hx, e'⟩ | ⟨kvs, hx, e'⟩
  ·subst e'
   obtain ⟨its, r, pl, hz⟩ := I.list hx
   have hlen := r.length
   exact wpAny_truthy_list pl.isList (by simp only [List.size_toArray]; omega) ⟨H, I.tok _, by rw [Zjh r]; exact q⟩
  ·subst e'
   obtain ⟨its, r, pl, hz⟩ := I.tuple hx
   have hlen := r.length
   exact truthy_tuple pl (by simp only [List.size_toArray]; omega) ⟨H, I.tok _, by rw [Zjh r]; exact q⟩
  ·subst e'
   obtain ⟨hz, hS, vs, r, m⟩ : kvs.length ≤ sizeLine ∧ (p == sysModules) = false ∧ ∃ vs, KV kvs vs ∧ s.heap.DictOf (Znk X.prog X.w) p vs := I.hok p _ hx
   have hlen : kvs.length = vs.length := Paired.length r
   exact wpAny_truthy_dict hS m (by omega) ⟨H, I.tok _, by rw [Zp0 r]; exact q⟩
 | _ => exact (show False from e).elim
theorem Zs7 (ha : PE X a ta) (he : ∀ whole, isTrue a X.env whole = (do let v ← whole; standAt a.pos; holding [v] (truthy v))) :
  PT X a (fun σ H Q => ta σ H fun x H' => ∃ k, TruV X.K x H' k ∧ Q k H') := by
 intro pins s σ H Q I h
 exact isTrue_plain (thn (ha pins s σ H _ I h) fun v s1 ⟨x, H1, I1, r1, q1⟩ => Zxz pins s1 σ H1 x v Q I1 r1 q1) (he _)
theorem Zpl : OpR X (binaryOp .Add) (fun x y H Q => ∃ i j, x = .str i ∧ y = .str j ∧ i.length + j.length ≤ sizeLine ∧ Q (.str (i ++ j)) H) := by
 intro pins s σ H x y v u Q I rx ry h
 obtain ⟨i, j, rfl, rfl, hz, q⟩ := h
 obtain ⟨t, rfl⟩ := rx
 obtain ⟨t', rfl⟩ := ry
 exact add_str (fun t' tk => ⟨.str (i ++ j), H, I.tok _, ⟨_, rfl⟩, q⟩) hz
theorem Zhx {x : V} {us : List Value} (r : Zca [x] us) : ∃ u, us = [u] ∧ Zdm x u := by
 cases r with
 | cons r1 r2 => cases r2; exact ⟨_, rfl, r1⟩
theorem Zwe {x y : V} {us : List Value} (r : Zca [x, y] us) : ∃ u w', us = [u, w'] ∧ Zdm x u ∧ Zdm y w' := by
 cases r with
 | cons r1 r2 =>
  cases r2 with
  | cons r3 r4 => cases r4; exact ⟨_, _, rfl, r1, r3⟩
theorem Zt4 : Zh8 X (.builtin "abs") (fun xs H Q => ∃ i, xs = [.int i] ∧ Q (.int (if i < 0 then -i else i)) H) := by
 intro pins s σ H xs us Q I r h
 obtain ⟨i, rfl, q⟩ := h
 obtain ⟨u, rfl, t, rfl⟩ := Zhx r
 exact call_abs_int fun u tk => ⟨.int (if i < 0 then -i else i), H, I.tok _, ⟨_, rfl⟩, q⟩
theorem Zqd (hc : X.calm = true) : Zh8 X (.builtin "min") (fun xs H Q => ∃ i j, xs = [.int i, .int j] ∧ Q (.int (if j < i then j else i)) H) := by
 intro pins s σ H xs us Q I r h
 obtain ⟨i, j, rfl, q⟩ := h
 obtain ⟨u, w', rfl, ⟨t, rfl⟩, ⟨t', rfl⟩⟩ := Zwe r
 refine min_two_ints (I.ok.hd hc) fun h' tk k => ⟨_, H, I.kept k, ?_, q⟩
 by_cases hj : j < i
 ·rw [if_pos hj, if_pos hj]; exact ⟨_, rfl⟩
 ·rw [if_neg hj, if_neg hj]; exact ⟨_, rfl⟩
theorem Zmn : Zh8 X (.type "int") (fun xs H Q => (∃ i, xs = [.int i] ∧ Q (.int i) H) ∨ ∃ k, xs = [.bl k] ∧ Q (.int (if k then 1 else 0)) H) := by
 intro pins s σ H xs us Q I r h
 rcases h with ⟨i, rfl, q⟩ | ⟨k, rfl, q⟩
 ·obtain ⟨u, rfl, t, rfl⟩ := Zhx r
  exact call_int_int ⟨.int i, H, I, ⟨_, rfl⟩, q⟩
 ·obtain ⟨u, rfl, r1⟩ := Zhx r
  cases r1
  exact call_int_bool ⟨.int (if k then 1 else 0), H, I.tok _, ⟨_, rfl⟩, q⟩
end
structure ObjM (h : Heap) (x dx C : Addr) (mA : Str -> Option Value) : Prop where
 obj : h.get? x = some (PySem.W.instObj C dx)
 ns : h.Ns1 dx mA
 ne : dx ≠ x
theorem Zqe {h : Heap} {dx : Addr} {mA : Str -> Option Value} (n : h.Ns1 dx mA) : ∃ od, h.get? dx = some od ∧ ∀ name, PySem.W.lookIn name od = some (mA name) := by
 obtain ⟨o, es, ep, ho, hd, hk, _, hm⟩ := n
 refine ⟨o, ho, fun name => ?_⟩
 have e := hm name
 unfold nsFind findBy at e
 rw [← Array.find?_toList] at e
 unfold PySem.W.lookIn
 rw [hd]
 dsimp only
 split
 ·rename_i y q
  rw [q] at e
  exact congrArg some e
 ·rename_i q
  rw [q] at e
  have a : es.toList.any (·.refKey) = false := by
   rw [List.any_eq_false]
   intro y hy
   obtain ⟨z, t, hkey⟩ := hk y (Array.mem_toList_iff.mp hy)
   simp [DictEntry.refKey, hkey]
  have a' : ¬ es.toList.any (·.refKey) = true := by rw [a]; exact Bool.false_ne_true
  rw [if_neg a']
  exact congrArg some e
theorem ObjM.look {h : Heap} {x dx C : Addr} {mA : Str -> Option Value} (I : ObjM h x dx C mA) : ∃ od, PySem.W.InstAt h x (PySem.W.instObj C dx) C (some od) ∧ ∀ name, PySem.W.lookIn name od = some (mA name) :=
 let ⟨od, ho, hl⟩ := Zqe I.ns
 ⟨od, ⟨I.obj, rfl, rfl, ho⟩, hl⟩
section
variable {prog : Program} {w : World} {A : Around} {E : Value -> Shared -> Prop} {s : Shared} {K : PySem.W.Frag} {x dx C f : Addr} {mA : Str -> Option Value} {name : Str} {v : Value}
theorem Zvx {expr : Bool} {Q : Value -> Shared -> Prop} (X : K.In s.heap) (I : ObjM s.heap x dx C mA) (hg : PySem.W.plainGet K C name = true) (hh : PySem.W.hasDictIn K C = true)
  (ha : PySem.W.findIn K (.ref C) name = some none) (hv : mA name = some v) (hv' : PySem.W.handedIn v = true) (h : Q v { s with toks := s.toks + 1 }) :
  wpAny (model prog w) A (getAttr (.ref x) name expr) Q E s := by
 obtain ⟨od, J, hl⟩ := I.look
 exact PySem.W.get_value X J (PySem.W.plainGet_of hg).1 (PySem.W.findObj_own hh ha rfl (by rw [hl, hv])) hv' h
theorem Zt7 {pl : Sem Bool} {Q : Value × List Value -> Shared -> Prop} (X : K.In s.heap) (I : ObjM s.heap x dx C mA) (hg : PySem.W.plainGet K C name = true)
  (hf : PySem.W.findIn K (.ref C) name = some (some (.ref f))) (ht : PySem.W.isFn K (.ref f) = true) (hv : mA name = none) (h : Q (.ref f, [.ref x]) s) :
  wpAny (model prog w) A (getMethod (.ref x) name pl) Q E s := by
 obtain ⟨od, J, hl⟩ := I.look
 exact PySem.W.method_fn X J (PySem.W.plainGet_of hg).1 (PySem.W.plainGet_of hg).2 hf (beq_iff_eq.mp ht) (by show (PySem.W.lookIn name od).map (·.isSome) = some false; rw [hl, hv]; rfl) h
theorem Zxf {ns : List Str} {Q : Unit -> Shared -> Prop} (X : K.In s.heap) (I : ObjM s.heap x dx C mA)
  (hs : PySem.W.findIn K (.ref C) "__setattr__" = some (some (.builtin "object.__setattr__"))) (hp : PySem.W.plainOver K C = true) (ht : PySem.W.takerIn K C name = some none) (hh : PySem.W.hasDictIn K C = true)
  (hw : PySem.Within mA ns) (hsz : ns.length ≤ sizeLine)
  (h : ∀ h', ObjM h' x dx C (fun y => if y = name then some v else mA y) -> Heap.SameBut dx s.heap h' -> Q () { s with heap := h', toks := s.toks + 2 }) :
  wpAny (model prog w) A (setAttr (.ref x) name v) Q E s := by
 obtain ⟨od, J, hl⟩ := I.look
 refine PySem.W.set_plain X J hs (PySem.W.osa_open (s := { s with toks := s.toks + 1 }) (r := none) X J hp ht fun b => ?_)
 obtain ⟨cd, hc, hd'⟩ := PySem.W.any_some hh
 have hx : s.heap.get? x = some ⟨.ref C, some dx, .plain, #[]⟩ := I.obj
 refine wpAny_bind (wpAny_pure (wpAny_bind (wpAny_bind (wpAny_loadPart hx (wpAny_bind (PySem.W.Looks.here (s := { s with toks := s.toks + 1 }) (PySem.W.looks_clsIn X hc) ?_))))))
 rw [hd']
 refine wpAny_pure (a := some dx) (wpAny_bind (wpAny_pure (wpAny_bind ?_)))
 refine wpAny_nsSet1 (s := { s with toks := s.toks + 1 }) I.ns fun h' hn2 hs2 => ?_
 obtain ⟨oD, esD, epD, hoD, hdD, hcD⟩ := hn2.count (PySem.Within.cons name v hw)
 refine wpAny_bind (wpAny_lookBehind hoD (by rw [hdD]; exact pastItsLine_dict (Nat.le_trans hcD (by rw [List.length_cons]; omega))) ?_)
 exact wpAny_pure (h _ ⟨(hs2.2 _ (Ne.symm I.ne)).trans I.obj, hn2, I.ne⟩ hs2)
theorem Ztm {R : Result -> Shared -> Prop} {vs : List Value} {kw : List (Str × Value)} (X : K.In s.heap) (hm : PySem.W.makesIn K C = true)
  (hi : PySem.W.findIn K (.ref C) "__init__" = some (some (.ref f))) (hf : PySem.W.typeIn K (.ref f) = some (.type "function"))
  (h : codeAny (model prog w) (A.under (.builtin "type.__call__" ⟨.ref C :: vs, kw⟩)) (.call (.ref f) ⟨.ref (s.heap.objs.size + 1) :: vs, kw⟩) (PySem.W.InitBack (s.heap.objs.size + 1) R)
   { s with heap := (s.heap.push PySem.W.emptyDict).push (PySem.W.instObj C s.heap.objs.size) }) :
  codeAny (model prog w) A (.call (.ref C) ⟨vs, kw⟩) R s := by
 obtain ⟨hh, g, d, t, os⟩ := s
 exact PySem.W.make_core (PySem.W.makes_of X hm) (PySem.W.looks_findIn X hi) (fun self => PySem.W.bind_fn X self hf) (.inl rfl) h
end
noncomputable def Zi6 (f : Str) (v : V) : List (Str × V) -> List (Str × V)
 | [] => [(f, v)]
 | (g, x) :: r => if g = f then (g, v) :: r else (g, x) :: Zi6 f v r
theorem Zin (f g : Str) (v : V) : ∀ fs : List (Str × V), (Zi6 f v fs).lookup g = if g = f then some v else fs.lookup g
 | [] => by
  show List.lookup g [(f, v)] = _
  by_cases h : g = f
  ·have hb : (g == f) = true := beq_iff_eq.mpr h
   simp only [List.lookup, hb, if_pos h]
  ·have hb : (g == f) = false := beq_eq_false_iff_ne.mpr h
   simp only [List.lookup, hb, if_neg h]
 | (k, x) :: r => by
  have ih := Zin f g v r
  rw [show Zi6 f v ((k, x) :: r) = (if k = f then (k, v) :: r else (k, x) :: Zi6 f v r) from rfl]
  by_cases hk : k = f
  ·rw [if_pos hk]
   by_cases h : g = k
   ·have hb : (g == k) = true := beq_iff_eq.mpr h
    simp only [List.lookup, hb, if_pos (h.trans hk)]
   ·have hb : (g == k) = false := beq_eq_false_iff_ne.mpr h
    simp only [List.lookup, hb, if_neg (fun e : g = f => h (e.trans hk.symm))]
  ·rw [if_neg hk]
   by_cases h : g = k
   ·have hb : (g == k) = true := beq_iff_eq.mpr h
    simp only [List.lookup, hb, if_neg (fun e : g = f => hk (h.symm.trans e))]
   ·have hb : (g == k) = false := beq_eq_false_iff_ne.mpr h
    simp only [List.lookup, hb]
    exact ih
theorem Zii (f : Str) (v : V) : ∀ fs : List (Str × V), f ∈ (Zi6 f v fs).map (·.1) ∧ ∀ g, g ∈ fs.map (·.1) -> g ∈ (Zi6 f v fs).map (·.1)
 | [] => ⟨by simp [Zi6], fun g h => by simp at h⟩
 | (k, x) :: r => by
  obtain ⟨i1, i2⟩ := Zii f v r
  rw [show Zi6 f v ((k, x) :: r) = (if k = f then (k, v) :: r else (k, x) :: Zi6 f v r) from rfl]
  by_cases hk : k = f
  ·rw [if_pos hk]
   subst hk
   exact ⟨by simp, fun g h => by simpa using h⟩
  ·rw [if_neg hk]
   refine ⟨?_, fun g h => ?_⟩
   ·rw [List.map_cons]
    exact List.mem_cons_of_mem _ i1
   ·rw [List.map_cons] at h ⊢
    rcases List.mem_cons.mp h with e | e
    ·exact List.mem_cons.mpr (.inl e)
    ·exact List.mem_cons_of_mem _ (i2 g e)
theorem Ziv (f : Str) (v : V) : ∀ fs : List (Str × V), (Zi6 f v fs).length ≤ fs.length + 1
 | [] => by simp [Zi6]
 | (k, x) :: r => by
  have ih := Ziv f v r
  rw [show Zi6 f v ((k, x) :: r) = (if k = f then (k, v) :: r else (k, x) :: Zi6 f v r) from rfl]
  by_cases hk : k = f
  ·rw [if_pos hk, List.length_cons, List.length_cons]; omega
  ·rw [if_neg hk, List.length_cons, List.length_cons]; omega
theorem Zsy.some_of {v : V} {o : Option Value} (r : Zsy (some v) o) : ∃ u, o = some u ∧ Zdm v u := by
 cases o with
 | none => exact (show False from r).elim
 | some u => exact ⟨u, rfl, r⟩
theorem Zsy.none_of {o : Option Value} (r : Zsy none o) : o = none := by
 cases o with
 | none => rfl
 | some u => exact (show False from r).elim
theorem Zrs {v : V} {u : Value} (r : Zdm v u) : PySem.W.handedIn u = true := by
 cases v with
 | non => cases (show u = Value.none from r); rfl
 | bl b => cases (show u = Value.bool b from r); rfl
 | int i => obtain ⟨t, e⟩ := (show ∃ t, u = Value.int i t from r); cases e; rfl
 | str x => obtain ⟨t, e⟩ := (show ∃ t, u = Value.str x t from r); cases e; rfl
 | byt b => obtain ⟨t, e⟩ := (show ∃ t, u = Value.bytes b t from r); cases e; rfl
 | flt b => obtain ⟨t, e⟩ := (show ∃ t, u = Value.float b t from r); cases e; rfl
 | ref a => cases (show u = Value.ref a from r); rfl
 | ty n => cases (show u = Value.type n from r); rfl
section
variable {P : Program} {w : World} {H H' : Hp} {h h' : Heap} {a C dx : Addr} {fs fs' : List (Str × V)}
theorem Znx (hok : HOk P w H h) (e : H a = some (.ins C dx fs)) : ∃ mA, ObjM h a dx C mA ∧ (∀ f, Zsy (fs.lookup f) (mA f)) ∧ PySem.Within mA (fs.map (·.1)) ∧ fs.length ≤ 1000 ∧ H dx = some (.own a) := by
 obtain ⟨d, z, ne, ob, mA, n, r, q⟩ := (show Zeq P w H h a (.ins C dx fs) from hok a _ e)
 exact ⟨mA, ⟨ob, n, ne⟩, r, q, z, d⟩
end
structure Cls (K : PySem.W.Frag) (C : Addr) : Prop where
 pg : PySem.W.plainGet K C Str.empty = true
 hd : PySem.W.hasDictIn K C = true
 po : PySem.W.plainOver K C = true
 sa : PySem.W.findIn K (.ref C) "__setattr__" = some (some (.builtin "object.__setattr__"))
theorem Cls.get {K : PySem.W.Frag} {C : Addr} (c : Cls K C) (f : Str) : PySem.W.plainGet K C f = true := c.pg
noncomputable def Zhv (K : PySem.W.Frag) (C : Addr) (f : Str) : Prop := PySem.W.findIn K (.ref C) f = some none
theorem Zhv.taker {K : PySem.W.Frag} {C : Addr} {f : Str} (n : Zhv K C f) : PySem.W.takerIn K C f = some none := by
 unfold PySem.W.takerIn
 rw [show PySem.W.findIn K (.ref C) f = some none from n]
 rfl
structure Meth (K : PySem.W.Frag) (C : Addr) (m : Str) (f : Addr) : Prop where
 at_ : PySem.W.findIn K (.ref C) m = some (some (.ref f))
 fn : PySem.W.isFn K (.ref f) = true
 kp : PySem.W.keepIn K (.ref f) = true
section
variable {X : Cx} {pins : List (Addr × Obj)} {σ : St} {H : Hp} {s : Shared} {a C dx : Addr} {fs : List (Str × V)} {f : Str} {v : V} {A : Around} {E : Value -> Shared -> Prop}
theorem Zpe {b : Bool} {Q : Value -> Shared -> Prop} (I : Inv X pins σ H s) (e : H a = some (.ins C dx fs)) (c : Cls X.K C) (n : Zhv X.K C f) (l : fs.lookup f = some v)
  (h : ∀ u s', Inv X pins σ H s' -> Zdm v u -> Q u s') : wpAny (model X.prog X.w) A (getAttr (.ref a) f b) Q E s := by
 obtain ⟨mA, O, r, _, _, _⟩ := Znx I.hok e
 obtain ⟨u, hu, ru⟩ := Zsy.some_of (v := v) (o := mA f) (by rw [← l]; exact r f)
 exact Zvx I.kIn O (c.get f) c.hd n hu (Zrs ru) (h u _ (I.tok _) ru)
theorem Zjf {m : Str} {g : Addr} {pl : Sem Bool} {Q : Value × List Value -> Shared -> Prop} (I : Inv X pins σ H s) (e : H a = some (.ins C dx fs)) (c : Cls X.K C) (k : Meth X.K C m g) (l : fs.lookup m = none)
  (h : Q (.ref g, [.ref a]) s) : wpAny (model X.prog X.w) A (getMethod (.ref a) m pl) Q E s := by
 obtain ⟨mA, O, r, _, _, _⟩ := Znx I.hok e
 have hn : mA m = none := Zsy.none_of (by rw [← l]; exact r m)
 exact Zt7 I.kIn O (c.get m) k.at_ k.fn hn h
theorem Zpt {y : V} {u : Value} {Q : Unit -> Shared -> Prop} (I : Inv X pins σ H s) (e : H a = some (.ins C dx fs)) (c : Cls X.K C) (n : Zhv X.K C f) (hl : fs.length < 1000) (ry : Zdm y u)
  (h : ∀ s', Inv X pins σ (upd H a (.ins C dx (Zi6 f y fs))) s' -> Q () s') : wpAny (model X.prog X.w) A (setAttr (.ref a) f u) Q E s := by
 obtain ⟨mA, O, r, wi, _, ho⟩ := Znx I.hok e
 have hz : (fs.map (·.1)).length ≤ sizeLine := by rw [List.length_map, sizeLine_eq]; omega
 refine Zxf I.kIn O c.sa c.po n.taker c.hd wi hz fun h' O' sb => h _ ?_
 have hd : ∃ o, h'.get? dx = some o := let ⟨o, _, _, e', _⟩ := O'.ns; ⟨o, e'⟩
 refine I.write (x := a) (e := dx) (by rw [e]; exact True.intro) (.inr ho) (fun b q hb z => (sb.2 b hb).trans z) hd ?_
 refine ⟨by rw [Za0 O.ne]; exact ho, ?_, O.ne, O'.obj, _, O'.ns, fun g => ?_, fun g hg => ?_⟩
 ·have := Ziv f y fs; omega
 ·show Zsy ((Zi6 f y fs).lookup g) (if g = f then some u else mA g)
  rw [Zin]
  by_cases q : g = f
  ·rw [if_pos q, if_pos q]; exact ry
  ·rw [if_neg q, if_neg q]; exact r g
 ·by_cases q : g = f
  ·rw [q]; exact (Zii f y fs).1
  ·refine (Zii f y fs).2 g (wi g fun z => hg ?_)
   show (if g = f then some u else mA g) = none
   rw [if_neg q]; exact z
theorem Inv.made (I : Inv X pins σ H s) : Inv X pins σ (upd (upd H s.heap.objs.size (.own (s.heap.objs.size + 1))) (s.heap.objs.size + 1) (.ins C s.heap.objs.size []))
  { s with heap := (s.heap.push PySem.W.emptyDict).push (PySem.W.instObj C s.heap.objs.size) } := by
 have e1 : (s.heap.push PySem.W.emptyDict).get? s.heap.objs.size = some PySem.W.emptyDict := Heap.get?_push_size s.heap rfl
 have e2 : ((s.heap.push PySem.W.emptyDict).push (PySem.W.instObj C s.heap.objs.size)).get? (s.heap.objs.size + 1) = some (PySem.W.instObj C s.heap.objs.size) := by
  have := Heap.get?_push_size (s.heap.push PySem.W.emptyDict) (o := PySem.W.instObj C s.heap.objs.size) rfl
  rwa [Heap.size_push] at this
 have e3 : (s.heap.push PySem.W.emptyDict).Ns s.heap.objs.size (fun _ => none) := ⟨PySem.W.emptyDict, #[], _, e1, rfl, (fun e he => absurd he (by simp)), fun _ => rfl⟩
 have I1 := I.laid (a := s.heap.objs.size) (o := .own (s.heap.objs.size + 1)) (h' := s.heap.push PySem.W.emptyDict) (t' := s.toks) (fun b u q => Heap.get?_push_of_some _ q) (Nat.le_refl _) ⟨_, e1⟩
 refine I1.laid (a := s.heap.objs.size + 1) (o := .ins C s.heap.objs.size []) (t' := s.toks) (fun b u q => Heap.get?_push_of_some _ q) (Nat.le_of_eq (Heap.size_push _ _)) ?_
 have ne : s.heap.objs.size ≠ s.heap.objs.size + 1 := Nat.ne_of_lt (Nat.lt_succ_self _)
 refine ⟨by rw [Za0 ne, Zbi], Nat.zero_le _, ne, e2, fun _ => none, (Heap.Ns1.of_empty e3).at fun o q => Heap.get?_push_of_some _ q, fun _ => True.intro, fun y hy => absurd rfl hy⟩
theorem Zw5 {prog : Program} {w : World} {env : Env} {e : Expr} {f : Str} {pos : Pos} {s : Shared} {Q : Value -> Shared -> Prop} (hb : attributeBase e f env (eval e env) = eval e env)
  (h : wpAny (model prog w) A (eval e env) (fun o s₁ => wpAny (model prog w) A (getAttr o f true) Q E s₁) E s) : wpAny (model prog w) A (eval (.Attribute e f pos) env) Q E s :=
 Attribute_any_ h (by rw [arm_eval_Attribute, hb])
end
noncomputable def tFld (K : PySem.W.Frag) (ta : TE) (f : Str) : TE := fun σ H Q => ta σ H fun x H1 => ∃ a C dx fs v, x = .ref a ∧ H1 a = some (.ins C dx fs) ∧ Cls K C ∧ Zhv K C f ∧ fs.lookup f = some v ∧ Q v H1
noncomputable def sFld (K : PySem.W.Frag) (ta tv : TE) (f : Str) : TS := fun D σ H => tv σ H fun y H1 => ta σ H1 fun x H2 => ∃ a C dx fs, x = .ref a ∧ H2 a = some (.ins C dx fs) ∧ Cls K C ∧ Zhv K C f ∧ fs.length < 1000 ∧
 D.nx σ (upd H2 a (.ins C dx (Zi6 f y fs)))
section
variable {X : Cx} {o e value : Expr} {f : Str} {pos pos' tpos : Pos} {ta tv : TE}
theorem Zzi (he : PE X e ta) (hb : attributeBase e f X.env (eval e X.env) = eval e X.env) : PE X (.Attribute e f pos) (tFld X.K ta f) := by
 intro pins s σ H Q I h
 refine Zw5 hb (thn (he pins s σ H _ I h) fun u s1 zz => ?_)
 obtain ⟨x, H1, I1, rx, a, C, dx, fs, v, ex, ea, c, n, l, q⟩ := zz
 subst ex
 obtain rfl : u = Value.ref a := rx
 exact Zpe I1 ea c n l fun u' s2 I2 ru => ⟨v, H1, I2, ru, q⟩
theorem Zz7 (ha : PE X o ta) (hv : PE X value tv) (hs : swapsWith value (some (.Attribute o f pos')) pos.line X.env = pure false) : PS X (.Assign [.Attribute o f pos'] value pos) (sFld X.K ta tv f) := by
 intro pins s σ H D I h
 refine plainObj_wpAny_Assign_Attribute (thn (hv pins s σ H _ I h) fun u s1 ⟨y, H1, I1, ry, q⟩ => thn (ha pins s1 σ H1 _ I1 q) fun ov s2 ⟨x, H2, I2, rx, a, C, dx, fs, ex, ea, c, n, l, q2⟩ => ?_) hs
 subst ex
 obtain rfl : ov = Value.ref a := rx
 exact Zpt I2 ea c n l ry fun s3 I3 => ⟨σ, _, I3, q2⟩
end
structure Room (k : Nat) (A : Around) : Prop where
 hd : A.handled = none
 dp : A.depth + 3 * k + 5 < recursionLimit
 un : A.units + 16 * k + 200 < cLine
 gd : A.guards = some []
theorem Room.mono {j k : Nat} {A : Around} (r : Room k A) (h : j ≤ k) : Room j A := ⟨r.hd, by have := r.dp; omega, by have := r.un; omega, r.gd⟩
theorem Room.deeper {k : Nat} {A : Around} (r : Room (k + 1) A) (env : Env) : Room k (A.deeper env) :=
 ⟨r.hd, by have := r.dp; show A.depth + 1 + 3 * k + 5 < _; omega, by have := r.un; show A.units + 3 + 16 * k + 200 < _; omega, r.gd⟩
theorem Zpp {A : Around} {C : Addr} {us : List Value} {kw : List (Str × Value)} : (A.under (.builtin "type.__call__" ⟨.ref C :: us, kw⟩)).depth = A.depth + 1 := by
 first | rfl | simp [Around.under, Code.weight, Code.isCreation, Code.isGuard, Code.isCaller, Code.frames, Code.isFrame, guardIds]
theorem Zo9 {A : Around} {C : Addr} {us : List Value} {kw : List (Str × Value)} : (A.under (.builtin "type.__call__" ⟨.ref C :: us, kw⟩)).units = A.units + 1 := by
 first | rfl | simp [Around.under, Code.cUnits, Code.frames, Code.isFrame]
theorem Room.make {k : Nat} {A : Around} (r : Room (k + 1) A) (C : Addr) (us : List Value) (kw : List (Str × Value)) : Room k (A.under (.builtin "type.__call__" ⟨.ref C :: us, kw⟩)) :=
 ⟨r.hd, by have := r.dp; rw [Zpp]; omega, by have := r.un; rw [Zo9]; omega, by first | exact r.gd | (simpa [Around.under, Code.guards, Code.isGuard, guardIds, pushGuards] using r.gd)⟩
theorem Room.depth {k : Nat} {A : Around} (r : Room k A) : A.depth < recursionLimit := by have := r.dp; omega
theorem Room.units {k : Nat} {A : Around} (r : Room k A) : A.units + 64 < cLine := by have := r.un; omega
noncomputable def tNil : TA := fun _ H Q => Q [] H
noncomputable def tCons (ta : TE) (tr : TA) : TA := fun σ H Q => ta σ H fun x H1 => tr σ H1 fun xs H2 => Q (x :: xs) H2
section
variable {X : Cx} {e : Expr} {es : List Expr} {te : TE} {t : TA} {pos : Pos}
theorem Zu5 : PA X [] tNil := fun _ _ _ _ H Q I h => Calls.spliced_nil ⟨[], H, I, .nil, h⟩
theorem Zq2 (ha : PE X e te) (hr : PA X es t) (hs : starEach (e :: es) X.env = (false, eval e X.env) :: starEach es X.env := by rfl) : PA X (e :: es) (tCons te t) := by
 intro pos pins s σ H Q I h
 rw [hs]
 show wpAny _ _ (spliced ((false, eval e X.env) :: backTo pos (starEach es X.env))) _ _ s
 refine Calls.spliced_cons (thn (ha pins s σ H _ I h) fun u s1 zz => ?_)
 obtain ⟨x, H1, I1, r1, q1⟩ := zz
 exact thn (hr pos pins s1 σ H1 _ I1 q1) fun us s2 ⟨xs, H2, I2, r2, q2⟩ => ⟨x :: xs, H2, I2, .cons r1 r2, q2⟩
noncomputable def tTup (t : TA) : TE := fun σ H Q => t σ H fun xs H1 => xs.length ≤ sizeLine ∧ ∀ p, H1 p = none -> Q (.ref p) (upd H1 p (.tup xs))
noncomputable def tLst (t : TA) : TE := fun σ H Q => t σ H fun xs H1 => xs.length ≤ sizeLine ∧ ∀ p, H1 p = none -> Q (.ref p) (upd H1 p (.lst xs))
theorem Zzc {x1} (h : PA X es t) : PE X (.Tuple es x1 pos) (tTup t) := by
 intro pins s σ H Q I hq
 refine wpAny_Tuple_spliced (thn (h pos pins s σ H _ I hq) fun us s1 ⟨xs, H1, I1, r, z, q⟩ => ⟨by rw [← r.length]; exact z, ?_⟩)
 have hf : H1 s1.heap.objs.size = none := I1.hok.fresh (Nat.le_refl _)
 refine ⟨.ref s1.heap.objs.size, upd H1 s1.heap.objs.size (.tup xs), I1.laid (t' := s1.toks) (fun b u e => Heap.get?_push_of_some _ e) (Nat.le_refl _) ?_, rfl, q _ hf⟩
 exact ⟨z, us, r, ⟨_, Heap.get?_push_size _ rfl, rfl, ⟨_, rfl⟩, rfl⟩⟩
theorem Zzf (h : PA X es t) : PE X (.List es pos) (tLst t) := by
 intro pins s σ H Q I hq
 refine wpAny_List_spliced (thn (h pos pins s σ H _ I hq) fun us s1 ⟨xs, H1, I1, r, z, q⟩ => ⟨by rw [← r.length]; exact z, ?_⟩)
 have hf : H1 s1.heap.objs.size = none := I1.hok.fresh (Nat.le_refl _)
 refine ⟨.ref s1.heap.objs.size, upd H1 s1.heap.objs.size (.lst xs), I1.laid (t' := s1.toks) (fun b u e => Heap.get?_push_of_some _ e) (Nat.le_refl _) ?_, rfl, q _ hf⟩
 exact ⟨z, us, 0, r, Heap.get?_push_size _ rfl⟩
end
noncomputable abbrev Sp := List V -> Hp -> VK -> XK -> Prop
noncomputable abbrev CXT := List Env -> Hp -> Shared -> XK -> Value -> Shared -> Prop
structure Env0 (P : Program) (w : World) (K : PySem.W.Frag) (mg : Str -> Option Value) (base : Heap) (A : Around) (outer : List Env) (s : Shared) (H : Hp) : Prop where
 frames : A.frames = some outer
 mod : Mod K mg base
 bs : ∀ b o, base.get? b = some o -> s.heap.get? b = some o ∧ H b = none
 bsz : base.objs.size ≤ s.heap.objs.size
 funs : s.heap.FunFrames base outer
 frf : ∀ b ∈ frs outer, H b = none
 hok : HOk P w H s.heap
 bare : AllBare s.gens
noncomputable def CE (outer : List Env) (P : Program) (w : World) (H : Hp) (s : Shared) (Q : VK) (u : Value) (s' : Shared) : Prop :=
 ∃ v H', s'.os = s.os ∧ AllBare s'.gens ∧ Un (frs outer) [] H H' s.heap s'.heap ∧ HOk P w H' s'.heap ∧ Zdm v u ∧ Q v H'
noncomputable def CR (CX : CXT) (outer : List Env) (P : Program) (w : World) (H : Hp) (s : Shared) (Q : VK) (E : XK) (r : Result) (s' : Shared) : Prop :=
 match r with
 | .ok (.ret u) => CE outer P w H s Q u s'
 | .ok _ => False
 | .error e => CX outer H s E e s'
structure FnOk (P : Program) (w : World) (K : PySem.W.Frag) (mg : Str -> Option Value) (base : Heap) (CX : CXT) (k : Nat) (f : Addr) (fd : FuncData) (ps : List Str) (sp : Sp) : Prop where
 len : ∀ vs H Q E, sp vs H Q E -> vs.length = ps.length
 run : ∀ (A : Around) (outer : List Env) (s : Shared) (H : Hp) (args : Args) (us : List Value) (vs : List V) (Q : VK) (E : XK), Room k A -> Env0 P w K mg base A outer s H -> BindsTo s fd args (ps.zip us) -> Zca vs us -> sp vs H Q E →
  codeAny (model P w) A (.call (.ref f) args) (CR CX outer P w H s Q E) s
theorem Env0.make {P : Program} {w : World} {K : PySem.W.Frag} {mg : Str -> Option Value} {base : Heap} {A : Around} {outer : List Env} {s : Shared} {H : Hp} (e : Env0 P w K mg base A outer s H) (C : Addr) (us : List Value) (kw : List (Str × Value)) :
  Env0 P w K mg base (A.under (.builtin "type.__call__" ⟨.ref C :: us, kw⟩)) outer s H := ⟨by first | exact e.frames | (simpa [Around.under, Code.envs, Code.isFrame, pushEnvs] using e.frames), e.mod, e.bs, e.bsz, e.funs, e.frf, e.hok, e.bare⟩
section
variable {X : Cx} {pins : List (Addr × Obj)} {σ : St} {H : Hp} {s s' : Shared}
theorem Inv.env0 (I : Inv X pins σ H s) : Env0 X.prog X.w X.K X.mg X.base X.A X.stack s H :=
 ⟨I.ok.frames, I.ok.mod, I.bs, Nat.le_trans I.ok.bsz I.sz, I.stack, I.stkFree, I.hok, I.bare⟩
theorem Inv.after {Q : VK} {u : Value} (I : Inv X pins σ H s) (h : CE X.stack X.prog X.w H s Q u s') : EP X pins σ Q u s' := by
 obtain ⟨v, H', os, bare, un, hok, r, q⟩ := h
 obtain ⟨hh, g, d, t, os'⟩ := s'
 obtain rfl : os' = s.os := os
 exact ⟨v, H', I.call (h' := hh) (g' := g) (d' := d) (t' := t) (ch := []) un hok bare (fun b z => absurd z (by simp)), r, q⟩
end
noncomputable def tCall (sp : Sp) (dvs : List V) (E : XK) (t : TA) : TE := fun σ H Q => t σ H fun vs H1 => sp (vs ++ dvs) H1 Q E
noncomputable def Zv4 (C : Addr) (m : Str) (sp : Sp) (dvs : List V) (E : XK) (ta : TE) (t : TA) : TE := fun σ H Q => ta σ H fun x H1 => ∃ a dx fs, x = .ref a ∧ H1 a = some (.ins C dx fs) ∧ fs.lookup m = none ∧
 t σ H1 fun vs H2 => sp (x :: (vs ++ dvs)) H2 Q E
noncomputable def Yaa (C : Addr) (sp : Sp) (dvs : List V) (E : XK) (t : TA) : TE := fun σ H Q => t σ H fun vs H1 => ∀ x dx, H1 x = none -> H1 dx = none -> dx ≠ x →
 sp (.ref x :: (vs ++ dvs)) (upd (upd H1 dx (.own x)) x (.ins C dx [])) (fun v H2 => v = .non ∧ Q (.ref x) H2) E
noncomputable def Zhf (K : PySem.W.Frag) (fd : FuncData) (ps : List Str) (ds : List Value) : Prop :=
 ∀ (s : Shared) (us : List Value), K.In s.heap -> (us ++ ds).length = ps.length -> BindsTo s fd ⟨us, []⟩ (ps.zip (us ++ ds))
theorem Zhf.all {K : PySem.W.Frag} {fd : FuncData} {ps : List Str} (h : ∀ us : List Value, us.length = ps.length -> bindArgs fd ⟨us, []⟩ = pure (ps.zip us)) : Zhf K fd ps [] := fun s us _ hl => by
 rw [List.append_nil] at hl ⊢
 exact .of_eq (h us hl)
noncomputable def Zix (CX : CXT) (X : Cx) (E : XK) : Prop := ∀ (pins : List (Addr × Obj)) (σ : St) (H : Hp) (s : Shared) (e : Value) (s' : Shared), Inv X pins σ H s -> CX X.stack H s E e s' -> X.xe e s'
section
variable {X : Cx} {CX : CXT} {k : Nat} {f C : Addr} {fd : FuncData} {ps : List Str} {sp : Sp} {dvs : List V} {ds : List Value} {E : XK} {x m : Str} {p pos apos : Pos} {e o : Expr} {es : List Expr} {ta : TE} {t : TA}
theorem Zrq {pins : List (Addr × Obj)} {σ : St} {H : Hp} {s : Shared} {Q : VK} {us : List Value} {vs : List V} (F : FnOk X.prog X.w X.K X.mg X.base CX k f fd ps sp) (hr : Room k X.A) (hb : Zhf X.K fd ps ds) (hd : Zca dvs ds) (hx : Zix CX X E)
  (I : Inv X pins σ H s) (r : Zca vs us) (h : sp (vs ++ dvs) H Q E) : wpAny (model X.prog X.w) X.A (call (.ref f) us) (EP X pins σ Q) X.xe s := by
 have r2 : Zca (vs ++ dvs) (us ++ ds) := r.append hd
 have hl : (us ++ ds).length = ps.length := by rw [← r2.length]; exact F.len _ _ _ _ h
 refine wpAny_call (codeAny_mono (F.run X.A X.stack s H ⟨us, []⟩ (us ++ ds) (vs ++ dvs) Q E hr I.env0 (hb s us I.kIn hl) r2 h) fun r s' hq => ?_)
 cases r with
 | error e => exact hx pins σ H s e s' I hq
 | ok fl =>
  cases fl with
  | ret u => exact I.after hq
  | next => exact False.elim hq
  | brk => exact False.elim hq
  | cont => exact False.elim hq
theorem Zxh (F : FnOk X.prog X.w X.K X.mg X.base CX k f fd ps sp) (hr : Room k X.A) (hg : Gl X x) (hm : X.mg x = some (.ref f)) (hk : PySem.W.keepIn X.K (.ref f) = true) (hb : Zhf X.K fd ps ds) (hd : Zca dvs ds) (hx : Zix CX X E)
  (ha : PA X (e :: es) t) (hdb : (x == ("__debug__" : Str)) = false := by decide) (he : starEach (e :: es) X.env = (false, eval e X.env) :: starEach es X.env := by rfl) (hpl : (backTo pos (starEach es X.env)).any (·.1) = false := by rfl) :
  PE X (.Call (.Name x p) (e :: es) [] pos) (tCall sp dvs E t) := by
 intro pins s σ H Q I h
 refine wpAny_Call_Name_kw (Zm9 I hg hm ?_ hdb)
 refine PySem.W.callWith_K (h₀ := X.base) I.ok.mod.kin hk (thn (ha pos pins s σ H _ I h) fun us s1 ⟨vs, H1, I1, r, q⟩ => ⟨I1.kIn, ?_⟩) he hpl
 exact Zrq F hr hb hd hx I1 r q
theorem Zwx {pl : Sem Bool} (he : PE X o ta) (c : Cls X.K C) (hm : Meth X.K C m f) (F : FnOk X.prog X.w X.K X.mg X.base CX k f fd ps sp) (hr : Room k X.A) (hb : Zhf X.K fd ps ds) (hd : Zca dvs ds) (hx : Zix CX X E) (ha : PA X (e :: es) t)
  (hst : starEach (e :: es) X.env = (false, eval e X.env) :: starEach es X.env := by rfl) (hpl : (backTo pos (starEach es X.env)).any (·.1) = false := by rfl)
  (ht : eval (.Call (.Attribute o m apos) (e :: es) [] pos) X.env = (do
   let ov ← eval o X.env
   standAt apos.atName
   let (f, first) ← holding [ov] (getMethod ov m pl)
   callWith pos f first (backTo pos (starEach (e :: es) X.env)) (backToKw pos (keywordEach [] X.env))) := by rfl) :
  PE X (.Call (.Attribute o m apos) (e :: es) [] pos) (Zv4 C m sp dvs E ta t) := by
 intro pins s σ H Q I h
 refine PySem.W.methodCall_KW (pl := pl) (thn (he pins s σ H _ I h) fun u s1 ⟨x, H1, I1, rx, a, dx, fs, ex, ea, l, q⟩ => ?_) ht
 subst ex
 obtain rfl : u = Value.ref a := rx
 refine Zjf I1 ea c hm l ?_
 refine PySem.W.callWith_K (first := [.ref a]) (h₀ := X.base) I.ok.mod.kin hm.kp (thn (ha pos pins s1 σ H1 _ I1 q) fun us s2 ⟨vs, H2, I2, r, q2⟩ => ⟨I2.kIn, ?_⟩) hst hpl
 exact Zrq (us := .ref a :: us) (vs := .ref a :: vs) F hr hb hd hx I2 (.cons rfl r) q2
theorem Zud {pl : Sem Bool} (he : PE X o ta) (c : Cls X.K C) (hm : Meth X.K C m f) (F : FnOk X.prog X.w X.K X.mg X.base CX k f fd ps sp) (hr : Room k X.A) (hb : Zhf X.K fd ps ds) (hd : Zca dvs ds) (hx : Zix CX X E)
  (ht : eval (.Call (.Attribute o m apos) [] [] pos) X.env = (do
   let ov ← eval o X.env
   standAt apos.atName
   let (f, first) ← holding [ov] (getMethod ov m pl)
   callWith pos f first (backTo pos (starEach [] X.env)) (backToKw pos (keywordEach [] X.env))) := by rfl) :
  PE X (.Call (.Attribute o m apos) [] [] pos) (Zv4 C m sp dvs E ta tNil) := by
 intro pins s σ H Q I h
 refine PySem.W.methodCall_KW (pl := pl) (thn (he pins s σ H _ I h) fun u s1 ⟨x, H1, I1, rx, a, dx, fs, ex, ea, l, q⟩ => ?_) ht
 subst ex
 obtain rfl : u = Value.ref a := rx
 refine Zjf I1 ea c hm l ?_
 exact PySem.W.callWith_K0 (first := [.ref a]) I1.kIn hm.kp (Zrq (us := [.ref a]) (vs := [.ref a]) F hr hb hd hx I1 (.cons rfl .nil) q)
structure Mk (K : PySem.W.Frag) (C f : Addr) : Prop where
 makes : PySem.W.makesIn K C = true
 init : PySem.W.findIn K (.ref C) "__init__" = some (some (.ref f))
 fn : PySem.W.isFn K (.ref f) = true
 kp : PySem.W.keepIn K (.ref C) = true
theorem Zs0 {pins : List (Addr × Obj)} {σ : St} {H : Hp} {s : Shared} {Q : VK} {us : List Value} {vs : List V} (M : Mk X.K C f) (F : FnOk X.prog X.w X.K X.mg X.base CX k f fd ps sp) (hr : Room (k + 1) X.A) (hb : Zhf X.K fd ps ds) (hd : Zca dvs ds)
  (hx : Zix CX X E) (I : Inv X pins σ H s) (r : Zca vs us)
  (h : ∀ x dx, H x = none -> H dx = none -> dx ≠ x -> sp (.ref x :: (vs ++ dvs)) (upd (upd H dx (.own x)) x (.ins C dx [])) (fun v H2 => v = .non ∧ Q (.ref x) H2) E) :
  wpAny (model X.prog X.w) X.A (call (.ref C) us) (EP X pins σ Q) X.xe s := by
 have hq := h (s.heap.objs.size + 1) s.heap.objs.size (I.hok.fresh (Nat.le_succ _)) (I.hok.fresh (Nat.le_refl _)) (Nat.ne_of_lt (Nat.lt_succ_self _))
 have I2 := Inv.made (C := C) I
 have r2 : Zca (V.ref (s.heap.objs.size + 1) :: (vs ++ dvs)) (Value.ref (s.heap.objs.size + 1) :: (us ++ ds)) := .cons rfl (r.append hd)
 have hl : (Value.ref (s.heap.objs.size + 1) :: us ++ ds).length = ps.length := by
  have e := r2.length
  rw [F.len _ _ _ _ hq] at e
  exact e.symm
 refine wpAny_call (Ztm (f := f) I.kIn M.makes M.init (beq_iff_eq.mp M.fn) (codeAny_mono (F.run _ X.stack _ _ ⟨Value.ref (s.heap.objs.size + 1) :: us, []⟩ (Value.ref (s.heap.objs.size + 1) :: (us ++ ds)) _ _ E (hr.make C us [])
  (I2.env0.make C us []) (hb _ (Value.ref (s.heap.objs.size + 1) :: us) I2.kIn hl) r2 hq) fun r s' hq' => ?_))
 cases r with
 | error e => exact hx pins σ _ _ e s' I2 hq'
 | ok fl =>
  cases fl with
  | ret u =>
   obtain ⟨v, H', I3, rv, ev, q3⟩ := I2.after hq'
   subst ev
   exact ⟨rv, ⟨V.ref (s.heap.objs.size + 1), H', I3, rfl, q3⟩⟩
  | next => exact False.elim hq'
  | brk => exact False.elim hq'
  | cont => exact False.elim hq'
theorem Zvw (M : Mk X.K C f) (F : FnOk X.prog X.w X.K X.mg X.base CX k f fd ps sp) (hr : Room (k + 1) X.A) (hg : Gl X x) (hm : X.mg x = some (.ref C)) (hb : Zhf X.K fd ps ds) (hd : Zca dvs ds) (hx : Zix CX X E)
  (ha : PA X (e :: es) t) (hdb : (x == ("__debug__" : Str)) = false := by decide) (he : starEach (e :: es) X.env = (false, eval e X.env) :: starEach es X.env := by rfl) (hpl : (backTo pos (starEach es X.env)).any (·.1) = false := by rfl) :
  PE X (.Call (.Name x p) (e :: es) [] pos) (Yaa C sp dvs E t) := by
 intro pins s σ H Q I h
 refine wpAny_Call_Name_kw (Zm9 I hg hm ?_ hdb)
 refine PySem.W.callWith_K (h₀ := X.base) I.ok.mod.kin M.kp (thn (ha pos pins s σ H _ I h) fun us s1 ⟨vs, H1, I1, r, q⟩ => ⟨I1.kIn, ?_⟩) he hpl
 exact Zs0 M F hr hb hd hx I1 r q
end
structure FnScope (N P : List Str) (sc : Scope) : Prop where
 kind : sc.kind = .function
 co : sc.isCoroutine = false
 gen : sc.isGenerator = false
 nd : N.Nodup
 pre : N.take P.length = P
 par : ∀ x ∈ P, sc.names.lookup x = some .local ∨ sc.names.lookup x = some .cell
 nofree : ∀ y ∈ sc.names, y.2 ≠ .free
theorem Zms {kindOf : Str -> Option NameKind} {x : Str} : ∀ {binds : List (Str × Value)} {m : Str -> Option Value}, (∀ v, (x, v) ∉ binds) -> bindL kindOf binds m x = m x
 | [], _, _ => rfl
 | (n, v) :: r, m, h => by
  unfold bindL
  rw [Zms fun w hw => h w (List.mem_cons_of_mem _ hw)]
  split
  ·have : x ≠ n := by rintro rfl; exact h v List.mem_cons_self
   simp [this]
  ·rfl
theorem Zl5 {kindOf : Str -> Option NameKind} {x : Str} : ∀ {binds : List (Str × Value)} {m : Str -> Option Value}, (∀ v, (x, v) ∉ binds) -> bindC kindOf binds m x = m x
 | [], _, _ => rfl
 | (n, v) :: r, m, h => by
  unfold bindC
  rw [Zl5 fun w hw => h w (List.mem_cons_of_mem _ hw)]
  split
  ·rfl
  ·have : x ≠ n := by rintro rfl; exact h v List.mem_cons_self
   simp [this]
theorem Zlh {kindOf : Str -> Option NameKind} {x : Str} {v : Value} : ∀ {P : List Str} {vs : List Value} {i : Nat} {m : Str -> Option Value}, P.Nodup -> P[i]? = some x -> vs[i]? = some v -> kindOf x = some .local →
  bindL kindOf (P.zip vs) m x = some v
 | [], _, _, _, _, h, _, _ => by simp at h
 | _ :: _, [], _, _, _, _, h, _ => by simp at h
 | p :: P, w :: vs, 0, m, nd, h1, h2, hk => by
  simp at h1 h2; subst h1; subst h2
  show bindL kindOf ((p, w) :: P.zip vs) m p = _
  unfold bindL
  rw [Zms fun v hv => (List.nodup_cons.mp nd).1 (List.of_mem_zip hv).1, if_pos hk]
  simp
 | p :: P, w :: vs, i + 1, m, nd, h1, h2, hk => by
  show bindL kindOf ((p, w) :: P.zip vs) m x = _
  unfold bindL
  exact Zlh (i := i) (List.nodup_cons.mp nd).2 (by simpa using h1) (by simpa using h2) hk
theorem Zlw {kindOf : Str -> Option NameKind} {x : Str} {v : Value} : ∀ {P : List Str} {vs : List Value} {i : Nat} {m : Str -> Option Value}, P.Nodup -> P[i]? = some x -> vs[i]? = some v -> kindOf x ≠ some .local →
  bindC kindOf (P.zip vs) m x = some v
 | [], _, _, _, _, h, _, _ => by simp at h
 | _ :: _, [], _, _, _, _, h, _ => by simp at h
 | p :: P, w :: vs, 0, m, nd, h1, h2, hk => by
  simp at h1 h2; subst h1; subst h2
  show bindC kindOf ((p, w) :: P.zip vs) m p = _
  unfold bindC
  rw [Zl5 fun v hv => (List.nodup_cons.mp nd).1 (List.of_mem_zip hv).1, if_neg hk]
  simp
 | p :: P, w :: vs, i + 1, m, nd, h1, h2, hk => by
  show bindC kindOf ((p, w) :: P.zip vs) m x = _
  unfold bindC
  exact Zlw (i := i) (List.nodup_cons.mp nd).2 (by simpa using h1) (by simpa using h2) hk
noncomputable def start (N : List Str) (vs : List V) : St := vs.map some ++ List.replicate (N.length - vs.length) none
noncomputable def Zpm (CX : CXT) (P : Program) (w : World) (K : PySem.W.Frag) (mg : Str -> Option Value) (base : Heap) (N : List Str) (qual : Str) (scope : Scope) (f : Addr) (cd : Value) (A : Around) (outer : List Env) (s : Shared) (H : Hp) (E : XK) : Cx where
 prog := P
 w := w
 K := K
 mg := mg
 base := base
 A := A.deeper (envOfC qual scope s.heap.objs.size f cd)
 N := N
 s₀ := s
 H₀ := H
 env := envOfC qual scope s.heap.objs.size f cd
 outer := outer
 stack := envOfC qual scope s.heap.objs.size f cd :: outer
 ex := []
 calm := true
 fn := fun _ => true
 pn := []
 xe := fun e s' => wpAny (model P w) (A.deeper (envOfC qual scope s.heap.objs.size f cd)) (leaving (envOfC qual scope s.heap.objs.size f cd) e) (fun _ s'' => CX outer H s E e s'') (fun e' s'' => CX outer H s E e' s'') s'
theorem Zh1 {sc : Scope} {n : Nat} {x : Str} (h : sc.names.lookup x = some .cell) : ∃ c, (cellsFrom n sc.names []).lookup x = some c := by
 have q := PySem.W.cellsFrom_some sc.names n [] (.inl h)
 exact Option.isSome_iff_exists.mp q
theorem Zsv {CX : CXT} {P : Program} {w : World} {K : PySem.W.Frag} {mg : Str -> Option Value} {base : Heap} {N ps : List Str} {qual : Str} {scope : Scope} {f : Addr} {cd : Value} {A : Around} {outer : List Env} {s s1 : Shared} {H : Hp} {E : XK} {us : List Value} {vs : List V}
  (S : FnScope N ps scope) (hd : A.handled = none) (e0 : Env0 P w K mg base A outer s H) (hl : vs.length = ps.length) (r : Zca vs us)
  (x : InCallC s s.heap.objs.size (bindL (envOfC qual scope s.heap.objs.size f cd).kindOf (ps.zip us) fun _ => none) (cellsFrom (s.heap.objs.size + 1) scope.names []) (bindC (envOfC qual scope s.heap.objs.size f cd).kindOf (ps.zip us) fun _ => none) s1) :
  Inv (Zpm CX P w K mg base N qual scope f cd A outer s H E) [] (start N vs) H s1 := by
 have hpl : ps.length ≤ N.length := by have := congrArg List.length S.pre; rw [List.length_take] at this; omega
 obtain ⟨h1, tk, rfl, hk⟩ := x.done
 have noA : ∀ b : Addr, b ∉ (Zpm CX P w K mg base N qual scope f cd A outer s H E).ex := fun b z => absurd (show b ∈ ([] : List Addr) from z) (by simp)
 refine ⟨⟨e0.mod, S.kind, rfl, rfl, Nat.le_refl _, fun y z c h1 h2 => ?_, fun y hy => ?_, fun y c _ h => ?_, fun _ => hd, Around.frames_deeper e0.frames, .inr ⟨rfl, rfl⟩, fun b z => absurd z (noA b), e0.bs, e0.bsz, fun b _ _ => noA b, fun b z => absurd z (noA b), e0.funs, e0.frf⟩,
  rfl, e0.bare, Un.kept hk, ⟨_, x.toInCall.ns, fun i y v h1 h2 h3 => ?_⟩, fun y c h => ⟨_, x.cell y c h⟩, e0.hok.fresh (Nat.le_refl _), fun y c h => ?_, fun p hp => absurd (show p ∈ ([] : List (Addr × Obj)) from hp) (by simp), e0.hok.kept hk, ?_⟩
 ·exact name_of_addr x.apart (PySem.mem_of_lookup h1) (PySem.mem_of_lookup h2)
 ·have hy : scope.names.lookup y = some .cell ∨ scope.names.lookup y = some .free := hy
  rcases hy with hy | hy
  ·exact Zh1 hy
  ·exact absurd rfl (S.nofree _ (PySem.mem_of_lookup hy))
 ·exact Nat.le_of_lt (x.above y c (PySem.mem_of_lookup h))
 ·have hi : i < vs.length := by
   unfold start at h2
   by_cases hi : i < vs.length
   ·exact hi
   ·rw [List.getElem?_append_right (by simpa using hi)] at h2
    rw [List.getElem?_replicate] at h2
    split at h2 <;> cases h2
  have ha : vs[i]? = some v := by
   unfold start at h2
   rw [List.getElem?_append_left (by simpa using hi), List.getElem?_map] at h2
   cases e : vs[i]? with
   | none => rw [e] at h2; cases h2
   | some a => rw [e] at h2; cases h2; rfl
  obtain ⟨u, hu, rv⟩ := r.get ha
  have hp : ps[i]? = some y := by
   rw [← S.pre, List.getElem?_take_of_lt (by omega)]; exact h1
  have ndP : ps.Nodup := by rw [← S.pre]; exact S.nd.sublist (List.take_sublist _ _)
  refine ⟨u, rv, ?_⟩
  rcases S.par y (List.mem_of_getElem? hp) with k | k
  ·exact .inl ⟨k, Zlh ndP hp hu k⟩
  ·obtain ⟨c, e⟩ := Zh1 (n := s.heap.objs.size + 1) k
   refine .inr ⟨.inl k, c, e, ?_⟩
   have q := x.cell y c e
   rw [Zlw ndP hp hu (by show scope.names.lookup y ≠ _; rw [k]; decide)] at q
   exact q
 ·exact e0.hok.fresh (Nat.le_of_lt (x.above y c (PySem.mem_of_lookup h)))
 ·unfold start
  show _ = N.length
  rw [List.length_append, List.length_map, List.length_replicate]
  omega
theorem fn_of {CX : CXT} {P : Program} {w : World} {K : PySem.W.Frag} {mg : Str -> Option Value} {base : Heap} {k : Nat} {f : Addr} {name qual : Str} {params : Arguments} {body : List Stmt} {scope : Scope} {dV kV doc pm cdv ct oc : Value} {an od : Option Addr}
  {osl : Array (Option Value)} {N ps : List Str} {sp : Sp} (lk : K.lookup f = some ⟨oc, od, .func (PySem.W.fnOf name qual params body scope dV kV doc pm an cdv ct), osl⟩) (hcd : PySem.W.codeIn K cdv qual = true) (S : FnScope N ps scope)
  (len : ∀ vs H Q E, sp vs H Q E -> vs.length = ps.length)
  (hbody : ∀ (A : Around) (outer : List Env) (s : Shared) (H : Hp) (vs : List V) (Q : VK) (E : XK), Room k (A.deeper (envOfC qual scope s.heap.objs.size f cdv)) -> sp vs H Q E →
   ∃ t, PSs (Zpm CX P w K mg base N qual scope f cdv A outer s H E) body t ∧ t { nx := fun _ H' => Q .non H', rt := Q } (start N vs) H) :
  FnOk P w K mg base CX (k + 1) f (PySem.W.fnOf name qual params body scope dV kV doc pm an cdv ct) ps sp := by
 refine ⟨len, fun A outer s H args us vs Q E hr e0 hb r hsp => ?_⟩
 have hl := len _ _ _ _ hsp
 have KX : K.In s.heap := e0.mod.kin.keeps fun b o e => (e0.bs b o e).1
 have lim : s.heap.NoLimit := e0.mod.nolimit.keeps fun b o e => (e0.bs b o e).1
 have hkind : ∀ y ∈ ps.zip us, scope.names.lookup y.1 = some .local ∨ (scope.names.lookup y.1 = some .cell ∧ ((cellsFrom (s.heap.objs.size + 1) scope.names []).lookup y.1).isSome = true) := fun ⟨n, v⟩ hy => by
  rcases S.par n (List.of_mem_zip hy).1 with q | q
  ·exact .inl q
  ·exact .inr ⟨q, PySem.W.cellsFrom_some _ _ _ (.inl q)⟩
 refine codeAny_call_function hr.depth (KX _ _ lk) rfl S.co S.gen rfl (PySem.W.codeRec_of KX hcd) (hb _ _ _ _ ?_)
 refine wpAny_newFunctionEnv_cells S.kind hkind fun env he s1 x => ?_
 subst he
 refine ⟨lim.keeps x.toInCall.keep, codeAny_func ?_⟩
 obtain ⟨t, ht, hq⟩ := hbody A outer s H vs Q E (hr.deeper _) hsp
 have I : Inv (Zpm CX P w K mg base N qual scope f cdv A outer s H E) [] (start N vs) H s1 := Zsv S hr.hd e0 hl r x
 refine wpAny_mono (ht [] s1 (start N vs) H _ I hq) (fun fl s' hs => ?_) fun e s' hs => hs
 have fin : ∀ {σ' : St} {H' : Hp} {v : V} {u : Value}, Inv (Zpm CX P w K mg base N qual scope f cdv A outer s H E) [] σ' H' s' -> Zdm v u -> Q v H' -> CE outer P w H s Q u s' :=
  fun {σ' H' v u} J rv q => ⟨v, H', J.os, J.bare, J.base, J.hok, rv, q⟩
 cases fl with
 | ret u =>
  obtain ⟨v, σ', H', J, rv, q⟩ := hs
  exact fin J rv q
 | next =>
  obtain ⟨σ', H', J, q⟩ := hs
  exact fin (v := V.non) (u := Value.none) J rfl q
 | brk =>
  obtain ⟨_, _, _, q⟩ := hs
  exact False.elim q
 | cont =>
  obtain ⟨_, _, _, q⟩ := hs
  exact False.elim q
section
variable {X : Cx} {x : Str} {p pos : Pos} {e : Expr} {es : List Expr} {t : TA} {id T : String} {r : List V -> Hp -> VK -> Prop}
noncomputable def tCB (r : List V -> Hp -> VK -> Prop) (t : TA) : TE := fun σ H Q => t σ H fun vs H1 => r vs H1 Q
theorem Zuf (hc : Zh8 X (.builtin id) r) (hg : Gl X x) (hm : X.mg x = none) (hv : bootBuiltins x = some (.builtin id)) (ha : PA X (e :: es) t) (hn : x ≠ "__name__" := by decide) (hdb : (x == ("__debug__" : Str)) = false := by decide)
  (he : starEach (e :: es) X.env = (false, eval e X.env) :: starEach es X.env := by rfl) (hpl : (backTo pos (starEach es X.env)).any (·.1) = false := by rfl) : PE X (.Call (.Name x p) (e :: es) [] pos) (tCB r t) := by
 intro pins s σ H Q I h
 refine wpAny_Call_Name_kw (Zhp I hg hm hv ?_ hn hdb)
 exact PyProof.Rows.callWith_builtin1 (thn (ha pos pins s σ H _ I h) fun us s1 ⟨vs, H1, I1, r1, q1⟩ => hc pins s1 σ H1 vs us Q I1 r1 q1) he hpl
theorem Zmr (hc : Zh8 X (.type T) r) (hg : Gl X x) (hm : X.mg x = none) (hv : bootBuiltins x = some (.type T)) (ha : PA X (e :: es) t) (hn : x ≠ "__name__" := by decide) (hdb : (x == ("__debug__" : Str)) = false := by decide)
  (he : starEach (e :: es) X.env = (false, eval e X.env) :: starEach es X.env := by rfl) (hpl : (backTo pos (starEach es X.env)).any (·.1) = false := by rfl) : PE X (.Call (.Name x p) (e :: es) [] pos) (tCB r t) := by
 intro pins s σ H Q I h
 refine wpAny_Call_Name_kw (Zhp I hg hm hv ?_ hn hdb)
 exact PyProof.Rows.callWith_type1 (thn (ha pos pins s σ H _ I h) fun us s1 ⟨vs, H1, I1, r1, q1⟩ => hc pins s1 σ H1 vs us Q I1 r1 q1) he hpl
end
end L2
namespace HT
open PySem PyProof.Rows
section
variable {prog : Program} {w : World} {A : Around} {E : Value -> Shared -> Prop} {s : Shared}
theorem cat_tup {t b : Addr} {vs ws : List Value} {Q : Value -> Shared -> Prop} (ht : IsTup s.heap t vs.toArray) (hb : IsTup s.heap b ws.toArray) (hv : vs ≠ [])
  (h1 : ws = [] → Q (.ref t) s) (h2 : ws ≠ [] → Q (.ref s.heap.objs.size) { s with heap := s.heap.push { cls := .type "tuple", data := .seq (vs ++ ws).toArray } })
  (hsz : vs.length + ws.length ≤ sizeLine) : wpAny (model prog w) A (binaryOp .Add (.ref t) (.ref b)) Q E s := by
 obtain ⟨⟨cls, dd, data, sl⟩, ho, hc, n, hd⟩ := id ht
 obtain ⟨⟨cls2, dd2, data2, sl2⟩, ho2, hc2, n2, hd2⟩ := id hb
 simp only at hc hd hc2 hd2
 subst hc hd hc2 hd2
 have e : vs.toArray ++ ws.toArray = (vs ++ ws).toArray := by simp
 by_cases hw : ws = []
 ·exact concat_meets ⟨_, ho, rfl⟩ ⟨_, ho2, rfl⟩ noFill_tuple_add seq_tuple_add PySem.F.slot_tuple_add PySem.F.entry_tuple_add (PySem.F.args_tuple_add_2 _ _)
   (tuple_addW1 t b vs.toArray ws.toArray n n2 dd dd2 sl sl2 (by simpa using hv) (by simp [hw])) ⟨ho, ho2, h1 hw⟩
 ·refine concat_meets ⟨_, ho, rfl⟩ ⟨_, ho2, rfl⟩ noFill_tuple_add seq_tuple_add PySem.F.slot_tuple_add PySem.F.entry_tuple_add (PySem.F.args_tuple_add_2 _ _)
   (tuple_addW2 t b vs.toArray ws.toArray n n2 dd dd2 sl sl2 (by simpa using hv) (by simpa using hw) (by rw [List.size_toArray, List.size_toArray]; exact hsz)) ⟨ho, ho2, ?_⟩
  rw [e]
  exact h2 hw
noncomputable def sIx (n d : Nat) : Option Int -> Nat
 | none => d
 | some v => if v < 0 then (v + (n : Int)).toNat else min v.toNat n
theorem Zxx (n d : Nat) (hd : d ≤ n) (o : Option Int) : sIx n d o ≤ n := by
 cases o with
 | none => exact hd
 | some v =>
  show (if v < 0 then (v + (n : Int)).toNat else min v.toNat n) ≤ n
  by_cases hv : v < 0
  ·rw [if_pos hv]; omega
  ·rw [if_neg hv]; exact Nat.min_le_right _ _
theorem Zr8 (v : Int) (n d : Nat) : (if v < 0 then max (v + (n : Int)) 0 else min v (n : Int)) = ((sIx n d (some v) : Nat) : Int) := by
 show (if v < 0 then max (v + (n : Int)) 0 else min v (n : Int)) = (((if v < 0 then (v + (n : Int)).toNat else min v.toNat n) : Nat) : Int)
 by_cases hv : v < 0
 ·simp only [if_pos hv]; omega
 ·simp only [if_neg hv]; omega
theorem Zps (lo hi : Option Int) (n : Nat) : Builtin.Slice.sliceAdjust lo hi 1 (n : Int) = (((sIx n 0 lo : Nat) : Int), ((sIx n n hi : Nat) : Int)) := by
 have h1 : ¬ ((1 : Int) < 0) := by omega
 unfold Builtin.Slice.sliceAdjust
 simp only [h1, if_false]
 refine Prod.ext ?_ ?_
 ·cases lo with
  | none => rfl
  | some v => exact Zr8 v n 0
 ·cases hi with
  | none => rfl
  | some v => exact Zr8 v n n
theorem Zo6 (i j : Nat) : Builtin.Slice.slicePlaces (i : Int) (j : Int) 1 = j - i := by
 unfold Builtin.Slice.slicePlaces
 have h1 : (1 : Int) > 0 := by omega
 simp only [h1, if_true, Int.ediv_one]
 split <;> omega
theorem Zjp {v : Value} {o : Option Int} {Q : Option Int -> Shared -> Prop} (p : IsPart v o) (h : Q o s) : wpAny (model prog w) A (Builtin.Slice.slicePartIndex v) Q E s := by
 cases p with
 | none => exact slicePart_none h
 | int i t => exact slicePart_int h
theorem sliceApplied_gen {sl : Addr} {vl vu : Value} {lo hi : Option Int} {n : Nat} {Q : Int × Int × Nat -> Shared -> Prop} (hs : s.heap.IsSliceOf sl vl vu .none) (pl : IsPart vl lo) (pu : IsPart vu hi)
  (h : Q (((sIx n 0 lo : Nat) : Int), 1, sIx n n hi - sIx n 0 lo) s) : wpAny (model prog w) A (Builtin.Slice.sliceApplied (.ref sl) (pure (n : Int))) Q E s := by
 obtain ⟨os, hos, hcs, hds⟩ := id hs
 unfold Builtin.Slice.sliceApplied Builtin.Slice.sliceFields
 refine wpAny_bind (wpAny_bind (wpAny_field hos hds (x := vl) rfl (wpAny_bind (wpAny_field hos hds (x := vu) rfl (wpAny_bind (wpAny_field hos hds (x := .none) rfl (wpAny_pure ?_)))))))
 refine wpAny_bind (slicePart_none ?_)
 show wpAny _ _ (if ((1 : Int) == 0) = true then _ else _) _ _ s
 rw [if_neg (by decide)]
 refine wpAny_bind (Zjp pl (wpAny_bind (Zjp pu (wpAny_bind (wpAny_pure ?_)))))
 show wpAny _ _ (match Builtin.Slice.sliceAdjust lo hi 1 (n : Int) with | (lo, hi) => pure (lo, (1 : Int), Builtin.Slice.slicePlaces lo hi 1)) _ _ s
 rw [Zps lo hi n]
 show wpAny _ _ (pure (((sIx n 0 lo : Nat) : Int), (1 : Int), Builtin.Slice.slicePlaces ((sIx n 0 lo : Nat) : Int) ((sIx n n hi : Nat) : Int) 1)) _ _ s
 rw [Zo6]
 exact wpAny_pure h
theorem Ztx (xs : Array Value) (i k : Nat) : ((List.range k).filterMap fun (m : Nat) => xs[((i : Int) + (m : Int) * 1).toNat]?).toArray = ((xs.toList.drop i).take k).toArray := by
 have e : (fun (m : Nat) => xs[((i : Int) + (m : Int) * 1).toNat]?) = fun m => xs[i + m]? := by
  funext m
  have : ((i : Int) + (m : Int) * 1).toNat = i + m := by omega
  rw [this]
 rw [e]
 have := pick_run xs i k
 rw [List.filterMap_map] at this
 have e2 : ((fun x => xs[x]?) ∘ fun x => i + x) = fun m => xs[i + m]? := rfl
 rw [e2] at this
 rw [this]
theorem getItem_tuple_cut {t sl : Addr} {items : Array Value} {vl vu : Value} {lo hi : Option Int} {Q : Value -> Shared -> Prop} (ht : IsTup s.heap t items) (hs : s.heap.IsSliceOf sl vl vu .none) (pl : IsPart vl lo) (pu : IsPart vu hi)
  (hw : ¬ (sIx items.size 0 lo = 0 ∧ sIx items.size items.size hi = items.size))
  (h : Q (.ref s.heap.objs.size) { s with heap := s.heap.push { cls := .type "tuple", data := .seq ((items.toList.drop (sIx items.size 0 lo)).take (sIx items.size items.size hi - sIx items.size 0 lo)).toArray } })
  (hsz : items.size ≤ sizeLine) : wpAny (model prog w) A (getItem (.ref t) (.ref sl)) Q E s := by
 have htake : sizeOk (.seq ((items.toList.drop (sIx items.size 0 lo)).take (sIx items.size items.size hi - sIx items.size 0 lo)).toArray) := by
  show ((items.toList.drop (sIx items.size 0 lo)).take (sIx items.size items.size hi - sIx items.size 0 lo)).toArray.size ≤ sizeLine
  rw [List.size_toArray, List.length_take, List.length_drop, Array.length_toList]
  omega
 have hj : sIx items.size items.size hi ≤ items.size := Zxx _ _ (Nat.le_refl _) hi
 obtain ⟨os, hos, hcs, hds⟩ := id hs
 have hTs : s.TypeIs (.ref sl) "slice" := ⟨os, hos, hcs⟩
 unfold getItem
 try with_reducible refine wpAny_holding ?_
 first | refine wpAny_bind (wpAny_pure ?_) | skip
 refine wpAny_bind (wpAny_sequenceKey ht.typeIs (by decide) ?_)
 refine wpAny_bind (wpAny_callSpecial?_slot (name := Str.ofString "__getitem__") ht.typeIs PyProof.Rows.slot_tuple_getitem
  (wpAny_call_entry PyProof.Rows.slot_tuple_getitem ht.typeIs entry_tuple_getitem ?_ (args_tuple_getitem _ _)))
 show wpAny _ _ (Builtin.Tuple.tupleItemsOf (.ref t) >>= _) _ _ s
 refine wpAny_bind (tupleItemsOf_ ht ?_)
 refine wpAny_bind (wpAny_typeOf hTs ?_)
 rw [if_pos (by decide)]
 refine wpAny_bind (sliceApplied_gen hs pl pu ?_)
 have hno : ¬ ((((sIx items.size 0 lo : Nat) : Int) == 0 && (1 : Int) == 1 && (sIx items.size items.size hi - sIx items.size 0 lo) == items.size) = true) := by
  intro q
  rw [Bool.and_eq_true, Bool.and_eq_true] at q
  have q1 : ((sIx items.size 0 lo : Nat) : Int) = 0 := eq_of_beq q.1.1
  have q2 : sIx items.size items.size hi - sIx items.size 0 lo = items.size := eq_of_beq q.2
  exact hw ⟨by omega, by omega⟩
 show wpAny _ _ (if (((sIx items.size 0 lo : Nat) : Int) == 0 && (1 : Int) == 1 && (sIx items.size items.size hi - sIx items.size 0 lo) == items.size) = true then _ else _) _ _ s
 rw [if_neg hno, Ztx]
 first
  | exact wpAny_bind (m := Builtin.Tuple.tupleExact _) (wpAny_newObj_type (wpAny_pure ⟨_, rfl, wpAny_pure h⟩) htake)
  | exact wpAny_bind (m := Builtin.Tuple.tupleExact _) (wpAny_newObj_type (wpAny_bind (wpAny_pure (wpAny_pure ⟨_, rfl, wpAny_pure h⟩))) htake)
  | exact wpAny_bind (wpAny_bind (m := Builtin.Tuple.tupleExact _) (wpAny_newObj_type (wpAny_pure (wpAny_pure ⟨_, rfl, wpAny_pure h⟩)) htake))
  | exact wpAny_bind (wpAny_bind (m := Builtin.Tuple.tupleExact _) (wpAny_newObj_type (wpAny_pure ⟨_, rfl, wpAny_pure h⟩) htake))
end
end HT
namespace L2
open PySem PySem.Spec PyProof.Rows
noncomputable abbrev TO := St -> Hp -> (Option Int -> Hp -> Prop) -> Prop
noncomputable def PO (X : Cx) (e : Option Expr) (t : TO) : Prop :=
 ∀ (pins : List (Addr × Obj)) (s : Shared) (σ : St) (H : Hp) (Q : Option Int -> Hp -> Prop), Inv X pins σ H s -> t σ H Q →
  wpAny (model X.prog X.w) X.A (evalPart e X.env) (fun u s' => ∃ o H', Inv X pins σ H' s' ∧ IsPart u o ∧ Q o H') X.xe s
noncomputable def Zv9 : TO := fun _ H Q => Q none H
noncomputable def tPart (t : TE) : TO := fun σ H Q => t σ H fun x H1 => ∃ i, x = .int i ∧ Q (some i) H1
theorem Zpk {ns : List Int} : ∀ {us : List Value}, Zca (ns.map V.int) us -> IntsAre us ns := by
 induction ns with
 | nil => intro us r; rw [List.map_nil] at r; cases r; exact .nil
 | cons n ns ih =>
  intro us r
  rw [List.map_cons] at r
  cases r with
  | cons r1 r2 =>
   obtain ⟨t, e⟩ := r1
   subst e
   exact .cons n t (ih r2)
section
variable {X : Cx} {e : Expr} {te : TE} {lo hi : Option Expr} {tl th : TO} {pos p2 : Pos}
theorem Zwk : PO X none Zv9 := by
 intro pins s σ H Q I h
 rw [evalPart_none]
 exact wpAny_pure ⟨none, H, I, .none, h⟩
theorem Zwb (h : PE X e te) : PO X (some e) (tPart te) := by
 intro pins s σ H Q I hw
 rw [evalPart_some]
 refine thn (h pins s σ H _ I hw) fun u s1 zz => ?_
 obtain ⟨x, H1, I1, r1, q1⟩ := zz
 obtain ⟨i, rfl, q⟩ := q1
 obtain ⟨t, rfl⟩ := r1
 exact ⟨some i, H1, I1, .int i t, q⟩
noncomputable def SlR (X : Cx) (r : V -> Option Int -> Option Int -> Hp -> VK -> Prop) : Prop :=
 ∀ (pins : List (Addr × Obj)) (s : Shared) (σ : St) (H : Hp) (x : V) (v vl vu : Value) (lo hi : Option Int) (sl : Addr) (Q : VK), Inv X pins σ H s -> Zdm x v -> s.heap.IsSliceOf sl vl vu .none -> IsPart vl lo -> IsPart vu hi -> r x lo hi H Q →
  ∃ T id, typeLookup (.type T) "__getitem__" = pure (some (.builtin id)) ∧ s.TypeIs v T ∧ wpAny (model X.prog X.w) X.A (getItem v (.ref sl)) (EP X pins σ Q) X.xe s
noncomputable def tSl (r : V -> Option Int -> Option Int -> Hp -> VK -> Prop) (te : TE) (tl th : TO) : TE := fun σ H Q => te σ H fun x H1 => tl σ H1 fun l H2 => th σ H2 fun u H3 => r x l u H3 Q
theorem Zuh {r : V -> Option Int -> Option Int -> Hp -> VK -> Prop} (hr : SlR X r) (he : PE X e te) (hl : PO X lo tl) (hu : PO X hi th) : PE X (.Subscript e (.Slice lo hi none p2) pos) (tSl r te tl th) := by
 intro pins s σ H Q I h
 refine Subscript_ (thn (he pins s σ H _ I h) fun v s1 zz => ?_)
 obtain ⟨x, H1, I1, r1, q1⟩ := zz
 refine wpAny_Slice (thn (hl pins s1 σ H1 _ I1 q1) fun vl s2 ⟨l, H2, I2, pl, q2⟩ => thn (hu pins s2 σ H2 _ I2 q2) fun vu s3 zz => ?_)
 obtain ⟨u, H3, I3, pu, q3⟩ := zz
 rw [evalPart_none]
 refine wpAny_pure ?_
 have I4 : Inv X pins σ H3 { s3 with heap := s3.heap.push { cls := .type "slice", data := .fields #[vl, vu, .none] } } := I3.kept (t' := s3.toks) fun b ob q => Heap.get?_push_of_some _ q
 obtain ⟨T, id, hT, ht, hg⟩ := hr pins { s3 with heap := s3.heap.push { cls := .type "slice", data := .fields #[vl, vu, .none] } } σ H3 x v vl vu l u s3.heap.objs.size Q I4 r1 (Heap.IsSliceOf.new ..) pl pu q3
 show wpAny (model X.prog X.w) X.A (subscriptTail e (.Slice lo hi none p2) v (.ref s3.heap.objs.size)) (EP X pins σ Q) X.xe { s3 with heap := s3.heap.push { cls := .type "slice", data := .fields #[vl, vu, .none] } }
 exact tail_any (ops := [.ref s3.heap.objs.size, v]) ht hT hg (by with_unfolding_all rfl)
noncomputable def Zu0 (xs : List V) (lo hi : Option Int) : List V := (xs.drop (HT.sIx xs.length 0 lo)).take (HT.sIx xs.length xs.length hi - HT.sIx xs.length 0 lo)
theorem Zfh (xs : List V) (lo hi : Option Int) : (Zu0 xs lo hi).length ≤ xs.length := by
 unfold Zu0
 rw [List.length_take, List.length_drop]
 omega
noncomputable def rSlT (K : PySem.W.Frag) : V -> Option Int -> Option Int -> Hp -> VK -> Prop := fun x lo hi H Q => ∃ a xs, x = .ref a ∧ SqT K H a xs ∧
 ¬ (HT.sIx xs.length 0 lo = 0 ∧ HT.sIx xs.length xs.length hi = xs.length) ∧ ∀ p, H p = none -> Q (.ref p) (upd H p (.tup (Zu0 xs lo hi)))
theorem Zx1 : SlR X (rSlT X.K) := by
 intro pins s σ H x v vl vu lo hi sl Q I rx hs pl pu h
 obtain ⟨a, xs, rfl, hx, hw, q⟩ := h
 cases rx
 obtain ⟨its, r, ht, hz⟩ := I.tuple hx
 have hlen : its.toArray.size = xs.length := by rw [List.size_toArray]; exact r.length.symm
 refine ⟨"tuple", _, PyProof.Rows.slot_tuple_getitem.lookup, ht.typeIs, ?_⟩
 refine HT.getItem_tuple_cut ht hs pl pu (by rw [hlen]; exact hw) ?_ (by rw [hlen]; exact hz)
 rw [hlen]
 refine ⟨.ref s.heap.objs.size, _, I.laid (t' := s.toks) (o := .tup (Zu0 xs lo hi)) (fun b ob q => Heap.get?_push_of_some _ q) (Nat.le_refl _) ?_, rfl, q _ (I.hok.fresh (Nat.le_refl _))⟩
 exact ⟨Nat.le_trans (Zfh xs lo hi) hz, _, (r.drop (HT.sIx xs.length 0 lo)).take (HT.sIx xs.length xs.length hi - HT.sIx xs.length 0 lo), Zkr.new _ _⟩
noncomputable def rCatT (K : PySem.W.Frag) : R2 := fun x y H Q => ∃ a b xs ys, x = .ref a ∧ y = .ref b ∧ SqT K H a xs ∧ SqT K H b ys ∧ xs ≠ [] ∧ xs.length + ys.length ≤ sizeLine ∧
 (ys = [] -> Q (.ref a) H) ∧ (ys ≠ [] -> ∀ p, H p = none -> Q (.ref p) (upd H p (.tup (xs ++ ys))))
theorem Zca.nil_iff {xs : List V} {us : List Value} (r : Zca xs us) : us = [] ↔ xs = [] := by
 cases r with
 | nil => simp
 | cons _ _ => simp
theorem Zrn : OpR X (binaryOp .Add) (rCatT X.K) := by
 intro pins s σ H x y v u Q I rx ry h
 obtain ⟨a, b, xs, ys, rfl, rfl, ha, hb, hx, hz, q1, q2⟩ := h
 cases rx
 cases ry
 obtain ⟨its, r1, p1, _⟩ := I.tuple ha
 obtain ⟨its2, r2, p2, _⟩ := I.tuple hb
 refine HT.cat_tup p1 p2 (fun z => hx (r1.nil_iff.mp z)) (fun z => ⟨.ref a, H, I, rfl, q1 (r2.nil_iff.mp z)⟩) (fun z => ?_) (by rw [← r1.length, ← r2.length]; exact hz)
 refine ⟨.ref s.heap.objs.size, _, I.laid (t' := s.toks) (o := .tup (xs ++ ys)) (fun b ob q => Heap.get?_push_of_some _ q) (Nat.le_refl _) ?_, rfl, q2 (fun w => z (r2.nil_iff.mpr w)) _ (I.hok.fresh (Nat.le_refl _))⟩
 exact ⟨by rw [List.length_append]; exact hz, _, r1.append r2, Zkr.new _ _⟩
end
noncomputable def ixN (n : Nat) (i : Int) : Option Nat := if 0 ≤ i then (if i < n then some i.toNat else none) else if -(n : Int) ≤ i then some (i + n).toNat else none
noncomputable def atI {α : Type} (xs : List α) (i : Int) : Option α := (ixN xs.length i).bind fun j => xs[j]?
theorem Zqq {n : Nat} {i : Int} {j : Nat} (h : ixN n i = some j) : seqIndex? i n = some j ∧ j < n ∧ -(n : Int) ≤ i ∧ i < n := by
 unfold ixN at h
 by_cases h0 : 0 ≤ i
 ·rw [if_pos h0] at h
  by_cases h1 : i < n
  ·rw [if_pos h1] at h
   have e : i.toNat = j := Option.some.inj h
   exact ⟨by rw [seqIndex_of h0 h1, e], by omega, by omega, h1⟩
  ·rw [if_neg h1] at h; cases h
 ·rw [if_neg h0] at h
  by_cases h1 : -(n : Int) ≤ i
  ·rw [if_pos h1] at h
   have e : (i + n).toNat = j := Option.some.inj h
   exact ⟨by rw [seqIndex_neg (by omega) h1, e], by omega, h1, by omega⟩
  ·rw [if_neg h1] at h; cases h
theorem Zsr {α : Type} {xs : List α} {i : Int} {v : α} (h : atI xs i = some v) : ∃ j, seqIndex? i xs.length = some j ∧ xs[j]? = some v ∧ j < xs.length ∧ -(xs.length : Int) ≤ i ∧ i < xs.length := by
 unfold atI at h
 cases e : ixN xs.length i with
 | none => rw [e] at h; cases h
 | some j =>
  rw [e] at h
  obtain ⟨h1, h2, h3, h4⟩ := Zqq e
  exact ⟨j, h1, h, h2, h3, h4⟩
theorem Zaz {α : Type} {xs : List α} {j : Nat} {v : α} (h : xs[j]? = some v) : atI xs (j : Int) = some v := by
 have hj : j < xs.length := (List.getElem?_eq_some_iff.mp h).1
 have e : ixN xs.length (j : Int) = some j := by
  unfold ixN
  rw [if_pos (by omega), if_pos (by omega)]; simp
 unfold atI; rw [e]; exact h
noncomputable def Zp5 (b : Expr) : Prop := ∀ o i, subscripted b false o i = operate [o, i] (getItem o i)
noncomputable def IxR (X : Cx) (r : R2) : Prop :=
 ∀ (value slice : Expr) (pins : List (Addr × Obj)) (s : Shared) (σ : St) (H : Hp) (x y : V) (v u : Value) (Q : VK), Inv X pins σ H s -> Zdm x v -> Zdm y u -> r x y H Q →
  subscripted slice false v u = operate [v, u] (getItem v u) -> wpAny (model X.prog X.w) X.A (subscriptTail value slice v u) (EP X pins σ Q) X.xe s
noncomputable def MtR (X : Cx) (id : String) (r : V -> List V -> Hp -> VK -> Prop) : Prop :=
 ∀ (pins : List (Addr × Obj)) (s : Shared) (σ : St) (H : Hp) (x : V) (xs : List V) (v : Value) (us : List Value) (Q : VK), Inv X pins σ H s -> Zdm x v -> Zca xs us -> r x xs H Q →
  wpAny (model X.prog X.w) X.A (call (.builtin id) (v :: us)) (EP X pins σ Q) X.xe s
section
variable {X : Cx} {a b : Expr} {ta tb : TE} {pos : Pos}
theorem pe_ix {r : R2} (hr : IxR X r) (ha : PE X a ta) (hb : PE X b tb) (hs : Zp5 b) : PE X (.Subscript a b pos) (tOp r ta tb) := by
 intro pins s σ H Q I h
 exact Subscript_ (binT ha hb I h fun v u s2 x y H2 I2 rx ry q => hr a b pins s2 σ H2 x y v u Q I2 rx ry q (hs _ _))
noncomputable def rIxL (K : PySem.W.Frag) : R2 := fun x y H Q => ∃ p xs i v, x = .ref p ∧ y = .int i ∧ SqL K H p xs ∧ atI xs i = some v ∧ Q v H
noncomputable def rIxT (K : PySem.W.Frag) : R2 := fun x y H Q => ∃ p xs i v, x = .ref p ∧ y = .int i ∧ SqT K H p xs ∧ atI xs i = some v ∧ Q v H
theorem Zvm : IxR X (rIxL X.K) := by
 intro value slice pins s σ H x y v u Q I rx ry h hs
 obtain ⟨p, xs, i, z, rfl, rfl, hq, he, q⟩ := h
 cases rx
 obtain ⟨t, rfl⟩ := ry
 obtain ⟨its, r, pl, hz⟩ := I.list hq
 obtain ⟨j, h1, h2, h3, h4, h5⟩ := Zsr he
 obtain ⟨w, ew, rw'⟩ := r.get h2
 have hl := r.length
 have hn := Zje
 have fin : EP X pins σ Q w s := ⟨z, H, I, rw', q⟩
 by_cases h0 : 0 ≤ i
 ·have hj : i.toNat = j := by
   rw [seqIndex_of h0 h5] at h1
   exact Option.some.inj h1
  exact item_listR pl.isList h0 (by omega) (by rw [hj]; simpa using ew) fin hs
 ·have hj : (i + (its.toArray.size : Int)).toNat = j := by
   rw [seqIndex_neg (by omega) h4] at h1
   rw [List.size_toArray, ← hl]
   exact Option.some.inj h1
  exact subscriptTail_builtinR (x := w) pl.isList.typeIs slot_list_getitem.lookup
   (wpAny_getItem_list_neg (Q := fun r s' => r = w ∧ EP X pins σ Q r s') pl.isList (by omega) (by rw [List.size_toArray] <;> omega) (by omega) (by rw [hj]; simpa using ew) ⟨rfl, fin⟩) hs
theorem Zx9 : IxR X (rIxT X.K) := by
 intro value slice pins s σ H x y v u Q I rx ry h hs
 obtain ⟨p, xs, i, z, rfl, rfl, hq, he, q⟩ := h
 cases rx
 obtain ⟨t, rfl⟩ := ry
 obtain ⟨its, r, pl, hz⟩ := I.tuple hq
 obtain ⟨j, h1, h2, h3, h4, h5⟩ := Zsr he
 obtain ⟨w, ew, rw'⟩ := r.get h2
 have hl := r.length
 have hn := Zje
 have fin : EP X pins σ Q w s := ⟨z, H, I, rw', q⟩
 exact subscriptTail_builtinR (x := w) pl.typeIs slot_tuple_getitem.lookup
  (getItem_tuple (j := j) (Q := fun r s' => r = w ∧ EP X pins σ Q r s') pl (by omega) (by omega) (by rw [List.size_toArray, ← hl]; exact h1) (by simpa using ew) ⟨rfl, fin⟩) hs
theorem Zpd (its : List Value) (n j : Nat) (u : Value) : Obj.mapSeq (·.setIfInBounds j u) { cls := .type "list", data := .seq its.toArray n } = { cls := .type "list", data := .seq (its.set j u).toArray n } := by
 simp [Obj.mapSeq]
theorem Inv.lst {pins : List (Addr × Obj)} {σ : St} {H : Hp} {s : Shared} {p : Addr} {xs : List V} (I : Inv X pins σ H s) (h : H p = some (.lst xs)) :
  ∃ (its : List Value) (n : Nat), Zca xs its ∧ s.heap.get? p = some { cls := .type "list", data := .seq its.toArray n } ∧ xs.length ≤ sizeLine := by
 obtain ⟨z, its, n, r, e⟩ := I.hok p _ h
 exact ⟨its, n, r, e, z⟩
theorem Inv.lstUpd {pins : List (Addr × Obj)} {σ : St} {H : Hp} {s : Shared} {p : Addr} {xs ys : List V} {its its' : List Value} {n n' : Nat} {f : Obj -> Obj} (I : Inv X pins σ H s) (h : H p = some (.lst xs))
  (ho : s.heap.get? p = some { cls := .type "list", data := .seq its.toArray n }) (hf : f { cls := .type "list", data := .seq its.toArray n } = { cls := .type "list", data := .seq its'.toArray n' }) (r : Zca ys its') (hz : ys.length ≤ sizeLine) (t : Nat) :
  Inv X pins σ (upd H p (.lst ys)) { s with heap := s.heap.update p f, toks := t } := by
 have e : (s.heap.update p f).get? p = some { cls := .type "list", data := .seq its'.toArray n' } := by
  rw [Heap.get?_update_self f ho (by rw [hf] <;> rfl), hf]
 refine I.write (x := p) (e := p) (by rw [h]; trivial) (.inl rfl) (fun b u hb q => (Heap.get?_update_other _ _ (Ne.symm hb)).trans q) ⟨_, e⟩ ?_
 exact ⟨hz, its', n', r, e⟩
noncomputable def rSetL : V -> V -> V -> Hp -> (Hp -> Prop) -> Prop := fun o i v H Q => ∃ p xs k j, o = .ref p ∧ i = .int k ∧ H p = some (.lst xs) ∧ ixN xs.length k = some j ∧ Q (upd H p (.lst (xs.set j v)))
theorem Zs9 : PSet X rSetL := by
 intro pins s σ H o i v ov iv u Q I ro ri rv h
 obtain ⟨p, xs, k, j, rfl, rfl, hp, hj, q⟩ := h
 cases ro
 obtain ⟨t, rfl⟩ := ri
 obtain ⟨its, n, r, ho, hz⟩ := I.lst hp
 obtain ⟨h1, h2, h3, h4⟩ := Zqq hj
 have hl := r.length
 have hn := Zje
 have I' : Inv X pins σ (upd H p (.lst (xs.set j v))) { s with heap := s.heap.update p (Obj.mapSeq (·.setIfInBounds j u)) } :=
  I.lstUpd hp ho (Zpd its n j u) (r.set rv j) (by rw [List.length_set]; exact hz) s.toks
 by_cases h0 : 0 ≤ k
 ·have hk : k.toNat = j := by
   rw [seqIndex_of h0 h4] at h1
   exact Option.some.inj h1
  exact PySem.W.ki_setAt ho h0 (by omega) (by rw [List.size_toArray, ← hl]; exact h4) (by rw [hk]; exact ⟨_, I', q⟩)
 ·have hk : (k + (its.toArray.size : Int)).toNat = j := by
   rw [seqIndex_neg (by omega) h3] at h1
   rw [List.size_toArray, ← hl]
   exact Option.some.inj h1
  exact PySem.W.ki_setBack ho (by omega) (by rw [List.size_toArray, ← hl]; exact h3) (by omega) (by rw [hk]; exact ⟨_, I', q⟩)
theorem Zl2 (lo hi : Option Int) (n : Nat) : (sliceBounds lo hi none n).1 = ((HT.sIx n 0 lo : Nat) : Int) ∧ (sliceBounds lo hi none n).2.1 = ((HT.sIx n n hi : Nat) : Int) ∧ (sliceBounds lo hi none n).2.2 = 1 := by
 refine ⟨?_, ?_, rfl⟩
 ·cases lo with
  | none => simp [sliceBounds, HT.sIx]
  | some i =>
   simp only [sliceBounds, HT.sIx, Option.getD_none, show (1 : Int) > 0 by decide, if_true]
   by_cases h : i < 0
   ·simp only [h, if_true] <;> omega
   ·simp only [h, if_false] <;> omega
 ·cases hi with
  | none => simp [sliceBounds, HT.sIx]
  | some i =>
   simp only [sliceBounds, HT.sIx, Option.getD_none, show (1 : Int) > 0 by decide, if_true]
   by_cases h : i < 0
   ·simp only [h, if_true] <;> omega
   ·simp only [h, if_false] <;> omega
theorem Zjs (its : List Value) (lo hi : Option Int) : slicePick its.toArray lo hi none = ((its.drop (HT.sIx its.length 0 lo)).take (HT.sIx its.length its.length hi - HT.sIx its.length 0 lo)).toArray := by
 obtain ⟨h1, h2, h3⟩ := Zl2 lo hi its.toArray.size
 unfold slicePick
 rw [h1, h2, h3]
 simp only [sliceRange_one, pick_run, List.size_toArray] <;> rfl
noncomputable def rSlL (K : PySem.W.Frag) : V -> Option Int -> Option Int -> Hp -> VK -> Prop := fun x lo hi H Q => ∃ a xs, x = .ref a ∧ SqL K H a xs ∧ ∀ p, H p = none -> Q (.ref p) (upd H p (.lst (Zu0 xs lo hi)))
theorem Zxb : SlR X (rSlL X.K) := by
 intro pins s σ H x v vl vu lo hi sl Q I rx hs pl pu h
 obtain ⟨a, xs, rfl, hx, q⟩ := h
 cases rx
 obtain ⟨its, r, ht, hz⟩ := I.list hx
 have hlen := r.length
 refine ⟨"list", _, slot_list_getitem.lookup, ht.isList.typeIs, ?_⟩
 refine wpAny_getItem_list_slice ht.isList hs pl pu .none (by simp) ?_ (by rw [List.size_toArray] <;> omega)
 rw [Zjs, ← hlen]
 refine ⟨.ref s.heap.objs.size, _, I.laid (t' := s.toks) (o := .lst (Zu0 xs lo hi)) (fun b ob q => Heap.get?_push_of_some _ q) (Nat.le_refl _) ?_, rfl, q _ (I.hok.fresh (Nat.le_refl _))⟩
 exact ⟨Nat.le_trans (Zfh xs lo hi) hz, _, 0, (r.drop (HT.sIx xs.length 0 lo)).take (HT.sIx xs.length xs.length hi - HT.sIx xs.length 0 lo), Heap.get?_push_size _ rfl⟩
theorem Zmo : Zh8 X (.builtin "len") (fun xs H Q => ∃ p ys, xs = [.ref p] ∧ (SqL X.K H p ys ∨ SqT X.K H p ys) ∧ Q (.int ys.length) H) := by
 intro pins s σ H xs us Q I r h
 obtain ⟨p, ys, rfl, hq, q⟩ := h
 obtain ⟨u, rfl, rx⟩ := Zhx r
 cases rx
 have hn := Zje
 rcases hq with hq | hq
 ·obtain ⟨its, r', pl, hz⟩ := I.list hq
  have hlen := r'.length
  exact Calls.call_len_list pl.isList (by simp only [List.size_toArray] <;> omega) ⟨.int ys.length, H, I.tok _, ⟨s.toks + 1, by rw [List.size_toArray, hlen]⟩, q⟩
 ·obtain ⟨its, r', pl, hz⟩ := I.tuple hq
  have hlen := r'.length
  exact len_tuple pl (by simp only [List.size_toArray] <;> omega) ⟨.int ys.length, H, I.tok _, ⟨s.toks + 1, by rw [List.size_toArray, hlen]⟩, q⟩
theorem Zli : Zh8 X (.builtin "len") (fun xs H Q => ∃ z, xs = [.str z] ∧ z.length ≤ sizeLine ∧ Q (.int z.length) H) := by
 intro pins s σ H xs us Q I r h
 obtain ⟨z, rfl, hz, q⟩ := h
 obtain ⟨u, rfl, t, rfl⟩ := Zhx r
 have hn := Zje
 exact len_str (by omega) ⟨.int z.length, H, I.tok _, ⟨_, rfl⟩, q⟩
theorem Zlg : Zh8 X (.type "list") (fun xs H Q => ∃ p ys, xs = [.ref p] ∧ (SqL X.K H p ys ∨ SqT X.K H p ys) ∧ ∀ l, H l = none → Q (.ref l) (upd H l (.lst ys))) := by
 intro pins s σ H xs us Q I r h
 obtain ⟨p, ys, rfl, hq, q⟩ := h
 obtain ⟨u, rfl, rx⟩ := Zhx r
 cases rx
 have fin : ∀ (its : List Value), Zca ys its -> ys.length ≤ sizeLine -> ∀ (h' : Heap) (c' : Nat), (∀ b o', s.heap.get? b = some o' -> h'.get? b = some o') →
   h'.get? s.heap.objs.size = some { cls := .type "list", dict := none, data := .seq its.toArray c', slots := #[] } → EP X pins σ Q (.ref s.heap.objs.size) { s with heap := h' } := fun its r' hz h' c' kp e =>
  ⟨.ref s.heap.objs.size, _, I.laid (t' := s.toks) kp (Nat.le_refl _) (show Zeq X.prog X.w _ h' _ (.lst ys) from ⟨hz, its, c', r', e⟩), rfl, q _ (I.hok.fresh (Nat.le_refl _))⟩
 rcases hq with hq | hq
 ·obtain ⟨its, r', pl, hz⟩ := I.list hq
  have hlen := r'.length
  obtain ⟨o, ho, hc, n, hd⟩ := pl.isList
  exact call_list_seq p (.inl rfl) ho hc hd (fun h' c' kp e => fin its r' hz h' c' kp e) (by simp only [List.size_toArray] <;> omega)
 ·obtain ⟨its, r', pl, hz⟩ := I.tuple hq
  have hlen := r'.length
  obtain ⟨o, ho, hc, n, hd⟩ := pl
  exact call_list_seq p (.inr rfl) ho hc hd (fun h' c' kp e => fin its r' hz h' c' kp e) (by simp only [List.size_toArray] <;> omega)
theorem Zk4 : Zh8 X (.type "tuple") (fun xs H Q => ∃ p ys, xs = [.ref p] ∧ ((SqL X.K H p ys ∧ ∀ l, H l = none → Q (.ref l) (upd H l (.tup ys))) ∨ (SqT X.K H p ys ∧ Q (.ref p) H))) := by
 intro pins s σ H xs us Q I r h
 obtain ⟨p, ys, rfl, h⟩ := h
 obtain ⟨u, rfl, rx⟩ := Zhx r
 cases rx
 rcases h with ⟨hq, q⟩ | ⟨hq, q⟩
 ·obtain ⟨its, r', pl, hz⟩ := I.list hq
  have hlen := r'.length
  refine call_tuple_list pl.isList (fun h' kp => ?_) (by simp only [List.size_toArray] <;> omega)
  have I1 : Inv X pins σ H { s with heap := h' } := I.kept (t' := s.toks) kp
  have I2 : Inv X pins σ (upd H h'.objs.size (.tup ys)) { s with heap := h'.push { cls := .type "tuple", data := .seq its.toArray } } :=
   I1.laid (t' := s.toks) (fun b o e => Heap.get?_push_of_some _ e) (Nat.le_refl _) (show Zeq X.prog X.w _ _ _ (.tup ys) from ⟨hz, its, r', Zkr.new _ _⟩)
  exact ⟨.ref h'.objs.size, _, I2, rfl, q _ (I1.hok.fresh (Nat.le_refl _))⟩
 ·obtain ⟨its, r', pl, hz⟩ := I.tuple hq
  exact call_tuple_same pl ⟨.ref p, H, I, rfl, q⟩
noncomputable def tyV (K : PySem.W.Frag) (T : String) (x : V) (H : Hp) : Prop := match x with
 | .str _ => T = "str"
 | .int _ => T = "int"
 | .ref p => (T = "list" ∧ ∃ xs, SqL K H p xs) ∨ (T = "tuple" ∧ ∃ o, K.lookup p = some o ∧ o.cls = .type "tuple" ∧ o.dict = none) ∨
   (T = "dict" ∧ ((∃ kvs, H p = some (.dK kvs)) ∨ ∃ kvs, H p = some (.dT kvs))) ∨ (T = "set" ∧ ∃ S n, H p = some (.set S n))
 | _ => False
theorem Zy7 {pins : List (Addr × Obj)} {σ : St} {H : Hp} {s : Shared} {T : String} {x : V} {v : Value} (I : Inv X pins σ H s) (r : Zdm x v) (ty : tyV X.K T x H) :
  s.TypeIs v T ∧ ∀ a, v = .ref a -> ∃ ob, s.heap.get? a = some ob ∧ ob.dict = none := by
 cases x with
 | str z =>
  obtain ⟨t, rfl⟩ := r
  cases (show T = "str" from ty)
  exact ⟨typeIs_str s z t, fun _ e => nomatch e⟩
 | int i =>
  obtain ⟨t, rfl⟩ := r
  cases (show T = "int" from ty)
  exact ⟨typeIs_int s i t, fun _ e => nomatch e⟩
 | ref p =>
  cases r
  rcases ty with ⟨rfl, xs, hq⟩ | ⟨rfl, o, hk, hc, hd⟩ | ⟨rfl, hk⟩ | ⟨rfl, S, n, hk⟩
  ·obtain ⟨its, _, pl, _⟩ := I.list hq
   refine ⟨pl.isList.typeIs, fun a e => ?_⟩
   cases e
   obtain ⟨o, n, e, c, hd, _⟩ := pl
   exact ⟨o, e, hd⟩
  ·refine ⟨⟨o, I.kIn p o hk, hc⟩, fun a e => ?_⟩
   cases e
   exact ⟨o, I.kIn _ o hk, hd⟩
  ·have z : ∃ o, s.heap.get? p = some o ∧ o.ExactDict := by
    rcases hk with ⟨kvs, hk⟩ | ⟨kvs, hk⟩
    ·obtain ⟨_, _, _, _, o, _, _, e, ex, _⟩ := I.hok p _ hk
     exact ⟨o, e, ex⟩
    ·obtain ⟨_, _, _, _, o, _, _, e, ex, _⟩ := I.hok p _ hk
     exact ⟨o, e, ex⟩
   obtain ⟨o, e, ex⟩ := z
   refine ⟨⟨o, e, ex.1⟩, fun a e2 => ?_⟩
   cases e2
   exact ⟨o, e, ex.2.1⟩
  ·obtain ⟨o, _, _, _, e, ex, _⟩ := I.hok p _ hk
   refine ⟨⟨o, e, ex.1⟩, fun a e2 => ?_⟩
   cases e2
   exact ⟨o, e, ex.2.1⟩
 | _ => exact False.elim ty
noncomputable def tBM (K : PySem.W.Frag) (T : String) (r : V -> List V -> Hp -> VK -> Prop) (to : TE) (t : TA) : TE := fun σ H Q => to σ H fun x H1 => tyV K T x H1 ∧ t σ H1 fun xs H2 => r x xs H2 Q
variable {o e : Expr} {es : List Expr} {to : TE} {t : TA} {name : Str} {apos cpos : Pos} {T id : String} {r : V -> List V -> Hp -> VK -> Prop}
theorem pe_bm (pa : PlainAttrs T) (slot : Slot T name id) (hty : typeOf (.builtin id) = pure (.type "method_descriptor")) (hm : MtR X id r) (ho : PE X o to) (ha : PA X (e :: es) t)
  (hbase : attributeBase o name X.env (eval o X.env) = eval o X.env := by rfl)
  (hfew : ((backTo cpos (starEach (e :: es) X.env)).all (fun x => !x.1) && (backToKw cpos (keywordEach [] X.env)).all (fun x => x.1.isSome)
   && decide ((e :: es).length + ([] : List Keyword).length + (if ([] : List Keyword).isEmpty then 0 else 1) < 30)) = true := by rfl)
  (hline : (apos.endLine == cpos.line) = true := by rfl) (hs : starEach (e :: es) X.env = (false, eval e X.env) :: starEach es X.env := by rfl) (hplain : (backTo cpos (starEach es X.env)).any (·.1) = false := by rfl) :
  PE X (.Call (.Attribute o name apos) (e :: es) [] cpos) (tBM X.K T r to t) := by
 intro pins s σ H Q I h
 refine wpAny_Call_method_late hbase hfew hline rfl (thn (ho pins s σ H _ I h) fun v s1 zz => ?_)
 obtain ⟨x, H1, I1, r1, ty, q1⟩ := zz
 obtain ⟨h1, h2⟩ := Zy7 I1 r1 ty
 refine ⟨T, id, pa, slot, hty, h1, h2, ?_⟩
 have hA := ha cpos pins s1 σ H1 _ I1 q1
 rw [hs] at hA ⊢
 refine Calls.callWith_builtin (by show (false || (backTo cpos (starEach es X.env)).any (·.1)) = false; rw [hplain] <;> rfl) (Calls.evalArgs_plain ?_)
 exact thn hA fun us s2 ⟨vs, H2, I2, r2, q2⟩ => hm pins s2 σ H2 x vs v us Q I2 r1 r2 q2
end
noncomputable def MtM (X : Cx) (id : String) (r : V -> List V -> Hp -> VK -> Prop) : Prop :=
 ∀ (pins : List (Addr × Obj)) (s : Shared) (σ : St) (H : Hp) (x : V) (xs : List V) (v : Value) (us : List Value) (Q : VK), Inv X pins σ H s -> Zdm x v -> Zca xs us -> r x xs H Q →
  wpAny (model X.prog X.w) X.A (call (.builtin id) (v :: us)) (EP X pins σ Q) X.xe s
theorem Zca.one : ∀ {x : V} {us : List Value}, Zca [x] us -> ∃ u, us = [u] ∧ Zdm x u := by
 intro x us h
 cases h with
 | cons r t => cases t; exact ⟨_, rfl, r⟩
theorem Zca.eraseIdx : ∀ {xs : List V} {us : List Value} (i : Nat), Zca xs us -> Zca (xs.eraseIdx i) (us.eraseIdx i)
 | _, _, _, .nil => .nil
 | _, _, 0, .cons _ t => t
 | _, _, i + 1, .cons r t => .cons r (Zca.eraseIdx i t)
theorem Zca.rep {xs : List V} {us : List Value} (h : Zca xs us) : ∀ k : Nat, Zca (List.replicate k xs).flatten (List.replicate k us).flatten
 | 0 => .nil
 | k + 1 => by
  rw [List.replicate_succ, List.replicate_succ, List.flatten_cons, List.flatten_cons]
  exact Zca.append h (Zca.rep h k)
theorem Zl0 {α : Type} : ∀ (l : List α) (i : Nat), (l.eraseIdx i).length ≤ l.length
 | [], _ => Nat.le_refl _
 | _ :: _, 0 => Nat.le_succ _
 | _ :: r, i + 1 => Nat.succ_le_succ (Zl0 r i)
theorem Zic (its : List Value) : ∀ (k : Nat) (acc : List Value),
  List.foldl (fun x1 x2 => x1 ++ x2) acc.toArray (List.replicate k its.toArray) = (acc ++ (List.replicate k its).flatten).toArray
 | 0, acc => by simp
 | k + 1, acc => by
  have e : acc.toArray ++ its.toArray = (acc ++ its).toArray := by simp
  have e2 : (acc ++ its) ++ (List.replicate k its).flatten = acc ++ (List.replicate (k + 1) its).flatten := by
   rw [List.replicate_succ, List.flatten_cons, List.append_assoc]
  rw [← e2, ← Zic its k (acc ++ its), ← e, List.replicate_succ, List.foldl_cons]
section
variable {X : Cx} {pins : List (Addr × Obj)} {σ : St} {H : Hp} {s : Shared} {l b : Addr} {xs ys zs : List V}
theorem Inv.lset {its its' : List Value} {n : Nat} {f : Array Value -> Array Value} {t' : Nat} (I : Inv X pins σ H s) (hH : H l = some (.lst xs))
  (e : s.heap.get? l = some { cls := .type "list", data := .seq its.toArray n }) (hf : f its.toArray = its'.toArray) (hv : Zca ys its') (hz : ys.length ≤ sizeLine) :
  Inv X pins σ (upd H l (.lst ys)) { s with heap := s.heap.update l (Obj.mapSeq f), toks := t' } := by
 have q := PySem.IsL.update e f
 rw [hf] at q
 refine I.write (x := l) (e := l) (by rw [hH]; exact trivial) (.inl rfl) (fun b' u hb hu => (Heap.get?_update_other s.heap (Obj.mapSeq f) (Ne.symm hb)).trans hu) ⟨_, q⟩ ?_
 exact ⟨hz, its', _, hv, q⟩
theorem Inv.lnew {its : List Value} {t' : Nat} (I : Inv X pins σ H s) (hv : Zca ys its) (hz : ys.length ≤ sizeLine) :
  Inv X pins σ (upd H s.heap.objs.size (.lst ys)) { s with heap := s.heap.push { cls := .type "list", data := .seq its.toArray }, toks := t' } :=
 I.laid (fun _ _ q => Heap.get?_push_of_some _ q) (Nat.le_refl _) ⟨hz, its, 0, hv, Heap.get?_push_size _ rfl⟩
theorem Inv.fresh (I : Inv X pins σ H s) : H s.heap.objs.size = none := I.hok.fresh (Nat.le_refl _)
theorem Inv.lstM (I : Inv X pins σ H s) (hH : H l = some (.lst xs)) : xs.length ≤ sizeLine ∧ ∃ (its : List Value) (n : Nat), Zca xs its ∧ xs.length = its.length ∧ s.heap.get? l = some { cls := .type "list", data := .seq its.toArray n } := by
 obtain ⟨z, its, n, r, e⟩ := I.hok l _ hH
 exact ⟨z, its, n, r, r.length, e⟩
theorem Zuk {n : Nat} (h : n ≤ sizeLine) : Builtin.List.listTooLong n = false := by
 unfold Builtin.List.listTooLong
 exact decide_eq_false (by omega)
end
section
variable {X : Cx}
noncomputable def Zwc : V -> List V -> Hp -> VK -> Prop := fun x vs H Q => ∃ l xs y, x = .ref l ∧ vs = [y] ∧ H l = some (.lst xs) ∧ xs.length < sizeLine ∧ Q .non (upd H l (.lst (xs ++ [y])))
theorem Zip : MtM X "list.append" Zwc := by
 intro pins s σ H x vs v us Q I rx rv h
 obtain ⟨l, xs, y, rfl, rfl, hH, hz, q⟩ := h
 cases rx
 obtain ⟨u, rfl, ru⟩ := rv.one
 obtain ⟨z, its, n, r, hl, e⟩ := I.lstM hH
 refine call_meets F.slot_list_append ⟨_, e, rfl⟩ F.entry_list_append (F.args_list_append_2 _ _) (PySem.list_append l its.toArray n u (by rw [List.size_toArray]; omega)) ⟨e, ?_⟩
 refine ⟨.non, _, I.lset (its' := its ++ [u]) hH e (by simp) (r.append (.cons ru .nil)) ?_, rfl, q⟩
 rw [List.length_append, List.length_singleton]
 omega
noncomputable def Zzu : V -> List V -> Hp -> VK -> Prop := fun x vs H Q => ∃ l xs i k y, x = .ref l ∧ vs = [.int i] ∧ H l = some (.lst xs) ∧ -(2 ^ 63) ≤ i ∧ i < 2 ^ 63 ∧ seqIndex? i xs.length = some k ∧ xs[k]? = some y ∧ Q y (upd H l (.lst (xs.eraseIdx k)))
theorem Ztg : MtM X "list.pop" Zzu := by
 intro pins s σ H x vs v us Q I rx rv h
 obtain ⟨l, xs, i, k, y, rfl, rfl, hH, h1, h2, hk, hy, q⟩ := h
 cases rx
 obtain ⟨u, rfl, ru⟩ := rv.one
 obtain ⟨t, rfl⟩ := ru
 obtain ⟨z, its, n, r, hl, e⟩ := I.lstM hH
 obtain ⟨w, hw, rw'⟩ := r.get hy
 refine call_meets F.slot_list_pop ⟨_, e, rfl⟩ F.entry_list_pop (F.args_list_pop_2 _ _)
  (MeetsSeq.list_pop_at l its.toArray n i t k w (fitsIndex_both h1 h2) (by rw [List.size_toArray, ← hl]; exact hk) (by rw [← Array.getElem?_toList]; exact hw) (by rw [List.size_toArray]; omega)) ⟨e, ?_⟩
 refine ⟨y, _, I.lset (its' := its.eraseIdx k) hH e ?_ (r.eraseIdx k) ?_, rw', q⟩
 ·show its.toArray.eraseIdxIfInBounds k = (its.eraseIdx k).toArray
  rw [List.eraseIdxIfInBounds_toArray]
 ·have := Zl0 xs k
  omega
noncomputable def rCat : R2 := fun x y H Q => ∃ l b xs zs, x = .ref l ∧ y = .ref b ∧ H l = some (.lst xs) ∧ H b = some (.lst zs) ∧ xs.length + zs.length ≤ sizeLine ∧ ∀ p, H p = none -> Q (.ref p) (upd H p (.lst (xs ++ zs)))
theorem Zz3 : OpR X (binaryOp .Add) rCat := by
 intro pins s σ H x y v u Q I rx ry h
 obtain ⟨l, b, xs, zs, rfl, rfl, hH, hB, hz, q⟩ := h
 cases rx
 cases ry
 obtain ⟨z, its, n, r, hl, e⟩ := I.lstM hH
 obtain ⟨z2, its2, n2, r2, hl2, e2⟩ := I.lstM hB
 refine PySem.P.add_list e e2 ?_ (by rw [List.size_toArray, List.size_toArray]; omega)
 have ea : its.toArray ++ its2.toArray = (its ++ its2).toArray := by simp
 rw [ea]
 exact ⟨.ref _, _, I.lnew (t' := s.toks) (r.append r2) (by rw [List.length_append]; omega), rfl, q _ I.fresh⟩
noncomputable def rRep : R2 := fun x y H Q => ∃ l k xs, x = .ref l ∧ y = .int k ∧ H l = some (.lst xs) ∧ -(2 ^ 63) ≤ k ∧ k < 2 ^ 63 ∧ xs.length * k.toNat ≤ sizeLine ∧
 ∀ p, H p = none -> Q (.ref p) (upd H p (.lst (List.replicate k.toNat xs).flatten))
theorem Znd {α : Type} (xs : List α) (k : Nat) : (List.replicate k xs).flatten.length = k * xs.length := by
 induction k with
 | zero => simp
 | succ k ih => rw [List.replicate_succ, List.flatten_cons, List.length_append, ih, Nat.succ_mul, Nat.add_comm]
theorem Zzd : OpR X (binaryOp .Mult) rRep := by
 intro pins s σ H x y v u Q I rx ry h
 obtain ⟨l, k, xs, rfl, rfl, hH, h1, h2, hz, q⟩ := h
 cases rx
 obtain ⟨t, rfl⟩ := ry
 obtain ⟨z, its, n, r, hl, e⟩ := I.lstM hH
 have hlen : its.toArray.size * k.toNat ≤ sizeLine := by rw [List.size_toArray, ← hl]; exact hz
 have hcap : ¬ its.toArray.size * k.toNat > (2 ^ 63 - 1) / 8 := by
  have : (sizeLine : Nat) ≤ (2 ^ 63 - 1) / 8 := by decide
  omega
 have hfit : ¬ (!Builtin.List.listFitsIndex k) = true := by
  rw [fitsIndex_both h1 h2]
  exact Bool.false_ne_true
 have hlong : ¬ Builtin.List.listTooLong (its.toArray.size * k.toNat) = true := by
  rw [Zuk hlen]
  exact Bool.false_ne_true
 have hnew : List.foldl (fun x1 x2 => x1 ++ x2) #[] (List.replicate (if its.toArray.isEmpty = true then 0 else k.toNat) its.toArray) = (List.replicate k.toNat its).flatten.toArray := by
  have f0 : ∀ m : Nat, List.foldl (fun x1 x2 => x1 ++ x2) #[] (List.replicate m its.toArray) = (List.replicate m its).flatten.toArray := fun m => by
   have := Zic its m []
   rw [List.nil_append] at this
   exact this
  rw [f0]
  cases its with
  | nil => simp
  | cons a r' => rw [if_neg (by simp)]
 refine wpAny_binaryOp_repeat_ref (T := "list") (U := "int") (by decide) ⟨_, e, rfl⟩ (fun s' => typeIs_int s' k t) noFill_list_mul F.fills_int_mul F.slot_int_rmul repeat_list F.slot_int_index.lookup
  (call_meets F.slot_int_rmul (typeIs_int s k t) F.entry_int_rmul (F.args_int_rmul_2 _ _) (int___rmul___int_list k t l its.toArray n)
   ⟨e, rfl, ⟨_, e, rfl⟩, call_meets F.slot_list_mul ⟨_, e, rfl⟩ F.entry_list_mul (F.args_list_mul_2 _ _) (AutoListH.list___mul___list_int_3 l its.toArray n k t hfit hcap hlong) ⟨e, ?_⟩⟩)
 rw [hnew]
 exact ⟨.ref _, _, I.lnew (t' := s.toks) (r.rep k.toNat) (by rw [Znd, Nat.mul_comm]; exact hz), rfl, q _ I.fresh⟩
end
section
variable {prog : Program} {w : World} {A : Around} {E : Value -> Shared -> Prop} {s : Shared}
set_option maxRecDepth 100000 in
end
end L2
namespace Att
open PySem PySem.W PySem.Calls PyProof.Rows
theorem Ziw {P : Params} {h : Heap} : ∀ (ns : List Int) (vs : List Value), WellAll P h vs (ns.map WData.int) -> IntsAre vs ns := by
 intro ns
 induction ns with
 | nil =>
  intro vs w
  rw [List.map_nil] at w
  cases w
  exact .nil
 | cons n ns ih =>
  intro vs w
  rw [List.map_cons] at w
  cases w with
  | cons a b =>
   cases a
   exact .cons _ _ (ih _ b)
theorem Zp7 {l : OpenLaw} {n : Nat} (hn : l.most = some n) {P : Params} {h : Heap} {args : List WData} {vals : List Value}
  (hpre : l.row.toRowW.claim.pre args = true) (hwl : WellAll P h vals args) :
  ∃ a vs ns, vals = [Value.ref a] ∧ args = [WData.list (ns.map WData.int)] ∧ h.get? a = some { cls := .type "list", data := .seq vs.toArray } ∧ IntsAre vs ns ∧ ns.length ≤ n := by
 have hsh : WShape.hasAll [] args [.list .int] = true := (pre_splitW hpre).1
 have hc : l.pre.holds [] { args := args } = true := (pre_splitW hpre).2
 obtain ⟨d, r, rfl, h1, h2⟩ := hasAllW_cons hsh
 obtain rfl := hasAllW_nil h2
 obtain ⟨xs, rfl, h3⟩ := hasW_list h1
 obtain ⟨ns, rfl⟩ := items_int h3
 have hlen : ns.length ≤ n := by
  unfold OpenLaw.pre at hc
  have h4 : (WTm.not (.lt (.lit (.int (n : Int))) (.len (.arg 0)))).holds [] { args := [.list (ns.map .int)] } = true := by
   have h4 := (holds_andW hc).1
   rw [hn] at h4
   exact h4
  have h5 := condW_of h4 (w_not (w_lt w_lit (w_len_list (w_arg rfl))))
  rw [List.length_map] at h5
  refine Nat.le_of_not_lt fun q => ?_
  have q' : (n : Int) < ((ns.length : Nat) : Int) := by omega
  first
   | (rw [decide_eq_true q'] at h5; exact absurd h5 (by decide))
   | (simp at h5; omega)
 cases hwl with
 | cons w1 w2 =>
  cases w2
  cases w1 with
  | list ho hall => exact ⟨_, _, ns, rfl, rfl, ho, Ziw ns _ hall, hlen⟩
theorem Zsb (l : OpenLaw) (args : List WData) : l.row.toRowW.claim.post args (.bool true) args = true :=
 postW_of (r := l.row.toRowW) (X := (true == true))
  (show WShape.has [] (.bool true) .bool = true by first | rfl | decide | simp [WShape.has, WShape.arms, WShape.armsAll])
  (show (WTm.eq .res (.lit (.bool true))).value [] { args := args, res := some (.bool true), after := args } = some (.bool (true == true)) from w_eq_bool (w_res rfl) w_lit) rfl
theorem attach_call {l : OpenLaw} {n : Nat} {q : Program} {loose : List Str} {XP : (Str -> Option Value) -> Heap -> Prop} {YP : World -> Heap -> Prop} {d : DefRec}
  (hn : l.most = some n) (hdf : d.params.defaults = [])
  (call : ∀ (w : World) (s₀ s₁ : Shared) (mg mb : Str -> Option Value) (fa : Addr) (o : Obj) (pm cd doc : Value) (a : Addr) (vs : List Value) (ns : List Int),
   Ground q loose [] XP w s₀ mg mb s₁.heap -> YP w s₁.heap →
   s₁.heap.get? fa = some o -> o.data = .func (docDef d.name d.params d.body d.scope pm cd doc) -> s₁.heap.CodeRec cd d.name -> mg d.name = some (.ref fa) →
   s₁.heap.get? a = some { cls := .type "list", data := .seq vs.toArray } → IntsAre vs ns → ns.length ≤ n → s₁.gens = #[] →
   codeAny (model l.prog w) callerA (.call (.ref fa) ⟨[.ref a], []⟩) (fun r s' => r = .ok (.ret (.bool true)) ∧ OldK s₁.heap s'.heap ∧ s'.os = s₁.os ∧ AllBare s'.gens) s₁) :
  WalkO q loose XP YP l.row.toRowW d [] (fun f vs => PySem.call f vs) := by
 intro w s₀ s₁ mg mb G Y fa o pm cd doc dV kV ho hd hcd hD hmg hg args vals as hpre hlay hrd hwl hlo
 obtain rfl : dV = .none := Dflts.none hD hdf
 obtain rfl : kV = .none := Dflts.noKw hD
 obtain ⟨a, vs, ns, rfl, rfl, hobj, hints, hlen⟩ := Zp7 hn hpre hwl
 refine enter_call (codeAny_mono (call w s₀ s₁ mg mb fa o pm cd doc a vs ns G Y ho (fd_plain hd) hcd hmg hobj hints hlen hg) fun r s' hq => ?_)
 obtain ⟨rfl, h2, h3, h4⟩ := hq
 exact ⟨.inl ⟨.bool true, .bool true, [], rfl, fun _ => rfl, .bool true, Zsb l _, fun _ => ⟨List.Pairwise.nil, fun _ hm => (nomatch hm)⟩⟩, h2, h3, h4⟩
end Att
namespace L2
open PySem PySem.Spec PyProof.Rows
theorem Zmj : ∀ {vs : List Value} {ns : List Int}, IntsAre vs ns -> Zca (ns.map V.int) vs
 | _, _, .nil => .nil
 | _, _, .cons n t h => .cons ⟨t, rfl⟩ (Zmj h)
noncomputable def Zz6 (H : Hp) : Prop := ∀ b, H b = none ∨ ∃ o xs, H b = some (.frz o (.lst xs))
theorem Ztt {P : Program} {w : World} {K : PySem.W.Frag} {mg mb : Str -> Option Value} {CX : CXT} {k : Nat} {fa a : Addr} {fd : FuncData} {x : Str} {sp : Sp} {s₁ : Shared} {vs : List Value} {ns : List Int}
  (KX : K.In s₁.heap) (hns : s₁.heap.Ns mainGlobals mg) (hb : s₁.heap.Ns builtinsNs mb) (hbb : ∀ x : Str, x ≠ "__name__" → mb x = bootBuiltins x) (hlim : s₁.heap.NoLimit) (hg : s₁.gens = #[])
  (ha : s₁.heap.get? a = some { cls := .type "list", data := .seq vs.toArray }) (hi : IntsAre vs ns) (hl : ns.length ≤ sizeLine) (hr : Room k callerA)
  (F : ∀ base : Heap, K.In base -> base.Ns mainGlobals mg -> FnOk P w K mg base CX k fa fd [x] sp) (hbind : ∀ (s : Shared) (u : Value), BindsTo s fd ⟨[u], []⟩ [(x, u)])
  (hsp : ∀ H : Hp, Zz6 H -> SqL K H a (ns.map V.int) -> sp [.ref a] H (fun v _ => v = .bl true) fun _ _ _ => False)
  (hCX : ∀ H e s', CX [] H s₁ (fun _ _ _ => False) e s' -> False) :
  codeAny (model P w) callerA (.call (.ref fa) ⟨[.ref a], []⟩) (fun r s' => r = .ok (.ret (.bool true)) ∧ OldK s₁.heap s'.heap ∧ s'.os = s₁.os ∧ AllBare s'.gens) s₁ := by
 have rv := Zmj hi
 have lenV := hi.length
 -- from an abstract heap in which nothing but the script may be tracked
 have core : ∀ H : Hp, Zz6 H -> SqL K H a (ns.map V.int) -> HOk P w H s₁.heap -> (∀ b, H b ≠ none -> b = a) -> (H a ≠ none -> K.lookup a = none) →
   codeAny (model P w) callerA (.call (.ref fa) ⟨[.ref a], []⟩) (fun r s' => r = .ok (.ret (.bool true)) ∧ OldK s₁.heap s'.heap ∧ s'.os = s₁.os ∧ AllBare s'.gens) s₁ := by
  intro H hO hS hok hA hK
  have base_of : ∀ {b : Addr} {o : Obj}, s₁.heap.get? b = some o -> H b = none -> (Zty s₁.heap H).get? b = some o := fun e n => Zsz e n
  have noA : ∀ {b : Addr} {o : Obj} {es : Array DictEntry} {ep : Nat}, s₁.heap.get? b = some o -> o.data = .dict es ep -> H b = none := fun {b o es ep} e d => by
   cases q : H b with
   | none => rfl
   | some u =>
    have e' : b = a := hA b (by rw [q]; simp)
    subst e'
    rw [ha] at e; cases e
    have d' : Data.seq vs.toArray _ = Data.dict es ep := d
    cases d'
  have nsK : ∀ {b : Addr} {m : Str -> Option Value}, s₁.heap.Ns b m -> (Zty s₁.heap H).Ns b m := fun {b m} ⟨o, es, ep, e, d, r⟩ => ⟨o, es, ep, base_of e (noA e d), d, r⟩
  have hKb : K.In (Zty s₁.heap H) := fun b o e => base_of (KX b o e) (by
   cases q : H b with
   | none => rfl
   | some u =>
    have e' : b = a := hA b (by rw [q]; simp)
    subst e'
    rw [hK (by rw [q]; simp)] at e; cases e)
  have hM : Mod K mg (Zty s₁.heap H) := ⟨hKb, nsK hns, ⟨mb, nsK hb, hbb⟩, let ⟨mc, h1, h2⟩ := hlim; ⟨mc, nsK h1, h2⟩⟩
  have e0 : Env0 P w K mg (Zty s₁.heap H) callerA [] s₁ H := ⟨rfl, hM, fun b o e => Zxd e, Nat.le_of_eq (Zsi _ _), trivial, fun b hb => absurd (show b ∈ ([] : List Addr) from hb) (by simp), hok, .of_eq hg⟩
  refine codeAny_mono ((F _ hKb (nsK hns)).run callerA [] s₁ H ⟨[.ref a], []⟩ [.ref a] [.ref a] _ _ hr e0 (hbind s₁ (.ref a)) (.cons rfl .nil) (hsp H hO hS)) fun r s' h => ?_
  cases r with
  | error e => exact (hCX H e s' h).elim
  | ok fl =>
   cases fl with
   | next => exact False.elim h
   | brk => exact False.elim h
   | cont => exact False.elim h
   | ret u =>
    obtain ⟨v, H', os, bare, un, hok', r', q⟩ := h
    have q' : v = .bl true := q
    subst q'
    obtain rfl : u = Value.bool true := r'
    refine ⟨rfl, OldK.of_keep fun b o e => ?_, os, bare⟩
    cases q : H b with
    | none => exact un.keep b o e q (by intro z; exact absurd (show b ∈ ([] : List Addr) from z) (by simp)) (by simp)
    | some u =>
     rcases hO b with z | ⟨ob, xs, z⟩
     ·rw [q] at z; cases z
     ·have z2 := un.frzs b ob _ z
      obtain ⟨e1, _⟩ := hok b _ z
      obtain ⟨e2, _⟩ := hok' b _ z2
      rw [e] at e1; cases e1
      exact e2
 cases hk : K.lookup a with
 | some o =>
  -- the script is one of the module's own objects
  have e := KX a o hk
  rw [ha] at e
  cases e
  refine core (fun _ => none) (fun _ => .inl rfl) (.inr ⟨_, vs.toArray, _, hk, rfl, rfl, rfl, by rw [List.size_toArray, lenV]; exact hl, by simpa using rv⟩) (fun b u z => by have z' : (none : Option HO) = some u := z; cases z') (fun b z => absurd rfl z) fun z => absurd rfl z
 | none =>
  refine core (fun b => if b = a then some (.frz { cls := .type "list", data := .seq vs.toArray } (.lst (ns.map V.int))) else none) (fun b => ?_) (.inl (.inr ⟨{ cls := .type "list", data := .seq vs.toArray }, if_pos rfl⟩)) (fun b u z => ?_) (fun b z => ?_) fun _ => hk
  ·by_cases hb : b = a
   ·exact .inr ⟨_, _, if_pos hb⟩
   ·exact .inl (if_neg hb)
  ·by_cases hb : b = a
   ·have z' := (if_pos hb).symm.trans z
    cases z'
    subst hb
    exact ⟨ha, by rw [List.length_map]; exact hl, vs, _, rv, ha⟩
   ·have z' := (if_neg hb).symm.trans z
    cases z'
  ·by_cases hb : b = a
   ·exact hb
   ·exact absurd (if_neg hb) z
noncomputable abbrev KOf {K : PySem.W.Frag} {h : Heap} (_ : K.In h) : PySem.W.Frag := K
theorem Zvq {l : PySem.W.OpenLaw} {n k : Nat} {q : Program} {loose : List Str} {XP : (Str -> Option Value) -> Heap -> Prop} {YP : World -> Heap -> Prop} {d : DefRec} {K : Params -> PySem.W.Frag} {CX : World -> CXT} {sp : World -> Sp} {x : Str}
  (hn : l.most = some n) (hn2 : n ≤ sizeLine) (hdf : d.params.defaults = []) (hr : Room k callerA)
  (hY : ∀ (w : World) (h : Heap), YP w h -> (K w.params).In h)
  (F : ∀ (w : World) (mg : Str -> Option Value) (fa : Addr) (h : Heap), (K w.params).In h -> h.Ns mainGlobals mg -> mg d.name = some (.ref fa) →
   ∃ fd : FuncData, (∀ (s : Shared) (u : Value), BindsTo s fd ⟨[u], []⟩ [(x, u)]) ∧
    ∀ base : Heap, (K w.params).In base -> base.Ns mainGlobals mg -> FnOk l.prog w (K w.params) mg base (CX w) k fa fd [x] (sp w))
  (hsp : ∀ (w : World) (H : Hp) (a : Addr) (ns : List Int), ns.length ≤ n -> Zz6 H -> SqL (K w.params) H a (ns.map V.int) -> sp w [.ref a] H (fun v _ => v = .bl true) fun _ _ _ => False)
  (hCX : ∀ (w : World) (H : Hp) (s : Shared) (e : Value) (s' : Shared), CX w [] H s (fun _ _ _ => False) e s' -> False) :
  PySem.W.WalkO q loose XP YP l.row.toRowW d [] (fun f vs => PySem.call f vs) := by
 refine Att.attach_call hn hdf fun w s₀ s₁ mg mb fa o pm cd doc a vs ns G Y ho hd hcd hmg hobj hints hlen hg => ?_
 have KX := hY w _ Y
 obtain ⟨fd, hb, hF⟩ := F w mg fa _ KX G.T.g hmg
 exact Ztt KX G.T.g G.T.b G.T.builtins G.T.nolimit hg hobj hints (Nat.le_trans hlen hn2) hr hF hb (fun H hO hS => hsp w H a ns hlen hO hS) fun H e s' => hCX w H s₁ e s'
theorem walk_ofK {l : PySem.W.OpenLaw} {n k : Nat} {q : Program} {loose : List Str} {XP : (Str -> Option Value) -> Heap -> Prop} {YP : World -> Heap -> Prop} {d : DefRec} {K : Params -> PySem.W.Frag} {CX : CXT} {sp : PySem.W.Frag -> Sp} {x : Str}
  (hn : l.most = some n) (hn2 : n ≤ sizeLine) (hdf : d.params.defaults = []) (hr : Room k callerA)
  (hY : ∀ (w : World) (h : Heap), YP w h -> (K w.params).In h)
  (F : ∀ (w : World) (mg : Str -> Option Value) (fa : Addr) (h : Heap), (K w.params).In h -> h.Ns mainGlobals mg -> mg d.name = some (.ref fa) →
   ∃ fd : FuncData, (∀ (s : Shared) (u : Value), BindsTo s fd ⟨[u], []⟩ [(x, u)]) ∧
    ∀ base : Heap, (K w.params).In base -> base.Ns mainGlobals mg -> FnOk l.prog w (K w.params) mg base CX k fa fd [x] (sp (K w.params)))
  (hsp : ∀ (K : PySem.W.Frag) (H : Hp) (a : Addr) (ns : List Int), ns.length ≤ n -> Zz6 H -> SqL K H a (ns.map V.int) -> sp K [.ref a] H (fun v _ => v = .bl true) fun _ _ _ => False)
  (hCX : ∀ (H : Hp) (s : Shared) (e : Value) (s' : Shared), CX [] H s (fun _ _ _ => False) e s' -> False) :
  PySem.W.WalkO q loose XP YP l.row.toRowW d [] (fun f vs => PySem.call f vs) :=
 Zvq (K := K) (CX := fun _ => CX) (sp := fun w => sp (K w.params)) hn hn2 hdf hr hY F (fun w H a ns h1 h2 h3 => hsp (K w.params) H a ns h1 h2 h3) fun _ H s e s' => hCX H s e s'
noncomputable def Zen (s : Stmt) : Arguments := match s with
 | .FunctionDef _ a _ _ _ _ _ _ _ _ => a
 | _ => { posonlyargs := [], args := [], vararg := none, kwonlyargs := [], kw_defaults := [], kwarg := none, defaults := [] }
noncomputable def Zcn (s : Stmt) : List Stmt := match s with
 | .FunctionDef _ _ b _ _ _ _ _ _ _ => b
 | _ => []
noncomputable def Zak (s : Stmt) : Scope := match s with
 | .FunctionDef _ _ _ _ _ _ sc _ _ _ => sc
 | _ => { kind := .function, names := [], isGenerator := false, isCoroutine := false }
noncomputable abbrev CX0 : CXT := fun _ _ _ _ _ _ => False
noncomputable abbrev E0 : XK := fun _ _ _ => False
theorem Ztv {X : Cx} : Zix CX0 X E0 := fun _ _ _ _ _ _ _ h => h.elim
structure Fun (K : PySem.W.Frag) (x qual : Str) (st : Stmt) (f : Addr) (fd : FuncData) : Prop where
 ex : ∃ (oc : Value) (od : Option Addr) (kV doc pm : Value) (an : Option Addr) (cdv ct : Value) (osl : Array (Option Value)),
  fd = PySem.W.fnOf x qual (Zen st) (Zcn st) (Zak st) .none kV doc pm an cdv ct ∧ K.lookup f = some ⟨oc, od, .func fd, osl⟩ ∧ PySem.W.codeIn K cdv qual = true
 kp : PySem.W.keepIn K (.ref f) = true
section
variable {P : Program} {w : World} {K : PySem.W.Frag} {mg : Str -> Option Value} {base : Heap}
theorem Fun.ok {x qual : Str} {st : Stmt} {f : Addr} {fd : FuncData} {N ps : List Str} {k : Nat} {sp : Sp} (F : Fun K x qual st f fd) (S : FnScope N ps (Zak st)) (len : ∀ vs H Q E, sp vs H Q E -> vs.length = ps.length)
  (hbody : ∀ (cdv : Value) (A : Around) (outer : List Env) (s : Shared) (H : Hp) (vs : List V) (Q : VK) (E : XK), Room k (A.deeper (envOfC qual (Zak st) s.heap.objs.size f cdv)) -> sp vs H Q E →
   ∃ t, PSs (Zpm CX0 P w K mg base N qual (Zak st) f cdv A outer s H E).nox (Zcn st) t ∧ t { nx := fun _ H' => Q .non H', rt := Q } (start N vs) H) : FnOk P w K mg base CX0 (k + 1) f fd ps sp := by
 obtain ⟨oc, od, kV, doc, pm, an, cdv, ct, osl, rfl, lk, hcd⟩ := F.ex
 refine fn_of lk hcd S len fun A outer s H vs Q E hr hsp => ?_
 obtain ⟨t, h, q⟩ := hbody cdv A outer s H vs Q E hr hsp
 exact ⟨t, h.nox, q⟩
theorem Fun.binds {x qual : Str} {st : Stmt} {f : Addr} {fd : FuncData} {ps : List Str} (F : Fun K x qual st f fd)
  (h : ∀ (kV doc pm : Value) (an : Option Addr) (cdv ct : Value) (us : List Value), us.length = ps.length -> bindArgs (PySem.W.fnOf x qual (Zen st) (Zcn st) (Zak st) .none kV doc pm an cdv ct) ⟨us, []⟩ = pure (ps.zip us)) : Zhf K fd ps [] := by
 obtain ⟨oc, od, kV, doc, pm, an, cdv, ct, osl, rfl, lk, hcd⟩ := F.ex
 exact .all (h kV doc pm an cdv ct)
theorem Zsp {x qual : Str} {st : Stmt} {f : Addr} {oc : Value} {od an : Option Addr} {osl : Array (Option Value)} {kV doc pm cdv ct : Value} (l : K.lookup f = some ⟨oc, od, .func (PySem.W.fnOf x qual (Zen st) (Zcn st) (Zak st) .none kV doc pm an cdv ct), osl⟩)
  (c : PySem.W.codeIn K cdv qual = true) (k : PySem.W.keepIn K (.ref f) = true) : Fun K x qual st f (PySem.W.fnOf x qual (Zen st) (Zcn st) (Zak st) .none kV doc pm an cdv ct) := ⟨⟨oc, od, kV, doc, pm, an, cdv, ct, osl, rfl, l, c⟩, k⟩
end
section
variable {X : Cx}
theorem pv (i : Nat) {x : Str} {pos : Pos} (hN : X.N[i]? = some x := by rfl) (hv : Vis X.env.scope x := by first | exact Or.inl rfl | exact Or.inr (Or.inl rfl) | exact Or.inr (Or.inr rfl)) (hd : (x == ("__debug__" : Str)) = false := by decide)
  (hcd : (x == ("__classdict__" : Str)) = false := by decide) : PE X (.Name x pos) (tVar i) := Zz4 hN hv hd hcd
end
end L2
set_option maxHeartbeats 4000000
set_option autoImplicit false
namespace DL
open PySem PySem.Spec PyProof.Rows L2
noncomputable def Zru : Value -> Option Int
 | .int i _ => some i
 | .bool b => some (if b then 1 else 0)
 | _ => none
noncomputable def Zn2 (k : Int) (v : Value) : Bool := Zru v == some k
theorem Zfe {k : Int} {v : Value} (h : Zn2 k v = true) : (∃ t, v = .int k t) ∨ ∃ b, v = .bool b ∧ k = (if b then 1 else 0) := by
 have h : Zru v = some k := eq_of_beq h
 cases v with
 | int i t => exact .inl ⟨t, by cases h; rfl⟩
 | bool b => exact .inr ⟨b, rfl, (Option.some.inj h).symm⟩
 | _ => cases h
section
variable {prog : Program} {w : World} {A : Around} {E : Value -> Shared -> Prop} {s : Shared}
theorem Zne {b : Bool} {Q : Int -> Shared -> Prop} (h : Q (hashInt (if b then 1 else 0)) { s with toks := s.toks + 1 }) : wpAny (model prog w) A (pyHash (.bool b)) Q E s := by
 have hr := rawHash_range (if b then 1 else 0)
 have tb : s.TypeIs (.bool b) "bool" := rfl
 unfold pyHash
 have hv : [Value.bool b].any Value.onHeap = false := rfl
 refine wpAny_bind ?_
 rw [cRoomFor, if_neg (by rw [hv]; exact Bool.false_ne_true)]; refine wpAny_pure ?_
 refine wpAny_bind (wpAny_specialOf tb F.slot_bool_hash.lookup ?_)
 show wpAny _ _ (if (some (Value.builtin "int.__hash__") == some Value.none) = true then _ else _) Q E s
 rw [if_neg (by rw [beq_builtin_none]; exact Bool.false_ne_true)]
 refine wpAny_bind (wpAny_specialOf tb F.slot_bool_hash.lookup ?_)
 show wpAny _ _ (callSpecialIfBoundUnlessNone? (.bool b) "__hash__" _ >>= _) Q E s
 refine wpAny_bind (wpAny_callSpecialIfBoundUnlessNone?_slot tb F.slot_bool_hash
  (wpAny_call_entry F.slot_bool_hash tb entry_int_hash
   (show wpAny _ _ (do ret (← mkInt (rawHash (if b then 1 else 0)))) _ _ s from wpAny_ret_mkInt ?_) (args_int_hash _)))
 show wpAny _ _ (if (decide (-(2 : Int) ^ 63 ≤ rawHash (if b then 1 else 0)) && decide (rawHash (if b then 1 else 0) < 2 ^ 63)) = true then _ else _) Q E _
 rw [if_pos (by rw [decide_eq_true hr.1, decide_eq_true hr.2]; rfl)]
 exact wpAny_pure h
end
noncomputable def Zey (prog : Program) (w : World) : KeyKind prog w Int where
 is := Zn2
 hash := hashInt
 inj := fun v a b ha hb => by
  unfold Zn2 at ha hb
  have := (eq_of_beq ha).symm.trans (eq_of_beq hb)
  exact Option.some.inj this
 byValue := fun k v h => by rcases Zfe h with ⟨t, rfl⟩ | ⟨b, rfl, _⟩ <;> rfl
 pyHash := fun hv h => by
  rcases Zfe hv with ⟨t, rfl⟩ | ⟨b, rfl, rfl⟩
  ·exact wpAny_pyHash_int h
  ·exact Zne h
 eqBool := fun {A E s a b u v Q} hu hv h => by
  rcases Zfe hu with ⟨t, rfl⟩ | ⟨c, rfl, rfl⟩ <;> rcases Zfe hv with ⟨t', rfl⟩ | ⟨c', rfl, rfl⟩
  ·exact wpAny_eqBool_int h
  ·exact PySem.SeqAt.EqAt.int_bool _ _ _ prog w E Q h
  ·exact PySem.SeqAt.EqAt.bool_int _ _ _ prog w E Q h
  ·refine PySem.SeqAt.EqAt.bool_bool _ _ prog w E Q ?_
   have e : (c == c') = decide ((if c then (1 : Int) else 0) = (if c' then 1 else 0)) := by cases c <;> cases c' <;> rfl
   rw [e]; exact h
 «strs» := fun k x t v h => by simp [Zn2, Zru] at h
inductive D where
 | non | bl (b : Bool) | int (i : Int) | str (x : Str) | ty (n : String) | tup (xs : List D) | fl (xs : List D) | ref (n : Nat)
inductive DO where
 | lst (xs : List D) | dic (kvs : List (D × D)) (fz : Bool) | dci (kvs : List (Int × D)) | dcn (kvs : List (D × D)) | obj (cn : Str) (fs : List (Str × D))
noncomputable abbrev HD := List DO
noncomputable abbrev SD := List (Option D)
noncomputable def FzL (K : PySem.W.Frag) (H : Hp) (a : Addr) (xs : List V) : Prop :=
 (∃ o, H a = some (.frz o (.lst xs))) ∨
  ∃ (o : Obj) (its : Array Value) (n : Nat), K.lookup a = some o ∧ o.cls = .type "list" ∧ o.dict = none ∧ o.data = .seq its n ∧ its.size ≤ sizeLine ∧ Zca xs its.toList
theorem FzL.sq {K : PySem.W.Frag} {H : Hp} {a : Addr} {xs : List V} (h : FzL K H a xs) : SqL K H a xs := by
 rcases h with h | h
 ·exact .inl (.inr h)
 ·exact .inr h
mutual
noncomputable def Rep (K : PySem.W.Frag) (H : Hp) (ι : List Addr) : D -> V -> Prop
 | .non, v => v = .non
 | .bl b, v => v = .bl b
 | .int i, v => v = .int i
 | .str x, v => v = .str x
 | .ty n, v => v = .ty n
 | .tup ds, v => ∃ a vs, v = .ref a ∧ SqT K H a vs ∧ Zma K H ι ds vs
 | .fl ds, v => ∃ a vs, v = .ref a ∧ FzL K H a vs ∧ Zma K H ι ds vs
 | .ref n, v => ∃ a, v = .ref a ∧ ι[n]? = some a
noncomputable def Zma (K : PySem.W.Frag) (H : Hp) (ι : List Addr) : List D -> List V -> Prop
 | [], vs => vs = []
 | d :: ds, vs => ∃ v r, vs = v :: r ∧ Rep K H ι d v ∧ Zma K H ι ds r
end
section
variable {α β : Type} {F G : α -> β -> Prop}
theorem Prd.len : ∀ {xs : List α} {us : List β}, Paired F xs us -> xs.length = us.length
 | _, _, .nil => rfl
 | _, _, .cons _ t => by simp [Prd.len t]
theorem Prd.get : ∀ {xs : List α} {us : List β} {i : Nat} {x : α}, Paired F xs us -> xs[i]? = some x -> ∃ u, us[i]? = some u ∧ F x u
 | _, _, _, _, .nil, e => by simp at e
 | _, _, 0, _, .cons r _, e => by simp at e; subst e; exact ⟨_, rfl, r⟩
 | _, _, i + 1, x, .cons _ t, e => by
  obtain ⟨u, h1, h2⟩ := Prd.get (i := i) (x := x) t (by simpa using e)
  exact ⟨u, by simpa using h1, h2⟩
theorem Prd.set {x : α} {u : β} (r : F x u) : ∀ {xs : List α} {us : List β} (i : Nat), Paired F xs us -> Paired F (xs.set i x) (us.set i u)
 | _, _, _, .nil => .nil
 | _, _, 0, .cons _ t => .cons r t
 | _, _, i + 1, .cons q t => .cons q (Prd.set r i t)
theorem Prd.append : ∀ {xs ys : List α} {us ws : List β}, Paired F xs us -> Paired F ys ws -> Paired F (xs ++ ys) (us ++ ws)
 | _, _, _, _, .nil, s => s
 | _, _, _, _, .cons r t, s => .cons r (Prd.append t s)
theorem Prd.take : ∀ {xs : List α} {us : List β} (n : Nat), Paired F xs us -> Paired F (xs.take n) (us.take n)
 | _, _, 0, _ => .nil
 | _, _, _ + 1, .nil => .nil
 | _, _, n + 1, .cons r t => .cons r (Prd.take n t)
theorem Prd.drop : ∀ {xs : List α} {us : List β} (n : Nat), Paired F xs us -> Paired F (xs.drop n) (us.drop n)
 | _, _, 0, r => r
 | _, _, _ + 1, .nil => .nil
 | _, _, n + 1, .cons _ t => Prd.drop n t
theorem Prd.eraseIdx : ∀ {xs : List α} {us : List β} (i : Nat), Paired F xs us -> Paired F (xs.eraseIdx i) (us.eraseIdx i)
 | _, _, _, .nil => .nil
 | _, _, 0, .cons _ t => t
 | _, _, i + 1, .cons r t => .cons r (Prd.eraseIdx i t)
theorem Prd.rep {xs : List α} {us : List β} (h : Paired F xs us) : ∀ k : Nat, Paired F (List.replicate k xs).flatten (List.replicate k us).flatten
 | 0 => .nil
 | k + 1 => by
  rw [List.replicate_succ, List.flatten_cons, List.replicate_succ, List.flatten_cons]
  exact Prd.append h (Prd.rep h k)
theorem Prd.imp : ∀ {xs : List α} {us : List β}, Paired F xs us -> (∀ a b, a ∈ xs -> F a b -> G a b) -> Paired G xs us
 | _, _, .nil, _ => .nil
 | _, _, .cons r t, f => .cons (f _ _ (by simp) r) (Prd.imp t fun a b h => f a b (by simp [h]))
end
section
variable {K : PySem.W.Frag} {H H' : Hp} {ι ι' : List Addr}
theorem Zex : ∀ {ds : List D} {vs : List V}, Zma K H ι ds vs ↔ Paired (Rep K H ι) ds vs
 | [], vs => by
  constructor
  ·intro h; rw [Zma] at h; subst h; exact .nil
  ·intro h; cases h; rw [Zma]
 | d :: ds, vs => by
  constructor
  ·intro h; rw [Zma] at h
   obtain ⟨v, r, rfl, h1, h2⟩ := h
   exact .cons h1 (Zex.mp h2)
  ·intro h
   cases h with
   | cons h1 h2 => rw [Zma]; exact ⟨_, _, rfl, h1, Zex.mpr h2⟩
@[simp] theorem rep_non {v : V} : Rep K H ι .non v ↔ v = .non := by rw [Rep]
@[simp] theorem rep_bl {b : Bool} {v : V} : Rep K H ι (.bl b) v ↔ v = .bl b := by rw [Rep]
@[simp] theorem rep_int {i : Int} {v : V} : Rep K H ι (.int i) v ↔ v = .int i := by rw [Rep]
@[simp] theorem rep_str {x : Str} {v : V} : Rep K H ι (.str x) v ↔ v = .str x := by rw [Rep]
@[simp] theorem rep_ty {n : String} {v : V} : Rep K H ι (.ty n) v ↔ v = .ty n := by rw [Rep]
theorem Zb3 {ds : List D} {v : V} : Rep K H ι (.tup ds) v ↔ ∃ a vs, v = .ref a ∧ SqT K H a vs ∧ Paired (Rep K H ι) ds vs := by
 rw [Rep]
 constructor
 ·rintro ⟨a, vs, h1, h2, h3⟩; exact ⟨a, vs, h1, h2, Zex.mp h3⟩
 ·rintro ⟨a, vs, h1, h2, h3⟩; exact ⟨a, vs, h1, h2, Zex.mpr h3⟩
theorem Zf9 {ds : List D} {v : V} : Rep K H ι (.fl ds) v ↔ ∃ a vs, v = .ref a ∧ FzL K H a vs ∧ Paired (Rep K H ι) ds vs := by
 rw [Rep]
 constructor
 ·rintro ⟨a, vs, h1, h2, h3⟩; exact ⟨a, vs, h1, h2, Zex.mp h3⟩
 ·rintro ⟨a, vs, h1, h2, h3⟩; exact ⟨a, vs, h1, h2, Zex.mpr h3⟩
theorem Za8 {n : Nat} {v : V} : Rep K H ι (.ref n) v ↔ ∃ a, v = .ref a ∧ ι[n]? = some a := by rw [Rep]
structure Lw (K : PySem.W.Frag) (H : Hp) (ι : List Addr) (H' : Hp) (ι' : List Addr) : Prop where
 tup : ∀ a xs, SqT K H a xs -> SqT K H' a xs
 fz : ∀ a xs, FzL K H a xs -> FzL K H' a xs
 pre : ∃ t, ι' = ι ++ t
 fr : ∀ a o u, H a = some (.frz o u) -> H' a = some (.frz o u)
structure Le (K : PySem.W.Frag) (H : Hp) (ι : List Addr) (H' : Hp) (ι' : List Addr) : Prop extends Lw K H ι H' ι' where
 frame : ∀ a o, H a = some o -> a ∉ ι -> H' a = some o ∧ a ∉ ι'
theorem Le.refl : Le K H ι H ι := ⟨⟨fun _ _ h => h, fun _ _ h => h, ⟨[], by simp⟩, fun _ _ _ h => h⟩, fun _ _ h n => ⟨h, n⟩⟩
theorem Le.trans {H1 H2 : Hp} {ι1 ι2 : List Addr} (a : Le K H ι H1 ι1) (b : Le K H1 ι1 H2 ι2) : Le K H ι H2 ι2 := by
 refine ⟨⟨fun x xs h => b.tup x xs (a.tup x xs h), fun x xs h => b.fz x xs (a.fz x xs h), ?_, fun x o u h => b.fr x o u (a.fr x o u h)⟩, fun x o h n => ?_⟩
 ·obtain ⟨t, e⟩ := a.pre
  obtain ⟨u, e'⟩ := b.pre
  exact ⟨t ++ u, by rw [e', e, List.append_assoc]⟩
 ·obtain ⟨h1, n1⟩ := a.frame x o h n
  exact b.frame x o h1 n1
theorem Lw.get (l : Lw K H ι H' ι') {n : Nat} {a : Addr} (h : ι[n]? = some a) : ι'[n]? = some a := by
 obtain ⟨t, e⟩ := l.pre
 rw [e, List.getElem?_append_left (by exact (List.getElem?_eq_some_iff.mp h).1), h]
mutual
theorem Rep.monoW (l : Lw K H ι H' ι') : ∀ {d : D} {v : V}, Rep K H ι d v -> Rep K H' ι' d v
 | .non, v, h => by rw [Rep] at h ⊢; exact h
 | .bl _, v, h => by rw [Rep] at h ⊢; exact h
 | .int _, v, h => by rw [Rep] at h ⊢; exact h
 | .str _, v, h => by rw [Rep] at h ⊢; exact h
 | .ty _, v, h => by rw [Rep] at h ⊢; exact h
 | .tup ds, v, h => by
  rw [Rep] at h ⊢
  obtain ⟨a, vs, h1, h2, h3⟩ := h
  exact ⟨a, vs, h1, l.tup a vs h2, Zma.monoW l h3⟩
 | .fl ds, v, h => by
  rw [Rep] at h ⊢
  obtain ⟨a, vs, h1, h2, h3⟩ := h
  exact ⟨a, vs, h1, l.fz a vs h2, Zma.monoW l h3⟩
 | .ref n, v, h => by
  rw [Rep] at h ⊢
  obtain ⟨a, h1, h2⟩ := h
  exact ⟨a, h1, l.get h2⟩
theorem Zma.monoW (l : Lw K H ι H' ι') : ∀ {ds : List D} {vs : List V}, Zma K H ι ds vs -> Zma K H' ι' ds vs
 | [], vs, h => by rw [Zma] at h ⊢; exact h
 | d :: ds, vs, h => by
  rw [Zma] at h ⊢
  obtain ⟨v, r, h1, h2, h3⟩ := h
  exact ⟨v, r, h1, Rep.monoW l h2, Zma.monoW l h3⟩
end
theorem Rep.mono (l : Le K H ι H' ι') {d : D} {v : V} (h : Rep K H ι d v) : Rep K H' ι' d v := Rep.monoW l.toLw h
theorem Prd.monoW (l : Lw K H ι H' ι') {ds : List D} {vs : List V} (h : Paired (Rep K H ι) ds vs) : Paired (Rep K H' ι') ds vs := Zex.mp (Zma.monoW l (Zex.mpr h))
theorem Prd.mono (l : Le K H ι H' ι') {ds : List D} {vs : List V} (h : Paired (Rep K H ι) ds vs) : Paired (Rep K H' ι') ds vs := Prd.monoW l.toLw h
noncomputable def nkOf : D -> Option Int
 | .int i => some i
 | .bl b => some (if b then 1 else 0)
 | _ => none
noncomputable def Znu : List D -> Option (List Int)
 | [] => some []
 | d :: r => (nkOf d).bind fun k => (Znu r).map fun ks => k :: ks
noncomputable def nk : D -> Option (List Int)
 | .tup ds => Znu ds
 | _ => none
noncomputable def Zzq (ks : List Int) : Int := reduceHash (Builtin.Tuple.tupleHashOf (ks.map hashInt))
noncomputable def Zdx (a : Addr) (xs : List (List Int × Addr × Value)) (h : Heap) : Prop :=
 ∃ o es ep, h.get? a = some o ∧ o.ExactDict ∧ o.data = .dict es ep ∧ es.toList = xs.map (fun x => (⟨Zzq x.1, .ref x.2.1, x.2.2⟩ : DictEntry)) ∧ (xs.map (·.1)).Nodup
theorem Zdx.keep {a : Addr} {xs : List (List Int × Addr × Value)} {h1 h2 : Heap} (d : Zdx a xs h1) (k : ∀ o, h1.get? a = some o -> h2.get? a = some o) : Zdx a xs h2 := by
 obtain ⟨o, es, ep, e, r⟩ := d
 exact ⟨o, es, ep, k o e, r⟩
noncomputable def Zp3 (K : PySem.W.Frag) (H : Hp) (ι : List Addr) (p : D × D) (x : List Int × Addr × Value) : Prop := nk p.1 = some x.1 ∧ Rep K H ι p.1 (.ref x.2.1) ∧ ∃ v, Zdm v x.2.2 ∧ Rep K H ι p.2 v
noncomputable def DciAt (a : Addr) (xs : List (Int × Value)) (h : Heap) : Prop := ∀ (p : Program) (w : World), h.DictOf (Zey p w) a xs
noncomputable def IRep (K : PySem.W.Frag) (H : Hp) (ι : List Addr) (p : Int × D) (x : Int × Value) : Prop := p.1 = x.1 ∧ ∃ v, Zdm v x.2 ∧ Rep K H ι p.2 v
noncomputable def nk2 : D -> Option (Int × List Int)
 | .tup [a, b] => (nkOf a).bind fun i => (nk b).map fun ks => (i, ks)
 | _ => none
noncomputable def nHash (k : Int × List Int) : Int := reduceHash (Builtin.Tuple.tupleHashOf [hashInt k.1, Zzq k.2])
noncomputable def DcnAt (a : Addr) (xs : List ((Int × List Int) × Addr × Value)) (h : Heap) : Prop :=
 ∃ o es ep, h.get? a = some o ∧ o.ExactDict ∧ o.data = .dict es ep ∧ es.toList = xs.map (fun x => (⟨nHash x.1, .ref x.2.1, x.2.2⟩ : DictEntry)) ∧ (xs.map (·.1)).Nodup
noncomputable def NRep (K : PySem.W.Frag) (H : Hp) (ι : List Addr) (p : D × D) (x : (Int × List Int) × Addr × Value) : Prop := nk2 p.1 = some x.1 ∧ Rep K H ι p.1 (.ref x.2.1) ∧ ∃ v, Zdm v x.2.2 ∧ Rep K H ι p.2 v
noncomputable def Zzr (K : PySem.W.Frag) (H : Hp) (ι : List Addr) (p : Str × D) (x : Str × V) : Prop := p.1 = x.1 ∧ Rep K H ι p.2 x.2
noncomputable def Zp2 (K : PySem.W.Frag) (H : Hp) (ι : List Addr) (a : Addr) : DO -> Prop
 | .lst ds => ∃ vs, H a = some (.lst vs) ∧ Paired (Rep K H ι) ds vs
 | .dic kvs fz => (a == sysModules) = false ∧ kvs.length ≤ sizeLine ∧ ∃ xs, (if fz = true then ∃ o, H a = some (.frz o (.ext (Zdx a xs))) else H a = some (.ext (Zdx a xs))) ∧ Paired (Zp3 K H ι) kvs xs
 | .dci kvs => (a == sysModules) = false ∧ kvs.length ≤ sizeLine ∧ ∃ xs, H a = some (.ext (DciAt a xs)) ∧ Paired (IRep K H ι) kvs xs
 | .dcn kvs => (a == sysModules) = false ∧ kvs.length ≤ sizeLine ∧ ∃ xs, H a = some (.ext (DcnAt a xs)) ∧ Paired (NRep K H ι) kvs xs
 | .obj cn fs => ∃ C dx xs, PySem.W.nsIn K mainGlobals cn = some (some (.ref C)) ∧ H a = some (.ins C dx xs) ∧ Paired (Zzr K H ι) fs xs
structure HRep (K : PySem.W.Frag) (H : Hp) (ι : List Addr) (Hd : HD) : Prop where
 len : ι.length = Hd.length
 nd : ι.Nodup
 obj : ∀ (n : Nat) (a : Addr) (o : DO), ι[n]? = some a -> Hd[n]? = some o -> Zp2 K H ι a o
theorem Zp2.there {a : Addr} {o : DO} (h : Zp2 K H ι a o) : H a ≠ none := by
 cases o with
 | lst ds => obtain ⟨vs, e, _⟩ := h; rw [e]; simp
 | dic kv fz =>
  obtain ⟨_, _, xs, e, _⟩ := h
  cases fz with
  | true => rw [if_pos rfl] at e; obtain ⟨ob, e⟩ := e; rw [e]; simp
  | false => rw [if_neg (by simp)] at e; rw [e]; simp
 | dci kv => obtain ⟨_, _, xs, e, _⟩ := h; rw [e]; simp
 | dcn kv => obtain ⟨_, _, xs, e, _⟩ := h; rw [e]; simp
 | obj cn fs => obtain ⟨C, dx, xs, _, e, _⟩ := h; rw [e]; simp
theorem Zp2.step {a : Addr} {o : DO} (h : Zp2 K H ι a o) (l : Lw K H ι H' ι') (e : H' a = H a) : Zp2 K H' ι' a o := by
 cases o with
 | lst ds => obtain ⟨vs, q, r⟩ := h; exact ⟨vs, by rw [e, q], Prd.monoW l r⟩
 | dic kv fz => obtain ⟨h1, h2, xs, q, r⟩ := h; exact ⟨h1, h2, xs, by rw [e]; exact q, Prd.imp r fun p x _ z => ⟨z.1, Rep.monoW l z.2.1, let ⟨v, z1, z2⟩ := z.2.2; ⟨v, z1, Rep.monoW l z2⟩⟩⟩
 | dci kv => obtain ⟨h1, h2, xs, q, r⟩ := h; exact ⟨h1, h2, xs, by rw [e]; exact q, Prd.imp r fun p x _ z => ⟨z.1, let ⟨v, z1, z2⟩ := z.2; ⟨v, z1, Rep.monoW l z2⟩⟩⟩
 | dcn kv => obtain ⟨h1, h2, xs, q, r⟩ := h; exact ⟨h1, h2, xs, by rw [e]; exact q, Prd.imp r fun p x _ z => ⟨z.1, Rep.monoW l z.2.1, let ⟨v, z1, z2⟩ := z.2.2; ⟨v, z1, Rep.monoW l z2⟩⟩⟩
 | obj cn fs => obtain ⟨C, dx, xs, h1, q, r⟩ := h; exact ⟨C, dx, xs, h1, by rw [e]; exact q, Prd.imp r fun p x _ z => ⟨z.1, Rep.monoW l z.2⟩⟩
theorem HRep.at {Hd : HD} (h : HRep K H ι Hd) {n : Nat} {o : DO} (e : Hd[n]? = some o) : ∃ a, ι[n]? = some a ∧ Zp2 K H ι a o := by
 have hl : n < ι.length := by rw [h.len]; exact (List.getElem?_eq_some_iff.mp e).1
 exact ⟨ι[n], by simp [hl], h.obj n _ o (by simp [hl]) e⟩
theorem HRep.has {Hd : HD} (h : HRep K H ι Hd) {a : Addr} (hm : a ∈ ι) : ∃ (n : Nat) (o : DO), ι[n]? = some a ∧ Hd[n]? = some o ∧ Zp2 K H ι a o := by
 obtain ⟨n, hn⟩ := List.mem_iff_getElem?.mp hm
 have hl : n < Hd.length := by rw [← h.len]; exact (List.getElem?_eq_some_iff.mp hn).1
 exact ⟨n, Hd[n], hn, by simp [hl], h.obj n a Hd[n] hn (by simp [hl])⟩
theorem HRep.fresh {Hd : HD} (h : HRep K H ι Hd) {p : Addr} (hp : H p = none) : p ∉ ι := fun hm => by
 obtain ⟨_, _, _, _, o⟩ := h.has hm
 exact o.there hp
theorem HRep.keep {Hd : HD} (h : HRep K H ι Hd) (l : Lw K H ι H' ι) (e : ∀ a ∈ ι, H' a = H a) : HRep K H' ι Hd :=
 ⟨h.len, h.nd, fun n a o h1 h2 => (h.obj n a o h1 h2).step l (e a (List.mem_of_getElem? h1))⟩
theorem Lw.fresh {p : Addr} (hp : H p = none) (o : HO) : Lw K H ι (upd H p o) ι where
 tup := fun a xs h => by
  rcases h with (h | ⟨ob, h⟩) | h
  ·exact .inl (.inl (by rw [Za0 (Za6 h hp)]; exact h))
  ·exact .inl (.inr ⟨ob, by rw [Za0 (Za6 h hp)]; exact h⟩)
  ·exact .inr h
 fz := fun a xs h => by
  rcases h with ⟨ob, h⟩ | h
  ·exact .inl ⟨ob, by rw [Za0 (Za6 h hp)]; exact h⟩
  ·exact .inr h
 pre := ⟨[], by simp⟩
 fr := fun a ob u h => by rw [Za0 (Za6 h hp)]; exact h
theorem Le.fresh {p : Addr} (hp : H p = none) (o : HO) : Le K H ι (upd H p o) ι := ⟨Lw.fresh hp o, fun a ob h n => ⟨by rw [Za0 (Za6 h hp)]; exact h, n⟩⟩
theorem Le.fresh1 {p : Addr} (hp : H p = none) (o : HO) : Le K H ι (upd H p o) (ι ++ [p]) where
 tup := (Le.fresh (ι := ι) hp o).tup
 fz := (Le.fresh (ι := ι) hp o).fz
 pre := ⟨[p], rfl⟩
 fr := (Le.fresh (K := K) (ι := ι) hp o).fr
 frame := fun a ob h n => ⟨by rw [Za0 (Za6 h hp)]; exact h, by
  have := Za6 h hp
  simp [n, this]⟩
theorem HRep.tup {Hd : HD} (h : HRep K H ι Hd) {p : Addr} (hp : H p = none) (o : HO) : HRep K (upd H p o) ι Hd :=
 h.keep (Lw.fresh hp o) fun a ha => Za0 fun z => by subst z; exact h.fresh hp ha
theorem HRep.new {Hd : HD} (h : HRep K H ι Hd) {p : Addr} (hp : H p = none) {u : HO} {o : DO} (ho : Zp2 K (upd H p u) (ι ++ [p]) p o) : HRep K (upd H p u) (ι ++ [p]) (Hd ++ [o]) := by
 have hf := h.fresh hp
 refine ⟨by simp [h.len], by simp only [List.nodup_append, h.nd, true_and]; exact ⟨by simp, fun a ha b hb e => hf (by simp at hb; rw [← hb, ← e]; exact ha)⟩, fun n a ob h1 h2 => ?_⟩
 by_cases hn : n < ι.length
 ·rw [List.getElem?_append_left hn] at h1
  rw [List.getElem?_append_left (by rw [← h.len]; exact hn)] at h2
  have ha : a ∈ ι := List.mem_of_getElem? h1
  exact (h.obj n a ob h1 h2).step (Le.fresh1 hp u).toLw (Za0 fun z => by subst z; exact hf ha)
 ·rw [List.getElem?_append_right (by omega)] at h1
  rw [List.getElem?_append_right (by rw [← h.len]; omega)] at h2
  rw [← h.len] at h2
  have : n - ι.length = 0 := by
   have := (List.getElem?_eq_some_iff.mp h1).1
   simp at this; omega
  rw [this] at h1 h2
  simp at h1 h2
  subst h1; subst h2
  exact ho
noncomputable def Zzo : HO -> Prop
 | .lst _ => True
 | .ext _ => True
 | .ins _ _ _ => True
 | _ => False
theorem Le.upd {a : Addr} (ha : a ∈ ι) {o : HO} (e : H a = some o) (lo : Zzo o) (u : HO) : Le K H ι (upd H a u) ι where
 tup := fun b xs h => by
  rcases h with (h | ⟨ob, h⟩) | h
  ·refine .inl (.inl ?_)
   rw [Za0 (Zl9 h e (by rintro rfl; exact lo))]; exact h
  ·refine .inl (.inr ⟨ob, ?_⟩)
   rw [Za0 (Zl9 h e (by rintro rfl; exact lo))]; exact h
  ·exact .inr h
 fz := fun b xs h => by
  rcases h with ⟨ob, h⟩ | h
  ·refine .inl ⟨ob, ?_⟩
   rw [Za0 (Zl9 h e (by rintro rfl; exact lo))]; exact h
  ·exact .inr h
 pre := ⟨[], by simp⟩
 fr := fun b ob w h => by rw [Za0 (Zl9 h e (by rintro rfl; exact lo))]; exact h
 frame := fun b ob h n => ⟨by rw [Za0 (by rintro rfl; exact n ha)]; exact h, n⟩
theorem HRep.upd {Hd : HD} (h : HRep K H ι Hd) {n : Nat} {a : Addr} (hn : ι[n]? = some a) {o u : HO} (e : H a = some o) (lo : Zzo o) {ob : DO} (ho : Zp2 K (upd H a u) ι a ob) : HRep K (upd H a u) ι (Hd.set n ob) := by
 refine ⟨by simp [h.len], h.nd, fun m b oc h1 h2 => ?_⟩
 by_cases hm : n = m
 ·subst hm
  rw [hn] at h1; cases h1
  rw [List.getElem?_set] at h2
  rw [if_pos rfl] at h2
  split at h2
  ·cases h2; exact ho
  ·cases h2
 ·rw [List.getElem?_set_ne hm] at h2
  have hb : b ≠ a := fun z => by
   subst z
   have l1 := (List.getElem?_eq_some_iff.mp hn).1
   exact hm ((List.getElem?_inj l1 h.nd).mp (hn.trans h1.symm))
  exact (h.obj m b oc h1 h2).step (Le.upd (List.mem_of_getElem? hn) e lo u).toLw (Za0 hb)
theorem HRep.add {Hd : HD} (h : HRep K H ι Hd) {p : Addr} (hp : p ∉ ι) {o : DO} (ho : Zp2 K H (ι ++ [p]) p o) : HRep K H (ι ++ [p]) (Hd ++ [o]) := by
 refine ⟨by simp [h.len], by simp only [List.nodup_append, h.nd, true_and]; exact ⟨by simp, fun a ha b hb e => hp (by simp at hb; rw [← hb, ← e]; exact ha)⟩, fun n a ob h1 h2 => ?_⟩
 by_cases hn : n < ι.length
 ·rw [List.getElem?_append_left hn] at h1
  rw [List.getElem?_append_left (by rw [← h.len]; exact hn)] at h2
  exact (h.obj n a ob h1 h2).step ⟨fun _ _ z => z, fun _ _ z => z, ⟨[p], rfl⟩, fun _ _ _ z => z⟩ rfl
 ·rw [List.getElem?_append_right (by omega)] at h1
  rw [List.getElem?_append_right (by rw [← h.len]; omega)] at h2
  rw [← h.len] at h2
  have : n - ι.length = 0 := by
   have := (List.getElem?_eq_some_iff.mp h1).1
   simp at this; omega
  rw [this] at h1 h2
  simp at h1 h2
  subst h1; subst h2
  exact ho
theorem Lw.side {p : Addr} {ys : List V} (hp : H p = some (.lst ys)) (u : HO) : Lw K H ι (L2.upd H p u) ι where
 tup := fun a xs h => by
  rcases h with (h | ⟨ob, h⟩) | h
  ·refine .inl (.inl ?_)
   rw [Za0 (Zl9 h hp (by intro z; cases z))]; exact h
  ·refine .inl (.inr ⟨ob, ?_⟩)
   rw [Za0 (Zl9 h hp (by intro z; cases z))]; exact h
  ·exact .inr h
 fz := fun a xs h => by
  rcases h with ⟨ob, h⟩ | h
  ·refine .inl ⟨ob, ?_⟩
   rw [Za0 (Zl9 h hp (by intro z; cases z))]; exact h
  ·exact .inr h
 pre := ⟨[], by simp⟩
 fr := fun a ob w h => by rw [Za0 (Zl9 h hp (by intro z; cases z))]; exact h
theorem Lw.trans {H1 H2 : Hp} {ι1 ι2 : List Addr} (a : Lw K H ι H1 ι1) (b : Lw K H1 ι1 H2 ι2) : Lw K H ι H2 ι2 := by
 refine ⟨fun x xs h => b.tup x xs (a.tup x xs h), fun x xs h => b.fz x xs (a.fz x xs h), ?_, fun x o u h => b.fr x o u (a.fr x o u h)⟩
 obtain ⟨t, e⟩ := a.pre
 obtain ⟨u, e'⟩ := b.pre
 exact ⟨t ++ u, by rw [e', e, List.append_assoc]⟩
theorem Le.side {H1 : Hp} {ι1 : List Addr} {p : Addr} {ys : List V} (l : Le K H ι H1 ι1) (h0 : H p = none) (h1 : H1 p = some (.lst ys)) (u : HO) : Le K H ι (L2.upd H1 p u) ι1 :=
 ⟨l.toLw.trans (Lw.side h1 u), fun a o h n => by
  obtain ⟨q, m⟩ := l.frame a o h n
  exact ⟨by rw [Za0 (Za6 h h0)]; exact q, m⟩⟩
structure SRep (K : PySem.W.Frag) (H : Hp) (ι : List Addr) (σ : L2.St) (σd : SD) : Prop where
 len : σ.length = σd.length
 var : ∀ (i : Nat) (d : D), σd[i]? = some (some d) -> ∃ v, σ[i]? = some (some v) ∧ Rep K H ι d v
theorem SRep.mono {σ : L2.St} {σd : SD} (s : SRep K H ι σ σd) (l : Le K H ι H' ι') : SRep K H' ι' σ σd :=
 ⟨s.len, fun i d h => let ⟨v, h1, h2⟩ := s.var i d h; ⟨v, h1, h2.mono l⟩⟩
theorem SRep.set {σ : L2.St} {σd : SD} {d : D} {v : V} (s : SRep K H ι σ σd) (r : Rep K H ι d v) (i : Nat) : SRep K H ι (σ.set i (some v)) (σd.set i (some d)) := by
 refine ⟨by simp [s.len], fun j e h => ?_⟩
 by_cases hj : i = j
 ·subst hj
  rw [List.getElem?_set] at h ⊢
  rw [if_pos rfl] at h ⊢
  split at h
  ·rename_i hl
   rw [if_pos (by rw [s.len]; exact hl)]
   cases h
   exact ⟨v, rfl, r⟩
  ·cases h
 ·rw [List.getElem?_set_ne hj] at h ⊢
  exact s.var j e h
end
noncomputable def Zox : Expr -> Bool
 | .Starred _ _ => false
 | _ => true
theorem Zco {e : Expr} {es : List Expr} {env : Env} (h : Zox e = true) : starEach (e :: es) env = (false, eval e env) :: starEach es env := by
 cases e <;> first | rfl | cases h
theorem Zdv {pos : Pos} {env : Env} : ∀ {es : List Expr}, es.all Zox = true -> (backTo pos (starEach es env)).any (·.1) = false
 | [], _ => rfl
 | e :: es, h => by
  rw [List.all_cons, Bool.and_eq_true] at h
  rw [Zco h.1]
  show (false || (backTo pos (starEach es env)).any (·.1)) = false
  rw [Zdv h.2]
  rfl
theorem Zor {pos : Pos} {env : Env} {es : List Expr} (h : es.all Zox = true) (hl : es.length < 30) : ((backTo pos (starEach es env)).all (fun x => !x.1) && (backToKw pos (keywordEach [] env)).all (fun x => x.1.isSome)
   && decide (es.length + ([] : List Keyword).length + (if ([] : List Keyword).isEmpty then 0 else 1) < 30)) = true := by
 have h1 := Zdv (pos := pos) (env := env) h
 have h2 : (backTo pos (starEach es env)).all (fun x => !x.1) = true := by
  rw [List.all_eq_true]
  intro x hx
  rw [List.any_eq_false] at h1
  have := h1 x hx
  simpa using this
 have h3 : decide (es.length + ([] : List Keyword).length + (if ([] : List Keyword).isEmpty then 0 else 1) < 30) = true := by
  rw [decide_eq_true_eq]
  simpa using hl
 rw [h2, h3]
 rfl
noncomputable abbrev EF := SD -> HD -> Option (D × HD)
noncomputable abbrev TF := SD -> HD -> Option (Bool × HD)
noncomputable abbrev AF := SD -> HD -> Option (List D × HD)
inductive FD where
 | nx | bk | ct | rt (d : D)
noncomputable abbrev SF := SD -> HD -> Option (FD × SD × HD)
noncomputable abbrev GF := D -> SD -> HD -> Option (SD × HD)
noncomputable abbrev FF := List D -> HD -> Option (D × HD)
noncomputable abbrev F2 := D -> D -> HD -> Option (D × HD)
noncomputable def QE (K : PySem.W.Frag) (H : Hp) (ι : List Addr) (d : D) (Hd' : HD) (Q : VK) : Prop := ∀ v H' ι', Le K H ι H' ι' -> HRep K H' ι' Hd' -> Rep K H' ι' d v -> Q v H'
noncomputable def rdE (K : PySem.W.Frag) (f : EF) : TE := fun σ H Q => ∃ ι σd Hd d Hd', SRep K H ι σ σd ∧ HRep K H ι Hd ∧ f σd Hd = some (d, Hd') ∧ QE K H ι d Hd' Q
noncomputable def rdT (K : PySem.W.Frag) (f : TF) : TT := fun σ H Q => ∃ ι σd Hd b Hd', SRep K H ι σ σd ∧ HRep K H ι Hd ∧ f σd Hd = some (b, Hd') ∧ ∀ H' ι', Le K H ι H' ι' -> HRep K H' ι' Hd' -> Q b H'
noncomputable def rdA (K : PySem.W.Frag) (f : AF) : TA := fun σ H Q => ∃ ι σd Hd ds Hd', SRep K H ι σ σd ∧ HRep K H ι Hd ∧ f σd Hd = some (ds, Hd') ∧ ∀ vs H' ι', Le K H ι H' ι' -> HRep K H' ι' Hd' -> Paired (Rep K H' ι') ds vs -> Q vs H'
noncomputable def QS (K : PySem.W.Frag) (H : Hp) (ι : List Addr) (fl : FD) (σd' : SD) (Hd' : HD) (E : Ends) : Prop := ∀ σ' H' ι', Le K H ι H' ι' -> HRep K H' ι' Hd' -> SRep K H' ι' σ' σd' →
 match fl with
 | .nx => E.nx σ' H'
 | .bk => E.bk σ' H'
 | .ct => E.ct σ' H'
 | .rt d => ∀ v, Rep K H' ι' d v -> E.rt v H'
noncomputable def rdS (K : PySem.W.Frag) (f : SF) : TS := fun E σ H => ∃ ι σd Hd fl σd' Hd', SRep K H ι σ σd ∧ HRep K H ι Hd ∧ f σd Hd = some (fl, σd', Hd') ∧ QS K H ι fl σd' Hd' E
noncomputable def rdG (K : PySem.W.Frag) (g : GF) : TG := fun v σ H Q => ∃ ι σd Hd d σd' Hd', SRep K H ι σ σd ∧ HRep K H ι Hd ∧ Rep K H ι d v ∧ g d σd Hd = some (σd', Hd') ∧
 ∀ σ' H' ι', Le K H ι H' ι' -> HRep K H' ι' Hd' -> SRep K H' ι' σ' σd' -> Q σ' H'
noncomputable def rd2 (K : PySem.W.Frag) (g : F2) : R2 := fun x y H Q => ∃ ι dx dy Hd d Hd', HRep K H ι Hd ∧ Rep K H ι dx x ∧ Rep K H ι dy y ∧ g dx dy Hd = some (d, Hd') ∧ QE K H ι d Hd' Q
noncomputable def rd1 (K : PySem.W.Frag) (g : D -> HD -> Option (D × HD)) : V -> Hp -> VK -> Prop := fun x H Q => ∃ ι dx Hd d Hd', HRep K H ι Hd ∧ Rep K H ι dx x ∧ g dx Hd = some (d, Hd') ∧ QE K H ι d Hd' Q
noncomputable def rdC (K : PySem.W.Frag) (g : FF) : List V -> Hp -> VK -> Prop := fun vs H Q => ∃ ι ds Hd d Hd', HRep K H ι Hd ∧ Paired (Rep K H ι) ds vs ∧ g ds Hd = some (d, Hd') ∧ QE K H ι d Hd' Q
noncomputable def rdM (K : PySem.W.Frag) (g : D -> List D -> HD -> Option (D × HD)) : V -> List V -> Hp -> VK -> Prop := fun v vs H Q => ∃ ι x ds Hd d Hd', HRep K H ι Hd ∧ Rep K H ι x v ∧ Paired (Rep K H ι) ds vs ∧ g x ds Hd = some (d, Hd') ∧ QE K H ι d Hd' Q
noncomputable def PEf (X : Cx) (e : Expr) (f : EF) : Prop := PE X e (rdE X.K f)
noncomputable def PTf (X : Cx) (e : Expr) (f : TF) : Prop := PT X e (rdT X.K f)
noncomputable def PWf (X : Cx) (e : Expr) (f : TF) : Prop := PW X e (rdT X.K f)
noncomputable def PAf (X : Cx) (es : List Expr) (f : AF) : Prop := PA X es (rdA X.K f)
noncomputable def PSf (X : Cx) (st : Stmt) (f : SF) : Prop := PS X st (rdS X.K f)
noncomputable def Zpy (X : Cx) (st : List Stmt) (f : SF) : Prop := PSs X st (rdS X.K f)
noncomputable def PGf (X : Cx) (tg : Expr) (g : GF) : Prop := PG X tg (rdG X.K g)
noncomputable def OpF (X : Cx) (f : Value -> Value -> Sem Value) (g : F2) : Prop := OpR X f (rd2 X.K g)
noncomputable def UnF (X : Cx) (f : Value -> Sem Value) (g : D -> HD -> Option (D × HD)) : Prop := UnR X f (rd1 X.K g)
noncomputable def Zh0 (X : Cx) (f : Value) (g : FF) : Prop := Zh8 X f (rdC X.K g)
noncomputable def IxF (X : Cx) (g : F2) : Prop := IxR X (rd2 X.K g)
noncomputable def MtF (X : Cx) (id : String) (g : D -> List D -> HD -> Option (D × HD)) : Prop := MtR X id (rdM X.K g)
section
variable {X : Cx} {e a b c : Expr} {es : List Expr} {pos : Pos} {st : Stmt} {sts : List Stmt}
theorem PEi {t t' : TE} (h : PE X e t) (i : ∀ σ H Q, t' σ H Q -> t σ H Q) : PE X e t' := fun pins s σ H Q I q => h pins s σ H Q I (i σ H Q q)
theorem PTi {t t' : TT} (h : PT X e t) (i : ∀ σ H Q, t' σ H Q -> t σ H Q) : PT X e t' := fun pins s σ H Q I q => h pins s σ H Q I (i σ H Q q)
theorem PWi {t t' : TT} (h : PW X e t) (i : ∀ σ H Q, t' σ H Q -> t σ H Q) : PW X e t' := fun wh pins s σ H Q I q => h wh pins s σ H Q I (i σ H Q q)
theorem PAi {t t' : TA} (h : PA X es t) (i : ∀ σ H Q, t' σ H Q -> t σ H Q) : PA X es t' := fun ps pins s σ H Q I q => h ps pins s σ H Q I (i σ H Q q)
theorem PSi {t t' : TS} (h : PS X st t) (i : ∀ E σ H, t' E σ H -> t E σ H) : PS X st t' := fun pins s σ H E I q => h pins s σ H E I (i E σ H q)
theorem PSsi {t t' : TS} (h : PSs X sts t) (i : ∀ E σ H, t' E σ H -> t E σ H) : PSs X sts t' := fun pins s σ H E I q => h pins s σ H E I (i E σ H q)
theorem PGi {t t' : TG} (h : PG X e t) (i : ∀ v σ H Q, t' v σ H Q -> t v σ H Q) : PG X e t' := fun pins s σ H v u Q I r q => h pins s σ H v u Q I r (i v σ H Q q)
theorem OpRi {f : Value -> Value -> Sem Value} {t t' : R2} (h : OpR X f t) (i : ∀ x y H Q, t' x y H Q -> t x y H Q) : OpR X f t' := fun pins s σ H x y v u Q I r1 r2 q => h pins s σ H x y v u Q I r1 r2 (i x y H Q q)
noncomputable def Zae (i : Nat) : EF := fun σ H => (σ[i]?).join.map fun d => (d, H)
noncomputable def eC (d : D) : EF := fun _ H => some (d, H)
theorem Zaa {i : Nat} {x : Str} (h : PE X (.Name x pos) (tVar i)) : PEf X (.Name x pos) (Zae i) := by
 refine PEi h fun σ H Q zz => ?_
 obtain ⟨ι, σd, Hd, d, Hd', s, hr, e, q⟩ := zz
 unfold Zae at e
 cases hx : σd[i]? with
 | none => rw [hx] at e; cases e
 | some o =>
  cases o with
  | none => rw [hx] at e; cases e
  | some d0 =>
   rw [hx] at e
   have e' : (d0, Hd) = (d, Hd') := Option.some.inj e
   obtain ⟨rfl, rfl⟩ := Prod.mk.inj e'
   obtain ⟨v, h1, h2⟩ := s.var i d0 hx
   exact ⟨v, h1, q v H ι Le.refl hr h2⟩
theorem Zo7 {v : V} {d : D} (h : PE X e (tC v)) (r : ∀ H ι, Rep X.K H ι d v) : PEf X e (eC d) := by
 refine PEi h fun σ H Q zz => ?_
 obtain ⟨ι, σd, Hd, d', Hd', s, hr, e, q⟩ := zz
 cases e
 exact q v H ι Le.refl hr (r H ι)
theorem Zah {i j} : PEf X (.Constant (.int i) j pos) (eC (.int i)) := Zo7 Zum fun _ _ => by simp
theorem Zdo {b j} : PEf X (.Constant (.bool b) j pos) (eC (.bl b)) := Zo7 pe_bl fun _ _ => by simp
theorem Zg8 {j} : PEf X (.Constant .none j pos) (eC .non) := Zo7 Zz9 fun _ _ => by simp
theorem Zci {x j} : PEf X (.Constant (.str x) j pos) (eC (.str x)) := Zo7 Zzh fun _ _ => by simp
theorem Zrt {x : Str} {n : String} (hg : Gl X x) (hm : X.mg x = none) (hv : bootBuiltins x = some (.type n)) (hn : x ≠ "__name__" := by decide) (hd : (x == ("__debug__" : Str)) = false := by decide) : PEf X (.Name x pos) (eC (.ty n)) :=
 Zo7 (Zw8 (v := .ty n) hg hm hv rfl hn hd) fun _ _ => by simp
noncomputable def eOp (g : F2) (fa fb : EF) : EF := fun σ H => (fa σ H).bind fun p => (fb σ p.2).bind fun q => g p.1 q.1 q.2
theorem Zts {fa fb : EF} {g : F2} {σ : L2.St} {H : Hp} {Q : VK} {K : PySem.W.Frag} (h : rdE K (eOp g fa fb) σ H Q) : tOp (rd2 K g) (rdE K fa) (rdE K fb) σ H Q := by
 obtain ⟨ι, σd, Hd, d, Hd', s, hr, e, q⟩ := h
 obtain ⟨⟨x, H1⟩, e1, e⟩ := Zo e
 obtain ⟨⟨y, H2⟩, e2, e⟩ := Zo e
 exact ⟨ι, σd, Hd, x, H1, s, hr, e1, fun v1 H1' ι1 l1 h1 r1 => ⟨ι1, σd, H1, y, H2, s.mono l1, h1, e2, fun v2 H2' ι2 l2 h2 r2 =>
  ⟨ι2, x, y, H2, d, Hd', h2, r1.mono l2, r2, e, fun v H' ι' l h r => q v H' ι' ((l1.trans l2).trans l) h r⟩⟩⟩
theorem Za3 {op : Operator} {g : F2} {fa fb : EF} (ho : OpF X (binaryOp op) g) (ha : PEf X a fa) (hb : PEf X b fb) : PEf X (.BinOp a op b pos) (eOp g fa fb) :=
 PEi (pe_op ho ha hb) fun _ _ _ h => Zts h
theorem Zcx {op : CmpOp} {g : F2} {fa fb : EF} (ho : OpF X (compareOp op) g) (ha : PEf X a fa) (hb : PEf X b fb) (hm : behindInMarks op b = false) : PEf X (.Compare a [op] [b] pos) (eOp g fa fb) :=
 PEi (Zvu ho ha hb hm) fun _ _ _ h => Zts h
theorem Zay {g : F2} {fa fb : EF} (ho : IxF X g) (ha : PEf X a fa) (hb : PEf X b fb) (hs : Zp5 b) : PEf X (.Subscript a b pos) (eOp g fa fb) :=
 PEi (pe_ix ho ha hb hs) fun _ _ _ h => Zts h
noncomputable def eUn (g : D -> HD -> Option (D × HD)) (fa : EF) : EF := fun σ H => (fa σ H).bind fun p => g p.1 p.2
theorem Zmi {op : UnaryOp} {g : D -> HD -> Option (D × HD)} {fa : EF} (ho : UnF X (unaryOp op) g) (ha : PEf X a fa) : PEf X (.UnaryOp op a pos) (eUn g fa) := by
 refine PEi (pe_un ho ha) fun σ H Q zz => ?_
 obtain ⟨ι, σd, Hd, d, Hd', s, hr, e, q⟩ := zz
 obtain ⟨⟨x, H1⟩, e1, e⟩ := Zo e
 exact ⟨ι, σd, Hd, x, H1, s, hr, e1, fun v1 H1' ι1 l1 h1 r1 => ⟨ι1, x, H1, d, Hd', h1, r1, e, fun v H' ι' l h r => q v H' ι' (l1.trans l) h r⟩⟩
noncomputable def blD : D -> Option Bool
 | .bl b => some b
 | _ => none
noncomputable def tOf (f : EF) : TF := fun σ H => (f σ H).bind fun p => (blD p.1).map fun b => (b, p.2)
theorem Zjz {K : PySem.W.Frag} {H : Hp} {ι : List Addr} {d : D} {b : Bool} {v : V} (e : blD d = some b) (r : Rep K H ι d v) : v = .bl b := by
 cases d <;> simp [blD] at e
 subst e
 simpa using r
theorem Zar {op : CmpOp} {g : F2} {fa fb : EF} (ho : OpF X (compareOp op) g) (ha : PEf X a fa) (hb : PEf X b fb) (hm : behindInMarks op b = false) : PTf X (.Compare a [op] [b] pos) (tOf (eOp g fa fb)) := by
 refine PTi (Zvo ho ha hb hm) fun σ H Q zz => ?_
 obtain ⟨ι, σd, Hd, bb, Hd', s, hr, e, q⟩ := zz
 obtain ⟨⟨x, H1⟩, e1, e⟩ := Zo e
 obtain ⟨b', eb, e⟩ := Zm e
 cases e
 exact Zts ⟨ι, σd, Hd, x, H1, s, hr, e1, fun v H' ι' l h r => ⟨bb, Zjz eb r, q H' ι' l h⟩⟩
noncomputable def Zr6 : D -> HD -> Option Bool
 | .non, _ => some false
 | .bl b, _ => some b
 | .int i, _ => some (i != 0)
 | .tup xs, _ => some (!xs.isEmpty)
 | .fl xs, _ => some (!xs.isEmpty)
 | .str x, _ => if x.length ≤ sizeLine then some ((x.length : Int) != 0) else none
 | .ref n, H => match H[n]? with
  | some (.lst xs) => some (!xs.isEmpty)
  | _ => none
 | _, _ => none
theorem Zie {α β : Type} {F : α -> β -> Prop} {xs : List α} {us : List β} (r : Paired F xs us) : (!us.isEmpty) = !xs.isEmpty := by cases r <;> rfl
theorem Zw4 {K : PySem.W.Frag} {H : Hp} {ι : List Addr} {Hd : HD} {d : D} {k : Bool} {v : V} (hr : HRep K H ι Hd) (r : Rep K H ι d v) (e : Zr6 d Hd = some k) : TruV K v H k := by
 cases d with
 | non => simp at r; subst r; simp [Zr6] at e; subst e; exact rfl
 | bl b => simp at r; subst r; simp [Zr6] at e; subst e; exact rfl
 | int i => simp at r; subst r; simp [Zr6] at e; subst e; exact rfl
 | ty n => simp [Zr6] at e
 | str x =>
  simp at r; subst r
  simp only [Zr6] at e
  split at e
  ·rename_i hl
   cases e
   exact ⟨hl, rfl⟩
  ·cases e
 | tup xs =>
  obtain ⟨ad, vs, rfl, h, p⟩ := Zb3.mp r
  cases (show some (!xs.isEmpty) = some k from e)
  exact .inr (.inl ⟨vs, h, by rw [Zie p]⟩)
 | fl xs =>
  obtain ⟨ad, vs, rfl, h, p⟩ := Zf9.mp r
  cases (show some (!xs.isEmpty) = some k from e)
  exact .inl ⟨vs, h.sq, by rw [Zie p]⟩
 | ref n =>
  obtain ⟨ad, rfl, h⟩ := Za8.mp r
  simp only [Zr6] at e
  split at e
  ·rename_i xs ho
   cases e
   obtain ⟨vs, h1, p⟩ := hr.obj n ad _ h ho
   exact .inl ⟨vs, SqL.of h1, by rw [Zie p]⟩
  ·cases e
noncomputable def Zja (f : EF) : TF := fun σ H => (f σ H).bind fun p => (Zr6 p.1 p.2).map fun b => (b, p.2)
theorem Zce {fa : EF} (ha : PEf X a fa) (he : ∀ whole, isTrue a X.env whole = (do let v ← whole; standAt a.pos; holding [v] (truthy v))) : PTf X a (Zja fa) := by
 refine PTi (Zs7 ha he) fun σ H Q zz => ?_
 obtain ⟨ι, σd, Hd, bb, Hd', s, hr, e, q⟩ := zz
 obtain ⟨⟨x, H1⟩, e1, e⟩ := Zo e
 obtain ⟨b', eb, e⟩ := Zm e
 cases e
 exact ⟨ι, σd, Hd, x, H1, s, hr, e1, fun v H' ι' l h r => ⟨bb, Zw4 h r eb, q H' ι' l h⟩⟩
noncomputable def tNo (t : TF) : TF := fun σ H => (t σ H).map fun p => (!p.1, p.2)
noncomputable def tAn (t u : TF) : TF := fun σ H => (t σ H).bind fun p => if p.1 = true then u σ p.2 else some (false, p.2)
noncomputable def Zmu (t u : TF) : TF := fun σ H => (t σ H).bind fun p => if p.1 = true then some (true, p.2) else u σ p.2
theorem Zg6 {t : TF} (h : PTf X a t) : PTf X (.UnaryOp .Not a pos) (tNo t) := by
 refine PTi (Zy9 h) fun σ H Q zz => ?_
 obtain ⟨ι, σd, Hd, bb, Hd', s, hr, e, q⟩ := zz
 obtain ⟨⟨x, H1⟩, e1, e⟩ := Zm e
 cases e
 exact ⟨ι, σd, Hd, x, H1, s, hr, e1, fun H' ι' l h => q H' ι' l h⟩
theorem Zk6 {t : TF} (h : PTf X a t) : PWf X (.BoolOp .And [a] pos) t := Zvk h
theorem Zgi {t : TF} (h : PTf X a t) : PWf X (.BoolOp .Or [a] pos) t := Zyn h
theorem Znl {t u : TF} (h : PTf X a t) (h2 : PWf X (.BoolOp .And (b :: es) pos) u) : PWf X (.BoolOp .And (a :: b :: es) pos) (tAn t u) := by
 refine PWi (Zyk h h2) fun σ H Q zz => ?_
 obtain ⟨ι, σd, Hd, bb, Hd', s, hr, e, q⟩ := zz
 obtain ⟨⟨x, H1⟩, e1, e⟩ := Zo e
 refine ⟨ι, σd, Hd, x, H1, s, hr, e1, fun H' ι' l h => ?_⟩
 cases x with
 | true =>
  rw [if_pos rfl]
  exact ⟨ι', σd, H1, bb, Hd', s.mono l, h, by simpa using e, fun H2 ι2 l2 h2 => q H2 ι2 (l.trans l2) h2⟩
 | false =>
  rw [if_neg (by simp)]
  simp at e
  obtain ⟨rfl, rfl⟩ := e
  exact q H' ι' l h
theorem Zg0 {t u : TF} (h : PTf X a t) (h2 : PWf X (.BoolOp .Or (b :: es) pos) u) : PWf X (.BoolOp .Or (a :: b :: es) pos) (Zmu t u) := by
 refine PWi (pw_or h h2) fun σ H Q zz => ?_
 obtain ⟨ι, σd, Hd, bb, Hd', s, hr, e, q⟩ := zz
 obtain ⟨⟨x, H1⟩, e1, e⟩ := Zo e
 refine ⟨ι, σd, Hd, x, H1, s, hr, e1, fun H' ι' l h => ?_⟩
 cases x with
 | true =>
  rw [if_pos rfl]
  simp at e
  obtain ⟨rfl, rfl⟩ := e
  exact q H' ι' l h
 | false =>
  rw [if_neg (by simp)]
  exact ⟨ι', σd, H1, bb, Hd', s.mono l, h, by simpa using e, fun H2 ι2 l2 h2 => q H2 ι2 (l.trans l2) h2⟩
theorem PWf.pt {t : TF} (h : PWf X a t) : PTf X a t := h _
noncomputable def eNo (f : EF) : EF := fun σ H => (f σ H).bind fun p => (blD p.1).map fun b => (.bl (!b), p.2)
noncomputable def eAn (f g : EF) : EF := fun σ H => (f σ H).bind fun p => (blD p.1).bind fun b => if b = true then g σ p.2 else some (.bl false, p.2)
noncomputable def eOrr (f g : EF) : EF := fun σ H => (f σ H).bind fun p => (blD p.1).bind fun b => if b = true then some (.bl true, p.2) else g σ p.2
noncomputable def eIf (t : TF) (f g : EF) : EF := fun σ H => (t σ H).bind fun p => if p.1 = true then f σ p.2 else g σ p.2
theorem Znt {f : EF} (h : PEf X a f) : PEf X (.UnaryOp .Not a pos) (eNo f) := by
 refine PEi (Zy2 h) fun σ H Q zz => ?_
 obtain ⟨ι, σd, Hd, d, Hd', s, hr, e, q⟩ := zz
 obtain ⟨⟨x, H1⟩, e1, e⟩ := Zo e
 obtain ⟨b', eb, e⟩ := Zm e
 cases e
 exact ⟨ι, σd, Hd, x, H1, s, hr, e1, fun v H' ι' l h r => ⟨b', Zjz eb r, q _ H' ι' l h (by simp)⟩⟩
theorem Zgl {op} {f : EF} (h : PEf X a f) : PEf X (.BoolOp op [a] pos) f := Zy8 h
theorem Zga {f g : EF} (h : PEf X a f) (h2 : PEf X (.BoolOp .And (b :: es) pos) g) : PEf X (.BoolOp .And (a :: b :: es) pos) (eAn f g) := by
 refine PEi (Zx7 h h2) fun σ H Q zz => ?_
 obtain ⟨ι, σd, Hd, d, Hd', s, hr, e, q⟩ := zz
 obtain ⟨⟨x, H1⟩, e1, e⟩ := Zo e
 obtain ⟨b', eb, e⟩ := Zo e
 refine ⟨ι, σd, Hd, x, H1, s, hr, e1, fun v H' ι' l h r => ⟨b', Zjz eb r, ?_⟩⟩
 cases b' with
 | true =>
  rw [if_pos rfl]
  exact ⟨ι', σd, H1, d, Hd', s.mono l, h, by simpa using e, fun v2 H2 ι2 l2 h2 r2 => q v2 H2 ι2 (l.trans l2) h2 r2⟩
 | false =>
  rw [if_neg (by simp)]
  simp at e
  obtain ⟨rfl, rfl⟩ := e
  exact q _ H' ι' l h (by simp)
theorem Zx3 {f g : EF} (h : PEf X a f) (h2 : PEf X (.BoolOp .Or (b :: es) pos) g) : PEf X (.BoolOp .Or (a :: b :: es) pos) (eOrr f g) := by
 refine PEi (pe_or h h2) fun σ H Q zz => ?_
 obtain ⟨ι, σd, Hd, d, Hd', s, hr, e, q⟩ := zz
 obtain ⟨⟨x, H1⟩, e1, e⟩ := Zo e
 obtain ⟨b', eb, e⟩ := Zo e
 refine ⟨ι, σd, Hd, x, H1, s, hr, e1, fun v H' ι' l h r => ⟨b', Zjz eb r, ?_⟩⟩
 cases b' with
 | true =>
  rw [if_pos rfl]
  simp at e
  obtain ⟨rfl, rfl⟩ := e
  exact q _ H' ι' l h (by simp)
 | false =>
  rw [if_neg (by simp)]
  exact ⟨ι', σd, H1, d, Hd', s.mono l, h, by simpa using e, fun v2 H2 ι2 l2 h2 r2 => q v2 H2 ι2 (l.trans l2) h2 r2⟩
theorem Zjo {t : TF} {f g : EF} (hc : PTf X c t) (ha : PEf X a f) (hb : PEf X b g) : PEf X (.IfExp c a b pos) (eIf t f g) := by
 refine PEi (Zt2 hc ha hb) fun σ H Q zz => ?_
 obtain ⟨ι, σd, Hd, d, Hd', s, hr, e, q⟩ := zz
 obtain ⟨⟨x, H1⟩, e1, e⟩ := Zo e
 refine ⟨ι, σd, Hd, x, H1, s, hr, e1, fun H' ι' l h => ?_⟩
 cases x with
 | true =>
  rw [if_pos rfl]
  exact ⟨ι', σd, H1, d, Hd', s.mono l, h, by simpa using e, fun v2 H2 ι2 l2 h2 r2 => q v2 H2 ι2 (l.trans l2) h2 r2⟩
 | false =>
  rw [if_neg (by simp)]
  exact ⟨ι', σd, H1, d, Hd', s.mono l, h, by simpa using e, fun v2 H2 ι2 l2 h2 r2 => q v2 H2 ι2 (l.trans l2) h2 r2⟩
noncomputable def Zaj : AF := fun _ H => some ([], H)
noncomputable def Zab (f : EF) (g : AF) : AF := fun σ H => (f σ H).bind fun p => (g σ p.2).map fun q => (p.1 :: q.1, q.2)
theorem Zad : PAf X [] Zaj := by
 refine PAi Zu5 fun σ H Q zz => ?_
 obtain ⟨ι, σd, Hd, d, Hd', s, hr, e, q⟩ := zz
 cases e
 exact q [] H ι Le.refl hr .nil
theorem Zte {f : EF} {g : AF} (ha : PEf X e f) (hr : PAf X es g) (hs : starEach (e :: es) X.env = (false, eval e X.env) :: starEach es X.env := by exact Zco rfl) : PAf X (e :: es) (Zab f g) := by
 refine PAi (Zq2 ha hr hs) fun σ H Q zz => ?_
 obtain ⟨ι, σd, Hd, d, Hd', s, hr, e, q⟩ := zz
 obtain ⟨⟨x, H1⟩, e1, e⟩ := Zo e
 obtain ⟨⟨y, H2⟩, e2, e⟩ := Zm e
 cases e
 exact ⟨ι, σd, Hd, x, H1, s, hr, e1, fun v1 H1' ι1 l1 h1 r1 => ⟨ι1, σd, H1, y, H2, s.mono l1, h1, e2, fun vs H2' ι2 l2 h2 r2 => q _ H2' ι2 (l1.trans l2) h2 (.cons (r1.mono l2) r2)⟩⟩
noncomputable def mkT (xs : List D) (H : HD) : Option (D × HD) := if xs.length ≤ sizeLine then some (.tup xs, H) else none
noncomputable def mkL (xs : List D) (H : HD) : Option (D × HD) := if xs.length ≤ sizeLine then some (.ref H.length, H ++ [.lst xs]) else none
theorem Zh5 {xs : List D} {H : HD} {r : D × HD} (h : mkT xs H = some r) : xs.length ≤ sizeLine ∧ r = (.tup xs, H) := by
 unfold mkT at h
 split at h
 ·rename_i hl; cases h; exact ⟨hl, rfl⟩
 ·cases h
theorem Zkc {xs : List D} {H : HD} {r : D × HD} (h : mkL xs H = some r) : xs.length ≤ sizeLine ∧ r = (.ref H.length, H ++ [.lst xs]) := by
 unfold mkL at h
 split at h
 ·rename_i hl; cases h; exact ⟨hl, rfl⟩
 ·cases h
theorem Zio {K : PySem.W.Frag} {H : Hp} {ι : List Addr} {Hd Hd' : HD} {xs : List D} {vs : List V} {d : D} {Q : VK} (hr : HRep K H ι Hd) (r : Paired (Rep K H ι) xs vs) (e : mkT xs Hd = some (d, Hd')) (q : QE K H ι d Hd' Q) :
  vs.length ≤ sizeLine ∧ ∀ p, H p = none -> Q (.ref p) (upd H p (.tup vs)) := by
 obtain ⟨hl, e⟩ := Zh5 e
 cases e
 refine ⟨by rw [← Prd.len r]; exact hl, fun p hp => ?_⟩
 exact q _ _ ι (Le.fresh hp _) (hr.tup hp _) (Zb3.mpr ⟨p, vs, rfl, SqT.of Zbi, Prd.mono (Le.fresh hp _) r⟩)
theorem Zgb {K : PySem.W.Frag} {H : Hp} {ι : List Addr} {Hd Hd' : HD} {xs : List D} {vs : List V} {d : D} {Q : VK} (hr : HRep K H ι Hd) (r : Paired (Rep K H ι) xs vs) (e : mkL xs Hd = some (d, Hd')) (q : QE K H ι d Hd' Q) :
  vs.length ≤ sizeLine ∧ ∀ p, H p = none -> Q (.ref p) (upd H p (.lst vs)) := by
 obtain ⟨hl, e⟩ := Zkc e
 cases e
 refine ⟨by rw [← Prd.len r]; exact hl, fun p hp => ?_⟩
 refine q _ _ (ι ++ [p]) (Le.fresh1 hp _) (hr.new hp ⟨vs, Zbi, Prd.mono (Le.fresh1 hp _) r⟩) (Za8.mpr ⟨p, rfl, ?_⟩)
 rw [← hr.len]; simp
noncomputable def Zgp (f : AF) : EF := fun σ H => (f σ H).bind fun p => mkT p.1 p.2
noncomputable def Zdn (f : AF) : EF := fun σ H => (f σ H).bind fun p => mkL p.1 p.2
theorem Zct {f : AF} {x1} (h : PAf X es f) : PEf X (.Tuple es x1 pos) (Zgp f) := by
 refine PEi (Zzc h) fun σ H Q zz => ?_
 obtain ⟨ι, σd, Hd, d, Hd', s, hr, e, q⟩ := zz
 obtain ⟨⟨x, H1⟩, e1, e⟩ := Zo e
 exact ⟨ι, σd, Hd, x, H1, s, hr, e1, fun vs H' ι' l h r => Zio h r e fun v2 H2 ι2 l2 h2 r2 => q v2 H2 ι2 (l.trans l2) h2 r2⟩
theorem Zb7 {f : AF} (h : PAf X es f) : PEf X (.List es pos) (Zdn f) := by
 refine PEi (Zzf h) fun σ H Q zz => ?_
 obtain ⟨ι, σd, Hd, d, Hd', s, hr, e, q⟩ := zz
 obtain ⟨⟨x, H1⟩, e1, e⟩ := Zo e
 exact ⟨ι, σd, Hd, x, H1, s, hr, e1, fun vs H' ι' l h r => Zgb h r e fun v2 H2 ι2 l2 h2 r2 => q v2 H2 ι2 (l.trans l2) h2 r2⟩
noncomputable def eCB (g : FF) (f : AF) : EF := fun σ H => (f σ H).bind fun p => g p.1 p.2
theorem Zyo {f : AF} {g : FF} {σ : L2.St} {H : Hp} {Q : VK} {K : PySem.W.Frag} (h : rdE K (eCB g f) σ H Q) : tCB (rdC K g) (rdA K f) σ H Q := by
 obtain ⟨ι, σd, Hd, d, Hd', s, hr, e, q⟩ := h
 obtain ⟨⟨x, H1⟩, e1, e⟩ := Zo e
 exact ⟨ι, σd, Hd, x, H1, s, hr, e1, fun vs H' ι' l h r => ⟨ι', x, H1, d, Hd', h, r, e, fun v2 H2 ι2 l2 h2 r2 => q v2 H2 ι2 (l.trans l2) h2 r2⟩⟩
theorem Zaq {x : Str} {id : String} {g : FF} {f : AF} {p : Pos} (hc : Zh0 X (.builtin id) g) (hg : Gl X x) (hm : X.mg x = none) (hv : bootBuiltins x = some (.builtin id)) (ha : PAf X (e :: es) f) (hn : x ≠ "__name__" := by decide) (hdb : (x == ("__debug__" : Str)) = false := by decide)
  (he : starEach (e :: es) X.env = (false, eval e X.env) :: starEach es X.env := by exact Zco rfl) (hpl : (backTo pos (starEach es X.env)).any (·.1) = false := by exact Zdv rfl) : PEf X (.Call (.Name x p) (e :: es) [] pos) (eCB g f) :=
 PEi (Zuf hc hg hm hv ha hn hdb he hpl) fun _ _ _ h => Zyo h
theorem Zdb {x : Str} {T : String} {g : FF} {f : AF} {p : Pos} (hc : Zh0 X (.type T) g) (hg : Gl X x) (hm : X.mg x = none) (hv : bootBuiltins x = some (.type T)) (ha : PAf X (e :: es) f) (hn : x ≠ "__name__" := by decide) (hdb : (x == ("__debug__" : Str)) = false := by decide)
  (he : starEach (e :: es) X.env = (false, eval e X.env) :: starEach es X.env := by exact Zco rfl) (hpl : (backTo pos (starEach es X.env)).any (·.1) = false := by exact Zdv rfl) : PEf X (.Call (.Name x p) (e :: es) [] pos) (eCB g f) :=
 PEi (Zmr hc hg hm hv ha hn hdb he hpl) fun _ _ _ h => Zyo h
noncomputable def spF (K : PySem.W.Frag) (n : Nat) (F : FF) : Sp := fun vs H Q _ => ∃ ι ds Hd d Hd', ds.length = n ∧ HRep K H ι Hd ∧ Paired (Rep K H ι) ds vs ∧ F ds Hd = some (d, Hd') ∧ QE K H ι d Hd' Q
noncomputable def Zal (n : Nat) (F : FF) (f : AF) : EF := fun σ H => (f σ H).bind fun p => if p.1.length = n then F p.1 p.2 else none
theorem Zth {k n : Nat} {f : Addr} {fd : FuncData} {ps : List Str} {x : Str} {p : Pos} {F : FF} {fa : AF} (G : FnOk X.prog X.w X.K X.mg X.base CX0 k f fd ps (spF X.K n F)) (hr : Room k X.A) (hg : Gl X x) (hm : X.mg x = some (.ref f)) (hk : PySem.W.keepIn X.K (.ref f) = true)
  (hb : Zhf X.K fd ps []) (ha : PAf X (e :: es) fa) (hdb : (x == ("__debug__" : Str)) = false := by decide) (he : starEach (e :: es) X.env = (false, eval e X.env) :: starEach es X.env := by exact Zco rfl) (hpl : (backTo pos (starEach es X.env)).any (·.1) = false := by exact Zdv rfl) :
  PEf X (.Call (.Name x p) (e :: es) [] pos) (Zal n F fa) := by
 refine PEi (Zxh (E := E0) G hr hg hm hk hb .nil Ztv ha hdb he hpl) fun σ H Q zz => ?_
 obtain ⟨ι, σd, Hd, d, Hd', s, hr, e, q⟩ := zz
 obtain ⟨⟨x, H1⟩, e1, e⟩ := Zo e
 refine ⟨ι, σd, Hd, x, H1, s, hr, e1, fun vs H' ι' l h r => ?_⟩
 dsimp only at e
 split at e
 ·rename_i hl
  exact ⟨ι', x, H1, d, Hd', hl, h, by simpa using r, e, fun v2 H2 ι2 l2 h2 r2 => q v2 H2 ι2 (l.trans l2) h2 r2⟩
 ·cases e
noncomputable def Zkq : D -> HD -> Bool
 | .ref n, H => match H[n]? with
  | some (.lst _) => true
  | _ => false
 | _, _ => false
theorem Zue {K : PySem.W.Frag} {H : Hp} {ι : List Addr} {Hd : HD} {d : D} {v : V} (hr : HRep K H ι Hd) (r : Rep K H ι d v) (e : Zkq d Hd = true) : tyV K "list" v H := by
 cases d with
 | ref n =>
  obtain ⟨ad, rfl, h⟩ := Za8.mp r
  simp only [Zkq] at e
  split at e
  ·rename_i xs ho
   obtain ⟨vs, h1, p⟩ := hr.obj n ad _ h ho
   exact .inl ⟨rfl, vs, SqL.of h1⟩
  ·cases e
 | _ => simp [Zkq] at e
noncomputable def eLM (g : D -> List D -> HD -> Option (D × HD)) (fo : EF) (f : AF) : EF := fun σ H => (fo σ H).bind fun o => if Zkq o.1 o.2 = true then (f σ o.2).bind fun p => g o.1 p.1 p.2 else none
theorem Zmt {o : Expr} {name : Str} {apos cpos : Pos} {id : String} {g : D → List D → HD → Option (D × HD)} {fo : EF} {f : AF} (slot : Slot "list" name id) (hty : typeOf (.builtin id) = pure (.type "method_descriptor")) (hm : MtF X id g) (ho : PEf X o fo) (ha : PAf X (e :: es) f)
  (hbase : attributeBase o name X.env (eval o X.env) = eval o X.env := by rfl)
  (hfew : ((backTo cpos (starEach (e :: es) X.env)).all (fun x => !x.1) && (backToKw cpos (keywordEach [] X.env)).all (fun x => x.1.isSome)
   && decide ((e :: es).length + ([] : List Keyword).length + (if ([] : List Keyword).isEmpty then 0 else 1) < 30)) = true := by exact Zor rfl (by decide))
  (hline : (apos.endLine == cpos.line) = true := by rfl) (hs : starEach (e :: es) X.env = (false, eval e X.env) :: starEach es X.env := by exact Zco rfl) (hplain : (backTo cpos (starEach es X.env)).any (·.1) = false := by exact Zdv rfl) :
  PEf X (.Call (.Attribute o name apos) (e :: es) [] cpos) (eLM g fo f) := by
 refine PEi (pe_bm PySem.F.plainAttrs_list slot hty hm ho ha hbase hfew hline hs hplain) fun σ H Q zz => ?_
 obtain ⟨ι, σd, Hd, d, Hd', s, hr, e, q⟩ := zz
 obtain ⟨⟨x, H1⟩, e1, e⟩ := Zo e
 dsimp only at e
 split at e
 ·rename_i hl
  obtain ⟨⟨y, H2⟩, e2, e⟩ := Zo e
  exact ⟨ι, σd, Hd, x, H1, s, hr, e1, fun v1 H1' ι1 l1 h1 r1 => ⟨Zue h1 r1 hl, ι1, σd, H1, y, H2, s.mono l1, h1, e2, fun vs H2' ι2 l2 h2 r2 =>
   ⟨ι2, x, y, H2, d, Hd', h2, r1.mono l2, r2, e, fun v H' ι' l h r => q v H' ι' ((l1.trans l2).trans l) h r⟩⟩⟩
 ·cases e
noncomputable def Zas : SF := fun σ H => some (.nx, σ, H)
noncomputable def Zan (f g : SF) : SF := fun σ H => (f σ H).bind fun r => match r.1 with
 | .nx => g r.2.1 r.2.2
 | _ => some r
theorem Zaf : Zpy X [] Zas := by
 refine PSsi Zvd fun E σ H zz => ?_
 obtain ⟨ι, σd, Hd, fl, σd', Hd', s, hr, e, q⟩ := zz
 cases e
 exact q σ H ι Le.refl hr s
theorem Zac {f g : SF} (h1 : PSf X st f) (h2 : Zpy X sts g) : Zpy X (st :: sts) (Zan f g) := by
 refine PSsi (Zto h1 h2) fun E σ H zz => ?_
 obtain ⟨ι, σd, Hd, fl, σd', Hd', s, hr, e, q⟩ := zz
 obtain ⟨⟨f1, σ1, H1⟩, e1, e⟩ := Zo e
 refine ⟨ι, σd, Hd, f1, σ1, H1, s, hr, e1, fun σ' H' ι' l h ss => ?_⟩
 cases f1 with
 | nx => exact ⟨ι', σ1, H1, fl, σd', Hd', ss, h, e, fun σ2 H2 ι2 l2 h2 s2 => q σ2 H2 ι2 (l.trans l2) h2 s2⟩
 | bk => cases e; exact q σ' H' ι' l h ss
 | ct => cases e; exact q σ' H' ι' l h ss
 | rt d => cases e; exact q σ' H' ι' l h ss
noncomputable def Zb5 (f : EF) : SF := fun σ H => (f σ H).map fun p => (.rt p.1, σ, p.2)
theorem Zao {f : EF} (he : PEf X e f) : PSf X (.Return (some e) pos) (Zb5 f) := by
 refine PSi (Zyu he) fun E σ H zz => ?_
 obtain ⟨ι, σd, Hd, fl, σd', Hd', s, hr, e, q⟩ := zz
 obtain ⟨⟨x, H1⟩, e1, e⟩ := Zm e
 cases e
 exact ⟨ι, σd, Hd, x, H1, s, hr, e1, fun v H' ι' l h r => q σ H' ι' l h (s.mono l) v r⟩
noncomputable def Zch (f : EF) : SF := fun σ H => (f σ H).map fun p => (.nx, σ, p.2)
theorem Zcj {f : EF} (he : PEf X e f) (hs : swapsWith e none pos.line X.env = pure false := by rfl) : PSf X (.Expr e pos) (Zch f) := by
 refine PSi (Zwy he hs) fun E σ H zz => ?_
 obtain ⟨ι, σd, Hd, fl, σd', Hd', s, hr, e, q⟩ := zz
 obtain ⟨⟨x, H1⟩, e1, e⟩ := Zm e
 cases e
 exact ⟨ι, σd, Hd, x, H1, s, hr, e1, fun v H' ι' l h r => q σ H' ι' l h (s.mono l)⟩
noncomputable def sIf (t : TF) (f g : SF) : SF := fun σ H => (t σ H).bind fun p => if p.1 = true then f σ p.2 else g σ p.2
theorem Zbe {t : TF} {f g : SF} {as bs : List Stmt} (hc : PTf X c t) (ha : Zpy X as f) (hb : Zpy X bs g) : PSf X (.If c as bs pos) (sIf t f g) := by
 refine PSi (ps_if hc ha hb) fun E σ H zz => ?_
 obtain ⟨ι, σd, Hd, fl, σd', Hd', s, hr, e, q⟩ := zz
 obtain ⟨⟨x, H1⟩, e1, e⟩ := Zo e
 refine ⟨ι, σd, Hd, x, H1, s, hr, e1, fun H' ι' l h => ?_⟩
 cases x with
 | true =>
  rw [if_pos rfl]
  exact ⟨ι', σd, H1, fl, σd', Hd', s.mono l, h, by simpa using e, fun σ2 H2 ι2 l2 h2 s2 => q σ2 H2 ι2 (l.trans l2) h2 s2⟩
 | false =>
  rw [if_neg (by simp)]
  exact ⟨ι', σd, H1, fl, σd', Hd', s.mono l, h, by simpa using e, fun σ2 H2 ι2 l2 h2 s2 => q σ2 H2 ι2 (l.trans l2) h2 s2⟩
noncomputable def Zbd (i : Nat) (f : EF) : SF := fun σ H => (f σ H).map fun p => (.nx, σ.set i (some p.1), p.2)
theorem Zav {i : Nat} {x : Str} {f : EF} {pos' : Pos} (hN : X.N.Nodup) (hi : X.N[i]? = some x) (hx : Loc X.env.scope x) (he : PEf X e f) (hs : swapsWith e (some (.Name x pos')) pos.line X.env = pure false := by rfl) (hf : X.fn x = true ∨ X.env.scope.names.lookup x = some .local := by first | exact .inl rfl | exact .inr rfl | assumption) :
  PSf X (.Assign [.Name x pos'] e pos) (Zbd i f) := by
 refine PSi (Zzm hN hi hx he hs hf) fun E σ H zz => ?_
 obtain ⟨ι, σd, Hd, fl, σd', Hd', s, hr, e, q⟩ := zz
 obtain ⟨⟨x, H1⟩, e1, e⟩ := Zm e
 cases e
 exact ⟨ι, σd, Hd, x, H1, s, hr, e1, fun v H' ι' l h r => q _ H' ι' l h ((s.mono l).set r i)⟩
noncomputable def gNm (i : Nat) : GF := fun d σ H => some (σ.set i (some d), H)
theorem Zcv {i : Nat} {x : Str} (hN : X.N.Nodup) (hi : X.N[i]? = some x) (hx : Loc X.env.scope x) (hf : X.fn x = true ∨ X.env.scope.names.lookup x = some .local := by first | exact .inl rfl | exact .inr rfl | assumption) : PGf X (.Name x pos) (gNm i) := by
 refine PGi (Zks hN hi hx hf) fun v σ H Q zz => ?_
 obtain ⟨ι, σd, Hd, d, σd', Hd', s, hr, r, e, q⟩ := zz
 cases e
 exact q _ H ι Le.refl hr (s.set r i)
noncomputable abbrev Zxo := D -> D -> D -> HD -> Option HD
noncomputable def rdSet (K : PySem.W.Frag) (g : Zxo) : TSet := fun o i v H Q => ∃ ι od id vd Hd Hd', HRep K H ι Hd ∧ Rep K H ι od o ∧ Rep K H ι id i ∧ Rep K H ι vd v ∧ g od id vd Hd = some Hd' ∧ ∀ H' ι', Le K H ι H' ι' -> HRep K H' ι' Hd' -> Q H'
noncomputable def Zyv (X : Cx) (g : Zxo) : Prop := PSet X (rdSet X.K g)
noncomputable def gSb (fo fi : EF) (g : Zxo) : GF := fun d σ H => (fo σ H).bind fun o => (fi σ o.2).bind fun i => (g o.1 i.1 d i.2).map fun H' => (σ, H')
theorem Zik {o i : Expr} {fo fi : EF} {g : Zxo} (ho : PEf X o fo) (hi : PEf X i fi) (hs : Zyv X g)
  (ha : ∀ v, assign (.Subscript o i pos) X.env v = (do
   let ov ← holding [v] (eval o X.env)
   let iv ← holding [v, ov] (eval i X.env)
   standAt pos
   holding [v, ov, iv] (setItem ov iv v)
   release [v, ov, iv] []) := by intro _; rfl) : PGf X (.Subscript o i pos) (gSb fo fi g) := by
 refine PGi (Zza ho hi hs ha) fun v σ H Q zz => ?_
 obtain ⟨ι, σd, Hd, d, σd', Hd', s, hr, r, e, q⟩ := zz
 obtain ⟨⟨x, H1⟩, e1, e⟩ := Zo e
 obtain ⟨⟨y, H2⟩, e2, e⟩ := Zo e
 obtain ⟨H3, e3, e⟩ := Zm e
 obtain ⟨rfl, rfl⟩ := Prod.mk.inj e
 exact ⟨ι, σd, Hd, x, H1, s, hr, e1, fun v1 H1' ι1 l1 h1 r1 => ⟨ι1, σd, H1, y, H2, s.mono l1, h1, e2, fun v2 H2' ι2 l2 h2 r2 =>
  ⟨ι2, x, y, d, H2, H3, h2, r1.mono l2, r2, r.mono (l1.trans l2), e3, fun H' ι' l h => q σ H' ι' ((l1.trans l2).trans l) h (s.mono ((l1.trans l2).trans l))⟩⟩⟩
noncomputable abbrev GFs := List D -> SD -> HD -> Option (SD × HD)
noncomputable def rdGs (K : PySem.W.Frag) (g : GFs) : TGs := fun vs σ H Q => ∃ ι σd Hd ds σd' Hd', SRep K H ι σ σd ∧ HRep K H ι Hd ∧ Paired (Rep K H ι) ds vs ∧ g ds σd Hd = some (σd', Hd') ∧
 ∀ σ' H' ι', Le K H ι H' ι' -> HRep K H' ι' Hd' -> SRep K H' ι' σ' σd' -> Q σ' H'
noncomputable def PGsf (X : Cx) (ts : List Expr) (g : GFs) : Prop := PGs X ts (rdGs X.K g)
noncomputable def gNl : GFs := fun ds σ H => match ds with
 | [] => some (σ, H)
 | _ => none
noncomputable def gCn (g : GF) (h : GFs) : GFs := fun ds σ H => match ds with
 | d :: r => (g d σ H).bind fun p => h r p.1 p.2
 | [] => none
theorem PGsi {ts : List Expr} {t t' : TGs} (h : PGs X ts t) (i : ∀ v σ H Q, t' v σ H Q -> t v σ H Q) : PGs X ts t' := fun pins s σ H v u Q I r q => h pins s σ H v u Q I r (i v σ H Q q)
theorem Zn8 : PGsf X [] gNl := by
 refine PGsi Zre fun vs σ H Q zz => ?_
 obtain ⟨ι, σd, Hd, ds, σd', Hd', s, hr, r, e, q⟩ := zz
 cases r with
 | nil => cases e; exact ⟨rfl, q σ H ι Le.refl hr s⟩
 | cons _ _ => cases e
theorem Zgr {g : GF} {h : GFs} (h1 : PGf X e g) (h2 : PGsf X es h) (hs : (assignEach (e :: es) X.env).map (·.2) = assign e X.env :: (assignEach es X.env).map (·.2) := by rfl) : PGsf X (e :: es) (gCn g h) := by
 refine PGsi (Zkh h1 h2 hs) fun vs σ H Q zz => ?_
 obtain ⟨ι, σd, Hd, ds, σd', Hd', s, hr, r, e, q⟩ := zz
 cases r with
 | nil => cases e
 | cons r rr =>
  obtain ⟨⟨σ1, H1⟩, e1, e⟩ := Zo e
  exact ⟨_, _, rfl, ι, σd, Hd, _, σ1, H1, s, hr, r, e1, fun σ' H' ι' l h ss => ⟨ι', σ1, H1, _, σd', Hd', ss, h, Prd.mono l rr, e, fun σ2 H2 ι2 l2 h2 s2 => q σ2 H2 ι2 (l.trans l2) h2 s2⟩⟩
noncomputable def gTp (n : Nat) (g : GFs) : GF := fun d σ H => match d with
 | .tup ds => if ds.length = n then g ds σ H else none
 | _ => none
theorem Zr7 {k n : Nat} {g : GFs} (hc : X.calm = true) (h : PGsf X es g) (hn : (assignEach es X.env).length = n := by rfl) (hst : (assignEach es X.env).findIdx? (·.1) = none := by rfl) : PGf X (.Tuple es k pos) (gTp n g) := by
 refine PGi (Zva hc h hn hst) fun v σ H Q zz => ?_
 obtain ⟨ι, σd, Hd, d, σd', Hd', s, hr, r, e, q⟩ := zz
 cases d with
 | tup ds =>
  obtain ⟨a, vs, rfl, h1, p⟩ := Zb3.mp r
  simp only [gTp] at e
  split at e
  ·rename_i hl
   exact ⟨a, vs, rfl, h1, by rw [← Prd.len p]; exact hl, ι, σd, Hd, ds, σd', Hd', s, hr, p, e, q⟩
  ·cases e
 | _ => simp [gTp] at e
noncomputable def Zla (f : EF) (g : GF) : SF := fun σ H => (f σ H).bind fun p => (g p.1 σ p.2).map fun q => (.nx, q.1, q.2)
theorem Zia {tg : Expr} {f : EF} {g : GF} (he : PEf X e f) (hg : PGf X tg g) (hs : swapsWithSole [tg] e pos.line X.env = pure false := by rfl) (hw : swappedStores [tg] e X.env = pure none := by rfl)
  (h1 : (assignEach [tg] X.env).map (·.2) = [assign tg X.env] := by rfl) : PSf X (.Assign [tg] e pos) (Zla f g) := by
 refine PSi (Zy4 he hg hs hw h1) fun E σ H zz => ?_
 obtain ⟨ι, σd, Hd, fl, σd', Hd', s, hr, e, q⟩ := zz
 obtain ⟨⟨x, H1⟩, e1, e⟩ := Zo e
 obtain ⟨⟨σ2, H2⟩, e2, e⟩ := Zm e
 cases e
 exact ⟨ι, σd, Hd, x, H1, s, hr, e1, fun v H' ι' l h r => ⟨ι', σd, H1, x, σ2, H2, s.mono l, h, r, e2, fun σ3 H3 ι3 l3 h3 s3 => q σ3 H3 ι3 (l.trans l3) h3 s3⟩⟩
noncomputable abbrev Zhl := List (Nat × DO)
noncomputable def Zdp (own : Zhl) (H : HD) : Prop := ∀ p ∈ own, H[p.1]? = some p.2
noncomputable abbrev ItF := SD -> HD -> Option ((List D × Zhl) × HD)
structure ItRep (K : PySem.W.Frag) (J : It) (xs : List D) (own : Zhl) (H0 : Hp) (ι0 : List Addr) : Prop where
 go : ∀ i H ι Hd, Le K H0 ι0 H ι -> HRep K H ι Hd -> Zdp own Hd -> i < xs.length -> J.go i H
 yld : ∀ i H ι Hd d x H', Le K H0 ι0 H ι -> HRep K H ι Hd -> Zdp own Hd -> xs[i]? = some d -> J.yld i H x H' -> ∃ ι', Le K H ι H' ι' ∧ HRep K H' ι' Hd ∧ Rep K H' ι' d x
 stop : ∀ i H ι Hd, Le K H0 ι0 H ι -> HRep K H ι Hd -> Zdp own Hd -> xs.length ≤ i -> J.stop i H
noncomputable def rdI (K : PySem.W.Frag) (f : ItF) : TI := fun σ H R => ∃ ι σd Hd xs own Hd', SRep K H ι σ σd ∧ HRep K H ι Hd ∧ f σd Hd = some ((xs, own), Hd') ∧ ∀ J H' ι', Le K H ι H' ι' -> HRep K H' ι' Hd' -> ItRep K J xs own H' ι' -> R J H'
noncomputable def PIf (X : Cx) (tg iter : Expr) (f : ItF) : Prop := PI X tg iter (rdI X.K f)
theorem PIi {tg iter : Expr} {t t' : TI} (h : PI X tg iter t) (i : ∀ σ H R, t' σ H R -> t σ H R) : PI X tg iter t' := fun pins s σ H R I q => h pins s σ H R I (i σ H R q)
open Classical in
noncomputable def Zf6 (own : Zhl) (g : GF) (body : SF) : List D -> SF
 | [], σ, H => if Zdp own H then some (.nx, σ, H) else none
 | x :: r, σ, H => if Zdp own H then (g x σ H).bind fun p => (body p.1 p.2).bind fun q => match q.1 with
   | .nx => Zf6 own g body r q.2.1 q.2.2
   | .ct => Zf6 own g body r q.2.1 q.2.2
   | .bk => some (.nx, q.2.1, q.2.2)
   | .rt d => some (.rt d, q.2.1, q.2.2)
  else none
noncomputable def Zhi (it : ItF) (g : GF) (body : SF) : SF := fun σ H => (it σ H).bind fun p => Zf6 p.1.2 g body p.1.1 σ p.2
theorem Zeh {tg iter : Expr} {body : List Stmt} {f : ItF} {g : GF} {b : SF} (hp : PassesOwn (model X.prog X.w) X.A X.env X.xe) (hc : X.calm = true) (hi : PIf X tg iter f) (hg : PGf X tg g) (hb : Zpy X body b)
  (hs : ∀ x, foldedSetIterable iter X.env x = pure x := by intro _; rfl) : PSf X (.For tg iter body [] pos) (Zhi f g b) := by
 refine PSi (Zyb hp hc hi hg hb hs) fun E σ H zz => ?_
 obtain ⟨ι, σd, Hd, fl, σf, Hf, s, hr, e, q⟩ := zz
 obtain ⟨⟨⟨xs, own⟩, H1⟩, e1, e⟩ := Zo e
 refine ⟨ι, σd, Hd, xs, own, H1, s, hr, e1, fun J H0 ι0 l0 h0 it => ?_⟩
 refine ⟨fun i m σ H => m = xs.length - i ∧ i ≤ xs.length ∧ ∃ ι σd Hd, Le X.K H0 ι0 H ι ∧ SRep X.K H ι σ σd ∧ HRep X.K H ι Hd ∧ Zf6 own g b (xs.drop i) σd Hd = some (fl, σf, Hf),
  ⟨xs.length, by simp, Nat.zero_le _, ι0, σd, H1, Le.refl, s.mono l0, h0, by simpa using e⟩, ?_⟩
 rintro i m σ2 H2 ⟨rfl, hi, ι2, σd2, Hd2, l2, s2, h2, e2⟩
 by_cases hlt : i < xs.length
 ·have ed : xs.drop i = xs[i] :: xs.drop (i + 1) := List.drop_eq_getElem_cons hlt
  rw [ed, Zf6] at e2
  split at e2
  ·rename_i ok
   obtain ⟨⟨σ3, H3⟩, e3, e2⟩ := Zo e2
   obtain ⟨⟨f4, σ4, H4⟩, e4, e2⟩ := Zo e2
   refine .inr ⟨it.go i H2 ι2 Hd2 l2 h2 ok hlt, fun σ' H' => (xs.length - (i + 1) = xs.length - (i + 1) ∧ i + 1 ≤ xs.length ∧ ∃ ι σd Hd, Le X.K H0 ι0 H' ι ∧ SRep X.K H' ι σ' σd ∧ HRep X.K H' ι Hd ∧ Zf6 own g b (xs.drop (i + 1)) σd Hd = some (fl, σf, Hf)),
    fun σ' H' p => ⟨_, by omega, p⟩, fun x H' y => ?_⟩
   obtain ⟨ι3, l3, h3, r3⟩ := it.yld i H2 ι2 Hd2 xs[i] x H' l2 h2 ok (by simp [hlt]) y
   refine ⟨ι3, σd2, Hd2, xs[i], σ3, H3, s2.mono l3, h3, r3, e3, fun σ5 H5 ι5 l5 h5 s5 => ?_⟩
   refine ⟨ι5, σ3, H3, f4, σ4, H4, s5, h5, e4, fun σ6 H6 ι6 l6 h6 s6 => ?_⟩
   have L : Le X.K H0 ι0 H6 ι6 := ((l2.trans l3).trans l5).trans l6
   cases f4 with
   | nx => exact ⟨rfl, hlt, ι6, σ4, H4, L, s6, h6, e2⟩
   | ct => exact ⟨rfl, hlt, ι6, σ4, H4, L, s6, h6, e2⟩
   | bk => cases e2; exact q σ6 H6 ι6 (l0.trans L) h6 s6
   | rt d => cases e2; exact q σ6 H6 ι6 (l0.trans L) h6 s6
  ·cases e2
 ·have hi' : i = xs.length := by omega
  rw [List.drop_eq_nil_of_le (by omega), Zf6] at e2
  split at e2
  ·rename_i ok
   have e3 : (FD.nx, σd2, Hd2) = (fl, σf, Hf) := Option.some.inj e2
   obtain ⟨rfl, e4⟩ := Prod.mk.inj e3
   obtain ⟨rfl, rfl⟩ := Prod.mk.inj e4
   exact .inl ⟨it.stop i H2 ι2 _ l2 h2 ok (by omega), q σ2 H2 ι2 (l0.trans l2) h2 s2⟩
  ·cases e2
end
noncomputable def Zbq (n N : Nat) (b : SF) : FF := fun ds H => if ds.length = n then (b (ds.map some ++ List.replicate (N - ds.length) none) H).bind fun r => match r.1 with
  | .rt d => some (d, r.2.2)
  | .nx => some (.non, r.2.2)
  | _ => none
 else none
section
variable {P : Program} {w : World} {K : PySem.W.Frag} {mg : Str -> Option Value} {base : Heap}
theorem fn_f {x qual : Str} {st : Stmt} {f : Addr} {fd : FuncData} {N ps : List Str} {k : Nat} {b : SF} (F : Fun K x qual st f fd) (S : FnScope N ps (Zak st))
  (hb : ∀ (cdv : Value) (A : Around) (outer : List Env) (s : Shared) (H : Hp) (E : XK), Room k (A.deeper (envOfC qual (Zak st) s.heap.objs.size f cdv)) →
   Zpy (Zpm CX0 P w K mg base N qual (Zak st) f cdv A outer s H E).nox (Zcn st) b) : FnOk P w K mg base CX0 (k + 1) f fd ps (spF K ps.length (Zbq ps.length N.length b)) := by
 refine F.ok S (fun vs H Q E h => ?_) (fun cdv A outer s H vs Q E hr h => ?_)
 ·obtain ⟨ι, ds, Hd, d, Hd', hl, _, r, _⟩ := h
  rw [← Prd.len r]; exact hl
 ·obtain ⟨ι, ds, Hd, d, Hd', hl, hh, r, e, q⟩ := h
  refine ⟨_, hb cdv A outer s H E hr, ?_⟩
  unfold Zbq at e
  rw [if_pos hl] at e
  obtain ⟨⟨fl, σ1, H1⟩, e1, e⟩ := Zo e
  refine ⟨ι, _, Hd, fl, σ1, H1, ?_, hh, e1, fun σ' H' ι' l h ss => ?_⟩
  ·refine ⟨by simp [L2.start, Prd.len r], fun i d0 h0 => ?_⟩
   unfold L2.start
   by_cases hi : i < ds.length
   ·rw [List.getElem?_append_left (by simpa using hi), List.getElem?_map] at h0
    cases ed : ds[i]? with
    | none => rw [ed] at h0; cases h0
    | some d1 =>
     rw [ed] at h0
     cases h0
     obtain ⟨v, hv, rv⟩ := Prd.get r ed
     refine ⟨v, ?_, rv⟩
     rw [List.getElem?_append_left (by rw [List.length_map, ← Prd.len r]; exact hi), List.getElem?_map, hv]
     rfl
   ·rw [List.getElem?_append_right (by simpa using hi), List.getElem?_replicate] at h0
    split at h0 <;> cases h0
  ·cases fl with
   | rt d1 => cases e; exact fun v rv => q v H' ι' l h rv
   | nx => cases e; exact q .non H' ι' l h (by simp)
   | bk => cases e
   | ct => cases e
end
noncomputable def Zhw (env : Env) : List (Str × NameKind) -> List (Str × Addr) -> List (Str × Addr)
 | [], cs => cs
 | (n, k) :: r, cs => Zhw env r (if k = .free then (match env.cells.lookup n with | some a => (n, a) :: cs | none => cs) else cs)
theorem Zhb (env : Env) (scope : Scope) (h : ∀ y ∈ scope.names, y.2 = .free -> (env.cells.lookup y.1).isSome = true) : closureFor scope env = pure (Zhw env scope.names []) := by
 have key : ∀ (ns : List (Str × NameKind)) (cs : List (Str × Addr)), (∀ y ∈ ns, y.2 = .free -> (env.cells.lookup y.1).isSome = true) →
   (forIn ns cs fun (x : Str × NameKind) cs => match x with
    | (name, kind) => if (kind == .free) = true then (do let a ← cellOf env name; pure (ForInStep.yield ((name, a) :: cs))) else pure (ForInStep.yield cs) : Sem (List (Str × Addr))) = pure (Zhw env ns cs) := by
  intro ns
  induction ns with
  | nil => intro cs _; rfl
  | cons x r ih =>
   intro cs hh
   obtain ⟨n, k⟩ := x
   have hr := ih
   rw [List.forIn_cons]
   by_cases hk : k = .free
   ·subst hk
    have q := hh (n, .free) (by simp) rfl
    cases e : env.cells.lookup n with
    | none => rw [e] at q; cases q
    | some a =>
     have e2 : cellOf env n = pure a := by unfold cellOf; rw [e]
     simp only [beq_self_eq_true, if_true, e2, pure_bind, Zhw, e]
     exact ih _ fun y hy => hh y (List.mem_cons_of_mem _ hy)
   ·have hb : (k == NameKind.free) = false := by simpa using hk
    simp only [hb, Bool.false_eq_true, if_false, pure_bind, Zhw, hk]
    exact ih _ fun y hy => hh y (List.mem_cons_of_mem _ hy)
 have e : closureFor scope env = ((forIn scope.names [] fun (x : Str × NameKind) cs => match x with
    | (name, kind) => if (kind == .free) = true then (do let a ← cellOf env name; pure (ForInStep.yield ((name, a) :: cs))) else pure (ForInStep.yield cs) : Sem (List (Str × Addr))) >>= pure) := rfl
 rw [e, bind_pure]
 exact key scope.names [] h
theorem Zgv (env : Env) : ∀ (ns : List (Str × NameKind)) (cs : List (Str × Addr)), (∀ x c, cs.lookup x = some c -> env.cells.lookup x = some c) -> ∀ x c, (Zhw env ns cs).lookup x = some c -> env.cells.lookup x = some c
 | [], cs, h => h
 | (n, k) :: r, cs, h => by
  unfold Zhw
  refine Zgv env r _ ?_
  split
  ·cases e : env.cells.lookup n with
   | none => exact h
   | some a =>
    intro x c q
    dsimp only at q
    rw [List.lookup_cons] at q
    split at q
    ·rename_i hb
     have hb' : x = n := by simpa using hb
     subst hb'; cases q; exact e
    ·exact h x c q
  ·exact h
theorem Zk8 (env : Env) : ∀ (ns : List (Str × NameKind)) (cs : List (Str × Addr)) (x : Str), ((cs.lookup x).isSome = true ∨ ((x, NameKind.free) ∈ ns ∧ (env.cells.lookup x).isSome = true)) -> ((Zhw env ns cs).lookup x).isSome = true
 | [], cs, x, h => by
  rcases h with h | ⟨h, _⟩
  ·exact h
  ·simp at h
 | (n, k) :: r, cs, x, h => by
  unfold Zhw
  refine Zk8 env r _ x ?_
  by_cases hk : k = .free
  ·rw [if_pos hk]
   cases e : env.cells.lookup n with
   | none =>
    rcases h with h | ⟨h, h2⟩
    ·exact .inl h
    ·rcases List.mem_cons.mp h with h | h
     ·cases h; rw [e] at h2; cases h2
     ·exact .inr ⟨h, h2⟩
   | some a =>
    dsimp only
    rw [List.lookup_cons]
    by_cases hx : x = n
    ·subst hx; simp
    ·have : (x == n) = false := by simpa using hx
     rw [this]
     rcases h with h | ⟨h, h2⟩
     ·exact .inl h
     ·rcases List.mem_cons.mp h with h | h
      ·cases h; exact absurd rfl hx
      ·exact .inr ⟨h, h2⟩
  ·rw [if_neg hk]
   rcases h with h | ⟨h, h2⟩
   ·exact .inl h
   ·rcases List.mem_cons.mp h with h | h
    ·cases h; exact absurd rfl hk
    ·exact .inr ⟨h, h2⟩
theorem Zgg {env : Env} : ∀ {names : List (Str × NameKind)} {x : Str}, names.lookup x = some .free →
  ((names.map fun (n, k) => if (k == NameKind.free && env.scope.kind == .function && env.kindOf n == some .cell) then (n, NameKind.cell) else (n, k)).lookup x = some .cell ∨
   (names.map fun (n, k) => if (k == NameKind.free && env.scope.kind == .function && env.kindOf n == some .cell) then (n, NameKind.cell) else (n, k)).lookup x = some .free)
 | [], _, h => by simp at h
 | (n, k) :: r, x, h => by
  have ih := @Zgg env r x
  show List.lookup x ((if (k == NameKind.free && env.scope.kind == .function && env.kindOf n == some .cell) = true then (n, NameKind.cell) else (n, k)) :: _) = _ ∨ List.lookup x ((if (k == NameKind.free && env.scope.kind == .function && env.kindOf n == some .cell) = true then (n, NameKind.cell) else (n, k)) :: _) = _
  cases hx : x == n with
  | true =>
   simp only [List.lookup_cons, hx] at h
   cases h
   by_cases hc : (NameKind.free == NameKind.free && env.scope.kind == .function && env.kindOf n == some .cell) = true
   ·rw [if_pos hc]; simp only [List.lookup_cons, hx]; simp
   ·rw [if_neg hc]; simp only [List.lookup_cons, hx]; simp
  | false =>
   simp only [List.lookup_cons, hx] at h
   by_cases hc : (k == NameKind.free && env.scope.kind == .function && env.kindOf n == some .cell) = true
   ·rw [if_pos hc]; simp only [List.lookup_cons, hx]; exact ih h
   ·rw [if_neg hc]; simp only [List.lookup_cons, hx]; exact ih h
theorem Zfr {env : Env} : ∀ {names : List (Str × NameKind)} {x : Str}, (∀ y ∈ names, y.2 ≠ .cell) →
  ((names.map fun (n, k) => if (k == NameKind.free && env.scope.kind == .function && env.kindOf n == some .cell) then (n, NameKind.cell) else (n, k)).lookup x = some .cell ∨
   (names.map fun (n, k) => if (k == NameKind.free && env.scope.kind == .function && env.kindOf n == some .cell) then (n, NameKind.cell) else (n, k)).lookup x = some .free) -> (x, NameKind.free) ∈ names
 | [], _, _, h => by simp at h
 | (n, k) :: r, x, hn, h => by
  have ih := @Zfr env r x (fun y hy => hn y (List.mem_cons_of_mem _ hy))
  have h : List.lookup x ((if (k == NameKind.free && env.scope.kind == .function && env.kindOf n == some .cell) = true then (n, NameKind.cell) else (n, k)) :: _) = _ ∨ List.lookup x ((if (k == NameKind.free && env.scope.kind == .function && env.kindOf n == some .cell) = true then (n, NameKind.cell) else (n, k)) :: _) = _ := h
  cases hx : x == n with
  | true =>
   have hx' : x = n := by simpa using hx
   subst hx'
   by_cases hc : (k == NameKind.free && env.scope.kind == .function && env.kindOf x == some .cell) = true
   ·have hk : k = .free := by
     rw [Bool.and_eq_true, Bool.and_eq_true] at hc
     simpa using hc.1.1
    subst hk; simp
   ·rw [if_neg hc] at h
    simp only [List.lookup_cons, hx] at h
    rcases h with h | h
    ·cases h; exact absurd rfl (hn (x, .cell) (by simp))
    ·cases h; simp
  | false =>
   refine List.mem_cons_of_mem _ (ih ?_)
   by_cases hc : (k == NameKind.free && env.scope.kind == .function && env.kindOf n == some .cell) = true
   ·rw [if_pos hc] at h; simp only [List.lookup_cons, hx] at h; exact h
   ·rw [if_neg hc] at h; simp only [List.lookup_cons, hx] at h; exact h
noncomputable def blk (X : Cx) (scope : Scope) (N : List Str) (cl : List (Str × Addr)) (C : Addr) (s : Shared) (H : Hp) (fp : List Addr) (pn : List (Addr × Obj)) : Cx where
 prog := X.prog
 w := X.w
 K := X.K
 mg := X.mg
 base := X.base
 A := X.A
 N := N
 s₀ := s
 H₀ := H
 env := compEnvC scope cl C X.env
 outer := X.stack
 stack := X.stack
 ex := fp
 fn := fun _ => false
 calm := X.calm
 pn := pn
 xe := fun _ _ => False
structure BlkOk (X : Cx) (scope : Scope) (x : Str) (cn : List Str) (ci : List Nat) : Prop where
 kind : scope.kind = .function
 nocell : ∀ y ∈ scope.names, y.2 ≠ .cell
 names : ∀ y ∈ scope.names, y.2 = .local -> scope.names.lookup y.1 = some .local
 tgt : scope.names.lookup x = some .local
 free : ∀ y ∈ scope.names, y.2 = .free -> (X.env.cells.lookup y.1).isSome = true
 nd : (x :: cn).Nodup
 len : ci.length = cn.length
 cap : ∀ (j : Nat) (y : Str), cn[j]? = some y -> ∃ i, ci[j]? = some i ∧ X.N[i]? = some y ∧ scope.names.lookup y = some .free ∧ (X.env.kindOf y = some .cell ∨ X.env.kindOf y = some .free)
noncomputable def Ziy (ci : List Nat) (σ : L2.St) : L2.St := ci.map fun i => (σ[i]?).join
section
variable {X : Cx} {pins : List (Addr × Obj)} {σ : L2.St} {H : Hp} {s : Shared} {scope : Scope} {x : Str} {cn : List Str} {ci : List Nat} {fp : List Addr}
theorem Zwt {h₁ : Heap} {tk : Nat} {o₁ : Obj} (I : Inv X pins σ H s) (B : BlkOk X scope x cn ci) (hf : ∀ b ∈ fp, Zm2 X pins H b) (hlt : ∀ b ∈ fp, b < s.heap.objs.size)
  (hns : h₁.Ns s.heap.objs.size (fun _ => none)) (hsb : Heap.SameBut s.heap.objs.size (s.heap.push o₁) h₁) :
  Inv (blk X scope (x :: cn) (Zhw X.env scope.names []) s.heap.objs.size s H fp (X.pn ++ pins)) [] (none :: Ziy ci σ) H { s with heap := h₁, toks := tk } := by
 have old : ∀ b o, s.heap.get? b = some o -> h₁.get? b = some o := fun b o e => hsb.extBut b o (Nat.ne_of_lt (Heap.lt_size e)) (Heap.get?_push_of_some _ e)
 have sub := Zgv X.env scope.names [] (by intro x c h; simp at h)
 have has : ∀ y, (y, NameKind.free) ∈ scope.names -> ∃ c, (Zhw X.env scope.names []).lookup y = some c := fun y hy =>
  Option.isSome_iff_exists.mp (Zk8 X.env scope.names [] y (.inr ⟨hy, B.free _ hy rfl⟩))
 refine ⟨⟨I.ok.mod, B.kind, I.ok.glob, I.ok.blt, Nat.le_refl _, fun y z c h1 h2 => I.ok.inj y z c (sub y c h1) (sub z c h2), fun y hy => has y (Zfr B.nocell hy), fun y c hy => absurd hy (by show ¬ (false = true); simp), I.ok.hd, I.ok.frames, .inl rfl,
   fun b hb => ⟨Nat.ne_of_lt (hlt b hb), fun y c e => (hf b hb).2.2.2.2.1 y c (sub y c e)⟩, I.bs, Nat.le_trans I.ok.bsz I.sz, fun b o e hb => ?_, fun b hb z => ?_, I.stack, I.stkFree⟩,
  rfl, I.bare, Un.kept old, ⟨_, hns, fun i y v h1 h2 h3 => ?_⟩, fun y c e => ?_, I.hok.fresh (Nat.le_refl _), fun y c e => I.freeC y c (sub y c e), fun p hp => ?_, I.hok.kept old, ?_⟩
 ·rcases (hf b hb).2.2.2.1 with z | z
  ·exact I.ok.noex b o e z
  ·exact absurd (Nat.lt_of_lt_of_le (Heap.lt_size e) (Nat.le_trans I.ok.bsz z)) (Nat.lt_irrefl _)
 ·exact (List.mem_cons.mp (I.stkSub b z)).elim (hf b hb).2.1 (hf b hb).2.2.1
 ·cases i with
  | zero => simp at h2
  | succ j =>
   have h1' : cn[j]? = some y := by simpa [blk] using h1
   have h2' : (Ziy ci σ)[j]? = some (some v) := by simpa using h2
   obtain ⟨i, e1, e2, e3, e4⟩ := B.cap j y h1'
   have e5 : σ[i]? = some (some v) := by
    unfold Ziy at h2'
    rw [List.getElem?_map, e1] at h2'
    simp at h2'
    cases e : σ[i]? with
    | none => rw [e] at h2'; cases h2'
    | some o => rw [e] at h2'; simp at h2'; rw [h2']
   obtain ⟨m, hn, hl⟩ := I.loc
   have hv : Vis X.env.scope y := by
    rcases e4 with e4 | e4
    ·exact .inr (.inl e4)
    ·exact .inr (.inr e4)
   obtain ⟨u, r, l⟩ := hl i y v e2 e5 hv
   refine ⟨u, r, .inr ⟨Zgg e3, ?_⟩⟩
   obtain ⟨c, ec⟩ := has y (PySem.mem_of_lookup e3)
   refine ⟨c, ec, ?_⟩
   rcases l with ⟨l, _⟩ | ⟨_, c', ec', hc⟩
   ·rcases e4 with e4 | e4 <;> rw [e4] at l <;> cases l
   ·rw [sub y c ec] at ec'
    cases ec'
    obtain ⟨ob, q1, q2⟩ := hc
    exact ⟨ob, old _ _ q1, q2⟩
 ·obtain ⟨v, ob, q1, q2⟩ := I.cell y c (sub y c e)
  exact ⟨v, ob, old _ _ q1, q2⟩
 ·have hp' : p ∈ X.pn ++ pins := by simpa [blk] using hp
  obtain ⟨q1, q2, q3, q4, q5⟩ := I.pin p hp'
  refine ⟨old _ _ q1, q2, Nat.ne_of_lt (Heap.lt_size q1), fun z => ?_, q5⟩
  exact (List.mem_cons.mp (I.stkSub p.1 z)).elim q3 q4
 ·simp [blk, Ziy, B.len]
noncomputable def PTs (X : Cx) (ifs : List Expr) (t : TT) : Prop :=
 ∀ (pins : List (Addr × Obj)) (s : Shared) (σ : L2.St) (H : Hp) (Q : Bool -> Hp -> Prop), Inv X pins σ H s -> t σ H Q →
  wpAny (model X.prog X.w) X.A (forIn ifs true fun c r => if r = true then do let ok ← isTrue c X.env (eval c X.env); pure (ForInStep.yield ok) else pure (ForInStep.yield r)) (TP X pins σ Q) X.xe s
theorem Zwg : PTs X [] (fun _ H Q => Q true H) := fun _ _ _ H _ I h => wpAny_tests_nil ⟨H, I, h⟩
theorem Zxl {c : Expr} {t : TT} (h : PT X c t) : PTs X [c] t := fun pins s σ H Q I q => wpAny_tests_one (h pins s σ H Q I q)
noncomputable def LcW (J : It) (ci : List Nat) (tt : TT) (te : TE) (σ : L2.St) (Q : VK) (H1 : Hp) : Prop := ∀ p, H1 p = none -> ∃ W : Nat -> Nat -> List V -> Hp -> Prop, (∃ m, W 0 m [] (upd H1 p (.lst []))) ∧ ∀ i m ys H, W i m ys H →
 H p = some (.lst ys) ∧ ((J.stop i H ∧ Q (.ref p) H) ∨ (J.go i H ∧ ∀ v H', J.yld i H v H' -> tt (some v :: Ziy ci σ) H' fun b H2 =>
  if b = true then te (some v :: Ziy ci σ) H2 fun y H3 => H3 p = some (.lst ys) ∧ ys.length < sizeLine ∧ ∃ m', m' < m ∧ W (i + 1) m' (ys ++ [y]) (upd H3 p (.lst (ys ++ [y])))
  else ∃ m', m' < m ∧ W (i + 1) m' ys H2))
structure Gone (X : Cx) (pins : List (Addr × Obj)) (H : Hp) (s : Shared) (C : Addr) : Prop where
 ns : ∃ m, s.heap.Ns C m
 free : H C = none
 nl : C ≠ X.env.locals
 up : X.s₀.heap.objs.size ≤ C
 nc : ∀ x c, X.env.cells.lookup x = some c -> c ≠ C
 np : ∀ p ∈ X.pn ++ pins, p.1 ≠ C
theorem Gone.go {σ : L2.St} {h' : Heap} {C : Addr} (g : Gone X pins H s C) (I : Inv X pins σ H s) (hs : Heap.SameBut C s.heap h') : Inv X pins σ H { s with heap := h' } :=
 I.turned (t' := s.toks) (fun b o hb e => hs.extBut b o hb e) g.free g.nl (.inr g.up) g.nc g.np
theorem Zoq {elt iter : Expr} {px pos : Pos} {ifs : List Expr} {tt : TT} {te : TE} {Q : VK} {E : Value -> Shared -> Prop} {RR : Value -> Addr -> Result -> Shared -> Prop} {it : Addr} {tn : Nat -> Heap -> Prop} {J : It}
  (I : Inv X pins σ H s) (hc : X.calm = true) (B : BlkOk X scope x cn ci) (T : Turn X.prog X.w X.K (.Name x px) J fp it tn) (st : tn 0 s.heap) (hf : ∀ b ∈ fp, Zm2 X pins H b)
  (ht : ∀ cl C s H fp pn, PTs (blk X scope (x :: cn) cl C s H fp pn) ifs tt) (he : ∀ cl C s H fp pn, PE (blk X scope (x :: cn) cl C s H fp pn) elt te)
  (hw : LcW J ci tt te σ Q H) (hRR : ∀ p C H' s', Inv X pins σ H' s' -> Gone X pins H' s' C -> Q (.ref p) H' -> RR (.ref p) C (.ok .next) s') :
  wpAny (model X.prog X.w) X.A (newList []) (fun acc s₃ => wpAny (model X.prog X.w) X.A (newFunctionEnv scope X.env.globals (Zhw X.env scope.names []) [] X.env.qual none .none (some X.env)) (fun cenv s₄ =>
   codeAny (model X.prog X.w) X.A (.compStart (.ListComp elt [⟨.Name x px, iter, ifs, 0⟩] scope pos) 0 (.ref it) acc { cenv with scope := relabel scope X.env }) (RR acc cenv.locals) s₄) E s₃) E s := by
 have hp0 : H s.heap.objs.size = none := I.hok.fresh (Nat.le_refl _)
 obtain ⟨W, ⟨m0, w0⟩, turn⟩ := hw _ hp0
 refine wpAny_newObj_type (wpAny_newFunctionEnv B.nocell (by intro y hy; simp at hy) (fun h₁ hns₁ hsb₁ => ?_) B.kind)
 dsimp only at hns₁ hsb₁ ⊢
 have I3 : Inv X pins σ (upd H s.heap.objs.size (.lst [])) { s with heap := s.heap.push { cls := .type "list", dict := none, data := .seq ([] : List Value).toArray } } :=
  I.laid (t' := s.toks) (fun b u e => Heap.get?_push_of_some _ e) (Nat.le_refl _) ⟨Nat.zero_le _, [], 0, .nil, Heap.get?_push_size _ rfl⟩
 generalize hH3 : s.heap.push { cls := .type "list", dict := none, data := .seq ([] : List Value).toArray } = hp3 at hns₁ hsb₁ I3 ⊢
 have flt : ∀ b ∈ fp, b < s.heap.objs.size := fun b hb => by
  obtain ⟨o, e, _⟩ := T.obj 0 _ st b hb
  exact Heap.lt_size e
 have sz3 : hp3.objs.size = s.heap.objs.size + 1 := by rw [← hH3, Heap.size_push]
 have f3 : ∀ b ∈ fp, Zm2 X pins (upd H s.heap.objs.size (.lst [])) b := fun b hb => ⟨by rw [Za0 (Nat.ne_of_lt (flt b hb))]; exact (hf b hb).1, (hf b hb).2⟩
 have old3 : ∀ b o, s.heap.get? b = some o -> hp3.get? b = some o := fun b o e => by rw [← hH3]; exact Heap.get?_push_of_some _ e
 have I4 := Zwt (s := { s with heap := hp3 }) (tk := s.toks + ([] : List (Str × Value)).length) I3 B f3 (fun b hb => by show b < hp3.objs.size; rw [sz3]; exact Nat.lt_succ_of_lt (flt b hb)) (by simpa using hns₁) hsb₁
 have old4 : ∀ b o, hp3.get? b = some o -> h₁.get? b = some o := fun b o e => hsb₁.extBut b o (Nat.ne_of_lt (Heap.lt_size e)) (Heap.get?_push_of_some _ e)
 generalize hX' : blk X scope (x :: cn) (Zhw X.env scope.names []) hp3.objs.size { s with heap := hp3 } (upd H s.heap.objs.size (.lst [])) fp (X.pn ++ pins) = X' at I4
 have ePr : X'.prog = X.prog := by rw [← hX']; rfl
 have eW : X'.w = X.w := by rw [← hX']; rfl
 have eK : X'.K = X.K := by rw [← hX']; rfl
 have eA : X'.A = X.A := by rw [← hX']; rfl
 have eEnv : X'.env = compEnvC scope (Zhw X.env scope.names []) hp3.objs.size X.env := by rw [← hX']; rfl
 have eEx : X'.ex = fp := by rw [← hX']; rfl
 have ht' : PTs X' ifs tt := by rw [← hX']; exact ht _ _ _ _ _ _
 have he' : PE X' elt te := by rw [← hX']; exact he _ _ _ _ _ _
 have eXe : X'.xe = fun _ _ => False := by rw [← hX']; rfl
 have hg' : PG X' (.Name x px) (Zkx 0) := by
  rw [← hX']
  exact Zks (X := blk X scope (x :: cn) _ _ _ _ _ _) B.nd rfl (.inl (lookup_relabel_local B.tgt)) (.inr (lookup_relabel_local B.tgt))
 -- the iterator's objects, seen from the block
 have stat : ∀ {H' : Hp}, (∀ b ∈ fp, H' b = none) -> ∀ b ∈ fp, Zm2 X' [] H' b := fun {H'} hn b hb => by
  rw [← hX']
  refine ⟨hn b hb, (by show b ≠ hp3.objs.size; rw [sz3]; exact Nat.ne_of_lt (Nat.lt_succ_of_lt (flt b hb))), fun z => (List.mem_cons.mp (I3.stkSub b z)).elim (hf b hb).2.1 (hf b hb).2.2.1, .inl hb, fun y c e => ?_, fun p hp => ?_⟩
  ·exact (hf b hb).2.2.2.2.1 y c (Zgv X.env scope.names [] (by intro x c h; simp at h) y c e)
  ·exact (hf b hb).2.2.2.2.2 p (by simpa [blk] using hp)
 have back : ∀ {σ' : L2.St} {H' : Hp} {s' : Shared}, Inv X' [] σ' H' s' -> Inv X pins σ H' s' ∧ Gone X pins H' s' hp3.objs.size := fun {σ' H' s'} I5 => by
  have u : Un (frs X.stack) fp (upd H s.heap.objs.size (.lst [])) H' hp3 s'.heap := by
   have := I5.base
   rw [← hX'] at this
   exact this
  have hok : HOk X.prog X.w H' s'.heap := by have := I5.hok; rw [ePr, eW] at this; exact this
  have ho : s'.os = s.os := by have := I5.os; rw [← hX'] at this; exact this
  refine ⟨I3.call' ho u hok I5.bare fun b hb => ⟨(hf b hb).2.2.2.1, (hf b hb).2.1, (hf b hb).2.2.2.2.1, (hf b hb).2.2.2.2.2⟩, ?_, ?_, ?_, ?_, fun y c e z => ?_, fun p hp z => ?_⟩
  ·obtain ⟨m, hn, _⟩ := I5.loc
   rw [eEnv] at hn
   exact ⟨m, hn⟩
  ·have := I5.free
   rw [eEnv] at this
   exact this
  ·exact Nat.ne_of_gt (I3.lt)
  ·exact I3.sz
  ·obtain ⟨v, q⟩ := I3.cell y c e
   exact absurd (Nat.lt_of_lt_of_le q.lt (by rw [z]; exact Nat.le_refl _)) (Nat.lt_irrefl _)
  ·have := Heap.lt_size (I3.pin p hp).1
   rw [z] at this
   exact Nat.lt_irrefl _ this
 have loop : codeAny (model X.prog X.w) X.A (.compLoop (.ListComp elt [⟨.Name x px, iter, ifs, 0⟩] scope pos) 0 (.ref it) (.ref s.heap.objs.size) (compEnvC scope (Zhw X.env scope.names []) hp3.objs.size X.env))
   (RR (.ref s.heap.objs.size) hp3.objs.size) { s with heap := h₁, toks := s.toks + ([] : List (Str × Value)).length } := by
  refine codeAny_loop rfl (fun n s' => ∃ i o ys H', Inv X' [] (o :: Ziy ci σ) H' s' ∧ tn i s'.heap ∧ (∀ b ∈ fp, H' b = none) ∧ W i n ys H') (fun n s' hI => ?_) m0
   ⟨0, none, [], _, I4, T.keep _ _ _ st (fun b hb o e => old4 b o (old3 b o e)), fun b hb => (f3 b hb).1, w0⟩
  obtain ⟨i, o, ys, H', I5, st5, fr5, w5⟩ := hI
  show wpAny _ X.A ((compTurn (.ListComp elt [⟨.Name x px, iter, ifs, 0⟩] scope pos) 0 (.ref it) (.ref s.heap.objs.size) (compEnvC scope (Zhw X.env scope.names []) hp3.objs.size X.env)).onRaise (fun x => do noteFrame x (compEnvC scope (Zhw X.env scope.names []) hp3.objs.size X.env); theTreesLotGoes x)) _ _ s'
  refine wpAny_noted ?_
  rw [compTurn_list, ← eEnv, ← ePr, ← eW, ← eA]
  refine wpAny_mono (E := fun _ _ => False) ?_ (fun _ _ q => q) (fun _ _ z => z.elim)
  obtain ⟨hpl, wt⟩ := turn i n ys H' w5
  refine wpAny_bind (wpAny_standAt (wpAny_bind ?_))
  rcases wt with ⟨stop, q⟩ | ⟨go, step⟩
  ·have z := T.done X' ePr eW eK (by rw [← hX']; exact hc) i [] s' _ H' (fun _ _ => False) I5 (stat fr5) st5 stop
   rw [← ePr, ← eW] at z
   refine thn z fun r s6 zz => ?_
   obtain ⟨hr, I6⟩ := zz
   subst hr
   obtain ⟨J1, g1⟩ := back I6
   exact wpAny_pure (hRR _ _ H' s6 J1 g1 q)
  ·have z := T.item X' ePr eW eK (by rw [← hX']; exact hc) i [] s' _ H' (fun _ _ => False) I5 (stat fr5) st5 go
   rw [← ePr, ← eW] at z
   refine thn z fun r s6 zz => ?_
   obtain ⟨u, hr, h6⟩ := zz
   subst hr
   refine wpAny_bind (thn h6 fun _ s7 zz => ?_)
   obtain ⟨v, H7, I7, r7, y7, st7, fr7⟩ := zz
   have I7' := I7.pinned (stat fr7) (T.obj _ _ st7)
   rw [← eXe]
   refine wpAny_bind (thn (hg' _ s7 _ H7 v u _ I7' r7 (show Zkx 0 v (o :: Ziy ci σ) H7 (fun σ8 H8 => σ8 = some v :: Ziy ci σ ∧ H8 = H7) from ⟨rfl, rfl⟩)) fun _ s8 zz => ?_)
   obtain ⟨σ8, H8, I8, e8, e8'⟩ := zz
   subst e8 e8'
   refine wpAny_bind (thn (ht' _ s8 _ _ _ I8 (step v _ y7)) fun b s9 zz => ?_)
   obtain ⟨H9, I9, q9⟩ := zz
   have tnK : ∀ {σ' : L2.St} {H' : Hp} {s' : Shared}, Inv X' (([] : List (Addr × Obj)) ++ Zjg fp s7.heap) σ' H' s' -> tn (i + 1) s'.heap ∧ ∀ b ∈ fp, H' b = none := fun {σ' H' s'} I' =>
    ⟨T.keep _ _ _ st7 fun b hb o e => (I'.pin (b, o) (List.mem_append_right _ (List.mem_append_right _ (Zee hb e)))).1, fun b hb => by
     obtain ⟨ob, e, d⟩ := T.obj _ _ st7 b hb
     exact (I'.pin (b, ob) (List.mem_append_right _ (List.mem_append_right _ (Zee hb e)))).2.1⟩
   cases b with
   | false =>
    obtain ⟨m', hm, w9⟩ := q9
    obtain ⟨t9, f9⟩ := tnK I9
    exact wpAny_pure ⟨rfl, m', hm, i + 1, _, ys, H9, I9.unpinned, t9, f9, w9⟩
   | true =>
    refine wpAny_bind (wpAny_bind (thn (he' _ s9 _ _ _ I9 q9) fun yv s10 zz => ?_))
    obtain ⟨y, H10, I10, r10, hp10, hz10, m', hm, w10⟩ := zz
    refine wpAny_bind (thn (Zip (X := X') _ s10 _ H10 (.ref s.heap.objs.size) [y] (.ref s.heap.objs.size) [yv] (fun _ H11 => H11 = upd H10 s.heap.objs.size (.lst (ys ++ [y]))) I10 rfl (.cons r10 .nil) ⟨_, ys, y, rfl, rfl, hp10, hz10, rfl⟩) fun _ s11 zz => ?_)
    obtain ⟨_, H11, I11, _, e11⟩ := zz
    subst e11
    obtain ⟨t11, f11⟩ := tnK I11
    exact wpAny_pure (wpAny_pure ⟨rfl, m', hm, i + 1, _, ys ++ [y], _, I11.unpinned, t11, f11, w10⟩)
 exact codeAny_compStart_list loop (T.self _ 0 _ _ _ (T.keep _ _ _ st (fun b hb o e => old4 b o (old3 b o e))) loop)
noncomputable def tLC (wi : TI) (ci : List Nat) (tt : TT) (te : TE) : TE := fun σ H Q => wi σ H fun J H1 => LcW J ci tt te σ Q H1
theorem pe_lc {elt iter : Expr} {px pos : Pos} {ifs : List Expr} {wi : TI} {tt : TT} {te : TE} (hc : X.calm = true) (B : BlkOk X scope x cn ci) (hi : PI X (.Name x px) iter wi)
  (ht : ∀ cl C s H fp pn, PTs (blk X scope (x :: cn) cl C s H fp pn) ifs tt) (he : ∀ cl C s H fp pn, PE (blk X scope (x :: cn) cl C s H fp pn) elt te)
  (hs : ∀ x, foldedSetIterable iter X.env x = pure x := by rintro _; rfl) : PE X (.ListComp elt [⟨.Name x px, iter, ifs, 0⟩] scope pos) (tLC wi ci tt te) := by
 intro pins s σ H Q I h
 rw [eval_ListComp]
 refine wpAny_comprehension_free (use := none) rfl hs (Zhb X.env scope B.free) B.kind B.names ?_
 refine thn (hi pins s σ H _ I h) fun v s1 h1 => thn h1 fun itv s2 h2 => ?_
 obtain ⟨it, fp, tn, J, H2, e, I2, T, st2, f2, w2⟩ := h2
 subst e
 refine Zoq (RR := fun acc C => compPost (model X.prog X.w) X.A X.xe none (EP X pins σ Q) acc C) I2 hc B T st2 f2 ht he w2 fun p C H' s' I' g q => ?_
 obtain ⟨m, hn⟩ := g.ns
 exact ⟨m, hn, fun h' hs' => ⟨.ref p, H', g.go I' hs', rfl, q⟩⟩
theorem Zuc {elt iter : Expr} {px py pos spos : Pos} {ifs : List Expr} {wi : TI} {tt : TT} {te : TE} {i : Nat} {y : Str} (hc : X.calm = true) (B : BlkOk X scope x cn ci) (hi : PI X (.Name x px) iter wi)
  (ht : ∀ cl C s H fp pn, PTs (blk X scope (x :: cn) cl C s H fp pn) ifs tt) (he : ∀ cl C s H fp pn, PE (blk X scope (x :: cn) cl C s H fp pn) elt te)
  (hN : X.N.Nodup) (hiN : X.N[i]? = some y) (hy : X.env.scope.names.lookup y = some .local)
  (hsw : swapsWith (.ListComp elt [⟨.Name x px, iter, ifs, 0⟩] scope pos) (some (.Name y py)) spos.line X.env = pure true := by rfl)
  (hs : ∀ x, foldedSetIterable iter X.env x = pure x := by rintro _; rfl) : PS X (.Assign [.Name y py] (.ListComp elt [⟨.Name x px, iter, ifs, 0⟩] scope pos) spos) (tAsg (tLC wi ci tt te) (Zkx i)) := by
 intro pins s σ H E I h
 rw [exec_Assign_Name_used _ _ _ _ hsw]
 refine wpAny_bind (wpAny_standAt (wpAny_bind ?_))
 show wpAny _ X.A (do let _ ← comprehension (.ListComp elt [⟨.Name x px, iter, ifs, 0⟩] scope pos) scope X.env _ (newList []) false (eval iter X.env) (some (assign (.Name y py) X.env))) _ _ s
 refine wpAny_bind (wpAny_mono (wpAny_comprehension_free (use := some (assign (.Name y py) X.env)) (Q := fun _ s' => SP X pins E .next s') rfl hs (Zhb X.env scope B.free) B.kind B.names ?_) (fun _ s' hq => wpAny_pure (wpAny_pure hq)) fun _ _ e => e)
 refine thn (hi pins s σ H _ I h) fun v s1 h1 => thn h1 fun itv s2 h2 => ?_
 obtain ⟨it, fp, tn, J, H2, e, I2, T, st2, f2, w2⟩ := h2
 subst e
 refine Zoq (RR := fun acc C => compPost (model X.prog X.w) X.A X.xe (some (assign (.Name y py) X.env)) (fun _ s' => SP X pins E .next s') acc C) I2 hc B T st2 f2 ht he w2 fun p C H' s' I' g q => ?_
 show wpAny _ X.A (assign (.Name y py) X.env (.ref p)) _ _ _
 have hk : X.env.kindOf y = some .local := hy
 refine wpAny_assign_Name (Zlq I' hN hiN (.inl hy) (v := .ref p) (u := .ref p) rfl (fun s'' I'' ch => ?_) (.inr hy))
 obtain ⟨m, hn⟩ := g.ns
 obtain ⟨a, hsb, ha⟩ := ch
 have haC : C ≠ a := by
  rcases ha with ha | ha
  ·rw [ha]; exact g.nl
  ·exact Ne.symm (g.nc y a ha)
 have hn2 : s''.heap.Ns C m := hn.sameBut hsb haC
 exact ⟨m, hn2, fun h' hs' => ⟨_, H', Gone.go ⟨⟨m, hn2⟩, g.free, g.nl, g.up, g.nc, g.np⟩ I'' hs', q⟩⟩
end
noncomputable def Zo1 (ci : List Nat) (σd : SD) : SD := ci.map fun i => (σd[i]?).join
open Classical in
noncomputable def Zdh (own : Zhl) (c0 : SD) (tt : TF) (te : EF) : List D -> HD -> Option (List D × HD)
 | [], H => if Zdp own H then some ([], H) else none
 | x :: r, H => if Zdp own H then (tt (some x :: c0) H).bind fun t => if t.1 = true then (te (some x :: c0) t.2).bind fun e => (Zdh own c0 tt te r e.2).map fun q => (e.1 :: q.1, q.2) else Zdh own c0 tt te r t.2 else none
noncomputable def eLC (it : ItF) (ci : List Nat) (tt : TF) (te : EF) : EF := fun σ H => (it σ H).bind fun p => (Zdh p.1.2 (Zo1 ci σ) tt te p.1.1 p.2).bind fun q => mkL q.1 q.2
noncomputable def Zgm : TF := fun _ H => some (true, H)
noncomputable def Zz0 (X : Cx) (ifs : List Expr) (t : TF) : Prop := PTs X ifs (rdT X.K t)
section
variable {X : Cx} {scope : Scope} {x : Str} {cn : List Str} {ci : List Nat}
theorem Zed : Zz0 X [] Zgm := by
 rintro pins s σ H Q I ⟨ι, σd, Hd, b, Hd', sr, hr, e, q⟩
 cases e
 exact Zwg pins s σ H Q I (q H ι Le.refl hr)
theorem Zgq {c : Expr} {t : TF} (h : PTf X c t) : Zz0 X [c] t := Zxl h
theorem SRep.cap {K : PySem.W.Frag} {H : Hp} {ι : List Addr} {σ : L2.St} {σd : SD} {d : D} {v : V} (s : SRep K H ι σ σd) (r : Rep K H ι d v) : SRep K H ι (some v :: Ziy ci σ) (some d :: Zo1 ci σd) := by
 refine ⟨by simp [Ziy, Zo1], fun i e h => ?_⟩
 cases i with
 | zero => simp at h; subst h; exact ⟨v, rfl, r⟩
 | succ j =>
  simp only [List.getElem?_cons_succ, Ziy, Zo1, List.getElem?_map] at h ⊢
  cases ej : ci[j]? with
  | none => rw [ej] at h; simp at h
  | some i =>
   rw [ej] at h
   simp only [Option.map_some, Option.some.injEq] at h ⊢
   cases es : σd[i]? with
   | none => rw [es] at h; simp at h
   | some o =>
    rw [es] at h
    simp at h
    subst h
    obtain ⟨u, h1, h2⟩ := s.var i e es
    exact ⟨u, by rw [h1]; rfl, h2⟩
theorem Zy3 {K : PySem.W.Frag} {it : ItF} {tt : TF} {te : EF} {σ : L2.St} {H : Hp} {Q : VK} (h : rdE K (eLC it ci tt te) σ H Q) : tLC (rdI K it) ci (rdT K tt) (rdE K te) σ H Q := by
 obtain ⟨ι, σd, Hd, d, Hd', s, hr, e, q⟩ := h
 obtain ⟨⟨⟨xs, own⟩, H1⟩, e1, e⟩ := Zo e
 obtain ⟨⟨ds, H2⟩, e2, e⟩ := Zo e
 obtain ⟨hz, e⟩ := Zkc e
 cases e
 dsimp only at e2 hz
 refine ⟨ι, σd, Hd, xs, own, H1, s, hr, e1, fun J H0 ι0 l0 h0 itr p hp => ?_⟩
 have s0 := s.mono l0
 refine ⟨fun i m ys H => m = xs.length - i ∧ i ≤ xs.length ∧ H p = some (.lst ys) ∧ ∃ ι Hd done rest, Le K H0 ι0 H ι ∧ p ∉ ι ∧ HRep K H ι Hd ∧ Paired (Rep K H ι) done ys ∧ Zdh own (Zo1 ci σd) tt te (xs.drop i) Hd = some (rest, H2) ∧ ds = done ++ rest,
  ⟨xs.length, by simp, Nat.zero_le _, Zbi, ι0, H1, [], ds, Le.fresh hp _, h0.fresh hp, h0.tup hp _, .nil, by simpa using e2, by simp⟩, ?_⟩
 rintro i m ys H5 ⟨rfl, hi, hpl, ι5, Hd5, done, rest, l5, np5, h5, pd5, e5, eds⟩
 refine ⟨hpl, ?_⟩
 by_cases hlt : i < xs.length
 ·have ed : xs.drop i = xs[i] :: xs.drop (i + 1) := List.drop_eq_getElem_cons hlt
  rw [ed, Zdh] at e5
  split at e5
  ·rename_i ok
   obtain ⟨⟨b6, H6⟩, e6, e5⟩ := Zo e5
   refine .inr ⟨itr.go i H5 ι5 Hd5 l5 h5 ok hlt, fun v H' y => ?_⟩
   obtain ⟨ι6, l6, h6, r6⟩ := itr.yld i H5 ι5 Hd5 xs[i] v H' l5 h5 ok (by simp [hlt]) y
   obtain ⟨hp6, np6⟩ := l6.frame p _ hpl np5
   have s6 := SRep.cap (ci := ci) (s0.mono (l5.trans l6)) r6
   refine ⟨ι6, _, Hd5, b6, H6, s6, h6, e6, fun H7 ι7 l7 h7 => ?_⟩
   obtain ⟨hp7, np7⟩ := l7.frame p _ hp6 np6
   have L7 := (l5.trans l6).trans l7
   cases b6 with
   | true =>
    rw [if_pos rfl]
    dsimp only at e5
    rw [if_pos rfl] at e5
    obtain ⟨⟨d8, H8⟩, e8, e5⟩ := Zo e5
    obtain ⟨⟨r9, H9⟩, e9, e5⟩ := Zm e5
    cases e5
    refine ⟨ι7, _, H6, d8, H8, s6.mono l7, h7, e8, fun v8 H8' ι8 l8 h8 rr8 => ?_⟩
    obtain ⟨hp8, np8⟩ := l8.frame p _ hp7 np7
    have ly : ys.length < sizeLine := by
     rw [← Prd.len pd5]
     rw [eds] at hz
     simp at hz
     omega
    have w8 : Lw K H8' ι8 (upd H8' p (.lst (ys ++ [v8]))) ι8 := Lw.side hp8 _
    refine ⟨hp8, ly, xs.length - (i + 1), by omega, rfl, hlt, Zbi, ι8, H8, done ++ [d8], r9, (L7.trans l8).side hp hp8 _, np8, h8.keep w8 (fun a ha => Za0 fun z => by subst z; exact np8 ha), ?_, e9, by rw [eds]; simp⟩
    exact Prd.append (Prd.monoW w8 (Prd.mono ((l6.trans l7).trans l8) pd5)) (.cons (Rep.monoW w8 rr8) .nil)
   | false =>
    rw [if_neg (by simp)]
    dsimp only at e5
    rw [if_neg (by simp)] at e5
    exact ⟨xs.length - (i + 1), by omega, rfl, hlt, hp7, ι7, H6, done, rest, L7, np7, h7, Prd.mono (l6.trans l7) pd5, e5, eds⟩
  ·cases e5
 ·rw [List.drop_eq_nil_of_le (by omega), Zdh] at e5
  split at e5
  ·rename_i ok
   have e6 : (([] : List D), Hd5) = (rest, H2) := Option.some.inj e5
   obtain ⟨rfl, rfl⟩ := Prod.mk.inj e6
   refine .inl ⟨itr.stop i H5 ι5 _ l5 h5 ok (by omega), ?_⟩
   have w5 : Lw K H5 ι5 H5 (ι5 ++ [p]) := ⟨fun _ _ z => z, fun _ _ z => z, ⟨[p], rfl⟩, fun _ _ _ z => z⟩
   have L := l0.trans l5
   simp at eds
   subst eds
   refine q _ H5 (ι5 ++ [p]) ⟨L.toLw.trans w5, fun a o ha na => ?_⟩ (h5.add np5 ⟨ys, hpl, Prd.monoW w5 pd5⟩) (Za8.mpr ⟨p, rfl, by rw [← h5.len]; simp⟩)
   obtain ⟨q1, q2⟩ := L.frame a o ha na
   refine ⟨q1, ?_⟩
   have : a ≠ p := fun z => by
    subst z
    have := (l0.frame a o ha na).1
    rw [hp] at this; cases this
   simp [q2, this]
  ·cases e5
theorem Zg1 {elt iter : Expr} {px pos : Pos} {ifs : List Expr} {it : ItF} {tt : TF} {te : EF} (hc : X.calm = true) (B : BlkOk X scope x cn ci) (hi : PIf X (.Name x px) iter it)
  (ht : ∀ cl C s H fp pn, Zz0 (blk X scope (x :: cn) cl C s H fp pn) ifs tt) (he : ∀ cl C s H fp pn, PEf (blk X scope (x :: cn) cl C s H fp pn) elt te)
  (hs : ∀ x, foldedSetIterable iter X.env x = pure x := by rintro _; rfl) : PEf X (.ListComp elt [⟨.Name x px, iter, ifs, 0⟩] scope pos) (eLC it ci tt te) :=
 PEi (pe_lc (tt := rdT X.K tt) (te := rdE X.K te) hc B hi ht he hs) fun _ _ _ h => Zy3 h
theorem Zgt {elt iter : Expr} {px py pos spos : Pos} {ifs : List Expr} {it : ItF} {tt : TF} {te : EF} {i : Nat} {y : Str} (hc : X.calm = true) (B : BlkOk X scope x cn ci) (hi : PIf X (.Name x px) iter it)
  (ht : ∀ cl C s H fp pn, Zz0 (blk X scope (x :: cn) cl C s H fp pn) ifs tt) (he : ∀ cl C s H fp pn, PEf (blk X scope (x :: cn) cl C s H fp pn) elt te)
  (hN : X.N.Nodup) (hiN : X.N[i]? = some y) (hy : X.env.scope.names.lookup y = some .local)
  (hsw : swapsWith (.ListComp elt [⟨.Name x px, iter, ifs, 0⟩] scope pos) (some (.Name y py)) spos.line X.env = pure true := by rfl)
  (hs : ∀ x, foldedSetIterable iter X.env x = pure x := by rintro _; rfl) : PSf X (.Assign [.Name y py] (.ListComp elt [⟨.Name x px, iter, ifs, 0⟩] scope pos) spos) (Zbd i (eLC it ci tt te)) := by
 refine PSi (Zuc (tt := rdT X.K tt) (te := rdE X.K te) hc B hi ht he hN hiN hy hsw hs) fun E σ H zz => ?_
 obtain ⟨ι, σd, Hd, fl, σd', Hd', s, hr, e, q⟩ := zz
 obtain ⟨⟨x, H1⟩, e1, e⟩ := Zm e
 cases e
 exact Zy3 ⟨ι, σd, Hd, x, H1, s, hr, e1, fun v H' ι' l h r => q _ H' ι' l h ((s.mono l).set r i)⟩
end
theorem Zw3 : fillsNumberSlot (.type "tuple") "mul" = pure false :=
 PySem.fillsNumberSlot_seq (id := "tuple.__mul__") (r := some (.builtin "tuple.__rmul__")) F.slot_tuple_mul.lookup (by decide +kernel) F.slot_tuple_rmul.lookup (by decide +kernel)
theorem repT : seqRepeat? (.type "tuple") = pure (some (.builtin "tuple.__mul__")) := by
 unfold seqRepeat?
 rw [PySem.seqSlot_of (T := "tuple") (name := "__mul__") (id := "tuple.__mul__") F.slot_tuple_mul.lookup (by decide +kernel), PySem.seqSlot_of (T := "tuple") (name := "__rmul__") (id := "tuple.__rmul__") F.slot_tuple_rmul.lookup (by decide +kernel)]
 rfl
section
variable {dd : Option Addr} {sl : Array (Option Value)}
theorem rmulT (a : Int) (t : Tok) (l : Addr) (items : Array Value) (n : Nat) :
  Meets (Builtin.«int.__rmul__» ⟨[.int a t, .ref l], []⟩) (fun _ R s => s.heap.get? l = some { cls := .type "tuple", dict := dd, data := .seq items n, slots := sl } ∧ R (.ok (.ret Value.notImplemented)) s) :=
 .of_wp fun prog w A R s h => by obtain ⟨hp, g, d, tk, os⟩ := s; obtain ⟨hl, h⟩ := h; wp_walk; exact ⟨_, rfl, h⟩
theorem Zqw (l : Addr) (items : Array Value) (n : Nat) (x : Int) (u : Tok) (h1 : (decide (x < -(2 ^ 63)) || decide (x ≥ 2 ^ 63)) = false) (h2 : (items.isEmpty || x == 1) = true) :
  Meets (Builtin.«tuple.__mul__» ⟨[.ref l, .int x u], []⟩) (fun _ R s => s.heap.get? l = some { cls := .type "tuple", dict := dd, data := .seq items n, slots := sl } ∧ R (.ok (.ret (.ref l))) s) :=
 .of_wp fun prog w A R s h => by
  obtain ⟨hp, g, d, tk, os⟩ := s; obtain ⟨hl, h⟩ := h
  have f1 := AutoSeq1.idx_int
  wp_walk
  simp only [h1, Bool.false_eq_true, if_false]
  wp_walk using wpAny_loadPart' hl
  simp only [h2, if_true]
  wp_walk using wpAny_loadPart' hl
  exact ⟨_, rfl, h⟩
theorem Zqn (l : Addr) (items : Array Value) (n : Nat) (x : Int) (u : Tok) (h1 : (decide (x < -(2 ^ 63)) || decide (x ≥ 2 ^ 63)) = false) (h2 : (items.isEmpty || x == 1) = false) (h3 : (decide (x ≤ 0) || items.isEmpty) = true) :
  Meets (Builtin.«tuple.__mul__» ⟨[.ref l, .int x u], []⟩) (fun _ R s => s.heap.get? l = some { cls := .type "tuple", dict := dd, data := .seq items n, slots := sl } ∧ R (.ok (.ret (.ref s.heap.objs.size))) { s with heap := s.heap.push { cls := Value.type "tuple", data := Data.seq #[] } }) :=
 .of_wp fun prog w A R s h => by
  obtain ⟨hp, g, d, tk, os⟩ := s; obtain ⟨hl, h⟩ := h
  have f1 := AutoSeq1.idx_int
  wp_walk
  simp only [h1, Bool.false_eq_true, if_false]
  wp_walk using wpAny_loadPart' hl
  try simp only [h2, h3, Bool.false_eq_true, if_false, if_true]
  try (wp_walk using wpAny_loadPart' hl)
  exact ⟨_, rfl, h⟩
theorem Ztl (l : Addr) (items : Array Value) (n : Nat) (x : Int) (u : Tok) (h1 : (decide (x < -(2 ^ 63)) || decide (x ≥ 2 ^ 63)) = false) (h2 : (items.isEmpty || x == 1) = false) (h3 : (decide (x ≤ 0) || items.isEmpty) = false) (h4 : ¬ (items.size * x : Int) > (2 ^ 63 - 1) / 8) (h5 : Builtin.Tuple.tupleTooMany (items.size * x) = false)
  (hs : (List.foldl (fun x1 x2 => x1 ++ x2) #[] (List.replicate x.toNat items)).size ≤ sizeLine) :
  Meets (Builtin.«tuple.__mul__» ⟨[.ref l, .int x u], []⟩) (fun _ R s => s.heap.get? l = some { cls := .type "tuple", dict := dd, data := .seq items n, slots := sl } ∧ R (.ok (.ret (.ref s.heap.objs.size))) { s with heap := s.heap.push { cls := Value.type "tuple", data := Data.seq (List.foldl (fun x1 x2 => x1 ++ x2) #[] (List.replicate x.toNat items)) } }) :=
 .of_wp fun prog w A R s h => by
  obtain ⟨hp, g, d, tk, os⟩ := s; obtain ⟨hl, h⟩ := h
  have f1 := AutoSeq1.idx_int
  wp_walk
  simp only [h1, Bool.false_eq_true, if_false]
  wp_walk using wpAny_loadPart' hl
  simp only [h2, h3, h5, Bool.false_eq_true, if_false, if_neg h4]
  wp_walk using wpAny_loadPart' hl
  exact ⟨_, rfl, h⟩
end
theorem Zjl (its : List Value) (m : Nat) : List.foldl (fun x1 x2 => x1 ++ x2) #[] (List.replicate m its.toArray) = (List.replicate m its).flatten.toArray := by
 have := Zic its m []
 rw [List.nil_append] at this
 exact this
section
variable {prog : Program} {w : World} {A : Around} {E : Value -> Shared -> Prop} {s : Shared}
theorem Zvr {l : Addr} {its : List Value} {k : Int} {t : Tok} {Q : Value -> Shared -> Prop} (p : IsTup s.heap l its.toArray) (h1 : -(2 ^ 63) ≤ k) (h2 : k < 2 ^ 63) (hz : its.length * k.toNat ≤ sizeLine)
  (qs : (its = [] ∨ k = 1) → Q (.ref l) s) (qn : its ≠ [] → k ≠ 1 → Q (.ref s.heap.objs.size) { s with heap := s.heap.push { cls := .type "tuple", data := .seq (List.replicate k.toNat its).flatten.toArray } }) :
  wpAny (model prog w) A (binaryOp .Mult (.ref l) (.int k t)) Q E s := by
 obtain ⟨o, e, hc, n, hd⟩ := p
 obtain ⟨c, dd, da, sl⟩ := o
 have hc' : c = .type "tuple" := hc
 have hd' : da = .seq its.toArray n := hd
 subst hc' hd'
 have b1 : (decide (k < -(2 ^ 63)) || decide (k ≥ 2 ^ 63)) = false := by simp; omega
 refine wpAny_binaryOp_repeat_ref (T := "tuple") (U := "int") (by decide) ⟨_, e, rfl⟩ (fun s' => typeIs_int s' k t) Zw3 F.fills_int_mul F.slot_int_rmul repT F.slot_int_index.lookup
  (call_meets F.slot_int_rmul (typeIs_int s k t) F.entry_int_rmul (F.args_int_rmul_2 _ _) (rmulT k t l its.toArray n) ⟨e, rfl, ⟨_, e, rfl⟩, ?_⟩)
 by_cases hs : its = [] ∨ k = 1
 ·exact call_meets F.slot_tuple_mul ⟨_, e, rfl⟩ F.entry_tuple_mul (F.args_tuple_mul_2 _ _) (Zqw l its.toArray n k t b1 (by rcases hs with h | h <;> simp [h])) ⟨e, qs hs⟩
 ·have hne : its ≠ [] := fun h => hs (.inl h)
  have hk : k ≠ 1 := fun h => hs (.inr h)
  have b2 : (its.toArray.isEmpty || k == 1) = false := by cases its <;> simp_all
  have new := qn hne hk
  by_cases h0 : k ≤ 0
  ·have z : k.toNat = 0 := by omega
   rw [z] at new
   exact call_meets F.slot_tuple_mul ⟨_, e, rfl⟩ F.entry_tuple_mul (F.args_tuple_mul_2 _ _) (Zqn l its.toArray n k t b1 b2 (by simp [h0])) ⟨e, new⟩
  ·have sz : sizeLine = 16777216 := PySem.sizeLine_eq
   have hm : (its.toArray.size : Int) * k ≤ 16777216 := by
    have e1 : k = (k.toNat : Int) := by omega
    rw [List.size_toArray, e1, ← Int.natCast_mul]
    omega
   have b3 : (decide (k ≤ 0) || its.toArray.isEmpty) = false := by cases its <;> simp_all
   refine call_meets F.slot_tuple_mul ⟨_, e, rfl⟩ F.entry_tuple_mul (F.args_tuple_mul_2 _ _) (Ztl l its.toArray n k t b1 b2 b3 (by omega) (by simp only [Builtin.Tuple.tupleTooMany, decide_eq_false_iff_not, sz]; omega) ?_) ⟨e, ?_⟩
   ·rw [Zjl, List.size_toArray, Znd, Nat.mul_comm]; exact hz
   ·rw [Zjl]; exact new
end
variable {X : Cx}
noncomputable def rRepT (K : PySem.W.Frag) : R2 := fun x y H Q => ∃ l k xs, x = .ref l ∧ y = .int k ∧ SqT K H l xs ∧ -(2 ^ 63) ≤ k ∧ k < 2 ^ 63 ∧ xs.length * k.toNat ≤ sizeLine ∧ ((xs = [] ∨ k = 1) -> Q (.ref l) H) ∧
 (xs ≠ [] -> k ≠ 1 -> ∀ p, H p = none -> Q (.ref p) (upd H p (.tup (List.replicate k.toNat xs).flatten)))
theorem Zxm : OpR X (binaryOp .Mult) (rRepT X.K) := by
 intro pins s σ H x y v u Q I rx ry h
 obtain ⟨l, k, xs, rfl, rfl, ha, h1, h2, hz, q1, q2⟩ := h
 cases rx
 obtain ⟨t, rfl⟩ := ry
 obtain ⟨its, r1, p1, _⟩ := I.tuple ha
 refine Zvr p1 h1 h2 (by rw [← r1.length]; exact hz) (fun z => ⟨.ref l, H, I, rfl, q1 (z.imp r1.nil_iff.mp id)⟩) (fun z zk => ?_)
 refine ⟨.ref s.heap.objs.size, _, I.laid (t' := s.toks) (o := .tup (List.replicate k.toNat xs).flatten) (fun b ob q => Heap.get?_push_of_some _ q) (Nat.le_refl _) ?_, rfl, q2 (fun w => z (r1.nil_iff.mpr w)) zk _ (I.hok.fresh (Nat.le_refl _))⟩
 exact ⟨by rw [Znd, Nat.mul_comm]; exact hz, _, r1.rep k.toNat, Zkr.new _ _⟩
section
variable {X : Cx}
noncomputable def iiD (C : Int -> Int -> Prop) [∀ i j, Decidable (C i j)] (g : Int -> Int -> D) : F2 := fun x y H => match x, y with
 | .int i, .int j => if C i j then some (g i j, H) else none
 | _, _ => none
theorem Zoy {f : Value -> Value -> Sem Value} {C : Int -> Int -> Prop} [∀ i j, Decidable (C i j)] {g : Int -> Int -> Int} (h : OpR X f (rI C fun i j => .int (g i j))) : OpF X f (iiD C fun i j => .int (g i j)) := by
 refine OpRi h fun x y H Q zz => ?_
 obtain ⟨ι, dx, dy, Hd, d, Hd', hr, r1, r2, e, q⟩ := zz
 cases dx <;> cases dy <;> simp only [iiD] at e <;> try cases e
 rename_i i j
 split at e
 ·rename_i hc
  cases e
  simp at r1 r2
  exact ⟨i, j, r1, r2, hc, q _ H ι Le.refl hr (by simp)⟩
 ·cases e
noncomputable def CT (_ _ : Int) : Prop := True
instance : ∀ i j, Decidable (CT i j) := fun _ _ => instDecidableTrue
theorem Zyc {f : Value -> Value -> Sem Value} {g : Int -> Int -> V} (h : OpR X f (rI0 g)) : OpR X f (rI CT g) := OpRi h fun x y H Q ⟨i, j, e1, e2, _, q⟩ => ⟨i, j, e1, e2, q⟩
theorem Zqj {f : Value -> Value -> Sem Value} {g : Int -> Int -> Bool} (h : OpR X f (rI0 fun i j => .bl (g i j))) : OpF X f (iiD CT fun i j => .bl (g i j)) := by
 refine OpRi h fun x y H Q zz => ?_
 obtain ⟨ι, dx, dy, Hd, d, Hd', hr, r1, r2, e, q⟩ := zz
 cases dx <;> cases dy <;> simp only [iiD] at e <;> try cases e
 rename_i i j
 simp at r1 r2
 exact ⟨i, j, r1, r2, q _ H ι Le.refl hr (by simp)⟩
instance (i j : Int) : Decidable (Zxe i j) := by unfold Zxe; exact inferInstance
instance (i j : Int) : Decidable (Zr5 i j) := by unfold Zr5; exact inferInstance
instance (i j : Int) : Decidable (Zxu i j) := by unfold Zxu; exact inferInstance
noncomputable def Zpn (_ j : Int) : Prop := 0 < j
instance (i j : Int) : Decidable (Zpn i j) := by unfold Zpn; exact inferInstance
noncomputable def Zkg : F2 := iiD CT fun i j => .int (i - j)
noncomputable def Zgy : F2 := iiD Zxe fun i j => .int (i / j)
noncomputable def Zgn : F2 := iiD Zpn fun i j => .int (i % j)
noncomputable def Znw : F2 := iiD Zxu fun i j => .int (i ^ j.toNat)
noncomputable def ltD : F2 := iiD CT fun i j => .bl (decide (i < j))
noncomputable def gtD : F2 := iiD CT fun i j => .bl (decide (j < i))
noncomputable def geD : F2 := iiD CT fun i j => .bl (decide (j ≤ i))
theorem Zha : OpF X (binaryOp .Sub) Zkg := Zoy (Zyc Zzt)
theorem Zh2 : OpF X (binaryOp .FloorDiv) Zgy := Zoy Zv3
theorem Zfp : OpF X (binaryOp .Mod) Zgn := Zoy (C := Zpn) Zyl
theorem Znz : OpF X (binaryOp .Pow) Znw := Zoy Zz1
theorem Zrl : OpF X (compareOp .Lt) ltD := Zqj op_lt
theorem Zjd : OpF X (compareOp .Gt) gtD := Zqj op_gt
theorem Zu9 : OpF X (compareOp .GtE) geD := Zqj op_ge
noncomputable def Zlb : D -> HD -> Option (D × HD) := fun x H => match x with
 | .int i => some (.int (-i), H)
 | _ => none
theorem Zih : UnF X (unaryOp .USub) Zlb := by
 rintro pins s σ H x v Q I rx ⟨ι, dx, Hd, d, Hd', hr, r1, e, q⟩
 cases dx <;> simp only [Zlb] at e <;> try cases e
 simp at r1
 exact Zzz pins s σ H x v Q I rx ⟨_, r1, q _ H ι Le.refl hr (by simp)⟩
theorem Zti {prog : Program} {w : World} {A : Around} {E : Value -> Shared -> Prop} {s : Shared} {t b : Addr} {ws : List Value} {Q : Value -> Shared -> Prop} (ht : IsTup s.heap t #[]) (hb : IsTup s.heap b ws.toArray)
  (h1 : Q (.ref b) s) : wpAny (model prog w) A (binaryOp .Add (.ref t) (.ref b)) Q E s := by
 obtain ⟨⟨cls, dd, data, sl⟩, ho, hc, n, hd⟩ := id ht
 obtain ⟨⟨cls2, dd2, data2, sl2⟩, ho2, hc2, n2, hd2⟩ := id hb
 simp only at hc hd hc2 hd2
 subst hc hd hc2 hd2
 exact concat_meets ⟨_, ho, rfl⟩ ⟨_, ho2, rfl⟩ noFill_tuple_add seq_tuple_add PySem.F.slot_tuple_add PySem.F.entry_tuple_add (PySem.F.args_tuple_add_2 _ _)
   (tuple_addW0 t b #[] ws.toArray n n2 dd dd2 sl sl2 (by simp)) ⟨ho, ho2, h1⟩
noncomputable def Zc1 : F2 := fun x y H => match x, y with
 | .int i, .int j => some (.int (i + j), H)
 | .str a, .str b => if a.length + b.length ≤ sizeLine then some (.str (a ++ b), H) else none
 | .tup a, .tup b => mkT (a ++ b) H
 | .ref n, .ref m => match H[n]?, H[m]? with
  | some (.lst a), some (.lst b) => mkL (a ++ b) H
  | _, _ => none
 | _, _ => none
theorem Zb4 : OpF X (binaryOp .Add) Zc1 := by
 rintro pins s σ H x y v u Q I rx ry ⟨ι, dx, dy, Hd, d, Hd', hr, r1, r2, e, q⟩
 cases dx <;> cases dy <;> simp only [Zc1] at e <;> try cases e
 ·simp at r1 r2
  exact Zx0 pins s σ H x y v u Q I rx ry ⟨_, _, r1, r2, q _ H ι Le.refl hr (by simp)⟩
 ·simp at r1 r2
  split at e
  ·rename_i hl
   cases e
   exact Zpl pins s σ H x y v u Q I rx ry ⟨_, _, r1, r2, hl, q _ H ι Le.refl hr (by simp)⟩
  ·cases e
 ·rename_i as bs
  obtain ⟨a, vs, rfl, h1, p1⟩ := Zb3.mp r1
  obtain ⟨b, ws, rfl, h2, p2⟩ := Zb3.mp r2
  cases p1 with
  | nil =>
   obtain ⟨hl, e⟩ := Zh5 e
   simp only [List.nil_append, Prod.mk.injEq] at e
   obtain ⟨rfl, rfl⟩ := e
   cases rx
   cases ry
   obtain ⟨its, q1, t1, _⟩ := I.tuple h1
   obtain ⟨its2, q2, t2, _⟩ := I.tuple h2
   cases q1
   exact Zti t1 t2 ⟨.ref b, H, I, rfl, q _ H ι Le.refl hr r2⟩
  | cons p p' =>
   have P := Prd.append (.cons p p') p2
   obtain ⟨hl, e'⟩ := Zh5 e
   cases p2 with
   | nil =>
    simp only [List.append_nil, Prod.mk.injEq] at e'
    obtain ⟨rfl, rfl⟩ := e'
    refine Zrn pins s σ H _ _ v u Q I rx ry ⟨a, b, _, _, rfl, rfl, h1, h2, by simp, ?_, fun _ => q _ H ι Le.refl hr r1, fun z => absurd rfl z⟩
    have := Prd.len P
    simp only [List.append_nil] at this hl
    simp only [List.length_nil]
    omega
   | cons p3 p4 =>
    obtain ⟨k1, k2⟩ := Zio hr P e q
    refine Zrn pins s σ H _ _ v u Q I rx ry ⟨a, b, _, _, rfl, rfl, h1, h2, by simp, ?_, fun z => absurd z (by simp), fun _ => k2⟩
    rw [← List.length_append]; exact k1
 ·rename_i n m
  obtain ⟨a, rfl, ha⟩ := Za8.mp r1
  obtain ⟨b, rfl, hb⟩ := Za8.mp r2
  split at e
  ·rename_i as bs e1 e2
   obtain ⟨vs, h1, p1⟩ := hr.obj n a _ ha e1
   obtain ⟨ws, h2, p2⟩ := hr.obj m b _ hb e2
   obtain ⟨k1, k2⟩ := Zgb hr (Prd.append p1 p2) e q
   exact Zz3 pins s σ H _ _ v u Q I rx ry ⟨a, b, vs, ws, rfl, rfl, h1, h2, by rw [← List.length_append]; exact k1, k2⟩
  ·cases e
noncomputable def Ziz : F2 := fun x y H => match x, y with
 | .int i, .int j => if Zr5 i j then some (.int (i * j), H) else none
 | .ref n, .int k => match H[n]? with
  | some (.lst a) => if -(2 ^ 63) ≤ k ∧ k < 2 ^ 63 ∧ a.length * k.toNat ≤ sizeLine then mkL (List.replicate k.toNat a).flatten H else none
  | _ => none
 | .tup a, .int k => if -(2 ^ 63) ≤ k ∧ k < 2 ^ 63 ∧ a.length * k.toNat ≤ sizeLine then mkT (List.replicate k.toNat a).flatten H else none
 | _, _ => none
theorem Zib : OpF X (binaryOp .Mult) Ziz := by
 rintro pins s σ H x y v u Q I rx ry ⟨ι, dx, dy, Hd, d, Hd', hr, r1, r2, e, q⟩
 cases dx <;> cases dy <;> simp only [Ziz] at e <;> try cases e
 ·simp at r1 r2
  split at e
  ·rename_i hc
   cases e
   exact Zy1 pins s σ H x y v u Q I rx ry ⟨_, _, r1, r2, hc, q _ H ι Le.refl hr (by simp)⟩
  ·cases e
 ·rename_i as k
  obtain ⟨a, vs, rfl, h1, p1⟩ := Zb3.mp r1
  simp at r2
  split at e
  ·rename_i hc
   have hlen := Prd.len p1
   obtain ⟨k1, k2⟩ := Zio hr (Prd.rep p1 k.toNat) e q
   refine Zxm pins s σ H _ _ v u Q I rx ry ⟨a, k, vs, rfl, r2, h1, hc.1, hc.2.1, by rw [← hlen]; exact hc.2.2, fun z => ?_, fun _ _ => k2⟩
   obtain ⟨_, e'⟩ := Zh5 e
   have hf : (List.replicate k.toNat as).flatten = as := by
    rcases z with z | z
    ·have : as = [] := List.eq_nil_of_length_eq_zero (by rw [hlen, z]; rfl)
     subst this
     simp
    ·subst z
     simp
   rw [hf] at e'
   cases e'
   exact q _ H ι Le.refl hr r1
  ·cases e
 ·rename_i n k
  obtain ⟨a, rfl, ha⟩ := Za8.mp r1
  simp at r2
  split at e
  ·rename_i as e1
   obtain ⟨vs, h1, p1⟩ := hr.obj n a _ ha e1
   split at e
   ·rename_i hc
    obtain ⟨k1, k2⟩ := Zgb hr (Prd.rep p1 _) e q
    exact Zzd pins s σ H _ _ v u Q I rx ry ⟨a, k, vs, rfl, r2, h1, hc.1, hc.2.1, by rw [← Prd.len p1]; exact hc.2.2, k2⟩
   ·cases e
  ·cases e
noncomputable def Zf7 : D -> HD -> Option (List D)
 | .tup xs, _ => some xs
 | .fl xs, _ => some xs
 | .ref n, H => match H[n]? with
  | some (.lst xs) => some xs
  | _ => none
 | _, _ => none
theorem Zl7 {K : PySem.W.Frag} {H : Hp} {ι : List Addr} {Hd : HD} {d : D} {xs : List D} {v : V} (hr : HRep K H ι Hd) (r : Rep K H ι d v) (e : Zf7 d Hd = some xs) : ∃ p vs, v = .ref p ∧ (SqL K H p vs ∨ SqT K H p vs) ∧ Paired (Rep K H ι) xs vs := by
 cases d with
 | tup ys => cases e; obtain ⟨a, vs, rfl, h, p⟩ := Zb3.mp r; exact ⟨a, vs, rfl, .inr h, p⟩
 | fl ys => cases e; obtain ⟨a, vs, rfl, h, p⟩ := Zf9.mp r; exact ⟨a, vs, rfl, .inl h.sq, p⟩
 | ref n =>
  obtain ⟨a, rfl, ha⟩ := Za8.mp r
  simp only [Zf7] at e
  split at e
  ·rename_i ys e1
   cases e
   obtain ⟨vs, h1, p1⟩ := hr.obj n a _ ha e1
   exact ⟨a, vs, rfl, .inl (SqL.of h1), p1⟩
  ·cases e
 | _ => simp [Zf7] at e
theorem Zww {α β : Type} {F : α -> β -> Prop} {xs : List α} {us : List β} {i : Int} {x : α} (r : Paired F xs us) (h : atI xs i = some x) : ∃ u, atI us i = some u ∧ F x u := by
 unfold atI at h ⊢
 rw [← Prd.len r]
 obtain ⟨j, h1, h2⟩ := Zo h
 obtain ⟨u, h3, h4⟩ := Prd.get r h2
 exact ⟨u, by rw [h1]; exact h3, h4⟩
noncomputable def ixD : F2 := fun x y H => match y with
 | .int i => (Zf7 x H).bind fun xs => (atI xs i).map fun d => (d, H)
 | _ => none
theorem ixf : IxF X ixD := by
 rintro va sl pins s σ H x y v u Q I rx ry ⟨ι, dx, dy, Hd, d, Hd', hr, r1, r2, e, q⟩ hs
 cases dy <;> simp only [ixD] at e <;> try cases e
 rename_i i
 simp at r2
 obtain ⟨xs, e1, e⟩ := Zo e
 obtain ⟨d', e2, e⟩ := Zm e
 obtain ⟨rfl, rfl⟩ := Prod.mk.inj e
 obtain ⟨p, vs, rfl, h, P⟩ := Zl7 hr r1 e1
 obtain ⟨z, hz, rz⟩ := Zww P e2
 rcases h with h | h
 ·exact Zvm va sl pins s σ H _ _ v u Q I rx ry ⟨p, vs, i, z, rfl, r2, h, hz, q _ H ι Le.refl hr rz⟩ hs
 ·exact Zx9 va sl pins s σ H _ _ v u Q I rx ry ⟨p, vs, i, z, rfl, r2, h, hz, q _ H ι Le.refl hr rz⟩ hs
noncomputable def Zjw : Zxo := fun o i v H => match o, i with
 | .ref n, .int k => match H[n]? with
  | some (.lst xs) => (ixN xs.length k).map fun j => H.set n (.lst (xs.set j v))
  | _ => none
 | _, _ => none
theorem Zzs : Zyv X Zjw := by
 rintro pins s σ H o i v ov iv u Q I ro ri rv ⟨ι, od, id, vd, Hd, Hd', hr, r1, r2, r3, e, q⟩
 cases od <;> cases id <;> simp only [Zjw] at e <;> try cases e
 rename_i n k
 obtain ⟨a, rfl, ha⟩ := Za8.mp r1
 simp at r2
 split at e
 ·rename_i xs e1
  obtain ⟨j, e2, e⟩ := Zm e
  subst e
  obtain ⟨vs, h1, P⟩ := hr.obj n a _ ha e1
  refine Zs9 pins s σ H _ _ v ov iv u Q I ro ri rv ⟨a, vs, k, j, rfl, r2, h1, by rw [← Prd.len P]; exact e2, ?_⟩
  have L : Le X.K H ι (upd H a (.lst (vs.set j v))) ι := Le.upd (List.mem_of_getElem? ha) h1 trivial _
  exact q _ ι L (hr.upd ha h1 trivial ⟨_, Zbi, Prd.set (r3.mono L) j (Prd.mono L P)⟩)
 ·cases e
noncomputable def Zi2 (xs : List D) (lo hi : Option Int) : List D := (xs.drop (HT.sIx xs.length 0 lo)).take (HT.sIx xs.length xs.length hi - HT.sIx xs.length 0 lo)
theorem Zkk {K : PySem.W.Frag} {H : Hp} {ι : List Addr} {xs : List D} {vs : List V} (P : Paired (Rep K H ι) xs vs) (lo hi : Option Int) : Paired (Rep K H ι) (Zi2 xs lo hi) (Zu0 vs lo hi) := by
 unfold Zi2 Zu0
 rw [← Prd.len P]
 exact Prd.take _ (Prd.drop _ P)
noncomputable abbrev OF := SD -> HD -> Option (Option Int × HD)
noncomputable def rdO (K : PySem.W.Frag) (f : OF) : TO := fun σ H Q => ∃ ι σd Hd o Hd', SRep K H ι σ σd ∧ HRep K H ι Hd ∧ f σd Hd = some (o, Hd') ∧ ∀ H' ι', Le K H ι H' ι' -> HRep K H' ι' Hd' -> Q o H'
noncomputable def POf (X : Cx) (e : Option Expr) (f : OF) : Prop := PO X e (rdO X.K f)
noncomputable def Zfu : OF := fun _ H => some (none, H)
noncomputable def Zfm (f : EF) : OF := fun σ H => (f σ H).bind fun p => match p.1 with
 | .int i => some (some i, p.2)
 | _ => none
theorem Zfb : POf X none Zfu := by
 rintro pins s σ H Q I ⟨ι, σd, Hd, o, Hd', sr, hr, e, q⟩
 cases e
 exact Zwk pins s σ H Q I (q H ι Le.refl hr)
theorem Zfi {e : Expr} {f : EF} (h : PEf X e f) : POf X (some e) (Zfm f) := by
 rintro pins s σ H Q I ⟨ι, σd, Hd, o, Hd', sr, hr, e, q⟩
 obtain ⟨⟨d, H1⟩, e1, e⟩ := Zo e
 cases d <;> try cases e
 rename_i i
 exact Zwb h pins s σ H Q I ⟨ι, σd, Hd, _, _, sr, hr, e1, fun v H' ι' l h r => ⟨i, by simpa using r, q H' ι' l h⟩⟩
noncomputable def slD (x : D) (lo hi : Option Int) (H : HD) : Option (D × HD) := match x with
 | .tup xs => some (.tup (Zi2 xs lo hi), H)
 | .fl xs => some (.ref H.length, H ++ [.lst (Zi2 xs lo hi)])
 | .ref n => match H[n]? with
  | some (.lst xs) => some (.ref H.length, H ++ [.lst (Zi2 xs lo hi)])
  | _ => none
 | _ => none
theorem Zgh {prog : Program} {w : World} {A : Around} {E : Value -> Shared -> Prop} {s : Shared} {t sl : Addr} {items : Array Value} {vl vu : Value} {lo hi : Option Int} {Q : Value -> Shared -> Prop} (ht : IsTup s.heap t items) (hs : s.heap.IsSliceOf sl vl vu .none) (pl : IsPart vl lo) (pu : IsPart vu hi)
  (hw : HT.sIx items.size 0 lo = 0 ∧ HT.sIx items.size items.size hi = items.size) (h : Q (.ref t) s) : wpAny (model prog w) A (getItem (.ref t) (.ref sl)) Q E s := by
 obtain ⟨os, hos, hcs, hds⟩ := id hs
 have hTs : s.TypeIs (.ref sl) "slice" := ⟨os, hos, hcs⟩
 obtain ⟨ot, hot, hct, nt, hdt⟩ := id ht
 unfold getItem
 try with_reducible refine wpAny_holding ?_
 first | refine wpAny_bind (wpAny_pure ?_) | skip
 refine wpAny_bind (wpAny_sequenceKey ht.typeIs (by decide) ?_)
 refine wpAny_bind (wpAny_callSpecial?_slot (name := Str.ofString "__getitem__") ht.typeIs PyProof.Rows.slot_tuple_getitem
  (wpAny_call_entry PyProof.Rows.slot_tuple_getitem ht.typeIs entry_tuple_getitem ?_ (args_tuple_getitem _ _)))
 show wpAny _ _ (Builtin.Tuple.tupleItemsOf (.ref t) >>= _) _ _ s
 refine wpAny_bind (tupleItemsOf_ ht ?_)
 refine wpAny_bind (wpAny_typeOf hTs ?_)
 rw [if_pos (by decide)]
 refine wpAny_bind (HT.sliceApplied_gen hs pl pu ?_)
 show wpAny _ _ (if (((HT.sIx items.size 0 lo : Nat) : Int) == 0 && (1 : Int) == 1 && (HT.sIx items.size items.size hi - HT.sIx items.size 0 lo) == items.size) = true then _ else _) _ _ s
 rw [if_pos (by rw [hw.1, hw.2]; simp)]
 show wpAny _ _ (Builtin.Tuple.tupleIsExact (Value.ref t) >>= _) _ _ s
 unfold Builtin.Tuple.tupleIsExact
 refine wpAny_bind (wpAny_bind (wpAny_typeOf ht.typeIs (wpAny_pure ?_)))
 rw [if_pos (by decide)]
 exact wpAny_bind (wpAny_rule (wpAny_pure ⟨_, rfl, wpAny_pure h⟩))
theorem Zpr {xs : List D} {lo hi : Option Int} (h : HT.sIx xs.length 0 lo = 0 ∧ HT.sIx xs.length xs.length hi = xs.length) : Zi2 xs lo hi = xs := by
 unfold Zi2
 rw [h.1, h.2]; simp
noncomputable def rdSl (K : PySem.W.Frag) : V -> Option Int -> Option Int -> Hp -> VK -> Prop := fun x lo hi H Q => ∃ ι dx Hd d Hd', HRep K H ι Hd ∧ Rep K H ι dx x ∧ slD dx lo hi Hd = some (d, Hd') ∧ QE K H ι d Hd' Q
theorem slf : SlR X (rdSl X.K) := by
 rintro pins s σ H x v vl vu lo hi sl Q I rx hs pl pu ⟨ι, dx, Hd, d, Hd', hr, r, e, q⟩
 have lists : ∀ {a : Addr} {xs : List D} {vs : List V}, x = .ref a -> SqL X.K H a vs -> Paired (Rep X.K H ι) xs vs -> (D.ref Hd.length, Hd ++ [DO.lst (Zi2 xs lo hi)]) = (d, Hd') →
   ∃ T id, typeLookup (.type T) "__getitem__" = pure (some (.builtin id)) ∧ s.TypeIs v T ∧ wpAny (model X.prog X.w) X.A (getItem v (.ref sl)) (EP X pins σ Q) X.xe s := fun {a xs vs} ex h P e => by
  obtain ⟨_, _, _, hz⟩ := I.list h
  have hz2 : (Zi2 xs lo hi).length ≤ sizeLine := by
   rw [Prd.len (Zkk P lo hi)]
   exact Nat.le_trans (Zfh vs lo hi) hz
  obtain ⟨k1, k2⟩ := Zgb hr (Zkk P lo hi) (show mkL (Zi2 xs lo hi) Hd = some (d, Hd') by unfold mkL; rw [if_pos hz2, e]) q
  exact Zxb pins s σ H x v vl vu lo hi sl Q I rx hs pl pu ⟨a, vs, ex, h, k2⟩
 cases dx with
 | tup xs =>
  obtain ⟨a, vs, rfl, h, P⟩ := Zb3.mp r
  simp only [slD, Option.some.injEq] at e
  obtain ⟨its, rv, ht, hz⟩ := I.tuple h
  have hlen : its.toArray.size = vs.length := by rw [List.size_toArray]; exact rv.length.symm
  by_cases hw : HT.sIx vs.length 0 lo = 0 ∧ HT.sIx vs.length vs.length hi = vs.length
  ·cases rx
   refine ⟨"tuple", _, PyProof.Rows.slot_tuple_getitem.lookup, ht.typeIs, Zgh ht hs pl pu (by rw [hlen]; exact hw) ?_⟩
   rw [Zpr (by rw [Prd.len P]; exact hw)] at e
   obtain ⟨rfl, rfl⟩ := Prod.mk.inj e
   exact ⟨.ref a, H, I, rfl, q _ H ι Le.refl hr r⟩
  ·have hz2 : (Zi2 xs lo hi).length ≤ sizeLine := by
    rw [Prd.len (Zkk P lo hi)]
    exact Nat.le_trans (Zfh vs lo hi) hz
   obtain ⟨k1, k2⟩ := Zio hr (Zkk P lo hi) (show mkT (Zi2 xs lo hi) Hd = some (d, Hd') by unfold mkT; rw [if_pos hz2, e]) q
   exact Zx1 pins s σ H _ v vl vu lo hi sl Q I rx hs pl pu ⟨a, vs, rfl, h, hw, k2⟩
 | fl xs =>
  obtain ⟨a, vs, rfl, h, P⟩ := Zf9.mp r
  simp only [slD, Option.some.injEq] at e
  exact lists rfl h.sq P e
 | ref n =>
  obtain ⟨a, rfl, ha⟩ := Za8.mp r
  simp only [slD] at e
  split at e
  ·rename_i xs e1
   obtain ⟨vs, h1, P⟩ := hr.obj n a _ ha e1
   exact lists rfl (SqL.of h1) P (Option.some.inj e)
  ·cases e
 | _ => simp [slD] at e
noncomputable def eSl (fe : EF) (fl fh : OF) : EF := fun σ H => (fe σ H).bind fun p => (fl σ p.2).bind fun l => (fh σ l.2).bind fun h => slD p.1 l.1 h.1 h.2
theorem Zeo {e : Expr} {lo hi : Option Expr} {fe : EF} {fl fh : OF} {pos p2 : Pos} (he : PEf X e fe) (hl : POf X lo fl) (hu : POf X hi fh) : PEf X (.Subscript e (.Slice lo hi none p2) pos) (eSl fe fl fh) := by
 refine PEi (Zuh slf he hl hu) fun σ H Q zz => ?_
 obtain ⟨ι, σd, Hd, d, Hd', s, hr, e, q⟩ := zz
 obtain ⟨⟨x, H1⟩, e1, e⟩ := Zo e
 obtain ⟨⟨y, H2⟩, e2, e⟩ := Zo e
 obtain ⟨⟨z, H3⟩, e3, e⟩ := Zo e
 exact ⟨ι, σd, Hd, x, H1, s, hr, e1, fun v1 H1' ι1 l1 h1 r1 => ⟨ι1, σd, H1, y, H2, s.mono l1, h1, e2, fun H2' ι2 l2 h2 => ⟨ι2, σd, H2, z, H3, s.mono (l1.trans l2), h2, e3, fun H3' ι3 l3 h3 =>
  ⟨ι3, x, H3, d, Hd', h3, r1.mono (l2.trans l3), e, fun v H' ι' l h r => q v H' ι' (((l1.trans l2).trans l3).trans l) h r⟩⟩⟩⟩
noncomputable def Zd8 : FF := fun ds H => match ds with
 | [.str x] => if x.length ≤ sizeLine then some (.int x.length, H) else none
 | [d] => (Zf7 d H).map fun xs => (.int xs.length, H)
 | _ => none
theorem Zl3 {K : PySem.W.Frag} {H : Hp} {ι : List Addr} {d : D} {vs : List V} (P : Paired (Rep K H ι) [d] vs) : ∃ v, vs = [v] ∧ Rep K H ι d v := by
 cases P with
 | cons r t => cases t; exact ⟨_, rfl, r⟩
theorem prd2 {K : PySem.W.Frag} {H : Hp} {ι : List Addr} {d d' : D} {vs : List V} (P : Paired (Rep K H ι) [d, d'] vs) : ∃ v v', vs = [v, v'] ∧ Rep K H ι d v ∧ Rep K H ι d' v' := by
 cases P with
 | cons r t => obtain ⟨v, rfl, r'⟩ := Zl3 t; exact ⟨_, _, rfl, r, r'⟩
theorem Za1 : Zh0 X (.builtin "len") Zd8 := by
 rintro pins s σ H xs us Q I rv ⟨ι, ds, Hd, d, Hd', hr, P, e, q⟩
 unfold Zd8 at e
 split at e
 ·obtain ⟨v, rfl, r⟩ := Zl3 P
  simp at r
  subst r
  split at e
  ·rename_i hl
   cases e
   exact Zli pins s σ H _ us Q I rv ⟨_, rfl, hl, q _ H ι Le.refl hr (by simp)⟩
  ·cases e
 ·obtain ⟨v, rfl, r⟩ := Zl3 P
  obtain ⟨ys, e1, e⟩ := Zm e
  obtain ⟨rfl, rfl⟩ := Prod.mk.inj e
  obtain ⟨p, vs, rfl, h, P2⟩ := Zl7 hr r e1
  exact Zmo pins s σ H _ us Q I rv ⟨p, vs, rfl, h, q _ H ι Le.refl hr (by simp [Prd.len P2])⟩
 ·cases e
noncomputable def Zxp : FF := fun ds H => match ds with
 | [.int i] => some (.int (if i < 0 then -i else i), H)
 | _ => none
theorem Zij : Zh0 X (.builtin "abs") Zxp := by
 rintro pins s σ H xs us Q I rv ⟨ι, ds, Hd, d, Hd', hr, P, e, q⟩
 unfold Zxp at e
 split at e
 ·obtain ⟨v, rfl, r⟩ := Zl3 P
  simp at r
  subst r
  cases e
  exact Zt4 pins s σ H _ us Q I rv ⟨_, rfl, q _ H ι Le.refl hr (by simp)⟩
 ·cases e
noncomputable def Zsx : FF := fun ds H => match ds with
 | [.int i, .int j] => some (.int (if j < i then j else i), H)
 | _ => none
theorem Zl6 (hc : X.calm = true) : Zh0 X (.builtin "min") Zsx := by
 rintro pins s σ H xs us Q I rv ⟨ι, ds, Hd, d, Hd', hr, P, e, q⟩
 unfold Zsx at e
 split at e
 ·obtain ⟨v, v', rfl, r, r'⟩ := prd2 P
  simp at r r'
  subst r r'
  cases e
  exact Zqd hc pins s σ H _ us Q I rv ⟨_, _, rfl, q _ H ι Le.refl hr (by simp)⟩
 ·cases e
noncomputable def Zxr : FF := fun ds H => match ds with
 | [.int i] => some (.int i, H)
 | [.bl b] => some (.int (if b then 1 else 0), H)
 | _ => none
theorem Zrh : Zh0 X (.type "int") Zxr := by
 rintro pins s σ H xs us Q I rv ⟨ι, ds, Hd, d, Hd', hr, P, e, q⟩
 unfold Zxr at e
 split at e
 ·obtain ⟨v, rfl, r⟩ := Zl3 P
  simp at r
  subst r
  cases e
  exact Zmn pins s σ H _ us Q I rv (.inl ⟨_, rfl, q _ H ι Le.refl hr (by simp)⟩)
 ·obtain ⟨v, rfl, r⟩ := Zl3 P
  simp at r
  subst r
  cases e
  exact Zmn pins s σ H _ us Q I rv (.inr ⟨_, rfl, q _ H ι Le.refl hr (by simp)⟩)
 ·cases e
noncomputable def Zpo : FF := fun ds H => match ds with
 | [d] => (Zf7 d H).map fun xs => (.ref H.length, H ++ [.lst xs])
 | _ => none
theorem Zo0 {pins : List (Addr × Obj)} {s : Shared} {σ : L2.St} {H : Hp} {p : Addr} {vs : List V} (I : Inv X pins σ H s) (h : SqL X.K H p vs ∨ SqT X.K H p vs) : vs.length ≤ sizeLine := by
 rcases h with h | h
 ·obtain ⟨_, _, _, z⟩ := I.list h; exact z
 ·obtain ⟨_, _, _, z⟩ := I.tuple h; exact z
theorem Zpw : Zh0 X (.type "list") Zpo := by
 rintro pins s σ H xs us Q I rv ⟨ι, ds, Hd, d, Hd', hr, P, e, q⟩
 unfold Zpo at e
 split at e
 ·obtain ⟨v, rfl, r⟩ := Zl3 P
  obtain ⟨ys, e1, e⟩ := Zm e
  obtain ⟨p, vs, rfl, h, P2⟩ := Zl7 hr r e1
  obtain ⟨k1, k2⟩ := Zgb hr P2 (show mkL ys Hd = some (d, Hd') by unfold mkL; rw [if_pos (by rw [Prd.len P2]; exact Zo0 I h), e]) q
  exact Zlg pins s σ H _ us Q I rv ⟨p, vs, rfl, h, k2⟩
 ·cases e
noncomputable def Zdg : FF := fun ds H => match ds with
 | [d] => (Zf7 d H).map fun xs => (.tup xs, H)
 | _ => none
theorem Zdu : Zh0 X (.type "tuple") Zdg := by
 rintro pins s σ H xs us Q I rv ⟨ι, ds, Hd, d, Hd', hr, P, e, q⟩
 unfold Zdg at e
 split at e
 ·rename_i d0
  obtain ⟨v, rfl, r⟩ := Zl3 P
  obtain ⟨ys, e1, e⟩ := Zm e
  obtain ⟨p, vs, rfl, h, P2⟩ := Zl7 hr r e1
  obtain ⟨k1, k2⟩ := Zio hr P2 (show mkT ys Hd = some (d, Hd') by unfold mkT; rw [if_pos (by rw [Prd.len P2]; exact Zo0 I h), e]) q
  refine Zk4 pins s σ H _ us Q I rv ⟨p, vs, rfl, ?_⟩
  rcases h with h | h
  ·exact .inl ⟨h, k2⟩
  ·obtain ⟨rfl, rfl⟩ := Prod.mk.inj e
   exact .inr ⟨h, q _ H ι Le.refl hr (Zb3.mpr ⟨p, vs, rfl, h, P2⟩)⟩
 ·cases e
noncomputable def Zcz (x : D) (ds : List D) (H : HD) : Option (D × HD) := match x, ds with
 | .ref n, [d] => match H[n]? with
  | some (.lst xs) => if xs.length < sizeLine then some (.non, H.set n (.lst (xs ++ [d]))) else none
  | _ => none
 | _, _ => none
theorem Zfz : MtF X "list.append" Zcz := by
 rintro pins s σ H x xs v us Q I rx rv ⟨ι, dx, ds, Hd, d, Hd', hr, r1, P, e, q⟩
 unfold Zcz at e
 split at e
 ·rename_i n d1
  obtain ⟨a, rfl, ha⟩ := Za8.mp r1
  obtain ⟨z, rfl, rz⟩ := Zl3 P
  split at e
  ·rename_i ys e1
   split at e
   ·rename_i hl
    cases e
    obtain ⟨vs, h1, P1⟩ := hr.obj n a _ ha e1
    refine Zip pins s σ H _ _ v us Q I rx rv ⟨a, vs, z, rfl, rfl, h1, by rw [← Prd.len P1]; exact hl, ?_⟩
    have L : Le X.K H ι (upd H a (.lst (vs ++ [z]))) ι := Le.upd (List.mem_of_getElem? ha) h1 trivial _
    exact q _ _ ι L (hr.upd ha h1 trivial ⟨_, Zbi, Prd.append (Prd.mono L P1) (.cons (rz.mono L) .nil)⟩) (by simp)
   ·cases e
  ·cases e
 ·cases e
noncomputable def Zxt (x : D) (ds : List D) (H : HD) : Option (D × HD) := match x, ds with
 | .ref n, [.int i] => match H[n]? with
  | some (.lst xs) => if -(2 ^ 63) ≤ i ∧ i < 2 ^ 63 then (seqIndex? i xs.length).bind fun k => (xs[k]?).map fun d => (d, H.set n (.lst (xs.eraseIdx k))) else none
  | _ => none
 | _, _ => none
theorem Zv5 : MtF X "list.pop" Zxt := by
 rintro pins s σ H x xs v us Q I rx rv ⟨ι, dx, ds, Hd, d, Hd', hr, r1, P, e, q⟩
 unfold Zxt at e
 split at e
 ·rename_i n i
  obtain ⟨a, rfl, ha⟩ := Za8.mp r1
  obtain ⟨z, rfl, rz⟩ := Zl3 P
  simp at rz
  subst rz
  split at e
  ·rename_i ys e1
   split at e
   ·rename_i hl
    obtain ⟨k, e2, e⟩ := Zo e
    obtain ⟨d1, e3, e⟩ := Zm e
    obtain ⟨rfl, rfl⟩ := Prod.mk.inj e
    obtain ⟨vs, h1, P1⟩ := hr.obj n a _ ha e1
    obtain ⟨u, hu, ru⟩ := Prd.get P1 e3
    refine Ztg pins s σ H _ _ v us Q I rx rv ⟨a, vs, i, k, u, rfl, rfl, h1, hl.1, hl.2, by rw [← Prd.len P1]; exact e2, hu, ?_⟩
    have L : Le X.K H ι (upd H a (.lst (vs.eraseIdx k))) ι := Le.upd (List.mem_of_getElem? ha) h1 trivial _
    exact q _ _ ι L (hr.upd ha h1 trivial ⟨_, Zbi, Prd.eraseIdx k (Prd.mono L P1)⟩) (ru.mono L)
   ·cases e
  ·cases e
 ·cases e
end
mutual
noncomputable def toP (H : HD) : Nat -> D -> Option PyData
 | _, .non => some .none
 | _, .bl b => some (.bool b)
 | _, .int i => some (.int i)
 | _, .str x => some (.str x)
 | _, .ty _ => none
 | n, .tup xs => (Zho H n xs).map .tuple
 | n, .fl xs => (Zho H n xs).map .list
 | 0, .ref _ => none
 | n + 1, .ref k => match H[k]? with
  | some (.lst xs) => (Zho H n xs).map .list
  | _ => none
termination_by n d => (n, sizeOf d)
noncomputable def Zho (H : HD) : Nat -> List D -> Option (List PyData)
 | _, [] => some []
 | n, d :: ds => (toP H n d).bind fun x => (Zho H n ds).map fun r => x :: r
termination_by n ds => (n, sizeOf ds)
end
section
variable {X : Cx} {pins : List (Addr × Obj)} {σ : L2.St} {H : Hp} {s : Shared} {ι : List Addr} {Hd : HD}
mutual
theorem Zff (I : Inv X pins σ H s) (hr : HRep X.K H ι Hd) : ∀ (n : Nat) (d : D) {x : PyData} {v : V} {u : Value}, toP Hd n d = some x -> Rep X.K H ι d v -> Zdm v u -> ∃ as, Reads s.heap u x as
 | n, .non, x, v, u, e, r, q => by
  rw [toP] at e; cases e; simp at r; subst r; cases q; exact ⟨_, .none⟩
 | n, .bl b, x, v, u, e, r, q => by
  rw [toP] at e; cases e; simp at r; subst r; cases q; exact ⟨_, .bool b⟩
 | n, .int i, x, v, u, e, r, q => by
  rw [toP] at e; cases e; simp at r; subst r; obtain ⟨t, rfl⟩ := q; exact ⟨_, .int i t⟩
 | n, .str z, x, v, u, e, r, q => by
  rw [toP] at e; cases e; simp at r; subst r; obtain ⟨t, rfl⟩ := q; exact ⟨_, .str z t⟩
 | n, .ty _, x, v, u, e, r, q => by rw [toP] at e; cases e
 | n, .tup xs, x, v, u, e, r, q => by
  rw [toP] at e
  obtain ⟨ps, e1, rfl⟩ := Zm e
  obtain ⟨a, vs, rfl, h, P⟩ := Zb3.mp r
  cases q
  obtain ⟨its, rv, ⟨o, ho, hc, m, hd⟩, hz⟩ := I.tuple h
  obtain ⟨as, ra⟩ := Zfl I hr n xs e1 P rv
  exact ⟨_, .tuple ho hc hd (by simpa using ra)⟩
 | n, .fl xs, x, v, u, e, r, q => by
  rw [toP] at e
  obtain ⟨ps, e1, rfl⟩ := Zm e
  obtain ⟨a, vs, rfl, h, P⟩ := Zf9.mp r
  cases q
  obtain ⟨its, rv, pl, hz⟩ := I.list h.sq
  obtain ⟨o, ho, hc, m, hd⟩ := pl.isList
  obtain ⟨as, ra⟩ := Zfl I hr n xs e1 P rv
  exact ⟨_, .list ho hc hd (by simpa using ra)⟩
 | 0, .ref k, x, v, u, e, r, q => by rw [toP] at e; cases e
 | n + 1, .ref k, x, v, u, e, r, q => by
  rw [toP] at e
  split at e
  ·rename_i xs eo
   obtain ⟨ps, e1, rfl⟩ := Zm e
   obtain ⟨a, rfl, ha⟩ := Za8.mp r
   cases q
   obtain ⟨vs, h1, P⟩ := hr.obj k a _ ha eo
   obtain ⟨its, rv, pl, hz⟩ := I.list (SqL.of h1)
   obtain ⟨o, ho, hc, m, hd⟩ := pl.isList
   obtain ⟨as, ra⟩ := Zfl I hr n xs e1 P rv
   exact ⟨_, .list ho hc hd (by simpa using ra)⟩
  ·cases e
termination_by n d => (n, sizeOf d)
theorem Zfl (I : Inv X pins σ H s) (hr : HRep X.K H ι Hd) : ∀ (n : Nat) (ds : List D) {xs : List PyData} {vs : List V} {us : List Value}, Zho Hd n ds = some xs -> Paired (Rep X.K H ι) ds vs -> Zca vs us -> ∃ as, ReadsAll s.heap us xs as
 | n, [], xs, vs, us, e, P, q => by
  rw [Zho] at e; cases e; cases P; cases q; exact ⟨_, .nil⟩
 | n, d :: ds, xs, vs, us, e, P, q => by
  rw [Zho] at e
  obtain ⟨x, e1, e⟩ := Zo e
  obtain ⟨r, e2, rfl⟩ := Zm e
  cases P with
  | cons p P =>
   cases q with
   | cons q Q =>
    obtain ⟨as, ra⟩ := Zff I hr n d e1 p q
    obtain ⟨bs, rb⟩ := Zfl I hr n ds e2 P Q
    exact ⟨_, .cons ra rb⟩
termination_by n ds => (n, sizeOf ds)
end
noncomputable def okP (x : PyData) : Bool := x.canLay0 && decide (x.depth ≤ 30)
noncomputable def dat (d : D) (H : HD) : Option PyData := (toP H 30 d).bind fun x => if okP x = true then some x else none
theorem Zfk {d : D} {x : PyData} (e : dat d Hd = some x) : toP Hd 30 d = some x ∧ x.canLay0 = true ∧ x.depth ≤ 30 := by
 obtain ⟨y, e1, e⟩ := Zo e
 split at e
 ·rename_i h
  cases e
  rw [okP, Bool.and_eq_true, decide_eq_true_eq] at h
  exact ⟨e1, h⟩
 ·cases e
noncomputable def Zos : D -> D -> Option (Str × Str)
 | .str a, .str b => some (a, b)
 | _, _ => none
theorem Zlz {x y : D} {a b : Str} (h : Zos x y = some (a, b)) : x = .str a ∧ y = .str b := by
 unfold Zos at h
 split at h
 ·cases h; exact ⟨rfl, rfl⟩
 ·cases h
noncomputable def eqD : F2 := fun x y H => match Zos x y with
 | some (a, b) => some (.bl (a == b), H)
 | none => (dat x H).bind fun p => (dat y H).map fun q => (.bl (PyData.eqv p q), H)
noncomputable def neD : F2 := fun x y H => match Zos x y with
 | some (a, b) => some (.bl (a != b), H)
 | none => (dat x H).bind fun p => (dat y H).map fun q => (.bl (!PyData.eqv p q), H)
theorem Zbp (hu : X.A.units + 64 < cLine) : OpF X (compareOp .Eq) eqD := by
 rintro pins s σ H x y v u Q I rx ry ⟨ι, dx, dy, Hd, d, Hd', hr, r1, r2, e, q⟩
 unfold eqD at e
 split at e
 ·rename_i a b es
  obtain ⟨rfl, rfl⟩ := Zlz es
  obtain ⟨rfl, rfl⟩ := Prod.mk.inj (Option.some.inj e)
  simp at r1 r2
  subst r1 r2
  obtain ⟨t1, rfl⟩ := rx
  obtain ⟨t2, rfl⟩ := ry
  exact PyProof.Rows.eq_str ⟨.bl _, H, I, rfl, q _ H ι Le.refl hr (by simp)⟩
 ·obtain ⟨p, e1, e⟩ := Zo e
  obtain ⟨p2, e2, e⟩ := Zm e
  obtain ⟨rfl, rfl⟩ := Prod.mk.inj e
  obtain ⟨t1, c1, d1⟩ := Zfk e1
  obtain ⟨t2, c2, d2⟩ := Zfk e2
  obtain ⟨as, ra⟩ := Zff I hr _ _ t1 r1 rx
  obtain ⟨bs, rb⟩ := Zff I hr _ _ t2 r2 ry
  exact SeqAt.compareEq_reads ra rb c1 c2 (by omega) ⟨.bl _, H, I, rfl, q _ H ι Le.refl hr (by simp)⟩
theorem Zeg (hu : X.A.units + 64 < cLine) : OpF X (compareOp .NotEq) neD := by
 rintro pins s σ H x y v u Q I rx ry ⟨ι, dx, dy, Hd, d, Hd', hr, r1, r2, e, q⟩
 unfold neD at e
 split at e
 ·rename_i a b es
  obtain ⟨rfl, rfl⟩ := Zlz es
  obtain ⟨rfl, rfl⟩ := Prod.mk.inj (Option.some.inj e)
  simp at r1 r2
  subst r1 r2
  obtain ⟨t1, rfl⟩ := rx
  obtain ⟨t2, rfl⟩ := ry
  exact PyProof.Rows.ne_str ⟨.bl _, H, I, rfl, q _ H ι Le.refl hr (by simp)⟩
 ·obtain ⟨p, e1, e⟩ := Zo e
  obtain ⟨p2, e2, e⟩ := Zm e
  obtain ⟨rfl, rfl⟩ := Prod.mk.inj e
  obtain ⟨t1, c1, d1⟩ := Zfk e1
  obtain ⟨t2, c2, d2⟩ := Zfk e2
  obtain ⟨as, ra⟩ := Zff I hr _ _ t1 r1 rx
  obtain ⟨bs, rb⟩ := Zff I hr _ _ t2 r2 ry
  exact SeqAt.compareNe_reads ra rb c1 c2 (by omega) ⟨.bl _, H, I, rfl, q _ H ι Le.refl hr (by simp)⟩
noncomputable def Zuy : PyData -> Option (List PyData)
 | .list xs => some xs
 | .tuple xs => some xs
 | _ => none
noncomputable def inD : F2 := fun x y H => (dat x H).bind fun p => (dat y H).bind fun q => (Zuy q).map fun xs => (.bl (xs.any fun z => PyData.eqv z p), H)
theorem Zzg (hu : X.A.units + 64 < cLine) : OpF X (compareOp .In) inD := by
 rintro pins s σ H x y v u Q I rx ry ⟨ι, dx, dy, Hd, d, Hd', hr, r1, r2, e, q⟩
 obtain ⟨p, e1, e⟩ := Zo e
 obtain ⟨p2, e2, e⟩ := Zo e
 obtain ⟨xs, e3, e⟩ := Zm e
 obtain ⟨rfl, rfl⟩ := Prod.mk.inj e
 obtain ⟨t1, c1, d1⟩ := Zfk e1
 obtain ⟨t2, c2, d2⟩ := Zfk e2
 obtain ⟨as, ra⟩ := Zff I hr _ _ t1 r1 rx
 obtain ⟨bs, rb⟩ := Zff I hr _ _ t2 r2 ry
 have fin : EP X pins σ Q (.bool (xs.any fun z => PyData.eqv z p)) s := ⟨.bl _, H, I, rfl, q _ H ι Le.refl hr (by simp)⟩
 cases p2 with
 | list ys =>
  cases e3
  simp only [PyData.canLay0] at c2
  simp only [PyData.depth] at d2
  exact SeqAt.in_list_reads rb ra c2 c1 (by omega) fin
 | tuple ys =>
  cases e3
  simp only [PyData.canLay0] at c2
  simp only [PyData.depth] at d2
  exact SeqAt.in_tuple_reads rb ra c2 c1 (by omega) fin
 | _ => simp [Zuy] at e3
noncomputable def isB (x y : D) : Option Bool := match y, x with
 | .non, .non => some true
 | .non, _ => some false
 | .bl b, .bl c => some (c == b)
 | .bl _, _ => some false
 | _, _ => none
noncomputable def isD : F2 := fun x y H => (isB x y).map fun b => (.bl b, H)
noncomputable def Zt1 : F2 := fun x y H => (isB x y).map fun b => (.bl (!b), H)
theorem Zn1 {M : Model} {A : Around} {E : Value -> Shared -> Prop} {s : Shared} {Q : Value -> Shared -> Prop} {v : Value} {b : Bool} (hv : ∀ i, v ≠ .builtin i) (h : Q (.bool (v == .bool b)) s) : wpAny M A (compareOp .Is v (.bool b)) Q E s := by
 cases v <;> first | exact wpAny_pure h | exact absurd rfl (hv _)
theorem Zi1 {M : Model} {A : Around} {E : Value -> Shared -> Prop} {s : Shared} {Q : Value -> Shared -> Prop} {v : Value} {b : Bool} (hv : ∀ i, v ≠ .builtin i) (h : Q (.bool (!(v == .bool b))) s) : wpAny M A (compareOp .IsNot v (.bool b)) Q E s := by
 cases v <;> first | exact wpAny_pure h | exact absurd rfl (hv _)
theorem Zqp {x : V} {v : Value} (r : Zdm x v) : ∀ i, v ≠ .builtin i := by
 intro i
 cases x with
 | non => cases r; intro z; cases z
 | bl _ => cases r; intro z; cases z
 | int _ => obtain ⟨t, rfl⟩ := r; intro z; cases z
 | str _ => obtain ⟨t, rfl⟩ := r; intro z; cases z
 | byt _ => obtain ⟨t, rfl⟩ := r; intro z; cases z
 | flt _ => obtain ⟨t, rfl⟩ := r; intro z; cases z
 | ref _ => cases r; intro z; cases z
 | ty _ => cases r; intro z; cases z
theorem Zu7 {dx dy : D} {x y : V} {v u : Value} {b : Bool} (r1 : Rep X.K H ι dx x) (r2 : Rep X.K H ι dy y) (rx : Zdm x v) (ry : Zdm y u) (e : isB dx dy = some b) :
  (u = .none ∧ b = (v == .none)) ∨ ∃ c, u = .bool c ∧ b = (v == .bool c) := by
 cases dy with
 | non =>
  simp at r2; subst r2; cases ry
  refine .inl ⟨rfl, ?_⟩
  cases dx with
  | non => simp at r1; subst r1; cases rx; cases e; rfl
  | bl _ => simp at r1; subst r1; cases rx; cases e; rfl
  | int _ => simp at r1; subst r1; obtain ⟨t, rfl⟩ := rx; cases e; rfl
  | str _ => simp at r1; subst r1; obtain ⟨t, rfl⟩ := rx; cases e; rfl
  | ty _ => simp at r1; subst r1; cases rx; cases e; rfl
  | tup _ => obtain ⟨a, _, rfl, _⟩ := Zb3.mp r1; cases rx; cases e; rfl
  | fl _ => obtain ⟨a, _, rfl, _⟩ := Zf9.mp r1; cases rx; cases e; rfl
  | ref _ => obtain ⟨a, rfl, _⟩ := Za8.mp r1; cases rx; cases e; rfl
 | bl c =>
  simp at r2; subst r2; cases ry
  refine .inr ⟨c, rfl, ?_⟩
  cases dx with
  | non => simp at r1; subst r1; cases rx; cases e; rfl
  | bl z => simp at r1; subst r1; cases rx; cases e; cases z <;> cases c <;> rfl
  | int _ => simp at r1; subst r1; obtain ⟨t, rfl⟩ := rx; cases e; rfl
  | str _ => simp at r1; subst r1; obtain ⟨t, rfl⟩ := rx; cases e; rfl
  | ty _ => simp at r1; subst r1; cases rx; cases e; rfl
  | tup _ => obtain ⟨a, _, rfl, _⟩ := Zb3.mp r1; cases rx; cases e; rfl
  | fl _ => obtain ⟨a, _, rfl, _⟩ := Zf9.mp r1; cases rx; cases e; rfl
  | ref _ => obtain ⟨a, rfl, _⟩ := Za8.mp r1; cases rx; cases e; rfl
 | _ => simp [isB] at e
theorem Zp4 : OpF X (compareOp .Is) isD := by
 rintro pins s σ H x y v u Q I rx ry ⟨ι, dx, dy, Hd, d, Hd', hr, r1, r2, e, q⟩
 obtain ⟨b, e1, e⟩ := Zm e
 obtain ⟨rfl, rfl⟩ := Prod.mk.inj e
 have fin : EP X pins σ Q (.bool b) s := ⟨.bl _, H, I, rfl, q _ H ι Le.refl hr (by simp)⟩
 rcases Zu7 r1 r2 rx ry e1 with ⟨rfl, rfl⟩ | ⟨c, rfl, rfl⟩
 ·exact is_none_gen fin
 ·exact Zn1 (Zqp rx) fin
theorem Zk3 : OpF X (compareOp .IsNot) Zt1 := by
 rintro pins s σ H x y v u Q I rx ry ⟨ι, dx, dy, Hd, d, Hd', hr, r1, r2, e, q⟩
 obtain ⟨b, e1, e⟩ := Zm e
 obtain ⟨rfl, rfl⟩ := Prod.mk.inj e
 have fin : EP X pins σ Q (.bool (!b)) s := ⟨.bl _, H, I, rfl, q _ H ι Le.refl hr (by simp)⟩
 rcases Zu7 r1 r2 rx ry e1 with ⟨rfl, rfl⟩ | ⟨c, rfl, rfl⟩
 ·exact isnot_none_gen fin
 ·exact Zi1 (Zqp rx) fin
noncomputable def tyD : D -> HD -> Option String
 | .non, _ => some "NoneType"
 | .bl _, _ => some "bool"
 | .int _, _ => some "int"
 | .str _, _ => some "str"
 | .tup _, _ => some "tuple"
 | .fl _, _ => some "list"
 | .ref n, H => match H[n]? with
  | some (.lst _) => some "list"
  | _ => none
 | _, _ => none
noncomputable def Zsm (c : String) : Bool := c == "bool" || c == "int" || c == "str" || c == "tuple" || c == "list"
noncomputable def Zu4 : FF := fun ds H => match ds with
 | [x, .ty c] => if Zsm c = true then (tyD x H).map fun t => (.bl (t == c || (t == "bool" && c == "int")), H) else none
 | _ => none
noncomputable def tys : List String := ["NoneType", "bool", "int", "str", "tuple", "list"]
theorem Zwl {d : D} {t : String} (e : tyD d Hd = some t) : t ∈ tys := by
 cases d with
 | ref n =>
  simp only [tyD] at e
  split at e
  ·cases e; decide
  ·cases e
 | ty n => simp [tyD] at e
 | _ => simp only [tyD] at e; cases e; decide
theorem Zzb (K : PySem.W.Frag) {t c : String} (ht : t ∈ tys) (hc : Zsm c = true) : PySem.W.kitOne K (.type t) (.type c) = some (t == c || (t == "bool" && c == "int")) := by
 have hc' : c = "bool" ∨ c = "int" ∨ c = "str" ∨ c = "tuple" ∨ c = "list" := by
  simpa [Zsm, or_assoc] using hc
 simp only [tys, List.mem_cons, List.not_mem_nil, or_false] at ht
 rcases ht with rfl | rfl | rfl | rfl | rfl | rfl <;> rcases hc' with rfl | rfl | rfl | rfl | rfl <;> first | rfl | (with_unfolding_all rfl) | kernel_rfl
theorem Zh7 : Zh0 X (.builtin "isinstance") Zu4 := by
 rintro pins s σ H xs us Q I rv ⟨ι, ds, Hd, d, Hd', hr, P, e, q⟩
 unfold Zu4 at e
 split at e
 ·rename_i x c
  split at e
  ·rename_i hc
   obtain ⟨t, e1, e⟩ := Zm e
   obtain ⟨rfl, rfl⟩ := Prod.mk.inj e
   obtain ⟨v, v', rfl, r, r'⟩ := prd2 P
   obtain ⟨u, u', rfl, ru, ru'⟩ := Zwe rv
   simp at r'
   subst r'
   cases ru'
   have k := Zzb X.K (Zwl e1) hc
   have fin : ∀ tk, EP X pins σ Q (.bool (t == c || (t == "bool" && c == "int"))) { s with toks := tk } := fun tk => ⟨.bl _, H, I.tok tk, rfl, q _ H ι Le.refl hr (by simp)⟩
   cases x with
   | non => simp at r; subst r; cases ru; cases e1; exact PySem.W.kia_one PySem.W.kitx_none I.kIn True.intro k (fun z => nomatch z) fin
   | bl y => simp at r; subst r; cases ru; cases e1; exact PySem.W.kia_one PySem.W.kitx_bool I.kIn True.intro k (fun z => nomatch z) fin
   | int y => simp at r; subst r; obtain ⟨t, rfl⟩ := ru; cases e1; exact PySem.W.kia_one PySem.W.kitx_int I.kIn True.intro k (fun z => nomatch z) fin
   | str y => simp at r; subst r; obtain ⟨t, rfl⟩ := ru; cases e1; exact PySem.W.kia_one PySem.W.kitx_str I.kIn True.intro k (fun z => nomatch z) fin
   | ty _ => simp [tyD] at e1
   | tup ys =>
    obtain ⟨a, vs, rfl, h, _⟩ := Zb3.mp r
    cases ru; cases e1
    obtain ⟨its, _, ⟨o, ho, hcl, _⟩, _⟩ := I.tuple h
    exact PySem.W.kia_one PySem.W.kitx_tuple I.kIn ⟨o, ho, hcl⟩ k (fun z => nomatch z) fin
   | fl ys =>
    obtain ⟨a, vs, rfl, h, _⟩ := Zf9.mp r
    cases ru; cases e1
    obtain ⟨its, _, pl, _⟩ := I.list h.sq
    obtain ⟨o, ho, hcl, _⟩ := pl.isList
    exact PySem.W.kia_one PySem.W.kitx_list I.kIn ⟨o, ho, hcl⟩ k (fun z => nomatch z) fin
   | ref n =>
    obtain ⟨a, rfl, ha⟩ := Za8.mp r
    cases ru
    simp only [tyD] at e1
    split at e1
    ·rename_i ys eo
     cases e1
     obtain ⟨vs, h1, _⟩ := hr.obj n a _ ha eo
     obtain ⟨its, _, pl, _⟩ := I.list (SqL.of h1)
     obtain ⟨o, ho, hcl, _⟩ := pl.isList
     exact PySem.W.kia_one PySem.W.kitx_list I.kIn ⟨o, ho, hcl⟩ k (fun z => nomatch z) fin
    ·cases e1
  ·cases e
 ·cases e
noncomputable def Zwq : D -> Bool
 | .tup _ => true
 | _ => false
noncomputable def Zhe : List D -> Option (List Int)
 | [] => some []
 | .int i :: r => (Zhe r).map fun s => i :: s
 | _ => none
noncomputable def Zfq (ns : List Int) : List Int := ns.mergeSort (fun a b => decide (a ≤ b))
theorem Ze1 (ns : List Int) : (Zfq ns).Perm ns := List.mergeSort_perm ns _
theorem Zt6 (ns : List Int) : (Zfq ns).Pairwise (· ≤ ·) := by
 have h := List.pairwise_mergeSort (le := fun a b : Int => decide (a ≤ b)) (by intro a b c h1 h2; simp at *; omega) (by intro a b; simp; omega) ns
 exact h.imp (by intro a b h; simpa using h)
theorem Zmb : ∀ {xs ys : List Int}, xs.Perm ys -> xs.Pairwise (· ≤ ·) -> ys.Pairwise (· ≤ ·) -> xs = ys
 | [], ys, p, _, _ => by simpa using p.symm
 | x :: xs, [], p, _, _ => by simpa using p
 | x :: xs, y :: ys, p, h1, h2 => by
  rw [List.pairwise_cons] at h1 h2
  have a1 : y ∈ x :: xs := p.symm.subset (by simp)
  have a2 : x ∈ y :: ys := p.subset (by simp)
  have e : x = y := by
   rcases List.mem_cons.mp a1 with z | z
   ·exact z.symm
   ·rcases List.mem_cons.mp a2 with w | w
    ·exact w
    ·have := h1.1 y z
     have := h2.1 x w
     omega
  subst e
  rw [Zmb (List.Perm.cons_inv p) h1.2 h2.2]
noncomputable def Zhd : FF := fun ds H => match ds with
 | [d] => (Zf7 d H).bind fun xs => (Zhe xs).bind fun ns => if ns.length < 64 ∧ Zwq d = false then some (.ref H.length, H ++ [.lst ((Zfq ns).map .int)]) else none
 | _ => none
theorem Ze4 {K : PySem.W.Frag} : ∀ {xs : List D} {ns : List Int} {vs : List V}, Zhe xs = some ns -> Paired (Rep K H ι) xs vs -> vs = ns.map V.int
 | [], ns, vs, e, P => by cases P; cases e; rfl
 | .int i :: r, ns, vs, e, P => by
  simp only [Zhe] at e
  obtain ⟨s, e1, rfl⟩ := Zm e
  cases P with
  | cons p P =>
   simp at p
   subst p
   rw [Ze4 e1 P]
   rfl
 | .non :: _, _, _, e, _ => by simp [Zhe] at e
 | .bl _ :: _, _, _, e, _ => by simp [Zhe] at e
 | .str _ :: _, _, _, e, _ => by simp [Zhe] at e
 | .ty _ :: _, _, _, e, _ => by simp [Zhe] at e
 | .tup _ :: _, _, _, e, _ => by simp [Zhe] at e
 | .fl _ :: _, _, _, e, _ => by simp [Zhe] at e
 | .ref _ :: _, _, _, e, _ => by simp [Zhe] at e
theorem Zq8 : ∀ {ns : List Int} {us : List Value}, IntsAre us ns -> Zca (ns.map V.int) us := by
 intro ns us h
 induction h with
 | nil => exact .nil
 | cons n t _ ih => exact .cons ⟨t, rfl⟩ ih
theorem Zqr {K : PySem.W.Frag} (ns : List Int) : Paired (Rep K H ι) (ns.map D.int) (ns.map V.int) := by
 induction ns with
 | nil => exact .nil
 | cons n r ih => exact .cons (by simp) ih
theorem Zld : Zh0 X (.builtin "sorted") Zhd := by
 rintro pins s σ H xs us Q I rv ⟨ι, ds, Hd, d, Hd', hr, P, e, q⟩
 unfold Zhd at e
 split at e
 ·rename_i d0
  obtain ⟨v, rfl, r⟩ := Zl3 P
  obtain ⟨ys, e1, e⟩ := Zo e
  obtain ⟨ns, e2, e⟩ := Zo e
  split at e
  ·rename_i hc
   obtain ⟨p, vs, rfl, h, P2⟩ := Zl7 hr r e1
   have hL : SqL X.K H p vs := by
    cases d0 with
    | tup _ => exact absurd hc.2 (by simp [Zwq])
    | fl zs =>
     obtain ⟨a, ws, e3, h3, P3⟩ := Zf9.mp r
     cases e3
     cases e1
     have : vs = ws := (Ze4 e2 P2).trans (Ze4 e2 P3).symm
     rw [this]; exact h3.sq
    | ref n =>
     obtain ⟨a, e3, h3⟩ := Za8.mp r
     cases e3
     simp only [Zf7] at e1
     split at e1
     ·rename_i zs eo
      cases e1
      obtain ⟨ws, h4, P4⟩ := hr.obj n _ _ h3 eo
      have : vs = ws := (Ze4 e2 P2).trans (Ze4 e2 P4).symm
      rw [this]; exact SqL.of h4
     ·cases e1
    | _ => simp [Zf7] at e1
   obtain ⟨u, rfl, ru⟩ := Zhx rv
   cases ru
   have ev := Ze4 e2 P2
   subst ev
   obtain ⟨its, ri, pl, hz⟩ := I.list hL
   have il : its.length = ns.length := by rw [← ri.length, List.length_map]
   refine sorted_ints pl.isList (Zpk ri) (by omega) fun out ns' a1 a2 a3 => ?_
   have en : ns' = Zfq ns := Zmb (a2.trans (Ze1 ns).symm) a3 (Zt6 ns)
   subst en
   obtain ⟨k, hk⟩ := sortedAll_at s.heap its out
   have hp0 : H (s.heap.objs.size + 1) = none := I.hok.fresh (Nat.le_succ _)
   have hl : ((Zfq ns).map V.int).length ≤ sizeLine := by
    rw [List.length_map, (Ze1 ns).length_eq]
    have : sizeLine = 16777216 := sizeLine_eq
    omega
   refine ⟨.ref (s.heap.objs.size + 1), _, I.laid (t' := s.toks) (o := .lst ((Zfq ns).map V.int)) (fun b ob eb => sortedAll_old eb) (Nat.le_succ _) ⟨hl, out.toList, k, Zq8 a1, by simpa using hk⟩, rfl, ?_⟩
   have hz2 : ((Zfq ns).map D.int).length ≤ sizeLine := by simpa using hl
   exact (Zgb hr (Zqr (Zfq ns)) (show mkL ((Zfq ns).map D.int) Hd = some (d, Hd') by unfold mkL; rw [if_pos hz2, e]) q).2 _ hp0
  ·cases e
 ·cases e
end
section
variable {X : Cx} {tg : Expr}
noncomputable def Zhs : D -> HD -> Option (List D × Zhl)
 | .tup xs, _ => some (xs, [])
 | .fl xs, _ => some (xs, [])
 | .ref n, H => match H[n]? with
  | some (.lst xs) => some (xs, [(n, .lst xs)])
  | _ => none
 | _, _ => none
noncomputable def Zeu (i : Int) : Prop := -(2 ^ 62) ≤ i ∧ i < 2 ^ 62
instance (i : Int) : Decidable (Zeu i) := by unfold Zeu; exact inferInstance
noncomputable def Zbw (lo : Int) (n : Nat) : List D := (List.range n).map fun k : Nat => .int (lo + (k : Int))
theorem Zp1 {lo : Int} {n i : Nat} {d : D} (h : (Zbw lo n)[i]? = some d) : i < n ∧ d = .int (lo + i) := by
 unfold Zbw at h
 rw [List.getElem?_map] at h
 obtain ⟨k, h1, rfl⟩ := Zm h
 rw [List.getElem?_eq_some_iff] at h1
 obtain ⟨hl, h1⟩ := h1
 simp at h1 hl
 subst h1
 exact ⟨hl, rfl⟩
theorem Zr3 {K : PySem.W.Frag} {H0 : Hp} {ι0 : List Addr} (lo : Int) (n : Nat) : ItRep K (Itr lo n) (Zbw lo n) [] H0 ι0 := by
 refine ⟨fun i H2 ι2 Hd2 l2 h2 _ hi => (show i < n by simpa [Zbw] using hi), fun i H2 ι2 Hd2 d x H3 l2 h2 _ hd y => ?_, fun i H2 ι2 Hd2 l2 h2 _ hi => (show n ≤ i by simpa [Zbw] using hi)⟩
 obtain ⟨rfl, rfl⟩ := y
 obtain ⟨_, rfl⟩ := Zp1 hd
 exact ⟨ι2, Le.refl, h2, by simp⟩
noncomputable def iR1 (f : AF) : ItF := fun σ H => (f σ H).bind fun p => match p.1 with
 | [.int j] => if Zeu j then some ((Zbw 0 j.toNat, []), p.2) else none
 | _ => none
theorem Zda {a : Expr} {f : AF} {p pos : Pos} (hg : Gl X "range") (hm : X.mg "range" = none) (ha : PAf X [a] f) (hs : starEach [a] X.env = [(false, eval a X.env)] := by rfl) : PIf X tg (.Call (.Name "range" p) [a] [] pos) (iR1 f) := by
 refine PIi (Zqz hg hm ha hs) fun σ H R zz => ?_
 obtain ⟨ι, σd, Hd, xs, own, Hd', s, hr, e, q⟩ := zz
 obtain ⟨⟨ds, H1⟩, e1, e⟩ := Zo e
 dsimp only at e
 split at e
 ·rename_i j
  split at e
  ·rename_i hj
   cases e
   refine ⟨ι, σd, Hd, _, _, s, hr, e1, fun vs H' ι' l h P => ?_⟩
   obtain ⟨v, rfl, r⟩ := Zl3 P
   simp at r
   subst r
   exact ⟨j, rfl, hj.1, hj.2, q _ H' ι' l h (Zr3 0 _)⟩
  ·cases e
 ·cases e
end
open Builtin.SmallTypes (nextOf)
section
variable {prog : Program} {w : World} {A : Around} {E : Value -> Shared -> Prop} {s : Shared}
theorem Zub {j t : Addr} {i : Nat} {its : Array Value} {x : Value} {Q : Value -> Shared -> Prop} (hj : s.heap.IsTupleIter j t i) (ht : s.heap.IsTuple t its) (hx : its[i]? = some x)
  (hQ : ∀ h', h'.IsTupleIter j t (i + 1) -> Heap.SameBut j s.heap h' -> Q x { s with heap := h' }) : wpAny (model prog w) A (nextOf (.ref j)) Q E s := by
 obtain ⟨oj, ho, hcj, hdj⟩ := id hj
 obtain ⟨ot, hot, _, nt, hdt⟩ := ht
 unfold nextOf
 refine wpAny_bind (wpAny_callSpecial?_slot (name := Str.ofString "__next__") hj.typeIs F.slot_tuple_iterator_next (wpAny_call_entry F.slot_tuple_iterator_next hj.typeIs F.entry_tuple_iterator_next ?_ (F.args_tuple_iterator_next_1 _)))
 show wpAny _ _ (field (.ref j) 0 >>= _) _ _ s
 refine wpAny_bind (wpAny_field ho hdj (x := .ref t) rfl ?_)
 show wpAny _ _ (if (Value.ref t == Value.none) = true then _ else _) _ _ s
 rw [if_neg (show ¬ ((Value.ref t == Value.none) = true) by intro z; cases z)]
 show wpAny _ _ (field (.ref j) 1 >>= _) _ _ s
 refine wpAny_bind (wpAny_field ho hdj (x := .int i 0) rfl ?_)
 show wpAny _ _ (seqItems? (.ref t) >>= _) _ _ s
 refine wpAny_bind (wpAny_seqItems hot hdt ?_)
 simp only [Int.toNat_natCast, hx]
 refine wpAny_bind (wpAny_setField ho hdj (by simp) (wpAny_pure ⟨x, rfl, wpAny_pure (hQ _ ⟨_, Heap.get?_update_self _ ho (Obj.isFreed_of_fields (Obj.data_mapFields hdj _)), (Obj.cls_mapFields ..).trans hcj, ?_⟩ (Heap.SameBut.update ..))⟩))
 rw [Obj.data_mapFields hdj]; simp [rawInt]
theorem Zwh {j t : Addr} {i : Nat} {its : Array Value} {Q : Value -> Shared -> Prop} (hh : A.handled = none) (hj : s.heap.IsTupleIter j t i) (ht : s.heap.IsTuple t its) (hx : its[i]? = none)
  (hE : ∀ h' e, Heap.ExtBut j s.heap h' → (∃ o, h'.get? e = some o ∧ o.cls = .type "StopIteration") → E (.ref e) { s with heap := h' }) : wpAny (model prog w) A (nextOf (.ref j)) Q E s := by
 obtain ⟨oj, ho, hcj, hdj⟩ := id hj
 obtain ⟨ot, hot, _, nt, hdt⟩ := ht
 unfold nextOf
 refine wpAny_bind (wpAny_callSpecial?_slot (name := Str.ofString "__next__") hj.typeIs F.slot_tuple_iterator_next (wpAny_call_entry F.slot_tuple_iterator_next hj.typeIs F.entry_tuple_iterator_next ?_ (F.args_tuple_iterator_next_1 _)))
 show wpAny _ _ (field (.ref j) 0 >>= _) _ _ s
 refine wpAny_bind (wpAny_field ho hdj (x := .ref t) rfl ?_)
 show wpAny _ _ (if (Value.ref t == Value.none) = true then _ else _) _ _ s
 rw [if_neg (show ¬ ((Value.ref t == Value.none) = true) by intro z; cases z)]
 show wpAny _ _ (field (.ref j) 1 >>= _) _ _ s
 refine wpAny_bind (wpAny_field ho hdj (x := .int i 0) rfl ?_)
 show wpAny _ _ (seqItems? (.ref t) >>= _) _ _ s
 refine wpAny_bind (wpAny_seqItems hot hdt ?_)
 simp only [Int.toNat_natCast, hx]
 refine wpAny_bind (wpAny_rule (wpAny_bind (wpAny_setField ho hdj (by simp) ?_)))
 show wpAny _ _ (newExc (.type "StopIteration") [] >>= _) _ _ _
 refine wpAny_bind ?_
 simp only [newExc, newTuple]
 refine wpAny_bind (wpAny_newObj_type ?_ (by size_fits))
 refine wpAny_bind (m := firstArgMember _ _) (wpAny_of_eq (a := Value.none) (by first | rfl | (simp only [firstArgMember]; rfl)) (wpAny_newObj_type ?_ (by size_fits)))
 simp only [raiseNew]
 refine wpAny_bind (wpAny_handled ?_)
 first | rw [show A.in1.handled = none from hh] | rw [hh]
 exact wpAny_bind (wpAny_pure (wpAny_throw (hE _ _ (((Heap.SameBut.update ..).extBut.push _).push _) ⟨_, Heap.get?_push_size _ rfl, rfl⟩)))
theorem Zq0 {e j t : Addr} {i : Nat} {c : Int} {its : Array Value} {x old : Value} {Q : Option Value -> Shared -> Prop} (he : IsEnum s.heap e j c old) (hj : s.heap.IsTupleIter j t i) (ht : s.heap.IsTuple t its) (hx : its[i]? = some x) (hne : e ≠ j)
  (hQ : ∀ h' tk, IsEnumOut h' e j (c + 1) x s.heap.objs.size → h'.IsTupleIter j t (i + 1) → h'.get? s.heap.objs.size = some { cls := .type "tuple", data := .seq #[.int c tk, x] } → h'.objs.size = s.heap.objs.size + 1 →
   (∀ b o, b ≠ e -> b ≠ j -> s.heap.get? b = some o -> h'.get? b = some o) -> Q (some (.ref s.heap.objs.size)) { s with heap := h', toks := s.toks + 1 }) :
  wpAny (model prog w) A (pyNext (.ref e)) Q E s := by
 have hT : s.TypeIs (.ref e) "enumerate" := ⟨_, he, rfl⟩
 unfold pyNext
 refine wpAny_bind (wpAny_attempt (wpAny_callSpecial?_slot (name := Str.ofString "__next__") hT F.slot_enumerate_next (wpAny_call_entry F.slot_enumerate_next hT F.entry_enumerate_next ?_ (F.args_enumerate_next_1 _))))
 obtain ⟨hp, g, d, tk, os⟩ := s
 show wpAny _ _ (field (.ref e) 2 >>= _) _ _ _
 refine wpAny_bind (wpAny_field he rfl (x := .ref j) rfl (wpAny_bind (Zub hj ht hx fun h1 j1 s1 => ?_)))
 replace s1 : Heap.SameBut j hp h1 := s1
 have e1 : IsEnum h1 e j c old := (s1.2 e hne).trans he
 show wpAny _ _ (field (.ref e) 3 >>= _) _ _ ⟨h1, g, d, tk, os⟩
 refine wpAny_bind (wpAny_field e1 rfl (x := rawInt c) rfl ?_)
 show wpAny _ _ (field (.ref e) 4 >>= _) _ _ ⟨h1, g, d, tk, os⟩
 refine wpAny_bind (wpAny_field e1 rfl (x := .none) rfl ?_)
 show wpAny _ _ (mkInt c >>= _) _ _ ⟨h1, g, d, tk, os⟩
 refine wpAny_bind (wpAny_mkInt ?_)
 show wpAny _ _ (setField (.ref e) 3 (rawInt (c + 1)) >>= _) _ _ ⟨h1, g, d, tk + 1, os⟩
 refine wpAny_bind (wpAny_setField_rec e1 (by simp) fun h2 e2 s2 => ?_)
 replace s2 : Heap.SameBut e h1 h2 := s2
 replace e2 : IsEnum h2 e j (c + 1) old := e2
 show wpAny _ _ (setField (.ref e) 4 .none >>= _) _ _ ⟨h2, g, d, tk + 1, os⟩
 refine wpAny_bind (wpAny_setField_rec e2 (by simp) fun h3 e3 s3 => ?_)
 replace s3 : Heap.SameBut e h2 h3 := s3
 replace e3 : IsEnum h3 e j (c + 1) old := e3
 show wpAny _ _ (newTuple [.int c tk, x] >>= _) _ _ ⟨h3, g, d, tk + 1, os⟩
 refine wpAny_bind (wpAny_newTuple ?_)
 have e4 : IsEnum (h3.push { cls := .type "tuple", data := .seq #[.int c tk, x] }) e j (c + 1) old := Heap.get?_push_of_some _ e3
 generalize q4 : h3.push { cls := .type "tuple", data := .seq #[.int c tk, x] } = h4 at e4
 have zz : h3.objs.size = hp.objs.size := by rw [s3.1, s2.1, s1.1]
 have lt : e < hp.objs.size := Heap.lt_size he
 have t4 : h4.get? hp.objs.size = some { cls := .type "tuple", data := .seq #[.int c tk, x] } := by rw [← q4, ← zz]; exact Heap.get?_push_size _ rfl
 have z4 : h4.objs.size = hp.objs.size + 1 := by rw [← q4, Heap.size_push, zz]
 have k4 : ∀ b o, b ≠ e -> b ≠ j -> hp.get? b = some o -> h4.get? b = some o := fun b o n1 n2 q => by
  rw [← q4]; exact Heap.get?_push_of_some _ (s3.extBut b o n1 (s2.extBut b o n1 (s1.extBut b o n2 q)))
 have j4 : h4.IsTupleIter j t (i + 1) := by
  obtain ⟨o, ho, r⟩ := id j1
  exact ⟨o, by rw [← q4]; exact Heap.get?_push_of_some _ (s3.extBut j o (Ne.symm hne) (s2.extBut j o (Ne.symm hne) ho)), r⟩
 show wpAny _ _ (Builtin.SmallTypes.ownedTupleIsFree (.ref e) >>= _) _ _ ⟨h4, g, d, tk + 1, os⟩
 rw [zz]
 clear q4 e3 s3 e2 s2 e1 s1 j1 zz h3 h2 h1
 refine wpAny_bind ?_
 unfold Builtin.SmallTypes.ownedTupleIsFree
 refine wpAny_bind (wpAny_field e4 rfl (x := .none) rfl (wpAny_pure ?_))
 simp only [if_true]
 refine wpAny_bind (wpAny_rule (wpAny_bind (wpAny_field e4 rfl (x := old) rfl (wpAny_bind (wpAny_setField_rec e4 (by simp) fun h5 e5 s5 => ?_)))))
 replace s5 : Heap.SameBut e h4 h5 := s5
 replace e5 : IsEnum h5 e j (c + 1) x := e5
 show wpAny _ _ (Builtin.SmallTypes.ownedTupleHandOut (.ref e) (.ref hp.objs.size) >>= _) _ _ ⟨h5, g, d, tk + 1, os⟩
 refine wpAny_bind ?_
 unfold Builtin.SmallTypes.ownedTupleHandOut
 refine wpAny_bind (wpAny_setField_rec e5 (by simp) fun h6 e6 s6 => ?_)
 replace s6 : Heap.SameBut e h5 h6 := s6
 replace e6 : IsEnumOut h6 e j (c + 1) x hp.objs.size := e6
 refine wpAny_setField_rec e6 (by simp) fun h7 e7 s7 => ?_
 replace s7 : Heap.SameBut e h6 h7 := s7
 replace e7 : IsEnumOut h7 e j (c + 1) x hp.objs.size := e7
 have up : ∀ b o, b ≠ e -> h4.get? b = some o -> h7.get? b = some o := fun b o n q => s7.extBut b o n (s6.extBut b o n (s5.extBut b o n q))
 refine wpAny_bind (wpAny_letGo (wpAny_pure ⟨_, rfl, wpAny_pure (hQ h7 tk e7 ?_ (up _ _ (Nat.ne_of_gt lt) t4) (by rw [s7.1, s6.1, s5.1, z4]) fun b o n1 n2 q => up b o n1 (k4 b o n1 n2 q))⟩))
 obtain ⟨o, ho, r⟩ := id j4
 exact ⟨o, up j o (Ne.symm hne) ho, r⟩
theorem Zqv {e j t : Addr} {i : Nat} {c : Int} {its : Array Value} {old : Value} {Q : Option Value -> Shared -> Prop} (hh : A.handled = none) (he : IsEnum s.heap e j c old) (hj : s.heap.IsTupleIter j t i) (ht : s.heap.IsTuple t its) (hx : its[i]? = none)
  (hQ : ∀ h', Heap.ExtBut j s.heap h' -> Q none { s with heap := h' }) : wpAny (model prog w) A (pyNext (.ref e)) Q E s := by
 have hT : s.TypeIs (.ref e) "enumerate" := ⟨_, he, rfl⟩
 unfold pyNext
 refine wpAny_bind (wpAny_attempt (wpAny_callSpecial?_slot (name := Str.ofString "__next__") hT F.slot_enumerate_next (wpAny_call_entry F.slot_enumerate_next hT F.entry_enumerate_next ?_ (F.args_enumerate_next_1 _))))
 show wpAny _ _ (field (.ref e) 2 >>= _) _ _ _
 refine wpAny_bind (wpAny_field he rfl (x := .ref j) rfl (wpAny_bind (Zwh hh hj ht hx fun h' z he' zz => ?_)))
 obtain ⟨o, ho, hc⟩ := zz
 exact wpAny_bind (wpAny_isInstance (T := "StopIteration") (b := true) ⟨o, ho, hc⟩ isSubtype_stop (wpAny_pure (hQ _ he')))
open AutoSeq1 (wpAny_loadPart') in
theorem Zrm (t : Addr) (its : Array Value) (n : Nat) (dct : Option Addr) (sl : Array (Option Value)) :
  Meets (Builtin.«enumerate.__new__» ⟨[.type "enumerate", .ref t], []⟩) (fun _ R s => s.heap.get? t = some { cls := .type "tuple", dict := dct, data := .seq its n, slots := sl } ∧
   R (.ok (.ret (.ref (s.heap.push { cls := .type "tuple_iterator", data := .fields #[.ref t, .int 0 0] }).objs.size)))
    { s with heap := (s.heap.push { cls := .type "tuple_iterator", data := .fields #[.ref t, .int 0 0] }).push { cls := .type "enumerate", data := .fields #[.none, .bool false, .ref s.heap.objs.size, rawInt 0, .none, .none] } }) :=
 .of_wp fun prog w A R s h => by
  obtain ⟨hp, g, d, tk, os⟩ := s; obtain ⟨hl, h⟩ := h
  have hsub := sub_enumerate
  have hL : Heap.IsTuple (Shared.heap ⟨hp, g, d, tk, os⟩) t its := ⟨_, hl, rfl, n, rfl⟩
  wp_walk using wpAny_loadPart' hl
  refine wpAny_stack_any fun st => wpAny_pure ?_
  split
  ·rename_i k _ _ _ _ _
   cases (k == Value.type "enumerate") <;> (wp_walk using wpAny_loadPart' hl, wpAny_pyIter_tuple hL; exact ⟨_, rfl, h⟩)
  ·wp_walk using wpAny_loadPart' hl, wpAny_pyIter_tuple hL
   exact ⟨_, rfl, h⟩
theorem Zpx {t : Addr} {its : Array Value} {Q : Value -> Shared -> Prop} (hL : s.heap.IsTuple t its)
  (h : ∀ h', IsEnum h' (s.heap.objs.size + 1) s.heap.objs.size 0 .none -> h'.IsTupleIter s.heap.objs.size t 0 -> h'.objs.size = s.heap.objs.size + 2 →
   (∀ b o, s.heap.get? b = some o -> h'.get? b = some o) -> Q (.ref (s.heap.objs.size + 1)) { s with heap := h' }) :
  wpAny (model prog w) A (call (.type "enumerate") [.ref t]) Q E s := by
 obtain ⟨⟨k, dct, dt, sl⟩, hl, hc, n, hd⟩ := hL
 replace hc : k = .type "tuple" := hc
 replace hd : dt = .seq its n := hd
 subst hc hd
 refine callType_new F.called_enumerate (by decide) (F.typeCall_enumerate_1 _) (F.newCall_enumerate_1 _) (fun obj => F.args_object_init_2 obj _) F.entry_enumerate_new (Zrm t its n dct sl) ⟨hl, ?_⟩
 have hz : (s.heap.push { cls := .type "tuple_iterator", data := .fields #[.ref t, .int 0 0] }).objs.size = s.heap.objs.size + 1 := Heap.size_push ..
 show _ ∧ _
 rw [hz]
 have he : IsEnum ((s.heap.push { cls := .type "tuple_iterator", data := .fields #[.ref t, .int 0 0] }).push { cls := .type "enumerate", data := .fields #[.none, .bool false, .ref s.heap.objs.size, rawInt 0, .none, .none] }) (s.heap.objs.size + 1) s.heap.objs.size 0 .none := by
  have q := Heap.get?_push_size (s.heap.push { cls := .type "tuple_iterator", data := .fields #[.ref t, .int 0 0] }) (o := { cls := .type "enumerate", data := .fields #[.none, .bool false, .ref s.heap.objs.size, rawInt 0, .none, .none] }) rfl
  rw [hz] at q; exact q
 exact ⟨⟨_, he, rfl⟩, h _ he ⟨_, Heap.get?_push_of_some _ (Heap.get?_push_size _ rfl), rfl, rfl⟩ (by rw [Heap.size_push, hz]) fun b o x => Heap.get?_push_of_some _ (Heap.get?_push_of_some _ x)⟩
end
noncomputable def Zxv (K : PySem.W.Frag) (c : Int) (a : Addr) : It :=
 ⟨fun i H => ∃ xs x, SqT K H a xs ∧ xs[i]? = some x, fun i H v H' => ∃ p x, H p = none ∧ v = .ref p ∧ H' = upd H p (.tup [.int (c + i), x]) ∧ ∀ xs, SqT K H a xs -> xs[i]? = some x, fun i H => ∃ xs, SqT K H a xs ∧ xs.length ≤ i⟩
theorem Zjq {P : Program} {w : World} {K : PySem.W.Frag} {es : List Expr} {k : Nat} {pos : Pos} (a e j : Addr) (c : Int) (hne : e ≠ j) : Turn P w K (.Tuple es k pos) (Zxv K c a) [e, j] e (fun i h => ∃ old, IsEnum h e j (c + i) old ∧ h.IsTupleIter j a i) where
 mem := by simp
 obj := fun i h st b hb => by
  obtain ⟨old, he, o, ho, hc, hd⟩ := st
  rcases List.mem_cons.mp hb with rfl | hb
  ·exact ⟨_, he, fun v z => by cases z⟩
  ·have : b = j := by simpa using hb
   subst this
   exact ⟨o, ho, fun v z => by rw [hd] at z; cases z⟩
 keep := fun i h h' st kk => by
  obtain ⟨old, he, o, ho, r⟩ := st
  exact ⟨old, kk e (by simp) _ he, o, kk j (by simp) o ho, r⟩
 item := by
  intro X hP hw hK hc i pins s σ H E I hf st hg
  subst hP hw hK
  obtain ⟨xs, x, hq, hx⟩ := hg
  obtain ⟨old, he, hj⟩ := st
  obtain ⟨its, rv, p, hz⟩ := I.tuple hq
  obtain ⟨u, hu, ru⟩ := rv.get hx
  have fe := hf e (by simp)
  have fj := hf j (by simp)
  refine Zq0 he hj (show s.heap.IsTuple a its.toArray from p) (x := u) (by simpa using hu) hne fun h' tk eo j' t' z' kk => ?_
  refine ⟨_, rfl, wpAny_letOwnedTupleGo_enum (s := { s with heap := h', toks := s.toks + 1 }) eo fun h2 e2 s2 => ?_⟩
  replace s2 : Heap.SameBut e h' h2 := s2
  have le : e < s.heap.objs.size := Heap.lt_size he
  have ne2 : s.heap.objs.size ≠ e := Nat.ne_of_gt le
  -- the iterator's two records have turned, the pair is new
  have t2 : h2.get? s.heap.objs.size = some { cls := .type "tuple", data := .seq #[.int (c + i) tk, u] } := s2.extBut _ _ ne2 t'
  have hp0 : H s.heap.objs.size = none := I.hok.fresh (Nat.le_refl _)
  have up : ∀ b o, b ∉ [e, j] -> s.heap.get? b = some o -> h2.get? b = some o := fun b o hb q =>
   s2.extBut b o (fun z => hb (by simp [z])) (kk b o (fun z => hb (by simp [z])) (fun z => hb (by simp [z])) q)
  have I2 : Inv X pins σ (upd H s.heap.objs.size (.tup [.int (c + i), x])) { s with heap := h2, toks := s.toks + 1 } := by
   refine I.step (g' := s.gens) (d' := s.drawn) (t' := s.toks + 1) (ch := [e, j]) (fun b hb => ?_) (fun b o _ _ hb q n => up b o hb q) (fun b o _ _ hb q n => ⟨o.slots, up b o hb q⟩) (fun b o _ q n => ?_) (fun b o hb q => ⟨o, up b o hb q⟩) (fun b ys q => ?_) (fun b o y q => ?_) (fun b ps q => ⟨#[], ?_⟩) (fun m hm => ?_) (fun b o q => ?_) I.bare
   ·have := hf b hb; exact ⟨this.2.2.2.1, this.2.1, this.2.2.2.2.1, this.2.2.2.2.2⟩
   ·rw [Za0 (Nat.ne_of_lt (Heap.lt_size q))]; exact n
   ·rw [Za0 (Za6 q hp0)]; exact q
   ·rw [Za0 (Za6 q hp0)]; exact q
   ·rw [Za0 (Za6 q hp0), q]; simp
   ·obtain ⟨o, es', ep, ho, r⟩ := hm
    exact ⟨o, es', ep, s2.extBut _ o (Ne.symm fe.2.1) (kk _ o (Ne.symm fe.2.1) (Ne.symm fj.2.1) ho), r⟩
   ·by_cases hb : b = s.heap.objs.size
    ·subst hb
     rw [Zbi] at q
     cases q
     exact ⟨(by show 2 ≤ sizeLine; decide), [.int (c + i) tk, u], .cons ⟨tk, rfl⟩ (.cons ru .nil), _, t2, rfl, ⟨_, rfl⟩, rfl⟩
    ·rw [Za0 hb] at q
     refine (I.hok b o q).stay (fun d v hd z => up d v (fun hm => ?_) z) (fun d z => by rw [Za0 (Za6 z hp0)]; exact z) fun d ys z => by rw [Za0 (Za6 z hp0)]; exact z
     have : H d ≠ none := by
      rcases hd with rfl | hd
      ·rw [q]; simp
      ·rw [hd]; simp
     exact this (hf d hm).1
  refine ⟨.ref s.heap.objs.size, _, I2, rfl, ⟨_, x, hp0, rfl, rfl, fun ys hy => by rw [I.tuple_inj hy hq]; exact hx⟩, ?_, fun b hb => ?_⟩
  ·obtain ⟨o, ho, r⟩ := id j'
   have ec : c + ((i + 1 : Nat) : Int) = c + (i : Int) + 1 := by push_cast; omega
   exact ⟨u, by rw [ec]; exact e2, o, s2.extBut j o (Ne.symm hne) ho, r⟩
  ·have hb2 : b ≠ s.heap.objs.size := by
    rcases List.mem_cons.mp hb with rfl | hb
    ·exact Nat.ne_of_lt le
    ·have : b = j := by simpa using hb
     subst this
     obtain ⟨o, ho, _⟩ := id hj
     exact Nat.ne_of_lt (Heap.lt_size ho)
   rw [Za0 hb2]; exact (hf b hb).1
 done := by
  intro X hP hw hK hc i pins s σ H E I hf st hg
  subst hP hw hK
  obtain ⟨xs, hq, hx⟩ := hg
  obtain ⟨old, he, hj⟩ := st
  obtain ⟨its, rv, p, hz⟩ := I.tuple hq
  obtain ⟨f0, f1, f2, f3, f4, f5⟩ := hf j (by simp)
  have hl := rv.length
  exact Zqv (I.ok.hd hc) he hj (show s.heap.IsTuple a its.toArray from p) (by simp; omega) fun h' eb => ⟨rfl, I.turned (t' := s.toks) (fun b o hb q => eb b o hb q) f0 f1 f3 f4 f5⟩
 self := fun _ _ _ _ _ st h => by
  obtain ⟨old, he, _⟩ := st
  exact wpAny_pyIter_enum he h
section
variable {X : Cx}
noncomputable def Zf4 (c : Int) : List D -> List D
 | [] => []
 | x :: r => .tup [.int c, x] :: Zf4 (c + 1) r
theorem Zh9 : ∀ (xs : List D) (c : Int), (Zf4 c xs).length = xs.length
 | [], _ => rfl
 | x :: r, c => by simp [Zf4, Zh9 r]
theorem Zlk : ∀ {xs : List D} {c : Int} {i : Nat} {d : D}, (Zf4 c xs)[i]? = some d -> ∃ x, xs[i]? = some x ∧ d = .tup [.int (c + i), x]
 | [], c, i, d, h => by simp [Zf4] at h
 | x :: r, c, 0, d, h => by simp [Zf4] at h; exact ⟨x, rfl, by rw [← h]; simp⟩
 | x :: r, c, i + 1, d, h => by
  simp only [Zf4, List.getElem?_cons_succ] at h
  obtain ⟨y, h1, h2⟩ := Zlk h
  refine ⟨y, by simpa using h1, ?_⟩
  rw [h2]
  have : c + 1 + (i : Int) = c + ((i + 1 : Nat) : Int) := by push_cast; omega
  rw [this]
theorem Zn5 {K : PySem.W.Frag} {H0 : Hp} {ι0 : List Addr} {a : Addr} {c : Int} {xs : List D} {vs : List V} (hS : SqT K H0 a vs) (P : Paired (Rep K H0 ι0) xs vs)
  (inj : ∀ (i : Nat) (H : Hp) (x : V), (∀ ys, SqT K H a ys -> ys[i]? = some x) -> SqT K H a vs -> vs[i]? = some x) : ItRep K (Zxv K c a) (Zf4 c xs) [] H0 ι0 := by
 refine ⟨fun i H2 ι2 Hd2 l2 h2 _ hi => ?_, fun i H2 ι2 Hd2 d v H3 l2 h2 _ hd y => ?_, fun i H2 ι2 Hd2 l2 h2 _ hi => ⟨vs, l2.tup a vs hS, by rw [← Prd.len P, ← Zh9 xs c]; exact hi⟩⟩
 ·exact ⟨vs, vs[i]'(by rw [← Prd.len P, ← Zh9 xs c]; exact hi), l2.tup a vs hS, by simp⟩
 ·obtain ⟨p, x, hp, rfl, rfl, y⟩ := y
  obtain ⟨x', hx', rfl⟩ := Zlk hd
  obtain ⟨u, hu, ru⟩ := Prd.get P hx'
  have := y vs (l2.tup a vs hS)
  rw [hu] at this
  cases this
  refine ⟨ι2, Le.fresh hp _, h2.tup hp _, Zb3.mpr ⟨p, _, rfl, SqT.of Zbi, .cons (by simp) (.cons ((ru.mono l2).mono (Le.fresh hp _)) .nil)⟩⟩
noncomputable def Ztw (f : AF) : ItF := fun σ H => (f σ H).bind fun p => match p.1 with
 | [.tup xs] => some ((Zf4 0 xs, []), p.2)
 | _ => none
theorem Zta {es : List Expr} {k : Nat} {tp p pos : Pos} {a : Expr} {f : AF} (hg : Gl X "enumerate") (hm : X.mg "enumerate" = none) (ha : PAf X [a] f) (hs : starEach [a] X.env = [(false, eval a X.env)] := by rfl) : PIf X (.Tuple es k tp) (.Call (.Name "enumerate" p) [a] [] pos) (Ztw f) := by
 rintro pins s σ H R I ⟨ι, σd, Hd, xs, own, Hd', sr, hr, e, q⟩
 obtain ⟨⟨ds, H1⟩, e1, e⟩ := Zo e
 dsimp only at e
 split at e
 ·rename_i ys
  cases e
  refine Call_ (Zhp I hg hm boot_enumerate (PyProof.Rows.callWith_type1 (thn (ha pos pins s σ H (fun vs H' => ∃ a ws, vs = [.ref a] ∧ SqT X.K H' a ws ∧ ∀ (J : It) (H2 : Hp), H2 = H' -> J = Zxv X.K 0 a -> R J H2) I ⟨ι, σd, Hd, _, _, sr, hr, e1, fun vs H' ι' l h P => ?_⟩) fun us s1 ⟨vs, H2, I2, r2, q2⟩ => ?_) hs rfl))
  ·obtain ⟨v, rfl, r⟩ := Zl3 P
   obtain ⟨ad, ws, rfl, hS, P2⟩ := Zb3.mp r
   refine ⟨ad, ws, rfl, hS, fun J H2 e2 e3 => ?_⟩
   subst e2 e3
   exact q _ _ ι' l h (Zn5 hS P2 fun i H x y h => y ws h)
  ·obtain ⟨ad, ws, rfl, hS, q2⟩ := q2
   obtain ⟨u, rfl, ru⟩ := Zhx r2
   cases ru
   obtain ⟨its, rv, p, hz⟩ := I2.tuple hS
   refine Zpx (show s1.heap.IsTuple ad its.toArray from p) fun h' he hj z' kk => ?_
   have I3 : Inv X pins σ H2 { s1 with heap := h' } := I2.kept (t' := s1.toks) kk
   refine wpAny_pyIter_enum (s := { s1 with heap := h' }) he ?_
   have ne : s1.heap.objs.size + 1 ≠ s1.heap.objs.size := Nat.succ_ne_self _
   refine ⟨s1.heap.objs.size + 1, [s1.heap.objs.size + 1, s1.heap.objs.size], _, Zxv X.K 0 ad, H2, rfl, I3, Zjq ad _ _ 0 ne, ⟨.none, by simpa using he, hj⟩, fun b hb => ?_, q2 _ _ rfl rfl⟩
   have : s1.heap.objs.size ≤ b := by
    rcases List.mem_cons.mp hb with rfl | hb
    ·exact Nat.le_succ _
    ·have : b = s1.heap.objs.size := by simpa using hb
     rw [this]; exact Nat.le_refl _
   have fp := I2.fpOk (b := b) (H' := H2) this (I2.hok.fresh this)
   exact fp
 ·cases e
end
structure Five (z a b c d : Addr) : Prop where
 az : a ≠ z
 bz : b ≠ z
 cz : c ≠ z
 dz : d ≠ z
 ab : a ≠ b
 ac : a ≠ c
 ad : a ≠ d
 bc : b ≠ c
 bd : b ≠ d
 cd : c ≠ d
section
variable {X : Cx}
noncomputable def zipL : List D -> List D -> List D
 | x :: xs, y :: ys => .tup [x, y] :: zipL xs ys
 | _, _ => []
end
section
variable {X : Cx}
noncomputable def tRng2 (ta : TA) : TE := fun σ H Q => ta σ H fun vs H1 => ∃ i j : Int, vs = [.int i, .int j] ∧ ∀ p, H1 p = none -> Q (.ref p) (upd H1 p (.rng i j))
theorem Zwp {a b : Expr} {ta : TA} {p pos : Pos} (hg : Gl X "range") (hm : X.mg "range" = none) (ha : PA X [a, b] ta) (hs : starEach [a, b] X.env = [(false, eval a X.env), (false, eval b X.env)] := by rfl) (hs2 : starEach [b] X.env = [(false, eval b X.env)] := by rfl) :
  PE X (.Call (.Name "range" p) [a, b] [] pos) (tRng2 ta) := by
 intro pins s σ H Q I h
 refine Call_ (Zhp I hg hm boot_range (PyProof.Rows.callWith_type1 (thn (ha pos pins s σ H _ I h) fun us s1 ⟨vs, H1, I1, r1, q1⟩ => ?_) (by rw [hs, hs2]) (by rw [hs2]; rfl)))
 obtain ⟨i, j, rfl, q⟩ := q1
 obtain ⟨u1, u2, rfl, ru1, ru2⟩ := Zwe r1
 obtain ⟨t1, rfl⟩ := ru1
 obtain ⟨t2, rfl⟩ := ru2
 refine call_range_2 ?_
 exact ⟨.ref s1.heap.objs.size, _, I1.laid (t' := s1.toks + 1) (o := .rng i j) (fun b o e => Heap.get?_push_of_some _ e) (Nat.le_refl _) ⟨_, _, _, Heap.get?_push_size _ rfl⟩, rfl, q _ (I1.hok.fresh (Nat.le_refl _))⟩
theorem Zut {α β : Type} {F : α -> β -> Prop} : ∀ {xs : List α} {us : List β}, xs.length = us.length -> (∀ (i : Nat) x u, xs[i]? = some x -> us[i]? = some u -> F x u) -> Paired F xs us
 | [], [], _, _ => .nil
 | [], _ :: _, h, _ => by simp at h
 | _ :: _, [], h, _ => by simp at h
 | x :: xs, u :: us, h, f => .cons (f 0 x u rfl rfl) (Zut (by simpa using h) fun i y v h1 h2 => f (i + 1) y v (by simpa using h1) (by simpa using h2))
noncomputable def Zlm (lo : Int) (n : Nat) : List V := (List.range n).map fun k : Nat => .int (lo + (k : Int))
theorem Zj5 (hc : X.calm = true) : Zh8 X (.type "list") (fun xs H Q => ∃ p i j, xs = [.ref p] ∧ H p = some (.rng i j) ∧ Zeu i ∧ Zeu j ∧ (j - i).toNat ≤ 1000000 ∧ ∀ l, H l = none → Q (.ref l) (upd H l (.lst (Zlm i (j - i).toNat)))) := by
 intro pins s σ H xs us Q I r h
 obtain ⟨p, i, j, rfl, hH, hi, hj, hn, q⟩ := h
 obtain ⟨u, rfl, rx⟩ := Zhx r
 cases rx
 obtain ⟨t, u, v, hr⟩ := (show Zeq X.prog X.w H s.heap p (.rng i j) from I.hok p _ hH)
 have e : Builtin.Range.rangeSize i j 1 = ((j - i).toNat : Nat) := by rw [rangeSize_one]; split <;> omega
 refine call_list_range (I.ok.hd hc) hr (small_one hi.1 hi.2 hj.1 hj.2) e (by omega) fun h' tk acc' c' kp hS hacc => ?_
 have sz : sizeLine = 16777216 := sizeLine_eq
 have vals : Zca (Zlm i (j - i).toNat) acc'.toList := by
  refine Zut (by simp [Zlm, hacc.1]) fun k x u h1 h2 => ?_
  unfold Zlm at h1
  rw [List.getElem?_map] at h1
  obtain ⟨k', h3, rfl⟩ := Zm h1
  rw [List.getElem?_eq_some_iff] at h3
  obtain ⟨_, h3⟩ := h3
  simp at h3
  subst h3
  obtain ⟨t, e⟩ := hacc.2 k u (by simpa using h2)
  exact ⟨t, by rw [e, Int.mul_one]⟩
 exact ⟨.ref s.heap.objs.size, _, I.laid (t' := tk) (o := .lst (Zlm i (j - i).toNat)) kp (Nat.le_refl _) ⟨by simp [Zlm]; omega, acc'.toList, c', vals, by simpa using hS⟩, rfl, q _ (I.hok.fresh (Nat.le_refl _))⟩
noncomputable def Zys (f : AF) : EF := fun σ H => (f σ H).bind fun p => match p.1 with
 | [.int i, .int j] => if Zeu i ∧ Zeu j ∧ (j - i).toNat ≤ 1000000 then some (.ref p.2.length, p.2 ++ [.lst (Zbw i (j - i).toNat)]) else none
 | _ => none
theorem Zpj {a b : Expr} {f : AF} {p p2 pos pos2 : Pos} (hc : X.calm = true) (hg : Gl X "list") (hm : X.mg "list" = none) (hg2 : Gl X "range") (hm2 : X.mg "range" = none) (ha : PAf X [a, b] f)
  (hs : starEach [a, b] X.env = [(false, eval a X.env), (false, eval b X.env)] := by rfl) (hs2 : starEach [b] X.env = [(false, eval b X.env)] := by rfl)
  (he : starEach [Expr.Call (.Name "range" p2) [a, b] [] pos2] X.env = (false, eval (Expr.Call (.Name "range" p2) [a, b] [] pos2) X.env) :: starEach [] X.env := by rfl)
  (hpl : (backTo pos (starEach [] X.env)).any (·.1) = false := by rfl) : PEf X (.Call (.Name "list" p) [.Call (.Name "range" p2) [a, b] [] pos2] [] pos) (Zys f) := by
 refine PEi (Zmr (Zj5 hc) hg hm (by decide +kernel) (Zq2 (Zwp hg2 hm2 ha hs hs2) Zu5 he) (by decide) (by decide) he hpl) fun σ H Q zz => ?_
 obtain ⟨ι, σd, Hd, d, Hd', s, hr, e, q⟩ := zz
 obtain ⟨⟨ds, H1⟩, e1, e⟩ := Zo e
 dsimp only at e
 split at e
 ·rename_i i j
  split at e
  ·rename_i hk
   cases e
   refine ⟨ι, σd, Hd, _, _, s, hr, e1, fun vs H' ι' l h P => ?_⟩
   obtain ⟨v, v', rfl, r, r'⟩ := prd2 P
   simp at r r'
   subst r r'
   refine ⟨i, j, rfl, fun r hr' => ⟨r, i, j, rfl, Zbi, hk.1, hk.2.1, hk.2.2, fun lx hl => ?_⟩⟩
   have h2 := h.tup hr' (.rng i j)
   have sz : sizeLine = 16777216 := sizeLine_eq
   have P2 : Paired (Rep X.K (upd H' r (.rng i j)) ι') (Zbw i (j - i).toNat) (Zlm i (j - i).toNat) := by
    unfold Zbw Zlm
    generalize (List.range (j - i).toNat) = ks
    induction ks with
    | nil => exact .nil
    | cons k ks ih => exact .cons (by simp) ih
   refine (Zgb h2 P2 (show mkL (Zbw i (j - i).toNat) H1 = some _ by unfold mkL; rw [if_pos (by simp [Zbw]; omega)]) fun v2 H2 ι2 l2 h2 r2 => q v2 H2 ι2 ((l.trans (Le.fresh hr' _)).trans l2) h2 r2).2 _ hl
  ·cases e
 ·cases e
end
structure Fn (P : Program) (w : World) (K : PySem.W.Frag) (mg : Str -> Option Value) (base : Heap) (k : Nat) (x : Str) (ps : List Str) (F : FF) : Prop where
 ex : ∃ f fd, FnOk P w K mg base CX0 k f fd ps (spF K ps.length F) ∧ Zhf K fd ps [] ∧ PySem.W.keepIn K (.ref f) = true ∧ mg x = some (.ref f) ∧ ∃ (oc : Value) (od : Option Addr) (osl : Array (Option Value)), K.lookup f = some ⟨oc, od, .func fd, osl⟩
theorem Zap {X : Cx} {k n : Nat} {ps : List Str} {x : Str} {p pos : Pos} {F : FF} {fa : AF} {e : Expr} {es : List Expr} (G : Fn X.prog X.w X.K X.mg X.base k x ps F) (hr : Room k X.A) (hg : Gl X x)
  (ha : PAf X (e :: es) fa) (hdb : (x == ("__debug__" : Str)) = false := by decide) (he : starEach (e :: es) X.env = (false, eval e X.env) :: starEach es X.env := by exact Zco rfl) (hpl : (backTo pos (starEach es X.env)).any (·.1) = false := by exact Zdv rfl) (hn : ps.length = n := by rfl) :
  PEf X (.Call (.Name x p) (e :: es) [] pos) (Zal n F fa) := by
 subst hn
 obtain ⟨f, fd, G1, hb, hk, hm, _⟩ := G.ex
 exact Zth G1 hr hg hm hk hb ha hdb he hpl
noncomputable def Tf (K : PySem.W.Frag) (mg : Str -> Option Value) (x : Str) (st : Stmt) : Prop := ∃ f fd, Fun K x x st f fd ∧ mg x = some (.ref f)
theorem us0 {us : List Value} (h : us.length = 0) : us = [] := List.length_eq_zero_iff.mp h
theorem us1 {us : List Value} (h : us.length = 1) : ∃ a, us = [a] := by
 obtain ⟨a, r⟩ := List.exists_cons_of_length_eq_add_one h
 obtain ⟨t, rfl⟩ := r
 rw [us0 (us := t) (by simpa using h)]
 exact ⟨a, rfl⟩
theorem us2 {us : List Value} (h : us.length = 2) : ∃ a b, us = [a, b] := by
 obtain ⟨a, t, rfl⟩ := List.exists_cons_of_length_eq_add_one h
 obtain ⟨b, rfl⟩ := us1 (us := t) (by simpa using h)
 exact ⟨a, b, rfl⟩
theorem us3 {us : List Value} (h : us.length = 3) : ∃ a b c, us = [a, b, c] := by
 obtain ⟨a, t, rfl⟩ := List.exists_cons_of_length_eq_add_one h
 obtain ⟨b, c, rfl⟩ := us2 (us := t) (by simpa using h)
 exact ⟨a, b, c, rfl⟩
theorem us4 {us : List Value} (h : us.length = 4) : ∃ a b c d, us = [a, b, c, d] := by
 obtain ⟨a, t, rfl⟩ := List.exists_cons_of_length_eq_add_one h
 obtain ⟨b, c, d, rfl⟩ := us3 (us := t) (by simpa using h)
 exact ⟨a, b, c, d, rfl⟩
theorem Zc3 {K : PySem.W.Frag} {h : Heap} {mg : Str -> Option Value} {x : Str} {st : Stmt} {f : Addr} {oc : Value} {od an : Option Addr} {osl : Array (Option Value)} {kV doc pm cdv ct : Value} (X : K.In h) (G : h.Ns mainGlobals mg)
  (a : PySem.W.nsIn K mainGlobals x = some (some (.ref f))) (l : K.lookup f = some ⟨oc, od, .func (PySem.W.fnOf x x (Zen st) (Zcn st) (Zak st) .none kV doc pm an cdv ct), osl⟩)
  (c : PySem.W.codeIn K cdv x = true) (k : PySem.W.keepIn K (.ref f) = true) : Tf K mg x st := ⟨f, _, Zsp l c k, PySem.W.mg_of X G a⟩
theorem Zc0 {P : Program} {w : World} {K : PySem.W.Frag} {mg : Str -> Option Value} {base : Heap} {x : Str} {st : Stmt} {N ps : List Str} {k : Nat} {b : SF} (T : Tf K mg x st) (S : FnScope N ps (Zak st))
  (hbd : ∀ (kV doc pm : Value) (an : Option Addr) (cdv ct : Value) (us : List Value), us.length = ps.length -> bindArgs (PySem.W.fnOf x x (Zen st) (Zcn st) (Zak st) .none kV doc pm an cdv ct) ⟨us, []⟩ = pure (ps.zip us))
  (hb : ∀ (f : Addr) (cdv : Value) (A : Around) (outer : List Env) (s : Shared) (H : Hp) (E : XK), Room k (A.deeper (envOfC x (Zak st) s.heap.objs.size f cdv)) →
   Zpy (Zpm CX0 P w K mg base N x (Zak st) f cdv A outer s H E).nox (Zcn st) b) : Fn P w K mg base (k + 1) x ps (Zbq ps.length N.length b) := by
 obtain ⟨f, fd, F, hm⟩ := T
 refine ⟨f, fd, fn_f F S fun cdv A outer s H E hr => hb f cdv A outer s H E hr, F.binds hbd, F.kp, hm, ?_⟩
 obtain ⟨oc, od, kV, doc, pm, an, cdv, ct, osl, rfl, lk, hcd⟩ := F.ex
 exact ⟨oc, od, osl, lk⟩
noncomputable def blkB (sc scope : Scope) (N : List Str) (x : Str) (cn : List Str) (ci : List Nat) : Bool :=
 (scope.kind == .function) && scope.names.all (fun y => y.2 != .cell) && scope.names.all (fun y => y.2 != .local || scope.names.lookup y.1 == some .local) && (scope.names.lookup x == some .local) &&
 scope.names.all (fun y => y.2 != .free || sc.names.lookup y.1 == some .cell) && decide (x :: cn).Nodup && (ci.length == cn.length) &&
 (cn.zip ci).all (fun p => N[p.2]? == some p.1 && scope.names.lookup p.1 == some .free && sc.names.lookup p.1 == some .cell)
theorem Ze0 {P : Program} {w : World} {K : PySem.W.Frag} {mg : Str -> Option Value} {base : Heap} {N : List Str} {qual : Str} {sc scope : Scope} {f : Addr} {cdv : Value} {A : Around} {outer : List Env} {s : Shared} {H : Hp} {E : XK} {x : Str} {cn : List Str} {ci : List Nat}
  (h : blkB sc scope N x cn ci = true) : BlkOk (Zpm CX0 P w K mg base N qual sc f cdv A outer s H E).nox scope x cn ci := by
 unfold blkB at h
 simp only [Bool.and_eq_true, List.all_eq_true, Bool.or_eq_true, bne_iff_ne, ne_eq, beq_iff_eq, decide_eq_true_eq] at h
 obtain ⟨⟨⟨⟨⟨⟨⟨h1, h2⟩, h3⟩, h4⟩, h5⟩, h6⟩, h7⟩, h8⟩ := h
 refine ⟨h1, fun y hy => h2 y hy, fun y hy hl => (h3 y hy).resolve_left fun z => z hl, h4, fun y hy hf => ?_, h6, h7, fun j y hj => ?_⟩
 ·have := (h5 y hy).resolve_left fun z => z hf
  obtain ⟨c, hc⟩ := Zh1 (n := s.heap.objs.size + 1) this
  exact Option.isSome_iff_exists.mpr ⟨c, hc⟩
 ·have hl : j < ci.length := by rw [h7]; exact (List.getElem?_eq_some_iff.mp hj).1
  have hm : (y, ci[j]) ∈ cn.zip ci := by
   refine List.mem_iff_getElem?.mpr ⟨j, ?_⟩
   rw [List.getElem?_zip_eq_some]
   exact ⟨hj, by simp [hl]⟩
  obtain ⟨⟨k1, k2⟩, k3⟩ := h8 _ hm
  exact ⟨ci[j], by simp [hl], k1, k2, .inl k3⟩
theorem Zb6 : bootBuiltins "len" = some (.builtin "len") := by decide +kernel
theorem Zse : bootBuiltins "abs" = some (.builtin "abs") := by decide +kernel
theorem Zup : bootBuiltins "min" = some (.builtin "min") := by decide +kernel
theorem Zss : bootBuiltins "sorted" = some (.builtin "sorted") := by decide +kernel
theorem Zfd : bootBuiltins "isinstance" = some (.builtin "isinstance") := by decide +kernel
theorem Zuu : bootBuiltins "all" = some (.builtin "all") := by decide +kernel
theorem Zuw : bootBuiltins "int" = some (.type "int") := by decide +kernel
theorem Zfg : bootBuiltins "tuple" = some (.type "tuple") := by decide +kernel
theorem Zwi : bootBuiltins "list" = some (.type "list") := by decide +kernel
theorem Zxi : bootBuiltins "bool" = some (.type "bool") := by decide +kernel
section
variable {X : Cx} {tg : Expr}
theorem Zwj {K : PySem.W.Frag} {H0 : Hp} {ι0 : List Addr} {a : Addr} {xs : List D} {vs : List V} (hS : SqT K H0 a vs) (P : Paired (Rep K H0 ι0) xs vs) : ItRep K (Itt K a) xs [] H0 ι0 := by
 refine ⟨fun i H2 ι2 Hd2 l2 h2 _ hi => ?_, fun i H2 ι2 Hd2 d x H3 l2 h2 _ hd y => ?_, fun i H2 ι2 Hd2 l2 h2 _ hi => ⟨vs, l2.tup a vs hS, by rw [← Prd.len P]; exact hi⟩⟩
 ·exact ⟨vs, vs[i]'(by rw [← Prd.len P]; exact hi), l2.tup a vs hS, by simp⟩
 ·obtain ⟨rfl, y⟩ := y
  obtain ⟨u, hu, ru⟩ := Prd.get P hd
  have := y vs (l2.tup a vs hS)
  rw [hu] at this
  cases this
  exact ⟨ι2, Le.refl, h2, ru.mono l2⟩
theorem Zyg {K : PySem.W.Frag} {H0 : Hp} {ι0 : List Addr} {a : Addr} {xs : List D} {vs : List V} (hS : FzL K H0 a vs) (P : Paired (Rep K H0 ι0) xs vs) : ItRep K (Itl K a) xs [] H0 ι0 := by
 refine ⟨fun i H2 ι2 Hd2 l2 h2 _ hi => ?_, fun i H2 ι2 Hd2 d x H3 l2 h2 _ hd y => ?_, fun i H2 ι2 Hd2 l2 h2 _ hi => ⟨vs, (l2.fz a vs hS).sq, by rw [← Prd.len P]; exact hi⟩⟩
 ·exact ⟨vs, vs[i]'(by rw [← Prd.len P]; exact hi), (l2.fz a vs hS).sq, by simp⟩
 ·obtain ⟨rfl, y⟩ := y
  obtain ⟨u, hu, ru⟩ := Prd.get P hd
  have := y vs (l2.fz a vs hS).sq
  rw [hu] at this
  cases this
  exact ⟨ι2, Le.refl, h2, ru.mono l2⟩
theorem Zv2 {K : PySem.W.Frag} {H0 : Hp} {ι0 : List Addr} {a : Addr} {n : Nat} {xs : List D} (ha : ι0[n]? = some a) : ItRep K (Itl K a) xs [(n, .lst xs)] H0 ι0 := by
 have now : ∀ {H2 : Hp} {ι2 : List Addr} {Hd2 : HD}, Le K H0 ι0 H2 ι2 -> HRep K H2 ι2 Hd2 -> Zdp [(n, DO.lst xs)] Hd2 -> ∃ ws, H2 a = some (.lst ws) ∧ Paired (Rep K H2 ι2) xs ws := fun {H2 ι2 Hd2} l2 h2 ok =>
  h2.obj n a _ (l2.get ha) (ok (n, .lst xs) (by simp))
 refine ⟨fun i H2 ι2 Hd2 l2 h2 ok hi => ?_, fun i H2 ι2 Hd2 d x H3 l2 h2 ok hd y => ?_, fun i H2 ι2 Hd2 l2 h2 ok hi => ?_⟩
 ·obtain ⟨ws, h3, P3⟩ := now l2 h2 ok
  exact ⟨ws, ws[i]'(by rw [← Prd.len P3]; exact hi), SqL.of h3, by simp⟩
 ·obtain ⟨ws, h3, P3⟩ := now l2 h2 ok
  obtain ⟨rfl, y⟩ := y
  obtain ⟨u, hu, ru⟩ := Prd.get P3 hd
  have := y ws (SqL.of h3)
  rw [hu] at this
  cases this
  exact ⟨ι2, Le.refl, h2, ru⟩
 ·obtain ⟨ws, h3, P3⟩ := now l2 h2 ok
  exact ⟨ws, SqL.of h3, by rw [← Prd.len P3]; exact hi⟩
noncomputable def iSq (f : EF) : ItF := fun σ H => (f σ H).bind fun p => (Zhs p.1 p.2).map fun r => (r, p.2)
theorem Zd9 {l : Expr} {f : EF} (hl : PEf X l f) : PIf X tg l (iSq f) := by
 rintro pins s σ H R I ⟨ι, σd, Hd, xs, own, Hd', sr, hr, e, q⟩
 obtain ⟨⟨d, H1⟩, e1, e⟩ := Zo e
 obtain ⟨⟨ys, ow⟩, e2, e⟩ := Zm e
 obtain ⟨e3, rfl⟩ := Prod.mk.inj e
 obtain ⟨rfl, rfl⟩ := Prod.mk.inj e3
 refine thn (hl pins s σ H (fun v H1 => ∃ a, v = .ref a ∧ (((∃ xs, SqL X.K H1 a xs) ∧ R (Itl X.K a) H1) ∨ ((∃ xs, SqT X.K H1 a xs) ∧ R (Itt X.K a) H1))) I ⟨ι, σd, Hd, _, _, sr, hr, e1, fun v H' ι' l h r => ?_⟩) fun v s1 ⟨x, H2, I2, r2, q2⟩ => ?_
 ·cases d with
  | tup zs =>
   cases e2
   obtain ⟨a, vs, rfl, hS, P⟩ := Zb3.mp r
   exact ⟨a, rfl, .inr ⟨⟨vs, hS⟩, q _ H' ι' l h (Zwj hS P)⟩⟩
  | fl zs =>
   cases e2
   obtain ⟨a, vs, rfl, hS, P⟩ := Zf9.mp r
   exact ⟨a, rfl, .inl ⟨⟨vs, hS.sq⟩, q _ H' ι' l h (Zyg hS P)⟩⟩
  | ref n =>
   simp only [Zhs] at e2
   split at e2
   ·rename_i zs eo
    obtain ⟨e5, e6⟩ := Prod.mk.inj (Option.some.inj e2)
    subst e5 e6
    obtain ⟨a, rfl, ha⟩ := Za8.mp r
    obtain ⟨vs, h1, P⟩ := h.obj n a _ ha eo
    exact ⟨a, rfl, .inl ⟨⟨vs, SqL.of h1⟩, q _ H' ι' l h (Zv2 ha)⟩⟩
   ·cases e2
  | _ => simp [Zhs] at e2
 ·obtain ⟨a, rfl, q2⟩ := q2
  cases r2
  have fp : ∀ b ∈ [s1.heap.objs.size], Zm2 X pins H2 b := fun b hb => by
   have e : b = s1.heap.objs.size := by simpa using hb
   subst e
   exact I2.fpOk (Nat.le_refl _) (I2.hok.fresh (Nat.le_refl _))
  rcases q2 with ⟨⟨xs, hq⟩, q2⟩ | ⟨⟨xs, hq⟩, q2⟩
  ·obtain ⟨its, rv, p, hz⟩ := I2.list hq
   exact wpAny_pyIter_list p.isList ⟨s1.heap.objs.size, [s1.heap.objs.size], _, _, H2, rfl, I2.kept (t' := s1.toks) fun b o e => Heap.get?_push_of_some _ e, Zrk a _, ⟨_, Heap.get?_push_size _ rfl, rfl, rfl⟩, fp, q2⟩
  ·obtain ⟨its, rv, p, hz⟩ := I2.tuple hq
   exact wpAny_pyIter_tuple (show s1.heap.IsTuple a its.toArray from p) ⟨s1.heap.objs.size, [s1.heap.objs.size], _, _, H2, rfl, I2.kept (t' := s1.toks) fun b o e => Heap.get?_push_of_some _ e, Zpq a _, ⟨_, Heap.get?_push_size _ rfl, rfl, rfl⟩, fp, q2⟩
end
theorem Zag {X : Cx} {e : Expr} {es : List Expr} {f : EF} {g : AF} (ha : PEf X e f) (hr : PAf X es g) (hs : Zox e = true) : PAf X (e :: es) (Zab f g) := Zte ha hr (Zco hs)
noncomputable def Zze (F : FF) (K : PySem.W.Frag) : Sp := spF K 1 F
theorem Zsg {F : FF} (h : ∀ ns : List Int, ns.length ≤ 63 -> ∃ Hd', F [.fl (ns.map .int)] [] = some (.bl true, Hd')) :
  ∀ (K : PySem.W.Frag) (H : Hp) (a : Addr) (ns : List Int), ns.length ≤ 63 -> Zz6 H -> SqL K H a (ns.map V.int) -> Zze F K [.ref a] H (fun v _ => v = .bl true) fun _ _ _ => False := by
 intro K H a ns hl hO hS
 obtain ⟨Hd', e⟩ := h ns hl
 have fz : FzL K H a (ns.map V.int) := by
  rcases hS with (h | h) | h
  ·rcases hO a with z | ⟨o, xs, z⟩
   ·rw [h] at z; cases z
   ·rw [h] at z; cases z
  ·exact .inl h
  ·exact .inr h
 have P : Paired (Rep K H []) (ns.map D.int) (ns.map V.int) := by
  generalize ns = ks
  induction ks with
  | nil => exact .nil
  | cons k ks ih => exact .cons (by simp) ih
 refine ⟨[], [.fl (ns.map .int)], [], .bl true, Hd', rfl, ⟨rfl, List.nodup_nil, fun n a o h1 h2 => by simp at h1⟩, .cons (Zf9.mpr ⟨a, _, rfl, fz, P⟩) .nil, e, fun v H' ι' l h r => by simpa using r⟩
variable {X : Cx}
noncomputable def Zxq : List D -> Option (List Bool)
 | [] => some []
 | .bl b :: r => (Zxq r).map fun x => b :: x
 | _ :: _ => none
theorem Zmf {K : PySem.W.Frag} {H : Hp} {ι : List Addr} : ∀ {xs : List D} {bs : List Bool} {vs : List V} {us : List Value}, Zxq xs = some bs -> Paired (Rep K H ι) xs vs -> Zca vs us -> us = bs.map .bool
 | [], bs, vs, us, e, P, q => by cases e; cases P; cases q; rfl
 | d :: r, bs, vs, us, e, P, q => by
  cases P with
  | cons p P =>
   cases q with
   | cons q Q =>
    cases d <;> simp only [Zxq] at e <;> try cases e
    obtain ⟨y, e1, rfl⟩ := Zm e
    simp at p
    subst p
    cases q
    rw [Zmf e1 P Q]
    rfl
theorem Ztk (bs : List Bool) : Zxq (bs.map .bl) = some bs := by
 induction bs with
 | nil => rfl
 | cons b r ih => simp [Zxq, ih]
noncomputable def Zwf : FF := fun ds H => match ds with
 | [.ref n] => match H[n]? with
  | some (.lst xs) => (Zxq xs).map fun bs => (.bl (bs.all id), H)
  | _ => none
 | _ => none
theorem Zsd (bs : List Bool) : ((List.range bs.length).all fun i => (bs[i]?).getD true) = bs.all id := by
 rw [Bool.eq_iff_iff, List.all_eq_true, List.all_eq_true]
 constructor
 ·intro h x hx
  obtain ⟨i, hi, rfl⟩ := List.getElem_of_mem hx
  have := h i (by simpa using hi)
  simpa [hi] using this
 ·intro h i hi
  have hi : i < bs.length := by simpa using hi
  have := h _ (List.getElem_mem hi)
  simpa [hi] using this
theorem Zmg (hc : X.calm = true) : Zh0 X (.builtin "all") Zwf := by
 rintro pins s σ H xs us Q I rv ⟨ι, ds, Hd, d, Hd', hr, P, e, q⟩
 unfold Zwf at e
 split at e
 ·rename_i n
  split at e
  ·rename_i ys eo
   obtain ⟨bs, e1, e⟩ := Zm e
   obtain ⟨rfl, rfl⟩ := Prod.mk.inj e
   obtain ⟨v, rfl, r⟩ := Zl3 P
   obtain ⟨a, rfl, ha⟩ := Za8.mp r
   obtain ⟨vs, h1, P2⟩ := hr.obj n a _ ha eo
   cases rv with
   | cons rx rv =>
    cases rv
    cases rx
    obtain ⟨its, rv2, p, hz⟩ := I.list (SqL.of h1)
    have eits := Zmf e1 P2 rv2
    have hlt : a < s.heap.objs.size := by
     obtain ⟨o, ho, _⟩ := p.isList
     exact Heap.lt_size ho
    refine call_all_walk (wpAny_pyIter_list p.isList ⟨s.heap.objs.size, [s.heap.objs.size, a], [s.heap.objs.size], its.toArray.size, _, _, fun i => (bs[i]?).getD true, rfl,
     Walks.list (A := X.A.in1) (show X.A.in1.handled = none from I.ok.hd hc) s.heap.objs.size a (Nat.ne_of_lt hlt) its.toArray, ⟨⟨_, Heap.get?_push_size _ rfl, rfl, rfl⟩, p.isList.at fun o z => Heap.get?_push_of_some _ z⟩, ?_, fun h' tk k => ?_⟩)
    ·intro i v s2 Q2 E2 hv hq
     rw [eits] at hv
     have hv2 : (bs.map Value.bool)[i]? = some v := by simpa using hv
     rw [List.getElem?_map] at hv2
     obtain ⟨b, hb, rfl⟩ := Zm hv2
     refine wpAny_truthy_bool ?_
     simpa [hb] using hq
    ·have hn : its.toArray.size = bs.length := by rw [eits]; simp
     rw [hn, Zsd]
     refine ⟨.bl (bs.all id), H, I.kept (t' := tk) fun b o z => k b o ?_ (Heap.get?_push_of_some _ z), rfl, q _ H ι Le.refl hr (by simp)⟩
     intro hm
     have : b = s.heap.objs.size := by simpa using hm
     exact absurd (this ▸ Heap.lt_size z) (Nat.lt_irrefl _)
  ·cases e
 ·cases e
variable {X : Cx}
noncomputable def Gc (K : PySem.W.Frag) (mg : Str -> Option Value) (x : Str) (d : D) : Prop := ∃ u v, mg x = some u ∧ Zdm v u ∧ ∀ H ι, Rep K H ι d v
theorem Zuo {x : Str} {d : D} {pos : Pos} (hg : Gl X x) (h : Gc X.K X.mg x d) (hd : (x == ("__debug__" : Str)) = false := by decide) : PEf X (.Name x pos) (eC d) := by
 obtain ⟨u, v, hm, r, rp⟩ := h
 exact Zo7 (Zvy (v := v) hg hm r hd) rp
variable {X : Cx}
noncomputable def Zb2 (kvs : List (D × D)) (k : List Int) : Option D := (kvs.find? fun p => nk p.1 == some k).map (·.2)
noncomputable def Zpi (kvs : List (D × D)) (kd : D) (k : List Int) (vd : D) : List (D × D) :=
 if (Zb2 kvs k).isSome then kvs.map (fun p => if nk p.1 = some k then (p.1, vd) else p) else kvs ++ [(kd, vd)]
section
variable {K : PySem.W.Frag} {H : Hp} {ι : List Addr}
theorem Zig {kvs : List (D × D)} {xs : List (List Int × Addr × Value)} (h : Paired (Zp3 K H ι) kvs xs) (k : List Int) :
  (Zb2 kvs k = none ∧ atKey xs k = none) ∨ ∃ vd b u v, Zb2 kvs k = some vd ∧ atKey xs k = some (b, u) ∧ Zdm v u ∧ Rep K H ι vd v := by
 unfold Zb2 atKey
 induction h with
 | nil => exact .inl ⟨rfl, rfl⟩
 | @cons p x ps ys r t ih =>
  obtain ⟨r1, r2, v, r3, r4⟩ := r
  by_cases hk : x.1 = k
  ·have e1 : (nk p.1 == some k) = true := by rw [r1, hk]; simp
   refine .inr ⟨p.2, x.2.1, x.2.2, v, ?_, ?_, r3, r4⟩
   ·rw [List.find?_cons]; simp only [e1]; rfl
   ·rw [List.find?_cons]; simp only [hk, decide_true]; rfl
  ·have e1 : ¬ (nk p.1 == some k) = true := by rw [r1]; simpa using hk
   have e1' : (nk p.1 == some k) = false := by simpa using e1
   have e2' : decide (x.1 = k) = false := decide_eq_false hk
   rw [List.find?_cons, List.find?_cons]
   simp only [e1', e2']
   exact ih
theorem Zt5 {kvs : List (D × D)} {xs : List (List Int × Addr × Value)} {kd vd : D} {k : List Int} {b : Addr} {u : Value} {v : V} (h : Paired (Zp3 K H ι) kvs xs) (h1 : nk kd = some k) (h2 : Rep K H ι kd (.ref b)) (rv : Zdm v u) (r : Rep K H ι vd v) :
  Paired (Zp3 K H ι) (Zpi kvs kd k vd) (storedH xs k b u) := by
 have all : ∀ {ls : List (D × D)} {ys : List (List Int × Addr × Value)}, Paired (Zp3 K H ι) ls ys -> Paired (Zp3 K H ι) (ls.map (fun p => if nk p.1 = some k then (p.1, vd) else p)) (ys.map (putAt k u)) := by
  intro ls ys q
  induction q with
  | nil => exact .nil
  | @cons p x ps zs r' t ih =>
   refine .cons ?_ ih
   obtain ⟨r1, r2, r3⟩ := r'
   unfold putAt
   by_cases hk : x.1 = k
   ·have e : nk p.1 = some k := by rw [r1, hk]
    show Zp3 K H ι (if nk p.1 = some k then (p.1, vd) else p) (if x.1 = k then (x.1, x.2.1, u) else x)
    rw [if_pos hk, if_pos e]
    exact ⟨r1, r2, v, rv, r⟩
   ·have e : ¬ nk p.1 = some k := by rw [r1]; simpa using hk
    show Zp3 K H ι (if nk p.1 = some k then (p.1, vd) else p) (if x.1 = k then (x.1, x.2.1, u) else x)
    rw [if_neg hk, if_neg e]
    exact ⟨r1, r2, r3⟩
 unfold Zpi storedH
 rcases Zig h k with ⟨e1, e2⟩ | ⟨_, _, _, _, e1, e2, _⟩
 ·rw [e1, e2]
  exact Prd.append h (.cons ⟨h1, h2, v, rv, r⟩ .nil)
 ·rw [e1, e2]
  exact all h
theorem Zua (kvs : List (D × D)) (kd : D) (k : List Int) (vd : D) : (Zpi kvs kd k vd).length ≤ kvs.length + 1 := by
 unfold Zpi; split <;> simp
end
section
variable {pins : List (Addr × Obj)} {σ : L2.St} {H : Hp} {s : Shared} {ι : List Addr} {Hd : HD}
theorem Zx4 {d : D} {v : V} {u : Value} {k : Int} {K : PySem.W.Frag} (e : nkOf d = some k) (r : Rep K H ι d v) (q : Zdm v u) : Zn2 k u = true := by
 cases d with
 | bl b => cases e; simp at r; subst r; cases q; simp [Zn2, Zru]
 | int i => cases e; simp at r; subst r; obtain ⟨t, rfl⟩ := q; simp [Zn2, Zru]
 | _ => cases e
theorem Zls {P : Program} {w : World} {K : PySem.W.Frag} : ∀ {ds : List D} {vs : List V} {us : List Value} {ks : List Int}, Znu ds = some ks -> Paired (Rep K H ι) ds vs -> Zca vs us -> ItemsAre (Zey P w) ks us
 | [], vs, us, ks, e, p, q => by cases e; cases p; cases q; exact .nil
 | d :: ds, vs, us, ks, e, p, q => by
  cases p with
  | cons p1 p2 =>
   cases q with
   | cons q1 q2 =>
    simp only [Znu] at e
    obtain ⟨k, e1, e⟩ := Zo e
    obtain ⟨r, e2, rfl⟩ := Zm e
    exact .cons (Zx4 e1 p1 q1) (Zls e2 p2 q2)
theorem Zn7 (I : Inv X pins σ H s) {d : D} {k : List Int} {b : Addr} (e : nk d = some k) (r : Rep X.K H ι d (.ref b)) : (tupleKind (Zey X.prog X.w)).is s.heap k b := by
 cases d <;> simp only [nk] at e <;> try cases e
 rename_i ds
 obtain ⟨a, vs, ea, h, P⟩ := Zb3.mp r
 cases ea
 obtain ⟨its, rv, ht, hz⟩ := I.tuple h
 obtain ⟨o, h1, h2, n, h3⟩ := ht
 exact ⟨o, its.toArray, n, h1, h2, h3, by simpa using Zls e P rv⟩
theorem Zji (I : Inv X pins σ H s) {a : Addr} {kvs : List (D × D)} {fz : Bool} (h : Zp2 X.K H ι a (.dic kvs fz)) : (a == sysModules) = false ∧ kvs.length ≤ sizeLine ∧ ∃ xs, (if fz = true then ∃ o, H a = some (.frz o (.ext (Zdx a xs))) else H a = some (.ext (Zdx a xs))) ∧ Paired (Zp3 X.K H ι) kvs xs ∧ s.heap.DictOfH (tupleKind (Zey X.prog X.w)) a xs := by
 obtain ⟨h1, h2, xs, e, p⟩ := h
 have rd : Rd H a (.ext (Zdx a xs)) := by
  cases fz with
  | true => rw [if_pos rfl] at e; exact .inr e
  | false => rw [if_neg (by simp)] at e; exact .inl e
 obtain ⟨⟨o, es, ep, g1, g2, g3, g4, g5⟩, _⟩ := (show Zeq X.prog X.w H s.heap a (.ext (Zdx a xs)) from rd.ok I.hok)
 refine ⟨h1, h2, xs, e, p, o, es, ep, g1, g2, g3, g4, ?_, g5⟩
 have all : ∀ {l : List (D × D)} {m : List (List Int × Addr × Value)}, Paired (Zp3 X.K H ι) l m -> ∀ x ∈ m, (tupleKind (Zey X.prog X.w)).is s.heap x.1 x.2.1 := by
  intro l m q
  induction q with
  | nil => intro x hx; exact nomatch hx
  | @cons p x ps qs hq t ih =>
   intro y hy
   rcases List.mem_cons.mp hy with e | hy
   ·subst e
    exact Zn7 I hq.1 hq.2.1
   ·exact ih y hy
 exact all p
end
noncomputable def Zsw (x : D) (H : HD) : Option (List (D × D)) := match x with
 | .ref n => match H[n]? with
  | some (.dic kvs _) => some kvs
  | _ => none
 | _ => none
theorem Ziu {x : D} {Hd : HD} {kvs : List (D × D)} (e : Zsw x Hd = some kvs) : ∃ n fz, x = .ref n ∧ Hd[n]? = some (.dic kvs fz) := by
 cases x <;> simp only [Zsw] at e <;> try cases e
 rename_i n
 split at e
 ·rename_i fz h; cases e; exact ⟨n, fz, rfl, h⟩
 ·cases e
noncomputable def Zi4 : F2 := fun x y H => (Zsw x H).bind fun kvs => (nk y).bind fun k => (Zb2 kvs k).map fun v => (v, H)
theorem Zqm {K : PySem.W.Frag} {H : Hp} {ι : List Addr} {d : D} {k : List Int} {v : V} (e : nk d = some k) (r : Rep K H ι d v) : ∃ b, v = .ref b := by
 cases d <;> simp only [nk] at e <;> try cases e
 obtain ⟨a, vs, rfl, _⟩ := Zb3.mp r
 exact ⟨a, rfl⟩
theorem Zvp (hu : X.A.units + 64 < cLine) : IxF X Zi4 := by
 rintro va sl pins s σ H x y v u Q I rx ry ⟨ι, dx, dy, Hd, d, Hd', hr, r1, r2, e, q⟩ hs
 obtain ⟨kvs, e1, e⟩ := Zo e
 obtain ⟨k, e2, e⟩ := Zo e
 obtain ⟨vd, e3, e⟩ := Zm e
 obtain ⟨rfl, rfl⟩ := Prod.mk.inj e
 obtain ⟨n, fz, rfl, hn⟩ := Ziu e1
 obtain ⟨a, rfl, ha⟩ := Za8.mp r1
 obtain ⟨b, rfl⟩ := Zqm e2 r2
 cases rx
 cases ry
 obtain ⟨h1, h2, xs, h3, P, dd⟩ := Zji I (hr.obj n a _ ha hn)
 have key := Zn7 I e2 r2
 rcases Zig P k with ⟨z, _⟩ | ⟨vd', b', u', v', z1, z2, z3, z4⟩
 ·rw [z] at e3; cases e3
 ·rw [z1] at e3; cases e3
  have ty : s.TypeIs (.ref a) "dict" := dd.typeIs
  refine tail_any (ops := [.ref a, .ref b]) ty PySem.F.slot_dict_getitem.lookup (wpAny_getItem_heap (knd := tupleKind (Zey X.prog X.w)) (tupleKind_room_in1 (by omega)) key dd z2 ?_) hs
  exact ⟨v', H, I.tok _, z3, q _ H ι Le.refl hr z4⟩
noncomputable def dinD : F2 := fun x y H => (Zsw y H).bind fun kvs => (nk x).map fun k => (.bl (Zb2 kvs k).isSome, H)
theorem dinf (hu : X.A.units + 64 < cLine) : OpF X (compareOp .In) dinD := by
 rintro pins s σ H x y v u Q I rx ry ⟨ι, dx, dy, Hd, d, Hd', hr, r1, r2, e, q⟩
 obtain ⟨kvs, e1, e⟩ := Zo e
 obtain ⟨k, e2, e⟩ := Zm e
 obtain ⟨rfl, rfl⟩ := Prod.mk.inj e
 obtain ⟨n, fz, rfl, hn⟩ := Ziu e1
 obtain ⟨a, rfl, ha⟩ := Za8.mp r2
 obtain ⟨b, rfl⟩ := Zqm e2 r1
 cases rx
 cases ry
 obtain ⟨h1, h2, xs, h3, P, dd⟩ := Zji I (hr.obj n a _ ha hn)
 refine wpAny_in_heap (knd := tupleKind (Zey X.prog X.w)) (tupleKind_room_in1 (by omega)) (Zn7 I e2 r1) h1 dd ?_
 have e3 : (atKey xs k).isSome = (Zb2 kvs k).isSome := by
  rcases Zig P k with ⟨z1, z2⟩ | ⟨_, _, _, _, z1, z2, _⟩ <;> rw [z1, z2] <;> rfl
 rw [e3]
 exact ⟨.bl _, H, I.tok _, rfl, q _ H ι Le.refl hr (by simp)⟩
noncomputable def eDN : EF := fun _ H => some (.ref H.length, H ++ [.dic [] false])
theorem Zou {pos : Pos} : PEf X (.Dict [] [] pos) eDN := by
 rintro pins s σ H Q I ⟨ι, σd, Hd, d, Hd', sr, hr, e, q⟩
 cases e
 have hb : sysModules < s.heap.objs.size := Nat.lt_trans (by decide) (show mainGlobals < s.heap.objs.size from (I.mod.glob.keeps I.bk).lt)
 have hp := I.hok.fresh (Nat.le_refl s.heap.objs.size)
 have ok : Zeq X.prog X.w (upd H s.heap.objs.size (.ext (Zdx s.heap.objs.size []))) (s.heap.push { cls := .type "dict", data := .dict #[] }) s.heap.objs.size (.ext (Zdx s.heap.objs.size [])) :=
  ⟨⟨_, #[], 0, Heap.get?_push_size _ rfl, ⟨rfl, rfl, rfl⟩, rfl, rfl, List.nodup_nil⟩, ⟨_, Heap.get?_push_size _ rfl⟩, fun h1 h2 d k => Zdx.keep d k⟩
 refine wpAny_Dict_empty ⟨.ref s.heap.objs.size, _, I.laid (a := s.heap.objs.size) (o := .ext (Zdx s.heap.objs.size [])) (t' := s.toks) (fun _ _ q => Heap.get?_push_of_some _ q) (Nat.le_refl _) ok, rfl, ?_⟩
 have hl : ι.length = Hd.length := hr.len
 refine q _ _ (ι ++ [s.heap.objs.size]) (Le.fresh1 hp _) (hr.new hp ⟨beq_eq_false_iff_ne.mpr (Ne.symm (Nat.ne_of_lt hb)), Nat.zero_le _, [], by rw [if_neg (by simp)]; exact Zbi, .nil⟩) (Za8.mpr ⟨_, rfl, by rw [← hl]; simp⟩)
theorem Zqx {pins : List (Addr × Obj)} {σ : L2.St} {H : Hp} {s : Shared} {a : Addr} {xs xs' : List (List Int × Addr × Value)} {h' : Heap} {t' : Nat} (I : Inv X pins σ H s) (h3 : H a = some (.ext (Zdx a xs))) (dd : h'.DictOfH (tupleKind (Zey X.prog X.w)) a xs') (hs : Heap.SameBut a s.heap h') :
  Inv X pins σ (upd H a (.ext (Zdx a xs'))) { s with heap := h', toks := t' } := by
 obtain ⟨o, es, ep, g1, g2, g3, g4, _, g5⟩ := dd
 have ok : Zeq X.prog X.w (upd H a (.ext (Zdx a xs'))) h' a (.ext (Zdx a xs')) := ⟨⟨o, es, ep, g1, g2, g3, g4, g5⟩, ⟨o, g1⟩, fun h1 h2 d k => Zdx.keep d k⟩
 exact I.write (x := a) (e := a) (by rw [h3]; exact True.intro) (.inl rfl) (fun b q hb z => (hs.2 b hb).trans z) ⟨o, g1⟩ ok
theorem Zvh {H : Hp} {ι : List Addr} {Hd : HD} {n : Nat} {a : Addr} {kvs : List (D × D)} {xs : List (List Int × Addr × Value)} {kd vd : D} {k : List Int} {b : Addr} {u : Value} {v : V} (hr : HRep X.K H ι Hd) (ha : ι[n]? = some a) (h1 : (a == sysModules) = false) (hl : kvs.length < sizeLine) (h3 : H a = some (.ext (Zdx a xs))) (P : Paired (Zp3 X.K H ι) kvs xs) (e2 : nk kd = some k) (r2 : Rep X.K H ι kd (.ref b)) (rv : Zdm v u) (r3 : Rep X.K H ι vd v) :
  Le X.K H ι (upd H a (.ext (Zdx a (storedH xs k b u)))) ι ∧ HRep X.K (upd H a (.ext (Zdx a (storedH xs k b u)))) ι (Hd.set n (.dic (Zpi kvs kd k vd) false)) := by
 have L : Le X.K H ι (upd H a (.ext (Zdx a (storedH xs k b u)))) ι := Le.upd (List.mem_of_getElem? ha) h3 trivial _
 refine ⟨L, hr.upd ha h3 trivial ⟨h1, ?_, _, by rw [if_neg (by simp)]; exact Zbi, ?_⟩⟩
 ·have := Zua kvs kd k vd; omega
 ·refine Zt5 (Prd.imp P fun p x _ z => ⟨z.1, z.2.1.mono L, let ⟨v, z1, z2⟩ := z.2.2; ⟨v, z1, z2.mono L⟩⟩) e2 (r2.mono L) rv (r3.mono L)
section
variable {prog : Program} {w : World} {kd : HeapKind prog w (List Int)} {A : Around} {E : Value -> Shared -> Prop} {s : Shared}
theorem Znp {d b : Addr} {xs : List (List Int × Addr × Value)} {k : List Int} {v : Value} {Q : Value -> Shared -> Prop} (rm : kd.room A) (key : kd.is s.heap k b) (dm : s.heap.DictOfH kd d xs) (sz : xs.length ≤ sizeLine)
  (old : ∀ p, atKey xs k = some p -> Q p.2 { s with toks := s.toks + kd.draws k })
  (new : atKey xs k = none -> ∀ h2, h2.DictOfH kd d (storedH xs k b v) -> Heap.SameBut d s.heap h2 -> Q v { s with heap := h2, toks := s.toks + kd.draws k }) :
  wpAny (model prog w) A (dictSetDefault d (.ref b) v) Q E s := by
 obtain ⟨ob, es, ep, g1, g2, g3, g4, g5, g6⟩ := dm
 unfold dictSetDefault
 refine wpAny_holding (wpAny_bind (kd.pyHash rm key (wpAny_bind (wpAny_dictFind_heap (s := { s with toks := s.toks + kd.draws k }) rm key g1 g3 g4 g5 g6 (fun no => ?_) (fun j p hj => ?_)))))
 ·have em := atKey_none_of_get no
  have sm : ∀ f, Heap.SameBut d s.heap (s.heap.update d f) := fun f => Heap.SameBut.update ..
  have len := size_of_entries g4
  refine wpAny_bind (wpAny_rule (wpAny_bind (wpAny_updateDictKeys (s := { s with toks := s.toks + kd.draws k }) (hz := by omega) g1 g3 (wpAny_pure (new em _ ?_ (sm _))))))
  refine ⟨_, _, ep + 1, Heap.get?_update_self _ g1 (Obj.isFreed_of_dict (Obj.data_mapDictKeys g3 _)), g2.mapDictKeys _, Obj.data_mapDictKeys g3 _, ?_⟩
  rw [storedH_new em]
  refine ⟨by simp [g4, entryOfKey], fun x hx => ?_, ?_⟩
  ·have one : kd.is s.heap x.1 x.2.1 := by
    rcases List.mem_append.mp hx with hx | hx
    ·exact g5 x hx
    ·rw [List.mem_singleton.mp hx]; exact key
   exact kd.keeps one g1 g3 (sm _)
  ·have nm := not_mem_keys_of_get no
   rw [List.map_append, List.nodup_append]
   refine ⟨g6, by simp, fun x hx y hy e => nm ?_⟩
   have yk : y = k := by simpa using hy
   rw [← yk, ← e]
   exact hx
 ·have ae := entry_at g4 j
  rw [hj] at ae
  refine wpAny_bind (wpAny_dictEntries (s := { s with toks := s.toks + kd.draws k }) g1 g3 ?_)
  rw [ae]
  exact wpAny_bind (wpAny_rule (wpAny_pure (old p (atKey_of_get g6 hj))))
end
noncomputable def Zi7 (x : D) (ds : List D) (H : HD) : Option (D × HD) := match x, ds with
 | .ref n, [y, v] => match H[n]? with
  | some (.dic kvs false) => (nk y).bind fun k => if kvs.length < sizeLine then match Zb2 kvs k with
   | some z => some (z, H)
   | none => some (v, H.set n (.dic (Zpi kvs y k v) false))
   else none
  | _ => none
 | _, _ => none
theorem Zwu (hu : X.A.units + 64 < cLine) : MtF X "dict.setdefault" Zi7 := by
 rintro pins s σ H x xs v us Q I rx rv ⟨ι, dx, ds, Hd, d, Hd', hr, r1, P1, e, q⟩
 unfold Zi7 at e
 split at e
 ·rename_i n y vd
  split at e
  ·rename_i kvs hn
   obtain ⟨k, e2, e⟩ := Zo e
   split at e
   ·rename_i hl
    obtain ⟨a, rfl, ha⟩ := Za8.mp r1
    obtain ⟨v1, v2, rfl, ry, rd⟩ := prd2 P1
    obtain ⟨b, rfl⟩ := Zqm e2 ry
    cases rx
    cases rv with
    | cons q1 rv =>
     cases rv with
     | cons q2 rv =>
      cases rv
      cases q1
      rename_i u2
      obtain ⟨h1, h2, ys, h3, P, dd⟩ := Zji I (hr.obj n a _ ha hn)
      rw [if_neg (by simp)] at h3
      have hz : ys.length ≤ sizeLine := by rw [← Prd.len P]; exact h2
      have ty : s.TypeIs (.ref a) "dict" := dd.typeIs
      have body : wpAny (model X.prog X.w) X.A.in1 (Builtin.«dict.setdefault» ⟨[.ref a, .ref b, u2], []⟩) (fun fin s' => ∃ r, fin = .done (.ret r) ∧ EP X pins σ Q r s') X.xe s := by
       unfold Builtin.«dict.setdefault» Builtin.Dict.keyAndDefault
       refine wpAny_bind (wpAny_bind (wpAny_notOrdered_dict ty (wpAny_pure ?_)))
       show wpAny _ _ (if (a == sysModules) = true then _ else (dictSetDefault a (.ref b) u2 >>= _)) _ _ s
       rw [if_neg (by rw [h1]; decide)]
       refine wpAny_bind (Znp (kd := tupleKind (Zey X.prog X.w)) (show (tupleKind (Zey X.prog X.w)).room X.A.in1 from (by show X.A.units + 1 < cLine; omega)) (Zn7 I e2 ry) dd hz (fun p hp => ?_) (fun hp h2' dd' hs => ?_))
       ·rcases Zig P k with ⟨_, z⟩ | ⟨vd', b', u', v', z1, z2, z3, z4⟩
        ·rw [z] at hp; cases hp
        ·rw [z2] at hp; cases hp
         rw [z1] at e; cases e
         exact wpAny_pure ⟨_, rfl, v', H, I.tok _, z3, q _ H ι Le.refl hr z4⟩
       ·rcases Zig P k with ⟨z, _⟩ | ⟨vd', b', u', v', z1, z2, z3, z4⟩
        ·rw [z] at e; cases e
         obtain ⟨L, hr'⟩ := Zvh hr ha h1 hl h3 P e2 ry q2 rd
         exact wpAny_pure ⟨_, rfl, v2, _, Zqx I h3 dd' hs, q2, q _ _ ι L hr' (rd.mono L)⟩
        ·rw [z2] at hp; cases hp
      exact wpAny_call_entry PySem.F.slot_dict_setdefault ty PySem.F.entry_dict_setdefault body (PySem.F.args_dict_setdefault_3 _ _ _)
   ·cases e
  ·cases e
 ·cases e
noncomputable def Zmz : D -> HD -> Bool
 | .ref n, H => match H[n]? with
  | some (.dic _ _) => true
  | _ => false
 | _, _ => false
noncomputable def eDM (g : D -> List D -> HD -> Option (D × HD)) (fo : EF) (f : AF) : EF := fun σ H => (fo σ H).bind fun o => if Zmz o.1 o.2 = true then (f σ o.2).bind fun p => g o.1 p.1 p.2 else none
theorem Zui {pins : List (Addr × Obj)} {σ : L2.St} {H : Hp} {s : Shared} {ι : List Addr} {Hd : HD} {x : D} {v : V} {u : Value} (I : Inv X pins σ H s) (hr : HRep X.K H ι Hd) (r : Rep X.K H ι x v) (rv : Zdm v u) (e : Zmz x Hd = true) :
  s.TypeIs u "dict" ∧ ∀ b, u = .ref b → ∃ ob, s.heap.get? b = some ob ∧ ob.dict = none := by
 cases x <;> simp only [Zmz] at e <;> try cases e
 rename_i n
 split at e
 ·rename_i kvs fz hn
  obtain ⟨a, rfl, ha⟩ := Za8.mp r
  cases rv
  obtain ⟨_, _, xs, _, _, dd⟩ := Zji I (hr.obj n a _ ha hn)
  refine ⟨dd.typeIs, fun b eb => ?_⟩
  cases eb
  obtain ⟨ob, _, _, g1, g2, _⟩ := dd
  exact ⟨ob, g1, g2.2.1⟩
 ·cases e
theorem Zrz {e o : Expr} {es : List Expr} {name : Str} {apos cpos : Pos} {id : String} {g : D → List D → HD → Option (D × HD)} {fo : EF} {f : AF} (slot : Slot "dict" name id) (hty : typeOf (.builtin id) = pure (.type "method_descriptor")) (hm : MtF X id g) (ho : PEf X o fo) (ha : PAf X (e :: es) f)
  (hbase : attributeBase o name X.env (eval o X.env) = eval o X.env := by rfl)
  (hfew : ((backTo cpos (starEach (e :: es) X.env)).all (fun x => !x.1) && (backToKw cpos (keywordEach [] X.env)).all (fun x => x.1.isSome)
   && decide ((e :: es).length + ([] : List Keyword).length + (if ([] : List Keyword).isEmpty then 0 else 1) < 30)) = true := by exact Zor rfl (by decide))
  (hline : (apos.endLine == cpos.line) = true := by rfl) (hs : starEach (e :: es) X.env = (false, eval e X.env) :: starEach es X.env := by exact Zco rfl) (hplain : (backTo cpos (starEach es X.env)).any (·.1) = false := by exact Zdv rfl) :
  PEf X (.Call (.Attribute o name apos) (e :: es) [] cpos) (eDM g fo f) := by
 rintro pins s σ H Q I ⟨ι, σd, Hd, d, Hd', sr, hr, e0, q⟩
 obtain ⟨⟨x, H1⟩, e1, e0⟩ := Zo e0
 dsimp only at e0
 split at e0
 ·rename_i hl
  obtain ⟨⟨y, H2⟩, e2, e0⟩ := Zo e0
  let P1 : VK := fun v1 H1' => ∃ ι1, Le X.K H ι H1' ι1 ∧ HRep X.K H1' ι1 H1 ∧ Rep X.K H1' ι1 x v1
  refine wpAny_Call_method_late hbase hfew hline rfl (thn (ho pins s σ H P1 I ⟨ι, σd, Hd, x, H1, sr, hr, e1, fun v1 H1' ι1 l1 h1 r1 => ⟨ι1, l1, h1, r1⟩⟩) fun v s1 zz => ?_)
  obtain ⟨xv, H1', I1, rx, ι1, l1, h1, r1⟩ := zz
  obtain ⟨t1, t2⟩ := Zui I1 h1 r1 rx hl
  refine ⟨"dict", id, PySem.F.plainAttrs_dict, slot, hty, t1, t2, ?_⟩
  let P2 : List V -> Hp -> Prop := fun vs H2' => ∃ ι2, Le X.K H ι H2' ι2 ∧ HRep X.K H2' ι2 H2 ∧ Rep X.K H2' ι2 x xv ∧ Paired (Rep X.K H2' ι2) y vs
  have hA := ha cpos pins s1 σ H1' P2 I1 ⟨ι1, σd, H1, y, H2, sr.mono l1, h1, e2, fun vs H2' ι2 l2 h2 r2 => ⟨ι2, l1.trans l2, h2, r1.mono l2, r2⟩⟩
  rw [hs] at hA ⊢
  refine Calls.callWith_builtin (by show (false || (backTo cpos (starEach es X.env)).any (·.1)) = false; rw [hplain] <;> rfl) (Calls.evalArgs_plain ?_)
  exact thn hA fun us s2 ⟨vs, H2', I2, r2, ι2, l2, h2, rx2, rp⟩ => hm pins s2 σ H2' xv vs v us Q I2 rx r2 ⟨ι2, x, y, H2, d, Hd', h2, rx2, rp, e0, fun v H' ι' l h r => q v H' ι' (l2.trans l) h r⟩
 ·cases e0
noncomputable def Zjy : FF := fun ds H => match ds with
 | [x] => (Zsw x H).map fun kvs => (.int kvs.length, H)
 | _ => none
theorem Zjm : Zh0 X (.builtin "len") Zjy := by
 rintro pins s σ H xs us Q I rv ⟨ι, ds, Hd, d, Hd', hr, P, e, q⟩
 unfold Zjy at e
 split at e
 ·rename_i x
  obtain ⟨kvs, e1, e⟩ := Zm e
  obtain ⟨rfl, rfl⟩ := Prod.mk.inj e
  obtain ⟨n, fz, rfl, hn⟩ := Ziu e1
  obtain ⟨v, rfl, r⟩ := Zl3 P
  obtain ⟨a, rfl, ha⟩ := Za8.mp r
  cases rv with
  | cons q1 rv =>
   cases rv
   cases q1
   obtain ⟨h1, h2, ys, _, PK, dd⟩ := Zji I (hr.obj n a _ ha hn)
   have ty : s.TypeIs (.ref a) "dict" := dd.typeIs
   obtain ⟨ob, es, ep, g1, g2, g3, g4, _⟩ := dd
   have sz : es.size = kvs.length := by
    have a1 := size_of_entries g4
    have a2 := Prd.len PK
    omega
   have l63 : (kvs.length : Int) < 2 ^ 63 := by rw [PySem.sizeLine_eq] at h2; omega
   have ask : ∀ A' E', wpAny (model X.prog X.w) A' (Builtin.«dict.__len__» ⟨[.ref a], []⟩) (fun fin s' => ∃ r, fin = .done (.ret r) ∧ r = .int kvs.length s.toks ∧ s' = { s with toks := s.toks + 1 }) E' s := by
    intro A' E'
    show wpAny _ _ (dictSize a >>= _) _ _ s
    unfold dictSize
    refine wpAny_bind (wpAny_bind (wpAny_dictEntries g1 g3 (wpAny_pure (wpAny_bind (wpAny_pendingCount_other h1 (wpAny_ret_mkInt ?_))))))
    rw [Nat.add_zero, sz]
    exact ⟨rfl, rfl⟩
   refine Calls.call_function_entry kind_len plain_len entry_len (args_len1 _) ?_
   unfold Builtin.«len»
   refine wpAny_bind (m := oneArg "len" _) (wpAny_pure (wpAny_bind (m := callSpecial? (.ref a) (Str.ofString "__len__")) (wpAny_callSpecial?_slot (name := Str.ofString "__len__") ty PySem.F.slot_dict_len
    (wpAny_call_entry PySem.F.slot_dict_len ty PySem.F.entry_dict_len (thn (ask _ _) fun fin s' ⟨r, f1, f2, f3⟩ => ⟨r, f1, ?_⟩) (PySem.F.args_dict_len_1 _)))))
   subst f2 f3
   refine wpAny_bind (wpAny_holding (wpAny_pure (wpAny_bind (wpAny_letGo ?_))))
   show wpAny _ _ (if ((kvs.length : Nat) : Int) < 0 then _ else if ((kvs.length : Nat) : Int) ≥ 2 ^ 63 then _ else _) _ _ _
   rw [if_neg (by omega), if_neg (by omega)]
   exact wpAny_bind (wpAny_mkInt (wpAny_pure ⟨_, rfl, .int kvs.length, H, I.tok _, ⟨_, rfl⟩, q _ H ι Le.refl hr (by simp)⟩))
 ·cases e
section
variable {prog : Program} {w : World} {A : Around} {E : Value -> Shared -> Prop} {s : Shared}
theorem Zt8 {d : Addr} {ob : Obj} {es : Array DictEntry} {ep : Nat} {Q : Value -> Shared -> Prop} (h0 : (d == sysModules) = false) (g1 : s.heap.get? d = some ob) (g2 : ob.ExactDict) (g3 : ob.data = .dict es ep)
  (q : Q (.ref s.heap.objs.size) { s with heap := s.heap.push { cls := .type "dict_keyiterator", data := .fields #[.ref d, .int 0 0, .int es.size 0, .int ep 0] } }) : wpAny (model prog w) A (pyIter (.ref d)) Q E s := by
 have ty : s.TypeIs (.ref d) "dict" := ⟨ob, g1, g2.1⟩
 refine wpAny_pyIter_slot ty F.slot_dict_iter (wpAny_call_entry F.slot_dict_iter ty F.entry_dict_iter ?_ (F.args_dict_iter_1 _))
 unfold Builtin.«dict.__iter__» Builtin.Dict.dictSlotNone
 refine wpAny_bind (wpAny_bind (wpAny_notOrdered_dict ty (wpAny_pure ?_)))
 show wpAny _ _ (Builtin.Dict.showsAll d >>= _) _ _ s
 unfold Builtin.Dict.showsAll
 rw [if_neg (by rw [h0]; decide)]
 refine wpAny_bind (wpAny_pure (wpAny_bind (wpAny_dictEntries g1 g3 (wpAny_bind (wpAny_dictEpoch g1 g3 (wpAny_bind (wpAny_newObj_type (wpAny_pure ?_))))))))
 exact ⟨_, rfl, "dict_keyiterator", _, ⟨_, Heap.get?_push_size _ rfl, rfl⟩, F.slot_dict_keyiterator_next.lookup, by simpa [rawInt] using q⟩
theorem Zve {d it : Addr} {ob : Obj} {es : Array DictEntry} {i ep : Nat} {Q : Option Value -> Shared -> Prop} (hit : s.heap.IsKeyIter it d i es.size ep) (g1 : s.heap.get? d = some ob) (g3 : ob.data = .dict es ep) (lt : i < es.size)
  (q : ∀ h2, h2.IsKeyIter it d (i + 1) es.size ep -> Heap.SameBut it s.heap h2 -> Q (some es[i].key) { s with heap := h2 }) : wpAny (model prog w) A (pyNext (.ref it)) Q E s := by
 have ty := hit.typeIs
 obtain ⟨oi, i1, i2, i3⟩ := id hit
 have own : Builtin.Dict_items.ownsTuple "dict_keyiterator" = false := by decide
 unfold pyNext
 refine wpAny_bind (wpAny_attempt (wpAny_callSpecial?_slot (name := Str.ofString "__next__") ty F.slot_dict_keyiterator_next (wpAny_call_entry F.slot_dict_keyiterator_next ty F.entry_dict_keyiterator_next ?_ (F.args_dict_keyiterator_next_1 _))))
 refine wpAny_bind (wpAny_pure (wpAny_bind (wpAny_bind ?_)))
 refine wpAny_bind (wpAny_typeNameOfWhole_keyiter ty (wpAny_pure (wpAny_bind (wpAny_fieldsOf i1 i3 ?_))))
 simp only [own, Bool.false_eq_true, if_false]
 show wpAny _ _ (if (Value.ref d == Value.none) = true then _ else _) _ _ s
 have nn : ¬ ((Value.ref d == Value.none) = true) := Bool.false_ne_true
 rw [if_neg nn]
 refine wpAny_bind (wpAny_pure (wpAny_bind (wpAny_dictEntries g1 g3 ?_)))
 rw [if_neg (by simp)]
 refine wpAny_bind (wpAny_pure (wpAny_bind (wpAny_dictEpoch g1 g3 ?_)))
 rw [if_neg (by simp)]
 refine wpAny_pure ?_
 have neg : ¬ ((i : Int) < 0) := by omega
 simp only [neg, if_false, Int.toNat_natCast, Array.getElem?_eq_getElem lt]
 refine wpAny_bind (wpAny_bind (wpAny_typeNameOfWhole_keyiter ty (wpAny_pure (wpAny_bind (wpAny_isOneOf_keyiter ty ?_)))))
 show wpAny _ _ (setField (.ref it) 1 (rawInt ((i : Int) + 1)) >>= _) _ _ s
 let h2 := s.heap.update it (Obj.mapFields (·.setIfInBounds 1 (rawInt ((i : Int) + 1))))
 have it2 : h2.IsKeyIter it d (i + 1) es.size ep :=
  ⟨_, Heap.get?_update_self _ i1 (Obj.isFreed_of_fields (Obj.data_mapFields i3 _)), (Obj.cls_mapFields ..).trans i2, by rw [Obj.data_mapFields i3]; simp [rawInt]⟩
 refine wpAny_bind (wpAny_setField i1 i3 (by simp) (wpAny_bind (wpAny_holding (wpAny_bind (wpAny_isOneOf_keyiter (s := { s with heap := h2 }) it2.typeIs ?_)))))
 show wpAny _ _ (pure es[i].key) _ _ _
 exact wpAny_pure (wpAny_pure ⟨_, rfl, wpAny_pure (q h2 it2 (Heap.SameBut.update ..))⟩)
theorem Ztr {d it : Addr} {ob : Obj} {es : Array DictEntry} {i ep : Nat} {Q : Option Value -> Shared -> Prop} (hh : A.handled = none) (hit : s.heap.IsKeyIter it d i es.size ep) (g1 : s.heap.get? d = some ob) (g3 : ob.data = .dict es ep) (ge : es.size ≤ i)
  (q : ∀ h2, Heap.ExtBut it s.heap h2 -> Q none { s with heap := h2 }) : wpAny (model prog w) A (pyNext (.ref it)) Q E s := by
 have ty := hit.typeIs
 obtain ⟨oi, i1, i2, i3⟩ := id hit
 have own : Builtin.Dict_items.ownsTuple "dict_keyiterator" = false := by decide
 unfold pyNext
 refine wpAny_bind (wpAny_attempt (wpAny_callSpecial?_slot (name := Str.ofString "__next__") ty F.slot_dict_keyiterator_next (wpAny_call_entry F.slot_dict_keyiterator_next ty F.entry_dict_keyiterator_next ?_ (F.args_dict_keyiterator_next_1 _))))
 refine wpAny_bind (wpAny_pure (wpAny_bind (wpAny_bind ?_)))
 refine wpAny_bind (wpAny_typeNameOfWhole_keyiter ty (wpAny_pure (wpAny_bind (wpAny_fieldsOf i1 i3 ?_))))
 simp only [own, Bool.false_eq_true, if_false]
 show wpAny _ _ (if (Value.ref d == Value.none) = true then _ else _) _ _ s
 have nn : ¬ ((Value.ref d == Value.none) = true) := Bool.false_ne_true
 rw [if_neg nn]
 refine wpAny_bind (wpAny_pure (wpAny_bind (wpAny_dictEntries g1 g3 ?_)))
 rw [if_neg (by simp)]
 refine wpAny_bind (wpAny_pure (wpAny_bind (wpAny_dictEpoch g1 g3 ?_)))
 rw [if_neg (by simp)]
 refine wpAny_pure ?_
 have neg : ¬ ((i : Int) < 0) := by omega
 simp only [neg, if_false, Int.toNat_natCast, Array.getElem?_eq_none ge]
 refine wpAny_bind (wpAny_bind (wpAny_typeNameOfWhole_keyiter ty (wpAny_pure ?_)))
 show wpAny _ _ (setField (.ref it) 0 .none >>= _) _ _ s
 refine wpAny_bind (wpAny_setField i1 i3 (by simp) ?_)
 show wpAny _ _ (newExc (.type "StopIteration") [] >>= _) _ _ _
 simp only [newExc, newTuple]
 refine wpAny_bind (wpAny_bind (wpAny_newObj_type (wpAny_bind (m := firstArgMember _ _) (wpAny_of_eq (a := Value.none) (by first | rfl | (simp only [firstArgMember]; rfl)) (wpAny_newObj_type ?_ (by size_fits)))) (by size_fits)))
 simp only [raiseNew]
 refine wpAny_bind (wpAny_handled ?_)
 have hh1 : A.in1.handled = none := hh
 rw [hh1]
 refine wpAny_bind (wpAny_pure (wpAny_throw ?_))
 refine wpAny_bind (wpAny_isInstance (T := "StopIteration") (b := true) (by exact ⟨_, Heap.get?_push_size _ rfl, rfl⟩) isSubtype_stop ?_)
 exact wpAny_pure (q _ (((Heap.SameBut.update ..).extBut.push _).push _))
end
noncomputable def Itd (a : Addr) (ob : Obj) (u : HO) (ks : List Addr) : It :=
 ⟨fun i H => H a = some (.frz ob u) ∧ i < ks.length, fun i H x H' => H' = H ∧ ∃ b, ks[i]? = some b ∧ x = .ref b, fun i H => H a = some (.frz ob u) ∧ ks.length ≤ i⟩
theorem Zul {P : Program} {w : World} {K : PySem.W.Frag} {tg : Expr} (a it : Addr) {ob : Obj} {u : HO} {es : Array DictEntry} {ep : Nat} {ks : List Addr} (g3 : ob.data = .dict es ep) (hk : es.toList.map (·.key) = ks.map Value.ref) :
  Turn P w K tg (Itd a ob u ks) [it] it (fun i h => h.IsKeyIter it a i es.size ep) where
 mem := by simp
 obj := fun i h st b hb => by
  have e : b = it := by simpa using hb
  subst e
  obtain ⟨o, e, c, d⟩ := st
  exact ⟨o, e, fun v z => by rw [d] at z; cases z⟩
 keep := fun i h h' st k => st.at fun o e => k it (by simp) o e
 item := by
  intro X hP hw hK hc i pins s σ H E I hf st hg
  subst hP hw hK
  obtain ⟨hq, hx⟩ := hg
  obtain ⟨g1, _⟩ := (show Zeq X.prog X.w H s.heap a (.frz ob u) from I.hok a _ hq)
  obtain ⟨f0, f1, f2, f3, f4, f5⟩ := hf it (by simp)
  have hl : es.size = ks.length := by
   have := congrArg List.length hk
   simpa using this
  have lt : i < es.size := by omega
  have key : es[i].key = Value.ref ks[i] := by
   have e1 : (es.toList.map (·.key))[i]? = some es[i].key := by simp [lt]
   rw [hk, List.getElem?_map, List.getElem?_eq_getElem hx] at e1
   exact (Option.some.inj e1).symm
  refine Zve st g1 g3 lt fun h' st' sb => ?_
  have I1 : Inv X pins σ H { s with heap := h' } := I.turned (t' := s.toks) (fun b o hb e => (sb.2 b hb).trans e) f0 f1 f3 f4 f5
  obtain ⟨o, e, c, d⟩ := id st'
  exact ⟨_, rfl, Zqy (s := { s with heap := h' }) e c d (by decide) ⟨.ref ks[i], H, I1, key, ⟨rfl, ks[i], List.getElem?_eq_getElem hx, rfl⟩, st', fun b hb => (hf b hb).1⟩⟩
 done := by
  intro X hP hw hK hc i pins s σ H E I hf st hg
  subst hP hw hK
  obtain ⟨hq, hx⟩ := hg
  obtain ⟨g1, _⟩ := (show Zeq X.prog X.w H s.heap a (.frz ob u) from I.hok a _ hq)
  obtain ⟨f0, f1, f2, f3, f4, f5⟩ := hf it (by simp)
  have hl : es.size = ks.length := by
   have := congrArg List.length hk
   simpa using this
  exact Ztr (I.ok.hd hc) st g1 g3 (by omega) fun h' eb => ⟨rfl, I.turned (t' := s.toks) (fun b o hb e => eb b o hb e) f0 f1 f3 f4 f5⟩
 self := fun _ _ _ _ _ st h => wpAny_pyIter_keyiter st h
variable {X : Cx} {tg : Expr}
noncomputable def Zw2 (f : EF) : ItF := fun σ H => (f σ H).bind fun p => match p.1 with
 | .ref n => match p.2[n]? with
  | some (.dic kvs _) => some ((kvs.map (·.1), [(n, .dic kvs true)]), p.2.set n (.dic kvs true))
  | _ => none
 | _ => none
theorem Zrj {K : PySem.W.Frag} {H : Hp} {ι : List Addr} {kvs : List (D × D)} {xs : List (List Int × Addr × Value)} (h : Paired (Zp3 K H ι) kvs xs) : Paired (Rep K H ι) (kvs.map (·.1)) (xs.map fun x => V.ref x.2.1) := by
 induction h with
 | nil => exact .nil
 | cons r t ih => exact .cons r.2.1 ih
theorem Zqo {l : Expr} {f : EF} (hl : PEf X l f) : PIf X tg l (Zw2 f) := by
 rintro pins s σ H R I ⟨ι, σd, Hd, xs, own, Hd', sr, hr, e, q⟩
 obtain ⟨⟨x, H1⟩, e1, e⟩ := Zo e
 obtain ⟨n, rfl⟩ : ∃ n, x = .ref n := by cases x <;> first | exact ⟨_, rfl⟩ | cases e
 let P1 : VK := fun v1 H1' => ∃ ι1, Le X.K H ι H1' ι1 ∧ HRep X.K H1' ι1 H1 ∧ Rep X.K H1' ι1 (.ref n) v1
 refine thn (hl pins s σ H P1 I ⟨ι, σd, Hd, .ref n, H1, sr, hr, e1, fun v1 H1' ι1 l1 h1 r1 => ⟨ι1, l1, h1, r1⟩⟩) fun v s1 zz => ?_
 obtain ⟨xv, H1', I1, rx, ι1, l1, h1, r1⟩ := zz
 simp only at e
 split at e
 ·rename_i kvs fz hn
  cases e
  obtain ⟨a, rfl, ha⟩ := Za8.mp r1
  cases rx
  obtain ⟨z1, z2, ys, z3, PK, dd⟩ := Zji I1 (h1.obj n a _ ha hn)
  obtain ⟨ob, es, ep, g1, g2, g3, g4, g5, g6⟩ := dd
  refine Zt8 z1 g1 g2 g3 ?_
  let u : HO := .ext (Zdx a ys)
  let H2 : Hp := upd H1' a (.frz ob u)
  have keys : es.toList.map (·.key) = (ys.map fun x => x.2.1).map Value.ref := by rw [g4, List.map_map, List.map_map]; rfl
  have da : Zdx a ys s1.heap := ⟨ob, es, ep, g1, g2, g3, g4, g6⟩
  have okN : ∀ Hx, Zeq X.prog X.w Hx s1.heap a (.frz ob u) := fun Hx => ⟨g1, da, ⟨ob, g1⟩, fun h1 h2 d k => Zdx.keep d k⟩
  have froz : Inv X pins σ H2 s1 ∧ Le X.K H1' ι1 H2 ι1 := by
   cases fz with
   | false =>
    rw [if_neg (by simp)] at z3
    exact ⟨I1.write (t' := s1.toks) (h' := s1.heap) (x := a) (e := a) (by rw [z3]; exact True.intro) (.inl rfl) (fun b q hb z => z) ⟨ob, g1⟩ (okN _), Le.upd (List.mem_of_getElem? ha) z3 trivial _⟩
   | true =>
    rw [if_pos rfl] at z3
    obtain ⟨o2, z3⟩ := z3
    obtain ⟨g1', _⟩ := (show Zeq X.prog X.w H1' s1.heap a (.frz o2 (.ext (Zdx a ys))) from I1.hok a _ z3)
    have eo : o2 = ob := Option.some.inj (g1'.symm.trans g1)
    have eH : H2 = H1' := by
     funext b
     by_cases hb : b = a
     ·subst hb; show upd H1' b (.frz ob u) b = H1' b; rw [Zbi, z3, eo]
     ·exact Za0 hb
    rw [eH]
    exact ⟨I1, Le.refl⟩
  obtain ⟨I2, L2'⟩ := froz
  have hr2 : HRep X.K H2 ι1 (H1.set n (.dic kvs true)) := by
   refine ⟨by simp [h1.len], h1.nd, fun m b oc m1 m2 => ?_⟩
   by_cases hm : n = m
   ·subst hm
    rw [ha] at m1; cases m1
    rw [List.getElem?_set] at m2
    rw [if_pos rfl] at m2
    split at m2
    ·cases m2
     exact ⟨z1, z2, ys, by rw [if_pos rfl]; exact ⟨ob, Zbi⟩, Prd.imp PK fun p x _ z => ⟨z.1, z.2.1.mono L2', let ⟨v, w1, w2⟩ := z.2.2; ⟨v, w1, w2.mono L2'⟩⟩⟩
    ·cases m2
   ·rw [List.getElem?_set_ne hm] at m2
    have hb : b ≠ a := fun z => by
     subst z
     exact hm ((List.getElem?_inj (List.getElem?_eq_some_iff.mp ha).1 h1.nd).mp (ha.trans m1.symm))
    exact (h1.obj m b oc m1 m2).step L2'.toLw (Za0 hb)
  have I3 : Inv X pins σ H2 { s1 with heap := s1.heap.push { cls := .type "dict_keyiterator", data := .fields #[.ref a, .int 0 0, .int es.size 0, .int ep 0] } } := I2.kept (t' := s1.toks) fun b o e => Heap.get?_push_of_some _ e
  refine ⟨s1.heap.objs.size, [s1.heap.objs.size], _, Itd a ob u (ys.map fun x => x.2.1), H2, rfl, I3, Zul a _ g3 keys, ⟨_, Heap.get?_push_size _ rfl, rfl, rfl⟩, fun b hb => ?_, ?_⟩
  ·have e : b = s1.heap.objs.size := by simpa using hb
   subst e
   exact I2.fpOk (Nat.le_refl _) (I2.hok.fresh (Nat.le_refl _))
  ·have fa : H2 a = some (.frz ob u) := Zbi
   have pk := Zrj PK
   refine q _ H2 ι1 (l1.trans L2') hr2 ⟨fun i H3 ι3 Hd3 l3 h3 _ hi => ⟨l3.fr _ _ _ fa, ?_⟩, fun i H3 ι3 Hd3 d x H4 l3 h3 _ hd y => ?_, fun i H3 ι3 Hd3 l3 h3 _ hi => ⟨l3.fr _ _ _ fa, ?_⟩⟩
   ·have := Prd.len PK; simp only [List.length_map] at hi ⊢; omega
   ·obtain ⟨rfl, b, hb, rfl⟩ := y
    obtain ⟨v, hv, rv⟩ := Prd.get pk hd
    have ev : v = .ref b := by
     rw [List.getElem?_map] at hv hb
     cases hy : ys[i]? with
     | none => rw [hy] at hv; cases hv
     | some yv => rw [hy] at hv hb; cases hv; cases hb; rfl
    subst ev
    exact ⟨ι3, Le.refl, h3, (rv.mono L2').mono l3⟩
   ·have := Prd.len PK; simp only [List.length_map] at hi ⊢; omega
 ·cases e
noncomputable def Zxk (n N : Nat) (b : FF -> SF) : Nat -> FF
 | 0 => Zbq n N fun _ _ => none
 | j + 1 => Zbq n N (b (Zxk n N b j))
theorem Zuz {P : Program} {w : World} {K : PySem.W.Frag} {mg : Str -> Option Value} {base : Heap} {x : Str} {st : Stmt} {N ps : List Str} {k : Nat} {b : FF -> SF} (T : Tf K mg x st) (S : FnScope N ps (Zak st))
  (hbd : ∀ (kV doc pm : Value) (an : Option Addr) (cdv ct : Value) (us : List Value), us.length = ps.length -> bindArgs (PySem.W.fnOf x x (Zen st) (Zcn st) (Zak st) .none kV doc pm an cdv ct) ⟨us, []⟩ = pure (ps.zip us))
  (hb : ∀ (F : FF) (j : Nat), Fn P w K mg base (k + 1 + j) x ps F -> ∀ (f : Addr) (cdv : Value) (A : Around) (outer : List Env) (s : Shared) (H : Hp) (E : XK), Room (k + 1 + j) (A.deeper (envOfC x (Zak st) s.heap.objs.size f cdv)) →
   Zpy (Zpm CX0 P w K mg base N x (Zak st) f cdv A outer s H E).nox (Zcn st) (b F)) : ∀ j, Fn P w K mg base (k + 1 + j) x ps (Zxk ps.length N.length b j)
 | 0 => Zc0 (k := k) T S hbd fun f cdv A outer s H E _ => by
  rintro pins s' σ H' E' I ⟨ι, σd, Hd, fl, σd', Hd', _, _, e, _⟩
  cases e
 | j + 1 => Zc0 (k := k + 1 + j) T S hbd fun f cdv A outer s H E hr => hb _ j (Zuz T S hbd hb j) f cdv A outer s H E hr
theorem Zp6 {K : PySem.W.Frag} {h : Heap} {mg : Str -> Option Value} {x : Str} {b1 b2 : Bool} {p : Addr} {n : Nat} {osl : Array (Option Value)} (X : K.In h) (G : h.Ns mainGlobals mg) (a : PySem.W.nsIn K mainGlobals x = some (some (.ref p)))
  (l : K.lookup p = some ⟨.type "tuple", none, .seq #[.bool b1, .bool b2] n, osl⟩) : Gc K mg x (.tup [.bl b1, .bl b2]) := by
 refine ⟨_, .ref p, PySem.W.mg_of X G a, rfl, fun H ι => Zb3.mpr ⟨p, [.bl b1, .bl b2], rfl, .inr ⟨_, _, _, l, rfl, rfl, ?_, ?_, rfl⟩, ?_⟩⟩
 ·show 2 ≤ sizeLine
  rw [PySem.sizeLine_eq]; omega
 ·exact .cons rfl (.cons rfl .nil)
 ·exact .cons (by simp) (.cons (by simp) .nil)
section
variable {prog : Program} {w : World} {A : Around} {E : Value -> Shared -> Prop} {s : Shared}
theorem Zw0 {T newId : String} {self a : Value} {kw : List (Str × Value)} (hl : typeLookup (.type T) "__init__" = pure (some (.builtin "object.__init__")))
  (hm : Bind.madeBy (.type T) = pure (some newId)) (hne : (some newId != some "object.__new__") = true) :
  Meets (Builtin.«object.__init__» ⟨[self, a], kw⟩) (fun _ R s => s.TypeIs self T ∧ R (.ok (.ret .none)) s) := by
 refine Meets.of_wp fun prog w A R s zz => ?_
 obtain ⟨hT, hq⟩ := zz
 repeat (any_goals (first | assumption | wp_step))
 exact ⟨_, rfl, hq⟩
theorem tc_kw (a v : Value) : checkTypeCall "enumerate" ⟨[a], [("start", v)]⟩ = pure () := by kernel_rfl
theorem nc_kw (a v : Value) : checkBuiltinCall "enumerate.__new__" ⟨[.type "enumerate", a], [("start", v)]⟩ = pure () := by kernel_rfl
open AutoSeq1 (wpAny_loadPart') in
theorem Zrw (t : Addr) (its : Array Value) (n : Nat) (dct : Option Addr) (sl : Array (Option Value)) (tk0 : Tok) :
  Meets (Builtin.«enumerate.__new__» ⟨[.type "enumerate", .ref t], [("start", .int 1 tk0)]⟩) (fun _ R s => s.heap.get? t = some { cls := .type "tuple", dict := dct, data := .seq its n, slots := sl } ∧
   R (.ok (.ret (.ref (s.heap.push { cls := .type "tuple_iterator", data := .fields #[.ref t, .int 0 0] }).objs.size)))
    { s with heap := (s.heap.push { cls := .type "tuple_iterator", data := .fields #[.ref t, .int 0 0] }).push { cls := .type "enumerate", data := .fields #[.none, .bool false, .ref s.heap.objs.size, rawInt 1, .none, .none] } }) :=
 .of_wp fun prog w A R s h => by
  obtain ⟨hp, g, d, tk, os⟩ := s; obtain ⟨hl, h⟩ := h
  have hsub := sub_enumerate
  have hL : Heap.IsTuple (Shared.heap ⟨hp, g, d, tk, os⟩) t its := ⟨_, hl, rfl, n, rfl⟩
  wp_walk using wpAny_loadPart' hl
  refine wpAny_stack_any fun st => wpAny_pure ?_
  split
  ·rename_i k _ _ _ _ _
   cases (k == Value.type "enumerate") <;> (wp_walk using wpAny_loadPart' hl, wpAny_pyIter_tuple hL; exact ⟨_, rfl, h⟩)
  ·wp_walk using wpAny_loadPart' hl, wpAny_pyIter_tuple hL
   exact ⟨_, rfl, h⟩
end
section
variable {prog : Program} {w : World} {A : Around} {E : Value -> Shared -> Prop} {s : Shared}
theorem Zwm {args : List Value} {kw : List (Str × Value)} {newId : String} {Bn : Builtin} {T : String} {S : PySem.Spec} {Q : Value → Shared → Prop} (ft : TypeCalled T newId "object.__init__") (hne : (some newId != some "object.__new__") = true)
  (hct : checkTypeCall T ⟨args, kw⟩ = pure ()) (hcn : checkBuiltinCall newId ⟨.type T :: args, kw⟩ = pure ()) (entryN : entryFor table newId = some Bn) (g : Meets (Bn ⟨.type T :: args, kw⟩) S)
  (hok : ∀ obj, argsOk "object.__init__" ⟨obj :: args, kw⟩) (gi : ∀ obj, Meets (Builtin.«object.__init__» ⟨obj :: args, kw⟩) (fun _ R s => s.TypeIs obj T ∧ R (.ok (.ret .none)) s))
  (h : S A.in1 (wants (fun obj s₁ => s₁.TypeIs obj T ∧ Q obj s₁) E) s) : wpAny (model prog w) A (call (.type T) args kw) Q E s := by
 obtain ⟨c, tl, hmro⟩ := ft.mro
 have hmade := ft.made
 have hsub := ft.sub
 have n1 := ft.notType
 have n2 := ft.canCreate
 refine wpAny_call (codeAny_of_tree (show wpAny _ _ (callAny (.type T) _) _ _ _ from wpAny_pure ⟨Code.quiet_builtin _ (by decide +kernel), codeAny_builtin F.entry_type_call ?_⟩))
 rw [Around.under_plain (weight_type_call_type T args kw) (units_type_call_type T args kw)]
 repeat (any_goals (first | assumption | wp_step))
 refine codeAny_mono (codeAny_call_builtin ft.plain entryN (wpAny_of_eq hcn (g prog w A.in1 _ s h))) fun r s₁ hr => ?_
 cases r with
 | error e => exact hr
 | ok fl =>
  cases fl with
  | ret obj =>
   obtain ⟨hT, hq⟩ : s₁.TypeIs obj T ∧ Q obj s₁ := hr
   have hli := ft.init.lookup
   have hbi := ft.init.bind obj
   repeat (any_goals (first | assumption | wp_step))
   refine codeAny_mono (codeAny_call_builtin ft.init.plain F.entry_object_init (ft.init.check _ _ _ _ _ _ _ _ hT (hok obj) (gi obj prog w A.in1 (wants (fun r s₂ => r = .none ∧ Q obj s₂) E) s₁ ⟨hT, rfl, hq⟩))) fun r₂ s₂ hr₂ => ?_
   cases r₂ with
   | error e => exact hr₂
   | ok fl₂ =>
    cases fl₂ with
    | ret r =>
     obtain ⟨rfl, hq2⟩ := hr₂
     repeat (any_goals (first | assumption | wp_step))
    | _ => exact hr₂.elim
  | _ => exact hr.elim
theorem Zi9 {M : Model} {pos : Pos} {T : String} {args : List (Bool × Sem Value)} {kws : List (Option Str × Sem Value)} {Q : Value -> Shared -> Prop} (h1 : args.any (·.1) = false) (h2 : kws.any (·.1.isNone) = false)
  (h : wpAny M A (evalArgs (.type T) true args kws) (fun a s₁ => wpAny M A (call (.type T) a.pos a.kw) Q E s₁) E s) : wpAny M A (callWith pos (.type T) [] args kws) Q E s := by
 unfold callWith
 refine wpAny_bind (wpAny_holding (thn h fun a s₁ q => wpAny_bind (wpAny_standAt ?_)))
 simp only [h1, h2, Bool.or_false]
 exact wpAny_bind (wpAny_pure (wpAny_bind (thn q fun r s₂ q2 => wpAny_bind (wpAny_holding (wpAny_point (wpAny_pure q2))))))
theorem Zqa (a b v : Value) : argsOk "object.__init__" ⟨[a, b], [("start", v)]⟩ := by
 unfold argsOk
 first | decide +kernel | kernel_rfl | (intro _; kernel_rfl)
theorem Zpv {t : Addr} {its : Array Value} {tk : Tok} {Q : Value -> Shared -> Prop} (hL : s.heap.IsTuple t its)
  (h : ∀ h', IsEnum h' (s.heap.objs.size + 1) s.heap.objs.size 1 .none -> h'.IsTupleIter s.heap.objs.size t 0 -> h'.objs.size = s.heap.objs.size + 2 →
   (∀ b o, s.heap.get? b = some o -> h'.get? b = some o) -> Q (.ref (s.heap.objs.size + 1)) { s with heap := h' }) :
  wpAny (model prog w) A (call (.type "enumerate") [.ref t] [("start", .int 1 tk)]) Q E s := by
 obtain ⟨⟨k, dct, dt, sl⟩, hl, hc, n, hd⟩ := hL
 replace hc : k = .type "tuple" := hc
 replace hd : dt = .seq its n := hd
 subst hc hd
 refine Zwm F.called_enumerate (by decide) (tc_kw _ _) (nc_kw _ _) F.entry_enumerate_new (Zrw t its n dct sl tk) (fun obj => Zqa _ _ _) (fun obj => Zw0 F.called_enumerate.init.lookup F.called_enumerate.made (by decide)) ⟨hl, ?_⟩
 have hz : (s.heap.push { cls := .type "tuple_iterator", data := .fields #[.ref t, .int 0 0] }).objs.size = s.heap.objs.size + 1 := Heap.size_push ..
 show _ ∧ _
 rw [hz]
 have he : IsEnum ((s.heap.push { cls := .type "tuple_iterator", data := .fields #[.ref t, .int 0 0] }).push { cls := .type "enumerate", data := .fields #[.none, .bool false, .ref s.heap.objs.size, rawInt 1, .none, .none] }) (s.heap.objs.size + 1) s.heap.objs.size 1 .none := by
  have q := Heap.get?_push_size (s.heap.push { cls := .type "tuple_iterator", data := .fields #[.ref t, .int 0 0] }) (o := { cls := .type "enumerate", data := .fields #[.none, .bool false, .ref s.heap.objs.size, rawInt 1, .none, .none] }) rfl
  rw [hz] at q; exact q
 exact ⟨⟨_, he, rfl⟩, h _ he ⟨_, Heap.get?_push_of_some _ (Heap.get?_push_size _ rfl), rfl, rfl⟩ (by rw [Heap.size_push, hz]) fun b o x => Heap.get?_push_of_some _ (Heap.get?_push_of_some _ x)⟩
end
variable {X : Cx}
noncomputable def Zog (f : AF) : ItF := fun σ H => (f σ H).bind fun p => match p.1 with
 | [.tup xs] => some ((Zf4 1 xs, []), p.2)
 | _ => none
theorem Zri {es : List Expr} {k : Nat} {tp p pos kp cp : Pos} {cj : Nat} {a : Expr} {f : AF} (hg : Gl X "enumerate") (hm : X.mg "enumerate" = none) (ha : PAf X [a] f) (hs : starEach [a] X.env = [(false, eval a X.env)] := by rfl) :
  PIf X (.Tuple es k tp) (.Call (.Name "enumerate" p) [a] [⟨some "start", .Constant (.int 1) cj cp, kp⟩] pos) (Zog f) := by
 rintro pins s σ H R I ⟨ι, σd, Hd, xs, own, Hd', sr, hr, e, q⟩
 obtain ⟨⟨ds, H1⟩, e1, e⟩ := Zo e
 dsimp only at e
 split at e
 ·rename_i ys
  cases e
  show wpAny _ _ (do callWith pos (← eval (.Name "enumerate" p) X.env) [] (backTo pos (starEach [a] X.env)) (backToKw pos (keywordEach [⟨some "start", .Constant (.int 1) cj cp, kp⟩] X.env))) _ _ _
  let P1 : List V -> Hp -> Prop := fun vs H' => ∃ ad ws, vs = [.ref ad] ∧ SqT X.K H' ad ws ∧ ∀ (J : It) (H2 : Hp), H2 = H' -> J = Zxv X.K 1 ad -> R J H2
  refine wpAny_bind (Zhp I hg hm boot_enumerate (Zi9 (by rw [hs]; rfl) rfl ?_))
  have hA := ha pos pins s σ H P1 I ⟨ι, σd, Hd, _, _, sr, hr, e1, fun vs H' ι' l h P => by
   obtain ⟨v, rfl, r⟩ := Zl3 P
   obtain ⟨ad, ws, rfl, hS, P2⟩ := Zb3.mp r
   refine ⟨ad, ws, rfl, hS, fun J H2 e2 e3 => ?_⟩
   subst e2 e3
   exact q _ _ ι' l h (Zn5 hS P2 fun i H x y h => y ws h)⟩
  rw [hs] at hA ⊢
  refine evalArgs_kwB rfl (thn hA fun us s1 zz => ?_)
  obtain ⟨vs, H2, I2, r2, ad, ws, e2, hS, q2⟩ := zz
  subst e2
  obtain ⟨u, rfl, ru⟩ := Zhx r2
  cases ru
  refine kws_cons (thn (Zum pins s1 σ H2 (fun x H' => x = .int 1 ∧ H' = H2) I2 ⟨rfl, rfl⟩) fun v s2 ⟨x, H3, I3, rx, ex, eH⟩ => kws_nil ?_)
  subst ex eH
  obtain ⟨t, rfl⟩ := rx
  obtain ⟨its, rv, p, hz⟩ := I3.tuple hS
  show wpAny _ _ (call (.type "enumerate") [.ref ad] [("start", .int 1 t)]) _ _ _
  refine Zpv (show s2.heap.IsTuple ad its.toArray from p) fun h' he hj z' kk => ?_
  have I4 : Inv X pins σ H3 { s2 with heap := h' } := I3.kept (t' := s2.toks) kk
  refine wpAny_pyIter_enum (s := { s2 with heap := h' }) he ?_
  have ne : s2.heap.objs.size + 1 ≠ s2.heap.objs.size := Nat.succ_ne_self _
  refine ⟨s2.heap.objs.size + 1, [s2.heap.objs.size + 1, s2.heap.objs.size], _, Zxv X.K 1 ad, H3, rfl, I4, Zjq ad _ _ 1 ne, ⟨.none, by simpa using he, hj⟩, fun b hb => ?_, q2 _ _ rfl rfl⟩
  have : s2.heap.objs.size ≤ b := by
   rcases List.mem_cons.mp hb with rfl | hb
   ·exact Nat.le_succ _
   ·have : b = s2.heap.objs.size := by simpa using hb
    rw [this]; exact Nat.le_refl _
  exact I3.fpOk (b := b) (H' := H3) this (I3.hok.fresh this)
 ·cases e
noncomputable def Itv (K : PySem.W.Frag) (a : Addr) (n : Nat) : It :=
 ⟨fun i H => i < n ∧ ∃ xs, SqL K H a xs ∧ xs.length = n, fun i H x H' => H' = H ∧ ∀ xs, SqL K H a xs -> xs[n - 1 - i]? = some x, fun i _ => n ≤ i⟩
theorem Zs5 {P : Program} {w : World} {K : PySem.W.Frag} {tg : Expr} (a it : Addr) (n : Nat) : Turn P w K tg (Itv K a n) [it] it (fun i h => i ≤ n ∧ h.IsRevIter it a ((n : Int) - 1 - (i : Int))) where
 mem := by simp
 obj := fun i h st b hb => by
  have e : b = it := by simpa using hb
  subst e
  obtain ⟨_, o, e, c, d⟩ := st
  exact ⟨o, e, fun v z => by rw [d] at z; cases z⟩
 keep := fun i h h' st k => ⟨st.1, st.2.at fun o e => k it (by simp) o e⟩
 item := by
  intro X hP hw hK hc i pins s σ H E I hf st hg
  subst hP hw hK
  obtain ⟨hi, xs, hq, hx⟩ := hg
  obtain ⟨its, rv, p, hz⟩ := I.list hq
  obtain ⟨f0, f1, f2, f3, f4, f5⟩ := hf it (by simp)
  have lt : n - 1 - i < xs.length := by omega
  obtain ⟨u, hu, ru⟩ := rv.get (List.getElem?_eq_getElem lt)
  have e0 : (n : Int) - 1 - (i : Int) = ((n - 1 - i : Nat) : Int) := by omega
  have st2 := st.2
  rw [e0] at st2
  refine wpAny_pyNext_rev_item st2 p.isList (x := u) (by simpa using hu) fun h' st' sb => ?_
  have I1 : Inv X pins σ H { s with heap := h' } := I.turned (t' := s.toks) (fun b o hb e => (sb.2 b hb).trans e) f0 f1 f3 f4 f5
  obtain ⟨o, e, c, d⟩ := id st'
  have e1 : ((n - 1 - i : Nat) : Int) - 1 = (n : Int) - 1 - ((i + 1 : Nat) : Int) := by omega
  rw [e1] at st'
  exact ⟨u, rfl, Zqy (s := { s with heap := h' }) e c d (by decide) ⟨xs[n - 1 - i], H, I1, ru, ⟨rfl, fun ys hy => by rw [I.list_inj hy hq]; exact List.getElem?_eq_getElem lt⟩, ⟨by omega, st'⟩, fun b hb => (hf b hb).1⟩⟩
 done := by
  intro X hP hw hK hc i pins s σ H E I hf st hg
  subst hP hw hK
  obtain ⟨f0, f1, f2, f3, f4, f5⟩ := hf it (by simp)
  have hn : n ≤ i := hg
  have e0 : (n : Int) - 1 - (i : Int) = -1 := by have := st.1; omega
  have st2 := st.2
  rw [e0] at st2
  exact wpAny_pyNext_rev_end (I.ok.hd hc) st2 fun h' eb => ⟨rfl, I.turned (t' := s.toks) (fun b o hb e => eb b o hb e) f0 f1 f3 f4 f5⟩
 self := fun _ _ _ _ _ st h => wpAny_pyIter_revIter st.2 h
variable {X : Cx} {tg : Expr}
noncomputable def iRev (f : AF) : ItF := fun σ H => (f σ H).bind fun p => match p.1 with
 | [.ref n] => match p.2[n]? with
  | some (.lst xs) => some ((xs.reverse, [(n, .lst xs)]), p.2)
  | _ => none
 | _ => none
theorem Zmh {a : Expr} {f : AF} {p pos : Pos} (hg : Gl X "reversed") (hm : X.mg "reversed" = none) (ha : PAf X [a] f) (hs : starEach [a] X.env = [(false, eval a X.env)] := by rfl) : PIf X tg (.Call (.Name "reversed" p) [a] [] pos) (iRev f) := by
 rintro pins s σ H R I ⟨ι, σd, Hd, xs, own, Hd', sr, hr, e, q⟩
 obtain ⟨⟨ds, H1⟩, e1, e⟩ := Zo e
 dsimp only at e
 split at e
 ·rename_i n
  split at e
  ·rename_i zs eo
   cases e
   let P1 : List V -> Hp -> Prop := fun vs H' => ∃ ι', Le X.K H ι H' ι' ∧ HRep X.K H' ι' Hd' ∧ Paired (Rep X.K H' ι') [.ref n] vs
   refine Call_ (Zhp I hg hm boot_reversed (PyProof.Rows.callWith_type1 (thn (ha pos pins s σ H P1 I ⟨ι, σd, Hd, _, _, sr, hr, e1, fun vs H' ι' l h P => ⟨ι', l, h, P⟩⟩) fun us s1 ⟨vs, H2, I2, r2, ι2, l2, h2, P⟩ => ?_) hs rfl))
   obtain ⟨v, rfl, r⟩ := Zl3 P
   obtain ⟨ad, rfl, had⟩ := Za8.mp r
   obtain ⟨u, rfl, ru⟩ := Zhx r2
   cases ru
   obtain ⟨ws, hw, PW⟩ := h2.obj n ad _ had eo
   obtain ⟨its, rv, pl, hz⟩ := I2.list (SqL.of hw)
   have hl : its.toArray.size = zs.length := by rw [List.size_toArray, ← rv.length, Prd.len PW]
   refine call_reversed_list pl.isList ?_
   have it0 : ({ s1 with heap := s1.heap.push (revObj ad ((its.toArray.size : Int) - 1)) } : Shared).heap.IsRevIter s1.heap.objs.size ad ((zs.length : Int) - 1 - ((0 : Nat) : Int)) := ⟨_, Heap.get?_push_size _ rfl, rfl, by rw [hl]; simp [revObj]⟩
   have I3 : Inv X pins σ H2 { s1 with heap := s1.heap.push (revObj ad ((its.toArray.size : Int) - 1)) } := I2.kept (t' := s1.toks) fun b o e => Heap.get?_push_of_some _ e
   refine wpAny_pyIter_revIter it0 ⟨s1.heap.objs.size, [s1.heap.objs.size], _, Itv X.K ad zs.length, H2, rfl, I3, Zs5 ad _ _, ⟨Nat.zero_le _, it0⟩, fun b hb => ?_, ?_⟩
   ·have e : b = s1.heap.objs.size := by simpa using hb
    subst e
    exact I2.fpOk (Nat.le_refl _) (I2.hok.fresh (Nat.le_refl _))
   ·have now : ∀ {H3 : Hp} {ι3 : List Addr} {Hd3 : HD}, Le X.K H2 ι2 H3 ι3 -> HRep X.K H3 ι3 Hd3 -> Zdp [(n, DO.lst zs)] Hd3 -> ∃ ws, H3 ad = some (.lst ws) ∧ Paired (Rep X.K H3 ι3) zs ws := fun {H3 ι3 Hd3} l3 h3 ok => by
     have := ok (n, .lst zs) (by simp)
     exact h3.obj n ad _ (l3.get had) this
    refine q _ H2 ι2 l2 h2 ⟨fun i H3 ι3 Hd3 l3 h3 ok hi => ?_, fun i H3 ι3 Hd3 d x H4 l3 h3 ok hd y => ?_, fun i H3 ι3 Hd3 l3 h3 ok hi => (show zs.length ≤ i by simpa using hi)⟩
    ·obtain ⟨ws, w1, w2⟩ := now l3 h3 ok
     exact ⟨by simpa using hi, ws, SqL.of w1, (Prd.len w2).symm⟩
    ·obtain ⟨ws, w1, w2⟩ := now l3 h3 ok
     obtain ⟨rfl, y⟩ := y
     have hi : i < zs.length := by
      have := (List.getElem?_eq_some_iff.mp hd).1
      simpa using this
     rw [List.getElem?_reverse hi] at hd
     obtain ⟨u, hu, ru⟩ := Prd.get w2 hd
     have := y ws (SqL.of w1)
     rw [hu] at this
     cases this
     exact ⟨ι3, Le.refl, h3, ru⟩
  ·cases e
 ·cases e
noncomputable def sWh (t : TF) (b : SF) : Nat -> SF
 | 0 => fun _ _ => none
 | n + 1 => fun σ H => (t σ H).bind fun p => if p.1 = true then (b σ p.2).bind fun q => match q.1 with
   | .nx => sWh t b n q.2.1 q.2.2
   | .ct => sWh t b n q.2.1 q.2.2
   | .bk => some (.nx, q.2.1, q.2.2)
   | .rt d => some (.rt d, q.2.1, q.2.2)
  else some (.nx, σ, p.2)
section
variable {X : Cx} {c : Expr} {pos : Pos}
theorem Zly {body : List Stmt} {t : TF} {b : SF} {n : Nat} (hp : PassesOwn (model X.prog X.w) X.A X.env X.xe) (hc : PTf X c t) (hb : Zpy X body b) : PSf X (.While c body [] pos) (sWh t b n) := by
 refine PSi (Ztc hp hc hb) fun E σ H zz => ?_
 obtain ⟨ι, σd, Hd, fl, σf, Hf, s, hr, e, q⟩ := zz
 refine ⟨fun m σ' H' => ∃ ι' σd' Hd', Le X.K H ι H' ι' ∧ SRep X.K H' ι' σ' σd' ∧ HRep X.K H' ι' Hd' ∧ sWh t b m σd' Hd' = some (fl, σf, Hf), ⟨n, ι, σd, Hd, Le.refl, s, hr, e⟩, ?_⟩
 rintro m σ1 H1 ⟨ι1, σd1, Hd1, l1, s1, h1, e1⟩
 cases m with
 | zero => cases e1
 | succ m =>
  rw [sWh] at e1
  obtain ⟨⟨x, H2⟩, e2, e1⟩ := Zo e1
  refine ⟨ι1, σd1, Hd1, x, H2, s1, h1, e2, fun H3 ι3 l3 h3 => ?_⟩
  cases x with
  | true =>
   rw [if_pos rfl]
   dsimp only at e1
   rw [if_pos rfl] at e1
   obtain ⟨⟨f4, σ4, H4⟩, e4, e1⟩ := Zo e1
   refine ⟨fun σ' H' => ∃ ι' σd' Hd', Le X.K H ι H' ι' ∧ SRep X.K H' ι' σ' σd' ∧ HRep X.K H' ι' Hd' ∧ sWh t b m σd' Hd' = some (fl, σf, Hf), fun σ' H' p => ⟨m, Nat.lt_succ_self m, p⟩, ?_⟩
   refine ⟨ι3, σd1, H2, f4, σ4, H4, s1.mono l3, h3, e4, fun σ6 H6 ι6 l6 h6 s6 => ?_⟩
   have L : Le X.K H ι H6 ι6 := (l1.trans l3).trans l6
   cases f4 with
   | nx => exact ⟨ι6, σ4, H4, L, s6, h6, e1⟩
   | ct => exact ⟨ι6, σ4, H4, L, s6, h6, e1⟩
   | bk => cases e1; exact q σ6 H6 ι6 L h6 s6
   | rt d => cases e1; exact q σ6 H6 ι6 L h6 s6
  | false =>
   rw [if_neg (by simp)]
   dsimp only at e1
   rw [if_neg (by simp)] at e1
   cases e1
   exact q σ1 H3 ι3 (l1.trans l3) h3 (s1.mono l3)
end
open Builtin.SmallTypes (nextOf)
noncomputable def SqI (b : Bool) (h : Heap) (i l : Addr) (n : Nat) : Prop := ∃ o, h.get? i = some o ∧ o.cls = .type (if b then "list_iterator" else "tuple_iterator") ∧ o.data = .fields #[.ref l, .int n 0]
noncomputable def SqX (b : Bool) (h : Heap) (l : Addr) (xs : Array Value) : Prop := ∃ o, h.get? l = some o ∧ o.cls = .type (if b then "list" else "tuple") ∧ ∃ n, o.data = .seq xs n
theorem SqI.mv {b : Bool} {h h' : Heap} {i l : Addr} {n : Nat} (x : SqI b h i l n) (k : ∀ o, h.get? i = some o -> h'.get? i = some o) : SqI b h' i l n := let ⟨o, e, r⟩ := x; ⟨o, k o e, r⟩
theorem SqX.mv {b : Bool} {h h' : Heap} {l : Addr} {xs : Array Value} (x : SqX b h l xs) (k : ∀ o, h.get? l = some o -> h'.get? l = some o) : SqX b h' l xs := let ⟨o, e, r⟩ := x; ⟨o, k o e, r⟩
theorem SqI.lt {b : Bool} {h : Heap} {i l : Addr} {n : Nat} (x : SqI b h i l n) : i < h.objs.size := let ⟨_, e, _⟩ := x; Heap.lt_size e
noncomputable def srcD (d : D) (H : HD) : Option (List D × Zhl) := match d with
 | .tup xs => some (xs, [])
 | .ref n => match H[n]? with
  | some (.lst xs) => some (xs, [(n, .lst xs)])
  | _ => none
 | _ => none
noncomputable def Zya (f : AF) : ItF := fun σ H => (f σ H).bind fun p => match p.1 with
 | [d1, d2] => (srcD d1 p.2).bind fun a => (srcD d2 p.2).map fun b => ((zipL a.1 b.1, a.2 ++ b.2), p.2)
 | _ => none
section
variable {X : Cx} {e : Expr} {pos : Pos}
noncomputable def Zwr : SF := fun _ _ => none
theorem Zmv {st : Stmt} : PSf X st Zwr := by
 rintro pins s σ H E I ⟨ι, σd, Hd, fl, σd', Hd', _, _, e, _⟩
 cases e
end
structure BlkOk2 (X : Cx) (scope : Scope) (x y : Str) (cn : List Str) (ci : List Nat) : Prop where
 kind : scope.kind = .function
 nocell : ∀ y ∈ scope.names, y.2 ≠ .cell
 names : ∀ y ∈ scope.names, y.2 = .local -> scope.names.lookup y.1 = some .local
 tgt : scope.names.lookup x = some .local
 tgt2 : scope.names.lookup y = some .local
 free : ∀ y ∈ scope.names, y.2 = .free -> (X.env.cells.lookup y.1).isSome = true
 nd : (x :: y :: cn).Nodup
 len : ci.length = cn.length
 cap : ∀ (j : Nat) (y : Str), cn[j]? = some y -> ∃ i, ci[j]? = some i ∧ X.N[i]? = some y ∧ scope.names.lookup y = some .free ∧ (X.env.kindOf y = some .cell ∨ X.env.kindOf y = some .free)
section
variable {X : Cx} {pins : List (Addr × Obj)} {σ : L2.St} {H : Hp} {s : Shared} {scope : Scope} {x y0 : Str} {cn : List Str} {ci : List Nat} {fp : List Addr}
theorem Zt9 {h₁ : Heap} {tk : Nat} {o₁ : Obj} (I : Inv X pins σ H s) (B : BlkOk2 X scope x y0 cn ci) (hf : ∀ b ∈ fp, Zm2 X pins H b) (hlt : ∀ b ∈ fp, b < s.heap.objs.size)
  (hns : h₁.Ns s.heap.objs.size (fun _ => none)) (hsb : Heap.SameBut s.heap.objs.size (s.heap.push o₁) h₁) :
  Inv (blk X scope (x :: y0 :: cn) (Zhw X.env scope.names []) s.heap.objs.size s H fp (X.pn ++ pins)) [] (none :: none :: Ziy ci σ) H { s with heap := h₁, toks := tk } := by
 have old : ∀ b o, s.heap.get? b = some o -> h₁.get? b = some o := fun b o e => hsb.extBut b o (Nat.ne_of_lt (Heap.lt_size e)) (Heap.get?_push_of_some _ e)
 have sub := Zgv X.env scope.names [] (by intro x c h; simp at h)
 have has : ∀ y, (y, NameKind.free) ∈ scope.names -> ∃ c, (Zhw X.env scope.names []).lookup y = some c := fun y hy =>
  Option.isSome_iff_exists.mp (Zk8 X.env scope.names [] y (.inr ⟨hy, B.free _ hy rfl⟩))
 refine ⟨⟨I.ok.mod, B.kind, I.ok.glob, I.ok.blt, Nat.le_refl _, fun y z c h1 h2 => I.ok.inj y z c (sub y c h1) (sub z c h2), fun y hy => has y (Zfr B.nocell hy), fun y c hy => absurd hy (by show ¬ (false = true); simp), I.ok.hd, I.ok.frames, .inl rfl,
   fun b hb => ⟨Nat.ne_of_lt (hlt b hb), fun y c e => (hf b hb).2.2.2.2.1 y c (sub y c e)⟩, I.bs, Nat.le_trans I.ok.bsz I.sz, fun b o e hb => ?_, fun b hb z => ?_, I.stack, I.stkFree⟩,
  rfl, I.bare, Un.kept old, ⟨_, hns, fun i y v h1 h2 h3 => ?_⟩, fun y c e => ?_, I.hok.fresh (Nat.le_refl _), fun y c e => I.freeC y c (sub y c e), fun p hp => ?_, I.hok.kept old, ?_⟩
 ·rcases (hf b hb).2.2.2.1 with z | z
  ·exact I.ok.noex b o e z
  ·exact absurd (Nat.lt_of_lt_of_le (Heap.lt_size e) (Nat.le_trans I.ok.bsz z)) (Nat.lt_irrefl _)
 ·exact (List.mem_cons.mp (I.stkSub b z)).elim (hf b hb).2.1 (hf b hb).2.2.1
 ·match i, h1, h2 with
  | 0, h1, h2 => simp at h2
  | 1, h1, h2 => simp at h2
  | j + 2, h1, h2 =>
   have h1' : cn[j]? = some y := by simpa [blk] using h1
   have h2' : (Ziy ci σ)[j]? = some (some v) := by simpa using h2
   obtain ⟨i, e1, e2, e3, e4⟩ := B.cap j y h1'
   have e5 : σ[i]? = some (some v) := by
    unfold Ziy at h2'
    rw [List.getElem?_map, e1] at h2'
    simp at h2'
    cases e : σ[i]? with
    | none => rw [e] at h2'; cases h2'
    | some o => rw [e] at h2'; simp at h2'; rw [h2']
   obtain ⟨m, hn, hl⟩ := I.loc
   have hv : Vis X.env.scope y := by
    rcases e4 with e4 | e4
    ·exact .inr (.inl e4)
    ·exact .inr (.inr e4)
   obtain ⟨u, r, l⟩ := hl i y v e2 e5 hv
   refine ⟨u, r, .inr ⟨Zgg e3, ?_⟩⟩
   obtain ⟨c, ec⟩ := has y (PySem.mem_of_lookup e3)
   refine ⟨c, ec, ?_⟩
   rcases l with ⟨l, _⟩ | ⟨_, c', ec', hc⟩
   ·rcases e4 with e4 | e4 <;> rw [e4] at l <;> cases l
   ·rw [sub y c ec] at ec'
    cases ec'
    obtain ⟨ob, q1, q2⟩ := hc
    exact ⟨ob, old _ _ q1, q2⟩
 ·obtain ⟨v, ob, q1, q2⟩ := I.cell y c (sub y c e)
  exact ⟨v, ob, old _ _ q1, q2⟩
 ·have hp' : p ∈ X.pn ++ pins := by simpa [blk] using hp
  obtain ⟨q1, q2, q3, q4, q5⟩ := I.pin p hp'
  refine ⟨old _ _ q1, q2, Nat.ne_of_lt (Heap.lt_size q1), fun z => ?_, q5⟩
  exact (List.mem_cons.mp (I.stkSub p.1 z)).elim q3 q4
 ·simp [blk, Ziy, B.len]
noncomputable def LcW2 (K : PySem.W.Frag) (J : It) (ci : List Nat) (tt : TT) (te : TE) (σ : L2.St) (Q : VK) (H1 : Hp) : Prop := ∀ p, H1 p = none -> ∃ W : Nat -> Nat -> List V -> Hp -> Prop, (∃ m, W 0 m [] (upd H1 p (.lst []))) ∧ ∀ i m ys H, W i m ys H →
 H p = some (.lst ys) ∧ ((J.stop i H ∧ Q (.ref p) H) ∨ (J.go i H ∧ ∀ v H', J.yld i H v H' -> ∃ a v1 v2, v = .ref a ∧ SqT K H' a [v1, v2] ∧ tt (some v1 :: some v2 :: Ziy ci σ) H' fun b H2 =>
  if b = true then te (some v1 :: some v2 :: Ziy ci σ) H2 fun y H3 => H3 p = some (.lst ys) ∧ ys.length < sizeLine ∧ ∃ m', m' < m ∧ W (i + 1) m' (ys ++ [y]) (upd H3 p (.lst (ys ++ [y])))
  else ∃ m', m' < m ∧ W (i + 1) m' ys H2))
theorem Zsf {elt iter : Expr} {px py pt pos : Pos} {kt : Nat} {ifs : List Expr} {tt : TT} {te : TE} {Q : VK} {E : Value -> Shared -> Prop} {RR : Value -> Addr -> Result -> Shared -> Prop} {it : Addr} {tn : Nat -> Heap -> Prop} {J : It}
  (I : Inv X pins σ H s) (hc : X.calm = true) (B : BlkOk2 X scope x y0 cn ci) (T : Turn X.prog X.w X.K (.Tuple [.Name x px, .Name y0 py] kt pt) J fp it tn) (st : tn 0 s.heap) (hf : ∀ b ∈ fp, Zm2 X pins H b)
  (ht : ∀ cl C s H fp pn, PTs (blk X scope (x :: y0 :: cn) cl C s H fp pn) ifs tt) (he : ∀ cl C s H fp pn, PE (blk X scope (x :: y0 :: cn) cl C s H fp pn) elt te)
  (hw : LcW2 X.K J ci tt te σ Q H) (hRR : ∀ p C H' s', Inv X pins σ H' s' -> Gone X pins H' s' C -> Q (.ref p) H' -> RR (.ref p) C (.ok .next) s') :
  wpAny (model X.prog X.w) X.A (newList []) (fun acc s₃ => wpAny (model X.prog X.w) X.A (newFunctionEnv scope X.env.globals (Zhw X.env scope.names []) [] X.env.qual none .none (some X.env)) (fun cenv s₄ =>
   codeAny (model X.prog X.w) X.A (.compStart (.ListComp elt [⟨.Tuple [.Name x px, .Name y0 py] kt pt, iter, ifs, 0⟩] scope pos) 0 (.ref it) acc { cenv with scope := relabel scope X.env }) (RR acc cenv.locals) s₄) E s₃) E s := by
 have hp0 : H s.heap.objs.size = none := I.hok.fresh (Nat.le_refl _)
 obtain ⟨W, ⟨m0, w0⟩, turn⟩ := hw _ hp0
 refine wpAny_newObj_type (wpAny_newFunctionEnv B.nocell (by intro y hy; simp at hy) (fun h₁ hns₁ hsb₁ => ?_) B.kind)
 dsimp only at hns₁ hsb₁ ⊢
 have I3 : Inv X pins σ (upd H s.heap.objs.size (.lst [])) { s with heap := s.heap.push { cls := .type "list", dict := none, data := .seq ([] : List Value).toArray } } :=
  I.laid (t' := s.toks) (fun b u e => Heap.get?_push_of_some _ e) (Nat.le_refl _) ⟨Nat.zero_le _, [], 0, .nil, Heap.get?_push_size _ rfl⟩
 generalize hH3 : s.heap.push { cls := .type "list", dict := none, data := .seq ([] : List Value).toArray } = hp3 at hns₁ hsb₁ I3 ⊢
 have flt : ∀ b ∈ fp, b < s.heap.objs.size := fun b hb => by
  obtain ⟨o, e, _⟩ := T.obj 0 _ st b hb
  exact Heap.lt_size e
 have sz3 : hp3.objs.size = s.heap.objs.size + 1 := by rw [← hH3, Heap.size_push]
 have f3 : ∀ b ∈ fp, Zm2 X pins (upd H s.heap.objs.size (.lst [])) b := fun b hb => ⟨by rw [Za0 (Nat.ne_of_lt (flt b hb))]; exact (hf b hb).1, (hf b hb).2⟩
 have old3 : ∀ b o, s.heap.get? b = some o -> hp3.get? b = some o := fun b o e => by rw [← hH3]; exact Heap.get?_push_of_some _ e
 have I4 := Zt9 (s := { s with heap := hp3 }) (tk := s.toks + ([] : List (Str × Value)).length) I3 B f3 (fun b hb => by show b < hp3.objs.size; rw [sz3]; exact Nat.lt_succ_of_lt (flt b hb)) (by simpa using hns₁) hsb₁
 have old4 : ∀ b o, hp3.get? b = some o -> h₁.get? b = some o := fun b o e => hsb₁.extBut b o (Nat.ne_of_lt (Heap.lt_size e)) (Heap.get?_push_of_some _ e)
 generalize hX' : blk X scope (x :: y0 :: cn) (Zhw X.env scope.names []) hp3.objs.size { s with heap := hp3 } (upd H s.heap.objs.size (.lst [])) fp (X.pn ++ pins) = X' at I4
 have ePr : X'.prog = X.prog := by rw [← hX']; rfl
 have eW : X'.w = X.w := by rw [← hX']; rfl
 have eK : X'.K = X.K := by rw [← hX']; rfl
 have eA : X'.A = X.A := by rw [← hX']; rfl
 have eEnv : X'.env = compEnvC scope (Zhw X.env scope.names []) hp3.objs.size X.env := by rw [← hX']; rfl
 have eEx : X'.ex = fp := by rw [← hX']; rfl
 have ht' : PTs X' ifs tt := by rw [← hX']; exact ht _ _ _ _ _ _
 have he' : PE X' elt te := by rw [← hX']; exact he _ _ _ _ _ _
 have eXe : X'.xe = fun _ _ => False := by rw [← hX']; rfl
 have hg' : PG X' (.Tuple [.Name x px, .Name y0 py] kt pt) (gTup X.K 2 (Zsk (Zkx 0) (Zsk (Zkx 1) gNil))) := by
  rw [← hX']
  exact Zva (X := blk X scope (x :: y0 :: cn) _ _ _ _ _ _) hc (Zkh (Zks (X := blk X scope (x :: y0 :: cn) _ _ _ _ _ _) B.nd rfl (.inl (lookup_relabel_local B.tgt)) (.inr (lookup_relabel_local B.tgt))) (Zkh (Zks (X := blk X scope (x :: y0 :: cn) _ _ _ _ _ _) B.nd rfl (.inl (lookup_relabel_local B.tgt2)) (.inr (lookup_relabel_local B.tgt2))) Zre))
 -- the iterator's objects, seen from the block
 have stat : ∀ {H' : Hp}, (∀ b ∈ fp, H' b = none) -> ∀ b ∈ fp, Zm2 X' [] H' b := fun {H'} hn b hb => by
  rw [← hX']
  refine ⟨hn b hb, (by show b ≠ hp3.objs.size; rw [sz3]; exact Nat.ne_of_lt (Nat.lt_succ_of_lt (flt b hb))), fun z => (List.mem_cons.mp (I3.stkSub b z)).elim (hf b hb).2.1 (hf b hb).2.2.1, .inl hb, fun y c e => ?_, fun p hp => ?_⟩
  ·exact (hf b hb).2.2.2.2.1 y c (Zgv X.env scope.names [] (by intro x c h; simp at h) y c e)
  ·exact (hf b hb).2.2.2.2.2 p (by simpa [blk] using hp)
 have back : ∀ {σ' : L2.St} {H' : Hp} {s' : Shared}, Inv X' [] σ' H' s' -> Inv X pins σ H' s' ∧ Gone X pins H' s' hp3.objs.size := fun {σ' H' s'} I5 => by
  have u : Un (frs X.stack) fp (upd H s.heap.objs.size (.lst [])) H' hp3 s'.heap := by
   have := I5.base
   rw [← hX'] at this
   exact this
  have hok : HOk X.prog X.w H' s'.heap := by have := I5.hok; rw [ePr, eW] at this; exact this
  have ho : s'.os = s.os := by have := I5.os; rw [← hX'] at this; exact this
  refine ⟨I3.call' ho u hok I5.bare fun b hb => ⟨(hf b hb).2.2.2.1, (hf b hb).2.1, (hf b hb).2.2.2.2.1, (hf b hb).2.2.2.2.2⟩, ?_, ?_, ?_, ?_, fun y c e z => ?_, fun p hp z => ?_⟩
  ·obtain ⟨m, hn, _⟩ := I5.loc
   rw [eEnv] at hn
   exact ⟨m, hn⟩
  ·have := I5.free
   rw [eEnv] at this
   exact this
  ·exact Nat.ne_of_gt (I3.lt)
  ·exact I3.sz
  ·obtain ⟨v, q⟩ := I3.cell y c e
   exact absurd (Nat.lt_of_lt_of_le q.lt (by rw [z]; exact Nat.le_refl _)) (Nat.lt_irrefl _)
  ·have := Heap.lt_size (I3.pin p hp).1
   rw [z] at this
   exact Nat.lt_irrefl _ this
 have loop : codeAny (model X.prog X.w) X.A (.compLoop (.ListComp elt [⟨.Tuple [.Name x px, .Name y0 py] kt pt, iter, ifs, 0⟩] scope pos) 0 (.ref it) (.ref s.heap.objs.size) (compEnvC scope (Zhw X.env scope.names []) hp3.objs.size X.env))
   (RR (.ref s.heap.objs.size) hp3.objs.size) { s with heap := h₁, toks := s.toks + ([] : List (Str × Value)).length } := by
  refine codeAny_loop rfl (fun n s' => ∃ i o o2 ys H', Inv X' [] (o :: o2 :: Ziy ci σ) H' s' ∧ tn i s'.heap ∧ (∀ b ∈ fp, H' b = none) ∧ W i n ys H') (fun n s' hI => ?_) m0
   ⟨0, none, none, [], _, I4, T.keep _ _ _ st (fun b hb o e => old4 b o (old3 b o e)), fun b hb => (f3 b hb).1, w0⟩
  obtain ⟨i, o, o2, ys, H', I5, st5, fr5, w5⟩ := hI
  show wpAny _ X.A ((compTurn (.ListComp elt [⟨.Tuple [.Name x px, .Name y0 py] kt pt, iter, ifs, 0⟩] scope pos) 0 (.ref it) (.ref s.heap.objs.size) (compEnvC scope (Zhw X.env scope.names []) hp3.objs.size X.env)).onRaise (fun x => do noteFrame x (compEnvC scope (Zhw X.env scope.names []) hp3.objs.size X.env); theTreesLotGoes x)) _ _ s'
  refine wpAny_noted ?_
  rw [compTurn_list, ← eEnv, ← ePr, ← eW, ← eA]
  refine wpAny_mono (E := fun _ _ => False) ?_ (fun _ _ q => q) (fun _ _ z => z.elim)
  obtain ⟨hpl, wt⟩ := turn i n ys H' w5
  refine wpAny_bind (wpAny_standAt (wpAny_bind ?_))
  rcases wt with ⟨stop, q⟩ | ⟨go, step⟩
  ·have z := T.done X' ePr eW eK (by rw [← hX']; exact hc) i [] s' _ H' (fun _ _ => False) I5 (stat fr5) st5 stop
   rw [← ePr, ← eW] at z
   refine thn z fun r s6 zz => ?_
   obtain ⟨hr, I6⟩ := zz
   subst hr
   obtain ⟨J1, g1⟩ := back I6
   exact wpAny_pure (hRR _ _ H' s6 J1 g1 q)
  ·have z := T.item X' ePr eW eK (by rw [← hX']; exact hc) i [] s' _ H' (fun _ _ => False) I5 (stat fr5) st5 go
   rw [← ePr, ← eW] at z
   refine thn z fun r s6 zz => ?_
   obtain ⟨u, hr, h6⟩ := zz
   subst hr
   refine wpAny_bind (thn h6 fun _ s7 zz => ?_)
   obtain ⟨v, H7, I7, r7, y7, st7, fr7⟩ := zz
   have I7' := I7.pinned (stat fr7) (T.obj _ _ st7)
   rw [← eXe]
   obtain ⟨a7, v1, v2, ev, sq, step7⟩ := step v _ y7
   refine wpAny_bind (thn (hg' _ s7 _ H7 v u _ I7' r7 (show gTup X.K 2 (Zsk (Zkx 0) (Zsk (Zkx 1) gNil)) v (o :: o2 :: Ziy ci σ) H7 (fun σ8 H8 => σ8 = some v1 :: some v2 :: Ziy ci σ ∧ H8 = H7) from ⟨a7, [v1, v2], ev, sq, rfl, ⟨v1, [v2], rfl, v2, [], rfl, rfl, rfl, rfl⟩⟩)) fun _ s8 zz => ?_)
   obtain ⟨σ8, H8, I8, e8, e8'⟩ := zz
   subst e8 e8'
   refine wpAny_bind (thn (ht' _ s8 _ _ _ I8 step7) fun b s9 zz => ?_)
   obtain ⟨H9, I9, q9⟩ := zz
   have tnK : ∀ {σ' : L2.St} {H' : Hp} {s' : Shared}, Inv X' (([] : List (Addr × Obj)) ++ Zjg fp s7.heap) σ' H' s' -> tn (i + 1) s'.heap ∧ ∀ b ∈ fp, H' b = none := fun {σ' H' s'} I' =>
    ⟨T.keep _ _ _ st7 fun b hb o e => (I'.pin (b, o) (List.mem_append_right _ (List.mem_append_right _ (Zee hb e)))).1, fun b hb => by
     obtain ⟨ob, e, d⟩ := T.obj _ _ st7 b hb
     exact (I'.pin (b, ob) (List.mem_append_right _ (List.mem_append_right _ (Zee hb e)))).2.1⟩
   cases b with
   | false =>
    obtain ⟨m', hm, w9⟩ := q9
    obtain ⟨t9, f9⟩ := tnK I9
    exact wpAny_pure ⟨rfl, m', hm, i + 1, _, _, ys, H9, I9.unpinned, t9, f9, w9⟩
   | true =>
    refine wpAny_bind (wpAny_bind (thn (he' _ s9 _ _ _ I9 q9) fun yv s10 zz => ?_))
    obtain ⟨y, H10, I10, r10, hp10, hz10, m', hm, w10⟩ := zz
    refine wpAny_bind (thn (Zip (X := X') _ s10 _ H10 (.ref s.heap.objs.size) [y] (.ref s.heap.objs.size) [yv] (fun _ H11 => H11 = upd H10 s.heap.objs.size (.lst (ys ++ [y]))) I10 rfl (.cons r10 .nil) ⟨_, ys, y, rfl, rfl, hp10, hz10, rfl⟩) fun _ s11 zz => ?_)
    obtain ⟨_, H11, I11, _, e11⟩ := zz
    subst e11
    obtain ⟨t11, f11⟩ := tnK I11
    exact wpAny_pure (wpAny_pure ⟨rfl, m', hm, i + 1, _, _, ys ++ [y], _, I11.unpinned, t11, f11, w10⟩)
 exact codeAny_compStart_list loop (T.self _ 0 _ _ _ (T.keep _ _ _ st (fun b hb o e => old4 b o (old3 b o e))) loop)
noncomputable def tLC2 (K : PySem.W.Frag) (wi : TI) (ci : List Nat) (tt : TT) (te : TE) : TE := fun σ H Q => wi σ H fun J H1 => LcW2 K J ci tt te σ Q H1
theorem Zyx {elt iter : Expr} {px py pt pos : Pos} {kt : Nat} {ifs : List Expr} {wi : TI} {tt : TT} {te : TE} (hc : X.calm = true) (B : BlkOk2 X scope x y0 cn ci) (hi : PI X (.Tuple [.Name x px, .Name y0 py] kt pt) iter wi)
  (ht : ∀ cl C s H fp pn, PTs (blk X scope (x :: y0 :: cn) cl C s H fp pn) ifs tt) (he : ∀ cl C s H fp pn, PE (blk X scope (x :: y0 :: cn) cl C s H fp pn) elt te)
  (hs : ∀ x, foldedSetIterable iter X.env x = pure x := by rintro _; rfl) : PE X (.ListComp elt [⟨.Tuple [.Name x px, .Name y0 py] kt pt, iter, ifs, 0⟩] scope pos) (tLC2 X.K wi ci tt te) := by
 intro pins s σ H Q I h
 rw [eval_ListComp]
 refine wpAny_comprehension_free (use := none) rfl hs (Zhb X.env scope B.free) B.kind B.names ?_
 refine thn (hi pins s σ H _ I h) fun v s1 h1 => thn h1 fun itv s2 h2 => ?_
 obtain ⟨it, fp, tn, J, H2, e, I2, T, st2, f2, w2⟩ := h2
 subst e
 refine Zsf (RR := fun acc C => compPost (model X.prog X.w) X.A X.xe none (EP X pins σ Q) acc C) I2 hc B T st2 f2 ht he w2 fun p C H' s' I' g q => ?_
 obtain ⟨m, hn⟩ := g.ns
 exact ⟨m, hn, fun h' hs' => ⟨.ref p, H', g.go I' hs', rfl, q⟩⟩
end
noncomputable def Zzn (sc scope : Scope) (N : List Str) (x y : Str) (cn : List Str) (ci : List Nat) : Bool :=
 (scope.kind == .function) && scope.names.all (fun y => y.2 != .cell) && scope.names.all (fun y => y.2 != .local || scope.names.lookup y.1 == some .local) && (scope.names.lookup x == some .local) && (scope.names.lookup y == some .local) &&
 scope.names.all (fun y => y.2 != .free || sc.names.lookup y.1 == some .cell) && decide (x :: y :: cn).Nodup && (ci.length == cn.length) &&
 (cn.zip ci).all (fun p => N[p.2]? == some p.1 && scope.names.lookup p.1 == some .free && sc.names.lookup p.1 == some .cell)
theorem Zv8 {P : Program} {w : World} {K : PySem.W.Frag} {mg : Str -> Option Value} {base : Heap} {N : List Str} {qual : Str} {sc scope : Scope} {f : Addr} {cdv : Value} {A : Around} {outer : List Env} {s : Shared} {H : Hp} {E : XK} {x y0 : Str} {cn : List Str} {ci : List Nat}
  (h : Zzn sc scope N x y0 cn ci = true) : BlkOk2 (Zpm CX0 P w K mg base N qual sc f cdv A outer s H E).nox scope x y0 cn ci := by
 unfold Zzn at h
 simp only [Bool.and_eq_true, List.all_eq_true, Bool.or_eq_true, bne_iff_ne, ne_eq, beq_iff_eq, decide_eq_true_eq] at h
 obtain ⟨⟨⟨⟨⟨⟨⟨⟨h1, h2⟩, h3⟩, h4⟩, h4b⟩, h5⟩, h6⟩, h7⟩, h8⟩ := h
 refine ⟨h1, fun y hy => h2 y hy, fun y hy hl => (h3 y hy).resolve_left fun z => z hl, h4, h4b, fun y hy hf => ?_, h6, h7, fun j y hj => ?_⟩
 ·have := (h5 y hy).resolve_left fun z => z hf
  obtain ⟨c, hc⟩ := Zh1 (n := s.heap.objs.size + 1) this
  exact Option.isSome_iff_exists.mpr ⟨c, hc⟩
 ·have hl : j < ci.length := by rw [h7]; exact (List.getElem?_eq_some_iff.mp hj).1
  have hm : (y, ci[j]) ∈ cn.zip ci := by
   refine List.mem_iff_getElem?.mpr ⟨j, ?_⟩
   rw [List.getElem?_zip_eq_some]
   exact ⟨hj, by simp [hl]⟩
  obtain ⟨⟨k1, k2⟩, k3⟩ := h8 _ hm
  exact ⟨ci[j], by simp [hl], k1, k2, .inl k3⟩
open Builtin.SmallTypes (nextOf)
section
variable {prog : Program} {w : World} {A : Around} {E : Value -> Shared -> Prop} {s : Shared}
open AutoSeq1 (wpAny_loadPart') in
theorem Zyw (t : Addr) (its : Array Value) (n : Nat) (dct : Option Addr) (sl : Array (Option Value)) :
  Meets (Builtin.«enumerate.__new__» ⟨[.type "enumerate", .ref t], []⟩) (fun _ R s => s.heap.get? t = some { cls := .type "list", dict := dct, data := .seq its n, slots := sl } ∧
   R (.ok (.ret (.ref (s.heap.push { cls := .type "list_iterator", data := .fields #[.ref t, .int 0 0] }).objs.size)))
    { s with heap := (s.heap.push { cls := .type "list_iterator", data := .fields #[.ref t, .int 0 0] }).push { cls := .type "enumerate", data := .fields #[.none, .bool false, .ref s.heap.objs.size, rawInt 0, .none, .none] } }) :=
 .of_wp fun prog w A R s h => by
  obtain ⟨hp, g, d, tk, os⟩ := s; obtain ⟨hl, h⟩ := h
  have hsub := sub_enumerate
  have hL : Heap.IsList (Shared.heap ⟨hp, g, d, tk, os⟩) t its := ⟨_, hl, rfl, n, rfl⟩
  wp_walk using wpAny_loadPart' hl
  refine wpAny_stack_any fun st => wpAny_pure ?_
  split
  ·rename_i k _ _ _ _ _
   cases (k == Value.type "enumerate") <;> (wp_walk using wpAny_loadPart' hl, wpAny_pyIter_list hL; exact ⟨_, rfl, h⟩)
  ·wp_walk using wpAny_loadPart' hl, wpAny_pyIter_list hL
   exact ⟨_, rfl, h⟩
end
noncomputable def two2 : D -> Option (D × D)
 | .tup [a, b] => some (a, b)
 | _ => none
theorem Zqi {x a b : D} (h : two2 x = some (a, b)) : x = .tup [a, b] := by
 unfold two2 at h
 split at h
 ·cases h; rfl
 ·cases h
open Classical in
noncomputable def Ze7 (own : Zhl) (c0 : SD) (tt : TF) (te : EF) : List D -> HD -> Option (List D × HD)
 | [], H => if Zdp own H then some ([], H) else none
 | x :: r, H => (two2 x).bind fun ab => if Zdp own H then (tt (some ab.1 :: some ab.2 :: c0) H).bind fun t => if t.1 = true then (te (some ab.1 :: some ab.2 :: c0) t.2).bind fun e => (Ze7 own c0 tt te r e.2).map fun q => (e.1 :: q.1, q.2) else Ze7 own c0 tt te r t.2 else none
noncomputable def Zxw (it : ItF) (ci : List Nat) (tt : TF) (te : EF) : EF := fun σ H => (it σ H).bind fun p => (Ze7 p.1.2 (Zo1 ci σ) tt te p.1.1 p.2).bind fun q => mkL q.1 q.2
theorem Zpz {own : Zhl} {c0 : SD} {tt : TF} {te : EF} {x : D} {r : List D} {H : HD} {z : List D × HD} (h : Ze7 own c0 tt te (x :: r) H = some z) : ∃ a b, x = .tup [a, b] ∧ Zdp own H ∧ ((tt (some a :: some b :: c0) H).bind fun t => if t.1 = true then (te (some a :: some b :: c0) t.2).bind fun e => (Ze7 own c0 tt te r e.2).map fun q => (e.1 :: q.1, q.2) else Ze7 own c0 tt te r t.2) = some z := by
 rw [Ze7] at h
 obtain ⟨⟨a, b⟩, e, h⟩ := Zo h
 split at h
 ·rename_i ok
  exact ⟨a, b, Zqi e, ok, h⟩
 ·cases h
section
variable {X : Cx} {scope : Scope} {x y0 : Str} {cn : List Str} {ci : List Nat}
theorem Zzx {α β : Type} {F : α -> β -> Prop} {a b : α} {us : List β} (h : Paired F [a, b] us) : ∃ u v, us = [u, v] ∧ F a u ∧ F b v := by
 cases h with
 | cons p P => cases P with
  | cons q P => cases P; exact ⟨_, _, rfl, p, q⟩
theorem SRep.cap2 {K : PySem.W.Frag} {H : Hp} {ι : List Addr} {σ : L2.St} {σd : SD} {d e : D} {v u : V} (s : SRep K H ι σ σd) (r : Rep K H ι d v) (r2 : Rep K H ι e u) : SRep K H ι (some v :: some u :: Ziy ci σ) (some d :: some e :: Zo1 ci σd) := by
 have c := SRep.cap (ci := ci) s r2
 refine ⟨by simpa using c.len, fun i z h => ?_⟩
 cases i with
 | zero => simp at h; subst h; exact ⟨v, rfl, r⟩
 | succ j =>
  rw [List.getElem?_cons_succ] at h ⊢
  exact c.var j z h
theorem Zxy {K : PySem.W.Frag} {it : ItF} {tt : TF} {te : EF} {σ : L2.St} {H : Hp} {Q : VK} (h : rdE K (Zxw it ci tt te) σ H Q) : tLC2 K (rdI K it) ci (rdT K tt) (rdE K te) σ H Q := by
 obtain ⟨ι, σd, Hd, d, Hd', s, hr, e, q⟩ := h
 obtain ⟨⟨⟨xs, own⟩, H1⟩, e1, e⟩ := Zo e
 obtain ⟨⟨ds, H2⟩, e2, e⟩ := Zo e
 obtain ⟨hz, e⟩ := Zkc e
 cases e
 dsimp only at e2 hz
 refine ⟨ι, σd, Hd, xs, own, H1, s, hr, e1, fun J H0 ι0 l0 h0 itr p hp => ?_⟩
 have s0 := s.mono l0
 refine ⟨fun i m ys H => m = xs.length - i ∧ i ≤ xs.length ∧ H p = some (.lst ys) ∧ ∃ ι Hd done rest, Le K H0 ι0 H ι ∧ p ∉ ι ∧ HRep K H ι Hd ∧ Paired (Rep K H ι) done ys ∧ Ze7 own (Zo1 ci σd) tt te (xs.drop i) Hd = some (rest, H2) ∧ ds = done ++ rest,
  ⟨xs.length, by simp, Nat.zero_le _, Zbi, ι0, H1, [], ds, Le.fresh hp _, h0.fresh hp, h0.tup hp _, .nil, by simpa using e2, by simp⟩, ?_⟩
 rintro i m ys H5 ⟨rfl, hi, hpl, ι5, Hd5, done, rest, l5, np5, h5, pd5, e5, eds⟩
 refine ⟨hpl, ?_⟩
 by_cases hlt : i < xs.length
 ·have ed : xs.drop i = xs[i] :: xs.drop (i + 1) := List.drop_eq_getElem_cons hlt
  rw [ed] at e5
  obtain ⟨a1, a2, ex, ok, e5⟩ := Zpz e5
  obtain ⟨⟨b6, H6⟩, e6, e5⟩ := Zo e5
  refine .inr ⟨itr.go i H5 ι5 Hd5 l5 h5 ok hlt, fun v H' y => ?_⟩
  obtain ⟨ι6, l6, h6, r6⟩ := itr.yld i H5 ι5 Hd5 xs[i] v H' l5 h5 ok (by simp [hlt]) y
  obtain ⟨hp6, np6⟩ := l6.frame p _ hpl np5
  rw [ex] at r6
  obtain ⟨a6, ws6, ev6, sq6, P6⟩ := Zb3.mp r6
  obtain ⟨u1, u2, rfl, p1, p2⟩ := Zzx P6
  have s6 := SRep.cap2 (ci := ci) (s0.mono (l5.trans l6)) p1 p2
  refine ⟨a6, u1, u2, ev6, sq6, ι6, _, Hd5, b6, H6, s6, h6, e6, fun H7 ι7 l7 h7 => ?_⟩
  obtain ⟨hp7, np7⟩ := l7.frame p _ hp6 np6
  have L7 := (l5.trans l6).trans l7
  cases b6 with
  | true =>
   rw [if_pos rfl]
   dsimp only at e5
   rw [if_pos rfl] at e5
   obtain ⟨⟨d8, H8⟩, e8, e5⟩ := Zo e5
   obtain ⟨⟨r9, H9⟩, e9, e5⟩ := Zm e5
   cases e5
   refine ⟨ι7, _, H6, d8, H8, s6.mono l7, h7, e8, fun v8 H8' ι8 l8 h8 rr8 => ?_⟩
   obtain ⟨hp8, np8⟩ := l8.frame p _ hp7 np7
   have ly : ys.length < sizeLine := by
    rw [← Prd.len pd5]
    rw [eds] at hz
    simp at hz
    omega
   have w8 : Lw K H8' ι8 (upd H8' p (.lst (ys ++ [v8]))) ι8 := Lw.side hp8 _
   refine ⟨hp8, ly, xs.length - (i + 1), by omega, rfl, hlt, Zbi, ι8, H8, done ++ [d8], r9, (L7.trans l8).side hp hp8 _, np8, h8.keep w8 (fun a ha => Za0 fun z => by subst z; exact np8 ha), ?_, e9, by rw [eds]; simp⟩
   exact Prd.append (Prd.monoW w8 (Prd.mono ((l6.trans l7).trans l8) pd5)) (.cons (Rep.monoW w8 rr8) .nil)
  | false =>
   rw [if_neg (by simp)]
   dsimp only at e5
   rw [if_neg (by simp)] at e5
   exact ⟨xs.length - (i + 1), by omega, rfl, hlt, hp7, ι7, H6, done, rest, L7, np7, h7, Prd.mono (l6.trans l7) pd5, e5, eds⟩
 ·rw [List.drop_eq_nil_of_le (by omega), Ze7] at e5
  split at e5
  ·rename_i ok
   have e6 : (([] : List D), Hd5) = (rest, H2) := Option.some.inj e5
   obtain ⟨rfl, rfl⟩ := Prod.mk.inj e6
   refine .inl ⟨itr.stop i H5 ι5 _ l5 h5 ok (by omega), ?_⟩
   have w5 : Lw K H5 ι5 H5 (ι5 ++ [p]) := ⟨fun _ _ z => z, fun _ _ z => z, ⟨[p], rfl⟩, fun _ _ _ z => z⟩
   have L := l0.trans l5
   simp at eds
   subst eds
   refine q _ H5 (ι5 ++ [p]) ⟨L.toLw.trans w5, fun a o ha na => ?_⟩ (h5.add np5 ⟨ys, hpl, Prd.monoW w5 pd5⟩) (Za8.mpr ⟨p, rfl, by rw [← h5.len]; simp⟩)
   obtain ⟨q1, q2⟩ := L.frame a o ha na
   refine ⟨q1, ?_⟩
   have : a ≠ p := fun z => by
    subst z
    have := (l0.frame a o ha na).1
    rw [hp] at this; cases this
   simp [q2, this]
  ·cases e5
theorem Zw9 {elt iter : Expr} {px py pt pos : Pos} {kt : Nat} {ifs : List Expr} {it : ItF} {tt : TF} {te : EF} (hc : X.calm = true) (B : BlkOk2 X scope x y0 cn ci) (hi : PIf X (.Tuple [.Name x px, .Name y0 py] kt pt) iter it)
  (ht : ∀ cl C s H fp pn, Zz0 (blk X scope (x :: y0 :: cn) cl C s H fp pn) ifs tt) (he : ∀ cl C s H fp pn, PEf (blk X scope (x :: y0 :: cn) cl C s H fp pn) elt te)
  (hs : ∀ x, foldedSetIterable iter X.env x = pure x := by rintro _; rfl) : PEf X (.ListComp elt [⟨.Tuple [.Name x px, .Name y0 py] kt pt, iter, ifs, 0⟩] scope pos) (Zxw it ci tt te) :=
 PEi (Zyx (tt := rdT X.K tt) (te := rdE X.K te) hc B hi ht he hs) fun _ _ _ h => Zxy h
end
open PySem.W (KasT kas_rev kas_asc kas_desc kas_tail3 kas_descPart kas_count kas_place kas_bin kas_sort)
section
variable {n : Nat}
variable (h0 : 0 < n)
include h0
end
end DL
namespace DL
open PySem PySem.Spec PyProof.Rows L2 PySem.W
noncomputable def Zft (s : Stmt) : List Stmt := match s with
 | .ClassDef _ _ _ body _ _ _ _ _ _ _ => body
 | _ => []
end DL
namespace DL
open PySem PySem.Spec PyProof.Rows L2
section
variable {prog : Program} {w : World} {A : Around} {E : Value -> Shared -> Prop} {s : Shared}
open AutoSeq1 (wpAny_loadPart') in
theorem Zxs (t : Addr) (its : Array Value) (n : Nat) (dct : Option Addr) (sl : Array (Option Value)) (tk0 : Tok) :
  Meets (Builtin.«enumerate.__new__» ⟨[.type "enumerate", .ref t], [("start", .int 1 tk0)]⟩) (fun _ R s => s.heap.get? t = some { cls := .type "list", dict := dct, data := .seq its n, slots := sl } ∧
   R (.ok (.ret (.ref (s.heap.push { cls := .type "list_iterator", data := .fields #[.ref t, .int 0 0] }).objs.size)))
    { s with heap := (s.heap.push { cls := .type "list_iterator", data := .fields #[.ref t, .int 0 0] }).push { cls := .type "enumerate", data := .fields #[.none, .bool false, .ref s.heap.objs.size, rawInt 1, .none, .none] } }) :=
 .of_wp fun prog w A R s h => by
  obtain ⟨hp, g, d, tk, os⟩ := s; obtain ⟨hl, h⟩ := h
  have hsub := sub_enumerate
  have hL : Heap.IsList (Shared.heap ⟨hp, g, d, tk, os⟩) t its := ⟨_, hl, rfl, n, rfl⟩
  wp_walk using wpAny_loadPart' hl
  refine wpAny_stack_any fun st => wpAny_pure ?_
  split
  ·rename_i k _ _ _ _ _
   cases (k == Value.type "enumerate") <;> (wp_walk using wpAny_loadPart' hl, wpAny_pyIter_list hL; exact ⟨_, rfl, h⟩)
  ·wp_walk using wpAny_loadPart' hl, wpAny_pyIter_list hL
   exact ⟨_, rfl, h⟩
end
end DL
namespace DL
open PySem PySem.Spec PyProof.Rows L2 PySem.W
noncomputable def Zvz (f : Str) (v : D) : List (Str × D) -> List (Str × D)
 | [] => [(f, v)]
 | (g, x) :: r => if g = f then (g, v) :: r else (g, x) :: Zvz f v r
section
variable {K : Frag} {H : Hp} {ι : List Addr}
theorem Zqf {f : Str} {d : D} {v : V} (r : Rep K H ι d v) : ∀ {fs : List (Str × D)} {xs : List (Str × V)}, Paired (Zzr K H ι) fs xs -> Paired (Zzr K H ι) (Zvz f d fs) (Zi6 f v xs)
 | _, _, .nil => .cons ⟨rfl, r⟩ .nil
 | _, _, .cons (a := (g, x)) (b := (g', y)) ⟨h1, h2⟩ t => by
  have h1 : g = g' := h1
  subst h1
  unfold Zvz Zi6
  by_cases e : g = f
  ·rw [if_pos e, if_pos e]; exact .cons ⟨rfl, r⟩ t
  ·rw [if_neg e, if_neg e]; exact .cons ⟨rfl, h2⟩ (Zqf r t)
theorem Zkj {f : Str} : ∀ {fs : List (Str × D)} {xs : List (Str × V)}, Paired (Zzr K H ι) fs xs -> (fs.lookup f = none -> xs.lookup f = none) ∧ ∀ d, fs.lookup f = some d -> ∃ v, xs.lookup f = some v ∧ Rep K H ι d v
 | _, _, .nil => ⟨fun _ => rfl, fun d e => (by cases e)⟩
 | _, _, .cons (a := (g, x)) (b := (g', y)) ⟨h1, h2⟩ t => by
  have h1 : g = g' := h1
  subst h1
  rw [List.lookup_cons, List.lookup_cons]
  cases f == g with
  | true => exact ⟨fun e => (by cases e), fun d e => (by cases e; exact ⟨y, rfl, h2⟩)⟩
  | false => exact Zkj t
end
structure Kl (K : Frag) (cn : Str) (fl : List Str) : Prop where
 ex : ∃ C, nsIn K mainGlobals cn = some (some (.ref C)) ∧ Cls K C ∧ ∀ f ∈ fl, Zhv K C f
noncomputable def Zka (cn : Str) (fo : EF) (f : Str) : EF := fun σ H => (fo σ H).bind fun o => match o.1 with
 | .ref n => match o.2[n]? with
  | some (.obj c fs) => if c = cn then (fs.lookup f).map fun d => (d, o.2) else none
  | _ => none
 | _ => none
noncomputable def Znf (cn : Str) (fo fv : EF) (f : Str) : SF := fun σ H => (fv σ H).bind fun y => (fo σ y.2).bind fun o => match o.1 with
 | .ref n => match o.2[n]? with
  | some (.obj c fs) => if c = cn ∧ fs.length < 1000 then some (.nx, σ, o.2.set n (.obj c (Zvz f y.1 fs))) else none
  | _ => none
 | _ => none
section
variable {X : Cx} {o e value : Expr} {es : List Expr} {cn f : Str} {fl : List Str} {fo fv : EF} {pos pos' : Pos}
theorem Kl.at {K : Frag} (T : Kl K cn fl) {C : Addr} (h : nsIn K mainGlobals cn = some (some (.ref C))) : Cls K C ∧ ∀ f ∈ fl, Zhv K C f := by
 obtain ⟨C', h1, h2, h3⟩ := T.ex
 rw [h] at h1
 cases h1
 exact ⟨h2, h3⟩
theorem Zcy (T : Kl X.K cn fl) (hf : f ∈ fl) (ho : PEf X o fo) (hb : attributeBase o f X.env (eval o X.env) = eval o X.env := by rfl) : PEf X (.Attribute o f pos) (Zka cn fo f) := by
 refine PEi (Zzi ho hb) fun σ H Q zz => ?_
 obtain ⟨ι, σd, Hd, d, Hd', s, hr, e, q⟩ := zz
 obtain ⟨⟨x, H1⟩, e1, e0⟩ := Zo e
 clear e
 have e := e0
 clear e0
 refine ⟨ι, σd, Hd, x, H1, s, hr, e1, fun v H' ι' l h r => ?_⟩
 dsimp only at e
 split at e
 ·rename_i n
  split at e
  ·rename_i c fs en
   split at e
   ·rename_i hc
    subst hc
    obtain ⟨d', el, e⟩ := Zm e
    cases e
    obtain ⟨a, rfl, ha⟩ := Za8.mp r
    obtain ⟨a', ha', C, dx, xs, hns, hH, hp⟩ := h.at en
    rw [ha] at ha'
    cases ha'
    obtain ⟨v', l', r'⟩ := (Zkj hp).2 _ el
    exact ⟨a, C, dx, xs, v', rfl, hH, (T.at hns).1, (T.at hns).2 f hf, l', q v' H' ι' l h r'⟩
   ·cases e
  ·cases e
 ·cases e
theorem Zk5 (T : Kl X.K cn fl) (hf : f ∈ fl) (ho : PEf X o fo) (hv : PEf X value fv) (hs : swapsWith value (some (.Attribute o f pos')) pos.line X.env = pure false := by rfl) : PSf X (.Assign [.Attribute o f pos'] value pos) (Znf cn fo fv f) := by
 refine PSi (Zz7 ho hv hs) fun E σ H zz => ?_
 obtain ⟨ι, σd, Hd, fl', σd', Hd', s, hr, e, q⟩ := zz
 obtain ⟨⟨y, H1⟩, e1, e0⟩ := Zo e
 clear e
 obtain ⟨⟨x, H2⟩, e2, e⟩ := Zo e0
 clear e0
 refine ⟨ι, σd, Hd, y, H1, s, hr, e1, fun vy H' ι' l h ry => ⟨ι', σd, H1, x, H2, s.mono l, h, e2, fun vx H'' ι'' l2 h2 rx => ?_⟩⟩
 dsimp only at e
 split at e
 ·rename_i n
  split at e
  ·rename_i c fs en
   split at e
   ·rename_i hc
    obtain ⟨rfl, hlen⟩ := hc
    cases e
    obtain ⟨a, rfl, ha⟩ := Za8.mp rx
    obtain ⟨a', ha', C, dx, xs, hns, hH, hp⟩ := h2.at en
    rw [ha] at ha'
    cases ha'
    have ll : Le X.K H'' ι'' (upd H'' a (.ins C dx (Zi6 f vy xs))) ι'' := Le.upd (List.mem_of_getElem? ha) hH True.intro _
    have hp2 : Paired (Zzr X.K (upd H'' a (.ins C dx (Zi6 f vy xs))) ι'') (Zvz f y fs) (Zi6 f vy xs) := Prd.imp (Zqf (ry.mono l2) hp) fun p x _ z => ⟨z.1, z.2.mono ll⟩
    exact ⟨a, C, dx, xs, rfl, hH, (T.at hns).1, (T.at hns).2 f hf, by rw [← Prd.len hp]; exact hlen, q _ _ ι'' ((l.trans l2).trans ll) (h2.upd ha hH True.intro ⟨C, dx, _, hns, Zbi, hp2⟩) (s.mono ((l.trans l2).trans ll))⟩
   ·cases e
  ·cases e
 ·cases e
end
structure FnM (P : Program) (w : World) (K : Frag) (mg : Str -> Option Value) (base : Heap) (k : Nat) (cn m : Str) (ps : List Str) (F : FF) : Prop where
 ex : ∃ C f fd, nsIn K mainGlobals cn = some (some (.ref C)) ∧ Cls K C ∧ Meth K C m f ∧ FnOk P w K mg base CX0 k f fd ps (spF K ps.length F) ∧ Zhf K fd ps []
structure FnI (P : Program) (w : World) (K : Frag) (mg : Str -> Option Value) (base : Heap) (k : Nat) (cn : Str) (ps : List Str) (F : FF) : Prop where
 ex : ∃ C f fd, mg cn = some (.ref C) ∧ nsIn K mainGlobals cn = some (some (.ref C)) ∧ Mk K C f ∧ FnOk P w K mg base CX0 k f fd ps (spF K ps.length F) ∧ Zhf K fd ps []
noncomputable def Zbl (cn m : Str) (n : Nat) (F : FF) (fo : EF) (fa : AF) : EF := fun σ H => (fo σ H).bind fun o => match o.1 with
 | .ref k => match o.2[k]? with
  | some (.obj c fs) => if c = cn ∧ fs.lookup m = none then (fa σ o.2).bind fun p => if p.1.length + 1 = n then F (.ref k :: p.1) p.2 else none else none
  | _ => none
 | _ => none
noncomputable def eMk (cn : Str) (n : Nat) (F : FF) (fa : AF) : EF := fun σ H => (fa σ H).bind fun p => if p.1.length + 1 = n then (F (.ref p.2.length :: p.1) (p.2 ++ [.obj cn []])).bind fun r => match r.1 with
 | .non => some (.ref p.2.length, r.2)
 | _ => none
 else none
section
variable {X : Cx} {o e : Expr} {es : List Expr} {cn m x : Str} {k n : Nat} {ps : List Str} {F : FF} {fo : EF} {fa : AF} {pos apos p : Pos}
theorem Zqg {C f : Addr} {σ : L2.St} {H : Hp} {Q : VK} (hns : nsIn X.K mainGlobals cn = some (some (.ref C))) (z : rdE X.K (Zbl cn m ps.length F fo fa) σ H Q) : Zv4 C m (spF X.K ps.length F) [] E0 (rdE X.K fo) (rdA X.K fa) σ H Q := by
 obtain ⟨ι, σd, Hd, d, Hd', s, hr, e, q⟩ := z
 obtain ⟨⟨x, H1⟩, e1, e0⟩ := Zo e
 clear e
 have e := e0
 clear e0
 refine ⟨ι, σd, Hd, x, H1, s, hr, e1, fun v H' ι' l h r => ?_⟩
 dsimp only at e
 split at e
 ·rename_i n
  split at e
  ·rename_i c fs en
   split at e
   ·rename_i hc
    obtain ⟨rfl, hlk⟩ := hc
    obtain ⟨⟨ds, H2⟩, e2, e0⟩ := Zo e
    clear e
    have e := e0
    clear e0
    dsimp only at e
    split at e
    ·rename_i hl
     obtain ⟨a, rfl, ha⟩ := Za8.mp r
     obtain ⟨a', ha', C', dx, xs, hns', hH, hp⟩ := h.at en
     rw [ha] at ha'
     cases ha'
     rw [hns] at hns'
     cases hns'
     refine ⟨a, dx, xs, rfl, hH, (Zkj hp).1 hlk, ι', σd, H1, ds, H2, s.mono l, h, e2, fun vs H'' ι'' l2 h2 P => ?_⟩
     exact ⟨ι'', .ref n :: ds, H2, d, Hd', hl, h2, .cons (r.mono l2) (by rw [List.append_nil]; exact P), e, fun v2 H3 ι3 l3 h3 r3 => q v2 H3 ι3 ((l.trans l2).trans l3) h3 r3⟩
    ·cases e
   ·cases e
  ·cases e
 ·cases e
theorem Zg3 {pl : Sem Bool} (G : FnM X.prog X.w X.K X.mg X.base k cn m ps F) (hr : Room k X.A) (ho : PEf X o fo) (ha : PAf X (e :: es) fa)
  (hst : starEach (e :: es) X.env = (false, eval e X.env) :: starEach es X.env := by exact Zco rfl) (hpl : (backTo pos (starEach es X.env)).any (·.1) = false := by exact Zdv rfl)
  (ht : eval (.Call (.Attribute o m apos) (e :: es) [] pos) X.env = (do
   let ov ← eval o X.env
   standAt apos.atName
   let (f, first) ← holding [ov] (getMethod ov m pl)
   callWith pos f first (backTo pos (starEach (e :: es) X.env)) (backToKw pos (keywordEach [] X.env))) := by rfl) (hn : ps.length = n := by rfl) : PEf X (.Call (.Attribute o m apos) (e :: es) [] pos) (Zbl cn m n F fo fa) := by
 subst hn
 obtain ⟨C, f, fd, hns, hC, hM, hF, hb⟩ := G.ex
 exact PEi (Zwx (pl := pl) (E := E0) ho hC hM hF hr hb .nil Ztv ha hst hpl ht) fun σ H Q z => Zqg (f := f) hns z
theorem Zaw {pl : Sem Bool} (G : FnM X.prog X.w X.K X.mg X.base k cn m ps F) (hr : Room k X.A) (ho : PEf X o fo)
  (ht : eval (.Call (.Attribute o m apos) [] [] pos) X.env = (do
   let ov ← eval o X.env
   standAt apos.atName
   let (f, first) ← holding [ov] (getMethod ov m pl)
   callWith pos f first (backTo pos (starEach [] X.env)) (backToKw pos (keywordEach [] X.env))) := by rfl) (hn : ps.length = n := by rfl) : PEf X (.Call (.Attribute o m apos) [] [] pos) (Zbl cn m n F fo Zaj) := by
 subst hn
 obtain ⟨C, f, fd, hns, hC, hM, hF, hb⟩ := G.ex
 refine PEi (Zud (pl := pl) (E := E0) ho hC hM hF hr hb .nil Ztv ht) fun σ H Q z => ?_
 obtain ⟨ι, σd, Hd, d, Hd', s, hr, e, q⟩ := Zqg (f := f) hns z
 refine ⟨ι, σd, Hd, d, Hd', s, hr, e, fun v H' ι' l h r => ?_⟩
 obtain ⟨a, dx, fs, h1, h2, h3, ι2, σd2, Hd2, ds, Hd3, s2, hr2, e2, q2⟩ := q v H' ι' l h r
 cases e2
 exact ⟨a, dx, fs, h1, h2, h3, q2 [] H' ι2 Le.refl hr2 .nil⟩
theorem Zws {C : Addr} {σ : L2.St} {H : Hp} {Q : VK} (hns : nsIn X.K mainGlobals cn = some (some (.ref C))) (z : rdE X.K (eMk cn ps.length F fa) σ H Q) : Yaa C (spF X.K ps.length F) [] E0 (rdA X.K fa) σ H Q := by
 obtain ⟨ι, σd, Hd, d, Hd', s, hr, e, q⟩ := z
 obtain ⟨⟨ds, H1⟩, e1, e0⟩ := Zo e
 clear e
 have e := e0
 clear e0
 refine ⟨ι, σd, Hd, ds, H1, s, hr, e1, fun vs H' ι' l h P x dx z1 z2 z3 => ?_⟩
 dsimp only at e
 split at e
 ·rename_i hl
  obtain ⟨⟨r, H2⟩, e2, e0⟩ := Zo e
  clear e
  have e := e0
  clear e0
  dsimp only at e
  split at e
  ·cases e
   have zx : upd H' dx (.own x) x = none := by rw [Za0 (Ne.symm z3)]; exact z1
   have L : Le X.K H' ι' (upd (upd H' dx (.own x)) x (.ins C dx [])) (ι' ++ [x]) := (Le.fresh z2 _).trans (Le.fresh1 zx _)
   have hh : HRep X.K (upd (upd H' dx (.own x)) x (.ins C dx [])) (ι' ++ [x]) (H1 ++ [.obj cn []]) := (h.tup z2 _).new zx ⟨C, dx, [], hns, Zbi, .nil⟩
   have rx : Rep X.K (upd (upd H' dx (.own x)) x (.ins C dx [])) (ι' ++ [x]) (.ref H1.length) (.ref x) := Za8.mpr ⟨x, rfl, by rw [← h.len]; simp⟩
   refine ⟨ι' ++ [x], .ref H1.length :: ds, H1 ++ [.obj cn []], .non, _, hl, hh, .cons rx (by rw [List.append_nil]; exact Prd.imp P fun p x _ z => z.mono L), e2, fun v H3 ι3 l3 h3 r3 => ⟨by simpa using r3, q _ H3 ι3 ((l.trans L).trans l3) h3 (rx.mono l3)⟩⟩
  ·cases e
 ·cases e
theorem Zh3 (G : FnI X.prog X.w X.K X.mg X.base k cn ps F) (hr : Room (k + 1) X.A) (hg : Gl X cn) (ha : PAf X (e :: es) fa) (hdb : (cn == ("__debug__" : Str)) = false := by decide) (he : starEach (e :: es) X.env = (false, eval e X.env) :: starEach es X.env := by exact Zco rfl) (hpl : (backTo pos (starEach es X.env)).any (·.1) = false := by exact Zdv rfl) (hn : ps.length = n := by rfl) :
  PEf X (.Call (.Name cn p) (e :: es) [] pos) (eMk cn n F fa) := by
 subst hn
 obtain ⟨C, f, fd, hm, hns, hM, hF, hb⟩ := G.ex
 exact PEi (Zvw (E := E0) hM hF hr hg hm hb .nil Ztv ha hdb he hpl) fun σ H Q z => Zws hns z
end
structure Tm (K : Frag) (cn m qual : Str) (st : Stmt) : Prop where
 ex : ∃ C f fd, nsIn K mainGlobals cn = some (some (.ref C)) ∧ Cls K C ∧ Meth K C m f ∧ Fun K m qual st f fd
structure Ti (K : Frag) (mg : Str -> Option Value) (cn qual : Str) (st : Stmt) : Prop where
 ex : ∃ C f fd, mg cn = some (.ref C) ∧ nsIn K mainGlobals cn = some (some (.ref C)) ∧ Mk K C f ∧ Fun K "__init__" qual st f fd
section
variable {K : Frag} {hp : Heap} {mg : Str -> Option Value} {cn m qual : Str} {st : Stmt} {C f : Addr} {oc : Value} {od an : Option Addr} {osl : Array (Option Value)} {kV doc pm cdv ct : Value}
theorem Zm7 (a : nsIn K mainGlobals cn = some (some (.ref C))) (b : plainGet K C Str.empty = true) (c : hasDictIn K C = true) (d : plainOver K C = true) (e : findIn K (.ref C) "__setattr__" = some (some (.builtin "object.__setattr__"))) (g : findIn K (.ref C) m = some (some (.ref f))) (h : isFn K (.ref f) = true) (i : keepIn K (.ref f) = true)
  (j : K.lookup f = some ⟨oc, od, .func (fnOf m qual (Zen st) (Zcn st) (Zak st) .none kV doc pm an cdv ct), osl⟩) (l : codeIn K cdv qual = true) : Tm K cn m qual st :=
 ⟨C, f, _, a, ⟨b, c, d, e⟩, ⟨g, h, i⟩, Zsp j l i⟩
theorem ti_mk (X : K.In hp) (G : hp.Ns mainGlobals mg) (a : nsIn K mainGlobals cn = some (some (.ref C))) (b : makesIn K C = true) (c : findIn K (.ref C) "__init__" = some (some (.ref f))) (d : isFn K (.ref f) = true) (e : keepIn K (.ref C) = true) (i : keepIn K (.ref f) = true)
  (j : K.lookup f = some ⟨oc, od, .func (fnOf "__init__" qual (Zen st) (Zcn st) (Zak st) .none kV doc pm an cdv ct), osl⟩) (l : codeIn K cdv qual = true) : Ti K mg cn qual st :=
 ⟨C, f, _, mg_of X G a, a, ⟨b, c, d, e⟩, Zsp j l i⟩
theorem kl_mk (a : nsIn K mainGlobals cn = some (some (.ref C))) (b : plainGet K C Str.empty = true) (c : hasDictIn K C = true) (d : plainOver K C = true) (e : findIn K (.ref C) "__setattr__" = some (some (.builtin "object.__setattr__"))) : Kl K cn [] :=
 ⟨C, a, ⟨b, c, d, e⟩, nofun⟩
theorem Zu8 {fl : List Str} {x : Str} (T : Kl K cn fl) (a : nsIn K mainGlobals cn = some (some (.ref C))) (g : findIn K (.ref C) x = some none) : Kl K cn (x :: fl) := by
 obtain ⟨h1, h2⟩ := T.at a
 refine ⟨C, a, h1, fun y hy => ?_⟩
 rcases List.mem_cons.mp hy with rfl | hy
 ·exact g
 ·exact h2 y hy
end
section
variable {P : Program} {w : World} {K : Frag} {mg : Str -> Option Value} {base : Heap} {cn m qual : Str} {st : Stmt} {N ps : List Str} {k : Nat} {b : SF}
theorem Zn0 (T : Tm K cn m qual st) (S : FnScope N ps (Zak st))
  (hbd : ∀ (kV doc pm : Value) (an : Option Addr) (cdv ct : Value) (us : List Value), us.length = ps.length -> bindArgs (fnOf m qual (Zen st) (Zcn st) (Zak st) .none kV doc pm an cdv ct) ⟨us, []⟩ = pure (ps.zip us))
  (hb : ∀ (f : Addr) (cdv : Value) (A : Around) (outer : List Env) (s : Shared) (H : Hp) (E : XK), Room k (A.deeper (envOfC qual (Zak st) s.heap.objs.size f cdv)) →
   Zpy (Zpm CX0 P w K mg base N qual (Zak st) f cdv A outer s H E).nox (Zcn st) b) : FnM P w K mg base (k + 1) cn m ps (Zbq ps.length N.length b) := by
 obtain ⟨C, f, fd, h1, h2, h3, F⟩ := T.ex
 exact ⟨C, f, fd, h1, h2, h3, fn_f F S fun cdv A outer s H E hr => hb f cdv A outer s H E hr, F.binds hbd⟩
theorem fi_mk (T : Ti K mg cn qual st) (S : FnScope N ps (Zak st))
  (hbd : ∀ (kV doc pm : Value) (an : Option Addr) (cdv ct : Value) (us : List Value), us.length = ps.length → bindArgs (fnOf "__init__" qual (Zen st) (Zcn st) (Zak st) .none kV doc pm an cdv ct) ⟨us, []⟩ = pure (ps.zip us))
  (hb : ∀ (f : Addr) (cdv : Value) (A : Around) (outer : List Env) (s : Shared) (H : Hp) (E : XK), Room k (A.deeper (envOfC qual (Zak st) s.heap.objs.size f cdv)) →
   Zpy (Zpm CX0 P w K mg base N qual (Zak st) f cdv A outer s H E).nox (Zcn st) b) : FnI P w K mg base (k + 1) cn ps (Zbq ps.length N.length b) := by
 obtain ⟨C, f, fd, h0, h1, h3, F⟩ := T.ex
 exact ⟨C, f, fd, h0, h1, h3, fn_f F S fun cdv A outer s H E hr => hb f cdv A outer s H E hr, F.binds hbd⟩
end
theorem Zkp {P : Program} {w : World} {K : Frag} {mg : Str -> Option Value} {base : Heap} {k : Nat} {x y : Str} {ps : List Str} {F : FF} (G : Fn P w K mg base k x ps F) (h : mg y = mg x) : Fn P w K mg base k y ps F := by
 obtain ⟨f, fd, h1, h2, h3, h4, h5⟩ := G.ex
 exact ⟨f, fd, h1, h2, h3, by rw [h]; exact h4, h5⟩
theorem al_mk {K : Frag} {hp : Heap} {mg : Str -> Option Value} {x y : Str} {v : Value} (X : K.In hp) (G : hp.Ns mainGlobals mg) (a : nsIn K mainGlobals y = some (some v)) (b : nsIn K mainGlobals x = some (some v)) : mg y = mg x := by
 rw [mg_of X G a, mg_of X G b]
end DL
namespace DL
open PySem PySem.Spec PyProof.Rows L2
theorem Zoe {X : Cx} {sts : List Stmt} : Zpy X sts Zwr := by
 rintro pins s σ H E I ⟨ι, σd, Hd, fl, σd', Hd', _, _, e, _⟩
 cases e
end DL
namespace DL
open PySem L2
theorem Zfc {n : Nat} (h : n ≤ 1000000) : n ≤ sizeLine := by rw [PySem.sizeLine_eq]; omega
theorem Zes {xs : List D} {i : Int} {d : D} (h0 : 0 ≤ i) (h : xs[i.toNat]? = some d) : atI xs i = some d := by
 have : i = (i.toNat : Int) := by omega
 rw [this]; exact Zaz h
structure Ext (n : Nat) (H H' : HD) : Prop where
 feed : ∃ a b, H'[n]? = some (.lst [.int a, .int b])
 old : ∀ m o, m ≠ n -> H[m]? = some o -> H'[m]? = some o
 len : H.length ≤ H'.length
theorem Ext.trans {n : Nat} {H H1 H2 : HD} (a : Ext n H H1) (b : Ext n H1 H2) : Ext n H H2 := ⟨b.feed, fun m o h q => b.old m o h (a.old m o h q), Nat.le_trans a.len b.len⟩
theorem Ext.refl {n : Nat} {H : HD} (h : ∃ a b, H[n]? = some (.lst [.int a, .int b])) : Ext n H H := ⟨h, fun _ _ _ q => q, Nat.le_refl _⟩
theorem Ext.app {n : Nat} {H : HD} (h : ∃ a b, H[n]? = some (.lst [.int a, .int b])) (o : DO) : Ext n H (H ++ [o]) := by
 obtain ⟨a, b, e⟩ := h
 refine ⟨⟨a, b, ?_⟩, fun m u _ q => ?_, by simp⟩
 ·rw [List.getElem?_append_left (List.getElem?_eq_some_iff.mp e).1]; exact e
 ·rw [List.getElem?_append_left (List.getElem?_eq_some_iff.mp q).1]; exact q
end DL
namespace LH
open PySem L2 DL
noncomputable def Zdq : SF :=
 (Zan (sIf (tOf (eOp gtD (eOp ixD (Zae 0) (eC (.int 0))) (eC (.int 0)))) (Zan (Zbd 2 (eOp Zgn (eOp ixD (Zae 0) (eC (.int 0))) (Zae 1)))
 (Zan (Zla (eOp Zgy (eOp ixD (Zae 0) (eC (.int 0))) (Zae 1)) (gSb (Zae 0) (eC (.int 0)) Zjw))
 (Zan (Zb5 (Zae 2))
 Zas))) Zas)
 (Zan (Zla (eOp Zgn (eOp Zc1 (eOp Ziz (eOp ixD (Zae 0) (eC (.int 1))) (eC (.int 69621))) (eC (.int 12345))) (eC (.int 2147483647))) (gSb (Zae 0) (eC (.int 1)) Zjw))
 (Zan (Zb5 (eOp Zgn (eOp Zgy (eOp ixD (Zae 0) (eC (.int 1))) (eC (.int 8191))) (Zae 1)))
 Zas)))
noncomputable def Zai : FF := Zbq 2 3 Zdq
theorem Zem {n : Nat} {k : Int} {H : HD} (hf : ∃ a b, H[n]? = some (.lst [.int a, .int b])) (h0 : 0 < k) (h1 : k < 1073741824) :
  ∃ r H', 0 ≤ r ∧ r < k ∧ Zai [.ref n, .int k] H = some (.int r, H') ∧ Ext n H H' ∧ H'.length = H.length := by
 obtain ⟨a, b, e⟩ := hf
 have hl : n < H.length := (List.getElem?_eq_some_iff.mp e).1
 have i0 : ∀ x y : D, atI [x, y] 0 = some x := fun x y => Zaz (j := 0) rfl
 have i1 : ∀ x y : D, atI [x, y] 1 = some y := fun x y => Zaz (j := 1) rfl
 have j0 : ixN 2 0 = some 0 := rfl
 have j1 : ixN 2 1 = some 1 := rfl
 by_cases ha : 0 < a
 ·refine ⟨a % k, H.set n (.lst [.int (a / k), .int b]), Int.emod_nonneg _ (by omega), Int.emod_lt_of_pos _ h0, ?_, ⟨⟨a / k, b, by simp [hl]⟩, fun m o hm q => ?_, by simp⟩, by simp⟩
  ·have c1 : Zpn a k := h0
   have c2 : Zxe a k := ⟨h0, h1⟩
   simp [Zai, Zdq, Zbq, Zan, sIf, tOf, eOp, ixD, Zae, eC, Zf7, e, gtD, iiD, CT, blD, Zbd, Zgn, Zla, Zgy, gSb, Zjw, Zb5, i0, ha, c1, c2, j0]
  ·rw [List.getElem?_set_ne (Ne.symm hm)]; exact q
 ·refine ⟨((b * 69621 + 12345) % 2147483647) / 8191 % k, H.set n (.lst [.int a, .int ((b * 69621 + 12345) % 2147483647)]), Int.emod_nonneg _ (by omega), Int.emod_lt_of_pos _ h0, ?_, ⟨⟨a, (b * 69621 + 12345) % 2147483647, by simp [hl]⟩, fun m o hm q => ?_, by simp⟩, by simp⟩
  ·have hs : ∀ o : DO, (H.set n o)[n]? = some o := fun o => by simp [hl]
   have c1 : ∀ z, Zpn z k := fun _ => h0
   have c2 : ∀ z, Zxe z 8191 := fun _ => ⟨by decide, by decide⟩
   have c3 : ∀ z, Zpn z 2147483647 := fun _ => by show (0 : Int) < 2147483647; decide
   have c4 : ∀ z, Zr5 z 69621 := fun _ => .inr ⟨by decide, by decide⟩
   simp [Zai, Zdq, Zbq, Zan, sIf, tOf, eOp, ixD, Zae, eC, Zf7, e, gtD, iiD, CT, blD, Zbd, Zgn, Zla, Zgy, gSb, Zjw, Zb5, i0, i1, ha, c1, c2, c3, c4, j1, Zas, Ziz, Zc1, hs]
  ·rw [List.getElem?_set_ne (Ne.symm hm)]; exact q
noncomputable def Zdc : SF :=
 (Zan (Zb5 (eOp ixD (Zae 1) (Zal 2 Zai (Zab (Zae 0) (Zab (eCB Zd8 (Zab (Zae 1) Zaj)) Zaj)))))
 Zas)
noncomputable def Zau : FF := Zbq 2 2 Zdc
noncomputable def Zxc (n : Nat) (s : D) (xs : List D) (H : HD) : Prop := s = .tup xs ∨ ∃ m, s = .ref m ∧ m ≠ n ∧ H[m]? = some (.lst xs)
theorem Zxc.seq {n : Nat} {s : D} {xs : List D} {H : HD} (h : Zxc n s xs H) : Zf7 s H = some xs := by
 rcases h with rfl | ⟨m, rfl, _, e⟩
 ·rfl
 ·simp [Zf7, e]
theorem Zxc.ext {n : Nat} {s : D} {xs : List D} {H H' : HD} (h : Zxc n s xs H) (e : Ext n H H') : Zxc n s xs H' := by
 rcases h with rfl | ⟨m, rfl, hm, q⟩
 ·exact .inl rfl
 ·exact .inr ⟨m, rfl, hm, e.old m _ hm q⟩
theorem Zyp {n : Nat} {s : D} {xs : List D} {H : HD} (h : Zxc n s xs H) : Zd8 [s] H = some (.int xs.length, H) := by
 rcases h with rfl | ⟨m, rfl, _, e⟩
 ·simp [Zd8, Zf7]
 ·simp [Zd8, Zf7, e]
theorem Zis {n : Nat} {s : D} {xs : List D} {H : HD} (hf : ∃ a b, H[n]? = some (.lst [.int a, .int b])) (hs : Zxc n s xs H) (h0 : 0 < xs.length) (h1 : xs.length < 1073741824) :
  ∃ x H', x ∈ xs ∧ Zau [.ref n, s] H = some (x, H') ∧ Ext n H H' ∧ H'.length = H.length := by
 obtain ⟨r, H', r0, r1, e, x, hl⟩ := Zem (k := xs.length) hf (by omega) (by omega)
 have hr : r.toNat < xs.length := by omega
 refine ⟨xs[r.toNat], H', List.getElem_mem hr, ?_, x, hl⟩
 have ha : atI xs r = some xs[r.toNat] := Zes r0 (by simp [hr])
 have hq := (hs.ext x).seq
 simp [Zau, Zdc, Zbq, Zan, Zb5, eOp, ixD, Zae, Zal, Zab, Zaj, eCB, Zyp hs, e, hq, ha]
noncomputable def Zer : SF :=
 (Zan (Zbd 2 (Zdn (Zab (eC (.int 1)) (Zab (eC (.int 2)) (Zab (eC (.int 2)) (Zab (eC (.int 3)) (Zab (eC (.int 3)) (Zab (eC (.int 4)) (Zab (eC (.int 2)) (Zab (eC (.int 3)) (Zab (eC (.int 1)) (Zab (eOp Zc1 (eC (.int 5)) (Zal 2 Zai (Zab (Zae 0) (Zab (eC (.int 4)) Zaj)))) (Zab (eC (.int 2)) (Zab (eOp Ziz (eC (.int 2)) (eCB Zxr (Zab (eOp gtD (Zal 2 Zai (Zab (Zae 0) (Zab (eC (.int 6)) Zaj))) (eC (.int 0))) Zaj))) Zaj))))))))))))))
 (Zan (Zbd 3 (eCB Zsx (Zab (Zae 1) (Zab (Zal 2 Zau (Zab (Zae 0) (Zab (Zae 2) Zaj))) Zaj))))
 (Zan (Zbd 4 (Zys (Zab (eC (.int 1)) (Zab (eOp Zc1 (Zae 1) (eC (.int 1))) Zaj))))
 (Zan (Zbd 5 (Zdn Zaj))
 (Zan (Zhi (iR1 (Zab (Zae 3) Zaj)) (gNm 6) (Zan (Zch (eLM Zcz (Zae 5) (Zab (eLM Zxt (Zae 4) (Zab (Zal 2 Zai (Zab (Zae 0) (Zab (eCB Zd8 (Zab (Zae 4) Zaj)) Zaj))) Zaj)) Zaj)))
 Zas))
 (Zan (Zb5 (eCB Zdg (Zab (eLC (iSq (eCB Zhd (Zab (Zae 5) Zaj))) [0] Zgm (eOp ixD (Zdn (Zab (Zae 0) (Zab (eUn Zlb (Zae 0)) Zaj))) (Zal 2 Zai (Zab (Zae 1) (Zab (eC (.int 2)) Zaj))))) Zaj)))
 Zas))))))
noncomputable def Zdd : FF := Zbq 2 7 Zer
noncomputable abbrev Zon : SF := (Zan (Zch (eLM Zcz (Zae 5) (Zab (eLM Zxt (Zae 4) (Zab (Zal 2 Zai (Zab (Zae 0) (Zab (eCB Zd8 (Zab (Zae 4) Zaj)) Zaj))) Zaj)) Zaj))) Zas)
theorem Zp8 {i : Int} {n : Nat} (h0 : 0 ≤ i) (h1 : i < n) : seqIndex? i n = some i.toNat := by
 unfold seqIndex?
 have h2 : ¬ i < 0 := by omega
 simp [h2, h0, h1]
structure ExtS (S : List Nat) (H H' : HD) : Prop where
 old : ∀ m o, m ∉ S -> H[m]? = some o -> H'[m]? = some o
 len : H.length ≤ H'.length
theorem ExtS.trans {S : List Nat} {H H1 H2 : HD} (a : ExtS S H H1) (b : ExtS S H1 H2) : ExtS S H H2 := ⟨fun m o h q => b.old m o h (a.old m o h q), Nat.le_trans a.len b.len⟩
theorem ExtS.refl {S : List Nat} {H : HD} : ExtS S H H := ⟨fun _ _ _ q => q, Nat.le_refl _⟩
theorem _root_.DL.Ext.toS {n : Nat} {S : List Nat} {H H' : HD} (e : Ext n H H') (h : n ∈ S) : ExtS S H H' := ⟨fun m o hm q => e.old m o (fun z => hm (z ▸ h)) q, e.len⟩
theorem ExtS.set {S : List Nat} {H : HD} {p : Nat} {o : DO} (h : p ∈ S) : ExtS S H (H.set p o) := ⟨fun m u hm q => by rw [List.getElem?_set_ne (fun z => hm (by rw [← z]; exact h))]; exact q, by simp⟩
theorem Zl4 {α β : Type} (f : α -> β) : ∀ (xs : List α) (k : Nat), (xs.map f).eraseIdx k = (xs.eraseIdx k).map f
 | [], _ => rfl
 | _ :: _, 0 => rfl
 | x :: xs, k + 1 => by simp [Zl4 f xs k]
theorem Ztb {n p q : Nat} {a1 a2 a3 z : Option D} {ps qs : List Int} {H : HD} (hp : p ≠ n) (hq : q ≠ n) (hpq : p ≠ q) (h0 : 0 < ps.length) (h1 : ps.length ≤ 100) (h2 : qs.length ≤ 100)
  (hf : ∃ a b, H[n]? = some (.lst [.int a, .int b])) (ep : H[p]? = some (.lst (ps.map .int))) (eq : H[q]? = some (.lst (qs.map .int))) :
  ∃ (k : Nat) (H' : HD) (hk : k < ps.length), Zon [some (.ref n), a1, a2, a3, some (.ref p), some (.ref q), z] H = some (.nx, [some (.ref n), a1, a2, a3, some (.ref p), some (.ref q), z], H') ∧
   (∃ a b, H'[n]? = some (.lst [.int a, .int b])) ∧ H'[p]? = some (.lst ((ps.eraseIdx k).map .int)) ∧ H'[q]? = some (.lst ((qs ++ [ps[k]]).map .int)) ∧ ExtS [n, p, q] H H' := by
 obtain ⟨r, H1, r0, r1, e, x, hl⟩ := Zem (k := ps.length) hf (by omega) (by omega)
 have hr : r.toNat < ps.length := by omega
 have ep1 := x.old p _ hp ep
 have eq1 := x.old q _ hq eq
 have lp : p < H1.length := (List.getElem?_eq_some_iff.mp ep1).1
 have lq : q < H1.length := (List.getElem?_eq_some_iff.mp eq1).1
 have hs : ps.length ≤ sizeLine := Zfc (by omega)
 have hq2 : qs.length < sizeLine := by have : sizeLine = 16777216 := PySem.sizeLine_eq; omega
 have sp : (H1.set p (.lst ((ps.map D.int).eraseIdx r.toNat)))[q]? = some (.lst (qs.map .int)) := by rw [List.getElem?_set_ne hpq]; exact eq1
 refine ⟨r.toNat, (H1.set p (.lst ((ps.map D.int).eraseIdx r.toNat))).set q (.lst (qs.map .int ++ [.int ps[r.toNat]])), hr, ?_, ?_, ?_, ?_, ?_⟩
 ·have s1 : seqIndex? r ps.length = some r.toNat := Zp8 r0 r1
  have b1 : -(2 ^ 63 : Int) ≤ r ∧ r < 2 ^ 63 := ⟨by omega, by omega⟩
  have g1 : (ps.map D.int)[r.toNat]? = some (.int ps[r.toNat]) := by simp [hr]
  have b2 : -9223372036854775808 ≤ r ∧ r < 9223372036854775808 := ⟨by omega, by omega⟩
  simp [Zon, Zan, Zch, eLM, Zae, Zkq, eq, ep, Zab, Zaj, Zal, eCB, Zd8, Zf7, e, Zxt, ep1, s1, b2, g1, Zcz, sp, hq2, Zas, hr]
 ·obtain ⟨a, b, f1⟩ := x.feed
  exact ⟨a, b, by rw [List.getElem?_set_ne hq, List.getElem?_set_ne hp]; exact f1⟩
 ·rw [List.getElem?_set_ne (Ne.symm hpq)]
  simp [lp, Zl4]
 ·simp [lq]
 ·exact (x.toS (by simp)).trans ((ExtS.set (by simp)).trans (ExtS.set (by simp)))
theorem Zjn : ∀ (l : List Int) (j : Nat) (h : j < l.length), (l[j] :: l.eraseIdx j).Perm l
 | x :: xs, 0, h => List.Perm.refl _
 | x :: xs, j + 1, h => by
  rw [List.eraseIdx_cons_succ, List.getElem_cons_succ]
  exact (List.Perm.swap _ _ _).trans (List.Perm.cons x (Zjn xs j (by simpa using h)))
theorem Zoc {M : Int} {n p q : Nat} {a1 a2 a3 : Option D} (hp : p ≠ n) (hq : q ≠ n) (hpq : p ≠ q) : ∀ (ks : List D) (ps qs : List Int) (H : HD) (z : Option D), ks.length ≤ ps.length -> ps.length ≤ 100 -> qs.length + ks.length ≤ 100 -> (∀ i ∈ ps, 1 ≤ i ∧ i ≤ M) -> (∀ i ∈ qs, 1 ≤ i ∧ i ≤ M) -> (qs ++ ps).Nodup →
  (∃ a b, H[n]? = some (.lst [.int a, .int b])) -> H[p]? = some (.lst (ps.map .int)) -> H[q]? = some (.lst (qs.map .int)) →
  ∃ (qs' : List Int) (z' : Option D) (H' : HD), Zf6 [] (gNm 6) Zon ks [some (.ref n), a1, a2, a3, some (.ref p), some (.ref q), z] H = some (.nx, [some (.ref n), a1, a2, a3, some (.ref p), some (.ref q), z'], H') ∧
   (∃ a b, H'[n]? = some (.lst [.int a, .int b])) ∧ H'[q]? = some (.lst (qs'.map .int)) ∧ (∀ i ∈ qs', 1 ≤ i ∧ i ≤ M) ∧ qs'.length = qs.length + ks.length ∧ ExtS [n, p, q] H H' ∧ qs'.Nodup
 | [], ps, qs, H, z, _, _, _, _, hqs, hnd, hf, ep, eq => by
  refine ⟨qs, z, H, ?_, hf, eq, hqs, by simp, ExtS.refl, (List.nodup_append.mp hnd).1⟩
  rw [Zf6, if_pos (by intro x hx; simp at hx)]
 | k :: ks, ps, qs, H, z, h0, h1, h2, hps, hqs, hnd, hf, ep, eq => by
  obtain ⟨j, H1, hj, e1, hf1, ep1, eq1, x1⟩ := Ztb (a1 := a1) (a2 := a2) (a3 := a3) (z := some k) hp hq hpq (by simp at h0; omega) h1 (by simp at h2; omega) hf ep eq
  obtain ⟨qs', z', H2, e2, hf2, eq2, hq2, hl2, x2, nd2⟩ := Zoc (M := M) hp hq hpq ks (ps.eraseIdx j) (qs ++ [ps[j]]) H1 (some k) (by rw [List.length_eraseIdx_of_lt hj]; simp at h0; omega) (by rw [List.length_eraseIdx_of_lt hj]; omega) (by simp at h2 ⊢; omega)
   (fun i hi => hps i (List.mem_of_mem_eraseIdx hi)) (fun i hi => by
    rcases List.mem_append.mp hi with z | z
    ·exact hqs i z
    ·simp at z; subst z; exact hps _ (List.getElem_mem hj)) (by
    have pm : ((qs ++ [ps[j]]) ++ ps.eraseIdx j).Perm (qs ++ ps) := by
     rw [List.append_assoc]
     exact List.Perm.append_left qs (Zjn ps j hj)
    exact pm.nodup_iff.mpr hnd) hf1 ep1 eq1
  refine ⟨qs', z', H2, ?_, hf2, eq2, hq2, by simp at hl2 ⊢; omega, x1.trans x2, nd2⟩
  rw [Zf6, if_pos (by intro x hx; simp at hx)]
  simp only [gNm, List.set, Zb]
  rw [e1]
  simp only [Zb]
  exact e2
theorem Zlt {ns : List Int} {i : Int} (h : i ∈ Zfq ns) : i ∈ ns := (Ze1 ns).mem_iff.mp h
noncomputable abbrev Zmk : EF := (eOp ixD (Zdn (Zab (Zae 0) (Zab (eUn Zlb (Zae 0)) Zaj))) (Zal 2 Zai (Zab (Zae 1) (Zab (eC (.int 2)) Zaj))))
noncomputable def Zbn (l : Int) : Int := if l < 0 then -l else l
noncomputable def Up (m : Int) : Int -> List Int -> Prop
 | _, [] => True
 | last, l :: r => last < Zbn l ∧ Zbn l ≤ m ∧ Up m (Zbn l) r
theorem Zyt {m : Int} : ∀ (ls : List Int) (last : Int), (ls.map Zbn).Pairwise (· < ·) -> (∀ x ∈ ls.map Zbn, last < x ∧ x ≤ m) -> Up m last ls
 | [], _, _, _ => trivial
 | l :: r, last, p, h => by
  rw [List.map_cons, List.pairwise_cons] at p
  have h1 := h (Zbn l) (by simp)
  exact ⟨h1.1, h1.2, Zyt r (Zbn l) p.2 fun x hx => ⟨p.1 x hx, (h x (by rw [List.map_cons]; exact List.mem_cons_of_mem _ hx)).2⟩⟩
theorem Ztn {ns : List Int} (h : ns.Nodup) : (Zfq ns).Pairwise (· < ·) := by
 have h1 : (Zfq ns).Pairwise (fun a b => decide (a ≤ b) = true) := List.pairwise_mergeSort (by intro a b c; simp; omega) (by intro a b; simp; omega) ns
 have h2 : (Zfq ns).Nodup := (Ze1 ns).nodup_iff.mpr h
 refine (List.Pairwise.and h1 h2).imp ?_
 rintro a b ⟨x, y⟩
 have := of_decide_eq_true x
 omega
theorem Zln {n r : Nat} {all : List D} (hrn : r ≠ n) : ∀ (ks : List Int) (H : HD), (∀ i ∈ ks, 1 ≤ i ∧ i ≤ 10) -> (∃ a b, H[n]? = some (.lst [.int a, .int b])) -> H[r]? = some (.lst all) →
  ∃ (ls : List Int) (H' : HD), Zdh [(r, .lst all)] [some (.ref n)] Zgm Zmk (ks.map .int) H = some (ls.map .int, H') ∧ (∀ l ∈ ls, l ≠ 0 ∧ -10 ≤ l ∧ l ≤ 10) ∧ ls.length = ks.length ∧ Ext n H H' ∧ H'[r]? = some (.lst all) ∧ ls.map Zbn = ks
 | [], H, _, hf, hr => by
  refine ⟨[], H, ?_, by simp, rfl, Ext.refl hf, hr, rfl⟩
  rw [List.map_nil, Zdh, if_pos (by intro x hx; simp at hx; subst hx; exact hr)]
 | k :: ks, H, hk, hf, hr => by
  have x0 : Ext n H (H ++ [.lst [.int k, .int (-k)]]) := Ext.app hf _
  obtain ⟨j, H1, j0, j1, e1, x1, l1⟩ := Zem (n := n) (k := 2) x0.feed (by omega) (by omega)
  have hl : H.length ≠ n := by
   obtain ⟨a, b, e⟩ := hf
   exact Nat.ne_of_gt (List.getElem?_eq_some_iff.mp e).1
  have new : H1[H.length]? = some (.lst [.int k, .int (-k)]) := x1.old _ _ hl (by simp)
  have hr1 := x1.old r _ hrn (x0.old r _ hrn hr)
  obtain ⟨ls, H2, e2, b2, l2, x2, hr2, ab2⟩ := Zln hrn ks H1 (fun i hi => hk i (by simp [hi])) x1.feed hr1
  have hk0 := hk k (by simp)
  have z2 : (2 : Nat) ≤ sizeLine := Zfc (by omega)
  have hj : j = 0 ∨ j = 1 := by omega
  refine ⟨(if j = 0 then k else -k) :: ls, H2, ?_, ?_, by simp [l2], (x0.trans x1).trans x2, hr2, by rw [List.map_cons, ab2]; congr 1; unfold Zbn; split <;> split <;> omega⟩
  ·rw [List.map_cons, Zdh, if_pos (by intro x hx; simp at hx; subst hx; exact hr)]
   have ee : Zmk [some (.int k), some (.ref n)] H = some (.int (if j = 0 then k else -k), H1) := by
    rcases hj with rfl | rfl
    ·simp [Zmk, eOp, Zdn, Zab, Zaj, Zae, eUn, Zlb, mkL, z2, Zal, eC, e1, ixD, Zf7, new, atI, ixN]
    ·simp [Zmk, eOp, Zdn, Zab, Zaj, Zae, eUn, Zlb, mkL, z2, Zal, eC, e1, ixD, Zf7, new, atI, ixN]
   simp only [Zgm, Zb, if_true, ee, e2, Option.map_some, List.map_cons]
  ·intro l hl
   rcases List.mem_cons.mp hl with rfl | hl
   ·split <;> omega
   ·exact b2 l hl
theorem Zr4 (ns : List Int) : Zhe (ns.map .int) = some ns := by
 induction ns with
 | nil => rfl
 | cons n r ih => simp [Zhe, ih]
theorem Zbh {f g : SF} {σ σ1 : SD} {H H1 : HD} (h : f σ H = some (.nx, σ1, H1)) : Zan f g σ H = g σ1 H1 := by
 unfold Zan
 rw [h]
 rfl
theorem Zgx {f g : SF} {σ σ1 : SD} {H H1 : HD} {d : D} (h : f σ H = some (.rt d, σ1, H1)) : Zan f g σ H = some (.rt d, σ1, H1) := by
 unfold Zan
 rw [h]
 rfl
theorem Zhr {i : Nat} {f : EF} {σ : SD} {H H1 : HD} {d : D} (h : f σ H = some (d, H1)) : Zbd i f σ H = some (.nx, σ.set i (some d), H1) := by
 unfold Zbd
 rw [h]
 rfl
theorem Zmw (lo : Int) (k : Nat) : Zbw lo k = ((List.range k).map fun j : Nat => lo + (j : Int)).map D.int := by
 unfold Zbw
 rw [List.map_map]
 rfl
theorem Zn4 (k : Nat) : ((List.range k).map fun j : Nat => (1 : Int) + (j : Int)).Nodup := by
 unfold List.Nodup
 rw [List.pairwise_map]
 refine (List.nodup_range (n := k)).imp ?_
 intro a b h
 omega
theorem Zvj {n : Nat} {m : Int} {H : HD} (hf : ∃ a b, H[n]? = some (.lst [.int a, .int b])) (h0 : 0 ≤ m) (h1 : m ≤ 9) :
  ∃ (ls : List Int) (H' : HD), Zdd [.ref n, .int m] H = some (.tup (ls.map .int), H') ∧ (∀ l ∈ ls, l ≠ 0 ∧ -10 ≤ l ∧ l ≤ 10) ∧ ls.length ≤ 9 ∧ Ext n H H' ∧ Up m 0 ls := by
 have hn : n < H.length := by obtain ⟨a, b, e⟩ := hf; exact (List.getElem?_eq_some_iff.mp e).1
 have sz : sizeLine = 16777216 := PySem.sizeLine_eq
 -- the sizes
 obtain ⟨r4, H1, a0, a1, e1, x1, l1⟩ := Zem (n := n) (k := 4) hf (by omega) (by omega)
 obtain ⟨r6, H2, b0, b1, e2, x2, l2⟩ := Zem (n := n) (k := 6) x1.feed (by omega) (by omega)
 let sizes : List Int := [1, 2, 2, 3, 3, 4, 2, 3, 1, 5 + r4, 2, 2 * (if 0 < r6 then 1 else 0)]
 have x3 : Ext n H2 (H2 ++ [.lst (sizes.map .int)]) := Ext.app x2.feed _
 have c2 : ∀ z, Zr5 2 z := fun _ => .inl ⟨by decide, by decide⟩
 have s1 : Zbd 2 (Zdn (Zab (eC (.int 1)) (Zab (eC (.int 2)) (Zab (eC (.int 2)) (Zab (eC (.int 3)) (Zab (eC (.int 3)) (Zab (eC (.int 4)) (Zab (eC (.int 2)) (Zab (eC (.int 3)) (Zab (eC (.int 1)) (Zab (eOp Zc1 (eC (.int 5)) (Zal 2 Zai (Zab (Zae 0) (Zab (eC (.int 4)) Zaj)))) (Zab (eC (.int 2)) (Zab (eOp Ziz (eC (.int 2)) (eCB Zxr (Zab (eOp gtD (Zal 2 Zai (Zab (Zae 0) (Zab (eC (.int 6)) Zaj))) (eC (.int 0))) Zaj))) Zaj))))))))))))) [some (.ref n), some (.int m), none, none, none, none, none] H
   = some (.nx, [some (.ref n), some (.int m), some (.ref H2.length), none, none, none, none], H2 ++ [.lst (sizes.map .int)]) := by
  have z12 : (12 : Nat) ≤ sizeLine := by omega
  simp [Zbd, Zdn, Zab, Zaj, eC, eOp, Zc1, Zal, Zae, e1, Ziz, c2, eCB, Zxr, gtD, iiD, CT, e2, mkL, z12, sizes]
 -- one of them
 have hl2 : H2.length ≠ n := by omega
 obtain ⟨xv, H4, xm, e4, x4, l4⟩ := Zis (n := n) (s := .ref H2.length) (xs := sizes.map .int) x3.feed (.inr ⟨_, rfl, hl2, by simp⟩) (by simp [sizes]) (by simp [sizes])
 obtain ⟨x, xs', rfl⟩ : ∃ x : Int, (0 ≤ x ∧ x ≤ 8) ∧ xv = .int x := by
  rw [List.mem_map] at xm
  obtain ⟨y, hy, rfl⟩ := xm
  refine ⟨y, ?_, rfl⟩
  simp only [sizes, List.mem_cons, List.not_mem_nil, or_false] at hy
  rcases hy with h | h | h | h | h | h | h | h | h | h | h | h <;> first | omega | (split at h <;> omega)
 let size : Int := if x < m then x else m
 have hsz : 0 ≤ size ∧ size ≤ m := by show 0 ≤ (if x < m then x else m) ∧ (if x < m then x else m) ≤ m; split <;> omega
 have s2 : Zbd 3 (eCB Zsx (Zab (Zae 1) (Zab (Zal 2 Zau (Zab (Zae 0) (Zab (Zae 2) Zaj))) Zaj))) [some (.ref n), some (.int m), some (.ref H2.length), none, none, none, none] (H2 ++ [.lst (sizes.map .int)])
   = some (.nx, [some (.ref n), some (.int m), some (.ref H2.length), some (.int size), none, none, none], H4) := by
  simp [Zbd, eCB, Zsx, Zab, Zaj, Zae, Zal, e4, size]
 -- the names, none found
 let ps : List Int := (List.range m.toNat).map fun j : Nat => 1 + (j : Int)
 have s3 : Zbd 4 (Zys (Zab (eC (.int 1)) (Zab (eOp Zc1 (Zae 1) (eC (.int 1))) Zaj))) [some (.ref n), some (.int m), some (.ref H2.length), some (.int size), none, none, none] H4
   = some (.nx, [some (.ref n), some (.int m), some (.ref H2.length), some (.int size), some (.ref H4.length), none, none], H4 ++ [.lst (ps.map .int)]) := by
  have k1 : Zeu 1 := ⟨by decide, by decide⟩
  have k2 : Zeu (m + 1) := ⟨by omega, by omega⟩
  have k3 : (m + 1 - 1).toNat ≤ 1000000 := by omega
  have k4 : m + 1 - 1 = m := by omega
  have k5 : m.toNat ≤ 1000000 := by omega
  simp [Zbd, Zys, Zab, Zaj, eC, eOp, Zc1, Zae, k1, k2, k4, k5]
  exact ⟨by omega, Zmw 1 m.toNat⟩
 have z0 : (0 : Nat) ≤ sizeLine := Nat.zero_le _
 have s4 : Zbd 5 (Zdn Zaj) [some (.ref n), some (.int m), some (.ref H2.length), some (.int size), some (.ref H4.length), none, none] (H4 ++ [.lst (ps.map .int)])
   = some (.nx, [some (.ref n), some (.int m), some (.ref H2.length), some (.int size), some (.ref H4.length), some (.ref (H4.length + 1)), none], H4 ++ [.lst (ps.map .int)] ++ [.lst []]) := by
  simp [Zbd, Zdn, Zaj, mkL]
 have x5 : Ext n H4 (H4 ++ [.lst (ps.map .int)]) := Ext.app x4.feed _
 have x6 : Ext n (H4 ++ [.lst (ps.map .int)]) (H4 ++ [.lst (ps.map .int)] ++ [.lst []]) := Ext.app x5.feed _
 have hn4 : n < H4.length := by obtain ⟨a, b, e⟩ := x4.feed; exact (List.getElem?_eq_some_iff.mp e).1
 obtain ⟨qs, z', H7, e7, f7, q7, b7, l7, x7, nd7⟩ := Zoc (M := m) (n := n) (p := H4.length) (q := H4.length + 1) (a1 := some (.int m)) (a2 := some (.ref H2.length)) (a3 := some (.int size)) (by omega) (by omega) (by omega) (Zbw 0 size.toNat) ps [] (H4 ++ [.lst (ps.map .int)] ++ [.lst []]) none
  (by simp [Zbw, ps]; omega) (by simp [ps]; omega) (by simp [Zbw]; omega) (fun i hi => by simp only [ps, List.mem_map, List.mem_range] at hi; obtain ⟨j, hj, rfl⟩ := hi; omega) (by simp) (by
   rw [List.nil_append]
   exact Zn4 m.toNat) x6.feed (by simp) (by simp)
 have s5 : Zhi (iR1 (Zab (Zae 3) Zaj)) (gNm 6) Zon [some (.ref n), some (.int m), some (.ref H2.length), some (.int size), some (.ref H4.length), some (.ref (H4.length + 1)), none] (H4 ++ [.lst (ps.map .int)] ++ [.lst []])
   = some (.nx, [some (.ref n), some (.int m), some (.ref H2.length), some (.int size), some (.ref H4.length), some (.ref (H4.length + 1)), z'], H7) := by
  have k1 : Zeu size := ⟨by omega, by omega⟩
  simp only [Zhi, iR1, Zab, Zaj, Zae, List.getElem?_cons_succ, List.getElem?_cons_zero, Option.join_some, Option.map_some, Zb, k1, if_true]
  exact e7
 -- the signs
 have hn7 : n < H7.length := by obtain ⟨a, b, e⟩ := f7; exact (List.getElem?_eq_some_iff.mp e).1
 have x8 : Ext n H7 (H7 ++ [.lst ((Zfq qs).map .int)]) := Ext.app f7 _
 obtain ⟨ls, H9, e9, b9, l9, x9, r9, ab9⟩ := Zln (n := n) (r := H7.length) (all := (Zfq qs).map .int) (by omega) (Zfq qs) (H7 ++ [.lst ((Zfq qs).map .int)]) (fun i hi => by have := b7 i (Zlt hi); omega) x8.feed (by simp)
 have lqs : qs.length ≤ 9 := by simp [Zbw] at l7; omega
 have lls : ls.length ≤ 9 := by rw [l9, (Ze1 qs).length_eq]; exact lqs
 have x10 : Ext n H9 (H9 ++ [.lst (ls.map .int)]) := Ext.app x9.feed _
 refine ⟨ls, H9 ++ [.lst (ls.map .int)], ?_, b9, lls, ?_, Zyt ls 0 (by rw [ab9]; exact Ztn nd7) (fun x hx => by rw [ab9] at hx; have := b7 x (Zlt hx); omega)⟩
 ·have s6 : Zb5 (eCB Zdg (Zab (eLC (iSq (eCB Zhd (Zab (Zae 5) Zaj))) [0] Zgm Zmk) Zaj)) [some (.ref n), some (.int m), some (.ref H2.length), some (.int size), some (.ref H4.length), some (.ref (H4.length + 1)), z'] H7
    = some (.rt (.tup (ls.map .int)), [some (.ref n), some (.int m), some (.ref H2.length), some (.int size), some (.ref H4.length), some (.ref (H4.length + 1)), z'], H9 ++ [.lst (ls.map .int)]) := by
   have z9 : ls.length ≤ sizeLine := by omega
   have q64 : qs.length < 64 := by omega
   simp [Zb5, eCB, Zdg, Zab, Zaj, eLC, iSq, Zhd, Zae, Zf7, q7, Zr4, q64, Zwq, Zhs, Zo1, e9, mkL, z9]
  unfold Zdd Zbq
  rw [if_pos (show ([D.ref n, D.int m] : List D).length = 2 from rfl)]
  show (Zer [some (.ref n), some (.int m), none, none, none, none, none] H).bind _ = _
  unfold Zer
  rw [Zbh s1, Zbh s2, Zbh s3, Zbh s4, Zbh s5, Zgx s6]
  rfl
 ·have y1 : Ext n H (H4 ++ [.lst (ps.map .int)] ++ [.lst []]) := ((((x1.trans x2).trans x3).trans x4).trans x5).trans x6
  refine ⟨x10.feed, fun k o hk q => ?_, ?_⟩
  ·have w1 := y1.old k o hk q
   have kl : k < H.length := (List.getElem?_eq_some_iff.mp q).1
   have : H.length ≤ H4.length := ((((x1.trans x2).trans x3).trans x4)).len
   have w2 := x7.old k o (by simp; omega) w1
   exact (x8.trans x9 |>.trans x10).old k o hk w2
  ·exact Nat.le_trans y1.len (Nat.le_trans x7.len (x8.trans x9 |>.trans x10).len)
noncomputable def Zc7 : SF :=
 (Zan (Zbd 3 (Zal 2 Zau (Zab (Zae 0) (Zab (Zdn (Zab (Zae 1) (Zab (eOp Zkg (Zae 1) (eC (.int 1))) (Zab (Zae 1) (Zab (eOp Zkg (Zae 1) (eC (.int 2))) (Zab (Zae 1) (Zab (Zal 2 Zai (Zab (Zae 0) (Zab (eOp Zc1 (Zae 1) (eC (.int 1))) Zaj))) Zaj))))))) Zaj))))
 (Zan (Zbd 4 (Zal 2 Zai (Zab (Zae 0) (Zab (eC (.int 4)) Zaj))))
 (Zan (Zbd 5 (eLC (iR1 (Zab (Zae 3) Zaj)) [0] Zgm (Zal 2 Zau (Zab (Zae 1) (Zab (Zdn (Zab (eC (.str "all")) (Zab (eC (.str "some")) Zaj))) Zaj)))))
 (Zan (sIf (tOf (eOp eqD (Zae 4) (eC (.int 0)))) (Zan (Zbd 5 (eLC (iR1 (Zab (Zae 3) Zaj)) [] Zgm (eOp ixD (Zdn (Zab (eC (.str "some")) (Zab (eC (.str "all")) Zaj))) (eOp Zgn (Zae 0) (eC (.int 2))))))
 Zas) Zas)
 (Zan (Zbd 6 (Zal 2 Zau (Zab (Zae 0) (Zab (Zdn (Zab (Zae 3) (Zab (eOp Zc1 (Zae 3) (eOp Zgy (Zae 3) (eC (.int 2)))) (Zab (eOp Ziz (eC (.int 2)) (Zae 3)) (Zab (eOp Zc1 (eOp Zgy (Zae 3) (eC (.int 2))) (eC (.int 1))) (Zab (Zal 2 Zai (Zab (Zae 0) (Zab (eOp Zc1 (Zae 2) (eC (.int 1))) Zaj))) (Zab (eC (.int 2)) Zaj))))))) Zaj))))
 (Zan (Zbd 7 (eLC (iR1 (Zab (eCB Zsx (Zab (Zae 2) (Zab (Zae 6) Zaj))) Zaj)) [0, 3] Zgm (Zal 2 Zdd (Zab (Zae 1) (Zab (Zae 2) Zaj)))))
 (Zan (sIf (tAn (tOf (eOp neD (Zae 7) (Zdn Zaj))) (tOf (eOp eqD (Zal 2 Zai (Zab (Zae 0) (Zab (eC (.int 6)) Zaj))) (eC (.int 0))))) (Zan (Zch (eLM Zcz (Zae 7) (Zab (Zal 2 Zau (Zab (Zae 0) (Zab (Zae 7) Zaj))) Zaj)))
 Zas) Zas)
 (Zan (Zb5 (Zgp (Zab (eCB Zdg (Zab (Zae 5) Zaj)) (Zab (eCB Zdg (Zab (eSl (Zae 7) Zfu (Zfm (Zae 2))) Zaj)) Zaj))))
 Zas))))))))
noncomputable def Zc6 : FF := Zbq 3 8 Zc7
noncomputable def Zev (d : D) : Prop := d = .str "all" ∨ d = .str "some"
noncomputable def Zs3 (d : D) : Prop := ∃ ls : List Int, d = .tup (ls.map .int) ∧ (∀ l ∈ ls, l ≠ 0 ∧ -10 ≤ l ∧ l ≤ 10) ∧ ls.length ≤ 9
theorem Zwd {own : Zhl} {c0 : SD} {te : EF} {x d : D} {r : List D} {H H1 : HD} (ok : Zdp own H) (h : te (some x :: c0) H = some (d, H1)) :
  Zdh own c0 Zgm te (x :: r) H = (Zdh own c0 Zgm te r H1).map fun q => (d :: q.1, q.2) := by
 rw [Zdh, if_pos ok]
 simp [Zgm, h]
theorem Zzv {own : Zhl} {c0 : SD} {te : EF} {H : HD} (ok : Zdp own H) : Zdh own c0 Zgm te [] H = some ([], H) := by rw [Zdh, if_pos ok]
theorem Zf8 {H : HD} : Zdp [] H := by intro x hx; simp at hx
theorem Zm8 (H : HD) (n : Nat) (i : Int) : toP H n (.int i) = some (.int i) := by cases n <;> rw [toP]
theorem Zy6 (H : HD) (n : Nat) (b : Bool) : toP H n (.bl b) = some (.bool b) := by cases n <;> rw [toP]
theorem Zv0 (H : HD) (n : Nat) : toP H n .non = some .none := by cases n <;> rw [toP]
theorem Zq1 (H : HD) (i : Int) : dat (.int i) H = some (.int i) := by
 simp [dat, Zm8, okP, PyData.canLay0, PyData.depth]
theorem Zif (i j : Int) (H : HD) : eqD (.int i) (.int j) H = some (.bl (i == j), H) := by
 simp [eqD, Zos, Zq1, PyData.eqv]
theorem Zyd (i j : Int) (H : HD) : neD (.int i) (.int j) H = some (.bl (!(i == j)), H) := by
 simp [neD, Zos, Zq1, PyData.eqv]
theorem Zme (H : HD) (n : Nat) : ∀ ls : List Int, Zho H n (ls.map .int) = some (ls.map .int)
 | [] => by rw [List.map_nil, Zho]; rfl
 | l :: ls => by rw [List.map_cons, Zho, Zm8, Zme H n ls]; rfl
theorem Zoi : ∀ ls : List Int, PyData.canLayAll0 (ls.map .int) = true ∧ PyData.depthAll (ls.map .int) = 0
 | [] => ⟨rfl, rfl⟩
 | l :: ls => by
  obtain ⟨h1, h2⟩ := Zoi ls
  exact ⟨by rw [List.map_cons, PyData.canLayAll0, h1]; rfl, by rw [List.map_cons, PyData.depthAll, h2]; rfl⟩
theorem Zle (H : HD) (n : Nat) : ∀ xs : List D, (∀ d ∈ xs, Zs3 d) -> ∃ ps, Zho H n xs = some ps ∧ ps.length = xs.length ∧ PyData.canLayAll0 ps = true ∧ PyData.depthAll ps ≤ 1
 | [], _ => ⟨[], by rw [Zho], rfl, rfl, by decide⟩
 | x :: xs, h => by
  obtain ⟨ps, e, l, c, d⟩ := Zle H n xs fun d hd => h d (by simp [hd])
  obtain ⟨ls, rfl, _, _⟩ := h x (by simp)
  obtain ⟨c1, d1⟩ := Zoi ls
  refine ⟨.tuple (ls.map .int) :: ps, ?_, by simp [l], ?_, ?_⟩
  ·rw [Zho, e]
   have : toP H n (.tup (ls.map .int)) = some (.tuple (ls.map .int)) := by cases n <;> (rw [toP, Zme]; rfl)
   rw [this]; rfl
  ·rw [PyData.canLayAll0, PyData.canLay0, c1, c]; rfl
  ·rw [PyData.depthAll, PyData.depth, d1]; omega
theorem Ztz {H : HD} {k : Nat} {xs : List D} (e : H[k]? = some (.lst xs)) (h : ∀ d ∈ xs, Zs3 d) : ∃ ps, dat (.ref k) H = some (.list ps) ∧ ps.length = xs.length := by
 obtain ⟨ps, e1, l, c, d⟩ := Zle H 29 xs h
 refine ⟨ps, ?_, l⟩
 have : toP H 30 (.ref k) = some (.list ps) := by rw [toP, e]; simp only [e1]; rfl
 have d2 : PyData.depthAll ps + 1 ≤ 30 := by omega
 simp [dat, this, okP, PyData.canLay0, PyData.depth, c, d2]
theorem Zyi {H : HD} {k j : Nat} {xs : List D} (e : H[k]? = some (.lst xs)) (e2 : H[j]? = some (.lst [])) (h : ∀ d ∈ xs, Zs3 d) : neD (.ref k) (.ref j) H = some (.bl (!xs.isEmpty), H) := by
 obtain ⟨ps, e1, l⟩ := Ztz e h
 have e3 : dat (.ref j) H = some (.list []) := by
  have : toP H 30 (.ref j) = some (.list []) := by rw [toP, e2]; simp [Zho]
  simp [dat, this, okP, PyData.canLay0, PyData.canLayAll0, PyData.depth, PyData.depthAll]
 have e4 : PyData.eqv (.list ps) (.list []) = xs.isEmpty := by
  cases ps with
  | nil => cases xs with
   | nil => rfl
   | cons _ _ => simp at l
  | cons p ps => cases xs with
   | nil => simp at l
   | cons _ _ => simp [PyData.eqv, PyData.eqvAll]
 simp [neD, Zos, e1, e3, e4]
theorem Zgs {n : Nat} {c0 : SD} {te : EF} {Ok Good : D -> Prop} (step : ∀ (x : D) (H : HD), Ok x -> (∃ a b, H[n]? = some (.lst [.int a, .int b])) -> ∃ d H', te (some x :: c0) H = some (d, H') ∧ Good d ∧ Ext n H H') :
  ∀ (xs : List D) (H : HD), (∀ x ∈ xs, Ok x) -> (∃ a b, H[n]? = some (.lst [.int a, .int b])) -> ∃ ds H', Zdh [] c0 Zgm te xs H = some (ds, H') ∧ (∀ d ∈ ds, Good d) ∧ ds.length = xs.length ∧ Ext n H H'
 | [], H, _, hf => ⟨[], H, Zzv Zf8, by simp, rfl, Ext.refl hf⟩
 | x :: xs, H, ho, hf => by
  obtain ⟨d, H1, e1, g1, x1⟩ := step x H (ho x (by simp)) hf
  obtain ⟨ds, H2, e2, g2, l2, x2⟩ := Zgs step xs H1 (fun z hz => ho z (by simp [hz])) x1.feed
  refine ⟨d :: ds, H2, ?_, ?_, by simp [l2], x1.trans x2⟩
  ·rw [Zwd Zf8 e1, e2]; rfl
  ·intro z hz
   rcases List.mem_cons.mp hz with rfl | hz
   ·exact g1
   ·exact g2 z hz
noncomputable def IsI (d : D) : Prop := ∃ i : Int, d = .int i
theorem Zk9 (lo : Int) (k : Nat) : ∀ x ∈ Zbw lo k, IsI x := by
 intro x hx
 simp only [Zbw, List.mem_map] at hx
 obtain ⟨j, _, rfl⟩ := hx
 exact ⟨_, rfl⟩
theorem Zg2 (lo : Int) (k : Nat) : (Zbw lo k).length = k := by simp [Zbw]
theorem Zwn {f : EF} {σ : SD} {H H1 : HD} {j : Int} (h : f σ H = some (.int j, H1)) (s : Zeu j) : iR1 (Zab f Zaj) σ H = some ((Zbw 0 j.toNat, []), H1) := by
 simp [iR1, Zab, Zaj, h, s]
theorem flt {n : Nat} {H : HD} (hf : ∃ a b, H[n]? = some (.lst [.int a, .int b])) : n < H.length := by obtain ⟨a, b, e⟩ := hf; exact (List.getElem?_eq_some_iff.mp e).1
theorem Zr0 {n : Nat} {c0 : SD} {i : Nat} {fk : EF} {k r : Int} {H H' : HD} (h1 : c0[i]? = some (some (.ref n))) (h2 : fk c0 H = some (.int k, H)) (e : Zai [.ref n, .int k] H = some (.int r, H')) :
  Zal 2 Zai (Zab (Zae i) (Zab fk Zaj)) c0 H = some (.int r, H') := by
 simp [Zal, Zab, Zaj, Zae, h1, h2, e]
noncomputable def Zm5 (m : Int) (d : D) : Prop := ∃ ls : List Int, d = .tup (ls.map .int) ∧ (∀ l ∈ ls, l ≠ 0 ∧ -10 ≤ l ∧ l ≤ 10) ∧ ls.length ≤ 9 ∧ Up m 0 ls
theorem Zm5.row {m : Int} {d : D} (h : Zm5 m d) : Zs3 d := by
 obtain ⟨ls, a, b, c, _⟩ := h
 exact ⟨ls, a, b, c⟩
theorem Zry {n : Nat} {H : HD} {most rows : Int} (hf : ∃ a b, H[n]? = some (.lst [.int a, .int b])) (hm : 2 ≤ most ∧ most ≤ 8) (hrw : 0 ≤ rows ∧ rows ≤ 40) :
  ∃ (ks rs : List D) (H' : HD), Zc6 [.ref n, .int most, .int rows] H = some (.tup [.tup ks, .tup rs], H') ∧ (∀ d ∈ ks, Zev d) ∧ (ks.length : Int) ≤ most ∧ (∀ d ∈ rs, Zm5 ks.length d) ∧ (rs.length : Int) ≤ rows ∧ Ext n H H' := by
 have sz : sizeLine = 16777216 := PySem.sizeLine_eq
 have hn := flt hf
 -- many
 obtain ⟨t1, H1, a0, a1, e1, x1, l1⟩ := Zem (n := n) (k := most + 1) hf (by omega) (by omega)
 let L1 : List Int := [most, most - 1, most, most - 2, most, t1]
 have x2 : Ext n H1 (H1 ++ [.lst (L1.map .int)]) := Ext.app x1.feed _
 obtain ⟨mv, H2, m1, e2, x3, l2⟩ := Zis (n := n) (s := .ref H1.length) (xs := L1.map .int) x2.feed (.inr ⟨_, rfl, by omega, by simp⟩) (by simp [L1]) (by simp [L1])
 obtain ⟨many, hmany, rfl⟩ : ∃ x : Int, (0 ≤ x ∧ x ≤ most) ∧ mv = .int x := by
  rw [List.mem_map] at m1
  obtain ⟨y, hy, rfl⟩ := m1
  refine ⟨y, ?_, rfl⟩
  simp only [L1, List.mem_cons, List.not_mem_nil, or_false] at hy
  rcases hy with h | h | h | h | h | h <;> omega
 have X2 : Ext n H H2 := (x1.trans x2).trans x3
 have s1 : ∀ z3 z4 z5 z6 z7, Zbd 3 (Zal 2 Zau (Zab (Zae 0) (Zab (Zdn (Zab (Zae 1) (Zab (eOp Zkg (Zae 1) (eC (.int 1))) (Zab (Zae 1) (Zab (eOp Zkg (Zae 1) (eC (.int 2))) (Zab (Zae 1) (Zab (Zal 2 Zai (Zab (Zae 0) (Zab (eOp Zc1 (Zae 1) (eC (.int 1))) Zaj))) Zaj))))))) Zaj))) [some (.ref n), some (.int most), some (.int rows), z3, z4, z5, z6, z7] H
   = some (.nx, [some (.ref n), some (.int most), some (.int rows), some (.int many), z4, z5, z6, z7], H2) := by
  intro z3 z4 z5 z6 z7
  have z : (6 : Nat) ≤ sizeLine := by omega
  simp [Zbd, Zal, Zab, Zaj, Zae, Zdn, eOp, Zkg, iiD, CT, eC, Zc1, e1, mkL, z]
  simp [L1] at e2
  simp [e2]
 -- way
 obtain ⟨way, H3, w0, w1, e3, x4, l3⟩ := Zem (n := n) (k := 4) X2.feed (by omega) (by omega)
 have X3 := X2.trans x4
 have s2 : ∀ z4 z5 z6 z7, Zbd 4 (Zal 2 Zai (Zab (Zae 0) (Zab (eC (.int 4)) Zaj))) [some (.ref n), some (.int most), some (.int rows), some (.int many), z4, z5, z6, z7] H2
   = some (.nx, [some (.ref n), some (.int most), some (.int rows), some (.int many), some (.int way), z5, z6, z7], H3) := by
  intro z4 z5 z6 z7
  simp [Zbd, Zal, Zab, Zaj, Zae, eC, e3]
 have sm : Zeu many := ⟨by omega, by omega⟩
 -- kinds
 obtain ⟨ks, H4, e4, g4, l4, x5⟩ := Zgs (n := n) (c0 := [some (.ref n)]) (te := Zal 2 Zau (Zab (Zae 1) (Zab (Zdn (Zab (eC (.str "all")) (Zab (eC (.str "some")) Zaj))) Zaj))) (Ok := IsI) (Good := Zev) (fun x H _ hf => by
   have y1 : Ext n H (H ++ [.lst [.str "all", .str "some"]]) := Ext.app hf _
   obtain ⟨d, H', dm, e, y2, _⟩ := Zis (n := n) (s := .ref H.length) (xs := [.str "all", .str "some"]) y1.feed (.inr ⟨_, rfl, Nat.ne_of_gt (flt hf), by simp⟩) (by simp) (by simp)
   refine ⟨d, H', ?_, by simpa [Zev] using dm, y1.trans y2⟩
   have z : (2 : Nat) ≤ sizeLine := by omega
   simp [Zal, Zab, Zaj, Zae, Zdn, eC, mkL, z, e]) (Zbw 0 many.toNat) H3 (Zk9 _ _) X3.feed
 have X4 := X3.trans x5
 rw [Zg2] at l4
 have lk : ks.length ≤ sizeLine := by omega
 have x6 : Ext n H4 (H4 ++ [.lst ks]) := Ext.app X4.feed _
 have X5 := X4.trans x6
 have s3 : ∀ z5 z6 z7, Zbd 5 (eLC (iR1 (Zab (Zae 3) Zaj)) [0] Zgm (Zal 2 Zau (Zab (Zae 1) (Zab (Zdn (Zab (eC (.str "all")) (Zab (eC (.str "some")) Zaj))) Zaj)))) [some (.ref n), some (.int most), some (.int rows), some (.int many), some (.int way), z5, z6, z7] H3
   = some (.nx, [some (.ref n), some (.int most), some (.int rows), some (.int many), some (.int way), some (.ref H4.length), z6, z7], H4 ++ [.lst ks]) := by
  intro z5 z6 z7
  refine Zhr (d := .ref H4.length) ?_
  unfold eLC
  rw [Zwn (j := many) (H1 := H3) (by simp [Zae]) sm]
  simp only [Zb, Zo1, List.map_cons, List.map_nil, List.getElem?_cons_zero, Option.join_some]
  rw [e4]
  simp [mkL, lk]
 -- kinds by turns
 obtain ⟨ks2, H6, k6, e6, g6, l6, X6, q6, ge6⟩ : ∃ (ks2 : List D) (H6 : HD) (k6 : Nat), (∀ z6 z7, sIf (tOf (eOp eqD (Zae 4) (eC (.int 0)))) (Zan (Zbd 5 (eLC (iR1 (Zab (Zae 3) Zaj)) [] Zgm (eOp ixD (Zdn (Zab (eC (.str "some")) (Zab (eC (.str "all")) Zaj))) (eOp Zgn (Zae 0) (eC (.int 2)))))) Zas) Zas [some (.ref n), some (.int most), some (.int rows), some (.int many), some (.int way), some (.ref H4.length), z6, z7] (H4 ++ [.lst ks])
   = some (.nx, [some (.ref n), some (.int most), some (.int rows), some (.int many), some (.int way), some (.ref k6), z6, z7], H6)) ∧ (∀ d ∈ ks2, Zev d) ∧ ks2.length = many.toNat ∧ Ext n H H6 ∧ H6[k6]? = some (.lst ks2) ∧ H.length ≤ k6 := by
  by_cases hw : way = 0
  ·obtain ⟨ds, H5, e5, g5, l5, y5⟩ := Zgs (n := n) (c0 := []) (te := eOp ixD (Zdn (Zab (eC (.str "some")) (Zab (eC (.str "all")) Zaj))) (eOp Zgn (Zae 0) (eC (.int 2)))) (Ok := IsI) (Good := Zev) (fun x H hx hf => by
     obtain ⟨i, rfl⟩ := hx
     have z : (2 : Nat) ≤ sizeLine := by omega
     have c : Zpn i 2 := by show (0 : Int) < 2; decide
     have hi : i % 2 = 0 ∨ i % 2 = 1 := by omega
     rcases hi with hi | hi
     ·exact ⟨.str "some", H ++ [.lst [.str "some", .str "all"]], by simp [eOp, Zdn, Zab, Zaj, eC, mkL, z, Zae, Zgn, iiD, c, ixD, Zf7, hi, atI, ixN], .inr rfl, Ext.app hf _⟩
     ·exact ⟨.str "all", H ++ [.lst [.str "some", .str "all"]], by simp [eOp, Zdn, Zab, Zaj, eC, mkL, z, Zae, Zgn, iiD, c, ixD, Zf7, hi, atI, ixN], .inl rfl, Ext.app hf _⟩) (Zbw 0 many.toNat) (H4 ++ [.lst ks]) (Zk9 _ _) X5.feed
   rw [Zg2] at l5
   have ld : ds.length ≤ sizeLine := by omega
   have y6 : Ext n H5 (H5 ++ [.lst ds]) := Ext.app y5.feed _
   refine ⟨ds, H5 ++ [.lst ds], H5.length, fun z6 z7 => ?_, g5, l5, (X5.trans y5).trans y6, by simp, Nat.le_trans X5.len y5.len⟩
   have t : tOf (eOp eqD (Zae 4) (eC (.int 0))) [some (.ref n), some (.int most), some (.int rows), some (.int many), some (.int way), some (.ref H4.length), z6, z7] (H4 ++ [.lst ks]) = some (true, H4 ++ [.lst ks]) := by
    simp [tOf, eOp, Zae, eC, Zif, blD, hw]
   unfold sIf
   rw [t]
   simp only [Zb, if_true]
   rw [Zbh (Zhr (d := .ref H5.length) (H1 := H5 ++ [.lst ds]) ?_)]
   ·rfl
   ·unfold eLC
    rw [Zwn (j := many) (H1 := H4 ++ [.lst ks]) (by simp [Zae]) sm]
    simp only [Zb, Zo1, List.map_nil]
    rw [e5]
    simp [mkL, ld]
  ·refine ⟨ks, H4 ++ [.lst ks], H4.length, fun z6 z7 => ?_, g4, l4, X5, by simp, X4.len⟩
   have t : tOf (eOp eqD (Zae 4) (eC (.int 0))) [some (.ref n), some (.int most), some (.int rows), some (.int many), some (.int way), some (.ref H4.length), z6, z7] (H4 ++ [.lst ks]) = some (false, H4 ++ [.lst ks]) := by
    simp [tOf, eOp, Zae, eC, Zif, blD, hw]
   unfold sIf
   rw [t]
   rfl
 have lt6 : k6 < H6.length := (List.getElem?_eq_some_iff.mp q6).1
 have k6n : k6 ≠ n := by omega
 -- how many rows
 obtain ⟨t5, H7, f0, f1, e7, x7, l7⟩ := Zem (n := n) (k := rows + 1) X6.feed (by omega) (by omega)
 let L2 : List Int := [many, many + many / 2, 2 * many, many / 2 + 1, t5, 2]
 have x8 : Ext n H7 (H7 ++ [.lst (L2.map .int)]) := Ext.app x7.feed _
 obtain ⟨sv, H8, m8, e8, x9, l8⟩ := Zis (n := n) (s := .ref H7.length) (xs := L2.map .int) x8.feed (.inr ⟨_, rfl, by omega, by simp⟩) (by simp [L2]) (by simp [L2])
 obtain ⟨size, hsize, rfl⟩ : ∃ x : Int, (0 ≤ x) ∧ sv = .int x := by
  rw [List.mem_map] at m8
  obtain ⟨y, hy, rfl⟩ := m8
  refine ⟨y, ?_, rfl⟩
  simp only [L2, List.mem_cons, List.not_mem_nil, or_false] at hy
  rcases hy with h | h | h | h | h | h <;> omega
 have y68 : Ext n H6 H8 := (x7.trans x8).trans x9
 have X8 : Ext n H H8 := X6.trans y68
 have s5 : ∀ z6 z7, Zbd 6 (Zal 2 Zau (Zab (Zae 0) (Zab (Zdn (Zab (Zae 3) (Zab (eOp Zc1 (Zae 3) (eOp Zgy (Zae 3) (eC (.int 2)))) (Zab (eOp Ziz (eC (.int 2)) (Zae 3)) (Zab (eOp Zc1 (eOp Zgy (Zae 3) (eC (.int 2))) (eC (.int 1))) (Zab (Zal 2 Zai (Zab (Zae 0) (Zab (eOp Zc1 (Zae 2) (eC (.int 1))) Zaj))) (Zab (eC (.int 2)) Zaj))))))) Zaj))) [some (.ref n), some (.int most), some (.int rows), some (.int many), some (.int way), some (.ref k6), z6, z7] H6
   = some (.nx, [some (.ref n), some (.int most), some (.int rows), some (.int many), some (.int way), some (.ref k6), some (.int size), z7], H8) := by
  intro z6 z7
  have z : (6 : Nat) ≤ sizeLine := by omega
  have c1 : Zxe many 2 := ⟨by decide, by decide⟩
  have c2 : ∀ z, Zr5 2 z := fun _ => .inl ⟨by decide, by decide⟩
  simp [Zbd, Zal, Zab, Zaj, Zae, Zdn, eOp, Zgy, Ziz, c1, c2, iiD, CT, eC, Zc1, e7, mkL, z]
  simp [L2] at e8
  simp [e8]
 -- the rows
 let cnt : Int := if size < rows then size else rows
 have hc : 0 ≤ cnt ∧ cnt ≤ rows := by show 0 ≤ (if size < rows then size else rows) ∧ (if size < rows then size else rows) ≤ rows; split <;> omega
 have sc : Zeu cnt := ⟨by omega, by omega⟩
 obtain ⟨fs, H9, e9, g9, l9, y89⟩ := Zgs (n := n) (c0 := [some (.ref n), some (.int many)]) (te := Zal 2 Zdd (Zab (Zae 1) (Zab (Zae 2) Zaj))) (Ok := IsI) (Good := Zm5 many) (fun x H _ hf => by
   obtain ⟨ls, H', e, b, l, y, up⟩ := Zvj (n := n) (m := many) hf hmany.1 (by omega)
   exact ⟨.tup (ls.map .int), H', by simp [Zal, Zab, Zaj, Zae, e], ⟨ls, rfl, b, l, up⟩, y⟩) (Zbw 0 cnt.toNat) H8 (Zk9 _ _) X8.feed
 rw [Zg2] at l9
 have X9 : Ext n H H9 := X8.trans y89
 have lf : fs.length ≤ sizeLine := by omega
 have y9 : Ext n H9 (H9 ++ [.lst fs]) := Ext.app X9.feed _
 have s6 : ∀ z7, Zbd 7 (eLC (iR1 (Zab (eCB Zsx (Zab (Zae 2) (Zab (Zae 6) Zaj))) Zaj)) [0, 3] Zgm (Zal 2 Zdd (Zab (Zae 1) (Zab (Zae 2) Zaj)))) [some (.ref n), some (.int most), some (.int rows), some (.int many), some (.int way), some (.ref k6), some (.int size), z7] H8
   = some (.nx, [some (.ref n), some (.int most), some (.int rows), some (.int many), some (.int way), some (.ref k6), some (.int size), some (.ref H9.length)], H9 ++ [.lst fs]) := by
  intro z7
  refine Zhr (d := .ref H9.length) ?_
  unfold eLC
  rw [Zwn (j := cnt) (H1 := H8) (by simp [eCB, Zab, Zaj, Zae, Zsx, cnt]) sc]
  simp only [Zb, Zo1, List.map_cons, List.map_nil, List.getElem?_cons_zero, List.getElem?_cons_succ, Option.join_some]
  rw [e9]
  simp [mkL, lf]
 have q9 : (H9 ++ [.lst fs])[H9.length]? = some (.lst fs) := by simp
 have k9 : H9[k6]? = some (.lst ks2) := (y68.trans y89).old k6 _ k6n q6
 have X10 : Ext n H (H9 ++ [.lst fs]) := X9.trans y9
 have le9 : H.length ≤ H9.length := X9.len
 have n9 : H9.length ≠ n := by omega
 have k69 : k6 ≠ H9.length := Nat.ne_of_lt (List.getElem?_eq_some_iff.mp k9).1
 have s7 : ∃ (fs2 : List D) (H12 : HD), sIf (tAn (tOf (eOp neD (Zae 7) (Zdn Zaj))) (tOf (eOp eqD (Zal 2 Zai (Zab (Zae 0) (Zab (eC (.int 6)) Zaj))) (eC (.int 0))))) (Zan (Zch (eLM Zcz (Zae 7) (Zab (Zal 2 Zau (Zab (Zae 0) (Zab (Zae 7) Zaj))) Zaj))) Zas) Zas [some (.ref n), some (.int most), some (.int rows), some (.int many), some (.int way), some (.ref k6), some (.int size), some (.ref H9.length)] (H9 ++ [.lst fs])
   = some (.nx, [some (.ref n), some (.int most), some (.int rows), some (.int many), some (.int way), some (.ref k6), some (.int size), some (.ref H9.length)], H12) ∧ H12[H9.length]? = some (.lst fs2) ∧ (∀ d ∈ fs2, Zm5 many d) ∧ Ext n H H12 ∧ H12[k6]? = some (.lst ks2) ∧ fs2.length ≤ 100 := by
  have z0 : (0 : Nat) ≤ sizeLine := Nat.zero_le _
  have y10 : Ext n (H9 ++ [.lst fs]) (H9 ++ [.lst fs] ++ [.lst []]) := Ext.app X10.feed _
  have q10 : (H9 ++ [DO.lst fs] ++ [.lst []])[H9.length]? = some (.lst fs) := y10.old _ _ n9 q9
  have q11 : (H9 ++ [DO.lst fs] ++ [.lst []])[H9.length + 1]? = some (.lst []) := by simp
  have kk := (y9.trans y10).old k6 _ k6n k9
  have nn := Zyi q10 q11 (fun d hd => (g9 d hd).row)
  have t1 : tOf (eOp neD (Zae 7) (Zdn Zaj)) [some (.ref n), some (.int most), some (.int rows), some (.int many), some (.int way), some (.ref k6), some (.int size), some (.ref H9.length)] (H9 ++ [.lst fs]) = some (!fs.isEmpty, H9 ++ [.lst fs] ++ [.lst []]) := by
   simp only [List.append_assoc, List.cons_append, List.nil_append] at nn ⊢
   simp [tOf, eOp, Zae, Zdn, Zaj, mkL, nn, blD]
  by_cases hne : fs = []
  ·subst hne
   refine ⟨[], H9 ++ [.lst []] ++ [.lst []], ?_, q10, g9, X10.trans y10, kk, by simp⟩
   unfold sIf tAn
   rw [t1]
   rfl
  ·have ht : (!fs.isEmpty) = true := by cases fs <;> simp_all
   obtain ⟨r, H11, r0, r1, e11, y11, _⟩ := Zem (n := n) (k := 6) y10.feed (by omega) (by omega)
   have t2 : tOf (eOp eqD (Zal 2 Zai (Zab (Zae 0) (Zab (eC (.int 6)) Zaj))) (eC (.int 0))) [some (.ref n), some (.int most), some (.int rows), some (.int many), some (.int way), some (.ref k6), some (.int size), some (.ref H9.length)] (H9 ++ [.lst fs] ++ [.lst []]) = some (r == 0, H11) := by
    unfold tOf eOp
    rw [Zr0 (n := n) (k := 6) (r := r) (H' := H11) (by simp) (by simp [eC]) e11]
    simp [eC, Zif, blD]
   have Z := (y9.trans y10).trans y11
   have q12 := y11.old _ _ n9 q10
   have kk2 := y11.old _ _ k6n kk
   by_cases hr0 : r = 0
   ·have hpos : 0 < fs.length := List.length_pos_iff.mpr hne
    obtain ⟨d, H13, dm, e13, y13, _⟩ := Zis (n := n) (s := .ref H9.length) (xs := fs) y11.feed (.inr ⟨_, rfl, n9, q12⟩) hpos (by omega)
    have q13 := y13.old _ _ n9 q12
    have kk3 := y13.old _ _ k6n kk2
    have lt13 : H9.length < H13.length := (List.getElem?_eq_some_iff.mp q13).1
    have W : Ext n H H13 := (X9.trans Z).trans y13
    refine ⟨fs ++ [d], H13.set H9.length (.lst (fs ++ [d])), ?_, by simp [lt13], ?_, ?_, ?_, ?_⟩
    ·unfold sIf tAn
     rw [t1]
     simp only [Zb, ht, if_true, t2]
     have hs : fs.length < sizeLine := by omega
     simp [hr0, Zan, Zch, eLM, Zae, Zkq, q12, Zab, Zaj, Zal, e13, Zcz, q13, hs, Zas]
    ·intro z hz
     rcases List.mem_append.mp hz with hz | hz
     ·exact g9 z hz
     ·simp at hz; subst hz; exact g9 _ dm
    ·refine ⟨?_, fun m o hm q => ?_, by simpa using W.len⟩
     ·obtain ⟨a, b, f⟩ := W.feed
      exact ⟨a, b, by rw [List.getElem?_set_ne n9]; exact f⟩
     ·have : m < H.length := (List.getElem?_eq_some_iff.mp q).1
      rw [List.getElem?_set_ne (by omega)]; exact W.old m o hm q
    ·rw [List.getElem?_set_ne (Ne.symm k69)]; exact kk3
    ·simp; omega
   ·refine ⟨fs, H11, ?_, q12, g9, X9.trans Z, kk2, by omega⟩
    unfold sIf tAn
    rw [t1]
    simp only [Zb, ht, if_true, t2]
    simp [hr0, Zas]
 obtain ⟨fs2, H12, e12, q12, g12, X12, kk, lf2⟩ := s7
 refine ⟨ks2, Zi2 fs2 none (some rows), H12 ++ [.lst (Zi2 fs2 none (some rows))], ?_, g6, by omega, ?_, ?_, X12.trans (Ext.app X12.feed _)⟩
 ·have n12 : H12.length ≠ k6 := Nat.ne_of_gt (List.getElem?_eq_some_iff.mp kk).1
  have z2 : (2 : Nat) ≤ sizeLine := by omega
  have ret : Zb5 (Zgp (Zab (eCB Zdg (Zab (Zae 5) Zaj)) (Zab (eCB Zdg (Zab (eSl (Zae 7) Zfu (Zfm (Zae 2))) Zaj)) Zaj))) [some (.ref n), some (.int most), some (.int rows), some (.int many), some (.int way), some (.ref k6), some (.int size), some (.ref H9.length)] H12
    = some (.rt (.tup [.tup ks2, .tup (Zi2 fs2 none (some rows))]), [some (.ref n), some (.int most), some (.int rows), some (.int many), some (.int way), some (.ref k6), some (.int size), some (.ref H9.length)], H12 ++ [.lst (Zi2 fs2 none (some rows))]) := by
   simp [Zb5, Zgp, Zab, Zaj, eCB, Zdg, Zae, Zf7, kk, eSl, Zfu, Zfm, slD, q12, mkT, z2]
  show ((Zc7 [some (.ref n), some (.int most), some (.int rows), none, none, none, none, none] H).bind _) = _
  unfold Zc7
  rw [Zbh (s1 _ _ _ _ _), Zbh (s2 _ _ _ _), Zbh (s3 _ _ _), Zbh (e6 _ _), Zbh (s5 _ _), Zbh (s6 _), Zbh e12, Zgx ret]
  rfl
 ·intro d hd
  have hm : (ks2.length : Int) = many := by omega
  rw [hm]
  exact g12 d (List.mem_of_mem_drop (List.mem_of_mem_take hd))
 ·unfold Zi2
  have : HT.sIx fs2.length 0 none = 0 := rfl
  have h2 : HT.sIx fs2.length fs2.length (some rows) = min rows.toNat fs2.length := by
   show (if rows < 0 then _ else _) = _
   rw [if_neg (by omega)]
  rw [this, h2]
  simp only [List.length_take, List.length_drop]
  omega
theorem Znj (H : HD) (n : Nat) (x : Str) : toP H n (.str x) = some (.str x) := by cases n <;> rw [toP]
theorem Ze8 {x : Str} (h : (x.cps.toList.all fun c => decide (c < 0x110000)) = true) : PyData.strOk x = true := by
 unfold PyData.strOk
 rw [← Array.all_toList]
 exact h
theorem Zu6 (xs : List D) (k : Nat) : Zi2 xs (some (k : Int)) none = xs.drop k := by
 unfold Zi2
 have h1 : HT.sIx xs.length 0 (some (k : Int)) = min k xs.length := by
  show (if (k : Int) < 0 then ((k : Int) + (xs.length : Int)).toNat else min (k : Int).toNat xs.length) = min k xs.length
  rw [if_neg (by omega), Int.toNat_natCast]
 have h2 : HT.sIx xs.length xs.length none = xs.length := rfl
 rw [h1, h2]
 by_cases h : k ≤ xs.length
 ·rw [Nat.min_eq_left h]
  exact List.take_of_length_le (by simp)
 ·rw [Nat.min_eq_right (by omega), List.drop_of_length_le (Nat.le_refl _), List.drop_of_length_le (by omega)]
  simp
theorem ac {f : EF} {g : AF} {σ : SD} {H H1 H2 : HD} {d : D} {ds : List D} (h1 : f σ H = some (d, H1)) (h2 : g σ H1 = some (ds, H2)) : Zab f g σ H = some (d :: ds, H2) := by
 unfold Zab; rw [h1]; simp only [Zb]; rw [h2]; rfl
theorem an {σ : SD} {H : HD} : Zaj σ H = some ([], H) := rfl
theorem cb {g : FF} {f : AF} {σ : SD} {H H1 : HD} {ds : List D} {r : Option (D × HD)} (h1 : f σ H = some (ds, H1)) (h2 : g ds H1 = r) : eCB g f σ H = r := by
 unfold eCB; rw [h1]; exact h2
theorem tu {n : Nat} {xs : List D} {H : HD} (h : H[n]? = some (.lst xs)) : Zdg [.ref n] H = some (.tup xs, H) := by
 simp [Zdg, Zf7, h]
theorem tp {f : AF} {σ : SD} {H H1 : HD} {ds : List D} (h1 : f σ H = some (ds, H1)) (h2 : ds.length ≤ 1000000) : Zgp f σ H = some (.tup ds, H1) := by
 unfold Zgp; rw [h1]; exact if_pos (Zfc h2)
theorem ls {f : AF} {σ : SD} {H H1 : HD} {ds : List D} (h1 : f σ H = some (ds, H1)) (h2 : ds.length ≤ 1000000) : Zdn f σ H = some (.ref H1.length, H1 ++ [.lst ds]) := by
 unfold Zdn; rw [h1]; exact if_pos (Zfc h2)
theorem ca {n : Nat} {F : FF} {f : AF} {σ : SD} {H H1 : HD} {ds : List D} {r : Option (D × HD)} (h1 : f σ H = some (ds, H1)) (hl : ds.length = n) (h2 : F ds H1 = r) : Zal n F f σ H = r := by
 unfold Zal; rw [h1]; simp only [Zb]; rw [if_pos hl]; exact h2
theorem rt {f : EF} {σ : SD} {H H1 : HD} {d : D} (h : f σ H = some (d, H1)) : Zb5 f σ H = some (.rt d, σ, H1) := by
 unfold Zb5; rw [h]; rfl
theorem op {g : F2} {fa fb : EF} {σ : SD} {H H1 H2 : HD} {d1 d2 : D} {r : Option (D × HD)} (h1 : fa σ H = some (d1, H1)) (h2 : fb σ H1 = some (d2, H2)) (h3 : g d1 d2 H2 = r) : eOp g fa fb σ H = r := by
 unfold eOp; rw [h1]; simp only [Zb]; rw [h2]; exact h3
theorem Zlx {t : TF} {f g : SF} {σ : SD} {H H1 : HD} {b : Bool} (h : t σ H = some (b, H1)) : sIf t f g σ H = if b = true then f σ H1 else g σ H1 := by
 unfold sIf; rw [h]; rfl
theorem tof {f : EF} {σ : SD} {H H1 : HD} {b : Bool} (h : f σ H = some (.bl b, H1)) : tOf f σ H = some (b, H1) := by
 unfold tOf; rw [h]; rfl
theorem lenT (xs : List D) (H : HD) : Zd8 [.tup xs] H = some (.int xs.length, H) := by simp [Zd8, Zf7]
theorem lenB (bs : List Bool) (H : HD) : Zd8 [.tup (bs.map .bl)] H = some (.int bs.length, H) := by simp [Zd8, Zf7]
theorem ixT {xs : List D} {i : Int} {d : D} {H : HD} (h : atI xs i = some d) : ixD (.tup xs) (.int i) H = some (d, H) := by simp [ixD, Zf7, h]
theorem skip {t : TF} {f g : SF} {σ : SD} {H H1 : HD} (h : t σ H = some (false, H1)) : Zan (sIf t f Zas) g σ H = g σ H1 := by
 refine Zbh ?_
 rw [Zlx h]
 rfl
theorem hit {t : TF} {f f2 g : SF} {σ σ1 : SD} {H H1 H2 : HD} {d : D} (h : t σ H = some (true, H1)) (h2 : f σ H1 = some (.rt d, σ1, H2)) : Zan (sIf t (Zan f Zas) f2) g σ H = some (.rt d, σ1, H2) := by
 refine Zgx ?_
 rw [Zlx h]
 exact Zgx h2
theorem vr {i : Nat} {σ : SD} {H : HD} {d : D} (h : σ[i]? = some (some d)) : Zae i σ H = some (d, H) := by simp [Zae, h]
theorem sl {fe : EF} {fl fh : OF} {σ : SD} {H H1 H2 H3 : HD} {d : D} {l h : Option Int} {r : Option (D × HD)} (h1 : fe σ H = some (d, H1)) (h2 : fl σ H1 = some (l, H2)) (h3 : fh σ H2 = some (h, H3)) (h4 : slD d l h H3 = r) : eSl fe fl fh σ H = r := by
 unfold eSl; rw [h1]; simp only [Zb]; rw [h2]; simp only [Zb]; rw [h3]; exact h4
theorem os {f : EF} {σ : SD} {H H1 : HD} {i : Int} (h : f σ H = some (.int i, H1)) : Zfm f σ H = some (some i, H1) := by
 unfold Zfm; rw [h]; rfl
theorem on {σ : SD} {H : HD} : Zfu σ H = some (none, H) := rfl
theorem sllo {xs : List D} {k : Nat} {H : HD} : slD (.tup xs) (some (k : Int)) none H = some (.tup (xs.drop k), H) := by
 rw [← Zu6]; rfl
theorem adT {xs ys : List D} {H : HD} (h : xs.length + ys.length ≤ 1000000) : Zc1 (.tup xs) (.tup ys) H = some (.tup (xs ++ ys), H) :=
 if_pos (Zfc (by rw [List.length_append]; exact h))
theorem adI (i j : Int) (H : HD) : Zc1 (.int i) (.int j) H = some (.int (i + j), H) := rfl
theorem suI (i j : Int) (H : HD) : Zkg (.int i) (.int j) H = some (.int (i - j), H) := by simp [Zkg, iiD, CT]
noncomputable def IsB (d : D) : Prop := ∃ b : Bool, d = .bl b
theorem Zzy : ∀ ds : List D, (∀ d ∈ ds, IsB d) -> ∃ bs : List Bool, ds = bs.map .bl
 | [], _ => ⟨[], rfl⟩
 | d :: ds, h => by
  obtain ⟨b, rfl⟩ := h d (by simp)
  obtain ⟨bs, rfl⟩ := Zzy ds fun x hx => h x (by simp [hx])
  exact ⟨b :: bs, rfl⟩
theorem Zqc {n : Nat} {H : HD} (k : Nat) (hf : ∃ a b, H[n]? = some (.lst [.int a, .int b])) :
  ∃ (bs : List Bool) (H' : HD), Zdh [] [some (.ref n)] Zgm (eOp eqD (Zal 2 Zai (Zab (Zae 1) (Zab (eC (.int 2)) Zaj))) (eC (.int 1))) (Zbw 0 k) H = some (bs.map .bl, H') ∧ bs.length = k ∧ Ext n H H' := by
 obtain ⟨ds, H2, e2, g2, l2, x2⟩ := Zgs (n := n) (c0 := [some (.ref n)]) (te := eOp eqD (Zal 2 Zai (Zab (Zae 1) (Zab (eC (.int 2)) Zaj))) (eC (.int 1))) (Ok := IsI) (Good := IsB) (fun x H _ hf => by
   obtain ⟨r, H', r0, r1, e, y, _⟩ := Zem (n := n) (k := 2) hf (by omega) (by omega)
   exact ⟨.bl (r == 1), H', by simp [eOp, Zal, Zab, Zaj, Zae, eC, e, Zif], ⟨_, rfl⟩, y⟩) (Zbw 0 k) H (Zk9 _ _) hf
 obtain ⟨bs, rfl⟩ := Zzy ds g2
 rw [Zg2] at l2
 exact ⟨bs, H2, e2, by simpa using l2, x2⟩
noncomputable def Zb1 (ls : List Int) : D := .tup (ls.map .int)
noncomputable def Zdt : SF :=
 (Zan (Zbd 2 (eC (.int 0)))
 (Zan (sIf (tOf (eOp ltD (Zae 1) (eCB Zd8 (Zab (Zae 0) Zaj)))) (Zan (Zbd 2 (eOp ixD (Zae 0) (Zae 1)))
 Zas) Zas)
 (Zan (Zbd 3 (eC (.int 0)))
 (Zan (sIf (tOf (eOp geD (Zae 2) (eOp Znw (eC (.int 10)) (eC (.int 18))))) (Zan (Zbd 3 (eOp Zkg (Zae 2) (eOp Znw (eC (.int 10)) (eC (.int 18)))))
 Zas) Zas)
 (Zan (Zbd 4 (eOp Zgn (eOp Zc1 (eOp Zc1 (eOp Ziz (eOp Zgn (Zae 2) (eC (.int 2147483647))) (eC (.int 48271))) (eOp Ziz (eC (.int 7919)) (Zae 1))) (eC (.int 5))) (eC (.int 2147483629))))
 (Zan (Zb5 (Zdn (Zab (Zae 3) (Zab (eOp Zc1 (eOp Zgn (eOp Znw (Zae 4) (eC (.int 5))) (eC (.int 2147483587))) (eC (.int 1))) Zaj))))
 Zas))))))
noncomputable def Zc8 : FF := Zbq 2 5 Zdt
theorem Zvl (ns : List Int) (at_ : Int) (h0 : 0 ≤ at_) (h1 : at_ < 1000) (H : HD) : ∃ a b, Zc8 [.fl (ns.map .int), .int at_] H = some (.ref H.length, H ++ [.lst [.int a, .int b]]) := by
 have z2 : (2 : Nat) ≤ sizeLine := Zfc (by omega)
 have c0 : Zxu 10 18 := ⟨by decide, by decide, by decide⟩
 have c1 : ∀ z k, 0 < k -> Zpn z k := fun _ _ h => h
 have c2 : ∀ z, Zr5 z 48271 := fun _ => .inr ⟨by decide, by decide⟩
 have c3 : ∀ z, Zr5 7919 z := fun _ => .inl ⟨by decide, by decide⟩
 have p18 : ((10 : Int) ^ (18 : Int).toNat) = 1000000000000000000 := by decide
 have run : ∀ v : Int, ∃ a b, (Zan (Zbd 3 (eC (.int 0)))
 (Zan (sIf (tOf (eOp geD (Zae 2) (eOp Znw (eC (.int 10)) (eC (.int 18))))) (Zan (Zbd 3 (eOp Zkg (Zae 2) (eOp Znw (eC (.int 10)) (eC (.int 18)))))
 Zas) Zas)
 (Zan (Zbd 4 (eOp Zgn (eOp Zc1 (eOp Zc1 (eOp Ziz (eOp Zgn (Zae 2) (eC (.int 2147483647))) (eC (.int 48271))) (eOp Ziz (eC (.int 7919)) (Zae 1))) (eC (.int 5))) (eC (.int 2147483629))))
 (Zan (Zb5 (Zdn (Zab (Zae 3) (Zab (eOp Zc1 (eOp Zgn (eOp Znw (Zae 4) (eC (.int 5))) (eC (.int 2147483587))) (eC (.int 1))) Zaj))))
 Zas)))) [some (.fl (ns.map .int)), some (.int at_), some (.int v), none, none] H = some (.rt (.ref H.length), [some (.fl (ns.map .int)), some (.int at_), some (.int v), some (.int a), some (.int b)], H ++ [.lst [.int a, .int (b ^ 5 % 2147483587 + 1)]]) := by
  intro v
  let a : Int := if (1000000000000000000 : Int) ≤ v then v - 1000000000000000000 else 0
  let b : Int := (v % 2147483647 * 48271 + 7919 * at_ + 5) % 2147483629
  refine ⟨a, b, ?_⟩
  have hb : 0 ≤ b ∧ b < 2147483629 := ⟨Int.emod_nonneg _ (by decide), Int.emod_lt_of_pos _ (by decide)⟩
  have c4 : Zxu b 5 := ⟨by decide, by decide, by omega⟩
  have s1 : Zbd 3 (eC (.int 0)) [some (.fl (ns.map .int)), some (.int at_), some (.int v), none, none] H = some (.nx, [some (.fl (ns.map .int)), some (.int at_), some (.int v), some (.int 0), none], H) := rfl
  have s2 : sIf (tOf (eOp geD (Zae 2) (eOp Znw (eC (.int 10)) (eC (.int 18))))) (Zan (Zbd 3 (eOp Zkg (Zae 2) (eOp Znw (eC (.int 10)) (eC (.int 18))))) Zas) Zas [some (.fl (ns.map .int)), some (.int at_), some (.int v), some (.int 0), none] H = some (.nx, [some (.fl (ns.map .int)), some (.int at_), some (.int v), some (.int a), none], H) := by
   by_cases hv : (1000000000000000000 : Int) ≤ v
   ·simp [sIf, tOf, eOp, geD, Zae, Znw, eC, iiD, CT, c0, blD, hv, Zan, Zbd, Zkg, Zas, a]
   ·simp [sIf, tOf, eOp, geD, Zae, Znw, eC, iiD, CT, c0, blD, hv, Zas, a]
  have s3 : Zbd 4 (eOp Zgn (eOp Zc1 (eOp Zc1 (eOp Ziz (eOp Zgn (Zae 2) (eC (.int 2147483647))) (eC (.int 48271))) (eOp Ziz (eC (.int 7919)) (Zae 1))) (eC (.int 5))) (eC (.int 2147483629))) [some (.fl (ns.map .int)), some (.int at_), some (.int v), some (.int a), none] H = some (.nx, [some (.fl (ns.map .int)), some (.int at_), some (.int v), some (.int a), some (.int b)], H) := by
   have d1 : Zpn v 2147483647 := c1 _ _ (by decide)
   have d2 : Zpn (v % 2147483647 * 48271 + 7919 * at_ + 5) 2147483629 := c1 _ _ (by decide)
   simp [Zbd, eOp, Zgn, Zae, eC, iiD, d1, Ziz, c2, c3, Zc1, d2, b]
  rw [Zbh s1, Zbh s2, Zbh s3]
  have d3 : Zpn (b ^ 5) 2147483587 := c1 _ _ (by decide)
  refine Zgx ?_
  simp [Zb5, Zdn, Zab, Zaj, Zae, eOp, Znw, eC, iiD, c4, Zgn, d3, Zc1, mkL, z2]
 show ∃ a b, ((Zdt [some (.fl (ns.map .int)), some (.int at_), none, none, none] H).bind _) = _
 unfold Zdt
 have s1 : Zbd 2 (eC (.int 0)) [some (.fl (ns.map .int)), some (.int at_), none, none, none] H = some (.nx, [some (.fl (ns.map .int)), some (.int at_), some (.int 0), none, none], H) := rfl
 have s2 : ∃ v : Int, sIf (tOf (eOp ltD (Zae 1) (eCB Zd8 (Zab (Zae 0) Zaj)))) (Zan (Zbd 2 (eOp ixD (Zae 0) (Zae 1))) Zas) Zas [some (.fl (ns.map .int)), some (.int at_), some (.int 0), none, none] H = some (.nx, [some (.fl (ns.map .int)), some (.int at_), some (.int v), none, none], H) := by
  by_cases hl : at_ < (ns.length : Int)
  ·have hn : at_.toNat < ns.length := by omega
   refine ⟨ns[at_.toNat], ?_⟩
   have e : atI (ns.map D.int) at_ = some (D.int ns[at_.toNat]) := Zes h0 (by rw [List.getElem?_map, List.getElem?_eq_getElem hn]; rfl)
   simp [sIf, tOf, eOp, ltD, Zae, eCB, Zab, Zaj, Zd8, Zf7, iiD, CT, blD, hl, Zan, Zbd, ixD, e, Zas]
  ·refine ⟨0, ?_⟩
   simp [sIf, tOf, eOp, ltD, Zae, eCB, Zab, Zaj, Zd8, Zf7, iiD, CT, blD, hl, Zas]
 obtain ⟨v, s2⟩ := s2
 obtain ⟨a, b, e⟩ := run v
 refine ⟨a, b ^ 5 % 2147483587 + 1, ?_⟩
 rw [Zbh s1, Zbh s2, e]
 rfl
theorem orF {t u : TF} {σ : SD} {H H1 : HD} (h : t σ H = some (false, H1)) : Zmu t u σ H = u σ H1 := by unfold Zmu; rw [h]; rfl
theorem orT {t u : TF} {σ : SD} {H H1 : HD} (h : t σ H = some (true, H1)) : Zmu t u σ H = some (true, H1) := by unfold Zmu; rw [h]; rfl
theorem anF {t u : TF} {σ : SD} {H H1 : HD} (h : t σ H = some (false, H1)) : tAn t u σ H = some (false, H1) := by unfold tAn; rw [h]; rfl
theorem anT {t u : TF} {σ : SD} {H H1 : HD} (h : t σ H = some (true, H1)) : tAn t u σ H = u σ H1 := by unfold tAn; rw [h]; rfl
theorem Zy0 {H : HD} {p : Nat} {bs : List Bool} (h : H[p]? = some (.lst (bs.map .bl))) : Zwf [.ref p] H = some (.bl (bs.all id), H) := by
 simp [Zwf, h, Ztk]
end LH
namespace WP
open PySem L2 DL LH
noncomputable def wE (r : Option (D × HD)) (Q : D -> HD -> Prop) : Prop := ∃ d H, r = some (d, H) ∧ Q d H
noncomputable def wT (r : Option (Bool × HD)) (Q : Bool -> HD -> Prop) : Prop := ∃ d H, r = some (d, H) ∧ Q d H
noncomputable def wA (r : Option (List D × HD)) (Q : List D -> HD -> Prop) : Prop := ∃ d H, r = some (d, H) ∧ Q d H
noncomputable def wO (r : Option (Option Int × HD)) (Q : Option Int -> HD -> Prop) : Prop := ∃ d H, r = some (d, H) ∧ Q d H
noncomputable def wI (r : Option ((List D × Zhl) × HD)) (Q : List D -> Zhl -> HD -> Prop) : Prop := ∃ d o H, r = some ((d, o), H) ∧ Q d o H
noncomputable def wG (r : Option (SD × HD)) (Q : SD -> HD -> Prop) : Prop := ∃ d H, r = some (d, H) ∧ Q d H
noncomputable def wH (r : Option HD) (Q : HD -> Prop) : Prop := ∃ H, r = some H ∧ Q H
noncomputable def wS (r : Option (FD × SD × HD)) (Q : FD -> SD -> HD -> Prop) : Prop := ∃ x d H, r = some (x, d, H) ∧ Q x d H
noncomputable def wN (n : Nat) (F : FF) (ds : List D) (H : HD) (Q : D -> HD -> Prop) : Prop := ds.length = n ∧ wE (F ds H) Q
noncomputable def br (b : Bool) (P Q : Prop) : Prop := (b = true -> P) ∧ (b = false -> Q)
noncomputable def Zzp (k : SD -> HD -> Prop) (Q : FD -> SD -> HD -> Prop) : FD -> SD -> HD -> Prop
 | .nx, σ, H => k σ H
 | r, σ, H => Q r σ H
noncomputable def fin (Q : D -> HD -> Prop) : FD -> SD -> HD -> Prop
 | .rt d, _, H => Q d H
 | .nx, _, H => Q .non H
 | _, _, _ => False
section
variable {σ : SD} {H : HD} {Q : D -> HD -> Prop}
theorem w_var {i : Nat} {d : D} (h : (σ[i]?).join = some d) (q : Q d H) : wE (Zae i σ H) Q := ⟨d, H, by unfold Zae; rw [h]; rfl, q⟩
theorem w_c {d : D} (q : Q d H) : wE (eC d σ H) Q := ⟨d, H, rfl, q⟩
theorem w_op {g : F2} {fa fb : EF} (h : wE (fa σ H) fun x H1 => wE (fb σ H1) fun y H2 => wE (g x y H2) Q) : wE (eOp g fa fb σ H) Q := by
 obtain ⟨x, H1, e1, y, H2, e2, d, H3, e3, q⟩ := h
 exact ⟨d, H3, op e1 e2 e3, q⟩
theorem w_un {g : D -> HD -> Option (D × HD)} {fa : EF} (h : wE (fa σ H) fun x H1 => wE (g x H1) Q) : wE (eUn g fa σ H) Q := by
 obtain ⟨x, H1, e1, d, H3, e3, q⟩ := h
 exact ⟨d, H3, by unfold eUn; rw [e1]; exact e3, q⟩
theorem w_tof {f : EF} {Q : Bool -> HD -> Prop} (h : wE (f σ H) fun d H1 => ∃ b, d = .bl b ∧ Q b H1) : wT (tOf f σ H) Q := by
 obtain ⟨d, H1, e, b, rfl, q⟩ := h
 exact ⟨b, H1, tof e, q⟩
theorem w_bl {b : Bool} {P : Bool -> Prop} (h : P b) : ∃ c, D.bl b = .bl c ∧ P c := ⟨b, rfl, h⟩
theorem w_ttru {f : EF} {Q : Bool -> HD -> Prop} (h : wE (f σ H) fun d H1 => ∃ b, Zr6 d H1 = some b ∧ Q b H1) : wT (Zja f σ H) Q := by
 obtain ⟨d, H1, e, b, e2, q⟩ := h
 exact ⟨b, H1, by unfold Zja; rw [e]; simp only [Zb]; rw [e2]; rfl, q⟩
theorem w_no {t : TF} {Q : Bool -> HD -> Prop} (h : wT (t σ H) fun b H1 => Q (!b) H1) : wT (tNo t σ H) Q := by
 obtain ⟨b, H1, e, q⟩ := h
 exact ⟨!b, H1, by unfold tNo; rw [e]; rfl, q⟩
theorem w_an {t u : TF} {Q : Bool -> HD -> Prop} (h : wT (t σ H) fun b H1 => br b (wT (u σ H1) Q) (Q false H1)) : wT (tAn t u σ H) Q := by
 obtain ⟨b, H1, e, q1, q2⟩ := h
 cases b with
 | true => obtain ⟨c, H2, e2, q⟩ := q1 rfl; exact ⟨c, H2, (anT e).trans e2, q⟩
 | false => exact ⟨false, H1, anF e, q2 rfl⟩
theorem w_or {t u : TF} {Q : Bool -> HD -> Prop} (h : wT (t σ H) fun b H1 => br b (Q true H1) (wT (u σ H1) Q)) : wT (Zmu t u σ H) Q := by
 obtain ⟨b, H1, e, q1, q2⟩ := h
 cases b with
 | true => exact ⟨true, H1, orT e, q1 rfl⟩
 | false => obtain ⟨c, H2, e2, q⟩ := q2 rfl; exact ⟨c, H2, (orF e).trans e2, q⟩
theorem w_eno {f : EF} (h : wE (f σ H) fun d H1 => ∃ b, d = .bl b ∧ Q (.bl (!b)) H1) : wE (eNo f σ H) Q := by
 obtain ⟨d, H1, e, b, rfl, q⟩ := h
 exact ⟨.bl (!b), H1, by unfold eNo; rw [e]; rfl, q⟩
theorem w_ean {f g : EF} (h : wE (f σ H) fun d H1 => ∃ b, d = .bl b ∧ br b (wE (g σ H1) Q) (Q (.bl false) H1)) : wE (eAn f g σ H) Q := by
 obtain ⟨d, H1, e, b, rfl, q1, q2⟩ := h
 unfold eAn
 rw [e]; simp only [Zb, blD]
 cases b with
 | true => rw [if_pos rfl]; exact q1 rfl
 | false => rw [if_neg (by simp)]; exact ⟨_, _, rfl, q2 rfl⟩
theorem w_eorr {f g : EF} (h : wE (f σ H) fun d H1 => ∃ b, d = .bl b ∧ br b (Q (.bl true) H1) (wE (g σ H1) Q)) : wE (eOrr f g σ H) Q := by
 obtain ⟨d, H1, e, b, rfl, q1, q2⟩ := h
 unfold eOrr
 rw [e]; simp only [Zb, blD]
 cases b with
 | true => rw [if_pos rfl]; exact ⟨_, _, rfl, q1 rfl⟩
 | false => rw [if_neg (by simp)]; exact q2 rfl
theorem w_eif {t : TF} {f g : EF} (h : wT (t σ H) fun b H1 => br b (wE (f σ H1) Q) (wE (g σ H1) Q)) : wE (eIf t f g σ H) Q := by
 obtain ⟨b, H1, e, q1, q2⟩ := h
 unfold eIf
 rw [e]; simp only [Zb]
 cases b with
 | true => rw [if_pos rfl]; exact q1 rfl
 | false => rw [if_neg (by simp)]; exact q2 rfl
theorem w_anil {Q : List D -> HD -> Prop} (q : Q [] H) : wA (Zaj σ H) Q := ⟨[], H, rfl, q⟩
theorem w_acons {f : EF} {g : AF} {Q : List D -> HD -> Prop} (h : wE (f σ H) fun d H1 => wA (g σ H1) fun ds H2 => Q (d :: ds) H2) : wA (Zab f g σ H) Q := by
 obtain ⟨d, H1, e1, ds, H2, e2, q⟩ := h
 exact ⟨d :: ds, H2, ac e1 e2, q⟩
theorem w_cb {g : FF} {f : AF} (h : wA (f σ H) fun ds H1 => wE (g ds H1) Q) : wE (eCB g f σ H) Q := by
 obtain ⟨ds, H1, e1, d, H2, e2, q⟩ := h
 exact ⟨d, H2, cb e1 e2, q⟩
theorem w_call {n : Nat} {F : FF} {f : AF} (h : wA (f σ H) fun ds H1 => wN n F ds H1 Q) : wE (Zal n F f σ H) Q := by
 obtain ⟨ds, H1, e1, hl, d, H2, e2, q⟩ := h
 exact ⟨d, H2, ca e1 hl e2, q⟩
theorem w_n {n : Nat} {F : FF} {ds : List D} (hl : ds.length = n) (h : wE (F ds H) Q) : wN n F ds H Q := ⟨hl, h⟩
theorem w_tup {f : AF} (h : wA (f σ H) fun ds H1 => ds.length ≤ 1000000 ∧ Q (.tup ds) H1) : wE (Zgp f σ H) Q := by
 obtain ⟨ds, H1, e1, hl, q⟩ := h
 exact ⟨_, H1, tp e1 hl, q⟩
theorem w_lst {f : AF} (h : wA (f σ H) fun ds H1 => ds.length ≤ 1000000 ∧ Q (.ref H1.length) (H1 ++ [.lst ds])) : wE (Zdn f σ H) Q := by
 obtain ⟨ds, H1, e1, hl, q⟩ := h
 exact ⟨_, _, ls e1 hl, q⟩
theorem w_lm {g : D -> List D -> HD -> Option (D × HD)} {fo : EF} {f : AF} (h : wE (fo σ H) fun o H1 => Zkq o H1 = true ∧ wA (f σ H1) fun ds H2 => wE (g o ds H2) Q) : wE (eLM g fo f σ H) Q := by
 obtain ⟨o, H1, e1, i, ds, H2, e2, d, H3, e3, q⟩ := h
 exact ⟨d, H3, by unfold eLM; rw [e1]; simp only [Zb]; rw [if_pos i, e2]; exact e3, q⟩
theorem w_on {Q : Option Int -> HD -> Prop} (q : Q none H) : wO (Zfu σ H) Q := ⟨none, H, rfl, q⟩
theorem w_os {f : EF} {Q : Option Int -> HD -> Prop} (h : wE (f σ H) fun d H1 => ∃ i, d = .int i ∧ Q (some i) H1) : wO (Zfm f σ H) Q := by
 obtain ⟨d, H1, e, i, rfl, q⟩ := h
 exact ⟨some i, H1, os e, q⟩
theorem w_int {i : Int} {P : Int -> Prop} (h : P i) : ∃ c, D.int i = .int c ∧ P c := ⟨i, rfl, h⟩
theorem w_sl {fe : EF} {fl fh : OF} (h : wE (fe σ H) fun x H1 => wO (fl σ H1) fun l H2 => wO (fh σ H2) fun u H3 => wE (slD x l u H3) Q) : wE (eSl fe fl fh σ H) Q := by
 obtain ⟨x, H1, e1, l, H2, e2, u, H3, e3, d, H4, e4, q⟩ := h
 exact ⟨d, H4, sl e1 e2 e3 e4, q⟩
variable {R : FD -> SD -> HD -> Prop}
theorem w_snil (q : R .nx σ H) : wS (Zas σ H) R := ⟨_, _, _, rfl, q⟩
theorem w_seq {f g : SF} (h : wS (f σ H) (Zzp (fun σ1 H1 => wS (g σ1 H1) R) R)) : wS (Zan f g σ H) R := by
 obtain ⟨x, σ1, H1, e, k⟩ := h
 unfold Zan
 rw [e]; simp only [Zb]
 cases x with
 | nx => exact k
 | bk => exact ⟨_, _, _, rfl, k⟩
 | ct => exact ⟨_, _, _, rfl, k⟩
 | rt d => exact ⟨_, _, _, rfl, k⟩
theorem w_kn {k : SD -> HD -> Prop} (h : k σ H) : Zzp k R .nx σ H := h
theorem w_kr {k : SD -> HD -> Prop} {d : D} (h : R (.rt d) σ H) : Zzp k R (.rt d) σ H := h
theorem Zmd {r : Option (FD × SD × HD)} {k : SD -> HD -> Prop} (J : SD -> HD -> Prop) (h : wS r fun x σ H => x = .nx ∧ J σ H) (q : ∀ σ H, J σ H -> k σ H) : wS r (Zzp k R) := by
 obtain ⟨x, s, H, e, rfl, j⟩ := h
 exact ⟨_, s, H, e, q s H j⟩
theorem w_fr {d : D} (h : Q d H) : fin Q (.rt d) σ H := h
theorem w_fn (h : Q .non H) : fin Q .nx σ H := h
theorem w_ret {f : EF} (h : wE (f σ H) fun d H1 => R (.rt d) σ H1) : wS (Zb5 f σ H) R := by
 obtain ⟨d, H1, e, q⟩ := h; exact ⟨_, _, _, rt e, q⟩
theorem w_expr {f : EF} (h : wE (f σ H) fun d H1 => R .nx σ H1) : wS (Zch f σ H) R := by
 obtain ⟨d, H1, e, q⟩ := h; exact ⟨_, _, _, by unfold Zch; rw [e]; rfl, q⟩
theorem w_if {t : TF} {f g : SF} (h : wT (t σ H) fun b H1 => br b (wS (f σ H1) R) (wS (g σ H1) R)) : wS (sIf t f g σ H) R := by
 obtain ⟨b, H1, e, q1, q2⟩ := h
 rw [Zlx e]
 cases b with
 | true => rw [if_pos rfl]; exact q1 rfl
 | false => rw [if_neg (by simp)]; exact q2 rfl
theorem w_set {i : Nat} {f : EF} (h : wE (f σ H) fun d H1 => R .nx (σ.set i (some d)) H1) : wS (Zbd i f σ H) R := by
 obtain ⟨d, H1, e, q⟩ := h; exact ⟨_, _, _, by unfold Zbd; rw [e]; rfl, q⟩
theorem w_asg {f : EF} {g : GF} (h : wE (f σ H) fun d H1 => wG (g d σ H1) fun σ2 H2 => R .nx σ2 H2) : wS (Zla f g σ H) R := by
 obtain ⟨d, H1, e, σ2, H2, e2, q⟩ := h; exact ⟨_, _, _, by unfold Zla; rw [e]; simp only [Zb]; rw [e2]; rfl, q⟩
theorem w_gnm {i : Nat} {d : D} {Q : SD -> HD -> Prop} (h : Q (σ.set i (some d)) H) : wG (gNm i d σ H) Q := ⟨_, _, rfl, h⟩
theorem w_gsb {fo fi : EF} {g : Zxo} {d : D} {Q : SD -> HD -> Prop} (h : wE (fo σ H) fun o H1 => wE (fi σ H1) fun i H2 => wH (g o i d H2) fun H3 => Q σ H3) : wG (gSb fo fi g d σ H) Q := by
 obtain ⟨o, H1, e1, i, H2, e2, H3, e3, q⟩ := h
 exact ⟨σ, H3, by unfold gSb; rw [e1]; simp only [Zb]; rw [e2]; simp only [Zb]; rw [e3]; rfl, q⟩
theorem w_gtp {n : Nat} {g : GFs} {ds : List D} {Q : SD -> HD -> Prop} (hl : ds.length = n) (h : wG (g ds σ H) Q) : wG (gTp n g (.tup ds) σ H) Q := by
 obtain ⟨s, H1, e, q⟩ := h
 exact ⟨s, H1, by unfold gTp; simp only [if_pos hl]; exact e, q⟩
theorem w_gnl {Q : SD -> HD -> Prop} (h : Q σ H) : wG (gNl [] σ H) Q := ⟨_, _, rfl, h⟩
theorem w_gcn {g : GF} {h : GFs} {d : D} {r : List D} {Q : SD -> HD -> Prop} (q : wG (g d σ H) fun σ1 H1 => wG (h r σ1 H1) Q) : wG (gCn g h (d :: r) σ H) Q := by
 obtain ⟨s, H1, e, s2, H2, e2, q⟩ := q
 exact ⟨s2, H2, by unfold gCn; simp only; rw [e]; exact e2, q⟩
theorem w_for {it : ItF} {g : GF} {b : SF} (h : wI (it σ H) fun xs own H1 => wS (Zf6 own g b xs σ H1) R) : wS (Zhi it g b σ H) R := by
 obtain ⟨xs, own, H1, e, q⟩ := h
 unfold Zhi; rw [e]; exact q
theorem Zcm {n N : Nat} {b : SF} {ds : List D} (hl : ds.length = n) (h : wS (b (ds.map some ++ List.replicate (N - ds.length) none) H) (fin Q)) : wE (Zbq n N b ds H) Q := by
 obtain ⟨x, s, H1, e, q⟩ := h
 unfold Zbq
 rw [if_pos hl, e]
 simp only [Zb]
 cases x with
 | nx => exact ⟨_, _, rfl, q⟩
 | rt d => exact ⟨_, _, rfl, q⟩
 | bk => exact q.elim
 | ct => exact q.elim
theorem w_lc {it : ItF} {ci : List Nat} {tt : TF} {te : EF} (h : wI (it σ H) fun xs own H1 => wA (Zdh own (Zo1 ci σ) tt te xs H1) fun ds H2 => ds.length ≤ 1000000 ∧ Q (.ref H2.length) (H2 ++ [.lst ds])) : wE (eLC it ci tt te σ H) Q := by
 obtain ⟨xs, own, H1, e, ds, H2, e2, hl, q⟩ := h
 exact ⟨_, _, by unfold eLC; rw [e]; simp only [Zb]; rw [e2]; exact if_pos (Zfc hl), q⟩
theorem w_bt {P S : Prop} (h : P) : br true P S := ⟨fun _ => h, nofun⟩
theorem w_bf {P S : Prop} (h : S) : br false P S := ⟨nofun, fun _ => h⟩
theorem w_bnt {P S : Prop} (h : P) : br (!false) P S := ⟨fun _ => h, nofun⟩
theorem w_bnf {P S : Prop} (h : S) : br (!true) P S := ⟨nofun, fun _ => h⟩
theorem w_bT {b : Bool} {P S : Prop} (e : b = true) (h : P) : br b P S := by subst e; exact w_bt h
theorem w_bF {b : Bool} {P S : Prop} (e : b = false) (h : S) : br b P S := by subst e; exact w_bf h
theorem w_sz {ds : List D} {P : Prop} (h : ds.length ≤ 1000000) (q : P) : ds.length ≤ 1000000 ∧ P := ⟨h, q⟩
theorem w_addI {i j : Int} (q : Q (.int (i + j)) H) : wE (Zc1 (.int i) (.int j) H) Q := ⟨_, _, rfl, q⟩
theorem w_subI {i j : Int} (q : Q (.int (i - j)) H) : wE (Zkg (.int i) (.int j) H) Q := ⟨_, _, suI i j H, q⟩
theorem w_lt {i j : Int} (q : Q (.bl (decide (i < j))) H) : wE (ltD (.int i) (.int j) H) Q := ⟨_, _, by simp [ltD, iiD, CT], q⟩
theorem w_gt {i j : Int} (q : Q (.bl (decide (j < i))) H) : wE (gtD (.int i) (.int j) H) Q := ⟨_, _, by simp [gtD, iiD, CT], q⟩
theorem w_ge {i j : Int} (q : Q (.bl (decide (j ≤ i))) H) : wE (geD (.int i) (.int j) H) Q := ⟨_, _, by simp [geD, iiD, CT], q⟩
theorem w_mod {i j : Int} (h : 0 < j) (q : Q (.int (i % j)) H) : wE (Zgn (.int i) (.int j) H) Q := ⟨_, _, by have c : Zpn i j := h; simp [Zgn, iiD, c], q⟩
theorem w_neg {i : Int} (q : Q (.int (-i)) H) : wE (Zlb (.int i) H) Q := ⟨_, _, rfl, q⟩
theorem w_eqI {i j : Int} (q : Q (.bl (i == j)) H) : wE (eqD (.int i) (.int j) H) Q := ⟨_, _, Zif _ _ _, q⟩
theorem w_eqS {a b : Str} (q : Q (.bl (a == b)) H) : wE (eqD (.str a) (.str b) H) Q := ⟨_, _, rfl, q⟩
theorem w_neS {a b : Str} (q : Q (.bl (a != b)) H) : wE (neD (.str a) (.str b) H) Q := ⟨_, _, rfl, q⟩
theorem w_lenT {xs : List D} (q : Q (.int xs.length) H) : wE (Zd8 [.tup xs] H) Q := ⟨_, _, lenT xs H, q⟩
theorem w_lenR {n : Nat} {xs : List D} (h : H[n]? = some (.lst xs)) (q : Q (.int xs.length) H) : wE (Zd8 [.ref n] H) Q := ⟨_, _, by simp [Zd8, Zf7, h], q⟩
theorem w_abs {i : Int} (q : Q (.int (Zbn i)) H) : wE (Zxp [.int i] H) Q := ⟨_, _, rfl, q⟩
theorem w_ixT {xs : List D} {i : Int} {d : D} (h : atI xs i = some d) (q : Q d H) : wE (ixD (.tup xs) (.int i) H) Q := ⟨_, _, ixT h, q⟩
theorem w_ixR {n : Nat} {xs : List D} {i : Int} {d : D} (g : H[n]? = some (.lst xs)) (h : atI xs i = some d) (q : Q d H) : wE (ixD (.ref n) (.int i) H) Q := ⟨_, _, by simp [ixD, Zf7, g, h], q⟩
theorem w_tupR {n : Nat} {xs : List D} (h : H[n]? = some (.lst xs)) (q : Q (.tup xs) H) : wE (Zdg [.ref n] H) Q := ⟨_, _, tu h, q⟩
theorem Zx6 {n : Nat} {xs : List D} {d : D} (h : H[n]? = some (.lst xs)) (hl : xs.length < 1000000) (q : Q .non (H.set n (.lst (xs ++ [d])))) : wE (Zcz (.ref n) [d] H) Q :=
 ⟨_, _, by simp [Zcz, h, Nat.lt_of_lt_of_le hl (Zfc (Nat.le_refl _))], q⟩
theorem w_isi {d : D} {c t : String} (ha : Zsm c = true) (h : tyD d H = some t) (q : Q (.bl (t == c || (t == "bool" && c == "int"))) H) : wE (Zu4 [d, .ty c] H) Q := ⟨_, _, by simp [Zu4, ha, h], q⟩
theorem w_isN {d : D} {b : Bool} (h : isB d .non = some b) (q : Q (.bl b) H) : wE (isD d .non H) Q := ⟨_, _, by simp [isD, h], q⟩
theorem w_isnN {d : D} {b : Bool} (h : isB d .non = some b) (q : Q (.bl (!b)) H) : wE (Zt1 d .non H) Q := ⟨_, _, by simp [Zt1, h], q⟩
theorem w_isBl {d : D} {c b : Bool} (h : isB d (.bl c) = some b) (q : Q (.bl b) H) : wE (isD d (.bl c) H) Q := ⟨_, _, by simp [isD, h], q⟩
theorem w_isnBl {d : D} {c b : Bool} (h : isB d (.bl c) = some b) (q : Q (.bl (!b)) H) : wE (Zt1 d (.bl c) H) Q := ⟨_, _, by simp [Zt1, h], q⟩
theorem Zx8 {n : Nat} {kvs : List (D × D)} {fz : Bool} (h : H[n]? = some (.dic kvs fz)) (q : Q (.int kvs.length) H) : wE (Zjy [.ref n] H) Q := ⟨_, _, by simp [Zjy, Zsw, h], q⟩
theorem Zz2 {n : Nat} {kvs : List (D × D)} {fz : Bool} {k : D} {ks : List Int} {v : D} (h : H[n]? = some (.dic kvs fz)) (hk : nk k = some ks) (hv : Zb2 kvs ks = some v) (q : Q v H) : wE (Zi4 (.ref n) k H) Q := ⟨_, _, by simp [Zi4, Zsw, h, hk, hv], q⟩
theorem w_truB {b : Bool} {P : Bool -> Prop} (h : P b) : ∃ c, Zr6 (.bl b) H = some c ∧ P c := ⟨b, rfl, h⟩
theorem w_isi' {d : D} {c t : String} {r : Bool} (ha : Zsm c = true) (h : tyD d H = some t) (hr : (t == c || (t == "bool" && c == "int")) = r) (q : Q (.bl r) H) : wE (Zu4 [d, .ty c] H) Q := w_isi ha h (by rw [hr]; exact q)
theorem w_eqS' {a b : Str} {r : Bool} (hr : (a == b) = r) (q : Q (.bl r) H) : wE (eqD (.str a) (.str b) H) Q := w_eqS (by rw [hr]; exact q)
theorem w_neS' {a b : Str} {r : Bool} (hr : (a == b) = r) (q : Q (.bl (!r)) H) : wE (neD (.str a) (.str b) H) Q := w_neS (by rw [bne, hr]; exact q)
theorem w_eqI' {a b : Int} {r : Bool} (hr : (a == b) = r) (q : Q (.bl r) H) : wE (eqD (.int a) (.int b) H) Q := w_eqI (by rw [hr]; exact q)
theorem w_sllo {xs : List D} {k : Nat} (q : Q (.tup (xs.drop k)) H) : wE (slD (.tup xs) (some (k : Int)) none H) Q := ⟨_, _, sllo, q⟩
variable {I : List D -> Zhl -> HD -> Prop}
theorem w_isq {f : EF} (h : wE (f σ H) fun d H1 => ∃ xs own, Zhs d H1 = some (xs, own) ∧ I xs own H1) : wI (iSq f σ H) I := by
 obtain ⟨d, H1, e, xs, own, e2, q⟩ := h
 exact ⟨xs, own, H1, by unfold iSq; rw [e]; simp only [Zb]; rw [e2]; rfl, q⟩
theorem w_itT {xs : List D} {P : List D -> Zhl -> Prop} (h : P xs []) : ∃ ys own, Zhs (.tup xs) H = some (ys, own) ∧ P ys own := ⟨_, _, rfl, h⟩
theorem w_itR {n : Nat} {xs : List D} {P : List D -> Zhl -> Prop} (g : H[n]? = some (.lst xs)) (h : P xs [(n, .lst xs)]) : ∃ ys own, Zhs (.ref n) H = some (ys, own) ∧ P ys own := ⟨_, _, by simp [Zhs, g], h⟩
theorem w_ir1 {f : AF} (h : wA (f σ H) fun ds H1 => ∃ j, ds = [.int j] ∧ Zeu j ∧ I (Zbw 0 j.toNat) [] H1) : wI (iR1 f σ H) I := by
 obtain ⟨ds, H1, e, j, rfl, s, q⟩ := h
 exact ⟨_, _, H1, by unfold iR1; rw [e]; exact if_pos s, q⟩
theorem w_idic {f : EF} (h : wE (f σ H) fun d H1 => ∃ n kvs fz, d = .ref n ∧ H1[n]? = some (.dic kvs fz) ∧ I (kvs.map (·.1)) [(n, .dic kvs true)] (H1.set n (.dic kvs true))) : wI (Zw2 f σ H) I := by
 obtain ⟨d, H1, e, n, kvs, fz, rfl, g, q⟩ := h
 exact ⟨_, _, _, by unfold Zw2; rw [e]; simp only [Zb, g], q⟩
theorem w_zip {f : AF} (h : wA (f σ H) fun ds H1 => ∃ d1 d2 a b, ds = [d1, d2] ∧ srcD d1 H1 = some a ∧ srcD d2 H1 = some b ∧ I (zipL a.1 b.1) (a.2 ++ b.2) H1) : wI (Zya f σ H) I := by
 obtain ⟨ds, H1, e, d1, d2, a, b, rfl, e1, e2, q⟩ := h
 exact ⟨_, _, H1, by unfold Zya; rw [e]; simp only [Zb]; rw [e1]; simp only [Zb]; rw [e2]; rfl, q⟩
theorem Zr1 {own : Zhl} {g : GF} {b : SF} (h : Zdp own H) (q : R .nx σ H) : wS (Zf6 own g b [] σ H) R := ⟨_, _, _, by rw [Zf6, if_pos h], q⟩
noncomputable def again (k : SD -> HD -> Prop) (R : FD -> SD -> HD -> Prop) : FD -> SD -> HD -> Prop
 | .nx, σ, H => k σ H
 | .ct, σ, H => k σ H
 | .bk, σ, H => R .nx σ H
 | .rt d, σ, H => R (.rt d) σ H
theorem Zny {own : Zhl} {g : GF} {b : SF} {x : D} {r : List D} (h : Zdp own H) (q : wG (g x σ H) fun σ1 H1 => wS (b σ1 H1) (again (fun σ2 H2 => wS (Zf6 own g b r σ2 H2) R) R)) : wS (Zf6 own g b (x :: r) σ H) R := by
 obtain ⟨σ1, H1, e1, y, σ2, H2, e2, q⟩ := q
 rw [Zf6, if_pos h, e1]
 simp only [Zb]
 rw [e2]
 cases y with
 | nx => exact q
 | ct => exact q
 | bk => exact ⟨_, _, _, rfl, q⟩
 | rt d => exact ⟨_, _, _, rfl, q⟩
theorem w_agn {k : SD -> HD -> Prop} (h : k σ H) : again k R .nx σ H := h
theorem w_agr {k : SD -> HD -> Prop} {d : D} (h : R (.rt d) σ H) : again k R (.rt d) σ H := h
theorem Zjk {own : Zhl} {g : GF} {b : SF} (Inv : List D -> List D -> SD -> HD -> Prop) (ho : ∀ d t σ H, Inv d t σ H -> Zdp own H)
  (st : ∀ d x t σ H, Inv d (x :: t) σ H -> wG (g x σ H) fun σ1 H1 => wS (b σ1 H1) (again (fun σ2 H2 => Inv (d ++ [x]) t σ2 H2) R))
  (q : ∀ d σ H, Inv d [] σ H -> R .nx σ H) : ∀ (t d : List D) (σ : SD) (H : HD), Inv d t σ H -> wS (Zf6 own g b t σ H) R
 | [], d, σ, H, i => Zr1 (ho _ _ _ _ i) (q d σ H i)
 | x :: t, d, σ, H, i => by
  refine Zny (ho _ _ _ _ i) ?_
  obtain ⟨σ1, H1, e1, y, σ2, H2, e2, k⟩ := st d x t σ H i
  refine ⟨σ1, H1, e1, y, σ2, H2, e2, ?_⟩
  cases y with
  | nx => exact Zjk Inv ho st q t _ σ2 H2 k
  | ct => exact Zjk Inv ho st q t _ σ2 H2 k
  | bk => exact k
  | rt d => exact k
theorem Zn9 {own : Zhl} {g : GF} {b : SF} (Inv : SD -> HD -> Prop) (ho : ∀ σ H, Inv σ H -> Zdp own H) : ∀ (xs : List D) (st : ∀ x ∈ xs, ∀ σ H, Inv σ H -> wG (g x σ H) fun σ1 H1 => wS (b σ1 H1) (again Inv R)) (σ : SD) (H : HD), Inv σ H -> (∀ σ H, Inv σ H -> R .nx σ H) -> wS (Zf6 own g b xs σ H) R
 | [], st, σ, H, i, q => Zr1 (ho _ _ i) (q σ H i)
 | x :: t, st, σ, H, i, q => by
  refine Zny (ho _ _ i) ?_
  obtain ⟨σ1, H1, e1, y, σ2, H2, e2, k⟩ := st x (by simp) σ H i
  refine ⟨σ1, H1, e1, y, σ2, H2, e2, ?_⟩
  cases y with
  | nx => exact Zn9 Inv ho t (fun z hz => st z (by simp [hz])) σ2 H2 k q
  | ct => exact Zn9 Inv ho t (fun z hz => st z (by simp [hz])) σ2 H2 k q
  | bk => exact k
  | rt d => exact k
theorem w_wh {t : TF} {b : SF} {n : Nat} (h : wT (t σ H) fun x H1 => br x (wS (b σ H1) (again (fun σ2 H2 => wS (sWh t b n σ2 H2) R) R)) (R .nx σ H1)) : wS (sWh t b (n + 1) σ H) R := by
 obtain ⟨x, H1, e, q1, q2⟩ := h
 rw [sWh]
 dsimp only
 rw [e]
 simp only [Zb]
 cases x with
 | true =>
  rw [if_pos rfl]
  obtain ⟨y, σ2, H2, e2, q⟩ := q1 rfl
  rw [e2]
  cases y with
  | nx => exact q
  | ct => exact q
  | bk => exact ⟨_, _, _, rfl, q⟩
  | rt d => exact ⟨_, _, _, rfl, q⟩
 | false => rw [if_neg (by simp)]; exact ⟨_, _, _, rfl, q2 rfl⟩
theorem Zj6 {t : TF} {b : SF} (Inv : Nat -> SD -> HD -> Prop) (st : ∀ m σ H, Inv m σ H -> wT (t σ H) fun x H1 => br x (∃ m', m = m' + 1 ∧ wS (b σ H1) (again (Inv m') R)) (R .nx σ H1)) : ∀ (n m : Nat) (σ : SD) (H : HD), m < n -> Inv m σ H -> wS (sWh t b n σ H) R
 | 0, m, σ, H, h, i => by omega
 | n + 1, m, σ, H, h, i => by
  refine w_wh ?_
  obtain ⟨x, H1, e, q1, q2⟩ := st m σ H i
  refine ⟨x, H1, e, fun hx => ?_, q2⟩
  obtain ⟨m', rfl, y, σ2, H2, e2, q⟩ := q1 hx
  refine ⟨y, σ2, H2, e2, ?_⟩
  cases y with
  | nx => exact Zj6 Inv st n m' σ2 H2 (by omega) q
  | ct => exact Zj6 Inv st n m' σ2 H2 (by omega) q
  | bk => exact q
  | rt d => exact q
theorem Zlu {own : Zhl} {c0 : SD} {tt : TF} {te : EF} {Q : List D -> HD -> Prop} (h : Zdp own H) (q : Q [] H) : wA (Zdh own c0 tt te [] H) Q := ⟨_, _, by rw [Zdh, if_pos h], q⟩
theorem Zgd {own : Zhl} {c0 : SD} {tt : TF} {te : EF} {x : D} {r : List D} {Q : List D -> HD -> Prop} (h : Zdp own H)
  (q : wT (tt (some x :: c0) H) fun b H1 => br b (wE (te (some x :: c0) H1) fun e H2 => wA (Zdh own c0 tt te r H2) fun es H3 => Q (e :: es) H3) (wA (Zdh own c0 tt te r H1) Q)) : wA (Zdh own c0 tt te (x :: r) H) Q := by
 obtain ⟨b, H1, e1, q1, q2⟩ := q
 rw [Zdh, if_pos h, e1]
 simp only [Zb]
 cases b with
 | true =>
  obtain ⟨e, H2, e2, es, H3, e3, q⟩ := q1 rfl
  exact ⟨e :: es, H3, by rw [if_pos rfl, e2]; simp only [Zb]; rw [e3]; rfl, q⟩
 | false => rw [if_neg (by simp)]; exact q2 rfl
theorem w_yes {Q : Bool -> HD -> Prop} (q : Q true H) : wT (Zgm σ H) Q := ⟨_, _, rfl, q⟩
theorem Zgw {own : Zhl} {c0 : SD} {tt : TF} (f : D -> Bool) (J : HD -> Prop) (ho : ∀ H, J H -> Zdp own H) {Q : List D -> HD -> Prop} : ∀ (xs : List D) (st : ∀ x ∈ xs, ∀ H, J H -> wT (tt (some x :: c0) H) fun b H1 => b = f x ∧ J H1) (H : HD), J H -> (∀ H', J H' -> Q (xs.filter f) H') -> wA (Zdh own c0 tt (Zae 0) xs H) Q
 | [], st, H, j, q => Zlu (ho H j) (q H j)
 | x :: xs, st, H, j, q => by
  refine Zgd (ho H j) ?_
  obtain ⟨b, H1, e, rfl, j1⟩ := st x (by simp) H j
  refine ⟨_, H1, e, fun h => ?_, fun h => ?_⟩
  ·refine ⟨x, H1, rfl, ?_⟩
   refine Zgw f J ho xs (fun y hy => st y (by simp [hy])) H1 j1 fun H' j' => ?_
   have := q H' j'
   rwa [List.filter_cons_of_pos h] at this
  ·refine Zgw f J ho xs (fun y hy => st y (by simp [hy])) H1 j1 fun H' j' => ?_
   have := q H' j'
   rwa [List.filter_cons_of_neg (by rw [h]; simp)] at this
theorem Zoa {own : Zhl} {c0 : SD} {te : EF} (g : D -> D) (J : HD -> Prop) (ho : ∀ H, J H -> Zdp own H) {Q : List D -> HD -> Prop} : ∀ (xs : List D) (st : ∀ x ∈ xs, ∀ H, J H -> wE (te (some x :: c0) H) fun d H1 => d = g x ∧ J H1) (H : HD), J H -> (∀ H', J H' -> Q (xs.map g) H') -> wA (Zdh own c0 Zgm te xs H) Q
 | [], st, H, j, q => Zlu (ho H j) (q H j)
 | x :: xs, st, H, j, q => by
  refine Zgd (ho H j) (w_yes (w_bt ?_))
  obtain ⟨b, H1, e, rfl, j1⟩ := st x (by simp) H j
  exact ⟨_, H1, e, Zoa g J ho xs (fun y hy => st y (by simp [hy])) H1 j1 q⟩
theorem Zt0 {own : Zhl} {c0 : SD} {tt : TF} {te : EF} (f : D -> Bool) (g : D -> D) (J : HD -> Prop) (ho : ∀ H, J H -> Zdp own H) {Q : List D -> HD -> Prop} : ∀ (xs : List D) (st : ∀ x ∈ xs, ∀ H, J H -> wT (tt (some x :: c0) H) fun b H1 => b = f x ∧ J H1) (st2 : ∀ x ∈ xs, f x = true -> ∀ H, J H -> wE (te (some x :: c0) H) fun d H1 => d = g x ∧ J H1) (H : HD), J H -> (∀ H', J H' -> Q ((xs.filter f).map g) H') -> wA (Zdh own c0 tt te xs H) Q
 | [], st, st2, H, j, q => Zlu (ho H j) (q H j)
 | x :: xs, st, st2, H, j, q => by
  refine Zgd (ho H j) ?_
  obtain ⟨b, H1, e, rfl, j1⟩ := st x (by simp) H j
  refine ⟨_, H1, e, fun h => ?_, fun h => ?_⟩
  ·obtain ⟨d, H2, e2, rfl, j2⟩ := st2 x (by simp) h H1 j1
   refine ⟨_, H2, e2, ?_⟩
   refine Zt0 f g J ho xs (fun y hy => st y (by simp [hy])) (fun y hy => st2 y (by simp [hy])) H2 j2 fun H' j' => ?_
   have := q H' j'
   rwa [List.filter_cons_of_pos h] at this
  ·refine Zt0 f g J ho xs (fun y hy => st y (by simp [hy])) (fun y hy => st2 y (by simp [hy])) H1 j1 fun H' j' => ?_
   have := q H' j'
   rwa [List.filter_cons_of_neg (by rw [h]; simp)] at this
end
structure Fm (S : List Nat) (H H' : HD) : Prop where
 old : ∀ (m : Nat) (o : DO), m ∉ S -> H[m]? = some o -> H'[m]? = some o ∨ ∃ kvs, o = .dic kvs false ∧ H'[m]? = some (.dic kvs true)
 len : H.length ≤ H'.length
theorem Fm.refl {S : List Nat} {H : HD} : Fm S H H := ⟨fun _ _ _ h => .inl h, Nat.le_refl _⟩
theorem Fm.trans {S : List Nat} {H H1 H2 : HD} (a : Fm S H H1) (b : Fm S H1 H2) : Fm S H H2 := by
 refine ⟨fun m o hm h => ?_, Nat.le_trans a.len b.len⟩
 rcases a.old m o hm h with h1 | ⟨kvs, rfl, h1⟩
 ·exact b.old m o hm h1
 ·rcases b.old m _ hm h1 with h2 | ⟨k2, e, _⟩
  ·exact .inr ⟨kvs, rfl, h2⟩
  ·cases e
theorem Fm.sub {S T : List Nat} {H H' : HD} (a : Fm S H H') (h : ∀ m ∈ S, m ∈ T) : Fm T H H' := ⟨fun m o hm q => a.old m o (fun z => hm (h m z)) q, a.len⟩
theorem Fm.app {S : List Nat} {H : HD} (L : HD) : Fm S H (H ++ L) := ⟨fun m o _ q => .inl (by
 have : m < H.length := (List.getElem?_eq_some_iff.mp q).1
 rw [List.getElem?_append_left this]; exact q), by simp⟩
theorem Fm.set {S : List Nat} {H : HD} {p : Nat} {o : DO} (h : p ∈ S) : Fm S H (H.set p o) := ⟨fun m u hm q => .inl (by rw [List.getElem?_set_ne (fun z => hm (by rw [← z]; exact h))]; exact q), by simp⟩
theorem Fm.new {S T : List Nat} {H H1 H' : HD} (a : Fm S H H1) (b : Fm T H1 H') (h : ∀ m ∈ T, m ∉ S -> H.length ≤ m) : Fm S H H' := by
 refine ⟨fun m o hm q => ?_, Nat.le_trans a.len b.len⟩
 have lt : m < H.length := (List.getElem?_eq_some_iff.mp q).1
 have ht : m ∉ T := fun z => by have := h m z hm; omega
 rcases a.old m o hm q with h1 | ⟨kvs, rfl, h1⟩
 ·exact b.old m o ht h1
 ·rcases b.old m _ ht h1 with h2 | ⟨k2, e, _⟩
  ·exact .inr ⟨kvs, rfl, h2⟩
  ·cases e
theorem Fm.lst {S : List Nat} {H H' : HD} (x : Fm S H H') {m : Nat} {xs : List D} (hm : m ∉ S) (h : H[m]? = some (.lst xs)) : H'[m]? = some (.lst xs) := by
 rcases x.old m _ hm h with h1 | ⟨k2, e, _⟩
 ·exact h1
 ·cases e
theorem Fm.fr {S : List Nat} {H H' : HD} (x : Fm S H H') {m : Nat} {kvs : List (D × D)} (hm : m ∉ S) (h : H[m]? = some (.dic kvs true)) : H'[m]? = some (.dic kvs true) := by
 rcases x.old m _ hm h with h1 | ⟨k2, e, _⟩
 ·exact h1
 ·cases e
theorem Fm.dic {S : List Nat} {H H' : HD} (x : Fm S H H') {m : Nat} {kvs : List (D × D)} {fz : Bool} (hm : m ∉ S) (h : H[m]? = some (.dic kvs fz)) : ∃ fz', H'[m]? = some (.dic kvs fz') := by
 rcases x.old m _ hm h with h1 | ⟨k2, e, h1⟩
 ·exact ⟨fz, h1⟩
 ·cases e; exact ⟨true, h1⟩
theorem _root_.DL.Ext.fm {n : Nat} {H H' : HD} (x : Ext n H H') : Fm [n] H H' := ⟨fun m o hm q => .inl (x.old m o (by simpa using hm) q), x.len⟩
theorem Zuv {H : HD} {n : Nat} {o : DO} (h : H[n]? = some o) : Zdp [(n, o)] H := by intro p hp; simp at hp; subst hp; exact h
theorem Zow {H : HD} : Zdp [] H := by intro p hp; cases hp
theorem last {H : HD} {o : DO} : (H ++ [o])[H.length]? = some o := by simp
theorem appL {H : HD} {n : Nat} {o u : DO} (h : H[n]? = some o) : (H ++ [u])[n]? = some o := by
 rw [List.getElem?_append_left (List.getElem?_eq_some_iff.mp h).1]; exact h
theorem setO {H : HD} {n m : Nat} {o u : DO} (hn : n ≠ m) (h : H[m]? = some o) : (H.set n u)[m]? = some o := by rw [List.getElem?_set_ne hn]; exact h
theorem setS {H : HD} {n : Nat} {o u : DO} (h : H[n]? = some u) : (H.set n o)[n]? = some o := List.getElem?_set_self (List.getElem?_eq_some_iff.mp h).1
structure Fine (d : D) (x : PyData) (h : Nat) : Prop where
 to : ∀ H n, toP H n d = some x
 lay : x.canLay0 = true
 dep : x.depth ≤ h
theorem Fine.le {d : D} {x : PyData} {h h' : Nat} (f : Fine d x h) (l : h ≤ h') : Fine d x h' := ⟨f.to, f.lay, Nat.le_trans f.dep l⟩
theorem Fine.int (i : Int) : Fine (.int i) (.int i) 0 := ⟨fun H n => Zm8 H n i, rfl, Nat.le_refl _⟩
theorem Fine.bl (b : Bool) : Fine (.bl b) (.bool b) 0 := ⟨fun H n => Zy6 H n b, rfl, Nat.le_refl _⟩
theorem Fine.non : Fine .non .none 0 := ⟨fun H n => Zv0 H n, rfl, Nat.le_refl _⟩
theorem Fine.str {s : Str} (h : PyData.strOk s = true) : Fine (.str s) (.str s) 0 := ⟨fun H n => Znj H n s, h, Nat.le_refl _⟩
structure Fines (ds : List D) (xs : List PyData) (h : Nat) : Prop where
 to : ∀ H n, Zho H n ds = some xs
 lay : PyData.canLayAll0 xs = true
 dep : PyData.depthAll xs ≤ h
 len : xs.length = ds.length
theorem Fines.nil {h : Nat} : Fines [] [] h := ⟨fun H n => by rw [Zho], rfl, Nat.zero_le _, rfl⟩
theorem Fines.cons {d : D} {x : PyData} {ds : List D} {xs : List PyData} {h : Nat} (a : Fine d x h) (b : Fines ds xs h) : Fines (d :: ds) (x :: xs) h :=
 ⟨fun H n => by rw [Zho, a.to, b.to]; rfl, by simp [PyData.canLayAll0, a.lay, b.lay], by simp only [PyData.depthAll]; exact Nat.max_le.mpr ⟨a.dep, b.dep⟩, by simp [b.len]⟩
theorem Fines.of {h : Nat} : ∀ ds : List D, (∀ d ∈ ds, ∃ x, Fine d x h) -> ∃ xs, Fines ds xs h
 | [], _ => ⟨[], .nil⟩
 | d :: ds, f => by
  obtain ⟨x, a⟩ := f d (by simp)
  obtain ⟨xs, b⟩ := Fines.of ds fun e he => f e (by simp [he])
  exact ⟨x :: xs, .cons a b⟩
theorem Fine.tup {ds : List D} {xs : List PyData} {h : Nat} (f : Fines ds xs h) : Fine (.tup ds) (.tuple xs) (h + 1) :=
 ⟨fun H n => by cases n <;> rw [toP, f.to] <;> rfl, f.lay, Nat.succ_le_succ f.dep⟩
theorem Fine.dat {d : D} {x : PyData} {h : Nat} (f : Fine d x h) (l : h ≤ 30) (H : HD) : DL.dat d H = some x := by
 unfold DL.dat
 rw [f.to]
 have : x.depth ≤ 30 := Nat.le_trans f.dep l
 simp [okP, f.lay, this]
theorem Fines.dat {ds : List D} {xs : List PyData} {h : Nat} (f : Fines ds xs h) (l : h < 30) {H : HD} {p : Nat} (g : H[p]? = some (.lst ds)) : DL.dat (.ref p) H = some (.list xs) := by
 unfold DL.dat
 rw [toP]
 simp only [g]
 rw [f.to]
 have : (PyData.list xs).depth ≤ 30 := Nat.le_trans (Nat.succ_le_succ f.dep) l
 have h2 : (PyData.list xs).canLay0 = true := f.lay
 simp [okP, h2, this]
mutual
theorem Zf2 : ∀ x : PyData, x.canLay0 = true -> PyData.eqv x x = true
 | .none, _ => by simp [PyData.eqv]
 | .bool _, _ => by simp [PyData.eqv]
 | .int _, _ => by simp [PyData.eqv]
 | .str _, _ => by simp [PyData.eqv]
 | .list xs, h => by rw [PyData.eqv]; exact Zgj xs h
 | .tuple xs, h => by rw [PyData.eqv]; exact Zgj xs h
 | .dict _, h => by cases h
theorem Zgj : ∀ xs : List PyData, PyData.canLayAll0 xs = true -> PyData.eqvAll xs xs = true
 | [], _ => by rw [PyData.eqvAll]
 | x :: xs, h => by
  simp only [PyData.canLayAll0, Bool.and_eq_true] at h
  rw [PyData.eqvAll, Zf2 x h.1, Zgj xs h.2]; rfl
end
theorem Zni {a b : D} {x y : PyData} {H : HD} (h1 : dat a H = some x) (h2 : dat b H = some y) : eqD a b H = some (.bl (PyData.eqv x y), H) := by
 unfold eqD
 cases e : Zos a b with
 | none => rw [h1, h2]; rfl
 | some p =>
  obtain ⟨s, t⟩ := p
  unfold Zos at e
  split at e
  ·cases e
   unfold dat at h1 h2
   rw [Znj] at h1 h2
   simp only [Zb] at h1 h2
   split at h1
   ·split at h2
    ·cases h1; cases h2; simp [PyData.eqv]
    ·cases h2
   ·cases h1
  ·cases e
theorem Zm3 {a b : D} {x y : PyData} {H : HD} (h1 : dat a H = some x) (h2 : dat b H = some y) : neD a b H = some (.bl (!PyData.eqv x y), H) := by
 unfold neD
 cases e : Zos a b with
 | none => rw [h1, h2]; rfl
 | some p =>
  obtain ⟨s, t⟩ := p
  unfold Zos at e
  split at e
  ·cases e
   unfold dat at h1 h2
   rw [Znj] at h1 h2
   simp only [Zb] at h1 h2
   split at h1
   ·split at h2
    ·cases h1; cases h2; simp [PyData.eqv]; rfl
    ·cases h2
   ·cases h1
  ·cases e
variable {H : HD} {Q : D -> HD -> Prop}
theorem Zs2 {a b : D} {x y : PyData} {h k : Nat} (f : Fine a x h) (g : Fine b y k) (hh : h ≤ 30) (hk : k ≤ 30) (q : Q (.bl (PyData.eqv x y)) H) : wE (eqD a b H) Q := ⟨_, _, Zni (f.dat hh H) (g.dat hk H), q⟩
theorem Zs8 {a b : D} {x y : PyData} {h k : Nat} (f : Fine a x h) (g : Fine b y k) (hh : h ≤ 30) (hk : k ≤ 30) (q : Q (.bl (!PyData.eqv x y)) H) : wE (neD a b H) Q := ⟨_, _, Zm3 (f.dat hh H) (g.dat hk H), q⟩
theorem Zf1 {a : D} {x : PyData} {h : Nat} (f : Fine a x h) (hh : h ≤ 30) (q : Q (.bl false) H) : wE (neD a a H) Q := Zs8 f f hh hh (by rw [Zf2 x f.lay]; exact q)
theorem Zvi {xs : List D} {ys : List PyData} {h : Nat} (f : Fines xs ys h) : PyData.eqv (.tuple ys) (.tuple []) = xs.isEmpty := by
 have := f.len
 cases ys with
 | nil => cases xs with
  | nil => rfl
  | cons _ _ => simp at this
 | cons p ps => cases xs with
  | nil => simp at this
  | cons _ _ => simp [PyData.eqv, PyData.eqvAll]
theorem Zq7 {xs : List D} {ys : List PyData} {h : Nat} (f : Fines xs ys h) (hh : h < 30) (q : Q (.bl (!xs.isEmpty)) H) : wE (neD (.tup xs) (.tup []) H) Q :=
 Zs8 (Fine.tup f) (Fine.tup (Fines.nil (h := 0))) (by omega) (by omega) (by rw [Zvi f]; exact q)
theorem w_inL {a : D} {x : PyData} {h k p : Nat} {ds : List D} {xs : List PyData} (f : Fine a x h) (g : Fines ds xs k) (hh : h ≤ 30) (hk : k < 30) (hp : H[p]? = some (.lst ds)) (q : Q (.bl (xs.any fun z => PyData.eqv z x)) H) : wE (inD a (.ref p) H) Q :=
 ⟨_, _, by unfold inD; rw [f.dat hh, Zb, g.dat hk hp]; rfl, q⟩
theorem w_neI {i j : Int} (q : Q (.bl (!(i == j))) H) : wE (neD (.int i) (.int j) H) Q := Zs8 (.int i) (.int j) (by omega) (by omega) (by simpa [PyData.eqv] using q)
theorem w_neI' {i j : Int} {r : Bool} (hr : (i == j) = r) (q : Q (.bl (!r)) H) : wE (neD (.int i) (.int j) H) Q := w_neI (by rw [hr]; exact q)
end WP
set_option maxHeartbeats 8000000
namespace K08
open PySem L2 DL
noncomputable def k_TRUTHS : D := (.tup [(.bl false), (.bl true)])
noncomputable def Ze3 : SF :=
 (Zan (Zb5 (eAn (eCB Zu4 (Zab (Zae 0) (Zab (eC (.ty "int")) Zaj))) (eNo (eCB Zu4 (Zab (Zae 0) (Zab (eC (.ty "bool")) Zaj))))))
 Zas)
noncomputable def Zfv : FF := Zbq 1 1 Ze3
noncomputable def Ze2 : SF :=
 (Zan (Zb5 (eOrr (eOp isD (Zae 0) (eC (.bl true))) (eOp isD (Zae 0) (eC (.bl false)))))
 Zas)
noncomputable def Zf0 : FF := Zbq 1 1 Ze2
noncomputable def Zei : SF :=
 (Zan (Zb5 (eOp gtD (eCB Zxp (Zab (Zae 0) Zaj)) (eCB Zd8 (Zab (Zae 1) Zaj))))
 Zas)
noncomputable def Zde : FF := Zbq 2 2 Zei
noncomputable def Zdr : SF :=
 (Zan (Zb5 (eAn (eNo (Zal 2 Zde (Zab (Zae 0) (Zab (Zae 1) Zaj)))) (eOp eqD (eOp ixD (Zae 1) (eOp Zkg (eCB Zxp (Zab (Zae 0) Zaj)) (eC (.int 1)))) (eOp gtD (Zae 0) (eC (.int 0))))))
 Zas)
noncomputable def Ze6 : FF := Zbq 2 2 Zdr
noncomputable def Zej : SF :=
 (Zan (Zhi (iSq (Zae 0)) (gNm 2) (Zan (sIf (Zja (Zal 2 Ze6 (Zab (Zae 2) (Zab (Zae 1) Zaj)))) (Zan (Zb5 (eC (.bl true)))
 Zas) Zas)
 Zas))
 (Zan (Zb5 (eC (.bl false)))
 Zas))
noncomputable def Zdk : FF := Zbq 2 3 Zej
noncomputable def Zd7 : SF :=
 (Zan (Zb5 (eIf (tOf (eOp gtD (Zae 0) (eC (.int 0)))) (eOp Zkg (Zae 0) (Zae 1)) (eOp Zc1 (Zae 0) (Zae 1))))
 Zas)
noncomputable def Zet : FF := Zbq 2 2 Zd7
noncomputable def Ze5 : SF :=
 (Zan (Zb5 (eCB Zdg (Zab (eLC (iSq (Zae 0)) [1] (Zja (Zal 2 Zde (Zab (Zae 0) (Zab (Zae 1) Zaj)))) (Zal 2 Zet (Zab (Zae 0) (Zab (eCB Zd8 (Zab (Zae 1) Zaj)) Zaj)))) Zaj)))
 Zas)
noncomputable def Zfy : FF := Zbq 2 2 Ze5
noncomputable def Zmp : SF :=
 (Zan (Zbd 2 (eLC (iSq (eOp ixD (Zae 0) (eC (.int 1)))) [1] (tNo (Zja (Zal 2 Zdk (Zab (Zae 0) (Zab (Zae 1) Zaj))))) (Zal 2 Zfy (Zab (Zae 0) (Zab (Zae 1) Zaj)))))
 (Zan (Zb5 (Zgp (Zab (eSl (eOp ixD (Zae 0) (eC (.int 0))) (Zfm (eCB Zd8 (Zab (Zae 1) Zaj))) Zfu) (Zab (eCB Zdg (Zab (Zae 2) Zaj)) Zaj))))
 Zas))
noncomputable def Zhu : FF := Zbq 2 3 Zmp
noncomputable def Zcr : SF :=
 (Zan (Zbd 1 eDN)
 (Zan (Zhi (Ztw (Zab (Zae 0) Zaj)) (gTp 2 (gCn (gNm 2) (gCn (gNm 3) gNl))) (Zan (Zch (eDM Zi7 (Zae 1) (Zab (Zae 3) (Zab (Zae 2) Zaj))))
 Zas))
 (Zan (Zb5 (Zae 1))
 Zas)))
noncomputable def Zbk : FF := Zbq 1 4 Zcr
noncomputable def Zdl : SF :=
 (Zan (Zbd 3 (eIf (Zja (Zae 2)) (Zae 1) (eUn Zlb (Zae 1))))
 (Zan (Zbd 4 eDN)
 (Zan (Zhi (Zw2 (Zae 0)) (gNm 5) (Zan (Zbd 6 (eIf (Zja (Zae 5)) (eOp ixD (Zae 5) (eC (.int 0))) (eC (.int 0))))
 (Zan (sIf (tOf (eOp eqD (Zae 6) (eUn Zlb (Zae 3)))) (Zan (Zch (eDM Zi7 (Zae 4) (Zab (eSl (Zae 5) (Zfm (eC (.int 1))) Zfu) (Zab (eOp Zi4 (Zae 0) (Zae 5)) Zaj))))
 Zas) (Zan (sIf (tOf (eOp neD (Zae 6) (Zae 3))) (Zan (Zch (eDM Zi7 (Zae 4) (Zab (Zae 5) (Zab (eOp Zi4 (Zae 0) (Zae 5)) Zaj))))
 Zas) Zas)
 Zas))
 Zas)))
 (Zan (Zb5 (Zae 4))
 Zas))))
noncomputable def Za9 : FF := Zbq 3 7 Zdl
noncomputable def Zbx : SF :=
 (Zan (Zbd 2 (Zal 1 Zbk (Zab (Zae 0) Zaj)))
 (Zan (Zhi (Zog (Zab (Zae 1) Zaj)) (gTp 2 (gCn (gNm 3) (gCn (gNm 4) gNl))) (Zan (Zbd 2 (Zal 3 Za9 (Zab (Zae 2) (Zab (Zae 3) (Zab (Zae 4) Zaj)))))
 Zas))
 (Zan (Zb5 (Zae 2))
 Zas)))
noncomputable def Zb0 : FF := Zbq 2 5 Zbx
noncomputable def Zd2 : SF :=
 (Zan (Zb5 (eIf (tOf (eOp eqD (Zae 0) (eC (.str "some")))) (eC (.str "all")) (eC (.str "some"))))
 Zas)
noncomputable def Zcq : FF := Zbq 1 1 Zd2
noncomputable def Za7 (F : FF) : SF :=
 (Zan (sIf (tOf (eOp dinD (Zgp Zaj) (Zae 1))) (Zan (Zb5 (eC (.str "all")))
 Zas) Zas)
 (Zan (sIf (tOf (eOp eqD (eCB Zjy (Zab (Zae 1) Zaj)) (eC (.int 0)))) (Zan (Zb5 (eC (.str "some")))
 Zas) Zas)
 (Zan (Zbd 3 (eOp ixD (Zae 0) (Zae 2)))
 (Zan (Zhi (iSq (eC k_TRUTHS)) (gNm 4) (Zan (sIf (tOf (eOp eqD (Zal 3 F (Zab (Zae 0) (Zab (Zal 3 Za9 (Zab (Zae 1) (Zab (eOp Zc1 (Zae 2) (eC (.int 1))) (Zab (Zae 4) Zaj)))) (Zab (eOp Zc1 (Zae 2) (eC (.int 1))) Zaj)))) (Zae 3))) (Zan (Zb5 (Zae 3))
 Zas) Zas)
 Zas))
 (Zan (Zb5 (Zal 1 Zcq (Zab (Zae 3) Zaj)))
 Zas)))))
noncomputable def Zcs : FF := Zxk 3 5 Za7 10
noncomputable def Zgz : SF :=
 (Zan (Zb5 (Zal 3 Zcs (Zab (eOp ixD (Zae 0) (eC (.int 0))) (Zab (Zal 2 Zb0 (Zab (eOp ixD (Zae 0) (eC (.int 1))) (Zab (Zae 1) Zaj))) (Zab (eCB Zd8 (Zab (Zae 1) Zaj)) Zaj)))))
 Zas)
noncomputable def Zec : FF := Zbq 2 2 Zgz
noncomputable def Zd0 : SF :=
 (Zan (sIf (tOf (eOp eqD (eCB Zd8 (Zab (Zae 1) Zaj)) (eCB Zd8 (Zab (eOp ixD (Zae 0) (eC (.int 0))) Zaj)))) (Zan (Zb5 (Zdn Zaj))
 Zas) Zas)
 (Zan (Zbd 2 (eOp ixD (eOp ixD (Zae 0) (eC (.int 0))) (eCB Zd8 (Zab (Zae 1) Zaj))))
 (Zan (Zb5 (eLC (iSq (eC k_TRUTHS)) [0, 1, 2] (tOf (eOp eqD (Zal 2 Zec (Zab (Zae 1) (Zab (eOp Zc1 (Zae 2) (Zgp (Zab (Zae 0) Zaj))) Zaj))) (Zae 3))) (Zae 0)))
 Zas)))
noncomputable def Zc9 : FF := Zbq 2 3 Zd0
noncomputable def Zcl : SF :=
 (Zan (Zb5 (eCB Zwf (Zab (eLC (iSq (Zae 1)) [0] Zgm (eOp eqD (eOp ixD (Zae 1) (eOp Zkg (eCB Zxp (Zab (Zae 0) Zaj)) (eC (.int 1)))) (eC (.str "all")))) Zaj)))
 Zas)
noncomputable def Zcp : FF := Zbq 2 2 Zcl
noncomputable def Zcf : SF :=
 (Zan (Zhi (Zw2 (Zae 1)) (gNm 2) (Zan (sIf (Zja (Zal 2 Zcp (Zab (Zae 0) (Zab (Zae 2) Zaj)))) (Zan (Zb5 (eOp Zi4 (Zae 1) (Zae 2)))
 Zas) Zas)
 Zas))
 (Zan (Zb5 (eC .non))
 Zas))
noncomputable def Zc5 : FF := Zbq 2 3 Zcf
noncomputable def Zdj : SF :=
 (Zan (sIf (tOf (eOp eqD (eCB Zjy (Zab (Zae 1) Zaj)) (eC (.int 0)))) (Zan (Zb5 (Zgp (Zab (eC (.str "some")) (Zab (Zgp (Zab (eC (.str "kept")) Zaj)) Zaj))))
 Zas) Zas)
 (Zan (Zbd 3 (Zal 2 Zc5 (Zab (Zae 0) (Zab (Zae 1) Zaj))))
 (Zan (sIf (tOf (eOp Zt1 (Zae 3) (eC .non))) (Zan (Zb5 (Zgp (Zab (eC (.str "all")) (Zab (Zgp (Zab (eC (.str "lost")) (Zab (Zae 3) Zaj))) Zaj))))
 Zas) Zas)
 Zwr)))
noncomputable def Zfj : FF := Zbq 3 4 Zdj
noncomputable def Zlf : SF :=
 (Zan (Zb5 (Zal 3 Zfj (Zab (eOp ixD (Zae 0) (eC (.int 0))) (Zab (Zal 1 Zbk (Zab (eOp ixD (Zae 0) (eC (.int 1))) Zaj)) (Zab (eC (.int 0)) Zaj)))))
 Zas)
noncomputable def Zof : FF := Zbq 1 1 Zlf
noncomputable def Zb9 : SF :=
 (Zan (sIf (tOf (eOp eqD (Zae 3) (Zgp (Zab (eC (.str "kept")) Zaj)))) (Zan (Zb5 (eAn (eOp eqD (Zae 1) (eC (.str "some"))) (eCB Zwf (Zab (eLC (iSq (eOp ixD (Zae 0) (eC (.int 1)))) [2] Zgm (Zal 2 Zdk (Zab (Zae 0) (Zab (Zae 1) Zaj)))) Zaj))))
 Zas) Zas)
 (Zan (sIf (Zmu (tOf (eOp neD (eCB Zd8 (Zab (Zae 3) Zaj)) (eC (.int 2)))) (Zmu (tOf (eOp neD (eOp ixD (Zae 3) (eC (.int 0))) (eC (.str "lost")))) (tOf (eOp neD (Zae 1) (eC (.str "all")))))) (Zan (Zb5 (eC (.bl false)))
 Zas) Zas)
 (Zan (Zbd 4 (eOp ixD (Zae 3) (eC (.int 1))))
 (Zan (sIf (Zmu (tNo (Zja (Zal 1 Zfv (Zab (Zae 4) Zaj)))) (Zmu (tOf (eOp ltD (Zae 4) (eC (.int 0)))) (tOf (eOp geD (Zae 4) (eCB Zd8 (Zab (eOp ixD (Zae 0) (eC (.int 1))) Zaj)))))) (Zan (Zb5 (eC (.bl false)))
 Zas) Zas)
 (Zan (Zbd 5 (eOp ixD (eOp ixD (Zae 0) (eC (.int 1))) (Zae 4)))
 (Zan (Zb5 (eAn (eNo (Zal 2 Zdk (Zab (Zae 5) (Zab (Zae 2) Zaj)))) (Zal 2 Zcp (Zab (eOp ixD (Zae 0) (eC (.int 0))) (Zab (eLC (iSq (Zae 5)) [2] (Zja (Zal 2 Zde (Zab (Zae 0) (Zab (Zae 1) Zaj)))) (Zae 0)) Zaj)))))
 Zas))))))
noncomputable def Zdi : FF := Zbq 4 6 Zb9
noncomputable def Zbm : SF :=
 (Zan (sIf (tNo (Zja (eCB Zu4 (Zab (Zae 3) (Zab (eC (.ty "tuple")) Zaj))))) (Zan (Zb5 (eC (.bl false)))
 Zas) Zas)
 (Zan (sIf (Zmu (tOf (eOp neD (eCB Zd8 (Zab (Zae 3) Zaj)) (eC (.int 3)))) (tOf (eOp eqD (eCB Zd8 (Zab (Zae 2) Zaj)) (eCB Zd8 (Zab (eOp ixD (Zae 0) (eC (.int 0))) Zaj))))) (Zan (Zb5 (Zal 4 Zdi (Zab (Zae 0) (Zab (Zae 1) (Zab (Zae 2) (Zab (Zae 3) Zaj))))))
 Zas) Zas)
 Zwr))
noncomputable def Zeb : FF := Zbq 4 7 Zbm
noncomputable def Zfs : SF :=
 (Zan (Zb5 (Zal 4 Zeb (Zab (Zae 0) (Zab (Zae 1) (Zab (Zgp Zaj) (Zab (Zae 2) Zaj))))))
 Zas)
noncomputable def Zgu : FF := Zbq 3 3 Zfs
noncomputable def Zdt : SF :=
 (Zan (Zbd 2 (eC (.int 0)))
 (Zan (sIf (tOf (eOp ltD (Zae 1) (eCB Zd8 (Zab (Zae 0) Zaj)))) (Zan (Zbd 2 (eOp ixD (Zae 0) (Zae 1)))
 Zas) Zas)
 (Zan (Zbd 3 (eC (.int 0)))
 (Zan (sIf (tOf (eOp geD (Zae 2) (eOp Znw (eC (.int 10)) (eC (.int 18))))) (Zan (Zbd 3 (eOp Zkg (Zae 2) (eOp Znw (eC (.int 10)) (eC (.int 18)))))
 Zas) Zas)
 (Zan (Zbd 4 (eOp Zgn (eOp Zc1 (eOp Zc1 (eOp Ziz (eOp Zgn (Zae 2) (eC (.int 2147483647))) (eC (.int 48271))) (eOp Ziz (eC (.int 7919)) (Zae 1))) (eC (.int 5))) (eC (.int 2147483629))))
 (Zan (Zb5 (Zdn (Zab (Zae 3) (Zab (eOp Zc1 (eOp Zgn (eOp Znw (Zae 4) (eC (.int 5))) (eC (.int 2147483587))) (eC (.int 1))) Zaj))))
 Zas))))))
noncomputable def Zc8 : FF := Zbq 2 5 Zdt
noncomputable def Zdq : SF :=
 (Zan (sIf (tOf (eOp gtD (eOp ixD (Zae 0) (eC (.int 0))) (eC (.int 0)))) (Zan (Zbd 2 (eOp Zgn (eOp ixD (Zae 0) (eC (.int 0))) (Zae 1)))
 (Zan (Zla (eOp Zgy (eOp ixD (Zae 0) (eC (.int 0))) (Zae 1)) (gSb (Zae 0) (eC (.int 0)) Zjw))
 (Zan (Zb5 (Zae 2))
 Zas))) Zas)
 (Zan (Zla (eOp Zgn (eOp Zc1 (eOp Ziz (eOp ixD (Zae 0) (eC (.int 1))) (eC (.int 69621))) (eC (.int 12345))) (eC (.int 2147483647))) (gSb (Zae 0) (eC (.int 1)) Zjw))
 (Zan (Zb5 (eOp Zgn (eOp Zgy (eOp ixD (Zae 0) (eC (.int 1))) (eC (.int 8191))) (Zae 1)))
 Zas)))
noncomputable def Zai : FF := Zbq 2 3 Zdq
noncomputable def Zdc : SF :=
 (Zan (Zb5 (eOp ixD (Zae 1) (Zal 2 Zai (Zab (Zae 0) (Zab (eCB Zd8 (Zab (Zae 1) Zaj)) Zaj)))))
 Zas)
noncomputable def Zau : FF := Zbq 2 2 Zdc
noncomputable def Zer : SF :=
 (Zan (Zbd 2 (Zdn (Zab (eC (.int 1)) (Zab (eC (.int 2)) (Zab (eC (.int 2)) (Zab (eC (.int 3)) (Zab (eC (.int 3)) (Zab (eC (.int 4)) (Zab (eC (.int 2)) (Zab (eC (.int 3)) (Zab (eC (.int 1)) (Zab (eOp Zc1 (eC (.int 5)) (Zal 2 Zai (Zab (Zae 0) (Zab (eC (.int 4)) Zaj)))) (Zab (eC (.int 2)) (Zab (eOp Ziz (eC (.int 2)) (eCB Zxr (Zab (eOp gtD (Zal 2 Zai (Zab (Zae 0) (Zab (eC (.int 6)) Zaj))) (eC (.int 0))) Zaj))) Zaj))))))))))))))
 (Zan (Zbd 3 (eCB Zsx (Zab (Zae 1) (Zab (Zal 2 Zau (Zab (Zae 0) (Zab (Zae 2) Zaj))) Zaj))))
 (Zan (Zbd 4 (Zys (Zab (eC (.int 1)) (Zab (eOp Zc1 (Zae 1) (eC (.int 1))) Zaj))))
 (Zan (Zbd 5 (Zdn Zaj))
 (Zan (Zhi (iR1 (Zab (Zae 3) Zaj)) (gNm 6) (Zan (Zch (eLM Zcz (Zae 5) (Zab (eLM Zxt (Zae 4) (Zab (Zal 2 Zai (Zab (Zae 0) (Zab (eCB Zd8 (Zab (Zae 4) Zaj)) Zaj))) Zaj)) Zaj)))
 Zas))
 (Zan (Zb5 (eCB Zdg (Zab (eLC (iSq (eCB Zhd (Zab (Zae 5) Zaj))) [0] Zgm (eOp ixD (Zdn (Zab (Zae 0) (Zab (eUn Zlb (Zae 0)) Zaj))) (Zal 2 Zai (Zab (Zae 1) (Zab (eC (.int 2)) Zaj))))) Zaj)))
 Zas))))))
noncomputable def Zdd : FF := Zbq 2 7 Zer
noncomputable def Zc7 : SF :=
 (Zan (Zbd 3 (Zal 2 Zau (Zab (Zae 0) (Zab (Zdn (Zab (Zae 1) (Zab (eOp Zkg (Zae 1) (eC (.int 1))) (Zab (Zae 1) (Zab (eOp Zkg (Zae 1) (eC (.int 2))) (Zab (Zae 1) (Zab (Zal 2 Zai (Zab (Zae 0) (Zab (eOp Zc1 (Zae 1) (eC (.int 1))) Zaj))) Zaj))))))) Zaj))))
 (Zan (Zbd 4 (Zal 2 Zai (Zab (Zae 0) (Zab (eC (.int 4)) Zaj))))
 (Zan (Zbd 5 (eLC (iR1 (Zab (Zae 3) Zaj)) [0] Zgm (Zal 2 Zau (Zab (Zae 1) (Zab (Zdn (Zab (eC (.str "all")) (Zab (eC (.str "some")) Zaj))) Zaj)))))
 (Zan (sIf (tOf (eOp eqD (Zae 4) (eC (.int 0)))) (Zan (Zbd 5 (eLC (iR1 (Zab (Zae 3) Zaj)) [] Zgm (eOp ixD (Zdn (Zab (eC (.str "some")) (Zab (eC (.str "all")) Zaj))) (eOp Zgn (Zae 0) (eC (.int 2))))))
 Zas) Zas)
 (Zan (Zbd 6 (Zal 2 Zau (Zab (Zae 0) (Zab (Zdn (Zab (Zae 3) (Zab (eOp Zc1 (Zae 3) (eOp Zgy (Zae 3) (eC (.int 2)))) (Zab (eOp Ziz (eC (.int 2)) (Zae 3)) (Zab (eOp Zc1 (eOp Zgy (Zae 3) (eC (.int 2))) (eC (.int 1))) (Zab (Zal 2 Zai (Zab (Zae 0) (Zab (eOp Zc1 (Zae 2) (eC (.int 1))) Zaj))) (Zab (eC (.int 2)) Zaj))))))) Zaj))))
 (Zan (Zbd 7 (eLC (iR1 (Zab (eCB Zsx (Zab (Zae 2) (Zab (Zae 6) Zaj))) Zaj)) [0, 3] Zgm (Zal 2 Zdd (Zab (Zae 1) (Zab (Zae 2) Zaj)))))
 (Zan (sIf (tAn (tOf (eOp neD (Zae 7) (Zdn Zaj))) (tOf (eOp eqD (Zal 2 Zai (Zab (Zae 0) (Zab (eC (.int 6)) Zaj))) (eC (.int 0))))) (Zan (Zch (eLM Zcz (Zae 7) (Zab (Zal 2 Zau (Zab (Zae 0) (Zab (Zae 7) Zaj))) Zaj)))
 Zas) Zas)
 (Zan (Zb5 (Zgp (Zab (eCB Zdg (Zab (Zae 5) Zaj)) (Zab (eCB Zdg (Zab (eSl (Zae 7) Zfu (Zfm (Zae 2))) Zaj)) Zaj))))
 Zas))))))))
noncomputable def Zc6 : FF := Zbq 3 8 Zc7
noncomputable def Zd4 : SF :=
 (Zan (Znf "Match" (Zae 0) (Zae 1) "begun")
 (Zan (Znf "Match" (Zae 0) (Zgp Zaj) "picked")
 Zas))
noncomputable def Zbz : FF := Zbq 2 2 Zd4
noncomputable def Zdz : SF :=
 (Zan (sIf (tNo (Zja (Zal 1 Zf0 (Zab (Zae 1) Zaj)))) (Zan Zwr
 Zas) Zas)
 (Zan (sIf (tOf (eOp eqD (eCB Zd8 (Zab (Zka "Match" (Zae 0) "picked") Zaj)) (eCB Zd8 (Zab (eOp ixD (Zka "Match" (Zae 0) "begun") (eC (.int 0))) Zaj)))) (Zan Zwr
 Zas) Zas)
 (Zan (Znf "Match" (Zae 0) (eOp Zc1 (Zka "Match" (Zae 0) "picked") (Zgp (Zab (Zae 1) Zaj))) "picked")
 Zas)))
noncomputable def Za5 : FF := Zbq 2 2 Zdz
noncomputable def Zd3 : SF :=
 (Zan (sIf (tOf (eOp eqD (eCB Zd8 (Zab (Zka "Match" (Zae 0) "picked") Zaj)) (eC (.int 0)))) (Zan Zwr
 Zas) Zas)
 (Zan (Znf "Match" (Zae 0) (eSl (Zka "Match" (Zae 0) "picked") Zfu (Zfm (eUn Zlb (eC (.int 1))))) "picked")
 Zas))
noncomputable def Zbt : FF := Zbq 1 1 Zd3
noncomputable def Zdy : SF :=
 (Zan (Zb5 (Zka "Match" (Zae 0) "picked"))
 Zas)
noncomputable def Zby : FF := Zbq 1 1 Zdy
noncomputable def Zdw : SF :=
 (Zan (sIf (tOf (eOp eqD (eCB Zd8 (Zab (Zka "Match" (Zae 0) "picked") Zaj)) (eCB Zd8 (Zab (eOp ixD (Zka "Match" (Zae 0) "begun") (eC (.int 0))) Zaj)))) (Zan (Zb5 (eC .non))
 Zas) Zas)
 (Zan (Zb5 (eOp ixD (eOp ixD (Zka "Match" (Zae 0) "begun") (eC (.int 0))) (eCB Zd8 (Zab (Zka "Match" (Zae 0) "picked") Zaj))))
 Zas))
noncomputable def Zba : FF := Zbq 1 1 Zdw
noncomputable def Zel : SF :=
 (Zan (Zb5 (Zal 2 Zec (Zab (Zka "Match" (Zae 0) "begun") (Zab (Zka "Match" (Zae 0) "picked") Zaj))))
 Zas)
noncomputable def Zbc : FF := Zbq 1 1 Zel
noncomputable def Zd1 : SF :=
 (Zan (Zb5 (Zal 2 Zc9 (Zab (Zka "Match" (Zae 0) "begun") (Zab (Zka "Match" (Zae 0) "picked") Zaj))))
 Zas)
noncomputable def Zbs : FF := Zbq 1 1 Zd1
noncomputable def Zd6 : SF :=
 (Zan (Zb5 (Zal 2 Zhu (Zab (Zka "Match" (Zae 0) "begun") (Zab (Zka "Match" (Zae 0) "picked") Zaj))))
 Zas)
noncomputable def Zbf : FF := Zbq 1 1 Zd6
noncomputable def Zep : SF :=
 (Zan (Zbd 4 (Zdn (Zab (Zae 3) (Zab (Zal 2 Zec (Zab (Zae 2) (Zab (Zae 3) Zaj))) (Zab (Zal 2 Zc9 (Zab (Zae 2) (Zab (Zae 3) Zaj))) (Zab (Zal 2 Zhu (Zab (Zae 2) (Zab (Zae 3) Zaj))) Zaj))))))
 (Zan (Zbd 5 (Zal 2 Zai (Zab (Zae 0) (Zab (eC (.int 4)) Zaj))))
 (Zan (Zhi (iR1 (Zab (eOp Zc1 (eC (.int 1)) (Zal 2 Zai (Zab (Zae 0) (Zab (eC (.int 4)) Zaj)))) Zaj)) (gNm 6) (Zan (Zbd 7 (eOp Zgn (eOp Zc1 (Zae 5) (Zae 6)) (eC (.int 4))))
 (Zan (Zbd 8 (eIf (tOf (eOp eqD (Zae 7) (eC (.int 0)))) (Zbl "Match" "play" 1 Zby (Zae 1) Zaj) (eIf (tOf (eOp eqD (Zae 7) (eC (.int 1)))) (Zbl "Match" "who" 1 Zbc (Zae 1) Zaj) (Zbl "Match" "left" 1 Zbf (Zae 1) Zaj))))
 (Zan (sIf (tOf (eOp eqD (Zae 7) (eC (.int 2)))) (Zan (Zbd 8 (Zbl "Match" "good" 1 Zbs (Zae 1) Zaj))
 Zas) Zas)
 (Zan (sIf (tOf (eOp neD (Zae 8) (eOp ixD (Zae 4) (Zae 7)))) (Zan (Zb5 (eC (.bl false)))
 Zas) Zas)
 Zas)))))
 (Zan (Zb5 (eC (.bl true)))
 Zas))))
noncomputable def Zek : FF := Zbq 4 9 Zep
noncomputable def Zd5 : SF :=
 (Zan (Zb5 (Zdn (Zab (Zbl "Match" "left" 1 Zbf (Zae 0) Zaj) (Zab (Zbl "Match" "play" 1 Zby (Zae 0) Zaj) (Zab (Zbl "Match" "turn" 1 Zba (Zae 0) Zaj) (Zab (Zbl "Match" "who" 1 Zbc (Zae 0) Zaj) (Zab (Zbl "Match" "good" 1 Zbs (Zae 0) Zaj) Zaj)))))))
 Zas)
noncomputable def Zbr : FF := Zbq 1 1 Zd5
noncomputable def Zcb : SF :=
 (Zan (Zbd 2 (eMk "Match" 2 Zbz (Zab (Zae 1) Zaj)))
 (Zan (Zbd 3 (Zbl "Match" "who" 1 Zbc (Zae 2) Zaj))
 (Zan (Zbd 4 (Zdn Zaj))
 (Zan (Zbd 5 (Zdn Zaj))
 (Zan (sWh (tOf (eOp Zt1 (Zbl "Match" "turn" 1 Zba (Zae 2) Zaj) (eC .non))) (Zan (Zch (eLM Zcz (Zae 4) (Zab (Zal 1 Zbr (Zab (Zae 2) Zaj)) Zaj)))
 (Zan (Zbd 7 (Zbl "Match" "good" 1 Zbs (Zae 2) Zaj))
 (Zan (Zch (eLM Zcz (Zae 5) (Zab (Zgp (Zab (Zae 7) (Zab (eCB Zpo (Zab (Zae 7) Zaj)) Zaj))) Zaj)))
 (Zan (sIf (Zmu (tOf (eOp neD (Zbl "Match" "who" 1 Zbc (Zae 2) Zaj) (Zae 3))) (tAn (tOf (eOp eqD (Zbl "Match" "turn" 1 Zba (Zae 2) Zaj) (Zae 3))) (tOf (eOp eqD (Zae 7) (Zdn Zaj))))) (Zan (Zb5 (eC (.bl false)))
 Zas) Zas)
 (Zan (Zbd 8 (eOp eqD (Zal 2 Zai (Zab (Zae 0) (Zab (eC (.int 2)) Zaj))) (eC (.int 1))))
 (Zan (sIf (tOf (eOp eqD (Zbl "Match" "turn" 1 Zba (Zae 2) Zaj) (Zae 3))) (Zan (Zbd 8 (Zal 2 Zau (Zab (Zae 0) (Zab (Zae 7) Zaj))))
 Zas) Zas)
 (Zan (Zch (Zbl "Match" "pick" 2 Za5 (Zae 2) (Zab (Zae 8) Zaj)))
 Zas))))))) 20)
 (Zan (sIf (Zmu (tOf (eOp neD (Zbl "Match" "who" 1 Zbc (Zae 2) Zaj) (Zae 3))) (tOf (eOp neD (Zbl "Match" "good" 1 Zbs (Zae 2) Zaj) (Zdn Zaj)))) (Zan (Zb5 (eC (.bl false)))
 Zas) Zas)
 (Zan (sIf (tOf (eOp Zt1 (Zal 3 Zgu (Zab (Zbl "Match" "left" 1 Zbf (Zae 2) Zaj) (Zab (Zae 3) (Zab (eOp ixD (Zal 1 Zof (Zab (Zbl "Match" "left" 1 Zbf (Zae 2) Zaj) Zaj)) (eC (.int 1))) Zaj)))) (eC (.bl true)))) (Zan (Zb5 (eC (.bl false)))
 Zas) Zas)
 (Zan (Zhi (iRev (Zab (Zae 4) Zaj)) (gNm 6) (Zan (Zch (Zbl "Match" "back" 1 Zbt (Zae 2) Zaj))
 (Zan (sIf (tOf (eOp neD (Zal 1 Zbr (Zab (Zae 2) Zaj)) (Zae 6))) (Zan (Zb5 (eC (.bl false)))
 Zas) Zas)
 Zas)))
 (Zan (Zb5 (eOp eqD (Zxw (iSq (Zae 5)) [] (tOf (eOp neD (Zae 0) (Zae 1))) (eC (.int 1))) (Zdn Zaj)))
 Zas)))))))))
noncomputable def Zcc : FF := Zbq 2 9 Zcb
noncomputable def Zcd : SF :=
 (Zan (Zbd 2 (eCB Zdg (Zab (eLC (iR1 (Zab (Zal 2 Zai (Zab (Zae 0) (Zab (eOp Zc1 (eCB Zd8 (Zab (eOp ixD (Zae 1) (eC (.int 0))) Zaj)) (eC (.int 1))) Zaj))) Zaj)) [0] Zgm (eOp eqD (Zal 2 Zai (Zab (Zae 1) (Zab (eC (.int 2)) Zaj))) (eC (.int 1)))) Zaj)))
 (Zan (Zbd 3 (eMk "Match" 2 Zbz (Zab (Zae 1) Zaj)))
 (Zan (Zhi (iSq (Zae 2)) (gNm 4) (Zan (Zch (Zbl "Match" "pick" 2 Za5 (Zae 3) (Zab (Zae 4) Zaj)))
 Zas))
 (Zan (Zbd 5 (eMk "Match" 2 Zbz (Zab (Zal 2 Zhu (Zab (Zae 1) (Zab (Zae 2) Zaj))) Zaj)))
 (Zan (sWh (tOf (eOp Zt1 (Zbl "Match" "turn" 1 Zba (Zae 3) Zaj) (eC .non))) (Zan (sIf (Zmu (tOf (eOp neD (eSl (Zal 1 Zbr (Zab (Zae 3) Zaj)) (Zfm (eC (.int 2))) Zfu) (eSl (Zal 1 Zbr (Zab (Zae 5) Zaj)) (Zfm (eC (.int 2))) Zfu))) (tOf (eOp neD (Zbl "Match" "left" 1 Zbf (Zae 3) Zaj) (Zbl "Match" "left" 1 Zbf (Zae 5) Zaj)))) (Zan (Zb5 (eC (.bl false)))
 Zas) Zas)
 (Zan (Zbd 4 (eOp eqD (Zal 2 Zai (Zab (Zae 0) (Zab (eC (.int 2)) Zaj))) (eC (.int 1))))
 (Zan (Zch (Zbl "Match" "pick" 2 Za5 (Zae 3) (Zab (Zae 4) Zaj)))
 (Zan (Zch (Zbl "Match" "pick" 2 Za5 (Zae 5) (Zab (Zae 4) Zaj)))
 Zas)))) 20)
 (Zan (Zb5 (eAn (eOp isD (Zbl "Match" "turn" 1 Zba (Zae 5) Zaj) (eC .non)) (eAn (eOp eqD (Zbl "Match" "who" 1 Zbc (Zae 3) Zaj) (Zbl "Match" "who" 1 Zbc (Zae 5) Zaj)) (eOp eqD (Zbl "Match" "play" 1 Zby (Zae 3) Zaj) (eOp Zc1 (Zae 2) (Zbl "Match" "play" 1 Zby (Zae 5) Zaj))))))
 Zas))))))
noncomputable def Zcg : FF := Zbq 2 6 Zcd
noncomputable def Zso : SF :=
 (Zan (Zbd 1 (Zdn (Zab (Zal 3 Zc6 (Zab (Zal 2 Zc8 (Zab (Zae 0) (Zab (eC (.int 0)) Zaj))) (Zab (eC (.int 5)) (Zab (eC (.int 8)) Zaj)))) (Zab (Zal 3 Zc6 (Zab (Zal 2 Zc8 (Zab (Zae 0) (Zab (eC (.int 1)) Zaj))) (Zab (eC (.int 5)) (Zab (eC (.int 8)) Zaj)))) Zaj))))
 (Zan (Zbd 2 (Zal 2 Zc8 (Zab (Zae 0) (Zab (eC (.int 2)) Zaj))))
 (Zan (sIf (tOf (eOp eqD (Zal 2 Zai (Zab (Zae 2) (Zab (eC (.int 2)) Zaj))) (eC (.int 0)))) (Zan (Zla (eOp ixD (Zae 1) (eC (.int 0))) (gSb (Zae 1) (eC (.int 1)) Zjw))
 Zas) Zas)
 (Zan (Zbd 3 (eLC (iSq (Zae 1)) [] Zgm (eMk "Match" 2 Zbz (Zab (Zae 0) Zaj))))
 (Zan (Zbd 4 (Zdn (Zab (Zgp Zaj) (Zab (Zgp Zaj) Zaj))))
 (Zan (Zhi (iR1 (Zab (eOp Zc1 (eC (.int 8)) (Zal 2 Zai (Zab (Zae 2) (Zab (eC (.int 8)) Zaj)))) Zaj)) (gNm 5) (Zan (Zbd 6 (Zal 2 Zai (Zab (Zae 2) (Zab (eC (.int 2)) Zaj))))
 (Zan (sIf (tAn (tOf (eOp eqD (Zal 2 Zai (Zab (Zae 2) (Zab (eC (.int 4)) Zaj))) (eC (.int 0)))) (tOf (eOp neD (eOp ixD (Zae 4) (Zae 6)) (Zgp Zaj)))) (Zan (Zch (Zbl "Match" "back" 1 Zbt (eOp ixD (Zae 3) (Zae 6)) Zaj))
 (Zan (Zla (eSl (eOp ixD (Zae 4) (Zae 6)) Zfu (Zfm (eUn Zlb (eC (.int 1))))) (gSb (Zae 4) (Zae 6) Zjw))
 Zas)) (Zan (sIf (tOf (eOp ltD (eCB Zd8 (Zab (eOp ixD (Zae 4) (Zae 6)) Zaj)) (eCB Zd8 (Zab (eOp ixD (eOp ixD (Zae 1) (Zae 6)) (eC (.int 0))) Zaj)))) (Zan (Zbd 7 (eOp eqD (Zal 2 Zai (Zab (Zae 2) (Zab (eC (.int 2)) Zaj))) (eC (.int 1))))
 (Zan (Zch (Zbl "Match" "pick" 2 Za5 (eOp ixD (Zae 3) (Zae 6)) (Zab (Zae 7) Zaj)))
 (Zan (Zla (eOp Zc1 (eOp ixD (Zae 4) (Zae 6)) (Zgp (Zab (Zae 7) Zaj))) (gSb (Zae 4) (Zae 6) Zjw))
 Zas))) Zas)
 Zas))
 (Zan (sIf (tOf (eOp gtD (Zal 2 Zai (Zab (Zae 2) (Zab (eC (.int 3)) Zaj))) (eC (.int 0)))) (Zan (sIf (tOf (eOp inD (eC (.bl false)) (eLC (iR1 (Zab (eC (.int 2)) Zaj)) [1, 2, 3, 4] Zgm (Zal 4 Zek (Zab (Zae 2) (Zab (eOp ixD (Zae 3) (Zae 0)) (Zab (eOp ixD (Zae 1) (Zae 0)) (Zab (eOp ixD (Zae 4) (Zae 0)) Zaj)))))))) (Zan (Zb5 (eC (.bl false)))
 Zas) Zas)
 Zas) Zas)
 Zas))))
 (Zan (sIf (Zmu (tNo (Zja (Zal 2 Zcc (Zab (Zae 2) (Zab (eOp ixD (Zae 1) (eC (.int 0))) Zaj))))) (tNo (Zja (Zal 2 Zcc (Zab (Zae 2) (Zab (eOp ixD (Zae 1) (eC (.int 1))) Zaj)))))) (Zan (Zb5 (eC (.bl false)))
 Zas) Zas)
 (Zan (Zb5 (eAn (Zal 2 Zcg (Zab (Zae 2) (Zab (eOp ixD (Zae 1) (eC (.int 0))) Zaj))) (Zal 2 Zcg (Zab (Zae 2) (Zab (eOp ixD (Zae 1) (eC (.int 1))) Zaj)))))
 Zas))))))))
noncomputable def Zo8 : FF := Zbq 1 8 Zso
end K08
set_option maxHeartbeats 4000000
namespace WP
open PySem L2 DL LH
section
variable {σ : SD} {H : HD} {Q : D -> HD -> Prop} {R : FD -> SD -> HD -> Prop} {cn f m : Str} {fo fv : EF} {fa : AF} {F : FF} {k : Nat}
theorem Zf3 (h : wE (fo σ H) fun d H1 => ∃ n fs, d = .ref n ∧ H1[n]? = some (.obj cn fs) ∧ ∃ v, fs.lookup f = some v ∧ Q v H1) : wE (Zka cn fo f σ H) Q := by
 obtain ⟨d, H1, e, n, fs, rfl, g, v, l, q⟩ := h
 exact ⟨v, H1, by unfold Zka; rw [e]; simp only [Zb]; rw [g]; simp [l], q⟩
theorem Zo2 (h : wE (fv σ H) fun y H1 => wE (fo σ H1) fun d H2 => ∃ n fs, d = .ref n ∧ H2[n]? = some (.obj cn fs) ∧ fs.length < 1000 ∧ R .nx σ (H2.set n (.obj cn (Zvz f y fs)))) : wS (Znf cn fo fv f σ H) R := by
 obtain ⟨y, H1, e1, d, H2, e, n, fs, rfl, g, l, q⟩ := h
 exact ⟨_, _, _, by unfold Znf; rw [e1]; simp only [Zb]; rw [e]; simp only [Zb]; rw [g]; simp only; rw [if_pos ⟨trivial, l⟩], q⟩
theorem Zbj (h : wE (fo σ H) fun d H1 => ∃ n fs, d = .ref n ∧ H1[n]? = some (.obj cn fs) ∧ fs.lookup m = none ∧ wA (fa σ H1) fun ds H2 => ds.length + 1 = k ∧ wE (F (.ref n :: ds) H2) Q) : wE (Zbl cn m k F fo fa σ H) Q := by
 obtain ⟨d, H1, e, n, fs, rfl, g, l, ds, H2, e2, hl, v, H3, e3, q⟩ := h
 exact ⟨v, H3, by unfold Zbl; rw [e]; simp only [Zb]; rw [g]; simp only; rw [if_pos ⟨trivial, l⟩, e2]; simp only [Zb]; rw [if_pos hl]; exact e3, q⟩
theorem Zyj (h : wA (fa σ H) fun ds H1 => ds.length + 1 = k ∧ wE (F (.ref H1.length :: ds) (H1 ++ [.obj cn []])) fun d H2 => d = .non ∧ Q (.ref H1.length) H2) : wE (eMk cn k F fa σ H) Q := by
 obtain ⟨ds, H1, e, hl, d, H2, e2, rfl, q⟩ := h
 exact ⟨_, H2, by unfold eMk; rw [e]; simp only [Zb]; rw [if_pos hl, e2]; rfl, q⟩
theorem Fm.obj {S : List Nat} {H H' : HD} (x : Fm S H H') {n : Nat} {cn : Str} {fs : List (Str × D)} (hm : n ∉ S) (h : H[n]? = some (.obj cn fs)) : H'[n]? = some (.obj cn fs) := by
 rcases x.old n _ hm h with h1 | ⟨k2, e, _⟩
 ·exact h1
 ·cases e
end
end WP
namespace K08
open PySem L2 DL LH
noncomputable def opn (bs : List Bool) (l : Int) : Bool := decide ((bs.length : Int) < Zbn l)
noncomputable def rig (bs : List Bool) (l : Int) : Bool := match bs[(Zbn l - 1).toNat]? with
 | some b => b == decide (0 < l)
 | none => false
noncomputable def kept (bs : List Bool) (ls : List Int) : Bool := ls.any (rig bs)
noncomputable def rest (bs : List Bool) (ls : List Int) : List Int := ls.filter (opn bs)
noncomputable def Zfo (b : Int) : List Int -> List Int
 | [] => []
 | l :: r => if Zbn l = b + 1 then r else l :: r
noncomputable def Zjb (b : Int) (t : Bool) : List Int -> Bool
 | [] => false
 | l :: _ => decide (Zbn l = b + 1) && (t == decide (0 < l))
theorem Zgf {m : Int} (bs : List Bool) : ∀ (ls : List Int) (last : Int), Up m last ls -> (bs.length : Int) ≤ last -> rest bs ls = ls ∧ kept bs ls = false
 | [], _, _, _ => ⟨rfl, rfl⟩
 | l :: r, last, u, h => by
  obtain ⟨h1, h2, h3⟩ := u
  obtain ⟨a, b⟩ := Zgf bs r (Zbn l) h3 (by omega)
  have o : opn bs l = true := decide_eq_true (by omega)
  have g : rig bs l = false := by
   unfold rig
   rw [List.getElem?_eq_none (by omega)]
  refine ⟨?_, ?_⟩
  ·unfold rest; rw [List.filter_cons_of_pos o]; exact congrArg _ a
  ·unfold kept; rw [List.any_cons, g]; exact b
theorem Zv1 {bs : List Bool} {t : Bool} {l : Int} (h : Zbn l ≤ bs.length) (h0 : 0 < Zbn l) : rig (bs ++ [t]) l = rig bs l := by
 unfold rig
 rw [List.getElem?_append_left (by omega)]
theorem Zgo {m : Int} (bs : List Bool) (t : Bool) : ∀ (ls : List Int) (last : Int), 0 ≤ last -> Up m last ls -> rest (bs ++ [t]) ls = Zfo bs.length (rest bs ls) ∧ kept (bs ++ [t]) ls = (kept bs ls || Zjb bs.length t (rest bs ls))
 | [], _, _, _ => ⟨rfl, rfl⟩
 | l :: r, last, h0, u => by
  obtain ⟨h1, h2, h3⟩ := u
  have la : (((bs ++ [t]).length : Nat) : Int) = bs.length + 1 := by simp
  by_cases c1 : Zbn l ≤ bs.length
  ·obtain ⟨a, b⟩ := Zgo bs t r (Zbn l) (by omega) h3
   have o1 : opn bs l = false := decide_eq_false (by omega)
   have o2 : opn (bs ++ [t]) l = false := decide_eq_false (by rw [la]; omega)
   have e : rest bs (l :: r) = rest bs r := by unfold rest; rw [List.filter_cons_of_neg (by rw [o1]; simp)]
   have e' : rest (bs ++ [t]) (l :: r) = rest (bs ++ [t]) r := by unfold rest; rw [List.filter_cons_of_neg (by rw [o2]; simp)]
   rw [e, e']
   refine ⟨a, ?_⟩
   have k : ∀ cs, kept cs (l :: r) = (rig cs l || kept cs r) := fun cs => by unfold kept; rw [List.any_cons]
   rw [k, k, Zv1 c1 (by omega), b, Bool.or_assoc]
  ·have o1 : opn bs l = true := decide_eq_true (by omega)
   obtain ⟨a1, a2⟩ := Zgf bs r (Zbn l) h3 (by omega)
   have e : rest bs (l :: r) = l :: r := by unfold rest; rw [List.filter_cons_of_pos o1]; exact congrArg _ a1
   have g1 : rig bs l = false := by unfold rig; rw [List.getElem?_eq_none (by omega)]
   have k : ∀ cs, kept cs (l :: r) = (rig cs l || kept cs r) := fun cs => by unfold kept; rw [List.any_cons]
   by_cases c2 : Zbn l = bs.length + 1
   ·obtain ⟨b1, b2⟩ := Zgf (bs ++ [t]) r (Zbn l) h3 (by rw [la]; omega)
    have o2 : opn (bs ++ [t]) l = false := decide_eq_false (by rw [la]; omega)
    have e' : rest (bs ++ [t]) (l :: r) = r := by unfold rest; rw [List.filter_cons_of_neg (by rw [o2]; simp)]; exact b1
    have g2 : rig (bs ++ [t]) l = (t == decide (0 < l)) := by
     unfold rig
     have : (Zbn l - 1).toNat = bs.length := by omega
     rw [this]; simp
    rw [e, e', k, k, g1, g2, a2, b2]
    refine ⟨by simp [Zfo, c2], by simp [Zjb, c2]⟩
   ·obtain ⟨b1, b2⟩ := Zgf (bs ++ [t]) (l :: r) (Zbn l - 1) ⟨by omega, h2, h3⟩ (by rw [la]; omega)
    rw [e, b1, k bs, g1, a2, b2]
    refine ⟨by simp [Zfo, c2], by simp [Zjb, c2]⟩
theorem Zoj : ∀ ls : List Int, Znu (ls.map .int) = some ls
 | [] => rfl
 | l :: r => by simp [Znu, nkOf, Zoj r]
theorem Zfa (ls : List Int) : nk (Zb1 ls) = some ls := Zoj ls
theorem Zs6 {kvs : List (D × D)} {kd vd : D} {k k' : List Int} (h : nk kd = some k) (h0 : Zb2 kvs k = none) : (Zb2 (Zpi kvs kd k vd) k').isSome = ((Zb2 kvs k').isSome || decide (k' = k)) := by
 have e : Zpi kvs kd k vd = kvs ++ [(kd, vd)] := by unfold Zpi; rw [h0]; rfl
 rw [e]
 unfold Zb2
 rw [List.find?_append]
 cases q : kvs.find? (fun p => nk p.1 == some k') with
 | some p => simp
 | none =>
  by_cases c : k' = k
  ·subst c; simp [h]
  ·have : (nk kd == some k') = false := by rw [h]; simp; exact fun z => c z.symm
   simp [List.find?_cons, this, c]
structure DR (rss : List (List Int)) (bs : List Bool) (kvs : List (D × D)) : Prop where
 key : ∀ p ∈ kvs, ∃ ls ∈ rss, kept bs ls = false ∧ p.1 = Zb1 (rest bs ls)
 all : ∀ ls ∈ rss, kept bs ls = false -> (Zb2 kvs (rest bs ls)).isSome = true
 len : kvs.length ≤ rss.length
 val : ∀ p ∈ kvs, ∃ (i : Nat) (ls : List Int), rss[i]? = some ls ∧ kept bs ls = false ∧ p = (Zb1 (rest bs ls), .int i)
structure Fz (H H' : HD) : Prop where
 old : ∀ (m : Nat) (o : DO), H[m]? = some o -> H'[m]? = some o ∨ ∃ kvs, o = .dic kvs false ∧ H'[m]? = some (.dic kvs true)
 len : H.length ≤ H'.length
theorem Fz.refl {H : HD} : Fz H H := ⟨fun _ _ h => .inl h, Nat.le_refl _⟩
theorem Fz.trans {H H1 H2 : HD} (a : Fz H H1) (b : Fz H1 H2) : Fz H H2 := by
 refine ⟨fun m o h => ?_, Nat.le_trans a.len b.len⟩
 rcases a.old m o h with h1 | ⟨kvs, rfl, h1⟩
 ·exact b.old m o h1
 ·rcases b.old m _ h1 with h2 | ⟨k2, e, _⟩
  ·exact .inr ⟨kvs, rfl, h2⟩
  ·cases e
theorem Fz.app {H : HD} (L : HD) : Fz H (H ++ L) := ⟨fun m o q => .inl (by
 have : m < H.length := (List.getElem?_eq_some_iff.mp q).1
 rw [List.getElem?_append_left this]; exact q), by simp⟩
theorem Fz.dic {H H' : HD} (x : Fz H H') {m : Nat} {kvs : List (D × D)} {fz : Bool} (h : H[m]? = some (.dic kvs fz)) : ∃ fz', H'[m]? = some (.dic kvs fz') := by
 rcases x.old m _ h with h1 | ⟨k2, e, h1⟩
 ·exact ⟨fz, h1⟩
 ·cases e; exact ⟨true, h1⟩
theorem dm {g : D -> List D -> HD -> Option (D × HD)} {fo : EF} {f : AF} {σ : SD} {H H1 H2 : HD} {o : D} {ds : List D} {r : Option (D × HD)} (h1 : fo σ H = some (o, H1)) (hd : Zmz o H1 = true) (h2 : f σ H1 = some (ds, H2)) (h3 : g o ds H2 = r) : eDM g fo f σ H = r := by
 unfold eDM; rw [h1]; simp only [Zb]; rw [if_pos hd, h2]; exact h3
theorem ex {f : EF} {σ : SD} {H H1 : HD} {d : D} (h : f σ H = some (d, H1)) : Zch f σ H = some (.nx, σ, H1) := by unfold Zch; rw [h]; rfl
noncomputable def Zhq (acc : List (D × D)) (k : List Int) (v : D) : List (D × D) := if (Zb2 acc k).isSome = true then acc else acc ++ [(Zb1 k, v)]
theorem Zmx {q : Nat} {acc : List (D × D)} {k : List Int} {v : D} {H : HD} (h : H[q]? = some (.dic acc false)) (hl : acc.length ≤ 100000) : ∃ z, Zi7 (.ref q) [Zb1 k, v] H = some (z, H.set q (.dic (Zhq acc k v) false)) := by
 have sz : acc.length < sizeLine := by rw [PySem.sizeLine_eq]; omega
 unfold Zi7
 simp only [h, Zfa, Zb, if_pos sz]
 cases e : Zb2 acc k with
 | some z =>
  refine ⟨z, ?_⟩
  have : Zhq acc k v = acc := by unfold Zhq; rw [e]; rfl
  rw [this]
  obtain ⟨h1, h2⟩ := List.getElem?_eq_some_iff.mp h
  rw [← h2, List.set_getElem_self h1]
 | none =>
  refine ⟨v, ?_⟩
  have e1 : Zpi acc (Zb1 k) k v = acc ++ [(Zb1 k, v)] := by unfold Zpi; rw [e]; rfl
  have e2 : Zhq acc k v = acc ++ [(Zb1 k, v)] := by unfold Zhq; rw [e]; rfl
  rw [e1, e2]
theorem Zh4 {acc : List (D × D)} {k k' : List Int} {v : D} : (Zb2 (Zhq acc k v) k').isSome = ((Zb2 acc k').isSome || decide (k' = k)) := by
 unfold Zhq
 cases e : Zb2 acc k with
 | some z =>
  rw [if_pos (by simp)]
  by_cases c : k' = k
  ·subst c; rw [e]; rfl
  ·simp [c]
 | none =>
  have := Zs6 (kvs := acc) (kd := Zb1 k) (vd := v) (k := k) (k' := k') (Zfa k) e
  have e1 : Zpi acc (Zb1 k) k v = acc ++ [(Zb1 k, v)] := by unfold Zpi; rw [e]; rfl
  rw [e1] at this
  rw [if_neg (by simp)]; exact this
theorem Zrx (acc : List (D × D)) (k : List Int) (v : D) : (Zhq acc k v).length ≤ acc.length + 1 := by unfold Zhq; split <;> simp
theorem Zr2 {acc : List (D × D)} {k : List Int} {v : D} {p : D × D} (h : p ∈ Zhq acc k v) : p ∈ acc ∨ p.1 = Zb1 k := by
 unfold Zhq at h
 split at h
 ·exact .inl h
 ·rcases List.mem_append.mp h with h | h
  ·exact .inl h
  ·simp at h; subst h; exact .inr rfl
theorem Zop {acc : List (D × D)} {k : List Int} {v : D} {p : D × D} (h : p ∈ Zhq acc k v) : p ∈ acc ∨ p = (Zb1 k, v) := by
 unfold Zhq at h
 split at h
 ·exact .inl h
 ·rcases List.mem_append.mp h with h | h
  ·exact .inl h
  ·simp at h; subst h; exact .inr rfl
noncomputable abbrev fb : SF := (Zan (Zch (eDM Zi7 (Zae 1) (Zab (Zae 3) (Zab (Zae 2) Zaj)))) Zas)
theorem Zjj {q : Nat} {r : D} : ∀ (rss : List (List Int)) (c : Int) (acc : List (D × D)) (H : HD) (z2 z3 : Option D), H[q]? = some (.dic acc false) -> acc.length + rss.length ≤ 100000 →
  ∃ (acc' : List (D × D)) (z2' z3' : Option D), Zf6 [] (gTp 2 (gCn (gNm 2) (gCn (gNm 3) gNl))) fb (Zf4 c (rss.map Zb1)) [some r, some (.ref q), z2, z3] H = some (.nx, [some r, some (.ref q), z2', z3'], H.set q (.dic acc' false)) ∧
   (∀ p ∈ acc', p ∈ acc ∨ ∃ ls ∈ rss, p.1 = Zb1 ls) ∧ (∀ k, (Zb2 acc k).isSome = true -> (Zb2 acc' k).isSome = true) ∧ (∀ ls ∈ rss, (Zb2 acc' ls).isSome = true) ∧ acc'.length ≤ acc.length + rss.length ∧ (∀ p ∈ acc', p ∈ acc ∨ ∃ (i : Nat) (ls : List Int), rss[i]? = some ls ∧ p = (Zb1 ls, .int (c + i)))
 | [], c, acc, H, z2, z3, hq, _ => by
  obtain ⟨h1, h2⟩ := List.getElem?_eq_some_iff.mp hq
  refine ⟨acc, z2, z3, ?_, fun p hp => .inl hp, fun _ h => h, by simp, by simp, fun p hp => .inl hp⟩
  rw [List.map_nil, Zf4, Zf6, if_pos Zf8, ← h2, List.set_getElem_self h1]
 | ls :: rss, c, acc, H, z2, z3, hq, hl => by
  rw [List.map_cons, Zf4, Zf6, if_pos Zf8]
  simp only [gTp, List.length_cons, List.length_nil, gCn, gNm, gNl, List.set, Zb, if_true, Nat.zero_add, Nat.reduceAdd]
  obtain ⟨z, es⟩ := Zmx (k := ls) (v := .int c) hq (by omega)
  have lt := (List.getElem?_eq_some_iff.mp hq).1
  have st : fb [some r, some (.ref q), some (.int c), some (Zb1 ls)] H = some (.nx, [some r, some (.ref q), some (.int c), some (Zb1 ls)], H.set q (.dic (Zhq acc ls (.int c)) false)) :=
   (Zbh (ex (dm (vr rfl) (by simp [Zmz, hq]) (ac (vr rfl) (ac (vr rfl) an)) es))).trans rfl
  rw [st]
  simp only [Zb]
  have al := Zrx acc ls (.int c)
  obtain ⟨acc', z2', z3', e, a1, a2, a3, a4, a5⟩ := Zjj (q := q) (r := r) rss (c + 1) (Zhq acc ls (.int c)) (H.set q (.dic (Zhq acc ls (.int c)) false)) (some (.int c)) (some (Zb1 ls)) (by rw [List.getElem?_set_self lt]) (by simp at hl ⊢; omega)
  refine ⟨acc', z2', z3', by rw [e, List.set_set], fun p hp => ?_, fun k hk => a2 k (by rw [Zh4, hk]; rfl), fun l hl' => ?_, by omega, fun p hp => ?_⟩
  ·rcases a1 p hp with h | ⟨l, h1, h2⟩
   ·rcases Zr2 h with h | h
    ·exact .inl h
    ·exact .inr ⟨ls, by simp, h⟩
   ·exact .inr ⟨l, by simp [h1], h2⟩
  ·rcases List.mem_cons.mp hl' with rfl | hl'
   ·exact a2 _ (by rw [Zh4]; simp)
   ·exact a3 l hl'
  ·rcases a5 p hp with h | ⟨i, l, h1, h2⟩
   ·rcases Zop h with h | h
    ·exact .inl h
    ·exact .inr ⟨0, ls, rfl, by rw [h]; simp⟩
   ·exact .inr ⟨i + 1, l, by simpa using h1, by rw [h2]; simp; omega⟩
theorem Zod {rss : List (List Int)} {m : Int} (hu : ∀ ls ∈ rss, Up m 0 ls) (hl : rss.length ≤ 1000) (H : HD) :
  ∃ (kvs : List (D × D)) (H' : HD) (q : Nat), Zbk [.tup (rss.map Zb1)] H = some (.ref q, H') ∧ H'[q]? = some (.dic kvs false) ∧ DR rss [] kvs ∧ Fz H H' := by
 have s1 : Zbd 1 eDN [some (.tup (rss.map Zb1)), none, none, none] H = some (.nx, [some (.tup (rss.map Zb1)), some (.ref H.length), none, none], H ++ [.dic [] false]) := rfl
 obtain ⟨kvs, z2, z3, e, a1, a2, a3, a4, a5⟩ := Zjj (q := H.length) (r := .tup (rss.map Zb1)) rss 0 [] (H ++ [.dic [] false]) none none (by simp) (by simp; omega)
 have e1 : Zhi (Ztw (Zab (Zae 0) Zaj)) (gTp 2 (gCn (gNm 2) (gCn (gNm 3) gNl))) fb [some (.tup (rss.map Zb1)), some (.ref H.length), none, none] (H ++ [.dic [] false]) = some (.nx, [some (.tup (rss.map Zb1)), some (.ref H.length), z2, z3], (H ++ [DO.dic [] false]).set H.length (DO.dic kvs false)) := by
  unfold Zhi Ztw
  rw [ac (vr rfl) an]
  exact e
 have es : (H ++ [DO.dic [] false]).set H.length (.dic kvs false) = H ++ [.dic kvs false] := by simp
 rw [es] at e1
 refine ⟨kvs, H ++ [.dic kvs false], H.length, ?_, by simp, ⟨fun p hp => ?_, fun ls hls _ => ?_, by simpa using a4, fun p hp => ?_⟩, Fz.app _⟩
 ·show ((Zcr [some (.tup (rss.map Zb1)), none, none, none] H).bind _) = _
  unfold Zcr
  rw [Zbh s1, Zbh e1]
  rfl
 ·rcases a1 p hp with h | ⟨ls, h1, h2⟩
  ·simp at h
  ·obtain ⟨o1, o2⟩ := Zgf [] ls 0 (hu ls h1) (by simp)
   exact ⟨ls, h1, o2, by rw [o1]; exact h2⟩
 ·obtain ⟨o1, o2⟩ := Zgf [] ls 0 (hu ls hls) (by simp)
  rw [o1]; exact a3 ls hls
 ·rcases a5 p hp with h | ⟨i, ls, h1, h2⟩
  ·simp at h
  ·obtain ⟨o1, o2⟩ := Zgf [] ls 0 (hu ls (List.mem_of_getElem? h1)) (by simp)
   exact ⟨i, ls, h1, o2, by rw [o1, h2]; simp⟩
noncomputable def hd0 : List Int -> Int
 | [] => 0
 | l :: _ => l
theorem act {b : Int} {t : Bool} {ls : List Int} (hb : 0 ≤ b) :
  (hd0 ls = -(if t = true then b + 1 else -(b + 1)) -> Zjb b t ls = false ∧ Zfo b ls = ls.drop 1) ∧
  (hd0 ls ≠ -(if t = true then b + 1 else -(b + 1)) -> hd0 ls ≠ (if t = true then b + 1 else -(b + 1)) -> Zjb b t ls = false ∧ Zfo b ls = ls) ∧
  (hd0 ls ≠ -(if t = true then b + 1 else -(b + 1)) -> hd0 ls = (if t = true then b + 1 else -(b + 1)) -> Zjb b t ls = true) := by
 cases ls with
 | nil =>
  refine ⟨fun h => ?_, fun _ _ => ⟨rfl, rfl⟩, fun _ h => ?_⟩
  ·simp only [hd0] at h; split at h <;> omega
  ·simp only [hd0] at h; split at h <;> omega
 | cons l r =>
  simp only [hd0, Zjb, Zfo, List.drop_one, List.tail_cons]
  cases t with
  | true =>
   simp only [if_true]
   refine ⟨fun h => ?_, fun h1 h2 => ?_, fun h1 h2 => ?_⟩
   ·have e : Zbn l = b + 1 := by unfold Zbn; split <;> omega
    have g : decide (0 < l) = false := decide_eq_false (by omega)
    rw [g, if_pos e]; simp
   ·have e : Zbn l ≠ b + 1 := by unfold Zbn; split <;> omega
    rw [if_neg e, decide_eq_false e]; simp
   ·have e : Zbn l = b + 1 := by unfold Zbn; split <;> omega
    have g : decide (0 < l) = true := decide_eq_true (by omega)
    rw [g, decide_eq_true e]; rfl
  | false =>
   simp only [Bool.false_eq_true, if_false]
   refine ⟨fun h => ?_, fun h1 h2 => ?_, fun h1 h2 => ?_⟩
   ·have e : Zbn l = b + 1 := by unfold Zbn; split <;> omega
    have g : decide (0 < l) = true := decide_eq_true (by omega)
    rw [g, if_pos e]; simp
   ·have e : Zbn l ≠ b + 1 := by unfold Zbn; split <;> omega
    rw [if_neg e, decide_eq_false e]; simp
   ·have e : Zbn l = b + 1 := by unfold Zbn; split <;> omega
    have g : decide (0 < l) = false := decide_eq_false (by omega)
    rw [g, decide_eq_true e]; rfl
noncomputable abbrev bb : SF := (Zan (Zbd 6 (eIf (Zja (Zae 5)) (eOp ixD (Zae 5) (eC (.int 0))) (eC (.int 0))))
 (Zan (sIf (tOf (eOp eqD (Zae 6) (eUn Zlb (Zae 3)))) (Zan (Zch (eDM Zi7 (Zae 4) (Zab (eSl (Zae 5) (Zfm (eC (.int 1))) Zfu) (Zab (eOp Zi4 (Zae 0) (Zae 5)) Zaj))))
 Zas) (Zan (sIf (tOf (eOp neD (Zae 6) (Zae 3))) (Zan (Zch (eDM Zi7 (Zae 4) (Zab (Zae 5) (Zab (eOp Zi4 (Zae 0) (Zae 5)) Zaj))))
 Zas) Zas)
 Zas))
 Zas))
theorem un {g : D -> HD -> Option (D × HD)} {f : EF} {σ : SD} {H H1 : HD} {d : D} {r : Option (D × HD)} (h1 : f σ H = some (d, H1)) (h2 : g d H1 = r) : eUn g f σ H = r := by
 unfold eUn; rw [h1]; exact h2
theorem bb_ok {p q : Nat} {kvs acc : List (D × D)} {b : Int} {t : Bool} {a1 a2 z6 : Option D} {ls : List Int} {H : HD} (hb : 0 ≤ b) (hp : H[p]? = some (.dic kvs true)) (hq : H[q]? = some (.dic acc false)) (hl : acc.length ≤ 100000) (hk : (Zb2 kvs ls).isSome = true) :
  ∃ (v : D) (z6' : Option D), Zb2 kvs ls = some v ∧ bb [some (.ref p), a1, a2, some (.int (if t = true then b + 1 else -(b + 1))), some (.ref q), some (Zb1 ls), z6] H = some (.nx, [some (.ref p), a1, a2, some (.int (if t = true then b + 1 else -(b + 1))), some (.ref q), some (Zb1 ls), z6'], H.set q (.dic (if Zjb b t ls = true then acc else Zhq acc (Zfo b ls) v) false)) := by
 let R : Int := if t = true then b + 1 else -(b + 1)
 obtain ⟨v, ev⟩ := Option.isSome_iff_exists.mp hk
 have self : H.set q (.dic acc false) = H := by
  obtain ⟨h1, h2⟩ := List.getElem?_eq_some_iff.mp hq
  rw [← h2, List.set_getElem_self h1]
 have s1 : Zbd 6 (eIf (Zja (Zae 5)) (eOp ixD (Zae 5) (eC (.int 0))) (eC (.int 0))) [some (.ref p), a1, a2, some (.int R), some (.ref q), some (Zb1 ls), z6] H = some (.nx, [some (.ref p), a1, a2, some (.int R), some (.ref q), some (Zb1 ls), some (.int (hd0 ls))], H) := by
  refine Zhr (d := .int (hd0 ls)) ?_
  have tv : Zja (Zae 5) [some (.ref p), a1, a2, some (.int R), some (.ref q), some (Zb1 ls), z6] H = some (!ls.isEmpty, H) := by
   unfold Zja; rw [vr (d := Zb1 ls) rfl]; simp [Zb1, Zr6]
  unfold eIf
  rw [tv]
  cases ls with
  | nil => rfl
  | cons l r =>
   have : atI ((l :: r).map D.int) 0 = some (.int l) := Zaz (j := 0) rfl
   show eOp ixD (Zae 5) (eC (.int 0)) [some (.ref p), a1, a2, some (.int R), some (.ref q), some (Zb1 (l :: r)), z6] H = some (.int l, H)
   exact op (vr rfl) rfl (ixT this)
 let σ : SD := [some (.ref p), a1, a2, some (.int R), some (.ref q), some (Zb1 ls), some (.int (hd0 ls))]
 have dg : eOp Zi4 (Zae 0) (Zae 5) σ H = some (v, H) := by
  refine op (vr rfl) (vr rfl) ?_
  simp [Zi4, Zsw, hp, Zfa, ev]
 have t1 : tOf (eOp eqD (Zae 6) (eUn Zlb (Zae 3))) σ H = some (hd0 ls == -R, H) := tof (op (vr rfl) (un (vr rfl) rfl) (Zif _ _ _))
 have t2 : tOf (eOp neD (Zae 6) (Zae 3)) σ H = some (!(hd0 ls == R), H) := tof (op (vr rfl) (vr rfl) (Zyd _ _ _))
 have id1 : Zmz (.ref q) H = true := by simp [Zmz, hq]
 obtain ⟨A1, A2, A3⟩ := act (b := b) (t := t) (ls := ls) hb
 refine ⟨v, some (.int (hd0 ls)), ev, ?_⟩
 show bb [some (.ref p), a1, a2, some (.int R), some (.ref q), some (Zb1 ls), z6] H = some (.nx, σ, _)
 unfold bb
 rw [Zbh s1]
 by_cases c1 : hd0 ls = -R
 ·obtain ⟨h1, h2⟩ := A1 c1
  have sd : slD (Zb1 ls) (some 1) none H = some (Zb1 (ls.drop 1), H) := by
   have := sllo (xs := ls.map D.int) (k := 1) (H := H)
   rw [← List.map_drop] at this
   exact this
  obtain ⟨z, es⟩ := Zmx (k := ls.drop 1) (v := v) hq hl
  rw [h1, if_neg (by simp), h2]
  refine (Zbh (σ1 := σ) (H1 := H.set q (.dic (Zhq acc (ls.drop 1) v) false)) ?_).trans rfl
  rw [Zlx t1, if_pos (by simpa using c1)]
  exact (Zbh (ex (dm (vr rfl) id1 (ac (sl (vr rfl) (os rfl) on sd) (ac dg an)) es))).trans rfl
 ·by_cases c2 : hd0 ls = R
  ·rw [A3 c1 c2, if_pos rfl, self]
   refine (Zbh (σ1 := σ) (H1 := H) ?_).trans rfl
   rw [Zlx t1, if_neg (by simpa using c1)]
   refine (Zbh (σ1 := σ) (H1 := H) ?_).trans rfl
   rw [Zlx t2, if_neg (by simpa using c2)]
   rfl
  ·obtain ⟨h1, h2⟩ := A2 c1 c2
   obtain ⟨z, es⟩ := Zmx (k := ls) (v := v) hq hl
   rw [h1, if_neg (by simp), h2]
   refine (Zbh (σ1 := σ) (H1 := H.set q (.dic (Zhq acc ls v) false)) ?_).trans rfl
   rw [Zlx t1, if_neg (by simpa using c1)]
   refine (Zbh (σ1 := σ) (H1 := H.set q (.dic (Zhq acc ls v) false)) ?_).trans rfl
   rw [Zlx t2, if_pos (by simpa using c2)]
   exact (Zbh (ex (dm (vr rfl) id1 (ac (vr rfl) (ac dg an)) es))).trans rfl
theorem Zra {p q : Nat} {kvs : List (D × D)} {b : Int} {t : Bool} {a1 a2 : Option D} (hb : 0 ≤ b) (hpq : p ≠ q) : ∀ (qs : List (List Int)) (acc : List (D × D)) (H : HD) (z5 z6 : Option D), H[p]? = some (.dic kvs true) -> H[q]? = some (.dic acc false) -> acc.length + qs.length ≤ 100000 -> (∀ ls ∈ qs, (Zb2 kvs ls).isSome = true) →
  ∃ (acc' : List (D × D)) (z5' z6' : Option D), Zf6 [(p, .dic kvs true)] (gNm 5) bb (qs.map Zb1) [some (.ref p), a1, a2, some (.int (if t = true then b + 1 else -(b + 1))), some (.ref q), z5, z6] H = some (.nx, [some (.ref p), a1, a2, some (.int (if t = true then b + 1 else -(b + 1))), some (.ref q), z5', z6'], H.set q (.dic acc' false)) ∧
   (∀ x ∈ acc', x ∈ acc ∨ ∃ ls ∈ qs, Zjb b t ls = false ∧ x.1 = Zb1 (Zfo b ls)) ∧ (∀ k, (Zb2 acc k).isSome = true -> (Zb2 acc' k).isSome = true) ∧ (∀ ls ∈ qs, Zjb b t ls = false -> (Zb2 acc' (Zfo b ls)).isSome = true) ∧ acc'.length ≤ acc.length + qs.length ∧ (∀ x ∈ acc', x ∈ acc ∨ ∃ ls ∈ qs, Zjb b t ls = false ∧ x.1 = Zb1 (Zfo b ls) ∧ Zb2 kvs ls = some x.2)
 | [], acc, H, z5, z6, hp, hq, _, _ => by
  obtain ⟨h1, h2⟩ := List.getElem?_eq_some_iff.mp hq
  refine ⟨acc, z5, z6, ?_, fun p hp => .inl hp, fun _ h => h, by simp, by simp, fun p hp => .inl hp⟩
  rw [List.map_nil, Zf6, if_pos (by intro x hx; simp at hx; subst hx; exact hp), ← h2, List.set_getElem_self h1]
 | ls :: qs, acc, H, z5, z6, hp, hq, hl, hk => by
  have lt := (List.getElem?_eq_some_iff.mp hq).1
  rw [List.map_cons, Zf6, if_pos (by intro x hx; simp at hx; subst hx; exact hp)]
  simp only [gNm, List.set, Zb]
  obtain ⟨v, z6', ev, e1⟩ := bb_ok (t := t) (a1 := a1) (a2 := a2) (z6 := z6) (ls := ls) hb hp hq (by omega) (hk ls (by simp))
  rw [e1]
  simp only [Zb]
  let acc1 := if Zjb b t ls = true then acc else Zhq acc (Zfo b ls) v
  have al : acc1.length ≤ acc.length + 1 := by
   show (if Zjb b t ls = true then acc else Zhq acc (Zfo b ls) v).length ≤ _
   split
   ·omega
   ·exact Zrx _ _ _
  obtain ⟨acc', z5', z6'', e, a1', a2', a3', a4', a5'⟩ := Zra (p := p) (q := q) (kvs := kvs) (t := t) (a1 := a1) (a2 := a2) hb hpq qs acc1 (H.set q (.dic acc1 false)) (some (Zb1 ls)) z6' (by rw [List.getElem?_set_ne (Ne.symm hpq)]; exact hp) (by rw [List.getElem?_set_self lt]) (by simp at hl ⊢; omega) (fun l hl => hk l (by simp [hl]))
  have mono : ∀ k, (Zb2 acc k).isSome = true -> (Zb2 acc1 k).isSome = true := fun k hk => by
   show (Zb2 (if Zjb b t ls = true then acc else Zhq acc (Zfo b ls) v) k).isSome = true
   split
   ·exact hk
   ·rw [Zh4, hk]; rfl
  have lenF : acc'.length ≤ acc.length + (ls :: qs).length := by
   have e8 : (ls :: qs).length = qs.length + 1 := rfl
   have e9 : acc'.length ≤ acc1.length + qs.length := a4'
   omega
  refine ⟨acc', z5', z6'', by rw [e, List.set_set], fun x hx => ?_, fun k hk => a2' k (mono k hk), fun l hl' hh => ?_, lenF, fun x hx => ?_⟩
  ·rcases a1' x hx with h | ⟨l, h1, h2⟩
   ·cases hc : Zjb b t ls with
    | true =>
     have : acc1 = acc := if_pos hc
     rw [this] at h; exact .inl h
    | false =>
     have : acc1 = Zhq acc (Zfo b ls) v := if_neg (by rw [hc]; simp)
     rw [this] at h
     rcases Zr2 h with h | h
     ·exact .inl h
     ·exact .inr ⟨ls, by simp, hc, h⟩
   ·exact .inr ⟨l, by simp [h1], h2⟩
  ·rcases List.mem_cons.mp hl' with rfl | hl'
   ·refine a2' _ ?_
    have : acc1 = Zhq acc (Zfo b l) v := if_neg (by rw [hh]; simp)
    rw [this, Zh4]; simp
   ·exact a3' l hl' hh
  ·rcases a5' x hx with h | ⟨l, h1, h2⟩
   ·cases hc : Zjb b t ls with
    | true =>
     have : acc1 = acc := if_pos hc
     rw [this] at h; exact .inl h
    | false =>
     have : acc1 = Zhq acc (Zfo b ls) v := if_neg (by rw [hc]; simp)
     rw [this] at h
     rcases Zop h with h | h
     ·exact .inl h
     ·exact .inr ⟨ls, by simp, hc, by rw [h], by rw [h]; exact ev⟩
   ·exact .inr ⟨l, by simp [h1], h2⟩
theorem Zit {kvs : List (D × D)} {k : List Int} (h : (Zb2 kvs k).isSome = true) : ∃ p ∈ kvs, nk p.1 = some k := by
 unfold Zb2 at h
 rw [Option.isSome_map] at h
 obtain ⟨p, e⟩ := Option.isSome_iff_exists.mp h
 exact ⟨p, List.mem_of_find?_eq_some e, by have := List.find?_some e; simpa using this⟩
theorem Zlj {kvs : List (D × D)} {k : List Int} {p : D × D} (hp : p ∈ kvs) (h : nk p.1 = some k) : (Zb2 kvs k).isSome = true := by
 unfold Zb2
 rw [Option.isSome_map, List.find?_isSome]
 exact ⟨p, hp, by simp [h]⟩
theorem Zok {kvs : List (D × D)} {k : List Int} {v : D} (h : Zb2 kvs k = some v) : ∃ p ∈ kvs, nk p.1 = some k ∧ p.2 = v := by
 unfold Zb2 at h
 obtain ⟨p, e, rfl⟩ := Zm h
 exact ⟨p, List.mem_of_find?_eq_some e, by have := List.find?_some e; simpa using this, rfl⟩
theorem Zq3 {rss : List (List Int)} {bs : List Bool} : ∀ {kvs : List (D × D)}, (∀ p ∈ kvs, ∃ ls ∈ rss, kept bs ls = false ∧ p.1 = Zb1 (rest bs ls)) -> ∃ qs : List (List Int), kvs.map (·.1) = qs.map Zb1 ∧ ∀ q ∈ qs, ∃ ls ∈ rss, kept bs ls = false ∧ q = rest bs ls
 | [], _ => ⟨[], rfl, by simp⟩
 | p :: kvs, h => by
  obtain ⟨ls, h1, h2, h3⟩ := h p (by simp)
  obtain ⟨qs, e, g⟩ := Zq3 (kvs := kvs) fun x hx => h x (by simp [hx])
  refine ⟨rest bs ls :: qs, by rw [List.map_cons, List.map_cons, e, h3], fun q hq => ?_⟩
  rcases List.mem_cons.mp hq with rfl | hq
  ·exact ⟨ls, h1, h2, rfl⟩
  ·exact g q hq
theorem Znv {a b : List Int} (h : Zb1 a = Zb1 b) : a = b := by
 have := Zfa a
 rw [h, Zfa] at this
 exact (Option.some.inj this).symm
theorem Zl1 {rss : List (List Int)} {m : Int} {bs : List Bool} {t : Bool} {kvs : List (D × D)} {fz : Bool} {p : Nat} {H : HD} (hu : ∀ ls ∈ rss, Up m 0 ls) (hl : rss.length ≤ 1000) (hp : H[p]? = some (.dic kvs fz)) (dr : DR rss bs kvs) :
  ∃ (kvs' : List (D × D)) (H' : HD) (q : Nat), Za9 [.ref p, .int ((bs.length : Int) + 1), .bl t] H = some (.ref q, H') ∧ H'[q]? = some (.dic kvs' false) ∧ DR rss (bs ++ [t]) kvs' ∧ Fz H H' := by
 obtain ⟨qs, eq, gq⟩ := Zq3 dr.key
 let b : Int := bs.length
 have hb : 0 ≤ b := by show (0 : Int) ≤ bs.length; omega
 let R : Int := if t = true then b + 1 else -(b + 1)
 have ltp := (List.getElem?_eq_some_iff.mp hp).1
 have s1 : Zbd 3 (eIf (Zja (Zae 2)) (Zae 1) (eUn Zlb (Zae 1))) [some (.ref p), some (.int (b + 1)), some (.bl t), none, none, none, none] H = some (.nx, [some (.ref p), some (.int (b + 1)), some (.bl t), some (.int R), none, none, none], H) := by
  refine Zhr (d := .int R) ?_
  cases t <;> rfl
 have s2 : Zbd 4 eDN [some (.ref p), some (.int (b + 1)), some (.bl t), some (.int R), none, none, none] H = some (.nx, [some (.ref p), some (.int (b + 1)), some (.bl t), some (.int R), some (.ref H.length), none, none], H ++ [.dic [] false]) := rfl
 let H1 : HD := (H ++ [DO.dic [] false]).set p (DO.dic kvs true)
 have hp0 : (H ++ [DO.dic [] false])[p]? = some (.dic kvs fz) := by rw [List.getElem?_append_left ltp]; exact hp
 have hp1 : H1[p]? = some (.dic kvs true) := by rw [List.getElem?_set_self (by simp; omega)]
 have hq1 : H1[H.length]? = some (.dic [] false) := by rw [List.getElem?_set_ne (by omega)]; simp
 have lq : qs.length = kvs.length := by have := congrArg List.length eq; simpa using this.symm
 have kk : ∀ ls ∈ qs, (Zb2 kvs ls).isSome = true := fun ls hls => by
  have : Zb1 ls ∈ kvs.map (·.1) := by rw [eq]; exact List.mem_map_of_mem hls
  obtain ⟨x, hx, ex⟩ := List.mem_map.mp this
  exact Zlj hx (by rw [ex, Zfa])
 have dl := dr.len
 obtain ⟨acc, z5, z6, e, a1, a2, a3, a4, a5⟩ := Zra (p := p) (q := H.length) (kvs := kvs) (b := b) (t := t) (a1 := some (.int (b + 1))) (a2 := some (.bl t)) hb (by omega) qs [] H1 none none hp1 hq1 (by simp; omega) kk
 have e1 : Zhi (Zw2 (Zae 0)) (gNm 5) bb [some (.ref p), some (.int (b + 1)), some (.bl t), some (.int R), some (.ref H.length), none, none] (H ++ [.dic [] false]) = some (.nx, [some (.ref p), some (.int (b + 1)), some (.bl t), some (.int R), some (.ref H.length), z5, z6], H1.set H.length (.dic acc false)) := by
  unfold Zhi Zw2
  rw [vr (d := .ref p) rfl]
  simp only [Zb, hp0]
  rw [eq]
  exact e
 have lt1 : H.length < H1.length := (List.getElem?_eq_some_iff.mp hq1).1
 refine ⟨acc, H1.set H.length (.dic acc false), H.length, ?_, by rw [List.getElem?_set_self lt1], ⟨fun x hx => ?_, fun ls hls hk => ?_, ?_, fun x hx => ?_⟩, ⟨fun mm o ho => ?_, by simp [H1]⟩⟩
 ·show ((Zdl [some (.ref p), some (.int (b + 1)), some (.bl t), none, none, none, none] H).bind _) = _
  unfold Zdl
  rw [Zbh s1, Zbh s2, Zbh e1]
  rfl
 ·rcases a1 x hx with h | ⟨q, h1, h2, h3⟩
  ·simp at h
  ·obtain ⟨ls, g1, g2, rfl⟩ := gq q h1
   obtain ⟨n1, n2⟩ := Zgo bs t ls 0 (Int.le_refl _) (hu ls g1)
   refine ⟨ls, g1, ?_, by rw [n1]; exact h3⟩
   rw [n2, g2]; exact h2
 ·obtain ⟨n1, n2⟩ := Zgo bs t ls 0 (Int.le_refl _) (hu ls hls)
  rw [n2, Bool.or_eq_false_iff] at hk
  obtain ⟨x, hx, ex⟩ := Zit (dr.all ls hls hk.1)
  have hm : x.1 ∈ qs.map Zb1 := by rw [← eq]; exact List.mem_map_of_mem hx
  obtain ⟨q, hq, eqq⟩ := List.mem_map.mp hm
  have : q = rest bs ls := by rw [← eqq, Zfa] at ex; exact Option.some.inj ex
  subst this
  rw [n1]
  exact a3 _ hq hk.2
 ·simp at a4; omega
 ·rcases a5 x hx with h | ⟨q, h1, h2, h3, h4⟩
  ·simp at h
  ·obtain ⟨y, y1, y2, y3⟩ := Zok h4
   obtain ⟨i, ls, g1, g2, rfl⟩ := dr.val y y1
   have : q = rest bs ls := by rw [Zfa] at y2; exact (Option.some.inj y2).symm
   subst this
   obtain ⟨n1, n2⟩ := Zgo bs t ls 0 (Int.le_refl _) (hu ls (List.mem_of_getElem? g1))
   exact ⟨i, ls, g1, by rw [n2, g2]; exact h2, Prod.ext (by rw [n1]; exact h3) y3.symm⟩
 ·have lm : mm < H.length := (List.getElem?_eq_some_iff.mp ho).1
  rw [List.getElem?_set_ne (by omega)]
  by_cases c : p = mm
  ·subst c
   rw [hp] at ho
   cases ho
   cases fz with
   | true => exact .inl hp1
   | false => exact .inr ⟨kvs, rfl, hp1⟩
  ·refine .inl ?_
   show ((H ++ [DO.dic [] false]).set p (.dic kvs true))[mm]? = some o
   rw [List.getElem?_set_ne c, List.getElem?_append_left lm]; exact ho
theorem Zmm {rss : List (List Int)} {m : Int} {r pl : D} (hu : ∀ ls ∈ rss, Up m 0 ls) (hl : rss.length ≤ 1000) : ∀ (ts bs : List Bool) (kvs : List (D × D)) (p : Nat) (fz : Bool) (H : HD) (z3 z4 : Option D), H[p]? = some (.dic kvs fz) -> DR rss bs kvs →
  ∃ (kvs' : List (D × D)) (H' : HD) (q : Nat) (fz' : Bool) (z3' z4' : Option D), Zf6 [] (gTp 2 (gCn (gNm 3) (gCn (gNm 4) gNl))) (Zan (Zbd 2 (Zal 3 Za9 (Zab (Zae 2) (Zab (Zae 3) (Zab (Zae 4) Zaj))))) Zas) (Zf4 ((bs.length : Int) + 1) (ts.map .bl)) [some r, some pl, some (.ref p), z3, z4] H = some (.nx, [some r, some pl, some (.ref q), z3', z4'], H') ∧ H'[q]? = some (.dic kvs' fz') ∧ DR rss (bs ++ ts) kvs' ∧ Fz H H'
 | [], bs, kvs, p, fz, H, z3, z4, hp, dr => ⟨kvs, H, p, fz, z3, z4, by rw [List.map_nil, Zf4, Zf6, if_pos Zf8], hp, by rw [List.append_nil]; exact dr, Fz.refl⟩
 | t :: ts, bs, kvs, p, fz, H, z3, z4, hp, dr => by
  rw [List.map_cons, Zf4, Zf6, if_pos Zf8]
  simp only [gTp, List.length_cons, List.length_nil, gCn, gNm, gNl, List.set, Zb, if_true, Nat.zero_add, Nat.reduceAdd]
  obtain ⟨k1, H1, q1, e1, g1, d1, x1⟩ := Zl1 (t := t) hu hl hp dr
  have st : (Zan (Zbd 2 (Zal 3 Za9 (Zab (Zae 2) (Zab (Zae 3) (Zab (Zae 4) Zaj))))) Zas) [some r, some pl, some (.ref p), some (.int ((bs.length : Int) + 1)), some (.bl t)] H = some (.nx, [some r, some pl, some (.ref q1), some (.int ((bs.length : Int) + 1)), some (.bl t)], H1) :=
   (Zbh (Zhr (ca (ac (vr rfl) (ac (vr rfl) (ac (vr rfl) an))) rfl e1))).trans rfl
  rw [st]
  simp only [Zb]
  obtain ⟨k2, H2, q2, fz2, z3', z4', e2, g2, d2, x2⟩ := Zmm (r := r) (pl := pl) hu hl ts (bs ++ [t]) k1 q1 false H1 (some (.int ((bs.length : Int) + 1))) (some (.bl t)) g1 d1
  have ec : (((bs ++ [t]).length : Nat) : Int) + 1 = (bs.length : Int) + 1 + 1 := by simp
  rw [ec] at e2
  refine ⟨k2, H2, q2, fz2, z3', z4', e2, g2, ?_, x1.trans x2⟩
  rw [List.append_assoc] at d2
  exact d2
theorem Zi8 {rss : List (List Int)} {m : Int} {bs : List Bool} (hu : ∀ ls ∈ rss, Up m 0 ls) (hl : rss.length ≤ 1000) (H : HD) :
  ∃ (kvs : List (D × D)) (H' : HD) (q : Nat) (fz : Bool), Zb0 [.tup (rss.map Zb1), .tup (bs.map .bl)] H = some (.ref q, H') ∧ H'[q]? = some (.dic kvs fz) ∧ DR rss bs kvs ∧ Fz H H' := by
 obtain ⟨k1, H1, q1, e1, g1, d1, x1⟩ := Zod hu hl H
 have s1 : Zbd 2 (Zal 1 Zbk (Zab (Zae 0) Zaj)) [some (.tup (rss.map Zb1)), some (.tup (bs.map .bl)), none, none, none] H = some (.nx, [some (.tup (rss.map Zb1)), some (.tup (bs.map .bl)), some (.ref q1), none, none], H1) := Zhr (ca (ac (vr rfl) an) rfl e1)
 obtain ⟨k2, H2, q2, fz2, z3', z4', e2, g2, d2, x2⟩ := Zmm (r := .tup (rss.map Zb1)) (pl := .tup (bs.map .bl)) hu hl bs [] k1 q1 false H1 none none g1 d1
 have e3 : Zhi (Zog (Zab (Zae 1) Zaj)) (gTp 2 (gCn (gNm 3) (gCn (gNm 4) gNl))) (Zan (Zbd 2 (Zal 3 Za9 (Zab (Zae 2) (Zab (Zae 3) (Zab (Zae 4) Zaj))))) Zas) [some (.tup (rss.map Zb1)), some (.tup (bs.map .bl)), some (.ref q1), none, none] H1 = some (.nx, [some (.tup (rss.map Zb1)), some (.tup (bs.map .bl)), some (.ref q2), z3', z4'], H2) := by
  unfold Zhi Zog
  rw [ac (vr rfl) an]
  exact e2
 refine ⟨k2, H2, q2, fz2, ?_, g2, d2, x1.trans x2⟩
 show ((Zbx [some (.tup (rss.map Zb1)), some (.tup (bs.map .bl)), none, none, none] H).bind _) = _
 unfold Zbx
 rw [Zbh s1, Zbh e3]
 rfl
noncomputable def kS (d : D) : Bool := match d with
 | .str s => s == "some"
 | _ => false
noncomputable def Zbb (b : Bool) : D := if b then .str "some" else .str "all"
theorem Zh6 {d : D} (h : Zev d) : d = Zbb (kS d) := by
 rcases h with rfl | rfl
 ·have : kS (.str "all") = false := by decide
  rw [this]; rfl
 ·have : kS (.str "some") = true := by decide
  rw [this]; rfl
noncomputable def W (ks : List D) (rss : List (List Int)) : Nat -> List Bool -> Bool
 | 0, bs => rss.all (kept bs)
 | j + 1, bs =>
  let who := kS (ks.getD bs.length .non)
  if W ks rss j (bs ++ [false]) == who || W ks rss j (bs ++ [true]) == who then who else !who
theorem Zll {bs : List Bool} {t : Bool} {ls : List Int} {m : Int} (hu : Up m 0 ls) (h : kept bs ls = true) : kept (bs ++ [t]) ls = true := by
 rw [(Zgo bs t ls 0 (Int.le_refl _) hu).2, h]; rfl
theorem Zoo {ks : List D} {rss : List (List Int)} {m : Int} (hu : ∀ ls ∈ rss, Up m 0 ls) : ∀ (j : Nat) (bs : List Bool), (∀ ls ∈ rss, kept bs ls = true) -> W ks rss j bs = true
 | 0, bs, h => by unfold W; rw [List.all_eq_true]; exact h
 | j + 1, bs, h => by
  have a := Zoo (ks := ks) hu j (bs ++ [false]) fun ls hl => Zll (hu ls hl) (h ls hl)
  have b := Zoo (ks := ks) hu j (bs ++ [true]) fun ls hl => Zll (hu ls hl) (h ls hl)
  unfold W
  rw [a, b]
  cases kS (ks.getD bs.length .non) <;> rfl
theorem Zml {bs : List Bool} {t : Bool} {ls : List Int} {m : Int} (hu : Up m 0 ls) (h : kept bs ls = false ∧ rest bs ls = []) : kept (bs ++ [t]) ls = false ∧ rest (bs ++ [t]) ls = [] := by
 obtain ⟨n1, n2⟩ := Zgo bs t ls 0 (Int.le_refl _) hu
 rw [n1, n2, h.1, h.2]; exact ⟨rfl, rfl⟩
theorem Zuj {ks : List D} {rss : List (List Int)} {m : Int} {ls : List Int} (hl : ls ∈ rss) (hu : Up m 0 ls) : ∀ (j : Nat) (bs : List Bool), kept bs ls = false ∧ rest bs ls = [] -> W ks rss j bs = false
 | 0, bs, h => by
  unfold W
  cases e : rss.all (kept bs) with
  | false => rfl
  | true => rw [List.all_eq_true.mp e ls hl] at h; cases h.1
 | j + 1, bs, h => by
  have a := Zuj (ks := ks) hl hu j (bs ++ [false]) (Zml hu h)
  have b := Zuj (ks := ks) hl hu j (bs ++ [true]) (Zml hu h)
  unfold W
  rw [a, b]
  cases kS (ks.getD bs.length .non) <;> rfl
theorem Zo3 {m : Int} (bs : List Bool) (h : m ≤ bs.length) : ∀ (ls : List Int) (last : Int), Up m last ls -> rest bs ls = []
 | [], _, _ => rfl
 | l :: r, last, u => by
  have o : opn bs l = false := decide_eq_false (by have := u.2.1; omega)
  unfold rest
  rw [List.filter_cons_of_neg (by rw [o]; simp)]
  exact Zo3 bs h r (Zbn l) u.2.2
theorem Zt3 (b : Bool) (H : HD) : Zcq [Zbb b] H = some (Zbb (!b), H) := by
 cases b
 ·have : ((("all" : Str)) == ("some" : Str)) = false := by decide
  simp [Zcq, Zd2, Zbq, Zbb, Zan, Zb5, eIf, tOf, eOp, eqD, Zos, Zae, eC, blD, this]
 ·simp [Zcq, Zd2, Zbq, Zbb, Zan, Zb5, eIf, tOf, eOp, eqD, Zos, Zae, eC, blD]
theorem Znm (a b : Bool) (H : HD) : eqD (Zbb a) (Zbb b) H = some (.bl (a == b), H) := by
 have e1 : ((("all" : Str)) == ("some" : Str)) = false := by decide
 have e2 : ((("some" : Str)) == ("all" : Str)) = false := by decide
 cases a <;> cases b <;> simp [eqD, Zos, Zbb, e1, e2]
noncomputable def Za2 (bs : List Bool) : D := .tup (bs.map .bl)
noncomputable abbrev wb (F : FF) : SF := (Zan (sIf (tOf (eOp eqD (Zal 3 F (Zab (Zae 0) (Zab (Zal 3 Za9 (Zab (Zae 1) (Zab (eOp Zc1 (Zae 2) (eC (.int 1))) (Zab (Zae 4) Zaj)))) (Zab (eOp Zc1 (Zae 2) (eC (.int 1))) Zaj)))) (Zae 3))) (Zan (Zb5 (Zae 3))
 Zas) Zas)
 Zas)
theorem Zqb {ks : List D} {rss : List (List Int)} (hk : ∀ d ∈ ks, Zev d) (hu : ∀ ls ∈ rss, Up ks.length 0 ls) (hl : rss.length ≤ 1000) : ∀ (j f : Nat) (bs : List Bool) (kvs : List (D × D)) (p : Nat) (fz : Bool) (H : HD), j < f -> bs.length + j = ks.length -> H[p]? = some (.dic kvs fz) -> DR rss bs kvs →
  ∃ H', Zxk 3 5 Za7 f [.tup ks, .ref p, .int bs.length] H = some (Zbb (W ks rss j bs), H') ∧ Fz H H'
 | j, 0, bs, kvs, p, fz, H, hf, _, _, _ => by omega
 | j, f + 1, bs, kvs, p, fz, H, hf, hj, hp, dr => by
  show ∃ H', ((Za7 (Zxk 3 5 Za7 f) [some (.tup ks), some (.ref p), some (.int bs.length), none, none] H).bind _) = _ ∧ _
  generalize hF : Zxk 3 5 Za7 f = F
  let σ0 : SD := [some (.tup ks), some (.ref p), some (.int bs.length), none, none]
  have t1 : tOf (eOp dinD (Zgp Zaj) (Zae 1)) σ0 H = some ((Zb2 kvs []).isSome, H) := by
   refine tof (op (tp (ds := []) an (by simp)) (vr rfl) ?_)
   simp [dinD, Zsw, hp, nk, Znu]
  have t2 : tOf (eOp eqD (eCB Zjy (Zab (Zae 1) Zaj)) (eC (.int 0))) σ0 H = some ((kvs.length : Int) == 0, H) := by
   refine tof (op (cb (ac (vr rfl) an) (r := some (.int kvs.length, H)) ?_) rfl (Zif _ _ _))
   simp [Zjy, Zsw, hp]
  cases c1 : (Zb2 kvs []).isSome with
  | true =>
   rw [c1] at t1
   obtain ⟨x, hx, ex⟩ := Zit c1
   obtain ⟨ls, g1, g2, g3⟩ := dr.key x hx
   have r0 : rest bs ls = [] := by rw [g3, Zfa] at ex; exact Option.some.inj ex
   refine ⟨H, ?_, Fz.refl⟩
   unfold Za7
   rw [hit (σ1 := σ0) t1 (rt rfl), Zuj g1 (hu ls g1) j bs ⟨g2, r0⟩]
   rfl
  | false =>
   rw [c1] at t1
   by_cases c2 : kvs = []
   ·subst c2
    have al : ∀ ls ∈ rss, kept bs ls = true := fun ls h => by
     cases e : kept bs ls with
     | true => rfl
     | false => have := dr.all ls h e; simp [Zb2] at this
    refine ⟨H, ?_, Fz.refl⟩
    unfold Za7
    rw [skip t1, hit (σ1 := σ0) t2 (rt rfl), Zoo hu j bs al]
    rfl
   ·have t2' : tOf (eOp eqD (eCB Zjy (Zab (Zae 1) Zaj)) (eC (.int 0))) σ0 H = some (false, H) := by
     rw [t2]
     have : ((kvs.length : Int) == 0) = false := by
      have := List.length_pos_iff.mpr c2
      simp; exact c2
     rw [this]
    -- a name is left
    match j, hj, hf with
    | 0, hj, hf =>
     exfalso
     obtain ⟨x, kr, e⟩ := List.exists_cons_of_ne_nil c2
     obtain ⟨ls, g1, g2, g3⟩ := dr.key x (by rw [e]; simp)
     have r0 := Zo3 bs (m := ks.length) (by omega) ls 0 (hu ls g1)
     have := dr.all ls g1 g2
     rw [r0, c1] at this; cases this
    | j + 1, hj, hf =>
     have lt : bs.length < ks.length := by omega
     let who : Bool := kS (ks.getD bs.length .non)
     have gw : ks[bs.length]? = some (Zbb who) := by
      have e0 : ks.getD bs.length .non = ks[bs.length] := by simp [List.getD, lt]
      have := Zh6 (hk ks[bs.length] (List.getElem_mem lt))
      rw [List.getElem?_eq_getElem lt, this]
      show some (Zbb (kS ks[bs.length])) = some (Zbb (kS (ks.getD bs.length .non)))
      rw [e0]
     have s3 : Zbd 3 (eOp ixD (Zae 0) (Zae 2)) σ0 H = some (.nx, [some (.tup ks), some (.ref p), some (.int bs.length), some (Zbb who), none], H) := Zhr (op (vr rfl) (vr rfl) (ixT (Zaz gw)))
     -- one pick
     have one : ∀ (t : Bool) (z4 : Option D) (H0 : HD) (fz0 : Bool), H0[p]? = some (.dic kvs fz0) -> ∃ H1, tOf (eOp eqD (Zal 3 F (Zab (Zae 0) (Zab (Zal 3 Za9 (Zab (Zae 1) (Zab (eOp Zc1 (Zae 2) (eC (.int 1))) (Zab (Zae 4) Zaj)))) (Zab (eOp Zc1 (Zae 2) (eC (.int 1))) Zaj)))) (Zae 3)) [some (.tup ks), some (.ref p), some (.int bs.length), some (Zbb who), some (.bl t)] H0 = some (W ks rss j (bs ++ [t]) == who, H1) ∧ Fz H0 H1 := by
      intro t z4 H0 fz0 h0
      obtain ⟨k1, H1, q1, e1, g1, d1, x1⟩ := Zl1 (t := t) hu hl h0 dr
      obtain ⟨H2, e2, x2⟩ := Zqb hk hu hl j f (bs ++ [t]) k1 q1 false H1 (by omega) (by simp; omega) g1 d1
      have el : (((bs ++ [t]).length : Nat) : Int) = (bs.length : Int) + 1 := by simp
      rw [el, hF] at e2
      refine ⟨H2, tof (op (ca (ac (vr rfl) (ac (ca (ac (vr rfl) (ac (op (vr rfl) rfl (adI _ _ _)) (ac (vr rfl) an))) rfl e1) (ac (op (vr rfl) rfl (adI _ _ _)) an))) rfl e2) (vr rfl) (Znm _ _ _)), x1.trans x2⟩
     obtain ⟨H1, o1, x1⟩ := one false none H fz hp
     obtain ⟨fz1, h1⟩ := x1.dic hp
     obtain ⟨H2, o2, x2⟩ := one true none H1 fz1 h1
     have Wd : W ks rss (j + 1) bs = (if W ks rss j (bs ++ [false]) == who || W ks rss j (bs ++ [true]) == who then who else !who) := by
      conv => lhs; unfold W
     have it : ∀ Hx, iSq (eC k_TRUTHS) [some (.tup ks), some (.ref p), some (.int bs.length), some (Zbb who), none] Hx = some (([.bl false, .bl true], []), Hx) := fun _ => rfl
     have st : ∀ (t b : Bool) (Ha Hb : HD), tOf (eOp eqD (Zal 3 F (Zab (Zae 0) (Zab (Zal 3 Za9 (Zab (Zae 1) (Zab (eOp Zc1 (Zae 2) (eC (.int 1))) (Zab (Zae 4) Zaj)))) (Zab (eOp Zc1 (Zae 2) (eC (.int 1))) Zaj)))) (Zae 3)) [some (.tup ks), some (.ref p), some (.int bs.length), some (Zbb who), some (.bl t)] Ha = some (b, Hb) →
       wb F [some (.tup ks), some (.ref p), some (.int bs.length), some (Zbb who), some (.bl t)] Ha = some (if b = true then .rt (Zbb who) else .nx, [some (.tup ks), some (.ref p), some (.int bs.length), some (Zbb who), some (.bl t)], Hb) := by
      intro t b Ha Hb h
      cases b with
      | true => exact hit h (rt (vr rfl))
      | false => exact (skip h).trans rfl
     unfold Za7
     rw [skip t1, skip t2', Zbh s3]
     cases w1 : (W ks rss j (bs ++ [false]) == who) with
     | true =>
      rw [w1] at o1
      refine ⟨H1, ?_, x1⟩
      have lp : Zhi (iSq (eC k_TRUTHS)) (gNm 4) (wb F) [some (.tup ks), some (.ref p), some (.int bs.length), some (Zbb who), none] H = some (.rt (Zbb who), [some (.tup ks), some (.ref p), some (.int bs.length), some (Zbb who), some (.bl false)], H1) := by
       unfold Zhi
       rw [it]
       simp only [Zb]
       rw [Zf6, if_pos Zf8]
       simp only [gNm, List.set, Zb]
       rw [st _ _ _ _ o1]
       rfl
      rw [Zgx lp, Wd, w1]
      rfl
     | false =>
      rw [w1] at o1
      have lp : Zhi (iSq (eC k_TRUTHS)) (gNm 4) (wb F) [some (.tup ks), some (.ref p), some (.int bs.length), some (Zbb who), none] H = some (if (W ks rss j (bs ++ [true]) == who) = true then .rt (Zbb who) else .nx, [some (.tup ks), some (.ref p), some (.int bs.length), some (Zbb who), some (.bl true)], H2) := by
       unfold Zhi
       rw [it]
       simp only [Zb]
       rw [Zf6, if_pos Zf8]
       simp only [gNm, List.set, Zb]
       rw [st _ _ _ _ o1]
       simp only [Zb, Bool.false_eq_true, if_false]
       rw [Zf6, if_pos Zf8]
       simp only [gNm, List.set, Zb]
       rw [st _ _ _ _ o2]
       cases (W ks rss j (bs ++ [true]) == who) with
       | true => rfl
       | false =>
        simp only [Zb, Bool.false_eq_true, if_false]
        rw [Zf6, if_pos Zf8]
      refine ⟨H2, ?_, x1.trans x2⟩
      cases w2 : (W ks rss j (bs ++ [true]) == who) with
      | true =>
       rw [w2, if_pos rfl] at lp
       rw [Zgx lp, Wd, w1, w2]
       rfl
      | false =>
       rw [w2, if_neg (by simp)] at lp
       have eo : Zal 1 Zcq (Zab (Zae 3) Zaj) [some (.tup ks), some (.ref p), some (.int bs.length), some (Zbb who), some (.bl true)] H2 = some (Zbb (!who), H2) := ca (ac (vr rfl) an) rfl (Zt3 who H2)
       rw [Zbh lp, Zgx (rt eo), Wd, w1, w2]
       rfl
theorem Zqs {ks : List D} {rss : List (List Int)} {bs : List Bool} {j : Nat} (hk : ∀ d ∈ ks, Zev d) (hu : ∀ ls ∈ rss, Up ks.length 0 ls) (hl : rss.length ≤ 1000) (h8 : ks.length ≤ 8) (hj : bs.length + j = ks.length) (H : HD) :
  ∃ H', Zec [.tup [.tup ks, .tup (rss.map Zb1)], .tup (bs.map .bl)] H = some (Zbb (W ks rss j bs), H') ∧ Fz H H' := by
 obtain ⟨kvs, H1, q, fz, e1, g1, d1, x1⟩ := Zi8 (bs := bs) hu hl H
 obtain ⟨H2, e2, x2⟩ := Zqb hk hu hl j 10 bs kvs q fz H1 (by omega) hj g1 d1
 refine ⟨H2, ?_, x1.trans x2⟩
 have at0 : atI [D.tup ks, D.tup (rss.map Zb1)] 0 = some (.tup ks) := Zaz (j := 0) rfl
 have at1 : atI [D.tup ks, D.tup (rss.map Zb1)] 1 = some (.tup (rss.map Zb1)) := Zaz (j := 1) rfl
 show ((Zgz [some (.tup [.tup ks, .tup (rss.map Zb1)]), some (.tup (bs.map .bl))] H).bind _) = _
 unfold Zgz
 have e2' : Zcs [.tup ks, .ref q, .int bs.length] H1 = some (Zbb (W ks rss j bs), H2) := e2
 have ec : Zal 3 Zcs (Zab (eOp ixD (Zae 0) (eC (.int 0))) (Zab (Zal 2 Zb0 (Zab (eOp ixD (Zae 0) (eC (.int 1))) (Zab (Zae 1) Zaj))) (Zab (eCB Zd8 (Zab (Zae 1) Zaj)) Zaj))) [some (.tup [.tup ks, .tup (rss.map Zb1)]), some (.tup (bs.map .bl))] H = some (Zbb (W ks rss j bs), H2) :=
  ca (ac (op (vr rfl) rfl (ixT at0)) (ac (ca (ac (op (vr rfl) rfl (ixT at1)) (ac (vr rfl) an)) rfl e1) (ac (cb (ac (vr rfl) an) (lenB bs _)) an))) rfl e2'
 rw [Zgx (rt ec)]
 rfl
theorem at0 (a b : D) : atI [a, b] 0 = some a := Zaz (j := 0) rfl
theorem at1 (a b : D) : atI [a, b] 1 = some b := Zaz (j := 1) rfl
end K08
namespace K08
open PySem L2 DL LH WP
noncomputable def Zbg (n : Nat) (H : HD) : Prop := ∃ a b, H[n]? = some (.lst [.int a, .int b])
theorem Zo4 {m : Int} : ∀ rs : List D, (∀ d ∈ rs, Zm5 m d) -> ∃ rss : List (List Int), rs = rss.map Zb1 ∧ ∀ ls ∈ rss, Up m 0 ls
 | [], _ => ⟨[], rfl, by simp⟩
 | d :: rs, h => by
  obtain ⟨ls, e, _, _, u⟩ := h d (by simp)
  obtain ⟨rss, e2, u2⟩ := Zo4 rs fun x hx => h x (by simp [hx])
  refine ⟨ls :: rss, by rw [e, e2]; rfl, ?_⟩
  intro l hl
  rcases List.mem_cons.mp hl with rfl | hl
  ·exact u
  ·exact u2 l hl
theorem Fz.fm {H H' : HD} (x : Fz H H') : Fm [] H H' := ⟨fun m o _ h => x.old m o h, x.len⟩
structure Cl (ks : List D) (rss : List (List Int)) : Prop where
 hk : ∀ d ∈ ks, Zev d
 hu : ∀ ls ∈ rss, Up ks.length 0 ls
 hl : rss.length ≤ 1000
 h8 : ks.length ≤ 8
noncomputable def Zax (ks : List D) (rss : List (List Int)) : D := .tup [.tup ks, .tup (rss.map Zb1)]
variable {H : HD} {Q : D -> HD -> Prop}
theorem w_cl0 {ks : List D} {rss : List (List Int)} (q : Q (.tup ks) H) : wE (ixD (Zax ks rss) (.int 0) H) Q := ⟨_, _, ixT (at0 _ _), q⟩
theorem w_cl1 {ks : List D} {rss : List (List Int)} (q : Q (.tup (rss.map Zb1)) H) : wE (ixD (Zax ks rss) (.int 1) H) Q := ⟨_, _, ixT (at1 _ _), q⟩
theorem Zp9 {ns : List Int} {k : Int} (h0 : 0 ≤ k) (h1 : k < 1000) (q : ∀ n H', Zbg n H' -> H.length ≤ n -> Fm [] H H' -> Q (.ref n) H') : wE (Zc8 [.fl (ns.map .int), .int k] H) Q := by
 obtain ⟨a, b, e⟩ := Zvl ns k h0 h1 H
 exact ⟨_, _, e, q _ _ ⟨a, b, last⟩ (Nat.le_refl _) (Fm.app _)⟩
theorem Zew {n : Nat} {k : Int} (hf : Zbg n H) (h0 : 0 < k) (h1 : k < 1073741824) (q : ∀ r H', 0 ≤ r -> r < k -> Zbg n H' -> Fm [n] H H' -> Q (.int r) H') : wE (Zai [.ref n, .int k] H) Q := by
 obtain ⟨r, H', r0, r1, e, x, _⟩ := Zem (n := n) (k := k) hf h0 h1
 exact ⟨_, _, e, q r H' r0 r1 x.feed x.fm⟩
theorem Zsq {n : Nat} {most rows : Int} (hf : Zbg n H) (hm : 2 ≤ most ∧ most ≤ 8) (hr : 0 ≤ rows ∧ rows ≤ 40)
  (q : ∀ ks rss H', Cl ks rss -> (ks.length : Int) ≤ most -> (rss.length : Int) ≤ rows -> Zbg n H' -> Fm [n] H H' -> Q (Zax ks rss) H') : wE (Zc6 [.ref n, .int most, .int rows] H) Q := by
 obtain ⟨ks, rs, H', e, hk, lk, hr', lr, x⟩ := Zry (n := n) (H := H) (most := most) (rows := rows) hf hm hr
 obtain ⟨rss, er, hu⟩ := Zo4 rs hr'
 subst er
 rw [List.length_map] at lr
 exact ⟨_, _, e, q ks rss H' ⟨hk, hu, by omega, by omega⟩ lk lr x.feed x.fm⟩
theorem Zur {m : Int} (hm : m ≤ 8) {ls : List Int} (h : Up m 0 ls) : Zm5 m (Zb1 ls) := by
 have b : ∀ (ls : List Int) (last : Int), 0 ≤ last -> Up m last ls -> (∀ l ∈ ls, l ≠ 0 ∧ -10 ≤ l ∧ l ≤ 10) ∧ (ls.length : Int) ≤ m - last ∨ (ls = []) := by
  intro ls
  induction ls with
  | nil => intro _ _ _; exact .inr rfl
  | cons l r ih =>
   intro last h0 u
   obtain ⟨u1, u2, u3⟩ := u
   have ha : l ≠ 0 ∧ -10 ≤ l ∧ l ≤ 10 := by unfold Zbn at u1 u2; split at u1 <;> omega
   rcases ih (Zbn l) (by omega) u3 with ⟨i1, i2⟩ | rfl
   ·refine .inl ⟨fun x hx => ?_, ?_⟩
    ·rcases List.mem_cons.mp hx with rfl | hx
     ·exact ha
     ·exact i1 x hx
    ·rw [List.length_cons]; omega
   ·refine .inl ⟨fun x hx => ?_, ?_⟩
    ·simp at hx; subst hx; exact ha
    ·simp; omega
 refine ⟨ls, rfl, ?_, ?_, h⟩
 ·rcases b ls 0 (Int.le_refl _) h with ⟨i1, _⟩ | rfl
  ·exact i1
  ·simp
 ·rcases b ls 0 (Int.le_refl _) h with ⟨_, i2⟩ | rfl
  ·omega
  ·simp
noncomputable def FW (ks : List D) (rss : List (List Int)) (bs : List Bool) : D := Zbb (W ks rss (ks.length - bs.length) bs)
theorem Yab {bs : List Bool} {H : HD} {Q : D -> HD -> Prop} (q : Q (.int bs.length) H) : wE (Zd8 [Za2 bs] H) Q := ⟨_, _, lenB bs H, q⟩
theorem Zyy {bs : List Bool} {t : Bool} {H : HD} {Q : D -> HD -> Prop} (h : bs.length ≤ 1000) (q : Q (Za2 (bs ++ [t])) H) : wE (Zc1 (Za2 bs) (.tup [.bl t]) H) Q :=
 ⟨Za2 (bs ++ [t]), H, by unfold Za2; rw [adT (by simp; omega), List.map_append]; rfl, q⟩
theorem Zky {ks : List D} (hk : ∀ d ∈ ks, Zev d) {i : Nat} (h : i < ks.length) : ks[i]? = some (Zbb (kS (ks.getD i .non))) := by
 have e0 : ks.getD i .non = ks[i] := by simp [List.getD, h]
 have := Zh6 (hk ks[i] (List.getElem_mem h))
 rw [List.getElem?_eq_getElem h, e0]
 exact congrArg some this
theorem w_eqW {ks : List D} {rss : List (List Int)} {bs : List Bool} {b : Bool} {H : HD} {Q : D -> HD -> Prop} (q : Q (.bl (W ks rss (ks.length - bs.length) bs == b)) H) : wE (eqD (FW ks rss bs) (Zbb b) H) Q := ⟨_, _, Znm _ _ _, q⟩
variable {H : HD} {Q : D -> HD -> Prop}
theorem Zj0 {ks : List D} {rss : List (List Int)} {bs : List Bool} (c : Cl ks rss) (hb : bs.length ≤ ks.length) {H : HD} {Q : D -> HD -> Prop}
  (q : ∀ H', Fm [] H H' -> Q (FW ks rss bs) H') : wE (Zec [Zax ks rss, Za2 bs] H) Q := by
 obtain ⟨H1, e1, x1⟩ := Zqs (bs := bs) (j := ks.length - bs.length) c.hk c.hu c.hl c.h8 (by omega) H
 exact ⟨_, _, e1, q H1 x1.fm⟩
local macro_rules | `(tactic| fail $s:str) => do
 if s.getString == "lk" then `(tactic| first | assumption | with_reducible exact WP.last | (with_reducible refine WP.appL ?_; fail "lk"))
 else if s.getString == "go" then do
  let a0 ← `(by with_unfolding_all rfl)
  let a1 ← `(?_)
  let a2 ← `(by first | (simp; done) | (simp; omega) | omega)
  let a3 ← `(by decide)
  let a4 ← `(by with_unfolding_all first | exact (rfl : _ = true) | exact (rfl : _ = false))
  let a5 ← `(by fail "lk")
  let a6 ← `(by with_unfolding_all exact rfl)
  let t ← ([`WP.w_var].map (·, [a0, a1]) ++ [`WP.w_c, `WP.w_seq, `WP.w_kn, `WP.w_set, `WP.w_op, `WP.w_acons, `WP.w_anil, `WP.w_call, `WP.w_cb, `WP.w_tof, `WP.w_bl, `WP.w_bt, `WP.w_bf, `WP.w_bnt, `WP.w_bnf, `WP.w_ret, `WP.w_fr, `WP.w_kr, `WP.w_snil, `WP.w_expr, `WP.w_for, `WP.w_or, `WP.w_an, `WP.w_no, `WP.w_ttru, `WP.w_eif, `WP.w_eno, `WP.w_ean, `WP.w_eorr, `WP.w_un, `WP.w_ch, `WP.w_int, `WP.w_tup, `WP.w_lst, `WP.w_lm, `WP.w_tm, `WP.w_dm, `WP.w_dn, `WP.w_on, `WP.w_os, `WP.w_sl, `WP.w_rv, `WP.w_lc, `WP.w_asg, `WP.w_gnm, `WP.w_gsb, `WP.w_gcn, `WP.w_gnl].map (·, [a1]) ++ [`WP.w_n, `WP.w_gtp, `WP.w_ixT, `WP.w_isN, `WP.w_isnN, `WP.w_isBl, `WP.w_isnBl].map (·, [a0, a1]) ++ [`WP.w_sz, `WP.w_addT].map (·, [a2, a1]) ++ [`WP.w_mod].map (·, [a3, a1]) ++ [`WP.w_fdiv, `WP.w_mulL, `WP.w_mulR].map (·, [a3, a3, a1]) ++ [`WP.w_eqI', `WP.w_neI', `WP.w_eqS', `WP.w_neS'].map (·, [a4, a1]) ++ [`WP.w_lenR, `WP.w_tupR, `WP.w_itR].map (·, [a5, a1]) ++ [`WP.w_ixR].map (·, [a5, a0, a1]) ++ [`WP.w_isi'].map (·, [a0, a0, a4, a1]) ++ [`WP.w_addI, `WP.w_subI, `WP.w_lt, `WP.w_le, `WP.w_gt, `WP.w_ge, `WP.w_slhi, `WP.w_sllo, `WP.w_sllo1, `WP.w_neg, `WP.w_eqI, `WP.w_neI, `WP.w_eqS, `WP.w_neS, `WP.w_lenT, `WP.w_lenF, `WP.w_abs, `WP.w_intI, `WP.w_intB, `WP.w_max, `WP.w_min, `WP.w_truB, `WP.w_truT, `WP.w_truN, `WP.w_isq, `WP.w_itT, `WP.w_itF, `WP.w_ir1, `WP.w_ir2, `WP.w_ir3, `WP.w_idic, `WP.w_enum, `WP.w_enum1, `WP.w_zip, `WP.w_yes, `WP.w_retn, `WP.w_fn, `WP.w_agn, `WP.w_agr, `WP.w_kb, `WP.w_kc, `WP.w_agb, `WP.w_agc, `WP.w_brk, `WP.w_cnt].map (·, [a1]) ++ [`WP.w_bT, `WP.w_bF].map (·, [a6, a1]) : List (Lean.Name × List Lean.Term)).foldrM (fun p (r : Lean.TSyntax `tactic) => `(tactic| first | with_reducible refine $(Lean.Syntax.mkApp (Lean.mkIdent p.1) p.2.toArray) | $r:tactic)) (← `(tactic| fail "no"))
  return t
 else Lean.Macro.throwUnsupported
local macro_rules | `(tactic| fail $s:str) => do
 if s.getString == "go" then `(tactic| first | with_reducible refine Yab ?_ | with_reducible refine Zyy (by omega) ?_ | with_reducible refine w_cl0 ?_ | with_reducible refine w_cl1 ?_)
 else Lean.Macro.throwUnsupported
variable {H : HD} {Q : D -> HD -> Prop}
theorem Zom {m : Int} : ∀ (ls : List Int) (last : Int), 0 ≤ last -> Up m last ls -> ∀ l ∈ ls, last < Zbn l ∧ Zbn l ≤ m
 | [], _, _, _, _, h => by cases h
 | l :: r, last, h0, u, x, h => by
  obtain ⟨u1, u2, u3⟩ := u
  rcases List.mem_cons.mp h with rfl | h
  ·exact ⟨u1, u2⟩
  ·have := Zom r (Zbn l) (by omega) u3 x h; omega
theorem Cl.len9 {ks : List D} {rss : List (List Int)} (c : Cl ks rss) {ls : List Int} (h : ls ∈ rss) : ls.length ≤ 9 := by
 obtain ⟨ls', e, _, l9, _⟩ := Zur (by have := c.h8; omega) (c.hu ls h)
 have : ls = ls' := Znv e
 rw [this]; exact l9
theorem Cl.pos {ks : List D} {rss : List (List Int)} (c : Cl ks rss) {ls : List Int} (h : ls ∈ rss) : ∀ l ∈ ls, 0 < Zbn l := fun l hl => (Zom ls 0 (Int.le_refl _) (c.hu ls h) l hl).1
theorem Zzj {a b : Bool} (q : Q (.bl (a == b)) H) : wE (eqD (.bl a) (.bl b) H) Q := Zs2 (.bl a) (.bl b) (by omega) (by omega) (by simpa [PyData.eqv] using q)
noncomputable def Zyf (b : Bool) : Str := if b then "some" else "all"
theorem Zdf (b : Bool) : Fine (Zbb b) (.str (Zyf b)) 0 := by
 cases b
 ·exact Fine.str (Ze8 (by decide))
 ·exact Fine.str (Ze8 (by decide))
theorem Zrd {d : D} (h : Zev d) : ∃ x, Fine d x 0 := by rw [Zh6 h]; exact ⟨_, Zdf _⟩
theorem Zqh (ls : List Int) : Fines (ls.map .int) (ls.map .int) 0 := by
 induction ls with
 | nil => exact .nil
 | cons l r ih => exact .cons (.int l) ih
theorem Ztj (ls : List Int) : Fine (Zb1 ls) (.tuple (ls.map .int)) 1 := Fine.tup (Zqh ls)
theorem Zrp (rss : List (List Int)) : Fines (rss.map Zb1) (rss.map fun ls => .tuple (ls.map .int)) 1 := by
 induction rss with
 | nil => exact .nil
 | cons l r ih => exact .cons (Ztj l) ih
theorem Zg7 {ks : List D} {rss : List (List Int)} (hk : ∀ d ∈ ks, Zev d) : ∃ x, Fine (Zax ks rss) x 3 := by
 obtain ⟨xs, f⟩ := Fines.of ks fun d hd => Zrd (hk d hd)
 exact ⟨_, Fine.tup (Fines.cons ((Fine.tup f).le (by omega)) (Fines.cons (Fine.tup (Zrp rss)) Fines.nil))⟩
theorem Zzk {n k : Nat} (hf : Zbg n H) {Q : List D -> HD -> Prop} (q : ∀ (bs : List Bool) H', bs.length = k -> Zbg n H' -> Fm [n] H H' -> Q (bs.map .bl) H') :
  wA (Zdh [] [some (.ref n)] Zgm (eOp eqD (Zal 2 Zai (Zab (Zae 1) (Zab (eC (.int 2)) Zaj))) (eC (.int 1))) (Zbw 0 k) H) Q := by
 obtain ⟨bs, H', e, l, x⟩ := Zqc (n := n) (H := H) k hf
 exact ⟨_, _, e, q bs H' l x.feed x.fm⟩
theorem Zvt {as bs : List Bool} (h : as.length ≤ 1000) (h2 : bs.length ≤ 1000) (q : Q (Za2 (as ++ bs)) H) : wE (Zc1 (Za2 as) (Za2 bs) H) Q :=
 ⟨Za2 (as ++ bs), H, by unfold Za2; rw [adT (by simp; omega), List.map_append], q⟩
theorem Zcw (bs : List Bool) : Fines (bs.map .bl) (bs.map .bool) 0 := by
 induction bs with
 | nil => exact .nil
 | cons l r ih => exact .cons (.bl l) ih
theorem Zil {p r : Nat} {bs : List Bool} (g1 : H[p]? = some (.lst (bs.map .bl))) (g2 : H[r]? = some (.lst (bs.map .bl))) (q : Q (.bl false) H) : wE (neD (.ref p) (.ref r) H) Q :=
 ⟨_, _, Zm3 ((Zcw bs).dat (by omega) g1) ((Zcw bs).dat (by omega) g2), by
  rw [Zf2 (.list _) (show PyData.canLayAll0 _ = true from (Zcw bs).lay)]; exact q⟩
theorem Zbg.lt {n : Nat} {H : HD} (f : Zbg n H) : n < H.length := by obtain ⟨a, b, e⟩ := f; exact (List.getElem?_eq_some_iff.mp e).1
noncomputable def gp (ks : List D) (rss : List (List Int)) (bs : List Bool) : List Bool :=
 if bs.length = ks.length then [] else [false, true].filter fun t => W ks rss (ks.length - (bs ++ [t]).length) (bs ++ [t]) == kS (ks.getD bs.length .non)
theorem Zu2 {ks : List D} {rss : List (List Int)} {bs : List Bool} (c : Cl ks rss) (hb : bs.length ≤ ks.length) {H : HD} {Q : D -> HD -> Prop}
  (q : ∀ p H', H'[p]? = some (.lst ((gp ks rss bs).map .bl)) -> H.length ≤ p -> Fm [] H H' -> Q (.ref p) H') : wE (Zc9 [Zax ks rss, Za2 bs] H) Q := by
 have h8 := c.h8
 refine Zcm rfl ?_
 show wS (Zd0 [some (Zax ks rss), some (Za2 bs), none] H) _
 unfold Zd0
 (repeat fail "go"); (refine WP.w_if ?_; (repeat fail "go"))
 refine ⟨fun h => ?_, fun h => ?_⟩
 ·(repeat fail "go")
  refine q _ _ ?_ (Nat.le_refl _) (Fm.app _)
  have h' : bs.length = ks.length := by simp at h; omega
  rw [gp, if_pos h']; exact last
 ·have h' : bs.length ≠ ks.length := by simp at h; omega
  (repeat fail "go")
  refine w_ixT (Zaz (Zky c.hk (by omega))) ?_
  (repeat fail "go")
  rw [k_TRUTHS]
  (repeat fail "go")
  refine Zgw (fun d => match d with | .bl t => W ks rss (ks.length - (bs ++ [t]).length) (bs ++ [t]) == kS (ks.getD bs.length .non) | _ => false) (fun H' => Fm [] H H') (fun _ _ => Zow) _ (fun x hx H1 j => ?_) _ Fm.refl fun H1 j => ?_
  ·have : ∃ t, x = .bl t := by simp at hx; rcases hx with rfl | rfl <;> exact ⟨_, rfl⟩
   obtain ⟨t, rfl⟩ := this
   (repeat fail "go")
   refine Zj0 c (by simp; omega) fun H2 x2 => ?_
   (repeat fail "go")
   refine w_eqW ?_
   (repeat fail "go")
   exact ⟨rfl, j.trans x2⟩
  ·refine ⟨Nat.le_trans (List.length_filter_le _ _) (by simp), ?_⟩
   (repeat fail "go")
   refine q _ _ (last.trans ?_) j.len (j.trans (Fm.app _))
   rw [gp, if_neg h']
   rw [show [D.bl false, D.bl true] = [false, true].map D.bl from rfl, List.filter_map]
   rfl
noncomputable def ren (n l : Int) : Int := if 0 < l then l - n else l + n
noncomputable def Zlc (bs : List Bool) (ls : List Int) : List Int := (rest bs ls).map (ren bs.length)
noncomputable def Zbo (bs : List Bool) (rss : List (List Int)) : List (List Int) := (rss.filter fun ls => !kept bs ls).map (Zlc bs)
theorem Zkm {n l : Int} (h0 : 0 ≤ n) (h : n < Zbn l) : Zbn (ren n l) = Zbn l - n := by
 unfold ren Zbn at *; split <;> split at h <;> split <;> omega
theorem Zwz {n l : Int} (h0 : 0 ≤ n) (h : n < Zbn l) : decide (0 < ren n l) = decide (0 < l) := by
 unfold ren Zbn at *
 split at h <;> split <;> simp <;> omega
theorem Zun {m : Int} (bs : List Bool) : ∀ (ls : List Int) (last : Int), 0 ≤ last -> Up m last ls -> Up (m - bs.length) (if (bs.length : Int) < last then last - bs.length else 0) (Zlc bs ls)
 | [], _, _, _ => trivial
 | l :: r, last, h0, u => by
  obtain ⟨u1, u2, u3⟩ := u
  have ih := Zun bs r (Zbn l) (by omega) u3
  unfold Zlc rest at *
  by_cases o : opn bs l = true
  ·have lo : (bs.length : Int) < Zbn l := of_decide_eq_true o
   rw [List.filter_cons_of_pos o, List.map_cons]
   have ha := Zkm (by omega) lo
   refine ⟨?_, ?_, ?_⟩
   ·rw [ha]; split <;> omega
   ·rw [ha]; omega
   ·rw [ha]; rw [if_pos lo] at ih; exact ih
  ·rw [List.filter_cons_of_neg o]
   have lo : ¬ (bs.length : Int) < Zbn l := fun z => o (decide_eq_true z)
   rw [if_neg lo] at ih
   rw [if_neg (by omega)]
   exact ih
theorem Cl.left {ks : List D} {rss : List (List Int)} (c : Cl ks rss) (bs : List Bool) (hb : bs.length ≤ ks.length) : Cl (ks.drop bs.length) (Zbo bs rss) := by
 have h8 := c.h8
 refine ⟨fun d hd => c.hk d (List.mem_of_mem_drop hd), fun ls hl => ?_, ?_, by simp; omega⟩
 ·obtain ⟨l0, h0, rfl⟩ := List.mem_map.mp hl
  have := Zun bs l0 0 (Int.le_refl _) (c.hu l0 (List.mem_filter.mp h0).1)
  rw [if_neg (by omega)] at this
  rw [List.length_drop]
  have e : ((ks.length - bs.length : Nat) : Int) = (ks.length : Int) - bs.length := by omega
  rw [e]; exact this
 ·unfold Zbo
  rw [List.length_map]
  exact Nat.le_trans (List.length_filter_le _ _) c.hl
theorem Zvn {fs ss : List Bool} {l : Int} (h0 : 0 < Zbn l) : rig (fs ++ ss) l = if opn fs l = true then rig ss (ren fs.length l) else rig fs l := by
 by_cases o : opn fs l = true
 ·rw [if_pos o]
  have lo : (fs.length : Int) < Zbn l := of_decide_eq_true o
  have ha := Zkm (by omega) lo
  unfold rig
  rw [Zwz (by omega) lo, ha, List.getElem?_append_right (by omega)]
  have : (Zbn l - 1).toNat - fs.length = (Zbn l - fs.length - 1).toNat := by omega
  rw [this]
 ·rw [if_neg o]
  have lo : ¬ (fs.length : Int) < Zbn l := fun z => o (decide_eq_true z)
  unfold rig
  rw [List.getElem?_append_left (by omega)]
theorem Zl8 {fs : List Bool} {l : Int} (o : opn fs l = true) : rig fs l = false := by
 have lo : (fs.length : Int) < Zbn l := of_decide_eq_true o
 unfold rig
 rw [List.getElem?_eq_none (by omega)]
theorem Zk2 {fs ss : List Bool} : ∀ (ls : List Int), (∀ l ∈ ls, 0 < Zbn l) -> kept (fs ++ ss) ls = (kept fs ls || kept ss (Zlc fs ls))
 | [], _ => rfl
 | l :: r, h => by
  have ih := Zk2 (fs := fs) (ss := ss) r fun x hx => h x (by simp [hx])
  unfold kept Zlc rest at *
  rw [List.any_cons, List.any_cons, ih, Zvn (h l (by simp))]
  by_cases o : opn fs l = true
  ·rw [if_pos o, List.filter_cons_of_pos o, List.map_cons, List.any_cons, Zl8 o]
   cases rig ss (ren fs.length l) <;> cases List.any r (rig fs) <;> simp
  ·rw [if_neg o, List.filter_cons_of_neg o, Bool.or_assoc]
theorem Znh {fs ss : List Bool} {l : Int} : opn (fs ++ ss) l = (opn fs l && opn ss (ren fs.length l)) := by
 unfold opn
 by_cases o : (fs.length : Int) < Zbn l
 ·rw [Zkm (by omega) o]
  simp only [List.length_append, o, decide_true, Bool.true_and]
  congr 1
  apply propext
  constructor <;> intro h <;> omega
 ·simp only [List.length_append, o, decide_false, Bool.false_and]
  exact decide_eq_false (by omega)
theorem Zsj {fs ss : List Bool} : ∀ (ls : List Int), Zlc ss (Zlc fs ls) = Zlc (fs ++ ss) ls
 | [] => rfl
 | l :: r => by
  have ih := Zsj (fs := fs) (ss := ss) r
  unfold Zlc rest at *
  by_cases o : opn fs l = true
  ·have lo : (fs.length : Int) < Zbn l := of_decide_eq_true o
   rw [List.filter_cons_of_pos o, List.map_cons]
   by_cases o2 : opn ss (ren fs.length l) = true
   ·have lo2 : (ss.length : Int) < Zbn (ren fs.length l) := of_decide_eq_true o2
    rw [List.filter_cons_of_pos o2, List.map_cons, ih, List.filter_cons_of_pos (by rw [Znh, o, o2]; rfl), List.map_cons]
    congr 1
    rw [Zkm (by omega) lo] at lo2
    unfold ren Zbn at *
    simp only [List.length_append]
    split <;> split <;> split at lo <;> omega
   ·rw [List.filter_cons_of_neg o2, ih, List.filter_cons_of_neg (by rw [Znh, o]; simpa using o2)]
  ·rw [List.filter_cons_of_neg o, ih, List.filter_cons_of_neg (by rw [Znh]; simp [o])]
theorem Zol {fs ss : List Bool} : ∀ (rss : List (List Int)), (∀ ls ∈ rss, ∀ l ∈ ls, 0 < Zbn l) -> Zbo ss (Zbo fs rss) = Zbo (fs ++ ss) rss
 | [], _ => rfl
 | ls :: r, h => by
  have ih := Zol (fs := fs) (ss := ss) r fun x hx => h x (by simp [hx])
  have k2 := Zk2 (fs := fs) (ss := ss) ls (h ls (by simp))
  unfold Zbo at *
  by_cases o : kept fs ls = true
  ·rw [List.filter_cons_of_neg (by rw [o]; simp), ih, List.filter_cons_of_neg (by rw [k2, o]; simp)]
  ·have o' : kept fs ls = false := by simpa using o
   rw [List.filter_cons_of_pos (by rw [o']; rfl), List.map_cons]
   rw [o', Bool.false_or] at k2
   by_cases o2 : kept ss (Zlc fs ls) = true
   ·rw [List.filter_cons_of_neg (by rw [o2]; simp), ih, List.filter_cons_of_neg (by rw [k2, o2]; simp)]
   ·have o2' : kept ss (Zlc fs ls) = false := by simpa using o2
    rw [List.filter_cons_of_pos (by rw [o2']; rfl), List.map_cons, ih, List.filter_cons_of_pos (by rw [k2, o2']; rfl), List.map_cons, Zsj]
theorem Zqt {fs ss : List Bool} : ∀ (rss : List (List Int)), (∀ ls ∈ rss, ∀ l ∈ ls, 0 < Zbn l) -> (Zbo fs rss).all (kept ss) = rss.all (kept (fs ++ ss))
 | [], _ => rfl
 | ls :: r, h => by
  have ih := Zqt (fs := fs) (ss := ss) r fun x hx => h x (by simp [hx])
  have k2 := Zk2 (fs := fs) (ss := ss) ls (h ls (by simp))
  unfold Zbo at *
  rw [List.all_cons, k2, ← ih]
  by_cases o : kept fs ls = true
  ·rw [List.filter_cons_of_neg (by rw [o]; simp), o]; simp
  ·have o' : kept fs ls = false := by simpa using o
   rw [List.filter_cons_of_pos (by rw [o']; rfl), List.map_cons, List.all_cons, o']; simp
theorem Zmq {ks : List D} {rss : List (List Int)} {fs : List Bool} (h : ∀ ls ∈ rss, ∀ l ∈ ls, 0 < Zbn l) : ∀ (j : Nat) (ss : List Bool), W (ks.drop fs.length) (Zbo fs rss) j ss = W ks rss j (fs ++ ss)
 | 0, ss => by unfold W; exact Zqt rss h
 | j + 1, ss => by
  have e : (ks.drop fs.length).getD ss.length .non = ks.getD (fs ++ ss).length .non := by
   simp [List.getD, List.getElem?_drop]
  unfold W
  rw [Zmq h j, Zmq h j, e, List.append_assoc, List.append_assoc]
theorem Zvv {ks : List D} {rss : List (List Int)} {fs ss : List Bool} (h : ∀ ls ∈ rss, ∀ l ∈ ls, 0 < Zbn l) (hf : fs.length ≤ ks.length) : gp (ks.drop fs.length) (Zbo fs rss) ss = gp ks rss (fs ++ ss) := by
 unfold gp
 have e1 : (ss.length = (ks.drop fs.length).length) = ((fs ++ ss).length = ks.length) := by
  simp; constructor <;> intro z <;> omega
 have e2 : (ks.drop fs.length).getD ss.length .non = ks.getD (fs ++ ss).length .non := by simp [List.getD, List.getElem?_drop]
 have e3 : ∀ t, W (ks.drop fs.length) (Zbo fs rss) ((ks.drop fs.length).length - (ss ++ [t]).length) (ss ++ [t]) = W ks rss (ks.length - (fs ++ ss ++ [t]).length) (fs ++ ss ++ [t]) := by
  intro t
  rw [Zmq h, List.append_assoc]
  congr 1
  simp; omega
 simp only [e1, e2, e3]
theorem Zsa {ks : List D} {rss : List (List Int)} {fs ss : List Bool} (h : ∀ ls ∈ rss, ∀ l ∈ ls, 0 < Zbn l) : FW (ks.drop fs.length) (Zbo fs rss) ss = FW ks rss (fs ++ ss) := by
 unfold FW
 rw [Zmq h]
 congr 2
 simp; omega
noncomputable def Zg5 (ks : List D) (ls : List Int) : Bool := ls.all fun l => !kS (ks.getD (Zbn l - 1).toNat .non)
theorem Zpb {ks : List D} {b : Int} {ls : List Int} (h : Zg5 ks ls = true) : Zg5 ks (Zfo b ls) = true := by
 cases ls with
 | nil => exact h
 | cons l r =>
  show Zg5 ks (if Zbn l = b + 1 then r else l :: r) = true
  split
  ·unfold Zg5 at h ⊢; rw [List.all_cons, Bool.and_eq_true] at h; exact h.2
  ·exact h
theorem Zu1 {ks : List D} {rss : List (List Int)} {ls : List Int} (hl : ls ∈ rss) (hu : Up ks.length 0 ls) : ∀ (j : Nat) (bs : List Bool), bs.length + j = ks.length -> kept bs ls = false -> Zg5 ks (rest bs ls) = true -> W ks rss j bs = false
 | 0, bs, hb, hk, ha => Zuj hl hu 0 bs ⟨hk, Zo3 bs (by omega) ls 0 hu⟩
 | j + 1, bs, hb, hk, ha => by
  have nx := fun t => Zgo bs t ls 0 (Int.le_refl _) hu
  have go : ∀ t, Zjb bs.length t (rest bs ls) = false -> W ks rss j (bs ++ [t]) = false := fun t ht =>
   Zu1 hl hu j (bs ++ [t]) (by simp; omega) (by rw [(nx t).2, hk, ht]; rfl) (by rw [(nx t).1]; exact Zpb ha)
  unfold W
  cases hw : kS (ks.getD bs.length .non) with
  | false =>
   have : ∃ t, Zjb bs.length t (rest bs ls) = false := by
    cases rest bs ls with
    | nil => exact ⟨false, rfl⟩
    | cons l r =>
     refine ⟨!decide (0 < l), ?_⟩
     show (decide (Zbn l = (bs.length : Int) + 1) && ((!decide (0 < l)) == decide (0 < l))) = false
     cases decide (0 < l) <;> cases decide (Zbn l = (bs.length : Int) + 1) <;> rfl
   obtain ⟨t, ht⟩ := this
   have := go t ht
   cases t
   ·simp [this]
   ·simp [this]
  | true =>
   have nh : ∀ t, Zjb bs.length t (rest bs ls) = false := by
    intro t
    cases e : rest bs ls with
    | nil => rfl
    | cons l r =>
     unfold Zjb
     rw [e] at ha
     unfold Zg5 at ha
     rw [List.all_cons, Bool.and_eq_true] at ha
     have : ¬ Zbn l = (bs.length : Int) + 1 := fun z => by
      have h2 : (Zbn l - 1).toNat = bs.length := by omega
      rw [h2, hw] at ha
      cases ha.1
     simp [this]
   simp [go _ (nh false), go _ (nh true)]
inductive PlanD (ks : List D) (rss : List (List Int)) (side : Bool) : List Bool -> D -> Prop
 | kept {bs : List Bool} : side = true → (∀ ls ∈ rss, kept bs ls = true) → PlanD ks rss side bs (.tup [.str "kept"])
 | lost {bs : List Bool} {i : Nat} {ls : List Int} : side = false → rss[i]? = some ls → K08.kept bs ls = false → Zg5 ks (rest bs ls) = true → PlanD ks rss side bs (.tup [.str "lost", .int i])
 | pick {bs : List Bool} {t : Bool} {x : D} : bs.length < ks.length → kS (ks.getD bs.length .non) = side → PlanD ks rss side (bs ++ [t]) x → PlanD ks rss side bs (.tup [.str "pick", .bl t, x])
 | each {bs : List Bool} {x y : D} : bs.length < ks.length → kS (ks.getD bs.length .non) = !side → PlanD ks rss side (bs ++ [false]) x → PlanD ks rss side (bs ++ [true]) y → PlanD ks rss side bs (.tup [.str "each", x, y])
theorem Zfw {a b : Bool} (q : Q (.bl (a == b)) H) : wE (eqD (Zbb a) (Zbb b) H) Q := ⟨_, _, Znm _ _ _, q⟩
theorem Zvs {p : Nat} {bs : List Bool} (g : H[p]? = some (.lst (bs.map .bl))) (q : Q (.bl (bs.all id)) H) : wE (Zwf [.ref p] H) Q := ⟨_, _, Zy0 g, q⟩
theorem Zxn {ks : List D} {ls : List Int} (hk : ∀ d ∈ ks, Zev d) (h : ∀ l ∈ ls, 0 < Zbn l ∧ Zbn l ≤ ks.length) (hl : ls.length ≤ 1000) (q : ∀ H', Fm [] H H' -> Q (.bl (Zg5 ks ls)) H') : wE (Zcp [.tup ks, Zb1 ls] H) Q := by
 refine Zcm rfl ?_
 show wS (Zcl [some (.tup ks), some (Zb1 ls)] H) _
 unfold Zcl Zb1
 (repeat fail "go")
 refine Zoa (fun d => match d with | .int l => .bl (!kS (ks.getD (Zbn l - 1).toNat .non)) | _ => .non) (fun H' => H' = H) (fun _ _ => Zow) _ (fun x hx H1 j => ?_) _ rfl fun H1 j => ?_
 ·obtain ⟨l, hl, rfl⟩ := List.mem_map.mp hx
  have := h l hl
  subst j
  (repeat fail "go")
  refine w_ixT (Zes (by omega) (Zky hk (by omega))) ?_
  (repeat fail "go")
  refine Zfw (b := false) ?_
  exact ⟨by simp, rfl⟩
 ·subst j
  refine ⟨by simp; omega, ?_⟩
  (repeat fail "go")
  have e : ((ls.map D.int).map fun d => match d with | .int l => D.bl (!kS (ks.getD (Zbn l - 1).toNat .non)) | _ => .non) = (ls.map fun l => !kS (ks.getD (Zbn l - 1).toNat .non)).map .bl := by
   rw [List.map_map, List.map_map]; rfl
  rw [e]
  refine Zvs last ?_
  (repeat fail "go")
  have := q (H1 ++ [.lst ((ls.map fun l => !kS (ks.getD (Zbn l - 1).toNat .non)).map .bl)]) (Fm.app _)
  rw [List.all_map]
  exact this
theorem Zk7 {bs : List Bool} {ls : List Int} {l : Int} (h : l ∈ rest bs ls) : l ∈ ls := (List.mem_filter.mp h).1
theorem Zrg {ks : List D} {rss : List (List Int)} {bs : List Bool} {kvs : List (D × D)} {p : Nat} {fz : Bool} (c : Cl ks rss) (g : H[p]? = some (.dic kvs fz)) (dr : DR rss bs kvs)
  (q1 : ∀ (i : Nat) (ls : List Int) H', Fm [] H H' -> rss[i]? = some ls -> kept bs ls = false -> Zg5 ks (rest bs ls) = true -> Q (.int i) H') (q2 : ∀ H', Fm [] H H' -> (∀ ls ∈ rss, kept bs ls = false -> Zg5 ks (rest bs ls) = false) -> Q .non H') :
  wE (Zc5 [.tup ks, .ref p] H) Q := by
 refine Zcm rfl ?_
 show wS (Zcf [some (.tup ks), some (.ref p), none] H) _
 unfold Zcf
 (repeat fail "go")
 refine ⟨p, kvs, fz, rfl, g, ?_⟩
 have lt := (List.getElem?_eq_some_iff.mp g).1
 have x0 : Fm [] H (H.set p (.dic kvs true)) := ⟨fun m o _ h => by
  by_cases e : p = m
  ·subst e
   rw [g] at h; cases h
   cases fz
   ·exact .inr ⟨kvs, rfl, setS g⟩
   ·exact .inl (setS g)
  ·exact .inl (setO e h), by simp⟩
 refine Zjk (fun d t σ H' => d ++ t = kvs.map (·.1) ∧ (∀ ls, Zb1 ls ∈ d -> Zg5 ks ls = false) ∧ Fm [] H H' ∧ H'[p]? = some (.dic kvs true) ∧ ∃ b, σ = [some (.tup ks), some (.ref p), b]) (fun _ _ _ _ j => Zuv j.2.2.2.1) (fun d x t σ H1 ⟨i1, i2, i3, i4, b, i5⟩ => ?_) (fun d σ H1 ⟨i1, i2, i3, i4, b, i5⟩ => ?_) _ [] _ _ ⟨rfl, by simp, x0, setS g, _, rfl⟩
 ·subst i5
  have hm : x ∈ kvs.map (·.1) := by rw [← i1]; simp
  obtain ⟨y, hy, rfl⟩ := List.mem_map.mp hm
  obtain ⟨i, ls, v1, v2, v3⟩ := dr.val y hy
  have hu := c.hu ls (List.mem_of_getElem? v1)
  have hb := Zom ls 0 (Int.le_refl _) hu
  have ek : y.1 = Zb1 (rest bs ls) := by rw [v3]
  rw [ek]
  have ll : (rest bs ls).length ≤ 1000 := by
   refine Nat.le_trans (List.length_filter_le _ _) ?_
   obtain ⟨ls', e, _, l9, _⟩ := Zur (by have := c.h8; omega) hu
   have : ls = ls' := Znv e
   rw [this]; omega
  (repeat fail "go"); (refine WP.w_if ?_; (repeat fail "go"))
  refine Zxn c.hk (fun l hl => ⟨(hb l (Zk7 hl)).1, (hb l (Zk7 hl)).2⟩) ll fun H2 x2 => ?_
  refine ⟨_, rfl, ?_, ?_⟩
  ·intro ha
   (repeat fail "go")
   obtain ⟨v, ev⟩ := Option.isSome_iff_exists.mp (Zlj hy (k := rest bs ls) (by rw [ek]; exact Zfa _))
   obtain ⟨z, z1, z2, z3⟩ := Zok ev
   obtain ⟨i', ls', u1, u2, u3⟩ := dr.val z z1
   have er : rest bs ls' = rest bs ls := by rw [u3, Zfa] at z2; exact Option.some.inj z2
   refine Zz2 (x2.fr (by simp) i4) (Zfa _) ev ?_
   (repeat fail "go")
   rw [← z3, u3]
   exact q1 i' ls' H2 (i3.trans x2) u1 u2 (by rw [er]; exact ha)
  ·intro ha
   (repeat fail "go")
   refine ⟨by rw [← i1, ek]; simp, fun l hl => ?_, i3.trans x2, x2.fr (by simp) i4, _, rfl⟩
   rcases List.mem_append.mp hl with hl | hl
   ·exact i2 l hl
   ·simp at hl; rw [Znv hl]; exact ha
 ·subst i5
  (repeat fail "go")
  refine q2 H1 i3 fun ls hl hk => ?_
  obtain ⟨y, hy, ey⟩ := Zit (dr.all ls hl hk)
  obtain ⟨i', ls', u1, u2, u3⟩ := dr.val y hy
  have er : rest bs ls' = rest bs ls := by rw [u3, Zfa] at ey; exact Option.some.inj ey
  refine i2 _ ?_
  rw [List.append_nil] at i1
  rw [i1, ← er]
  exact List.mem_map.mpr ⟨y, hy, by rw [u3]⟩
theorem Zw1 {ks : List D} {rss : List (List Int)} (c : Cl ks rss) (q : ∀ kvs r H', H'[r]? = some (.dic kvs false) -> DR rss [] kvs -> Fm [] H H' -> Q (.ref r) H') : wE (Zbk [.tup (rss.map Zb1)] H) Q := by
 obtain ⟨kvs', H', r, e, g', d', x⟩ := Zod c.hu c.hl H
 exact ⟨_, _, e, q kvs' r H' g' d' x.fm⟩
open PySem L2 DL LH
theorem Zus {bs : List Bool} {l : Int} (q : Q (.bl (opn bs l)) H) : wE (Zde [.int l, Za2 bs] H) Q := by
 refine Zcm rfl ?_
 show wS (Zei [some (.int l), some (Za2 bs)] H) _
 unfold Zei
 (repeat fail "go")
 exact q
theorem Zv6 {bs : List Bool} {l : Int} (h0 : 0 < Zbn l) (q : Q (.bl (rig bs l)) H) : wE (Ze6 [.int l, Za2 bs] H) Q := by
 refine Zcm rfl ?_
 show wS (Zdr [some (.int l), some (Za2 bs)] H) _
 unfold Zdr
 (repeat fail "go")
 refine Zus ?_
 (repeat fail "go")
 cases ho : opn bs l with
 | true =>
  have e : rig bs l = false := by
   unfold rig
   have := of_decide_eq_true ho
   rw [List.getElem?_eq_none (by omega)]
  rw [e] at q
  (repeat fail "go")
  exact q
 | false =>
  have hh := of_decide_eq_false ho
  have lt : (Zbn l - 1).toNat < bs.length := by omega
  (repeat fail "go")
  unfold Za2
  refine w_ixT (Zes (by omega) (d := .bl (bs[(Zbn l - 1).toNat])) (by rw [List.getElem?_map, List.getElem?_eq_getElem lt]; rfl)) ?_
  (repeat fail "go")
  refine Zzj ?_
  have e : rig bs l = (bs[(Zbn l - 1).toNat] == decide (0 < l)) := by
   unfold rig
   rw [List.getElem?_eq_getElem lt]
  rw [e] at q
  exact q
theorem Zu3 {bs : List Bool} {ls : List Int} (h0 : ∀ l ∈ ls, 0 < Zbn l) (q : Q (.bl (kept bs ls)) H) : wE (Zdk [Zb1 ls, Za2 bs] H) Q := by
 refine Zcm rfl ?_
 show wS (Zej [some (Zb1 ls), some (Za2 bs), none] H) _
 unfold Zej Zb1
 (repeat fail "go")
 refine Zjk (fun d t σ H' => d ++ t = ls.map .int ∧ (∀ l, D.int l ∈ d -> rig bs l = false) ∧ H' = H ∧ ∃ b, σ = [some (.tup (ls.map .int)), some (Za2 bs), b]) (fun _ _ _ _ j => Zow) (fun d x t σ H1 ⟨i1, i2, i3, b, i4⟩ => ?_) (fun d σ H1 ⟨i1, i2, i3, b, i4⟩ => ?_) _ [] _ _ ⟨rfl, by simp, rfl, _, rfl⟩
 ·subst i4 i3
  have hm : x ∈ ls.map D.int := by rw [← i1]; simp
  obtain ⟨l, hl, rfl⟩ := List.mem_map.mp hm
  (repeat fail "go"); (refine WP.w_if ?_; (repeat fail "go"))
  refine Zv6 (h0 l hl) ?_
  refine ⟨_, rfl, fun h => ?_, fun h => ?_⟩
  ·(repeat fail "go")
   have e : kept bs ls = true := List.any_eq_true.mpr ⟨l, hl, h⟩
   rw [e] at q; exact q
  ·(repeat fail "go")
   refine ⟨by rw [← i1]; simp, fun m hm => ?_, rfl, _, rfl⟩
   rcases List.mem_append.mp hm with hm | hm
   ·exact i2 m hm
   ·simp at hm; rw [hm]; exact h
 ·subst i4 i3
  (repeat fail "go")
  have e : kept bs ls = false := List.any_eq_false.mpr fun l hl => by
   rw [List.append_nil] at i1
   rw [i2 l (by rw [i1]; exact List.mem_map.mpr ⟨l, hl, rfl⟩)]; simp
  rw [e] at q; exact q
theorem Ztd {ks : List D} {ls : List Int} {p : Nat} (g : H[p]? = some (.lst (ls.map .int))) (hk : ∀ d ∈ ks, Zev d) (h : ∀ l ∈ ls, 0 < Zbn l ∧ Zbn l ≤ ks.length) (hl : ls.length ≤ 1000) (q : ∀ H', Fm [] H H' -> Q (.bl (Zg5 ks ls)) H') : wE (Zcp [.tup ks, .ref p] H) Q := by
 refine Zcm rfl ?_
 show wS (Zcl [some (.tup ks), some (.ref p)] H) _
 unfold Zcl
 (repeat fail "go")
 refine Zoa (fun d => match d with | .int l => .bl (!kS (ks.getD (Zbn l - 1).toNat .non)) | _ => .non) (fun H' => H' = H) (fun _ j => by rw [j]; exact Zuv g) _ (fun x hx H1 j => ?_) _ rfl fun H1 j => ?_
 ·obtain ⟨l, hl, rfl⟩ := List.mem_map.mp hx
  have := h l hl
  subst j
  (repeat fail "go")
  refine w_ixT (Zes (by omega) (Zky hk (by omega))) ?_
  (repeat fail "go")
  refine Zfw (b := false) ?_
  exact ⟨by simp, rfl⟩
 ·subst j
  refine ⟨by simp; omega, ?_⟩
  (repeat fail "go")
  have e : ((ls.map D.int).map fun d => match d with | .int l => D.bl (!kS (ks.getD (Zbn l - 1).toNat .non)) | _ => .non) = (ls.map fun l => !kS (ks.getD (Zbn l - 1).toNat .non)).map .bl := by
   rw [List.map_map, List.map_map]; rfl
  rw [e]
  refine Zvs last ?_
  (repeat fail "go")
  have := q (H1 ++ [.lst ((ls.map fun l => !kS (ks.getD (Zbn l - 1).toNat .non)).map .bl)]) (Fm.app _)
  rw [List.all_map]
  exact this
theorem Zs1 {bs : List Bool} (ls : List Int) (f : D -> Bool) (hf : ∀ l, f (.int l) = opn bs l) : (ls.map D.int).filter f = (rest bs ls).map D.int := by
 unfold rest
 rw [List.filter_map]
 congr 1
 exact List.filter_congr fun l _ => hf l
noncomputable def Zhn : D -> List Int
 | .tup ds => ds.filterMap fun
  | .int i => some i
  | _ => none
 | _ => []
theorem Zfx (ls : List Int) : Zhn (Zb1 ls) = ls := by
 show (ls.map D.int).filterMap _ = ls
 induction ls with
 | nil => rfl
 | cons l r ih => rw [List.map_cons, List.filterMap_cons]; simp only []; rw [ih]
theorem Zwv {rss : List (List Int)} {bs : List Bool} {Q : List D -> HD -> Prop} (h : ∀ ls ∈ rss, ∀ l ∈ ls, 0 < Zbn l) (q : Q ((rss.map (kept bs)).map .bl) H) : wA (Zdh [] [some (Za2 bs)] Zgm (Zal 2 Zdk (Zab (Zae 0) (Zab (Zae 1) Zaj))) (rss.map Zb1) H) Q := by
 refine Zoa (fun d => .bl (kept bs (Zhn d))) (fun H' => H' = H) (fun _ _ => Zow) _ (fun x hx H1 j => ?_) _ rfl fun H1 j => ?_
 ·obtain ⟨ls, hl, rfl⟩ := List.mem_map.mp hx
  subst j
  (repeat fail "go")
  refine Zu3 (h ls hl) ?_
  exact ⟨by rw [Zfx], rfl⟩
 ·subst j
  have e1 : (rss.map Zb1).map (fun d => D.bl (kept bs (Zhn d))) = (rss.map (kept bs)).map .bl := by
   rw [List.map_map, List.map_map]
   exact List.map_congr_left fun x _ => by simp [Zfx]
  rw [e1]; exact q
theorem Zug {a b : Bool} (q : Q (.bl (!(a == b))) H) : wE (neD (Zbb a) (Zbb b) H) Q := by
 refine Zs8 (Zdf a) (Zdf b) (by omega) (by omega) ?_
 have e : PyData.eqv (.str (Zyf a)) (.str (Zyf b)) = (a == b) := by cases a <;> cases b <;> simp [PyData.eqv, Zyf] <;> decide
 rw [e]; exact q
theorem Zxg {i : Int} (q : Q (.bl true) H) : wE (Zfv [.int i] H) Q := by
 refine Zcm rfl ?_
 show wS (Ze3 [some (.int i)] H) _
 unfold Ze3
 (repeat fail "go")
 exact q
theorem Zy5 {ks : List D} {rss : List (List Int)} {one : Bool} {bs : List Bool} (c : Cl ks rss) (hk : ∀ ls ∈ rss, kept bs ls = true) (q : ∀ H', Fm [] H H' → Q (.bl (one == true)) H') : wE (Zdi [Zax ks rss, Zbb one, Za2 bs, .tup [.str "kept"]] H) Q := by
 have hl := c.hl
 refine Zcm rfl ?_
 show wS (Zb9 [some (Zax ks rss), some (Zbb one), some (Za2 bs), some (.tup [.str "kept"]), none, none] H) _
 unfold Zb9
 have ft : Fines [D.str "kept"] [.str "kept"] 0 := Fines.cons (Fine.str (Ze8 (by decide))) Fines.nil
 (repeat fail "go"); (refine WP.w_if ?_; (repeat fail "go"))
 refine Zs2 (Fine.tup ft) (Fine.tup ft) (by omega) (by omega) ?_
 rw [show PyData.eqv (.tuple [.str "kept"]) (.tuple [.str "kept"]) = true by decide]
 (repeat fail "go")
 refine Zfw (b := true) ?_
 (repeat fail "go")
 cases one with
 | false =>
  (repeat fail "go")
  exact q H Fm.refl
 | true =>
  (repeat fail "go")
  refine Zwv (fun ls h => c.pos h) ?_
  (repeat fail "go")
  refine Zvs last ?_
  (repeat fail "go")
  have e2 : (rss.map (kept bs)).all id = true := by
   rw [List.all_map, List.all_eq_true]
   exact hk
  rw [e2]
  exact q _ (Fm.app _)
theorem Zzw {ks : List D} {rss : List (List Int)} {one : Bool} {bs : List Bool} {i : Nat} {ls : List Int} (c : Cl ks rss) (hi : rss[i]? = some ls) (hk : kept bs ls = false) (ha : Zg5 ks (rest bs ls) = true) (q : ∀ H', Fm [] H H' → Q (.bl (one == false)) H') : wE (Zdi [Zax ks rss, Zbb one, Za2 bs, .tup [.str "lost", .int i]] H) Q := by
 have lt := (List.getElem?_eq_some_iff.mp hi).1
 have hm := List.mem_of_getElem? hi
 have l9 := c.len9 hm
 refine Zcm rfl ?_
 show wS (Zb9 [some (Zax ks rss), some (Zbb one), some (Za2 bs), some (.tup [.str "lost", .int i]), none, none] H) _
 unfold Zb9
 have ft : Fines [D.str "kept"] [.str "kept"] 0 := Fines.cons (Fine.str (Ze8 (by decide))) Fines.nil
 have fl : Fines [D.str "lost", .int i] [.str "lost", .int i] 0 := Fines.cons (Fine.str (Ze8 (by decide))) (Fines.cons (.int i) Fines.nil)
 (repeat fail "go"); (refine WP.w_if ?_; (repeat fail "go"))
 refine Zs2 (Fine.tup fl) (Fine.tup ft) (by omega) (by omega) ?_
 rw [show PyData.eqv (.tuple [.str "lost", .int i]) (.tuple [.str "kept"]) = false by simp [PyData.eqv, PyData.eqvAll]]
 (repeat fail "go"); (refine WP.w_if ?_; (repeat fail "go"))
 refine Zug (b := false) ?_
 cases one with
 | true =>
  (repeat fail "go")
  exact q H Fm.refl
 | false =>
  (repeat fail "go"); (refine WP.w_if ?_; (repeat fail "go"))
  refine Zxg ?_
  (repeat fail "go")
  refine w_bF (by simp; omega) ?_
  (repeat fail "go")
  refine w_ixT (Zaz (v := Zb1 ls) (by rw [List.getElem?_map, hi]; rfl)) ?_
  (repeat fail "go")
  refine Zu3 (c.pos hm) ?_
  rw [hk]
  (repeat fail "go")
  refine ⟨ls.map .int, [], rfl, ?_⟩
  refine Zgw (fun d => match d with | .int l => opn bs l | _ => false) (fun H' => H' = H) (fun _ _ => Zow) _ (fun x hx H1 j => ?_) _ rfl fun H1 j => ?_
  ·obtain ⟨l, hl, rfl⟩ := List.mem_map.mp hx
   subst j
   (repeat fail "go")
   refine Zus ?_
   exact ⟨_, rfl, rfl, rfl⟩
  ·subst j
   rw [Zs1 ls _ (fun l => rfl)]
   have lr : (rest bs ls).length ≤ ls.length := List.length_filter_le _ _
   refine ⟨by simp; omega, ?_⟩
   (repeat fail "go")
   refine Ztd last c.hk (fun l hl => Zom ls 0 (Int.le_refl _) (c.hu ls hm) l (Zk7 hl)) (by omega) fun H2 x2 => ?_
   rw [ha]
   (repeat fail "go")
   exact q H2 ((Fm.app _).trans x2)
theorem Zv7 {rss : List (List Int)} (c : Cl [] rss) (q : ∀ t H', PlanD [] rss (W [] rss 0 []) [] t -> Fm [] H H' -> Q (.tup [Zbb (W [] rss 0 []), t]) H') : wE (Zof [Zax [] rss] H) Q := by
 refine Zcm rfl ?_
 show wS (Zlf [some (Zax [] rss)] H) _
 unfold Zlf
 (repeat fail "go")
 refine Zw1 c fun kvs r H0 g dr x0 => ?_
 (repeat fail "go")
 refine Zcm rfl ?_
 show wS (Zdj [some (.tup []), some (.ref r), some (.int 0), none] H0) _
 unfold Zdj
 (repeat fail "go"); (refine WP.w_if ?_; (repeat fail "go"))
 refine Zx8 g ?_
 (repeat fail "go")
 refine ⟨fun h => ?_, fun h => ?_⟩
 ·have e0 : kvs = [] := List.length_eq_zero_iff.mp (by simp at h; simpa using h)
  subst e0
  have al : ∀ ls ∈ rss, kept [] ls = true := fun ls h => by
   cases e : kept [] ls with
   | true => rfl
   | false => have := dr.all ls h e; simp [Zb2] at this
  have ew := Zoo (ks := []) c.hu 0 [] al
  (repeat fail "go")
  have := q (.tup [.str "kept"]) H0 (.kept ew al) x0
  rw [ew] at this; exact this
 ·(repeat fail "go")
  refine Zrg (bs := []) c g dr (fun i ls H1 x1 e1 e2 e3 => ?_) (fun H1 x1 hn => ?_)
  ·(repeat fail "go"); (refine WP.w_if ?_; (repeat fail "go"))
   have ew := Zu1 (ks := []) (List.mem_of_getElem? e1) (c.hu ls (List.mem_of_getElem? e1)) 0 [] rfl e2 e3
   have := q (.tup [.str "lost", .int i]) H1 (.lost ew e1 e2 e3) (x0.trans x1)
   rw [ew] at this; exact this
  ·exfalso
   have hne : kvs ≠ [] := fun z => by subst z; simp at h
   obtain ⟨y, kr, e⟩ := List.exists_cons_of_ne_nil hne
   obtain ⟨i, ls, v1, v2, v3⟩ := dr.val y (by rw [e]; simp)
   have := hn ls (List.mem_of_getElem? v1) v2
   rw [Zo3 [] (m := 0) (by simp) ls 0 (c.hu ls (List.mem_of_getElem? v1))] at this
   cases this
theorem Zwa {rss : List (List Int)} {side one : Bool} (c : Cl [] rss) {t : D} (p : PlanD [] rss side [] t) (q : ∀ H', Fm [] H H' -> Q (.bl (one == side)) H') : wE (Zgu [Zax [] rss, Zbb one, t] H) Q := by
 refine Zcm rfl ?_
 show wS (Zfs [some (Zax [] rss), some (Zbb one), some t] H) _
 unfold Zfs
 (repeat fail "go")
 refine Zcm rfl ?_
 cases p with
 | kept hs hk =>
  subst hs
  show wS (Zbm [some (Zax [] rss), some (Zbb one), some (Za2 []), some (.tup [.str "kept"]), none, none, none] H) _
  unfold Zbm
  refine w_seq (w_if ?_)
  (repeat fail "go")
  refine w_if ?_
  (repeat fail "go")
  refine Zy5 c hk fun H1 x1 => ?_
  (repeat fail "go")
  exact q _ x1
 | @lost _ i ls hs h1 h2 h3 =>
  subst hs
  show wS (Zbm [some (Zax [] rss), some (Zbb one), some (Za2 []), some (.tup [.str "lost", .int i]), none, none, none] H) _
  unfold Zbm
  refine w_seq (w_if ?_)
  (repeat fail "go")
  refine w_if ?_
  (repeat fail "go")
  refine Zzw c h1 h2 h3 fun H1 x1 => ?_
  (repeat fail "go")
  exact q _ x1
 | pick h _ _ => simp at h
 | each h _ _ _ => simp at h
theorem Zrb {bs : List Bool} {l : Int} (q : Q (.bl (opn bs l)) H) : wE (Zde [.int l, Za2 bs] H) Q := by
 refine Zcm rfl ?_
 show wS (Zei [some (.int l), some (Za2 bs)] H) _
 unfold Zei
 (repeat fail "go")
 exact q
theorem Ztp {bs : List Bool} {l : Int} (h0 : 0 < Zbn l) (q : Q (.bl (rig bs l)) H) : wE (Ze6 [.int l, Za2 bs] H) Q := by
 refine Zcm rfl ?_
 show wS (Zdr [some (.int l), some (Za2 bs)] H) _
 unfold Zdr
 (repeat fail "go")
 refine Zrb ?_
 (repeat fail "go")
 refine ⟨fun h => ?_, fun h => ?_⟩
 ·have ho : opn bs l = false := by simpa using h
  have lo : ¬ (bs.length : Int) < Zbn l := fun z => by unfold opn at ho; simp [z] at ho
  obtain ⟨b, hb⟩ : ∃ b, bs[(Zbn l - 1).toNat]? = some b := ⟨bs[(Zbn l - 1).toNat]'(by omega), List.getElem?_eq_getElem _⟩
  have er : rig bs l = (b == decide (0 < l)) := by unfold rig; rw [hb]
  (repeat fail "go")
  refine w_ixT (xs := bs.map .bl) (Zes (by omega) (by rw [List.getElem?_map, hb]; rfl)) ?_
  (repeat fail "go")
  refine Zzj ?_
  (repeat fail "go")
  rw [er] at q; exact q
 ·have ho : opn bs l = true := by simpa using h
  rw [Zl8 ho] at q; exact q
theorem Zxj {bs : List Bool} {ls : List Int} (h : ∀ l ∈ ls, 0 < Zbn l) (q : Q (.bl (kept bs ls)) H) : wE (Zdk [Zb1 ls, Za2 bs] H) Q := by
 refine Zcm rfl ?_
 show wS (Zej [some (.tup (ls.map .int)), some (Za2 bs), none] H) _
 unfold Zej
 (repeat fail "go")
 refine Zjk (fun d t σ H' => ∃ r : List Int, t = r.map .int ∧ (∀ l ∈ r, 0 < Zbn l) ∧ kept bs r = kept bs ls ∧ H' = H ∧ ∃ z, σ = [some (.tup (ls.map .int)), some (Za2 bs), z]) (fun _ _ _ _ _ => Zow) (fun d x t σ H1 ⟨r, e1, e2, e3, e4, z, e5⟩ => ?_) (fun d σ H1 ⟨r, e1, e2, e3, e4, z, e5⟩ => ?_) _ [] _ _ ⟨ls, rfl, h, rfl, rfl, _, rfl⟩
 ·cases r with
  | nil => cases e1
  | cons l r =>
   obtain ⟨rfl, rfl⟩ := List.cons.inj e1
   subst e4; subst e5
   (repeat fail "go"); (refine WP.w_if ?_; (repeat fail "go"))
   refine Ztp (e2 l (by simp)) ?_
   (repeat fail "go")
   have e6 : kept bs (l :: r) = (rig bs l || kept bs r) := by unfold kept; rw [List.any_cons]
   rw [e6] at e3
   refine ⟨fun hh => ?_, fun hh => ?_⟩
   ·(repeat fail "go")
    rw [hh] at e3
    rw [← e3] at q; exact q
   ·(repeat fail "go")
    rw [hh] at e3
    exact ⟨r, rfl, fun y hy => e2 y (by simp [hy]), e3, rfl, _, rfl⟩
 ·have : r = [] := by cases r with | nil => rfl | cons _ _ => cases e1
  subst this; subst e4; subst e5
  (repeat fail "go")
  rw [← e3] at q; exact q
theorem w_ren {l n : Int} (q : Q (.int (ren n l)) H) : wE (Zet [.int l, .int n] H) Q := by
 refine Zcm rfl ?_
 show wS (Zd7 [some (.int l), some (.int n)] H) _
 unfold Zd7
 unfold ren at q
 (repeat fail "go")
 refine ⟨fun h => ?_, fun h => ?_⟩
 ·(repeat fail "go")
  rw [if_pos (by simpa using h)] at q; exact q
 ·(repeat fail "go")
  rw [if_neg (by simpa using h)] at q; exact q
theorem Zq6 {bs : List Bool} {ls : List Int} (hl : ls.length ≤ 1000) (q : ∀ H', Fm [] H H' -> Q (Zb1 (Zlc bs ls)) H') : wE (Zfy [Zb1 ls, Za2 bs] H) Q := by
 refine Zcm rfl ?_
 show wS (Ze5 [some (.tup (ls.map .int)), some (Za2 bs)] H) _
 unfold Ze5
 (repeat fail "go")
 refine Zt0 (fun d => match d with | .int l => opn bs l | _ => false) (fun d => match d with | .int l => .int (ren bs.length l) | _ => .non) (fun H' => H' = H) (fun _ _ => Zow) _ (fun x hx H1 j => ?_) (fun x hx _ H1 j => ?_) _ rfl fun H1 j => ?_
 ·obtain ⟨l, hl, rfl⟩ := List.mem_map.mp hx
  subst j
  (repeat fail "go")
  refine Zrb ?_
  (repeat fail "go")
  exact ⟨rfl, rfl⟩
 ·obtain ⟨l, hl, rfl⟩ := List.mem_map.mp hx
  subst j
  (repeat fail "go")
  refine w_ren ?_
  exact ⟨rfl, rfl⟩
 ·have e1 : ((ls.map D.int).filter fun d => match d with | .int l => opn bs l | _ => false).map (fun d => match d with | .int l => D.int (ren bs.length l) | _ => .non) = (Zlc bs ls).map .int := by
   unfold Zlc rest
   rw [List.filter_map, List.map_map, List.map_map]; rfl
  rw [e1]
  subst j
  have lr : (Zlc bs ls).length ≤ 1000 := by unfold Zlc rest; rw [List.length_map]; exact Nat.le_trans (List.length_filter_le _ _) hl
  (repeat fail "go")
  exact q _ (Fm.app _)
theorem Zrr {ks : List D} {rss : List (List Int)} {bs : List Bool} (c : Cl ks rss) (q : ∀ H', Fm [] H H' -> Q (Zax (ks.drop bs.length) (Zbo bs rss)) H') : wE (Zhu [Zax ks rss, Za2 bs] H) Q := by
 have hl := c.hl
 refine Zcm rfl ?_
 show wS (Zmp [some (Zax ks rss), some (Za2 bs), none] H) _
 unfold Zmp
 (repeat fail "go")
 refine Zt0 (fun d => !kept bs (Zhn d)) (fun d => Zb1 (Zlc bs (Zhn d))) (fun H' => Fm [] H H') (fun _ _ => Zow) _ (fun x hx H1 j => ?_) (fun x hx _ H1 j => ?_) _ Fm.refl fun H1 j => ?_
 ·obtain ⟨ls, hl, rfl⟩ := List.mem_map.mp hx
  (repeat fail "go")
  refine Zxj (c.pos hl) ?_
  (repeat fail "go")
  exact ⟨by rw [Zfx], j⟩
 ·obtain ⟨ls, hl, rfl⟩ := List.mem_map.mp hx
  (repeat fail "go")
  refine Zq6 (by have := c.len9 hl; omega) fun H2 x2 => ?_
  exact ⟨by rw [Zfx], j.trans x2⟩
 ·have e1 : ((rss.map Zb1).filter fun d => !kept bs (Zhn d)).map (fun d => Zb1 (Zlc bs (Zhn d))) = (Zbo bs rss).map Zb1 := by
   unfold Zbo
   rw [List.filter_map, List.map_map, List.map_map]
   have : ((fun d => !kept bs (Zhn d)) ∘ Zb1) = fun ls => !kept bs ls := by funext ls; simp [Zfx]
   rw [this]
   exact List.map_congr_left fun x _ => by simp [Zfx]
  rw [e1]
  have lr : (Zbo bs rss).length ≤ 1000 := by unfold Zbo; rw [List.length_map]; exact Nat.le_trans (List.length_filter_le _ _) hl
  (repeat fail "go")
  exact q _ (j.trans (Fm.app _))
variable {H : HD} {Q : D -> HD -> Prop} {ks : List D} {rss : List (List Int)} {bs : List Bool} {n : Nat}
noncomputable def Zam (ks : List D) (rss : List (List Int)) (bs : List Bool) : DO := .obj "Match" [("begun", Zax ks rss), ("picked", Za2 bs)]
theorem Zid (g : H[n]? = some (.obj "Match" [])) (q : Q .non (H.set n (Zam ks rss []))) : wE (Zbz [.ref n, Zax ks rss] H) Q := by
 have ln : n < H.length := (List.getElem?_eq_some_iff.mp g).1
 refine Zcm rfl ?_
 show wS (Zd4 [some (.ref n), some (Zax ks rss)] H) _
 unfold Zd4
 refine w_seq (Zo2 (w_var rfl (w_var rfl ⟨n, _, rfl, g, by simp, ?_⟩)))
 refine w_kn (w_seq (Zo2 (w_tup (w_anil (w_sz (by simp) (w_var rfl ⟨n, _, rfl, List.getElem?_set_self ln, by simp [Zvz], ?_⟩))))))
 (repeat fail "go")
 rw [List.set_set]
 exact q
theorem Zj8 (g : H[n]? = some (Zam ks rss bs)) (q : Q (Za2 bs) H) : wE (Zby [.ref n] H) Q := by
 refine Zcm rfl ?_
 show wS (Zdy [some (.ref n)] H) _
 unfold Zdy
 refine w_seq (w_ret (Zf3 (w_var rfl ⟨n, _, rfl, g, _, rfl, ?_⟩)))
 (repeat fail "go")
 exact q
theorem Zim (c : Cl ks rss) (hb : bs.length ≤ ks.length) (g : H[n]? = some (Zam ks rss bs)) (q : ∀ H', Fm [] H H' -> Q (FW ks rss bs) H') : wE (Zbc [.ref n] H) Q := by
 refine Zcm rfl ?_
 show wS (Zel [some (.ref n)] H) _
 unfold Zel
 refine w_seq (w_ret (w_call (w_acons (Zf3 (w_var rfl ⟨n, _, rfl, g, _, rfl, w_acons (Zf3 (w_var rfl ⟨n, _, rfl, g, _, rfl, ?_⟩))⟩)))))
 (repeat fail "go")
 refine Zj0 c hb fun H1 x1 => ?_
 (repeat fail "go")
 exact q _ x1
theorem Zj2 (c : Cl ks rss) (hb : bs.length ≤ ks.length) (g : H[n]? = some (Zam ks rss bs)) (q : ∀ p H', H'[p]? = some (.lst ((gp ks rss bs).map .bl)) -> H.length ≤ p -> Fm [] H H' -> Q (.ref p) H') : wE (Zbs [.ref n] H) Q := by
 refine Zcm rfl ?_
 show wS (Zd1 [some (.ref n)] H) _
 unfold Zd1
 refine w_seq (w_ret (w_call (w_acons (Zf3 (w_var rfl ⟨n, _, rfl, g, _, rfl, w_acons (Zf3 (w_var rfl ⟨n, _, rfl, g, _, rfl, ?_⟩))⟩)))))
 (repeat fail "go")
 refine Zu2 c hb fun p H1 g1 l1 x1 => ?_
 (repeat fail "go")
 exact q _ _ g1 l1 x1
theorem Zgc (c : Cl ks rss) (g : H[n]? = some (Zam ks rss bs)) (q : ∀ H', Fm [] H H' -> Q (Zax (ks.drop bs.length) (Zbo bs rss)) H') : wE (Zbf [.ref n] H) Q := by
 refine Zcm rfl ?_
 show wS (Zd6 [some (.ref n)] H) _
 unfold Zd6
 refine w_seq (w_ret (w_call (w_acons (Zf3 (w_var rfl ⟨n, _, rfl, g, _, rfl, w_acons (Zf3 (w_var rfl ⟨n, _, rfl, g, _, rfl, ?_⟩))⟩)))))
 (repeat fail "go")
 refine Zrr c fun H1 x1 => ?_
 (repeat fail "go")
 exact q _ x1
noncomputable def Zlv (ks : List D) (bs : List Bool) : D := if bs.length = ks.length then .non else Zbb (kS (ks.getD bs.length .non))
theorem Zhg (c : Cl ks rss) (hb : bs.length ≤ ks.length) (g : H[n]? = some (Zam ks rss bs)) (q : Q (Zlv ks bs) H) : wE (Zba [.ref n] H) Q := by
 refine Zcm rfl ?_
 show wS (Zdw [some (.ref n)] H) _
 unfold Zdw
 refine w_seq (w_if (w_tof (w_op (w_cb (w_acons (Zf3 (w_var rfl ⟨n, _, rfl, g, _, rfl, ?_⟩)))))))
 (repeat fail "go")
 refine Zf3 (w_var rfl ⟨n, _, rfl, g, _, rfl, ?_⟩)
 (repeat fail "go")
 unfold Zlv at q
 refine ⟨fun h => ?_, fun h => ?_⟩
 ·have h' : bs.length = ks.length := by simp at h; omega
  rw [if_pos h'] at q
  (repeat fail "go")
  exact q
 ·have h' : bs.length ≠ ks.length := by simp at h; omega
  rw [if_neg h'] at q
  refine w_snil (w_kn (w_seq (w_ret (w_op (w_op (Zf3 (w_var rfl ⟨n, _, rfl, g, _, rfl, ?_⟩)))))))
  (repeat fail "go")
  refine Zf3 (w_var rfl ⟨n, _, rfl, g, _, rfl, ?_⟩)
  (repeat fail "go")
  refine w_ixT (Zaz (Zky c.hk (by omega))) ?_
  (repeat fail "go")
  exact q
theorem Ztf {t : Bool} (q : Q (.bl true) H) : wE (Zf0 [.bl t] H) Q := by
 refine Zcm rfl ?_
 show wS (Ze2 [some (.bl t)] H) _
 unfold Ze2
 cases t with
 | true => (repeat fail "go"); exact q
 | false => (repeat fail "go"); exact q
theorem Zhm {t : Bool} (c : Cl ks rss) (hb : bs.length < ks.length) (g : H[n]? = some (Zam ks rss bs)) (q : Q .non (H.set n (Zam ks rss (bs ++ [t])))) : wE (Za5 [.ref n, .bl t] H) Q := by
 have h8 := c.h8
 refine Zcm rfl ?_
 show wS (Zdz [some (.ref n), some (.bl t)] H) _
 unfold Zdz
 refine w_seq (w_if ?_)
 (repeat fail "go")
 refine Ztf ?_
 (repeat fail "go")
 refine w_if (w_tof (w_op (w_cb (w_acons (Zf3 (w_var rfl ⟨n, _, rfl, g, _, rfl, ?_⟩))))))
 (repeat fail "go")
 refine Zf3 (w_var rfl ⟨n, _, rfl, g, _, rfl, ?_⟩)
 (repeat fail "go")
 refine w_bF (by simp; omega) ?_
 refine w_snil (w_kn (w_seq (Zo2 (w_op (Zf3 (w_var rfl ⟨n, _, rfl, g, _, rfl, ?_⟩))))))
 (repeat fail "go")
 refine ⟨n, _, rfl, g, by simp, ?_⟩
 (repeat fail "go")
 exact q
theorem Zr9 (xs : List D) (x : D) : slD (.tup (xs ++ [x])) none (some (-1)) H = some (.tup xs, H) := by
 have e : Zi2 (xs ++ [x]) none (some (-1)) = xs := by
  unfold Zi2 HT.sIx
  simp
  rw [show (-1 + ((xs.length : Int) + 1)).toNat = xs.length by omega]
  simp
 simp only [slD, e]
theorem Zno {b : List Bool} {t : Bool} (q : Q (Za2 b) H) : wE (slD (Za2 (b ++ [t])) none (some (-1)) H) Q := ⟨_, _, by unfold Za2; rw [List.map_append]; exact Zr9 _ _, q⟩
theorem Zm1 {t : Bool} (g : H[n]? = some (Zam ks rss (bs ++ [t]))) (q : Q .non (H.set n (Zam ks rss bs))) : wE (Zbt [.ref n] H) Q := by
 refine Zcm rfl ?_
 show wS (Zd3 [some (.ref n)] H) _
 unfold Zd3
 refine w_seq (w_if (w_tof (w_op (w_cb (w_acons (Zf3 (w_var rfl ⟨n, _, rfl, g, _, rfl, ?_⟩)))))))
 (repeat fail "go")
 refine w_bF (by simp; omega) ?_
 refine w_snil (w_kn (w_seq (Zo2 (w_sl (Zf3 (w_var rfl ⟨n, _, rfl, g, _, rfl, ?_⟩))))))
 (repeat fail "go")
 refine Zno ?_
 (repeat fail "go")
 refine ⟨n, _, rfl, g, by simp, ?_⟩
 (repeat fail "go")
 exact q
theorem Zfn (bs : List Bool) : Fine (Za2 bs) (.tuple (bs.map .bool)) 1 := Fine.tup (Zcw bs)
theorem Zbg.ne {n m : Nat} {H : HD} {cn : Str} {fs : List (Str × D)} (f : Zbg n H) (g : H[m]? = some (.obj cn fs)) : m ≠ n := by
 rintro rfl
 obtain ⟨a, b, e⟩ := f
 rw [g] at e
 cases e
theorem Zbg.keep {n : Nat} {H H' : HD} (f : Zbg n H) (x : Fm [] H H') : Zbg n H' := by
 obtain ⟨a, b, e⟩ := f
 exact ⟨a, b, x.lst (by simp) e⟩
theorem neq {n m : Nat} (h : m ≠ n) : m ∉ [n] := by simpa using h
theorem Zqu {nf : Nat} (c : Cl ks rss) (hb : bs.length ≤ ks.length) (f : Zbg nf H) (g : H[n]? = some (Zam ks rss bs)) (q : ∀ H', Zbg nf H' -> Fm [nf] H H' -> Q (.bl true) H') : wE (Zek [.ref nf, .ref n, Zax ks rss, Za2 bs] H) Q := by
 have h8 := c.h8
 obtain ⟨xc, fc⟩ := Zg7 (rss := Zbo bs rss) (ks := ks.drop bs.length) fun d hd => c.hk d (List.mem_of_mem_drop hd)
 refine Zcm rfl ?_
 show wS (Zep [some (.ref nf), some (.ref n), some (Zax ks rss), some (Za2 bs), none, none, none, none, none] H) _
 unfold Zep
 (repeat fail "go")
 refine Zj0 c hb fun H1 x1 => ?_
 (repeat fail "go")
 refine Zu2 c hb fun pg H2 g2 l2 x2 => ?_
 (repeat fail "go")
 refine Zrr c fun H3 x3 => ?_
 have X3 : Fm [] H H3 := (x1.trans x2).trans x3
 have G3 := X3.obj (by simp) g
 have gg := x3.lst (by simp) g2
 have f3 := f.keep X3
 (repeat fail "go")
 have nm : n ≠ nf := f.ne g
 refine Zew (f3.keep (.app _)) (by omega) (by omega) fun fi H4 fi0 fi1 f4 x4 => ?_
 have gd4 := x4.lst (neq (by have := f3.lt; omega)) (last (H := H3) (o := DO.lst [Za2 bs, FW ks rss bs, .ref pg, Zax (ks.drop bs.length) (Zbo bs rss)]))
 have gg4 := x4.lst (neq (by rintro rfl; obtain ⟨a, b, e⟩ := f3; rw [gg] at e; cases hg : gp ks rss bs with | nil => rw [hg] at e; cases e | cons t r => rw [hg] at e; cases e)) (appL (u := DO.lst [Za2 bs, FW ks rss bs, .ref pg, Zax (ks.drop bs.length) (Zbo bs rss)]) gg)
 have G4 := x4.obj (neq nm) (appL (u := DO.lst [Za2 bs, FW ks rss bs, .ref pg, Zax (ks.drop bs.length) (Zbo bs rss)]) G3)
 have X4 : Fm [nf] H H4 := ((X3.sub (by simp)).trans (.app _)).trans x4
 (repeat fail "go")
 refine Zew f4 (by omega) (by omega) fun s H5 s0 s1 f5 x5 => ?_
 have npd : H3.length ≠ nf := by have := f3.lt; omega
 have npg : pg ≠ nf := by rintro rfl; obtain ⟨a, b, e⟩ := f4; rw [gg4] at e; cases hg : gp ks rss bs with | nil => rw [hg] at e; cases e | cons t r => rw [hg] at e; cases e
 have gd5 := x5.lst (neq npd) gd4
 have gg5 := x5.lst (neq npg) gg4
 have G5 := x5.obj (neq nm) G4
 have X5 : Fm [nf] H H5 := X4.trans x5
 generalize H3.length = pd at gd5 ⊢
 (repeat fail "go")
 refine ⟨_, rfl, ⟨by omega, by omega⟩, ?_⟩
 refine Zn9 (fun σ H' => Fm [] H5 H' ∧ ∃ z6 z7 z8, σ = [some (.ref nf), some (.ref n), some (Zax ks rss), some (Za2 bs), some (.ref pd), some (.int fi), z6, z7, z8]) (fun _ _ _ => Zow) _ (fun x hx σ H' ⟨y5, z6, z7, z8, e⟩ => ?_) _ _ ⟨.refl, _, _, _, rfl⟩ fun σ H' ⟨y5, z6, z7, z8, e⟩ => ?_
 ·subst e
  simp only [Zbw, List.mem_map, List.mem_range] at hx
  obtain ⟨i, hi, rfl⟩ := hx
  have gd := y5.lst (by simp) gd5
  have gg := y5.lst (by simp) gg5
  have G := y5.obj (by simp) G5
  (repeat fail "go")
  have m4 : (fi + (0 + (i : Int))) % 4 = 0 ∨ (fi + (0 + (i : Int))) % 4 = 1 ∨ (fi + (0 + (i : Int))) % 4 = 2 ∨ (fi + (0 + (i : Int))) % 4 = 3 := by omega
  rcases m4 with z | z | z | z <;> rw [z]
  ·(repeat fail "go")
   refine Zbj (w_var rfl ⟨n, _, rfl, G, rfl, w_anil ⟨rfl, Zj8 G ?_⟩⟩)
   refine w_kn (w_seq (w_if ?_))
   (repeat fail "go")
   refine w_if ?_
   (repeat fail "go")
   refine Zf1 (Zfn bs) (by omega) ?_
   (repeat fail "go")
   exact ⟨y5, _, _, _, rfl⟩
  ·(repeat fail "go")
   refine Zbj (w_var rfl ⟨n, _, rfl, G, rfl, w_anil ⟨rfl, Zim c hb G fun H6 x6 => ?_⟩⟩)
   refine w_kn (w_seq (w_if ?_))
   (repeat fail "go")
   refine w_if ?_
   (repeat fail "go")
   refine w_ixR (x6.lst (by simp) gd) (Zaz (j := 1) rfl) ?_
   refine Zf1 (Zdf _) (by omega) ?_
   (repeat fail "go")
   exact ⟨y5.trans x6, _, _, _, rfl⟩
  ·(repeat fail "go")
   refine Zbj (w_var rfl ⟨n, _, rfl, G, rfl, w_anil ⟨rfl, Zgc c G fun H6 x6 => ?_⟩⟩)
   refine w_kn (w_seq (w_if ?_))
   (repeat fail "go")
   refine Zbj (w_var rfl ⟨n, _, rfl, x6.obj (by simp) G, rfl, w_anil ⟨rfl, Zj2 c hb (x6.obj (by simp) G) fun p7 H7 g7 l7 x7 => ?_⟩⟩)
   (repeat fail "go")
   refine w_if ?_
   (repeat fail "go")
   refine w_ixR (x7.lst (by simp) (x6.lst (by simp) gd)) (Zaz (j := 2) rfl) ?_
   refine Zil g7 (x7.lst (by simp) (x6.lst (by simp) gg)) ?_
   (repeat fail "go")
   exact ⟨(y5.trans x6).trans x7, _, _, _, rfl⟩
  ·(repeat fail "go")
   refine Zbj (w_var rfl ⟨n, _, rfl, G, rfl, w_anil ⟨rfl, Zgc c G fun H6 x6 => ?_⟩⟩)
   refine w_kn (w_seq (w_if ?_))
   (repeat fail "go")
   refine w_if ?_
   (repeat fail "go")
   refine w_ixR (x6.lst (by simp) gd) (Zaz (j := 3) rfl) ?_
   refine Zf1 fc (by omega) ?_
   (repeat fail "go")
   exact ⟨y5.trans x6, _, _, _, rfl⟩
 ·subst e
  (repeat fail "go")
  exact q _ (f5.keep y5) (X5.trans (y5.sub (by simp)))
noncomputable def Zge (ks : List D) (rss : List (List Int)) (bs : List Bool) (pg : Nat) : List D := [Zax (ks.drop bs.length) (Zbo bs rss), Za2 bs, Zlv ks bs, FW ks rss bs, .ref pg]
theorem Zj7 (c : Cl ks rss) (hb : bs.length ≤ ks.length) (g : H[n]? = some (Zam ks rss bs)) (q : ∀ p pg H', H'[p]? = some (.lst (Zge ks rss bs pg)) -> H'[pg]? = some (.lst ((gp ks rss bs).map .bl)) -> H.length ≤ p -> H.length ≤ pg -> Fm [] H H' -> Q (.ref p) H') : wE (Zbr [.ref n] H) Q := by
 refine Zcm rfl ?_
 show wS (Zd5 [some (.ref n)] H) _
 unfold Zd5
 refine w_seq (w_ret (w_lst (w_acons ?_)))
 refine Zbj (w_var rfl ⟨n, _, rfl, g, rfl, w_anil ⟨rfl, Zgc c g fun H1 x1 => ?_⟩⟩)
 have G1 := x1.obj (by simp) g
 refine w_acons (Zbj (w_var rfl ⟨n, _, rfl, G1, rfl, w_anil ⟨rfl, Zj8 G1 ?_⟩⟩))
 refine w_acons (Zbj (w_var rfl ⟨n, _, rfl, G1, rfl, w_anil ⟨rfl, Zhg c hb G1 ?_⟩⟩))
 refine w_acons (Zbj (w_var rfl ⟨n, _, rfl, G1, rfl, w_anil ⟨rfl, Zim c hb G1 fun H2 x2 => ?_⟩⟩))
 have G2 := x2.obj (by simp) G1
 refine w_acons (Zbj (w_var rfl ⟨n, _, rfl, G2, rfl, w_anil ⟨rfl, Zj2 c hb G2 fun pg H3 g3 l3 x3 => ?_⟩⟩))
 (repeat fail "go")
 have ln := (x1.trans x2).len
 have ln3 := x3.len
 exact q _ pg _ last (appL g3) (by omega) (by omega) (((x1.trans x2).trans x3).trans (.app _))
noncomputable def wv (ks : List D) (rss : List (List Int)) (bs : List Bool) : Bool := W ks rss (ks.length - bs.length) bs
noncomputable def who (ks : List D) (bs : List Bool) : Bool := kS (ks.getD bs.length .non)
theorem Zst (h : bs.length < ks.length) : wv ks rss bs = if wv ks rss (bs ++ [false]) == who ks bs || wv ks rss (bs ++ [true]) == who ks bs then who ks bs else !who ks bs := by
 unfold wv
 obtain ⟨j, hj⟩ : ∃ j, ks.length - bs.length = j + 1 := ⟨ks.length - bs.length - 1, by omega⟩
 have e1 : ks.length - (bs ++ [false]).length = j := by simp; omega
 have e2 : ks.length - (bs ++ [true]).length = j := by simp; omega
 rw [hj, e1, e2, W]
 rfl
theorem Zro (h : bs.length < ks.length) {t : Bool} : t ∈ gp ks rss bs ↔ wv ks rss (bs ++ [t]) = who ks bs := by
 unfold gp
 rw [if_neg (by omega), List.mem_filter]
 constructor
 ·intro z; exact eq_of_beq z.2
 ·rintro z; exact ⟨by cases t <;> simp, by rw [beq_iff_eq]; exact z⟩
theorem Zux (h : bs.length < ks.length) (e : wv ks rss bs = who ks bs) : gp ks rss bs ≠ [] := by
 intro z
 have n1 : ¬ wv ks rss (bs ++ [false]) = who ks bs := fun y => by have := (Zro h).mpr y; rw [z] at this; cases this
 have n2 : ¬ wv ks rss (bs ++ [true]) = who ks bs := fun y => by have := (Zro h).mpr y; rw [z] at this; cases this
 rw [Zst h, if_neg (by simp [n1, n2])] at e
 revert e
 generalize who ks bs = w
 cases w <;> simp
theorem Zs4 (h : bs.length < ks.length) (e : wv ks rss bs ≠ who ks bs) (t : Bool) : wv ks rss (bs ++ [t]) = wv ks rss bs := by
 have s := Zst (rss := rss) h
 by_cases y : wv ks rss (bs ++ [false]) == who ks bs || wv ks rss (bs ++ [true]) == who ks bs
 ·rw [if_pos y] at s; exact absurd s e
 ·rw [if_neg y] at s
  simp only [Bool.or_eq_true, beq_iff_eq, not_or] at y
  rw [s]
  cases t with
  | false => cases a : wv ks rss (bs ++ [false]) <;> cases b : who ks bs <;> simp_all
  | true => cases a : wv ks rss (bs ++ [true]) <;> cases b : who ks bs <;> simp_all
theorem Zwo : FW ks rss bs = Zbb (wv ks rss bs) := rfl
theorem Zjr (h : bs.length < ks.length) : Zlv ks bs = Zbb (who ks bs) := by unfold Zlv; rw [if_neg (by omega)]; rfl
theorem Zm6 (h : bs.length = ks.length) : Zlv ks bs = .non := by unfold Zlv; rw [if_pos h]
theorem Zvg {nf pg : Nat} {gs : List Bool} (f : Zbg nf H) (g : H[pg]? = some (.lst (gs.map .bl))) (h : gs ≠ []) (hl : gs.length ≤ 1000) (hne : pg ≠ nf) (q : ∀ t ∈ gs, ∀ H', Zbg nf H' -> Fm [nf] H H' -> Q (.bl t) H') : wE (Zau [.ref nf, .ref pg] H) Q := by
 have pos : 0 < gs.length := List.length_pos_iff.mpr h
 refine Zcm rfl ?_
 show wS (Zdc [some (.ref nf), some (.ref pg)] H) _
 unfold Zdc
 (repeat fail "go")
 rw [List.length_map]
 refine Zew f (by omega) (by omega) fun r H1 r0 r1 f1 x1 => ?_
 have lt : r.toNat < gs.length := by omega
 refine w_ixR (x1.lst (neq hne) g) (Zes r0 (d := .bl gs[r.toNat]) (by rw [List.getElem?_map, List.getElem?_eq_getElem lt]; rfl)) ?_
 (repeat fail "go")
 exact q _ (List.getElem_mem lt) _ f1 x1
theorem Zoz {n : Nat} : ∀ {ds es : List D} {xs ys : List PyData}, Zho H n ds = some xs -> Zho H n es = some ys -> Zho H n (ds ++ es) = some (xs ++ ys)
 | [], es, xs, ys, h1, h2 => by rw [Zho] at h1; cases h1; exact h2
 | d :: ds, es, xs, ys, h1, h2 => by
  rw [Zho] at h1
  obtain ⟨x, e1, h1⟩ := Zo h1
  obtain ⟨r, e2, h1⟩ := Zm h1
  subst h1
  rw [List.cons_append, Zho, e1, Zoz e2 h2]
  rfl
theorem Zql : ∀ (xs ys : List PyData), PyData.canLayAll0 xs = true -> PyData.canLayAll0 ys = true -> PyData.canLayAll0 (xs ++ ys) = true
 | [], ys, _, h => h
 | x :: xs, ys, h1, h2 => by
  simp only [List.cons_append, PyData.canLayAll0, Bool.and_eq_true] at h1 ⊢
  exact ⟨h1.1, Zql xs ys h1.2 h2⟩
theorem Zqk : ∀ (xs ys : List PyData) (h : Nat), PyData.depthAll xs ≤ h -> PyData.depthAll ys ≤ h -> PyData.depthAll (xs ++ ys) ≤ h
 | [], ys, h, _, h2 => h2
 | x :: xs, ys, h, h1, h2 => by
  simp only [List.cons_append, PyData.depthAll] at h1 ⊢
  have := Nat.max_le.mp h1
  exact Nat.max_le.mpr ⟨this.1, Zqk xs ys h this.2 h2⟩
theorem Zsc {p a : Nat} {ds : List D} {xs : List PyData} {gs : List Bool} (f : Fines ds xs 5) (g : H[p]? = some (.lst (ds ++ [.ref a]))) (ga : H[a]? = some (.lst (gs.map .bl))) : DL.dat (.ref p) H = some (.list (xs ++ [.list (gs.map .bool)])) := by
 have fb := Zcw gs
 unfold DL.dat
 rw [toP]
 simp only [g]
 have e : Zho H 29 [D.ref a] = some [.list (gs.map .bool)] := by
  rw [Zho, toP]
  simp only [ga]
  rw [fb.to, Zho]
  rfl
 rw [Zoz (f.to H 29) e]
 have l1 : PyData.canLayAll0 [PyData.list (gs.map .bool)] = true := by
  have := fb.lay
  simp only [PyData.canLayAll0, PyData.canLay0, this, Bool.and_true]
 have l2 : (PyData.list (xs ++ [.list (gs.map .bool)])).canLay0 = true := Zql _ _ f.lay l1
 have d1 : PyData.depthAll [PyData.list (gs.map .bool)] ≤ 5 := by
  have := fb.dep
  simp only [PyData.depthAll, PyData.depth]
  omega
 have d2 : (PyData.list (xs ++ [.list (gs.map .bool)])).depth ≤ 30 := by
  have := Zqk _ _ 5 f.dep d1
  simp only [PyData.depth]
  omega
 simp [okP, l2, d2]
theorem Zsn {p p' a a' : Nat} {ds : List D} {xs : List PyData} {gs : List Bool} (f : Fines ds xs 5) (g : H[p]? = some (.lst (ds ++ [.ref a]))) (g' : H[p']? = some (.lst (ds ++ [.ref a']))) (ga : H[a]? = some (.lst (gs.map .bl))) (ga' : H[a']? = some (.lst (gs.map .bl))) (q : Q (.bl false) H) : wE (neD (.ref p) (.ref p') H) Q := by
 have e1 := Zsc f g ga
 have e2 := Zsc f g' ga'
 exact ⟨_, _, Zm3 e1 e2, by rw [Zf2 _ (Zfk e1).2.1]; exact q⟩
theorem Zn6 (c : Cl ks rss) : ∃ x, Fine (Zlv ks bs) x 0 := by
 unfold Zlv
 split
 ·exact ⟨_, Fine.non⟩
 ·exact ⟨_, Zdf _⟩
theorem Zq4 (c : Cl ks rss) : ∃ xs, Fines [Zax (ks.drop bs.length) (Zbo bs rss), Za2 bs, Zlv ks bs, FW ks rss bs] xs 5 := by
 obtain ⟨xc, fc⟩ := Zg7 (rss := Zbo bs rss) (ks := ks.drop bs.length) fun d hd => c.hk d (List.mem_of_mem_drop hd)
 obtain ⟨xt, ft⟩ := Zn6 (bs := bs) c
 exact ⟨_, .cons (fc.le (by omega)) (.cons ((Zfn bs).le (by omega)) (.cons (ft.le (by omega)) (.cons ((Zdf _).le (by omega)) .nil)))⟩
variable {H : HD} {Q : D -> HD -> Prop} {ks : List D} {rss : List (List Int)} {fs ss : List Bool} {n : Nat}
theorem Zoh (hf : fs.length ≤ ks.length) : Zlv (ks.drop fs.length) ss = Zlv ks (fs ++ ss) := by
 unfold Zlv
 have e : (ks.drop fs.length).getD ss.length .non = ks.getD (fs ++ ss).length .non := by
  simp [List.getD]
 rw [e]
 by_cases h : ss.length = (ks.drop fs.length).length
 ·rw [if_pos h, if_pos (by simp at h ⊢; omega)]
 ·rw [if_neg h, if_neg (by simp at h ⊢; omega)]
theorem Zsu (c : Cl ks rss) : Zax ((ks.drop fs.length).drop ss.length) (Zbo ss (Zbo fs rss)) = Zax (ks.drop (fs ++ ss).length) (Zbo (fs ++ ss) rss) := by
 rw [Zol rss fun ls hls => c.pos hls, List.drop_drop, List.length_append]
theorem Zrv {p : Nat} {xs : List D} {k : Nat} (g : H[p]? = some (.lst xs)) (q : Q (.ref H.length) (H ++ [.lst (xs.drop k)])) : wE (slD (.ref p) (some (k : Int)) none H) Q :=
 ⟨_, _, by rw [← Zu6]; simp only [slD, g], q⟩
theorem Zvb {nf : Nat} (c : Cl ks rss) (f : Zbg nf H) (q : ∀ H', Zbg nf H' -> Fm [nf] H H' -> Q (.bl true) H') : wE (Zcg [.ref nf, Zax ks rss] H) Q := by
 have h8 := c.h8
 have fl := f.lt
 refine Zcm rfl ?_
 show wS (Zcd [some (.ref nf), some (Zax ks rss), none, none, none, none] H) _
 unfold Zcd
 (repeat fail "go")
 refine Zew f (by omega) (by omega) fun k H1 k0 k1 f1 x1 => ?_
 (repeat fail "go")
 refine ⟨_, rfl, ⟨by omega, by omega⟩, ?_⟩
 refine Zzk f1 fun fs H2 lf f2 x2 => ?_
 have lfk : fs.length ≤ ks.length := by omega
 refine w_sz (by simp; omega) ?_
 (repeat fail "go")
 refine Zyj ?_
 generalize hH3 : H2 ++ [DO.lst (fs.map .bl)] = H3
 have X3 : Fm [nf] H H3 := by rw [← hH3]; exact (x1.trans x2).trans (.app _)
 have f3 : Zbg nf H3 := by rw [← hH3]; exact f2.keep (.app _)
 clear hH3 x1 x2 f1 f2
 have l3 := f3.lt
 (repeat fail "go")
 refine ⟨rfl, Zid last ⟨rfl, ?_⟩⟩
 have e0 : (H3 ++ [DO.obj "Match" []]).set H3.length (Zam ks rss []) = H3 ++ [Zam ks rss []] := by simp
 rw [e0]
 have g4 : (H3 ++ [Zam ks rss []])[H3.length]? = some (Zam ks rss []) := last
 have f4 : Zbg nf (H3 ++ [Zam ks rss []]) := f3.keep (.app _)
 have X4 : Fm [nf] H (H3 ++ [Zam ks rss []]) := X3.trans (.app _)
 have hn : H.length ≤ H3.length := X3.len
 generalize H3 ++ [Zam ks rss []] = H4 at g4 f4 X4 ⊢
 generalize H3.length = nm at g4 hn l3 ⊢
 have nfm : nm ≠ nf := by omega
 refine w_kn (w_seq (Zmd (fun σ H' => H'[nm]? = some (Zam ks rss fs) ∧ Fm [nm] H4 H' ∧ ∃ z4, σ = [some (.ref nf), some (Zax ks rss), some (Za2 fs), some (.ref nm), z4, none]) ?_ ?_))
 ·refine w_for ?_
  (repeat fail "go")
  refine Zjk (fun d t σ H' => ∃ ds ts : List Bool, d = ds.map .bl ∧ t = ts.map .bl ∧ ds ++ ts = fs ∧ H'[nm]? = some (Zam ks rss ds) ∧ Fm [nm] H4 H' ∧ ∃ z4, σ = [some (.ref nf), some (Zax ks rss), some (Za2 fs), some (.ref nm), z4, none]) (fun _ _ _ _ _ => Zow) (fun d x t σ H' ⟨ds, ts, e1, e2, e3, j1, j2, z4, e4⟩ => ?_) (fun d σ H' ⟨ds, ts, e1, e2, e3, j1, j2, z4, e4⟩ => ?_) (fs.map .bl) [] _ _ ⟨[], fs, rfl, rfl, rfl, g4, .refl, _, rfl⟩
  ·cases ts with
   | nil => cases e2
   | cons b ts =>
    obtain ⟨rfl, rfl⟩ := List.cons.inj e2
    subst e4
    have lt : ds.length < ks.length := by rw [← e3] at lfk; simp at lfk; omega
    (repeat fail "go")
    refine Zbj (w_var rfl ⟨nm, _, rfl, j1, rfl, ?_⟩)
    (repeat fail "go")
    refine ⟨rfl, Zhm c lt j1 ?_⟩
    (repeat fail "go")
    have ln : nm < H'.length := (List.getElem?_eq_some_iff.mp j1).1
    exact ⟨ds ++ [b], ts, by rw [e1]; simp, rfl, by rw [← e3]; simp, List.getElem?_set_self ln, j2.trans (.set (by simp)), _, rfl⟩
  ·cases ts with
   | nil => subst e4; rw [List.append_nil] at e3; subst e3; exact ⟨rfl, j1, j2, _, rfl⟩
   | cons _ _ => cases e2
 rintro σ H5 ⟨g5, x5, z4, rfl⟩
 have f5 : Zbg nf H5 := by obtain ⟨a, b, e⟩ := f4; exact ⟨a, b, x5.lst (neq (Ne.symm nfm)) e⟩
 have X5 : Fm [nf] H H5 := X4.new x5 fun m hm _ => by simp at hm; omega
 have cL : Cl (ks.drop fs.length) (Zbo fs rss) := c.left fs lfk
 refine w_seq (w_set (Zyj ?_))
 (repeat fail "go")
 refine Zrr c fun H6 x6 => ?_
 (repeat fail "go")
 refine ⟨rfl, Zid last ⟨rfl, ?_⟩⟩
 have e0 : (H6 ++ [DO.obj "Match" []]).set H6.length (Zam (ks.drop fs.length) (Zbo fs rss) []) = H6 ++ [Zam (ks.drop fs.length) (Zbo fs rss) []] := by simp
 rw [e0]
 have g7 : (H6 ++ [Zam (ks.drop fs.length) (Zbo fs rss) []])[H6.length]? = some (Zam (ks.drop fs.length) (Zbo fs rss) []) := last
 have gm7 : (H6 ++ [Zam (ks.drop fs.length) (Zbo fs rss) []])[nm]? = some (Zam ks rss (fs ++ [])) := by rw [List.append_nil]; exact appL (x6.obj (by simp) g5)
 have f7 : Zbg nf (H6 ++ [Zam (ks.drop fs.length) (Zbo fs rss) []]) := (f5.keep x6).keep (.app _)
 have X7 : Fm [nf] H (H6 ++ [Zam (ks.drop fs.length) (Zbo fs rss) []]) := (X5.trans (x6.sub (by simp))).trans (.app _)
 have nr1 : nm < H6.length := by have := x6.len; have := (List.getElem?_eq_some_iff.mp g5).1; omega
 have nr2 : H.length ≤ H6.length := by omega
 generalize H6 ++ [Zam (ks.drop fs.length) (Zbo fs rss) []] = H7 at g7 gm7 f7 X7 ⊢
 generalize H6.length = nr at g7 nr1 nr2 ⊢
 refine w_kn (w_seq (Zmd (fun σ H' => ∃ ss z4, H'[nm]? = some (Zam ks rss (fs ++ ss)) ∧ H'[nr]? = some (Zam (ks.drop fs.length) (Zbo fs rss) ss) ∧ (fs ++ ss).length = ks.length ∧ Zbg nf H' ∧ Fm [nf] H H' ∧ σ = [some (.ref nf), some (Zax ks rss), some (Za2 fs), some (.ref nm), z4, some (.ref nr)]) ?_ ?_))
 ·refine Zj6 (fun m σ H' => ∃ ss z4, (fs ++ ss).length + m = ks.length ∧ H'[nm]? = some (Zam ks rss (fs ++ ss)) ∧ H'[nr]? = some (Zam (ks.drop fs.length) (Zbo fs rss) ss) ∧ Zbg nf H' ∧ Fm [nf] H H' ∧ σ = [some (.ref nf), some (Zax ks rss), some (Za2 fs), some (.ref nm), z4, some (.ref nr)]) (fun m σ H' ⟨ss, z4, hm, j1, j2, j3, j4, e⟩ => ?_) 20 (ks.length - fs.length) _ _ (by omega) ⟨[], _, by simp; omega, gm7, g7, f7, X7, rfl⟩
  subst e
  refine w_tof (w_op (Zbj (w_var rfl ⟨nm, _, rfl, j1, rfl, w_anil ⟨rfl, Zhg c (by omega) j1 ?_⟩⟩)))
  cases m with
  | zero =>
   rw [Zm6 (by omega)]
   (repeat fail "go")
   exact ⟨rfl, ss, _, j1, j2, by omega, j3, j4, rfl⟩
  | succ m =>
   have lt : (fs ++ ss).length < ks.length := by omega
   have ltr : ss.length < (ks.drop fs.length).length := by simp at lt ⊢; omega
   have pos : ∀ ls ∈ rss, ∀ l ∈ ls, 0 < Zbn l := fun ls hls => c.pos hls
   rw [Zjr lt]
   refine w_c ?_
   refine w_isnN (b := false) (by cases who ks (fs ++ ss) <;> rfl) ?_
   refine w_bl (w_bt ⟨m, rfl, ?_⟩)
   refine w_seq (w_if (w_or (w_tof (w_op (w_sl ?_)))))
   (repeat fail "go")
   refine Zj7 c (by omega) j1 fun p pg H9 g9 gg9 lp lpg x9 => ?_
   (repeat fail "go")
   refine Zrv (k := 2) g9 ?_
   have k2 := x9.obj (by simp) j2
   refine w_sl ?_
   (repeat fail "go")
   refine Zj7 cL (by omega) (appL k2) fun p' pg' Ha ga gga lp' lpg' xa => ?_
   (repeat fail "go")
   refine Zrv (k := 2) ga ?_
   obtain ⟨xt, ft⟩ := Zn6 (bs := fs ++ ss) c
   have e1 : (Zge ks rss (fs ++ ss) pg).drop 2 = [Zlv ks (fs ++ ss), FW ks rss (fs ++ ss)] ++ [.ref pg] := rfl
   have e2 : (Zge (ks.drop fs.length) (Zbo fs rss) ss pg').drop 2 = [Zlv ks (fs ++ ss), FW ks rss (fs ++ ss)] ++ [.ref pg'] := by
    rw [← Zoh lfk, ← Zsa pos]; rfl
   rw [Zvv pos lfk] at gga
   have a1 := xa.lst (by simp) (last (H := H9) (o := DO.lst ((Zge ks rss (fs ++ ss) pg).drop 2)))
   have a2 := xa.lst (by simp) (appL (u := DO.lst ((Zge ks rss (fs ++ ss) pg).drop 2)) gg9)
   have j1a := xa.obj (by simp) (appL (u := DO.lst ((Zge ks rss (fs ++ ss) pg).drop 2)) (x9.obj (by simp) j1))
   have j2a := xa.obj (by simp) (appL (u := DO.lst ((Zge ks rss (fs ++ ss) pg).drop 2)) k2)
   have fa := (((j3.keep x9).keep (Fm.app [DO.lst ((Zge ks rss (fs ++ ss) pg).drop 2)])).keep xa).keep (Fm.app [DO.lst ((Zge (ks.drop fs.length) (Zbo fs rss) ss pg').drop 2)])
   have Xa : Fm [] H' (Ha ++ [DO.lst ((Zge (ks.drop fs.length) (Zbo fs rss) ss pg').drop 2)]) := ((x9.trans (.app _)).trans xa).trans (.app _)
   refine Zsn (ds := [Zlv ks (fs ++ ss), FW ks rss (fs ++ ss)]) (xs := [xt, .str (Zyf _)]) (.cons (ft.le (by omega)) (.cons ((Zdf _).le (by omega)) .nil)) (by rw [← e1]; exact appL a1) (by rw [← e2]; exact last) (appL a2) (appL gga) ?_
   have b1 := appL (u := DO.lst ((Zge (ks.drop fs.length) (Zbo fs rss) ss pg').drop 2)) j1a
   have b2 := appL (u := DO.lst ((Zge (ks.drop fs.length) (Zbo fs rss) ss pg').drop 2)) j2a
   generalize Ha ++ [DO.lst ((Zge (ks.drop fs.length) (Zbo fs rss) ss pg').drop 2)] = Hb at b1 b2 fa Xa ⊢
   refine w_bl (w_bf (w_tof (w_op ?_)))
   refine Zbj (w_var rfl ⟨nm, _, rfl, b1, rfl, w_anil ⟨rfl, Zgc c b1 fun Hc xc => ?_⟩⟩)
   have c2 := xc.obj (by simp) b2
   refine Zbj (w_var rfl ⟨nr, _, rfl, c2, rfl, w_anil ⟨rfl, Zgc cL c2 fun Hd xd => ?_⟩⟩)
   obtain ⟨xl, fl'⟩ := Zg7 (rss := Zbo (fs ++ ss) rss) (ks := ks.drop (fs ++ ss).length) fun d hd => c.hk d (List.mem_of_mem_drop hd)
   rw [Zsu c]
   refine Zf1 fl' (by omega) ?_
   (repeat fail "go")
   have fd := (fa.keep xc).keep xd
   have d1 := xd.obj (by simp) (xc.obj (by simp) b1)
   have d2 := xd.obj (by simp) c2
   have Xd : Fm [] H' Hd := (Xa.trans xc).trans xd
   refine Zew fd (by omega) (by omega) fun r He r0 r1 fe xe => ?_
   have e1' := xe.obj (neq nfm) d1
   have e2' := xe.obj (neq (by omega)) d2
   refine w_c (w_eqI ?_)
   refine w_kn (w_seq (w_expr (Zbj (w_var rfl ⟨nm, _, rfl, e1', rfl, ?_⟩))))
   (repeat fail "go")
   refine ⟨rfl, Zhm c lt e1' ?_⟩
   have lnm : nm < He.length := (List.getElem?_eq_some_iff.mp e1').1
   have e2'' : (He.set nm (Zam ks rss ((fs ++ ss) ++ [r == 1])))[nr]? = some (Zam (ks.drop fs.length) (Zbo fs rss) ss) := by rw [List.getElem?_set_ne (by omega)]; exact e2'
   refine w_kn (w_seq (w_expr (Zbj (w_var rfl ⟨nr, _, rfl, e2'', rfl, ?_⟩))))
   (repeat fail "go")
   refine ⟨rfl, Zhm cL ltr e2'' ?_⟩
   (repeat fail "go")
   have lnr : nr < (He.set nm (Zam ks rss ((fs ++ ss) ++ [r == 1]))).length := (List.getElem?_eq_some_iff.mp e2'').1
   refine ⟨ss ++ [r == 1], _, by simp at hm ⊢; omega, ?_, List.getElem?_set_self lnr, ?_, ?_, rfl⟩
   ·rw [List.getElem?_set_ne (by omega), List.getElem?_set_self lnm, List.append_assoc]
   ·obtain ⟨x0, y0, z0⟩ := fe
    exact ⟨x0, y0, by rw [List.getElem?_set_ne (by omega), List.getElem?_set_ne (by omega)]; exact z0⟩
   ·exact ((j4.trans (Xd.sub (by simp))).trans xe).new (T := [nm, nr]) ((Fm.set (by simp)).trans (.set (by simp))) fun m hm _ => by simp at hm; omega
 ·rintro σ H8 ⟨ss, z4, j1, j2, hl, j3, j4, rfl⟩
  have pos : ∀ ls ∈ rss, ∀ l ∈ ls, 0 < Zbn l := fun ls hls => c.pos hls
  refine w_seq (w_ret (w_ean (w_op (Zbj (w_var rfl ⟨nr, _, rfl, j2, rfl, w_anil ⟨rfl, Zhg cL (by simp at hl ⊢; omega) j2 ?_⟩⟩)))))
  rw [Zoh lfk, Zm6 hl]
  (repeat fail "go")
  refine Zbj (w_var rfl ⟨nm, _, rfl, j1, rfl, w_anil ⟨rfl, Zim c (by omega) j1 fun H9 x9 => ?_⟩⟩)
  have k2 := x9.obj (by simp) j2
  refine Zbj (w_var rfl ⟨nr, _, rfl, k2, rfl, w_anil ⟨rfl, Zim cL (by simp at hl ⊢; omega) k2 fun Ha xa => ?_⟩⟩)
  rw [Zsa pos]
  refine Zfw ?_
  rw [show (W ks rss (ks.length - (fs ++ ss).length) (fs ++ ss) == W ks rss (ks.length - (fs ++ ss).length) (fs ++ ss)) = true from beq_self_eq_true _]
  (repeat fail "go")
  have m1 := xa.obj (by simp) (x9.obj (by simp) j1)
  have m2 := xa.obj (by simp) k2
  refine Zbj (w_var rfl ⟨nm, _, rfl, m1, rfl, w_anil ⟨rfl, Zj8 m1 ?_⟩⟩)
  (repeat fail "go")
  refine Zbj (w_var rfl ⟨nr, _, rfl, m2, rfl, w_anil ⟨rfl, Zj8 m2 ?_⟩⟩)
  refine Zvt (by omega) (by simp at hl; omega) ?_
  refine Zs2 (Zfn _) (Zfn _) (by omega) (by omega) ?_
  rw [Zf2 _ (Zfn _).lay]
  (repeat fail "go")
  exact q _ ((j3.keep x9).keep xa) (j4.trans ((x9.trans xa).sub (by simp)))
theorem Ztq {p : Nat} {xs : List D} (g : H[p]? = some (.lst xs)) (q : Q (.ref H.length) (H ++ [.lst xs])) : wE (Zpo [.ref p] H) Q := ⟨_, _, by simp [Zpo, Zf7, g], q⟩
noncomputable def TOk (B : Nat) (ks : List D) (rss : List (List Int)) (bs : List Bool) (ps : List (Nat × Nat)) (H : HD) : Prop :=
 ∀ (j : Nat) (p : Nat × Nat), ps[j]? = some p -> B ≤ p.1 ∧ B ≤ p.2 ∧ H[p.1]? = some (.lst (Zge ks rss (bs.take j) p.2)) ∧ H[p.2]? = some (.lst ((gp ks rss (bs.take j)).map .bl))
noncomputable def COk (B : Nat) (hs : List (Nat × Nat)) (H : HD) : Prop := ∀ h ∈ hs, B ≤ h.1 ∧ B ≤ h.2 ∧ ∃ gs : List Bool, H[h.1]? = some (.lst (gs.map .bl)) ∧ H[h.2]? = some (.lst (gs.map .bl))
theorem TOk.keep {B : Nat} {ps : List (Nat × Nat)} {H H' : HD} {S : List Nat} (t : TOk B ks rss bs ps H) (x : Fm S H H') (hS : ∀ m ∈ S, m < B) : TOk B ks rss bs ps H' := fun j p hp => by
 obtain ⟨h1, h2, h3, h4⟩ := t j p hp
 exact ⟨h1, h2, x.lst (fun z => by have := hS _ z; omega) h3, x.lst (fun z => by have := hS _ z; omega) h4⟩
theorem COk.keep {B : Nat} {hs : List (Nat × Nat)} {H H' : HD} {S : List Nat} (t : COk B hs H) (x : Fm S H H') (hS : ∀ m ∈ S, m < B) : COk B hs H' := fun h hh => by
 obtain ⟨h1, h2, gs, h3, h4⟩ := t h hh
 exact ⟨h1, h2, gs, x.lst (fun z => by have := hS _ z; omega) h3, x.lst (fun z => by have := hS _ z; omega) h4⟩
theorem TOk.more {B : Nat} {ps : List (Nat × Nat)} {t : Bool} (h : TOk B ks rss bs ps H) (hl : ps.length = bs.length) {p pg : Nat} (h1 : B ≤ p) (h2 : B ≤ pg) (h3 : H[p]? = some (.lst (Zge ks rss bs pg))) (h4 : H[pg]? = some (.lst ((gp ks rss bs).map .bl))) : TOk B ks rss (bs ++ [t]) (ps ++ [(p, pg)]) H := fun j q hq => by
 by_cases hj : j < ps.length
 ·rw [List.getElem?_append_left hj] at hq
  have := h j q hq
  rwa [List.take_append_of_le_length (by omega)]
 ·have hj2 : j = ps.length := by
   have := (List.getElem?_eq_some_iff.mp hq).1
   simp at this
   omega
  subst hj2
  rw [List.getElem?_append_right (by omega)] at hq
  simp at hq
  subst hq
  rw [hl, List.take_left]
  exact ⟨h1, h2, h3, h4⟩
structure PO (nf nm pt ph B : Nat) (ks : List D) (rss : List (List Int)) (w0 : Bool) (H0 : HD) (bs : List Bool) (ps hs : List (Nat × Nat)) (H : HD) : Prop where
 ob : H[nm]? = some (Zam ks rss bs)
 win : wv ks rss bs = w0
 lt : H[pt]? = some (.lst (ps.map fun p => .ref p.1))
 ll : ps.length = bs.length
 tk : TOk B ks rss bs ps H
 lh : H[ph]? = some (.lst (hs.map fun h => .tup [.ref h.1, .ref h.2]))
 ck : COk B hs H
 hl : hs.length = bs.length
 fd : Zbg nf H
 fm : Fm [nf, nm, pt, ph] H0 H
 gB : B ≤ H.length
structure Pl (nf nm pt ph B : Nat) : Prop where
 a : nf < nm
 b : nm < pt
 c : pt < ph
 d : ph < B
theorem PO.keep {nf nm pt ph B : Nat} {w0 : Bool} {H0 H H' : HD} {ps hs : List (Nat × Nat)} (l : Pl nf nm pt ph B) (o : PO nf nm pt ph B ks rss w0 H0 bs ps hs H) (x : Fm [] H H') : PO nf nm pt ph B ks rss w0 H0 bs ps hs H' where
 ob := x.obj (by simp) o.ob
 win := o.win
 lt := x.lst (by simp) o.lt
 ll := o.ll
 tk := o.tk.keep x (by simp)
 lh := x.lst (by simp) o.lh
 ck := o.ck.keep x (by simp)
 hl := o.hl
 fd := o.fd.keep x
 fm := o.fm.trans (x.sub (by simp))
 gB := Nat.le_trans o.gB x.len
theorem Zyh {gs : List Bool} (h : gs ≠ []) : PyData.eqv (.list (gs.map .bool)) (.list []) = false := by
 cases gs with
 | nil => exact absurd rfl h
 | cons b r => simp [PyData.eqv, PyData.eqvAll]
noncomputable def poB : SF := Zan (Zch (eLM Zcz (Zae 4) (Zab (Zal 1 Zbr (Zab (Zae 2) Zaj)) Zaj)))
 (Zan (Zbd 7 (Zbl "Match" "good" 1 Zbs (Zae 2) Zaj))
 (Zan (Zch (eLM Zcz (Zae 5) (Zab (Zgp (Zab (Zae 7) (Zab (eCB Zpo (Zab (Zae 7) Zaj)) Zaj))) Zaj)))
 (Zan (sIf (Zmu (tOf (eOp neD (Zbl "Match" "who" 1 Zbc (Zae 2) Zaj) (Zae 3))) (tAn (tOf (eOp eqD (Zbl "Match" "turn" 1 Zba (Zae 2) Zaj) (Zae 3))) (tOf (eOp eqD (Zae 7) (Zdn Zaj))))) (Zan (Zb5 (eC (.bl false))) Zas) Zas)
 (Zan (Zbd 8 (eOp eqD (Zal 2 Zai (Zab (Zae 0) (Zab (eC (.int 2)) Zaj))) (eC (.int 1))))
 (Zan (sIf (tOf (eOp eqD (Zbl "Match" "turn" 1 Zba (Zae 2) Zaj) (Zae 3))) (Zan (Zbd 8 (Zal 2 Zau (Zab (Zae 0) (Zab (Zae 7) Zaj)))) Zas) Zas)
 (Zan (Zch (Zbl "Match" "pick" 2 Za5 (Zae 2) (Zab (Zae 8) Zaj))) Zas))))))
theorem Zvf {nf nm pt ph B : Nat} {w0 : Bool} {H0 : HD} {ps hs : List (Nat × Nat)} {z7 z8 : Option D} {k : SD -> HD -> Prop} {R : FD -> SD -> HD -> Prop} (c : Cl ks rss) (l : Pl nf nm pt ph B) (lb : bs.length < ks.length) (o : PO nf nm pt ph B ks rss w0 H0 bs ps hs H)
  (q : ∀ t ps' hs' y7 y8 H', PO nf nm pt ph B ks rss w0 H0 (bs ++ [t]) ps' hs' H' -> k [some (.ref nf), some (Zax ks rss), some (.ref nm), some (Zbb w0), some (.ref pt), some (.ref ph), none, y7, y8] H') :
  wS (poB [some (.ref nf), some (Zax ks rss), some (.ref nm), some (Zbb w0), some (.ref pt), some (.ref ph), none, z7, z8] H) (again k R) := by
 have h8 := c.h8
 obtain ⟨l1, l2, l3, l4⟩ := l
 have l : Pl nf nm pt ph B := ⟨l1, l2, l3, l4⟩
 unfold poB
 refine w_seq (w_expr (w_lm (w_var rfl ⟨by simp [Zkq, o.lt], ?_⟩)))
 (repeat fail "go")
 refine Zj7 c (by omega) o.ob fun p pg H1 g1 gg1 lp lpg x1 => ?_
 have o1 := o.keep l x1
 (repeat fail "go")
 refine Zx6 o1.lt (by simp; have := o1.ll; omega) ?_
 have ob := o.gB
 -- the told list is longer
 have p1 : pt < H1.length := by have := o1.gB; omega
 have sS : Fm [pt] H1 (H1.set pt (.lst (ps.map (fun p => .ref p.1) ++ [.ref p]))) := .set (by simp)
 generalize hH2 : H1.set pt (.lst (ps.map (fun p => .ref p.1) ++ [.ref p])) = H2 at sS ⊢
 have t2 : H2[pt]? = some (.lst ((ps ++ [(p, pg)]).map fun p => .ref p.1)) := by rw [← hH2, List.getElem?_set_self p1, List.map_append]; rfl
 have ob2 : H2[nm]? = some (Zam ks rss bs) := sS.obj (neq (by omega)) o1.ob
 have tk2 : TOk B ks rss bs ps H2 := o1.tk.keep sS (by simp; omega)
 have g2 := sS.lst (neq (show p ≠ pt by omega)) g1
 have gg2 := sS.lst (neq (show pg ≠ pt by omega)) gg1
 have lh2 := sS.lst (neq (show ph ≠ pt by omega)) o1.lh
 have ck2 := o1.ck.keep sS (by simp; omega)
 have f2 : Zbg nf H2 := by obtain ⟨a, b, e⟩ := o1.fd; exact ⟨a, b, sS.lst (neq (by omega)) e⟩
 have F2 : Fm [nf, nm, pt, ph] H0 H2 := o1.fm.trans (sS.sub (by simp))
 have B2 : B ≤ H2.length := by have := sS.len; have := o1.gB; omega
 refine w_kn (w_seq (w_set (Zbj (w_var rfl ⟨nm, _, rfl, ob2, rfl, w_anil ⟨rfl, Zj2 c (by omega) ob2 fun p3 H3 g3 l3' x3 => ?_⟩⟩))))
 refine w_kn (w_seq (w_expr (w_lm (w_var rfl ⟨by simp [Zkq, x3.lst (by simp) lh2], ?_⟩))))
 (repeat fail "go")
 refine Ztq g3 ?_
 (repeat fail "go")
 have x3' : Fm [] H2 (H3 ++ [DO.lst ((gp ks rss bs).map .bl)]) := x3.trans (.app _)
 refine Zx6 (x3'.lst (by simp) lh2) (by simp; have := o.hl; omega) ?_
 have c3 : H2.length ≤ H3.length := x3.len
 have p5 : ph < (H3 ++ [DO.lst ((gp ks rss bs).map .bl)]).length := by simp; omega
 have s5 : Fm [ph] (H3 ++ [DO.lst ((gp ks rss bs).map .bl)]) ((H3 ++ [DO.lst ((gp ks rss bs).map .bl)]).set ph (.lst (hs.map (fun h => .tup [.ref h.1, .ref h.2]) ++ [.tup [.ref p3, .ref H3.length]]))) := .set (by simp)
 have gg4 := appL (u := DO.lst ((gp ks rss bs).map .bl)) g3
 have gc4 : (H3 ++ [DO.lst ((gp ks rss bs).map .bl)])[H3.length]? = some (.lst ((gp ks rss bs).map .bl)) := last
 have o4 : ∀ (m : Nat) (xs : List D), H2[m]? = some (DO.lst xs) -> (H3 ++ [DO.lst ((gp ks rss bs).map .bl)])[m]? = some (.lst xs) := fun m xs h => x3'.lst (by simp) h
 have ob4 := x3'.obj (by simp) ob2
 have tk4 := tk2.keep x3' (by simp)
 have ck4 := ck2.keep x3' (by simp)
 have f4 := f2.keep x3'
 have F4 := F2.trans (x3'.sub (by simp))
 have t4 := o4 _ _ t2
 have gp4 := o4 _ _ g2
 have gpg4 := o4 _ _ gg2
 generalize hc5 : H3.length = cp at s5 gc4 c3 ⊢
 generalize H3 ++ [DO.lst ((gp ks rss bs).map .bl)] = H4 at *
 generalize hH5 : H4.set ph (.lst (hs.map (fun h => .tup [.ref h.1, .ref h.2]) ++ [.tup [.ref p3, .ref cp]])) = H5 at s5 ⊢
 have lB : ∀ m ∈ [ph], m < B := by simp; omega
 have p3B : B ≤ p3 := by omega
 have cpB : B ≤ cp := by omega
 have lh5 : H5[ph]? = some (.lst ((hs ++ [(p3, cp)]).map fun h => .tup [.ref h.1, .ref h.2])) := by rw [← hH5, List.getElem?_set_self p5, List.map_append]; rfl
 have g5 := s5.lst (neq (show p3 ≠ ph by omega)) gg4
 have gc5 := s5.lst (neq (show cp ≠ ph by omega)) gc4
 have ck5 : COk B (hs ++ [(p3, cp)]) H5 := fun h hh => by
  rcases List.mem_append.mp hh with z | z
  ·exact ck4.keep s5 lB h z
  ·simp at z; subst z; exact ⟨p3B, cpB, _, g5, gc5⟩
 have tk5 : ∀ t, TOk B ks rss (bs ++ [t]) (ps ++ [(p, pg)]) H5 := fun t => TOk.more (tk4.keep s5 lB) o.ll (by omega) (by omega) (s5.lst (neq (by omega)) gp4) (s5.lst (neq (by omega)) gpg4)
 have t5 := s5.lst (neq (show pt ≠ ph by omega)) t4
 have ob5 := s5.obj (neq (show nm ≠ ph by omega)) ob4
 have f5 : Zbg nf H5 := by obtain ⟨a, b, e⟩ := f4; exact ⟨a, b, s5.lst (neq (by omega)) e⟩
 have F5 : Fm [nf, nm, pt, ph] H0 H5 := F4.trans (s5.sub (by simp))
 have B5 : B ≤ H5.length := by have := (List.getElem?_eq_some_iff.mp g5).1; omega
 have P5 : ∀ (t : Bool) (H' : HD), (∀ (m : Nat) (xs : List D), H5[m]? = some (DO.lst xs) -> m ≠ nf -> H'[m]? = some (.lst xs)) -> H'[nm]? = some (Zam ks rss (bs ++ [t])) -> wv ks rss (bs ++ [t]) = w0 -> TOk B ks rss (bs ++ [t]) (ps ++ [(p, pg)]) H' -> COk B (hs ++ [(p3, cp)]) H' -> Zbg nf H' -> Fm [nf, nm, pt, ph] H0 H' -> B ≤ H'.length -> PO nf nm pt ph B ks rss w0 H0 (bs ++ [t]) (ps ++ [(p, pg)]) (hs ++ [(p3, cp)]) H' :=
  fun t H' hk h1 h2 h3 h4 h5 h6 h7 => ⟨h1, h2, hk _ _ t5 (by omega), by simp [o.ll], h3, hk _ _ lh5 (by omega), h4, by simp [o.hl], h5, h6, h7⟩
 clear hH5 hH2 ck4 tk4 t4 gp4 gpg4 gg4 gc4 s5 o4 f4 F4 ob4 x3' x3 hc5 f2 F2 t2 tk2 g2 gg2 lh2 ck2 sS
 refine w_kn (w_seq (Zmd (fun σ H' => Fm [] H5 H' ∧ σ = [some (.ref nf), some (Zax ks rss), some (.ref nm), some (Zbb w0), some (.ref pt), some (.ref ph), none, some (.ref p3), z8]) ?_ ?_))
 ·refine w_if (w_or (w_tof (w_op ?_)))
  refine Zbj (w_var rfl ⟨nm, _, rfl, ob5, rfl, w_anil ⟨rfl, Zim c (by omega) ob5 fun H6 x6 => ?_⟩⟩)
  refine w_var rfl ?_
  rw [Zwo, o.win]
  refine Zf1 (Zdf _) (by omega) ?_
  refine w_bl (w_bf (w_an (w_tof (w_op ?_))))
  have ob6 := x6.obj (by simp) ob5
  refine Zbj (w_var rfl ⟨nm, _, rfl, ob6, rfl, w_anil ⟨rfl, Zhg c (by omega) ob6 ?_⟩⟩)
  rw [Zjr lb]
  refine w_var rfl (Zfw (w_bl ?_))
  by_cases hw : who ks bs = w0
  ·rw [hw, beq_self_eq_true]
   (repeat fail "go")
   refine ⟨_, _, Zni ((Zcw _).dat (by omega) (appL (x6.lst (by simp) g5))) ((Fines.nil (h := 0)).dat (by omega) last), ?_⟩
   rw [Zyh (Zux lb (by rw [o.win, hw]))]
   (repeat fail "go")
   exact ⟨rfl, x6.trans (.app _), rfl⟩
  ·rw [show (who ks bs == w0) = false from beq_false_of_ne hw]
   (repeat fail "go")
   exact ⟨rfl, x6, rfl⟩
 rintro σ H6 ⟨x6, rfl⟩
 refine w_seq (w_set (w_op ?_))
 (repeat fail "go")
 refine Zew (f5.keep x6) (by omega) (by omega) fun r H7 r0 r1 f7 x7 => ?_
 refine w_c (w_eqI ?_)
 have ob7 := x7.obj (neq (show nm ≠ nf by omega)) (x6.obj (by simp) ob5)
 have g7 := x7.lst (neq (show p3 ≠ nf by omega)) (x6.lst (by simp) g5)
 refine w_kn (w_seq (Zmd (fun σ H' => ∃ t : Bool, (who ks bs = w0 -> t ∈ gp ks rss bs) ∧ Zbg nf H' ∧ Fm [nf] H7 H' ∧ σ = [some (.ref nf), some (Zax ks rss), some (.ref nm), some (Zbb w0), some (.ref pt), some (.ref ph), none, some (.ref p3), some (.bl t)]) ?_ ?_))
 ·refine w_if (w_tof (w_op ?_))
  refine Zbj (w_var rfl ⟨nm, _, rfl, ob7, rfl, w_anil ⟨rfl, Zhg c (by omega) ob7 ?_⟩⟩)
  rw [Zjr lb]
  refine w_var rfl (Zfw (w_bl ?_))
  by_cases hw : who ks bs = w0
  ·rw [hw, beq_self_eq_true]
   refine w_bt (w_seq (w_set (w_call ?_)))
   (repeat fail "go")
   have gl : (gp ks rss bs).length ≤ 1000 := by
    unfold gp
    split
    ·simp
    ·exact Nat.le_trans (List.length_filter_le _ _) (by simp)
   refine Zvg f7 g7 (Zux lb (by rw [o.win, hw])) gl (by omega) fun t ht H8 f8 x8 => ?_
   (repeat fail "go")
   exact ⟨rfl, t, fun _ => ht, f8, x8, rfl⟩
  ·rw [show (who ks bs == w0) = false from beq_false_of_ne hw]
   (repeat fail "go")
   exact ⟨rfl, r == 1, fun z => absurd z hw, f7, .refl, rfl⟩
 rintro σ H8 ⟨t, ht, f8, x8, rfl⟩
 have ob8 := x8.obj (neq (show nm ≠ nf by omega)) ob7
 refine w_seq (w_expr (Zbj (w_var rfl ⟨nm, _, rfl, ob8, rfl, ?_⟩)))
 (repeat fail "go")
 refine ⟨rfl, Zhm c lb ob8 ?_⟩
 (repeat fail "go")
 have n8 : nm < H8.length := (List.getElem?_eq_some_iff.mp ob8).1
 have s9 : Fm [nm] H8 (H8.set nm (Zam ks rss (bs ++ [t]))) := .set (by simp)
 have X : Fm [nf] H5 H8 := ((x6.sub (by simp)).trans x7).trans x8
 have lN : ∀ m ∈ [nm], m < B := by simp; omega
 have lF : ∀ m ∈ [nf], m < B := by simp; omega
 refine q t _ _ _ _ _ (P5 t _ (fun m xs hm hf => ?_) (List.getElem?_set_self n8) ?_ ((tk5 t).keep X lF |>.keep s9 lN) ((ck5.keep X lF).keep s9 lN) ?_ ((F5.trans (X.sub (by simp))).trans (s9.sub (by simp))) ?_)
 ·have : m ≠ nm := by rintro rfl; rw [ob5] at hm; cases hm
  exact s9.lst (neq this) (X.lst (neq hf) hm)
 ·by_cases hw : who ks bs = w0
  ·rw [(Zro lb).mp (ht hw), hw]
  ·rw [Zs4 lb (by rw [o.win]; exact Ne.symm hw), o.win]
 ·obtain ⟨x, y, e⟩ := f8
  exact ⟨x, y, s9.lst (neq (by omega)) e⟩
 ·have := X.len
  simp
  omega
theorem Zye {σ : SD} {f : AF} {I : List D -> Zhl -> HD -> Prop} (h : wA (f σ H) fun ds H1 => ∃ n xs, ds = [.ref n] ∧ H1[n]? = some (.lst xs) ∧ I xs.reverse [(n, .lst xs)] H1) : wI (iRev f σ H) I := by
 obtain ⟨ds, H1, e, n, xs, rfl, g, q⟩ := h
 exact ⟨_, _, H1, by unfold iRev; rw [e]; simp only [Zb]; rw [g], q⟩
theorem Zyz {it : ItF} {ci : List Nat} {tt : TF} {te : EF} {σ : SD} (h : wI (it σ H) fun xs own H1 => wA (Ze7 own (Zo1 ci σ) tt te xs H1) fun ds H2 => ds.length ≤ 1000000 ∧ Q (.ref H2.length) (H2 ++ [.lst ds])) : wE (Zxw it ci tt te σ H) Q := by
 obtain ⟨xs, own, H1, e, ds, H2, e2, hl, q⟩ := h
 refine ⟨_, _, ?_, q⟩
 unfold Zxw
 rw [e]
 simp only [Zb]
 rw [e2]
 simp only [Zb]
 unfold mkL
 exact if_pos (Zfc hl)
theorem Zuq {own : Zhl} {B : Nat} {R : List D -> HD -> Prop} (ho : Zdp own H) : ∀ (hs : List (Nat × Nat)), COk B hs H -> R [] H -> wA (Ze7 own [] (tOf (eOp neD (Zae 0) (Zae 1))) (eC (.int 1)) (hs.map fun h => .tup [.ref h.1, .ref h.2]) H) R
 | [], _, q => ⟨[], H, by rw [List.map_nil, Ze7, if_pos ho], q⟩
 | h :: r, k, q => by
  obtain ⟨_, _, gs, g1, g2⟩ := k h (by simp)
  obtain ⟨ds, H2, e, q2⟩ := Zuq ho r (fun x hx => k x (by simp [hx])) q
  have et : tOf (eOp neD (Zae 0) (Zae 1)) [some (.ref h.1), some (.ref h.2)] H = some (false, H) := by
   obtain ⟨b, H3, e3, rfl, rfl⟩ : wT (tOf (eOp neD (Zae 0) (Zae 1)) [some (.ref h.1), some (.ref h.2)] H) fun b H3 => b = false ∧ H3 = H := by
    (repeat fail "go")
    refine Zil g1 g2 ?_
    (repeat fail "go")
    exact ⟨rfl, rfl⟩
   exact e3
  refine ⟨ds, H2, ?_, q2⟩
  rw [List.map_cons, Ze7, show two2 (.tup [.ref h.1, .ref h.2]) = some (.ref h.1, .ref h.2) from rfl]
  simp only [Zb]
  rw [if_pos ho, et]
  simp only [Zb]
  rw [if_neg (by simp)]
  exact e
noncomputable def pbB : SF := Zan (Zch (Zbl "Match" "back" 1 Zbt (Zae 2) Zaj))
 (Zan (sIf (tOf (eOp neD (Zal 1 Zbr (Zab (Zae 2) Zaj)) (Zae 6))) (Zan (Zb5 (eC (.bl false))) Zas) Zas) Zas)
theorem Zrc {nf nm pt ph B : Nat} {w0 : Bool} {H0 Hs : HD} {ps hs : List (Nat × Nat)} {a0 a1 a3 z7 z8 : Option D} {R : FD -> SD -> HD -> Prop} (c : Cl ks rss) (l : Pl nf nm pt ph B) (hb : bs.length ≤ ks.length) (o : PO nf nm pt ph B ks rss w0 H0 bs ps hs Hs)
  (q : ∀ z6 H', Fm [nm] Hs H' -> R .nx [a0, a1, some (.ref nm), a3, some (.ref pt), some (.ref ph), z6, z7, z8] H') : ∀ (j : Nat) (z6 : Option D) (H : HD), j ≤ bs.length -> H[nm]? = some (Zam ks rss (bs.take j)) -> Fm [nm] Hs H →
  wS (Zf6 [(pt, .lst (ps.map fun p => .ref p.1))] (gNm 6) pbB (((ps.take j).map fun p => D.ref p.1).reverse) [a0, a1, some (.ref nm), a3, some (.ref pt), some (.ref ph), z6, z7, z8] H) R
 | 0, z6, H, hj, g, x => Zr1 (Zuv (x.lst (neq (by have := l.b; omega)) o.lt)) (q _ _ x)
 | j + 1, z6, H, hj, g, x => by
  obtain ⟨l1, l2, l3, l4⟩ := l
  have l : Pl nf nm pt ph B := ⟨l1, l2, l3, l4⟩
  have hp : j < ps.length := by have := o.ll; omega
  have er : ((ps.take (j + 1)).map fun p => D.ref p.1).reverse = D.ref ps[j].1 :: ((ps.take j).map fun p => D.ref p.1).reverse := by
   rw [List.take_succ_eq_append_getElem hp, List.map_append, List.reverse_append]
   rfl
  rw [er]
  have g' : H[nm]? = some (Zam ks rss (bs.take j ++ [bs[j]])) := by rw [g, List.take_succ_eq_append_getElem (by omega)]
  have lB : ∀ m ∈ [nm], m < B := by simp; omega
  refine Zny (Zuv (x.lst (neq (by omega)) o.lt)) ?_
  refine w_gnm ?_
  unfold pbB
  refine w_seq (w_expr (Zbj (w_var rfl ⟨nm, _, rfl, g', rfl, w_anil ⟨rfl, Zm1 g' ?_⟩⟩)))
  have ln : nm < H.length := (List.getElem?_eq_some_iff.mp g').1
  have s1 : Fm [nm] H (H.set nm (Zam ks rss (bs.take j))) := .set (by simp)
  have g1 : (H.set nm (Zam ks rss (bs.take j)))[nm]? = some (Zam ks rss (bs.take j)) := List.getElem?_set_self ln
  generalize H.set nm (Zam ks rss (bs.take j)) = H1 at s1 g1 ⊢
  have x1 := x.trans s1
  have tk1 := o.tk.keep x1 lB
  refine w_kn (w_seq (w_if (w_tof (w_op (w_call ?_)))))
  (repeat fail "go")
  refine Zj7 c (by simp; omega) g1 fun p pg H2 g2 gg2 lp lpg x2 => ?_
  refine w_var rfl ?_
  obtain ⟨_, _, k1, k2⟩ := tk1 j ps[j] (List.getElem?_eq_getElem hp)
  obtain ⟨xs, ff⟩ := Zq4 (bs := bs.take j) c
  refine Zsn (ds := [Zax (ks.drop (bs.take j).length) (Zbo (bs.take j) rss), Za2 (bs.take j), Zlv ks (bs.take j), FW ks rss (bs.take j)]) ff g2 (x2.lst (by simp) k1) gg2 (x2.lst (by simp) k2) ?_
  (repeat fail "go")
  exact Zrc c l hb o q j _ H2 (by omega) (x2.obj (by simp) g1) (x1.trans (x2.sub (by simp)))
theorem Zot {nf : Nat} (c : Cl ks rss) (f : Zbg nf H) (q : ∀ H', Zbg nf H' -> Fm [nf] H H' -> Q (.bl true) H') : wE (Zcc [.ref nf, Zax ks rss] H) Q := by
 have h8 := c.h8
 have fl := f.lt
 refine Zcm rfl ?_
 show wS (Zcb [some (.ref nf), some (Zax ks rss), none, none, none, none, none, none, none] H) _
 unfold Zcb
 refine w_seq (w_set (Zyj ?_))
 (repeat fail "go")
 refine ⟨rfl, Zid last ⟨rfl, ?_⟩⟩
 have e0 : (H ++ [DO.obj "Match" []]).set H.length (Zam ks rss []) = H ++ [Zam ks rss []] := by simp
 rw [e0]
 have g1 : (H ++ [Zam ks rss []])[H.length]? = some (Zam ks rss []) := last
 have f1 : Zbg nf (H ++ [Zam ks rss []]) := f.keep (.app _)
 have X1 : Fm [] H (H ++ [Zam ks rss []]) := .app _
 have le1 : H.length < (H ++ [Zam ks rss []]).length := by simp
 generalize H ++ [Zam ks rss []] = H1 at g1 f1 X1 le1 ⊢
 refine w_kn (w_seq (w_set (Zbj (w_var rfl ⟨H.length, _, rfl, g1, rfl, w_anil ⟨rfl, Zim c (by simp) g1 fun H2 x2 => ?_⟩⟩))))
 have g2 := x2.obj (by simp) g1
 have f2 := f1.keep x2
 have X2 := X1.trans x2
 have le2 : H.length < H2.length := Nat.lt_of_lt_of_le le1 x2.len
 rw [Zwo]
 generalize hw : wv ks rss [] = w0
 refine w_kn (w_seq (w_set (w_lst (w_anil (w_sz (by simp) ?_)))))
 refine w_kn (w_seq (w_set (w_lst (w_anil (w_sz (by simp) ?_)))))
 have l : Pl nf H.length H2.length (H2 ++ [DO.lst []]).length (H2 ++ [DO.lst []] ++ [DO.lst []]).length := ⟨by omega, by omega, by simp, by simp⟩
 have o : PO nf H.length H2.length (H2 ++ [DO.lst []]).length (H2 ++ [DO.lst []] ++ [DO.lst []]).length ks rss w0 (H2 ++ [DO.lst []] ++ [DO.lst []]) [] [] [] (H2 ++ [DO.lst []] ++ [DO.lst []]) :=
  ⟨appL (appL g2), hw, appL last, rfl, fun j p hp => by simp at hp, last, fun h hh => by simp at hh, rfl, (f2.keep (.app _)).keep (.app _), .refl, Nat.le_refl _⟩
 have X3 : Fm [] H (H2 ++ [DO.lst []] ++ [DO.lst []]) := (X2.trans (.app _)).trans (.app _)
 generalize (H2 ++ [DO.lst []]).length = ph at l o ⊢
 generalize H2 ++ [DO.lst []] ++ [DO.lst []] = H3 at l o X3 ⊢
 generalize H2.length = pt at l o ⊢
 generalize hnm : H.length = nm at l o ⊢
 generalize hB : H3.length = B at l o
 refine w_kn (w_seq (Zmd (fun σ H' => ∃ bs ps hs z7 z8, bs.length = ks.length ∧ PO nf nm pt ph B ks rss w0 H3 bs ps hs H' ∧ σ = [some (.ref nf), some (Zax ks rss), some (.ref nm), some (Zbb w0), some (.ref pt), some (.ref ph), none, z7, z8]) ?_ ?_))
 ·refine Zj6 (fun m σ H' => ∃ bs ps hs z7 z8, bs.length + m = ks.length ∧ PO nf nm pt ph B ks rss w0 H3 bs ps hs H' ∧ σ = [some (.ref nf), some (Zax ks rss), some (.ref nm), some (Zbb w0), some (.ref pt), some (.ref ph), none, z7, z8]) (fun m σ H' ⟨bs, ps, hs, z7, z8, hm, oo, e⟩ => ?_) 20 ks.length _ _ (by omega) ⟨[], [], [], none, none, by simp, o, rfl⟩
  subst e
  refine w_tof (w_op (Zbj (w_var rfl ⟨nm, _, rfl, oo.ob, rfl, w_anil ⟨rfl, Zhg c (by omega) oo.ob ?_⟩⟩)))
  cases m with
  | zero =>
   rw [Zm6 (by omega)]
   (repeat fail "go")
   exact ⟨rfl, bs, ps, hs, _, _, by omega, oo, rfl⟩
  | succ m =>
   have lb : bs.length < ks.length := by omega
   rw [Zjr lb]
   refine w_c ?_
   refine w_isnN (b := false) (by cases who ks bs <;> rfl) ?_
   refine w_bl (w_bt ⟨m, rfl, ?_⟩)
   exact Zvf c l lb oo fun t ps' hs' y7 y8 H'' o' => ⟨_, _, _, _, _, by simp; omega, o', rfl⟩
 rintro σ H4 ⟨bs, ps, hs, z7, z8, hl, oo, rfl⟩
 have cL : Cl (ks.drop bs.length) (Zbo bs rss) := c.left bs (by omega)
 have pos : ∀ ls ∈ rss, ∀ l ∈ ls, 0 < Zbn l := fun ls hls => c.pos hls
 refine w_seq (Zmd (fun σ H' => Fm [] H4 H' ∧ σ = [some (.ref nf), some (Zax ks rss), some (.ref nm), some (Zbb w0), some (.ref pt), some (.ref ph), none, z7, z8]) ?_ ?_)
 ·refine w_if (w_or (w_tof (w_op ?_)))
  refine Zbj (w_var rfl ⟨nm, _, rfl, oo.ob, rfl, w_anil ⟨rfl, Zim c (by omega) oo.ob fun H6 x6 => ?_⟩⟩)
  refine w_var rfl ?_
  rw [Zwo, oo.win]
  refine Zf1 (Zdf _) (by omega) ?_
  refine w_bl (w_bf (w_tof (w_op ?_)))
  have ob6 := x6.obj (by simp) oo.ob
  refine Zbj (w_var rfl ⟨nm, _, rfl, ob6, rfl, w_anil ⟨rfl, Zj2 c (by omega) ob6 fun p7 H7 g7 l7 x7 => ?_⟩⟩)
  have eg : gp ks rss bs = [] := by unfold gp; rw [if_pos hl]
  rw [eg] at g7
  (repeat fail "go")
  refine Zil (bs := []) (appL g7) last ?_
  (repeat fail "go")
  exact ⟨rfl, (x6.trans x7).trans (.app _), rfl⟩
 rintro σ H5 ⟨x5, rfl⟩
 have o5 := oo.keep l x5
 refine w_seq (Zmd (fun σ H' => Fm [] H5 H' ∧ σ = [some (.ref nf), some (Zax ks rss), some (.ref nm), some (Zbb w0), some (.ref pt), some (.ref ph), none, z7, z8]) ?_ ?_)
 ·refine w_if (w_tof (w_op (w_call (w_acons ?_))))
  refine Zbj (w_var rfl ⟨nm, _, rfl, o5.ob, rfl, w_anil ⟨rfl, Zgc c o5.ob fun H6 x6 => ?_⟩⟩)
  refine w_acons (w_var rfl (w_acons (w_op (w_call (w_acons ?_)))))
  have ob6 := x6.obj (by simp) o5.ob
  refine Zbj (w_var rfl ⟨nm, _, rfl, ob6, rfl, w_anil ⟨rfl, Zgc c ob6 fun H7 x7 => ?_⟩⟩)
  (repeat fail "go")
  have ek : ks.drop bs.length = [] := by rw [hl, List.drop_length]
  rw [ek] at cL ⊢
  refine Zv7 cL fun t H8 pt8 x8 => ?_
  (repeat fail "go")
  have ew : W [] (Zbo bs rss) 0 [] = w0 := by
   rw [← ek, Zmq pos, List.append_nil, ← oo.win]
   unfold wv
   rw [hl, Nat.sub_self]
  rw [ew] at pt8
  refine Zwa cL pt8 fun H9 x9 => ?_
  rw [beq_self_eq_true]
  (repeat fail "go")
  exact ⟨rfl, ((x6.trans x7).trans x8).trans x9, rfl⟩
 rintro σ H6 ⟨x6, rfl⟩
 have o6 := o5.keep l x6
 obtain ⟨l1, l2, l3, l4⟩ := l
 have l : Pl nf nm pt ph B := ⟨l1, l2, l3, l4⟩
 refine w_seq (w_for (Zye ?_))
 (repeat fail "go")
 refine ⟨pt, _, rfl, o6.lt, ?_⟩
 have bl := Zrc (z7 := z7) (z8 := z8) (a0 := some (.ref nf)) (a1 := some (Zax ks rss)) (a3 := some (Zbb w0)) (R := Zzp (fun σ1 H1 => wS (Zan (Zb5 (eOp eqD (Zxw (iSq (Zae 5)) [] (tOf (eOp neD (Zae 0) (Zae 1))) (eC (.int 1))) (Zdn Zaj))) Zas σ1 H1) (fin Q)) (fin Q)) c l (by omega) o6 (fun z6 H7 x7 => ?_) bs.length none H6 (Nat.le_refl _) (by rw [List.take_length]; exact o6.ob) .refl
 ·rw [← o6.ll, List.take_length] at bl
  exact bl
 ·refine w_kn (w_seq (w_ret (w_op (Zyz ?_))))
  have lB : ∀ m ∈ [nm], m < B := by simp; omega
  have lh7 := x7.lst (neq (show ph ≠ nm by omega)) o6.lh
  have ck7 := o6.ck.keep x7 lB
  (repeat fail "go")
  refine Zuq (Zuv lh7) hs ck7 ?_
  refine ⟨by simp, ?_⟩
  (repeat fail "go")
  refine ⟨_, _, Zni ((Fines.nil (h := 0)).dat (by omega) (appL last)) ((Fines.nil (h := 0)).dat (by omega) last), ?_⟩
  rw [Zf2 _ rfl]
  (repeat fail "go")
  have f7 : Zbg nf H7 := by obtain ⟨a, b, e⟩ := o6.fd; exact ⟨a, b, x7.lst (neq (by omega)) e⟩
  refine q _ ((f7.keep (.app _)).keep (.app _)) ?_
  refine Fm.new (T := [nf, nm, pt, ph]) (X3.sub (by simp)) (((o6.fm.trans (x7.sub (by simp))).trans (.app _)).trans (.app _)) fun m hm hf => ?_
  simp at hm hf
  omega
noncomputable abbrev CP := List D × List (List Int)
structure LS (nf p1 pm py a0 a1 : Nat) (c0 c1 : CP) (b0 b1 : List Bool) (H : HD) : Prop where
 f : Zbg nf H
 k : H[p1]? = some (.lst [Zax c0.1 c0.2, Zax c1.1 c1.2])
 m : H[pm]? = some (.lst [.ref a0, .ref a1])
 y : H[py]? = some (.lst [Za2 b0, Za2 b1])
 o0 : H[a0]? = some (Zam c0.1 c0.2 b0)
 o1 : H[a1]? = some (Zam c1.1 c1.2 b1)
 l0 : b0.length ≤ c0.1.length
 l1 : b1.length ≤ c1.1.length
structure LP (nf p1 pm py a0 a1 : Nat) : Prop where
 a : p1 < nf
 b : nf < a0
 c : a0 < a1
 d : a1 < pm
 e : pm < py
section
variable {nf p1 pm py a0 a1 : Nat} {c0 c1 : CP} {b0 b1 : List Bool}
theorem LS.keep {H' : HD} (s : LS nf p1 pm py a0 a1 c0 c1 b0 b1 H) (x : Fm [] H H') : LS nf p1 pm py a0 a1 c0 c1 b0 b1 H' :=
 ⟨s.f.keep x, x.lst (by simp) s.k, x.lst (by simp) s.m, x.lst (by simp) s.y, x.obj (by simp) s.o0, x.obj (by simp) s.o1, s.l0, s.l1⟩
theorem LS.feed {H' : HD} (p : LP nf p1 pm py a0 a1) (s : LS nf p1 pm py a0 a1 c0 c1 b0 b1 H) (x : Fm [nf] H H') (f : Zbg nf H') : LS nf p1 pm py a0 a1 c0 c1 b0 b1 H' := by
 obtain ⟨p1', p2, p3, p4, p5⟩ := p
 exact ⟨f, x.lst (neq (by omega)) s.k, x.lst (neq (by omega)) s.m, x.lst (neq (by omega)) s.y, x.obj (neq (by omega)) s.o0, x.obj (neq (by omega)) s.o1, s.l0, s.l1⟩
theorem Ziq {p : Nat} {xs : List D} {v : D} {i : Nat} {S : HD -> Prop} (g : H[p]? = some (.lst xs)) (hi : i < xs.length) (q : S (H.set p (.lst (xs.set i v)))) : wH (Zjw (.ref p) (.int i) v H) S := by
 refine ⟨_, ?_, q⟩
 have e : ixN xs.length (i : Int) = some i := by
  unfold ixN
  rw [if_pos (by omega), if_pos (by omega), Int.toNat_natCast]
 simp only [Zjw, g]
 rw [e]
 rfl
noncomputable def lwA : SF := sIf (tAn (tOf (eOp eqD (Zal 2 Zai (Zab (Zae 2) (Zab (eC (.int 4)) Zaj))) (eC (.int 0)))) (tOf (eOp neD (eOp ixD (Zae 4) (Zae 6)) (Zgp Zaj)))) (Zan (Zch (Zbl "Match" "back" 1 Zbt (eOp ixD (Zae 3) (Zae 6)) Zaj))
 (Zan (Zla (eSl (eOp ixD (Zae 4) (Zae 6)) Zfu (Zfm (eUn Zlb (eC (.int 1))))) (gSb (Zae 4) (Zae 6) Zjw))
 Zas)) (Zan (sIf (tOf (eOp ltD (eCB Zd8 (Zab (eOp ixD (Zae 4) (Zae 6)) Zaj)) (eCB Zd8 (Zab (eOp ixD (eOp ixD (Zae 1) (Zae 6)) (eC (.int 0))) Zaj)))) (Zan (Zbd 7 (eOp eqD (Zal 2 Zai (Zab (Zae 2) (Zab (eC (.int 2)) Zaj))) (eC (.int 1))))
 (Zan (Zch (Zbl "Match" "pick" 2 Za5 (eOp ixD (Zae 3) (Zae 6)) (Zab (Zae 7) Zaj)))
 (Zan (Zla (eOp Zc1 (eOp ixD (Zae 4) (Zae 6)) (Zgp (Zab (Zae 7) Zaj))) (gSb (Zae 4) (Zae 6) Zjw))
 Zas))) Zas)
 Zas)
noncomputable def LSt (nf p1 pm py : Nat) (sc z5 z6 z7 : Option D) : SD := [sc, some (.ref p1), some (.ref nf), some (.ref pm), some (.ref py), z5, z6, z7]
theorem lw_0 {sc z5 z7 : Option D} {R : FD -> SD -> HD -> Prop} (k0 : Cl c0.1 c0.2) (k1 : Cl c1.1 c1.2) (p : LP nf p1 pm py a0 a1) (s : LS nf p1 pm py a0 a1 c0 c1 b0 b1 H) (q : ∀ b0' b1' y7 H', LS nf p1 pm py a0 a1 c0 c1 b0' b1' H' -> R .nx (LSt nf p1 pm py sc z5 (some (.int 0)) y7) H') :
  wS (lwA (LSt nf p1 pm py sc z5 (some (.int 0)) z7) H) R := by
 have h8 := k0.h8
 have lb := s.l0
 obtain ⟨q1, q2, q3, q4, q5⟩ := p
 have p : LP nf p1 pm py a0 a1 := ⟨q1, q2, q3, q4, q5⟩
 unfold lwA LSt
 refine w_if (w_an (w_tof (w_op ?_)))
 (repeat fail "go")
 refine Zew s.f (by omega) (by omega) fun r H1 r0 r1 f1 x1 => ?_
 have s1 := s.feed p x1 f1
 have back : ∀ bb, b0 = bb → ¬ bb = [] → wS (Zan (Zch (Zbl "Match" "back" 1 Zbt (eOp ixD (Zae 3) (Zae 6)) Zaj))
   (Zan (Zla (eSl (eOp ixD (Zae 4) (Zae 6)) Zfu (Zfm (eUn Zlb (eC (.int 1))))) (gSb (Zae 4) (Zae 6) Zjw)) Zas) [sc, some (.ref p1), some (.ref nf), some (.ref pm), some (.ref py), z5, some (.int 0), z7] H1) R := by
  rintro bb rfl hne
  obtain ⟨b, t, eb⟩ : ∃ b t, b0 = b ++ [t] := ⟨b0.dropLast, b0.getLast hne, (List.dropLast_concat_getLast hne).symm⟩
  have ob := s1.o0
  rw [eb] at ob
  refine w_seq (w_expr (Zbj (w_op (w_var rfl (w_var rfl (w_ixR s1.m (Zaz (j := 0) rfl) ⟨a0, _, rfl, ob, rfl, w_anil ⟨rfl, Zm1 ob ?_⟩⟩))))))
  have ln : a0 < H1.length := (List.getElem?_eq_some_iff.mp ob).1
  have so : Fm [a0] H1 (H1.set a0 (Zam c0.1 c0.2 b)) := .set (by simp)
  have go1 : (H1.set a0 (Zam c0.1 c0.2 b))[a0]? = some (Zam c0.1 c0.2 b) := List.getElem?_set_self ln
  generalize H1.set a0 (Zam c0.1 c0.2 b) = H2 at so go1 ⊢
  have y2 := so.lst (neq (show py ≠ a0 by omega)) s1.y
  refine w_kn (w_seq (w_asg (w_sl (w_op (w_var rfl (w_var rfl (w_ixR y2 (Zaz (j := 0) rfl) ?_)))))))
  (repeat fail "go")
  rw [eb]
  refine Zno ?_
  (repeat fail "go")
  refine Ziq (i := 0) y2 (by simp) ?_
  (repeat fail "go")
  have lp : py < H2.length := (List.getElem?_eq_some_iff.mp y2).1
  have sy : Fm [py] H2 (H2.set py (.lst ([Za2 b0, Za2 b1].set 0 (Za2 b)))) := .set (by simp)
  refine q b b1 _ _ ⟨?_, sy.lst (neq (by omega)) (so.lst (neq (by omega)) s1.k), sy.lst (neq (by omega)) (so.lst (neq (by omega)) s1.m), List.getElem?_set_self lp, ?_, ?_, ?_, ?_⟩
  ·obtain ⟨x, y, e⟩ := s1.f
   exact ⟨x, y, sy.lst (neq (by omega)) (so.lst (neq (by omega)) e)⟩
  ·exact sy.obj (neq (by omega)) go1
  ·exact sy.obj (neq (by omega)) (so.obj (neq (by omega)) s1.o1)
  ·rw [eb] at lb; simp at lb; omega
  ·exact s.l1
 have fore : wS (Zan (sIf (tOf (eOp ltD (eCB Zd8 (Zab (eOp ixD (Zae 4) (Zae 6)) Zaj)) (eCB Zd8 (Zab (eOp ixD (eOp ixD (Zae 1) (Zae 6)) (eC (.int 0))) Zaj)))) (Zan (Zbd 7 (eOp eqD (Zal 2 Zai (Zab (Zae 2) (Zab (eC (.int 2)) Zaj))) (eC (.int 1))))
   (Zan (Zch (Zbl "Match" "pick" 2 Za5 (eOp ixD (Zae 3) (Zae 6)) (Zab (Zae 7) Zaj)))
   (Zan (Zla (eOp Zc1 (eOp ixD (Zae 4) (Zae 6)) (Zgp (Zab (Zae 7) Zaj))) (gSb (Zae 4) (Zae 6) Zjw)) Zas))) Zas) Zas [sc, some (.ref p1), some (.ref nf), some (.ref pm), some (.ref py), z5, some (.int 0), z7] H1) R := by
  refine w_seq (w_if (w_tof (w_op (w_cb (w_acons (w_op (w_var rfl (w_var rfl (w_ixR s1.y (Zaz (j := 0) rfl) ?_)))))))))
  (repeat fail "go")
  refine w_ixR s1.k (Zaz (j := 0) rfl) ?_
  (repeat fail "go")
  refine ⟨fun hl => ?_, fun hl => ?_⟩
  ·have lt : b0.length < c0.1.length := by have := of_decide_eq_true hl; omega
   (repeat fail "go")
   refine Zew s1.f (by omega) (by omega) fun r' H2 r0' r1' f2 x2 => ?_
   have s2 := s1.feed p x2 f2
   refine w_c (w_eqI ?_)
   refine w_kn (w_seq (w_expr (Zbj (w_op (w_var rfl (w_var rfl (w_ixR s2.m (Zaz (j := 0) rfl) ⟨a0, _, rfl, s2.o0, rfl, ?_⟩)))))))
   (repeat fail "go")
   refine ⟨rfl, Zhm k0 lt s2.o0 ?_⟩
   have ln : a0 < H2.length := (List.getElem?_eq_some_iff.mp s2.o0).1
   have so : Fm [a0] H2 (H2.set a0 (Zam c0.1 c0.2 (b0 ++ [r' == 1]))) := .set (by simp)
   have go1 : (H2.set a0 (Zam c0.1 c0.2 (b0 ++ [r' == 1])))[a0]? = some (Zam c0.1 c0.2 (b0 ++ [r' == 1])) := List.getElem?_set_self ln
   generalize H2.set a0 (Zam c0.1 c0.2 (b0 ++ [r' == 1])) = H3 at so go1 ⊢
   have y2 := so.lst (neq (show py ≠ a0 by omega)) s2.y
   refine w_kn (w_seq (w_asg (w_op (w_op (w_var rfl (w_var rfl (w_ixR y2 (Zaz (j := 0) rfl) ?_)))))))
   (repeat fail "go")
   refine Ziq (i := 0) y2 (by simp) ?_
   (repeat fail "go")
   have lp : py < H3.length := (List.getElem?_eq_some_iff.mp y2).1
   have sy : Fm [py] H3 (H3.set py (.lst ([Za2 b0, Za2 b1].set 0 (Za2 (b0 ++ [r' == 1]))))) := .set (by simp)
   refine q (b0 ++ [r' == 1]) b1 _ _ ⟨?_, sy.lst (neq (by omega)) (so.lst (neq (by omega)) s2.k), sy.lst (neq (by omega)) (so.lst (neq (by omega)) s2.m), List.getElem?_set_self lp, ?_, ?_, ?_, ?_⟩
   ·obtain ⟨x, y, e⟩ := s2.f
    exact ⟨x, y, sy.lst (neq (by omega)) (so.lst (neq (by omega)) e)⟩
   ·exact sy.obj (neq (by omega)) go1
   ·exact sy.obj (neq (by omega)) (so.obj (neq (by omega)) s2.o1)
   ·simp; omega
   ·exact s.l1
  ·(repeat fail "go")
   exact q b0 b1 _ _ s1
 (repeat fail "go")
 refine ⟨fun hr => ?_, fun hr => ?_⟩
 ·refine w_tof (w_op (w_op (w_var rfl (w_var rfl (w_ixR s1.y (Zaz (j := 0) rfl) ?_)))))
  (repeat fail "go")
  refine Zq7 (Zcw b0) (by omega) ?_
  refine w_bl ⟨fun hn => ?_, fun hn => ?_⟩
  ·exact back b0 rfl (by rintro rfl; simp at hn)
  ·exact fore
 ·exact w_bf fore
theorem lw_1 {sc z5 z7 : Option D} {R : FD -> SD -> HD -> Prop} (k0 : Cl c0.1 c0.2) (k1 : Cl c1.1 c1.2) (p : LP nf p1 pm py a0 a1) (s : LS nf p1 pm py a0 a1 c0 c1 b0 b1 H) (q : ∀ b0' b1' y7 H', LS nf p1 pm py a0 a1 c0 c1 b0' b1' H' -> R .nx (LSt nf p1 pm py sc z5 (some (.int 1)) y7) H') :
  wS (lwA (LSt nf p1 pm py sc z5 (some (.int 1)) z7) H) R := by
 have h8 := k1.h8
 have lb := s.l1
 obtain ⟨q1, q2, q3, q4, q5⟩ := p
 have p : LP nf p1 pm py a0 a1 := ⟨q1, q2, q3, q4, q5⟩
 unfold lwA LSt
 refine w_if (w_an (w_tof (w_op ?_)))
 (repeat fail "go")
 refine Zew s.f (by omega) (by omega) fun r H1 r0 r1 f1 x1 => ?_
 have s1 := s.feed p x1 f1
 have back : ∀ bb, b1 = bb → ¬ bb = [] → wS (Zan (Zch (Zbl "Match" "back" 1 Zbt (eOp ixD (Zae 3) (Zae 6)) Zaj))
   (Zan (Zla (eSl (eOp ixD (Zae 4) (Zae 6)) Zfu (Zfm (eUn Zlb (eC (.int 1))))) (gSb (Zae 4) (Zae 6) Zjw)) Zas) [sc, some (.ref p1), some (.ref nf), some (.ref pm), some (.ref py), z5, some (.int 1), z7] H1) R := by
  rintro bb rfl hne
  obtain ⟨b, t, eb⟩ : ∃ b t, b1 = b ++ [t] := ⟨b1.dropLast, b1.getLast hne, (List.dropLast_concat_getLast hne).symm⟩
  have ob := s1.o1
  rw [eb] at ob
  refine w_seq (w_expr (Zbj (w_op (w_var rfl (w_var rfl (w_ixR s1.m (Zaz (j := 1) rfl) ⟨a1, _, rfl, ob, rfl, w_anil ⟨rfl, Zm1 ob ?_⟩⟩))))))
  have ln : a1 < H1.length := (List.getElem?_eq_some_iff.mp ob).1
  have so : Fm [a1] H1 (H1.set a1 (Zam c1.1 c1.2 b)) := .set (by simp)
  have go1 : (H1.set a1 (Zam c1.1 c1.2 b))[a1]? = some (Zam c1.1 c1.2 b) := List.getElem?_set_self ln
  generalize H1.set a1 (Zam c1.1 c1.2 b) = H2 at so go1 ⊢
  have y2 := so.lst (neq (show py ≠ a1 by omega)) s1.y
  refine w_kn (w_seq (w_asg (w_sl (w_op (w_var rfl (w_var rfl (w_ixR y2 (Zaz (j := 1) rfl) ?_)))))))
  (repeat fail "go")
  rw [eb]
  refine Zno ?_
  (repeat fail "go")
  refine Ziq (i := 1) y2 (by simp) ?_
  (repeat fail "go")
  have lp : py < H2.length := (List.getElem?_eq_some_iff.mp y2).1
  have sy : Fm [py] H2 (H2.set py (.lst ([Za2 b0, Za2 b1].set 1 (Za2 b)))) := .set (by simp)
  refine q b0 b _ _ ⟨?_, sy.lst (neq (by omega)) (so.lst (neq (by omega)) s1.k), sy.lst (neq (by omega)) (so.lst (neq (by omega)) s1.m), List.getElem?_set_self lp, ?_, ?_, ?_, ?_⟩
  ·obtain ⟨x, y, e⟩ := s1.f
   exact ⟨x, y, sy.lst (neq (by omega)) (so.lst (neq (by omega)) e)⟩
  ·exact sy.obj (neq (by omega)) (so.obj (neq (by omega)) s1.o0)
  ·exact sy.obj (neq (by omega)) go1
  ·exact s.l0
  ·rw [eb] at lb; simp at lb; omega
 have fore : wS (Zan (sIf (tOf (eOp ltD (eCB Zd8 (Zab (eOp ixD (Zae 4) (Zae 6)) Zaj)) (eCB Zd8 (Zab (eOp ixD (eOp ixD (Zae 1) (Zae 6)) (eC (.int 0))) Zaj)))) (Zan (Zbd 7 (eOp eqD (Zal 2 Zai (Zab (Zae 2) (Zab (eC (.int 2)) Zaj))) (eC (.int 1))))
   (Zan (Zch (Zbl "Match" "pick" 2 Za5 (eOp ixD (Zae 3) (Zae 6)) (Zab (Zae 7) Zaj)))
   (Zan (Zla (eOp Zc1 (eOp ixD (Zae 4) (Zae 6)) (Zgp (Zab (Zae 7) Zaj))) (gSb (Zae 4) (Zae 6) Zjw)) Zas))) Zas) Zas [sc, some (.ref p1), some (.ref nf), some (.ref pm), some (.ref py), z5, some (.int 1), z7] H1) R := by
  refine w_seq (w_if (w_tof (w_op (w_cb (w_acons (w_op (w_var rfl (w_var rfl (w_ixR s1.y (Zaz (j := 1) rfl) ?_)))))))))
  (repeat fail "go")
  refine w_ixR s1.k (Zaz (j := 1) rfl) ?_
  (repeat fail "go")
  refine ⟨fun hl => ?_, fun hl => ?_⟩
  ·have lt : b1.length < c1.1.length := by have := of_decide_eq_true hl; omega
   (repeat fail "go")
   refine Zew s1.f (by omega) (by omega) fun r' H2 r0' r1' f2 x2 => ?_
   have s2 := s1.feed p x2 f2
   refine w_c (w_eqI ?_)
   refine w_kn (w_seq (w_expr (Zbj (w_op (w_var rfl (w_var rfl (w_ixR s2.m (Zaz (j := 1) rfl) ⟨a1, _, rfl, s2.o1, rfl, ?_⟩)))))))
   (repeat fail "go")
   refine ⟨rfl, Zhm k1 lt s2.o1 ?_⟩
   have ln : a1 < H2.length := (List.getElem?_eq_some_iff.mp s2.o1).1
   have so : Fm [a1] H2 (H2.set a1 (Zam c1.1 c1.2 (b1 ++ [r' == 1]))) := .set (by simp)
   have go1 : (H2.set a1 (Zam c1.1 c1.2 (b1 ++ [r' == 1])))[a1]? = some (Zam c1.1 c1.2 (b1 ++ [r' == 1])) := List.getElem?_set_self ln
   generalize H2.set a1 (Zam c1.1 c1.2 (b1 ++ [r' == 1])) = H3 at so go1 ⊢
   have y2 := so.lst (neq (show py ≠ a1 by omega)) s2.y
   refine w_kn (w_seq (w_asg (w_op (w_op (w_var rfl (w_var rfl (w_ixR y2 (Zaz (j := 1) rfl) ?_)))))))
   (repeat fail "go")
   refine Ziq (i := 1) y2 (by simp) ?_
   (repeat fail "go")
   have lp : py < H3.length := (List.getElem?_eq_some_iff.mp y2).1
   have sy : Fm [py] H3 (H3.set py (.lst ([Za2 b0, Za2 b1].set 1 (Za2 (b1 ++ [r' == 1]))))) := .set (by simp)
   refine q b0 (b1 ++ [r' == 1]) _ _ ⟨?_, sy.lst (neq (by omega)) (so.lst (neq (by omega)) s2.k), sy.lst (neq (by omega)) (so.lst (neq (by omega)) s2.m), List.getElem?_set_self lp, ?_, ?_, ?_, ?_⟩
   ·obtain ⟨x, y, e⟩ := s2.f
    exact ⟨x, y, sy.lst (neq (by omega)) (so.lst (neq (by omega)) e)⟩
   ·exact sy.obj (neq (by omega)) (so.obj (neq (by omega)) s2.o0)
   ·exact sy.obj (neq (by omega)) go1
   ·exact s.l0
   ·simp; omega
  ·(repeat fail "go")
   exact q b0 b1 _ _ s1
 (repeat fail "go")
 refine ⟨fun hr => ?_, fun hr => ?_⟩
 ·refine w_tof (w_op (w_op (w_var rfl (w_var rfl (w_ixR s1.y (Zaz (j := 1) rfl) ?_)))))
  (repeat fail "go")
  refine Zq7 (Zcw b1) (by omega) ?_
  refine w_bl ⟨fun hn => ?_, fun hn => ?_⟩
  ·exact back b1 rfl (by rintro rfl; simp at hn)
  ·exact fore
 ·exact w_bf fore
end
theorem Zxa {H : HD} {Q : D -> HD -> Prop} {p : Nat} (g : H[p]? = some (.lst [.bl true, .bl true])) (q : Q (.bl false) H) : wE (inD (.bl false) (.ref p) H) Q := by
 refine w_inL (.bl false) (Zcw [true, true]) (by omega) (by omega) g ?_
 exact q
theorem Zrf {r : Option (FD × SD × HD)} {k : SD -> HD -> Prop} {R : FD -> SD -> HD -> Prop} (h : wS r (again k fun _ _ _ => False)) : wS r (again k R) := by
 obtain ⟨x, s, H, e, q⟩ := h
 refine ⟨x, s, H, e, ?_⟩
 cases x with
 | nx => exact q
 | ct => exact q
 | bk => exact q.elim
 | rt d => exact q.elim
theorem pure_law : ∀ ns : List Int, ns.length ≤ 63 -> ∃ Hd', Zo8 [.fl (ns.map .int)] [] = some (.bl true, Hd') := by
 intro ns hn
 suffices h : wE (Zo8 [.fl (ns.map .int)] []) fun d _ => d = .bl true by
  obtain ⟨d, H, e, rfl⟩ := h; exact ⟨H, e⟩
 refine Zcm rfl ?_
 show wS (Zso [some (.fl (ns.map .int)), none, none, none, none, none, none, none] []) _
 unfold Zso
 (repeat fail "go")
 refine Zp9 (by omega) (by omega) fun n0 H1 f1 l1 x1 => ?_
 (repeat fail "go")
 refine Zsq f1 (by omega) (by omega) fun ks0 rss0 H2 c0 k0 r0 f2 x2 => ?_
 (repeat fail "go")
 refine Zp9 (by omega) (by omega) fun n1 H3 f3 l3 x3 => ?_
 (repeat fail "go")
 refine Zsq f3 (by omega) (by omega) fun ks1 rss1 H4 c1 k1 r1 f4 x4 => ?_
 refine w_anil (w_sz (by simp) ?_)
 clear x1 x2 x3 x4 f1 f2 f3 f4 l1 l3
 refine w_kn (w_seq (w_set (w_call ?_)))
 (repeat fail "go")
 refine Zp9 (by omega) (by omega) fun nf H5 f5 l5 x5 => ?_
 have g5 := x5.lst (by simp) (last (H := H4) (o := DO.lst [Zax ks0 rss0, Zax ks1 rss1]))
 have lt5 : H4.length < nf := by simp at l5; omega
 generalize H4.length = p1 at g5 lt5 ⊢
 refine w_kn (w_seq (Zmd (fun σ H' => ∃ (d0 d1 : CP), Cl d0.1 d0.2 ∧ Cl d1.1 d1.2 ∧ H'[p1]? = some (.lst [Zax d0.1 d0.2, Zax d1.1 d1.2]) ∧ Zbg nf H' ∧ σ = [some (.fl (ns.map .int)), some (.ref p1), some (.ref nf), none, none, none, none, none]) ?_ ?_))
 ·refine w_if (w_tof (w_op ?_))
  (repeat fail "go")
  refine Zew f5 (by omega) (by omega) fun r H6 r0' r1' f6 x6 => ?_
  have g6 := x6.lst (neq (show p1 ≠ nf by omega)) g5
  (repeat fail "go")
  refine ⟨fun hr => ?_, fun hr => ?_⟩
  ·(repeat fail "go")
   refine Ziq (i := 1) g6 (by simp) ?_
   (repeat fail "go")
   have lp : p1 < H6.length := (List.getElem?_eq_some_iff.mp g6).1
   refine ⟨rfl, (ks0, rss0), (ks0, rss0), c0, c0, List.getElem?_set_self lp, ?_, rfl⟩
   obtain ⟨a, b, e⟩ := f6
   exact ⟨a, b, by rw [List.getElem?_set_ne (by omega)]; exact e⟩
  ·(repeat fail "go")
   exact ⟨rfl, (ks0, rss0), (ks1, rss1), c0, c1, g6, f6, rfl⟩
 rintro σ H6 ⟨d0, d1, e0, e1, g6, f6, rfl⟩
 clear g5 f5 x5 l5 c0 c1 k0 k1 r0 r1
 have lf6 := f6.lt
 refine w_seq (w_set (w_lc ?_))
 refine w_isq (w_var rfl ?_)
 refine w_itR g6 ?_
 refine Zgd (Zuv g6) (w_yes (w_bt (Zyj ?_)))
 (repeat fail "go")
 refine ⟨rfl, Zid last ⟨rfl, ?_⟩⟩
 have eo : ∀ (Hx : HD) (o : DO), (Hx ++ [DO.obj "Match" []]).set Hx.length o = Hx ++ [o] := fun Hx o => by simp
 rw [eo]
 refine Zgd (Zuv (appL g6)) (w_yes (w_bt (Zyj ?_)))
 (repeat fail "go")
 refine ⟨rfl, Zid last ⟨rfl, ?_⟩⟩
 rw [eo]
 refine Zlu (Zuv (appL (appL g6))) ?_
 refine ⟨by simp, ?_⟩
 refine w_kn (w_seq (w_set (w_lst ?_)))
 (repeat fail "go")
 have P : LP nf p1 (H6 ++ [Zam d0.1 d0.2 []] ++ [Zam d1.1 d1.2 []]).length (H6 ++ [Zam d0.1 d0.2 []] ++ [Zam d1.1 d1.2 []] ++ [DO.lst [.ref H6.length, .ref (H6 ++ [Zam d0.1 d0.2 []]).length]]).length H6.length (H6 ++ [Zam d0.1 d0.2 []]).length := ⟨lt5, lf6, by simp, by simp, by simp⟩
 have S7 : LS nf p1 (H6 ++ [Zam d0.1 d0.2 []] ++ [Zam d1.1 d1.2 []]).length (H6 ++ [Zam d0.1 d0.2 []] ++ [Zam d1.1 d1.2 []] ++ [DO.lst [.ref H6.length, .ref (H6 ++ [Zam d0.1 d0.2 []]).length]]).length H6.length (H6 ++ [Zam d0.1 d0.2 []]).length d0 d1 [] [] (H6 ++ [Zam d0.1 d0.2 []] ++ [Zam d1.1 d1.2 []] ++ [DO.lst [.ref H6.length, .ref (H6 ++ [Zam d0.1 d0.2 []]).length]] ++ [DO.lst [.tup [], .tup []]]) :=
  ⟨(((f6.keep (.app _)).keep (.app _)).keep (.app _)).keep (.app _), appL (appL (appL (appL g6))), appL last, last, appL (appL (appL last)), appL (appL last), by simp, by simp⟩
 generalize H6 ++ [Zam d0.1 d0.2 []] ++ [Zam d1.1 d1.2 []] ++ [DO.lst [.ref H6.length, .ref (H6 ++ [Zam d0.1 d0.2 []]).length]] ++ [DO.lst [.tup [], .tup []]] = H7 at S7 ⊢
 generalize (H6 ++ [Zam d0.1 d0.2 []] ++ [Zam d1.1 d1.2 []] ++ [DO.lst [.ref H6.length, .ref (H6 ++ [Zam d0.1 d0.2 []]).length]]).length = py at P S7 ⊢
 generalize (H6 ++ [Zam d0.1 d0.2 []] ++ [Zam d1.1 d1.2 []]).length = pm at P S7 ⊢
 generalize (H6 ++ [Zam d0.1 d0.2 []]).length = a1 at P S7
 generalize H6.length = a0 at P S7
 clear eo lf6 f6 g6
 refine Zew S7.f (by omega) (by omega) fun r H8 r0 r1 f8 x8 => ?_
 have S8 := S7.feed P x8 f8
 (repeat fail "go")
 refine ⟨_, rfl, ⟨by omega, by omega⟩, ?_⟩
 refine Zn9 (fun σ H' => ∃ b0 b1 z5 z6 z7, LS nf p1 pm py a0 a1 d0 d1 b0 b1 H' ∧ σ = LSt nf p1 pm py (some (.fl (ns.map .int))) z5 z6 z7) (fun _ _ _ => Zow) _ (fun x hx σ H' ⟨b0, b1, z5, z6, z7, s, e⟩ => ?_) _ _ ⟨[], [], none, none, none, S8, rfl⟩ (fun σ H' ⟨b0, b1, z5, z6, z7, s, e⟩ => ?_)
 ·subst e
  unfold LSt
  clear hx S7 S8 x8 f8
  refine w_gnm (w_seq (w_set (w_call ?_)))
  (repeat fail "go")
  refine Zew s.f (by omega) (by omega) fun at_ H9 t0 t1 f9 x9 => ?_
  have s9 := s.feed P x9 f9
  have tail : ∀ b0' b1' y7 H'', LS nf p1 pm py a0 a1 d0 d1 b0' b1' H'' -> wS (Zan (sIf (tOf (eOp gtD (Zal 2 Zai (Zab (Zae 2) (Zab (eC (.int 3)) Zaj))) (eC (.int 0)))) (Zan (sIf (tOf (eOp inD (eC (.bl false)) (eLC (iR1 (Zab (eC (.int 2)) Zaj)) [1, 2, 3, 4] Zgm (Zal 4 Zek (Zab (Zae 2) (Zab (eOp ixD (Zae 3) (Zae 0)) (Zab (eOp ixD (Zae 1) (Zae 0)) (Zab (eOp ixD (Zae 4) (Zae 0)) Zaj)))))))) (Zan (Zb5 (eC (.bl false))) Zas) Zas) Zas) Zas) Zas (LSt nf p1 pm py (some (.fl (ns.map .int))) (some x) (some (.int at_)) y7) H'')
    (again (fun σ H' => ∃ b0 b1 z5 z6 z7, LS nf p1 pm py a0 a1 d0 d1 b0 b1 H' ∧ σ = LSt nf p1 pm py (some (.fl (ns.map .int))) z5 z6 z7) fun _ _ _ => False) := by
   intro b0' b1' y7 Ha sa
   unfold LSt
   refine w_seq (w_if (w_tof (w_op (w_call ?_))))
   (repeat fail "go")
   refine Zew sa.f (by omega) (by omega) fun v Hb v0 v1 fb xb => ?_
   have sb := sa.feed P xb fb
   (repeat fail "go")
   refine ⟨fun hv => ?_, fun hv => ?_⟩
   ·refine w_seq (w_if (w_tof (w_op (w_c (w_lc ?_)))))
    (repeat fail "go")
    refine ⟨_, rfl, ⟨by omega, by omega⟩, ?_⟩
    show wA (Zdh [] _ _ _ [.int 0, .int 1] Hb) _
    refine Zgd Zow (w_yes (w_bt (w_call ?_)))
    (repeat fail "go")
    refine w_ixR sb.m (Zaz (j := 0) rfl) ?_
    (repeat fail "go")
    refine w_ixR sb.k (Zaz (j := 0) rfl) ?_
    (repeat fail "go")
    refine w_ixR sb.y (Zaz (j := 0) rfl) ?_
    (repeat fail "go")
    refine Zqu e0 sb.l0 sb.f sb.o0 fun Hc fc xc => ?_
    have sc := sb.feed P xc fc
    refine Zgd Zow (w_yes (w_bt (w_call ?_)))
    (repeat fail "go")
    refine w_ixR sc.m (Zaz (j := 1) rfl) ?_
    (repeat fail "go")
    refine w_ixR sc.k (Zaz (j := 1) rfl) ?_
    (repeat fail "go")
    refine w_ixR sc.y (Zaz (j := 1) rfl) ?_
    (repeat fail "go")
    refine Zqu e1 sc.l1 sc.f sc.o1 fun Hd fd xd => ?_
    have sd := sc.feed P xd fd
    refine Zlu Zow ?_
    refine ⟨by simp, ?_⟩
    refine Zxa last ?_
    (repeat fail "go")
    exact ⟨_, _, _, _, _, sd.keep (.app _), rfl⟩
   ·(repeat fail "go")
    exact ⟨_, _, _, _, _, sb, rfl⟩
  obtain rfl | rfl : at_ = 0 ∨ at_ = 1 := by omega
  ·refine w_kn (w_seq ?_)
   show wS (lwA (LSt nf p1 pm py (some (.fl (ns.map .int))) (some x) (some (.int 0)) z7) H9) _
   refine lw_0 e0 e1 P s9 fun b0' b1' y7 H'' s' => ?_
   refine w_kn ?_
   exact Zrf (tail b0' b1' y7 H'' s')
  ·refine w_kn (w_seq ?_)
   show wS (lwA (LSt nf p1 pm py (some (.fl (ns.map .int))) (some x) (some (.int 1)) z7) H9) _
   refine lw_1 e0 e1 P s9 fun b0' b1' y7 H'' s' => ?_
   refine w_kn ?_
   exact Zrf (tail b0' b1' y7 H'' s')
 ·subst e
  unfold LSt
  refine w_kn (w_seq (w_if (w_or (w_no (w_ttru (w_call ?_))))))
  (repeat fail "go")
  refine w_ixR s.k (Zaz (j := 0) rfl) ?_
  (repeat fail "go")
  refine Zot e0 s.f fun H9 f9 x9 => ?_
  have s9 := s.feed P x9 f9
  (repeat fail "go")
  refine w_ixR s9.k (Zaz (j := 1) rfl) ?_
  (repeat fail "go")
  refine Zot e1 s9.f fun Ha fa xa => ?_
  have sa := s9.feed P xa fa
  (repeat fail "go")
  refine w_ixR sa.k (Zaz (j := 0) rfl) ?_
  (repeat fail "go")
  refine Zvb e0 sa.f fun Hb fb xb => ?_
  have sb := sa.feed P xb fb
  (repeat fail "go")
  refine w_ixR sb.k (Zaz (j := 1) rfl) ?_
  (repeat fail "go")
  refine Zvb e1 sb.f fun Hc fc xc => ?_
  (repeat fail "go")
  rfl
end K08
set_option maxHeartbeats 8000000
namespace K08
open PySem PySem.Spec PyProof.Rows L2 DL
noncomputable def top (i : Nat) : Stmt := PySem.Challenge.pw_allsome_k68_whole_matches_by_turns.main.body.getD i (.Pass ⟨0, 0, 0, 0⟩)
noncomputable abbrev s_is_whole : Stmt := top 2
theorem Zm4 : FnScope ["thing"] ["thing"] (Zak s_is_whole) := ⟨rfl, rfl, rfl, by decide +kernel, rfl, by decide +kernel, by decide +kernel⟩
noncomputable abbrev s_is_truth : Stmt := top 3
theorem Zns : FnScope ["thing"] ["thing"] (Zak s_is_truth) := ⟨rfl, rfl, rfl, by decide +kernel, rfl, by decide +kernel, by decide +kernel⟩
noncomputable abbrev s_is_open : Stmt := top 4
theorem Zph : FnScope ["literal", "play"] ["literal", "play"] (Zak s_is_open) := ⟨rfl, rfl, rfl, by decide +kernel, rfl, by decide +kernel, by decide +kernel⟩
noncomputable abbrev s_is_right : Stmt := top 5
theorem Zmy : FnScope ["literal", "play"] ["literal", "play"] (Zak s_is_right) := ⟨rfl, rfl, rfl, by decide +kernel, rfl, by decide +kernel, by decide +kernel⟩
noncomputable abbrev s_is_kept : Stmt := top 6
theorem Zjc : FnScope ["row", "play", "literal"] ["row", "play"] (Zak s_is_kept) := ⟨rfl, rfl, rfl, by decide +kernel, rfl, by decide +kernel, by decide +kernel⟩
noncomputable abbrev s_renumbered : Stmt := top 7
theorem Zkz : FnScope ["literal", "many"] ["literal", "many"] (Zak s_renumbered) := ⟨rfl, rfl, rfl, by decide +kernel, rfl, by decide +kernel, by decide +kernel⟩
noncomputable abbrev s_row_left : Stmt := top 8
theorem Zna : FnScope ["row", "play"] ["row", "play"] (Zak s_row_left) := ⟨rfl, rfl, rfl, by decide +kernel, rfl, by decide +kernel, by decide +kernel⟩
noncomputable abbrev s_left : Stmt := top 9
theorem Zq5 : FnScope ["claim", "play", "rows"] ["claim", "play"] (Zak s_left) := ⟨rfl, rfl, rfl, by decide +kernel, rfl, by decide +kernel, by decide +kernel⟩
noncomputable abbrev s_first_numbers : Stmt := top 16
theorem Zc4 : FnScope ["rows", "told", "number", "row"] ["rows"] (Zak s_first_numbers) := ⟨rfl, rfl, rfl, by decide +kernel, rfl, by decide +kernel, by decide +kernel⟩
noncomputable abbrev s_rows_behind : Stmt := top 17
theorem Zc2 : FnScope ["rows", "name", "truth", "right", "told", "row", "first"] ["rows", "name", "truth"] (Zak s_rows_behind) := ⟨rfl, rfl, rfl, by decide +kernel, rfl, by decide +kernel, by decide +kernel⟩
noncomputable abbrev s_rows_behind_play : Stmt := top 18
theorem Zbv : FnScope ["rows", "play", "told", "name", "truth"] ["rows", "play"] (Zak s_rows_behind_play) := ⟨rfl, rfl, rfl, by decide +kernel, rfl, by decide +kernel, by decide +kernel⟩
noncomputable abbrev s_other_side : Stmt := top 19
theorem Zj4 : FnScope ["side"] ["side"] (Zak s_other_side) := ⟨rfl, rfl, rfl, by decide +kernel, rfl, by decide +kernel, by decide +kernel⟩
noncomputable abbrev s_winner_behind : Stmt := top 20
theorem Zea : FnScope ["kinds", "rows", "many", "who", "truth"] ["kinds", "rows", "many"] (Zak s_winner_behind) := ⟨rfl, rfl, rfl, by decide +kernel, rfl, by decide +kernel, by decide +kernel⟩
noncomputable abbrev s_winner : Stmt := top 21
theorem Zsh : FnScope ["claim", "play"] ["claim", "play"] (Zak s_winner) := ⟨rfl, rfl, rfl, by decide +kernel, rfl, by decide +kernel, by decide +kernel⟩
noncomputable abbrev s_good_picks : Stmt := top 22
theorem Zg4 : FnScope ["claim", "play", "who"] ["claim", "play"] (Zak s_good_picks) := ⟨rfl, rfl, rfl, by decide +kernel, rfl, by decide +kernel, by decide +kernel⟩
noncomputable abbrev s_are_of_all : Stmt := top 26
theorem Zkn : FnScope ["kinds", "literals"] ["kinds", "literals"] (Zak s_are_of_all) := ⟨rfl, rfl, rfl, by decide +kernel, rfl, by decide +kernel, by decide +kernel⟩
noncomputable abbrev s_number_of_lost : Stmt := top 27
theorem Ze9 : FnScope ["kinds", "rows", "row"] ["kinds", "rows"] (Zak s_number_of_lost) := ⟨rfl, rfl, rfl, by decide +kernel, rfl, by decide +kernel, by decide +kernel⟩
noncomputable abbrev s_plan_behind : Stmt := top 28
theorem Zf5 : FnScope ["kinds", "rows", "many", "number"] ["kinds", "rows", "many"] (Zak s_plan_behind) := ⟨rfl, rfl, rfl, by decide +kernel, rfl, by decide +kernel, by decide +kernel⟩
noncomputable abbrev s_plan : Stmt := top 30
theorem Zw6 : FnScope ["claim"] ["claim"] (Zak s_plan) := ⟨rfl, rfl, rfl, by decide +kernel, rfl, by decide +kernel, by decide +kernel⟩
noncomputable abbrev s_is_plan_end : Stmt := top 31
theorem Zez : FnScope ["claim", "side", "play", "thing", "number", "row"] ["claim", "side", "play", "thing"] (Zak s_is_plan_end) := ⟨rfl, rfl, rfl, by decide +kernel, rfl, by decide +kernel, by decide +kernel⟩
noncomputable abbrev s_is_plan_behind : Stmt := top 32
theorem Zhc : FnScope ["claim", "side", "play", "thing", "picks", "truth", "tree"] ["claim", "side", "play", "thing"] (Zak s_is_plan_behind) := ⟨rfl, rfl, rfl, by decide +kernel, rfl, by decide +kernel, by decide +kernel⟩
noncomputable abbrev s_is_plan : Stmt := top 33
theorem Zpf : FnScope ["claim", "side", "thing"] ["claim", "side", "thing"] (Zak s_is_plan) := ⟨rfl, rfl, rfl, by decide +kernel, rfl, by decide +kernel, by decide +kernel⟩
noncomputable abbrev s_law_feed : Stmt := top 35
theorem Zds : FnScope ["script", "k", "cell", "digits", "start"] ["script", "k"] (Zak s_law_feed) := ⟨rfl, rfl, rfl, by decide +kernel, rfl, by decide +kernel, by decide +kernel⟩
noncomputable abbrev s_law_take : Stmt := top 36
theorem Zir : FnScope ["feed", "many", "found"] ["feed", "many"] (Zak s_law_take) := ⟨rfl, rfl, rfl, by decide +kernel, rfl, by decide +kernel, by decide +kernel⟩
noncomputable abbrev s_law_pick : Stmt := top 37
theorem Znn : FnScope ["feed", "some"] ["feed", "some"] (Zak s_law_pick) := ⟨rfl, rfl, rfl, by decide +kernel, rfl, by decide +kernel, by decide +kernel⟩
noncomputable abbrev s_law_row : Stmt := top 39
theorem Zef : FnScope ["feed", "many", "sizes", "size", "names", "found", "turn"] ["feed", "many"] (Zak s_law_row) := ⟨rfl, rfl, rfl, by decide +kernel, rfl, by decide +kernel, by decide +kernel⟩
noncomputable abbrev s_law_claim : Stmt := top 40
theorem Zcu : FnScope ["feed", "most", "rows", "many", "way", "kinds", "size", "found"] ["feed", "most", "rows"] (Zak s_law_claim) := ⟨rfl, rfl, rfl, by decide +kernel, rfl, by decide +kernel, by decide +kernel⟩
noncomputable abbrev s_Match_init : Stmt := (Zft (top 24)).getD 0 (.Pass ⟨0, 0, 0, 0⟩)
theorem Zkb : FnScope ["self", "claim"] ["self", "claim"] (Zak s_Match_init) := ⟨rfl, rfl, rfl, by decide +kernel, rfl, by decide +kernel, by decide +kernel⟩
noncomputable abbrev s_Match_pick : Stmt := (Zft (top 24)).getD 1 (.Pass ⟨0, 0, 0, 0⟩)
theorem Zku : FnScope ["self", "truth"] ["self", "truth"] (Zak s_Match_pick) := ⟨rfl, rfl, rfl, by decide +kernel, rfl, by decide +kernel, by decide +kernel⟩
noncomputable abbrev s_Match_back : Stmt := (Zft (top 24)).getD 2 (.Pass ⟨0, 0, 0, 0⟩)
theorem Zj1 : FnScope ["self"] ["self"] (Zak s_Match_back) := ⟨rfl, rfl, rfl, by decide +kernel, rfl, by decide +kernel, by decide +kernel⟩
noncomputable abbrev s_Match_play : Stmt := (Zft (top 24)).getD 3 (.Pass ⟨0, 0, 0, 0⟩)
theorem Zkt : FnScope ["self"] ["self"] (Zak s_Match_play) := ⟨rfl, rfl, rfl, by decide +kernel, rfl, by decide +kernel, by decide +kernel⟩
noncomputable abbrev s_Match_turn : Stmt := (Zft (top 24)).getD 4 (.Pass ⟨0, 0, 0, 0⟩)
theorem Zko : FnScope ["self"] ["self"] (Zak s_Match_turn) := ⟨rfl, rfl, rfl, by decide +kernel, rfl, by decide +kernel, by decide +kernel⟩
noncomputable abbrev s_Match_who : Stmt := (Zft (top 24)).getD 5 (.Pass ⟨0, 0, 0, 0⟩)
theorem Zmc : FnScope ["self"] ["self"] (Zak s_Match_who) := ⟨rfl, rfl, rfl, by decide +kernel, rfl, by decide +kernel, by decide +kernel⟩
noncomputable abbrev s_Match_good : Stmt := (Zft (top 24)).getD 6 (.Pass ⟨0, 0, 0, 0⟩)
theorem Zkv : FnScope ["self"] ["self"] (Zak s_Match_good) := ⟨rfl, rfl, rfl, by decide +kernel, rfl, by decide +kernel, by decide +kernel⟩
noncomputable abbrev s_Match_left : Stmt := (Zft (top 24)).getD 7 (.Pass ⟨0, 0, 0, 0⟩)
theorem Zkd : FnScope ["self"] ["self"] (Zak s_Match_left) := ⟨rfl, rfl, rfl, by decide +kernel, rfl, by decide +kernel, by decide +kernel⟩
noncomputable abbrev s_law_tells : Stmt := top 41
theorem Zck : FnScope ["feed", "match", "claim", "play", "due", "first", "turn", "which", "found"] ["feed", "match", "claim", "play"] (Zak s_law_tells) := ⟨rfl, rfl, rfl, by decide +kernel, rfl, by decide +kernel, by decide +kernel⟩
noncomputable abbrev s_law_all_of : Stmt := top 42
theorem Zjv : FnScope ["match"] ["match"] (Zak s_law_all_of) := ⟨rfl, rfl, rfl, by decide +kernel, rfl, by decide +kernel, by decide +kernel⟩
noncomputable abbrev s_law_played_out : Stmt := top 43
theorem Za4 : FnScope ["feed", "claim", "match", "side", "told", "held", "due", "good", "truth"] ["feed", "claim"] (Zak s_law_played_out) := ⟨rfl, rfl, rfl, by decide +kernel, rfl, by decide +kernel, by decide +kernel⟩
noncomputable abbrev s_law_rest_right : Stmt := top 44
theorem Zbu : FnScope ["feed", "claim", "play", "match", "truth", "rest"] ["feed", "claim"] (Zak s_law_rest_right) := ⟨rfl, rfl, rfl, by decide +kernel, rfl, by decide +kernel, by decide +kernel⟩
noncomputable abbrev s_law : Stmt := top 45
theorem Zht : FnScope ["script", "claims", "feed", "matches", "plays", "turn", "at", "truth"] ["script"] (Zak s_law) := ⟨rfl, rfl, rfl, by decide +kernel, rfl, by decide +kernel, by decide +kernel⟩
structure Top (K : PySem.W.Frag) (mg : Str -> Option Value) : Prop where
 t_is_whole : Tf K mg "is_whole" K08.s_is_whole
 t_is_truth : Tf K mg "is_truth" K08.s_is_truth
 t_is_open : Tf K mg "is_open" K08.s_is_open
 t_is_right : Tf K mg "is_right" K08.s_is_right
 t_is_kept : Tf K mg "is_kept" K08.s_is_kept
 t_renumbered : Tf K mg "renumbered" K08.s_renumbered
 t_row_left : Tf K mg "row_left" K08.s_row_left
 t_left : Tf K mg "left" K08.s_left
 t_first_numbers : Tf K mg "first_numbers" K08.s_first_numbers
 t_rows_behind : Tf K mg "rows_behind" K08.s_rows_behind
 t_rows_behind_play : Tf K mg "rows_behind_play" K08.s_rows_behind_play
 t_other_side : Tf K mg "other_side" K08.s_other_side
 t_winner_behind : Tf K mg "winner_behind" K08.s_winner_behind
 t_winner : Tf K mg "winner" K08.s_winner
 t_good_picks : Tf K mg "good_picks" K08.s_good_picks
 t_are_of_all : Tf K mg "are_of_all" K08.s_are_of_all
 t_number_of_lost : Tf K mg "number_of_lost" K08.s_number_of_lost
 t_plan_behind : Tf K mg "plan_behind" K08.s_plan_behind
 t_plan : Tf K mg "plan" K08.s_plan
 t_is_plan_end : Tf K mg "is_plan_end" K08.s_is_plan_end
 t_is_plan_behind : Tf K mg "is_plan_behind" K08.s_is_plan_behind
 t_is_plan : Tf K mg "is_plan" K08.s_is_plan
 t_law_feed : Tf K mg "_law_feed" K08.s_law_feed
 t_law_take : Tf K mg "_law_take" K08.s_law_take
 t_law_pick : Tf K mg "_law_pick" K08.s_law_pick
 t_law_row : Tf K mg "_law_row" K08.s_law_row
 t_law_claim : Tf K mg "_law_claim" K08.s_law_claim
 t_Match_init : Ti K mg "Match" "Match.__init__" K08.s_Match_init
 t_Match_pick : Tm K "Match" "pick" "Match.pick" K08.s_Match_pick
 t_Match_back : Tm K "Match" "back" "Match.back" K08.s_Match_back
 t_Match_play : Tm K "Match" "play" "Match.play" K08.s_Match_play
 t_Match_turn : Tm K "Match" "turn" "Match.turn" K08.s_Match_turn
 t_Match_who : Tm K "Match" "who" "Match.who" K08.s_Match_who
 t_Match_good : Tm K "Match" "good" "Match.good" K08.s_Match_good
 t_Match_left : Tm K "Match" "left" "Match.left" K08.s_Match_left
 t_law_tells : Tf K mg "_law_tells" K08.s_law_tells
 t_law_all_of : Tf K mg "_law_all_of" K08.s_law_all_of
 t_law_played_out : Tf K mg "_law_played_out" K08.s_law_played_out
 t_law_rest_right : Tf K mg "_law_rest_right" K08.s_law_rest_right
 t_law : Tf K mg "law" K08.s_law
 l_Match : Kl K "Match" ["begun", "picked"]
 a_left_claims : mg "left_claims" = mg "left"
 n_abs : mg "abs" = none
 n_all : mg "all" = none
 n_bool : mg "bool" = none
 n_enumerate : mg "enumerate" = none
 n_int : mg "int" = none
 n_isinstance : mg "isinstance" = none
 n_len : mg "len" = none
 n_list : mg "list" = none
 n_min : mg "min" = none
 n_range : mg "range" = none
 n_reversed : mg "reversed" = none
 n_sorted : mg "sorted" = none
 n_tuple : mg "tuple" = none
 c_TRUTHS : Gc K mg "TRUTHS" k_TRUTHS
section
variable {P : Program} {w : World} {K : PySem.W.Frag} {mg : Str -> Option Value} {base : Heap}
theorem Znb (T : Top K mg) : Fn P w K mg base 1 "is_whole" ["thing"] Zfv := by
 refine (fun h => h : _ → Fn P w K mg base 1 "is_whole" ["thing"] (Zbq 1 1 Ze3)) (Zc0 (N := ["thing"]) (k := 0) T.t_is_whole Zm4 (fun _ _ _ _ _ _ us hl => by obtain ⟨_, rfl⟩ := us1 hl; rfl) ?_)
 intro f cdv A outer s H E hr
 unfold Ze3
 refine Zac ?_ Zaf
 refine Zao ?_
 refine Zga ?_ ?_
 refine Zaq Zh7 ?_ T.n_isinstance Zfd ?_
 rfl
 refine Zag ?_ ?_ ?_
 exact (Zaa (pv 0))
 refine Zag ?_ ?_ ?_
 refine Zrt ?_ T.n_int Zuw
 rfl
 exact Zad
 rfl
 rfl
 refine Zgl ?_
 refine Znt ?_
 refine Zaq Zh7 ?_ T.n_isinstance Zfd ?_
 rfl
 refine Zag ?_ ?_ ?_
 exact (Zaa (pv 0))
 refine Zag ?_ ?_ ?_
 refine Zrt ?_ T.n_bool Zxi
 rfl
 exact Zad
 rfl
 rfl
theorem Znq (T : Top K mg) : Fn P w K mg base 1 "is_truth" ["thing"] Zf0 := by
 refine (fun h => h : _ → Fn P w K mg base 1 "is_truth" ["thing"] (Zbq 1 1 Ze2)) (Zc0 (N := ["thing"]) (k := 0) T.t_is_truth Zns (fun _ _ _ _ _ _ us hl => by obtain ⟨_, rfl⟩ := us1 hl; rfl) ?_)
 intro f cdv A outer s H E hr
 unfold Ze2
 refine Zac ?_ Zaf
 refine Zao ?_
 refine Zx3 ?_ ?_
 exact Zcx Zp4 (Zaa (pv 0)) Zdo (Zat _)
 refine Zgl ?_
 exact Zcx Zp4 (Zaa (pv 0)) Zdo (Zat _)
theorem Zpg (T : Top K mg) : Fn P w K mg base 1 "is_open" ["literal", "play"] Zde := by
 refine (fun h => h : _ → Fn P w K mg base 1 "is_open" ["literal", "play"] (Zbq 2 2 Zei)) (Zc0 (N := ["literal", "play"]) (k := 0) T.t_is_open Zph (fun _ _ _ _ _ _ us hl => by obtain ⟨_, _, rfl⟩ := us2 hl; rfl) ?_)
 intro f cdv A outer s H E hr
 unfold Zei
 refine Zac ?_ Zaf
 refine Zao ?_
 refine Zcx Zjd ?_ ?_ (Zat _)
 refine Zaq Zij ?_ T.n_abs Zse ?_
 rfl
 refine Zag ?_ ?_ ?_
 exact (Zaa (pv 0))
 exact Zad
 rfl
 refine Zaq Za1 ?_ T.n_len Zb6 ?_
 rfl
 refine Zag ?_ ?_ ?_
 exact (Zaa (pv 1))
 exact Zad
 rfl
theorem Zm0 (T : Top K mg) (F_is_open : Fn P w K mg base 1 "is_open" ["literal", "play"] Zde) : Fn P w K mg base 2 "is_right" ["literal", "play"] Ze6 := by
 refine (fun h => h : _ → Fn P w K mg base 2 "is_right" ["literal", "play"] (Zbq 2 2 Zdr)) (Zc0 (N := ["literal", "play"]) (k := 1) T.t_is_right Zmy (fun _ _ _ _ _ _ us hl => by obtain ⟨_, _, rfl⟩ := us2 hl; rfl) ?_)
 intro f cdv A outer s H E hr
 unfold Zdr
 refine Zac ?_ Zaf
 refine Zao ?_
 refine Zga ?_ ?_
 refine Znt ?_
 refine Zap F_is_open (hr.mono (by decide)) ?_ ?_
 rfl
 refine Zag ?_ ?_ ?_
 exact (Zaa (pv 0))
 refine Zag ?_ ?_ ?_
 exact (Zaa (pv 1))
 exact Zad
 rfl
 rfl
 refine Zgl ?_
 refine Zcx (Zbp hr.units) ?_ ?_ (Zat _)
 refine Zay ixf (Zaa (pv 1)) ?_ (fun _ _ => rfl)
 refine Za3 Zha ?_ Zah
 refine Zaq Zij ?_ T.n_abs Zse ?_
 rfl
 refine Zag ?_ ?_ ?_
 exact (Zaa (pv 0))
 exact Zad
 rfl
 exact Zcx Zjd (Zaa (pv 0)) Zah (Zat _)
theorem Zpu (T : Top K mg) (F_is_right : Fn P w K mg base 2 "is_right" ["literal", "play"] Ze6) : Fn P w K mg base 3 "is_kept" ["row", "play"] Zdk := by
 refine (fun h => h : _ → Fn P w K mg base 3 "is_kept" ["row", "play"] (Zbq 2 3 Zej)) (Zc0 (N := ["row", "play", "literal"]) (k := 2) T.t_is_kept Zjc (fun _ _ _ _ _ _ us hl => by obtain ⟨_, _, rfl⟩ := us2 hl; rfl) ?_)
 intro f cdv A outer s H E hr
 unfold Zej
 refine Zac ?_ ?_
 refine Zeh PassesOwn.never ?_ ?_ ?_ ?_
 rfl
 exact Zd9 (Zaa (pv 0))
 refine Zcv (i := 2) ?_ ?_ ?_
 exact Zjc.nd
 rfl
 first | exact Or.inl rfl | exact Or.inr rfl
 refine Zac ?_ Zaf
 refine Zbe ?_ ?_ Zaf
 refine Zce ?_ (fun _ => rfl)
 refine Zap F_is_right (hr.mono (by decide)) ?_ ?_
 rfl
 refine Zag ?_ ?_ ?_
 exact (Zaa (pv 2))
 refine Zag ?_ ?_ ?_
 exact (Zaa (pv 1))
 exact Zad
 rfl
 rfl
 refine Zac ?_ Zaf
 exact Zao Zdo
 refine Zac ?_ Zaf
 exact Zao Zdo
theorem Zki (T : Top K mg) : Fn P w K mg base 1 "renumbered" ["literal", "many"] Zet := by
 refine (fun h => h : _ → Fn P w K mg base 1 "renumbered" ["literal", "many"] (Zbq 2 2 Zd7)) (Zc0 (N := ["literal", "many"]) (k := 0) T.t_renumbered Zkz (fun _ _ _ _ _ _ us hl => by obtain ⟨_, _, rfl⟩ := us2 hl; rfl) ?_)
 intro f cdv A outer s H E hr
 unfold Zd7
 refine Zac ?_ Zaf
 refine Zao ?_
 refine Zjo ?_ ?_ ?_
 exact Zar Zjd (Zaa (pv 0)) Zah (Zat _)
 exact Za3 Zha (Zaa (pv 0)) (Zaa (pv 1))
 exact Za3 Zb4 (Zaa (pv 0)) (Zaa (pv 1))
theorem Zn3 (T : Top K mg) (F_renumbered : Fn P w K mg base 1 "renumbered" ["literal", "many"] Zet) (F_is_open : Fn P w K mg base 1 "is_open" ["literal", "play"] Zde) : Fn P w K mg base 2 "row_left" ["row", "play"] Zfy := by
 refine (fun h => h : _ → Fn P w K mg base 2 "row_left" ["row", "play"] (Zbq 2 2 Ze5)) (Zc0 (N := ["row", "play"]) (k := 1) T.t_row_left Zna (fun _ _ _ _ _ _ us hl => by obtain ⟨_, _, rfl⟩ := us2 hl; rfl) ?_)
 intro f cdv A outer s H E hr
 unfold Ze5
 refine Zac ?_ Zaf
 refine Zao ?_
 refine Zdb Zdu ?_ T.n_tuple Zfg ?_
 rfl
 refine Zag ?_ ?_ ?_
 refine Zg1 (cn := ["play"]) ?_ (Ze0 (x := "literal") (cn := ["play"]) (ci := [1]) (by decide +kernel)) ?_ ?_ ?_
 rfl
 exact Zd9 (Zaa (pv 0))
 intro _ _ _ _ _ _
 refine Zgq ?_
 refine Zce ?_ (fun _ => rfl)
 refine Zap F_is_open (hr.mono (by decide)) ?_ ?_
 rfl
 refine Zag ?_ ?_ ?_
 exact (Zaa (pv 0))
 refine Zag ?_ ?_ ?_
 exact (Zaa (pv 1))
 exact Zad
 rfl
 rfl
 intro _ _ _ _ _ _
 refine Zap F_renumbered (hr.mono (by decide)) ?_ ?_
 rfl
 refine Zag ?_ ?_ ?_
 exact (Zaa (pv 0))
 refine Zag ?_ ?_ ?_
 refine Zaq Za1 ?_ T.n_len Zb6 ?_
 rfl
 refine Zag ?_ ?_ ?_
 exact (Zaa (pv 1))
 exact Zad
 rfl
 exact Zad
 rfl
 rfl
 exact Zad
 rfl
theorem Zw7 (T : Top K mg) (F_row_left : Fn P w K mg base 2 "row_left" ["row", "play"] Zfy) (F_is_kept : Fn P w K mg base 3 "is_kept" ["row", "play"] Zdk) : Fn P w K mg base 4 "left" ["claim", "play"] Zhu := by
 refine (fun h => h : _ → Fn P w K mg base 4 "left" ["claim", "play"] (Zbq 2 3 Zmp)) (Zc0 (N := ["claim", "play", "rows"]) (k := 3) T.t_left Zq5 (fun _ _ _ _ _ _ us hl => by obtain ⟨_, _, rfl⟩ := us2 hl; rfl) ?_)
 intro f cdv A outer s H E hr
 unfold Zmp
 refine Zac ?_ ?_
 refine Zgt (i := 2) (cn := ["play"]) ?_ (Ze0 (x := "row") (cn := ["play"]) (ci := [1]) (by decide +kernel)) ?_ ?_ ?_ ?_ ?_ ?_
 rfl
 refine Zd9 ?_
 exact Zay ixf (Zaa (pv 0)) Zah (fun _ _ => rfl)
 intro _ _ _ _ _ _
 refine Zgq ?_
 refine Zg6 ?_
 refine Zce ?_ (fun _ => rfl)
 refine Zap F_is_kept (hr.mono (by decide)) ?_ ?_
 rfl
 refine Zag ?_ ?_ ?_
 exact (Zaa (pv 0))
 refine Zag ?_ ?_ ?_
 exact (Zaa (pv 1))
 exact Zad
 rfl
 rfl
 intro _ _ _ _ _ _
 refine Zap F_row_left (hr.mono (by decide)) ?_ ?_
 rfl
 refine Zag ?_ ?_ ?_
 exact (Zaa (pv 0))
 refine Zag ?_ ?_ ?_
 exact (Zaa (pv 1))
 exact Zad
 rfl
 rfl
 exact Zq5.nd
 rfl
 rfl
 refine Zac ?_ Zaf
 refine Zao ?_
 refine Zct ?_
 refine Zag ?_ ?_ ?_
 refine Zeo ?_ ?_ Zfb
 exact Zay ixf (Zaa (pv 0)) Zah (fun _ _ => rfl)
 refine Zfi ?_
 refine Zaq Za1 ?_ T.n_len Zb6 ?_
 rfl
 refine Zag ?_ ?_ ?_
 exact (Zaa (pv 1))
 exact Zad
 rfl
 refine Zag ?_ ?_ ?_
 refine Zdb Zdu ?_ T.n_tuple Zfg ?_
 rfl
 refine Zag ?_ ?_ ?_
 exact (Zaa (pv 2))
 exact Zad
 rfl
 exact Zad
 rfl
 rfl
theorem Zhy (T : Top K mg) : Fn P w K mg base 1 "first_numbers" ["rows"] Zbk := by
 refine (fun h => h : _ → Fn P w K mg base 1 "first_numbers" ["rows"] (Zbq 1 4 Zcr)) (Zc0 (N := ["rows", "told", "number", "row"]) (k := 0) T.t_first_numbers Zc4 (fun _ _ _ _ _ _ us hl => by obtain ⟨_, rfl⟩ := us1 hl; rfl) ?_)
 intro f cdv A outer s H E hr
 unfold Zcr
 refine Zac ?_ ?_
 refine Zav (i := 1) ?_ ?_ ?_ Zou
 exact Zc4.nd
 rfl
 first | exact Or.inl rfl | exact Or.inr rfl
 refine Zac ?_ ?_
 refine Zeh PassesOwn.never ?_ ?_ ?_ ?_
 rfl
 refine Zta ?_ T.n_enumerate ?_
 rfl
 refine Zag ?_ ?_ ?_
 exact (Zaa (pv 0))
 exact Zad
 rfl
 refine Zr7 ?_ ?_
 rfl
 refine Zgr ?_ ?_
 refine Zcv (i := 2) ?_ ?_ ?_
 exact Zc4.nd
 rfl
 first | exact Or.inl rfl | exact Or.inr rfl
 refine Zgr ?_ Zn8
 refine Zcv (i := 3) ?_ ?_ ?_
 exact Zc4.nd
 rfl
 first | exact Or.inl rfl | exact Or.inr rfl
 refine Zac ?_ Zaf
 refine Zcj ?_
 refine Zrz PySem.F.slot_dict_setdefault PySem.F.type_dict_setdefault (Zwu hr.units) (Zaa (pv 1)) ?_
 refine Zag ?_ ?_ ?_
 exact (Zaa (pv 3))
 refine Zag ?_ ?_ ?_
 exact (Zaa (pv 2))
 exact Zad
 rfl
 rfl
 refine Zac ?_ Zaf
 exact Zao (Zaa (pv 1))
theorem Zi3 (T : Top K mg) : Fn P w K mg base 1 "rows_behind" ["rows", "name", "truth"] Za9 := by
 refine (fun h => h : _ → Fn P w K mg base 1 "rows_behind" ["rows", "name", "truth"] (Zbq 3 7 Zdl)) (Zc0 (N := ["rows", "name", "truth", "right", "told", "row", "first"]) (k := 0) T.t_rows_behind Zc2 (fun _ _ _ _ _ _ us hl => by obtain ⟨_, _, _, rfl⟩ := us3 hl; rfl) ?_)
 intro f cdv A outer s H E hr
 unfold Zdl
 refine Zac ?_ ?_
 refine Zav (i := 3) ?_ ?_ ?_ ?_
 exact Zc2.nd
 rfl
 first | exact Or.inl rfl | exact Or.inr rfl
 refine Zjo ?_ (Zaa (pv 1)) ?_
 exact Zce (Zaa (pv 2)) (fun _ => rfl)
 exact Zmi Zih (Zaa (pv 1))
 refine Zac ?_ ?_
 refine Zav (i := 4) ?_ ?_ ?_ Zou
 exact Zc2.nd
 rfl
 first | exact Or.inl rfl | exact Or.inr rfl
 refine Zac ?_ ?_
 refine Zeh PassesOwn.never ?_ ?_ ?_ ?_
 rfl
 exact Zqo (Zaa (pv 0))
 refine Zcv (i := 5) ?_ ?_ ?_
 exact Zc2.nd
 rfl
 first | exact Or.inl rfl | exact Or.inr rfl
 refine Zac ?_ ?_
 refine Zav (i := 6) ?_ ?_ ?_ ?_
 exact Zc2.nd
 rfl
 first | exact Or.inl rfl | exact Or.inr rfl
 refine Zjo ?_ ?_ Zah
 exact Zce (Zaa (pv 5)) (fun _ => rfl)
 exact Zay ixf (Zaa (pv 5)) Zah (fun _ _ => rfl)
 refine Zac ?_ Zaf
 refine Zbe ?_ ?_ ?_
 refine Zar (Zbp hr.units) (Zaa (pv 6)) ?_ (Zat _)
 exact Zmi Zih (Zaa (pv 3))
 refine Zac ?_ Zaf
 refine Zcj ?_
 refine Zrz PySem.F.slot_dict_setdefault PySem.F.type_dict_setdefault (Zwu hr.units) (Zaa (pv 4)) ?_
 refine Zag ?_ ?_ ?_
 refine Zeo (Zaa (pv 5)) ?_ Zfb
 exact Zfi Zah
 refine Zag ?_ ?_ ?_
 exact Zay (Zvp hr.units) (Zaa (pv 0)) (Zaa (pv 5)) (fun _ _ => rfl)
 exact Zad
 rfl
 rfl
 refine Zac ?_ Zaf
 refine Zbe ?_ ?_ Zaf
 exact Zar (Zeg hr.units) (Zaa (pv 6)) (Zaa (pv 3)) (Zat _)
 refine Zac ?_ Zaf
 refine Zcj ?_
 refine Zrz PySem.F.slot_dict_setdefault PySem.F.type_dict_setdefault (Zwu hr.units) (Zaa (pv 4)) ?_
 refine Zag ?_ ?_ ?_
 exact (Zaa (pv 5))
 refine Zag ?_ ?_ ?_
 exact Zay (Zvp hr.units) (Zaa (pv 0)) (Zaa (pv 5)) (fun _ _ => rfl)
 exact Zad
 rfl
 rfl
 refine Zac ?_ Zaf
 exact Zao (Zaa (pv 4))
theorem Zgk (T : Top K mg) (F_rows_behind : Fn P w K mg base 1 "rows_behind" ["rows", "name", "truth"] Za9) (F_first_numbers : Fn P w K mg base 1 "first_numbers" ["rows"] Zbk) : Fn P w K mg base 2 "rows_behind_play" ["rows", "play"] Zb0 := by
 refine (fun h => h : _ → Fn P w K mg base 2 "rows_behind_play" ["rows", "play"] (Zbq 2 5 Zbx)) (Zc0 (N := ["rows", "play", "told", "name", "truth"]) (k := 1) T.t_rows_behind_play Zbv (fun _ _ _ _ _ _ us hl => by obtain ⟨_, _, rfl⟩ := us2 hl; rfl) ?_)
 intro f cdv A outer s H E hr
 unfold Zbx
 refine Zac ?_ ?_
 refine Zav (i := 2) ?_ ?_ ?_ ?_
 exact Zbv.nd
 rfl
 first | exact Or.inl rfl | exact Or.inr rfl
 refine Zap F_first_numbers (hr.mono (by decide)) ?_ ?_
 rfl
 refine Zag ?_ ?_ ?_
 exact (Zaa (pv 0))
 exact Zad
 rfl
 refine Zac ?_ ?_
 refine Zeh PassesOwn.never ?_ ?_ ?_ ?_
 rfl
 refine Zri ?_ T.n_enumerate ?_
 rfl
 refine Zag ?_ ?_ ?_
 exact (Zaa (pv 1))
 exact Zad
 rfl
 refine Zr7 ?_ ?_
 rfl
 refine Zgr ?_ ?_
 refine Zcv (i := 3) ?_ ?_ ?_
 exact Zbv.nd
 rfl
 first | exact Or.inl rfl | exact Or.inr rfl
 refine Zgr ?_ Zn8
 refine Zcv (i := 4) ?_ ?_ ?_
 exact Zbv.nd
 rfl
 first | exact Or.inl rfl | exact Or.inr rfl
 refine Zac ?_ Zaf
 refine Zav (i := 2) ?_ ?_ ?_ ?_
 exact Zbv.nd
 rfl
 first | exact Or.inl rfl | exact Or.inr rfl
 refine Zap F_rows_behind (hr.mono (by decide)) ?_ ?_
 rfl
 refine Zag ?_ ?_ ?_
 exact (Zaa (pv 2))
 refine Zag ?_ ?_ ?_
 exact (Zaa (pv 3))
 refine Zag ?_ ?_ ?_
 exact (Zaa (pv 4))
 exact Zad
 rfl
 rfl
 rfl
 refine Zac ?_ Zaf
 exact Zao (Zaa (pv 2))
theorem Zj3 (T : Top K mg) : Fn P w K mg base 1 "other_side" ["side"] Zcq := by
 refine (fun h => h : _ → Fn P w K mg base 1 "other_side" ["side"] (Zbq 1 1 Zd2)) (Zc0 (N := ["side"]) (k := 0) T.t_other_side Zj4 (fun _ _ _ _ _ _ us hl => by obtain ⟨_, rfl⟩ := us1 hl; rfl) ?_)
 intro f cdv A outer s H E hr
 unfold Zd2
 refine Zac ?_ Zaf
 refine Zao ?_
 refine Zjo ?_ Zci Zci
 exact Zar (Zbp hr.units) (Zaa (pv 0)) Zci (Zat _)
theorem Zhz (T : Top K mg) (F_other_side : Fn P w K mg base 1 "other_side" ["side"] Zcq) (F_rows_behind : Fn P w K mg base 1 "rows_behind" ["rows", "name", "truth"] Za9) : Fn P w K mg base 12 "winner_behind" ["kinds", "rows", "many"] Zcs := by
 refine (fun h => h : _ → Fn P w K mg base 12 "winner_behind" ["kinds", "rows", "many"] (Zxk 3 5 Za7 10)) (Zuz (N := ["kinds", "rows", "many", "who", "truth"]) (k := 1) T.t_winner_behind Zea (fun _ _ _ _ _ _ us hl => by obtain ⟨_, _, _, rfl⟩ := us3 hl; rfl) ?_ 10)
 intro F j G f cdv A outer s H E hr
 unfold Za7
 refine Zac ?_ ?_
 refine Zbe ?_ ?_ Zaf
 refine Zar (dinf hr.units) ?_ (Zaa (pv 1)) ?_
 exact Zct Zad
 with_unfolding_all rfl
 refine Zac ?_ Zaf
 exact Zao Zci
 refine Zac ?_ ?_
 refine Zbe ?_ ?_ Zaf
 refine Zar (Zbp hr.units) ?_ Zah (Zat _)
 refine Zaq Zjm ?_ T.n_len Zb6 ?_
 rfl
 refine Zag ?_ ?_ ?_
 exact (Zaa (pv 1))
 exact Zad
 rfl
 refine Zac ?_ Zaf
 exact Zao Zci
 refine Zac ?_ ?_
 refine Zav (i := 3) ?_ ?_ ?_ ?_
 exact Zea.nd
 rfl
 first | exact Or.inl rfl | exact Or.inr rfl
 exact Zay ixf (Zaa (pv 0)) (Zaa (pv 2)) (fun _ _ => rfl)
 refine Zac ?_ ?_
 refine Zeh PassesOwn.never ?_ ?_ ?_ ?_
 rfl
 refine Zd9 ?_
 refine Zuo ?_ T.c_TRUTHS
 rfl
 refine Zcv (i := 4) ?_ ?_ ?_
 exact Zea.nd
 rfl
 first | exact Or.inl rfl | exact Or.inr rfl
 refine Zac ?_ Zaf
 refine Zbe ?_ ?_ Zaf
 refine Zar (Zbp hr.units) ?_ (Zaa (pv 3)) (Zat _)
 refine Zap G (hr.mono (Nat.le_refl _)) ?_ ?_
 rfl
 refine Zag ?_ ?_ ?_
 exact (Zaa (pv 0))
 refine Zag ?_ ?_ ?_
 refine Zap F_rows_behind (hr.mono (by omega)) ?_ ?_
 rfl
 refine Zag ?_ ?_ ?_
 exact (Zaa (pv 1))
 refine Zag ?_ ?_ ?_
 exact Za3 Zb4 (Zaa (pv 2)) Zah
 refine Zag ?_ ?_ ?_
 exact (Zaa (pv 4))
 exact Zad
 rfl
 rfl
 rfl
 refine Zag ?_ ?_ ?_
 exact Za3 Zb4 (Zaa (pv 2)) Zah
 exact Zad
 rfl
 rfl
 rfl
 refine Zac ?_ Zaf
 exact Zao (Zaa (pv 3))
 refine Zac ?_ Zaf
 refine Zao ?_
 refine Zap F_other_side (hr.mono (by omega)) ?_ ?_
 rfl
 refine Zag ?_ ?_ ?_
 exact (Zaa (pv 3))
 exact Zad
 rfl
theorem Zq9 (T : Top K mg) (F_winner_behind : Fn P w K mg base 12 "winner_behind" ["kinds", "rows", "many"] Zcs) (F_rows_behind_play : Fn P w K mg base 2 "rows_behind_play" ["rows", "play"] Zb0) : Fn P w K mg base 13 "winner" ["claim", "play"] Zec := by
 refine (fun h => h : _ → Fn P w K mg base 13 "winner" ["claim", "play"] (Zbq 2 2 Zgz)) (Zc0 (N := ["claim", "play"]) (k := 12) T.t_winner Zsh (fun _ _ _ _ _ _ us hl => by obtain ⟨_, _, rfl⟩ := us2 hl; rfl) ?_)
 intro f cdv A outer s H E hr
 unfold Zgz
 refine Zac ?_ Zaf
 refine Zao ?_
 refine Zap F_winner_behind (hr.mono (by decide)) ?_ ?_
 rfl
 refine Zag ?_ ?_ ?_
 exact Zay ixf (Zaa (pv 0)) Zah (fun _ _ => rfl)
 refine Zag ?_ ?_ ?_
 refine Zap F_rows_behind_play (hr.mono (by decide)) ?_ ?_
 rfl
 refine Zag ?_ ?_ ?_
 exact Zay ixf (Zaa (pv 0)) Zah (fun _ _ => rfl)
 refine Zag ?_ ?_ ?_
 exact (Zaa (pv 1))
 exact Zad
 rfl
 rfl
 refine Zag ?_ ?_ ?_
 refine Zaq Za1 ?_ T.n_len Zb6 ?_
 rfl
 refine Zag ?_ ?_ ?_
 exact (Zaa (pv 1))
 exact Zad
 rfl
 exact Zad
 rfl
 rfl
 rfl
theorem Zke (T : Top K mg) (F_winner : Fn P w K mg base 13 "winner" ["claim", "play"] Zec) : Fn P w K mg base 14 "good_picks" ["claim", "play"] Zc9 := by
 refine (fun h => h : _ → Fn P w K mg base 14 "good_picks" ["claim", "play"] (Zbq 2 3 Zd0)) (Zc0 (N := ["claim", "play", "who"]) (k := 13) T.t_good_picks Zg4 (fun _ _ _ _ _ _ us hl => by obtain ⟨_, _, rfl⟩ := us2 hl; rfl) ?_)
 intro f cdv A outer s H E hr
 unfold Zd0
 refine Zac ?_ ?_
 refine Zbe ?_ ?_ Zaf
 refine Zar (Zbp hr.units) ?_ ?_ (Zat _)
 refine Zaq Za1 ?_ T.n_len Zb6 ?_
 rfl
 refine Zag ?_ ?_ ?_
 exact (Zaa (pv 1))
 exact Zad
 rfl
 refine Zaq Za1 ?_ T.n_len Zb6 ?_
 rfl
 refine Zag ?_ ?_ ?_
 exact Zay ixf (Zaa (pv 0)) Zah (fun _ _ => rfl)
 exact Zad
 rfl
 refine Zac ?_ Zaf
 refine Zao ?_
 exact Zb7 Zad
 refine Zac ?_ ?_
 refine Zav (i := 2) ?_ ?_ ?_ ?_
 exact Zg4.nd
 rfl
 first | exact Or.inl rfl | exact Or.inr rfl
 refine Zay ixf ?_ ?_ (fun _ _ => rfl)
 exact Zay ixf (Zaa (pv 0)) Zah (fun _ _ => rfl)
 refine Zaq Za1 ?_ T.n_len Zb6 ?_
 rfl
 refine Zag ?_ ?_ ?_
 exact (Zaa (pv 1))
 exact Zad
 rfl
 refine Zac ?_ Zaf
 refine Zao ?_
 refine Zg1 (cn := ["claim", "play", "who"]) ?_ (Ze0 (x := "truth") (cn := ["claim", "play", "who"]) (ci := [0, 1, 2]) (by decide +kernel)) ?_ ?_ ?_
 rfl
 refine Zd9 ?_
 refine Zuo ?_ T.c_TRUTHS
 rfl
 intro _ _ _ _ _ _
 refine Zgq ?_
 refine Zar (Zbp hr.units) ?_ (Zaa (pv 3)) (Zat _)
 refine Zap F_winner (hr.mono (by decide)) ?_ ?_
 rfl
 refine Zag ?_ ?_ ?_
 exact (Zaa (pv 1))
 refine Zag ?_ ?_ ?_
 refine Za3 Zb4 (Zaa (pv 2)) ?_
 refine Zct ?_
 refine Zag ?_ ?_ ?_
 exact (Zaa (pv 0))
 exact Zad
 rfl
 exact Zad
 rfl
 rfl
 intro _ _ _ _ _ _
 exact (Zaa (pv 0))
theorem Zjx (T : Top K mg) : Fn P w K mg base 1 "are_of_all" ["kinds", "literals"] Zcp := by
 refine (fun h => h : _ → Fn P w K mg base 1 "are_of_all" ["kinds", "literals"] (Zbq 2 2 Zcl)) (Zc0 (N := ["kinds", "literals"]) (k := 0) T.t_are_of_all Zkn (fun _ _ _ _ _ _ us hl => by obtain ⟨_, _, rfl⟩ := us2 hl; rfl) ?_)
 intro f cdv A outer s H E hr
 unfold Zcl
 refine Zac ?_ Zaf
 refine Zao ?_
 refine Zaq (Zmg (by rfl)) ?_ T.n_all Zuu ?_
 rfl
 refine Zag ?_ ?_ ?_
 refine Zg1 (cn := ["kinds"]) ?_ (Ze0 (x := "literal") (cn := ["kinds"]) (ci := [0]) (by decide +kernel)) ?_ ?_ ?_
 rfl
 exact Zd9 (Zaa (pv 1))
 intro _ _ _ _ _ _
 exact Zed
 intro _ _ _ _ _ _
 refine Zcx (Zbp hr.units) ?_ Zci (Zat _)
 refine Zay ixf (Zaa (pv 1)) ?_ (fun _ _ => rfl)
 refine Za3 Zha ?_ Zah
 refine Zaq Zij ?_ T.n_abs Zse ?_
 rfl
 refine Zag ?_ ?_ ?_
 exact (Zaa (pv 0))
 exact Zad
 rfl
 exact Zad
 rfl
theorem Zhh (T : Top K mg) (F_are_of_all : Fn P w K mg base 1 "are_of_all" ["kinds", "literals"] Zcp) : Fn P w K mg base 2 "number_of_lost" ["kinds", "rows"] Zc5 := by
 refine (fun h => h : _ → Fn P w K mg base 2 "number_of_lost" ["kinds", "rows"] (Zbq 2 3 Zcf)) (Zc0 (N := ["kinds", "rows", "row"]) (k := 1) T.t_number_of_lost Ze9 (fun _ _ _ _ _ _ us hl => by obtain ⟨_, _, rfl⟩ := us2 hl; rfl) ?_)
 intro f cdv A outer s H E hr
 unfold Zcf
 refine Zac ?_ ?_
 refine Zeh PassesOwn.never ?_ ?_ ?_ ?_
 rfl
 exact Zqo (Zaa (pv 1))
 refine Zcv (i := 2) ?_ ?_ ?_
 exact Ze9.nd
 rfl
 first | exact Or.inl rfl | exact Or.inr rfl
 refine Zac ?_ Zaf
 refine Zbe ?_ ?_ Zaf
 refine Zce ?_ (fun _ => rfl)
 refine Zap F_are_of_all (hr.mono (by decide)) ?_ ?_
 rfl
 refine Zag ?_ ?_ ?_
 exact (Zaa (pv 0))
 refine Zag ?_ ?_ ?_
 exact (Zaa (pv 2))
 exact Zad
 rfl
 rfl
 refine Zac ?_ Zaf
 refine Zao ?_
 exact Zay (Zvp hr.units) (Zaa (pv 1)) (Zaa (pv 2)) (fun _ _ => rfl)
 refine Zac ?_ Zaf
 exact Zao Zg8
theorem Zi5 (T : Top K mg) (F_number_of_lost : Fn P w K mg base 2 "number_of_lost" ["kinds", "rows"] Zc5) : Fn P w K mg base 3 "plan_behind" ["kinds", "rows", "many"] Zfj := by
 refine (fun h => h : _ → Fn P w K mg base 3 "plan_behind" ["kinds", "rows", "many"] (Zbq 3 4 Zdj)) (Zc0 (N := ["kinds", "rows", "many", "number"]) (k := 2) T.t_plan_behind Zf5 (fun _ _ _ _ _ _ us hl => by obtain ⟨_, _, _, rfl⟩ := us3 hl; rfl) ?_)
 intro f cdv A outer s H E hr
 unfold Zdj
 refine Zac ?_ ?_
 refine Zbe ?_ ?_ Zaf
 refine Zar (Zbp hr.units) ?_ Zah (Zat _)
 refine Zaq Zjm ?_ T.n_len Zb6 ?_
 rfl
 refine Zag ?_ ?_ ?_
 exact (Zaa (pv 1))
 exact Zad
 rfl
 refine Zac ?_ Zaf
 refine Zao ?_
 refine Zct ?_
 refine Zag ?_ ?_ ?_
 exact Zci
 refine Zag ?_ ?_ ?_
 refine Zct ?_
 refine Zag ?_ ?_ ?_
 exact Zci
 exact Zad
 rfl
 exact Zad
 rfl
 rfl
 refine Zac ?_ ?_
 refine Zav (i := 3) ?_ ?_ ?_ ?_
 exact Zf5.nd
 rfl
 first | exact Or.inl rfl | exact Or.inr rfl
 refine Zap F_number_of_lost (hr.mono (by decide)) ?_ ?_
 rfl
 refine Zag ?_ ?_ ?_
 exact (Zaa (pv 0))
 refine Zag ?_ ?_ ?_
 exact (Zaa (pv 1))
 exact Zad
 rfl
 rfl
 refine Zac ?_ Zoe
 refine Zbe ?_ ?_ Zaf
 exact Zar Zk3 (Zaa (pv 3)) Zg8 (Zat _)
 refine Zac ?_ Zaf
 refine Zao ?_
 refine Zct ?_
 refine Zag ?_ ?_ ?_
 exact Zci
 refine Zag ?_ ?_ ?_
 refine Zct ?_
 refine Zag ?_ ?_ ?_
 exact Zci
 refine Zag ?_ ?_ ?_
 exact (Zaa (pv 3))
 exact Zad
 rfl
 rfl
 exact Zad
 rfl
 rfl
theorem Zvc (T : Top K mg) (F_plan_behind : Fn P w K mg base 3 "plan_behind" ["kinds", "rows", "many"] Zfj) (F_first_numbers : Fn P w K mg base 1 "first_numbers" ["rows"] Zbk) : Fn P w K mg base 4 "plan" ["claim"] Zof := by
 refine (fun h => h : _ → Fn P w K mg base 4 "plan" ["claim"] (Zbq 1 1 Zlf)) (Zc0 (N := ["claim"]) (k := 3) T.t_plan Zw6 (fun _ _ _ _ _ _ us hl => by obtain ⟨_, rfl⟩ := us1 hl; rfl) ?_)
 intro f cdv A outer s H E hr
 unfold Zlf
 refine Zac ?_ Zaf
 refine Zao ?_
 refine Zap F_plan_behind (hr.mono (by decide)) ?_ ?_
 rfl
 refine Zag ?_ ?_ ?_
 exact Zay ixf (Zaa (pv 0)) Zah (fun _ _ => rfl)
 refine Zag ?_ ?_ ?_
 refine Zap F_first_numbers (hr.mono (by decide)) ?_ ?_
 rfl
 refine Zag ?_ ?_ ?_
 exact Zay ixf (Zaa (pv 0)) Zah (fun _ _ => rfl)
 exact Zad
 rfl
 refine Zag ?_ ?_ ?_
 exact Zah
 exact Zad
 rfl
 rfl
 rfl
theorem Zi0 (T : Top K mg) (F_is_kept : Fn P w K mg base 3 "is_kept" ["row", "play"] Zdk) (F_are_of_all : Fn P w K mg base 1 "are_of_all" ["kinds", "literals"] Zcp) (F_is_open : Fn P w K mg base 1 "is_open" ["literal", "play"] Zde) (F_is_whole : Fn P w K mg base 1 "is_whole" ["thing"] Zfv) : Fn P w K mg base 4 "is_plan_end" ["claim", "side", "play", "thing"] Zdi := by
 refine (fun h => h : _ → Fn P w K mg base 4 "is_plan_end" ["claim", "side", "play", "thing"] (Zbq 4 6 Zb9)) (Zc0 (N := ["claim", "side", "play", "thing", "number", "row"]) (k := 3) T.t_is_plan_end Zez (fun _ _ _ _ _ _ us hl => by obtain ⟨_, _, _, _, rfl⟩ := us4 hl; rfl) ?_)
 intro f cdv A outer s H E hr
 unfold Zb9
 refine Zac ?_ ?_
 refine Zbe ?_ ?_ Zaf
 refine Zar (Zbp hr.units) (Zaa (pv 3)) ?_ (Zat _)
 refine Zct ?_
 refine Zag ?_ ?_ ?_
 exact Zci
 exact Zad
 rfl
 refine Zac ?_ Zaf
 refine Zao ?_
 refine Zga ?_ ?_
 exact Zcx (Zbp hr.units) (Zaa (pv 1)) Zci (Zat _)
 refine Zgl ?_
 refine Zaq (Zmg (by rfl)) ?_ T.n_all Zuu ?_
 rfl
 refine Zag ?_ ?_ ?_
 refine Zg1 (cn := ["play"]) ?_ (Ze0 (x := "row") (cn := ["play"]) (ci := [2]) (by decide +kernel)) ?_ ?_ ?_
 rfl
 refine Zd9 ?_
 exact Zay ixf (Zaa (pv 0)) Zah (fun _ _ => rfl)
 intro _ _ _ _ _ _
 exact Zed
 intro _ _ _ _ _ _
 refine Zap F_is_kept (hr.mono (by decide)) ?_ ?_
 rfl
 refine Zag ?_ ?_ ?_
 exact (Zaa (pv 0))
 refine Zag ?_ ?_ ?_
 exact (Zaa (pv 1))
 exact Zad
 rfl
 rfl
 exact Zad
 rfl
 refine Zac ?_ ?_
 refine Zbe ?_ ?_ Zaf
 refine PWf.pt ?_
 refine Zg0 ?_ ?_
 refine Zar (Zeg hr.units) ?_ Zah (Zat _)
 refine Zaq Za1 ?_ T.n_len Zb6 ?_
 rfl
 refine Zag ?_ ?_ ?_
 exact (Zaa (pv 3))
 exact Zad
 rfl
 refine Zg0 ?_ ?_
 refine Zar (Zeg hr.units) ?_ Zci (Zat _)
 exact Zay ixf (Zaa (pv 3)) Zah (fun _ _ => rfl)
 refine Zgi ?_
 exact Zar (Zeg hr.units) (Zaa (pv 1)) Zci (Zat _)
 refine Zac ?_ Zaf
 exact Zao Zdo
 refine Zac ?_ ?_
 refine Zav (i := 4) ?_ ?_ ?_ ?_
 exact Zez.nd
 rfl
 first | exact Or.inl rfl | exact Or.inr rfl
 exact Zay ixf (Zaa (pv 3)) Zah (fun _ _ => rfl)
 refine Zac ?_ ?_
 refine Zbe ?_ ?_ Zaf
 refine PWf.pt ?_
 refine Zg0 ?_ ?_
 refine Zg6 ?_
 refine Zce ?_ (fun _ => rfl)
 refine Zap F_is_whole (hr.mono (by decide)) ?_ ?_
 rfl
 refine Zag ?_ ?_ ?_
 exact (Zaa (pv 4))
 exact Zad
 rfl
 refine Zg0 ?_ ?_
 exact Zar Zrl (Zaa (pv 4)) Zah (Zat _)
 refine Zgi ?_
 refine Zar Zu9 (Zaa (pv 4)) ?_ (Zat _)
 refine Zaq Za1 ?_ T.n_len Zb6 ?_
 rfl
 refine Zag ?_ ?_ ?_
 exact Zay ixf (Zaa (pv 0)) Zah (fun _ _ => rfl)
 exact Zad
 rfl
 refine Zac ?_ Zaf
 exact Zao Zdo
 refine Zac ?_ ?_
 refine Zav (i := 5) ?_ ?_ ?_ ?_
 exact Zez.nd
 rfl
 first | exact Or.inl rfl | exact Or.inr rfl
 refine Zay ixf ?_ (Zaa (pv 4)) (fun _ _ => rfl)
 exact Zay ixf (Zaa (pv 0)) Zah (fun _ _ => rfl)
 refine Zac ?_ Zaf
 refine Zao ?_
 refine Zga ?_ ?_
 refine Znt ?_
 refine Zap F_is_kept (hr.mono (by decide)) ?_ ?_
 rfl
 refine Zag ?_ ?_ ?_
 exact (Zaa (pv 5))
 refine Zag ?_ ?_ ?_
 exact (Zaa (pv 2))
 exact Zad
 rfl
 rfl
 refine Zgl ?_
 refine Zap F_are_of_all (hr.mono (by decide)) ?_ ?_
 rfl
 refine Zag ?_ ?_ ?_
 exact Zay ixf (Zaa (pv 0)) Zah (fun _ _ => rfl)
 refine Zag ?_ ?_ ?_
 refine Zg1 (cn := ["play"]) ?_ (Ze0 (x := "literal") (cn := ["play"]) (ci := [2]) (by decide +kernel)) ?_ ?_ ?_
 rfl
 exact Zd9 (Zaa (pv 5))
 intro _ _ _ _ _ _
 refine Zgq ?_
 refine Zce ?_ (fun _ => rfl)
 refine Zap F_is_open (hr.mono (by decide)) ?_ ?_
 rfl
 refine Zag ?_ ?_ ?_
 exact (Zaa (pv 0))
 refine Zag ?_ ?_ ?_
 exact (Zaa (pv 1))
 exact Zad
 rfl
 rfl
 intro _ _ _ _ _ _
 exact (Zaa (pv 0))
 exact Zad
 rfl
 rfl
theorem Zg9 (T : Top K mg) (F_is_plan_end : Fn P w K mg base 4 "is_plan_end" ["claim", "side", "play", "thing"] Zdi) : Fn P w K mg base 5 "is_plan_behind" ["claim", "side", "play", "thing"] Zeb := by
 refine (fun h => h : _ → Fn P w K mg base 5 "is_plan_behind" ["claim", "side", "play", "thing"] (Zbq 4 7 Zbm)) (Zc0 (N := ["claim", "side", "play", "thing", "picks", "truth", "tree"]) (k := 4) T.t_is_plan_behind Zhc (fun _ _ _ _ _ _ us hl => by obtain ⟨_, _, _, _, rfl⟩ := us4 hl; rfl) ?_)
 intro f cdv A outer s H E hr
 unfold Zbm
 refine Zac ?_ ?_
 refine Zbe ?_ ?_ Zaf
 refine Zg6 ?_
 refine Zce ?_ (fun _ => rfl)
 refine Zaq Zh7 ?_ T.n_isinstance Zfd ?_
 rfl
 refine Zag ?_ ?_ ?_
 exact (Zaa (pv 3))
 refine Zag ?_ ?_ ?_
 refine Zrt ?_ T.n_tuple Zfg
 rfl
 exact Zad
 rfl
 rfl
 refine Zac ?_ Zaf
 exact Zao Zdo
 refine Zac ?_ Zoe
 refine Zbe ?_ ?_ Zaf
 refine PWf.pt ?_
 refine Zg0 ?_ ?_
 refine Zar (Zeg hr.units) ?_ Zah (Zat _)
 refine Zaq Za1 ?_ T.n_len Zb6 ?_
 rfl
 refine Zag ?_ ?_ ?_
 exact (Zaa (pv 3))
 exact Zad
 rfl
 refine Zgi ?_
 refine Zar (Zbp hr.units) ?_ ?_ (Zat _)
 refine Zaq Za1 ?_ T.n_len Zb6 ?_
 rfl
 refine Zag ?_ ?_ ?_
 exact (Zaa (pv 2))
 exact Zad
 rfl
 refine Zaq Za1 ?_ T.n_len Zb6 ?_
 rfl
 refine Zag ?_ ?_ ?_
 exact Zay ixf (Zaa (pv 0)) Zah (fun _ _ => rfl)
 exact Zad
 rfl
 refine Zac ?_ Zaf
 refine Zao ?_
 refine Zap F_is_plan_end (hr.mono (by decide)) ?_ ?_
 rfl
 refine Zag ?_ ?_ ?_
 exact (Zaa (pv 0))
 refine Zag ?_ ?_ ?_
 exact (Zaa (pv 1))
 refine Zag ?_ ?_ ?_
 exact (Zaa (pv 2))
 refine Zag ?_ ?_ ?_
 exact (Zaa (pv 3))
 exact Zad
 rfl
 rfl
 rfl
 rfl
theorem Zo5 (T : Top K mg) (F_is_plan_behind : Fn P w K mg base 5 "is_plan_behind" ["claim", "side", "play", "thing"] Zeb) : Fn P w K mg base 6 "is_plan" ["claim", "side", "thing"] Zgu := by
 refine (fun h => h : _ → Fn P w K mg base 6 "is_plan" ["claim", "side", "thing"] (Zbq 3 3 Zfs)) (Zc0 (N := ["claim", "side", "thing"]) (k := 5) T.t_is_plan Zpf (fun _ _ _ _ _ _ us hl => by obtain ⟨_, _, _, rfl⟩ := us3 hl; rfl) ?_)
 intro f cdv A outer s H E hr
 unfold Zfs
 refine Zac ?_ Zaf
 refine Zao ?_
 refine Zap F_is_plan_behind (hr.mono (by decide)) ?_ ?_
 rfl
 refine Zag ?_ ?_ ?_
 exact (Zaa (pv 0))
 refine Zag ?_ ?_ ?_
 exact (Zaa (pv 1))
 refine Zag ?_ ?_ ?_
 exact Zct Zad
 refine Zag ?_ ?_ ?_
 exact (Zaa (pv 2))
 exact Zad
 rfl
 rfl
 rfl
 rfl
theorem Zng (T : Top K mg) : Fn P w K mg base 1 "_law_feed" ["script", "k"] Zc8 := by
 refine (fun h => h : _ → Fn P w K mg base 1 "_law_feed" ["script", "k"] (Zbq 2 5 Zdt)) (Zc0 (N := ["script", "k", "cell", "digits", "start"]) (k := 0) T.t_law_feed Zds (fun _ _ _ _ _ _ us hl => by obtain ⟨_, _, rfl⟩ := us2 hl; rfl) ?_)
 intro f cdv A outer s H E hr
 unfold Zdt
 refine Zac ?_ ?_
 refine Zav (i := 2) ?_ ?_ ?_ Zah
 exact Zds.nd
 rfl
 first | exact Or.inl rfl | exact Or.inr rfl
 refine Zac ?_ ?_
 refine Zbe ?_ ?_ Zaf
 refine Zar Zrl (Zaa (pv 1)) ?_ (Zat _)
 refine Zaq Za1 ?_ T.n_len Zb6 ?_
 rfl
 refine Zag ?_ ?_ ?_
 exact (Zaa (pv 0))
 exact Zad
 rfl
 refine Zac ?_ Zaf
 refine Zav (i := 2) ?_ ?_ ?_ ?_
 exact Zds.nd
 rfl
 first | exact Or.inl rfl | exact Or.inr rfl
 exact Zay ixf (Zaa (pv 0)) (Zaa (pv 1)) (fun _ _ => rfl)
 refine Zac ?_ ?_
 refine Zav (i := 3) ?_ ?_ ?_ Zah
 exact Zds.nd
 rfl
 first | exact Or.inl rfl | exact Or.inr rfl
 refine Zac ?_ ?_
 refine Zbe ?_ ?_ Zaf
 refine Zar Zu9 (Zaa (pv 2)) ?_ (Zat _)
 exact Za3 Znz Zah Zah
 refine Zac ?_ Zaf
 refine Zav (i := 3) ?_ ?_ ?_ ?_
 exact Zds.nd
 rfl
 first | exact Or.inl rfl | exact Or.inr rfl
 refine Za3 Zha (Zaa (pv 2)) ?_
 exact Za3 Znz Zah Zah
 refine Zac ?_ ?_
 refine Zav (i := 4) ?_ ?_ ?_ ?_
 exact Zds.nd
 rfl
 first | exact Or.inl rfl | exact Or.inr rfl
 refine Za3 Zfp ?_ Zah
 refine Za3 Zb4 ?_ Zah
 refine Za3 Zb4 ?_ ?_
 refine Za3 Zib ?_ Zah
 exact Za3 Zfp (Zaa (pv 2)) Zah
 exact Za3 Zib Zah (Zaa (pv 1))
 refine Zac ?_ Zaf
 refine Zao ?_
 refine Zb7 ?_
 refine Zag ?_ ?_ ?_
 exact (Zaa (pv 3))
 refine Zag ?_ ?_ ?_
 refine Za3 Zb4 ?_ Zah
 refine Za3 Zfp ?_ Zah
 exact Za3 Znz (Zaa (pv 4)) Zah
 exact Zad
 rfl
 rfl
theorem Znr (T : Top K mg) : Fn P w K mg base 1 "_law_take" ["feed", "many"] Zai := by
 refine (fun h => h : _ → Fn P w K mg base 1 "_law_take" ["feed", "many"] (Zbq 2 3 Zdq)) (Zc0 (N := ["feed", "many", "found"]) (k := 0) T.t_law_take Zir (fun _ _ _ _ _ _ us hl => by obtain ⟨_, _, rfl⟩ := us2 hl; rfl) ?_)
 intro f cdv A outer s H E hr
 unfold Zdq
 refine Zac ?_ ?_
 refine Zbe ?_ ?_ Zaf
 refine Zar Zjd ?_ Zah (Zat _)
 exact Zay ixf (Zaa (pv 0)) Zah (fun _ _ => rfl)
 refine Zac ?_ ?_
 refine Zav (i := 2) ?_ ?_ ?_ ?_
 exact Zir.nd
 rfl
 first | exact Or.inl rfl | exact Or.inr rfl
 refine Za3 Zfp ?_ (Zaa (pv 1))
 exact Zay ixf (Zaa (pv 0)) Zah (fun _ _ => rfl)
 refine Zac ?_ ?_
 refine Zia ?_ ?_
 refine Za3 Zh2 ?_ (Zaa (pv 1))
 exact Zay ixf (Zaa (pv 0)) Zah (fun _ _ => rfl)
 exact Zik (Zaa (pv 0)) Zah Zzs
 refine Zac ?_ Zaf
 exact Zao (Zaa (pv 2))
 refine Zac ?_ ?_
 refine Zia ?_ ?_
 refine Za3 Zfp ?_ Zah
 refine Za3 Zb4 ?_ Zah
 refine Za3 Zib ?_ Zah
 exact Zay ixf (Zaa (pv 0)) Zah (fun _ _ => rfl)
 exact Zik (Zaa (pv 0)) Zah Zzs
 refine Zac ?_ Zaf
 refine Zao ?_
 refine Za3 Zfp ?_ (Zaa (pv 1))
 refine Za3 Zh2 ?_ Zah
 exact Zay ixf (Zaa (pv 0)) Zah (fun _ _ => rfl)
theorem Znc (T : Top K mg) (F_law_take : Fn P w K mg base 1 "_law_take" ["feed", "many"] Zai) : Fn P w K mg base 2 "_law_pick" ["feed", "some"] Zau := by
 refine (fun h => h : _ → Fn P w K mg base 2 "_law_pick" ["feed", "some"] (Zbq 2 2 Zdc)) (Zc0 (N := ["feed", "some"]) (k := 1) T.t_law_pick Znn (fun _ _ _ _ _ _ us hl => by obtain ⟨_, _, rfl⟩ := us2 hl; rfl) ?_)
 intro f cdv A outer s H E hr
 unfold Zdc
 refine Zac ?_ Zaf
 refine Zao ?_
 refine Zay ixf (Zaa (pv 1)) ?_ (fun _ _ => rfl)
 refine Zap F_law_take (hr.mono (by decide)) ?_ ?_
 rfl
 refine Zag ?_ ?_ ?_
 exact (Zaa (pv 0))
 refine Zag ?_ ?_ ?_
 refine Zaq Za1 ?_ T.n_len Zb6 ?_
 rfl
 refine Zag ?_ ?_ ?_
 exact (Zaa (pv 1))
 exact Zad
 rfl
 exact Zad
 rfl
 rfl
theorem Zpa (T : Top K mg) (F_law_take : Fn P w K mg base 1 "_law_take" ["feed", "many"] Zai) (F_law_pick : Fn P w K mg base 2 "_law_pick" ["feed", "some"] Zau) : Fn P w K mg base 3 "_law_row" ["feed", "many"] Zdd := by
 refine (fun h => h : _ → Fn P w K mg base 3 "_law_row" ["feed", "many"] (Zbq 2 7 Zer)) (Zc0 (N := ["feed", "many", "sizes", "size", "names", "found", "turn"]) (k := 2) T.t_law_row Zef (fun _ _ _ _ _ _ us hl => by obtain ⟨_, _, rfl⟩ := us2 hl; rfl) ?_)
 intro f cdv A outer s H E hr
 unfold Zer
 refine Zac ?_ ?_
 refine Zav (i := 2) ?_ ?_ ?_ ?_
 exact Zef.nd
 rfl
 first | exact Or.inl rfl | exact Or.inr rfl
 refine Zb7 ?_
 refine Zag ?_ ?_ ?_
 exact Zah
 refine Zag ?_ ?_ ?_
 exact Zah
 refine Zag ?_ ?_ ?_
 exact Zah
 refine Zag ?_ ?_ ?_
 exact Zah
 refine Zag ?_ ?_ ?_
 exact Zah
 refine Zag ?_ ?_ ?_
 exact Zah
 refine Zag ?_ ?_ ?_
 exact Zah
 refine Zag ?_ ?_ ?_
 exact Zah
 refine Zag ?_ ?_ ?_
 exact Zah
 refine Zag ?_ ?_ ?_
 refine Za3 Zb4 Zah ?_
 refine Zap F_law_take (hr.mono (by decide)) ?_ ?_
 rfl
 refine Zag ?_ ?_ ?_
 exact (Zaa (pv 0))
 refine Zag ?_ ?_ ?_
 exact Zah
 exact Zad
 rfl
 rfl
 refine Zag ?_ ?_ ?_
 exact Zah
 refine Zag ?_ ?_ ?_
 refine Za3 Zib Zah ?_
 refine Zdb Zrh ?_ T.n_int Zuw ?_
 rfl
 refine Zag ?_ ?_ ?_
 refine Zcx Zjd ?_ Zah (Zat _)
 refine Zap F_law_take (hr.mono (by decide)) ?_ ?_
 rfl
 refine Zag ?_ ?_ ?_
 exact (Zaa (pv 0))
 refine Zag ?_ ?_ ?_
 exact Zah
 exact Zad
 rfl
 rfl
 exact Zad
 rfl
 exact Zad
 rfl
 rfl
 rfl
 rfl
 rfl
 rfl
 rfl
 rfl
 rfl
 rfl
 rfl
 rfl
 refine Zac ?_ ?_
 refine Zav (i := 3) ?_ ?_ ?_ ?_
 exact Zef.nd
 rfl
 first | exact Or.inl rfl | exact Or.inr rfl
 refine Zaq (Zl6 (by rfl)) ?_ T.n_min Zup ?_
 rfl
 refine Zag ?_ ?_ ?_
 exact (Zaa (pv 1))
 refine Zag ?_ ?_ ?_
 refine Zap F_law_pick (hr.mono (by decide)) ?_ ?_
 rfl
 refine Zag ?_ ?_ ?_
 exact (Zaa (pv 0))
 refine Zag ?_ ?_ ?_
 exact (Zaa (pv 2))
 exact Zad
 rfl
 rfl
 exact Zad
 rfl
 rfl
 refine Zac ?_ ?_
 refine Zav (i := 4) ?_ ?_ ?_ ?_
 exact Zef.nd
 rfl
 first | exact Or.inl rfl | exact Or.inr rfl
 refine Zpj ?_ ?_ T.n_list ?_ T.n_range ?_
 rfl
 rfl
 rfl
 refine Zag ?_ ?_ ?_
 exact Zah
 refine Zag ?_ ?_ ?_
 exact Za3 Zb4 (Zaa (pv 1)) Zah
 exact Zad
 rfl
 rfl
 refine Zac ?_ ?_
 refine Zav (i := 5) ?_ ?_ ?_ ?_
 exact Zef.nd
 rfl
 first | exact Or.inl rfl | exact Or.inr rfl
 exact Zb7 Zad
 refine Zac ?_ ?_
 refine Zeh PassesOwn.never ?_ ?_ ?_ ?_
 rfl
 refine Zda ?_ T.n_range ?_
 rfl
 refine Zag ?_ ?_ ?_
 exact (Zaa (pv 3))
 exact Zad
 rfl
 refine Zcv (i := 6) ?_ ?_ ?_
 exact Zef.nd
 rfl
 first | exact Or.inl rfl | exact Or.inr rfl
 refine Zac ?_ Zaf
 refine Zcj ?_
 refine Zmt PySem.F.slot_list_append PySem.F.type_list_append Zfz (Zaa (pv 5)) ?_
 refine Zag ?_ ?_ ?_
 refine Zmt PySem.F.slot_list_pop PySem.F.type_list_pop Zv5 (Zaa (pv 4)) ?_
 refine Zag ?_ ?_ ?_
 refine Zap F_law_take (hr.mono (by decide)) ?_ ?_
 rfl
 refine Zag ?_ ?_ ?_
 exact (Zaa (pv 0))
 refine Zag ?_ ?_ ?_
 refine Zaq Za1 ?_ T.n_len Zb6 ?_
 rfl
 refine Zag ?_ ?_ ?_
 exact (Zaa (pv 4))
 exact Zad
 rfl
 exact Zad
 rfl
 rfl
 exact Zad
 rfl
 exact Zad
 rfl
 refine Zac ?_ Zaf
 refine Zao ?_
 refine Zdb Zdu ?_ T.n_tuple Zfg ?_
 rfl
 refine Zag ?_ ?_ ?_
 refine Zg1 (cn := ["feed"]) ?_ (Ze0 (x := "name") (cn := ["feed"]) (ci := [0]) (by decide +kernel)) ?_ ?_ ?_
 rfl
 refine Zd9 ?_
 refine Zaq Zld ?_ T.n_sorted Zss ?_
 rfl
 refine Zag ?_ ?_ ?_
 exact (Zaa (pv 5))
 exact Zad
 rfl
 intro _ _ _ _ _ _
 exact Zed
 intro _ _ _ _ _ _
 refine Zay ixf ?_ ?_ (fun _ _ => rfl)
 refine Zb7 ?_
 refine Zag ?_ ?_ ?_
 exact (Zaa (pv 0))
 refine Zag ?_ ?_ ?_
 exact Zmi Zih (Zaa (pv 0))
 exact Zad
 rfl
 rfl
 refine Zap F_law_take (hr.mono (by decide)) ?_ ?_
 rfl
 refine Zag ?_ ?_ ?_
 exact (Zaa (pv 1))
 refine Zag ?_ ?_ ?_
 exact Zah
 exact Zad
 rfl
 rfl
 exact Zad
 rfl
theorem Zlp (T : Top K mg) (F_law_take : Fn P w K mg base 1 "_law_take" ["feed", "many"] Zai) (F_law_pick : Fn P w K mg base 2 "_law_pick" ["feed", "some"] Zau) (F_law_row : Fn P w K mg base 3 "_law_row" ["feed", "many"] Zdd) : Fn P w K mg base 4 "_law_claim" ["feed", "most", "rows"] Zc6 := by
 refine (fun h => h : _ → Fn P w K mg base 4 "_law_claim" ["feed", "most", "rows"] (Zbq 3 8 Zc7)) (Zc0 (N := ["feed", "most", "rows", "many", "way", "kinds", "size", "found"]) (k := 3) T.t_law_claim Zcu (fun _ _ _ _ _ _ us hl => by obtain ⟨_, _, _, rfl⟩ := us3 hl; rfl) ?_)
 intro f cdv A outer s H E hr
 unfold Zc7
 refine Zac ?_ ?_
 refine Zav (i := 3) ?_ ?_ ?_ ?_
 exact Zcu.nd
 rfl
 first | exact Or.inl rfl | exact Or.inr rfl
 refine Zap F_law_pick (hr.mono (by decide)) ?_ ?_
 rfl
 refine Zag ?_ ?_ ?_
 exact (Zaa (pv 0))
 refine Zag ?_ ?_ ?_
 refine Zb7 ?_
 refine Zag ?_ ?_ ?_
 exact (Zaa (pv 1))
 refine Zag ?_ ?_ ?_
 exact Za3 Zha (Zaa (pv 1)) Zah
 refine Zag ?_ ?_ ?_
 exact (Zaa (pv 1))
 refine Zag ?_ ?_ ?_
 exact Za3 Zha (Zaa (pv 1)) Zah
 refine Zag ?_ ?_ ?_
 exact (Zaa (pv 1))
 refine Zag ?_ ?_ ?_
 refine Zap F_law_take (hr.mono (by decide)) ?_ ?_
 rfl
 refine Zag ?_ ?_ ?_
 exact (Zaa (pv 0))
 refine Zag ?_ ?_ ?_
 exact Za3 Zb4 (Zaa (pv 1)) Zah
 exact Zad
 rfl
 rfl
 exact Zad
 rfl
 rfl
 rfl
 rfl
 rfl
 rfl
 exact Zad
 rfl
 rfl
 refine Zac ?_ ?_
 refine Zav (i := 4) ?_ ?_ ?_ ?_
 exact Zcu.nd
 rfl
 first | exact Or.inl rfl | exact Or.inr rfl
 refine Zap F_law_take (hr.mono (by decide)) ?_ ?_
 rfl
 refine Zag ?_ ?_ ?_
 exact (Zaa (pv 0))
 refine Zag ?_ ?_ ?_
 exact Zah
 exact Zad
 rfl
 rfl
 refine Zac ?_ ?_
 refine Zgt (i := 5) (cn := ["feed"]) ?_ (Ze0 (x := "k") (cn := ["feed"]) (ci := [0]) (by decide +kernel)) ?_ ?_ ?_ ?_ ?_ ?_
 rfl
 refine Zda ?_ T.n_range ?_
 rfl
 refine Zag ?_ ?_ ?_
 exact (Zaa (pv 3))
 exact Zad
 rfl
 intro _ _ _ _ _ _
 exact Zed
 intro _ _ _ _ _ _
 refine Zap F_law_pick (hr.mono (by decide)) ?_ ?_
 rfl
 refine Zag ?_ ?_ ?_
 exact (Zaa (pv 1))
 refine Zag ?_ ?_ ?_
 refine Zb7 ?_
 refine Zag ?_ ?_ ?_
 exact Zci
 refine Zag ?_ ?_ ?_
 exact Zci
 exact Zad
 rfl
 rfl
 exact Zad
 rfl
 rfl
 exact Zcu.nd
 rfl
 rfl
 refine Zac ?_ ?_
 refine Zbe ?_ ?_ Zaf
 exact Zar (Zbp hr.units) (Zaa (pv 4)) Zah (Zat _)
 refine Zac ?_ Zaf
 refine Zgt (i := 5) (cn := []) ?_ (Ze0 (x := "k") (cn := []) (ci := []) (by decide +kernel)) ?_ ?_ ?_ ?_ ?_ ?_
 rfl
 refine Zda ?_ T.n_range ?_
 rfl
 refine Zag ?_ ?_ ?_
 exact (Zaa (pv 3))
 exact Zad
 rfl
 intro _ _ _ _ _ _
 exact Zed
 intro _ _ _ _ _ _
 refine Zay ixf ?_ ?_ (fun _ _ => rfl)
 refine Zb7 ?_
 refine Zag ?_ ?_ ?_
 exact Zci
 refine Zag ?_ ?_ ?_
 exact Zci
 exact Zad
 rfl
 rfl
 exact Za3 Zfp (Zaa (pv 0)) Zah
 exact Zcu.nd
 rfl
 rfl
 refine Zac ?_ ?_
 refine Zav (i := 6) ?_ ?_ ?_ ?_
 exact Zcu.nd
 rfl
 first | exact Or.inl rfl | exact Or.inr rfl
 refine Zap F_law_pick (hr.mono (by decide)) ?_ ?_
 rfl
 refine Zag ?_ ?_ ?_
 exact (Zaa (pv 0))
 refine Zag ?_ ?_ ?_
 refine Zb7 ?_
 refine Zag ?_ ?_ ?_
 exact (Zaa (pv 3))
 refine Zag ?_ ?_ ?_
 refine Za3 Zb4 (Zaa (pv 3)) ?_
 exact Za3 Zh2 (Zaa (pv 3)) Zah
 refine Zag ?_ ?_ ?_
 exact Za3 Zib Zah (Zaa (pv 3))
 refine Zag ?_ ?_ ?_
 refine Za3 Zb4 ?_ Zah
 exact Za3 Zh2 (Zaa (pv 3)) Zah
 refine Zag ?_ ?_ ?_
 refine Zap F_law_take (hr.mono (by decide)) ?_ ?_
 rfl
 refine Zag ?_ ?_ ?_
 exact (Zaa (pv 0))
 refine Zag ?_ ?_ ?_
 exact Za3 Zb4 (Zaa (pv 2)) Zah
 exact Zad
 rfl
 rfl
 refine Zag ?_ ?_ ?_
 exact Zah
 exact Zad
 rfl
 rfl
 rfl
 rfl
 rfl
 rfl
 exact Zad
 rfl
 rfl
 refine Zac ?_ ?_
 refine Zgt (i := 7) (cn := ["feed", "many"]) ?_ (Ze0 (x := "k") (cn := ["feed", "many"]) (ci := [0, 3]) (by decide +kernel)) ?_ ?_ ?_ ?_ ?_ ?_
 rfl
 refine Zda ?_ T.n_range ?_
 rfl
 refine Zag ?_ ?_ ?_
 refine Zaq (Zl6 (by rfl)) ?_ T.n_min Zup ?_
 rfl
 refine Zag ?_ ?_ ?_
 exact (Zaa (pv 2))
 refine Zag ?_ ?_ ?_
 exact (Zaa (pv 6))
 exact Zad
 rfl
 rfl
 exact Zad
 rfl
 intro _ _ _ _ _ _
 exact Zed
 intro _ _ _ _ _ _
 refine Zap F_law_row (hr.mono (by decide)) ?_ ?_
 rfl
 refine Zag ?_ ?_ ?_
 exact (Zaa (pv 1))
 refine Zag ?_ ?_ ?_
 exact (Zaa (pv 2))
 exact Zad
 rfl
 rfl
 exact Zcu.nd
 rfl
 rfl
 refine Zac ?_ ?_
 refine Zbe ?_ ?_ Zaf
 refine PWf.pt ?_
 refine Znl ?_ ?_
 refine Zar (Zeg hr.units) (Zaa (pv 7)) ?_ (Zat _)
 exact Zb7 Zad
 refine Zk6 ?_
 refine Zar (Zbp hr.units) ?_ Zah (Zat _)
 refine Zap F_law_take (hr.mono (by decide)) ?_ ?_
 rfl
 refine Zag ?_ ?_ ?_
 exact (Zaa (pv 0))
 refine Zag ?_ ?_ ?_
 exact Zah
 exact Zad
 rfl
 rfl
 refine Zac ?_ Zaf
 refine Zcj ?_
 refine Zmt PySem.F.slot_list_append PySem.F.type_list_append Zfz (Zaa (pv 7)) ?_
 refine Zag ?_ ?_ ?_
 refine Zap F_law_pick (hr.mono (by decide)) ?_ ?_
 rfl
 refine Zag ?_ ?_ ?_
 exact (Zaa (pv 0))
 refine Zag ?_ ?_ ?_
 exact (Zaa (pv 7))
 exact Zad
 rfl
 rfl
 exact Zad
 rfl
 refine Zac ?_ Zaf
 refine Zao ?_
 refine Zct ?_
 refine Zag ?_ ?_ ?_
 refine Zdb Zdu ?_ T.n_tuple Zfg ?_
 rfl
 refine Zag ?_ ?_ ?_
 exact (Zaa (pv 5))
 exact Zad
 rfl
 refine Zag ?_ ?_ ?_
 refine Zdb Zdu ?_ T.n_tuple Zfg ?_
 rfl
 refine Zag ?_ ?_ ?_
 refine Zeo (Zaa (pv 7)) Zfb ?_
 exact Zfi (Zaa (pv 2))
 exact Zad
 rfl
 exact Zad
 rfl
 rfl
theorem Zkf (T : Top K mg) : FnI P w K mg base 1 "Match" ["self", "claim"] Zbz := by
 refine (fun h => h : _ → FnI P w K mg base 1 "Match" ["self", "claim"] (Zbq 2 2 Zd4)) (fi_mk (N := ["self", "claim"]) (k := 0) T.t_Match_init Zkb (fun _ _ _ _ _ _ us hl => by obtain ⟨_, _, rfl⟩ := us2 hl; rfl) ?_)
 intro f cdv A outer s H E hr
 unfold Zd4
 refine Zac ?_ ?_
 refine Zk5 T.l_Match ?_ (Zaa (pv 0)) (Zaa (pv 1))
 decide
 refine Zac ?_ Zaf
 refine Zk5 T.l_Match ?_ (Zaa (pv 0)) ?_
 decide
 exact Zct Zad
theorem Zju (T : Top K mg) (F_is_truth : Fn P w K mg base 1 "is_truth" ["thing"] Zf0) : FnM P w K mg base 2 "Match" "pick" ["self", "truth"] Za5 := by
 refine (fun h => h : _ → FnM P w K mg base 2 "Match" "pick" ["self", "truth"] (Zbq 2 2 Zdz)) (Zn0 (N := ["self", "truth"]) (k := 1) T.t_Match_pick Zku (fun _ _ _ _ _ _ us hl => by obtain ⟨_, _, rfl⟩ := us2 hl; rfl) ?_)
 intro f cdv A outer s H E hr
 unfold Zdz
 refine Zac ?_ ?_
 refine Zbe ?_ ?_ Zaf
 refine Zg6 ?_
 refine Zce ?_ (fun _ => rfl)
 refine Zap F_is_truth (hr.mono (by decide)) ?_ ?_
 rfl
 refine Zag ?_ ?_ ?_
 exact (Zaa (pv 1))
 exact Zad
 rfl
 exact Zac Zmv Zaf
 refine Zac ?_ ?_
 refine Zbe ?_ ?_ Zaf
 refine Zar (Zbp hr.units) ?_ ?_ (Zat _)
 refine Zaq Za1 ?_ T.n_len Zb6 ?_
 rfl
 refine Zag ?_ ?_ ?_
 refine Zcy T.l_Match ?_ (Zaa (pv 0))
 decide
 exact Zad
 rfl
 refine Zaq Za1 ?_ T.n_len Zb6 ?_
 rfl
 refine Zag ?_ ?_ ?_
 refine Zay ixf ?_ Zah (fun _ _ => rfl)
 refine Zcy T.l_Match ?_ (Zaa (pv 0))
 decide
 exact Zad
 rfl
 exact Zac Zmv Zaf
 refine Zac ?_ Zaf
 refine Zk5 T.l_Match ?_ (Zaa (pv 0)) ?_
 decide
 refine Za3 Zb4 ?_ ?_
 refine Zcy T.l_Match ?_ (Zaa (pv 0))
 decide
 refine Zct ?_
 refine Zag ?_ ?_ ?_
 exact (Zaa (pv 1))
 exact Zad
 rfl
theorem Zk1 (T : Top K mg) : FnM P w K mg base 1 "Match" "back" ["self"] Zbt := by
 refine (fun h => h : _ → FnM P w K mg base 1 "Match" "back" ["self"] (Zbq 1 1 Zd3)) (Zn0 (N := ["self"]) (k := 0) T.t_Match_back Zj1 (fun _ _ _ _ _ _ us hl => by obtain ⟨_, rfl⟩ := us1 hl; rfl) ?_)
 intro f cdv A outer s H E hr
 unfold Zd3
 refine Zac ?_ ?_
 refine Zbe ?_ ?_ Zaf
 refine Zar (Zbp hr.units) ?_ Zah (Zat _)
 refine Zaq Za1 ?_ T.n_len Zb6 ?_
 rfl
 refine Zag ?_ ?_ ?_
 refine Zcy T.l_Match ?_ (Zaa (pv 0))
 decide
 exact Zad
 rfl
 exact Zac Zmv Zaf
 refine Zac ?_ Zaf
 refine Zk5 T.l_Match ?_ (Zaa (pv 0)) ?_
 decide
 refine Zeo ?_ Zfb ?_
 refine Zcy T.l_Match ?_ (Zaa (pv 0))
 decide
 refine Zfi ?_
 exact Zmi Zih Zah
theorem Zkw (T : Top K mg) : FnM P w K mg base 1 "Match" "play" ["self"] Zby := by
 refine (fun h => h : _ → FnM P w K mg base 1 "Match" "play" ["self"] (Zbq 1 1 Zdy)) (Zn0 (N := ["self"]) (k := 0) T.t_Match_play Zkt (fun _ _ _ _ _ _ us hl => by obtain ⟨_, rfl⟩ := us1 hl; rfl) ?_)
 intro f cdv A outer s H E hr
 unfold Zdy
 refine Zac ?_ Zaf
 refine Zao ?_
 refine Zcy T.l_Match ?_ (Zaa (pv 0))
 decide
theorem Zkl (T : Top K mg) : FnM P w K mg base 1 "Match" "turn" ["self"] Zba := by
 refine (fun h => h : _ → FnM P w K mg base 1 "Match" "turn" ["self"] (Zbq 1 1 Zdw)) (Zn0 (N := ["self"]) (k := 0) T.t_Match_turn Zko (fun _ _ _ _ _ _ us hl => by obtain ⟨_, rfl⟩ := us1 hl; rfl) ?_)
 intro f cdv A outer s H E hr
 unfold Zdw
 refine Zac ?_ ?_
 refine Zbe ?_ ?_ Zaf
 refine Zar (Zbp hr.units) ?_ ?_ (Zat _)
 refine Zaq Za1 ?_ T.n_len Zb6 ?_
 rfl
 refine Zag ?_ ?_ ?_
 refine Zcy T.l_Match ?_ (Zaa (pv 0))
 decide
 exact Zad
 rfl
 refine Zaq Za1 ?_ T.n_len Zb6 ?_
 rfl
 refine Zag ?_ ?_ ?_
 refine Zay ixf ?_ Zah (fun _ _ => rfl)
 refine Zcy T.l_Match ?_ (Zaa (pv 0))
 decide
 exact Zad
 rfl
 refine Zac ?_ Zaf
 exact Zao Zg8
 refine Zac ?_ Zaf
 refine Zao ?_
 refine Zay ixf ?_ ?_ (fun _ _ => rfl)
 refine Zay ixf ?_ Zah (fun _ _ => rfl)
 refine Zcy T.l_Match ?_ (Zaa (pv 0))
 decide
 refine Zaq Za1 ?_ T.n_len Zb6 ?_
 rfl
 refine Zag ?_ ?_ ?_
 refine Zcy T.l_Match ?_ (Zaa (pv 0))
 decide
 exact Zad
 rfl
theorem Zlr (T : Top K mg) (F_winner : Fn P w K mg base 13 "winner" ["claim", "play"] Zec) : FnM P w K mg base 14 "Match" "who" ["self"] Zbc := by
 refine (fun h => h : _ → FnM P w K mg base 14 "Match" "who" ["self"] (Zbq 1 1 Zel)) (Zn0 (N := ["self"]) (k := 13) T.t_Match_who Zmc (fun _ _ _ _ _ _ us hl => by obtain ⟨_, rfl⟩ := us1 hl; rfl) ?_)
 intro f cdv A outer s H E hr
 unfold Zel
 refine Zac ?_ Zaf
 refine Zao ?_
 refine Zap F_winner (hr.mono (by decide)) ?_ ?_
 rfl
 refine Zag ?_ ?_ ?_
 refine Zcy T.l_Match ?_ (Zaa (pv 0))
 decide
 refine Zag ?_ ?_ ?_
 refine Zcy T.l_Match ?_ (Zaa (pv 0))
 decide
 exact Zad
 rfl
 rfl
theorem Zk0 (T : Top K mg) (F_good_picks : Fn P w K mg base 14 "good_picks" ["claim", "play"] Zc9) : FnM P w K mg base 15 "Match" "good" ["self"] Zbs := by
 refine (fun h => h : _ → FnM P w K mg base 15 "Match" "good" ["self"] (Zbq 1 1 Zd1)) (Zn0 (N := ["self"]) (k := 14) T.t_Match_good Zkv (fun _ _ _ _ _ _ us hl => by obtain ⟨_, rfl⟩ := us1 hl; rfl) ?_)
 intro f cdv A outer s H E hr
 unfold Zd1
 refine Zac ?_ Zaf
 refine Zao ?_
 refine Zap F_good_picks (hr.mono (by decide)) ?_ ?_
 rfl
 refine Zag ?_ ?_ ?_
 refine Zcy T.l_Match ?_ (Zaa (pv 0))
 decide
 refine Zag ?_ ?_ ?_
 refine Zcy T.l_Match ?_ (Zaa (pv 0))
 decide
 exact Zad
 rfl
 rfl
theorem Zj9 (T : Top K mg) (F_left : Fn P w K mg base 4 "left" ["claim", "play"] Zhu) : FnM P w K mg base 5 "Match" "left" ["self"] Zbf := by
 refine (fun h => h : _ → FnM P w K mg base 5 "Match" "left" ["self"] (Zbq 1 1 Zd6)) (Zn0 (N := ["self"]) (k := 4) T.t_Match_left Zkd (fun _ _ _ _ _ _ us hl => by obtain ⟨_, rfl⟩ := us1 hl; rfl) ?_)
 intro f cdv A outer s H E hr
 unfold Zd6
 refine Zac ?_ Zaf
 refine Zao ?_
 refine Zap (Zkp F_left T.a_left_claims) (hr.mono (by decide)) ?_ ?_
 rfl
 refine Zag ?_ ?_ ?_
 refine Zcy T.l_Match ?_ (Zaa (pv 0))
 decide
 refine Zag ?_ ?_ ?_
 refine Zcy T.l_Match ?_ (Zaa (pv 0))
 decide
 exact Zad
 rfl
 rfl
theorem Zlo (T : Top K mg) (F_law_take : Fn P w K mg base 1 "_law_take" ["feed", "many"] Zai) (F_Match_good : FnM P w K mg base 15 "Match" "good" ["self"] Zbs) (F_Match_play : FnM P w K mg base 1 "Match" "play" ["self"] Zby) (F_Match_who : FnM P w K mg base 14 "Match" "who" ["self"] Zbc) (F_Match_left : FnM P w K mg base 5 "Match" "left" ["self"] Zbf) (F_left : Fn P w K mg base 4 "left" ["claim", "play"] Zhu) (F_good_picks : Fn P w K mg base 14 "good_picks" ["claim", "play"] Zc9) (F_winner : Fn P w K mg base 13 "winner" ["claim", "play"] Zec) : Fn P w K mg base 16 "_law_tells" ["feed", "match", "claim", "play"] Zek := by
 refine (fun h => h : _ → Fn P w K mg base 16 "_law_tells" ["feed", "match", "claim", "play"] (Zbq 4 9 Zep)) (Zc0 (N := ["feed", "match", "claim", "play", "due", "first", "turn", "which", "found"]) (k := 15) T.t_law_tells Zck (fun _ _ _ _ _ _ us hl => by obtain ⟨_, _, _, _, rfl⟩ := us4 hl; rfl) ?_)
 intro f cdv A outer s H E hr
 unfold Zep
 refine Zac ?_ ?_
 refine Zav (i := 4) ?_ ?_ ?_ ?_
 exact Zck.nd
 rfl
 first | exact Or.inl rfl | exact Or.inr rfl
 refine Zb7 ?_
 refine Zag ?_ ?_ ?_
 exact (Zaa (pv 3))
 refine Zag ?_ ?_ ?_
 refine Zap F_winner (hr.mono (by decide)) ?_ ?_
 rfl
 refine Zag ?_ ?_ ?_
 exact (Zaa (pv 2))
 refine Zag ?_ ?_ ?_
 exact (Zaa (pv 3))
 exact Zad
 rfl
 rfl
 refine Zag ?_ ?_ ?_
 refine Zap F_good_picks (hr.mono (by decide)) ?_ ?_
 rfl
 refine Zag ?_ ?_ ?_
 exact (Zaa (pv 2))
 refine Zag ?_ ?_ ?_
 exact (Zaa (pv 3))
 exact Zad
 rfl
 rfl
 refine Zag ?_ ?_ ?_
 refine Zap (Zkp F_left T.a_left_claims) (hr.mono (by decide)) ?_ ?_
 rfl
 refine Zag ?_ ?_ ?_
 exact (Zaa (pv 2))
 refine Zag ?_ ?_ ?_
 exact (Zaa (pv 3))
 exact Zad
 rfl
 rfl
 exact Zad
 rfl
 rfl
 rfl
 rfl
 refine Zac ?_ ?_
 refine Zav (i := 5) ?_ ?_ ?_ ?_
 exact Zck.nd
 rfl
 first | exact Or.inl rfl | exact Or.inr rfl
 refine Zap F_law_take (hr.mono (by decide)) ?_ ?_
 rfl
 refine Zag ?_ ?_ ?_
 exact (Zaa (pv 0))
 refine Zag ?_ ?_ ?_
 exact Zah
 exact Zad
 rfl
 rfl
 refine Zac ?_ ?_
 refine Zeh PassesOwn.never ?_ ?_ ?_ ?_
 rfl
 refine Zda ?_ T.n_range ?_
 rfl
 refine Zag ?_ ?_ ?_
 refine Za3 Zb4 Zah ?_
 refine Zap F_law_take (hr.mono (by decide)) ?_ ?_
 rfl
 refine Zag ?_ ?_ ?_
 exact (Zaa (pv 0))
 refine Zag ?_ ?_ ?_
 exact Zah
 exact Zad
 rfl
 rfl
 exact Zad
 rfl
 refine Zcv (i := 6) ?_ ?_ ?_
 exact Zck.nd
 rfl
 first | exact Or.inl rfl | exact Or.inr rfl
 refine Zac ?_ ?_
 refine Zav (i := 7) ?_ ?_ ?_ ?_
 exact Zck.nd
 rfl
 first | exact Or.inl rfl | exact Or.inr rfl
 refine Za3 Zfp ?_ Zah
 exact Za3 Zb4 (Zaa (pv 5)) (Zaa (pv 6))
 refine Zac ?_ ?_
 refine Zav (i := 8) ?_ ?_ ?_ ?_
 exact Zck.nd
 rfl
 first | exact Or.inl rfl | exact Or.inr rfl
 refine Zjo ?_ ?_ ?_
 exact Zar (Zbp hr.units) (Zaa (pv 7)) Zah (Zat _)
 exact Zaw F_Match_play (hr.mono (by decide)) (Zaa (pv 1))
 refine Zjo ?_ ?_ ?_
 exact Zar (Zbp hr.units) (Zaa (pv 7)) Zah (Zat _)
 exact Zaw F_Match_who (hr.mono (by decide)) (Zaa (pv 1))
 exact Zaw F_Match_left (hr.mono (by decide)) (Zaa (pv 1))
 refine Zac ?_ ?_
 refine Zbe ?_ ?_ Zaf
 exact Zar (Zbp hr.units) (Zaa (pv 7)) Zah (Zat _)
 refine Zac ?_ Zaf
 refine Zav (i := 8) ?_ ?_ ?_ ?_
 exact Zck.nd
 rfl
 first | exact Or.inl rfl | exact Or.inr rfl
 exact Zaw F_Match_good (hr.mono (by decide)) (Zaa (pv 1))
 refine Zac ?_ Zaf
 refine Zbe ?_ ?_ Zaf
 refine Zar (Zeg hr.units) (Zaa (pv 8)) ?_ (Zat _)
 exact Zay ixf (Zaa (pv 4)) (Zaa (pv 7)) (fun _ _ => rfl)
 refine Zac ?_ Zaf
 exact Zao Zdo
 refine Zac ?_ Zaf
 exact Zao Zdo
theorem Zjt (T : Top K mg) (F_Match_good : FnM P w K mg base 15 "Match" "good" ["self"] Zbs) (F_Match_who : FnM P w K mg base 14 "Match" "who" ["self"] Zbc) (F_Match_turn : FnM P w K mg base 1 "Match" "turn" ["self"] Zba) (F_Match_play : FnM P w K mg base 1 "Match" "play" ["self"] Zby) (F_Match_left : FnM P w K mg base 5 "Match" "left" ["self"] Zbf) : Fn P w K mg base 16 "_law_all_of" ["match"] Zbr := by
 refine (fun h => h : _ → Fn P w K mg base 16 "_law_all_of" ["match"] (Zbq 1 1 Zd5)) (Zc0 (N := ["match"]) (k := 15) T.t_law_all_of Zjv (fun _ _ _ _ _ _ us hl => by obtain ⟨_, rfl⟩ := us1 hl; rfl) ?_)
 intro f cdv A outer s H E hr
 unfold Zd5
 refine Zac ?_ Zaf
 refine Zao ?_
 refine Zb7 ?_
 refine Zag ?_ ?_ ?_
 exact Zaw F_Match_left (hr.mono (by decide)) (Zaa (pv 0))
 refine Zag ?_ ?_ ?_
 exact Zaw F_Match_play (hr.mono (by decide)) (Zaa (pv 0))
 refine Zag ?_ ?_ ?_
 exact Zaw F_Match_turn (hr.mono (by decide)) (Zaa (pv 0))
 refine Zag ?_ ?_ ?_
 exact Zaw F_Match_who (hr.mono (by decide)) (Zaa (pv 0))
 refine Zag ?_ ?_ ?_
 exact Zaw F_Match_good (hr.mono (by decide)) (Zaa (pv 0))
 exact Zad
 rfl
 rfl
 rfl
 rfl
 rfl
theorem Zhk (T : Top K mg) (F_law_all_of : Fn P w K mg base 16 "_law_all_of" ["match"] Zbr) (F_Match_back : FnM P w K mg base 1 "Match" "back" ["self"] Zbt) (F_is_plan : Fn P w K mg base 6 "is_plan" ["claim", "side", "thing"] Zgu) (F_plan : Fn P w K mg base 4 "plan" ["claim"] Zof) (F_Match_left : FnM P w K mg base 5 "Match" "left" ["self"] Zbf) (F_Match_who : FnM P w K mg base 14 "Match" "who" ["self"] Zbc) (F_Match_good : FnM P w K mg base 15 "Match" "good" ["self"] Zbs) (F_Match_turn : FnM P w K mg base 1 "Match" "turn" ["self"] Zba) (F_Match_pick : FnM P w K mg base 2 "Match" "pick" ["self", "truth"] Za5) (F_law_pick : Fn P w K mg base 2 "_law_pick" ["feed", "some"] Zau) (F_law_take : Fn P w K mg base 1 "_law_take" ["feed", "many"] Zai) (F_Match_init : FnI P w K mg base 1 "Match" ["self", "claim"] Zbz) : Fn P w K mg base 17 "_law_played_out" ["feed", "claim"] Zcc := by
 refine (fun h => h : _ → Fn P w K mg base 17 "_law_played_out" ["feed", "claim"] (Zbq 2 9 Zcb)) (Zc0 (N := ["feed", "claim", "match", "side", "told", "held", "due", "good", "truth"]) (k := 16) T.t_law_played_out Za4 (fun _ _ _ _ _ _ us hl => by obtain ⟨_, _, rfl⟩ := us2 hl; rfl) ?_)
 intro f cdv A outer s H E hr
 unfold Zcb
 refine Zac ?_ ?_
 refine Zav (i := 2) ?_ ?_ ?_ ?_
 exact Za4.nd
 rfl
 first | exact Or.inl rfl | exact Or.inr rfl
 refine Zh3 F_Match_init (hr.mono (by decide)) ?_ ?_
 rfl
 refine Zag ?_ ?_ ?_
 exact (Zaa (pv 1))
 exact Zad
 rfl
 refine Zac ?_ ?_
 refine Zav (i := 3) ?_ ?_ ?_ ?_
 exact Za4.nd
 rfl
 first | exact Or.inl rfl | exact Or.inr rfl
 exact Zaw F_Match_who (hr.mono (by decide)) (Zaa (pv 2))
 refine Zac ?_ ?_
 refine Zav (i := 4) ?_ ?_ ?_ ?_
 exact Za4.nd
 rfl
 first | exact Or.inl rfl | exact Or.inr rfl
 exact Zb7 Zad
 refine Zac ?_ ?_
 refine Zav (i := 5) ?_ ?_ ?_ ?_
 exact Za4.nd
 rfl
 first | exact Or.inl rfl | exact Or.inr rfl
 exact Zb7 Zad
 refine Zac ?_ ?_
 refine Zly PassesOwn.never ?_ ?_
 refine Zar Zk3 ?_ Zg8 (Zat _)
 exact Zaw F_Match_turn (hr.mono (by decide)) (Zaa (pv 2))
 refine Zac ?_ ?_
 refine Zcj ?_
 refine Zmt PySem.F.slot_list_append PySem.F.type_list_append Zfz (Zaa (pv 4)) ?_
 refine Zag ?_ ?_ ?_
 refine Zap F_law_all_of (hr.mono (by decide)) ?_ ?_
 rfl
 refine Zag ?_ ?_ ?_
 exact (Zaa (pv 2))
 exact Zad
 rfl
 exact Zad
 rfl
 refine Zac ?_ ?_
 refine Zav (i := 7) ?_ ?_ ?_ ?_
 exact Za4.nd
 rfl
 first | exact Or.inl rfl | exact Or.inr rfl
 exact Zaw F_Match_good (hr.mono (by decide)) (Zaa (pv 2))
 refine Zac ?_ ?_
 refine Zcj ?_
 refine Zmt PySem.F.slot_list_append PySem.F.type_list_append Zfz (Zaa (pv 5)) ?_
 refine Zag ?_ ?_ ?_
 refine Zct ?_
 refine Zag ?_ ?_ ?_
 exact (Zaa (pv 7))
 refine Zag ?_ ?_ ?_
 refine Zdb Zpw ?_ T.n_list Zwi ?_
 rfl
 refine Zag ?_ ?_ ?_
 exact (Zaa (pv 7))
 exact Zad
 rfl
 exact Zad
 rfl
 rfl
 exact Zad
 rfl
 refine Zac ?_ ?_
 refine Zbe ?_ ?_ Zaf
 refine PWf.pt ?_
 refine Zg0 ?_ ?_
 refine Zar (Zeg hr.units) ?_ (Zaa (pv 3)) (Zat _)
 exact Zaw F_Match_who (hr.mono (by decide)) (Zaa (pv 2))
 refine Zgi ?_
 refine PWf.pt ?_
 refine Znl ?_ ?_
 refine Zar (Zbp hr.units) ?_ (Zaa (pv 3)) (Zat _)
 exact Zaw F_Match_turn (hr.mono (by decide)) (Zaa (pv 2))
 refine Zk6 ?_
 refine Zar (Zbp hr.units) (Zaa (pv 7)) ?_ (Zat _)
 exact Zb7 Zad
 refine Zac ?_ Zaf
 exact Zao Zdo
 refine Zac ?_ ?_
 refine Zav (i := 8) ?_ ?_ ?_ ?_
 exact Za4.nd
 rfl
 first | exact Or.inl rfl | exact Or.inr rfl
 refine Zcx (Zbp hr.units) ?_ Zah (Zat _)
 refine Zap F_law_take (hr.mono (by decide)) ?_ ?_
 rfl
 refine Zag ?_ ?_ ?_
 exact (Zaa (pv 0))
 refine Zag ?_ ?_ ?_
 exact Zah
 exact Zad
 rfl
 rfl
 refine Zac ?_ ?_
 refine Zbe ?_ ?_ Zaf
 refine Zar (Zbp hr.units) ?_ (Zaa (pv 3)) (Zat _)
 exact Zaw F_Match_turn (hr.mono (by decide)) (Zaa (pv 2))
 refine Zac ?_ Zaf
 refine Zav (i := 8) ?_ ?_ ?_ ?_
 exact Za4.nd
 rfl
 first | exact Or.inl rfl | exact Or.inr rfl
 refine Zap F_law_pick (hr.mono (by decide)) ?_ ?_
 rfl
 refine Zag ?_ ?_ ?_
 exact (Zaa (pv 0))
 refine Zag ?_ ?_ ?_
 exact (Zaa (pv 7))
 exact Zad
 rfl
 rfl
 refine Zac ?_ Zaf
 refine Zcj ?_
 refine Zg3 F_Match_pick (hr.mono (by decide)) (Zaa (pv 2)) ?_
 refine Zag ?_ ?_ ?_
 exact (Zaa (pv 8))
 exact Zad
 rfl
 refine Zac ?_ ?_
 refine Zbe ?_ ?_ Zaf
 refine PWf.pt ?_
 refine Zg0 ?_ ?_
 refine Zar (Zeg hr.units) ?_ (Zaa (pv 3)) (Zat _)
 exact Zaw F_Match_who (hr.mono (by decide)) (Zaa (pv 2))
 refine Zgi ?_
 refine Zar (Zeg hr.units) ?_ ?_ (Zat _)
 exact Zaw F_Match_good (hr.mono (by decide)) (Zaa (pv 2))
 exact Zb7 Zad
 refine Zac ?_ Zaf
 exact Zao Zdo
 refine Zac ?_ ?_
 refine Zbe ?_ ?_ Zaf
 refine Zar Zk3 ?_ Zdo (Zat _)
 refine Zap F_is_plan (hr.mono (by decide)) ?_ ?_
 rfl
 refine Zag ?_ ?_ ?_
 exact Zaw F_Match_left (hr.mono (by decide)) (Zaa (pv 2))
 refine Zag ?_ ?_ ?_
 exact (Zaa (pv 3))
 refine Zag ?_ ?_ ?_
 refine Zay ixf ?_ Zah (fun _ _ => rfl)
 refine Zap F_plan (hr.mono (by decide)) ?_ ?_
 rfl
 refine Zag ?_ ?_ ?_
 exact Zaw F_Match_left (hr.mono (by decide)) (Zaa (pv 2))
 exact Zad
 rfl
 exact Zad
 rfl
 rfl
 rfl
 refine Zac ?_ Zaf
 exact Zao Zdo
 refine Zac ?_ ?_
 refine Zeh PassesOwn.never ?_ ?_ ?_ ?_
 rfl
 refine Zmh ?_ T.n_reversed ?_
 rfl
 refine Zag ?_ ?_ ?_
 exact (Zaa (pv 4))
 exact Zad
 rfl
 refine Zcv (i := 6) ?_ ?_ ?_
 exact Za4.nd
 rfl
 first | exact Or.inl rfl | exact Or.inr rfl
 refine Zac ?_ ?_
 refine Zcj ?_
 exact Zaw F_Match_back (hr.mono (by decide)) (Zaa (pv 2))
 refine Zac ?_ Zaf
 refine Zbe ?_ ?_ Zaf
 refine Zar (Zeg hr.units) ?_ (Zaa (pv 6)) (Zat _)
 refine Zap F_law_all_of (hr.mono (by decide)) ?_ ?_
 rfl
 refine Zag ?_ ?_ ?_
 exact (Zaa (pv 2))
 exact Zad
 rfl
 refine Zac ?_ Zaf
 exact Zao Zdo
 refine Zac ?_ Zaf
 refine Zao ?_
 refine Zcx (Zbp hr.units) ?_ ?_ (Zat _)
 refine Zw9 (cn := []) ?_ (Zv8 (x := "good") (y0 := "copy") (cn := []) (ci := []) (by decide +kernel)) ?_ ?_ ?_
 rfl
 exact Zd9 (Zaa (pv 5))
 intro _ _ _ _ _ _
 refine Zgq ?_
 exact Zar (Zeg hr.units) (Zaa (pv 0)) (Zaa (pv 1)) (Zat _)
 intro _ _ _ _ _ _
 exact Zah
 exact Zb7 Zad
theorem Zhj (T : Top K mg) (F_Match_turn : FnM P w K mg base 1 "Match" "turn" ["self"] Zba) (F_Match_who : FnM P w K mg base 14 "Match" "who" ["self"] Zbc) (F_Match_play : FnM P w K mg base 1 "Match" "play" ["self"] Zby) (F_Match_pick : FnM P w K mg base 2 "Match" "pick" ["self", "truth"] Za5) (F_law_take : Fn P w K mg base 1 "_law_take" ["feed", "many"] Zai) (F_law_all_of : Fn P w K mg base 16 "_law_all_of" ["match"] Zbr) (F_Match_left : FnM P w K mg base 5 "Match" "left" ["self"] Zbf) (F_Match_init : FnI P w K mg base 1 "Match" ["self", "claim"] Zbz) (F_left : Fn P w K mg base 4 "left" ["claim", "play"] Zhu) : Fn P w K mg base 17 "_law_rest_right" ["feed", "claim"] Zcg := by
 refine (fun h => h : _ → Fn P w K mg base 17 "_law_rest_right" ["feed", "claim"] (Zbq 2 6 Zcd)) (Zc0 (N := ["feed", "claim", "play", "match", "truth", "rest"]) (k := 16) T.t_law_rest_right Zbu (fun _ _ _ _ _ _ us hl => by obtain ⟨_, _, rfl⟩ := us2 hl; rfl) ?_)
 intro f cdv A outer s H E hr
 unfold Zcd
 refine Zac ?_ ?_
 refine Zav (i := 2) ?_ ?_ ?_ ?_
 exact Zbu.nd
 rfl
 first | exact Or.inl rfl | exact Or.inr rfl
 refine Zdb Zdu ?_ T.n_tuple Zfg ?_
 rfl
 refine Zag ?_ ?_ ?_
 refine Zg1 (cn := ["feed"]) ?_ (Ze0 (x := "name") (cn := ["feed"]) (ci := [0]) (by decide +kernel)) ?_ ?_ ?_
 rfl
 refine Zda ?_ T.n_range ?_
 rfl
 refine Zag ?_ ?_ ?_
 refine Zap F_law_take (hr.mono (by decide)) ?_ ?_
 rfl
 refine Zag ?_ ?_ ?_
 exact (Zaa (pv 0))
 refine Zag ?_ ?_ ?_
 refine Za3 Zb4 ?_ Zah
 refine Zaq Za1 ?_ T.n_len Zb6 ?_
 rfl
 refine Zag ?_ ?_ ?_
 exact Zay ixf (Zaa (pv 1)) Zah (fun _ _ => rfl)
 exact Zad
 rfl
 exact Zad
 rfl
 rfl
 exact Zad
 rfl
 intro _ _ _ _ _ _
 exact Zed
 intro _ _ _ _ _ _
 refine Zcx (Zbp hr.units) ?_ Zah (Zat _)
 refine Zap F_law_take (hr.mono (by decide)) ?_ ?_
 rfl
 refine Zag ?_ ?_ ?_
 exact (Zaa (pv 1))
 refine Zag ?_ ?_ ?_
 exact Zah
 exact Zad
 rfl
 rfl
 exact Zad
 rfl
 refine Zac ?_ ?_
 refine Zav (i := 3) ?_ ?_ ?_ ?_
 exact Zbu.nd
 rfl
 first | exact Or.inl rfl | exact Or.inr rfl
 refine Zh3 F_Match_init (hr.mono (by decide)) ?_ ?_
 rfl
 refine Zag ?_ ?_ ?_
 exact (Zaa (pv 1))
 exact Zad
 rfl
 refine Zac ?_ ?_
 refine Zeh PassesOwn.never ?_ ?_ ?_ ?_
 rfl
 exact Zd9 (Zaa (pv 2))
 refine Zcv (i := 4) ?_ ?_ ?_
 exact Zbu.nd
 rfl
 first | exact Or.inl rfl | exact Or.inr rfl
 refine Zac ?_ Zaf
 refine Zcj ?_
 refine Zg3 F_Match_pick (hr.mono (by decide)) (Zaa (pv 3)) ?_
 refine Zag ?_ ?_ ?_
 exact (Zaa (pv 4))
 exact Zad
 rfl
 refine Zac ?_ ?_
 refine Zav (i := 5) ?_ ?_ ?_ ?_
 exact Zbu.nd
 rfl
 first | exact Or.inl rfl | exact Or.inr rfl
 refine Zh3 F_Match_init (hr.mono (by decide)) ?_ ?_
 rfl
 refine Zag ?_ ?_ ?_
 refine Zap (Zkp F_left T.a_left_claims) (hr.mono (by decide)) ?_ ?_
 rfl
 refine Zag ?_ ?_ ?_
 exact (Zaa (pv 1))
 refine Zag ?_ ?_ ?_
 exact (Zaa (pv 2))
 exact Zad
 rfl
 rfl
 exact Zad
 rfl
 refine Zac ?_ ?_
 refine Zly PassesOwn.never ?_ ?_
 refine Zar Zk3 ?_ Zg8 (Zat _)
 exact Zaw F_Match_turn (hr.mono (by decide)) (Zaa (pv 3))
 refine Zac ?_ ?_
 refine Zbe ?_ ?_ Zaf
 refine PWf.pt ?_
 refine Zg0 ?_ ?_
 refine Zar (Zeg hr.units) ?_ ?_ (Zat _)
 refine Zeo ?_ ?_ Zfb
 refine Zap F_law_all_of (hr.mono (by decide)) ?_ ?_
 rfl
 refine Zag ?_ ?_ ?_
 exact (Zaa (pv 3))
 exact Zad
 rfl
 exact Zfi Zah
 refine Zeo ?_ ?_ Zfb
 refine Zap F_law_all_of (hr.mono (by decide)) ?_ ?_
 rfl
 refine Zag ?_ ?_ ?_
 exact (Zaa (pv 5))
 exact Zad
 rfl
 exact Zfi Zah
 refine Zgi ?_
 refine Zar (Zeg hr.units) ?_ ?_ (Zat _)
 exact Zaw F_Match_left (hr.mono (by decide)) (Zaa (pv 3))
 exact Zaw F_Match_left (hr.mono (by decide)) (Zaa (pv 5))
 refine Zac ?_ Zaf
 exact Zao Zdo
 refine Zac ?_ ?_
 refine Zav (i := 4) ?_ ?_ ?_ ?_
 exact Zbu.nd
 rfl
 first | exact Or.inl rfl | exact Or.inr rfl
 refine Zcx (Zbp hr.units) ?_ Zah (Zat _)
 refine Zap F_law_take (hr.mono (by decide)) ?_ ?_
 rfl
 refine Zag ?_ ?_ ?_
 exact (Zaa (pv 0))
 refine Zag ?_ ?_ ?_
 exact Zah
 exact Zad
 rfl
 rfl
 refine Zac ?_ ?_
 refine Zcj ?_
 refine Zg3 F_Match_pick (hr.mono (by decide)) (Zaa (pv 3)) ?_
 refine Zag ?_ ?_ ?_
 exact (Zaa (pv 4))
 exact Zad
 rfl
 refine Zac ?_ Zaf
 refine Zcj ?_
 refine Zg3 F_Match_pick (hr.mono (by decide)) (Zaa (pv 5)) ?_
 refine Zag ?_ ?_ ?_
 exact (Zaa (pv 4))
 exact Zad
 rfl
 refine Zac ?_ Zaf
 refine Zao ?_
 refine Zga ?_ ?_
 refine Zcx Zp4 ?_ Zg8 (Zat _)
 exact Zaw F_Match_turn (hr.mono (by decide)) (Zaa (pv 5))
 refine Zga ?_ ?_
 refine Zcx (Zbp hr.units) ?_ ?_ (Zat _)
 exact Zaw F_Match_who (hr.mono (by decide)) (Zaa (pv 3))
 exact Zaw F_Match_who (hr.mono (by decide)) (Zaa (pv 5))
 refine Zgl ?_
 refine Zcx (Zbp hr.units) ?_ ?_ (Zat _)
 exact Zaw F_Match_play (hr.mono (by decide)) (Zaa (pv 3))
 refine Za3 Zb4 (Zaa (pv 2)) ?_
 exact Zaw F_Match_play (hr.mono (by decide)) (Zaa (pv 5))
theorem Zx5 (T : Top K mg) (F_law_rest_right : Fn P w K mg base 17 "_law_rest_right" ["feed", "claim"] Zcg) (F_law_played_out : Fn P w K mg base 17 "_law_played_out" ["feed", "claim"] Zcc) (F_law_take : Fn P w K mg base 1 "_law_take" ["feed", "many"] Zai) (F_law_tells : Fn P w K mg base 16 "_law_tells" ["feed", "match", "claim", "play"] Zek) (F_Match_back : FnM P w K mg base 1 "Match" "back" ["self"] Zbt) (F_Match_pick : FnM P w K mg base 2 "Match" "pick" ["self", "truth"] Za5) (F_Match_init : FnI P w K mg base 1 "Match" ["self", "claim"] Zbz) (F_law_feed : Fn P w K mg base 1 "_law_feed" ["script", "k"] Zc8) (F_law_claim : Fn P w K mg base 4 "_law_claim" ["feed", "most", "rows"] Zc6) : Fn P w K mg base 18 "law" ["script"] Zo8 := by
 refine (fun h => h : _ → Fn P w K mg base 18 "law" ["script"] (Zbq 1 8 Zso)) (Zc0 (N := ["script", "claims", "feed", "matches", "plays", "turn", "at", "truth"]) (k := 17) T.t_law Zht (fun _ _ _ _ _ _ us hl => by obtain ⟨_, rfl⟩ := us1 hl; rfl) ?_)
 intro f cdv A outer s H E hr
 unfold Zso
 refine Zac ?_ ?_
 refine Zav (i := 1) ?_ ?_ ?_ ?_
 exact Zht.nd
 rfl
 first | exact Or.inl rfl | exact Or.inr rfl
 refine Zb7 ?_
 refine Zag ?_ ?_ ?_
 refine Zap F_law_claim (hr.mono (by decide)) ?_ ?_
 rfl
 refine Zag ?_ ?_ ?_
 refine Zap F_law_feed (hr.mono (by decide)) ?_ ?_
 rfl
 refine Zag ?_ ?_ ?_
 exact (Zaa (pv 0))
 refine Zag ?_ ?_ ?_
 exact Zah
 exact Zad
 rfl
 rfl
 refine Zag ?_ ?_ ?_
 exact Zah
 refine Zag ?_ ?_ ?_
 exact Zah
 exact Zad
 rfl
 rfl
 rfl
 refine Zag ?_ ?_ ?_
 refine Zap F_law_claim (hr.mono (by decide)) ?_ ?_
 rfl
 refine Zag ?_ ?_ ?_
 refine Zap F_law_feed (hr.mono (by decide)) ?_ ?_
 rfl
 refine Zag ?_ ?_ ?_
 exact (Zaa (pv 0))
 refine Zag ?_ ?_ ?_
 exact Zah
 exact Zad
 rfl
 rfl
 refine Zag ?_ ?_ ?_
 exact Zah
 refine Zag ?_ ?_ ?_
 exact Zah
 exact Zad
 rfl
 rfl
 rfl
 exact Zad
 rfl
 rfl
 refine Zac ?_ ?_
 refine Zav (i := 2) ?_ ?_ ?_ ?_
 exact Zht.nd
 rfl
 first | exact Or.inl rfl | exact Or.inr rfl
 refine Zap F_law_feed (hr.mono (by decide)) ?_ ?_
 rfl
 refine Zag ?_ ?_ ?_
 exact (Zaa (pv 0))
 refine Zag ?_ ?_ ?_
 exact Zah
 exact Zad
 rfl
 rfl
 refine Zac ?_ ?_
 refine Zbe ?_ ?_ Zaf
 refine Zar (Zbp hr.units) ?_ Zah (Zat _)
 refine Zap F_law_take (hr.mono (by decide)) ?_ ?_
 rfl
 refine Zag ?_ ?_ ?_
 exact (Zaa (pv 2))
 refine Zag ?_ ?_ ?_
 exact Zah
 exact Zad
 rfl
 rfl
 refine Zac ?_ Zaf
 refine Zia ?_ ?_
 exact Zay ixf (Zaa (pv 1)) Zah (fun _ _ => rfl)
 exact Zik (Zaa (pv 1)) Zah Zzs
 refine Zac ?_ ?_
 refine Zav (i := 3) ?_ ?_ ?_ ?_
 exact Zht.nd
 rfl
 first | exact Or.inl rfl | exact Or.inr rfl
 refine Zg1 (cn := []) ?_ (Ze0 (x := "claim") (cn := []) (ci := []) (by decide +kernel)) ?_ ?_ ?_
 rfl
 exact Zd9 (Zaa (pv 1))
 intro _ _ _ _ _ _
 exact Zed
 intro _ _ _ _ _ _
 refine Zh3 F_Match_init (hr.mono (by decide)) ?_ ?_
 rfl
 refine Zag ?_ ?_ ?_
 exact (Zaa (pv 0))
 exact Zad
 rfl
 refine Zac ?_ ?_
 refine Zav (i := 4) ?_ ?_ ?_ ?_
 exact Zht.nd
 rfl
 first | exact Or.inl rfl | exact Or.inr rfl
 refine Zb7 ?_
 refine Zag ?_ ?_ ?_
 exact Zct Zad
 refine Zag ?_ ?_ ?_
 exact Zct Zad
 exact Zad
 rfl
 rfl
 refine Zac ?_ ?_
 refine Zeh PassesOwn.never ?_ ?_ ?_ ?_
 rfl
 refine Zda ?_ T.n_range ?_
 rfl
 refine Zag ?_ ?_ ?_
 refine Za3 Zb4 Zah ?_
 refine Zap F_law_take (hr.mono (by decide)) ?_ ?_
 rfl
 refine Zag ?_ ?_ ?_
 exact (Zaa (pv 2))
 refine Zag ?_ ?_ ?_
 exact Zah
 exact Zad
 rfl
 rfl
 exact Zad
 rfl
 refine Zcv (i := 5) ?_ ?_ ?_
 exact Zht.nd
 rfl
 first | exact Or.inl rfl | exact Or.inr rfl
 refine Zac ?_ ?_
 refine Zav (i := 6) ?_ ?_ ?_ ?_
 exact Zht.nd
 rfl
 first | exact Or.inl rfl | exact Or.inr rfl
 refine Zap F_law_take (hr.mono (by decide)) ?_ ?_
 rfl
 refine Zag ?_ ?_ ?_
 exact (Zaa (pv 2))
 refine Zag ?_ ?_ ?_
 exact Zah
 exact Zad
 rfl
 rfl
 refine Zac ?_ ?_
 refine Zbe ?_ ?_ ?_
 refine PWf.pt ?_
 refine Znl ?_ ?_
 refine Zar (Zbp hr.units) ?_ Zah (Zat _)
 refine Zap F_law_take (hr.mono (by decide)) ?_ ?_
 rfl
 refine Zag ?_ ?_ ?_
 exact (Zaa (pv 2))
 refine Zag ?_ ?_ ?_
 exact Zah
 exact Zad
 rfl
 rfl
 refine Zk6 ?_
 refine Zar (Zeg hr.units) ?_ ?_ (Zat _)
 exact Zay ixf (Zaa (pv 4)) (Zaa (pv 6)) (fun _ _ => rfl)
 exact Zct Zad
 refine Zac ?_ ?_
 refine Zcj ?_
 refine Zaw F_Match_back (hr.mono (by decide)) ?_
 exact Zay ixf (Zaa (pv 3)) (Zaa (pv 6)) (fun _ _ => rfl)
 refine Zac ?_ Zaf
 refine Zia ?_ ?_
 refine Zeo ?_ Zfb ?_
 exact Zay ixf (Zaa (pv 4)) (Zaa (pv 6)) (fun _ _ => rfl)
 refine Zfi ?_
 exact Zmi Zih Zah
 exact Zik (Zaa (pv 4)) (Zaa (pv 6)) Zzs
 refine Zac ?_ Zaf
 refine Zbe ?_ ?_ Zaf
 refine Zar Zrl ?_ ?_ (Zat _)
 refine Zaq Za1 ?_ T.n_len Zb6 ?_
 rfl
 refine Zag ?_ ?_ ?_
 exact Zay ixf (Zaa (pv 4)) (Zaa (pv 6)) (fun _ _ => rfl)
 exact Zad
 rfl
 refine Zaq Za1 ?_ T.n_len Zb6 ?_
 rfl
 refine Zag ?_ ?_ ?_
 refine Zay ixf ?_ Zah (fun _ _ => rfl)
 exact Zay ixf (Zaa (pv 1)) (Zaa (pv 6)) (fun _ _ => rfl)
 exact Zad
 rfl
 refine Zac ?_ ?_
 refine Zav (i := 7) ?_ ?_ ?_ ?_
 exact Zht.nd
 rfl
 first | exact Or.inl rfl | exact Or.inr rfl
 refine Zcx (Zbp hr.units) ?_ Zah (Zat _)
 refine Zap F_law_take (hr.mono (by decide)) ?_ ?_
 rfl
 refine Zag ?_ ?_ ?_
 exact (Zaa (pv 2))
 refine Zag ?_ ?_ ?_
 exact Zah
 exact Zad
 rfl
 rfl
 refine Zac ?_ ?_
 refine Zcj ?_
 refine Zg3 F_Match_pick (hr.mono (by decide)) ?_ ?_
 exact Zay ixf (Zaa (pv 3)) (Zaa (pv 6)) (fun _ _ => rfl)
 refine Zag ?_ ?_ ?_
 exact (Zaa (pv 7))
 exact Zad
 rfl
 refine Zac ?_ Zaf
 refine Zia ?_ ?_
 refine Za3 Zb4 ?_ ?_
 exact Zay ixf (Zaa (pv 4)) (Zaa (pv 6)) (fun _ _ => rfl)
 refine Zct ?_
 refine Zag ?_ ?_ ?_
 exact (Zaa (pv 7))
 exact Zad
 rfl
 exact Zik (Zaa (pv 4)) (Zaa (pv 6)) Zzs
 refine Zac ?_ Zaf
 refine Zbe ?_ ?_ Zaf
 refine Zar Zjd ?_ Zah (Zat _)
 refine Zap F_law_take (hr.mono (by decide)) ?_ ?_
 rfl
 refine Zag ?_ ?_ ?_
 exact (Zaa (pv 2))
 refine Zag ?_ ?_ ?_
 exact Zah
 exact Zad
 rfl
 rfl
 refine Zac ?_ Zaf
 refine Zbe ?_ ?_ Zaf
 refine Zar (Zzg hr.units) Zdo ?_ ?_
 refine Zg1 (cn := ["claims", "feed", "matches", "plays"]) ?_ (Ze0 (x := "k") (cn := ["claims", "feed", "matches", "plays"]) (ci := [1, 2, 3, 4]) (by decide +kernel)) ?_ ?_ ?_
 rfl
 refine Zda ?_ T.n_range ?_
 rfl
 refine Zag ?_ ?_ ?_
 exact Zah
 exact Zad
 rfl
 intro _ _ _ _ _ _
 exact Zed
 intro _ _ _ _ _ _
 refine Zap F_law_tells (hr.mono (by decide)) ?_ ?_
 rfl
 refine Zag ?_ ?_ ?_
 exact (Zaa (pv 2))
 refine Zag ?_ ?_ ?_
 exact Zay ixf (Zaa (pv 3)) (Zaa (pv 0)) (fun _ _ => rfl)
 refine Zag ?_ ?_ ?_
 exact Zay ixf (Zaa (pv 1)) (Zaa (pv 0)) (fun _ _ => rfl)
 refine Zag ?_ ?_ ?_
 exact Zay ixf (Zaa (pv 4)) (Zaa (pv 0)) (fun _ _ => rfl)
 exact Zad
 rfl
 rfl
 rfl
 rfl
 with_unfolding_all rfl
 refine Zac ?_ Zaf
 exact Zao Zdo
 refine Zac ?_ ?_
 refine Zbe ?_ ?_ Zaf
 refine PWf.pt ?_
 refine Zg0 ?_ ?_
 refine Zg6 ?_
 refine Zce ?_ (fun _ => rfl)
 refine Zap F_law_played_out (hr.mono (by decide)) ?_ ?_
 rfl
 refine Zag ?_ ?_ ?_
 exact (Zaa (pv 2))
 refine Zag ?_ ?_ ?_
 exact Zay ixf (Zaa (pv 1)) Zah (fun _ _ => rfl)
 exact Zad
 rfl
 rfl
 refine Zgi ?_
 refine Zg6 ?_
 refine Zce ?_ (fun _ => rfl)
 refine Zap F_law_played_out (hr.mono (by decide)) ?_ ?_
 rfl
 refine Zag ?_ ?_ ?_
 exact (Zaa (pv 2))
 refine Zag ?_ ?_ ?_
 exact Zay ixf (Zaa (pv 1)) Zah (fun _ _ => rfl)
 exact Zad
 rfl
 rfl
 refine Zac ?_ Zaf
 exact Zao Zdo
 refine Zac ?_ Zaf
 refine Zao ?_
 refine Zga ?_ ?_
 refine Zap F_law_rest_right (hr.mono (by decide)) ?_ ?_
 rfl
 refine Zag ?_ ?_ ?_
 exact (Zaa (pv 2))
 refine Zag ?_ ?_ ?_
 exact Zay ixf (Zaa (pv 1)) Zah (fun _ _ => rfl)
 exact Zad
 rfl
 rfl
 refine Zgl ?_
 refine Zap F_law_rest_right (hr.mono (by decide)) ?_ ?_
 rfl
 refine Zag ?_ ?_ ?_
 exact (Zaa (pv 2))
 refine Zag ?_ ?_ ?_
 exact Zay ixf (Zaa (pv 1)) Zah (fun _ _ => rfl)
 exact Zad
 rfl
 rfl
theorem Zx2 (T : Top K mg) : Fn P w K mg base 18 "law" ["script"] Zo8 := by
 have F_is_whole := Znb (P := P) (w := w) (base := base) T
 have F_is_truth := Znq (P := P) (w := w) (base := base) T
 have F_is_open := Zpg (P := P) (w := w) (base := base) T
 have F_is_right := Zm0 (P := P) (w := w) (base := base) T F_is_open
 have F_is_kept := Zpu (P := P) (w := w) (base := base) T F_is_right
 have F_renumbered := Zki (P := P) (w := w) (base := base) T
 have F_row_left := Zn3 (P := P) (w := w) (base := base) T F_renumbered F_is_open
 have F_left := Zw7 (P := P) (w := w) (base := base) T F_row_left F_is_kept
 have F_first_numbers := Zhy (P := P) (w := w) (base := base) T
 have F_rows_behind := Zi3 (P := P) (w := w) (base := base) T
 have F_rows_behind_play := Zgk (P := P) (w := w) (base := base) T F_rows_behind F_first_numbers
 have F_other_side := Zj3 (P := P) (w := w) (base := base) T
 have F_winner_behind := Zhz (P := P) (w := w) (base := base) T F_other_side F_rows_behind
 have F_winner := Zq9 (P := P) (w := w) (base := base) T F_winner_behind F_rows_behind_play
 have F_good_picks := Zke (P := P) (w := w) (base := base) T F_winner
 have F_are_of_all := Zjx (P := P) (w := w) (base := base) T
 have F_number_of_lost := Zhh (P := P) (w := w) (base := base) T F_are_of_all
 have F_plan_behind := Zi5 (P := P) (w := w) (base := base) T F_number_of_lost
 have F_plan := Zvc (P := P) (w := w) (base := base) T F_plan_behind F_first_numbers
 have F_is_plan_end := Zi0 (P := P) (w := w) (base := base) T F_is_kept F_are_of_all F_is_open F_is_whole
 have F_is_plan_behind := Zg9 (P := P) (w := w) (base := base) T F_is_plan_end
 have F_is_plan := Zo5 (P := P) (w := w) (base := base) T F_is_plan_behind
 have F_law_feed := Zng (P := P) (w := w) (base := base) T
 have F_law_take := Znr (P := P) (w := w) (base := base) T
 have F_law_pick := Znc (P := P) (w := w) (base := base) T F_law_take
 have F_law_row := Zpa (P := P) (w := w) (base := base) T F_law_take F_law_pick
 have F_law_claim := Zlp (P := P) (w := w) (base := base) T F_law_take F_law_pick F_law_row
 have F_Match_init := Zkf (P := P) (w := w) (base := base) T
 have F_Match_pick := Zju (P := P) (w := w) (base := base) T F_is_truth
 have F_Match_back := Zk1 (P := P) (w := w) (base := base) T
 have F_Match_play := Zkw (P := P) (w := w) (base := base) T
 have F_Match_turn := Zkl (P := P) (w := w) (base := base) T
 have F_Match_who := Zlr (P := P) (w := w) (base := base) T F_winner
 have F_Match_good := Zk0 (P := P) (w := w) (base := base) T F_good_picks
 have F_Match_left := Zj9 (P := P) (w := w) (base := base) T F_left
 have F_law_tells := Zlo (P := P) (w := w) (base := base) T F_law_take F_Match_good F_Match_play F_Match_who F_Match_left F_left F_good_picks F_winner
 have F_law_all_of := Zjt (P := P) (w := w) (base := base) T F_Match_good F_Match_who F_Match_turn F_Match_play F_Match_left
 have F_law_played_out := Zhk (P := P) (w := w) (base := base) T F_law_all_of F_Match_back F_is_plan F_plan F_Match_left F_Match_who F_Match_good F_Match_turn F_Match_pick F_law_pick F_law_take F_Match_init
 have F_law_rest_right := Zhj (P := P) (w := w) (base := base) T F_Match_turn F_Match_who F_Match_play F_Match_pick F_law_take F_law_all_of F_Match_left F_Match_init F_left
 have F_law := Zx5 (P := P) (w := w) (base := base) T F_law_rest_right F_law_played_out F_law_take F_law_tells F_Match_back F_Match_pick F_Match_init F_law_feed F_law_claim
 exact F_law
end
theorem walk {l : PySem.W.OpenLaw} {q : Program} {loose : List Str} {XP : (Str -> Option Value) -> Heap -> Prop} {YP : World -> Heap -> Prop} {d : DefRec} {K : Params -> PySem.W.Frag} (hn : l.most = some 63) (hdf : d.params.defaults = [])
  (hd : d.name = "law") (hY : ∀ (w : World) (h : Heap), YP w h → (K w.params).In h) (hT : ∀ (w : World) (mg : Str → Option Value) (h : Heap), (K w.params).In h → h.Ns mainGlobals mg → Top (K w.params) mg)
  (pure : ∀ ns : List Int, ns.length ≤ 63 -> ∃ Hd', Zo8 [.fl (ns.map .int)] [] = some (.bl true, Hd')) : PySem.W.WalkO q loose XP YP l.row.toRowW d [] (fun f vs => PySem.call f vs) := by
 refine L2.walk_ofK (n := 63) (k := 18) (x := "script") (CX := CX0) (sp := Zze Zo8) hn (by decide) hdf ⟨rfl, by decide, by decide, rfl⟩ hY (fun w mg fa h KX G hmg => ?_) (Zsg pure) (fun _ _ _ _ z => z)
 have T := hT w mg h KX G
 obtain ⟨f, fd, F, hm⟩ := T.t_law
 have e0 : f = fa := by rw [hd] at hmg; rw [hm] at hmg; cases hmg; rfl
 subst e0
 have B := F.binds (ps := ["script"]) (fun _ _ _ _ _ _ us hl => by obtain ⟨_, rfl⟩ := us1 hl; rfl)
 refine ⟨fd, fun s u => ?_, fun base kb nb => ?_⟩
 ·obtain ⟨oc, od, kV, doc, pm, an, cdv, ct, osl, rfl, lk, hcd⟩ := F.ex
  exact .of_eq rfl
 ·obtain ⟨f', fd', G1, hb, hk, hm', oc', od', osl', lk'⟩ := (Zx2 (P := l.prog) (w := w) (base := base) T).ex
  have e1 : f' = f := by rw [hm] at hm'; cases hm'; rfl
  subst e1
  have e2 : fd' = fd := by
   obtain ⟨oc, od, kV, doc, pm, an, cdv, ct, osl, e3, lk, hcd⟩ := F.ex
   rw [lk] at lk'
   have e4 := Option.some.inj lk'
   injection e4 with _ _ e5 _
   injection e5 with e6
   exact e6.symm
  subst e2
  exact G1
end K08
open PySem PySem.W PyProof.Rows L2 DL
set_option maxRecDepth 100000 in
set_option maxHeartbeats 0 in
theorem PySem.Challenge.cw_allsome_k68_whole_matches_by_turns_holds : PySem.Challenge.rw_allsome_k68_whole_matches_by_turns.Holds := by
 w_on; o_law; refine holds_open (q := (PySem.Challenge.vwOf PySem.Challenge.pw_allsome_k68_whole_matches_by_turns)) (loose := [("left_claims" : Str)]) (Xt := PySem.Challenge.xt0) (XP := XL (PySem.Challenge.vwOf PySem.Challenge.pw_allsome_k68_whole_matches_by_turns) []) (Yf := Hook.obs PySem.Challenge.hk0) (Ya := Hook.val PySem.Challenge.hk0) (YP := InK PySem.Challenge.mk0.heap_39) (N := 4406) PySem.Challenge.left0 (Hook.of PySem.Challenge.hk0) (Hook.keeps PySem.Challenge.hk0) (fun s e => xl_of s (Bool.and_eq_true_iff.mp e).1) XL.keeps (by rfl) (by rfl) (by rfl) (fun s e => recFacts_of (Bool.and_eq_true_iff.mp e).2) (by rfl) (by assumption) (by decide +kernel) ⟨rfl, rfl, rfl, rfl, rfl, by decide +kernel⟩ ?hw ?hc
 (case hw => w_witness2)
 k_fill
 refine K08.walk (l := PySem.Challenge.rw_allsome_k68_whole_matches_by_turns) rfl rfl rfl (fun w h Y => Y) ?T K08.pure_law
 case T =>
  intro w mg h KX G
  have t_is_whole : Tf (L2.KOf KX) mg "is_whole" K08.s_is_whole := by
   dsimp only [L2.KOf]
   refine' Zc3 KX G ?a ?l ?c ?k
   (case a => k_is); (case l => k_is); (case c => k_is); (case k => k_is)
  have t_is_truth : Tf (L2.KOf KX) mg "is_truth" K08.s_is_truth := by
   dsimp only [L2.KOf]
   refine' Zc3 KX G ?a ?l ?c ?k
   (case a => k_is); (case l => k_is); (case c => k_is); (case k => k_is)
  have t_is_open : Tf (L2.KOf KX) mg "is_open" K08.s_is_open := by
   dsimp only [L2.KOf]
   refine' Zc3 KX G ?a ?l ?c ?k
   (case a => k_is); (case l => k_is); (case c => k_is); (case k => k_is)
  have t_is_right : Tf (L2.KOf KX) mg "is_right" K08.s_is_right := by
   dsimp only [L2.KOf]
   refine' Zc3 KX G ?a ?l ?c ?k
   (case a => k_is); (case l => k_is); (case c => k_is); (case k => k_is)
  have t_is_kept : Tf (L2.KOf KX) mg "is_kept" K08.s_is_kept := by
   dsimp only [L2.KOf]
   refine' Zc3 KX G ?a ?l ?c ?k
   (case a => k_is); (case l => k_is); (case c => k_is); (case k => k_is)
  have t_renumbered : Tf (L2.KOf KX) mg "renumbered" K08.s_renumbered := by
   dsimp only [L2.KOf]
   refine' Zc3 KX G ?a ?l ?c ?k
   (case a => k_is); (case l => k_is); (case c => k_is); (case k => k_is)
  have t_row_left : Tf (L2.KOf KX) mg "row_left" K08.s_row_left := by
   dsimp only [L2.KOf]
   refine' Zc3 KX G ?a ?l ?c ?k
   (case a => k_is); (case l => k_is); (case c => k_is); (case k => k_is)
  have t_left : Tf (L2.KOf KX) mg "left" K08.s_left := by
   dsimp only [L2.KOf]
   refine' Zc3 KX G ?a ?l ?c ?k
   (case a => k_is); (case l => k_is); (case c => k_is); (case k => k_is)
  have t_first_numbers : Tf (L2.KOf KX) mg "first_numbers" K08.s_first_numbers := by
   dsimp only [L2.KOf]
   refine' Zc3 KX G ?a ?l ?c ?k
   (case a => k_is); (case l => k_is); (case c => k_is); (case k => k_is)
  have t_rows_behind : Tf (L2.KOf KX) mg "rows_behind" K08.s_rows_behind := by
   dsimp only [L2.KOf]
   refine' Zc3 KX G ?a ?l ?c ?k
   (case a => k_is); (case l => k_is); (case c => k_is); (case k => k_is)
  have t_rows_behind_play : Tf (L2.KOf KX) mg "rows_behind_play" K08.s_rows_behind_play := by
   dsimp only [L2.KOf]
   refine' Zc3 KX G ?a ?l ?c ?k
   (case a => k_is); (case l => k_is); (case c => k_is); (case k => k_is)
  have t_other_side : Tf (L2.KOf KX) mg "other_side" K08.s_other_side := by
   dsimp only [L2.KOf]
   refine' Zc3 KX G ?a ?l ?c ?k
   (case a => k_is); (case l => k_is); (case c => k_is); (case k => k_is)
  have t_winner_behind : Tf (L2.KOf KX) mg "winner_behind" K08.s_winner_behind := by
   dsimp only [L2.KOf]
   refine' Zc3 KX G ?a ?l ?c ?k
   (case a => k_is); (case l => k_is); (case c => k_is); (case k => k_is)
  have t_winner : Tf (L2.KOf KX) mg "winner" K08.s_winner := by
   dsimp only [L2.KOf]
   refine' Zc3 KX G ?a ?l ?c ?k
   (case a => k_is); (case l => k_is); (case c => k_is); (case k => k_is)
  have t_good_picks : Tf (L2.KOf KX) mg "good_picks" K08.s_good_picks := by
   dsimp only [L2.KOf]
   refine' Zc3 KX G ?a ?l ?c ?k
   (case a => k_is); (case l => k_is); (case c => k_is); (case k => k_is)
  have t_are_of_all : Tf (L2.KOf KX) mg "are_of_all" K08.s_are_of_all := by
   dsimp only [L2.KOf]
   refine' Zc3 KX G ?a ?l ?c ?k
   (case a => k_is); (case l => k_is); (case c => k_is); (case k => k_is)
  have t_number_of_lost : Tf (L2.KOf KX) mg "number_of_lost" K08.s_number_of_lost := by
   dsimp only [L2.KOf]
   refine' Zc3 KX G ?a ?l ?c ?k
   (case a => k_is); (case l => k_is); (case c => k_is); (case k => k_is)
  have t_plan_behind : Tf (L2.KOf KX) mg "plan_behind" K08.s_plan_behind := by
   dsimp only [L2.KOf]
   refine' Zc3 KX G ?a ?l ?c ?k
   (case a => k_is); (case l => k_is); (case c => k_is); (case k => k_is)
  have t_plan : Tf (L2.KOf KX) mg "plan" K08.s_plan := by
   dsimp only [L2.KOf]
   refine' Zc3 KX G ?a ?l ?c ?k
   (case a => k_is); (case l => k_is); (case c => k_is); (case k => k_is)
  have t_is_plan_end : Tf (L2.KOf KX) mg "is_plan_end" K08.s_is_plan_end := by
   dsimp only [L2.KOf]
   refine' Zc3 KX G ?a ?l ?c ?k
   (case a => k_is); (case l => k_is); (case c => k_is); (case k => k_is)
  have t_is_plan_behind : Tf (L2.KOf KX) mg "is_plan_behind" K08.s_is_plan_behind := by
   dsimp only [L2.KOf]
   refine' Zc3 KX G ?a ?l ?c ?k
   (case a => k_is); (case l => k_is); (case c => k_is); (case k => k_is)
  have t_is_plan : Tf (L2.KOf KX) mg "is_plan" K08.s_is_plan := by
   dsimp only [L2.KOf]
   refine' Zc3 KX G ?a ?l ?c ?k
   (case a => k_is); (case l => k_is); (case c => k_is); (case k => k_is)
  have t_law_feed : Tf (L2.KOf KX) mg "_law_feed" K08.s_law_feed := by
   dsimp only [L2.KOf]
   refine' Zc3 KX G ?a ?l ?c ?k
   (case a => k_is); (case l => k_is); (case c => k_is); (case k => k_is)
  have t_law_take : Tf (L2.KOf KX) mg "_law_take" K08.s_law_take := by
   dsimp only [L2.KOf]
   refine' Zc3 KX G ?a ?l ?c ?k
   (case a => k_is); (case l => k_is); (case c => k_is); (case k => k_is)
  have t_law_pick : Tf (L2.KOf KX) mg "_law_pick" K08.s_law_pick := by
   dsimp only [L2.KOf]
   refine' Zc3 KX G ?a ?l ?c ?k
   (case a => k_is); (case l => k_is); (case c => k_is); (case k => k_is)
  have t_law_row : Tf (L2.KOf KX) mg "_law_row" K08.s_law_row := by
   dsimp only [L2.KOf]
   refine' Zc3 KX G ?a ?l ?c ?k
   (case a => k_is); (case l => k_is); (case c => k_is); (case k => k_is)
  have t_law_claim : Tf (L2.KOf KX) mg "_law_claim" K08.s_law_claim := by
   dsimp only [L2.KOf]
   refine' Zc3 KX G ?a ?l ?c ?k
   (case a => k_is); (case l => k_is); (case c => k_is); (case k => k_is)
  have t_Match_init : Ti (L2.KOf KX) mg "Match" "Match.__init__" K08.s_Match_init := by
   dsimp only [L2.KOf]
   refine' ti_mk KX G ?za ?zb ?zc ?zd ?ze ?zi ?zj ?zl
   (case za => k_is); (case zb => k_is); (case zc => k_is); (case zd => k_is); (case ze => k_is); (case zi => k_is); (case zj => k_is); (case zl => k_is)
  have t_Match_pick : Tm (L2.KOf KX) "Match" "pick" "Match.pick" K08.s_Match_pick := by
   dsimp only [L2.KOf]
   refine' Zm7 ?za ?zb ?zc ?zd ?ze ?zg ?zh ?zi ?zj ?zl
   (case za => k_is); (case zb => k_is); (case zc => k_is); (case zd => k_is); (case ze => k_is); (case zg => k_is); (case zh => k_is); (case zi => k_is); (case zj => k_is); (case zl => k_is)
  have t_Match_back : Tm (L2.KOf KX) "Match" "back" "Match.back" K08.s_Match_back := by
   dsimp only [L2.KOf]
   refine' Zm7 ?za ?zb ?zc ?zd ?ze ?zg ?zh ?zi ?zj ?zl
   (case za => k_is); (case zb => k_is); (case zc => k_is); (case zd => k_is); (case ze => k_is); (case zg => k_is); (case zh => k_is); (case zi => k_is); (case zj => k_is); (case zl => k_is)
  have t_Match_play : Tm (L2.KOf KX) "Match" "play" "Match.play" K08.s_Match_play := by
   dsimp only [L2.KOf]
   refine' Zm7 ?za ?zb ?zc ?zd ?ze ?zg ?zh ?zi ?zj ?zl
   (case za => k_is); (case zb => k_is); (case zc => k_is); (case zd => k_is); (case ze => k_is); (case zg => k_is); (case zh => k_is); (case zi => k_is); (case zj => k_is); (case zl => k_is)
  have t_Match_turn : Tm (L2.KOf KX) "Match" "turn" "Match.turn" K08.s_Match_turn := by
   dsimp only [L2.KOf]
   refine' Zm7 ?za ?zb ?zc ?zd ?ze ?zg ?zh ?zi ?zj ?zl
   (case za => k_is); (case zb => k_is); (case zc => k_is); (case zd => k_is); (case ze => k_is); (case zg => k_is); (case zh => k_is); (case zi => k_is); (case zj => k_is); (case zl => k_is)
  have t_Match_who : Tm (L2.KOf KX) "Match" "who" "Match.who" K08.s_Match_who := by
   dsimp only [L2.KOf]
   refine' Zm7 ?za ?zb ?zc ?zd ?ze ?zg ?zh ?zi ?zj ?zl
   (case za => k_is); (case zb => k_is); (case zc => k_is); (case zd => k_is); (case ze => k_is); (case zg => k_is); (case zh => k_is); (case zi => k_is); (case zj => k_is); (case zl => k_is)
  have t_Match_good : Tm (L2.KOf KX) "Match" "good" "Match.good" K08.s_Match_good := by
   dsimp only [L2.KOf]
   refine' Zm7 ?za ?zb ?zc ?zd ?ze ?zg ?zh ?zi ?zj ?zl
   (case za => k_is); (case zb => k_is); (case zc => k_is); (case zd => k_is); (case ze => k_is); (case zg => k_is); (case zh => k_is); (case zi => k_is); (case zj => k_is); (case zl => k_is)
  have t_Match_left : Tm (L2.KOf KX) "Match" "left" "Match.left" K08.s_Match_left := by
   dsimp only [L2.KOf]
   refine' Zm7 ?za ?zb ?zc ?zd ?ze ?zg ?zh ?zi ?zj ?zl
   (case za => k_is); (case zb => k_is); (case zc => k_is); (case zd => k_is); (case ze => k_is); (case zg => k_is); (case zh => k_is); (case zi => k_is); (case zj => k_is); (case zl => k_is)
  have t_law_tells : Tf (L2.KOf KX) mg "_law_tells" K08.s_law_tells := by
   dsimp only [L2.KOf]
   refine' Zc3 KX G ?a ?l ?c ?k
   (case a => k_is); (case l => k_is); (case c => k_is); (case k => k_is)
  have t_law_all_of : Tf (L2.KOf KX) mg "_law_all_of" K08.s_law_all_of := by
   dsimp only [L2.KOf]
   refine' Zc3 KX G ?a ?l ?c ?k
   (case a => k_is); (case l => k_is); (case c => k_is); (case k => k_is)
  have t_law_played_out : Tf (L2.KOf KX) mg "_law_played_out" K08.s_law_played_out := by
   dsimp only [L2.KOf]
   refine' Zc3 KX G ?a ?l ?c ?k
   (case a => k_is); (case l => k_is); (case c => k_is); (case k => k_is)
  have t_law_rest_right : Tf (L2.KOf KX) mg "_law_rest_right" K08.s_law_rest_right := by
   dsimp only [L2.KOf]
   refine' Zc3 KX G ?a ?l ?c ?k
   (case a => k_is); (case l => k_is); (case c => k_is); (case k => k_is)
  have t_law : Tf (L2.KOf KX) mg "law" K08.s_law := by
   dsimp only [L2.KOf]
   refine' Zc3 KX G ?a ?l ?c ?k
   (case a => k_is); (case l => k_is); (case c => k_is); (case k => k_is)
  have l_Match : Kl (L2.KOf KX) "Match" ["begun", "picked"] := by
   dsimp only [L2.KOf]
   refine' Zu8 (Zu8 (kl_mk ?za ?zb ?zc ?zd ?ze) ?zn0 ?zf0) ?zn1 ?zf1
   (case za => k_is); (case zb => k_is); (case zc => k_is); (case zd => k_is); (case ze => k_is); (case zn0 => k_is); (case zf0 => k_is); (case zn1 => k_is); (case zf1 => k_is)
  have a_left_claims : mg "left_claims" = mg "left" := by
   refine' al_mk KX G ?za ?zb
   (case za => k_is); (case zb => k_is)
  have n_abs : mg "abs" = none := by
   refine' PySem.W.mg_none_of KX G ?z
   (case z => k_is)
  have n_all : mg "all" = none := by
   refine' PySem.W.mg_none_of KX G ?z
   (case z => k_is)
  have n_bool : mg "bool" = none := by
   refine' PySem.W.mg_none_of KX G ?z
   (case z => k_is)
  have n_enumerate : mg "enumerate" = none := by
   refine' PySem.W.mg_none_of KX G ?z
   (case z => k_is)
  have n_int : mg "int" = none := by
   refine' PySem.W.mg_none_of KX G ?z
   (case z => k_is)
  have n_isinstance : mg "isinstance" = none := by
   refine' PySem.W.mg_none_of KX G ?z
   (case z => k_is)
  have n_len : mg "len" = none := by
   refine' PySem.W.mg_none_of KX G ?z
   (case z => k_is)
  have n_list : mg "list" = none := by
   refine' PySem.W.mg_none_of KX G ?z
   (case z => k_is)
  have n_min : mg "min" = none := by
   refine' PySem.W.mg_none_of KX G ?z
   (case z => k_is)
  have n_range : mg "range" = none := by
   refine' PySem.W.mg_none_of KX G ?z
   (case z => k_is)
  have n_reversed : mg "reversed" = none := by
   refine' PySem.W.mg_none_of KX G ?z
   (case z => k_is)
  have n_sorted : mg "sorted" = none := by
   refine' PySem.W.mg_none_of KX G ?z
   (case z => k_is)
  have n_tuple : mg "tuple" = none := by
   refine' PySem.W.mg_none_of KX G ?z
   (case z => k_is)
  have c_TRUTHS : Gc (L2.KOf KX) mg "TRUTHS" K08.k_TRUTHS := by
   dsimp only [L2.KOf]
   refine' Zp6 KX G ?a ?l
   (case a => k_is); (case l => k_is)
  exact ⟨t_is_whole, t_is_truth, t_is_open, t_is_right, t_is_kept, t_renumbered, t_row_left, t_left, t_first_numbers, t_rows_behind, t_rows_behind_play, t_other_side, t_winner_behind, t_winner, t_good_picks, t_are_of_all, t_number_of_lost, t_plan_behind, t_plan, t_is_plan_end, t_is_plan_behind, t_is_plan, t_law_feed, t_law_take, t_law_pick, t_law_row, t_law_claim, t_Match_init, t_Match_pick, t_Match_back, t_Match_play, t_Match_turn, t_Match_who, t_Match_good, t_Match_left, t_law_tells, t_law_all_of, t_law_played_out, t_law_rest_right, t_law, l_Match, a_left_claims, n_abs, n_all, n_bool, n_enumerate, n_int, n_isinstance, n_len, n_list, n_min, n_range, n_reversed, n_sorted, n_tuple, c_TRUTHS⟩
